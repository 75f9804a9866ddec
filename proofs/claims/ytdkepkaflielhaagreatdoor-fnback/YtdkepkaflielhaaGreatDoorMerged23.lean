import Derived.Test.YtdkepkaflielhaaGreatDoorMerged20
import Derived.Test.YtdkepkaflielhaaGreatDoorMerged19
set_option linter.unusedVariables false
set_option linter.unusedSimpArgs false
set_option maxRecDepth 100000
set_option maxHeartbeats 8000000
namespace Go.Proofs.YtdkepkaflielhaaGreatDoor
open Go.RowKit Go.PlainAid
theorem tL(pa:OA)(pc:Nat)(p:Pl)(ba bo:OA)(ca cb:Nat)(x:Bb)(q:P4)(now:Int)(w:World)(hlp:p.VL.length≤1048576)(hpc:p.VL.length≤pc)(hsz:∀s∈p.VL,s.size≤1048576)(hl1:x.VN.length≤1048576)(hl2:x.VK.length≤1048576)(hgb:∀q∈x.VN,fG q)(hgs:∀s∈x.VK,iI s)(q1:q.src.size≤1048576)(q2:q.dst.size≤1048576)(q3:q.opts.size≤1048576)(q4:q.data.size≤1048576)(hp:bP cB 1 w pa p.VL)(hx:dC w ba bo x) :
  Cb 52 #[iK pa pc p,gP ba bo ca cb x,kL q,iV now] w (iV (cT p x q now)):=by
 have HBR:Hid (∀W,Below w.heap.size w W→Cb 85 #[iK pa pc p,gP ba bo ca cb x] W (.bool (fA p x))):=fun W hW=>DF pa pc p ba bo ca cb x W hlp hpc hsz hl1 hl2 hgb hgs (hp.below hW) (hx.below hW)
 have HV4:Hid (∀W,Cb 86 #[kL q] W (.bool (jB q))):=fun W=>vI q W q1 q2 q3 q4
 have HTM:Hid (∀W,Cw 87 #[iV now] W (.bool (bT now))):=fun W=>sJ now W
 have HV:Hid (cT p x q now=if (fA p x&&jB q&&bT now)=false then 1 else if (q.more||decide (q.off≠0))=true then 10 else 0):=rfl;generalize cT p x q now=ans at *;generalize fA p x=b1 at *;generalize jB q=b2 at *;generalize bT now=b3 at *;obtain⟨tos,id,whole,more,off,ttl,VF,src,dst,opts,data⟩:=q;clear hp hx hsz hgb hgs;unfold iK gP kL at *;dsimp only at *;have hun:undef=Value.tuple #[]:=rfl;have HS0:=RL w (bG pa pc p) 27 (aX ba ca bo cb x) 31 (eP tos id whole more off ttl VF src dst opts data) 33 (by simp) (by simp) (by simp)
 skip;go_enter Tryz.func52,Tryz.ntmps52
 go_upto_region 1 with fail
 generalize World.alloc _ _=W0 at *;have HHk:=HS0.out.at cM;obtain⟨k0,k1,k2,k3,k4,k5,k6,k7,k8,k9⟩:=HHk.c10;clear HHk;have HHl:=HS0.out.at dZ;obtain⟨l0,l1⟩:=HHl.c2;clear HHl;go_wp2_with fail
 refine(HBR.out _ HS0.out.b).mono ?_;rintro e W1 ⟨rfl,r1⟩;have S1:Hid _:=HS0.out.kept r1;clear r1 HS0 k0 k1 k2 k3 k4 k5 k6 k7 k8 k9 l0 l1
 cases b1 with
 | false=>
  have HFB:Hid _:=S1.out.b;go_wp2_with fail
  go_ret;exact⟨aK (by rw[HV.out];rfl),HFB.out⟩
 | true=>
 have HHk:=S1.out.at eL;obtain⟨k0,k1,k2,k3,k4,k5,k6,k7,k8,k9,k10⟩:=HHk.c11;clear HHk;go_wp2_with fail
 refine(HV4.out _).mono ?_;rintro e W2 ⟨rfl,r2⟩;have S2:Hid _:=S1.out.kept r2;clear r2 S1 k0 k1 k2 k3 k4 k5 k6 k7 k8 k9 k10
 cases b2 with
 | false=>
  have HFB:Hid _:=S2.out.b;go_wp2_with fail
  go_ret;exact⟨aK (by rw[HV.out];rfl),HFB.out⟩
 | true=>
 go_wp2_with fail
 refine(HTM.out _).mono ?_;rintro e W2 ⟨rfl,rfl⟩
 cases b3 with
 | false=>
  have HFB:Hid _:=S2.out.b;go_wp2_with fail
  go_ret;exact⟨aK (by rw[HV.out];rfl),HFB.out⟩
 | true=>
 have HHk:=S2.out.at eL;obtain⟨k0,k1,k2,k3,k4,k5,k6,k7,k8,k9,k10⟩:=HHk.c11;clear HHk
 cases more with
 | true=>
  have HFB:Hid _:=S2.out.b;go_wp2_with fail
  go_ret;exact⟨aK (by rw[HV.out];rfl),HFB.out⟩
 | false=>
 by_cases ho:off=0
 case pos=>
  have d0:(off != 0)=false:=by simp[ho]
  have HFB:Hid _:=S2.out.b;go_wp2_with fail
  go_ret;exact⟨aK (by rw[HV.out];simp[ho]),HFB.out⟩
 have d0:(off != 0)=true:=by simp[ho]
 have HFB:Hid _:=S2.out.b;go_wp2_with fail
 go_ret;exact⟨aK (by rw[HV.out];simp[ho]),HFB.out⟩
theorem uD(p:Int)(t:BA)(w:World)(ht:t.size≤20000)(h20:p=6→20≤t.size) :
  Cb 59 #[iV p,.string t] w (iV (fU p t)):=by
 by_cases h:p=6
 ·have h2:=h20 h;subst h;have HT:Hid (∀W,Cb 103 #[.string t] W (iV (fU 6 t))):=fun W=>(tK t W (by omega)).mono fun e w' h=>⟨by rw[h.1];unfold kJ fU;rw[if_neg (by omega),if_pos rfl],h.2⟩
  generalize fU 6 t=ans at *;go_enter Tryz.func59,Tryz.ntmps59
  go_wp2_with fail
  refine(HT.out _).mono ?_;rintro e w2 ⟨rfl,r2⟩;have R2:Hid _:=r2;clear r2;go_wp2_with fail
  go_ret;exact⟨rfl,R2.out⟩
 ·have HV:Hid (fU p t=0):=if_neg h;have d0:(p != 6)=true:=by simp[h]
  generalize fU p t=ans at *;go_enter Tryz.func59,Tryz.ntmps59
  go_wp2_with fail
  go_ret;exact⟨aK (by rw[HV.out]),Below.refl _ _⟩
theorem wI(p n:Int)(w:World) :
  Cb 204 #[iV p,iV n] w (iV (fF p n)):=by
 have HE:Hid (∀W,Cw 100 #[iV p] W (.bool (aL p))):=fun W=>fS p W
 have HV:Hid (fF p n=if aL p=true then 0 else n):=rfl;generalize fF p n=ans at *;generalize aL p=b at *;go_enter Tryz.func204,Tryz.ntmps204
 go_wp2_with fail
 refine(HE.out _).mono ?_;rintro e w2 ⟨rfl,rfl⟩
 cases b with
 | false=>
  go_wp2_with fail
  go_ret;exact⟨aK (by rw[HV.out];rfl),Below.refl _ _⟩
 | true=>
  go_wp2_with fail
  go_ret;exact⟨aK (by rw[HV.out];rfl),Below.refl _ _⟩
theorem AX(f:Fl)(w:World) :
  Cb 202 #[.agg #[],gF f] w (pJ ⟨f.VF,true,f.src,f.sp,f.dst,fF f.VF f.dp,0⟩):=by
 have HP:Hid (∀W,Cb 204 #[iV f.VF,iV f.dp] W (iV (fF f.VF f.dp))):=fun W=>wI _ _ W
 generalize fF f.VF f.dp=pv at *;obtain⟨VF,src,dst,sp,dp⟩:=f;unfold gF pJ;dsimp only at *;have HS0:Hid (dD w [(w.heap.size+1+1,(eH 0 false ⟨#[]⟩ 0 ⟨#[]⟩ 0 0)),(w.heap.size+1,(cR VF src dst sp dp))] ((aW (aW w [] 65) (cR VF src dst sp dp) 43).alloc (.cells (eH 0 false ⟨#[]⟩ 0 ⟨#[]⟩ 0 0).toArray 89))):=by
  have h:=((⟨fun e he=>(by cases he),bR.alloc lR _,fun e he=>(by cases he)⟩: dD w [] (w.alloc (.cells #[] 65))).push (cR VF src dst sp dp) (by simp) 43).push (eH 0 false ⟨#[]⟩ 0 ⟨#[]⟩ 0 0) (by simp) 89;simp only[UC]at h;exact h
 have hRw:w.heap.size≤w.heap.size+1+1:=by omega
 go_enter Tryz.func202,Tryz.ntmps202
 go_upto_region 1 with fail
 generalize World.alloc _ _=W0 at *;have HCP:Hid (∀wy,Below W0.drew.heap.size W0.drew wy→_):=fun wy hy=>HS0.out.kept (bR.drew.trans hy)
 clear HS0;refine aN [5,6,7,8,9,10,11,12,13,14,15,16,17,18] (by kernel_rfl) (by kernel_rfl) ?_;iterate 14 (apply bC.u rfl;(·intro K' a wy ho hd hb hK;simp[aU,aG,aD,Region.binds]at ho hd;have hst:=HCP.out wy hb;have kC:=(hst.at dZ).c5;clear hst;go_simp;first|((try go_bits);exact hK _ _ rfl bQ)|(refine(HP.out wy).mono ?_;rintro e wz ⟨rfl,hz⟩;exact hK _ _ rfl hz));dsimp only[nA,cA])
 intro X wz hR hz;simp only[UM,UN,eY,aG]at hR;simp only[aE,hR];clear hR;have V7:Hid (dD w [(w.heap.size+1+1,(eH 0 false ⟨#[]⟩ 0 ⟨#[]⟩ 0 0)),(w.heap.size+1,(cR VF src dst sp dp))] wz):=HCP.out wz hz;clear hz HCP HP;have HHz:=V7.out.at cM;obtain⟨z0,z1,z2,z3,z4,z5,z6⟩:=HHz.c7;obtain⟨zf0,zf1,zf2,zf3,zf4,zf5,zf6⟩:=HHz.f7;obtain⟨HRR,RB⟩:=TO HHz V7.out.b hRw (iV VF) (.bool true) (.string src) (iV sp) (.string dst) (iV pv) (iV 0);clear HHz;clear V7;intro K10 hK10;go_simp;refine hK10 _ _ ?_;simp only[fN];go_wp2_with fail
 exact VB (aF Tryz.results202 _ _ _ _ _ rfl HRR.out Tryz.underlying89 rfl (show (Tryz.prog.info? 89).map (·.size)=some 7 by kernel_rfl)) rfl (And.intro rfl RB.out)
theorem AW(f:Fl)(ra:OA)(la ca:Nat)(w:World) :
  Cb 205 #[.agg #[.slice ra la ca],gF f] w (pJ ⟨f.VF,false,f.dst,f.dp,f.src,fF f.VF f.sp,0⟩):=by
 have HP:Hid (∀W,Cb 204 #[iV f.VF,iV f.sp] W (iV (fF f.VF f.sp))):=fun W=>wI _ _ W
 generalize fF f.VF f.sp=pv at *;obtain⟨VF,src,dst,sp,dp⟩:=f;unfold gF pJ;dsimp only at *;have HS0:Hid (dD w [(w.heap.size+1+1,(eH 0 false ⟨#[]⟩ 0 ⟨#[]⟩ 0 0)),(w.heap.size+1,(cR VF src dst sp dp))] ((aW (aW w [.slice ra la ca] 82) (cR VF src dst sp dp) 43).alloc (.cells (eH 0 false ⟨#[]⟩ 0 ⟨#[]⟩ 0 0).toArray 89))):=by
  have h:=((⟨fun e he=>(by cases he),bR.alloc lR _,fun e he=>(by cases he)⟩: dD w [] (w.alloc (.cells #[.slice ra la ca] 82))).push (cR VF src dst sp dp) (by simp) 43).push (eH 0 false ⟨#[]⟩ 0 ⟨#[]⟩ 0 0) (by simp) 89;simp only[UC]at h;exact h
 have hRw:w.heap.size≤w.heap.size+1+1:=by omega
 go_enter Tryz.func205,Tryz.ntmps205
 go_upto_region 1 with fail
 generalize World.alloc _ _=W0 at *;have HCP:Hid (∀wy,Below W0.drew.heap.size W0.drew wy→_):=fun wy hy=>HS0.out.kept (bR.drew.trans hy)
 clear HS0;refine aN [5,6,7,8,9,10,11,12,13,14,15,16,17,18] (by kernel_rfl) (by kernel_rfl) ?_;iterate 14 (apply bC.u rfl;(·intro K' a wy ho hd hb hK;simp[aU,aG,aD,Region.binds]at ho hd;have hst:=HCP.out wy hb;have kC:=(hst.at dZ).c5;clear hst;go_simp;first|((try go_bits);exact hK _ _ rfl bQ)|(refine(HP.out wy).mono ?_;rintro e wz ⟨rfl,hz⟩;exact hK _ _ rfl hz));dsimp only[nA,cA])
 intro X wz hR hz;simp only[UM,UN,eY,aG]at hR;simp only[aE,hR];clear hR;have V7:Hid (dD w [(w.heap.size+1+1,(eH 0 false ⟨#[]⟩ 0 ⟨#[]⟩ 0 0)),(w.heap.size+1,(cR VF src dst sp dp))] wz):=HCP.out wz hz;clear hz HCP HP;have HHz:=V7.out.at cM;obtain⟨z0,z1,z2,z3,z4,z5,z6⟩:=HHz.c7;obtain⟨zf0,zf1,zf2,zf3,zf4,zf5,zf6⟩:=HHz.f7;obtain⟨HRR,RB⟩:=TO HHz V7.out.b hRw (iV VF) (.bool false) (.string dst) (iV dp) (.string src) (iV pv) (iV 0);clear HHz;clear V7;intro K10 hK10;go_simp;refine hK10 _ _ ?_;simp only[fN];go_wp2_with fail
 exact VB (aF Tryz.results205 _ _ _ _ _ rfl HRR.out Tryz.underlying89 rfl (show (Tryz.prog.info? 89).map (·.size)=some 7 by kernel_rfl)) rfl (And.intro rfl RB.out)
theorem DK(f:Fl)(c:Bd)(w:World) :
  Cb 203 #[.agg #[],gF f,gW c] w (gF ⟨f.VF,c.out,f.dst,c.VI,if aL f.VF=true then c.VI else f.dp⟩):=by
 have HE:Hid (∀W,Cw 100 #[iV f.VF] W (.bool (aL f.VF))):=fun W=>fS _ W
 generalize aL f.VF=b at *;obtain⟨VF,src,dst,sp,dp⟩:=f;obtain⟨cp,ci,cn,co,cm⟩:=c;unfold gF gW;dsimp only at *;have HS0:Hid (dD w [(w.heap.size+1+1+1,(cR 0 ⟨#[]⟩ ⟨#[]⟩ 0 0)),(w.heap.size+1+1,(gB cp ci cn co cm)),(w.heap.size+1,(cR VF src dst sp dp))] ((aW (aW (aW w [] 65) (cR VF src dst sp dp) 43) (gB cp ci cn co cm) 48).alloc (.cells (cR 0 ⟨#[]⟩ ⟨#[]⟩ 0 0).toArray 43))):=by
  have h:=(((⟨fun e he=>(by cases he),bR.alloc lR _,fun e he=>(by cases he)⟩: dD w [] (w.alloc (.cells #[] 65))).push (cR VF src dst sp dp) (by simp) 43).push (gB cp ci cn co cm) (by simp) 48).push (cR 0 ⟨#[]⟩ ⟨#[]⟩ 0 0) (by simp) 43;simp only[UC]at h;exact h
 have hRw:w.heap.size≤w.heap.size+1+1+1:=by omega
 have hFw:w.heap.size≤w.heap.size+1:=by omega
 go_enter Tryz.func203,Tryz.ntmps203
 go_upto_region 1 with fail
 generalize World.alloc _ _=W0 at *;have HSET:Hid (∀wx,dD w [(w.heap.size+1+1+1,(cR 0 ⟨#[]⟩ ⟨#[]⟩ 0 0)),(w.heap.size+1+1,(gB cp ci cn co cm)),(w.heap.size+1,(cR VF src dst sp dp))] wx→dD w [(w.heap.size+1+1+1,(cR 0 ⟨#[]⟩ ⟨#[]⟩ 0 0)),(w.heap.size+1+1,(gB cp ci cn co cm)),(w.heap.size+1,(cR VF co dst cm dp))] ((sW wx (w.heap.size+1) 1 (.string co)).setCell ⟨w.heap.size+1,3,none⟩ (iV cm))):=fun wx h=>⟨fun e he=>by
  simp only[UH,UG,or_false]at he;rcases he with rfl|rfl|rfl
  ·exact(aA.setOther (aA.setOther (h.k _ cM) (by show w.heap.size+1+1+1≠w.heap.size+1;omega) _) (by show w.heap.size+1+1+1≠w.heap.size+1;omega) _)
  ·exact(aA.setOther (aA.setOther (h.k _ dZ) (by show w.heap.size+1+1≠w.heap.size+1;omega) _) (by show w.heap.size+1+1≠w.heap.size+1;omega) _)
  ·exact(aA.set (aA.set (h.k _ eL) 1 (.string co)) 3 (iV cm)),(sCl (sCl h.b hFw) hFw),fun e he=>by
  simp only[UH,UG,or_false]at he;rcases he with rfl|rfl|rfl<;>simp⟩
 go_cut [12] (fun v wx=>dD w [(w.heap.size+1+1+1,(cR 0 ⟨#[]⟩ ⟨#[]⟩ 0 0)),(w.heap.size+1+1,(gB cp ci cn co cm)),(w.heap.size+1,(cR VF co dst cm dp))] wx)
 case first=>
  rename_i J K2 hJ hK2;have HHk:=HS0.out.at eL;obtain⟨k0,k1,k2,k3,k4⟩:=HHk.c5;obtain⟨kf0,kf1,kf2,kf3,kf4⟩:=HHk.f5;have HHl:=HS0.out.at dZ;obtain⟨l0,l1,l2,l3,l4⟩:=HHl.c5;clear HHl;have HD:Hid _:=(HSET.out W0 HS0.out).kept bR.drew;clear HHk HS0 HSET;go_region
  all_goals refine hK2 _ _ (hJ _ _ ?_)
  all_goals (repeat apply Exists.intro)
  all_goals exact⟨HD.out,rfl⟩
 case rest=>
 have S1:Hid (dD w [(w.heap.size+1+1+1,(cR 0 ⟨#[]⟩ ⟨#[]⟩ 0 0)),(w.heap.size+1+1,(gB cp ci cn co cm)),(w.heap.size+1,(cR VF co dst cm dp))] wc):=hcut;clear hcut HS0 HSET;generalize wc=W1 at *;have HHk:=S1.out.at eL;obtain⟨k0,k1,k2,k3,k4⟩:=HHk.c5;clear HHk;go_wp2_with fail
 refine(HE.out _).mono ?_;rintro e W1 ⟨rfl,rfl⟩
 cases b with
 | false=>
  have HHz:=S1.out.at cM;obtain⟨z0,z1,z2,z3,z4⟩:=HHz.c5;obtain⟨zf0,zf1,zf2,zf3,zf4⟩:=HHz.f5;obtain⟨HRR,RB⟩:=OB HHz S1.out.b hRw (iV VF) (.string co) (.string dst) (iV cm) (iV dp);clear HHz;go_wp2_with fail
  exact VB (aF Tryz.results203 _ _ _ _ _ rfl HRR.out Tryz.underlying43 rfl (show (Tryz.prog.info? 43).map (·.size)=some 5 by kernel_rfl)) rfl (And.intro rfl RB.out)
 | true=>
  have S2:Hid (dD w [(w.heap.size+1+1+1,(cR 0 ⟨#[]⟩ ⟨#[]⟩ 0 0)),(w.heap.size+1+1,(gB cp ci cn co cm)),(w.heap.size+1,(cR VF co dst cm cm))] (W1.setCell ⟨w.heap.size+1,4,none⟩ (iV cm))):=⟨fun e he=>by
   simp only[UH,UG,or_false]at he;rcases he with rfl|rfl|rfl
   ·exact(aA.setOther (S1.out.k _ cM) (by show w.heap.size+1+1+1≠w.heap.size+1;omega) _)
   ·exact(aA.setOther (S1.out.k _ dZ) (by show w.heap.size+1+1≠w.heap.size+1;omega) _)
   ·exact(aA.set (S1.out.k _ eL) 4 (iV cm)),(sCl S1.out.b hFw),fun e he=>by
   simp only[UH,UG,or_false]at he;rcases he with rfl|rfl|rfl<;>simp⟩
  have kf:=(S1.out.k _ eL).free (j:=4) (by simp);have HHl:=S1.out.at dZ;obtain⟨l0,l1,l2,l3,l4⟩:=HHl.c5;clear HHl;go_upto_region 4 with fail
  generalize (W1.setCell ⟨w.heap.size+1,4,none⟩ (iV cm))=W2 at *;clear S1 kf k0 k1 k2 k3 k4 l0 l1 l2 l3 l4;have HHk:=S2.out.at eL;obtain⟨k0,k1,k2,k3,k4⟩:=HHk.c5;clear HHk;have HHz:=S2.out.at cM;obtain⟨z0,z1,z2,z3,z4⟩:=HHz.c5;obtain⟨zf0,zf1,zf2,zf3,zf4⟩:=HHz.f5;obtain⟨HRR,RB⟩:=OB HHz S2.out.b hRw (iV VF) (.string co) (.string dst) (iV cm) (iV cm);clear HHz;go_wp2_with fail
  exact VB (aF Tryz.results203 _ _ _ _ _ rfl HRR.out Tryz.underlying43 rfl (show (Tryz.prog.info? 43).map (·.size)=some 5 by kernel_rfl)) rfl (And.intro rfl RB.out)
theorem DJ(f:Fl)(c:Bd)(ra:OA)(la ca:Nat)(w:World) :
  Cb 206 #[.agg #[.slice ra la ca],gF f,gW c] w (gF ⟨f.VF,f.src,c.inn,if aL f.VF=true then c.VH else f.sp,c.VH⟩):=by
 have HE:Hid (∀W,Cw 100 #[iV f.VF] W (.bool (aL f.VF))):=fun W=>fS _ W
 generalize aL f.VF=b at *;obtain⟨VF,src,dst,sp,dp⟩:=f;obtain⟨cp,ci,cn,co,cm⟩:=c;unfold gF gW;dsimp only at *;have HS0:Hid (dD w [(w.heap.size+1+1+1,(cR 0 ⟨#[]⟩ ⟨#[]⟩ 0 0)),(w.heap.size+1+1,(gB cp ci cn co cm)),(w.heap.size+1,(cR VF src dst sp dp))] ((aW (aW (aW w [.slice ra la ca] 82) (cR VF src dst sp dp) 43) (gB cp ci cn co cm) 48).alloc (.cells (cR 0 ⟨#[]⟩ ⟨#[]⟩ 0 0).toArray 43))):=by
  have h:=(((⟨fun e he=>(by cases he),bR.alloc lR _,fun e he=>(by cases he)⟩: dD w [] (w.alloc (.cells #[.slice ra la ca] 82))).push (cR VF src dst sp dp) (by simp) 43).push (gB cp ci cn co cm) (by simp) 48).push (cR 0 ⟨#[]⟩ ⟨#[]⟩ 0 0) (by simp) 43;simp only[UC]at h;exact h
 have hRw:w.heap.size≤w.heap.size+1+1+1:=by omega
 have hFw:w.heap.size≤w.heap.size+1:=by omega
 go_enter Tryz.func206,Tryz.ntmps206
 go_upto_region 1 with fail
 generalize World.alloc _ _=W0 at *;have HSET:Hid (∀wx,dD w [(w.heap.size+1+1+1,(cR 0 ⟨#[]⟩ ⟨#[]⟩ 0 0)),(w.heap.size+1+1,(gB cp ci cn co cm)),(w.heap.size+1,(cR VF src dst sp dp))] wx→dD w [(w.heap.size+1+1+1,(cR 0 ⟨#[]⟩ ⟨#[]⟩ 0 0)),(w.heap.size+1+1,(gB cp ci cn co cm)),(w.heap.size+1,(cR VF src ci sp cn))] ((sW wx (w.heap.size+1) 2 (.string ci)).setCell ⟨w.heap.size+1,4,none⟩ (iV cn))):=fun wx h=>⟨fun e he=>by
  simp only[UH,UG,or_false]at he;rcases he with rfl|rfl|rfl
  ·exact(aA.setOther (aA.setOther (h.k _ cM) (by show w.heap.size+1+1+1≠w.heap.size+1;omega) _) (by show w.heap.size+1+1+1≠w.heap.size+1;omega) _)
  ·exact(aA.setOther (aA.setOther (h.k _ dZ) (by show w.heap.size+1+1≠w.heap.size+1;omega) _) (by show w.heap.size+1+1≠w.heap.size+1;omega) _)
  ·exact(aA.set (aA.set (h.k _ eL) 2 (.string ci)) 4 (iV cn)),(sCl (sCl h.b hFw) hFw),fun e he=>by
  simp only[UH,UG,or_false]at he;rcases he with rfl|rfl|rfl<;>simp⟩
 go_cut [12] (fun v wx=>dD w [(w.heap.size+1+1+1,(cR 0 ⟨#[]⟩ ⟨#[]⟩ 0 0)),(w.heap.size+1+1,(gB cp ci cn co cm)),(w.heap.size+1,(cR VF src ci sp cn))] wx)
 case first=>
  rename_i J K2 hJ hK2;have HHk:=HS0.out.at eL;obtain⟨k0,k1,k2,k3,k4⟩:=HHk.c5;obtain⟨kf0,kf1,kf2,kf3,kf4⟩:=HHk.f5;have HHl:=HS0.out.at dZ;obtain⟨l0,l1,l2,l3,l4⟩:=HHl.c5;clear HHl;have HD:Hid _:=(HSET.out W0 HS0.out).kept bR.drew;clear HHk HS0 HSET;go_region
  all_goals refine hK2 _ _ (hJ _ _ ?_)
  all_goals (repeat apply Exists.intro)
  all_goals exact⟨HD.out,rfl⟩
 case rest=>
 have S1:Hid (dD w [(w.heap.size+1+1+1,(cR 0 ⟨#[]⟩ ⟨#[]⟩ 0 0)),(w.heap.size+1+1,(gB cp ci cn co cm)),(w.heap.size+1,(cR VF src ci sp cn))] wc):=hcut;clear hcut HS0 HSET;generalize wc=W1 at *;have HHk:=S1.out.at eL;obtain⟨k0,k1,k2,k3,k4⟩:=HHk.c5;clear HHk;go_wp2_with fail
 refine(HE.out _).mono ?_;rintro e W1 ⟨rfl,rfl⟩
 cases b with
 | false=>
  have HHz:=S1.out.at cM;obtain⟨z0,z1,z2,z3,z4⟩:=HHz.c5;obtain⟨zf0,zf1,zf2,zf3,zf4⟩:=HHz.f5;obtain⟨HRR,RB⟩:=OB HHz S1.out.b hRw (iV VF) (.string src) (.string ci) (iV sp) (iV cn);clear HHz;go_wp2_with fail
  exact VB (aF Tryz.results206 _ _ _ _ _ rfl HRR.out Tryz.underlying43 rfl (show (Tryz.prog.info? 43).map (·.size)=some 5 by kernel_rfl)) rfl (And.intro rfl RB.out)
 | true=>
  have S2:Hid (dD w [(w.heap.size+1+1+1,(cR 0 ⟨#[]⟩ ⟨#[]⟩ 0 0)),(w.heap.size+1+1,(gB cp ci cn co cm)),(w.heap.size+1,(cR VF src ci cn cn))] (W1.setCell ⟨w.heap.size+1,3,none⟩ (iV cn))):=⟨fun e he=>by
   simp only[UH,UG,or_false]at he;rcases he with rfl|rfl|rfl
   ·exact(aA.setOther (S1.out.k _ cM) (by show w.heap.size+1+1+1≠w.heap.size+1;omega) _)
   ·exact(aA.setOther (S1.out.k _ dZ) (by show w.heap.size+1+1≠w.heap.size+1;omega) _)
   ·exact(aA.set (S1.out.k _ eL) 3 (iV cn)),(sCl S1.out.b hFw),fun e he=>by
   simp only[UH,UG,or_false]at he;rcases he with rfl|rfl|rfl<;>simp⟩
  have kf:=(S1.out.k _ eL).free (j:=3) (by simp);have HHl:=S1.out.at dZ;obtain⟨l0,l1,l2,l3,l4⟩:=HHl.c5;clear HHl;go_upto_region 4 with fail
  generalize (W1.setCell ⟨w.heap.size+1,3,none⟩ (iV cn))=W2 at *;clear S1 kf k0 k1 k2 k3 k4 l0 l1 l2 l3 l4;have HHk:=S2.out.at eL;obtain⟨k0,k1,k2,k3,k4⟩:=HHk.c5;clear HHk;have HHz:=S2.out.at cM;obtain⟨z0,z1,z2,z3,z4⟩:=HHz.c5;obtain⟨zf0,zf1,zf2,zf3,zf4⟩:=HHz.f5;obtain⟨HRR,RB⟩:=OB HHz S2.out.b hRw (iV VF) (.string src) (.string ci) (iV cn) (iV cn);clear HHz;go_wp2_with fail
  exact VB (aF Tryz.results206 _ _ _ _ _ rfl HRR.out Tryz.underlying43 rfl (show (Tryz.prog.info? 43).map (·.size)=some 5 by kernel_rfl)) rfl (And.intro rfl RB.out)
end Go.Proofs.YtdkepkaflielhaaGreatDoor
