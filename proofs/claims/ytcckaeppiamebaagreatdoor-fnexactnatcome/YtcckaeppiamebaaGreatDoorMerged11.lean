import Derived.Test.YtcckaeppiamebaaGreatDoorAb
import Derived.Test.YtcckaeppiamebaaGreatDoorMerged10
import Derived.Test.YtcckaeppiamebaaGreatDoorMerged8
import Derived.Test.YtcckaeppiamebaaGreatDoorMerged5
import Derived.Test.YtcckaeppiamebaaGreatDoorMerged7
import Derived.Deep.RegionHeld
import Derived.Test.YtcckaeppiamebaaGreatDoorMerged3
import Derived.Test.YtcckaeppiamebaaGreatDoorMerged6
import Derived.Great.BuildSlice
set_option linter.unusedVariables false
set_option linter.unusedSimpArgs false
set_option maxRecDepth 100000
set_option maxHeartbeats 8000000
namespace Go.Proofs.YtcckaeppiamebaaGreatDoor
open Go.RowKit Go.PlainAid Go.Lib
theorem eqFO_run (q p:Fl) (a b:Int) (W:World):(Op.equalIn 10000 109 (.agg #[iV q.proto,.string q.src,.string q.dst,iV q.sp,iV q.dp,iV a]) (.agg #[iV p.proto,.string p.src,.string p.dst,iV p.sp,iV p.dp,iV b])).run Tryz.prog W=.ok (sameFlow q p&&(a==b)) W:=by
 have h1:Tryz.prog.underlying 109=some (.struct (Tryz.prog.fieldsOf 109)):=by kernel_rfl
 have h2:Tryz.prog.stoodInHeld 109=false:=by kernel_rfl
 rw [run_equalIn_agg _ _ _ _ _ h1 h2];have h3:(Tryz.prog.fieldsOf 109).toList.length=2:=by kernel_rfl
 have h4 : ((Tryz.prog.fieldsOf 109).toList.map fun f => (f.type, f.offset, f.name == "_")) = [(91, 0, false), (2, 5, false)] := by kernel_rfl
 have hq:=eqFlow_run 9997 q p;generalize (Tryz.prog.fieldsOf 109).toList=fs at *;match fs,h3 with
 | [f,g],_ =>
  simp at h4;obtain ⟨⟨a1,a2,a3⟩,b1,b2,b3⟩:=h4;have p0:∀ W,(part 91 #[iV q.proto,.string q.src,.string q.dst,iV q.sp,iV q.dp,iV a] 0).run Tryz.prog W=.ok (.agg (FlV q).toArray) W:=fun W=>by kernel_rfl
  have p1:∀ W,(part 91 #[iV p.proto,.string p.src,.string p.dst,iV p.sp,iV p.dp,iV b] 0).run Tryz.prog W=.ok (.agg (FlV p).toArray) W:=fun W=>by kernel_rfl
  have p2:∀ W,(part 2 #[iV q.proto,.string q.src,.string q.dst,iV q.sp,iV q.dp,iV a] 5).run Tryz.prog W=.ok (iV a) W:=fun W=>by kernel_rfl
  have p3:∀ W,(part 2 #[iV p.proto,.string p.src,.string p.dst,iV p.sp,iV p.dp,iV b] 5).run Tryz.prog W=.ok (iV b) W:=fun W=>by kernel_rfl
  generalize sameFlow q p=sf at *;by_cases hab:a=b
  ·subst hab
   cases sf<;>simp [Op.eqFields,a1,a2,a3,b1,b2,b3,p0,p1,p2,p3,hq,run_equalIn_int _ _ _ _ _ _ _ Tryz.underlying2]
  ·have hab2:(a==b)=false:=by simp [hab]
   cases sf<;>simp [Op.eqFields,a1,a2,a3,b1,b2,b3,p0,p1,p2,p3,hq,hab,hab2,run_equalIn_int _ _ _ _ _ _ _ Tryz.underlying2]
theorem neFO_bin (q p:Fl) (a b:Int) (W:World):(binOp .neq 109 (.agg #[iV q.proto,.string q.src,.string q.dst,iV q.sp,iV q.dp,iV a]) (.agg #[iV p.proto,.string p.src,.string p.dst,iV p.sp,iV p.dp,iV b])).run Tryz.prog W=.ok (.bool (!(sameFlow q p&&(a==b)))) W:=by
 rw [run_neq_struct,eqFO_run]; rfl
theorem implCarrySet_any (f g:Fl) (t:ByteArray) (w:World) (f1:f.src.size≤1048576) (f2:f.dst.size≤1048576) (g1:g.src.size≤1048576) (g2:g.dst.size≤1048576) (ht:t.size≤1048576) (hk:¬ (f.src.size=16∧g.src.size=16)) :
  Cb 115 #[fwC f,fwC g,.string t] w (dtCO (setData f g t) (setCode f g t)):=by
 have HLG:Hid (∀ W,Cw 97 #[.string t] W (.bool (decide (20000 < t.size)))):=fun W=>implLong_any t W
 have HFO:Hid (∀ W,Cb 60 #[.string f.src,.string f.dst,iV f.proto,.string t] W (fwCO (flowOfV f.src f.dst f.proto t) (flowCode f.src f.dst f.proto t))):=fun W=>implFlowOf_any _ _ _ _ W f1 f2 ht
 have HFR:Hid (∀ W,Cb 155 #[fwC g] W (.bool (flowOk g))):=fun W=>implFlowRight_any g W g1 g2
 have HLK:Hid (∀ W,Cb 156 #[iV f.proto,iV g.proto] W (.bool (decide (f.proto=g.proto)||(echoP f.proto&&echoP g.proto)))):=fun W=>(ipLike_any _ _ W).mono fun e w' h=>⟨h.1,by rw [h.2]; exact Below.refl _ _⟩
 have HSI:Hid (t.size≤20000→setIn f g t=((sameFlow (flowOfV f.src f.dst f.proto t) f&&(flowCode f.src f.dst f.proto t==0))&&(flowOk g&&(decide (f.proto=g.proto)||(echoP f.proto&&echoP g.proto))))):=fun h=>by rw [setIn_prog h,Bool.and_comm (sameFlow _ _)]; rfl
 have HNE:Hid (∀ W,(binOp .neq 109 (fwCO (flowOfV f.src f.dst f.proto t) (flowCode f.src f.dst f.proto t)) (fwCO f 0)).run Tryz.prog W=.ok (.bool (!(sameFlow (flowOfV f.src f.dst f.proto t) f&&(flowCode f.src f.dst f.proto t==0)))) W):=fun W=>neFO_bin _ _ _ _ W
 have HC2:Hid (20000 < t.size→dtCO (setData f g t) (setCode f g t)=dtCO ⟨#[]⟩ 2):=fun h=>by
  have hc:setCode f g t=2:=by unfold setCode; rw [if_pos h]
  unfold setData; rw [hc,if_neg (by decide)]
 have HC1:Hid (t.size≤20000→setIn f g t=false→dtCO (setData f g t) (setCode f g t)=dtCO ⟨#[]⟩ 1):=fun h h2=>by
  have hc:setCode f g t=1:=by unfold setCode; rw [if_neg (by omega),if_pos h2]
  unfold setData; rw [hc,if_neg (by decide)]
 have hq:setIn f g t=true→(f.src.size=4∨f.src.size=16)∧f.dst.size≤16∧(0≤f.proto∧f.proto≤255)∧(g.src.size=4∨g.src.size=16)∧g.dst.size≤16∧(0≤g.proto∧g.proto≤255)∧8≤t.size∧(f.proto=6→20≤t.size)∧((0≤g.sp∧g.sp≤65535)∧(0≤g.dp∧g.dp≤65535))∧(echoP g.proto=true→echoP f.proto=true):=fun h=>by
  obtain ⟨h1,h2,h3,h4⟩:=setIn_parts h;obtain ⟨a1,a2,a3⟩:=flowOk_parts h1;obtain ⟨b1,b2,b3⟩:=flowOk_parts h2;have p1:pairOk f.src f.dst=true:=by unfold flowOk at h1; simp only [Bool.and_eq_true] at h1; exact h1.1.1.1.1
  have p2:pairOk g.src g.dst=true:=by unfold flowOk at h2; simp only [Bool.and_eq_true] at h2; exact h2.1.1.1.1
  have o:=ofCode_size h4;refine ⟨(pairOk_parts p1).1,a1.2,a2,(pairOk_parts p2).1,b1.2,b2,o.1,o.2,b3,fun hg=>?_⟩;rcases h3 with h3 | h3
  ·rw [h3]; exact hg
  ·exact h3.1
 have HC5:Hid (t.size≤20000→setIn f g t=true→lacksV f t=true→g.src.size=16→dtCO (setData f g t) (setCode f g t)=dtCO ⟨#[]⟩ 5):=fun h h2 h3 h4=>by
  have hb:bareUdp f t=true:=by
   rw [bare_lacks,h3];rcases (hq h2).1 with h5 | h5
   ·simp [h5]
   ·exact absurd ⟨h5,h4⟩ hk
  have hc:setCode f g t=5:=by unfold setCode; rw [if_neg (by omega),if_neg (by rw [h2]; simp),if_pos ⟨hb,h4⟩]
  unfold setData; rw [hc,if_neg (by decide)]
 have HC0:Hid (t.size≤20000→setIn f g t=true→¬ (lacksV f t=true∧g.src.size=16)→dtCO (setData f g t) (setCode f g t)=if (!lacksV f t||decide (f.src.size=16))=true then dtCO (putV (setOut f g t) (checkP f.proto) (twoV (newCheck f g t))) 0 else dtCO (setOut f g t) 0):=fun h h2 h3=>by
  have hc:setCode f g t=0:=by
   unfold setCode; rw [if_neg (by omega),if_neg (by rw [h2]; simp),if_neg];rintro ⟨h5,h6⟩;rw [bare_lacks,Bool.and_eq_true] at h5;exact h3 ⟨h5.1,h6⟩
  unfold setData; rw [hc,if_pos rfl,bare_lacks];have hs:=(hq h2).1;by_cases hl:lacksV f t=true
  ·rcases hs with hs | hs
   ·simp [hl,hs]
   ·simp [hl,hs]
  ·simp [hl]
 have HLA:Hid (setIn f g t=true→∀ W,Cw 157 #[iV f.proto,.string t] W (.bool (lacksV f t))):=fun h W=>ipLacks_any _ t W (hq h).2.2.2.2.2.2.1 ht
 have HLY:Hid (t.size≤20000→setIn f g t=true→∀ W,Calls Tryz.prog 158 #[iV f.proto,fwC g,.string t] W fun e w'=>LayRet W.heap.size t.size (setOut f g t) e w'∧Below W.heap.size W w'):=fun h h2 W=>by
  obtain ⟨q1,q2,q3,q4,q5,q6,q7,q8,q9,q10⟩:=hq h2;rw [← lay_set h2];exact ipLay_any f.proto g t W q7 h q9 q10
 have HCK:Hid (t.size≤20000→setIn f g t=true→∀ W,Cb 161 #[fwC f,fwC g,.string t,.string (setOut f g t)] W (iV (newCheck f g t))):=fun h h2 W=>by
  obtain ⟨q1,q2,q3,q4,q5,q6,q7,q8,q9,q10⟩:=hq h2;have hs:=setOut_size (f:=f) (g:=g) q7;rw [← checkI_eq f g t q7 (by omega)];exact ipCheck_any f g t (setOut f g t) W q7 (by omega) q8 (by omega) (by omega) q1 q2 q3 q4 q5 q6
 have HPL:Hid (∀ W,Cb 159 #[iV f.proto] W (iV (checkP f.proto:Nat))):=fun W=>(ipPlace_any _ W).mono fun e w' h=>⟨h.1,by rw [h.2]; exact Below.refl _ _⟩
 have HSZ:Hid (setIn f g t=true→(setOut f g t).size=t.size∧8≤t.size∧checkP f.proto+2≤t.size):=fun h=>by
  obtain ⟨q1,q2,q3,q4,q5,q6,q7,q8,q9,q10⟩:=hq h;refine ⟨setOut_size q7,q7,?_⟩;unfold checkP;split
  ·rename_i h6; have:=q8 h6; omega
  ·split<;>omega
 have rnc:=newCheck_range f g t;have z2:=twoV_size (newCheck f g t);have HL1:Hid ((layL [newCheck f g t]).map (Value.int .u8)=strCells (twoV (newCheck f g t))):=by unfold Hid; rw [strCells_two _ rnc.1 rnc.2]; rfl
 have hinfo:(Tryz.prog.info? 5).map (·.size)=some 1:=by
  obtain ⟨i0,hi,hz0,hz1,hz2⟩:=info_parts Tryz.info5;rw [hi]; simp [hz1]
 generalize dtCO (setData f g t) (setCode f g t)=ans at *;generalize (sameFlow (flowOfV f.src f.dst f.proto t) f&&(flowCode f.src f.dst f.proto t==0))=sf at *;generalize (decide (f.proto=g.proto)||(echoP f.proto&&echoP g.proto))=lk at *;generalize flowOk g=fg at *;generalize setIn f g t=si at *;generalize lacksV f t=lc at *;generalize checkP f.proto=pl at *;generalize newCheck f g t=nc at *;generalize setOut f g t=uu at *;generalize flowOfV f.src f.dst f.proto t=ff at *;generalize flowCode f.src f.dst f.proto t=fc at *;clear hq;obtain ⟨proto,src,dst,sp,dp⟩:=f;obtain ⟨proto',src',dst',sp',dp'⟩:=g;unfold fwCO at HFO HNE;unfold fwC at *;dsimp only at *;have HS0:=bx3 w (FlR proto src dst sp dp) 91 (FlR proto' src' dst' sp' dp') 91 [.string ⟨#[]⟩,iV 0] 99 (by simp) (by simp) (by simp)
 skip;have hRw:w.heap.size≤w.heap.size+1+1:=by omega
 go_enter Tryz.func115,Tryz.ntmps115
 go_upto_region 1 with fail
 generalize ((aW (aW w (FlR proto src dst sp dp) 91) (FlR proto' src' dst' sp' dp') 91).alloc (.cells #[.string ⟨#[]⟩,iV 0] 99))=W0 at *;go_wp2_with fail
 refine (HLG.out _).mono ?_;rintro e W0 ⟨rfl,rfl⟩;by_cases hlen:20000 < t.size
 case pos =>
  have dl:decide (20000 < t.size)=true:=decide_eq_true hlen;rw [dl];have HX:Hid (ans=dtCO ⟨#[]⟩ 2):=HC2.out hlen;have HHz:=HS0.out.at mE2;obtain ⟨z0,z1⟩:=HHz.c2;obtain ⟨zf0,zf1⟩:=HHz.f2;have HRR:Hid (HoldsL ((sW W0 (w.heap.size+1+1) 0 (.string ⟨#[]⟩)).setCell ⟨w.heap.size+1+1,1,none⟩ (iV 2)) (w.heap.size+1+1) [.string ⟨#[]⟩,iV 2]):=((HHz.set 0 (.string ⟨#[]⟩)).set 1 (iV 2));have RB:Hid _:=((HS0.out.b.setCell (p:=⟨w.heap.size+1+1,0,none⟩) hRw (.string ⟨#[]⟩)).setCell (p:=⟨w.heap.size+1+1,1,none⟩) hRw (iV 2));clear HHz;clear HC2 HC1 HC5 HC0;go_wp2_with fail
  exact bodyPost_ret (results_mid Tryz.results115 _ _ (w.heap.size+1+1) [.string ⟨#[]⟩,iV 2] _ rfl HRR.out Tryz.underlying99 rfl (show (Tryz.prog.info? 99).map (·.size)=some 2 by kernel_rfl)) rfl (And.intro (by rw [HX.out]; rfl) RB.out)
 have dl:decide (20000 < t.size)=false:=decide_eq_false hlen;rw [dl];have hle:t.size≤20000:=by omega
 replace HSI:Hid _:=HSI.out hle;replace HC1:Hid _:=HC1.out hle;replace HC5:Hid _:=HC5.out hle;replace HC0:Hid _:=HC0.out hle;replace HLY:Hid _:=HLY.out hle;replace HCK:Hid _:=HCK.out hle;clear HC2 HLG dl hlen;go_upto_region 3 with fail
 go_cut [35] (fun v wx=>v=.bool (!si)∧Bxs w [(w.heap.size,(FlR proto src dst sp dp)),(w.heap.size+1,(FlR proto' src' dst' sp' dp')),(w.heap.size+1+1,[.string ⟨#[]⟩,iV 0])] wx)
 case first =>
  rename_i J K2 hJ hK2;have HCP:Hid (∀ wy,Below W0.drew.heap.size W0.drew wy→_):=fun wy hy=>HS0.out.kept ((Below.refl _ _).drew.trans hy)
  clear HC1 HC5 HC0 HLA HLY HCK HPL HSZ HL1
  cases sf with
  | false =>
   refine wp_region_growH [12,13,14,15,16,17,18,19,20,21,22,23,24,25,26,27,28,29,30,31,32,33,34,35] (by kernel_rfl) (by kernel_rfl) ?_;apply GCh.v0
   ·rfl
   ·intro K' a wy ho hd hb hK kz;have o3:=ho 3 (by decide);simp [slot] at o3;clear hd ho;go_simp;try go_bits
    exact kz _ rfl
   apply GCh.v1
   ·rfl
   ·intro K' a wy ho hd hb hK kz;have q0:=hd ⟨0,.data⟩ (by simp) rfl;simp [rAt,IsV,slot] at q0;clear hd ho;have hst:=HCP.out wy hb;have HHk:=hst.at mE0;obtain ⟨k0,k1,k2,k3,k4⟩:=HHk.c5;clear HHk;have HHl:=hst.at mE1;obtain ⟨l0,l1,l2,l3,l4⟩:=HHl.c5;clear HHl;clear hst;go_simp;try go_bits
    exact kz _ rfl
   apply GCh.v2
   ·rfl
   ·intro K' a wy ho hd hb hK kz;have o3:=ho 3 (by decide);simp [slot] at o3;clear hd ho;go_simp;try go_bits
    exact kz _ rfl
   apply GCh.v3
   ·rfl
   ·intro K' a wy ho hd hb hK kz;have q2:=hd ⟨2,.data⟩ (by simp) rfl;simp [rAt,IsV,slot] at q2;clear hd ho;have hst:=HCP.out wy hb;have HHk:=hst.at mE0;obtain ⟨k0,k1,k2,k3,k4⟩:=HHk.c5;clear HHk;have HHl:=hst.at mE1;obtain ⟨l0,l1,l2,l3,l4⟩:=HHl.c5;clear HHl;clear hst;go_simp;try go_bits
    exact kz _ rfl
   apply GCh.v4
   ·rfl
   ·intro K' a wy ho hd hb hK kz;have o3:=ho 3 (by decide);simp [slot] at o3;clear hd ho;go_simp;try go_bits
    exact kz _ rfl
   apply GCh.v5
   ·rfl
   ·intro K' a wy ho hd hb hK kz;have q4:=hd ⟨4,.data⟩ (by simp) rfl;simp [rAt,IsV,slot] at q4;clear hd ho;have hst:=HCP.out wy hb;have HHk:=hst.at mE0;obtain ⟨k0,k1,k2,k3,k4⟩:=HHk.c5;clear HHk;have HHl:=hst.at mE1;obtain ⟨l0,l1,l2,l3,l4⟩:=HHl.c5;clear HHl;clear hst;go_simp;try go_bits
    exact kz _ rfl
   apply GCh.v6
   ·rfl
   ·intro K' a wy ho hd hb hK kz;have o2:=ho 2 (by decide);simp [slot] at o2;clear hd ho;go_simp;try go_bits
    exact kz _ rfl
   apply GCh.v7
   ·rfl
   ·intro K' a wy ho hd hb hK kz;have q1:=hd ⟨1,.data⟩ (by simp) rfl;have q3:=hd ⟨3,.data⟩ (by simp) rfl;have q5:=hd ⟨5,.data⟩ (by simp) rfl;have q6:=hd ⟨6,.data⟩ (by simp) rfl;simp [rAt,IsV,slot] at q1 q3 q5 q6;clear hd ho;go_simp;refine (HFO.out wy).mono ?_;rintro e wz ⟨rfl,hz⟩;exact hK _ _ rfl hz
   apply GCh.v8
   ·rfl
   ·intro K' a wy ho hd hb hK kz;have o3:=ho 3 (by decide);simp [slot] at o3;clear hd ho;have hst:=HCP.out wy hb;have HHk:=hst.at mE0;obtain ⟨k0,k1,k2,k3,k4⟩:=HHk.c5;clear HHk;have HHl:=hst.at mE1;obtain ⟨l0,l1,l2,l3,l4⟩:=HHl.c5;clear HHl;clear hst;go_simp;try go_bits
    exact kz _ rfl
   apply GCh.v9
   ·rfl
   ·intro K' a wy ho hd hb hK kz;have q8:=hd ⟨8,.data⟩ (by simp) rfl;simp [rAt,IsV,slot] at q8;clear hd ho;go_simp;try go_bits
    exact kz _ rfl
   apply GCh.v10
   ·rfl
   ·intro K' a wy ho hd hb hK kz;have q7:=hd ⟨7,.data⟩ (by simp) rfl;have q9:=hd ⟨9,.data⟩ (by simp) rfl;simp [rAt,IsV,slot] at q7 q9;clear hd ho;refine wp_bin_val .neq 109 109 (.tmp 19) (.tmp 21) rfl (by simp [Act.eval,slot,q7]) (by simp [Act.eval,slot,q9]) (run_eqGuard_agg _ _ _ _ _ _ _ (by kernel_rfl)) (HNE.out wy) ?_;exact kz _ rfl
   apply GCh.v11
   ·rfl
   ·intro K' a wy ho hd hb hK kz;have q10:=hd ⟨10,.data⟩ (by simp) rfl;simp [rAt,IsV,slot] at q10;clear hd ho;go_simp;try go_bits
    exact kz _ rfl
   refine GCh.val (n:=12) (fun v=>[_,_,_,_,_,_,_,_,_,_,_,_,IsV v]) (fun _=>rfl) rfl ?_;apply Exists.intro;refine And.intro ?_ ?_
   ·intro K' a wy ho hd hb hK;refine wantsN 11 23 true false rfl rfl rfl (hd ⟨11,.guard⟩ (by simp) rfl) rfl ?_;exact hK undef _ rfl (Below.refl _ _)
   refine GCh.val (n:=13) (fun v=>[_,_,_,_,_,_,_,_,_,_,_,_,_,IsV v]) (fun _=>rfl) rfl ?_;apply Exists.intro;refine And.intro ?_ ?_
   ·intro K' a wy ho hd hb hK;refine wantsN 11 23 true false rfl rfl rfl (hd ⟨11,.guard⟩ (by simp) rfl) rfl ?_;exact hK undef _ rfl (Below.refl _ _)
   refine GCh.val (n:=14) (fun v=>[_,_,_,_,_,_,_,_,_,_,_,_,_,_,IsV v]) (fun _=>rfl) rfl ?_;apply Exists.intro;refine And.intro ?_ ?_
   ·intro K' a wy ho hd hb hK;refine wantsN 11 23 true false rfl rfl rfl (hd ⟨11,.guard⟩ (by simp) rfl) rfl ?_;exact hK undef _ rfl (Below.refl _ _)
   apply GCh.v15
   ·rfl
   ·intro K' a wy ho hd hb hK kz;have q11:=hd ⟨11,.data⟩ (by simp) rfl;have q14:=hd ⟨14,.data⟩ (by simp) rfl;simp [rAt,IsV,slot] at q11 q14;clear hd ho;go_simp;try go_bits
    exact kz _ rfl
   apply GCh.v16
   ·rfl
   ·intro K' a wy ho hd hb hK kz;have q15:=hd ⟨15,.data⟩ (by simp) rfl;simp [rAt,IsV,slot] at q15;clear hd ho;go_simp;try go_bits
    exact kz _ rfl
   refine GCh.val (n:=17) (fun v=>[_,_,_,_,_,_,_,_,_,_,_,_,_,_,_,_,_,IsV v]) (fun _=>rfl) rfl ?_;apply Exists.intro;refine And.intro ?_ ?_
   ·intro K' a wy ho hd hb hK;refine wantsN 16 28 true false rfl rfl rfl (hd ⟨16,.guard⟩ (by simp) rfl) rfl ?_;exact hK undef _ rfl (Below.refl _ _)
   refine GCh.val (n:=18) (fun v=>[_,_,_,_,_,_,_,_,_,_,_,_,_,_,_,_,_,_,IsV v]) (fun _=>rfl) rfl ?_;apply Exists.intro;refine And.intro ?_ ?_
   ·intro K' a wy ho hd hb hK;refine wantsN 16 28 true false rfl rfl rfl (hd ⟨16,.guard⟩ (by simp) rfl) rfl ?_;exact hK undef _ rfl (Below.refl _ _)
   refine GCh.val (n:=19) (fun v=>[_,_,_,_,_,_,_,_,_,_,_,_,_,_,_,_,_,_,_,IsV v]) (fun _=>rfl) rfl ?_;apply Exists.intro;refine And.intro ?_ ?_
   ·intro K' a wy ho hd hb hK;refine wantsN 16 28 true false rfl rfl rfl (hd ⟨16,.guard⟩ (by simp) rfl) rfl ?_;exact hK undef _ rfl (Below.refl _ _)
   refine GCh.val (n:=20) (fun v=>[_,_,_,_,_,_,_,_,_,_,_,_,_,_,_,_,_,_,_,_,IsV v]) (fun _=>rfl) rfl ?_;apply Exists.intro;refine And.intro ?_ ?_
   ·intro K' a wy ho hd hb hK;refine wantsN 16 28 true false rfl rfl rfl (hd ⟨16,.guard⟩ (by simp) rfl) rfl ?_;exact hK undef _ rfl (Below.refl _ _)
   refine GCh.val (n:=21) (fun v=>[_,_,_,_,_,_,_,_,_,_,_,_,_,_,_,_,_,_,_,_,_,IsV v]) (fun _=>rfl) rfl ?_;apply Exists.intro;refine And.intro ?_ ?_
   ·intro K' a wy ho hd hb hK;refine wantsN 16 28 true false rfl rfl rfl (hd ⟨16,.guard⟩ (by simp) rfl) rfl ?_;exact hK undef _ rfl (Below.refl _ _)
   refine GCh.val (n:=22) (fun v=>[_,_,_,_,_,_,_,_,_,_,_,_,_,_,_,_,_,_,_,_,_,_,IsV v]) (fun _=>rfl) rfl ?_;apply Exists.intro;refine And.intro ?_ ?_
   ·intro K' a wy ho hd hb hK;refine wantsN 16 28 true false rfl rfl rfl (hd ⟨16,.guard⟩ (by simp) rfl) rfl ?_;exact hK undef _ rfl (Below.refl _ _)
   apply GCh.v23
   ·rfl
   ·intro K' a wy ho hd hb hK kz;have q16:=hd ⟨16,.data⟩ (by simp) rfl;have q22:=hd ⟨22,.data⟩ (by simp) rfl;simp [rAt,IsV,slot] at q16 q22;clear hd ho;go_simp;try go_bits
    exact kz _ rfl
   intro X wz hR hz;obtain ⟨x0,x1,x2,x3,x4,x5,x6,x7,x8,x9,x10,x11,x12,x13,x14,x15,x16,x17,x18,x19,x20,x21,x22,x23,-⟩:=hR;simp only [IsV] at x0 x1 x2 x3 x4 x5 x6 x7 x8 x9 x10 x11 x12 x13 x14 x15 x16 x17 x18 x19 x20 x21 x22 x23;simp only [putsFrom,x0,x1,x2,x3,x4,x5,x6,x7,x8,x9,x10,x11,x12,x13,x14,x15,x16,x17,x18,x19,x20,x21,x22,x23];clear x0 x1 x2 x3 x4 x5 x6 x7 x8 x9 x10 x11 x12 x13 x14 x15 x16 x17 x18 x19 x20 x21 x22 x23;have HF:Hid (Bxs w [(w.heap.size,(FlR proto src dst sp dp)),(w.heap.size+1,(FlR proto' src' dst' sp' dp')),(w.heap.size+1+1,[.string ⟨#[]⟩,iV 0])] wz):=HCP.out wz hz;clear HCP;go_simp;refine hK2 _ _ (hJ _ _ ?_);(repeat apply Exists.intro)
   exact ⟨⟨by rw [HSI.out]; rfl,HF.out⟩,rfl⟩
  | true =>
   cases fg with
   | false =>
    refine wp_region_growH [12,13,14,15,16,17,18,19,20,21,22,23,24,25,26,27,28,29,30,31,32,33,34,35] (by kernel_rfl) (by kernel_rfl) ?_;apply GCh.v0
    ·rfl
    ·intro K' a wy ho hd hb hK kz;have o3:=ho 3 (by decide);simp [slot] at o3;clear hd ho;go_simp;try go_bits
     exact kz _ rfl
    apply GCh.v1
    ·rfl
    ·intro K' a wy ho hd hb hK kz;have q0:=hd ⟨0,.data⟩ (by simp) rfl;simp [rAt,IsV,slot] at q0;clear hd ho;have hst:=HCP.out wy hb;have HHk:=hst.at mE0;obtain ⟨k0,k1,k2,k3,k4⟩:=HHk.c5;clear HHk;have HHl:=hst.at mE1;obtain ⟨l0,l1,l2,l3,l4⟩:=HHl.c5;clear HHl;clear hst;go_simp;try go_bits
     exact kz _ rfl
    apply GCh.v2
    ·rfl
    ·intro K' a wy ho hd hb hK kz;have o3:=ho 3 (by decide);simp [slot] at o3;clear hd ho;go_simp;try go_bits
     exact kz _ rfl
    apply GCh.v3
    ·rfl
    ·intro K' a wy ho hd hb hK kz;have q2:=hd ⟨2,.data⟩ (by simp) rfl;simp [rAt,IsV,slot] at q2;clear hd ho;have hst:=HCP.out wy hb;have HHk:=hst.at mE0;obtain ⟨k0,k1,k2,k3,k4⟩:=HHk.c5;clear HHk;have HHl:=hst.at mE1;obtain ⟨l0,l1,l2,l3,l4⟩:=HHl.c5;clear HHl;clear hst;go_simp;try go_bits
     exact kz _ rfl
    apply GCh.v4
    ·rfl
    ·intro K' a wy ho hd hb hK kz;have o3:=ho 3 (by decide);simp [slot] at o3;clear hd ho;go_simp;try go_bits
     exact kz _ rfl
    apply GCh.v5
    ·rfl
    ·intro K' a wy ho hd hb hK kz;have q4:=hd ⟨4,.data⟩ (by simp) rfl;simp [rAt,IsV,slot] at q4;clear hd ho;have hst:=HCP.out wy hb;have HHk:=hst.at mE0;obtain ⟨k0,k1,k2,k3,k4⟩:=HHk.c5;clear HHk;have HHl:=hst.at mE1;obtain ⟨l0,l1,l2,l3,l4⟩:=HHl.c5;clear HHl;clear hst;go_simp;try go_bits
     exact kz _ rfl
    apply GCh.v6
    ·rfl
    ·intro K' a wy ho hd hb hK kz;have o2:=ho 2 (by decide);simp [slot] at o2;clear hd ho;go_simp;try go_bits
     exact kz _ rfl
    apply GCh.v7
    ·rfl
    ·intro K' a wy ho hd hb hK kz;have q1:=hd ⟨1,.data⟩ (by simp) rfl;have q3:=hd ⟨3,.data⟩ (by simp) rfl;have q5:=hd ⟨5,.data⟩ (by simp) rfl;have q6:=hd ⟨6,.data⟩ (by simp) rfl;simp [rAt,IsV,slot] at q1 q3 q5 q6;clear hd ho;go_simp;refine (HFO.out wy).mono ?_;rintro e wz ⟨rfl,hz⟩;exact hK _ _ rfl hz
    apply GCh.v8
    ·rfl
    ·intro K' a wy ho hd hb hK kz;have o3:=ho 3 (by decide);simp [slot] at o3;clear hd ho;have hst:=HCP.out wy hb;have HHk:=hst.at mE0;obtain ⟨k0,k1,k2,k3,k4⟩:=HHk.c5;clear HHk;have HHl:=hst.at mE1;obtain ⟨l0,l1,l2,l3,l4⟩:=HHl.c5;clear HHl;clear hst;go_simp;try go_bits
     exact kz _ rfl
    apply GCh.v9
    ·rfl
    ·intro K' a wy ho hd hb hK kz;have q8:=hd ⟨8,.data⟩ (by simp) rfl;simp [rAt,IsV,slot] at q8;clear hd ho;go_simp;try go_bits
     exact kz _ rfl
    apply GCh.v10
    ·rfl
    ·intro K' a wy ho hd hb hK kz;have q7:=hd ⟨7,.data⟩ (by simp) rfl;have q9:=hd ⟨9,.data⟩ (by simp) rfl;simp [rAt,IsV,slot] at q7 q9;clear hd ho;refine wp_bin_val .neq 109 109 (.tmp 19) (.tmp 21) rfl (by simp [Act.eval,slot,q7]) (by simp [Act.eval,slot,q9]) (run_eqGuard_agg _ _ _ _ _ _ _ (by kernel_rfl)) (HNE.out wy) ?_;exact kz _ rfl
    apply GCh.v11
    ·rfl
    ·intro K' a wy ho hd hb hK kz;have q10:=hd ⟨10,.data⟩ (by simp) rfl;simp [rAt,IsV,slot] at q10;clear hd ho;go_simp;try go_bits
     exact kz _ rfl
    refine GCh.val (n:=12) (fun v=>[_,_,_,_,_,_,_,_,_,_,_,_,IsV v]) (fun _=>rfl) rfl ?_;apply Exists.intro;refine And.intro ?_ ?_
    ·intro K' a wy ho hd hb hK;refine wants 11 23 false false rfl rfl rfl (hd ⟨11,.guard⟩ (by simp) rfl) rfl ?_;have o4:=ho 4 (by decide);simp [slot] at o4;clear hd ho;have hst:=HCP.out wy hb;have HHk:=hst.at mE0;obtain ⟨k0,k1,k2,k3,k4⟩:=HHk.c5;clear HHk;have HHl:=hst.at mE1;obtain ⟨l0,l1,l2,l3,l4⟩:=HHl.c5;clear HHl;clear hst;go_simp;try go_bits
     exact hK _ _ rfl (Below.refl _ _)
    refine GCh.val (n:=13) (fun v=>[_,_,_,_,_,_,_,_,_,_,_,_,_,IsV v]) (fun _=>rfl) rfl ?_;apply Exists.intro;refine And.intro ?_ ?_
    ·intro K' a wy ho hd hb hK;refine wants 11 23 false false rfl rfl rfl (hd ⟨11,.guard⟩ (by simp) rfl) rfl ?_;have q12:=hd ⟨12,.data⟩ (by simp) rfl;simp [rAt,IsV,slot] at q12;clear hd ho;go_simp;refine (HFR.out wy).mono ?_;rintro e wz ⟨rfl,hz⟩;exact hK _ _ rfl hz
    refine GCh.val (n:=14) (fun v=>[_,_,_,_,_,_,_,_,_,_,_,_,_,_,IsV v]) (fun _=>rfl) rfl ?_;apply Exists.intro;refine And.intro ?_ ?_
    ·intro K' a wy ho hd hb hK;refine wants 11 23 false false rfl rfl rfl (hd ⟨11,.guard⟩ (by simp) rfl) rfl ?_;have q13:=hd ⟨13,.data⟩ (by simp) rfl;simp [rAt,IsV,slot] at q13;clear hd ho;go_simp;try go_bits
     exact hK _ _ rfl (Below.refl _ _)
    apply GCh.v15
    ·rfl
    ·intro K' a wy ho hd hb hK kz;have q11:=hd ⟨11,.data⟩ (by simp) rfl;have q14:=hd ⟨14,.data⟩ (by simp) rfl;simp [rAt,IsV,slot] at q11 q14;clear hd ho;go_simp;try go_bits
     exact kz _ rfl
    apply GCh.v16
    ·rfl
    ·intro K' a wy ho hd hb hK kz;have q15:=hd ⟨15,.data⟩ (by simp) rfl;simp [rAt,IsV,slot] at q15;clear hd ho;go_simp;try go_bits
     exact kz _ rfl
    refine GCh.val (n:=17) (fun v=>[_,_,_,_,_,_,_,_,_,_,_,_,_,_,_,_,_,IsV v]) (fun _=>rfl) rfl ?_;apply Exists.intro;refine And.intro ?_ ?_
    ·intro K' a wy ho hd hb hK;refine wantsN 16 28 true false rfl rfl rfl (hd ⟨16,.guard⟩ (by simp) rfl) rfl ?_;exact hK undef _ rfl (Below.refl _ _)
    refine GCh.val (n:=18) (fun v=>[_,_,_,_,_,_,_,_,_,_,_,_,_,_,_,_,_,_,IsV v]) (fun _=>rfl) rfl ?_;apply Exists.intro;refine And.intro ?_ ?_
    ·intro K' a wy ho hd hb hK;refine wantsN 16 28 true false rfl rfl rfl (hd ⟨16,.guard⟩ (by simp) rfl) rfl ?_;exact hK undef _ rfl (Below.refl _ _)
    refine GCh.val (n:=19) (fun v=>[_,_,_,_,_,_,_,_,_,_,_,_,_,_,_,_,_,_,_,IsV v]) (fun _=>rfl) rfl ?_;apply Exists.intro;refine And.intro ?_ ?_
    ·intro K' a wy ho hd hb hK;refine wantsN 16 28 true false rfl rfl rfl (hd ⟨16,.guard⟩ (by simp) rfl) rfl ?_;exact hK undef _ rfl (Below.refl _ _)
    refine GCh.val (n:=20) (fun v=>[_,_,_,_,_,_,_,_,_,_,_,_,_,_,_,_,_,_,_,_,IsV v]) (fun _=>rfl) rfl ?_;apply Exists.intro;refine And.intro ?_ ?_
    ·intro K' a wy ho hd hb hK;refine wantsN 16 28 true false rfl rfl rfl (hd ⟨16,.guard⟩ (by simp) rfl) rfl ?_;exact hK undef _ rfl (Below.refl _ _)
    refine GCh.val (n:=21) (fun v=>[_,_,_,_,_,_,_,_,_,_,_,_,_,_,_,_,_,_,_,_,_,IsV v]) (fun _=>rfl) rfl ?_;apply Exists.intro;refine And.intro ?_ ?_
    ·intro K' a wy ho hd hb hK;refine wantsN 16 28 true false rfl rfl rfl (hd ⟨16,.guard⟩ (by simp) rfl) rfl ?_;exact hK undef _ rfl (Below.refl _ _)
    refine GCh.val (n:=22) (fun v=>[_,_,_,_,_,_,_,_,_,_,_,_,_,_,_,_,_,_,_,_,_,_,IsV v]) (fun _=>rfl) rfl ?_;apply Exists.intro;refine And.intro ?_ ?_
    ·intro K' a wy ho hd hb hK;refine wantsN 16 28 true false rfl rfl rfl (hd ⟨16,.guard⟩ (by simp) rfl) rfl ?_;exact hK undef _ rfl (Below.refl _ _)
    apply GCh.v23
    ·rfl
    ·intro K' a wy ho hd hb hK kz;have q16:=hd ⟨16,.data⟩ (by simp) rfl;have q22:=hd ⟨22,.data⟩ (by simp) rfl;simp [rAt,IsV,slot] at q16 q22;clear hd ho;go_simp;try go_bits
     exact kz _ rfl
    intro X wz hR hz;obtain ⟨x0,x1,x2,x3,x4,x5,x6,x7,x8,x9,x10,x11,x12,x13,x14,x15,x16,x17,x18,x19,x20,x21,x22,x23,-⟩:=hR;simp only [IsV] at x0 x1 x2 x3 x4 x5 x6 x7 x8 x9 x10 x11 x12 x13 x14 x15 x16 x17 x18 x19 x20 x21 x22 x23;simp only [putsFrom,x0,x1,x2,x3,x4,x5,x6,x7,x8,x9,x10,x11,x12,x13,x14,x15,x16,x17,x18,x19,x20,x21,x22,x23];clear x0 x1 x2 x3 x4 x5 x6 x7 x8 x9 x10 x11 x12 x13 x14 x15 x16 x17 x18 x19 x20 x21 x22 x23;have HF:Hid (Bxs w [(w.heap.size,(FlR proto src dst sp dp)),(w.heap.size+1,(FlR proto' src' dst' sp' dp')),(w.heap.size+1+1,[.string ⟨#[]⟩,iV 0])] wz):=HCP.out wz hz;clear HCP;go_simp;refine hK2 _ _ (hJ _ _ ?_);(repeat apply Exists.intro)
    exact ⟨⟨by rw [HSI.out]; rfl,HF.out⟩,rfl⟩
   | true =>
    refine wp_region_growH [12,13,14,15,16,17,18,19,20,21,22,23,24,25,26,27,28,29,30,31,32,33,34,35] (by kernel_rfl) (by kernel_rfl) ?_;apply GCh.v0
    ·rfl
    ·intro K' a wy ho hd hb hK kz;have o3:=ho 3 (by decide);simp [slot] at o3;clear hd ho;go_simp;try go_bits
     exact kz _ rfl
    apply GCh.v1
    ·rfl
    ·intro K' a wy ho hd hb hK kz;have q0:=hd ⟨0,.data⟩ (by simp) rfl;simp [rAt,IsV,slot] at q0;clear hd ho;have hst:=HCP.out wy hb;have HHk:=hst.at mE0;obtain ⟨k0,k1,k2,k3,k4⟩:=HHk.c5;clear HHk;have HHl:=hst.at mE1;obtain ⟨l0,l1,l2,l3,l4⟩:=HHl.c5;clear HHl;clear hst;go_simp;try go_bits
     exact kz _ rfl
    apply GCh.v2
    ·rfl
    ·intro K' a wy ho hd hb hK kz;have o3:=ho 3 (by decide);simp [slot] at o3;clear hd ho;go_simp;try go_bits
     exact kz _ rfl
    apply GCh.v3
    ·rfl
    ·intro K' a wy ho hd hb hK kz;have q2:=hd ⟨2,.data⟩ (by simp) rfl;simp [rAt,IsV,slot] at q2;clear hd ho;have hst:=HCP.out wy hb;have HHk:=hst.at mE0;obtain ⟨k0,k1,k2,k3,k4⟩:=HHk.c5;clear HHk;have HHl:=hst.at mE1;obtain ⟨l0,l1,l2,l3,l4⟩:=HHl.c5;clear HHl;clear hst;go_simp;try go_bits
     exact kz _ rfl
    apply GCh.v4
    ·rfl
    ·intro K' a wy ho hd hb hK kz;have o3:=ho 3 (by decide);simp [slot] at o3;clear hd ho;go_simp;try go_bits
     exact kz _ rfl
    apply GCh.v5
    ·rfl
    ·intro K' a wy ho hd hb hK kz;have q4:=hd ⟨4,.data⟩ (by simp) rfl;simp [rAt,IsV,slot] at q4;clear hd ho;have hst:=HCP.out wy hb;have HHk:=hst.at mE0;obtain ⟨k0,k1,k2,k3,k4⟩:=HHk.c5;clear HHk;have HHl:=hst.at mE1;obtain ⟨l0,l1,l2,l3,l4⟩:=HHl.c5;clear HHl;clear hst;go_simp;try go_bits
     exact kz _ rfl
    apply GCh.v6
    ·rfl
    ·intro K' a wy ho hd hb hK kz;have o2:=ho 2 (by decide);simp [slot] at o2;clear hd ho;go_simp;try go_bits
     exact kz _ rfl
    apply GCh.v7
    ·rfl
    ·intro K' a wy ho hd hb hK kz;have q1:=hd ⟨1,.data⟩ (by simp) rfl;have q3:=hd ⟨3,.data⟩ (by simp) rfl;have q5:=hd ⟨5,.data⟩ (by simp) rfl;have q6:=hd ⟨6,.data⟩ (by simp) rfl;simp [rAt,IsV,slot] at q1 q3 q5 q6;clear hd ho;go_simp;refine (HFO.out wy).mono ?_;rintro e wz ⟨rfl,hz⟩;exact hK _ _ rfl hz
    apply GCh.v8
    ·rfl
    ·intro K' a wy ho hd hb hK kz;have o3:=ho 3 (by decide);simp [slot] at o3;clear hd ho;have hst:=HCP.out wy hb;have HHk:=hst.at mE0;obtain ⟨k0,k1,k2,k3,k4⟩:=HHk.c5;clear HHk;have HHl:=hst.at mE1;obtain ⟨l0,l1,l2,l3,l4⟩:=HHl.c5;clear HHl;clear hst;go_simp;try go_bits
     exact kz _ rfl
    apply GCh.v9
    ·rfl
    ·intro K' a wy ho hd hb hK kz;have q8:=hd ⟨8,.data⟩ (by simp) rfl;simp [rAt,IsV,slot] at q8;clear hd ho;go_simp;try go_bits
     exact kz _ rfl
    apply GCh.v10
    ·rfl
    ·intro K' a wy ho hd hb hK kz;have q7:=hd ⟨7,.data⟩ (by simp) rfl;have q9:=hd ⟨9,.data⟩ (by simp) rfl;simp [rAt,IsV,slot] at q7 q9;clear hd ho;refine wp_bin_val .neq 109 109 (.tmp 19) (.tmp 21) rfl (by simp [Act.eval,slot,q7]) (by simp [Act.eval,slot,q9]) (run_eqGuard_agg _ _ _ _ _ _ _ (by kernel_rfl)) (HNE.out wy) ?_;exact kz _ rfl
    apply GCh.v11
    ·rfl
    ·intro K' a wy ho hd hb hK kz;have q10:=hd ⟨10,.data⟩ (by simp) rfl;simp [rAt,IsV,slot] at q10;clear hd ho;go_simp;try go_bits
     exact kz _ rfl
    refine GCh.val (n:=12) (fun v=>[_,_,_,_,_,_,_,_,_,_,_,_,IsV v]) (fun _=>rfl) rfl ?_;apply Exists.intro;refine And.intro ?_ ?_
    ·intro K' a wy ho hd hb hK;refine wants 11 23 false false rfl rfl rfl (hd ⟨11,.guard⟩ (by simp) rfl) rfl ?_;have o4:=ho 4 (by decide);simp [slot] at o4;clear hd ho;have hst:=HCP.out wy hb;have HHk:=hst.at mE0;obtain ⟨k0,k1,k2,k3,k4⟩:=HHk.c5;clear HHk;have HHl:=hst.at mE1;obtain ⟨l0,l1,l2,l3,l4⟩:=HHl.c5;clear HHl;clear hst;go_simp;try go_bits
     exact hK _ _ rfl (Below.refl _ _)
    refine GCh.val (n:=13) (fun v=>[_,_,_,_,_,_,_,_,_,_,_,_,_,IsV v]) (fun _=>rfl) rfl ?_;apply Exists.intro;refine And.intro ?_ ?_
    ·intro K' a wy ho hd hb hK;refine wants 11 23 false false rfl rfl rfl (hd ⟨11,.guard⟩ (by simp) rfl) rfl ?_;have q12:=hd ⟨12,.data⟩ (by simp) rfl;simp [rAt,IsV,slot] at q12;clear hd ho;go_simp;refine (HFR.out wy).mono ?_;rintro e wz ⟨rfl,hz⟩;exact hK _ _ rfl hz
    refine GCh.val (n:=14) (fun v=>[_,_,_,_,_,_,_,_,_,_,_,_,_,_,IsV v]) (fun _=>rfl) rfl ?_;apply Exists.intro;refine And.intro ?_ ?_
    ·intro K' a wy ho hd hb hK;refine wants 11 23 false false rfl rfl rfl (hd ⟨11,.guard⟩ (by simp) rfl) rfl ?_;have q13:=hd ⟨13,.data⟩ (by simp) rfl;simp [rAt,IsV,slot] at q13;clear hd ho;go_simp;try go_bits
     exact hK _ _ rfl (Below.refl _ _)
    apply GCh.v15
    ·rfl
    ·intro K' a wy ho hd hb hK kz;have q11:=hd ⟨11,.data⟩ (by simp) rfl;have q14:=hd ⟨14,.data⟩ (by simp) rfl;simp [rAt,IsV,slot] at q11 q14;clear hd ho;go_simp;try go_bits
     exact kz _ rfl
    apply GCh.v16
    ·rfl
    ·intro K' a wy ho hd hb hK kz;have q15:=hd ⟨15,.data⟩ (by simp) rfl;simp [rAt,IsV,slot] at q15;clear hd ho;go_simp;try go_bits
     exact kz _ rfl
    refine GCh.val (n:=17) (fun v=>[_,_,_,_,_,_,_,_,_,_,_,_,_,_,_,_,_,IsV v]) (fun _=>rfl) rfl ?_;apply Exists.intro;refine And.intro ?_ ?_
    ·intro K' a wy ho hd hb hK;refine wants 16 28 false false rfl rfl rfl (hd ⟨16,.guard⟩ (by simp) rfl) rfl ?_;have o3:=ho 3 (by decide);simp [slot] at o3;clear hd ho;go_simp;try go_bits
     exact hK _ _ rfl (Below.refl _ _)
    refine GCh.val (n:=18) (fun v=>[_,_,_,_,_,_,_,_,_,_,_,_,_,_,_,_,_,_,IsV v]) (fun _=>rfl) rfl ?_;apply Exists.intro;refine And.intro ?_ ?_
    ·intro K' a wy ho hd hb hK;refine wants 16 28 false false rfl rfl rfl (hd ⟨16,.guard⟩ (by simp) rfl) rfl ?_;have q17:=hd ⟨17,.data⟩ (by simp) rfl;simp [rAt,IsV,slot] at q17;clear hd ho;have hst:=HCP.out wy hb;have HHk:=hst.at mE0;obtain ⟨k0,k1,k2,k3,k4⟩:=HHk.c5;clear HHk;have HHl:=hst.at mE1;obtain ⟨l0,l1,l2,l3,l4⟩:=HHl.c5;clear HHl;clear hst;go_simp;try go_bits
     exact hK _ _ rfl (Below.refl _ _)
    refine GCh.val (n:=19) (fun v=>[_,_,_,_,_,_,_,_,_,_,_,_,_,_,_,_,_,_,_,IsV v]) (fun _=>rfl) rfl ?_;apply Exists.intro;refine And.intro ?_ ?_
    ·intro K' a wy ho hd hb hK;refine wants 16 28 false false rfl rfl rfl (hd ⟨16,.guard⟩ (by simp) rfl) rfl ?_;have o4:=ho 4 (by decide);simp [slot] at o4;clear hd ho;go_simp;try go_bits
     exact hK _ _ rfl (Below.refl _ _)
    refine GCh.val (n:=20) (fun v=>[_,_,_,_,_,_,_,_,_,_,_,_,_,_,_,_,_,_,_,_,IsV v]) (fun _=>rfl) rfl ?_;apply Exists.intro;refine And.intro ?_ ?_
    ·intro K' a wy ho hd hb hK;refine wants 16 28 false false rfl rfl rfl (hd ⟨16,.guard⟩ (by simp) rfl) rfl ?_;have q19:=hd ⟨19,.data⟩ (by simp) rfl;simp [rAt,IsV,slot] at q19;clear hd ho;have hst:=HCP.out wy hb;have HHk:=hst.at mE0;obtain ⟨k0,k1,k2,k3,k4⟩:=HHk.c5;clear HHk;have HHl:=hst.at mE1;obtain ⟨l0,l1,l2,l3,l4⟩:=HHl.c5;clear HHl;clear hst;go_simp;try go_bits
     exact hK _ _ rfl (Below.refl _ _)
    refine GCh.val (n:=21) (fun v=>[_,_,_,_,_,_,_,_,_,_,_,_,_,_,_,_,_,_,_,_,_,IsV v]) (fun _=>rfl) rfl ?_;apply Exists.intro;refine And.intro ?_ ?_
    ·intro K' a wy ho hd hb hK;refine wants 16 28 false false rfl rfl rfl (hd ⟨16,.guard⟩ (by simp) rfl) rfl ?_;have q18:=hd ⟨18,.data⟩ (by simp) rfl;have q20:=hd ⟨20,.data⟩ (by simp) rfl;simp [rAt,IsV,slot] at q18 q20;clear hd ho;go_simp;refine (HLK.out wy).mono ?_;rintro e wz ⟨rfl,hz⟩;exact hK _ _ rfl hz
    refine GCh.val (n:=22) (fun v=>[_,_,_,_,_,_,_,_,_,_,_,_,_,_,_,_,_,_,_,_,_,_,IsV v]) (fun _=>rfl) rfl ?_;apply Exists.intro;refine And.intro ?_ ?_
    ·intro K' a wy ho hd hb hK;refine wants 16 28 false false rfl rfl rfl (hd ⟨16,.guard⟩ (by simp) rfl) rfl ?_;have q21:=hd ⟨21,.data⟩ (by simp) rfl;simp [rAt,IsV,slot] at q21;clear hd ho;go_simp;try go_bits
     exact hK _ _ rfl (Below.refl _ _)
    apply GCh.v23
    ·rfl
    ·intro K' a wy ho hd hb hK kz;have q16:=hd ⟨16,.data⟩ (by simp) rfl;have q22:=hd ⟨22,.data⟩ (by simp) rfl;simp [rAt,IsV,slot] at q16 q22;clear hd ho;go_simp;try go_bits
     exact kz _ rfl
    intro X wz hR hz;obtain ⟨x0,x1,x2,x3,x4,x5,x6,x7,x8,x9,x10,x11,x12,x13,x14,x15,x16,x17,x18,x19,x20,x21,x22,x23,-⟩:=hR;simp only [IsV] at x0 x1 x2 x3 x4 x5 x6 x7 x8 x9 x10 x11 x12 x13 x14 x15 x16 x17 x18 x19 x20 x21 x22 x23;simp only [putsFrom,x0,x1,x2,x3,x4,x5,x6,x7,x8,x9,x10,x11,x12,x13,x14,x15,x16,x17,x18,x19,x20,x21,x22,x23];clear x0 x1 x2 x3 x4 x5 x6 x7 x8 x9 x10 x11 x12 x13 x14 x15 x16 x17 x18 x19 x20 x21 x22 x23;have HF:Hid (Bxs w [(w.heap.size,(FlR proto src dst sp dp)),(w.heap.size+1,(FlR proto' src' dst' sp' dp')),(w.heap.size+1+1,[.string ⟨#[]⟩,iV 0])] wz):=HCP.out wz hz;clear HCP;go_simp;refine hK2 _ _ (hJ _ _ ?_);(repeat apply Exists.intro)
    exact ⟨⟨by rw [HSI.out]; rfl,HF.out⟩,rfl⟩
 case rest =>
 obtain ⟨rfl,hS⟩:=hcut;have S1:Hid (Bxs w [(w.heap.size,(FlR proto src dst sp dp)),(w.heap.size+1,(FlR proto' src' dst' sp' dp')),(w.heap.size+1+1,[.string ⟨#[]⟩,iV 0])] wc):=hS;clear hS HS0 HSI HNE HFO HFR HLK;generalize wc=W1 at *
 cases si with
 | false =>
  have HX:Hid (ans=dtCO ⟨#[]⟩ 1):=HC1.out rfl;have HHz:=S1.out.at mE2;obtain ⟨z0,z1⟩:=HHz.c2;obtain ⟨zf0,zf1⟩:=HHz.f2;have HRR:Hid (HoldsL ((sW W1 (w.heap.size+1+1) 0 (.string ⟨#[]⟩)).setCell ⟨w.heap.size+1+1,1,none⟩ (iV 1)) (w.heap.size+1+1) [.string ⟨#[]⟩,iV 1]):=((HHz.set 0 (.string ⟨#[]⟩)).set 1 (iV 1));have RB:Hid _:=((S1.out.b.setCell (p:=⟨w.heap.size+1+1,0,none⟩) hRw (.string ⟨#[]⟩)).setCell (p:=⟨w.heap.size+1+1,1,none⟩) hRw (iV 1));clear HHz;clear HC1 HC5 HC0;go_wp2_with fail
  exact bodyPost_ret (results_mid Tryz.results115 _ _ (w.heap.size+1+1) [.string ⟨#[]⟩,iV 1] _ rfl HRR.out Tryz.underlying99 rfl (show (Tryz.prog.info? 99).map (·.size)=some 2 by kernel_rfl)) rfl (And.intro (by rw [HX.out]; rfl) RB.out)
 | true =>
 replace HC5:Hid _:=HC5.out rfl;replace HC0:Hid _:=HC0.out rfl;replace HLA:Hid _:=HLA.out rfl;replace HLY:Hid _:=HLY.out rfl;replace HCK:Hid _:=HCK.out rfl;obtain ⟨hs1,hs2,hs3⟩:=HSZ.out rfl;clear HC1 HSZ;have HHk:=S1.out.at mE0;obtain ⟨k0,k1,k2,k3,k4⟩:=HHk.c5;clear HHk;have HHl:=S1.out.at mE1;obtain ⟨l0,l1,l2,l3,l4⟩:=HHl.c5;clear HHl;go_wp2_with fail
 refine (HLA.out _).mono ?_;rintro e W1 ⟨rfl,rfl⟩;by_cases h5:lc=true∧src'.size=16
 case pos =>
  obtain ⟨rfl,h16⟩:=h5;have d16:((src'.size:Int)==16)=true:=by rw [h16]; rfl
  have hun:undef=Value.tuple #[]:=rfl;have HX:Hid (ans=dtCO ⟨#[]⟩ 5):=HC5.out rfl h16;have HHz:=S1.out.at mE2;obtain ⟨z0,z1⟩:=HHz.c2;obtain ⟨zf0,zf1⟩:=HHz.f2;have HRR:Hid (HoldsL ((sW W1 (w.heap.size+1+1) 0 (.string ⟨#[]⟩)).setCell ⟨w.heap.size+1+1,1,none⟩ (iV 5)) (w.heap.size+1+1) [.string ⟨#[]⟩,iV 5]):=((HHz.set 0 (.string ⟨#[]⟩)).set 1 (iV 5));have RB:Hid _:=((S1.out.b.setCell (p:=⟨w.heap.size+1+1,0,none⟩) hRw (.string ⟨#[]⟩)).setCell (p:=⟨w.heap.size+1+1,1,none⟩) hRw (iV 5));clear HHz;clear HC5 HC0;go_wp2_with fail
  exact bodyPost_ret (results_mid Tryz.results115 _ _ (w.heap.size+1+1) [.string ⟨#[]⟩,iV 5] _ rfl HRR.out Tryz.underlying99 rfl (show (Tryz.prog.info? 99).map (·.size)=some 2 by kernel_rfl)) rfl (And.intro (by rw [HX.out]; rfl) RB.out)
 replace HC0:Hid _:=HC0.out h5;clear HC5;go_upto_region 6 with fail
 go_cut [47] (fun v wx=>v=.bool false∧wx=W1)
 case first =>
  have hun:undef=Value.tuple #[]:=rfl
  cases lc with
  | false =>
   go_wp2_with fail
   go_meet;exact ⟨rfl,rfl⟩
  | true =>
   have d16:((src'.size:Int)==16)=false:=by
    have:¬ src'.size=16:=fun h=>h5 ⟨rfl,h⟩
    simp; omega
   go_wp2_with fail
   go_meet;exact ⟨rfl,rfl⟩
 case rest =>
 obtain ⟨rfl,rfl⟩:=hcut;generalize wc=W1 at *;go_upto_region 8 with fail
 go_wp2_with fail
 refine (HLY.out _).mono ?_;rintro e W2 ⟨⟨b,cap,rfl,hcap,hbW,hT2⟩,q2⟩;have S2:Hid _:=S1.out.kept q2;have T2:Hid (HoldsL W2 b (strCells uu)):=hT2;have hfb:w.heap.size+1+1 < W1.heap.size:=(S1.out.k _ mE2).lt (by simp);clear hT2 q2 S1 k0 k1 k2 k3 k4 l0 l1 l2 l3 l4 HLY HLA;have hbg:w.heap.size+1+1 < b:=by omega
 have hbw:w.heap.size≤b:=by omega
 have hrb:w.heap.size+1+1≠b:=by omega
 clear hbW hfb;have HHk:=S2.out.at mE0;obtain ⟨k0,k1,k2,k3,k4⟩:=HHk.c5;clear HHk;have HHl:=S2.out.at mE1;obtain ⟨l0,l1,l2,l3,l4⟩:=HHl.c5;clear HHl;obtain ⟨cb,hcb⟩ : ∃ cb,cb=(!lc||decide (src.size=16)):=⟨_,rfl⟩;rw [← hcb] at HC0;have HCB:Hid _:=hcb;clear hcb;go_upto_region 9 with fail
 go_cut [61] (fun v wx=>v=.bool cb∧wx=W2)
 case first =>
  have hun:undef=Value.tuple #[]:=rfl
  cases lc with
  | false =>
   go_wp2_with fail
   go_meet;exact ⟨by rw [HCB.out]; rfl,rfl⟩
  | true =>
   by_cases h16:src.size=16
   case pos =>
    have d16:((src.size:Int)==16)=true:=by rw [h16]; rfl
    go_wp2_with fail
    go_meet;exact ⟨by rw [HCB.out,decide_eq_true h16]; rfl,rfl⟩
   have d16:((src.size:Int)==16)=false:=by simp; omega
   go_wp2_with fail
   go_meet;exact ⟨by rw [HCB.out,decide_eq_false h16]; rfl,rfl⟩
 case rest =>
 obtain ⟨rfl,rfl⟩:=hcut;generalize wc=W2 at *;clear HCB k0 k1 k2 k3 k4 l0 l1 l2 l3 l4
 cases cb with
 | false =>
  have hcv:(convert 137 9 (.slice (some ⟨b,0,none⟩) t.size cap)).run Tryz.prog W2=.ok (.string uu) W2:=by rw [← hs1]; exact hold_str T2.out
  have HX:Hid (ans=dtCO uu 0):=HC0.out;have HHz:=S2.out.at mE2;obtain ⟨z0,z1⟩:=HHz.c2;obtain ⟨zf0,zf1⟩:=HHz.f2;have HRR:Hid (HoldsL ((sW W2 (w.heap.size+1+1) 0 (.string uu)).setCell ⟨w.heap.size+1+1,1,none⟩ (iV 0)) (w.heap.size+1+1) [.string uu,iV 0]):=((HHz.set 0 (.string uu)).set 1 (iV 0));have RB:Hid _:=((S2.out.b.setCell (p:=⟨w.heap.size+1+1,0,none⟩) hRw (.string uu)).setCell (p:=⟨w.heap.size+1+1,1,none⟩) hRw (iV 0));clear HHz;clear HC0 T2;go_wp2_with fail
  exact bodyPost_ret (results_mid Tryz.results115 _ _ _ _ _ rfl HRR.out Tryz.underlying99 rfl (show (Tryz.prog.info? 99).map (·.size)=some 2 by kernel_rfl)) rfl (And.intro (by rw [HX.out]; rfl) RB.out)
 | true =>
 go_upto_region 10 with fail
 have hpc:¬ cap=pl:=by omega
 have hpi:¬ (t.size:Int) < (pl:Int):=by omega
 have hpj:¬ (cap:Int) < (pl:Int):=by omega
 have hpk:(pl:Int)≤t.size:=by omega
 go_cut [75] (fun v wx=>HoldsL wx b (strCells (putV uu pl (twoV nc)))∧Bxs w [(w.heap.size,(FlR proto src dst sp dp)),(w.heap.size+1,(FlR proto' src' dst' sp' dp')),(w.heap.size+1+1,[.string ⟨#[]⟩,iV 0])] wx)
 case first =>
  rename_i J K2 hJ hK2;have HCP:Hid (∀ wy,Below W2.drew.heap.size W2.drew wy→_):=fun wy hy=>S2.out.kept ((Below.refl _ _).drew.trans hy)
  have HGP:Hid (∀ wy,Below W2.drew.heap.size W2.drew wy→HoldsL wy b (strCells uu)):=fun wy hy=>T2.out.kept (by rw [strCells_length]; omega) ((Below.refl _ _).drew.trans hy)
  have hlw2:w.heap.size≤W2.drew.heap.size:=S2.out.b.size;clear T2 S2 HC0;refine wp_region_growV [62,63,64,65,66,67,68,69,70,71,72,73,74] (by kernel_rfl) (by kernel_rfl) ?_;apply GChV.v0
  ·rfl
  ·intro K' a wy ho hd hb hK kz;have o8:=ho 8 (by decide);simp [slot] at o8;clear hd ho;go_simp;try go_bits
   exact kz _ rfl
  apply GChV.v1
  ·rfl
  ·intro K' a wy ho hd hb hK kz;have o3:=ho 3 (by decide);simp [slot] at o3;clear hd ho;go_simp;try go_bits
   exact kz _ rfl
  apply GChV.v2
  ·rfl
  ·intro K' a wy ho hd hb hK kz;have q1:=hd ⟨1,.data⟩ (by simp) rfl;simp [rAt,IsV,slot] at q1;clear hd ho;have hst:=HCP.out wy hb;have HHk:=hst.at mE0;obtain ⟨k0,k1,k2,k3,k4⟩:=HHk.c5;clear HHk;have HHl:=hst.at mE1;obtain ⟨l0,l1,l2,l3,l4⟩:=HHl.c5;clear HHl;clear hst;go_simp;try go_bits
   exact kz _ rfl
  apply GChV.v3
  ·rfl
  ·intro K' a wy ho hd hb hK kz;have q2:=hd ⟨2,.data⟩ (by simp) rfl;simp [rAt,IsV,slot] at q2;clear hd ho;go_simp;refine (HPL.out wy).mono ?_;rintro e wz ⟨rfl,hz⟩;exact hK _ _ rfl hz
  apply GChV.v4
  ·rfl
  ·intro K' a wy ho hd hb hK kz;have q0:=hd ⟨0,.data⟩ (by simp) rfl;have q3:=hd ⟨3,.data⟩ (by simp) rfl;simp [rAt,IsV,slot] at q0 q3;clear hd ho;go_simp;try go_bits
   exact kz _ rfl
  apply GChV.v5
  ·rfl
  ·intro K' a wy ho hd hb hK kz;have o3:=ho 3 (by decide);simp [slot] at o3;clear hd ho;have hst:=HCP.out wy hb;have HHk:=hst.at mE0;obtain ⟨k0,k1,k2,k3,k4⟩:=HHk.c5;clear HHk;have HHl:=hst.at mE1;obtain ⟨l0,l1,l2,l3,l4⟩:=HHl.c5;clear HHl;clear hst;go_simp;try go_bits
   exact kz _ rfl
  apply GChV.v6
  ·rfl
  ·intro K' a wy ho hd hb hK kz;have o4:=ho 4 (by decide);simp [slot] at o4;clear hd ho;have hst:=HCP.out wy hb;have HHk:=hst.at mE0;obtain ⟨k0,k1,k2,k3,k4⟩:=HHk.c5;clear HHk;have HHl:=hst.at mE1;obtain ⟨l0,l1,l2,l3,l4⟩:=HHl.c5;clear HHl;clear hst;go_simp;try go_bits
   exact kz _ rfl
  apply GChV.v7
  ·rfl
  ·intro K' a wy ho hd hb hK kz;have o2:=ho 2 (by decide);simp [slot] at o2;clear hd ho;go_simp;try go_bits
   exact kz _ rfl
  apply GChV.v8
  ·rfl
  ·intro K' a wy ho hd hb hK kz;have o8:=ho 8 (by decide);simp [slot] at o8;clear hd ho;go_simp;try go_bits
   exact kz _ rfl
  apply GChV.v9
  ·rfl
  ·intro K' a wy ho hd hb hK kz;have q8:=hd ⟨8,.data⟩ (by simp) rfl;simp [rAt,IsV,slot] at q8;clear hd ho;have hcv:(convert 137 9 (.slice (some ⟨b,0,none⟩) t.size cap)).run Tryz.prog wy=.ok (.string uu) wy:=by rw [← hs1]; exact hold_str (HGP.out wy hb)
   go_simp;try go_bits
   exact kz _ rfl
  apply GChV.v10
  ·rfl
  ·intro K' a wy ho hd hb hK kz;have q5:=hd ⟨5,.data⟩ (by simp) rfl;have q6:=hd ⟨6,.data⟩ (by simp) rfl;have q7:=hd ⟨7,.data⟩ (by simp) rfl;have q9:=hd ⟨9,.data⟩ (by simp) rfl;simp [rAt,IsV,slot] at q5 q6 q7 q9;clear hd ho;go_simp;refine (HCK.out wy).mono ?_;rintro e wz ⟨rfl,hz⟩;exact hK _ _ rfl hz
  refine GChV.rel (n:=11) (IsWords [nc]) (stable_isWords _) [_,_,_,_,_,_,_,_,_,_,_,IsWords [nc]] rfl rfl ?_ ?_
  ·intro K' a wy ho hd hb hK;rw [wN rfl];have q10:=hd ⟨10,.data⟩ (by simp) rfl;simp [rAt,IsV,slot] at q10;clear hd ho;go_simp;exact hK _ _ ⟨wy.heap.size,rfl,by simp,fun k hk=>by
    simp only [List.length_cons,List.length_nil] at hk;match k,hk with
    | 0,_=>simp⟩ ((Below.refl _ _).alloc (Nat.le_refl _) _)
  refine GChV.rel (n:=12) (IsOwn w.heap.size 5 2 (strCells (twoV nc))) (stable_isOwn _ _ _ _) [_,_,_,_,_,_,_,_,_,_,_,_,IsOwn w.heap.size 5 2 (strCells (twoV nc))] rfl rfl ?_ ?_
  ·intro K' a wy ho hd hb hK;rw [wN rfl];have hr:IsWords [nc] (slot a 73) wy:=hd ⟨11,.data⟩ (by simp) rfl;obtain ⟨b4,e1,e2,e3⟩:=hr;simp [slot] at e1;clear hd ho;go_simp;refine (layWords_any [nc] b4 1 1 wy (by decide) e2 rfl (getD_word _ (by simp only [List.forall_mem_cons,List.not_mem_nil,false_imp_iff,implies_true,and_true]; omega)) e3).mono ?_;rintro e wz ⟨rfl,hown,hz⟩;exact hK _ _ ⟨_,rfl,owns_base (by rw [← HL1.out]; exact hown) (Nat.le_trans hlw2 hb.size)⟩ hz
  intro X wz hR hz;obtain ⟨x0,x1,x2,x3,x4,x5,x6,x7,x8,x9,x10,x11,x12,-⟩:=hR;obtain ⟨b4,e4,-,-⟩:=x11;obtain ⟨g5,e5,own5⟩:=x12;simp only [IsV] at x0 x1 x2 x3 x4 x5 x6 x7 x8 x9 x10;simp only [putsFrom,x0,x1,x2,x3,x4,x5,x6,x7,x8,x9,x10,e4,e5];clear x0 x1 x2 x3 x4 x5 x6 x7 x8 x9 x10;rw [e5] at own5;have hgz:=HGP.out wz hz;have hrun:=run_lay_more (P:=Tryz.prog) (dCap:=cap-pl) 137 137 3 5 Tryz.underlying137 hinfo hgz (o:=pl) (by omega) (dLen:=t.size-pl) (by omega) z2.symm own5;rw [z2] at hrun;have HN2:Hid (HoldsL (wz.setCells b pl (strCells (twoV nc))) b (strCells (putV uu pl (twoV nc)))):=lay_put hgz (by omega);have HB2:Hid (Bxs w [(w.heap.size,(FlR proto src dst sp dp)),(w.heap.size+1,(FlR proto' src' dst' sp' dp')),(w.heap.size+1+1,[.string ⟨#[]⟩,iV 0])] (wz.setCells b pl (strCells (twoV nc)))):=(HCP.out wz hz).cells (fun e he=>by
   simp only [List.mem_cons,List.not_mem_nil,or_false] at he;rcases he with rfl | rfl | rfl<;>(show _≠b; omega)) hbw
  clear hgz own5 hz HCP HGP;intro K10 hK10;go_simp;refine hK10 _ _ ?_;show Exit.then _ _ _ _ _;refine hK2 _ _ (hJ _ _ ?_);(repeat apply Exists.intro)
  exact ⟨⟨HN2.out,HB2.out⟩,rfl⟩
 case rest =>
 obtain ⟨hG,hS⟩:=hcut;have T3:Hid _:=hG;have S3:Hid (Bxs w [(w.heap.size,(FlR proto src dst sp dp)),(w.heap.size+1,(FlR proto' src' dst' sp' dp')),(w.heap.size+1+1,[.string ⟨#[]⟩,iV 0])] wc):=hS;clear hG hS S2 T2 HCK HPL HL1;generalize wc=W3 at *;have hsz3:(putV uu pl (twoV nc)).size=t.size:=by rw [putV_size (by omega)]; exact hs1
 generalize putV uu pl (twoV nc)=vv at *;have hcv:(convert 137 9 (.slice (some ⟨b,0,none⟩) t.size cap)).run Tryz.prog W3=.ok (.string vv) W3:=by rw [← hsz3]; exact hold_str T3.out
 have HX:Hid (ans=dtCO vv 0):=HC0.out;have HHz:=S3.out.at mE2;obtain ⟨z0,z1⟩:=HHz.c2;obtain ⟨zf0,zf1⟩:=HHz.f2;have HRR:Hid (HoldsL ((sW W3 (w.heap.size+1+1) 0 (.string vv)).setCell ⟨w.heap.size+1+1,1,none⟩ (iV 0)) (w.heap.size+1+1) [.string vv,iV 0]):=((HHz.set 0 (.string vv)).set 1 (iV 0));have RB:Hid _:=((S3.out.b.setCell (p:=⟨w.heap.size+1+1,0,none⟩) hRw (.string vv)).setCell (p:=⟨w.heap.size+1+1,1,none⟩) hRw (iV 0));clear HHz;clear HC0 T3;go_wp2_with fail
 exact bodyPost_ret (results_mid Tryz.results115 _ _ _ _ _ rfl HRR.out Tryz.underlying99 rfl (show (Tryz.prog.info? 99).map (·.size)=some 2 by kernel_rfl)) rfl (And.intro (by rw [HX.out]; rfl) RB.out)
end Go.Proofs.YtcckaeppiamebaaGreatDoor
namespace Go.Proofs.YtcckaeppiamebaaGreatDoor
open Go.RowKit Go.PlainAid
theorem copyFour_any (p:P4) (w:World) (h1:p.src.size≤1048576) (h2:p.dst.size≤1048576) (h3:p.opts.size≤1048576) (h4:p.data.size≤1048576) :
  Cb 114 #[p4C p] w (p4C p):=by
 have H1:Hid (∀ W,Cb 154 #[.string p.src] W (.string p.src)):=fun W=>cloneS_any _ W h1
 have H2:Hid (∀ W,Cb 154 #[.string p.dst] W (.string p.dst)):=fun W=>cloneS_any _ W h2
 have H3:Hid (∀ W,Cb 154 #[.string p.opts] W (.string p.opts)):=fun W=>cloneS_any _ W h3
 have H4:Hid (∀ W,Cb 154 #[.string p.data] W (.string p.data)):=fun W=>cloneS_any _ W h4
 have S0:Hid (Bxs w [(w.heap.size+1,(P4R 0 0 false false 0 0 0 ⟨#[]⟩ ⟨#[]⟩ ⟨#[]⟩ ⟨#[]⟩)),(w.heap.size,(P4V p))] ((aW w (P4V p) 40).alloc (.cells (P4R 0 0 false false 0 0 0 ⟨#[]⟩ ⟨#[]⟩ ⟨#[]⟩ ⟨#[]⟩).toArray 40))):=by
  have h:=((⟨fun e he=>(by cases he),Below.refl _ _,fun e he=>(by cases he)⟩ : Bxs w [] w).push (P4V p) (by simp) 40).push (P4R 0 0 false false 0 0 0 ⟨#[]⟩ ⟨#[]⟩ ⟨#[]⟩ ⟨#[]⟩) (by simp) 40;rw [World.size_alloc] at h;exact h
 clear h1 h2 h3 h4;unfold p4C;go_enter Tryz.func114,Tryz.ntmps114
 go_upto_region 1 with fail
 generalize ((aW w (P4V p) 40).alloc (.cells (P4R 0 0 false false 0 0 0 ⟨#[]⟩ ⟨#[]⟩ ⟨#[]⟩ ⟨#[]⟩).toArray 40))=W0 at *;go_cut [3] (fun v wx=>Bxs w [(w.heap.size+1,(P4R 0 0 false false 0 0 0 ⟨#[]⟩ ⟨#[]⟩ ⟨#[]⟩ ⟨#[]⟩)),(w.heap.size,(P4V p))] wx)
 case first =>
  rename_i J K2 hJ hK2;have HCP:Hid (∀ wy,Below W0.drew.heap.size W0.drew wy→_):=fun wy hy=>S0.out.kept ((Below.refl _ _).drew.trans hy)
  refine wp_region_growV [3,4,5,6,7,8,9] (by kernel_rfl) (by kernel_rfl) ?_;refine GChV.val (n:=0) (fun v=>[IsV v]) (fun _=>rfl) rfl ?_;apply Exists.intro;refine And.intro ?_ ?_
  ·intro K' a wy ho hd hb hK;rw [wN rfl];have o1:=ho 1 (by decide);simp [slot] at o1;clear hd ho;go_simp;try go_bits
   exact hK _ _ rfl (Below.refl _ _)
  refine GChV.val (n:=1) (fun v=>[_,IsV v]) (fun _=>rfl) rfl ?_;apply Exists.intro;refine And.intro ?_ ?_
  ·intro K' a wy ho hd hb hK;rw [wN rfl];have q0:=hd ⟨0,.data⟩ (by simp) rfl;simp [rAt,IsV,slot] at q0;clear hd ho;have HHq:HoldsL wy w.heap.size (P4V p):=(HCP.out wy hb).k _ mE1;obtain ⟨k0,k1,k2,k3,k4,k5,k6,k7,k8,k9,k10⟩:=HHq.c11;clear HHq;go_simp;try go_bits
   exact hK _ _ rfl (Below.refl _ _)
  refine GChV.val (n:=2) (fun v=>[_,_,IsV v]) (fun _=>rfl) rfl ?_;apply Exists.intro;refine And.intro ?_ ?_
  ·intro K' a wy ho hd hb hK;rw [wN rfl];have q1:=hd ⟨1,.data⟩ (by simp) rfl;simp [rAt,IsV,slot] at q1;clear hd ho;go_simp;refine (H1.out wy).mono ?_;rintro e wz ⟨rfl,hz⟩;exact hK _ _ rfl hz
  refine GChV.val (n:=3) (fun v=>[_,_,_,IsV v]) (fun _=>rfl) rfl ?_;apply Exists.intro;refine And.intro ?_ ?_
  ·intro K' a wy ho hd hb hK;rw [wN rfl];have o1:=ho 1 (by decide);simp [slot] at o1;clear hd ho;go_simp;try go_bits
   exact hK _ _ rfl (Below.refl _ _)
  refine GChV.val (n:=4) (fun v=>[_,_,_,_,IsV v]) (fun _=>rfl) rfl ?_;apply Exists.intro;refine And.intro ?_ ?_
  ·intro K' a wy ho hd hb hK;rw [wN rfl];have q3:=hd ⟨3,.data⟩ (by simp) rfl;simp [rAt,IsV,slot] at q3;clear hd ho;have HHq:HoldsL wy w.heap.size (P4V p):=(HCP.out wy hb).k _ mE1;obtain ⟨k0,k1,k2,k3,k4,k5,k6,k7,k8,k9,k10⟩:=HHq.c11;clear HHq;go_simp;try go_bits
   exact hK _ _ rfl (Below.refl _ _)
  refine GChV.val (n:=5) (fun v=>[_,_,_,_,_,IsV v]) (fun _=>rfl) rfl ?_;apply Exists.intro;refine And.intro ?_ ?_
  ·intro K' a wy ho hd hb hK;rw [wN rfl];have q4:=hd ⟨4,.data⟩ (by simp) rfl;simp [rAt,IsV,slot] at q4;clear hd ho;go_simp;refine (H2.out wy).mono ?_;rintro e wz ⟨rfl,hz⟩;exact hK _ _ rfl hz
  refine GChV.val (n:=6) (fun v=>[_,_,_,_,_,_,IsV v]) (fun _=>rfl) rfl ?_;apply Exists.intro;refine And.intro ?_ ?_
  ·intro K' a wy ho hd hb hK;rw [wN rfl];have o1:=ho 1 (by decide);simp [slot] at o1;clear hd ho;go_simp;try go_bits
   exact hK _ _ rfl (Below.refl _ _)
  intro X wz hR hz;obtain ⟨x0,x1,x2,x3,x4,x5,x6,-⟩:=hR;simp only [IsV] at x0 x1 x2 x3 x4 x5 x6;simp only [putsFrom,x0,x1,x2,x3,x4,x5,x6];clear x0 x1 x2 x3 x4 x5 x6;have hS:=HCP.out wz hz;have HHq:=hS.at mE1;have fi:=HHq.free (j:=7) (by simp);have fj:=HHq.free (j:=8) (by simp);have ki:=HHq.cell (j:=7) rfl;have kj:=HHq.cell (j:=8) rfl;have HS:Hid (Bxs w [(w.heap.size+1,(P4R 0 0 false false 0 0 0 ⟨#[]⟩ ⟨#[]⟩ ⟨#[]⟩ ⟨#[]⟩)),(w.heap.size,(P4V p))] wz):=hS;clear hS HHq;intro K10 hK10;go_simp;refine hK10 _ _ ?_;intro K11 hK11;go_simp;refine hK11 _ _ ?_;intro K12 hK12;go_simp;refine hK12 _ _ ?_;show Exit.then _ _ _ _ _;refine hK2 _ _ (hJ _ _ ?_);(repeat apply Exists.intro)
  refine ⟨⟨fun e he=>?_,(HS.out.b.setCell (p:=⟨w.heap.size,7,none⟩) (Nat.le_refl _) _).setCell (p:=⟨w.heap.size,8,none⟩) (Nat.le_refl _) _,HS.out.z⟩,rfl⟩;simp only [List.mem_cons,List.not_mem_nil,or_false] at he;rcases he with rfl | rfl
  ·exact ((HS.out.k _ mE0).setOther (by show w.heap.size+1≠w.heap.size; omega) _).setOther (by show w.heap.size+1≠w.heap.size; omega) _
  ·exact ((HS.out.k _ mE1).set 7 (.string p.src)).set 8 (.string p.dst)
 case rest =>
 have S1:Hid (Bxs w [(w.heap.size+1,(P4R 0 0 false false 0 0 0 ⟨#[]⟩ ⟨#[]⟩ ⟨#[]⟩ ⟨#[]⟩)),(w.heap.size,(P4V p))] wc):=hcut;clear hcut S0;generalize wc=W1 at *;go_upto_region 2 with fail
 go_cut [11] (fun v wx=>Bxs w [(w.heap.size+1,(P4R 0 0 false false 0 0 0 ⟨#[]⟩ ⟨#[]⟩ ⟨#[]⟩ ⟨#[]⟩)),(w.heap.size,(P4V p))] wx)
 case first =>
  rename_i J K2 hJ hK2;have HCP:Hid (∀ wy,Below W1.drew.heap.size W1.drew wy→_):=fun wy hy=>S1.out.kept ((Below.refl _ _).drew.trans hy)
  refine wp_region_growV [11,12,13,14,15,16,17] (by kernel_rfl) (by kernel_rfl) ?_;refine GChV.val (n:=0) (fun v=>[IsV v]) (fun _=>rfl) rfl ?_;apply Exists.intro;refine And.intro ?_ ?_
  ·intro K' a wy ho hd hb hK;rw [wN rfl];have o1:=ho 1 (by decide);simp [slot] at o1;clear hd ho;go_simp;try go_bits
   exact hK _ _ rfl (Below.refl _ _)
  refine GChV.val (n:=1) (fun v=>[_,IsV v]) (fun _=>rfl) rfl ?_;apply Exists.intro;refine And.intro ?_ ?_
  ·intro K' a wy ho hd hb hK;rw [wN rfl];have q0:=hd ⟨0,.data⟩ (by simp) rfl;simp [rAt,IsV,slot] at q0;clear hd ho;have HHq:HoldsL wy w.heap.size (P4V p):=(HCP.out wy hb).k _ mE1;obtain ⟨k0,k1,k2,k3,k4,k5,k6,k7,k8,k9,k10⟩:=HHq.c11;clear HHq;go_simp;try go_bits
   exact hK _ _ rfl (Below.refl _ _)
  refine GChV.val (n:=2) (fun v=>[_,_,IsV v]) (fun _=>rfl) rfl ?_;apply Exists.intro;refine And.intro ?_ ?_
  ·intro K' a wy ho hd hb hK;rw [wN rfl];have q1:=hd ⟨1,.data⟩ (by simp) rfl;simp [rAt,IsV,slot] at q1;clear hd ho;go_simp;refine (H3.out wy).mono ?_;rintro e wz ⟨rfl,hz⟩;exact hK _ _ rfl hz
  refine GChV.val (n:=3) (fun v=>[_,_,_,IsV v]) (fun _=>rfl) rfl ?_;apply Exists.intro;refine And.intro ?_ ?_
  ·intro K' a wy ho hd hb hK;rw [wN rfl];have o1:=ho 1 (by decide);simp [slot] at o1;clear hd ho;go_simp;try go_bits
   exact hK _ _ rfl (Below.refl _ _)
  refine GChV.val (n:=4) (fun v=>[_,_,_,_,IsV v]) (fun _=>rfl) rfl ?_;apply Exists.intro;refine And.intro ?_ ?_
  ·intro K' a wy ho hd hb hK;rw [wN rfl];have q3:=hd ⟨3,.data⟩ (by simp) rfl;simp [rAt,IsV,slot] at q3;clear hd ho;have HHq:HoldsL wy w.heap.size (P4V p):=(HCP.out wy hb).k _ mE1;obtain ⟨k0,k1,k2,k3,k4,k5,k6,k7,k8,k9,k10⟩:=HHq.c11;clear HHq;go_simp;try go_bits
   exact hK _ _ rfl (Below.refl _ _)
  refine GChV.val (n:=5) (fun v=>[_,_,_,_,_,IsV v]) (fun _=>rfl) rfl ?_;apply Exists.intro;refine And.intro ?_ ?_
  ·intro K' a wy ho hd hb hK;rw [wN rfl];have q4:=hd ⟨4,.data⟩ (by simp) rfl;simp [rAt,IsV,slot] at q4;clear hd ho;go_simp;refine (H4.out wy).mono ?_;rintro e wz ⟨rfl,hz⟩;exact hK _ _ rfl hz
  refine GChV.val (n:=6) (fun v=>[_,_,_,_,_,_,IsV v]) (fun _=>rfl) rfl ?_;apply Exists.intro;refine And.intro ?_ ?_
  ·intro K' a wy ho hd hb hK;rw [wN rfl];have o1:=ho 1 (by decide);simp [slot] at o1;clear hd ho;go_simp;try go_bits
   exact hK _ _ rfl (Below.refl _ _)
  intro X wz hR hz;obtain ⟨x0,x1,x2,x3,x4,x5,x6,-⟩:=hR;simp only [IsV] at x0 x1 x2 x3 x4 x5 x6;simp only [putsFrom,x0,x1,x2,x3,x4,x5,x6];clear x0 x1 x2 x3 x4 x5 x6;have hS:=HCP.out wz hz;have HHq:=hS.at mE1;have fi:=HHq.free (j:=9) (by simp);have fj:=HHq.free (j:=10) (by simp);have ki:=HHq.cell (j:=9) rfl;have kj:=HHq.cell (j:=10) rfl;have HS:Hid (Bxs w [(w.heap.size+1,(P4R 0 0 false false 0 0 0 ⟨#[]⟩ ⟨#[]⟩ ⟨#[]⟩ ⟨#[]⟩)),(w.heap.size,(P4V p))] wz):=hS;clear hS HHq;intro K10 hK10;go_simp;refine hK10 _ _ ?_;intro K11 hK11;go_simp;refine hK11 _ _ ?_;intro K12 hK12;go_simp;refine hK12 _ _ ?_;show Exit.then _ _ _ _ _;refine hK2 _ _ (hJ _ _ ?_);(repeat apply Exists.intro)
  refine ⟨⟨fun e he=>?_,(HS.out.b.setCell (p:=⟨w.heap.size,9,none⟩) (Nat.le_refl _) _).setCell (p:=⟨w.heap.size,10,none⟩) (Nat.le_refl _) _,HS.out.z⟩,rfl⟩;simp only [List.mem_cons,List.not_mem_nil,or_false] at he;rcases he with rfl | rfl
  ·exact ((HS.out.k _ mE0).setOther (by show w.heap.size+1≠w.heap.size; omega) _).setOther (by show w.heap.size+1≠w.heap.size; omega) _
  ·exact ((HS.out.k _ mE1).set 9 (.string p.opts)).set 10 (.string p.data)
 case rest =>
 have S2:Hid (Bxs w [(w.heap.size+1,(P4R 0 0 false false 0 0 0 ⟨#[]⟩ ⟨#[]⟩ ⟨#[]⟩ ⟨#[]⟩)),(w.heap.size,(P4V p))] wc):=hcut;clear hcut S1;generalize wc=W2 at *;have HHq:=S2.out.at mE1;obtain ⟨k0,k1,k2,k3,k4,k5,k6,k7,k8,k9,k10⟩:=HHq.c11;clear HHq;have HHq:=S2.out.at mE0;obtain ⟨z0,z1,z2,z3,z4,z5,z6,z7,z8,z9,z10⟩:=HHq.c11;obtain ⟨zf0,zf1,zf2,zf3,zf4,zf5,zf6,zf7,zf8,zf9,zf10⟩:=HHq.f11;clear HHq;have HBE:Hid (Below w.heap.size w ((sW (sW (sW (sW (sW (sW (sW (sW (sW (sW W2 (w.heap.size+1) 0 (iV p.tos)) (w.heap.size+1) 1 (iV p.id)) (w.heap.size+1) 2 (.bool p.whole)) (w.heap.size+1) 3 (.bool p.more)) (w.heap.size+1) 4 (iV p.off)) (w.heap.size+1) 5 (iV p.ttl)) (w.heap.size+1) 6 (iV p.proto)) (w.heap.size+1) 7 (.string p.src)) (w.heap.size+1) 8 (.string p.dst)) (w.heap.size+1) 9 (.string p.opts)).setCell ⟨w.heap.size+1,10,none⟩ (.string p.data))):=(((((((((((S2.out.b.setCell (p:=⟨w.heap.size+1,0,none⟩) (Nat.le_succ _) _).setCell (p:=⟨w.heap.size+1,1,none⟩) (Nat.le_succ _) _).setCell (p:=⟨w.heap.size+1,2,none⟩) (Nat.le_succ _) _).setCell (p:=⟨w.heap.size+1,3,none⟩) (Nat.le_succ _) _).setCell (p:=⟨w.heap.size+1,4,none⟩) (Nat.le_succ _) _).setCell (p:=⟨w.heap.size+1,5,none⟩) (Nat.le_succ _) _).setCell (p:=⟨w.heap.size+1,6,none⟩) (Nat.le_succ _) _).setCell (p:=⟨w.heap.size+1,7,none⟩) (Nat.le_succ _) _).setCell (p:=⟨w.heap.size+1,8,none⟩) (Nat.le_succ _) _).setCell (p:=⟨w.heap.size+1,9,none⟩) (Nat.le_succ _) _).setCell (p:=⟨w.heap.size+1,10,none⟩) (Nat.le_succ _) _);clear S2;go_wp2_with fail
 exact bodyPost_ret (v:=.agg (P4V p).toArray) (by simp [results,Tryz.results114,go_sem,z0,z1,z2,z3,z4,z5,z6,z7,z8,z9,z10]) rfl ⟨rfl,HBE.out⟩
theorem asFlow_any (q:P4) (f g:Fl) (d:ByteArray) (c:Int) (w:World) (h1:q.src.size≤1048576) (h2:q.dst.size≤1048576) (h3:q.opts.size≤1048576) (h4:q.data.size≤1048576)
  (HS:Hid (∀ W,Cb 115 #[fwC f,fwC g,.string q.data] W (dtCO d c))) :
  Cb 63 #[p4C q,fwC f,fwC g] w (p4C { q with src:=g.src,dst:=g.dst,data:=d }):=by
 have HC:Hid (∀ W,Cb 114 #[p4C q] W (p4C q)):=fun W=>copyFour_any q W h1 h2 h3 h4
 have S0:Hid (Bxs w [(w.heap.size+1+1+1,(P4R 0 0 false false 0 0 0 ⟨#[]⟩ ⟨#[]⟩ ⟨#[]⟩ ⟨#[]⟩)),(w.heap.size+1+1,(FlV g)),(w.heap.size+1,(FlV f)),(w.heap.size,(P4V q))] ((aW (aW (aW w (P4V q) 40) (FlV f) 91) (FlV g) 91).alloc (.cells (P4R 0 0 false false 0 0 0 ⟨#[]⟩ ⟨#[]⟩ ⟨#[]⟩ ⟨#[]⟩).toArray 40))):=by
  have h:=((((⟨fun e he=>(by cases he),Below.refl _ _,fun e he=>(by cases he)⟩ : Bxs w [] w).push (P4V q) (by simp) 40).push (FlV f) (by simp) 91).push (FlV g) (by simp) 91).push (P4R 0 0 false false 0 0 0 ⟨#[]⟩ ⟨#[]⟩ ⟨#[]⟩ ⟨#[]⟩) (by simp) 40;simp only [World.size_alloc] at h;exact h
 clear h1 h2 h3 h4;unfold p4C fwC dtCO at *;go_enter Tryz.func63,Tryz.ntmps63
 go_upto_region 1 with fail
 generalize ((aW (aW (aW w (P4V q) 40) (FlV f) 91) (FlV g) 91).alloc (.cells (P4R 0 0 false false 0 0 0 ⟨#[]⟩ ⟨#[]⟩ ⟨#[]⟩ ⟨#[]⟩).toArray 40))=W0 at *;have HHq:=S0.out.at mE3;obtain ⟨k0,k1,k2,k3,k4,k5,k6,k7,k8,k9,k10⟩:=HHq.c11;clear HHq;go_wp2_with fail
 refine (HC.out W0).mono ?_;rintro e w1 ⟨rfl,qx⟩;have S1:Hid (Bxs w [(w1.heap.size,(P4V q)),(w.heap.size+1+1+1,(P4R 0 0 false false 0 0 0 ⟨#[]⟩ ⟨#[]⟩ ⟨#[]⟩ ⟨#[]⟩)),(w.heap.size+1+1,(FlV g)),(w.heap.size+1,(FlV f)),(w.heap.size,(P4V q))] (w1.alloc (.cells (P4V q).toArray 40))):=(S0.out.kept qx).push (P4V q) (by simp) 40;have hn:w.heap.size+1+1+1 < w1.heap.size:=((S0.out.kept qx).k _ mE0).lt (by simp);clear S0 qx HC k0 k1 k2 k3 k4 k5 k6 k7 k8 k9 k10;go_upto_region 2 with fail
 generalize (w1.alloc (.cells (P4V q).toArray 40))=W1 at *;generalize w1.heap.size=Nb at *;go_cut [10] (fun v wx=>Bxs w [(Nb,(P4R q.tos q.id q.whole q.more q.off q.ttl q.proto g.src g.dst q.opts d)),(w.heap.size+1+1+1,(P4R 0 0 false false 0 0 0 ⟨#[]⟩ ⟨#[]⟩ ⟨#[]⟩ ⟨#[]⟩)),(w.heap.size+1+1,(FlV g)),(w.heap.size+1,(FlV f)),(w.heap.size,(P4V q))] wx)
 case first =>
  have e0:w.heap.size≠Nb:=by omega
  have e1:w.heap.size+1≠Nb:=by omega
  have e2:w.heap.size+1+1≠Nb:=by omega
  have e3:Nb≠w.heap.size:=by omega
  have e4:Nb≠w.heap.size+1:=by omega
  have e5:Nb≠w.heap.size+1+1:=by omega
  have kq:W1.cell? ⟨w.heap.size,10,none⟩=some (.string q.data):=(S1.out.k _ mE4:HoldsL W1 (w.heap.size) (P4V q)).cell rfl;have kf0:W1.cell? ⟨w.heap.size+1,0,none⟩=some (iV f.proto):=(S1.out.k _ mE3:HoldsL W1 (w.heap.size+1) (FlV f)).cell rfl;have kf1:W1.cell? ⟨w.heap.size+1,1,none⟩=some (.string f.src):=(S1.out.k _ mE3:HoldsL W1 (w.heap.size+1) (FlV f)).cell rfl;have kf2:W1.cell? ⟨w.heap.size+1,2,none⟩=some (.string f.dst):=(S1.out.k _ mE3:HoldsL W1 (w.heap.size+1) (FlV f)).cell rfl;have kf3:W1.cell? ⟨w.heap.size+1,3,none⟩=some (iV f.sp):=(S1.out.k _ mE3:HoldsL W1 (w.heap.size+1) (FlV f)).cell rfl;have kf4:W1.cell? ⟨w.heap.size+1,4,none⟩=some (iV f.dp):=(S1.out.k _ mE3:HoldsL W1 (w.heap.size+1) (FlV f)).cell rfl;have kg0:W1.cell? ⟨w.heap.size+1+1,0,none⟩=some (iV g.proto):=(S1.out.k _ mE2:HoldsL W1 (w.heap.size+1+1) (FlV g)).cell rfl;have kg1:W1.cell? ⟨w.heap.size+1+1,1,none⟩=some (.string g.src):=(S1.out.k _ mE2:HoldsL W1 (w.heap.size+1+1) (FlV g)).cell rfl;have kg2:W1.cell? ⟨w.heap.size+1+1,2,none⟩=some (.string g.dst):=(S1.out.k _ mE2:HoldsL W1 (w.heap.size+1+1) (FlV g)).cell rfl;have kg3:W1.cell? ⟨w.heap.size+1+1,3,none⟩=some (iV g.sp):=(S1.out.k _ mE2:HoldsL W1 (w.heap.size+1+1) (FlV g)).cell rfl;have kg4:W1.cell? ⟨w.heap.size+1+1,4,none⟩=some (iV g.dp):=(S1.out.k _ mE2:HoldsL W1 (w.heap.size+1+1) (FlV g)).cell rfl;have kn7:W1.cell? ⟨Nb,7,none⟩=some (.string q.src):=(S1.out.k _ mE0:HoldsL W1 Nb (P4V q)).cell rfl;have km7:W1.frozen? ⟨Nb,7,none⟩=false:=(S1.out.k _ mE0:HoldsL W1 Nb (P4V q)).free (j:=7) (by simp);have kn8:W1.cell? ⟨Nb,8,none⟩=some (.string q.dst):=(S1.out.k _ mE0:HoldsL W1 Nb (P4V q)).cell rfl;have km8:W1.frozen? ⟨Nb,8,none⟩=false:=(S1.out.k _ mE0:HoldsL W1 Nb (P4V q)).free (j:=8) (by simp);have kn10:W1.cell? ⟨Nb,10,none⟩=some (.string q.data):=(S1.out.k _ mE0:HoldsL W1 Nb (P4V q)).cell rfl
  have km10:W1.frozen? ⟨Nb,10,none⟩=false:=(S1.out.k _ mE0:HoldsL W1 Nb (P4V q)).free (j:=10) (by simp);have hfd:∀ W,(Instr.field 99 (.agg #[.string d,iV c]) 0).run Tryz.prog W=.ok (.string d) W:=fun W=>by kernel_rfl
  go_region_held (fun wy=>wy.cell? ⟨w.heap.size,10,none⟩=some (.string q.data)∧wy.cell? ⟨w.heap.size+1,0,none⟩=some (iV f.proto)∧wy.cell? ⟨w.heap.size+1,1,none⟩=some (.string f.src)∧wy.cell? ⟨w.heap.size+1,2,none⟩=some (.string f.dst)∧wy.cell? ⟨w.heap.size+1,3,none⟩=some (iV f.sp)∧wy.cell? ⟨w.heap.size+1,4,none⟩=some (iV f.dp)∧wy.cell? ⟨w.heap.size+1+1,0,none⟩=some (iV g.proto)∧wy.cell? ⟨w.heap.size+1+1,1,none⟩=some (.string g.src)∧wy.cell? ⟨w.heap.size+1+1,2,none⟩=some (.string g.dst)∧wy.cell? ⟨w.heap.size+1+1,3,none⟩=some (iV g.sp)∧wy.cell? ⟨w.heap.size+1+1,4,none⟩=some (iV g.dp)) (go_keep) (first | (go_at_call 115; refine (HS.out _).mono ?_; rintro e w5 ⟨rfl,qx⟩; have S5:Hid _:=S1.out.kept ((Below.refl _ _).drew.trans qx); clear qx; have lq:w5.cell? ⟨w.heap.size,10,none⟩=some (.string q.data):=(S5.out.k _ mE4:HoldsL w5 (w.heap.size) (P4V q)).cell rfl; have lf0:w5.cell? ⟨w.heap.size+1,0,none⟩=some (iV f.proto):=(S5.out.k _ mE3:HoldsL w5 (w.heap.size+1) (FlV f)).cell rfl; have lf1:w5.cell? ⟨w.heap.size+1,1,none⟩=some (.string f.src):=(S5.out.k _ mE3:HoldsL w5 (w.heap.size+1) (FlV f)).cell rfl; have lf2:w5.cell? ⟨w.heap.size+1,2,none⟩=some (.string f.dst):=(S5.out.k _ mE3:HoldsL w5 (w.heap.size+1) (FlV f)).cell rfl; have lf3:w5.cell? ⟨w.heap.size+1,3,none⟩=some (iV f.sp):=(S5.out.k _ mE3:HoldsL w5 (w.heap.size+1) (FlV f)).cell rfl; have lf4:w5.cell? ⟨w.heap.size+1,4,none⟩=some (iV f.dp):=(S5.out.k _ mE3:HoldsL w5 (w.heap.size+1) (FlV f)).cell rfl; have lg0:w5.cell? ⟨w.heap.size+1+1,0,none⟩=some (iV g.proto):=(S5.out.k _ mE2:HoldsL w5 (w.heap.size+1+1) (FlV g)).cell rfl; have lg1:w5.cell? ⟨w.heap.size+1+1,1,none⟩=some (.string g.src):=(S5.out.k _ mE2:HoldsL w5 (w.heap.size+1+1) (FlV g)).cell rfl; have lg2:w5.cell? ⟨w.heap.size+1+1,2,none⟩=some (.string g.dst):=(S5.out.k _ mE2:HoldsL w5 (w.heap.size+1+1) (FlV g)).cell rfl; have lg3:w5.cell? ⟨w.heap.size+1+1,3,none⟩=some (iV g.sp):=(S5.out.k _ mE2:HoldsL w5 (w.heap.size+1+1) (FlV g)).cell rfl; have lg4:w5.cell? ⟨w.heap.size+1+1,4,none⟩=some (iV g.dp):=(S5.out.k _ mE2:HoldsL w5 (w.heap.size+1+1) (FlV g)).cell rfl; have ln7:w5.cell? ⟨Nb,7,none⟩=some (.string q.src):=(S5.out.k _ mE0:HoldsL w5 Nb (P4V q)).cell rfl; have lm7:w5.frozen? ⟨Nb,7,none⟩=false:=(S5.out.k _ mE0:HoldsL w5 Nb (P4V q)).free (j:=7) (by simp); have ln8:w5.cell? ⟨Nb,8,none⟩=some (.string q.dst):=(S5.out.k _ mE0:HoldsL w5 Nb (P4V q)).cell rfl; have lm8:w5.frozen? ⟨Nb,8,none⟩=false:=(S5.out.k _ mE0:HoldsL w5 Nb (P4V q)).free (j:=8) (by simp); have ln10:w5.cell? ⟨Nb,10,none⟩=some (.string q.data):=(S5.out.k _ mE0:HoldsL w5 Nb (P4V q)).cell rfl; have lm10:w5.frozen? ⟨Nb,10,none⟩=false:=(S5.out.k _ mE0:HoldsL w5 Nb (P4V q)).free (j:=10) (by simp); clear kq kf0 kf1 kf2 kf3 kf4 kg0 kg1 kg2 kg3 kg4 kn7 km7 kn8 km8 kn10 km10))
  have SX:Hid (Bxs w [(Nb,(P4R q.tos q.id q.whole q.more q.off q.ttl q.proto g.src g.dst q.opts d)),(w.heap.size+1+1+1,(P4R 0 0 false false 0 0 0 ⟨#[]⟩ ⟨#[]⟩ ⟨#[]⟩ ⟨#[]⟩)),(w.heap.size+1+1,(FlV g)),(w.heap.size+1,(FlV f)),(w.heap.size,(P4V q))] ((sW (sW w5 Nb 7 (.string g.src)) Nb 8 (.string g.dst)).setCell ⟨Nb,10,none⟩ (.string d))):=⟨fun e he=>by
   simp only [List.mem_cons,List.not_mem_nil,or_false] at he;rcases he with rfl | rfl | rfl | rfl | rfl
   ·exact ((((S5.out.k _ mE0).set 7 (.string g.src)).set 8 (.string g.dst)).set 10 (.string d))
   ·exact ((((S5.out.k _ mE1).setOther (by show w.heap.size+1+1+1≠Nb; omega) _).setOther (by show w.heap.size+1+1+1≠Nb; omega) _).setOther (by show w.heap.size+1+1+1≠Nb; omega) _)
   ·exact ((((S5.out.k _ mE2).setOther (by show w.heap.size+1+1≠Nb; omega) _).setOther (by show w.heap.size+1+1≠Nb; omega) _).setOther (by show w.heap.size+1+1≠Nb; omega) _)
   ·exact ((((S5.out.k _ mE3).setOther (by show w.heap.size+1≠Nb; omega) _).setOther (by show w.heap.size+1≠Nb; omega) _).setOther (by show w.heap.size+1≠Nb; omega) _)
   ·exact ((((S5.out.k _ mE4).setOther (by show w.heap.size≠Nb; omega) _).setOther (by show w.heap.size≠Nb; omega) _).setOther (by show w.heap.size≠Nb; omega) _),(((S5.out.b.setCell (p:=⟨Nb,7,none⟩) (show w.heap.size≤Nb by omega) _).setCell (p:=⟨Nb,8,none⟩) (show w.heap.size≤Nb by omega) _).setCell (p:=⟨Nb,10,none⟩) (show w.heap.size≤Nb by omega) _),fun e he=>by
   simp only [List.mem_cons,List.not_mem_nil,or_false] at he;rcases he with rfl | rfl | rfl | rfl | rfl<;>simp⟩
  all_goals go_wp2_with fail
  all_goals go_meet
  all_goals exact SX.out
 case rest =>
 have S2:Hid (Bxs w [(Nb,(P4R q.tos q.id q.whole q.more q.off q.ttl q.proto g.src g.dst q.opts d)),(w.heap.size+1+1+1,(P4R 0 0 false false 0 0 0 ⟨#[]⟩ ⟨#[]⟩ ⟨#[]⟩ ⟨#[]⟩)),(w.heap.size+1+1,(FlV g)),(w.heap.size+1,(FlV f)),(w.heap.size,(P4V q))] wc):=hcut;clear hcut S1 HS;generalize wc=W2 at *;have HHq:=S2.out.at mE0;obtain ⟨k0,k1,k2,k3,k4,k5,k6,k7,k8,k9,k10⟩:=HHq.c11;clear HHq;have HHq:=S2.out.at mE1;obtain ⟨z0,z1,z2,z3,z4,z5,z6,z7,z8,z9,z10⟩:=HHq.c11;obtain ⟨zf0,zf1,zf2,zf3,zf4,zf5,zf6,zf7,zf8,zf9,zf10⟩:=HHq.f11;clear HHq;have HBE:Hid (Below w.heap.size w ((sW (sW (sW (sW (sW (sW (sW (sW (sW (sW W2 (w.heap.size+1+1+1) 0 (iV q.tos)) (w.heap.size+1+1+1) 1 (iV q.id)) (w.heap.size+1+1+1) 2 (.bool q.whole)) (w.heap.size+1+1+1) 3 (.bool q.more)) (w.heap.size+1+1+1) 4 (iV q.off)) (w.heap.size+1+1+1) 5 (iV q.ttl)) (w.heap.size+1+1+1) 6 (iV q.proto)) (w.heap.size+1+1+1) 7 (.string g.src)) (w.heap.size+1+1+1) 8 (.string g.dst)) (w.heap.size+1+1+1) 9 (.string q.opts)).setCell ⟨w.heap.size+1+1+1,10,none⟩ (.string d))):=(((((((((((S2.out.b.setCell (p:=⟨w.heap.size+1+1+1,0,none⟩) (show w.heap.size≤w.heap.size+1+1+1 by omega) _).setCell (p:=⟨w.heap.size+1+1+1,1,none⟩) (show w.heap.size≤w.heap.size+1+1+1 by omega) _).setCell (p:=⟨w.heap.size+1+1+1,2,none⟩) (show w.heap.size≤w.heap.size+1+1+1 by omega) _).setCell (p:=⟨w.heap.size+1+1+1,3,none⟩) (show w.heap.size≤w.heap.size+1+1+1 by omega) _).setCell (p:=⟨w.heap.size+1+1+1,4,none⟩) (show w.heap.size≤w.heap.size+1+1+1 by omega) _).setCell (p:=⟨w.heap.size+1+1+1,5,none⟩) (show w.heap.size≤w.heap.size+1+1+1 by omega) _).setCell (p:=⟨w.heap.size+1+1+1,6,none⟩) (show w.heap.size≤w.heap.size+1+1+1 by omega) _).setCell (p:=⟨w.heap.size+1+1+1,7,none⟩) (show w.heap.size≤w.heap.size+1+1+1 by omega) _).setCell (p:=⟨w.heap.size+1+1+1,8,none⟩) (show w.heap.size≤w.heap.size+1+1+1 by omega) _).setCell (p:=⟨w.heap.size+1+1+1,9,none⟩) (show w.heap.size≤w.heap.size+1+1+1 by omega) _).setCell (p:=⟨w.heap.size+1+1+1,10,none⟩) (show w.heap.size≤w.heap.size+1+1+1 by omega) _);clear S2;go_wp2_with fail
 exact bodyPost_ret (v:=.agg (P4R q.tos q.id q.whole q.more q.off q.ttl q.proto g.src g.dst q.opts d).toArray) (by simp [results,Tryz.results63,go_sem,z0,z1,z2,z3,z4,z5,z6,z7,z8,z9,z10]) rfl ⟨rfl,HBE.out⟩
theorem indexS_any (xs:List ByteArray) (s:ByteArray) (a:Option Addr) (cap:Nat) (w:World) (hlen:xs.length≤1048576) (hr:SlIs strL1 1 w a xs) :
  Calls Tryz.prog 131 #[.slice a xs.length cap,.string s] w fun e w'=>(∃ r:Int,e=.returned (iV r)∧decide (0≤r)=inL xs s)∧Below w.heap.size w w':=by
 have HR:Hid (SlIs strL1 1 w a xs):=hr;have HV:Hid (inL xs s=xs.any fun t=>decide (t.toList=s.toList)):=rfl;generalize inL xs s=ans at *;clear hr;go_enter Tryz.func131,Tryz.ntmps131
 go_wp2_with fail
 go_loopw [8] (fun iv wr=>∃ i:Nat,i≤xs.length∧iv=iV i∧(xs.take i).any (fun t=>decide (t.toList=s.toList))=false∧Below w.heap.size w wr) (fun iv _=>xs.length-(intOf iv).toNat)
 case atStart=>exact ⟨0,Nat.zero_le _,rfl,rfl,Below.refl _ _⟩
 case round =>
  obtain ⟨i,hi,rfl,hn,hbel⟩:=hrel;have HN:Hid ((xs.take i).any (fun t=>decide (t.toList=s.toList))=false):=hn;have HL:Hid (Below w.heap.size w wr):=hbel;clear hn hbel;by_cases hlt:i < xs.length
  ·obtain ⟨b,off,rfl,hb,hat⟩:=HR.out.at hlt;have hA:=(hat.below hb HL.out) i hlt;have HST:Hid _:=any_take (fun t:ByteArray=>decide (t.toList=s.toList)) xs i hlt;have HAT:Hid _:=any_at (fun t:ByteArray=>decide (t.toList=s.toList)) xs i hlt;obtain ⟨t,ht⟩ : ∃ t,xs[i]=t:=⟨_,rfl⟩;rw [ht] at hA HST HAT;have c0:wr.cell? ⟨b,off+i,none⟩=some (.string t):=by have:=hA 0 _ rfl; simpa using this
   have c0':wr.cell? ⟨b,off+i*1,none⟩=some (.string t):=by simpa using c0
   clear hA hat ht;by_cases he:t.toList=s.toList
   ·have HX:Hid (ans=true):=by unfold Hid; rw [HV.out]; exact HAT.out (decide_eq_true he)
    have hbq:(s.toList==t.toList)=true:=by simp [he]
    clear he;go_wp2_with fail
    go_ret;exact ⟨⟨i,rfl,by rw [HX.out]; simp⟩,HL.out⟩
   ·have HN2:Hid ((xs.take (i+1)).any (fun t=>decide (t.toList=s.toList))=false):=by unfold Hid; rw [HST.out,HN.out,decide_eq_false he]; rfl
    have hbq:(s.toList==t.toList)=false:=by simp; exact fun h=>he h.symm
    clear he;go_wp2_with fail
    go_roundw
    case rel=>exact ⟨i+1,by omega,by go_num,HN2.out,HL.out⟩
    case measure=>simp [intOf]; omega
  ·have hie:i=xs.length:=by omega
   have HX:Hid (ans=false):=by unfold Hid; have:=HN.out; rw [hie,List.take_length] at this; rw [HV.out]; exact this
   go_wp2_with fail
   go_ret;exact ⟨⟨-1,rfl,by rw [HX.out]; rfl⟩,HL.out⟩
theorem containsS_any (xs:List ByteArray) (s:ByteArray) (a:Option Addr) (cap:Nat) (w:World) (hlen:xs.length≤1048576) (hr:SlIs strL1 1 w a xs) :
  Cb 96 #[.slice a xs.length cap,.string s] w (.bool (inL xs s)):=by
 have HC:Hid _:=indexS_any xs s a cap w hlen hr;clear hr;go_enter Tryz.func96,Tryz.ntmps96
 go_wp2_with fail
 refine Calls.mono HC.out ?_;rintro e w1 ⟨⟨r,rfl,hr⟩,b1⟩;have HR:Hid (decide (0≤r)=inL xs s):=hr;clear hr HC;go_wp2_with fail
 go_ret;exact ⟨ret_bool HR.out,b1⟩
def wayI (pa:Option Addr) (n pc:Nat):Value:=.iface 80 (.agg #[.slice pa n pc])
theorem leadsI_any (xs:List ByteArray) (s:ByteArray) (pa:Option Addr) (pc:Nat) (w:World) (hlen:xs.length≤1048576) (hr:SlIs strL1 1 w pa xs) :
  Cb 59 #[wayI pa xs.length pc,.string s] w (.bool (inL xs s)):=by
 have t1:∀ W,(Instr.typeAssert (.iface 80 (.agg #[.slice pa xs.length pc])) 106 80 true).run Tryz.prog W=.ok (.tuple #[.agg #[.slice pa xs.length pc],.bool true]) W:=fun W=>by kernel_rfl
 have HC:Hid (∀ W,Below w.heap.size w W→Cb 96 #[.slice pa xs.length pc,.string s] W (.bool (inL xs s))):=fun W hW=>containsS_any xs s pa pc W hlen (hr.below hW)
 have HB:Hid (Below w.heap.size w (w.alloc (.cells #[.slice pa xs.length pc] 80))):=(Below.refl _ _).alloc (Nat.le_refl _) _;clear hr;unfold wayI;go_enter Tryz.func59,Tryz.ntmps59
 go_wp2_with fail
 refine (HC.out _ HB.out).mono ?_;rintro e w1 ⟨rfl,b1⟩;have HB1:Hid _:=HB.out.trans (b1.mono HB.out.size);clear b1 HC;go_wp2_with fail
 go_ret;exact ⟨rfl,HB1.out⟩
theorem begins_any (flags:Int) (w:World) :
  Cw 169 #[iV flags] w (.bool (decide (bits .and .i64 flags 22=2))):=by
 by_cases h:bits .and .i64 flags 22=2
 ·go_enter Tryz.func169,Tryz.ntmps169
  go_wp2_with fail
  go_ret;exact ⟨ret_bool (by simp [h]),rfl⟩
 ·go_enter Tryz.func169,Tryz.ntmps169
  go_wp2_with fail
  go_ret;exact ⟨ret_bool (by simp [h]),rfl⟩
theorem new_byte {proto:Int} {inside:Bool} {flags:Int} (hf:isIn flags 0 255=true):trackNewV proto inside flags=if stillP proto=true then 3 else if proto=6 then (if bits .and .i64 flags 22=2 then (if inside=true then 1 else 2) else 0) else 0:=by
 unfold trackNewV;have e:=flags_22 hf;rw [if_neg (by rw [hf]; decide)];by_cases h1:stillP proto=true
 ·rw [if_pos h1,if_pos h1]
 ·rw [if_neg h1,if_neg h1];by_cases h2:proto=6
  ·rw [if_pos h2];by_cases h3:bits .and .i64 flags 22=2
   ·rw [if_pos h3,if_pos ⟨h2,e.mpr h3⟩]
   ·rw [if_neg h3,if_neg (fun h=>h3 (e.mp h.2))]
  ·rw [if_neg h2,if_neg (fun h=>h2 h.1)]
theorem new_range (proto:Int) (inside:Bool) (flags:Int):0≤trackNewV proto inside flags∧trackNewV proto inside flags≤3:=by
 unfold trackNewV;(repeat' split)<;>omega
theorem implNewB_any (proto:Int) (inside:Bool) (flags:Int) (w:World) (hf:isIn flags 0 255=true) :
  Cw 144 #[iV proto,.bool inside,iV flags] w (iV (trackNewV proto inside flags)):=by
 have HA:Hid (∀ W,Cw 148 #[iV proto] W (.bool (stillP proto))):=fun W=>implStill_any _ W
 have HC:Hid (∀ W,Cw 116 #[iV flags] W (.bool (isIn flags 0 255))):=fun W=>implByte_any _ W
 have HB:Hid (∀ W,Cw 169 #[iV flags] W (.bool (decide (bits .and .i64 flags 22=2)))):=fun W=>begins_any _ W
 have HV:Hid (trackNewV proto inside flags=if stillP proto=true then 3 else if proto=6 then (if bits .and .i64 flags 22=2 then (if inside=true then 1 else 2) else 0) else 0):=new_byte hf;rw [hf] at HC;generalize trackNewV proto inside flags=ans at *;clear hf
 cases hs:stillP proto with
 | true =>
  rw [hs] at HA;have HX:Hid (ans=3):=by unfold Hid; rw [HV.out,if_pos hs]
  clear HV hs;go_enter Tryz.func144,Tryz.ntmps144
  go_wp2_with fail
  refine (HA.out _).mono ?_;rintro e w1 ⟨rfl,rfl⟩;go_wp2_with fail
  go_ret;exact ⟨ret_int HX.out.symm,rfl⟩
 | false =>
  rw [hs,if_neg (by decide)] at HV;rw [hs] at HA;clear hs;by_cases hp:proto=6
  ·subst hp;rw [if_pos rfl] at HV;by_cases hb:bits .and .i64 flags 22=2
   ·rw [if_pos hb] at HV;rw [decide_eq_true hb] at HB;clear hb
    cases inside;all_goals
     simp at HV;go_enter Tryz.func144,Tryz.ntmps144
     go_wp2_with fail
     refine (HA.out _).mono ?_;rintro e w1 ⟨rfl,rfl⟩;go_wp2_with fail
     refine (HC.out _).mono ?_;rintro e w1 ⟨rfl,rfl⟩;go_wp2_with fail
     refine (HB.out _).mono ?_;rintro e w1 ⟨rfl,rfl⟩;go_wp2_with fail
     go_ret;exact ⟨ret_int HV.out.symm,rfl⟩
   ·rw [if_neg hb] at HV;rw [decide_eq_false hb] at HB;clear hb;go_enter Tryz.func144,Tryz.ntmps144
    go_wp2_with fail
    refine (HA.out _).mono ?_;rintro e w1 ⟨rfl,rfl⟩;go_wp2_with fail
    refine (HC.out _).mono ?_;rintro e w1 ⟨rfl,rfl⟩;go_wp2_with fail
    refine (HB.out _).mono ?_;rintro e w1 ⟨rfl,rfl⟩;go_wp2_with fail
    go_ret;exact ⟨ret_int HV.out.symm,rfl⟩
  ·rw [if_neg hp] at HV;go_enter Tryz.func144,Tryz.ntmps144
   go_wp2_with fail
   refine (HA.out _).mono ?_;rintro e w1 ⟨rfl,rfl⟩;go_wp2_with fail
   go_ret;exact ⟨ret_int HV.out.symm,rfl⟩
theorem touchRight_any (t:Tc) (w:World) (hs1:t.addr.size≤1048576) (hs2:t.peer.size≤1048576) :
  Cb 106 #[tcC t] w (.bool (touchOk t)):=by
 obtain ⟨proto,inside,addr,port,peer,peerPort,flags⟩:=t;dsimp only at hs1 hs2;have HZ:Hid (Below w.heap.size w (w.alloc (.cells (TcR proto inside addr port peer peerPort flags).toArray 112))):=(Below.refl _ _).alloc (Nat.le_refl _) _;have HT:Hid (HoldsL (w.alloc (.cells (TcR proto inside addr port peer peerPort flags).toArray 112)) w.heap.size (TcR proto inside addr port peer peerPort flags)):=HoldsL.new w (TcR proto inside addr port peer peerPort flags) 112;have H1:Hid (∀ W,Cw 141 #[iV proto] W (.bool (protoB proto))):=fun W=>isBound_any _ W
 have H2:Hid (∀ W,Cw 132 #[.string addr] W (.bool (addrOk addr))):=fun W=>implAddrRight_any addr W
 have H3:Hid (∀ W,Cw 117 #[iV port] W (.bool (isW port))):=fun W=>implWordIs_any _ W
 have H4:Hid (∀ W,Cw 117 #[iV peerPort] W (.bool (isW peerPort))):=fun W=>implWordIs_any _ W
 have H5:Hid (∀ W,Cw 116 #[iV flags] W (.bool (isIn flags 0 255))):=fun W=>implByte_any _ W
 have HV:Hid (touchOk ⟨proto,inside,addr,port,peer,peerPort,flags⟩=(protoB proto&&addrOk addr&&(inside||decide (addr.size=4))&&isW port&&decide (peer.size=4)&&isW peerPort&&isIn flags 0 255)):=rfl;generalize touchOk ⟨proto,inside,addr,port,peer,peerPort,flags⟩=ans at *;generalize protoB proto=b1 at *;generalize addrOk addr=b2 at *;generalize isW port=b3 at *;generalize isW peerPort=b4 at *;generalize isIn flags 0 255=b5 at *;unfold tcC;go_enter Tryz.func106,Tryz.ntmps106
 go_upto_region 1 with fail
 generalize (w.alloc (.cells (TcR proto inside addr port peer peerPort flags).toArray 112))=W at *;obtain ⟨k0,k1,k2,k3,k4,k5,k6⟩:=HT.out.c7;clear HT;go_wp2_with fail
 refine (H1.out _).mono ?_;rintro e W ⟨rfl,rfl⟩
 cases b1 with
 | false =>
  go_wp2_with fail
  go_ret;exact ⟨ret_bool (by rw [HV.out]; rfl),HZ.out⟩
 | true =>
 go_wp2_with fail
 refine (H2.out _).mono ?_;rintro e W ⟨rfl,rfl⟩
 cases b2 with
 | false =>
  go_wp2_with fail
  go_ret;exact ⟨ret_bool (by rw [HV.out]; rfl),HZ.out⟩
 | true =>
 by_cases hi:inside=false∧¬ addr.size=4
 ·obtain ⟨rfl,ha⟩:=hi;have haI:¬ (addr.size:Int)=4:=by omega
  go_wp2_with fail
  go_ret;exact ⟨ret_bool (by rw [HV.out,decide_eq_false ha]; rfl),HZ.out⟩
 have HI:Hid ((inside||decide (addr.size=4))=true):=by
  unfold Hid
  cases inside with
  | true=>rfl
  | false=>simp at hi; simp [hi]
 have hsp:inside=true∨(inside=false∧addr.size=4):=by
  cases inside with
  | true=>exact .inl rfl
  | false=>simp at hi; exact .inr ⟨rfl,hi⟩
 clear hi;have HV2:Hid (ans=(b3&&decide (peer.size=4)&&b4&&b5)):=by unfold Hid; rw [HV.out,HI.out]; rfl
 clear HV HI;rcases hsp with rfl | ⟨rfl,ha⟩
 all_goals
  try have haI:(addr.size:Int)=4:=by omega
  go_wp2_with fail
  refine (H3.out _).mono ?_;rintro e W ⟨rfl,rfl⟩
  cases b3 with
  | false =>
   go_wp2_with fail
   go_ret;exact ⟨ret_bool (by rw [HV2.out]; rfl),HZ.out⟩
  | true =>
  go_wp2_with fail
  refine (H4.out _).mono ?_;rintro e W ⟨rfl,rfl⟩
  cases b4 with
  | false =>
   go_wp2_with fail
   go_ret;exact ⟨ret_bool (by rw [HV2.out]; simp),HZ.out⟩
  | true =>
  by_cases hp:peer.size=4
  ·have HX:Hid (ans=b5):=by unfold Hid; rw [HV2.out,decide_eq_true hp]; rfl
   have hpI:(peer.size:Int)=4:=by omega
   go_wp2_with fail
   refine (H5.out _).mono ?_;rintro e W ⟨rfl,rfl⟩;go_wp2_with fail
   go_ret;exact ⟨ret_bool HX.out.symm,HZ.out⟩
  ·have HX:Hid (ans=false):=by unfold Hid; rw [HV2.out,decide_eq_false hp]; rfl
   have hpI:¬ (peer.size:Int)=4:=by omega
   go_wp2_with fail
   go_ret;exact ⟨ret_bool HX.out.symm,HZ.out⟩
theorem hostOf_any (pa:Option Addr) (pc:Nat) (p:Pl) (ba bo:Option Addr) (ca cb:Nat) (x:Bb) (m1 m2:Nat) (t:Tc) (w:World) (he:EnIn ⟨t.proto,t.addr,t.port⟩) (hbk:BookAt w m1 m2 x.binds x.binds) :
  Cb 107 #[bkC pa pc p ba bo ca cb x m1 m2,tcC t] w (.tuple #[enC (hostV x t).1,.bool (hostV x t).2]):=by
 obtain ⟨proto,inside,addr,port,peer,peerPort,flags⟩:=t;dsimp only at he;obtain ⟨c,hc⟩ : ∃ c,c=(x.binds.find? (ofOut proto addr port)).getD bdZ:=⟨_,rfl⟩;have HLK:Hid (∀ W,Below w.heap.size w W→(Instr.lookup 148 (.map (some m2)) (.agg (EnV proto addr port).toArray) true).run Tryz.prog W=.ok (.tuple #[.agg (BdV c).toArray,.bool (x.binds.find? (ofOut proto addr port)).isSome]) W):=fun W hW=>by
  have hl:=(hbk.kept hW).look2 (e:=⟨proto,addr,port⟩) he;rw [show (fun q=>sameEn (lentE q) ⟨proto,addr,port⟩)=ofOut proto addr port from funext fun c=>lent_out _ _ _ c,← hc] at hl;exact hl
 have HHE:Hid (∀ W,Cb 137 #[.agg (BdV c).toArray] W (.agg (EnV c.proto c.inn c.inPort).toArray)):=fun W=>hostEnd_any c W
 have HV:Hid (hostV x ⟨proto,inside,addr,port,peer,peerPort,flags⟩=if inside=true then (⟨proto,addr,port⟩,true) else (⟨c.proto,c.inn,c.inPort⟩,(x.binds.find? (ofOut proto addr port)).isSome)):=by rw [hc]; rfl
 generalize hostV x ⟨proto,inside,addr,port,peer,peerPort,flags⟩=ans at *;generalize (x.binds.find? (ofOut proto addr port)).isSome=fd at *;clear hc he hbk;have hRw:w.heap.size≤w.heap.size+1+1:=by omega
 have hun:undef=Value.tuple #[]:=rfl;have HS0:=bx3 w (KkV pa pc p ba ca bo cb x m1 m2) 150 (TcR proto inside addr port peer peerPort flags) 112 (EnV 0 ⟨#[]⟩ 0) 155 (by simp) (by simp) (by simp)
 skip;unfold bkC tcC;go_enter Tryz.func107,Tryz.ntmps107
 go_upto_region 1 with fail
 generalize ((aW (aW w (KkV pa pc p ba ca bo cb x m1 m2) 150) (TcR proto inside addr port peer peerPort flags) 112).alloc (.cells (EnV 0 ⟨#[]⟩ 0).toArray 155))=W at *;have HHt:=HS0.out.at mE1;obtain ⟨t0,t1,t2,t3,t4,t5,t6⟩:=HHt.c7;clear HHt;go_upto_region 2 with fail
 have S1:Hid _:=HS0.out.push (EnV proto addr port) (by simp) 155;generalize hW1:W.alloc _=W1 at *;clear hW1 HS0 t0 t1 t2 t3 t4 t5 t6;generalize W.heap.size=Be at *
 cases inside with
 | true =>
  have HX:Hid (ans=(⟨proto,addr,port⟩,true)):=HV.out;clear HV;have HHt:=S1.out.at mE2;have t1:=HHt.cell (j:=1) rfl;clear HHt;have HHn:=S1.out.at mE0;obtain ⟨n0,n1,n2⟩:=HHn.c3;clear HHn;have HHz:=S1.out.at mE3;obtain ⟨z0,z1,z2⟩:=HHz.c3;obtain ⟨zf0,zf1,zf2⟩:=HHz.f3;go_wp2_with fail
  refine bodyPost_ret (v:=.tuple #[.agg (EnV proto addr port).toArray,.bool true]) (by simp [results,Tryz.results107,go_sem,z0,z1,z2]) rfl (And.intro (by rw [HX.out]; rfl) ?_);exact (((S1.out.b.setCell (p:=⟨w.heap.size+1+1,0,none⟩) hRw _).setCell (p:=⟨w.heap.size+1+1,1,none⟩) hRw _).setCell (p:=⟨w.heap.size+1+1,2,none⟩) hRw _)
 | false =>
  have HX:Hid (ans=(⟨c.proto,c.inn,c.inPort⟩,fd)):=HV.out;clear HV;have HHt:=S1.out.at mE2;have t1:=HHt.cell (j:=1) rfl;clear HHt;have HHn:=S1.out.at mE0;obtain ⟨n0,n1,n2⟩:=HHn.c3;clear HHn;have HHk:=S1.out.at mE1;have k13:=HHk.cell (j:=13) rfl;clear HHk;have LK:=HLK.out W1 S1.out.b;go_upto_region 5 with (at_lookup; refine wpList_look_val rfl _ _ _ _ rfl rfl rfl LK ?_)
  have S2:Hid _:=S1.out.push (BdV c) (by simp) 94;generalize hW2:W1.alloc _=W2 at *;clear hW2 S1 LK HLK n0 n1 n2 k13 t1;generalize W1.heap.size=Bc at *;have HHy:=S2.out.at mE0;obtain ⟨y0,y1,y2,y3,y4⟩:=HHy.c5;clear HHy;go_wp2_with fail
  refine (HHE.out _).mono ?_;rintro e W3 ⟨rfl,q3⟩;have S3:Hid _:=S2.out.kept q3;clear q3 S2 HHE y0 y1 y2 y3 y4;have HHz:=S3.out.at mE4;obtain ⟨z0,z1,z2⟩:=HHz.c3;obtain ⟨zf0,zf1,zf2⟩:=HHz.f3;go_wp2_with fail
  refine bodyPost_ret (v:=.tuple #[.agg (EnV c.proto c.inn c.inPort).toArray,.bool fd]) (by simp [results,Tryz.results107,go_sem,z0,z1,z2]) rfl (And.intro (by rw [HX.out]; rfl) ?_);exact (((S3.out.b.setCell (p:=⟨w.heap.size+1+1,0,none⟩) hRw _).setCell (p:=⟨w.heap.size+1+1,1,none⟩) hRw _).setCell (p:=⟨w.heap.size+1+1,2,none⟩) hRw _)
theorem admits1_any (q:Ss) (h:En) (s:ByteArray) (B1 B2:Nat) (w:World) (hk0:HoldsL w B1 (enL h)) (hk1:HoldsL w B2 [.string s]) :
  Cb 171 #[ssC q,.pointer (some ⟨B1,0,none⟩),.pointer (some ⟨B2,0,none⟩)] w (.bool (metB h s q)):=by
 have HF:Hid (∀ W,Cb 139 #[.agg (SsV q).toArray] W (.agg (BdR q.proto q.inn q.inPort q.peer q.peerPort).toArray)):=fun W=>sessKey_any q W
 have HE:Hid (∀ W,(binOp .eql 155 (.agg (EnV q.proto q.inn q.inPort).toArray) (.agg (EnV h.proto h.addr h.port).toArray)).run Tryz.prog W=.ok (.bool (sameEn (sessE q) h)) W):=fun W=>eqEn_bin (sessE q) h W
 have HFL:Hid (∀ W,Sem.run Tryz.prog (Instr.field 160 (.agg (BdR q.proto q.inn q.inPort q.peer q.peerPort).toArray) 0) W=.ok (.agg (EnV q.proto q.inn q.inPort).toArray) W):=fun W=>by kernel_rfl
 have HV:Hid (metB h s q=(sameEn (sessE q) h&&decide (q.peer.toList=s.toList))):=rfl;generalize metB h s q=ans at *;generalize sameEn (sessE q) h=b at *;have HZ:Hid (Below w.heap.size w (w.alloc (.cells (SsV q).toArray 103))):=(Below.refl _ _).alloc (Nat.le_refl _) _;have HQ:Hid (HoldsL (w.alloc (.cells (SsV q).toArray 103)) w.heap.size (SsV q)):=HoldsL.new w (SsV q) 103;have HK0:Hid (HoldsL (w.alloc (.cells (SsV q).toArray 103)) B1 (EnV h.proto h.addr h.port)):=HoldsL.alloc (cs:=(EnV h.proto h.addr h.port)) hk0 _;have HK1:Hid (HoldsL (w.alloc (.cells (SsV q).toArray 103)) B2 [.string s]):=hk1.alloc _;clear hk0 hk1;unfold ssC;go_enter Tryz.func171,Tryz.ntmps171
 go_upto_region 1 with fail
 generalize (w.alloc (.cells (SsV q).toArray 103))=W at *;go_cut [4] (fun v wx=>v=.bool ans∧Below w.heap.size w wx)
 case first =>
  rename_i J K2 hJ hK2;have HCP:Hid (∀ wy,Below W.drew.heap.size W.drew wy→HoldsL wy w.heap.size (SsV q)∧HoldsL wy B1 (EnV h.proto h.addr h.port)∧HoldsL wy B2 [.string s]):=fun wy hy=>⟨HQ.out.drew.kept (by simp) hy,HK0.out.drew.kept (by simp) hy,HK1.out.drew.kept (by simp) hy⟩
  cases b with
  | false =>
   have HX:Hid (ans=false):=HV.out;clear HV;refine wp_region_growH [5,6,7,8,9,10,11,12,13,14,15,4] (by kernel_rfl) (by kernel_rfl) ?_;apply GCh.v0
   ·rfl
   ·intro K' a wy ho hd hb hK kz;have o3:=ho 3 (by decide);simp [slot] at o3;clear hd ho;obtain ⟨hq,h0,h1⟩:=HCP.out wy hb;obtain ⟨c0,c1,c2,c3,c4,c5,c6⟩:=hq.c7;obtain ⟨k0,k1,k2⟩:=h0.c3;have m0:=h1.cell (j:=0) rfl;go_simp;try go_bits
    exact kz _ rfl
   apply GCh.v1
   ·rfl
   ·intro K' a wy ho hd hb hK kz;have q0:=hd ⟨0,.data⟩ (by simp) rfl;simp [rAt,IsV,slot] at q0;clear hd ho;go_simp;refine (HF.out wy).mono ?_;rintro e wz ⟨rfl,hz⟩;exact hK _ _ rfl hz
   apply GCh.v2
   ·rfl
   ·intro K' a wy ho hd hb hK kz;have q1:=hd ⟨1,.data⟩ (by simp) rfl;simp [rAt,IsV,slot] at q1;clear hd ho;have hfl:=HFL.out wy;go_simp;try go_bits
    exact kz _ rfl
   apply GCh.v3
   ·rfl
   ·intro K' a wy ho hd hb hK kz;have o1:=ho 1 (by decide);simp [slot] at o1;clear hd ho;obtain ⟨hq,h0,h1⟩:=HCP.out wy hb;obtain ⟨c0,c1,c2,c3,c4,c5,c6⟩:=hq.c7;obtain ⟨k0,k1,k2⟩:=h0.c3;have m0:=h1.cell (j:=0) rfl;go_simp;try go_bits
    exact kz _ rfl
   apply GCh.v4
   ·rfl
   ·intro K' a wy ho hd hb hK kz;have q2:=hd ⟨2,.data⟩ (by simp) rfl;have q3:=hd ⟨3,.data⟩ (by simp) rfl;simp [rAt,IsV,slot] at q2 q3;clear hd ho;refine wp_bin_val .eql 155 155 (.tmp 7) (.tmp 8) rfl (by simp [Act.eval,slot,q2]) (by simp [Act.eval,slot,q3]) (run_eqGuard_agg _ _ _ _ _ _ _ (by kernel_rfl)) (HE.out wy) ?_;exact kz _ rfl
   apply GCh.v5
   ·rfl
   ·intro K' a wy ho hd hb hK kz;have q4:=hd ⟨4,.data⟩ (by simp) rfl;simp [rAt,IsV,slot] at q4;clear hd ho;go_simp;try go_bits
    exact kz _ rfl
   refine GCh.val (n:=6) (fun v=>[_,_,_,_,_,_,IsV v]) (fun _=>rfl) rfl ?_;apply Exists.intro;refine And.intro ?_ ?_
   ·intro K' a wy ho hd hb hK;refine wantsN 5 10 false true rfl rfl rfl (hd ⟨5,.guard⟩ (by simp) rfl) rfl ?_;exact hK undef _ rfl (Below.refl _ _)
   refine GCh.val (n:=7) (fun v=>[_,_,_,_,_,_,_,IsV v]) (fun _=>rfl) rfl ?_;apply Exists.intro;refine And.intro ?_ ?_
   ·intro K' a wy ho hd hb hK;refine wantsN 5 10 false true rfl rfl rfl (hd ⟨5,.guard⟩ (by simp) rfl) rfl ?_;exact hK undef _ rfl (Below.refl _ _)
   refine GCh.val (n:=8) (fun v=>[_,_,_,_,_,_,_,_,IsV v]) (fun _=>rfl) rfl ?_;apply Exists.intro;refine And.intro ?_ ?_
   ·intro K' a wy ho hd hb hK;refine wantsN 5 10 false true rfl rfl rfl (hd ⟨5,.guard⟩ (by simp) rfl) rfl ?_;exact hK undef _ rfl (Below.refl _ _)
   refine GCh.val (n:=9) (fun v=>[_,_,_,_,_,_,_,_,_,IsV v]) (fun _=>rfl) rfl ?_;apply Exists.intro;refine And.intro ?_ ?_
   ·intro K' a wy ho hd hb hK;refine wantsN 5 10 false true rfl rfl rfl (hd ⟨5,.guard⟩ (by simp) rfl) rfl ?_;exact hK undef _ rfl (Below.refl _ _)
   apply GCh.v10
   ·rfl
   ·intro K' a wy ho hd hb hK kz;have q5:=hd ⟨5,.data⟩ (by simp) rfl;have q9:=hd ⟨9,.data⟩ (by simp) rfl;simp [rAt,IsV,slot] at q5 q9;clear hd ho;go_simp;try go_bits
    exact kz _ rfl
   apply GCh.v11
   ·rfl
   ·intro K' a wy ho hd hb hK kz;have q10:=hd ⟨10,.data⟩ (by simp) rfl;simp [rAt,IsV,slot] at q10;clear hd ho;go_simp;try go_bits
    exact kz _ rfl
   intro X wz hR hz;obtain ⟨x0,x1,x2,x3,x4,x5,x6,x7,x8,x9,x10,x11,-⟩:=hR;simp only [IsV] at x0 x1 x2 x3 x4 x5 x6 x7 x8 x9 x10 x11;simp only [putsFrom,x0,x1,x2,x3,x4,x5,x6,x7,x8,x9,x10,x11];clear x0 x1 x2 x3 x4 x5 x6 x7 x8 x9 x10 x11;go_simp;try go_bits
   refine hK2 _ _ (hJ _ _ ?_);(repeat apply Exists.intro)
   refine ⟨⟨by rw [HX.out],HZ.out.drew.trans (hz.mono HZ.out.size)⟩,rfl⟩
  | true =>
   have HX:Hid (ans=decide (q.peer.toList=s.toList)):=by unfold Hid; rw [HV.out]; rfl
   clear HV;by_cases hs:q.peer.toList=s.toList
   case pos =>
    have hs2:(q.peer.toList==s.toList)=true:=by simp [hs]
    rw [decide_eq_true hs] at HX;clear hs;refine wp_region_growH [5,6,7,8,9,10,11,12,13,14,15,4] (by kernel_rfl) (by kernel_rfl) ?_;apply GCh.v0
    ·rfl
    ·intro K' a wy ho hd hb hK kz;have o3:=ho 3 (by decide);simp [slot] at o3;clear hd ho;obtain ⟨hq,h0,h1⟩:=HCP.out wy hb;obtain ⟨c0,c1,c2,c3,c4,c5,c6⟩:=hq.c7;obtain ⟨k0,k1,k2⟩:=h0.c3;have m0:=h1.cell (j:=0) rfl;go_simp;try go_bits
     exact kz _ rfl
    apply GCh.v1
    ·rfl
    ·intro K' a wy ho hd hb hK kz;have q0:=hd ⟨0,.data⟩ (by simp) rfl;simp [rAt,IsV,slot] at q0;clear hd ho;go_simp;refine (HF.out wy).mono ?_;rintro e wz ⟨rfl,hz⟩;exact hK _ _ rfl hz
    apply GCh.v2
    ·rfl
    ·intro K' a wy ho hd hb hK kz;have q1:=hd ⟨1,.data⟩ (by simp) rfl;simp [rAt,IsV,slot] at q1;clear hd ho;have hfl:=HFL.out wy;go_simp;try go_bits
     exact kz _ rfl
    apply GCh.v3
    ·rfl
    ·intro K' a wy ho hd hb hK kz;have o1:=ho 1 (by decide);simp [slot] at o1;clear hd ho;obtain ⟨hq,h0,h1⟩:=HCP.out wy hb;obtain ⟨c0,c1,c2,c3,c4,c5,c6⟩:=hq.c7;obtain ⟨k0,k1,k2⟩:=h0.c3;have m0:=h1.cell (j:=0) rfl;go_simp;try go_bits
     exact kz _ rfl
    apply GCh.v4
    ·rfl
    ·intro K' a wy ho hd hb hK kz;have q2:=hd ⟨2,.data⟩ (by simp) rfl;have q3:=hd ⟨3,.data⟩ (by simp) rfl;simp [rAt,IsV,slot] at q2 q3;clear hd ho;refine wp_bin_val .eql 155 155 (.tmp 7) (.tmp 8) rfl (by simp [Act.eval,slot,q2]) (by simp [Act.eval,slot,q3]) (run_eqGuard_agg _ _ _ _ _ _ _ (by kernel_rfl)) (HE.out wy) ?_;exact kz _ rfl
    apply GCh.v5
    ·rfl
    ·intro K' a wy ho hd hb hK kz;have q4:=hd ⟨4,.data⟩ (by simp) rfl;simp [rAt,IsV,slot] at q4;clear hd ho;go_simp;try go_bits
     exact kz _ rfl
    refine GCh.val (n:=6) (fun v=>[_,_,_,_,_,_,IsV v]) (fun _=>rfl) rfl ?_;apply Exists.intro;refine And.intro ?_ ?_
    ·intro K' a wy ho hd hb hK;refine wants 5 10 true true rfl rfl rfl (hd ⟨5,.guard⟩ (by simp) rfl) rfl ?_;have o3:=ho 3 (by decide);simp [slot] at o3;clear hd ho;go_simp;try go_bits
     exact hK _ _ rfl (Below.refl _ _)
    refine GCh.val (n:=7) (fun v=>[_,_,_,_,_,_,_,IsV v]) (fun _=>rfl) rfl ?_;apply Exists.intro;refine And.intro ?_ ?_
    ·intro K' a wy ho hd hb hK;refine wants 5 10 true true rfl rfl rfl (hd ⟨5,.guard⟩ (by simp) rfl) rfl ?_;have q6:=hd ⟨6,.data⟩ (by simp) rfl;simp [rAt,IsV,slot] at q6;clear hd ho;obtain ⟨hq,h0,h1⟩:=HCP.out wy hb;obtain ⟨c0,c1,c2,c3,c4,c5,c6⟩:=hq.c7;obtain ⟨k0,k1,k2⟩:=h0.c3;have m0:=h1.cell (j:=0) rfl;go_simp;try go_bits
     exact hK _ _ rfl (Below.refl _ _)
    refine GCh.val (n:=8) (fun v=>[_,_,_,_,_,_,_,_,IsV v]) (fun _=>rfl) rfl ?_;apply Exists.intro;refine And.intro ?_ ?_
    ·intro K' a wy ho hd hb hK;refine wants 5 10 true true rfl rfl rfl (hd ⟨5,.guard⟩ (by simp) rfl) rfl ?_;have o2:=ho 2 (by decide);simp [slot] at o2;clear hd ho;obtain ⟨hq,h0,h1⟩:=HCP.out wy hb;obtain ⟨c0,c1,c2,c3,c4,c5,c6⟩:=hq.c7;obtain ⟨k0,k1,k2⟩:=h0.c3;have m0:=h1.cell (j:=0) rfl;go_simp;try go_bits
     exact hK _ _ rfl (Below.refl _ _)
    refine GCh.val (n:=9) (fun v=>[_,_,_,_,_,_,_,_,_,IsV v]) (fun _=>rfl) rfl ?_;apply Exists.intro;refine And.intro ?_ ?_
    ·intro K' a wy ho hd hb hK;refine wants 5 10 true true rfl rfl rfl (hd ⟨5,.guard⟩ (by simp) rfl) rfl ?_;have q7:=hd ⟨7,.data⟩ (by simp) rfl;have q8:=hd ⟨8,.data⟩ (by simp) rfl;simp [rAt,IsV,slot] at q7 q8;clear hd ho;go_simp;try go_bits
     exact hK _ _ rfl (Below.refl _ _)
    apply GCh.v10
    ·rfl
    ·intro K' a wy ho hd hb hK kz;have q5:=hd ⟨5,.data⟩ (by simp) rfl;have q9:=hd ⟨9,.data⟩ (by simp) rfl;simp [rAt,IsV,slot] at q5 q9;clear hd ho;go_simp;try go_bits
     exact kz _ rfl
    apply GCh.v11
    ·rfl
    ·intro K' a wy ho hd hb hK kz;have q10:=hd ⟨10,.data⟩ (by simp) rfl;simp [rAt,IsV,slot] at q10;clear hd ho;go_simp;try go_bits
     exact kz _ rfl
    intro X wz hR hz;obtain ⟨x0,x1,x2,x3,x4,x5,x6,x7,x8,x9,x10,x11,-⟩:=hR;simp only [IsV] at x0 x1 x2 x3 x4 x5 x6 x7 x8 x9 x10 x11;simp only [putsFrom,x0,x1,x2,x3,x4,x5,x6,x7,x8,x9,x10,x11];clear x0 x1 x2 x3 x4 x5 x6 x7 x8 x9 x10 x11;go_simp;try go_bits
    refine hK2 _ _ (hJ _ _ ?_);(repeat apply Exists.intro)
    refine ⟨⟨by rw [HX.out],HZ.out.drew.trans (hz.mono HZ.out.size)⟩,rfl⟩
   case neg =>
    have hs2:(q.peer.toList==s.toList)=false:=by simp [hs]
    rw [decide_eq_false hs] at HX;clear hs;refine wp_region_growH [5,6,7,8,9,10,11,12,13,14,15,4] (by kernel_rfl) (by kernel_rfl) ?_;apply GCh.v0
    ·rfl
    ·intro K' a wy ho hd hb hK kz;have o3:=ho 3 (by decide);simp [slot] at o3;clear hd ho;obtain ⟨hq,h0,h1⟩:=HCP.out wy hb;obtain ⟨c0,c1,c2,c3,c4,c5,c6⟩:=hq.c7;obtain ⟨k0,k1,k2⟩:=h0.c3;have m0:=h1.cell (j:=0) rfl;go_simp;try go_bits
     exact kz _ rfl
    apply GCh.v1
    ·rfl
    ·intro K' a wy ho hd hb hK kz;have q0:=hd ⟨0,.data⟩ (by simp) rfl;simp [rAt,IsV,slot] at q0;clear hd ho;go_simp;refine (HF.out wy).mono ?_;rintro e wz ⟨rfl,hz⟩;exact hK _ _ rfl hz
    apply GCh.v2
    ·rfl
    ·intro K' a wy ho hd hb hK kz;have q1:=hd ⟨1,.data⟩ (by simp) rfl;simp [rAt,IsV,slot] at q1;clear hd ho;have hfl:=HFL.out wy;go_simp;try go_bits
     exact kz _ rfl
    apply GCh.v3
    ·rfl
    ·intro K' a wy ho hd hb hK kz;have o1:=ho 1 (by decide);simp [slot] at o1;clear hd ho;obtain ⟨hq,h0,h1⟩:=HCP.out wy hb;obtain ⟨c0,c1,c2,c3,c4,c5,c6⟩:=hq.c7;obtain ⟨k0,k1,k2⟩:=h0.c3;have m0:=h1.cell (j:=0) rfl;go_simp;try go_bits
     exact kz _ rfl
    apply GCh.v4
    ·rfl
    ·intro K' a wy ho hd hb hK kz;have q2:=hd ⟨2,.data⟩ (by simp) rfl;have q3:=hd ⟨3,.data⟩ (by simp) rfl;simp [rAt,IsV,slot] at q2 q3;clear hd ho;refine wp_bin_val .eql 155 155 (.tmp 7) (.tmp 8) rfl (by simp [Act.eval,slot,q2]) (by simp [Act.eval,slot,q3]) (run_eqGuard_agg _ _ _ _ _ _ _ (by kernel_rfl)) (HE.out wy) ?_;exact kz _ rfl
    apply GCh.v5
    ·rfl
    ·intro K' a wy ho hd hb hK kz;have q4:=hd ⟨4,.data⟩ (by simp) rfl;simp [rAt,IsV,slot] at q4;clear hd ho;go_simp;try go_bits
     exact kz _ rfl
    refine GCh.val (n:=6) (fun v=>[_,_,_,_,_,_,IsV v]) (fun _=>rfl) rfl ?_;apply Exists.intro;refine And.intro ?_ ?_
    ·intro K' a wy ho hd hb hK;refine wants 5 10 true true rfl rfl rfl (hd ⟨5,.guard⟩ (by simp) rfl) rfl ?_;have o3:=ho 3 (by decide);simp [slot] at o3;clear hd ho;go_simp;try go_bits
     exact hK _ _ rfl (Below.refl _ _)
    refine GCh.val (n:=7) (fun v=>[_,_,_,_,_,_,_,IsV v]) (fun _=>rfl) rfl ?_;apply Exists.intro;refine And.intro ?_ ?_
    ·intro K' a wy ho hd hb hK;refine wants 5 10 true true rfl rfl rfl (hd ⟨5,.guard⟩ (by simp) rfl) rfl ?_;have q6:=hd ⟨6,.data⟩ (by simp) rfl;simp [rAt,IsV,slot] at q6;clear hd ho;obtain ⟨hq,h0,h1⟩:=HCP.out wy hb;obtain ⟨c0,c1,c2,c3,c4,c5,c6⟩:=hq.c7;obtain ⟨k0,k1,k2⟩:=h0.c3;have m0:=h1.cell (j:=0) rfl;go_simp;try go_bits
     exact hK _ _ rfl (Below.refl _ _)
    refine GCh.val (n:=8) (fun v=>[_,_,_,_,_,_,_,_,IsV v]) (fun _=>rfl) rfl ?_;apply Exists.intro;refine And.intro ?_ ?_
    ·intro K' a wy ho hd hb hK;refine wants 5 10 true true rfl rfl rfl (hd ⟨5,.guard⟩ (by simp) rfl) rfl ?_;have o2:=ho 2 (by decide);simp [slot] at o2;clear hd ho;obtain ⟨hq,h0,h1⟩:=HCP.out wy hb;obtain ⟨c0,c1,c2,c3,c4,c5,c6⟩:=hq.c7;obtain ⟨k0,k1,k2⟩:=h0.c3;have m0:=h1.cell (j:=0) rfl;go_simp;try go_bits
     exact hK _ _ rfl (Below.refl _ _)
    refine GCh.val (n:=9) (fun v=>[_,_,_,_,_,_,_,_,_,IsV v]) (fun _=>rfl) rfl ?_;apply Exists.intro;refine And.intro ?_ ?_
    ·intro K' a wy ho hd hb hK;refine wants 5 10 true true rfl rfl rfl (hd ⟨5,.guard⟩ (by simp) rfl) rfl ?_;have q7:=hd ⟨7,.data⟩ (by simp) rfl;have q8:=hd ⟨8,.data⟩ (by simp) rfl;simp [rAt,IsV,slot] at q7 q8;clear hd ho;go_simp;try go_bits
     exact hK _ _ rfl (Below.refl _ _)
    apply GCh.v10
    ·rfl
    ·intro K' a wy ho hd hb hK kz;have q5:=hd ⟨5,.data⟩ (by simp) rfl;have q9:=hd ⟨9,.data⟩ (by simp) rfl;simp [rAt,IsV,slot] at q5 q9;clear hd ho;go_simp;try go_bits
     exact kz _ rfl
    apply GCh.v11
    ·rfl
    ·intro K' a wy ho hd hb hK kz;have q10:=hd ⟨10,.data⟩ (by simp) rfl;simp [rAt,IsV,slot] at q10;clear hd ho;go_simp;try go_bits
     exact kz _ rfl
    intro X wz hR hz;obtain ⟨x0,x1,x2,x3,x4,x5,x6,x7,x8,x9,x10,x11,-⟩:=hR;simp only [IsV] at x0 x1 x2 x3 x4 x5 x6 x7 x8 x9 x10 x11;simp only [putsFrom,x0,x1,x2,x3,x4,x5,x6,x7,x8,x9,x10,x11];clear x0 x1 x2 x3 x4 x5 x6 x7 x8 x9 x10 x11;go_simp;try go_bits
    refine hK2 _ _ (hJ _ _ ?_);(repeat apply Exists.intro)
    refine ⟨⟨by rw [HX.out],HZ.out.drew.trans (hz.mono HZ.out.size)⟩,rfl⟩
 case rest =>
  obtain ⟨rfl,hb⟩:=hcut;have HB:Hid (Below w.heap.size w wc):=hb;clear hb;go_wp2_with fail
  go_ret;exact ⟨rfl,HB.out⟩
theorem admits_any (pa:Option Addr) (pc:Nat) (p:Pl) (ba bo:Option Addr) (ca cb:Nat) (x:Bb) (m1 m2:Nat) (h:En) (s:ByteArray) (w:World) (hl2:x.sess.length≤1048576) (hx:BbIs w ba bo x) :
  Cb 145 #[bkC pa pc p ba bo ca cb x m1 m2,enC h,.string s] w (.bool (admitV p x h s)):=by
 have HC:Hid (∀ W B1 B2,Below w.heap.size w W→HoldsL W B1 (enL h)→HoldsL W B2 [.string s]→Cb 170 #[.slice bo x.sess.length cb,.func (.func 171) #[] #[.pointer (some ⟨B1,0,none⟩),.pointer (some ⟨B2,0,none⟩)]] W (.bool (x.sess.any (metB h s)))):=fun W B1 B2 hW h1 h2=>hasFunc_any (metB h s) 171 (fun args W=>by kernel_rfl) #[.pointer (some ⟨B1,0,none⟩),.pointer (some ⟨B2,0,none⟩)] x.sess bo cb W hl2 (hx.ss.below hW) (fun W' hW' q hq=>admits1_any q h s B1 B2 W' (h1.kept (by simp [enL]) hW') (h2.kept (by simp) hW'))
 have HV:Hid (admitV p x h s=if p.filter=0 then true else if p.filter=1 then x.sess.any (metB h s) else false):=rfl;generalize admitV p x h s=ans at *;generalize x.sess.any (metB h s)=an at *;clear hx;have HS0:=bx3 w (KkV pa pc p ba ca bo cb x m1 m2) 150 (EnV h.proto h.addr h.port) 155 [.string s] 9 (by simp) (by simp) (by simp)
 skip;unfold bkC enC;go_enter Tryz.func145,Tryz.ntmps145
 go_upto_region 1 with fail
 generalize ((aW (aW w (KkV pa pc p ba ca bo cb x m1 m2) 150) (EnV h.proto h.addr h.port) 155).alloc (.cells #[.string s] 9))=W at *;have HHk:=HS0.out.at mE0;obtain ⟨k0,k1,k2,k3,k4,k5,k6,k7,k8,k9,k10,k11,k12,k13⟩:=HHk.c14;clear HHk;by_cases h0:p.filter=0
 case pos =>
  have d0:(p.filter==0)=true:=by simp [h0]
  have HX:Hid (ans=true):=by unfold Hid; rw [HV.out,if_pos h0]
  clear h0 HV;go_wp2_with fail
  go_ret;exact ⟨ret_bool HX.out.symm,HS0.out.b⟩
 have d0:(p.filter==0)=false:=by simp [h0]
 by_cases h1:p.filter=1
 case neg =>
  have d1:(p.filter==1)=false:=by simp [h1]
  have HX:Hid (ans=false):=by unfold Hid; rw [HV.out,if_neg h0,if_neg h1]
  clear h0 h1 HV;go_wp2_with fail
  go_ret;exact ⟨ret_bool HX.out.symm,HS0.out.b⟩
 have d1:(p.filter==1)=true:=by simp [h1]
 have HX:Hid (ans=an):=by unfold Hid; rw [HV.out,if_neg h0,if_pos h1]
 clear h0 h1 HV;go_wp2_with fail
 refine (HC.out _ _ _ HS0.out.b (HS0.out.k _ mE1) (HS0.out.k _ mE2)).mono ?_;rintro e W1 ⟨rfl,q1⟩;have B1:Hid (Below w.heap.size w W1):=HS0.out.b.trans (q1.mono HS0.out.b.size);clear q1 HS0;go_wp2_with fail
 go_ret;exact ⟨ret_bool HX.out.symm,B1.out⟩
theorem implCopy9_any (x:Bb) (ba bo:Option Addr) (ca cb:Nat) (w:World) (hbl1:x.binds.length≤1048576) (hbl2:x.sess.length≤1048576) (hgb:∀ q∈x.binds,BdGood q) (hgs:∀ s∈x.sess,SsGood s) (hx:BbIs w ba bo x) :
  Calls Tryz.prog 110 #[bbC ba bo ca cb x] w fun e w'=>CopyRet w.heap.size x e w'∧Below w.heap.size w w':=by
 have HSX:Hid (BbIs w ba bo x):=hx;have HGB:Hid (∀ q∈x.binds,BdGood q):=hgb;have HGS:Hid (∀ s∈x.sess,SsGood s):=hgs;have hRw:w.heap.size≤w.heap.size+1:=by omega
 clear hx hgb hgs;have HS0:=bx2 w (BbV ba ca bo cb x) 39 [.slice none 0 0,.slice none 0 0] 39 (by simp) (by simp)
 skip;have hun:undef=Value.tuple #[]:=rfl;unfold bbC;go_enter Tryz.func110,Tryz.ntmps110
 go_upto_region 1 with fail
 generalize ((aW w (BbV ba ca bo cb x) 39).alloc (.cells #[.slice none 0 0,.slice none 0 0] 39))=W at *;have hlt1:w.heap.size+1 < W.heap.size:=(HS0.out.lts _ mE1).1;go_upto_region 2 with fail
 have HS1:Hid (RowsSt w (W.alloc (.cells #[.slice none 0 0,.slice none 0 0] 39)).heap.size W.heap.size [(w.heap.size,(BbV ba ca bo cb x)),(w.heap.size+1,[.slice none 0 0,.slice none 0 0])] (.slice none 0 0) (.slice none 0 0) [] [] (W.alloc (.cells #[.slice none 0 0,.slice none 0 0] 39))):=by
  have bn:Below W.heap.size W (W.alloc (.cells #[.slice none 0 0,.slice none 0 0] 39)):=(Below.refl _ _).alloc (Nat.le_refl _) _;have hn:=HoldsL.new W [.slice none 0 0,.slice none 0 0] 39;refine RowsSt.start [(w.heap.size,(BbV ba ca bo cb x)),(w.heap.size+1,[.slice none 0 0,.slice none 0 0])] hn (HS0.out.kept bn).b (HS0.out.kept bn).k (by omega) (fun e he=>?_);simp only [List.mem_cons,List.not_mem_nil,or_false] at he;rcases he with rfl | rfl
  ·refine ⟨by simp; omega,by show w.heap.size≠_; omega,by simp⟩
  ·refine ⟨by simp; omega,by show w.heap.size+1≠_; omega,by simp⟩
 clear HS0;generalize (W.alloc (.cells #[.slice none 0 0,.slice none 0 0] 39))=W3 at *;generalize W3.heap.size=base at *;have hO:w.heap.size+1 < W.heap.size:=hlt1;clear hlt1;generalize W.heap.size=O at *;have c0:W3.cell? ⟨w.heap.size,0,none⟩=some (.slice ba x.binds.length ca):=(show HoldsL W3 w.heap.size (BbV ba ca bo cb x) from HS1.out.k _ (List.mem_cons_self ..)).cell rfl;go_wp2_with fail
 clear c0;go_loopw [11] (fun iv wr=>∃ (i:Nat) (v:Value),i≤x.binds.length∧iv=iV i∧RowsSt w base O [(w.heap.size,(BbV ba ca bo cb x)),(w.heap.size+1,[.slice none 0 0,.slice none 0 0])] v (.slice none 0 0) (x.binds.take i) ([]) wr) (fun iv _=>x.binds.length-(intOf iv).toNat)
 case atStart=>exact ⟨0,_,Nat.zero_le _,rfl,HS1.out⟩
 case round =>
  obtain ⟨i,v,hi,rfl,hS⟩:=hrel;have S1:Hid _:=hS;clear hS HS1;generalize wr=w4 at *;by_cases hlt:i < x.binds.length
  case pos =>
   obtain ⟨bb,off,rfl,hb,hat⟩:=HSX.out.bd.at hlt;have hA:=(hat.below hb S1.out.b) i hlt;have HTK:Hid (x.binds.take (i+1)=x.binds.take i++[x.binds[i]]):=List.take_succ_eq_append_getElem hlt;have hfl:(x.binds.take i).length≤1048576:=by rw [List.length_take]; omega
   have hgd:=HGB.out x.binds[i] (List.getElem_mem hlt);obtain ⟨q,hq⟩ : ∃ q,q=x.binds[i]:=⟨_,rfl⟩;rw [← hq] at hA HTK hgd;have HGD:Hid (BdGood q):=hgd;have hltI:(i:Int) < (x.binds.length:Int):=by omega
   have s0:w4.cell? ⟨bb,off+i*5,none⟩=some (iV q.proto):=hA 0 _ rfl;have s1:w4.cell? ⟨bb,off+i*5+1,none⟩=some (.string q.inn):=hA 1 _ rfl;have s2:w4.cell? ⟨bb,off+i*5+2,none⟩=some (iV q.inPort):=hA 2 _ rfl;have s3:w4.cell? ⟨bb,off+i*5+3,none⟩=some (.string q.out):=hA 3 _ rfl;have s4:w4.cell? ⟨bb,off+i*5+4,none⟩=some (iV q.outPort):=hA 4 _ rfl;generalize x.binds.take i=zs at *;clear hA hat hq hgd hb;go_upto_region 5 with fail
   have bn:Below w4.heap.size w4 (w4.alloc (.cells (BdV q).toArray 94)):=(Below.refl _ _).alloc (Nat.le_refl _) _;have HQ:Hid (HoldsL (w4.alloc (.cells (BdV q).toArray 94)) w4.heap.size (BdV q)):=HoldsL.new w4 (BdV q) 94;have S2:Hid _:=S1.out.kept bn;generalize (w4.alloc (.cells (BdV q).toArray 94))=W5 at *;clear bn S1 s0 s1 s2 s3 s4;generalize w4.heap.size=Bq at *;have HCY:Hid (∀ W,Cb 113 #[.agg (BdV q).toArray] W (.agg (BdV q).toArray)):=fun W=>copyBind_any q W HGD.out.1 HGD.out.2.1
   have HCP:Hid (∀ wy,Below W5.drew.heap.size W5.drew wy→RowsSt w base O [(w.heap.size,(BbV (some ⟨bb,off,none⟩) ca bo cb x)),(w.heap.size+1,[.slice none 0 0,.slice none 0 0])] v (.slice none 0 0) (zs) ([]) wy∧HoldsL wy Bq (BdV q)):=fun wy hy=>⟨S2.out.kept ((Below.refl _ _).drew.trans hy),HQ.out.drew.kept (by simp) hy⟩
   clear hun;refine wp_region_growV [15,16,17,18,19] (by kernel_rfl) (by kernel_rfl) ?_;apply GChV.v0
   ·rfl
   ·intro K' a wy ho hd hb hK kz;have o3:=ho 3 (by decide);simp [slot] at o3;clear hd ho;go_simp;try go_bits
    exact kz _ rfl
   apply GChV.v1
   ·rfl
   ·intro K' a wy ho hd hb hK kz;have q0:=hd ⟨0,.data⟩ (by simp) rfl;simp [rAt,IsV,slot] at q0;clear hd ho;obtain ⟨hst,hqq⟩:=HCP.out wy hb;have ko:wy.cell? ⟨O,0,none⟩=some v:=hst.o.cell rfl;obtain ⟨s0,s1,s2,s3,s4⟩:=hqq.c5;go_simp;try go_bits
    exact kz _ rfl
   apply GChV.v2
   ·rfl
   ·intro K' a wy ho hd hb hK kz;have o5:=ho 5 (by decide);simp [slot] at o5;clear hd ho;obtain ⟨hst,hqq⟩:=HCP.out wy hb;have ko:wy.cell? ⟨O,0,none⟩=some v:=hst.o.cell rfl;obtain ⟨s0,s1,s2,s3,s4⟩:=hqq.c5;go_simp;try go_bits
    exact kz _ rfl
   apply GChV.v3
   ·rfl
   ·intro K' a wy ho hd hb hK kz;have q2:=hd ⟨2,.data⟩ (by simp) rfl;simp [rAt,IsV,slot] at q2;clear hd ho;go_simp;refine (HCY.out wy).mono ?_;rintro e wz ⟨rfl,hz⟩;exact hK _ _ rfl hz
   refine GChV.rel (n:=4) (IsOneC (bdL q)) (stable_isOneC _ (by simp [bdL])) [_,_,_,_,IsOneC (bdL q)] rfl rfl ?_ ?_
   ·intro K' a wy ho hd hb hK;rw [wN rfl];have q3:=hd ⟨3,.data⟩ (by simp) rfl;simp [rAt,IsV,slot] at q3;clear hd ho;go_simp;exact hK _ _ ⟨wy.heap.size,rfl,HoldsL.new wy (bdL q) _⟩ ((Below.refl _ _).alloc (Nat.le_refl _) _)
   intro X wz hR hz;obtain ⟨x0,x1,x2,x3,x4,-⟩:=hR;have hk7:=x4;clear hk7;simp only [IsV] at x0 x1 x2 x3;simp only [putsFrom,x0,x1,x2,x3,putsFrom];clear x0 x1 x2 x3;obtain ⟨g7,e7,r7⟩:=x4;have SZ:=(HCP.out wz hz).1;obtain ⟨v6,w6,hrun,⟨gg,l6,c6,rfl⟩,hO6,S6⟩:=SZ.appB q g7 r7 hfl;have HRUN:Hid _:=hrun;have HS6:Hid _:=S6;have p1:w6.cell? ⟨O,0,none⟩=some v:=hO6.cell rfl;have p2:=hO6.free (j:=0) (by simp);clear hrun S6 hO6 SZ r7 hz HCP;simp only [e7];simp only [List.length_cons,List.length_nil,List.drop_succ_cons,List.drop_zero,Nat.zero_add,Nat.reduceAdd];intro K5 hK5;with_reducible refine wp_append_run (.tmp 16) (.tmp 19) _ rfl ?_ ?_ HRUN.out (hK5 _ _ ?_)
   ·simp [Act.eval,Act.put]
   ·simp [Act.eval,Act.put]
   intro K6 hK6;go_simp;refine hK6 _ _ ?_;intro K7 hK7;go_simp;refine hK7 _ _ ?_;simp only [wpSeq];go_wp2_with fail
   go_roundw
   case rel =>
    first | exact ⟨i+1,_,by omega,by go_num,by rw [HTK.out]; exact HS6.out⟩ | ((repeat apply Exists.intro); exact ⟨⟨i+1,_,by omega,by go_num,by rw [HTK.out]; exact HS6.out⟩,rfl⟩)
   case measure=>simp [intOf]<;>omega
  case neg =>
   have hie:i=x.binds.length:=by omega
   rw [hie,List.take_length] at S1;have hge:¬ (i:Int) < (x.binds.length:Int):=by omega
   clear hie hlt;obtain ⟨sa,sc,hsv,hsc,hso⟩:=S1.out.shapes.1;subst hsv;clear hsc hso;have c1:w4.cell? ⟨w.heap.size,1,none⟩=some (.slice bo x.sess.length cb):=(show HoldsL w4 w.heap.size (BbV ba ca bo cb x) from S1.out.k _ (List.mem_cons_self ..)).cell rfl;go_wp2_with fail
   clear c1 hge;have S9:Hid _:=S1.out;clear S1;generalize w4=V4 at *;go_loopw [26] (fun iv wr=>∃ (i:Nat) (v:Value),i≤x.sess.length∧iv=iV i∧RowsSt w base O [(w.heap.size,(BbV ba ca bo cb x)),(w.heap.size+1,[.slice none 0 0,.slice none 0 0])] (.slice sa x.binds.length sc) v (x.binds) (x.sess.take i) wr) (fun iv _=>x.sess.length-(intOf iv).toNat)
   case atStart=>exact ⟨0,_,Nat.zero_le _,rfl,S9.out⟩
   case round =>
    obtain ⟨i,v,hi,rfl,hS⟩:=hrel;have S1:Hid _:=hS;clear hS S9;generalize wr=w4 at *;by_cases hlt:i < x.sess.length
    case pos =>
     obtain ⟨bb,off,rfl,hb,hat⟩:=HSX.out.ss.at hlt;have hA:=(hat.below hb S1.out.b) i hlt;have HTK:Hid (x.sess.take (i+1)=x.sess.take i++[x.sess[i]]):=List.take_succ_eq_append_getElem hlt;have hfl:(x.sess.take i).length≤1048576:=by rw [List.length_take]; omega
     have hgd:=HGS.out x.sess[i] (List.getElem_mem hlt);obtain ⟨q,hq⟩ : ∃ q,q=x.sess[i]:=⟨_,rfl⟩;rw [← hq] at hA HTK hgd;have HGD:Hid (SsGood q):=hgd;have hltI:(i:Int) < (x.sess.length:Int):=by omega
     have s0:w4.cell? ⟨bb,off+i*7,none⟩=some (iV q.proto):=hA 0 _ rfl;have s1:w4.cell? ⟨bb,off+i*7+1,none⟩=some (.string q.inn):=hA 1 _ rfl;have s2:w4.cell? ⟨bb,off+i*7+2,none⟩=some (iV q.inPort):=hA 2 _ rfl;have s3:w4.cell? ⟨bb,off+i*7+3,none⟩=some (.string q.peer):=hA 3 _ rfl;have s4:w4.cell? ⟨bb,off+i*7+4,none⟩=some (iV q.peerPort):=hA 4 _ rfl;have s5:w4.cell? ⟨bb,off+i*7+5,none⟩=some (iV q.state):=hA 5 _ rfl;have s6:w4.cell? ⟨bb,off+i*7+6,none⟩=some (iV q.untl):=hA 6 _ rfl;generalize x.sess.take i=zs at *;clear hA hat hq hgd hb;go_upto_region 10 with fail
     have bn:Below w4.heap.size w4 (w4.alloc (.cells (SsV q).toArray 103)):=(Below.refl _ _).alloc (Nat.le_refl _) _;have HQ:Hid (HoldsL (w4.alloc (.cells (SsV q).toArray 103)) w4.heap.size (SsV q)):=HoldsL.new w4 (SsV q) 103;have S2:Hid _:=S1.out.kept bn;generalize (w4.alloc (.cells (SsV q).toArray 103))=W5 at *;clear bn S1 s0 s1 s2 s3 s4 s5 s6;generalize w4.heap.size=Bq at *;have HCY:Hid (∀ W,Cb 147 #[.agg (SsV q).toArray] W (.agg (SsV q).toArray)):=fun W=>copySession_any q W HGD.out.1 HGD.out.2.1
     have HCP:Hid (∀ wy,Below W5.drew.heap.size W5.drew wy→RowsSt w base O [(w.heap.size,(BbV ba ca (some ⟨bb,off,none⟩) cb x)),(w.heap.size+1,[.slice none 0 0,.slice none 0 0])] (.slice sa x.binds.length sc) v (x.binds) (zs) wy∧HoldsL wy Bq (SsV q)):=fun wy hy=>⟨S2.out.kept ((Below.refl _ _).drew.trans hy),HQ.out.drew.kept (by simp) hy⟩
     clear hun;refine wp_region_growV [30,31,32,33,34] (by kernel_rfl) (by kernel_rfl) ?_;apply GChV.v0
     ·rfl
     ·intro K' a wy ho hd hb hK kz;have o3:=ho 3 (by decide);simp [slot] at o3;clear hd ho;go_simp;try go_bits
      exact kz _ rfl
     apply GChV.v1
     ·rfl
     ·intro K' a wy ho hd hb hK kz;have q0:=hd ⟨0,.data⟩ (by simp) rfl;simp [rAt,IsV,slot] at q0;clear hd ho;obtain ⟨hst,hqq⟩:=HCP.out wy hb;have ko:wy.cell? ⟨O,1,none⟩=some v:=hst.o.cell rfl;obtain ⟨s0,s1,s2,s3,s4,s5,s6⟩:=hqq.c7;go_simp;try go_bits
      exact kz _ rfl
     apply GChV.v2
     ·rfl
     ·intro K' a wy ho hd hb hK kz;have o7:=ho 7 (by decide);simp [slot] at o7;clear hd ho;obtain ⟨hst,hqq⟩:=HCP.out wy hb;have ko:wy.cell? ⟨O,1,none⟩=some v:=hst.o.cell rfl;obtain ⟨s0,s1,s2,s3,s4,s5,s6⟩:=hqq.c7;go_simp;try go_bits
      exact kz _ rfl
     apply GChV.v3
     ·rfl
     ·intro K' a wy ho hd hb hK kz;have q2:=hd ⟨2,.data⟩ (by simp) rfl;simp [rAt,IsV,slot] at q2;clear hd ho;go_simp;refine (HCY.out wy).mono ?_;rintro e wz ⟨rfl,hz⟩;exact hK _ _ rfl hz
     refine GChV.rel (n:=4) (IsOneC (ssL q)) (stable_isOneC _ (by simp [ssL])) [_,_,_,_,IsOneC (ssL q)] rfl rfl ?_ ?_
     ·intro K' a wy ho hd hb hK;rw [wN rfl];have q3:=hd ⟨3,.data⟩ (by simp) rfl;simp [rAt,IsV,slot] at q3;clear hd ho;go_simp;exact hK _ _ ⟨wy.heap.size,rfl,HoldsL.new wy (ssL q) _⟩ ((Below.refl _ _).alloc (Nat.le_refl _) _)
     intro X wz hR hz;obtain ⟨x0,x1,x2,x3,x4,-⟩:=hR;have hk7:=x4;clear hk7;simp only [IsV] at x0 x1 x2 x3;simp only [putsFrom,x0,x1,x2,x3,putsFrom];clear x0 x1 x2 x3;obtain ⟨g7,e7,r7⟩:=x4;have SZ:=(HCP.out wz hz).1;obtain ⟨v6,w6,hrun,⟨gg,l6,c6,rfl⟩,hO6,S6⟩:=SZ.appS q g7 r7 hfl;have HRUN:Hid _:=hrun;have HS6:Hid _:=S6;have p1:w6.cell? ⟨O,1,none⟩=some v:=hO6.cell rfl;have p2:=hO6.free (j:=1) (by simp);clear hrun S6 hO6 SZ r7 hz HCP;simp only [e7];simp only [List.length_cons,List.length_nil,List.drop_succ_cons,List.drop_zero,Nat.zero_add,Nat.reduceAdd];intro K5 hK5;with_reducible refine wp_append_run (.tmp 31) (.tmp 34) _ rfl ?_ ?_ HRUN.out (hK5 _ _ ?_)
     ·simp [Act.eval,Act.put]
     ·simp [Act.eval,Act.put]
     intro K6 hK6;go_simp;refine hK6 _ _ ?_;intro K7 hK7;go_simp;refine hK7 _ _ ?_;simp only [wpSeq];go_wp2_with fail
     go_roundw
     case rel =>
      first | exact ⟨i+1,_,by omega,by go_num,by rw [HTK.out]; exact HS6.out⟩ | ((repeat apply Exists.intro); exact ⟨⟨i+1,_,by omega,by go_num,by rw [HTK.out]; exact HS6.out⟩,rfl⟩)
     case measure=>simp [intOf]<;>omega
    case neg =>
     have hie:i=x.sess.length:=by omega
     rw [hie,List.take_length] at S1;have hge:¬ (i:Int) < (x.sess.length:Int):=by omega
     clear hie hlt;obtain ⟨sb,cs1,hsv,_,_⟩:=S1.out.shapes.2;subst hsv;have HHz:=S1.out.at mE1;obtain ⟨z0,z1⟩:=HHz.c2;obtain ⟨zf0,zf1⟩:=HHz.f2;have HRR:Hid (HoldsL ((sW w4 (w.heap.size+1) 0 (.slice sa x.binds.length sc)).setCell ⟨w.heap.size+1,1,none⟩ (.slice sb x.sess.length cs1)) (w.heap.size+1) (BbV sa sc sb cs1 x)):=(HHz.set 0 (.slice sa x.binds.length sc)).set 1 (.slice sb x.sess.length cs1);have RB:Hid (Below w.heap.size w ((sW w4 (w.heap.size+1) 0 (.slice sa x.binds.length sc)).setCell ⟨w.heap.size+1,1,none⟩ (.slice sb x.sess.length cs1))):=(S1.out.b.setCell (p:=⟨w.heap.size+1,0,none⟩) hRw _).setCell (p:=⟨w.heap.size+1,1,none⟩) hRw _;have hkb:w.heap.size+1 < base:=(S1.out.kb _ mE1).1;have hwb:w.heap.size≤base:=by omega
     have O1:Hid (World.ownsRow ((sW w4 (w.heap.size+1) 0 (.slice sa x.binds.length sc)).setCell ⟨w.heap.size+1,1,none⟩ (.slice sb x.sess.length cs1)) w.heap.size 94 5 (.slice sa x.binds.length sc) x.binds.length (flatS bdL x.binds)):=rowDown (ownC_cell (ownC_cell S1.out.bo (ownC_ne S1.out.bo hkb)) (ownC_ne S1.out.bo hkb)) hwb;have O2:Hid (World.ownsRow ((sW w4 (w.heap.size+1) 0 (.slice sa x.binds.length sc)).setCell ⟨w.heap.size+1,1,none⟩ (.slice sb x.sess.length cs1)) w.heap.size 103 7 (.slice sb x.sess.length cs1) x.sess.length (flatS ssL x.sess)):=rowDown (ownC_cell (ownC_cell S1.out.so (ownC_ne S1.out.so hkb)) (ownC_ne S1.out.so hkb)) hwb;obtain ⟨p0,p1⟩:=S1.out.o.c2;clear HHz S1;go_wp2_with fail
     exact bodyPost_ret (results_mid Tryz.results110 _ _ (w.heap.size+1) (BbV sa sc sb cs1 x) _ rfl HRR.out Tryz.underlying39 rfl (show (Tryz.prog.info? 39).map (·.size)=some 2 by kernel_rfl)) rfl (And.intro ⟨_,_,rfl,O1.out,O2.out⟩ RB.out)
theorem bindFor_sz {p:Pl} {xs:List Bd} {h:En} (hps:∀ s∈p.addrs,s.size≤1048576) (hgb:∀ q∈xs,BdGood q) (he:EnIn h):(bindForV p xs h).1.inn.size≤1048576∧(bindForV p xs h).1.out.size≤1048576:=by
 unfold bindForV;split
 ·cases hf:xs.find? (ofIn h.proto h.addr h.port) with
  | none=>exact ⟨Nat.zero_le _,Nat.zero_le _⟩
  | some c=>exact ⟨(hgb c (List.mem_of_find?_eq_some hf)).1,(hgb c (List.mem_of_find?_eq_some hf)).2.1⟩
 ·exact ⟨he.1,outIn_sz hps hgb⟩
end Go.Proofs.YtcckaeppiamebaaGreatDoor
