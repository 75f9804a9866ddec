import Derived.Test.YtdkepkaflielhaaGreatDoorMerged22
import Derived.Test.YtdkepkaflielhaaGreatDoorMerged24
set_option linter.unusedVariables false
set_option linter.unusedSimpArgs false
set_option maxRecDepth 100000
set_option maxHeartbeats 8000000
namespace Go.Proofs.YtdkepkaflielhaaGreatDoor
open Go.RowKit Go.PlainAid
def QH(base:Nat):Value→World→Prop:=fun v w=>∃g,v=.pointer (some ⟨g,0,none⟩)∧base≤g∧aA w g (sA 0 ⟨#[]⟩ 0 ⟨#[]⟩ 0 0 0)
theorem EM(base:Nat):eZ (QH base):=fun v w w' ⟨g,h1,h2,h3⟩ hb=>⟨g,h1,h2,h3.kept (by simp) hb⟩
theorem JQ(pa:OA)(pc:Nat)(p:Pl)(ba bo:OA)(ca cb:Nat)(x:Bb)(m1 m2:Nat)(h:En)(t:Tc)(now:Int)(w:World)(hpo:cU p=true)(hnow:bT now=true)(hfl:aO t.VM 0 255=true)(he:qX h)(hw0:0≤h.port)(hw1:h.port≤65535)(htp:t.peer.size≤1048576)(hps:∀s∈p.VL,s.size≤1048576)(hl1:x.VN.length≤1048576)(hl2:x.VK.length≤1048576)(hgb:∀q∈x.VN,fG q)(hgs:∀s∈x.VK,iI s)(hbk:dJ w m1 m2 x.VN x.VN)(hp:bP cB 1 w pa p.VL)(hx:dC w ba bo x) :
  Calls Tryz.prog 108 #[CO pa pc p ba bo ca cb x m1 m2,pG h,pJ t,iV now] w fun e w'=>kX w.heap.size (lC p x h t now) e w'∧Below w.heap.size w w':=by
 obtain⟨VF,VJ,addr,port,peer,VG,VM⟩:=t;dsimp only at hfl htp;have hn:0≤now∧now≤1000000000:=by unfold bT aO at hnow;simp only[UB,UF]at hnow;omega
 obtain⟨hn0,hn1⟩:=hn;have HN:Hid (∀W,Cw 139 #[iV VF,.bool VJ,iV VM] W (iV (bF VF VJ VM))):=fun W=>AP VF VJ VM W hfl
 have HAD:Hid (∀W,Below w.heap.size w W→Cb 140 #[.agg (iM pa pc p ba ca bo cb x m1 m2).toArray,.agg (gT h.VF h.addr h.port).toArray,.string peer] W (.bool (lA p x h peer))):=fun W hW=>FJ pa pc p ba bo ca cb x m1 m2 h peer W hl2 (hx.below hW)
 have HBF:Hid (∀W,Below w.heap.size w W→Cb 141 #[.agg (iM pa pc p ba ca bo cb x m1 m2).toArray,.agg (gT h.VF h.addr h.port).toArray] W (.tuple #[gW (cP p x.VN h).1,.bool (cP p x.VN h).2])):=fun W hW=>CL pa pc p ba bo ca cb x m1 m2 h W hpo he hw0 hw1 hps hl1 hgb (hbk.kept hW) (hp.below hW) (hx.below hW)
 have HCY:Hid (∀W,Below w.heap.size w W→Calls Tryz.prog 109 #[.agg (aX ba ca bo cb x).toArray] W fun e w'=>oE W.heap.size x e w'∧Below W.heap.size W w'):=fun W hW=>rB x ba bo ca cb W hl1 hl2 hgb hgs (hx.below hW)
 obtain⟨d,hd⟩: ∃d,d=(x.VN.find? (cD h.VF h.addr h.port)).getD lB:=⟨_,rfl⟩;have HLK:Hid (∀W,Below w.heap.size w W→(Instr.lookup 137 (.map (some m1)) (.agg (gT h.VF h.addr h.port).toArray) true).run Tryz.prog W=.ok (.tuple #[.agg (cZ d).toArray,.bool (x.VN.find? (cD h.VF h.addr h.port)).isSome]) W):=fun W hW=>by
  have hl:=(hbk.kept hW).look1 (e:=h) he;rw[show (fun q=>bB (bO q) h)=cD h.VF h.addr h.port from funext fun c=>nE _ _ _ c,←hd]at hl;exact hl
 have hbs:=FO (h:=h) hps hgb he;have HCB:Hid (∀W,Cb 82 #[gW (cP p x.VN h).1] W (gW (cP p x.VN h).1)):=fun W=>kR _ W hbs.1 hbs.2
 have HCS:Hid (∀(st un:Int) (W:World),Cb 142 #[.agg (sA h.VF h.addr h.port peer VG st un).toArray] W (.agg (sA h.VF h.addr h.port peer VG st un).toArray)):=fun st un W=>oZ ⟨h.VF,h.addr,h.port,peer,VG,st,un⟩ W he.1 htp
 have HLF:Hid (∀(st:Int) (W:World),Cb 111 #[.agg #[iV p.lv.udp,iV p.lv.echo,iV p.lv.opening,iV p.lv.opn,iV p.lv.closing],iV VF,iV st] W (iV (bU p.lv VF st))):=fun st W=>sH p.lv VF st W
 have HV:Hid (lC p x h ⟨VF,VJ,addr,port,peer,VG,VM⟩ now=if bF VF VJ VM=0 then kY 6 else if (!VJ&&!lA p x h peer)=true then kY 6 else if (x.VK.length:Int)=p.most then kY 9 else if (cP p x.VN h).2=false then kY 9 else ⟨⟨wC p x.VN h,x.VK++[⟨h.VF,h.addr,h.port,peer,VG,bF VF VJ VM,now+bU p.lv VF (bF VF VJ VM)⟩]⟩,(cP p x.VN h).1,0⟩):=rfl;have HGB:Hid (wC p x.VN h=if (x.VN.find? (cD h.VF h.addr h.port)).isSome=true then x.VN else x.VN++[(cP p x.VN h).1]):=rfl;generalize lC p x h ⟨VF,VJ,addr,port,peer,VG,VM⟩ now=ans at *;generalize wC p x.VN h=nb at *;obtain⟨ns1,ns2⟩:=KJ VF VJ VM;generalize bF VF VJ VM=st at *;replace HLF:=HLF.out st;obtain⟨hf0,hf1⟩:=jP p.lv VF st;have HLG:Hid _:=HLF;clear HLF;generalize bU p.lv VF st=lf at *;replace HCS:=HCS.out st (now+lf);have HCT:Hid _:=HCS;clear HCS;generalize (cP p x.VN h).1=c at *;generalize (cP p x.VN h).2=fd at *;generalize (x.VN.find? (cD h.VF h.addr h.port)).isSome=bd at *;obtain⟨gone,hgo⟩: ∃g,g=(!VJ&&!lA p x h peer):=⟨_,rfl⟩;rw[←hgo]at HV;have HGO:Hid (gone=(!VJ&&!lA p x h peer)):=hgo;generalize lA p x h peer=ad at *;unfold gW at HBF HCB;have hun:undef=Value.tuple #[]:=rfl;have hRw:w.heap.size≤w.heap.size+1+1+1:=by omega
 clear hd hbs hgo hbk hp hx hgb hgs hps he hnow hpo hfl;have e0:aA ((aW (aW (aW w (iM pa pc p ba ca bo cb x m1 m2) 139) (gT h.VF h.addr h.port) 86) (eH VF VJ addr port peer VG VM) 89).alloc (.cells gU.toArray 104)) (w.heap.size) (iM pa pc p ba ca bo cb x m1 m2):=by
  have h:=aA.new w (iM pa pc p ba ca bo cb x m1 m2) 139;try simp only[UC]at h
  exact(((h.alloc _).alloc _).alloc _)
 have e1:aA ((aW (aW (aW w (iM pa pc p ba ca bo cb x m1 m2) 139) (gT h.VF h.addr h.port) 86) (eH VF VJ addr port peer VG VM) 89).alloc (.cells gU.toArray 104)) (w.heap.size+1) (gT h.VF h.addr h.port):=by
  have h:=aA.new (w.alloc (.cells (iM pa pc p ba ca bo cb x m1 m2).toArray 139)) (gT h.VF h.addr h.port) 86;try simp only[UC]at h
  exact((h.alloc _).alloc _)
 have e2:aA ((aW (aW (aW w (iM pa pc p ba ca bo cb x m1 m2) 139) (gT h.VF h.addr h.port) 86) (eH VF VJ addr port peer VG VM) 89).alloc (.cells gU.toArray 104)) (w.heap.size+1+1) (eH VF VJ addr port peer VG VM):=by
  have h:=aA.new ((aW w (iM pa pc p ba ca bo cb x m1 m2) 139).alloc (.cells (gT h.VF h.addr h.port).toArray 86)) (eH VF VJ addr port peer VG VM) 89;try simp only[UC]at h
  exact(h.alloc _)
 have e3:aA ((aW (aW (aW w (iM pa pc p ba ca bo cb x m1 m2) 139) (gT h.VF h.addr h.port) 86) (eH VF VJ addr port peer VG VM) 89).alloc (.cells gU.toArray 104)) (w.heap.size+1+1+1) gU:=by
  have h:=aA.new ((aW (aW w (iM pa pc p ba ca bo cb x m1 m2) 139) (gT h.VF h.addr h.port) 86).alloc (.cells (eH VF VJ addr port peer VG VM).toArray 89)) gU 104;try simp only[UC]at h
  exact h
 have HS0:Hid (dD w [(w.heap.size,(iM pa pc p ba ca bo cb x m1 m2)),(w.heap.size+1,(gT h.VF h.addr h.port)),(w.heap.size+1+1,(eH VF VJ addr port peer VG VM)),(w.heap.size+1+1+1,gU)] ((aW (aW (aW w (iM pa pc p ba ca bo cb x m1 m2) 139) (gT h.VF h.addr h.port) 86) (eH VF VJ addr port peer VG VM) 89).alloc (.cells gU.toArray 104))):=by
  refine⟨fun e he=>?_,((((bR.alloc (by (try simp only[UC]);omega) _).alloc (by (try simp only[UC]);omega) _).alloc (by (try simp only[UC]);omega) _).alloc (by (try simp only[UC]);omega) _),fun e he=>?_⟩
  ·simp only[UH,UG,or_false]at he;rcases he with rfl|rfl|rfl|rfl
   ·exact e0
   ·exact e1
   ·exact e2
   ·exact e3
  ·simp only[UH,UG,or_false]at he;rcases he with rfl|rfl|rfl|rfl<;>simp
 clear e0 e1 e2 e3;unfold CO pG pJ;go_enter Tryz.func108,Tryz.ntmps108
 go_upto_region 1 with fail
 generalize World.alloc _ _=W at *;have HHt:=HS0.out.at eL;obtain⟨t0,t1,t2,t3,t4,t5,t6⟩:=HHt.c7;clear HHt;go_wp2_with fail
 refine(HN.out _).mono ?_;rintro e W ⟨rfl,rfl⟩;clear HN;by_cases hst:st=0
 case pos=>
  have dst:(st==0)=true:=by simp[hst]
  have HST:Hid (st=0):=hst;clear hst;have HX:Hid (ans=kY (6)):=by unfold Hid;rw[HV.out,if_pos HST.out]
  have HHz:=HS0.out.at iF;obtain⟨z0,z1,z2,z3,z4,z5,z6,z7⟩:=HHz.c8;obtain⟨zf0,zf1,zf2,zf3,zf4,zf5,zf6,zf7⟩:=HHz.f8;obtain⟨HRR,RB⟩:=vN HHz HS0.out.b hRw (.slice none 0 0) (.slice none 0 0) (iV 0) eS (iV 0) eS (iV 0) (iV (6));clear HHz;go_wp2_with fail
  exact VB (aF Tryz.results108 _ _ (w.heap.size+1+1+1) [.slice none 0 0,.slice none 0 0,iV 0,eS,iV 0,eS,iV 0,iV (6)] _ rfl HRR.out Tryz.underlying104 rfl (show (Tryz.prog.info? 104).map (·.size)=some 8 by kernel_rfl)) rfl (And.intro (by rw[HX.out];exact⟨none,none,0,0,rfl,.inl rfl,.inl rfl,fun g h e1=>by simp at e1⟩) RB.out)
 have dst:(st==0)=false:=by simp[hst]
 rw[if_neg hst]at HV;clear hst;go_upto_region 2 with fail
 go_cut [37] (fun v wx=>v=.bool gone∧dD w [(w.heap.size,(iM pa pc p ba ca bo cb x m1 m2)),(w.heap.size+1,(gT h.VF h.addr h.port)),(w.heap.size+1+1,(eH VF VJ addr port peer VG VM)),(w.heap.size+1+1+1,gU)] wx)
 case first=>
  clear HV HLG HCY HBF HLK HCB HCT HGB
  cases VJ with
  | true=>
   go_wp2_with fail
   go_meet;exact⟨by rw[HGO.out];rfl,HS0.out⟩
  | false=>
   have HHk:=HS0.out.at cM;obtain⟨k0,k1,k2,k3,k4,k5,k6,k7,k8,k9,k10,k11,k12,k13⟩:=HHk.c14;clear HHk;have HHn:=HS0.out.at dZ;obtain⟨n0,n1,n2⟩:=HHn.c3;clear HHn;go_wp2_with fail
   refine(HAD.out _ HS0.out.b).mono ?_;rintro e W1 ⟨rfl,q1⟩;have S1:Hid _:=HS0.out.kept q1;clear q1
   cases ad;all_goals
    go_wp2_with fail
    go_meet;exact⟨by rw[HGO.out];rfl,S1.out⟩
 case rest=>
 obtain⟨rfl,hS⟩:=hcut;have S2:Hid _:=hS;clear hS HS0 HAD HGO dst t0 t1 t2 t3 t4 t5 t6;generalize wc=W2 at *
 cases gone with
 | true=>
  have HX:Hid (ans=kY (6)):=by unfold Hid;rw[HV.out];rfl
  have HHz:=S2.out.at iF;obtain⟨z0,z1,z2,z3,z4,z5,z6,z7⟩:=HHz.c8;obtain⟨zf0,zf1,zf2,zf3,zf4,zf5,zf6,zf7⟩:=HHz.f8;obtain⟨HRR,RB⟩:=vN HHz S2.out.b hRw (.slice none 0 0) (.slice none 0 0) (iV 0) eS (iV 0) eS (iV 0) (iV (6));clear HHz;go_wp2_with fail
  exact VB (aF Tryz.results108 _ _ (w.heap.size+1+1+1) [.slice none 0 0,.slice none 0 0,iV 0,eS,iV 0,eS,iV 0,iV (6)] _ rfl HRR.out Tryz.underlying104 rfl (show (Tryz.prog.info? 104).map (·.size)=some 8 by kernel_rfl)) rfl (And.intro (by rw[HX.out];exact⟨none,none,0,0,rfl,.inl rfl,.inl rfl,fun g h e1=>by simp at e1⟩) RB.out)
 | false=>
 rw[if_neg (by decide)]at HV;have HHk:=S2.out.at cM;obtain⟨k0,k1,k2,k3,k4,k5,k6,k7,k8,k9,k10,k11,k12,k13⟩:=HHk.c14;clear HHk;by_cases hm:(x.VK.length:Int)=p.most
 case pos=>
  have dm:((x.VK.length:Int)==p.most)=true:=by simp[hm]
  rw[if_pos hm]at HV;clear hm;have HX:Hid (ans=kY (9)):=by unfold Hid;rw[HV.out]
  have HHz:=S2.out.at iF;obtain⟨z0,z1,z2,z3,z4,z5,z6,z7⟩:=HHz.c8;obtain⟨zf0,zf1,zf2,zf3,zf4,zf5,zf6,zf7⟩:=HHz.f8;obtain⟨HRR,RB⟩:=vN HHz S2.out.b hRw (.slice none 0 0) (.slice none 0 0) (iV 0) eS (iV 0) eS (iV 0) (iV (9));clear HHz;go_wp2_with fail
  exact VB (aF Tryz.results108 _ _ (w.heap.size+1+1+1) [.slice none 0 0,.slice none 0 0,iV 0,eS,iV 0,eS,iV 0,iV (9)] _ rfl HRR.out Tryz.underlying104 rfl (show (Tryz.prog.info? 104).map (·.size)=some 8 by kernel_rfl)) rfl (And.intro (by rw[HX.out];exact⟨none,none,0,0,rfl,.inl rfl,.inl rfl,fun g h e1=>by simp at e1⟩) RB.out)
 have dm:((x.VK.length:Int)==p.most)=false:=by simp[hm]
 rw[if_neg hm]at HV;clear hm;have HHn:=S2.out.at dZ;obtain⟨n0,n1,n2⟩:=HHn.c3;clear HHn;go_wp2_with fail
 refine(HBF.out _ S2.out.b).mono ?_;rintro e W4 ⟨rfl,q4⟩;have S4:Hid _:=S2.out.kept q4;clear q4 S2 HBF dm k0 k1 k2 k3 k4 k5 k6 k7 k8 k9 k10 k11 k12 k13 n0 n1 n2;go_upto_region 7 with fail
 have S5:Hid _:=S4.out.push (cZ c) (by simp) 48;generalize hW5:W4.alloc _=W5 at *;clear hW5 S4;generalize W4.heap.size=Bc at *
 cases fd with
 | false=>
  have HX:Hid (ans=kY (9)):=by unfold Hid;rw[HV.out];rfl
  have HHz:=S5.out.at nH;obtain⟨z0,z1,z2,z3,z4,z5,z6,z7⟩:=HHz.c8;obtain⟨zf0,zf1,zf2,zf3,zf4,zf5,zf6,zf7⟩:=HHz.f8;obtain⟨HRR,RB⟩:=vN HHz S5.out.b hRw (.slice none 0 0) (.slice none 0 0) (iV 0) eS (iV 0) eS (iV 0) (iV (9));clear HHz;go_wp2_with fail
  exact VB (aF Tryz.results108 _ _ (w.heap.size+1+1+1) [.slice none 0 0,.slice none 0 0,iV 0,eS,iV 0,eS,iV 0,iV (9)] _ rfl HRR.out Tryz.underlying104 rfl (show (Tryz.prog.info? 104).map (·.size)=some 8 by kernel_rfl)) rfl (And.intro (by rw[HX.out];exact⟨none,none,0,0,rfl,.inl rfl,.inl rfl,fun g h e1=>by simp at e1⟩) RB.out)
 | true=>
 rw[if_neg (by decide)]at HV;have HHk:=S5.out.at dZ;obtain⟨k0,k1,k2,k3,k4,k5,k6,k7,k8,k9,k10,k11,k12,k13⟩:=HHk.c14;clear HHk;go_wp2_with fail
 refine(HCY.out _ S5.out.b).mono ?_;rintro e W6 ⟨⟨bv,sv,rfl,o1,o2⟩,q6⟩;have S6:Hid _:=S5.out.kept q6;have HO:Hid _:=fK.make (ks:=[(Bc,(cZ c)),(w.heap.size,(iM pa pc p ba ca bo cb x m1 m2)),(w.heap.size+1,(gT h.VF h.addr h.port)),(w.heap.size+1+1,(eH VF VJ addr port peer VG VM)),(w.heap.size+1+1+1,gU)]) (x:=x) S5.out.b.size S6.out.b o1 o2 S6.out.k S5.out.lts q6.size;obtain⟨ab,cb1,hbv,-,-⟩:=(xV.shape eC (w0:=W6) ⟨o1,Below.refl _ _⟩: ∃a' cap,bv=.slice a' x.VN.length cap∧x.VN.length≤cap∧eX dP 5 W5.heap.size W6 a' x.VN);obtain⟨sa,cs1,hsv,-,-⟩:=(xV.shape eD (w0:=W6) ⟨o2,Below.refl _ _⟩: ∃a' cap,sv=.slice a' x.VK.length cap∧x.VK.length≤cap∧eX fZ 7 W5.heap.size W6 a' x.VK);subst hbv hsv;clear q6 o1 o2 S6 S5 HCY k0 k1 k2 k3 k4 k5 k6 k7 k8 k9 k10 k11 k12 k13;go_upto_region 10 with fail
 generalize (W6.alloc (.cells #[(.slice ab x.VN.length cb1),(.slice sa x.VK.length cs1)] 31))=V1 at *;generalize W6.heap.size=O at *;generalize W5.heap.size=base at *;have HV1:Hid (fK w base O [(Bc,(cZ c)),(w.heap.size,(iM pa pc p ba ca bo cb x m1 m2)),(w.heap.size+1,(gT h.VF h.addr h.port)),(w.heap.size+1+1,(eH VF VJ addr port peer VG VM)),(w.heap.size+1+1+1,gU)] (.slice ab x.VN.length cb1) (.slice sa x.VK.length cs1) (x.VN) (x.VK) V1):=HO.out;clear HO;have HHk:=HV1.out.at dZ;have k12:=HHk.cell (j:=12) rfl;clear HHk;have HHn:=HV1.out.at eL;obtain⟨n0,n1,n2⟩:=HHn.c3;clear HHn;have LK:=HLK.out V1 HV1.out.b;go_upto_region 11 with (at_lookup;refine iX rfl _ _ _ _ rfl rfl rfl LK ?_)
 have V2:Hid (fK w base O [(Bc,(cZ c)),(w.heap.size,(iM pa pc p ba ca bo cb x m1 m2)),(w.heap.size+1,(gT h.VF h.addr h.port)),(w.heap.size+1+1,(eH VF VJ addr port peer VG VM)),(w.heap.size+1+1+1,gU)] (.slice ab x.VN.length cb1) (.slice sa x.VK.length cs1) (x.VN) (x.VK) (V1.alloc (.cells (cZ d).toArray 48))):=HV1.out.kept (bR.alloc lR _);generalize (V1.alloc (.cells (cZ d).toArray 48))=U at *;clear HV1 LK HLK k12 n0 n1 n2;go_upto_if 68 with fail
 go_cut [12] (fun v wx=>v=.pointer (some ⟨O,0,none⟩)∧∃(a:OA) (ln cc:Nat),fK w base O [(Bc,(cZ c)),(w.heap.size,(iM pa pc p ba ca bo cb x m1 m2)),(w.heap.size+1,(gT h.VF h.addr h.port)),(w.heap.size+1+1,(eH VF VJ addr port peer VG VM)),(w.heap.size+1+1+1,gU)] (.slice a ln cc) (.slice sa x.VK.length cs1) (nb) (x.VK) wx)
 case first=>
  clear HV HCT HLG
  cases bd with
  | true=>
   have hnb:nb=x.VN:=by rw[HGB.out,if_pos rfl]
   go_wp2_with fail
   go_meet;exact⟨rfl,ab,_,cb1,by rw[hnb];exact V2.out⟩
  | false=>
   have hnb:nb=x.VN++[c]:=by rw[HGB.out,if_neg (by decide)]
   clear HGB;go_upto_region 12 with fail
   have HCP:Hid (∀wy,Below U.drew.heap.size U.drew wy→_):=fun wy hy=>V2.out.kept (bR.drew.trans hy)
   have HNB:Hid _:=hnb;clear hun hnb V2;refine aN [69,70,71,72,73] (by kernel_rfl) (by kernel_rfl) ?_;iterate 4 (apply bC.u rfl;(·intro K' a wy ho hd hb hK;simp[aU,aG,aD,Region.binds]at ho hd;have hst:=HCP.out wy hb;have ko:=hst.o.cell (j:=0) rfl;have kC:=(hst.at cM).c5;clear hst;go_simp;first|((try go_bits);exact hK _ _ rfl bQ)|(refine(HCB.out wy).mono ?_;rintro e wz ⟨rfl,hz⟩;exact hK _ _ rfl hz));dsimp only[nA,cA])
   refine bC.rel (n:=4) (jE (dP c)) (gD _ (by simp[dP])) [_,_,_,_,jE (dP c)] rfl rfl ?_ ?_
   ·intro K' a wy ho hd hb hK;rw[wN rfl];have q3:=hd ⟨3,.data⟩ (by simp) rfl;simp[aU,aG,aD]at q3;clear hd ho;go_simp;exact hK _ _ ⟨wy.heap.size,rfl,aA.new wy (dP c) _⟩ (bR.alloc lR _)
   intro X wz hR hz;obtain⟨x0,x1,x2,x3,x4,-⟩:=hR;simp only[aG]at x0 x1 x2 x3;simp only[aE,x0,x1,x2,x3,aE];clear x0 x1 x2 x3;obtain⟨g7,e7,r7⟩:=x4;have SZ:=HCP.out wz hz;obtain⟨v6,w6,hrun,⟨gg,l6,c6,rfl⟩,hO6,S6⟩:=SZ.appB c g7 r7 hl1;have HRUN:Hid _:=hrun;have HS6:Hid _:=S6;have p1:=hO6.cell (j:=0) rfl;have p2:=hO6.free (j:=0) (by simp);clear hrun S6 hO6 SZ r7 hz HCP;simp only[e7];simp only[List.length_cons,List.length_nil,List.drop_succ_cons,List.drop_zero,UI,Nat.reduceAdd];intro K5 hK5;with_reducible refine dI (.tmp 70) (.tmp 73) _ rfl ?_ ?_ HRUN.out (hK5 _ _ ?_)
   ·simp[Act.eval,Act.put]
   ·simp[Act.eval,Act.put]
   intro K6 hK6;go_simp;refine hK6 _ _ ?_;intro K7 hK7;go_simp;refine hK7 _ _ ?_;simp only[fN];go_wp2_with fail
   go_meet;exact⟨rfl,some ⟨gg,0,none⟩,l6,c6,by rw[HNB.out];exact HS6.out⟩
 case rest=>
 obtain⟨rfl,a1,ln1,cc1,hS⟩:=hcut;have V3:Hid _:=hS;clear hS V2 HGB;generalize wc=U3 at *;obtain⟨a1',q1',hb1',-,-⟩:=V3.out.shapes.1;injection hb1' with i1 i2 i3
 subst i1 i2 i3;go_upto_region 13 with fail
 have V4:Hid (fK w base O [(Bc,(cZ c)),(w.heap.size,(iM pa pc p ba ca bo cb x m1 m2)),(w.heap.size+1,(gT h.VF h.addr h.port)),(w.heap.size+1+1,(eH VF VJ addr port peer VG VM)),(w.heap.size+1+1+1,gU)] (.slice a1 nb.length cc1) (.slice sa x.VK.length cs1) (nb) (x.VK) U3):=V3.out;clear V3;go_cut [15] (fun v wx=>∃g,v=.pointer (some ⟨g,0,none⟩)∧aA wx g (sA h.VF h.addr h.port peer VG st (now+lf))∧fK w base O [(Bc,(cZ c)),(w.heap.size,(iM pa pc p ba ca bo cb x m1 m2)),(w.heap.size+1,(gT h.VF h.addr h.port)),(w.heap.size+1+1,(eH VF VJ addr port peer VG VM)),(w.heap.size+1+1+1,gU)] (.slice a1 nb.length cc1) (.slice sa x.VK.length cs1) (nb) (x.VK) wx)
 case first=>
  rename_i J K2 hJ hK2;have HCP:Hid (∀wy,Below U3.drew.heap.size U3.drew wy→_):=fun wy hy=>V4.out.kept (bR.drew.trans hy)
  try clear hun
  refine aN [76,77,78,79,80,81,82,83,84,85,86,87,88,89,90,91,92,93,94,95,96,15] (by kernel_rfl) (by kernel_rfl) ?_;iterate 21 (apply bC.u rfl;(·intro K' a wy ho hd hb hK;simp[aU,aG,aD,Region.binds]at ho hd;have hst:=HCP.out wy hb;have kC:=(hst.at iF).c7;have kC:=(hst.at eL).c3;have kC:=(hst.at dZ).c10;clear hst;go_simp;first|((try go_bits);exact hK _ _ rfl bQ)|(refine(HLG.out wy).mono ?_;rintro e wz ⟨rfl,hz⟩;exact hK _ _ rfl hz));dsimp only[nA,cA])
  refine bC.rel (n:=21) (QH U3.drew.heap.size) (EM _) [_,_,_,_,_,_,_,_,_,_,_,_,_,_,_,_,_,_,_,_,_,QH U3.drew.heap.size] rfl rfl ?_ ?_
  ·intro K' a wy ho hd hb hK;rw[wN rfl];clear hd ho;go_simp;exact hK _ _ ⟨wy.heap.size,rfl,hb.size,aA.new wy (sA 0 ⟨#[]⟩ 0 ⟨#[]⟩ 0 0 0) 59⟩ (bR.alloc lR _)
  intro X wz hR hz;obtain⟨x0,x1,x2,x3,x4,x5,x6,x7,x8,x9,x10,x11,x12,x13,x14,x15,x16,x17,x18,x19,x20,x21,-⟩:=hR;obtain⟨g8,e8,b8,z8⟩:=x21;simp only[aG]at x0 x1 x2 x3 x4 x5 x6 x7 x8 x9 x10 x11 x12 x13 x14 x15 x16 x17 x18 x19 x20;simp only[aE,x0,x1,x2,x3,x4,x5,x6,x7,x8,x9,x10,x11,x12,x13,x14,x15,x16,x17,x18,x19,x20,e8];clear x0 x1 x2 x3 x4 x5 x6 x7 x8 x9 x10 x11 x12 x13 x14 x15 x16 x17 x18 x19 x20;obtain⟨z0,z1,z2,z3,z4,z5,z6⟩:=z8.c7;obtain⟨zf0,zf1,zf2,zf3,zf4,zf5,zf6⟩:=z8.f7;have b8':U3.heap.size≤g8:=b8;have HB6:Hid (Below U3.heap.size U3 ((sW (sW (sW (sW (sW (sW wz g8 0 (iV h.VF)) g8 1 (.string h.addr)) g8 2 (iV h.port)) g8 3 (.string peer)) g8 4 (iV VG)) g8 5 (iV st)).setCell ⟨g8,6,none⟩ (iV (now+lf)))):=((((((((bR.drew.trans hz).setCell (p:=⟨g8,0,none⟩) b8' (iV h.VF)).setCell (p:=⟨g8,1,none⟩) b8' (.string h.addr)).setCell (p:=⟨g8,2,none⟩) b8' (iV h.port)).setCell (p:=⟨g8,3,none⟩) b8' (.string peer)).setCell (p:=⟨g8,4,none⟩) b8' (iV VG)).setCell (p:=⟨g8,5,none⟩) b8' (iV st)).setCell (p:=⟨g8,6,none⟩) b8' (iV (now+lf)));have HQ6:Hid (aA ((sW (sW (sW (sW (sW (sW wz g8 0 (iV h.VF)) g8 1 (.string h.addr)) g8 2 (iV h.port)) g8 3 (.string peer)) g8 4 (iV VG)) g8 5 (iV st)).setCell ⟨g8,6,none⟩ (iV (now+lf))) g8 (sA h.VF h.addr h.port peer VG st (now+lf))):=(((((((z8.set 0 (iV h.VF)).set 1 (.string h.addr)).set 2 (iV h.port)).set 3 (.string peer)).set 4 (iV VG)).set 5 (iV st)).set 6 (iV (now+lf)));clear z8 b8 b8' hz HCP;intro K10 hK10;go_simp;refine hK10 _ _ ?_;show Exit.then _ _ _ _ _;refine hK2 _ _ (hJ _ _ ?_);(repeat apply Exists.intro)
  exact⟨⟨g8,rfl,HQ6.out,V4.out.kept HB6.out⟩,rfl⟩
 case rest=>
 obtain⟨g8,rfl,hq8,hS⟩:=hcut;have V5:Hid _:=hS;have HQ8:Hid _:=hq8;clear hS hq8 V4 HLG;generalize wc=U5 at *;go_upto_region 14 with fail
 go_cut [12] (fun v wx=>v=.pointer (some ⟨O,0,none⟩)∧∃(a:OA) (ln cc:Nat),fK w base O [(Bc,(cZ c)),(w.heap.size,(iM pa pc p ba ca bo cb x m1 m2)),(w.heap.size+1,(gT h.VF h.addr h.port)),(w.heap.size+1+1,(eH VF VJ addr port peer VG VM)),(w.heap.size+1+1+1,gU)] (.slice a1 nb.length cc1) (.slice a ln cc) (nb) (x.VK++[(⟨h.VF,h.addr,h.port,peer,VG,st,now+lf⟩: Ss)]) wx)
 case first=>
  rename_i J K2 hJ hK2;have HCP:Hid (∀wy,Below U5.drew.heap.size U5.drew wy→_):=fun wy hy=>V5.out.kept (bR.drew.trans hy)
  have HQP:Hid (∀wy,Below U5.drew.heap.size U5.drew wy→aA wy g8 (sA h.VF h.addr h.port peer VG st (now+lf))):=fun wy hy=>HQ8.out.drew.kept (by simp) hy
  try clear hun
  refine aN [97,98,99,100,101] (by kernel_rfl) (by kernel_rfl) ?_;iterate 4 (apply bC.u rfl;(·intro K' a wy ho hd hb hK;simp[aU,aG,aD,Region.binds]at ho hd;have hst:=HCP.out wy hb;have ko:=hst.o.cell (j:=1) rfl;have hqq:=HQP.out wy hb;have kC:=hqq.c7;clear hst;go_simp;first|((try go_bits);exact hK _ _ rfl bQ)|(refine(HCT.out wy).mono ?_;rintro e wz ⟨rfl,hz⟩;exact hK _ _ rfl hz));dsimp only[nA,cA])
  refine bC.rel (n:=4) (jE (fZ (⟨h.VF,h.addr,h.port,peer,VG,st,now+lf⟩: Ss))) (gD _ (by simp[fZ])) [_,_,_,_,jE (fZ (⟨h.VF,h.addr,h.port,peer,VG,st,now+lf⟩: Ss))] rfl rfl ?_ ?_
  ·intro K' a wy ho hd hb hK;rw[wN rfl];have q3:=hd ⟨3,.data⟩ (by simp) rfl;simp[aU,aG,aD]at q3;clear hd ho;go_simp;exact hK _ _ ⟨wy.heap.size,rfl,aA.new wy (fZ (⟨h.VF,h.addr,h.port,peer,VG,st,now+lf⟩: Ss)) _⟩ (bR.alloc lR _)
  intro X wz hR hz;obtain⟨x0,x1,x2,x3,x4,-⟩:=hR;simp only[aG]at x0 x1 x2 x3;simp only[aE,x0,x1,x2,x3,aE];clear x0 x1 x2 x3;obtain⟨g7,e7,r7⟩:=x4;have SZ:=HCP.out wz hz;obtain⟨v6,w6,hrun,⟨gg,l6,c6,rfl⟩,hO6,S6⟩:=SZ.appS (⟨h.VF,h.addr,h.port,peer,VG,st,now+lf⟩: Ss) g7 r7 hl2;have HRUN:Hid _:=hrun;have HS6:Hid _:=S6;have p1:=hO6.cell (j:=1) rfl;have p2:=hO6.free (j:=1) (by simp);clear hrun S6 hO6 SZ r7 hz HCP;simp only[e7];simp only[List.length_cons,List.length_nil,List.drop_succ_cons,List.drop_zero,UI,Nat.reduceAdd];intro K5 hK5;with_reducible refine dI (.tmp 98) (.tmp 101) _ rfl ?_ ?_ HRUN.out (hK5 _ _ ?_)
  ·simp[Act.eval,Act.put]
  ·simp[Act.eval,Act.put]
  intro K6 hK6;go_simp;refine hK6 _ _ ?_;intro K7 hK7;go_simp;refine hK7 _ _ ?_;show Exit.then _ _ _ _ _;refine hK2 _ _ (hJ _ _ ?_);(repeat apply Exists.intro)
  exact⟨⟨rfl,some ⟨gg,0,none⟩,l6,c6,HS6.out⟩,rfl⟩
 case rest=>
 obtain⟨rfl,a2,ln2,cc2,hS⟩:=hcut;have V6:Hid _:=hS;clear hS V5 HQ8 HCT;generalize wc=U6 at *;obtain⟨a2',q2',hb2',-,-⟩:=V6.out.shapes.2;injection hb2' with i1 i2 i3
 subst i1 i2 i3;go_upto_region 15 with fail
 obtain⟨sn,hsn⟩: ∃n,n=(x.VK++[(⟨h.VF,h.addr,h.port,peer,VG,st,now+lf⟩: Ss)]).length:=⟨_,rfl⟩;have HSN:Hid (sn=(x.VK++[(⟨h.VF,h.addr,h.port,peer,VG,st,now+lf⟩: Ss)]).length):=hsn;rw[←hsn]at V6;clear hsn;obtain⟨bn,hbn⟩: ∃n,n=nb.length:=⟨_,rfl⟩;have HBN:Hid (bn=nb.length):=hbn;rw[←hbn]at V6;clear hbn;have HCP:Hid (∀wy,Below U6.drew.heap.size U6.drew wy→_):=fun wy hy=>V6.out.kept (bR.drew.trans hy)
 try clear hun
 clear V6;refine aN [104,105,106,107] (by kernel_rfl) (by kernel_rfl) ?_;iterate 4 (apply bC.u rfl;(·intro K' a wy ho hd hb hK;simp[aU,aG,aD,Region.binds]at ho hd;have hst:=HCP.out wy hb;have kC:=hst.o.c2;have kC:=(hst.at cM).c5;clear hst;go_simp;first|((try go_bits);exact hK _ _ rfl bQ)|(refine(HCB.out wy).mono ?_;rintro e wz ⟨rfl,hz⟩;exact hK _ _ rfl hz));dsimp only[nA,cA])
 intro X wz hR hz;simp only[UM,UN,eY,aG]at hR;simp only[aE,hR];clear hR;have V7:Hid (fK w base O [(Bc,(cZ c)),(w.heap.size,(iM pa pc p ba ca bo cb x m1 m2)),(w.heap.size+1,(gT h.VF h.addr h.port)),(w.heap.size+1+1,(eH VF VJ addr port peer VG VM)),(w.heap.size+1+1+1,gU)] (.slice a1 bn cc1) (.slice a2 sn cc2) (nb) (x.VK++[(⟨h.VF,h.addr,h.port,peer,VG,st,now+lf⟩: Ss)]) wz):=HCP.out wz hz;clear hz HCP;have HHz:=V7.out.at nH;obtain⟨z0,z1,z2,z3,z4,z5,z6,z7⟩:=HHz.c8;obtain⟨zf0,zf1,zf2,zf3,zf4,zf5,zf6,zf7⟩:=HHz.f8;obtain⟨HRR,RB⟩:=vN HHz V7.out.b hRw (.slice a1 bn cc1) (.slice a2 sn cc2) (iV c.VF) (.string c.inn) (iV c.VH) (.string c.out) (iV c.VI) (iV 0);clear HHz;obtain⟨w1,q1,hb1,-,hbo⟩:=V7.out.shapes.1;obtain⟨w2,q2,hb2,-,hso⟩:=V7.out.shapes.2;injection hb1 with i1 i2 i3
 injection hb2 with i4 i5 i6
 have hRb:w.heap.size+1+1+1 < base:=(V7.out.kb _ nH).1;have hwb:=V7.out.wb;have HOW:Hid (bV w.heap.size ((sW (sW (sW (sW (sW (sW (sW wz (w.heap.size+1+1+1) 0 (.slice a1 bn cc1)) (w.heap.size+1+1+1) 1 (.slice a2 sn cc2)) (w.heap.size+1+1+1) 2 (iV c.VF)) (w.heap.size+1+1+1) 3 (.string c.inn)) (w.heap.size+1+1+1) 4 (iV c.VH)) (w.heap.size+1+1+1) 5 (.string c.out)) (w.heap.size+1+1+1) 6 (iV c.VI)).setCell ⟨w.heap.size+1+1+1,7,none⟩ (iV 0)) w1 w2 ⟨nb,x.VK++[(⟨h.VF,h.addr,h.port,peer,VG,st,now+lf⟩: Ss)]⟩):=⟨(hbo.grown (aB (aB (aB (aB (aB (aB (aB (aB (World.grownBy.refl _ _) _) _) _) _) _) _) _) _) hRb).down hwb,(hso.grown (aB (aB (aB (aB (aB (aB (aB (aB (World.grownBy.refl _ _) _) _) _) _) _) _) _) _) hRb).down hwb,fun g h e1 e2 _ _ e3=>V7.out.ne g (by rw[i1,e1];rfl) (by rw[i4,e2,←e3];rfl)⟩;have I1:Hid _:=i1;have I3:Hid _:=i3;have I4:Hid _:=i4;have I6:Hid _:=i6;clear hbo hso V7 i1 i2 i3 i4 i5 i6;intro K10 hK10;go_simp;refine hK10 _ _ ?_;simp only[fN];go_wp2_with fail
 exact VB (aF Tryz.results108 _ _ _ _ _ rfl HRR.out Tryz.underlying104 rfl (show (Tryz.prog.info? 104).map (·.size)=some 8 by kernel_rfl)) rfl (And.intro (by rw[HV.out];exact⟨w1,w2,q1,q2,by rw[I1.out,I3.out,I4.out,I6.out,HBN.out,HSN.out];rfl,HOW.out⟩) RB.out)
theorem lU{t:Tc}(h:cC t=true):gV t.VF∧0≤t.port∧t.port≤65535∧aO t.VM 0 255=true:=by
 unfold cC at h;simp only[UB]at h;obtain⟨⟨⟨⟨⟨⟨h1,h2⟩,h3⟩,h4⟩,h5⟩,h6⟩,h7⟩:=h;have h4':=eK h4;refine⟨?_,h4'.1,h4'.2,h7⟩;unfold eN at h1;simp only[UV,UF]at h1;unfold gV;rcases h1 with (h1|h1)|h1<;>rw[h1]<;>decide
theorem GG{p:Pl}{x:Bb}{t:Tc}(hok:dA p x=true)(ht:cC t=true)(hs:t.addr.size≤1048576)(hgb:∀q∈x.VN,fG q)(hf:(cL x t).2=true):qX (cL x t).1∧0≤(cL x t).1.port∧(cL x t).1.port≤65535:=by
 obtain⟨t1,t2,t3,t4⟩:=lU ht;unfold cL at hf ⊢
 cases hin:t.VJ with
 | true=>
  simp only[if_true];refine⟨⟨hs,t1,?_⟩,t2,t3⟩;show gV t.port;unfold gV;constructor<;>omega
 | false=>
  rw[hin]at hf;simp only[UO,if_false]at hf ⊢
  cases hd:x.VN.find? (cV t.VF t.addr t.port) with
  | none=>rw[hd]at hf;simp at hf
  | some c=>
   have hc:=VA hd;simp only[Option.getD_some];refine⟨wE (hgb c hc),?_⟩;unfold dA at hok;simp only[UB]at hok;have hF:=iA.1 hok.1.2;obtain⟨i,hi,rfl⟩:=UY hc;have h1:=hF i hi;unfold lY at h1;simp only[UB]at h1;exact eK h1.1.1.1.1.1.1.2
theorem OU{p:Pl}{x:Bb}{t:Tc}{now:Int}(h1:(cL x t).2=true)(h2:x.VK.findIdx? (fun s=>dK (eA s) (pI (cL x t).1 t))=none):IY p x t now=lC p x (cL x t).1 t now:=by
 unfold IY;rw[if_neg (by rw[h1];decide),h2]
theorem OW{p:Pl}{x:Bb}{t:Tc}{now:Int}{j:Nat}(hlt:j < x.VK.length)(h1:(cL x t).2=true)(h2:x.VK.findIdx? (fun s=>dK (eA s) (pI (cL x t).1 t))=some j):IY p x t now=⟨⟨x.VN,x.VK.set j (nI p t now x.VK[j])⟩,(x.VN.find? (cD (cL x t).1.VF (cL x t).1.addr (cL x t).1.port)).getD lB,0⟩:=by
 unfold IY tQ;rw[if_neg (by rw[h1];decide),h2];simp only[UU hlt]
theorem nW(pa:OA)(pc:Nat)(p:Pl)(ba bo:OA)(ca cb:Nat)(x:Bb)(t:Tc)(now:Int)(w:World)(hT:rJ w)(hs1:t.addr.size≤1048576)(hs2:t.peer.size≤1048576)(hpl:p.VL.length≤1048576)(hpc:p.VL.length≤pc)(hps:∀s∈p.VL,s.size≤1048576)(hbl1:x.VN.length≤1048576)(hbl2:x.VK.length≤1048576)(hgb:∀q∈x.VN,fG q)(hgs:∀s∈x.VK,iI s)(hp:bP cB 1 w pa p.VL)(hx:dC w ba bo x) :
  Calls Tryz.prog 60 #[iK pa pc p,gP ba bo ca cb x,pJ t,iV now] w fun e w'=>kX w.heap.size (dH p x t now) e w'∧Below w.heap.size w w':=by
 rw[←IL];have HHP:Hid (dA p x=true→cC t=true→(cL x t).2=true→qX (cL x t).1∧0≤(cL x t).1.port∧(cL x t).1.port≤65535):=fun h1 h2 h3=>GG h1 h2 hs1 hgb h3
 have HTP:Hid (cC t=true→gV t.VF∧0≤t.port∧t.port≤65535∧aO t.VM 0 255=true):=lU;have HG0:Hid ((cL x t).2=false→IY p x t now=kY 6):=fun h=>by unfold IY;rw[if_pos h]
 have HG1:Hid ((cL x t).2=true→x.VK.findIdx? (fun s=>dK (eA s) (pI (cL x t).1 t))=none→IY p x t now=lC p x (cL x t).1 t now):=OU;have HG2:Hid (∀j (hlt:j < x.VK.length),(cL x t).2=true→x.VK.findIdx? (fun s=>dK (eA s) (pI (cL x t).1 t))=some j→IY p x t now=⟨⟨x.VN,x.VK.set j (nI p t now x.VK[j])⟩,(x.VN.find? (cD (cL x t).1.VF (cL x t).1.addr (cL x t).1.port)).getD lB,0⟩):=fun j hlt=>OW hlt
 have HHO:Hid (∀W m1 m2,cC t=true→dJ W m1 m2 x.VN x.VN→Cb 106 #[.agg (iM pa pc p ba ca bo cb x m1 m2).toArray,pJ t] W (.tuple #[pG (cL x t).1,.bool (cL x t).2])):=fun W m1 m2 ht hbk=>GF pa pc p ba bo ca cb x m1 m2 t W ⟨hs1,(lU ht).1,by have:=lU ht;show gV t.port;unfold gV;constructor<;>omega⟩ hbk
 have HBG:Hid (∀W m1 m2,Below w.heap.size w W→dA p x=true→bT now=true→cC t=true→(cL x t).2=true→dJ W m1 m2 x.VN x.VN→Calls Tryz.prog 108 #[.agg (iM pa pc p ba ca bo cb x m1 m2).toArray,pG (cL x t).1,pJ t,iV now] W fun e w'=>kX W.heap.size (lC p x (cL x t).1 t now) e w'∧Below W.heap.size W w'):=fun W m1 m2 hW hok hnow ht hf hbk=>by
  have hpo:cU p=true:=by unfold dA at hok;simp only[UB]at hok;exact hok.1.1.1.1
  have h:=HHP.out hok ht hf;exact JQ pa pc p ba bo ca cb x m1 m2 _ t now W hpo hnow (lU ht).2.2.2 h.1 h.2.1 h.2.2 hs2 hps hbl1 hbl2 hgb hgs hbk (hp.below hW) (hx.below hW)
 have HGT:Hid (∀W m1 m2,dA p x=true→cC t=true→(cL x t).2=true→dJ W m1 m2 x.VN x.VN→(Instr.lookup 137 (.map (some m1)) (pG (cL x t).1) false).run Tryz.prog W=.ok (gW ((x.VN.find? (cD (cL x t).1.VF (cL x t).1.addr (cL x t).1.port)).getD lB)) W):=fun W m1 m2 hok ht hf hbk=>by
  have hl:=hbk.get1 (HHP.out hok ht hf).1;rw[show (fun q=>bB (bO q) (cL x t).1)=cD (cL x t).1.VF (cL x t).1.addr (cL x t).1.port from funext fun c=>nE _ _ _ c]at hl;exact hl
 have HCB:Hid (∀W,Cb 82 #[gW ((x.VN.find? (cD (cL x t).1.VF (cL x t).1.addr (cL x t).1.port)).getD lB)] W (gW ((x.VN.find? (cD (cL x t).1.VF (cL x t).1.addr (cL x t).1.port)).getD lB))):=fun W=>by
  cases hf:x.VN.find? (cD (cL x t).1.VF (cL x t).1.addr (cL x t).1.port) with
  | none=>exact kR lB W (VC _) (VC _)
  | some c=>exact kR c W (hgb c (VA hf)).1 (hgb c (VA hf)).2.1
 obtain⟨VF,VJ,addr,port,peer,VG,VM⟩:=t;dsimp only at hs1 hs2;have HOP:Hid (∀W,Below w.heap.size w W→Calls Tryz.prog 104 #[.agg (bG pa pc p).toArray,.agg (aX ba ca bo cb x).toArray] W (kO W pa pc p ba bo ca cb x)):=fun W hW=>DQ pa pc p ba bo ca cb x W hpl hpc hps hbl1 hbl2 hgb hgs (hp.below hW) (hx.below hW)
 have HTM:Hid (∀W,Cw 87 #[iV now] W (.bool (bT now))):=fun W=>sJ now W
 have HTR:Hid (∀W,Cb 105 #[.agg (eH VF VJ addr port peer VG VM).toArray] W (.bool (cC ⟨VF,VJ,addr,port,peer,VG,VM⟩))):=fun W=>xR ⟨VF,VJ,addr,port,peer,VG,VM⟩ W hs1 hs2
 have HSA:Hid (∀(h:En) W,Below w.heap.size w W→Cb 107 #[.slice bo x.VK.length cb,.agg (gB h.VF h.addr h.port peer VG).toArray] W (iV (bD (fun s=>dK (eA s) (pI h ⟨VF,VJ,addr,port,peer,VG,VM⟩)) x.VK))):=fun h W hW=>wZ (pI h ⟨VF,VJ,addr,port,peer,VG,VM⟩) x.VK bo cb W hbl2 (hx.ss.below hW)
 have HCY:Hid (∀W,Below w.heap.size w W→Calls Tryz.prog 109 #[.agg (aX ba ca bo cb x).toArray] W fun e w'=>oE W.heap.size x e w'∧Below W.heap.size W w'):=fun W hW=>rB x ba bo ca cb W hbl1 hbl2 hgb hgs (hx.below hW)
 have HNX:Hid (∀(st:Int) (W:World),Below w.heap.size w W→Cb 110 #[iV VF,iV st,.bool VJ,iV VM] W (iV (aY VF st VJ VM))):=fun st W hW=>AQ VF st VJ VM W (hT.below hW)
 have HLF:Hid (∀(st:Int) (W:World),Cb 111 #[.agg #[iV p.lv.udp,iV p.lv.echo,iV p.lv.opening,iV p.lv.opn,iV p.lv.closing],iV VF,iV st] W (iV (bU p.lv VF st))):=fun st W=>sH p.lv VF st W
 unfold pJ at HHO HBG;dsimp only at HHO HBG;obtain⟨ans,hans⟩: ∃a,a=(if (dA p x&&bT now&&cC ⟨VF,VJ,addr,port,peer,VG,VM⟩)=true then IY p x ⟨VF,VJ,addr,port,peer,VG,VM⟩ now else kY 1):=⟨_,rfl⟩;rw[←hans];have HV:Hid (ans=(if (dA p x&&bT now&&cC ⟨VF,VJ,addr,port,peer,VG,VM⟩)=true then IY p x ⟨VF,VJ,addr,port,peer,VG,VM⟩ now else kY 1)):=hans;have hn:bT now=true→0≤now∧now≤1000000000:=fun h=>by unfold bT aO at h;simp only[UB,UF]at h;omega
 have HNN:Hid _:=hn;generalize hgi:IY p x ⟨VF,VJ,addr,port,peer,VG,VM⟩ now=gi at *;obtain⟨hv,hhv⟩: ∃h,h=(cL x ⟨VF,VJ,addr,port,peer,VG,VM⟩).1:=⟨_,rfl⟩;rw[←hhv]at HHP HG1 HG2 HHO HBG HGT HCB;unfold pG at HHO HBG HGT;generalize (cL x ⟨VF,VJ,addr,port,peer,VG,VM⟩).2=fd at *;replace HSA:=HSA.out hv;have HSB:Hid _:=HSA;clear HSA hhv;obtain⟨d,hd⟩: ∃d,d=(x.VN.find? (cD hv.VF hv.addr hv.port)).getD lB:=⟨_,rfl⟩;rw[←hd]at HG2 HGT HCB;unfold gW at HGT HCB;clear hd hans hn hgi;generalize cC ⟨VF,VJ,addr,port,peer,VG,VM⟩=tr at *;generalize bT now=tm at *;have hun:undef=Value.tuple #[]:=rfl;have hRw:w.heap.size≤w.heap.size+1+1+1:=by omega
 clear hp hx hgb hgs hps hT;have e0:aA ((aW (aW (aW w (bG pa pc p) 27) (aX ba ca bo cb x) 31) (eH VF VJ addr port peer VG VM) 89).alloc (.cells gU.toArray 104)) (w.heap.size) (bG pa pc p):=by
  have h:=aA.new w (bG pa pc p) 27;try simp only[UC]at h
  exact(((h.alloc _).alloc _).alloc _)
 have e1:aA ((aW (aW (aW w (bG pa pc p) 27) (aX ba ca bo cb x) 31) (eH VF VJ addr port peer VG VM) 89).alloc (.cells gU.toArray 104)) (w.heap.size+1) (aX ba ca bo cb x):=by
  have h:=aA.new (w.alloc (.cells (bG pa pc p).toArray 27)) (aX ba ca bo cb x) 31;try simp only[UC]at h
  exact((h.alloc _).alloc _)
 have e2:aA ((aW (aW (aW w (bG pa pc p) 27) (aX ba ca bo cb x) 31) (eH VF VJ addr port peer VG VM) 89).alloc (.cells gU.toArray 104)) (w.heap.size+1+1) (eH VF VJ addr port peer VG VM):=by
  have h:=aA.new ((aW w (bG pa pc p) 27).alloc (.cells (aX ba ca bo cb x).toArray 31)) (eH VF VJ addr port peer VG VM) 89;try simp only[UC]at h
  exact(h.alloc _)
 have e3:aA ((aW (aW (aW w (bG pa pc p) 27) (aX ba ca bo cb x) 31) (eH VF VJ addr port peer VG VM) 89).alloc (.cells gU.toArray 104)) (w.heap.size+1+1+1) gU:=by
  have h:=aA.new ((aW (aW w (bG pa pc p) 27) (aX ba ca bo cb x) 31).alloc (.cells (eH VF VJ addr port peer VG VM).toArray 89)) gU 104;try simp only[UC]at h
  exact h
 have HS0:Hid (dD w [(w.heap.size,(bG pa pc p)),(w.heap.size+1,(aX ba ca bo cb x)),(w.heap.size+1+1,(eH VF VJ addr port peer VG VM)),(w.heap.size+1+1+1,gU)] ((aW (aW (aW w (bG pa pc p) 27) (aX ba ca bo cb x) 31) (eH VF VJ addr port peer VG VM) 89).alloc (.cells gU.toArray 104))):=by
  refine⟨fun e he=>?_,((((bR.alloc (by (try simp only[UC]);omega) _).alloc (by (try simp only[UC]);omega) _).alloc (by (try simp only[UC]);omega) _).alloc (by (try simp only[UC]);omega) _),fun e he=>?_⟩
  ·simp only[UH,UG,or_false]at he;rcases he with rfl|rfl|rfl|rfl
   ·exact e0
   ·exact e1
   ·exact e2
   ·exact e3
  ·simp only[UH,UG,or_false]at he;rcases he with rfl|rfl|rfl|rfl<;>simp
 clear e0 e1 e2 e3;unfold iK gP pJ;go_enter Tryz.func60,Tryz.ntmps60
 go_upto_region 1 with fail
 generalize World.alloc _ _=W at *;have HHp:=HS0.out.at cM;obtain⟨p0,p1,p2,p3,p4,p5,p6,p7,p8,p9⟩:=HHp.c10;clear HHp;have HHb:=HS0.out.at dZ;obtain⟨b0,b1⟩:=HHb.c2;clear HHb;go_wp2_with fail
 refine(HOP.out _ HS0.out.b).mono ?_;rintro e w1 ⟨q1,hh⟩;have S1:Hid _:=HS0.out.kept q1;clear q1 HS0 HOP p0 p1 p2 p3 p4 p5 p6 p7 p8 p9 b0 b1;rcases hh with ⟨hok,rfl⟩|⟨hok,m1,m2,rfl,hm1,hm2,hbk⟩
 case inl=>
  have HV1:Hid (ans=kY 1):=by unfold Hid;rw[HV.out,hok];rfl
  clear HV hok;unfold SY;go_upto_region 2 with fail
  have S2:Hid (dD w [(w.heap.size,(bG pa pc p)),(w.heap.size+1,(aX ba ca bo cb x)),(w.heap.size+1+1,(eH VF VJ addr port peer VG VM)),(w.heap.size+1+1+1,gU)] (w1.alloc (.cells pF.toArray 139))):=S1.out.kept (bR.alloc lR _);generalize (w1.alloc (.cells pF.toArray 139))=W2 at *;clear S1;have HX:Hid (ans=kY (1)):=by unfold Hid;exact HV1.out
  have HHz:=S2.out.at iF;obtain⟨z0,z1,z2,z3,z4,z5,z6,z7⟩:=HHz.c8;obtain⟨zf0,zf1,zf2,zf3,zf4,zf5,zf6,zf7⟩:=HHz.f8;obtain⟨HRR,RB⟩:=vN HHz S2.out.b hRw (.slice none 0 0) (.slice none 0 0) (iV 0) eS (iV 0) eS (iV 0) (iV (1));clear HHz;go_wp2_with fail
  exact VB (aF Tryz.results60 _ _ (w.heap.size+1+1+1) [.slice none 0 0,.slice none 0 0,iV 0,eS,iV 0,eS,iV 0,iV (1)] _ rfl HRR.out Tryz.underlying104 rfl (show (Tryz.prog.info? 104).map (·.size)=some 8 by kernel_rfl)) rfl (And.intro (by rw[HX.out];exact⟨none,none,0,0,rfl,.inl rfl,.inl rfl,fun g h e1=>by simp at e1⟩) RB.out)
 have HBK:Hid (dJ w1 m1 m2 x.VN x.VN):=hbk;have HOK:Hid (dA p x=true):=hok;rw[hok,UP]at HV;clear hbk hok;unfold CO;go_upto_region 2 with fail
 have bn:Below w1.heap.size w1 (w1.alloc (.cells (iM pa pc p ba ca bo cb x m1 m2).toArray 139)):=bR.alloc lR _;have HBK2:Hid (dJ (w1.alloc (.cells (iM pa pc p ba ca bo cb x m1 m2).toArray 139)) m1 m2 x.VN x.VN):=HBK.out.kept bn;have S2:Hid _:=S1.out.push (iM pa pc p ba ca bo cb x m1 m2) (by simp) 139;generalize hW2:w1.alloc _=W2 at *;clear hW2 S1 bn HBK;generalize w1.heap.size=Bk at *;have BW:Hid (Below w.heap.size w W2):=S2.out.b;have S3:Hid (dD W2 [(Bk,(iM pa pc p ba ca bo cb x m1 m2)),(w.heap.size,(bG pa pc p)),(w.heap.size+1,(aX ba ca bo cb x)),(w.heap.size+1+1,(eH VF VJ addr port peer VG VM)),(w.heap.size+1+1+1,gU)] W2):=⟨S2.out.k,Below.refl _ _,S2.out.z⟩;clear S2;go_wp2_with fail
 refine(HTM.out _).mono ?_;rintro e W3 ⟨rfl,hw3⟩;subst hw3
 cases tm with
 | false=>
  have HX:Hid (ans=kY (1)):=by unfold Hid;rw[HV.out];rfl
  have HHz:=S3.out.at nH;obtain⟨z0,z1,z2,z3,z4,z5,z6,z7⟩:=HHz.c8;obtain⟨zf0,zf1,zf2,zf3,zf4,zf5,zf6,zf7⟩:=HHz.f8;obtain⟨HRR,RB⟩:=vN HHz (BW.out.trans (S3.out.b.mono BW.out.size)) hRw (.slice none 0 0) (.slice none 0 0) (iV 0) eS (iV 0) eS (iV 0) (iV (1));clear HHz;go_wp2_with fail
  exact VB (aF Tryz.results60 _ _ (w.heap.size+1+1+1) [.slice none 0 0,.slice none 0 0,iV 0,eS,iV 0,eS,iV 0,iV (1)] _ rfl HRR.out Tryz.underlying104 rfl (show (Tryz.prog.info? 104).map (·.size)=some 8 by kernel_rfl)) rfl (And.intro (by rw[HX.out];exact⟨none,none,0,0,rfl,.inl rfl,.inl rfl,fun g h e1=>by simp at e1⟩) RB.out)
 | true=>
 rw[UP]at HV;obtain⟨hn0,hn1⟩:=HNN.out rfl;have HHt:=S3.out.at iF;obtain⟨t0,t1,t2,t3,t4,t5,t6⟩:=HHt.c7;clear HHt;go_wp2_with fail
 refine(HTR.out _).mono ?_;rintro e W4 ⟨rfl,q4⟩;have S4:Hid _:=S3.out.kept q4;clear q4 S3 HTM HTR HNN t0 t1 t2 t3 t4 t5 t6
 cases tr with
 | false=>
  have HX:Hid (ans=kY (1)):=by unfold Hid;rw[HV.out];rfl
  have HHz:=S4.out.at nH;obtain⟨z0,z1,z2,z3,z4,z5,z6,z7⟩:=HHz.c8;obtain⟨zf0,zf1,zf2,zf3,zf4,zf5,zf6,zf7⟩:=HHz.f8;obtain⟨HRR,RB⟩:=vN HHz (BW.out.trans (S4.out.b.mono BW.out.size)) hRw (.slice none 0 0) (.slice none 0 0) (iV 0) eS (iV 0) eS (iV 0) (iV (1));clear HHz;go_wp2_with fail
  exact VB (aF Tryz.results60 _ _ (w.heap.size+1+1+1) [.slice none 0 0,.slice none 0 0,iV 0,eS,iV 0,eS,iV 0,iV (1)] _ rfl HRR.out Tryz.underlying104 rfl (show (Tryz.prog.info? 104).map (·.size)=some 8 by kernel_rfl)) rfl (And.intro (by rw[HX.out];exact⟨none,none,0,0,rfl,.inl rfl,.inl rfl,fun g h e1=>by simp at e1⟩) RB.out)
 | true=>
 have HV2:Hid (ans=gi):=by unfold Hid;rw[HV.out,if_pos rfl]
 clear HV;have HHk:=S4.out.at cM;obtain⟨k0,k1,k2,k3,k4,k5,k6,k7,k8,k9,k10,k11,k12,k13⟩:=HHk.c14;clear HHk;have HHt:=S4.out.at iF;obtain⟨t0,t1,t2,t3,t4,t5,t6⟩:=HHt.c7;clear HHt;go_wp2_with fail
 refine(HHO.out _ m1 m2 (by first | rfl | trivial) (HBK2.out.kept S4.out.b)).mono ?_;rintro e W5 ⟨rfl,q5⟩;have S5:Hid _:=S4.out.kept q5;clear q5 S4 HHO k0 k1 k2 k3 k4 k5 k6 k7 k8 k9 k10 k11 k12 k13 t0 t1 t2 t3 t4 t5 t6;go_upto_region 5 with fail
 have S6:Hid _:=S5.out.push (gT hv.VF hv.addr hv.port) (by simp) 86;generalize hW6:W5.alloc _=W6 at *;clear hW6 S5;generalize W5.heap.size=Be at *
 cases fd with
 | false=>
  have HX:Hid (ans=kY (6)):=by unfold Hid;rw[HV2.out];exact HG0.out (by first | rfl | trivial)
  have HHz:=S6.out.at CD;obtain⟨z0,z1,z2,z3,z4,z5,z6,z7⟩:=HHz.c8;obtain⟨zf0,zf1,zf2,zf3,zf4,zf5,zf6,zf7⟩:=HHz.f8;obtain⟨HRR,RB⟩:=vN HHz (BW.out.trans (S6.out.b.mono BW.out.size)) hRw (.slice none 0 0) (.slice none 0 0) (iV 0) eS (iV 0) eS (iV 0) (iV (6));clear HHz;go_wp2_with fail
  exact VB (aF Tryz.results60 _ _ (w.heap.size+1+1+1) [.slice none 0 0,.slice none 0 0,iV 0,eS,iV 0,eS,iV 0,iV (6)] _ rfl HRR.out Tryz.underlying104 rfl (show (Tryz.prog.info? 104).map (·.size)=some 8 by kernel_rfl)) rfl (And.intro (by rw[HX.out];exact⟨none,none,0,0,rfl,.inl rfl,.inl rfl,fun g h e1=>by simp at e1⟩) RB.out)
 | true=>
 have HHb:=S6.out.at iF;have b1:=HHb.cell (j:=1) rfl;clear HHb;have HHt:=S6.out.at nH;obtain⟨t0,t1,t2,t3,t4,t5,t6⟩:=HHt.c7;clear HHt;have HHn:=S6.out.at cM;obtain⟨n0,n1,n2⟩:=HHn.c3;clear HHn;go_wp2_with fail
 refine(HSB.out _ (BW.out.trans (S6.out.b.mono BW.out.size))).mono ?_;rintro e W7 ⟨rfl,q7⟩;have S7:Hid _:=S6.out.kept q7;clear q7 S6 HSB HG0 b1 t0 t1 t2 t3 t4 t5 t6 n0 n1 n2
 cases hfi:x.VK.findIdx? (fun s=>dK (eA s) (pI hv ⟨VF,VJ,addr,port,peer,VG,VM⟩)) with
 | none=>
  have hk:bD (fun s=>dK (eA s) (pI hv ⟨VF,VJ,addr,port,peer,VG,VM⟩)) x.VK=-1:=by unfold bD;rw[hfi]
  have HX:Hid (ans=lC p x hv ⟨VF,VJ,addr,port,peer,VG,VM⟩ now):=by unfold Hid;rw[HV2.out];exact HG1.out (by first | rfl | trivial) hfi
  clear HV2 HG1 HG2 hfi;rw[hk];clear hk;generalize lC p x hv ⟨VF,VJ,addr,port,peer,VG,VM⟩ now=nv at *;have HHk:=S7.out.at dZ;obtain⟨k0,k1,k2,k3,k4,k5,k6,k7,k8,k9,k10,k11,k12,k13⟩:=HHk.c14;clear HHk;have HHt:=S7.out.at nH;obtain⟨t0,t1,t2,t3,t4,t5,t6⟩:=HHt.c7;clear HHt;have HHn:=S7.out.at cM;obtain⟨n0,n1,n2⟩:=HHn.c3;clear HHn;have hRl:w.heap.size+1+1+1 < W7.heap.size:=(S7.out.lts _ CD).1;have hwl:w.heap.size≤W7.heap.size:=UL BW.out.size S7.out.b.size;go_wp2_with fail
  refine(HBG.out _ m1 m2 (BW.out.trans (S7.out.b.mono BW.out.size)) HOK.out (by first | rfl | trivial) (by first | rfl | trivial) (by first | rfl | trivial) (HBK2.out.kept S7.out.b)).mono ?_;rintro e W8 ⟨⟨a1,a2,c1,c2,rfl,hown⟩,q8⟩;have S8:Hid _:=S7.out.kept q8;have HHz:=S8.out.at CD;obtain⟨z0,z1,z2,z3,z4,z5,z6,z7⟩:=HHz.c8;obtain⟨zf0,zf1,zf2,zf3,zf4,zf5,zf6,zf7⟩:=HHz.f8;obtain⟨HRR,RB⟩:=vN HHz (BW.out.trans (S8.out.b.mono BW.out.size)) hRw (.slice a1 nv.bib.VN.length c1) (.slice a2 nv.bib.VK.length c2) (iV nv.bind.VF) (.string nv.bind.inn) (iV nv.bind.VH) (.string nv.bind.out) (iV nv.bind.VI) (iV nv.code);clear HHz;have HOW:Hid (bV w.heap.size ((sW (sW (sW (sW (sW (sW (sW W8 (w.heap.size+1+1+1) 0 (.slice a1 nv.bib.VN.length c1)) (w.heap.size+1+1+1) 1 (.slice a2 nv.bib.VK.length c2)) (w.heap.size+1+1+1) 2 (iV nv.bind.VF)) (w.heap.size+1+1+1) 3 (.string nv.bind.inn)) (w.heap.size+1+1+1) 4 (iV nv.bind.VH)) (w.heap.size+1+1+1) 5 (.string nv.bind.out)) (w.heap.size+1+1+1) 6 (iV nv.bind.VI)).setCell ⟨w.heap.size+1+1+1,7,none⟩ (iV nv.code)) a1 a2 nv.bib):=⟨(hown.bd.grown (aB (aB (aB (aB (aB (aB (aB (aB (World.grownBy.refl _ _) _) _) _) _) _) _) _) _) hRl).down hwl,(hown.ss.grown (aB (aB (aB (aB (aB (aB (aB (aB (World.grownBy.refl _ _) _) _) _) _) _) _) _) _) hRl).down hwl,hown.ne⟩;clear hown q8;unfold EZ;go_wp2_with fail
  exact VB (aF Tryz.results60 _ _ _ _ _ rfl HRR.out Tryz.underlying104 rfl (show (Tryz.prog.info? 104).map (·.size)=some 8 by kernel_rfl)) rfl (And.intro (by rw[HX.out];exact⟨a1,a2,c1,c2,rfl,HOW.out⟩) RB.out)
 | some j=>
  have hk:bD (fun s=>dK (eA s) (pI hv ⟨VF,VJ,addr,port,peer,VG,VM⟩)) x.VK=(j:Int):=by unfold bD;rw[hfi]
  obtain⟨hlt,-⟩:=pR hfi;obtain⟨s,hs⟩: ∃s,s=x.VK[j]:=⟨_,rfl⟩;have HW:Hid (ans=⟨⟨x.VN,x.VK.set j { s with state:=aY VF s.state VJ VM,untl:=now+bU p.lv VF (aY VF s.state VJ VM) }⟩,d,0⟩):=by unfold Hid;rw[HV2.out,HG2.out j hlt (by first | rfl | trivial) hfi,hs];rfl
  rw[hk];clear hfi hk HV2 HG1 HG2 HBG;have HSJ:Hid (s=x.VK[j]):=hs;clear hs;replace HNX:=HNX.out s.state;have HNY:Hid _:=HNX;clear HNX;generalize aY VF s.state VJ VM=st at *;replace HLF:=HLF.out st;have HLG:Hid _:=HLF;clear HLF;obtain⟨hf0,hf1⟩:=jP p.lv VF st;generalize bU p.lv VF st=lf at *;have hge:¬(j:Int) < 0:=by omega
  have HHb:=S7.out.at iF;obtain⟨b0,b1⟩:=HHb.c2;clear HHb;go_wp2_with fail
  refine(HCY.out _ (BW.out.trans (S7.out.b.mono BW.out.size))).mono ?_;rintro e W8 ⟨⟨bv,sv,rfl,o1,o2⟩,q8⟩;have S8:Hid _:=S7.out.kept q8;have HO:Hid _:=fK.make (ks:=[(Be,(gT hv.VF hv.addr hv.port)),(Bk,(iM pa pc p ba ca bo cb x m1 m2)),(w.heap.size,(bG pa pc p)),(w.heap.size+1,(aX ba ca bo cb x)),(w.heap.size+1+1,(eH VF VJ addr port peer VG VM)),(w.heap.size+1+1+1,gU)]) (x:=x) S7.out.b.size S8.out.b o1 o2 S8.out.k S7.out.lts q8.size;obtain⟨ab,cb1,hbv,-,-⟩:=(xV.shape eC (w0:=W8) ⟨o1,Below.refl _ _⟩: ∃a' cap,bv=.slice a' x.VN.length cap∧x.VN.length≤cap∧eX dP 5 W7.heap.size W8 a' x.VN);obtain⟨gs,cs1,hsv⟩: ∃gs cs1,sv=.slice (some ⟨gs,0,none⟩) x.VK.length cs1:=by
   rcases o2.2 with ⟨_,h0⟩|⟨g,cap,cur,h3,_⟩
   ·omega
   ·exact⟨g,cap,h3⟩
  subst hbv hsv;clear q8 o1 o2 S8 S7 b0 b1 hge HCY;go_upto_region 11 with fail
  generalize (W8.alloc (.cells #[(.slice ab x.VN.length cb1),(.slice (some ⟨gs,0,none⟩) x.VK.length cs1)] 31))=V1 at *;generalize W8.heap.size=O at *;generalize W7.heap.size=base at *;have HV1:Hid (fK W3 base O [(Be,(gT hv.VF hv.addr hv.port)),(Bk,(iM pa pc p ba ca bo cb x m1 m2)),(w.heap.size,(bG pa pc p)),(w.heap.size+1,(aX ba ca bo cb x)),(w.heap.size+1+1,(eH VF VJ addr port peer VG VM)),(w.heap.size+1+1+1,gU)] (.slice ab x.VN.length cb1) (.slice (some ⟨gs,0,none⟩) x.VK.length cs1) x.VN (x.VK) V1):=HO.out;clear HO;have hltI:(j:Int) < (x.VK.length:Int):=by omega
  have HCP:Hid (∀wy,Below V1.drew.heap.size V1.drew wy→_):=fun wy hy=>HV1.out.kept (bR.drew.trans hy)
  go_cut [15] (fun v wx=>v=iV st∧fK W3 base O [(Be,(gT hv.VF hv.addr hv.port)),(Bk,(iM pa pc p ba ca bo cb x m1 m2)),(w.heap.size,(bG pa pc p)),(w.heap.size+1,(aX ba ca bo cb x)),(w.heap.size+1+1,(eH VF VJ addr port peer VG VM)),(w.heap.size+1+1+1,gU)] (.slice ab x.VN.length cb1) (.slice (some ⟨gs,0,none⟩) x.VK.length cs1) x.VN (x.VK) wx)
  case first=>
   rename_i J K2 hJ hK2;clear hun;refine bJ [62,63,64,65,66,67,68,69,70,71,72,73,74,15] (by kernel_rfl) (by kernel_rfl) ?_;iterate 14 (apply fI.u rfl;(·intro K' a wy ho hd hb hK;simp[aU,aG,aD,Region.binds]at ho hd;have hst:=HCP.out wy hb;have k1:=hst.o.cell (j:=1) rfl;have r5:wy.cell? ⟨gs,j*7+5,none⟩=some (iV s.state):=fH hst.so rfl j hlt 5 _ (by rw[←HSJ.out];rfl);have kC:=(hst.at nH).c7;clear hst;go_simp;first|((try go_bits);exact hK _ _ rfl bQ)|(refine(HNY.out wy (BW.out.trans ((HCP.out wy hb).b.mono BW.out.size))).mono ?_;rintro e wz ⟨rfl,hz⟩;exact hK _ _ rfl hz));dsimp only[nA,cA])
   intro X wz hR hz;simp only[UM,UN,eY,aG]at hR;simp only[aE,hR];clear hR;go_simp;refine hK2 _ _ (hJ _ _ ?_);(repeat apply Exists.intro)
   refine⟨⟨rfl,HCP.out wz hz⟩,rfl⟩
  case rest=>
  obtain⟨rfl,hS⟩:=hcut;have V2:Hid _:=hS;clear hS HV1 HCP HNY;generalize wc=U2 at *;have k1:=V2.out.o.cell (j:=1) rfl;have r5:U2.cell? ⟨gs,j*7+5,none⟩=some (iV s.state):=fH V2.out.so rfl j hlt 5 _ (by rw[←HSJ.out];rfl);have f5:U2.frozen? ⟨gs,j*7+5,none⟩=false:=mZ V2.out.so _;have V3:Hid _:=V2.out.setS rfl j hlt 5 (by decide) (iV st) { s with state:=st } (by rw[←HSJ.out];rfl);clear V2;go_upto_region 13 with fail
  clear k1 r5 f5;generalize U2.setCell ⟨gs,j*7+5,none⟩ (iV st)=U3 at *;have V4:Hid (fK W3 base O [(Be,(gT hv.VF hv.addr hv.port)),(Bk,(iM pa pc p ba ca bo cb x m1 m2)),(w.heap.size,(bG pa pc p)),(w.heap.size+1,(aX ba ca bo cb x)),(w.heap.size+1+1,(eH VF VJ addr port peer VG VM)),(w.heap.size+1+1+1,gU)] (.slice ab x.VN.length cb1) (.slice (some ⟨gs,0,none⟩) x.VK.length cs1) x.VN (x.VK.set j { s with state:=st }) U3):=V3.out;clear V3;have HCP:Hid (∀wy,Below U3.drew.heap.size U3.drew wy→_):=fun wy hy=>V4.out.kept (bR.drew.trans hy)
  clear V4;go_cut [14] (fun v wx=>v=.pointer (some ⟨O,0,none⟩)∧fK W3 base O [(Be,(gT hv.VF hv.addr hv.port)),(Bk,(iM pa pc p ba ca bo cb x m1 m2)),(w.heap.size,(bG pa pc p)),(w.heap.size+1,(aX ba ca bo cb x)),(w.heap.size+1+1,(eH VF VJ addr port peer VG VM)),(w.heap.size+1+1+1,gU)] (.slice ab x.VN.length cb1) (.slice (some ⟨gs,0,none⟩) x.VK.length cs1) x.VN (x.VK.set j { s with state:=st,untl:=now+lf }) wx)
  case first=>
   rename_i J K2 hJ hK2;try clear hun
   refine aN [81,82,83,84,85,86,87,88,89,90,91,92,93] (by kernel_rfl) (by kernel_rfl) ?_;iterate 13 (apply bC.u rfl;(·intro K' a wy ho hd hb hK;simp[aU,aG,aD,Region.binds]at ho hd;have hst:=HCP.out wy hb;have k1:=hst.o.cell (j:=1) rfl;have HHt:=hst.at nH;have t0:=HHt.cell (j:=0) rfl;clear HHt;have kC:=(hst.at eL).c10;clear hst;go_simp;first|((try go_bits);exact hK _ _ rfl bQ)|(refine(HLG.out wy).mono ?_;rintro e wz ⟨rfl,hz⟩;exact hK _ _ rfl hz));dsimp only[nA,cA])
   intro X wz hR hz;simp only[UM,UN,eY,aG]at hR;simp only[aE,hR];clear hR;have SZ:=HCP.out wz hz;have hls:x.VK.length=(x.VK.set j { s with state:=st }).length:=by simp
   have r6:wz.cell? ⟨gs,j*7+6,none⟩=some (iV s.untl):=fH SZ.so hls j (by simpa using hlt) 6 _ (by simp[fZ]);have f6:wz.frozen? ⟨gs,j*7+6,none⟩=false:=mZ SZ.so _;have S8:=SZ.setS hls j (by simpa using hlt) 6 (by decide) (iV (now+lf)) { s with state:=st,untl:=now+lf } (by simp[fZ]);rw[List.set_set]at S8;have S9:Hid _:=S8;clear S8 SZ hz HCP hls;simp only[List.length_cons,List.length_nil,List.drop_succ_cons,List.drop_zero,UI,Nat.reduceAdd];intro K5 hK5;go_simp;refine hK5 _ _ ?_;show Exit.then _ _ _ _ _;refine hK2 _ _ (hJ _ _ ?_);(repeat apply Exists.intro)
   exact⟨⟨rfl,S9.out⟩,rfl⟩
  case rest=>
  obtain⟨rfl,hS⟩:=hcut;have V5:Hid _:=hS;clear hS HCP HLG;generalize wc=U5 at *;go_upto_region 14 with fail
  have HCP:Hid (∀wy,Below U5.drew.heap.size U5.drew wy→_):=fun wy hy=>V5.out.kept (bR.drew.trans hy)
  clear V5;try clear hun
  refine aN [94,95,96,97,98,99,100] (by kernel_rfl) (by kernel_rfl) ?_;iterate 4 (apply bC.u rfl;(·intro K' a wy ho hd hb hK;simp[aU,aG,aD,Region.binds]at ho hd;have hst:=HCP.out wy hb;have kC:=hst.o.c2;have HHk:=hst.at dZ;have k12:=HHk.cell (j:=12) rfl;clear HHk;have kC:=(hst.at cM).c3;clear hst;go_simp;(try go_bits);exact hK _ _ rfl bQ);dsimp only[nA,cA])
  apply bC.v4
  ·rfl
  ·intro K' a wy ho hd hb hK kz;have q2:=hd ⟨2,.data⟩ (by simp) rfl;have q3:=hd ⟨3,.data⟩ (by simp) rfl;simp[aU,aG,aD]at q2 q3;clear hd ho;refine nL _ (.tmp 96) (.tmp 97) false rfl (by simp[Act.eval,aD,q2]) (by simp[Act.eval,aD,q3]) (HGT.out wy m1 m2 HOK.out (by first | rfl | trivial) (by first | rfl | trivial) (HBK2.out.kept (HCP.out wy hb).b)) (hK _ _ rfl bR)
  iterate 2 (apply bC.u rfl;(·intro K' a wy ho hd hb hK;simp[aU,aG,aD,Region.binds]at ho hd;go_simp;first|((try go_bits);exact hK _ _ rfl bQ)|(refine(HCB.out wy).mono ?_;rintro e wz ⟨rfl,hz⟩;exact hK _ _ rfl hz));dsimp only[nA,cA])
  intro X wz hR hz;simp only[UM,UN,eY,aG]at hR;simp only[aE,hR];clear hR;have V7:Hid (fK W3 base O [(Be,(gT hv.VF hv.addr hv.port)),(Bk,(iM pa pc p ba ca bo cb x m1 m2)),(w.heap.size,(bG pa pc p)),(w.heap.size+1,(aX ba ca bo cb x)),(w.heap.size+1+1,(eH VF VJ addr port peer VG VM)),(w.heap.size+1+1+1,gU)] (.slice ab x.VN.length cb1) (.slice (some ⟨gs,0,none⟩) x.VK.length cs1) x.VN (x.VK.set j { s with state:=st,untl:=now+lf }) wz):=HCP.out wz hz;clear hz HCP;have HHz:=V7.out.at CD;obtain⟨z0,z1,z2,z3,z4,z5,z6,z7⟩:=HHz.c8;obtain⟨zf0,zf1,zf2,zf3,zf4,zf5,zf6,zf7⟩:=HHz.f8;obtain⟨HRR,RB⟩:=vN HHz (BW.out.trans (V7.out.b.mono BW.out.size)) hRw (.slice ab x.VN.length cb1) (.slice (some ⟨gs,0,none⟩) x.VK.length cs1) (iV d.VF) (.string d.inn) (iV d.VH) (.string d.out) (iV d.VI) (iV 0);clear HHz;obtain⟨w1,q1,hb1,-,hbo⟩:=V7.out.shapes.1;obtain⟨w2,q2,hb2,-,hso⟩:=V7.out.shapes.2;injection hb1 with i1 i2 i3
  injection hb2 with i4 i5 i6
  have hRb:w.heap.size+1+1+1 < base:=(V7.out.kb _ CD).1;have hwb:w.heap.size≤base:=UL BW.out.size V7.out.wb;have HOW:Hid (bV w.heap.size ((sW (sW (sW (sW (sW (sW (sW wz (w.heap.size+1+1+1) 0 (.slice ab x.VN.length cb1)) (w.heap.size+1+1+1) 1 (.slice (some ⟨gs,0,none⟩) x.VK.length cs1)) (w.heap.size+1+1+1) 2 (iV d.VF)) (w.heap.size+1+1+1) 3 (.string d.inn)) (w.heap.size+1+1+1) 4 (iV d.VH)) (w.heap.size+1+1+1) 5 (.string d.out)) (w.heap.size+1+1+1) 6 (iV d.VI)).setCell ⟨w.heap.size+1+1+1,7,none⟩ (iV 0)) w1 w2 ⟨x.VN,x.VK.set j { s with state:=st,untl:=now+lf }⟩):=⟨(hbo.grown (aB (aB (aB (aB (aB (aB (aB (aB (World.grownBy.refl _ _) _) _) _) _) _) _) _) _) hRb).down hwb,(hso.grown (aB (aB (aB (aB (aB (aB (aB (aB (World.grownBy.refl _ _) _) _) _) _) _) _) _) _) hRb).down hwb,fun g h e1 e2 _ _ e3=>V7.out.ne g (by rw[i1,e1];rfl) (by rw[i4,e2,←e3];rfl)⟩;have I1:Hid _:=i1;have I3:Hid _:=i3;have I4:Hid _:=i4;have I5:Hid _:=i5;have I6:Hid _:=i6;clear hbo hso V7 i1 i2 i3 i4 i5 i6;intro K10 hK10;go_simp;refine hK10 _ _ ?_;simp only[fN];go_wp2_with fail
  exact VB (aF Tryz.results60 _ _ _ _ _ rfl HRR.out Tryz.underlying104 rfl (show (Tryz.prog.info? 104).map (·.size)=some 8 by kernel_rfl)) rfl (And.intro (by rw[HW.out];exact⟨w1,w2,q1,q2,by first | (rw[I1.out,I3.out,I4.out,I5.out,I6.out];rfl) | (rw[I1.out,I3.out,I4.out,I6.out];simp[EZ]),HOW.out⟩) RB.out)
end Go.Proofs.YtdkepkaflielhaaGreatDoor
