import Derived.Test.YtdkepkaflielhaaGreatDoorMerged30
set_option linter.unusedVariables false
set_option linter.unusedSimpArgs false
set_option maxRecDepth 100000
set_option maxHeartbeats 8000000
namespace Go.Proofs.YtdkepkaflielhaaGreatDoor
open Go.RowKit Go.PlainAid
def PY(base:Nat):Value→World→Prop:=fun v w=>∃g,v=.pointer (some ⟨g,0,none⟩)∧base≤g∧aA w g (rZ 0 ⟨#[]⟩ 0 ⟨#[]⟩ 0 0 0)
theorem EK(base:Nat):eZ (PY base):=fun v w w' ⟨g,h1,h2,h3⟩ hb=>⟨g,h1,h2,h3.kept (by simp) hb⟩
theorem JK(pa:OA)(pc:Nat)(p:Pl)(ba bo:OA)(ca cb:Nat)(x:Bb)(m1 m2:Nat)(h:En)(t:Tc)(now:Int)(w:World)(hpo:cT p=true)(hnow:bS now=true)(hfl:aM t.VB 0 255=true)(he:qU h)(hw0:0≤h.port)(hw1:h.port≤65535)(htp:t.peer.size≤1048576)(hps:∀s∈p.VA,s.size≤1048576)(hl1:x.VC.length≤1048576)(hl2:x.UZ.length≤1048576)(hgb:∀q∈x.VC,fJ q)(hgs:∀s∈x.UZ,iM s)(hbk:dF w m1 m2 x.VC x.VC)(hp:bP bX 1 w pa p.VA)(hx:dI w ba bo x) :
  Calls Tryz.prog 108 #[CF pa pc p ba bo ca cb x m1 m2,qV h,qF t,iV now] w fun e w'=>mK w.heap.size (lA p x h t now) e w'∧Below w.heap.size w w':=by
 obtain⟨UU,UY,addr,port,peer,UV,VB⟩:=t;dsimp only at hfl htp;have hn:0≤now∧now≤1000000000:=by unfold bS aM at hnow;simp only[TP,TU]at hnow;omega
 obtain⟨hn0,hn1⟩:=hn;have HN:Hid (∀W,Cw 139 #[iV UU,.bool UY,iV VB] W (iV (bB UU UY VB))):=fun W=>zY UU UY VB W hfl
 have HAD:Hid (∀W,Below w.heap.size w W→Cb 140 #[.agg (iF pa pc p ba ca bo cb x m1 m2).toArray,.agg (iE h.UU h.addr h.port).toArray,.string peer] W (.bool (kZ p x h peer))):=fun W hW=>FI pa pc p ba bo ca cb x m1 m2 h peer W hl2 (hx.below hW)
 have HBF:Hid (∀W,Below w.heap.size w W→Cb 141 #[.agg (iF pa pc p ba ca bo cb x m1 m2).toArray,.agg (iE h.UU h.addr h.port).toArray] W (.tuple #[jI (cJ p x.VC h).1,.bool (cJ p x.VC h).2])):=fun W hW=>CD pa pc p ba bo ca cb x m1 m2 h W hpo he hw0 hw1 hps hl1 hgb (hbk.kept hW) (hp.below hW) (hx.below hW)
 have HCY:Hid (∀W,Below w.heap.size w W→Calls Tryz.prog 109 #[.agg (bF ba ca bo cb x).toArray] W fun e w'=>oA W.heap.size x e w'∧Below W.heap.size W w'):=fun W hW=>qW x ba bo ca cb W hl1 hl2 hgb hgs (hx.below hW)
 obtain⟨d,hd⟩: ∃d,d=(x.VC.find? (cD h.UU h.addr h.port)).getD lT:=⟨_,rfl⟩;have HLK:Hid (∀W,Below w.heap.size w W→(Instr.lookup 137 (.map (some m1)) (.agg (iE h.UU h.addr h.port).toArray) true).run Tryz.prog W=.ok (.tuple #[.agg (dH d).toArray,.bool (x.VC.find? (cD h.UU h.addr h.port)).isSome]) W):=fun W hW=>by
  have hl:=(hbk.kept hW).look1 (e:=h) he;rw[show (fun q=>bU (bN q) h)=cD h.UU h.addr h.port from funext fun c=>oI _ _ _ c,←hd]at hl;exact hl
 have hbs:=FM (h:=h) hps hgb he;have HCB:Hid (∀W,Cb 82 #[jI (cJ p x.VC h).1] W (jI (cJ p x.VC h).1)):=fun W=>mA _ W hbs.1 hbs.2
 have HCS:Hid (∀(st un:Int) (W:World),Cb 142 #[.agg (rZ h.UU h.addr h.port peer UV st un).toArray] W (.agg (rZ h.UU h.addr h.port peer UV st un).toArray)):=fun st un W=>oU ⟨h.UU,h.addr,h.port,peer,UV,st,un⟩ W he.1 htp
 have HLF:Hid (∀(st:Int) (W:World),Cb 111 #[.agg #[iV p.lv.udp,iV p.lv.echo,iV p.lv.opening,iV p.lv.opn,iV p.lv.closing],iV UU,iV st] W (iV (bT p.lv UU st))):=fun st W=>sG p.lv UU st W
 have HV:Hid (lA p x h ⟨UU,UY,addr,port,peer,UV,VB⟩ now=if bB UU UY VB=0 then lB 6 else if (!UY&&!kZ p x h peer)=true then lB 6 else if (x.UZ.length:Int)=p.most then lB 9 else if (cJ p x.VC h).2=false then lB 9 else ⟨⟨vQ p x.VC h,x.UZ++[⟨h.UU,h.addr,h.port,peer,UV,bB UU UY VB,now+bT p.lv UU (bB UU UY VB)⟩]⟩,(cJ p x.VC h).1,0⟩):=rfl;have HGB:Hid (vQ p x.VC h=if (x.VC.find? (cD h.UU h.addr h.port)).isSome=true then x.VC else x.VC++[(cJ p x.VC h).1]):=rfl;generalize lA p x h ⟨UU,UY,addr,port,peer,UV,VB⟩ now=ans at *;generalize vQ p x.VC h=nb at *;obtain⟨ns1,ns2⟩:=KD UU UY VB;generalize bB UU UY VB=st at *;replace HLF:=HLF.out st;obtain⟨hf0,hf1⟩:=jO p.lv UU st;have HLG:Hid _:=HLF;clear HLF;generalize bT p.lv UU st=lf at *;replace HCS:=HCS.out st (now+lf);have HCT:Hid _:=HCS;clear HCS;generalize (cJ p x.VC h).1=c at *;generalize (cJ p x.VC h).2=fd at *;generalize (x.VC.find? (cD h.UU h.addr h.port)).isSome=bd at *;obtain⟨gone,hgo⟩: ∃g,g=(!UY&&!kZ p x h peer):=⟨_,rfl⟩;rw[←hgo]at HV;have HGO:Hid (gone=(!UY&&!kZ p x h peer)):=hgo;generalize kZ p x h peer=ad at *;unfold jI at HBF HCB;have hun:undef=Value.tuple #[]:=rfl;have hRw:w.heap.size≤w.heap.size+1+1+1:=by omega
 clear hd hbs hgo hbk hp hx hgb hgs hps he hnow hpo hfl;have e0:aA ((aW (aW (aW w (iF pa pc p ba ca bo cb x m1 m2) 139) (iE h.UU h.addr h.port) 86) (eO UU UY addr port peer UV VB) 89).alloc (.cells iG.toArray 104)) (w.heap.size) (iF pa pc p ba ca bo cb x m1 m2):=by
  have h:=aA.new w (iF pa pc p ba ca bo cb x m1 m2) 139;try simp only[TQ]at h
  exact(((h.alloc _).alloc _).alloc _)
 have e1:aA ((aW (aW (aW w (iF pa pc p ba ca bo cb x m1 m2) 139) (iE h.UU h.addr h.port) 86) (eO UU UY addr port peer UV VB) 89).alloc (.cells iG.toArray 104)) (w.heap.size+1) (iE h.UU h.addr h.port):=by
  have h:=aA.new (w.alloc (.cells (iF pa pc p ba ca bo cb x m1 m2).toArray 139)) (iE h.UU h.addr h.port) 86;try simp only[TQ]at h
  exact((h.alloc _).alloc _)
 have e2:aA ((aW (aW (aW w (iF pa pc p ba ca bo cb x m1 m2) 139) (iE h.UU h.addr h.port) 86) (eO UU UY addr port peer UV VB) 89).alloc (.cells iG.toArray 104)) (w.heap.size+1+1) (eO UU UY addr port peer UV VB):=by
  have h:=aA.new ((aW w (iF pa pc p ba ca bo cb x m1 m2) 139).alloc (.cells (iE h.UU h.addr h.port).toArray 86)) (eO UU UY addr port peer UV VB) 89;try simp only[TQ]at h
  exact(h.alloc _)
 have e3:aA ((aW (aW (aW w (iF pa pc p ba ca bo cb x m1 m2) 139) (iE h.UU h.addr h.port) 86) (eO UU UY addr port peer UV VB) 89).alloc (.cells iG.toArray 104)) (w.heap.size+1+1+1) iG:=by
  have h:=aA.new ((aW (aW w (iF pa pc p ba ca bo cb x m1 m2) 139) (iE h.UU h.addr h.port) 86).alloc (.cells (eO UU UY addr port peer UV VB).toArray 89)) iG 104;try simp only[TQ]at h
  exact h
 have HS0:Hid (dX w [(w.heap.size,(iF pa pc p ba ca bo cb x m1 m2)),(w.heap.size+1,(iE h.UU h.addr h.port)),(w.heap.size+1+1,(eO UU UY addr port peer UV VB)),(w.heap.size+1+1+1,iG)] ((aW (aW (aW w (iF pa pc p ba ca bo cb x m1 m2) 139) (iE h.UU h.addr h.port) 86) (eO UU UY addr port peer UV VB) 89).alloc (.cells iG.toArray 104))):=by
  refine⟨fun e he=>?_,((((bR.alloc (by (try simp only[TQ]);omega) _).alloc (by (try simp only[TQ]);omega) _).alloc (by (try simp only[TQ]);omega) _).alloc (by (try simp only[TQ]);omega) _),fun e he=>?_⟩
  ·simp only[TW,TV,or_false]at he;rcases he with rfl|rfl|rfl|rfl
   ·exact e0
   ·exact e1
   ·exact e2
   ·exact e3
  ·simp only[TW,TV,or_false]at he;rcases he with rfl|rfl|rfl|rfl<;>simp
 clear e0 e1 e2 e3;unfold CF qV qF;go_enter Tryz.func108,Tryz.ntmps108
 go_upto_region 1 with fail
 generalize World.alloc _ _=W at *;have HHt:=HS0.out.at eX;obtain⟨t0,t1,t2,t3,t4,t5,t6⟩:=HHt.c7;clear HHt;go_wp2_with fail
 refine(HN.out _).mono ?_;rintro e W ⟨rfl,rfl⟩;clear HN;by_cases hst:st=0
 case pos=>
  have dst:(st==0)=true:=by simp[hst]
  have HST:Hid (st=0):=hst;clear hst;have HX:Hid (ans=lB (6)):=by unfold Hid;rw[HV.out,if_pos HST.out]
  have HHz:=HS0.out.at iR;obtain⟨z0,z1,z2,z3,z4,z5,z6,z7⟩:=HHz.c8;obtain⟨zf0,zf1,zf2,zf3,zf4,zf5,zf6,zf7⟩:=HHz.f8;obtain⟨HRR,RB⟩:=vD HHz HS0.out.b hRw (.slice none 0 0) (.slice none 0 0) (iV 0) eS (iV 0) eS (iV 0) (iV (6));clear HHz;go_wp2_with fail
  exact UQ (aG Tryz.results108 _ _ (w.heap.size+1+1+1) [.slice none 0 0,.slice none 0 0,iV 0,eS,iV 0,eS,iV 0,iV (6)] _ rfl HRR.out Tryz.underlying104 rfl (show (Tryz.prog.info? 104).map (·.size)=some 8 by kernel_rfl)) rfl (And.intro (by rw[HX.out];exact⟨none,none,0,0,rfl,.inl rfl,.inl rfl,fun g h e1=>by simp at e1⟩) RB.out)
 have dst:(st==0)=false:=by simp[hst]
 rw[if_neg hst]at HV;clear hst;go_upto_region 2 with fail
 go_cut [37] (fun v wx=>v=.bool gone∧dX w [(w.heap.size,(iF pa pc p ba ca bo cb x m1 m2)),(w.heap.size+1,(iE h.UU h.addr h.port)),(w.heap.size+1+1,(eO UU UY addr port peer UV VB)),(w.heap.size+1+1+1,iG)] wx)
 case first=>
  clear HV HLG HCY HBF HLK HCB HCT HGB
  cases UY with
  | true=>
   go_wp2_with fail
   go_meet;exact⟨by rw[HGO.out];rfl,HS0.out⟩
  | false=>
   have HHk:=HS0.out.at cO;obtain⟨k0,k1,k2,k3,k4,k5,k6,k7,k8,k9,k10,k11,k12,k13⟩:=HHk.c14;clear HHk;have HHn:=HS0.out.at eB;obtain⟨n0,n1,n2⟩:=HHn.c3;clear HHn;go_wp2_with fail
   refine(HAD.out _ HS0.out.b).mono ?_;rintro e W1 ⟨rfl,q1⟩;have S1:Hid _:=HS0.out.kept q1;clear q1
   cases ad;all_goals
    go_wp2_with fail
    go_meet;exact⟨by rw[HGO.out];rfl,S1.out⟩
 case rest=>
 obtain⟨rfl,hS⟩:=hcut;have S2:Hid _:=hS;clear hS HS0 HAD HGO dst t0 t1 t2 t3 t4 t5 t6;generalize wc=W2 at *
 cases gone with
 | true=>
  have HX:Hid (ans=lB (6)):=by unfold Hid;rw[HV.out];rfl
  have HHz:=S2.out.at iR;obtain⟨z0,z1,z2,z3,z4,z5,z6,z7⟩:=HHz.c8;obtain⟨zf0,zf1,zf2,zf3,zf4,zf5,zf6,zf7⟩:=HHz.f8;obtain⟨HRR,RB⟩:=vD HHz S2.out.b hRw (.slice none 0 0) (.slice none 0 0) (iV 0) eS (iV 0) eS (iV 0) (iV (6));clear HHz;go_wp2_with fail
  exact UQ (aG Tryz.results108 _ _ (w.heap.size+1+1+1) [.slice none 0 0,.slice none 0 0,iV 0,eS,iV 0,eS,iV 0,iV (6)] _ rfl HRR.out Tryz.underlying104 rfl (show (Tryz.prog.info? 104).map (·.size)=some 8 by kernel_rfl)) rfl (And.intro (by rw[HX.out];exact⟨none,none,0,0,rfl,.inl rfl,.inl rfl,fun g h e1=>by simp at e1⟩) RB.out)
 | false=>
 rw[if_neg (by decide)]at HV;have HHk:=S2.out.at cO;obtain⟨k0,k1,k2,k3,k4,k5,k6,k7,k8,k9,k10,k11,k12,k13⟩:=HHk.c14;clear HHk;by_cases hm:(x.UZ.length:Int)=p.most
 case pos=>
  have dm:((x.UZ.length:Int)==p.most)=true:=by simp[hm]
  rw[if_pos hm]at HV;clear hm;have HX:Hid (ans=lB (9)):=by unfold Hid;rw[HV.out]
  have HHz:=S2.out.at iR;obtain⟨z0,z1,z2,z3,z4,z5,z6,z7⟩:=HHz.c8;obtain⟨zf0,zf1,zf2,zf3,zf4,zf5,zf6,zf7⟩:=HHz.f8;obtain⟨HRR,RB⟩:=vD HHz S2.out.b hRw (.slice none 0 0) (.slice none 0 0) (iV 0) eS (iV 0) eS (iV 0) (iV (9));clear HHz;go_wp2_with fail
  exact UQ (aG Tryz.results108 _ _ (w.heap.size+1+1+1) [.slice none 0 0,.slice none 0 0,iV 0,eS,iV 0,eS,iV 0,iV (9)] _ rfl HRR.out Tryz.underlying104 rfl (show (Tryz.prog.info? 104).map (·.size)=some 8 by kernel_rfl)) rfl (And.intro (by rw[HX.out];exact⟨none,none,0,0,rfl,.inl rfl,.inl rfl,fun g h e1=>by simp at e1⟩) RB.out)
 have dm:((x.UZ.length:Int)==p.most)=false:=by simp[hm]
 rw[if_neg hm]at HV;clear hm;have HHn:=S2.out.at eB;obtain⟨n0,n1,n2⟩:=HHn.c3;clear HHn;go_wp2_with fail
 refine(HBF.out _ S2.out.b).mono ?_;rintro e W4 ⟨rfl,q4⟩;have S4:Hid _:=S2.out.kept q4;clear q4 S2 HBF dm k0 k1 k2 k3 k4 k5 k6 k7 k8 k9 k10 k11 k12 k13 n0 n1 n2;go_upto_region 7 with fail
 have S5:Hid _:=S4.out.push (dH c) (by simp) 48;generalize hW5:W4.alloc _=W5 at *;clear hW5 S4;generalize W4.heap.size=Bc at *
 cases fd with
 | false=>
  have HX:Hid (ans=lB (9)):=by unfold Hid;rw[HV.out];rfl
  have HHz:=S5.out.at lX;obtain⟨z0,z1,z2,z3,z4,z5,z6,z7⟩:=HHz.c8;obtain⟨zf0,zf1,zf2,zf3,zf4,zf5,zf6,zf7⟩:=HHz.f8;obtain⟨HRR,RB⟩:=vD HHz S5.out.b hRw (.slice none 0 0) (.slice none 0 0) (iV 0) eS (iV 0) eS (iV 0) (iV (9));clear HHz;go_wp2_with fail
  exact UQ (aG Tryz.results108 _ _ (w.heap.size+1+1+1) [.slice none 0 0,.slice none 0 0,iV 0,eS,iV 0,eS,iV 0,iV (9)] _ rfl HRR.out Tryz.underlying104 rfl (show (Tryz.prog.info? 104).map (·.size)=some 8 by kernel_rfl)) rfl (And.intro (by rw[HX.out];exact⟨none,none,0,0,rfl,.inl rfl,.inl rfl,fun g h e1=>by simp at e1⟩) RB.out)
 | true=>
 rw[if_neg (by decide)]at HV;have HHk:=S5.out.at eB;obtain⟨k0,k1,k2,k3,k4,k5,k6,k7,k8,k9,k10,k11,k12,k13⟩:=HHk.c14;clear HHk;go_wp2_with fail
 refine(HCY.out _ S5.out.b).mono ?_;rintro e W6 ⟨⟨bv,sv,rfl,o1,o2⟩,q6⟩;have S6:Hid _:=S5.out.kept q6;have HO:Hid _:=fH.make (ks:=[(Bc,(dH c)),(w.heap.size,(iF pa pc p ba ca bo cb x m1 m2)),(w.heap.size+1,(iE h.UU h.addr h.port)),(w.heap.size+1+1,(eO UU UY addr port peer UV VB)),(w.heap.size+1+1+1,iG)]) (x:=x) S5.out.b.size S6.out.b o1 o2 S6.out.k S5.out.lts q6.size;obtain⟨ab,cb1,hbv,-,-⟩:=(xB.shape eC (w0:=W6) ⟨o1,Below.refl _ _⟩: ∃a' cap,bv=.slice a' x.VC.length cap∧x.VC.length≤cap∧eY eG 5 W5.heap.size W6 a' x.VC);obtain⟨sa,cs1,hsv,-,-⟩:=(xB.shape eE (w0:=W6) ⟨o2,Below.refl _ _⟩: ∃a' cap,sv=.slice a' x.UZ.length cap∧x.UZ.length≤cap∧eY fY 7 W5.heap.size W6 a' x.UZ);subst hbv hsv;clear q6 o1 o2 S6 S5 HCY k0 k1 k2 k3 k4 k5 k6 k7 k8 k9 k10 k11 k12 k13;go_upto_region 10 with fail
 generalize (W6.alloc (.cells #[(.slice ab x.VC.length cb1),(.slice sa x.UZ.length cs1)] 31))=V1 at *;generalize W6.heap.size=O at *;generalize W5.heap.size=base at *;have HV1:Hid (fH w base O [(Bc,(dH c)),(w.heap.size,(iF pa pc p ba ca bo cb x m1 m2)),(w.heap.size+1,(iE h.UU h.addr h.port)),(w.heap.size+1+1,(eO UU UY addr port peer UV VB)),(w.heap.size+1+1+1,iG)] (.slice ab x.VC.length cb1) (.slice sa x.UZ.length cs1) (x.VC) (x.UZ) V1):=HO.out;clear HO;have HHk:=HV1.out.at eB;have k12:=HHk.cell (j:=12) rfl;clear HHk;have HHn:=HV1.out.at eX;obtain⟨n0,n1,n2⟩:=HHn.c3;clear HHn;have LK:=HLK.out V1 HV1.out.b;go_upto_region 11 with (at_lookup;refine iS rfl _ _ _ _ rfl rfl rfl LK ?_)
 have V2:Hid (fH w base O [(Bc,(dH c)),(w.heap.size,(iF pa pc p ba ca bo cb x m1 m2)),(w.heap.size+1,(iE h.UU h.addr h.port)),(w.heap.size+1+1,(eO UU UY addr port peer UV VB)),(w.heap.size+1+1+1,iG)] (.slice ab x.VC.length cb1) (.slice sa x.UZ.length cs1) (x.VC) (x.UZ) (V1.alloc (.cells (dH d).toArray 48))):=HV1.out.kept (bR.alloc lR _);generalize (V1.alloc (.cells (dH d).toArray 48))=U at *;clear HV1 LK HLK k12 n0 n1 n2;go_upto_if 68 with fail
 go_cut [12] (fun v wx=>v=.pointer (some ⟨O,0,none⟩)∧∃(a:OA) (ln cc:Nat),fH w base O [(Bc,(dH c)),(w.heap.size,(iF pa pc p ba ca bo cb x m1 m2)),(w.heap.size+1,(iE h.UU h.addr h.port)),(w.heap.size+1+1,(eO UU UY addr port peer UV VB)),(w.heap.size+1+1+1,iG)] (.slice a ln cc) (.slice sa x.UZ.length cs1) (nb) (x.UZ) wx)
 case first=>
  clear HV HCT HLG
  cases bd with
  | true=>
   have hnb:nb=x.VC:=by rw[HGB.out,if_pos rfl]
   go_wp2_with fail
   go_meet;exact⟨rfl,ab,_,cb1,by rw[hnb];exact V2.out⟩
  | false=>
   have hnb:nb=x.VC++[c]:=by rw[HGB.out,if_neg (by decide)]
   clear HGB;go_upto_region 12 with fail
   have HCP:Hid (∀wy,Below U.drew.heap.size U.drew wy→_):=fun wy hy=>V2.out.kept (bR.drew.trans hy)
   have HNB:Hid _:=hnb;clear hun hnb V2;refine aN [69,70,71,72,73] (by kernel_rfl) (by kernel_rfl) ?_;iterate 4 (apply bC.u rfl;(·intro K' a wy ho hd hb hK;simp[aS,aF,aD,Region.binds]at ho hd;have hst:=HCP.out wy hb;have ko:=hst.o.cell (j:=0) rfl;have kC:=(hst.at cO).c5;clear hst;go_simp;first|((try go_bits);exact hK _ _ rfl bQ)|(refine(HCB.out wy).mono ?_;rintro e wz ⟨rfl,hz⟩;exact hK _ _ rfl hz));dsimp only[nA,cA])
   refine bC.rel (n:=4) (jA (eG c)) (gB _ (by simp[eG])) [_,_,_,_,jA (eG c)] rfl rfl ?_ ?_
   ·intro K' a wy ho hd hb hK;rw[wN rfl];have q3:=hd ⟨3,.data⟩ (by simp) rfl;simp[aS,aF,aD]at q3;clear hd ho;go_simp;exact hK _ _ ⟨wy.heap.size,rfl,aA.new wy (eG c) _⟩ (bR.alloc lR _)
   intro X wz hR hz;obtain⟨x0,x1,x2,x3,x4,-⟩:=hR;simp only[aF]at x0 x1 x2 x3;simp only[aE,x0,x1,x2,x3,aE];clear x0 x1 x2 x3;obtain⟨g7,e7,r7⟩:=x4;have SZ:=HCP.out wz hz;obtain⟨v6,w6,hrun,⟨gg,l6,c6,rfl⟩,hO6,S6⟩:=SZ.appB c g7 r7 hl1;have HRUN:Hid _:=hrun;have HS6:Hid _:=S6;have p1:=hO6.cell (j:=0) rfl;have p2:=hO6.free (j:=0) (by simp);clear hrun S6 hO6 SZ r7 hz HCP;simp only[e7];simp only[List.length_cons,List.length_nil,List.drop_succ_cons,List.drop_zero,TX,Nat.reduceAdd];intro K5 hK5;with_reducible refine dC (.tmp 70) (.tmp 73) _ rfl ?_ ?_ HRUN.out (hK5 _ _ ?_)
   ·simp[Act.eval,Act.put]
   ·simp[Act.eval,Act.put]
   intro K6 hK6;go_simp;refine hK6 _ _ ?_;intro K7 hK7;go_simp;refine hK7 _ _ ?_;simp only[fO];go_wp2_with fail
   go_meet;exact⟨rfl,some ⟨gg,0,none⟩,l6,c6,by rw[HNB.out];exact HS6.out⟩
 case rest=>
 obtain⟨rfl,a1,ln1,cc1,hS⟩:=hcut;have V3:Hid _:=hS;clear hS V2 HGB;generalize wc=U3 at *;obtain⟨a1',q1',hb1',-,-⟩:=V3.out.shapes.1;injection hb1' with i1 i2 i3
 subst i1 i2 i3;go_upto_region 13 with fail
 have V4:Hid (fH w base O [(Bc,(dH c)),(w.heap.size,(iF pa pc p ba ca bo cb x m1 m2)),(w.heap.size+1,(iE h.UU h.addr h.port)),(w.heap.size+1+1,(eO UU UY addr port peer UV VB)),(w.heap.size+1+1+1,iG)] (.slice a1 nb.length cc1) (.slice sa x.UZ.length cs1) (nb) (x.UZ) U3):=V3.out;clear V3;go_cut [15] (fun v wx=>∃g,v=.pointer (some ⟨g,0,none⟩)∧aA wx g (rZ h.UU h.addr h.port peer UV st (now+lf))∧fH w base O [(Bc,(dH c)),(w.heap.size,(iF pa pc p ba ca bo cb x m1 m2)),(w.heap.size+1,(iE h.UU h.addr h.port)),(w.heap.size+1+1,(eO UU UY addr port peer UV VB)),(w.heap.size+1+1+1,iG)] (.slice a1 nb.length cc1) (.slice sa x.UZ.length cs1) (nb) (x.UZ) wx)
 case first=>
  rename_i J K2 hJ hK2;have HCP:Hid (∀wy,Below U3.drew.heap.size U3.drew wy→_):=fun wy hy=>V4.out.kept (bR.drew.trans hy)
  try clear hun
  refine aN [76,77,78,79,80,81,82,83,84,85,86,87,88,89,90,91,92,93,94,95,96,15] (by kernel_rfl) (by kernel_rfl) ?_;iterate 21 (apply bC.u rfl;(·intro K' a wy ho hd hb hK;simp[aS,aF,aD,Region.binds]at ho hd;have hst:=HCP.out wy hb;have kC:=(hst.at iR).c7;have kC:=(hst.at eX).c3;have kC:=(hst.at eB).c10;clear hst;go_simp;first|((try go_bits);exact hK _ _ rfl bQ)|(refine(HLG.out wy).mono ?_;rintro e wz ⟨rfl,hz⟩;exact hK _ _ rfl hz));dsimp only[nA,cA])
  refine bC.rel (n:=21) (PY U3.drew.heap.size) (EK _) [_,_,_,_,_,_,_,_,_,_,_,_,_,_,_,_,_,_,_,_,_,PY U3.drew.heap.size] rfl rfl ?_ ?_
  ·intro K' a wy ho hd hb hK;rw[wN rfl];clear hd ho;go_simp;exact hK _ _ ⟨wy.heap.size,rfl,hb.size,aA.new wy (rZ 0 ⟨#[]⟩ 0 ⟨#[]⟩ 0 0 0) 59⟩ (bR.alloc lR _)
  intro X wz hR hz;obtain⟨x0,x1,x2,x3,x4,x5,x6,x7,x8,x9,x10,x11,x12,x13,x14,x15,x16,x17,x18,x19,x20,x21,-⟩:=hR;obtain⟨g8,e8,b8,z8⟩:=x21;simp only[aF]at x0 x1 x2 x3 x4 x5 x6 x7 x8 x9 x10 x11 x12 x13 x14 x15 x16 x17 x18 x19 x20;simp only[aE,x0,x1,x2,x3,x4,x5,x6,x7,x8,x9,x10,x11,x12,x13,x14,x15,x16,x17,x18,x19,x20,e8];clear x0 x1 x2 x3 x4 x5 x6 x7 x8 x9 x10 x11 x12 x13 x14 x15 x16 x17 x18 x19 x20;obtain⟨z0,z1,z2,z3,z4,z5,z6⟩:=z8.c7;obtain⟨zf0,zf1,zf2,zf3,zf4,zf5,zf6⟩:=z8.f7;have b8':U3.heap.size≤g8:=b8;have HB6:Hid (Below U3.heap.size U3 ((sW (sW (sW (sW (sW (sW wz g8 0 (iV h.UU)) g8 1 (.string h.addr)) g8 2 (iV h.port)) g8 3 (.string peer)) g8 4 (iV UV)) g8 5 (iV st)).setCell ⟨g8,6,none⟩ (iV (now+lf)))):=((((((((bR.drew.trans hz).setCell (p:=⟨g8,0,none⟩) b8' (iV h.UU)).setCell (p:=⟨g8,1,none⟩) b8' (.string h.addr)).setCell (p:=⟨g8,2,none⟩) b8' (iV h.port)).setCell (p:=⟨g8,3,none⟩) b8' (.string peer)).setCell (p:=⟨g8,4,none⟩) b8' (iV UV)).setCell (p:=⟨g8,5,none⟩) b8' (iV st)).setCell (p:=⟨g8,6,none⟩) b8' (iV (now+lf)));have HQ6:Hid (aA ((sW (sW (sW (sW (sW (sW wz g8 0 (iV h.UU)) g8 1 (.string h.addr)) g8 2 (iV h.port)) g8 3 (.string peer)) g8 4 (iV UV)) g8 5 (iV st)).setCell ⟨g8,6,none⟩ (iV (now+lf))) g8 (rZ h.UU h.addr h.port peer UV st (now+lf))):=(((((((z8.set 0 (iV h.UU)).set 1 (.string h.addr)).set 2 (iV h.port)).set 3 (.string peer)).set 4 (iV UV)).set 5 (iV st)).set 6 (iV (now+lf)));clear z8 b8 b8' hz HCP;intro K10 hK10;go_simp;refine hK10 _ _ ?_;show Exit.then _ _ _ _ _;refine hK2 _ _ (hJ _ _ ?_);(repeat apply Exists.intro)
  exact⟨⟨g8,rfl,HQ6.out,V4.out.kept HB6.out⟩,rfl⟩
 case rest=>
 obtain⟨g8,rfl,hq8,hS⟩:=hcut;have V5:Hid _:=hS;have HQ8:Hid _:=hq8;clear hS hq8 V4 HLG;generalize wc=U5 at *;go_upto_region 14 with fail
 go_cut [12] (fun v wx=>v=.pointer (some ⟨O,0,none⟩)∧∃(a:OA) (ln cc:Nat),fH w base O [(Bc,(dH c)),(w.heap.size,(iF pa pc p ba ca bo cb x m1 m2)),(w.heap.size+1,(iE h.UU h.addr h.port)),(w.heap.size+1+1,(eO UU UY addr port peer UV VB)),(w.heap.size+1+1+1,iG)] (.slice a1 nb.length cc1) (.slice a ln cc) (nb) (x.UZ++[(⟨h.UU,h.addr,h.port,peer,UV,st,now+lf⟩: Ss)]) wx)
 case first=>
  rename_i J K2 hJ hK2;have HCP:Hid (∀wy,Below U5.drew.heap.size U5.drew wy→_):=fun wy hy=>V5.out.kept (bR.drew.trans hy)
  have HQP:Hid (∀wy,Below U5.drew.heap.size U5.drew wy→aA wy g8 (rZ h.UU h.addr h.port peer UV st (now+lf))):=fun wy hy=>HQ8.out.drew.kept (by simp) hy
  try clear hun
  refine aN [97,98,99,100,101] (by kernel_rfl) (by kernel_rfl) ?_;iterate 4 (apply bC.u rfl;(·intro K' a wy ho hd hb hK;simp[aS,aF,aD,Region.binds]at ho hd;have hst:=HCP.out wy hb;have ko:=hst.o.cell (j:=1) rfl;have hqq:=HQP.out wy hb;have kC:=hqq.c7;clear hst;go_simp;first|((try go_bits);exact hK _ _ rfl bQ)|(refine(HCT.out wy).mono ?_;rintro e wz ⟨rfl,hz⟩;exact hK _ _ rfl hz));dsimp only[nA,cA])
  refine bC.rel (n:=4) (jA (fY (⟨h.UU,h.addr,h.port,peer,UV,st,now+lf⟩: Ss))) (gB _ (by simp[fY])) [_,_,_,_,jA (fY (⟨h.UU,h.addr,h.port,peer,UV,st,now+lf⟩: Ss))] rfl rfl ?_ ?_
  ·intro K' a wy ho hd hb hK;rw[wN rfl];have q3:=hd ⟨3,.data⟩ (by simp) rfl;simp[aS,aF,aD]at q3;clear hd ho;go_simp;exact hK _ _ ⟨wy.heap.size,rfl,aA.new wy (fY (⟨h.UU,h.addr,h.port,peer,UV,st,now+lf⟩: Ss)) _⟩ (bR.alloc lR _)
  intro X wz hR hz;obtain⟨x0,x1,x2,x3,x4,-⟩:=hR;simp only[aF]at x0 x1 x2 x3;simp only[aE,x0,x1,x2,x3,aE];clear x0 x1 x2 x3;obtain⟨g7,e7,r7⟩:=x4;have SZ:=HCP.out wz hz;obtain⟨v6,w6,hrun,⟨gg,l6,c6,rfl⟩,hO6,S6⟩:=SZ.appS (⟨h.UU,h.addr,h.port,peer,UV,st,now+lf⟩: Ss) g7 r7 hl2;have HRUN:Hid _:=hrun;have HS6:Hid _:=S6;have p1:=hO6.cell (j:=1) rfl;have p2:=hO6.free (j:=1) (by simp);clear hrun S6 hO6 SZ r7 hz HCP;simp only[e7];simp only[List.length_cons,List.length_nil,List.drop_succ_cons,List.drop_zero,TX,Nat.reduceAdd];intro K5 hK5;with_reducible refine dC (.tmp 98) (.tmp 101) _ rfl ?_ ?_ HRUN.out (hK5 _ _ ?_)
  ·simp[Act.eval,Act.put]
  ·simp[Act.eval,Act.put]
  intro K6 hK6;go_simp;refine hK6 _ _ ?_;intro K7 hK7;go_simp;refine hK7 _ _ ?_;show Exit.then _ _ _ _ _;refine hK2 _ _ (hJ _ _ ?_);(repeat apply Exists.intro)
  exact⟨⟨rfl,some ⟨gg,0,none⟩,l6,c6,HS6.out⟩,rfl⟩
 case rest=>
 obtain⟨rfl,a2,ln2,cc2,hS⟩:=hcut;have V6:Hid _:=hS;clear hS V5 HQ8 HCT;generalize wc=U6 at *;obtain⟨a2',q2',hb2',-,-⟩:=V6.out.shapes.2;injection hb2' with i1 i2 i3
 subst i1 i2 i3;go_upto_region 15 with fail
 obtain⟨sn,hsn⟩: ∃n,n=(x.UZ++[(⟨h.UU,h.addr,h.port,peer,UV,st,now+lf⟩: Ss)]).length:=⟨_,rfl⟩;have HSN:Hid (sn=(x.UZ++[(⟨h.UU,h.addr,h.port,peer,UV,st,now+lf⟩: Ss)]).length):=hsn;rw[←hsn]at V6;clear hsn;obtain⟨bn,hbn⟩: ∃n,n=nb.length:=⟨_,rfl⟩;have HBN:Hid (bn=nb.length):=hbn;rw[←hbn]at V6;clear hbn;have HCP:Hid (∀wy,Below U6.drew.heap.size U6.drew wy→_):=fun wy hy=>V6.out.kept (bR.drew.trans hy)
 try clear hun
 clear V6;refine aN [104,105,106,107] (by kernel_rfl) (by kernel_rfl) ?_;iterate 4 (apply bC.u rfl;(·intro K' a wy ho hd hb hK;simp[aS,aF,aD,Region.binds]at ho hd;have hst:=HCP.out wy hb;have kC:=hst.o.c2;have kC:=(hst.at cO).c5;clear hst;go_simp;first|((try go_bits);exact hK _ _ rfl bQ)|(refine(HCB.out wy).mono ?_;rintro e wz ⟨rfl,hz⟩;exact hK _ _ rfl hz));dsimp only[nA,cA])
 intro X wz hR hz;simp only[UB,UC,eW,aF]at hR;simp only[aE,hR];clear hR;have V7:Hid (fH w base O [(Bc,(dH c)),(w.heap.size,(iF pa pc p ba ca bo cb x m1 m2)),(w.heap.size+1,(iE h.UU h.addr h.port)),(w.heap.size+1+1,(eO UU UY addr port peer UV VB)),(w.heap.size+1+1+1,iG)] (.slice a1 bn cc1) (.slice a2 sn cc2) (nb) (x.UZ++[(⟨h.UU,h.addr,h.port,peer,UV,st,now+lf⟩: Ss)]) wz):=HCP.out wz hz;clear hz HCP;have HHz:=V7.out.at lX;obtain⟨z0,z1,z2,z3,z4,z5,z6,z7⟩:=HHz.c8;obtain⟨zf0,zf1,zf2,zf3,zf4,zf5,zf6,zf7⟩:=HHz.f8;obtain⟨HRR,RB⟩:=vD HHz V7.out.b hRw (.slice a1 bn cc1) (.slice a2 sn cc2) (iV c.UU) (.string c.inn) (iV c.UW) (.string c.out) (iV c.UX) (iV 0);clear HHz;obtain⟨w1,q1,hb1,-,hbo⟩:=V7.out.shapes.1;obtain⟨w2,q2,hb2,-,hso⟩:=V7.out.shapes.2;injection hb1 with i1 i2 i3
 injection hb2 with i4 i5 i6
 have hRb:w.heap.size+1+1+1 < base:=(V7.out.kb _ lX).1;have hwb:=V7.out.wb;have HOW:Hid (dD w.heap.size ((sW (sW (sW (sW (sW (sW (sW wz (w.heap.size+1+1+1) 0 (.slice a1 bn cc1)) (w.heap.size+1+1+1) 1 (.slice a2 sn cc2)) (w.heap.size+1+1+1) 2 (iV c.UU)) (w.heap.size+1+1+1) 3 (.string c.inn)) (w.heap.size+1+1+1) 4 (iV c.UW)) (w.heap.size+1+1+1) 5 (.string c.out)) (w.heap.size+1+1+1) 6 (iV c.UX)).setCell ⟨w.heap.size+1+1+1,7,none⟩ (iV 0)) w1 w2 ⟨nb,x.UZ++[(⟨h.UU,h.addr,h.port,peer,UV,st,now+lf⟩: Ss)]⟩):=⟨(hbo.grown (aC (aC (aC (aC (aC (aC (aC (aC (World.grownBy.refl _ _) _) _) _) _) _) _) _) _) hRb).down hwb,(hso.grown (aC (aC (aC (aC (aC (aC (aC (aC (World.grownBy.refl _ _) _) _) _) _) _) _) _) _) hRb).down hwb,fun g h e1 e2 _ _ e3=>V7.out.ne g (by rw[i1,e1];rfl) (by rw[i4,e2,←e3];rfl)⟩;have I1:Hid _:=i1;have I3:Hid _:=i3;have I4:Hid _:=i4;have I6:Hid _:=i6;clear hbo hso V7 i1 i2 i3 i4 i5 i6;intro K10 hK10;go_simp;refine hK10 _ _ ?_;simp only[fO];go_wp2_with fail
 exact UQ (aG Tryz.results108 _ _ _ _ _ rfl HRR.out Tryz.underlying104 rfl (show (Tryz.prog.info? 104).map (·.size)=some 8 by kernel_rfl)) rfl (And.intro (by rw[HV.out];exact⟨w1,w2,q1,q2,by rw[I1.out,I3.out,I4.out,I6.out,HBN.out,HSN.out];rfl,HOW.out⟩) RB.out)
end Go.Proofs.YtdkepkaflielhaaGreatDoor
