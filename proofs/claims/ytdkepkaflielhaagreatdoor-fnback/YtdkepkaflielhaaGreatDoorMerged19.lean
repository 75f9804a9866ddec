import Derived.Test.YtdkepkaflielhaaGreatDoorMerged17
set_option linter.unusedVariables false
set_option linter.unusedSimpArgs false
set_option maxRecDepth 100000
set_option maxHeartbeats 8000000
namespace Go.Proofs.YtdkepkaflielhaaGreatDoor
open Go.RowKit Go.PlainAid
theorem yY(pa:OA)(pc:Nat)(p:Pl)(ba bo:OA)(ca cb:Nat)(x:Bb)(m1 m2:Nat)(port:Int)(w:World) :
  Cb 165 #[CO pa pc p ba bo ca cb x m1 m2,iV port] w (.bool (aO port p.low p.high)):=by
 have HZ:Hid (Below w.heap.size w (w.alloc (.cells (iM pa pc p ba ca bo cb x m1 m2).toArray 139))):=bR.alloc lR _;have HK:aA (w.alloc (.cells (iM pa pc p ba ca bo cb x m1 m2).toArray 139)) w.heap.size (iM pa pc p ba ca bo cb x m1 m2):=aA.new w (iM pa pc p ba ca bo cb x m1 m2) 139;have HV:Hid (aO port p.low p.high=(decide (p.low≤port)&&decide (port≤p.high))):=rfl;generalize aO port p.low p.high=ans at *;have hun:undef=Value.tuple #[]:=rfl;unfold CO;go_enter Tryz.func165,Tryz.ntmps165
 go_upto_region 1 with fail
 generalize (w.alloc (.cells (iM pa pc p ba ca bo cb x m1 m2).toArray 139))=W at *;obtain⟨-,k1,k2⟩:=HK.c3;clear HK;by_cases h1:p.low≤port
 case neg=>
  have HX:Hid (ans=false):=by unfold Hid;rw[HV.out,UD h1];rfl
  have d1:decide (p.low≤port)=false:=UD h1;go_wp2_with fail
  go_ret;exact⟨aC HX.out.symm,HZ.out⟩
 have d1:decide (p.low≤port)=true:=UE h1;have HX:Hid (ans=decide (port≤p.high)):=by unfold Hid;rw[HV.out,UE h1];rfl
 go_wp2_with fail
 go_ret;exact⟨aC HX.out.symm,HZ.out⟩
theorem MG(pa:OA)(pc:Nat)(p:Pl)(ba bo:OA)(ca cb:Nat)(x:Bb)(m1 m2:Nat)(ys:List Bd)(q:Bd)(w:World)(hpl:p.VL.length≤1048576)(hbl1:x.VN.length≤1048576)(hbl2:x.VK.length≤1048576)(hq:fG q)(hbk:dJ w m1 m2 ys ys)(hp:bP cB 1 w pa p.VL)(hx:dC w ba bo x) :
  Cb 133 #[CO pa pc p ba bo ca cb x m1 m2,gW q] w (.bool (lY p x ys q)):=by
 have HZ:Hid (Below w.heap.size w ((aW w (iM pa pc p ba ca bo cb x m1 m2) 139).alloc (.cells (cZ q).toArray 48))):=(bR.alloc lR _).alloc (by simp) _;have HK:Hid (aA ((aW w (iM pa pc p ba ca bo cb x m1 m2) 139).alloc (.cells (cZ q).toArray 48)) w.heap.size (iM pa pc p ba ca bo cb x m1 m2)):=(aA.new w (iM pa pc p ba ca bo cb x m1 m2) 139).alloc _;have HQ:Hid (aA ((aW w (iM pa pc p ba ca bo cb x m1 m2) 139).alloc (.cells (cZ q).toArray 48)) (w.heap.size+1) (dP q)):=by
  have h:=aA.new (w.alloc (.cells (iM pa pc p ba ca bo cb x m1 m2).toArray 139)) (dP q) 48;rw[UC]at h;exact h
 have HBK:Hid (dJ w m1 m2 ys ys):=hbk;have HG:Hid (fG q):=hq;have HV:Hid (lY p x ys q=(eN q.VF&&cO q.inn&&jS q.VH&&mW p.VL q.out&&aO q.VI p.low p.high&&!(ys.any (cD q.VF q.inn q.VH))&&!(ys.any (cV q.VF q.out q.VI))&&decide ((dV x.VN ⟨#[]⟩ q.inn).toList=q.out.toList)&&x.VK.any (gR q))):=rfl;have HH:Hid (∀W,Cb 53 #[.agg (cZ q).toArray] W (.agg (gT q.VF q.inn q.VH).toArray)):=fun W=>lN q W
 have HL:Hid (∀W,Cb 48 #[.agg (cZ q).toArray] W (.agg (gT q.VF q.out q.VI).toArray)):=fun W=>pW q W
 obtain⟨c1,hc1⟩: ∃c,c=(ys.find? fun c=>bB (bO c) (bO q)).getD lB:=⟨_,rfl⟩;obtain⟨c2,hc2⟩: ∃c,c=(ys.find? fun c=>bB (iP c) (iP q)).getD lB:=⟨_,rfl⟩;have HK1:Hid (∀W,Below w.heap.size w W→(Instr.lookup 137 (.map (some m1)) (.agg (gT q.VF q.inn q.VH).toArray) true).run Tryz.prog W=.ok (.tuple #[.agg (cZ c1).toArray,.bool (ys.any (cD q.VF q.inn q.VH))]) W):=fun W hW=>by
  have h:=(hbk.kept hW).look1 (wE hq);rw[iZ,←hc1,show (fun c=>bB (bO c) (bO q))=cD q.VF q.inn q.VH from funext fun c=>nE _ _ _ c]at h;exact h
 have HK2:Hid (∀W,Below w.heap.size w W→(Instr.lookup 137 (.map (some m2)) (.agg (gT q.VF q.out q.VI).toArray) true).run Tryz.prog W=.ok (.tuple #[.agg (cZ c2).toArray,.bool (ys.any (cV q.VF q.out q.VI))]) W):=fun W hW=>by
  have h:=(hbk.kept hW).look2 (DM hq);rw[iZ,←hc2,show (fun c=>bB (iP c) (iP q))=cV q.VF q.out q.VI from funext fun c=>pX _ _ _ c]at h;exact h
 have HO:Hid (∀W,Below w.heap.size w W→Cb 164 #[.slice ba x.VN.length ca,.string q.inn] W (.tuple #[.string (dV x.VN ⟨#[]⟩ q.inn),.bool (x.VN.find? (cY q.inn)).isSome])):=fun W hW=>zB q.inn x.VN ba ca W hbl1 (hx.bd.below hW)
 have HB:Hid (∀W,Cw 136 #[iV q.VF] W (.bool (eN q.VF))):=fun W=>uG _ W
 have HA:Hid (∀W,Cw 129 #[.string q.inn] W (.bool (cO q.inn))):=fun W=>kS q.inn W
 have HW:Hid (∀W,Cw 122 #[iV q.VH] W (.bool (jS q.VH))):=fun W=>dU _ W
 have HC:Hid (∀W,Below w.heap.size w W→Cb 96 #[.slice pa p.VL.length pc,.string q.out] W (.bool (mW p.VL q.out))):=fun W hW=>xM p.VL q.out pa pc W hpl (hp.below hW)
 have HN:Hid (∀W,Cb 165 #[.agg (iM pa pc p ba ca bo cb x m1 m2).toArray,iV q.VI] W (.bool (aO q.VI p.low p.high))):=fun W=>yY pa pc p ba bo ca cb x m1 m2 q.VI W
 have HS:Hid (∀W,Below w.heap.size w W→Cb 166 #[.slice bo x.VK.length cb,.agg (cZ q).toArray] W (.bool (x.VK.any (gR q)))):=fun W hW=>DE q x.VK bo cb W hbl2 (hx.ss.below hW)
 generalize lY p x ys q=ans at *;generalize ys.any (cD q.VF q.inn q.VH)=bh at *;generalize ys.any (cV q.VF q.out q.VI)=bl at *;generalize dV x.VN ⟨#[]⟩ q.inn=ot at *;generalize (x.VN.find? (cY q.inn)).isSome=fs at *;generalize eN q.VF=t1 at *;generalize cO q.inn=t2 at *;generalize jS q.VH=t3 at *;generalize mW p.VL q.out=t4 at *;generalize aO q.VI p.low p.high=t5 at *;generalize x.VK.any (gR q)=t9 at *;clear hc1 hc2 hbk hp hx hq;unfold CO gW;go_enter Tryz.func133,Tryz.ntmps133
 go_upto_region 1 with fail
 generalize World.alloc _ _=W at *;go_upto_region 1 with fail
 go_cut [6] (fun v wx=>v=.bool bh∧Below W.heap.size W wx)
 case first=>
  rename_i J K2 hJ hK2;have HCP:Hid (∀wy,Below W.drew.heap.size W.drew wy→aA wy w.heap.size (iM pa pc p ba ca bo cb x m1 m2)∧aA wy (w.heap.size+1) (dP q)∧Below w.heap.size w wy):=fun wy hy=>⟨HK.out.drew.kept (by simp) hy,HQ.out.drew.kept (by simp[dP]) hy,HZ.out.drew.trans (hy.mono HZ.out.size)⟩
  refine pC [12,13,14,15,16,11,17,18,5] 7 _ _ _ (by kernel_rfl) (by kernel_rfl) rfl rfl rfl ?_;refine kA.val (n:=0) (fun v=>[aG v]) (fun _=>rfl) rfl ?_;apply Exists.intro;refine And.intro ?_ ?_
  ·intro K' a wy ho hd hb hK;rw[wN rfl];have o2:=ho 2 (by decide);simp[aD]at o2;clear hd ho;go_simp;try go_bits
   exact hK _ _ rfl bR
  refine kA.val (n:=1) (fun v=>[_,aG v]) (fun _=>rfl) rfl ?_;apply Exists.intro;refine And.intro ?_ ?_
  ·intro K' a wy ho hd hb hK;rw[wN rfl];have q0:=hd ⟨0,.data⟩ (by simp) rfl;simp[aU,aG,aD]at q0;clear hd ho;obtain⟨hk,hq,hbw⟩:=HCP.out wy hb;obtain⟨k0,k1,k2,k3,k4,k5,k6,k7,k8,k9,k10,k11,k12,k13⟩:=hk.c14;obtain⟨c0,c1,c2,c3,c4⟩:=hq.c5;go_simp;try go_bits
   exact hK _ _ rfl bR
  refine kA.val (n:=2) (fun v=>[_,_,aG v]) (fun _=>rfl) rfl ?_;apply Exists.intro;refine And.intro ?_ ?_
  ·intro K' a wy ho hd hb hK;rw[wN rfl];have o3:=ho 3 (by decide);simp[aD]at o3;clear hd ho;obtain⟨hk,hq,hbw⟩:=HCP.out wy hb;obtain⟨k0,k1,k2,k3,k4,k5,k6,k7,k8,k9,k10,k11,k12,k13⟩:=hk.c14;obtain⟨c0,c1,c2,c3,c4⟩:=hq.c5;go_simp;try go_bits
   exact hK _ _ rfl bR
  refine kA.val (n:=3) (fun v=>[_,_,_,aG v]) (fun _=>rfl) rfl ?_;apply Exists.intro;refine And.intro ?_ ?_
  ·intro K' a wy ho hd hb hK;rw[wN rfl];have q2:=hd ⟨2,.data⟩ (by simp) rfl;simp[aU,aG,aD]at q2;clear hd ho;go_simp;refine(HH.out wy).mono ?_;rintro e wz ⟨rfl,hz⟩;exact hK _ _ rfl hz
  refine kA.val (n:=4) (fun v=>[_,_,_,_,aG v]) (fun _=>rfl) rfl ?_;apply Exists.intro;refine And.intro ?_ ?_
  ·intro K' a wy ho hd hb hK;rw[wN rfl];have q1:=hd ⟨1,.data⟩ (by simp) rfl;have q3:=hd ⟨3,.data⟩ (by simp) rfl;simp[aU,aG,aD]at q1 q3;clear hd ho;refine nL _ (.tmp 13) (.tmp 15) true rfl (by simp[Act.eval,aD,q1]) (by simp[Act.eval,aD,q3]) (HK1.out wy (HCP.out wy hb).2.2) (hK _ _ rfl bR)
  refine kA.val (n:=5) (fun v=>[_,_,_,_,_,aG v]) (fun _=>rfl) rfl ?_;apply Exists.intro;refine And.intro ?_ ?_
  ·intro K' a wy ho hd hb hK;rw[wN rfl];have q4:=hd ⟨4,.data⟩ (by simp) rfl;simp[aU,aG,aD]at q4;clear hd ho;go_simp;try go_bits
   exact hK _ _ rfl bR
  refine kA.val (n:=6) (fun v=>[_,_,_,_,_,_,aG v]) (fun _=>rfl) rfl ?_;apply Exists.intro;refine And.intro ?_ ?_
  ·intro K' a wy ho hd hb hK;rw[wN rfl];have q5:=hd ⟨5,.data⟩ (by simp) rfl;simp[aU,aG,aD]at q5;clear hd ho;go_simp;try go_bits
   exact hK _ _ rfl bR
  refine kA.val (n:=7) (fun v=>[_,_,_,_,_,_,_,aG v]) (fun _=>rfl) rfl ?_;apply Exists.intro;refine And.intro ?_ ?_
  ·intro K' a wy ho hd hb hK;rw[wN rfl];have q5:=hd ⟨5,.data⟩ (by simp) rfl;simp[aU,aG,aD]at q5;clear hd ho;go_simp;try go_bits
   exact hK _ _ rfl bR
  refine kA.rel (n:=8) (LN W.drew.heap.size) (uS _) [_,_,_,_,_,_,_,_,LN W.drew.heap.size] rfl rfl ?_ ?_
  ·intro K' a wy ho hd hb hK;rw[wN rfl];clear hd ho;go_simp;exact hK _ _ ⟨wy.heap.size,rfl,hb.size,aA.new wy (dP lB) 48⟩ (bR.alloc lR _)
  refine⟨?_,?_⟩
  ·intro X wz hR hz;obtain⟨x0,x1,x2,x3,x4,x5,x6,x7,x8,-⟩:=hR;obtain⟨g8,e8,b8,z8⟩:=x8;simp only[aG]at x0 x1 x2 x3 x4 x5 x6 x7;simp only[aE,x0,x1,x2,x3,x4,x5,x6,x7,e8];clear x0 x1 x2 x3 x4 x5 x6 x7;have z0:=z8.cell (j:=0) rfl;have zf0:=z8.free (j:=0) (by simp[dP]);have z1:=z8.cell (j:=1) rfl;have zf1:=z8.free (j:=1) (by simp[dP]);have z2:=z8.cell (j:=2) rfl;have zf2:=z8.free (j:=2) (by simp[dP]);have z3:=z8.cell (j:=3) rfl;have zf3:=z8.free (j:=3) (by simp[dP]);have z4:=z8.cell (j:=4) rfl;have zf4:=z8.free (j:=4) (by simp[dP]);have hz0:Below W.heap.size W wz:=bR.drew.trans hz;have b8':W.heap.size≤g8:=b8;have HB6:Hid (∀v0 v1 v2 v3 v4,Below W.heap.size W ((sW (sW (sW (sW wz g8 0 v0) g8 1 v1) g8 2 v2) g8 3 v3).setCell ⟨g8,4,none⟩ v4)):=fun v0 v1 v2 v3 v4=>((((hz0.setCell (p:=⟨g8,0,none⟩) b8' v0).setCell (p:=⟨g8,1,none⟩) b8' v1).setCell (p:=⟨g8,2,none⟩) b8' v2).setCell (p:=⟨g8,3,none⟩) b8' v3).setCell (p:=⟨g8,4,none⟩) b8' v4
   clear z8 b8 b8' hz hz0;intro K10 hK10;go_simp;refine hK10 _ _ ?_;intro K11 hK11;go_simp;refine hK11 _ _ ?_;show Exit.then _ _ _ _ _;refine hK2 _ _ (hJ _ _ ?_);(repeat apply Exists.intro)
   exact⟨⟨rfl,HB6.out _ _ _ _ _⟩,rfl⟩
  ·intro X wz hR hz;obtain⟨x0,x1,x2,x3,x4,x5,x6,x7,x8,-⟩:=hR;obtain⟨g8,e8,b8,z8⟩:=x8;simp only[aG]at x0 x1 x2 x3 x4 x5 x6 x7;simp[aD]at x7;simp only[aE,x0,x1,x2,x3,x4,x5,x6,x7,e8];clear x0 x1 x2 x3 x4 x5 x6 x7;have z0:=z8.cell (j:=0) rfl;have zf0:=z8.free (j:=0) (by simp[dP]);have z1:=z8.cell (j:=1) rfl;have zf1:=z8.free (j:=1) (by simp[dP]);have z2:=z8.cell (j:=2) rfl;have zf2:=z8.free (j:=2) (by simp[dP]);have z3:=z8.cell (j:=3) rfl;have zf3:=z8.free (j:=3) (by simp[dP]);have z4:=z8.cell (j:=4) rfl;have zf4:=z8.free (j:=4) (by simp[dP]);have hz0:Below W.heap.size W wz:=bR.drew.trans hz;have b8':W.heap.size≤g8:=b8;have HB6:Hid (∀v0 v1 v2 v3 v4,Below W.heap.size W ((sW (sW (sW (sW wz g8 0 v0) g8 1 v1) g8 2 v2) g8 3 v3).setCell ⟨g8,4,none⟩ v4)):=fun v0 v1 v2 v3 v4=>((((hz0.setCell (p:=⟨g8,0,none⟩) b8' v0).setCell (p:=⟨g8,1,none⟩) b8' v1).setCell (p:=⟨g8,2,none⟩) b8' v2).setCell (p:=⟨g8,3,none⟩) b8' v3).setCell (p:=⟨g8,4,none⟩) b8' v4
   clear z8 b8 b8' hz hz0;intro K10 hK10;go_simp;refine hK10 _ _ ?_;intro K11 hK11;go_simp;refine hK11 _ _ ?_;intro K12 hK12;go_simp;refine hK12 _ _ ?_;show Exit.then _ _ _ _ _;refine hK2 _ _ (hJ _ _ ?_);(repeat apply Exists.intro)
   exact⟨⟨rfl,HB6.out _ _ _ _ _⟩,rfl⟩
 case rest=>
 obtain⟨rfl,hbc⟩:=hcut;generalize wc=W1 at *;have HKn:Hid _:=HK.out.kept (by simp) hbc;have HQn:Hid _:=HQ.out.kept (by simp[dP]) hbc;have HZn:Hid _:=HZ.out.trans (hbc.mono HZ.out.size);clear HK HQ HZ hbc;have HK:Hid _:=HKn;have HQ:Hid _:=HQn;have HZ:Hid _:=HZn;clear HKn HQn HZn;go_upto_region 2 with fail
 go_cut [8] (fun v wx=>v=.bool bl∧Below W1.heap.size W1 wx)
 case first=>
  rename_i J K2 hJ hK2;have HCP:Hid (∀wy,Below W1.drew.heap.size W1.drew wy→aA wy w.heap.size (iM pa pc p ba ca bo cb x m1 m2)∧aA wy (w.heap.size+1) (dP q)∧Below w.heap.size w wy):=fun wy hy=>⟨HK.out.drew.kept (by simp) hy,HQ.out.drew.kept (by simp[dP]) hy,HZ.out.drew.trans (hy.mono HZ.out.size)⟩
  refine pC [20,21,22,23,24,19,25,26,7] 7 _ _ _ (by kernel_rfl) (by kernel_rfl) rfl rfl rfl ?_;refine kA.val (n:=0) (fun v=>[aG v]) (fun _=>rfl) rfl ?_;apply Exists.intro;refine And.intro ?_ ?_
  ·intro K' a wy ho hd hb hK;rw[wN rfl];have o2:=ho 2 (by decide);simp[aD]at o2;clear hd ho;go_simp;try go_bits
   exact hK _ _ rfl bR
  refine kA.val (n:=1) (fun v=>[_,aG v]) (fun _=>rfl) rfl ?_;apply Exists.intro;refine And.intro ?_ ?_
  ·intro K' a wy ho hd hb hK;rw[wN rfl];have q0:=hd ⟨0,.data⟩ (by simp) rfl;simp[aU,aG,aD]at q0;clear hd ho;obtain⟨hk,hq,hbw⟩:=HCP.out wy hb;obtain⟨k0,k1,k2,k3,k4,k5,k6,k7,k8,k9,k10,k11,k12,k13⟩:=hk.c14;obtain⟨c0,c1,c2,c3,c4⟩:=hq.c5;go_simp;try go_bits
   exact hK _ _ rfl bR
  refine kA.val (n:=2) (fun v=>[_,_,aG v]) (fun _=>rfl) rfl ?_;apply Exists.intro;refine And.intro ?_ ?_
  ·intro K' a wy ho hd hb hK;rw[wN rfl];have o3:=ho 3 (by decide);simp[aD]at o3;clear hd ho;obtain⟨hk,hq,hbw⟩:=HCP.out wy hb;obtain⟨k0,k1,k2,k3,k4,k5,k6,k7,k8,k9,k10,k11,k12,k13⟩:=hk.c14;obtain⟨c0,c1,c2,c3,c4⟩:=hq.c5;go_simp;try go_bits
   exact hK _ _ rfl bR
  refine kA.val (n:=3) (fun v=>[_,_,_,aG v]) (fun _=>rfl) rfl ?_;apply Exists.intro;refine And.intro ?_ ?_
  ·intro K' a wy ho hd hb hK;rw[wN rfl];have q2:=hd ⟨2,.data⟩ (by simp) rfl;simp[aU,aG,aD]at q2;clear hd ho;go_simp;refine(HL.out wy).mono ?_;rintro e wz ⟨rfl,hz⟩;exact hK _ _ rfl hz
  refine kA.val (n:=4) (fun v=>[_,_,_,_,aG v]) (fun _=>rfl) rfl ?_;apply Exists.intro;refine And.intro ?_ ?_
  ·intro K' a wy ho hd hb hK;rw[wN rfl];have q1:=hd ⟨1,.data⟩ (by simp) rfl;have q3:=hd ⟨3,.data⟩ (by simp) rfl;simp[aU,aG,aD]at q1 q3;clear hd ho;refine nL _ (.tmp 21) (.tmp 23) true rfl (by simp[Act.eval,aD,q1]) (by simp[Act.eval,aD,q3]) (HK2.out wy (HCP.out wy hb).2.2) (hK _ _ rfl bR)
  refine kA.val (n:=5) (fun v=>[_,_,_,_,_,aG v]) (fun _=>rfl) rfl ?_;apply Exists.intro;refine And.intro ?_ ?_
  ·intro K' a wy ho hd hb hK;rw[wN rfl];have q4:=hd ⟨4,.data⟩ (by simp) rfl;simp[aU,aG,aD]at q4;clear hd ho;go_simp;try go_bits
   exact hK _ _ rfl bR
  refine kA.val (n:=6) (fun v=>[_,_,_,_,_,_,aG v]) (fun _=>rfl) rfl ?_;apply Exists.intro;refine And.intro ?_ ?_
  ·intro K' a wy ho hd hb hK;rw[wN rfl];have q5:=hd ⟨5,.data⟩ (by simp) rfl;simp[aU,aG,aD]at q5;clear hd ho;go_simp;try go_bits
   exact hK _ _ rfl bR
  refine kA.val (n:=7) (fun v=>[_,_,_,_,_,_,_,aG v]) (fun _=>rfl) rfl ?_;apply Exists.intro;refine And.intro ?_ ?_
  ·intro K' a wy ho hd hb hK;rw[wN rfl];have q5:=hd ⟨5,.data⟩ (by simp) rfl;simp[aU,aG,aD]at q5;clear hd ho;go_simp;try go_bits
   exact hK _ _ rfl bR
  refine kA.rel (n:=8) (LN W1.drew.heap.size) (uS _) [_,_,_,_,_,_,_,_,LN W1.drew.heap.size] rfl rfl ?_ ?_
  ·intro K' a wy ho hd hb hK;rw[wN rfl];clear hd ho;go_simp;exact hK _ _ ⟨wy.heap.size,rfl,hb.size,aA.new wy (dP lB) 48⟩ (bR.alloc lR _)
  refine⟨?_,?_⟩
  ·intro X wz hR hz;obtain⟨x0,x1,x2,x3,x4,x5,x6,x7,x8,-⟩:=hR;obtain⟨g8,e8,b8,z8⟩:=x8;simp only[aG]at x0 x1 x2 x3 x4 x5 x6 x7;simp only[aE,x0,x1,x2,x3,x4,x5,x6,x7,e8];clear x0 x1 x2 x3 x4 x5 x6 x7;have z0:=z8.cell (j:=0) rfl;have zf0:=z8.free (j:=0) (by simp[dP]);have z1:=z8.cell (j:=1) rfl;have zf1:=z8.free (j:=1) (by simp[dP]);have z2:=z8.cell (j:=2) rfl;have zf2:=z8.free (j:=2) (by simp[dP]);have z3:=z8.cell (j:=3) rfl;have zf3:=z8.free (j:=3) (by simp[dP]);have z4:=z8.cell (j:=4) rfl;have zf4:=z8.free (j:=4) (by simp[dP]);have hz0:Below W1.heap.size W1 wz:=bR.drew.trans hz;have b8':W1.heap.size≤g8:=b8;have HB6:Hid (∀v0 v1 v2 v3 v4,Below W1.heap.size W1 ((sW (sW (sW (sW wz g8 0 v0) g8 1 v1) g8 2 v2) g8 3 v3).setCell ⟨g8,4,none⟩ v4)):=fun v0 v1 v2 v3 v4=>((((hz0.setCell (p:=⟨g8,0,none⟩) b8' v0).setCell (p:=⟨g8,1,none⟩) b8' v1).setCell (p:=⟨g8,2,none⟩) b8' v2).setCell (p:=⟨g8,3,none⟩) b8' v3).setCell (p:=⟨g8,4,none⟩) b8' v4
   clear z8 b8 b8' hz hz0;intro K10 hK10;go_simp;refine hK10 _ _ ?_;intro K11 hK11;go_simp;refine hK11 _ _ ?_;show Exit.then _ _ _ _ _;refine hK2 _ _ (hJ _ _ ?_);(repeat apply Exists.intro)
   exact⟨⟨rfl,HB6.out _ _ _ _ _⟩,rfl⟩
  ·intro X wz hR hz;obtain⟨x0,x1,x2,x3,x4,x5,x6,x7,x8,-⟩:=hR;obtain⟨g8,e8,b8,z8⟩:=x8;simp only[aG]at x0 x1 x2 x3 x4 x5 x6 x7;simp[aD]at x7;simp only[aE,x0,x1,x2,x3,x4,x5,x6,x7,e8];clear x0 x1 x2 x3 x4 x5 x6 x7;have z0:=z8.cell (j:=0) rfl;have zf0:=z8.free (j:=0) (by simp[dP]);have z1:=z8.cell (j:=1) rfl;have zf1:=z8.free (j:=1) (by simp[dP]);have z2:=z8.cell (j:=2) rfl;have zf2:=z8.free (j:=2) (by simp[dP]);have z3:=z8.cell (j:=3) rfl;have zf3:=z8.free (j:=3) (by simp[dP]);have z4:=z8.cell (j:=4) rfl;have zf4:=z8.free (j:=4) (by simp[dP]);have hz0:Below W1.heap.size W1 wz:=bR.drew.trans hz;have b8':W1.heap.size≤g8:=b8;have HB6:Hid (∀v0 v1 v2 v3 v4,Below W1.heap.size W1 ((sW (sW (sW (sW wz g8 0 v0) g8 1 v1) g8 2 v2) g8 3 v3).setCell ⟨g8,4,none⟩ v4)):=fun v0 v1 v2 v3 v4=>((((hz0.setCell (p:=⟨g8,0,none⟩) b8' v0).setCell (p:=⟨g8,1,none⟩) b8' v1).setCell (p:=⟨g8,2,none⟩) b8' v2).setCell (p:=⟨g8,3,none⟩) b8' v3).setCell (p:=⟨g8,4,none⟩) b8' v4
   clear z8 b8 b8' hz hz0;intro K10 hK10;go_simp;refine hK10 _ _ ?_;intro K11 hK11;go_simp;refine hK11 _ _ ?_;intro K12 hK12;go_simp;refine hK12 _ _ ?_;show Exit.then _ _ _ _ _;refine hK2 _ _ (hJ _ _ ?_);(repeat apply Exists.intro)
   exact⟨⟨rfl,HB6.out _ _ _ _ _⟩,rfl⟩
 case rest=>
 obtain⟨rfl,hbc⟩:=hcut;generalize wc=W2 at *;have HKn:Hid _:=HK.out.kept (by simp) hbc;have HQn:Hid _:=HQ.out.kept (by simp[dP]) hbc;have HZn:Hid _:=HZ.out.trans (hbc.mono HZ.out.size);clear HK HQ HZ hbc;have HK:Hid _:=HKn;have HQ:Hid _:=HQn;have HZ:Hid _:=HZn;clear HKn HQn HZn;have hun:undef=Value.tuple #[]:=rfl;obtain⟨k0,k1,k2,k3,k4,k5,k6,k7,k8,k9,k10,k11,k12,k13⟩:=HK.out.c14;obtain⟨c0,c1,c2,c3,c4⟩:=HQ.out.c5;go_wp2_with fail
 refine(HO.out _ HZ.out).mono ?_;rintro e W3 ⟨rfl,qq⟩;have HKn:Hid _:=HK.out.kept (by simp) qq;have HQn:Hid _:=HQ.out.kept (by simp[dP]) qq;have HZn:Hid _:=HZ.out.trans (qq.mono HZ.out.size);clear k0 k1 k2 k3 k4 k5 k6 k7 k8 k9 k10 k11 k12 k13 c0 c1 c2 c3 c4;clear HK HQ HZ qq;have HK:Hid _:=HKn;have HQ:Hid _:=HQn;have HZ:Hid _:=HZn;clear HKn HQn HZn;obtain⟨k0,k1,k2,k3,k4,k5,k6,k7,k8,k9,k10,k11,k12,k13⟩:=HK.out.c14;obtain⟨c0,c1,c2,c3,c4⟩:=HQ.out.c5;go_wp2_with fail
 refine(HB.out _).mono ?_;rintro e W3 ⟨rfl,rfl⟩;clear k0 k1 k2 k3 k4 k5 k6 k7 k8 k9 k10 k11 k12 k13 c0 c1 c2 c3 c4
 cases t1 with
 | false=>
  have HX:Hid (ans=false):=by unfold Hid;rw[HV.out];simp
  go_wp2_with fail
  go_ret;exact⟨aC HX.out.symm,HZ.out⟩
 | true=>
 obtain⟨k0,k1,k2,k3,k4,k5,k6,k7,k8,k9,k10,k11,k12,k13⟩:=HK.out.c14;obtain⟨c0,c1,c2,c3,c4⟩:=HQ.out.c5;go_wp2_with fail
 refine(HA.out _).mono ?_;rintro e W3 ⟨rfl,rfl⟩;clear k0 k1 k2 k3 k4 k5 k6 k7 k8 k9 k10 k11 k12 k13 c0 c1 c2 c3 c4
 cases t2 with
 | false=>
  have HX:Hid (ans=false):=by unfold Hid;rw[HV.out];simp
  go_wp2_with fail
  go_ret;exact⟨aC HX.out.symm,HZ.out⟩
 | true=>
 obtain⟨k0,k1,k2,k3,k4,k5,k6,k7,k8,k9,k10,k11,k12,k13⟩:=HK.out.c14;obtain⟨c0,c1,c2,c3,c4⟩:=HQ.out.c5;go_wp2_with fail
 refine(HW.out _).mono ?_;rintro e W3 ⟨rfl,rfl⟩;clear k0 k1 k2 k3 k4 k5 k6 k7 k8 k9 k10 k11 k12 k13 c0 c1 c2 c3 c4
 cases t3 with
 | false=>
  have HX:Hid (ans=false):=by unfold Hid;rw[HV.out];simp
  go_wp2_with fail
  go_ret;exact⟨aC HX.out.symm,HZ.out⟩
 | true=>
 obtain⟨k0,k1,k2,k3,k4,k5,k6,k7,k8,k9,k10,k11,k12,k13⟩:=HK.out.c14;obtain⟨c0,c1,c2,c3,c4⟩:=HQ.out.c5;go_wp2_with fail
 refine(HC.out _ HZ.out).mono ?_;rintro e W4 ⟨rfl,qq⟩;have HKn:Hid _:=HK.out.kept (by simp) qq;have HQn:Hid _:=HQ.out.kept (by simp[dP]) qq;have HZn:Hid _:=HZ.out.trans (qq.mono HZ.out.size);clear k0 k1 k2 k3 k4 k5 k6 k7 k8 k9 k10 k11 k12 k13 c0 c1 c2 c3 c4;clear HK HQ HZ qq;have HK:Hid _:=HKn;have HQ:Hid _:=HQn;have HZ:Hid _:=HZn;clear HKn HQn HZn
 cases t4 with
 | false=>
  have HX:Hid (ans=false):=by unfold Hid;rw[HV.out];simp
  go_wp2_with fail
  go_ret;exact⟨aC HX.out.symm,HZ.out⟩
 | true=>
 obtain⟨k0,k1,k2,k3,k4,k5,k6,k7,k8,k9,k10,k11,k12,k13⟩:=HK.out.c14;obtain⟨c0,c1,c2,c3,c4⟩:=HQ.out.c5;go_wp2_with fail
 refine(HN.out _).mono ?_;rintro e W5 ⟨rfl,qq⟩;have HKn:Hid _:=HK.out.kept (by simp) qq;have HQn:Hid _:=HQ.out.kept (by simp[dP]) qq;have HZn:Hid _:=HZ.out.trans (qq.mono HZ.out.size);clear k0 k1 k2 k3 k4 k5 k6 k7 k8 k9 k10 k11 k12 k13 c0 c1 c2 c3 c4;clear HK HQ HZ qq;have HK:Hid _:=HKn;have HQ:Hid _:=HQn;have HZ:Hid _:=HZn;clear HKn HQn HZn
 cases t5 with
 | false=>
  have HX:Hid (ans=false):=by unfold Hid;rw[HV.out];simp
  go_wp2_with fail
  go_ret;exact⟨aC HX.out.symm,HZ.out⟩
 | true=>
 cases bh with
 | true=>
  have HX:Hid (ans=false):=by unfold Hid;rw[HV.out];simp
  go_wp2_with fail
  go_ret;exact⟨aC HX.out.symm,HZ.out⟩
 | false=>
 cases bl with
 | true=>
  have HX:Hid (ans=false):=by unfold Hid;rw[HV.out];simp
  go_wp2_with fail
  go_ret;exact⟨aC HX.out.symm,HZ.out⟩
 | false=>
 obtain⟨k0,k1,k2,k3,k4,k5,k6,k7,k8,k9,k10,k11,k12,k13⟩:=HK.out.c14;obtain⟨c0,c1,c2,c3,c4⟩:=HQ.out.c5;by_cases ho:ot.toList=q.out.toList
 case neg=>
  have ho1:(ot.toList==q.out.toList)=false:=by simp[ho]
  have HX:Hid (ans=false):=by unfold Hid;rw[HV.out,UD ho];simp
  clear ho;go_wp2_with fail
  go_ret;exact⟨aC HX.out.symm,HZ.out⟩
 have ho1:(ot.toList==q.out.toList)=true:=by simp[ho]
 have HX:Hid (ans=t9):=by unfold Hid;rw[HV.out,UE ho];rfl
 clear ho;go_wp2_with fail
 refine(HS.out _ HZ.out).mono ?_;rintro e W6 ⟨rfl,qq⟩;have HKn:Hid _:=HK.out.kept (by simp) qq;have HQn:Hid _:=HQ.out.kept (by simp[dP]) qq;have HZn:Hid _:=HZ.out.trans (qq.mono HZ.out.size);clear k0 k1 k2 k3 k4 k5 k6 k7 k8 k9 k10 k11 k12 k13 c0 c1 c2 c3 c4;clear HK HQ HZ qq;have HK:Hid _:=HKn;have HQ:Hid _:=HQn;have HZ:Hid _:=HZn;clear HKn HQn HZn;go_wp2_with fail
 go_ret;exact⟨aC HX.out.symm,HZ.out⟩
theorem CZ(xs:List Bd)(VF:Int)(s:BA)(n:Int):dS xs VF s n=!xs.any (cV VF s n):=by
 unfold dS;rw[←mN];by_cases h:bD (cV VF s n) xs < 0
 ·rw[UE h,UD (by omega)];rfl
 ·rw[UD h,UE (by omega)];rfl
theorem MQ(p:Pl)(xs:List Bd)(VF:Int)(s:BA)(wish:Int):jH p xs VF s wish=if (aO wish p.low p.high&&dS xs VF s wish)=true then some wish else (cQ (fun n=>decide (n % 2=wish % 2)&&dS xs VF s n) p.low (p.high-p.low+1).toNat).or (cQ (dS xs VF s) p.low (p.high-p.low+1).toNat):=by
 unfold jH;split
 ·rfl
 ·cases cQ (fun n=>decide (n % 2=wish % 2)&&dS xs VF s n) p.low (p.high-p.low+1).toNat<;>rfl
theorem yX(f:Int→Bool)(L:Int→Option Int)(I:Int→Prop)(st lo hi:Int)(F:Nat)(hG:nM F)(caps:Array Value)(w:World)(h0:0≤lo)(hlo:lo≤65540)(hhi:hi≤65535)(hst1:1≤st)(hst2:st≤2)(hIs:I lo)(hIn:∀n,I n→I (n+st))(hL:∀n,I n→n≤hi→L n=if f n=true then some n else L (n+st))(hE:∀n,I n→hi < n→L n=none)
  (hC:∀W,Below w.heap.size w W→∀n,0≤n→n≤65535→Calls Tryz.prog F (#[iV n]++caps) W fun e w'=>e=.returned (.bool (f n))∧Below W.heap.size W w') :
  Cb 183 #[iV lo,iV hi,iV st,.func (.func F) #[] caps] w (.tuple #[iV ((L lo).getD 0),.bool (L lo).isSome]):=by
 have HC:Hid _:=hC;have HL:Hid _:=hL;have HE:Hid _:=hE;have HIN:Hid (∀n,I n→I (n+st)):=hIn;obtain⟨lv,hlv⟩: ∃y,y=L lo:=⟨_,rfl⟩;have HLV:Hid (lv=L lo):=hlv;rw[←hlv];clear hC hL hE hIn hlv;unfold nM at hG;go_enter Tryz.func183,Tryz.ntmps183
 go_wp2_with fail
 go_loopw [10] (fun pv wr=>∃n:Int,0≤n∧n≤65540∧pv=iV n∧Hid (I n)∧Hid (lv=L n)∧Below w.heap.size w wr) (fun pv _=>(65541-intOf pv).toNat)
 case atStart=>exact⟨lo,by omega,by omega,rfl,hIs,HLV.out,Below.refl _ _⟩
 case round=>
  obtain⟨n,hn0,hn1,rfl,hin,hln,hb⟩:=hrel;have HB:Hid (Below w.heap.size w wr):=hb;clear hb;by_cases hle:n≤hi
  ·have HC2:Hid _:=HC.out wr HB.out n hn0 (by omega);have HL2:Hid _:=HL.out n hin.out hle;obtain⟨fb,hfb⟩: ∃y,y=f n:=⟨_,rfl⟩;rw[←hfb]at HC2 HL2;clear hfb;go_wp2_with fail
   refine Calls.mono HC2.out ?_;rintro e w1 ⟨rfl,q1⟩;have HB1:Hid _:=HB.out.trans (q1.mono HB.out.size);clear q1
   cases fb with
   | true=>
    have HX:Hid (lv=some n):=by unfold Hid;rw[hln.out,HL2.out,if_pos rfl]
    go_wp2_with fail
    go_ret2
    exact⟨by rw[HX.out];rfl,HB1.out⟩
   | false=>
    have HX:Hid (lv=L (n+st)):=by unfold Hid;rw[hln.out,HL2.out,if_neg (by simp)]
    have HI2:Hid (I (n+st)):=HIN.out n hin.out;go_wp2_with fail
    go_roundw
    case rel=>exact⟨n+st,by omega,by omega,rfl,HI2,HX,HB1.out⟩
    case measure=>simp[intOf];omega
  ·have HX:Hid (lv=none):=by unfold Hid;rw[hln.out];exact HE.out n hin.out (by omega)
   have hgt:hi < n:=by omega
   go_wp2_with fail
   go_ret2
   exact⟨by rw[HX.out];rfl,HB.out⟩
theorem KD(pa:OA)(pc:Nat)(p:Pl)(ba bo:OA)(ca cb:Nat)(x:Bb)(m1 m2:Nat)(xs:List Bd)(VF:Int)(s:BA)(port:Int)(B4 B5 B6:Nat)(w:World)(he:qX ⟨VF,s,port⟩)(hk:aA w B4 (iM pa pc p ba ca bo cb x m1 m2))(h5:aA w B5 [iV VF])(h6:aA w B6 [.string s])(hbk:dJ w m1 m2 xs xs) :
  Cb 182 #[iV port,.pointer (some ⟨B4,0,none⟩),.pointer (some ⟨B5,0,none⟩),.pointer (some ⟨B6,0,none⟩)] w (.bool (dS xs VF s port)):=by
 obtain⟨c,hc⟩: ∃c,c=(xs.find? fun q=>bB (iP q) ⟨VF,s,port⟩).getD lB:=⟨_,rfl⟩;have LK:(Instr.lookup 137 (.map (some m2)) (.agg (gT VF s port).toArray) true).run Tryz.prog w=.ok (.tuple #[.agg (cZ c).toArray,.bool (xs.any (cV VF s port))]) w:=by
  have h:=hbk.look2 (e:=⟨VF,s,port⟩) he;rw[iZ,←hc,show (fun q=>bB (iP q) ⟨VF,s,port⟩)=cV VF s port from funext fun c=>pX _ _ _ c]at h;exact h
 have HV:Hid (dS xs VF s port=!xs.any (cV VF s port)):=CZ xs VF s port;have k13:=hk.cell (j:=13) rfl;have k5:=h5.cell (j:=0) rfl;have k6:=h6.cell (j:=0) rfl;generalize dS xs VF s port=ans at *;generalize xs.any (cV VF s port)=an at *;clear hc hk h5 h6 hbk he;have HZ:Hid (Below w.heap.size w (w.alloc (.cells (cZ c).toArray 48))):=bR.alloc lR _;go_enter Tryz.func182,Tryz.ntmps182
 go_wp2_with (at_lookup;refine iX rfl _ _ _ _ rfl rfl rfl LK ?_)
 go_ret;exact⟨aC HV.out.symm,HZ.out⟩
theorem AJ(pa:OA)(pc:Nat)(p:Pl)(ba bo:OA)(ca cb:Nat)(x:Bb)(m1 m2:Nat)(xs:List Bd)(VF:Int)(s:BA)(wish:Int)(w:World)(hpo:cU p=true)(hs:s.size≤1048576)(hpr:gV VF)(hw0:0≤wish)(hw1:wish≤65535)(hbk:dJ w m1 m2 xs xs) :
  Cb 171 #[CO pa pc p ba bo ca cb x m1 m2,iV VF,.string s,iV wish] w (.tuple #[iV ((jH p xs VF s wish).getD 0),.bool (jH p xs VF s wish).isSome]):=by
 have hpb:1≤p.low∧p.low≤p.high∧p.high≤65535:=by
  unfold cU at hpo;simp only[UB,UF]at hpo;omega
 obtain⟨hlo,hlh,hhi⟩:=hpb;clear hpo;have HZ:Hid (Below w.heap.size w ((aW (aW w (iM pa pc p ba ca bo cb x m1 m2) 139) [iV VF] 2).alloc (.cells #[.string s] 9))):=((bR.alloc lR _).alloc (by simp) _).alloc (by simp;omega) _;have HK:Hid (aA ((aW (aW w (iM pa pc p ba ca bo cb x m1 m2) 139) [iV VF] 2).alloc (.cells #[.string s] 9)) w.heap.size (iM pa pc p ba ca bo cb x m1 m2)):=((aA.new w (iM pa pc p ba ca bo cb x m1 m2) 139).alloc _).alloc _;have H5:Hid (aA ((aW (aW w (iM pa pc p ba ca bo cb x m1 m2) 139) [iV VF] 2).alloc (.cells #[.string s] 9)) (w.heap.size+1) [iV VF]):=by
  have h:=(aA.new (w.alloc (.cells (iM pa pc p ba ca bo cb x m1 m2).toArray 139)) [iV VF] 2).alloc (.cells #[.string s] 9);rw[UC]at h;exact h
 have H6:Hid (aA ((aW (aW w (iM pa pc p ba ca bo cb x m1 m2) 139) [iV VF] 2).alloc (.cells #[.string s] 9)) (w.heap.size+1+1) [.string s]):=by
  have h:=aA.new ((aW w (iM pa pc p ba ca bo cb x m1 m2) 139).alloc (.cells #[iV VF] 2)) [.string s] 9;rw[UC,UC]at h;exact h
 have HBK:Hid (dJ w m1 m2 xs xs):=hbk;have HFR:Hid (∀W,Below w.heap.size w W→aA W w.heap.size (iM pa pc p ba ca bo cb x m1 m2)→aA W (w.heap.size+1) [iV VF]→aA W (w.heap.size+1+1) [.string s]→∀n,0≤n→n≤65535→Cb 182 #[iV n,.pointer (some ⟨w.heap.size,0,none⟩),.pointer (some ⟨w.heap.size+1,0,none⟩),.pointer (some ⟨w.heap.size+1+1,0,none⟩)] W (.bool (dS xs VF s n))):=fun W hW h1 h2 h3 n hn0 hn1=>KD pa pc p ba bo ca cb x m1 m2 xs VF s n _ _ _ W ⟨hs,hpr,⟨by show _≤n;omega,by show n≤_;omega⟩⟩ h1 h2 h3 (hbk.kept hW)
 have HLD:Hid (∀W,Cb 165 #[.agg (iM pa pc p ba ca bo cb x m1 m2).toArray,iV wish] W (.bool (aO wish p.low p.high))):=fun W=>yY pa pc p ba bo ca cb x m1 m2 wish W
 have HL2:Hid (∀W,Below w.heap.size w W→aA W w.heap.size (iM pa pc p ba ca bo cb x m1 m2)→aA W (w.heap.size+1) [iV VF]→aA W (w.heap.size+1+1) [.string s]→Cb 183 #[iV (p.low+(p.low+wish) % 2),iV p.high,iV 2,.func (.func 182) #[] #[.pointer (some ⟨w.heap.size,0,none⟩),.pointer (some ⟨w.heap.size+1,0,none⟩),.pointer (some ⟨w.heap.size+1+1,0,none⟩)]] W (.tuple #[iV ((cQ (fun m=>decide (m % 2=wish % 2)&&dS xs VF s m) p.low (p.high-p.low+1).toNat).getD 0),.bool (cQ (fun m=>decide (m % 2=wish % 2)&&dS xs VF s m) p.low (p.high-p.low+1).toNat).isSome])):=fun W hW h1 h2 h3=>by
  rw[bAA (by omega) hw0 hlh];exact yX (dS xs VF s) (fun n=>cQ (fun m=>decide (m % 2=wish % 2)&&dS xs VF s m) n (p.high-n+1).toNat) (fun n=>n % 2=wish % 2) 2 (p.low+(p.low+wish) % 2) p.high _ (fun args W=>by kernel_rfl) _ W (by omega) (by omega) hhi (by omega) (by omega) (by show _ % 2=_;omega) (fun n hn=>by show _ % 2=_;have:n % 2=wish % 2:=hn;omega) (fun n hn hle=>GM hle hn) (fun n hn hgt=>rO hgt) (fun W' hW' n hn0 hn1=>HFR.out W' (hW.trans (hW'.mono hW.size)) (h1.kept (by simp) hW') (h2.kept (by simp) hW') (h3.kept (by simp) hW') n hn0 hn1)
 have HL1:Hid (∀W,Below w.heap.size w W→aA W w.heap.size (iM pa pc p ba ca bo cb x m1 m2)→aA W (w.heap.size+1) [iV VF]→aA W (w.heap.size+1+1) [.string s]→Cb 183 #[iV p.low,iV p.high,iV 1,.func (.func 182) #[] #[.pointer (some ⟨w.heap.size,0,none⟩),.pointer (some ⟨w.heap.size+1,0,none⟩),.pointer (some ⟨w.heap.size+1+1,0,none⟩)]] W (.tuple #[iV ((cQ (dS xs VF s) p.low (p.high-p.low+1).toNat).getD 0),.bool (cQ (dS xs VF s) p.low (p.high-p.low+1).toNat).isSome])):=fun W hW h1 h2 h3=>
  yX (dS xs VF s) (fun n=>cQ (dS xs VF s) n (p.high-n+1).toNat) (fun n=>True) 1 p.low p.high _ (fun args W=>by kernel_rfl) _ W (by omega) (by omega) hhi (by omega) (by omega) trivial (fun n hn=>trivial) (fun n hn hle=>nG hle) (fun n hn hgt=>rO hgt) (fun W' hW' n hn0 hn1=>HFR.out W' (hW.trans (hW'.mono hW.size)) (h1.kept (by simp) hW') (h2.kept (by simp) hW') (h3.kept (by simp) hW') n hn0 hn1)
 have HV:Hid _:=MQ p xs VF s wish;generalize jH p xs VF s wish=ans at *;generalize cQ (fun m=>decide (m % 2=wish % 2)&&dS xs VF s m) p.low (p.high-p.low+1).toNat=o2 at *;generalize cQ (dS xs VF s) p.low (p.high-p.low+1).toNat=o1 at *;generalize aO wish p.low p.high=il at *;have HFW:Hid _:=fun W a1 a2 a3 a4=>HFR.out W a1 a2 a3 a4 wish hw0 hw1
 generalize dS xs VF s wish=fw at *;clear hbk HFR;have hun:undef=Value.tuple #[]:=rfl;unfold CO;go_enter Tryz.func171,Tryz.ntmps171
 go_upto_region 1 with fail
 generalize World.alloc _ _=W at *;obtain⟨k0,k1,k2,k3,k4,k5,k6,k7,k8,k9,k10,k11,k12,k13⟩:=HK.out.c14;go_wp2_with fail
 refine(HLD.out _).mono ?_;rintro e w1 ⟨rfl,q1⟩;have HZ1:Hid _:=HZ.out.trans (q1.mono HZ.out.size);have HK1:Hid _:=HK.out.kept (by simp) q1;have H51:Hid _:=H5.out.kept (by simp) q1;have H61:Hid _:=H6.out.kept (by simp) q1;clear q1 HZ HK H5 H6 HLD k0 k1 k2 k3 k4 k5 k6 k7 k8 k9 k10 k11 k12 k13
 cases il with
 | false=>
  obtain⟨-,k1,k2⟩:=HK1.out.c3;have HV2:Hid (ans=o2.or o1):=by unfold Hid;rw[HV.out];simp
  clear HV;go_wp2_with fail
  refine(HL2.out _ HZ1.out HK1.out H51.out H61.out).mono ?_;rintro e w3 ⟨rfl,q3⟩;have HZ3:Hid _:=HZ1.out.trans (q3.mono HZ1.out.size);have HK3:Hid _:=HK1.out.kept (by simp) q3;have H53:Hid _:=H51.out.kept (by simp) q3;have H63:Hid _:=H61.out.kept (by simp) q3;clear q3 k1 k2 HZ1 HK1 H51 H61 HL2
  cases o2 with
  | some n=>
   have HX:Hid (ans=some n):=HV2.out;go_wp2_with fail
   go_ret2
   exact⟨by rw[HX.out];rfl,HZ3.out⟩
  | none=>
   have HX:Hid (ans=o1):=HV2.out;obtain⟨-,k1,k2⟩:=HK3.out.c3;go_wp2_with fail
   refine(HL1.out _ HZ3.out HK3.out H53.out H63.out).mono ?_;rintro e w4 ⟨rfl,q4⟩;have HZ4:Hid _:=HZ3.out.trans (q4.mono HZ3.out.size);clear q4 k1 k2;go_wp2_with fail
   go_ret2
   exact⟨by rw[HX.out];rfl,HZ4.out⟩
 | true=>
  go_wp2_with fail
  refine(HFW.out _ HZ1.out HK1.out H51.out H61.out).mono ?_;rintro e w2 ⟨rfl,q2⟩;have HZ2:Hid _:=HZ1.out.trans (q2.mono HZ1.out.size);have HK2:Hid _:=HK1.out.kept (by simp) q2;have H52:Hid _:=H51.out.kept (by simp) q2;have H62:Hid _:=H61.out.kept (by simp) q2;clear q2 HZ1 HK1 H51 H61 HFW
  cases fw with
  | true=>
   have HX:Hid (ans=some wish):=by unfold Hid;rw[HV.out];rfl
   go_wp2_with fail
   go_ret2
   exact⟨by rw[HX.out];rfl,HZ2.out⟩
  | false=>
   obtain⟨-,k1,k2⟩:=HK2.out.c3;have HV2:Hid (ans=o2.or o1):=by unfold Hid;rw[HV.out];simp
   clear HV;go_wp2_with fail
   refine(HL2.out _ HZ2.out HK2.out H52.out H62.out).mono ?_;rintro e w3 ⟨rfl,q3⟩;have HZ3:Hid _:=HZ2.out.trans (q3.mono HZ2.out.size);have HK3:Hid _:=HK2.out.kept (by simp) q3;have H53:Hid _:=H52.out.kept (by simp) q3;have H63:Hid _:=H62.out.kept (by simp) q3;clear q3 k1 k2 HZ2 HK2 H52 H62 HL2
   cases o2 with
   | some n=>
    have HX:Hid (ans=some n):=HV2.out;go_wp2_with fail
    go_ret2
    exact⟨by rw[HX.out];rfl,HZ3.out⟩
   | none=>
    have HX:Hid (ans=o1):=HV2.out;obtain⟨-,k1,k2⟩:=HK3.out.c3;go_wp2_with fail
    refine(HL1.out _ HZ3.out HK3.out H53.out H63.out).mono ?_;rintro e w4 ⟨rfl,q4⟩;have HZ4:Hid _:=HZ3.out.trans (q4.mono HZ3.out.size);clear q4 k1 k2;go_wp2_with fail
    go_ret2
    exact⟨by rw[HX.out];rfl,HZ4.out⟩
def cP(p:Pl)(xs:List Bd)(h:En):Bd × Bool :=
 if (xs.find? (cD h.VF h.addr h.port)).isSome=true then ((xs.find? (cD h.VF h.addr h.port)).getD lB,true)
 else (⟨h.VF,h.addr,h.port,dV xs (jO p h.addr) h.addr,(jH p xs h.VF (dV xs (jO p h.addr) h.addr) h.port).getD 0⟩,(jH p xs h.VF (dV xs (jO p h.addr) h.addr) h.port).isSome)
theorem zY(p:Pl)(xs:List Bd)(h:En):gJ p xs h.VF h.addr h.port=if (cP p xs h).2=true then ((cP p xs h).1,0) else (lB,9):=by
 unfold gJ cP
 cases xs.find? (cD h.VF h.addr h.port) with
 | some c=>rfl
 | none=>
  cases jH p xs h.VF (dV xs (jO p h.addr) h.addr) h.port<;>rfl
theorem wR{xs:List Bd}{s d:BA}(h:(xs.find? (cY s)).isSome=true):dV xs d s=dV xs ⟨#[]⟩ s:=by
 unfold dV;cases hf:xs.find? (cY s) with
 | some c=>rfl
 | none=>rw[hf]at h;simp at h
theorem GV{xs:List Bd}{s d:BA}(h:(xs.find? (cY s)).isSome=false):dV xs d s=d:=by
 unfold dV;cases hf:xs.find? (cY s) with
 | some c=>rw[hf]at h;simp at h
 | none=>rfl
theorem DR{p:Pl}{xs:List Bd}{s:BA}(hps:∀s∈p.VL,s.size≤1048576)(hgb:∀q∈xs,fG q):(dV xs (jO p s) s).size≤1048576:=by
 unfold dV
 cases hf:xs.find? (cY s) with
 | some c=>exact(hgb c (VA hf)).2.1
 | none=>
  show (jO p s).size≤_;unfold jO
  cases ha:p.VL[(bN s).toNat % p.VL.length]? with
  | none=>exact VC _
  | some a=>exact hps a (List.mem_of_getElem? ha)
theorem CL(pa:OA)(pc:Nat)(p:Pl)(ba bo:OA)(ca cb:Nat)(x:Bb)(m1 m2:Nat)(h:En)(w:World)(hpo:cU p=true)(he:qX h)(hw0:0≤h.port)(hw1:h.port≤65535)(hps:∀s∈p.VL,s.size≤1048576)(hbl1:x.VN.length≤1048576)(hgb:∀q∈x.VN,fG q)(hbk:dJ w m1 m2 x.VN x.VN)(hp:bP cB 1 w pa p.VL)(hx:dC w ba bo x) :
  Cb 141 #[CO pa pc p ba bo ca cb x m1 m2,pG h] w (.tuple #[gW (cP p x.VN h).1,.bool (cP p x.VN h).2]):=by
 have hpb:1≤p.VL.length∧p.VL.length≤8:=by
  unfold cU at hpo;simp only[UB,UF]at hpo;omega
 obtain⟨hp1,hp8⟩:=hpb;have HPO:Hid (cU p=true):=hpo;have HZ:Hid (Below w.heap.size w ((aW (aW w (iM pa pc p ba ca bo cb x m1 m2) 139) (gT h.VF h.addr h.port) 86).alloc (.cells (gB 0 ⟨#[]⟩ 0 ⟨#[]⟩ 0).toArray 48))):=((bR.alloc lR _).alloc (by simp) _).alloc (by simp;omega) _;have HK:Hid (aA ((aW (aW w (iM pa pc p ba ca bo cb x m1 m2) 139) (gT h.VF h.addr h.port) 86).alloc (.cells (gB 0 ⟨#[]⟩ 0 ⟨#[]⟩ 0).toArray 48)) w.heap.size (iM pa pc p ba ca bo cb x m1 m2)):=((aA.new w (iM pa pc p ba ca bo cb x m1 m2) 139).alloc _).alloc _;have HH:Hid (aA ((aW (aW w (iM pa pc p ba ca bo cb x m1 m2) 139) (gT h.VF h.addr h.port) 86).alloc (.cells (gB 0 ⟨#[]⟩ 0 ⟨#[]⟩ 0).toArray 48)) (w.heap.size+1) (gT h.VF h.addr h.port)):=by
  have h:=(aA.new (w.alloc (.cells (iM pa pc p ba ca bo cb x m1 m2).toArray 139)) (gT h.VF h.addr h.port) 86).alloc (.cells (gB 0 ⟨#[]⟩ 0 ⟨#[]⟩ 0).toArray 48);rw[UC]at h;exact h
 have HR:Hid (aA ((aW (aW w (iM pa pc p ba ca bo cb x m1 m2) 139) (gT h.VF h.addr h.port) 86).alloc (.cells (gB 0 ⟨#[]⟩ 0 ⟨#[]⟩ 0).toArray 48)) (w.heap.size+1+1) (gB 0 ⟨#[]⟩ 0 ⟨#[]⟩ 0)):=by
  have h:=aA.new ((aW w (iM pa pc p ba ca bo cb x m1 m2) 139).alloc (.cells (gT h.VF h.addr h.port).toArray 86)) (gB 0 ⟨#[]⟩ 0 ⟨#[]⟩ 0) 48;rw[UC,UC]at h;exact h
 have hRw:w.heap.size≤w.heap.size+1+1:=by omega
 obtain⟨c,hc⟩: ∃c,c=(x.VN.find? (cD h.VF h.addr h.port)).getD lB:=⟨_,rfl⟩;have HLK:Hid (∀W,Below w.heap.size w W→(Instr.lookup 137 (.map (some m1)) (.agg (gT h.VF h.addr h.port).toArray) true).run Tryz.prog W=.ok (.tuple #[.agg (cZ c).toArray,.bool (x.VN.find? (cD h.VF h.addr h.port)).isSome]) W):=fun W hW=>by
  have hl:=(hbk.kept hW).look1 (e:=h) he;rw[show (fun q=>bB (bO q) h)=cD h.VF h.addr h.port from funext fun c=>nE _ _ _ c,←hc]at hl;exact hl
 have HO:Hid (∀W,Below w.heap.size w W→Cb 164 #[.slice ba x.VN.length ca,.string h.addr] W (.tuple #[.string (dV x.VN ⟨#[]⟩ h.addr),.bool (x.VN.find? (cY h.addr)).isSome])):=fun W hW=>zB h.addr x.VN ba ca W hbl1 (hx.bd.below hW)
 have HF:Hid (∀W s,Below w.heap.size w W→s.size≤1048576→Cb 171 #[.agg (iM pa pc p ba ca bo cb x m1 m2).toArray,iV h.VF,.string s,iV h.port] W (.tuple #[iV ((jH p x.VN h.VF s h.port).getD 0),.bool (jH p x.VN h.VF s h.port).isSome])):=fun W s hW hs=>AJ pa pc p ba bo ca cb x m1 m2 x.VN h.VF s h.port W hpo hs he.2.1 hw0 hw1 (hbk.kept hW)
 have HSZ:Hid ((dV x.VN (jO p h.addr) h.addr).size≤1048576):=DR hps hgb;have HV:Hid (cP p x.VN h=if (x.VN.find? (cD h.VF h.addr h.port)).isSome=true then (c,true) else (⟨h.VF,h.addr,h.port,dV x.VN (jO p h.addr) h.addr,(jH p x.VN h.VF (dV x.VN (jO p h.addr) h.addr) h.port).getD 0⟩,(jH p x.VN h.VF (dV x.VN (jO p h.addr) h.addr) h.port).isSome)):=by rw[hc];rfl
 have hsr:=dE h.addr;have HSU:Hid (∀W,Cb 170 #[.string h.addr] W (iV (bN h.addr))):=fun W=>(rW h.addr W (by have:=he.1;omega)).mono fun e w' hh=>⟨hh.1,by rw[hh.2];exact Below.refl _ _⟩
 obtain⟨ix,hix⟩: ∃i,i=(bN h.addr).toNat % p.VL.length:=⟨_,rfl⟩;have hixl:ix < p.VL.length:=by rw[hix];exact Nat.mod_lt _ (by omega)
 have hrem:(bN h.addr) % (p.VL.length:Int)=(ix:Int):=by
  obtain⟨n,hn⟩:=UK hsr.1;rw[hix,hn,Int.toNat_natCast];rfl
 obtain⟨bp,op,rfl,hbp,hatp⟩:=hp.at hixl;have HPI:Hid (∀W,Below w.heap.size w W→W.cell? ⟨bp,op+ix,none⟩=some (.string (jO p h.addr))):=fun W hW=>by
  have hh:=(hatp.below hbp hW) ix hixl 0 _ rfl;have e:jO p h.addr=p.VL[ix]:=by unfold jO;rw[←hix,UU hixl];rfl
  rw[e];simpa using hh
 have hixI:(ix:Int) < (p.VL.length:Int):=by omega
 have hnil:¬p.VL=[]:=fun e=>by rw[e]at hp1;simp at hp1
 have hrem2:(bN h.addr).tmod (p.VL.length:Int)=(ix:Int):=by rw[Int.tmod_eq_emod_of_nonneg hsr.1];exact hrem
 have HOS:Hid ((x.VN.find? (cY h.addr)).isSome=true→dV x.VN (jO p h.addr) h.addr=dV x.VN ⟨#[]⟩ h.addr):=wR;have HON:Hid ((x.VN.find? (cY h.addr)).isSome=false→dV x.VN (jO p h.addr) h.addr=jO p h.addr):=GV;generalize cP p x.VN h=ans at *;generalize (x.VN.find? (cD h.VF h.addr h.port)).isSome=bd at *;generalize dV x.VN (jO p h.addr) h.addr=ot at *;generalize dV x.VN ⟨#[]⟩ h.addr=oe at *;generalize jO p h.addr=od at *;generalize (x.VN.find? (cY h.addr)).isSome=mt at *;generalize bN h.addr=sv at *;clear hc hbk hp hx hgb hps he hpo hatp hbp hix;have hun:undef=Value.tuple #[]:=rfl;unfold CO pG;go_enter Tryz.func141,Tryz.ntmps141
 go_upto_region 1 with fail
 generalize World.alloc _ _=W at *;obtain⟨k0,k1,k2,k3,k4,k5,k6,k7,k8,k9,k10,k11,k12,k13⟩:=HK.out.c14;obtain⟨c0,c1,c2⟩:=HH.out.c3;have LK:=HLK.out W HZ.out;go_upto_region 2 with (at_lookup;refine iX rfl _ _ _ _ rfl rfl rfl LK ?_)
 have bn:Below W.heap.size W (W.alloc (.cells (cZ c).toArray 48)):=bR.alloc lR _;have H6:Hid (aA (W.alloc (.cells (cZ c).toArray 48)) W.heap.size (cZ c)):=aA.new W (cZ c) 48;have HZ1:Hid _:=HZ.out.trans (bn.mono HZ.out.size);have HK1:Hid _:=HK.out.kept (by simp) bn;have HH1:Hid _:=HH.out.kept (by simp) bn;have HR1:Hid _:=HR.out.kept (by simp) bn;clear HZ HK HH HR;generalize (W.alloc (.cells (cZ c).toArray 48))=W1 at *;clear bn LK HLK k0 k1 k2 k3 k4 k5 k6 k7 k8 k9 k10 k11 k12 k13 c0 c1 c2
 cases bd with
 | true=>
  have HX:Hid (ans=(c,true)):=by unfold Hid;rw[HV.out,if_pos rfl]
  obtain⟨y0,y1,y2,y3,y4⟩:=H6.out.c5;obtain⟨z0,z1,z2,z3,z4⟩:=HR1.out.c5;obtain⟨zf0,zf1,zf2,zf3,zf4⟩:=HR1.out.f5;go_wp2_with fail
  refine VB (v:=.tuple #[.agg (cZ c).toArray,.bool true]) (by simp[results,Tryz.results141,go_sem,z0,z1,z2,z3,z4]) rfl (And.intro (by rw[HX.out];rfl) ?_);exact(sCl (sCl (sCl (sCl (sCl HZ1.out hRw) hRw) hRw) hRw) hRw)
 | false=>
  have HV2:Hid (ans=(⟨h.VF,h.addr,h.port,ot,(jH p x.VN h.VF ot h.port).getD 0⟩,(jH p x.VN h.VF ot h.port).isSome)):=by unfold Hid;rw[HV.out,if_neg (by simp)]
  clear HV H6;obtain⟨k0,k1,k2,k3,k4,k5,k6,k7,k8,k9,k10,k11,k12,k13⟩:=HK1.out.c14;obtain⟨c0,c1,c2⟩:=HH1.out.c3;go_wp2_with fail
  refine(HO.out _ HZ1.out).mono ?_;rintro e W2 ⟨rfl,q2⟩;have HZ2:Hid _:=HZ1.out.trans (q2.mono HZ1.out.size);have HK2:Hid _:=HK1.out.kept (by simp) q2;have HH2:Hid _:=HH1.out.kept (by simp) q2;have HR2:Hid _:=HR1.out.kept (by simp) q2;clear HZ1 HK1 HH1 HR1;clear q2 HO k0 k1 k2 k3 k4 k5 k6 k7 k8 k9 k10 k11 k12 k13 c0 c1 c2
  cases mt with
  | true=>
   obtain rfl:ot=oe:=HOS.out rfl;obtain⟨k0,k1,k2,k3,k4,k5,k6,k7,k8,k9,k10,k11,k12,k13⟩:=HK2.out.c14;obtain⟨c0,c1,c2⟩:=HH2.out.c3;go_wp2_with fail
   refine(HF.out _ ot HZ2.out HSZ.out).mono ?_;rintro e W9 ⟨rfl,q9⟩;have HZ9:Hid _:=HZ2.out.trans (q9.mono HZ2.out.size);have HK9:Hid _:=HK2.out.kept (by simp) q9;have HH9:Hid _:=HH2.out.kept (by simp) q9;have HR9:Hid _:=HR2.out.kept (by simp) q9;clear HZ2 HK2 HH2 HR2;clear q9 HF k0 k1 k2 k3 k4 k5 k6 k7 k8 k9 k10 k11 k12 k13 c0 c1 c2;generalize jH p x.VN h.VF ot h.port=ln at *;obtain⟨c0,c1,c2⟩:=HH9.out.c3;obtain⟨z0,z1,z2,z3,z4⟩:=HR9.out.c5;obtain⟨zf0,zf1,zf2,zf3,zf4⟩:=HR9.out.f5;go_wp2_with fail
   refine VB (v:=.tuple #[.agg (gB h.VF h.addr h.port ot (ln.getD 0)).toArray,.bool ln.isSome]) (by simp[results,Tryz.results141,go_sem,z0,z1,z2,z3,z4]) rfl (And.intro (by rw[HV2.out];rfl) ?_);exact(sCl (sCl (sCl (sCl (sCl HZ9.out hRw) hRw) hRw) hRw) hRw)
  | false=>
   obtain rfl:ot=od:=HON.out rfl;go_upto_region 6 with fail
   go_cut [8] (fun v wx=>v=.string ot∧Below W2.heap.size W2 wx)
   case first=>
    rename_i J K2 hJ hK2;clear hun;have HCP:Hid (∀wy,Below W2.drew.heap.size W2.drew wy→aA wy w.heap.size (iM (some ⟨bp,op,none⟩) pc p ba ca bo cb x m1 m2)∧aA wy (w.heap.size+1) (gT h.VF h.addr h.port)∧Below w.heap.size w wy):=fun wy hy=>⟨HK2.out.drew.kept (by simp) hy,HH2.out.drew.kept (by simp) hy,HZ2.out.drew.trans (hy.mono HZ2.out.size)⟩
    refine bJ [32,33,34,35,36,37,38,39,40,41,42,43,44,8] (by kernel_rfl) (by kernel_rfl) ?_;iterate 2 (apply fI.u rfl;(·intro K' a wy ho hd hb hK;simp[aU,aG,aD,Region.binds]at ho hd;go_simp;(try go_bits);exact hK _ _ rfl bQ);dsimp only[nA,cA])
    apply fI.v2
    ·rfl
    ·intro K' a wy ho hd hb hK kz;have q1:=hd ⟨1,.data⟩ (by simp) rfl;simp[aU,aG,aD]at q1;clear hd ho;obtain⟨hk,hh,hbw⟩:=HCP.out wy hb;obtain⟨k0,k1,k2,k3,k4,k5,k6,k7,k8,k9,k10,k11,k12,k13⟩:=hk.c14;obtain⟨c0,c1,c2⟩:=hh.c3;have hpi:=HPI.out wy hbw;have hpi1:wy.cell? ⟨bp,op+ix*1,none⟩=some (.string ot):=by simpa using hpi
     go_simp;try go_bits
     exact kz _ rfl
    (apply fI.u rfl;(·intro K' a wy ho hd hb hK;simp[aU,aG,aD,Region.binds]at ho hd;go_simp;(try go_bits);exact hK _ _ rfl bQ);dsimp only[nA,cA])
    apply fI.v4
    ·rfl
    ·intro K' a wy ho hd hb hK kz;have q3:=hd ⟨3,.data⟩ (by simp) rfl;simp[aU,aG,aD]at q3;clear hd ho;obtain⟨hk,hh,hbw⟩:=HCP.out wy hb;obtain⟨k0,k1,k2,k3,k4,k5,k6,k7,k8,k9,k10,k11,k12,k13⟩:=hk.c14;obtain⟨c0,c1,c2⟩:=hh.c3;have hpi:=HPI.out wy hbw;have hpi1:wy.cell? ⟨bp,op+ix*1,none⟩=some (.string ot):=by simpa using hpi
     go_simp;try go_bits
     exact kz _ rfl
    iterate 3 (apply fI.u rfl;(·intro K' a wy ho hd hb hK;simp[aU,aG,aD,Region.binds]at ho hd;go_simp;first|((try go_bits);exact hK _ _ rfl bQ)|(refine(HSU.out wy).mono ?_;rintro e wz ⟨rfl,hz⟩;exact hK _ _ rfl hz));dsimp only[nA,cA])
    apply fI.v8
    ·rfl
    ·intro K' a wy ho hd hb hK kz;have q7:=hd ⟨7,.data⟩ (by simp) rfl;simp[aU,aG,aD]at q7;clear hd ho;obtain⟨hk,hh,hbw⟩:=HCP.out wy hb;obtain⟨k0,k1,k2,k3,k4,k5,k6,k7,k8,k9,k10,k11,k12,k13⟩:=hk.c14;obtain⟨c0,c1,c2⟩:=hh.c3;have hpi:=HPI.out wy hbw;have hpi1:wy.cell? ⟨bp,op+ix*1,none⟩=some (.string ot):=by simpa using hpi
     go_simp;try go_bits
     exact kz _ rfl
    iterate 3 (apply fI.u rfl;(·intro K' a wy ho hd hb hK;simp[aU,aG,aD,Region.binds]at ho hd;go_simp;(try go_bits);exact hK _ _ rfl bQ);dsimp only[nA,cA])
    apply fI.v12
    ·rfl
    ·intro K' a wy ho hd hb hK kz;have q11:=hd ⟨11,.data⟩ (by simp) rfl;simp[aU,aG,aD]at q11;clear hd ho;obtain⟨hk,hh,hbw⟩:=HCP.out wy hb;obtain⟨k0,k1,k2,k3,k4,k5,k6,k7,k8,k9,k10,k11,k12,k13⟩:=hk.c14;obtain⟨c0,c1,c2⟩:=hh.c3;have hpi:=HPI.out wy hbw;have hpi1:wy.cell? ⟨bp,op+ix*1,none⟩=some (.string ot):=by simpa using hpi
     go_simp;try go_bits
     exact kz _ rfl
    (apply fI.u rfl;(·intro K' a wy ho hd hb hK;simp[aU,aG,aD,Region.binds]at ho hd;go_simp;(try go_bits);exact hK _ _ rfl bQ);dsimp only[nA,cA])
    intro X wz hR hz;simp only[UM,UN,eY,aG]at hR;simp only[aE,hR];clear hR;go_simp;refine hK2 _ _ (hJ _ _ ?_);(repeat apply Exists.intro)
    refine⟨⟨rfl,bR.drew.trans hz⟩,rfl⟩
   case rest=>
   obtain⟨rfl,qc⟩:=hcut;generalize wc=W3 at *;have HZ3:Hid _:=HZ2.out.trans (qc.mono HZ2.out.size);have HK3:Hid _:=HK2.out.kept (by simp) qc;have HH3:Hid _:=HH2.out.kept (by simp) qc;have HR3:Hid _:=HR2.out.kept (by simp) qc;clear HZ2 HK2 HH2 HR2;clear qc;obtain⟨k0,k1,k2,k3,k4,k5,k6,k7,k8,k9,k10,k11,k12,k13⟩:=HK3.out.c14;obtain⟨c0,c1,c2⟩:=HH3.out.c3;go_wp2_with fail
   refine(HF.out _ ot HZ3.out HSZ.out).mono ?_;rintro e W9 ⟨rfl,q9⟩;have HZ9:Hid _:=HZ3.out.trans (q9.mono HZ3.out.size);have HK9:Hid _:=HK3.out.kept (by simp) q9;have HH9:Hid _:=HH3.out.kept (by simp) q9;have HR9:Hid _:=HR3.out.kept (by simp) q9;clear HZ3 HK3 HH3 HR3;clear q9 HF k0 k1 k2 k3 k4 k5 k6 k7 k8 k9 k10 k11 k12 k13 c0 c1 c2;generalize jH p x.VN h.VF ot h.port=ln at *;obtain⟨c0,c1,c2⟩:=HH9.out.c3;obtain⟨z0,z1,z2,z3,z4⟩:=HR9.out.c5;obtain⟨zf0,zf1,zf2,zf3,zf4⟩:=HR9.out.f5;go_wp2_with fail
   refine VB (v:=.tuple #[.agg (gB h.VF h.addr h.port ot (ln.getD 0)).toArray,.bool ln.isSome]) (by simp[results,Tryz.results141,go_sem,z0,z1,z2,z3,z4]) rfl (And.intro (by rw[HV2.out];rfl) ?_);exact(sCl (sCl (sCl (sCl (sCl HZ9.out hRw) hRw) hRw) hRw) hRw)
def SY:Value:=.agg pF.toArray
def kO(w:World)(pa:OA)(pc:Nat)(p:Pl)(ba bo:OA)(ca cb:Nat)(x:Bb)(e:Ending)(w':World):Prop:=Below w.heap.size w w'∧((dA p x=false∧e=.returned (.tuple #[SY,.bool false]))∨(dA p x=true∧∃m1 m2,e=.returned (.tuple #[CO pa pc p ba bo ca cb x m1 m2,.bool true])∧w.heap.size≤m1∧w.heap.size≤m2∧dJ w' m1 m2 x.VN x.VN))
structure pE(w:World)(pa:OA)(pc:Nat)(p:Pl)(ba bo:OA)(ca cb:Nat)(x:Bb)(m1 m2 Y:Nat)(xs ys:List Bd)(wr:World):Prop where
 bx:aA wr (w.heap.size+1) (aX ba ca bo cb x)
 r:aA wr (w.heap.size+1+1) pF
 k:aA wr Y (iM pa pc p ba ca bo cb x m1 m2)
 bk:dJ wr m1 m2 xs ys
 b:Below w.heap.size w wr
 l1:w.heap.size+1+1 < m1
 l2:w.heap.size+1+1 < m2
 n1:Y≠m1
 n2:Y≠m2
section
variable {w:World} {pa:OA} {pc:Nat} {p:Pl} {ba bo:OA} {ca cb:Nat} {x:Bb} {m1 m2 Y:Nat} {xs ys:List Bd} {wr W:World}
theorem pE.kept(h:pE w pa pc p ba bo ca cb x m1 m2 Y xs ys wr)(hb:Below wr.heap.size wr W):pE w pa pc p ba bo ca cb x m1 m2 Y xs ys W :=
 ⟨h.bx.kept (by simp) hb,h.r.kept (by simp) hb,h.k.kept (by simp) hb,h.bk.kept hb,h.b.trans (hb.mono h.b.size),h.l1,h.l2,h.n1,h.n2⟩
theorem pE.put{xs' ys':List Bd}{m:Nat}(h:pE w pa pc p ba bo ca cb x m1 m2 Y xs ys wr)(hm:m=m1∨m=m2)(hg:wr.grownBy W (some m))(hk:dJ W m1 m2 xs' ys'):pE w pa pc p ba bo ca cb x m1 m2 Y xs' ys' W:=by
 have a1:=h.l1;have a2:=h.l2;have a3:=h.n1;have a4:=h.n2;exact⟨h.bx.grown (by simp) hg (by simp;omega),h.r.grown (by simp) hg (by simp;omega),h.k.grown (by simp) hg (by simp;omega),hk,CK h.b hg (by omega) h.b.size,h.l1,h.l2,h.n1,h.n2⟩
end
theorem FW{α:Type}(f:α→Bool)(xs:List α)(i:Nat)(h:i < xs.length)(hf:f xs[i]=true):decide (bD f xs=(i:Int))=!(xs.take i).any f:=by
 cases ha:(xs.take i).any f with
 | false=>rw[nS f xs i h ha hf];simp
 | true=>
  obtain⟨c,hc,hfc⟩:=List.any_eq_true.1 ha;obtain⟨k,hk,hki,rfl⟩:=sM hc;have:bD f xs≠(i:Int):=by
   intro e;unfold bD at e
   cases hx:xs.findIdx? f with
   | none=>
    have:=List.findIdx?_eq_none_iff.1 hx xs[k] (UJ hk);rw[hfc]at this;simp at this
   | some n=>
    rw[hx]at e;obtain⟨hn,hfn,hlt⟩:=List.findIdx?_eq_some_iff_getElem.1 hx;simp only at e;have hni:n=i:=by omega
    subst hni;exact absurd hfc (by simpa using hlt k hki)
  rw[UD this];rfl
theorem DQ(pa:OA)(pc:Nat)(p:Pl)(ba bo:OA)(ca cb:Nat)(x:Bb)(w:World)(hpl:p.VL.length≤1048576)(hpc:p.VL.length≤pc)(hps:∀s∈p.VL,s.size≤1048576)(hbl1:x.VN.length≤1048576)(hbl2:x.VK.length≤1048576)(hgb:∀q∈x.VN,fG q)(hgs:∀s∈x.VK,iI s)(hp:bP cB 1 w pa p.VL)(hx:dC w ba bo x) :
  Calls Tryz.prog 104 #[iK pa pc p,gP ba bo ca cb x] w (kO w pa pc p ba bo ca cb x):=by
 have HZ0:Hid (Below w.heap.size w ((aW (aW w (bG pa pc p) 27) (aX ba ca bo cb x) 31).alloc (.cells pF.toArray 139))):=((bR.alloc lR _).alloc (by simp) _).alloc (by simp;omega) _;have HP:Hid (aA ((aW (aW w (bG pa pc p) 27) (aX ba ca bo cb x) 31).alloc (.cells pF.toArray 139)) w.heap.size (bG pa pc p)):=((aA.new w (bG pa pc p) 27).alloc _).alloc _;have HB:Hid (aA ((aW (aW w (bG pa pc p) 27) (aX ba ca bo cb x) 31).alloc (.cells pF.toArray 139)) (w.heap.size+1) (aX ba ca bo cb x)):=by
  have h:=(aA.new (w.alloc (.cells (bG pa pc p).toArray 27)) (aX ba ca bo cb x) 31).alloc (.cells pF.toArray 139);rw[UC]at h;exact h
 have HR:Hid (aA ((aW (aW w (bG pa pc p) 27) (aX ba ca bo cb x) 31).alloc (.cells pF.toArray 139)) (w.heap.size+1+1) pF):=by
  have h:=aA.new ((aW w (bG pa pc p) 27).alloc (.cells (aX ba ca bo cb x).toArray 31)) pF 139;rw[UC,UC]at h;exact h
 have HSP:Hid (bP cB 1 w pa p.VL):=hp;have HSX:Hid (dC w ba bo x):=hx;have HGB:Hid (∀q∈x.VN,fG q):=hgb;have HGS:Hid (∀s∈x.VK,iI s):=hgs;have HPR:Hid (∀W,Below w.heap.size w W→Cb 132 #[.agg (bG pa pc p).toArray] W (.bool (cU p))):=fun W hW=>AR p pa pc W hpl hpc hps (hp.below hW)
 have HV:Hid (dA p x=(cU p&&decide ((x.VK.length:Int)≤p.most)&&decide (x.VN.length≤x.VK.length)&&jT (lY p x) x.VN x.VN.length&&jT (nJ x) x.VK x.VK.length)):=rfl;obtain⟨ok,hok⟩: ∃y,y=dA p x:=⟨_,rfl⟩;have HOK:Hid (ok=dA p x):=hok;rw[←hok]at HV;clear hok;generalize cU p=po at *;have hun:undef=Value.tuple #[]:=rfl;have hRw:w.heap.size≤w.heap.size+1+1:=by omega
 clear hp hx hgb hgs hps;unfold iK gP;go_enter Tryz.func104,Tryz.ntmps104
 go_upto_region 1 with fail
 generalize World.alloc _ _=W0 at *;obtain⟨k0,k1,k2,k3,k4,k5,k6,k7,k8,k9⟩:=HP.out.c10;go_wp2_with fail
 refine(HPR.out _ HZ0.out).mono ?_;rintro e w1 ⟨rfl,q1⟩;have B1:Hid _:=HZ0.out.trans (q1.mono HZ0.out.size);have P1:Hid _:=HP.out.kept (by simp) q1;have BX1:Hid _:=HB.out.kept (by simp) q1;have R1:Hid _:=HR.out.kept (by simp) q1;clear q1 HP HB HR HZ0 HPR k0 k1 k2 k3 k4 k5 k6 k7 k8 k9;obtain⟨c0,c1⟩:=BX1.out.c2;obtain⟨k0,k1,k2,k3,k4,k5,k6,k7,k8,k9⟩:=P1.out.c10
 cases po with
 | false=>
  obtain⟨z0,z1,z2,z3,z4,z5,z6,z7,z8,z9,z10,z11,z12,z13⟩:=R1.out.c14;obtain⟨zf0,zf1,zf2,zf3,zf4,zf5,zf6,zf7,zf8,zf9,zf10,zf11,zf12,zf13⟩:=R1.out.f14;have HX:Hid (dA p x=false):=by unfold Hid;rw[←HOK.out,HV.out];rfl
  go_wp2_with fail
  refine VB (v:=.tuple #[.agg pF.toArray,.bool false]) (by simp[results,Tryz.results104,go_sem,z0,z1,z2,z3,z4,z5,z6,z7,z8,z9,z10,z11,z12,z13]) rfl (show kO w pa pc p ba bo ca cb x _ _ from And.intro ?_ (.inl ⟨HX.out,rfl⟩));exact(sCl (sCl (sCl (sCl (sCl (sCl (sCl (sCl (sCl (sCl (sCl (sCl (sCl (sCl B1.out hRw) hRw) hRw) hRw) hRw) hRw) hRw) hRw) hRw) hRw) hRw) hRw) hRw) hRw)
 | true=>
 by_cases h1:(x.VK.length:Int)≤p.most
 case neg=>
  have h1':p.most < (x.VK.length:Int):=by omega
  have d1:decide (p.most < (x.VK.length:Int))=true:=UE h1';obtain⟨z0,z1,z2,z3,z4,z5,z6,z7,z8,z9,z10,z11,z12,z13⟩:=R1.out.c14;obtain⟨zf0,zf1,zf2,zf3,zf4,zf5,zf6,zf7,zf8,zf9,zf10,zf11,zf12,zf13⟩:=R1.out.f14;have HX:Hid (dA p x=false):=by unfold Hid;rw[←HOK.out,HV.out];rw[UD h1];rfl
  go_wp2_with fail
  refine VB (v:=.tuple #[.agg pF.toArray,.bool false]) (by simp[results,Tryz.results104,go_sem,z0,z1,z2,z3,z4,z5,z6,z7,z8,z9,z10,z11,z12,z13]) rfl (show kO w pa pc p ba bo ca cb x _ _ from And.intro ?_ (.inl ⟨HX.out,rfl⟩));exact(sCl (sCl (sCl (sCl (sCl (sCl (sCl (sCl (sCl (sCl (sCl (sCl (sCl (sCl B1.out hRw) hRw) hRw) hRw) hRw) hRw) hRw) hRw) hRw) hRw) hRw) hRw) hRw) hRw)
 have h1':¬p.most < (x.VK.length:Int):=by omega
 have d1:decide (p.most < (x.VK.length:Int))=false:=UD h1';by_cases h2:x.VN.length≤x.VK.length
 case neg=>
  have h2':(x.VK.length:Int) < (x.VN.length:Int):=by omega
  have d2:decide ((x.VK.length:Int) < (x.VN.length:Int))=true:=UE h2';obtain⟨z0,z1,z2,z3,z4,z5,z6,z7,z8,z9,z10,z11,z12,z13⟩:=R1.out.c14;obtain⟨zf0,zf1,zf2,zf3,zf4,zf5,zf6,zf7,zf8,zf9,zf10,zf11,zf12,zf13⟩:=R1.out.f14;have HX:Hid (dA p x=false):=by unfold Hid;rw[←HOK.out,HV.out];rw[UD h2];simp
  go_wp2_with fail
  refine VB (v:=.tuple #[.agg pF.toArray,.bool false]) (by simp[results,Tryz.results104,go_sem,z0,z1,z2,z3,z4,z5,z6,z7,z8,z9,z10,z11,z12,z13]) rfl (show kO w pa pc p ba bo ca cb x _ _ from And.intro ?_ (.inl ⟨HX.out,rfl⟩));exact(sCl (sCl (sCl (sCl (sCl (sCl (sCl (sCl (sCl (sCl (sCl (sCl (sCl (sCl B1.out hRw) hRw) hRw) hRw) hRw) hRw) hRw) hRw) hRw) hRw) hRw) hRw) hRw) hRw)
 have h2':¬(x.VK.length:Int) < (x.VN.length:Int):=by omega
 have d2:decide ((x.VK.length:Int) < (x.VN.length:Int))=false:=UD h2';have d3:decide (x.VK.length < x.VN.length)=false:=UD (by omega);have HV2:Hid (ok=(jT (lY p x) x.VN x.VN.length&&jT (nJ x) x.VK x.VK.length)):=by unfold Hid;rw[HV.out,UE h1,UE h2];rfl
 clear HV;have HV:Hid _:=HV2;clear HV2;have hmm1:=run_makeMap (P:=Tryz.prog) 137 w1;have hmm2:=run_makeMap (P:=Tryz.prog) 137 (w1.alloc (.map #[] 0));rw[UC]at hmm2;go_upto_region 4 with fail
 have hlt1:w.heap.size+1+1 < w1.heap.size:=R1.out.lt (by simp);have HST:Hid (pE w pa pc p ba bo ca cb x w1.heap.size (w1.heap.size+1) (w1.heap.size+1+1) [] [] (((w1.alloc (.map #[] 0)).alloc (.map #[] 0)).alloc (.cells (iM pa pc p ba ca bo cb x w1.heap.size (w1.heap.size+1)).toArray 139))):=by
  have bm:Below w1.heap.size w1 ((w1.alloc (.map #[] 0)).alloc (.map #[] 0)):=(bR.alloc lR _).alloc (by simp) _;have b3:Below w1.heap.size w1 (((w1.alloc (.map #[] 0)).alloc (.map #[] 0)).alloc (.cells (iM pa pc p ba ca bo cb x w1.heap.size (w1.heap.size+1)).toArray 139)):=bm.alloc bm.size _;have hk:=aA.new ((w1.alloc (.map #[] 0)).alloc (.map #[] 0)) (iM pa pc p ba ca bo cb x w1.heap.size (w1.heap.size+1)) 139;rw[UC,UC]at hk;exact⟨BX1.out.kept (by simp) b3,R1.out.kept (by simp) b3,hk,dJ.made.kept (bR.alloc lR _),B1.out.trans (b3.mono B1.out.size),hlt1,by omega,by omega,by omega⟩
 clear c0 c1 d1 d2 d3 h1' h2' P1 R1 BX1 hmm1 hmm2 k0 k1 k2 k3 k4 k5 k6 k7 k8 k9;generalize ((w1.alloc (.map #[] 0)).alloc (.map #[] 0)).alloc (.cells (iM pa pc p ba ca bo cb x w1.heap.size (w1.heap.size+1)).toArray 139)=W3 at *;have hm1:w.heap.size≤w1.heap.size:=by omega
 have hm2:w.heap.size≤w1.heap.size+1:=by omega
 generalize hY:w1.heap.size+1+1=Y at *;generalize hm2e:w1.heap.size+1=m2 at *;generalize w1.heap.size=m1 at *;clear hY hm2e hlt1 B1;have c0:=HST.out.bx.cell (j:=0) rfl;go_wp2_with fail
 clear c0;go_loopw [43] (fun iv wr=>∃i:Nat,i≤x.VN.length∧iv=iV i∧jT (lY p x) x.VN i=true∧pE w pa pc p ba bo ca cb x m1 m2 Y (x.VN.take i) (x.VN.take i) wr) (fun iv _=>x.VN.length-(intOf iv).toNat)
 case atStart=>exact⟨0,VC _,rfl,rfl,HST.out⟩
 case round=>
  obtain⟨i,hi,rfl,hn,hS⟩:=hrel;have HN:Hid (jT (lY p x) x.VN i=true):=hn;have HS:Hid (pE w pa pc p ba bo ca cb x m1 m2 Y (x.VN.take i) (x.VN.take i) wr):=hS;clear hn hS HST;generalize wr=w4 at *;by_cases hlt:i < x.VN.length
  ·
   obtain⟨bb,off,rfl,hb,hat⟩:=HSX.out.bd.at hlt;have hA:=(hat.below hb HS.out.b) i hlt;have HST:Hid _:=lW (f:=lY p x) hlt;have HATF:Hid (lY p x (x.VN.take i) x.VN[i]=false→jT (lY p x) x.VN x.VN.length=false):=rY hlt;have hgd:=HGB.out x.VN[i] (UJ hlt);have HTK:Hid (x.VN.take (i+1)=x.VN.take i++[x.VN[i]]):=List.take_succ_eq_append_getElem hlt;obtain⟨q,hq⟩: ∃q,q=x.VN[i]:=⟨_,rfl⟩;rw[←hq]at hA HST HATF HTK hgd;have HGD:Hid (fG q):=hgd;have hltI:(i:Int) < (x.VN.length:Int):=by omega
   obtain⟨c0,c1,c2,c3,c4⟩:=LH hA;clear hA hat hq hgd;have HFI:Hid (∀W,pE w pa pc p (some ⟨bb,off,none⟩) bo ca cb x m1 m2 Y (x.VN.take i) (x.VN.take i) W→Cb 133 #[.agg (iM pa pc p (some ⟨bb,off,none⟩) ca bo cb x m1 m2).toArray,.agg (cZ q).toArray] W (.bool (lY p x (x.VN.take i) q))):=fun W hW=>MG pa pc p (some ⟨bb,off,none⟩) bo ca cb x m1 m2 (x.VN.take i) q W hpl hbl1 hbl2 HGD.out hW.bk (HSP.out.below hW.b) (HSX.out.below hW.b)
   go_upto_region 7 with fail
   have bn:Below w4.heap.size w4 (w4.alloc (.cells (cZ q).toArray 48)):=bR.alloc lR _;have HQ:Hid (aA (w4.alloc (.cells (cZ q).toArray 48)) w4.heap.size (cZ q)):=aA.new w4 (cZ q) 48;have HS5:Hid _:=HS.out.kept bn;generalize (w4.alloc (.cells (cZ q).toArray 48))=W5 at *;have hqm:w4.heap.size≠m1∧w4.heap.size≠m2:=by have:=HS.out.bk.lt;omega
   clear bn HS c0 c1 c2 c3 c4;obtain⟨k0,k1,k2,k3,k4,k5,k6,k7,k8,k9,k10,k11,k12,k13⟩:=HS5.out.k.c14;obtain⟨c0,c1,c2,c3,c4⟩:=HQ.out.c5;generalize w4.heap.size=Bq at *;obtain⟨fb,hfb⟩: ∃y,y=lY p x (x.VN.take i) q:=⟨_,rfl⟩;have HFB:Hid (fb=lY p x (x.VN.take i) q):=hfb;rw[←hfb]at HFI HST HATF;clear hfb;go_wp2_with fail
   refine(HFI.out _ HS5.out).mono ?_;rintro e w6 ⟨rfl,q6⟩;have HS6:Hid _:=HS5.out.kept q6;have HQ6:Hid _:=HQ.out.kept (by simp) q6;clear q6 HS5 HQ HFI k0 k1 k2 k3 k4 k5 k6 k7 k8 k9 k10 k11 k12 k13 c0 c1 c2 c3 c4
   cases fb with
   | false=>
    have HXF:=HATF.out rfl;obtain⟨z0,z1,z2,z3,z4,z5,z6,z7,z8,z9,z10,z11,z12,z13⟩:=HS6.out.r.c14;obtain⟨zf0,zf1,zf2,zf3,zf4,zf5,zf6,zf7,zf8,zf9,zf10,zf11,zf12,zf13⟩:=HS6.out.r.f14;have HX:Hid (dA p x=false):=by unfold Hid;rw[←HOK.out,HV.out];rw[HXF];rfl
    go_wp2_with fail
    refine VB (v:=.tuple #[.agg pF.toArray,.bool false]) (by simp[results,Tryz.results104,go_sem,z0,z1,z2,z3,z4,z5,z6,z7,z8,z9,z10,z11,z12,z13]) rfl (show kO w pa pc p (some ⟨bb,off,none⟩) bo ca cb x _ _ from And.intro ?_ (.inl ⟨HX.out,rfl⟩));exact(sCl (sCl (sCl (sCl (sCl (sCl (sCl (sCl (sCl (sCl (sCl (sCl (sCl (sCl HS6.out.b hRw) hRw) hRw) hRw) hRw) hRw) hRw) hRw) hRw) hRw) hRw) hRw) hRw) hRw)
   | true=>
   have HNN:Hid (jT (lY p x) x.VN (i+1)=true):=by unfold Hid;rw[HST.out,HN.out];rfl
   have HNN:Hid (jT (lY p x) x.VN (i+1)=true):=by unfold Hid;rw[HST.out,HN.out];rfl
   have HNI:Hid ((x.VN.take i).any (fun c=>bB (bO c) (bO q))=false∧(x.VN.take i).any (fun c=>bB (iP c) (iP q))=false):=by
    have h:=HFB.out.symm;unfold lY at h;simp only[UB,Bool.not_eq_true']at h;rw[show (fun c=>bB (bO c) (bO q))=cD q.VF q.inn q.VH from funext fun c=>nE _ _ _ c,show (fun c=>bB (iP c) (iP q))=cV q.VF q.out q.VI from funext fun c=>pX _ _ _ c];exact⟨h.1.1.1.2,h.1.1.2⟩
   clear HFB HST HATF HN;go_upto_region 9 with fail
   go_cut [52] (fun v wx=>pE w pa pc p (some ⟨bb,off,none⟩) bo ca cb x m1 m2 Y (x.VN.take i++[q]) (x.VN.take i) wx∧aA wx Bq (cZ q))
   case first=>
    rename_i J K2 hJ hK2;clear hun;have HCP:Hid (∀wy,Below w6.drew.heap.size w6.drew wy→pE w pa pc p (some ⟨bb,off,none⟩) bo ca cb x m1 m2 Y (x.VN.take i) (x.VN.take i) wy∧aA wy Bq (cZ q)):=fun wy hy=>⟨HS6.out.kept (bR.drew.trans hy),HQ6.out.drew.kept (by simp) hy⟩
    have HHE:Hid (∀W,Cb 53 #[.agg (cZ q).toArray] W (.agg (gT q.VF q.inn q.VH).toArray)):=fun W=>lN q W
    refine aN [52,53,54,55,56] (by kernel_rfl) (by kernel_rfl) ?_;iterate 5 (apply bC.u rfl;(·intro K' a wy ho hd hb hK;simp[aU,aG,aD,Region.binds]at ho hd;obtain⟨hst,hqq⟩:=HCP.out wy hb;have kC:=hst.k.c14;have kC:=hqq.c5;go_simp;first|((try go_bits);exact hK _ _ rfl bQ)|(refine(HHE.out wy).mono ?_;rintro e wz ⟨rfl,hz⟩;exact hK _ _ rfl hz));dsimp only[nA,cA])
    intro X wz hR hz;simp only[UM,UN,eY,aG]at hR;simp only[aE,hR];clear hR;obtain⟨hst,hqq⟩:=HCP.out wz hz;obtain⟨W9,hrun,hbk,hgr⟩:=hst.bk.put1 (q:=q) (wE HGD.out) HNI.out.1;unfold pG gW bO at hrun;intro K10 hK10;with_reducible refine xU _ (.tmp 53) (.tmp 55) (.tmp 56) rfl ?_ ?_ ?_ hrun (hK10 _ _ ?_)
    ·simp[Act.eval,Act.put]
    ·simp[Act.eval,Act.put]
    ·simp[Act.eval,Act.put]
    show Exit.then _ _ _ _ _;refine hK2 _ _ (hJ _ _ ?_);(repeat apply Exists.intro)
    exact⟨⟨hst.put (.inl rfl) hgr hbk,hqq.grown (by simp) hgr (by simp;omega)⟩,rfl⟩
   case rest=>
   obtain⟨hsn,hqn⟩:=hcut;generalize wc=W9 at *;have HS6n:Hid (pE w pa pc p (some ⟨bb,off,none⟩) bo ca cb x m1 m2 Y (x.VN.take i++[q]) (x.VN.take i) W9):=hsn;have HQ6n:Hid (aA W9 Bq (cZ q)):=hqn;clear hsn hqn HS6 HQ6;go_upto_region 10 with fail
   clear hun;have HCP:Hid (∀wy,Below W9.drew.heap.size W9.drew wy→pE w pa pc p (some ⟨bb,off,none⟩) bo ca cb x m1 m2 Y (x.VN.take i++[q]) (x.VN.take i) wy∧aA wy Bq (cZ q)):=fun wy hy=>⟨HS6n.out.kept (bR.drew.trans hy),HQ6n.out.drew.kept (by simp) hy⟩
   have HHE:Hid (∀W,Cb 48 #[.agg (cZ q).toArray] W (.agg (gT q.VF q.out q.VI).toArray)):=fun W=>pW q W
   refine aN [57,58,59,60,61] (by kernel_rfl) (by kernel_rfl) ?_;iterate 5 (apply bC.u rfl;(·intro K' a wy ho hd hb hK;simp[aU,aG,aD,Region.binds]at ho hd;obtain⟨hst,hqq⟩:=HCP.out wy hb;have kC:=hst.k.c14;have kC:=hqq.c5;go_simp;first|((try go_bits);exact hK _ _ rfl bQ)|(refine(HHE.out wy).mono ?_;rintro e wz ⟨rfl,hz⟩;exact hK _ _ rfl hz));dsimp only[nA,cA])
   intro X wz hR hz;simp only[UM,UN,eY,aG]at hR;simp only[aE,hR];clear hR;obtain⟨hst,hqq⟩:=HCP.out wz hz;obtain⟨W9,hrun,hbk,hgr⟩:=hst.bk.put2 (q:=q) (DM HGD.out) HNI.out.2;unfold pG gW iP at hrun;intro K10 hK10;with_reducible refine xU _ (.tmp 58) (.tmp 60) (.tmp 61) rfl ?_ ?_ ?_ hrun (hK10 _ _ ?_)
   ·simp[Act.eval,Act.put]
   ·simp[Act.eval,Act.put]
   ·simp[Act.eval,Act.put]
   have HSF:Hid (pE w pa pc p (some ⟨bb,off,none⟩) bo ca cb x m1 m2 Y (x.VN.take (i+1)) (x.VN.take (i+1)) W9):=by have h:=hst.put (.inr rfl) hgr hbk;rw[←HTK.out]at h;exact h
   clear hst hqq hbk hgr hrun HCP HHE HNI;simp only[fN];go_wp2_with fail
   go_roundw
   case rel=>
    first | exact⟨i+1,by omega,by go_num,HNN.out,HSF.out⟩ | ((repeat apply Exists.intro);exact⟨⟨i+1,by omega,by go_num,HNN.out,HSF.out⟩,rfl⟩)
   case measure=>simp[intOf]<;>omega
  ·
   have hie:i=x.VN.length:=by omega
   have HF1:Hid (jT (lY p x) x.VN x.VN.length=true):=by unfold Hid;have:=HN.out;rw[hie]at this;exact this
   have HSE:Hid (pE w pa pc p ba bo ca cb x m1 m2 Y (x.VN) (x.VN) w4):=by unfold Hid;have:=HS.out;rw[hie,List.take_length]at this;exact this
   have HV3:Hid (ok=jT (nJ x) x.VK x.VK.length):=by unfold Hid;rw[HV.out,HF1.out];rfl
   clear HV HS HN;have HV:Hid _:=HV3;clear HV3 HF1;have hge:¬(i:Int) < (x.VN.length:Int):=by omega
   clear hie hlt;have c1:=HSE.out.bx.cell (j:=1) rfl;go_wp2_with fail
   clear c1;go_loopw [66] (fun iv wr=>∃i:Nat,i≤x.VK.length∧iv=iV i∧jT (nJ x) x.VK i=true∧pE w pa pc p ba bo ca cb x m1 m2 Y (x.VN) (x.VN) wr) (fun iv _=>x.VK.length-(intOf iv).toNat)
   case atStart=>exact⟨0,VC _,rfl,rfl,HSE.out⟩
   case round=>
    obtain⟨k,hk,rfl,hn,hS⟩:=hrel;have HN:Hid (jT (nJ x) x.VK k=true):=hn;have HS:Hid (pE w pa pc p ba bo ca cb x m1 m2 Y (x.VN) (x.VN) wr):=hS;clear hn hS HSE hge hi;generalize wr=v4 at *;by_cases hlt:k < x.VK.length
    ·
     obtain⟨bb,off,rfl,hb,hat⟩:=HSX.out.ss.at hlt;have hA:=(hat.below hb HS.out.b) k hlt;have HST:Hid _:=lW (f:=nJ x) hlt;have HATF:Hid (nJ x (x.VK.take k) x.VK[k]=false→jT (nJ x) x.VK x.VK.length=false):=rY hlt;have hgd:=HGS.out x.VK[k] (UJ hlt);have HFS:Hid (decide (bD (fun q=>dK (eA q) (eA x.VK[k])) x.VK=(k:Int))=!(x.VK.take k).any (fun t=>gZ x.VK[k] t)):=by
      have h:=FW (fun q=>dK (eA q) (eA x.VK[k])) x.VK k hlt (by rw[zG];unfold gZ;simp);rw[show (fun t=>gZ x.VK[k] t)=(fun q=>dK (eA q) (eA x.VK[k])) from funext fun q=>(zG _ _).symm];exact h
     obtain⟨s,hs⟩: ∃s,s=x.VK[k]:=⟨_,rfl⟩;rw[←hs]at hA HST HATF HFS hgd;have HGD:Hid (iI s):=hgd;have hltI:(k:Int) < (x.VK.length:Int):=by omega
     have HOV:Hid (nJ x (x.VK.take k) s=(x.VN.any (cD s.VF s.inn s.VH)&&sP s&&!((x.VK.take k).any fun t=>gZ s t))):=rfl;obtain⟨c0,c1,c2,c3,c4,c5,c6⟩:=NE hA;clear hA hat hs hgd;go_upto_region 15 with fail
     have bn:Below v4.heap.size v4 (v4.alloc (.cells (iE s).toArray 59)):=bR.alloc lR _;have HQ:Hid (aA (v4.alloc (.cells (iE s).toArray 59)) v4.heap.size (iE s)):=aA.new v4 (iE s) 59;have HS5:Hid _:=HS.out.kept bn;generalize (v4.alloc (.cells (iE s).toArray 59))=V5 at *;clear bn HS c0 c1 c2 c3 c4 c5 c6;generalize v4.heap.size=Bq at *;obtain⟨c0,c1,c2,c3,c4,c5,c6⟩:=HQ.out.c7;have HKE:Hid (∀W,Cb 134 #[.agg (iE s).toArray] W (.agg (gB s.VF s.inn s.VH s.peer s.VG).toArray)):=fun W=>nK s W
     go_wp2_with fail
     refine(HKE.out _).mono ?_;rintro e v6 ⟨rfl,q6⟩;have HS6:Hid _:=HS5.out.kept q6;have HQ6:Hid _:=HQ.out.kept (by simp) q6;clear q6 HS5 HQ HKE c0 c1 c2 c3 c4 c5 c6;go_upto_region 16 with fail
     have bn:Below v6.heap.size v6 (v6.alloc (.cells (gB s.VF s.inn s.VH s.peer s.VG).toArray 147)):=bR.alloc lR _;have HE:Hid (aA (v6.alloc (.cells (gB s.VF s.inn s.VH s.peer s.VG).toArray 147)) v6.heap.size (gB s.VF s.inn s.VH s.peer s.VG)):=aA.new v6 (gB s.VF s.inn s.VH s.peer s.VG) 147;have HS7:Hid _:=HS6.out.kept bn;have HQ7:Hid _:=HQ6.out.kept (by simp) bn;generalize (v6.alloc (.cells (gB s.VF s.inn s.VH s.peer s.VG).toArray 147))=V7 at *;clear bn HS6 HQ6;generalize v6.heap.size=Be at *;obtain⟨c,hc⟩: ∃c,c=(x.VN.find? fun q=>bB (bO q) (hH s)).getD lB:=⟨_,rfl⟩;have LK:(Instr.lookup 137 (.map (some m1)) (.agg (gT s.VF s.inn s.VH).toArray) true).run Tryz.prog V7=.ok (.tuple #[.agg (cZ c).toArray,.bool (x.VN.any (cD s.VF s.inn s.VH))]) V7:=by
      have h:=HS7.out.bk.look1 (e:=hH s) (NG HGD.out);rw[iZ,←hc,show (fun q=>bB (bO q) (hH s))=cD s.VF s.inn s.VH from funext fun c=>nE _ _ _ c]at h;exact h
     clear hc;obtain⟨k0,k1,k2,k3,k4,k5,k6,k7,k8,k9,k10,k11,k12,k13⟩:=HS7.out.k.c14;obtain⟨c0,c1,c2,c3,c4⟩:=HE.out.c5;generalize x.VN.any (cD s.VF s.inn s.VH)=t1 at *;go_upto_region 17 with (at_lookup;refine iX rfl _ _ _ _ rfl rfl rfl LK ?_)
     have bn:Below V7.heap.size V7 (V7.alloc (.cells (cZ c).toArray 48)):=bR.alloc lR _;have HS8:Hid _:=HS7.out.kept bn;have HQ8:Hid _:=HQ7.out.kept (by simp) bn;have HE8:Hid _:=HE.out.kept (by simp) bn;generalize V7.alloc (.cells (cZ c).toArray 48)=V8 at *;clear bn HS7 HQ7 HE LK k0 k1 k2 k3 k4 k5 k6 k7 k8 k9 k10 k11 k12 k13 c0 c1 c2 c3 c4;have HSR:Hid (∀W,Cb 135 #[.agg (iE s).toArray] W (.bool (sP s))):=fun W=>yK s W HGD.out.2.1
     have HAT:Hid (∀W,Below w.heap.size w W→Cb 107 #[.slice (some ⟨bb,off,none⟩) x.VK.length cb,.agg (gB s.VF s.inn s.VH s.peer s.VG).toArray] W (iV (bD (fun q=>dK (eA q) (eA s)) x.VK))):=fun W hW=>wZ (eA s) x.VK _ cb W hbl2 (HSX.out.ss.below hW)
     obtain⟨hf1,hf2⟩:=sF (fun q=>dK (eA q) (eA s)) x.VK;generalize bD (fun q=>dK (eA q) (eA s)) x.VK=fi at *;generalize sP s=t2 at *;generalize (x.VK.take k).any (fun t=>gZ s t)=t3 at *
     cases t1 with
     | false=>
      have HXF:=HATF.out (by rw[HOV.out];rfl);obtain⟨z0,z1,z2,z3,z4,z5,z6,z7,z8,z9,z10,z11,z12,z13⟩:=HS8.out.r.c14;obtain⟨zf0,zf1,zf2,zf3,zf4,zf5,zf6,zf7,zf8,zf9,zf10,zf11,zf12,zf13⟩:=HS8.out.r.f14;have HX:Hid (dA p x=false):=by unfold Hid;rw[←HOK.out,HV.out];exact HXF
      go_wp2_with fail
      refine VB (v:=.tuple #[.agg pF.toArray,.bool false]) (by simp[results,Tryz.results104,go_sem,z0,z1,z2,z3,z4,z5,z6,z7,z8,z9,z10,z11,z12,z13]) rfl (show kO w pa pc p ba (some ⟨bb,off,none⟩) ca cb x _ _ from And.intro ?_ (.inl ⟨HX.out,rfl⟩));exact(sCl (sCl (sCl (sCl (sCl (sCl (sCl (sCl (sCl (sCl (sCl (sCl (sCl (sCl HS8.out.b hRw) hRw) hRw) hRw) hRw) hRw) hRw) hRw) hRw) hRw) hRw) hRw) hRw) hRw)
     | true=>
     obtain⟨c0,c1,c2,c3,c4,c5,c6⟩:=HQ8.out.c7;go_wp2_with fail
     refine(HSR.out _).mono ?_;rintro e v9 ⟨rfl,q9⟩;have HS9:Hid _:=HS8.out.kept q9;have HE9:Hid _:=HE8.out.kept (by simp) q9;clear q9 HS8 HQ8 HE8 HSR c0 c1 c2 c3 c4 c5 c6
     cases t2 with
     | false=>
      have HXF:=HATF.out (by rw[HOV.out];rfl);obtain⟨z0,z1,z2,z3,z4,z5,z6,z7,z8,z9,z10,z11,z12,z13⟩:=HS9.out.r.c14;obtain⟨zf0,zf1,zf2,zf3,zf4,zf5,zf6,zf7,zf8,zf9,zf10,zf11,zf12,zf13⟩:=HS9.out.r.f14;have HX:Hid (dA p x=false):=by unfold Hid;rw[←HOK.out,HV.out];exact HXF
      go_wp2_with fail
      refine VB (v:=.tuple #[.agg pF.toArray,.bool false]) (by simp[results,Tryz.results104,go_sem,z0,z1,z2,z3,z4,z5,z6,z7,z8,z9,z10,z11,z12,z13]) rfl (show kO w pa pc p ba (some ⟨bb,off,none⟩) ca cb x _ _ from And.intro ?_ (.inl ⟨HX.out,rfl⟩));exact(sCl (sCl (sCl (sCl (sCl (sCl (sCl (sCl (sCl (sCl (sCl (sCl (sCl (sCl HS9.out.b hRw) hRw) hRw) hRw) hRw) hRw) hRw) hRw) hRw) hRw) hRw) hRw) hRw) hRw)
     | true=>
     obtain⟨c0,c1,c2,c3,c4⟩:=HE9.out.c5;have x1:=HS9.out.bx.cell (j:=1) rfl;go_wp2_with fail
     refine(HAT.out _ HS9.out.b).mono ?_;rintro e v10 ⟨rfl,q10⟩;have HS10:Hid _:=HS9.out.kept q10;clear q10 HS9 HE9 HAT x1 c0 c1 c2 c3 c4;by_cases he:fi=(k:Int)
     case neg=>
      have d1:(fi != (k:Int))=true:=by simp[he]
      have HXF:=HATF.out (by rw[HOV.out,←HFS.out,UD he];rfl);clear he;obtain⟨z0,z1,z2,z3,z4,z5,z6,z7,z8,z9,z10,z11,z12,z13⟩:=HS10.out.r.c14;obtain⟨zf0,zf1,zf2,zf3,zf4,zf5,zf6,zf7,zf8,zf9,zf10,zf11,zf12,zf13⟩:=HS10.out.r.f14;have HX:Hid (dA p x=false):=by unfold Hid;rw[←HOK.out,HV.out];exact HXF
      go_wp2_with fail
      refine VB (v:=.tuple #[.agg pF.toArray,.bool false]) (by simp[results,Tryz.results104,go_sem,z0,z1,z2,z3,z4,z5,z6,z7,z8,z9,z10,z11,z12,z13]) rfl (show kO w pa pc p ba (some ⟨bb,off,none⟩) ca cb x _ _ from And.intro ?_ (.inl ⟨HX.out,rfl⟩));exact(sCl (sCl (sCl (sCl (sCl (sCl (sCl (sCl (sCl (sCl (sCl (sCl (sCl (sCl HS10.out.b hRw) hRw) hRw) hRw) hRw) hRw) hRw) hRw) hRw) hRw) hRw) hRw) hRw) hRw)
     have d1:(fi != (k:Int))=false:=by simp[he]
     have HNN:Hid (jT (nJ x) x.VK (k+1)=true):=by unfold Hid;rw[HST.out,HN.out,HOV.out,←HFS.out,UE he];rfl
     clear he;go_wp2_with fail
     go_roundw
     case rel=>exact⟨k+1,by omega,by go_num,HNN.out,HS10.out⟩
     case measure=>simp[intOf];omega
    ·
     have hie:k=x.VK.length:=by omega
     have HX:Hid (dA p x=true):=by unfold Hid;rw[←HOK.out,HV.out];have:=HN.out;rw[hie]at this;exact this
     have hge:¬(k:Int) < (x.VK.length:Int):=by omega
     clear hie hlt HN;obtain⟨z0,z1,z2,z3,z4,z5,z6,z7,z8,z9,z10,z11,z12,z13⟩:=HS.out.r.c14;obtain⟨zf0,zf1,zf2,zf3,zf4,zf5,zf6,zf7,zf8,zf9,zf10,zf11,zf12,zf13⟩:=HS.out.r.f14;obtain⟨k0,k1,k2,k3,k4,k5,k6,k7,k8,k9,k10,k11,k12,k13⟩:=HS.out.k.c14;go_wp2_with fail
     have HBE:Hid (dJ ((sW (sW (sW (sW (sW (sW (sW (sW (sW (sW (sW (sW (sW v4 (w.heap.size+1+1) 0 (.slice pa p.VL.length pc)) (w.heap.size+1+1) 1 (iV p.low)) (w.heap.size+1+1) 2 (iV p.high)) (w.heap.size+1+1) 3 (iV p.most)) (w.heap.size+1+1) 4 (iV p.filter)) (w.heap.size+1+1) 5 (iV p.lv.udp)) (w.heap.size+1+1) 6 (iV p.lv.echo)) (w.heap.size+1+1) 7 (iV p.lv.opening)) (w.heap.size+1+1) 8 (iV p.lv.opn)) (w.heap.size+1+1) 9 (iV p.lv.closing)) (w.heap.size+1+1) 10 (.slice ba x.VN.length ca)) (w.heap.size+1+1) 11 (.slice bo x.VK.length cb)) (w.heap.size+1+1) 12 (.map (some m1))).setCell ⟨w.heap.size+1+1,13,none⟩ (.map (some m2))) m1 m2 x.VN x.VN):=by
      have a1:=HS.out.l1;have a2:=HS.out.l2;obtain⟨M1,M2,hM⟩:=HS.out.bk;have hg:v4.grownBy ((sW (sW (sW (sW (sW (sW (sW (sW (sW (sW (sW (sW (sW v4 (w.heap.size+1+1) 0 (.slice pa p.VL.length pc)) (w.heap.size+1+1) 1 (iV p.low)) (w.heap.size+1+1) 2 (iV p.high)) (w.heap.size+1+1) 3 (iV p.most)) (w.heap.size+1+1) 4 (iV p.filter)) (w.heap.size+1+1) 5 (iV p.lv.udp)) (w.heap.size+1+1) 6 (iV p.lv.echo)) (w.heap.size+1+1) 7 (iV p.lv.opening)) (w.heap.size+1+1) 8 (iV p.lv.opn)) (w.heap.size+1+1) 9 (iV p.lv.closing)) (w.heap.size+1+1) 10 (.slice ba x.VN.length ca)) (w.heap.size+1+1) 11 (.slice bo x.VK.length cb)) (w.heap.size+1+1) 12 (.map (some m1))).setCell ⟨w.heap.size+1+1,13,none⟩ (.map (some m2))) (some (w.heap.size+1+1)):=aB (aB (aB (aB (aB (aB (aB (aB (aB (aB (aB (aB (aB (aB (World.grownBy.refl _ _) _) _) _) _) _) _) _) _) _) _) _) _) _) _;exact⟨M1,M2,hM.h1.grown hg (by simp;omega),hM.h2.grown hg (by simp;omega),hM.v1,hM.v2,hM.ne⟩
     refine VB (v:=.tuple #[.agg (iM pa pc p ba ca bo cb x m1 m2).toArray,.bool true]) (by simp[results,Tryz.results104,go_sem,z0,z1,z2,z3,z4,z5,z6,z7,z8,z9,z10,z11,z12,z13]) rfl (show kO w pa pc p ba bo ca cb x _ _ from And.intro ?_ (.inr ⟨HX.out,m1,m2,rfl,hm1,hm2,HBE.out⟩));exact(sCl (sCl (sCl (sCl (sCl (sCl (sCl (sCl (sCl (sCl (sCl (sCl (sCl (sCl HS.out.b hRw) hRw) hRw) hRw) hRw) hRw) hRw) hRw) hRw) hRw) hRw) hRw) hRw) hRw)
theorem DF(pa:OA)(pc:Nat)(p:Pl)(ba bo:OA)(ca cb:Nat)(x:Bb)(w:World)(hpl:p.VL.length≤1048576)(hpc:p.VL.length≤pc)(hps:∀s∈p.VL,s.size≤1048576)(hbl1:x.VN.length≤1048576)(hbl2:x.VK.length≤1048576)(hgb:∀q∈x.VN,fG q)(hgs:∀s∈x.VK,iI s)(hp:bP cB 1 w pa p.VL)(hx:dC w ba bo x) :
  Cb 85 #[iK pa pc p,gP ba bo ca cb x] w (.bool (fA p x)):=by
 have HZ0:Hid (Below w.heap.size w ((aW w (bG pa pc p) 27).alloc (.cells (aX ba ca bo cb x).toArray 31))):=(bR.alloc lR _).alloc (by simp) _;have HP:aA ((aW w (bG pa pc p) 27).alloc (.cells (aX ba ca bo cb x).toArray 31)) w.heap.size (bG pa pc p):=(aA.new w (bG pa pc p) 27).alloc _;have HB:aA ((aW w (bG pa pc p) 27).alloc (.cells (aX ba ca bo cb x).toArray 31)) (w.heap.size+1) (aX ba ca bo cb x):=by
  have h:=aA.new (w.alloc (.cells (bG pa pc p).toArray 27)) (aX ba ca bo cb x) 31;rw[UC]at h;exact h
 have HOP:Hid (∀W,Below w.heap.size w W→Calls Tryz.prog 104 #[.agg (bG pa pc p).toArray,.agg (aX ba ca bo cb x).toArray] W (kO W pa pc p ba bo ca cb x)):=fun W hW=>DQ pa pc p ba bo ca cb x W hpl hpc hps hbl1 hbl2 hgb hgs (hp.below hW) (hx.below hW)
 have HV:Hid (dA p x=fA p x):=mT p x;clear hp hx hgb hgs hps;unfold iK gP;go_enter Tryz.func85,Tryz.ntmps85
 go_upto_region 1 with fail
 generalize World.alloc _ _=W0 at *;obtain⟨k0,k1,k2,k3,k4,k5,k6,k7,k8,k9⟩:=HP.c10;obtain⟨c0,c1⟩:=HB.c2;clear HP HB;go_wp2_with fail
 refine(HOP.out _ HZ0.out).mono ?_;rintro e w1 ⟨q1,h⟩;have B1:Hid _:=HZ0.out.trans (q1.mono HZ0.out.size);clear q1 HZ0 HOP k0 k1 k2 k3 k4 k5 k6 k7 k8 k9 c0 c1;rcases h with ⟨hx,rfl⟩|⟨hx,m1,m2,rfl,hm1,hm2,hbk⟩
 ·have HX:Hid (fA p x=false):=by unfold Hid;rw[←HV.out];exact hx
  unfold SY;clear hx;go_wp2_with fail
  go_ret;exact⟨aC HX.out.symm,B1.out.alloc B1.out.size _⟩
 ·have HX:Hid (fA p x=true):=by unfold Hid;rw[←HV.out];exact hx
  unfold CO;clear hx hbk;go_wp2_with fail
  go_ret;exact⟨aC HX.out.symm,B1.out.alloc B1.out.size _⟩
end Go.Proofs.YtdkepkaflielhaaGreatDoor
