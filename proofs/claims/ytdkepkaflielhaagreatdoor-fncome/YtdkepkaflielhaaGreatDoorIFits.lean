import Derived.Test.YtdkepkaflielhaaGreatDoorSz
import Derived.Test.YtdkepkaflielhaaGreatDoorAb
import Derived.Test.YtdkepkaflielhaaGreatDoorBook
import Derived.Test.YtdkepkaflielhaaGreatDoorIPool
import Derived.Test.YtdkepkaflielhaaGreatDoorGrowW
set_option linter.unusedVariables false
set_option linter.unusedSimpArgs false
set_option maxRecDepth 100000
set_option maxHeartbeats 8000000
namespace Go.Proofs.YtdkepkaflielhaaGreatDoor
open Go.RowKit Go.PlainAid
theorem lends_any (pa:Option Addr) (pc:Nat) (p:Pl) (ba bo:Option Addr) (ca cb:Nat) (x:Bb) (m1 m2:Nat) (port:Int) (w:World) :
  Cb 165 #[bkC pa pc p ba bo ca cb x m1 m2,iV port] w (.bool (isIn port p.low p.high)):=by
 have HZ:Hid (Below w.z w (w.alloc (.cells (KkV pa pc p ba ca bo cb x m1 m2).toArray 139))):=bR.alloc lR _;have HK:HoldsL (w.alloc (.cells (KkV pa pc p ba ca bo cb x m1 m2).toArray 139)) w.z (KkV pa pc p ba ca bo cb x m1 m2):=HoldsL.new w (KkV pa pc p ba ca bo cb x m1 m2) 139;have HV:Hid (isIn port p.low p.high=(decide (p.low≤port)&&decide (port≤p.high))):=rfl;generalize isIn port p.low p.high=ans at *;have hun:undef=Value.tuple #[]:=rfl;unfold bkC;go_enter Tryz.func165,Tryz.ntmps165
 go_upto_region 1 with fail
 generalize (w.alloc (.cells (KkV pa pc p ba ca bo cb x m1 m2).toArray 139))=W at *;obtain ⟨-,k1,k2⟩:=HK.c3;clear HK;by_cases h1:p.low≤port
 case neg =>
  have HX:Hid (ans=false):=by unfold Hid; rw [HV.out,decide_eq_false h1]; rfl
  have d1:decide (p.low≤port)=false:=decide_eq_false h1;go_wp2_with fail
  go_ret;exact ⟨ret_bool HX.out.symm,HZ.out⟩
 have d1:decide (p.low≤port)=true:=decide_eq_true h1;have HX:Hid (ans=decide (port≤p.high)):=by unfold Hid; rw [HV.out,decide_eq_true h1]; rfl
 go_wp2_with fail
 go_ret;exact ⟨ret_bool HX.out.symm,HZ.out⟩
theorem fits_any (pa:Option Addr) (pc:Nat) (p:Pl) (ba bo:Option Addr) (ca cb:Nat) (x:Bb) (m1 m2:Nat) (ys:List Bd) (q:Bd) (w:World) (hpl:p.addrs.length≤1048576) (hbl1:x.binds.length≤1048576) (hbl2:x.sess.length≤1048576) (hq:BdGood q) (hbk:BookAt w m1 m2 ys ys) (hp:SlIs strL1 1 w pa p.addrs) (hx:BbIs w ba bo x) :
  Cb 133 #[bkC pa pc p ba bo ca cb x m1 m2,bdC q] w (.bool (fitB p x ys q)):=by
 have HZ:Hid (Below w.z w ((aW w (KkV pa pc p ba ca bo cb x m1 m2) 139).alloc (.cells (BdV q).toArray 48))):=(bR.alloc lR _).alloc (by simp) _;have HK:Hid (HoldsL ((aW w (KkV pa pc p ba ca bo cb x m1 m2) 139).alloc (.cells (BdV q).toArray 48)) w.z (KkV pa pc p ba ca bo cb x m1 m2)):=(HoldsL.new w (KkV pa pc p ba ca bo cb x m1 m2) 139).alloc _;have HQ:Hid (HoldsL ((aW w (KkV pa pc p ba ca bo cb x m1 m2) 139).alloc (.cells (BdV q).toArray 48)) (w.z+1) (bdL q)):=by
  have h:=HoldsL.new (w.alloc (.cells (KkV pa pc p ba ca bo cb x m1 m2).toArray 139)) (bdL q) 48;rw [World.size_alloc] at h; exact h
 have HBK:Hid (BookAt w m1 m2 ys ys):=hbk;have HG:Hid (BdGood q):=hq;have HV:Hid (fitB p x ys q=(protoB q.proto&&addrOk q.inn&&isW q.inPort&&inL p.addrs q.out&&isIn q.outPort p.low p.high&&!(ys.any (ofIn q.proto q.inn q.inPort))&&!(ys.any (ofOut q.proto q.out q.outPort))&&decide ((outIn x.binds ⟨#[]⟩ q.inn).toList=q.out.toList)&&x.sess.any (hasS q))):=rfl;have HH:Hid (∀ W,Cb 53 #[.agg (BdV q).toArray] W (.agg (EnV q.proto q.inn q.inPort).toArray)):=fun W=>hostEnd_any q W
 have HL:Hid (∀ W,Cb 48 #[.agg (BdV q).toArray] W (.agg (EnV q.proto q.out q.outPort).toArray)):=fun W=>lentEnd_any q W
 obtain ⟨c1,hc1⟩ : ∃ c,c=(ys.find? fun c=>sameEn (hostE c) (hostE q)).getD bdZ:=⟨_,rfl⟩;obtain ⟨c2,hc2⟩ : ∃ c,c=(ys.find? fun c=>sameEn (lentE c) (lentE q)).getD bdZ:=⟨_,rfl⟩;have HK1:Hid (∀ W,Below w.z w W→(Instr.lookup 137 (.map (some m1)) (.agg (EnV q.proto q.inn q.inPort).toArray) true).run Tryz.prog W=.ok (.tuple #[.agg (BdV c1).toArray,.bool (ys.any (ofIn q.proto q.inn q.inPort))]) W):=fun W hW=>by
  have h:=(hbk.kept hW).look1 (hostE_in hq);rw [find_some_any,← hc1,show (fun c=>sameEn (hostE c) (hostE q))=ofIn q.proto q.inn q.inPort from funext fun c=>host_in _ _ _ c] at h;exact h
 have HK2:Hid (∀ W,Below w.z w W→(Instr.lookup 137 (.map (some m2)) (.agg (EnV q.proto q.out q.outPort).toArray) true).run Tryz.prog W=.ok (.tuple #[.agg (BdV c2).toArray,.bool (ys.any (ofOut q.proto q.out q.outPort))]) W):=fun W hW=>by
  have h:=(hbk.kept hW).look2 (lentE_in hq);rw [find_some_any,← hc2,show (fun c=>sameEn (lentE c) (lentE q))=ofOut q.proto q.out q.outPort from funext fun c=>lent_out _ _ _ c] at h;exact h
 have HO:Hid (∀ W,Below w.z w W→Cb 164 #[.slice ba x.binds.length ca,.string q.inn] W (.tuple #[.string (outIn x.binds ⟨#[]⟩ q.inn),.bool (x.binds.find? (ofHost q.inn)).isSome])):=fun W hW=>outOf_any q.inn x.binds ba ca W hbl1 (hx.bd.below hW)
 have HB:Hid (∀ W,Cw 136 #[iV q.proto] W (.bool (protoB q.proto))):=fun W=>isBound_any _ W
 have HA:Hid (∀ W,Cw 129 #[.string q.inn] W (.bool (addrOk q.inn))):=fun W=>implAddrRight_any q.inn W
 have HW:Hid (∀ W,Cw 122 #[iV q.inPort] W (.bool (isW q.inPort))):=fun W=>implWordIs_any _ W
 have HC:Hid (∀ W,Below w.z w W→Cb 96 #[.slice pa p.addrs.length pc,.string q.out] W (.bool (inL p.addrs q.out))):=fun W hW=>strHas_any p.addrs q.out pa pc W hpl (hp.below hW)
 have HN:Hid (∀ W,Cb 165 #[.agg (KkV pa pc p ba ca bo cb x m1 m2).toArray,iV q.outPort] W (.bool (isIn q.outPort p.low p.high))):=fun W=>lends_any pa pc p ba bo ca cb x m1 m2 q.outPort W
 have HS:Hid (∀ W,Below w.z w W→Cb 166 #[.slice bo x.sess.length cb,.agg (BdV q).toArray] W (.bool (x.sess.any (hasS q)))):=fun W hW=>hasSess_any q x.sess bo cb W hbl2 (hx.ss.below hW)
 generalize fitB p x ys q=ans at *;generalize ys.any (ofIn q.proto q.inn q.inPort)=bh at *;generalize ys.any (ofOut q.proto q.out q.outPort)=bl at *;generalize outIn x.binds ⟨#[]⟩ q.inn=ot at *;generalize (x.binds.find? (ofHost q.inn)).isSome=fs at *;generalize protoB q.proto=t1 at *;generalize addrOk q.inn=t2 at *;generalize isW q.inPort=t3 at *;generalize inL p.addrs q.out=t4 at *;generalize isIn q.outPort p.low p.high=t5 at *;generalize x.sess.any (hasS q)=t9 at *;clear hc1 hc2 hbk hp hx hq;unfold bkC bdC;go_enter Tryz.func133,Tryz.ntmps133
 go_upto_region 1 with fail
 generalize World.alloc _ _=W at *;go_upto_region 1 with fail
 go_cut [6] (fun v wx=>v=.bool bh∧Below W.heap.size W wx)
 case first =>
  rename_i J K2 hJ hK2;have HCP:Hid (∀ wy,Below W.drew.heap.size W.drew wy→HoldsL wy w.z (KkV pa pc p ba ca bo cb x m1 m2)∧HoldsL wy (w.z+1) (bdL q)∧Below w.z w wy):=fun wy hy=>⟨HK.out.drew.kept (by simp) hy,HQ.out.drew.kept (by simp [bdL]) hy,HZ.out.drew.trans (hy.mono HZ.out.size)⟩
  refine wp_region_growW [12,13,14,15,16,11,17,18,5] 7 _ _ _ (by kernel_rfl) (by kernel_rfl) rfl rfl rfl ?_;refine GChW.val (n:=0) (fun v=>[IsV v]) (fun _=>rfl) rfl ?_;apply Exists.intro;refine And.intro ?_ ?_
  ·intro K' a wy ho hd hb hK;rw [wN rfl];have o2:=ho 2 (by decide);simp [slot] at o2;clear hd ho;go_simp;try go_bits
   exact hK _ _ rfl bR
  refine GChW.val (n:=1) (fun v=>[_,IsV v]) (fun _=>rfl) rfl ?_;apply Exists.intro;refine And.intro ?_ ?_
  ·intro K' a wy ho hd hb hK;rw [wN rfl];have q0:=hd ⟨0,.data⟩ (by simp) rfl;simp [rAt,IsV,slot] at q0;clear hd ho;obtain ⟨hk,hq,hbw⟩:=HCP.out wy hb;obtain ⟨k0,k1,k2,k3,k4,k5,k6,k7,k8,k9,k10,k11,k12,k13⟩:=hk.c14;obtain ⟨c0,c1,c2,c3,c4⟩:=hq.c5;go_simp;try go_bits
   exact hK _ _ rfl bR
  refine GChW.val (n:=2) (fun v=>[_,_,IsV v]) (fun _=>rfl) rfl ?_;apply Exists.intro;refine And.intro ?_ ?_
  ·intro K' a wy ho hd hb hK;rw [wN rfl];have o3:=ho 3 (by decide);simp [slot] at o3;clear hd ho;obtain ⟨hk,hq,hbw⟩:=HCP.out wy hb;obtain ⟨k0,k1,k2,k3,k4,k5,k6,k7,k8,k9,k10,k11,k12,k13⟩:=hk.c14;obtain ⟨c0,c1,c2,c3,c4⟩:=hq.c5;go_simp;try go_bits
   exact hK _ _ rfl bR
  refine GChW.val (n:=3) (fun v=>[_,_,_,IsV v]) (fun _=>rfl) rfl ?_;apply Exists.intro;refine And.intro ?_ ?_
  ·intro K' a wy ho hd hb hK;rw [wN rfl];have q2:=hd ⟨2,.data⟩ (by simp) rfl;simp [rAt,IsV,slot] at q2;clear hd ho;go_simp;refine (HH.out wy).mono ?_;rintro e wz ⟨rfl,hz⟩;exact hK _ _ rfl hz
  refine GChW.val (n:=4) (fun v=>[_,_,_,_,IsV v]) (fun _=>rfl) rfl ?_;apply Exists.intro;refine And.intro ?_ ?_
  ·intro K' a wy ho hd hb hK;rw [wN rfl];have q1:=hd ⟨1,.data⟩ (by simp) rfl;have q3:=hd ⟨3,.data⟩ (by simp) rfl;simp [rAt,IsV,slot] at q1 q3;clear hd ho;refine wp_look_val _ (.tmp 13) (.tmp 15) true rfl (by simp [Act.eval,slot,q1]) (by simp [Act.eval,slot,q3]) (HK1.out wy (HCP.out wy hb).2.2) (hK _ _ rfl bR)
  refine GChW.val (n:=5) (fun v=>[_,_,_,_,_,IsV v]) (fun _=>rfl) rfl ?_;apply Exists.intro;refine And.intro ?_ ?_
  ·intro K' a wy ho hd hb hK;rw [wN rfl];have q4:=hd ⟨4,.data⟩ (by simp) rfl;simp [rAt,IsV,slot] at q4;clear hd ho;go_simp;try go_bits
   exact hK _ _ rfl bR
  refine GChW.val (n:=6) (fun v=>[_,_,_,_,_,_,IsV v]) (fun _=>rfl) rfl ?_;apply Exists.intro;refine And.intro ?_ ?_
  ·intro K' a wy ho hd hb hK;rw [wN rfl];have q5:=hd ⟨5,.data⟩ (by simp) rfl;simp [rAt,IsV,slot] at q5;clear hd ho;go_simp;try go_bits
   exact hK _ _ rfl bR
  refine GChW.val (n:=7) (fun v=>[_,_,_,_,_,_,_,IsV v]) (fun _=>rfl) rfl ?_;apply Exists.intro;refine And.intro ?_ ?_
  ·intro K' a wy ho hd hb hK;rw [wN rfl];have q5:=hd ⟨5,.data⟩ (by simp) rfl;simp [rAt,IsV,slot] at q5;clear hd ho;go_simp;try go_bits
   exact hK _ _ rfl bR
  refine GChW.rel (n:=8) (IsZd W.drew.heap.size) (stable_isZd _) [_,_,_,_,_,_,_,_,IsZd W.drew.heap.size] rfl rfl ?_ ?_
  ·intro K' a wy ho hd hb hK;rw [wN rfl];clear hd ho;go_simp;exact hK _ _ ⟨wy.heap.size,rfl,hb.size,HoldsL.new wy (bdL bdZ) 48⟩ (bR.alloc lR _)
  refine ⟨?_,?_⟩
  ·intro X wz hR hz;obtain ⟨x0,x1,x2,x3,x4,x5,x6,x7,x8,-⟩:=hR;obtain ⟨g8,e8,b8,z8⟩:=x8;simp only [IsV] at x0 x1 x2 x3 x4 x5 x6 x7;simp only [putsFrom,x0,x1,x2,x3,x4,x5,x6,x7,e8];clear x0 x1 x2 x3 x4 x5 x6 x7;have z0:=z8.cell (j:=0) rfl;have zf0:=z8.free (j:=0) (by simp [bdL]);have z1:=z8.cell (j:=1) rfl;have zf1:=z8.free (j:=1) (by simp [bdL]);have z2:=z8.cell (j:=2) rfl;have zf2:=z8.free (j:=2) (by simp [bdL]);have z3:=z8.cell (j:=3) rfl;have zf3:=z8.free (j:=3) (by simp [bdL]);have z4:=z8.cell (j:=4) rfl;have zf4:=z8.free (j:=4) (by simp [bdL]);have hz0:Below W.heap.size W wz:=bR.drew.trans hz;have b8':W.heap.size≤g8:=b8;have HB6:Hid (∀ v0 v1 v2 v3 v4,Below W.heap.size W ((sW (sW (sW (sW wz g8 0 v0) g8 1 v1) g8 2 v2) g8 3 v3).setCell ⟨g8,4,none⟩ v4)):=fun v0 v1 v2 v3 v4=>((((hz0.setCell (p:=⟨g8,0,none⟩) b8' v0).setCell (p:=⟨g8,1,none⟩) b8' v1).setCell (p:=⟨g8,2,none⟩) b8' v2).setCell (p:=⟨g8,3,none⟩) b8' v3).setCell (p:=⟨g8,4,none⟩) b8' v4
   clear z8 b8 b8' hz hz0;intro K10 hK10;go_simp;refine hK10 _ _ ?_;intro K11 hK11;go_simp;refine hK11 _ _ ?_;show Exit.then _ _ _ _ _;refine hK2 _ _ (hJ _ _ ?_);(repeat apply Exists.intro)
   exact ⟨⟨rfl,HB6.out _ _ _ _ _⟩,rfl⟩
  ·intro X wz hR hz;obtain ⟨x0,x1,x2,x3,x4,x5,x6,x7,x8,-⟩:=hR;obtain ⟨g8,e8,b8,z8⟩:=x8;simp only [IsV] at x0 x1 x2 x3 x4 x5 x6 x7;simp [slot] at x7;simp only [putsFrom,x0,x1,x2,x3,x4,x5,x6,x7,e8];clear x0 x1 x2 x3 x4 x5 x6 x7;have z0:=z8.cell (j:=0) rfl;have zf0:=z8.free (j:=0) (by simp [bdL]);have z1:=z8.cell (j:=1) rfl;have zf1:=z8.free (j:=1) (by simp [bdL]);have z2:=z8.cell (j:=2) rfl;have zf2:=z8.free (j:=2) (by simp [bdL]);have z3:=z8.cell (j:=3) rfl;have zf3:=z8.free (j:=3) (by simp [bdL]);have z4:=z8.cell (j:=4) rfl;have zf4:=z8.free (j:=4) (by simp [bdL]);have hz0:Below W.heap.size W wz:=bR.drew.trans hz;have b8':W.heap.size≤g8:=b8;have HB6:Hid (∀ v0 v1 v2 v3 v4,Below W.heap.size W ((sW (sW (sW (sW wz g8 0 v0) g8 1 v1) g8 2 v2) g8 3 v3).setCell ⟨g8,4,none⟩ v4)):=fun v0 v1 v2 v3 v4=>((((hz0.setCell (p:=⟨g8,0,none⟩) b8' v0).setCell (p:=⟨g8,1,none⟩) b8' v1).setCell (p:=⟨g8,2,none⟩) b8' v2).setCell (p:=⟨g8,3,none⟩) b8' v3).setCell (p:=⟨g8,4,none⟩) b8' v4
   clear z8 b8 b8' hz hz0;intro K10 hK10;go_simp;refine hK10 _ _ ?_;intro K11 hK11;go_simp;refine hK11 _ _ ?_;intro K12 hK12;go_simp;refine hK12 _ _ ?_;show Exit.then _ _ _ _ _;refine hK2 _ _ (hJ _ _ ?_);(repeat apply Exists.intro)
   exact ⟨⟨rfl,HB6.out _ _ _ _ _⟩,rfl⟩
 case rest =>
 obtain ⟨rfl,hbc⟩:=hcut;generalize wc=W1 at *;have HKn:Hid _:=HK.out.kept (by simp) hbc;have HQn:Hid _:=HQ.out.kept (by simp [bdL]) hbc;have HZn:Hid _:=HZ.out.trans (hbc.mono HZ.out.size);clear HK HQ HZ hbc;have HK:Hid _:=HKn;have HQ:Hid _:=HQn;have HZ:Hid _:=HZn;clear HKn HQn HZn;go_upto_region 2 with fail
 go_cut [8] (fun v wx=>v=.bool bl∧Below W1.heap.size W1 wx)
 case first =>
  rename_i J K2 hJ hK2;have HCP:Hid (∀ wy,Below W1.drew.heap.size W1.drew wy→HoldsL wy w.z (KkV pa pc p ba ca bo cb x m1 m2)∧HoldsL wy (w.z+1) (bdL q)∧Below w.z w wy):=fun wy hy=>⟨HK.out.drew.kept (by simp) hy,HQ.out.drew.kept (by simp [bdL]) hy,HZ.out.drew.trans (hy.mono HZ.out.size)⟩
  refine wp_region_growW [20,21,22,23,24,19,25,26,7] 7 _ _ _ (by kernel_rfl) (by kernel_rfl) rfl rfl rfl ?_;refine GChW.val (n:=0) (fun v=>[IsV v]) (fun _=>rfl) rfl ?_;apply Exists.intro;refine And.intro ?_ ?_
  ·intro K' a wy ho hd hb hK;rw [wN rfl];have o2:=ho 2 (by decide);simp [slot] at o2;clear hd ho;go_simp;try go_bits
   exact hK _ _ rfl bR
  refine GChW.val (n:=1) (fun v=>[_,IsV v]) (fun _=>rfl) rfl ?_;apply Exists.intro;refine And.intro ?_ ?_
  ·intro K' a wy ho hd hb hK;rw [wN rfl];have q0:=hd ⟨0,.data⟩ (by simp) rfl;simp [rAt,IsV,slot] at q0;clear hd ho;obtain ⟨hk,hq,hbw⟩:=HCP.out wy hb;obtain ⟨k0,k1,k2,k3,k4,k5,k6,k7,k8,k9,k10,k11,k12,k13⟩:=hk.c14;obtain ⟨c0,c1,c2,c3,c4⟩:=hq.c5;go_simp;try go_bits
   exact hK _ _ rfl bR
  refine GChW.val (n:=2) (fun v=>[_,_,IsV v]) (fun _=>rfl) rfl ?_;apply Exists.intro;refine And.intro ?_ ?_
  ·intro K' a wy ho hd hb hK;rw [wN rfl];have o3:=ho 3 (by decide);simp [slot] at o3;clear hd ho;obtain ⟨hk,hq,hbw⟩:=HCP.out wy hb;obtain ⟨k0,k1,k2,k3,k4,k5,k6,k7,k8,k9,k10,k11,k12,k13⟩:=hk.c14;obtain ⟨c0,c1,c2,c3,c4⟩:=hq.c5;go_simp;try go_bits
   exact hK _ _ rfl bR
  refine GChW.val (n:=3) (fun v=>[_,_,_,IsV v]) (fun _=>rfl) rfl ?_;apply Exists.intro;refine And.intro ?_ ?_
  ·intro K' a wy ho hd hb hK;rw [wN rfl];have q2:=hd ⟨2,.data⟩ (by simp) rfl;simp [rAt,IsV,slot] at q2;clear hd ho;go_simp;refine (HL.out wy).mono ?_;rintro e wz ⟨rfl,hz⟩;exact hK _ _ rfl hz
  refine GChW.val (n:=4) (fun v=>[_,_,_,_,IsV v]) (fun _=>rfl) rfl ?_;apply Exists.intro;refine And.intro ?_ ?_
  ·intro K' a wy ho hd hb hK;rw [wN rfl];have q1:=hd ⟨1,.data⟩ (by simp) rfl;have q3:=hd ⟨3,.data⟩ (by simp) rfl;simp [rAt,IsV,slot] at q1 q3;clear hd ho;refine wp_look_val _ (.tmp 21) (.tmp 23) true rfl (by simp [Act.eval,slot,q1]) (by simp [Act.eval,slot,q3]) (HK2.out wy (HCP.out wy hb).2.2) (hK _ _ rfl bR)
  refine GChW.val (n:=5) (fun v=>[_,_,_,_,_,IsV v]) (fun _=>rfl) rfl ?_;apply Exists.intro;refine And.intro ?_ ?_
  ·intro K' a wy ho hd hb hK;rw [wN rfl];have q4:=hd ⟨4,.data⟩ (by simp) rfl;simp [rAt,IsV,slot] at q4;clear hd ho;go_simp;try go_bits
   exact hK _ _ rfl bR
  refine GChW.val (n:=6) (fun v=>[_,_,_,_,_,_,IsV v]) (fun _=>rfl) rfl ?_;apply Exists.intro;refine And.intro ?_ ?_
  ·intro K' a wy ho hd hb hK;rw [wN rfl];have q5:=hd ⟨5,.data⟩ (by simp) rfl;simp [rAt,IsV,slot] at q5;clear hd ho;go_simp;try go_bits
   exact hK _ _ rfl bR
  refine GChW.val (n:=7) (fun v=>[_,_,_,_,_,_,_,IsV v]) (fun _=>rfl) rfl ?_;apply Exists.intro;refine And.intro ?_ ?_
  ·intro K' a wy ho hd hb hK;rw [wN rfl];have q5:=hd ⟨5,.data⟩ (by simp) rfl;simp [rAt,IsV,slot] at q5;clear hd ho;go_simp;try go_bits
   exact hK _ _ rfl bR
  refine GChW.rel (n:=8) (IsZd W1.drew.heap.size) (stable_isZd _) [_,_,_,_,_,_,_,_,IsZd W1.drew.heap.size] rfl rfl ?_ ?_
  ·intro K' a wy ho hd hb hK;rw [wN rfl];clear hd ho;go_simp;exact hK _ _ ⟨wy.heap.size,rfl,hb.size,HoldsL.new wy (bdL bdZ) 48⟩ (bR.alloc lR _)
  refine ⟨?_,?_⟩
  ·intro X wz hR hz;obtain ⟨x0,x1,x2,x3,x4,x5,x6,x7,x8,-⟩:=hR;obtain ⟨g8,e8,b8,z8⟩:=x8;simp only [IsV] at x0 x1 x2 x3 x4 x5 x6 x7;simp only [putsFrom,x0,x1,x2,x3,x4,x5,x6,x7,e8];clear x0 x1 x2 x3 x4 x5 x6 x7;have z0:=z8.cell (j:=0) rfl;have zf0:=z8.free (j:=0) (by simp [bdL]);have z1:=z8.cell (j:=1) rfl;have zf1:=z8.free (j:=1) (by simp [bdL]);have z2:=z8.cell (j:=2) rfl;have zf2:=z8.free (j:=2) (by simp [bdL]);have z3:=z8.cell (j:=3) rfl;have zf3:=z8.free (j:=3) (by simp [bdL]);have z4:=z8.cell (j:=4) rfl;have zf4:=z8.free (j:=4) (by simp [bdL]);have hz0:Below W1.heap.size W1 wz:=bR.drew.trans hz;have b8':W1.heap.size≤g8:=b8;have HB6:Hid (∀ v0 v1 v2 v3 v4,Below W1.heap.size W1 ((sW (sW (sW (sW wz g8 0 v0) g8 1 v1) g8 2 v2) g8 3 v3).setCell ⟨g8,4,none⟩ v4)):=fun v0 v1 v2 v3 v4=>((((hz0.setCell (p:=⟨g8,0,none⟩) b8' v0).setCell (p:=⟨g8,1,none⟩) b8' v1).setCell (p:=⟨g8,2,none⟩) b8' v2).setCell (p:=⟨g8,3,none⟩) b8' v3).setCell (p:=⟨g8,4,none⟩) b8' v4
   clear z8 b8 b8' hz hz0;intro K10 hK10;go_simp;refine hK10 _ _ ?_;intro K11 hK11;go_simp;refine hK11 _ _ ?_;show Exit.then _ _ _ _ _;refine hK2 _ _ (hJ _ _ ?_);(repeat apply Exists.intro)
   exact ⟨⟨rfl,HB6.out _ _ _ _ _⟩,rfl⟩
  ·intro X wz hR hz;obtain ⟨x0,x1,x2,x3,x4,x5,x6,x7,x8,-⟩:=hR;obtain ⟨g8,e8,b8,z8⟩:=x8;simp only [IsV] at x0 x1 x2 x3 x4 x5 x6 x7;simp [slot] at x7;simp only [putsFrom,x0,x1,x2,x3,x4,x5,x6,x7,e8];clear x0 x1 x2 x3 x4 x5 x6 x7;have z0:=z8.cell (j:=0) rfl;have zf0:=z8.free (j:=0) (by simp [bdL]);have z1:=z8.cell (j:=1) rfl;have zf1:=z8.free (j:=1) (by simp [bdL]);have z2:=z8.cell (j:=2) rfl;have zf2:=z8.free (j:=2) (by simp [bdL]);have z3:=z8.cell (j:=3) rfl;have zf3:=z8.free (j:=3) (by simp [bdL]);have z4:=z8.cell (j:=4) rfl;have zf4:=z8.free (j:=4) (by simp [bdL]);have hz0:Below W1.heap.size W1 wz:=bR.drew.trans hz;have b8':W1.heap.size≤g8:=b8;have HB6:Hid (∀ v0 v1 v2 v3 v4,Below W1.heap.size W1 ((sW (sW (sW (sW wz g8 0 v0) g8 1 v1) g8 2 v2) g8 3 v3).setCell ⟨g8,4,none⟩ v4)):=fun v0 v1 v2 v3 v4=>((((hz0.setCell (p:=⟨g8,0,none⟩) b8' v0).setCell (p:=⟨g8,1,none⟩) b8' v1).setCell (p:=⟨g8,2,none⟩) b8' v2).setCell (p:=⟨g8,3,none⟩) b8' v3).setCell (p:=⟨g8,4,none⟩) b8' v4
   clear z8 b8 b8' hz hz0;intro K10 hK10;go_simp;refine hK10 _ _ ?_;intro K11 hK11;go_simp;refine hK11 _ _ ?_;intro K12 hK12;go_simp;refine hK12 _ _ ?_;show Exit.then _ _ _ _ _;refine hK2 _ _ (hJ _ _ ?_);(repeat apply Exists.intro)
   exact ⟨⟨rfl,HB6.out _ _ _ _ _⟩,rfl⟩
 case rest =>
 obtain ⟨rfl,hbc⟩:=hcut;generalize wc=W2 at *;have HKn:Hid _:=HK.out.kept (by simp) hbc;have HQn:Hid _:=HQ.out.kept (by simp [bdL]) hbc;have HZn:Hid _:=HZ.out.trans (hbc.mono HZ.out.size);clear HK HQ HZ hbc;have HK:Hid _:=HKn;have HQ:Hid _:=HQn;have HZ:Hid _:=HZn;clear HKn HQn HZn;have hun:undef=Value.tuple #[]:=rfl;obtain ⟨k0,k1,k2,k3,k4,k5,k6,k7,k8,k9,k10,k11,k12,k13⟩:=HK.out.c14;obtain ⟨c0,c1,c2,c3,c4⟩:=HQ.out.c5;go_wp2_with fail
 refine (HO.out _ HZ.out).mono ?_;rintro e W3 ⟨rfl,qq⟩;have HKn:Hid _:=HK.out.kept (by simp) qq;have HQn:Hid _:=HQ.out.kept (by simp [bdL]) qq;have HZn:Hid _:=HZ.out.trans (qq.mono HZ.out.size);clear k0 k1 k2 k3 k4 k5 k6 k7 k8 k9 k10 k11 k12 k13 c0 c1 c2 c3 c4;clear HK HQ HZ qq;have HK:Hid _:=HKn;have HQ:Hid _:=HQn;have HZ:Hid _:=HZn;clear HKn HQn HZn;obtain ⟨k0,k1,k2,k3,k4,k5,k6,k7,k8,k9,k10,k11,k12,k13⟩:=HK.out.c14;obtain ⟨c0,c1,c2,c3,c4⟩:=HQ.out.c5;go_wp2_with fail
 refine (HB.out _).mono ?_;rintro e W3 ⟨rfl,rfl⟩;clear k0 k1 k2 k3 k4 k5 k6 k7 k8 k9 k10 k11 k12 k13 c0 c1 c2 c3 c4
 cases t1 with
 | false =>
  have HX:Hid (ans=false):=by unfold Hid; rw [HV.out]; simp
  go_wp2_with fail
  go_ret;exact ⟨ret_bool HX.out.symm,HZ.out⟩
 | true =>
 obtain ⟨k0,k1,k2,k3,k4,k5,k6,k7,k8,k9,k10,k11,k12,k13⟩:=HK.out.c14;obtain ⟨c0,c1,c2,c3,c4⟩:=HQ.out.c5;go_wp2_with fail
 refine (HA.out _).mono ?_;rintro e W3 ⟨rfl,rfl⟩;clear k0 k1 k2 k3 k4 k5 k6 k7 k8 k9 k10 k11 k12 k13 c0 c1 c2 c3 c4
 cases t2 with
 | false =>
  have HX:Hid (ans=false):=by unfold Hid; rw [HV.out]; simp
  go_wp2_with fail
  go_ret;exact ⟨ret_bool HX.out.symm,HZ.out⟩
 | true =>
 obtain ⟨k0,k1,k2,k3,k4,k5,k6,k7,k8,k9,k10,k11,k12,k13⟩:=HK.out.c14;obtain ⟨c0,c1,c2,c3,c4⟩:=HQ.out.c5;go_wp2_with fail
 refine (HW.out _).mono ?_;rintro e W3 ⟨rfl,rfl⟩;clear k0 k1 k2 k3 k4 k5 k6 k7 k8 k9 k10 k11 k12 k13 c0 c1 c2 c3 c4
 cases t3 with
 | false =>
  have HX:Hid (ans=false):=by unfold Hid; rw [HV.out]; simp
  go_wp2_with fail
  go_ret;exact ⟨ret_bool HX.out.symm,HZ.out⟩
 | true =>
 obtain ⟨k0,k1,k2,k3,k4,k5,k6,k7,k8,k9,k10,k11,k12,k13⟩:=HK.out.c14;obtain ⟨c0,c1,c2,c3,c4⟩:=HQ.out.c5;go_wp2_with fail
 refine (HC.out _ HZ.out).mono ?_;rintro e W4 ⟨rfl,qq⟩;have HKn:Hid _:=HK.out.kept (by simp) qq;have HQn:Hid _:=HQ.out.kept (by simp [bdL]) qq;have HZn:Hid _:=HZ.out.trans (qq.mono HZ.out.size);clear k0 k1 k2 k3 k4 k5 k6 k7 k8 k9 k10 k11 k12 k13 c0 c1 c2 c3 c4;clear HK HQ HZ qq;have HK:Hid _:=HKn;have HQ:Hid _:=HQn;have HZ:Hid _:=HZn;clear HKn HQn HZn
 cases t4 with
 | false =>
  have HX:Hid (ans=false):=by unfold Hid; rw [HV.out]; simp
  go_wp2_with fail
  go_ret;exact ⟨ret_bool HX.out.symm,HZ.out⟩
 | true =>
 obtain ⟨k0,k1,k2,k3,k4,k5,k6,k7,k8,k9,k10,k11,k12,k13⟩:=HK.out.c14;obtain ⟨c0,c1,c2,c3,c4⟩:=HQ.out.c5;go_wp2_with fail
 refine (HN.out _).mono ?_;rintro e W5 ⟨rfl,qq⟩;have HKn:Hid _:=HK.out.kept (by simp) qq;have HQn:Hid _:=HQ.out.kept (by simp [bdL]) qq;have HZn:Hid _:=HZ.out.trans (qq.mono HZ.out.size);clear k0 k1 k2 k3 k4 k5 k6 k7 k8 k9 k10 k11 k12 k13 c0 c1 c2 c3 c4;clear HK HQ HZ qq;have HK:Hid _:=HKn;have HQ:Hid _:=HQn;have HZ:Hid _:=HZn;clear HKn HQn HZn
 cases t5 with
 | false =>
  have HX:Hid (ans=false):=by unfold Hid; rw [HV.out]; simp
  go_wp2_with fail
  go_ret;exact ⟨ret_bool HX.out.symm,HZ.out⟩
 | true =>
 cases bh with
 | true =>
  have HX:Hid (ans=false):=by unfold Hid; rw [HV.out]; simp
  go_wp2_with fail
  go_ret;exact ⟨ret_bool HX.out.symm,HZ.out⟩
 | false =>
 cases bl with
 | true =>
  have HX:Hid (ans=false):=by unfold Hid; rw [HV.out]; simp
  go_wp2_with fail
  go_ret;exact ⟨ret_bool HX.out.symm,HZ.out⟩
 | false =>
 obtain ⟨k0,k1,k2,k3,k4,k5,k6,k7,k8,k9,k10,k11,k12,k13⟩:=HK.out.c14;obtain ⟨c0,c1,c2,c3,c4⟩:=HQ.out.c5;by_cases ho:ot.toList=q.out.toList
 case neg =>
  have ho1:(ot.toList==q.out.toList)=false:=by simp [ho]
  have HX:Hid (ans=false):=by unfold Hid; rw [HV.out,decide_eq_false ho]; simp
  clear ho;go_wp2_with fail
  go_ret;exact ⟨ret_bool HX.out.symm,HZ.out⟩
 have ho1:(ot.toList==q.out.toList)=true:=by simp [ho]
 have HX:Hid (ans=t9):=by unfold Hid; rw [HV.out,decide_eq_true ho]; rfl
 clear ho;go_wp2_with fail
 refine (HS.out _ HZ.out).mono ?_;rintro e W6 ⟨rfl,qq⟩;have HKn:Hid _:=HK.out.kept (by simp) qq;have HQn:Hid _:=HQ.out.kept (by simp [bdL]) qq;have HZn:Hid _:=HZ.out.trans (qq.mono HZ.out.size);clear k0 k1 k2 k3 k4 k5 k6 k7 k8 k9 k10 k11 k12 k13 c0 c1 c2 c3 c4;clear HK HQ HZ qq;have HK:Hid _:=HKn;have HQ:Hid _:=HQn;have HZ:Hid _:=HZn;clear HKn HQn HZn;go_wp2_with fail
 go_ret;exact ⟨ret_bool HX.out.symm,HZ.out⟩
end Go.Proofs.YtdkepkaflielhaaGreatDoor
