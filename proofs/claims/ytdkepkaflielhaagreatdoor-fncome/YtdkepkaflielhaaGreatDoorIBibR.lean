import Derived.Test.YtdkepkaflielhaaGreatDoorSz
import Derived.Test.YtdkepkaflielhaaGreatDoorAb
import Derived.Test.YtdkepkaflielhaaGreatDoorIOpen
set_option linter.unusedVariables false
set_option linter.unusedSimpArgs false
set_option maxRecDepth 100000
set_option maxHeartbeats 8000000
namespace Go.Proofs.YtdkepkaflielhaaGreatDoor
open Go.RowKit Go.PlainAid
theorem implBib_any (pa:Option Addr) (pc:Nat) (p:Pl) (ba bo:Option Addr) (ca cb:Nat) (x:Bb) (w:World) (hpl:p.addrs.length≤1048576) (hpc:p.addrs.length≤pc) (hps:∀ s∈p.addrs,s.size≤1048576) (hbl1:x.binds.length≤1048576) (hbl2:x.sess.length≤1048576) (hgb:∀ q∈x.binds,BdGood q) (hgs:∀ s∈x.sess,SsGood s) (hp:SlIs strL1 1 w pa p.addrs) (hx:BbIs w ba bo x) :
  Cb 85 #[plC pa pc p,bbC ba bo ca cb x] w (.bool (bibOk p x)):=by
 have HZ0:Hid (Below w.z w ((aW w (PlV pa pc p) 27).alloc (.cells (BbV ba ca bo cb x).toArray 31))):=(bR.alloc lR _).alloc (by simp) _;have HP:HoldsL ((aW w (PlV pa pc p) 27).alloc (.cells (BbV ba ca bo cb x).toArray 31)) w.z (PlV pa pc p):=(HoldsL.new w (PlV pa pc p) 27).alloc _;have HB:HoldsL ((aW w (PlV pa pc p) 27).alloc (.cells (BbV ba ca bo cb x).toArray 31)) (w.z+1) (BbV ba ca bo cb x):=by
  have h:=HoldsL.new (w.alloc (.cells (PlV pa pc p).toArray 27)) (BbV ba ca bo cb x) 31;rw [World.size_alloc] at h; exact h
 have HOP:Hid (∀ W,Below w.z w W→Calls Tryz.prog 104 #[.agg (PlV pa pc p).toArray,.agg (BbV ba ca bo cb x).toArray] W (OpenRet W pa pc p ba bo ca cb x)):=fun W hW=>open_any pa pc p ba bo ca cb x W hpl hpc hps hbl1 hbl2 hgb hgs (hp.below hW) (hx.below hW)
 have HV:Hid (bookOk p x=bibOk p x):=book_bib p x;clear hp hx hgb hgs hps;unfold plC bbC;go_enter Tryz.func85,Tryz.ntmps85
 go_upto_region 1 with fail
 generalize World.alloc _ _=W0 at *;obtain ⟨k0,k1,k2,k3,k4,k5,k6,k7,k8,k9⟩:=HP.c10;obtain ⟨c0,c1⟩:=HB.c2;clear HP HB;go_wp2_with fail
 refine (HOP.out _ HZ0.out).mono ?_;rintro e w1 ⟨q1,h⟩;have B1:Hid _:=HZ0.out.trans (q1.mono HZ0.out.size);clear q1 HZ0 HOP k0 k1 k2 k3 k4 k5 k6 k7 k8 k9 c0 c1;rcases h with ⟨hx,rfl⟩ | ⟨hx,m1,m2,rfl,hm1,hm2,hbk⟩
 ·have HX:Hid (bibOk p x=false):=by unfold Hid; rw [← HV.out]; exact hx
  unfold bkZ;clear hx;go_wp2_with fail
  go_ret;exact ⟨ret_bool HX.out.symm,B1.out.alloc B1.out.size _⟩
 ·have HX:Hid (bibOk p x=true):=by unfold Hid; rw [← HV.out]; exact hx
  unfold bkC;clear hx hbk;go_wp2_with fail
  go_ret;exact ⟨ret_bool HX.out.symm,B1.out.alloc B1.out.size _⟩
end Go.Proofs.YtdkepkaflielhaaGreatDoor
