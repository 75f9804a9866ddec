/- DwL: the law FnExactDeskWords, walked: true, and nothing that lay before has turned. -/
import Derived.Test.YtmmojboagplopaaGreatDoorDwW
import Derived.Test.YtmmojboagplopaaGreatDoorHeldStr
namespace Go.Proofs.YtmmojboagplopaaGreatDoor
open Go.RowKit Go.PlainAid Go.ChangeShapes Go.WideShapes
set_option linter.unusedVariables false
set_option linter.unusedSimpArgs false
def DwGives (f : FuncId) : Prop := ∀ w : World, Calls Tryz.prog f #[] w fun e w' => (∃ a cap, e = .returned (.slice a wsD.length cap) ∧ SlOwn strL1 1 w.heap.size w' a wsD) ∧ Below w.heap.size w w'
set_option maxRecDepth 100000 in
set_option maxHeartbeats 2000000 in
theorem lawWords_any (HI : DwGives 5) (w : World) :
    Calls Tryz.prog 3 #[] w fun e w' => e = .returned (.bool true) ∧ Below w.heap.size w w' := by
  have HX : Hid _ := HI
  clear HI
  go_enter Tryz.func3, Tryz.ntmps3
  go_wp2_with (first
    | (go_at_call 4; refine (specWords_any _).mono ?_; rintro e w1 ⟨⟨a1, cap1, rfl, s1⟩, b1⟩; have S1 : Hid (SlOwn strL1 1 w.heap.size w1 a1 wsD) := s1; have B1 : Hid _ := b1; clear s1 b1)
    | (go_at_call 5; refine (HX.out _).mono ?_; rintro e w2 ⟨⟨a2, cap2, rfl, s2⟩, b2⟩; have S2 : Hid (SlOwn strL1 1 w1.heap.size w2 a2 wsD) := s2; have B2 : Hid _ := b2; clear s2 b2)
    | (go_at_call 6; refine (eqStringS_same wsD _ _ _ _ _ (by simp [wsD]) S2.out.is (S1.out.kept B2.out).is).mono ?_; rintro e w3 ⟨rfl, b3⟩; have B3 : Hid _ := b3; clear b3)
    | (go_at_call 7; refine (markStringS_own w1.heap.size wsD _ _ 1 _ (by omega) (by simp [wsD]) (S2.out.kept B3.out)).mono ?_; rintro e w4 ⟨rfl, m4, b4⟩; have M4 : Hid (MkOwn 1 strM w1.heap.size w4 a2 1 wsD.length) := m4; have B4 : Hid _ := b4; clear m4 b4)
    | (go_at_call 8; refine (heldStringS_own w1.heap.size wsD.length _ _ 1 _ (by omega) (by simp [wsD]) M4.out).mono ?_; rintro e w5 ⟨rfl, b5⟩; have B5 : Hid _ := b5; clear b5))
  refine (HX.out _).mono ?_
  rintro e w6 ⟨⟨a6, cap6, rfl, s6⟩, b6⟩
  have S6 : Hid (SlOwn strL1 1 w5.heap.size w6 a6 wsD) := s6
  have B6 : Hid _ := b6
  clear s6 b6
  have z1 := B1.out.size
  have z2 := B2.out.size
  have z3 := B3.out.size
  have z4 := B4.out.size
  have z5 := B5.out.size
  have z6 := B6.out.size
  have B16 : Hid (Below w1.heap.size w1 w6) := ((((B2.out.trans (B3.out.mono (by omega))).trans B4.out).trans (B5.out.mono (by omega))).trans (B6.out.mono (by omega)))
  have B46 : Hid (Below w4.heap.size w4 w6) := B5.out.trans (B6.out.mono (by omega))
  go_wp2_with (first
    | (go_at_call 6; refine (eqStringS_same wsD _ _ _ _ _ (by simp [wsD]) S6.out.is (S1.out.kept B16.out).is).mono ?_; rintro e w7 ⟨rfl, b7⟩; have B7 : Hid _ := b7; clear b7)
    | (go_at_call 8; refine (heldStringS_own w1.heap.size wsD.length _ _ 1 _ (by omega) (by simp [wsD]) (M4.out.kept (B46.out.trans (B7.out.mono (by omega))))).mono ?_; rintro e w8 ⟨rfl, b8⟩; have B8 : Hid _ := b8; clear b8))
  go_ret
  have z7 := B7.out.size
  exact ⟨rfl, ((B1.out.trans (B16.out.mono (by omega))).trans (B7.out.mono (by omega))).trans (B8.out.mono (by omega))⟩
end Go.Proofs.YtmmojboagplopaaGreatDoor
