/- IRest: what the program's rest answers. -/
import Derived.Test.YtgnolcbdojjieaaICur
import Derived.Deep.RegionWith
namespace Go.Proofs.Ytgnolcbdojjieaa
open Go.RowKit Go.PlainAid
set_option linter.unusedVariables false
set_option linter.unusedSimpArgs false

set_option maxHeartbeats 1000000 in
theorem rest_ok (w : World) (B b cap : Nat) (t : ByteArray) (k : Nat) (h : CurAt w B b cap t k) (hk : k ≤ t.size) (hs : t.size ≤ 100000) :
  Calls Try.prog 67 #[.pointer (some ⟨B, 0, none⟩)] w fun e w' => e = .returned (.string (t.extract k t.size)) ∧ ∃ w0, Below w.heap.size w w0 ∧ w0.heap.size = w.heap.size ∧ Below w.heap.size (w0.setCell ⟨B, 1, none⟩ (.int .i64 t.size)) w' := by
 have HT : Hid (∀ W, CurAt W B b cap t k → Calls Try.prog 65 #[.pointer (some ⟨B, 0, none⟩), .int .i64 ((t.size : Int) - k)] W fun e w' => e = .returned (.string (t.extract k t.size)) ∧ Below W.heap.size (W.setCell ⟨B, 1, none⟩ (.int .i64 t.size)) w') := fun W hW => by
  have := take_ok W B b cap t k (t.size - k) hW (by omega) hs
  rw [show k + (t.size - k) = t.size by omega, show ((t.size - k : Nat) : Int) = (t.size : Int) - k by omega] at this
  exact this
 have HT1 : Hid (Calls Try.prog 65 #[.pointer (some ⟨B, 0, none⟩), .int .i64 ((t.size : Int) - k)] w.drew fun e w' => e = .returned (.string (t.extract k t.size)) ∧ ∃ w0, Below w.heap.size w w0 ∧ w0.heap.size = w.heap.size ∧ Below w.heap.size (w0.setCell ⟨B, 1, none⟩ (.int .i64 t.size)) w') :=
  Calls.mono (HT.out w.drew (h.kept (Below.refl _ _).drew)) fun e w' hh => ⟨hh.1, w.drew, (Below.refl _ _).drew, rfl, hh.2⟩
 obtain ⟨c0, f0, c1, f1, bs, ne, lt, cp⟩ := h
 have hwr : IntKind.i64.wrap ((t.size : Int) - k) = t.size - k := by rw [IntKind.wrap_i64]; omega
 clear bs HT
 go_enter Try.func67, Try.ntmps67
 go_wp2_with fail
 go_region_with (go_at_call 65; refine Calls.mono HT1.out ?_; rintro e w4 ⟨rfl, hb4⟩)
 all_goals go_wp2_with fail
 all_goals go_ret
 all_goals exact ⟨rfl, hb4⟩

end Go.Proofs.Ytgnolcbdojjieaa
