/- What the laws' own helpers answer: szPrefix, toPrefix, eqAddrOut. -/
import Derived.Test.YtmhkhbpedfdocahBase
import Derived.Test.YtmhkhbpedfdocahChecked
import Derived.WalkLawsBesides
namespace Go.Proofs.Ytmhkhbpedfdocah
open Go.RowKit
set_option linter.unusedVariables false
set_option linter.unusedSimpArgs false

/-- A box of two cells that the call has just laid, in a later world. -/
theorem one_box {w wx : World} {t1 : TypeId} {a0 a1 : Value} (h : Below (w.heap.size + 1) (w.alloc (.cells #[a0, a1] t1)) wx) :
    wx.cell? ⟨w.heap.size, 0, none⟩ = some a0 ∧ wx.cell? ⟨w.heap.size, 1, none⟩ = some a1 := by
  refine ⟨?_, ?_⟩
  · rw [h.cell (p := ⟨w.heap.size, 0, none⟩) (show w.heap.size < w.heap.size + 1 by omega)]; simp
  · rw [h.cell (p := ⟨w.heap.size, 1, none⟩) (show w.heap.size < w.heap.size + 1 by omega)]; simp
theorem one_keep {w wx : World} {o : Obj} (h : Below (w.alloc o).heap.size (w.alloc o) wx) : Below (w.heap.size + 1) (w.alloc o) wx := h.mono (by simp)
theorem one_size {w wx : World} {o : Obj} (h : Below (w.heap.size + 1) (w.alloc o) wx) : w.heap.size + 1 ≤ wx.heap.size := Nat.le_trans (by simp) h.size
theorem one_next {w wx wy : World} {o : Obj} (h : Below (w.heap.size + 1) (w.alloc o) wx) (h2 : Below wx.heap.size wx wy) : Below (w.heap.size + 1) (w.alloc o) wy := h.trans (h2.mono (one_size h))
theorem one_back {w wx : World} {o : Obj} (h : Below (w.heap.size + 1) (w.alloc o) wx) : Below w.heap.size w wx := ((Below.refl _ w).alloc (Nat.le_refl _) o).trans (h.mono (by omega))

theorem szPrefix_in (s : ByteArray) (b : Int) (w : World) (hs : s.size ≤ 1048576) :
    Calls Try.prog 62 #[.agg #[.string s, .int .i64 b], .int .i64 1048576] w fun e w' => e = .returned (.int .i64 (1048576 - (s.size : Int))) ∧ Below w.heap.size w w' := by
  go_enter Try.func62, Try.ntmps62
  go_wp2
  go_ret
  exact ⟨rfl, (Below.refl _ _).alloc (Nat.le_refl _) _⟩
theorem szPrefix_out (s : ByteArray) (b : Int) (w : World) (hs : 1048576 < s.size) (hm : s.size ≤ maxLen) :
    Calls Try.prog 62 #[.agg #[.string s, .int .i64 b], .int .i64 1048576] w fun e w' => e = .returned (.int .i64 (-1)) ∧ Below w.heap.size w w' := by
  unfold maxLen at hm
  go_enter Try.func62, Try.ntmps62
  go_wp2
  go_ret
  exact ⟨rfl, (Below.refl _ _).alloc (Nat.le_refl _) _⟩

theorem toPrefix_any (s : ByteArray) (b : Int) (w : World) :
    Calls Try.prog 65 #[.agg #[.string s, .int .i64 b]] w fun e w' => e = .returned (.agg #[.string s, .int .i64 b]) ∧ Below w.heap.size w w' := by
  go_enter Try.func65, Try.ntmps65
  go_wp2
  refine bodyPost_ret (v := .agg #[.string s, .int .i64 b]) (by simp [results, Try.results65, go_sem]) rfl ⟨rfl, ?_⟩
  exact (((Below.refl _ _).alloc (Nat.le_refl _) _).alloc (by simp) _).alloc (by simp; omega) _


end Go.Proofs.Ytmhkhbpedfdocah
