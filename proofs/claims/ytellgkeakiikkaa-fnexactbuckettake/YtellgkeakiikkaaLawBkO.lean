/- LawBkO: two equal answers of BucketTake, compared by the laws. -/
import Derived.Test.YtellgkeakiikkaaLawBucket
import Derived.Test.YtellgkeakiikkaaBoxes
namespace Go.Proofs.Ytellgkeakiikkaa
open Go.RowKit Go.PlainAid
set_option linter.unusedVariables false
set_option linter.unusedSimpArgs false
set_option maxRecDepth 100000 in
set_option maxHeartbeats 1000000 in
theorem eqBucketOut_same (p : Bk) (ok : Bool) (w : World) :
    Calls Try.prog 26 #[bkO p ok, bkO p ok] w fun e w' => e = .returned (.bool true) ∧ Below w.heap.size w w' := by
  have HC : Hid (∀ W, Calls Try.prog 68 #[bkC p, bkC p] W fun e w' => e = .returned (.bool true) ∧ Below W.heap.size W w') := fun W => eqBucket_same p W
  obtain ⟨left, most, each, since⟩ := p
  unfold bkC at HC
  unfold bkO
  dsimp only at *
  have HZ : Hid (Below w.heap.size w ((w.alloc (.cells #[.int .i64 left, .int .i64 most, .int .i64 each, .int .i64 since, .bool ok] 28)).alloc (.cells #[.int .i64 left, .int .i64 most, .int .i64 each, .int .i64 since, .bool ok] 28))) := ((Below.refl _ _).alloc (Nat.le_refl _) _).alloc (by simp) _
  go_enter Try.func26, Try.ntmps26
  go_wp2_with fail
  refine (HC.out _).mono ?_
  rintro e w1 ⟨rfl, q1⟩
  have HQ : Hid (Below w.heap.size w w1) := HZ.out.trans (q1.mono HZ.out.size)
  obtain ⟨hc, hf⟩ := bcell q1
  clear q1
  go_wp2_with fail
  go_ret
  exact ⟨rfl, HQ.out⟩
end Go.Proofs.Ytellgkeakiikkaa
