/- LawPopE: eqInt64S. -/
import Derived.Test.YtmhkhbpedfdocahLawPop
namespace Go.Proofs.Ytmhkhbpedfdocah
open Go.RowKit Go.PlainAid
set_option linter.unusedVariables false
set_option linter.unusedSimpArgs false

set_option maxRecDepth 100000 in
set_option maxHeartbeats 1000000 in
theorem eqInts_same (ls : List Int) (b1 b2 cap1 cap2 : Nat) (w : World) (hlen : ls.length ≤ 1048576) (hb1 : b1 < w.heap.size) (hb2 : b2 < w.heap.size) (h1 : IntsAt w b1 0 ls) (h2 : IntsAt w b2 0 ls) :
    Calls Try.prog 38 #[.slice (some ⟨b1, 0, none⟩) ls.length cap1, .slice (some ⟨b2, 0, none⟩) ls.length cap2] w fun e w' => e = .returned (.bool true) ∧ Below w.heap.size w w' := by
  have H1 : Hid (IntsAt w b1 0 ls) := h1
  have H2 : Hid (IntsAt w b2 0 ls) := h2
  clear h1 h2
  go_enter Try.func38, Try.ntmps38
  go_wp2_with fail
  go_loopw [5] (fun i wr => ∃ k : Nat, k ≤ ls.length ∧ i = .int .i64 k ∧ Below w.heap.size w wr) (fun i _ => ls.length - (intOf i).toNat)
  case atStart => exact ⟨0, Nat.zero_le _, rfl, Below.refl _ _⟩
  case round =>
    obtain ⟨k, hk, rfl, hbel⟩ := hrel
    have HL : Hid (Below w.heap.size w wr) := hbel
    clear hbel
    by_cases hlt : k < ls.length
    · have c0 : wr.cell? ⟨b1, k, none⟩ = some (.int .i64 ls[k]) := by have := H1.out k hlt; rw [Nat.zero_add] at this; exact ((bcell HL.out).1 b1 k hb1).trans this
      have d0 : wr.cell? ⟨b2, k, none⟩ = some (.int .i64 ls[k]) := by have := H2.out k hlt; rw [Nat.zero_add] at this; exact ((bcell HL.out).1 b2 k hb2).trans this
      generalize ls[k] = v at *
      go_wp2_with fail
      go_region
      all_goals
        go_wp2_with fail
        go_roundw
        case rel => exact ⟨k + 1, by omega, by go_num, HL.out.drew⟩
        case measure => simp [intOf]; omega
    · go_wp2_with fail
      go_ret
      exact ⟨rfl, HL.out⟩

end Go.Proofs.Ytmhkhbpedfdocah
