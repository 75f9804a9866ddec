/- LawPopQ: eqPopNodeS, toPop, eqPop. -/
import Derived.Test.YtmhkhbpedfdocahLawPopN
namespace Go.Proofs.Ytmhkhbpedfdocah
open Go.RowKit Go.PlainAid
set_option linter.unusedVariables false
set_option linter.unusedSimpArgs false

set_option maxHeartbeats 1000000 in
theorem eqNode_same (q : Pn) (w : World) :
    Calls Try.prog 73 #[.agg #[.int .i64 q.kids, .int .i64 q.leaf, .int .i64 q.base, .int .i64 q.leafs], .agg #[.int .i64 q.kids, .int .i64 q.leaf, .int .i64 q.base, .int .i64 q.leafs]] w fun e w' => e = .returned (.bool true) ∧ Below w.heap.size w w' := by
  go_enter Try.func73, Try.ntmps73
  go_wp2
  go_ret
  exact ⟨rfl, ((Below.refl _ _).alloc (Nat.le_refl _) _).alloc (by simp) _⟩

set_option maxRecDepth 100000 in
set_option maxHeartbeats 1000000 in
theorem eqNodes_same (rs : List Pn) (b1 b2 cap1 cap2 : Nat) (w : World) (hlen : rs.length ≤ 1048576) (hb1 : b1 < w.heap.size) (hb2 : b2 < w.heap.size) (h1 : PnsAt w b1 0 rs) (h2 : PnsAt w b2 0 rs) :
    Calls Try.prog 37 #[.slice (some ⟨b1, 0, none⟩) rs.length cap1, .slice (some ⟨b2, 0, none⟩) rs.length cap2] w fun e w' => e = .returned (.bool true) ∧ Below w.heap.size w w' := by
  have H1 : Hid (PnsAt w b1 0 rs) := h1
  have H2 : Hid (PnsAt w b2 0 rs) := h2
  clear h1 h2
  go_enter Try.func37, Try.ntmps37
  go_wp2_with fail
  go_loopw [5] (fun i wr => ∃ k : Nat, k ≤ rs.length ∧ i = .int .i64 k ∧ Below w.heap.size w wr) (fun i _ => rs.length - (intOf i).toNat)
  case atStart => exact ⟨0, Nat.zero_le _, rfl, Below.refl _ _⟩
  case round =>
    obtain ⟨k, hk, rfl, hbel⟩ := hrel
    have HL : Hid (Below w.heap.size w wr) := hbel
    clear hbel
    by_cases hlt : k < rs.length
    · have hA := PnsAt.below H1.out hb1 HL.out
      have hB := PnsAt.below H2.out hb2 HL.out
      have c0 := hA.c0 k hlt
      have c1 := hA.c1 k hlt
      have c2 := hA.c2 k hlt
      have c3 := hA.c3 k hlt
      have d0 := hB.c0 k hlt
      have d1 := hB.c1 k hlt
      have d2 := hB.c2 k hlt
      have d3 := hB.c3 k hlt
      rw [Nat.zero_add] at c0 c1 c2 c3 d0 d1 d2 d3
      obtain ⟨q, hq⟩ : ∃ q, q = rs[k] := ⟨_, rfl⟩
      rw [← hq] at c0 c1 c2 c3 d0 d1 d2 d3
      have HC : Hid (∀ W, Calls Try.prog 73 #[.agg #[.int .i64 q.kids, .int .i64 q.leaf, .int .i64 q.base, .int .i64 q.leafs], .agg #[.int .i64 q.kids, .int .i64 q.leaf, .int .i64 q.base, .int .i64 q.leafs]] W fun e w' => e = .returned (.bool true) ∧ Below W.heap.size W w') := fun W => eqNode_same q W
      clear hq hA hB
      go_wp2_with fail
      go_region_with (go_at_call 73; refine (HC.out _).mono ?_; rintro e w2 ⟨rfl, q2⟩)
      all_goals
        have HL2 : Hid (Below w.heap.size w w2) := HL.out.trans ((below_undrew q2).mono HL.out.size)
        clear q2
        go_wp2_with fail
        go_roundw
        case rel => exact ⟨k + 1, by omega, by go_num, HL2.out⟩
        case measure => simp [intOf]; omega
    · go_wp2_with fail
      go_ret
      exact ⟨rfl, HL.out⟩

set_option maxHeartbeats 1000000 in
theorem eqPop_same (ns : List Pn) (ls : List Int) (b1 b2 c1 c2 k1 k2 k3 k4 : Nat) (w : World) (hl1 : ns.length ≤ 1048576) (hl2 : ls.length ≤ 1048576) (hb1 : b1 < w.heap.size) (hb2 : b2 < w.heap.size) (hc1 : c1 < w.heap.size) (hc2 : c2 < w.heap.size) (h1 : PnsAt w b1 0 ns) (h2 : PnsAt w b2 0 ns) (g1 : IntsAt w c1 0 ls) (g2 : IntsAt w c2 0 ls) :
    Calls Try.prog 12 #[.agg #[.slice (some ⟨b1, 0, none⟩) ns.length k1, .slice (some ⟨c1, 0, none⟩) ls.length k2], .agg #[.slice (some ⟨b2, 0, none⟩) ns.length k3, .slice (some ⟨c2, 0, none⟩) ls.length k4]] w fun e w' => e = .returned (.bool true) ∧ Below w.heap.size w w' := by
  have HN : Hid (∀ W, Below w.heap.size w W → Calls Try.prog 37 #[.slice (some ⟨b1, 0, none⟩) ns.length k1, .slice (some ⟨b2, 0, none⟩) ns.length k3] W fun e w' => e = .returned (.bool true) ∧ Below W.heap.size W w') := fun W hW => eqNodes_same ns b1 b2 k1 k3 W hl1 (Nat.lt_of_lt_of_le hb1 hW.size) (Nat.lt_of_lt_of_le hb2 hW.size) (PnsAt.below h1 hb1 hW) (PnsAt.below h2 hb2 hW)
  have HI : Hid (∀ W, Below w.heap.size w W → Calls Try.prog 38 #[.slice (some ⟨c1, 0, none⟩) ls.length k2, .slice (some ⟨c2, 0, none⟩) ls.length k4] W fun e w' => e = .returned (.bool true) ∧ Below W.heap.size W w') := fun W hW => eqInts_same ls c1 c2 k2 k4 W hl2 (Nat.lt_of_lt_of_le hc1 hW.size) (Nat.lt_of_lt_of_le hc2 hW.size) (fun i hi => ((bcell hW).1 c1 _ hc1).trans (g1 i hi)) (fun i hi => ((bcell hW).1 c2 _ hc2).trans (g2 i hi))
  have HB : Hid (Below w.heap.size w ((w.alloc (.cells #[.slice (some ⟨b1, 0, none⟩) ns.length k1, .slice (some ⟨c1, 0, none⟩) ls.length k2] 27)).alloc (.cells #[.slice (some ⟨b2, 0, none⟩) ns.length k3, .slice (some ⟨c2, 0, none⟩) ls.length k4] 27))) := ((Below.refl _ _).alloc (Nat.le_refl _) _).alloc (by simp) _
  clear h1 h2 g1 g2
  go_enter Try.func12, Try.ntmps12
  go_wp2_with fail
  refine (HN.out _ HB.out).mono ?_
  rintro e w1 ⟨rfl, q1⟩
  have HQ : Hid (Below w.heap.size w w1) := two_back q1
  obtain ⟨hc, hf⟩ := bcell q1
  go_wp2_with fail
  refine (HI.out _ HQ.out).mono ?_
  rintro e w2 ⟨rfl, q2⟩
  go_wp2_with fail
  go_ret
  exact ⟨rfl, HQ.out.trans (q2.mono HQ.out.size)⟩

end Go.Proofs.Ytmhkhbpedfdocah
