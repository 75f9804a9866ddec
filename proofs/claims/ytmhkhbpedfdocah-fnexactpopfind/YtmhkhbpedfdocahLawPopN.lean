/- LawPopN: toPopNodeS. -/
import Derived.Test.YtmhkhbpedfdocahLawPopE
import Derived.Test.YtmhkhbpedfdocahPopFind
namespace Go.Proofs.Ytmhkhbpedfdocah
open Go.RowKit Go.PlainAid
set_option linter.unusedVariables false
set_option linter.unusedSimpArgs false

/-- Nodes in a row of their own, the first k of them laid. -/
structure PnsLaid (w : World) (B : Nat) (rs : List Pn) (k : Nat) : Prop where
  blk : B < w.heap.size
  c0 : ∀ i (h : i < rs.length), i < k → w.cell? ⟨B, i * 4, none⟩ = some (.int .i64 rs[i].kids)
  c1 : ∀ i (h : i < rs.length), i < k → w.cell? ⟨B, i * 4 + 1, none⟩ = some (.int .i64 rs[i].leaf)
  c2 : ∀ i (h : i < rs.length), i < k → w.cell? ⟨B, i * 4 + 2, none⟩ = some (.int .i64 rs[i].base)
  c3 : ∀ i (h : i < rs.length), i < k → w.cell? ⟨B, i * 4 + 3, none⟩ = some (.int .i64 rs[i].leafs)
  there : ∀ i, i < rs.length * 4 → (w.cell? ⟨B, i, none⟩).isSome = true
  free : ∀ i, i < rs.length * 4 → w.frozen? ⟨B, i, none⟩ = false

theorem PnsLaid.at {w : World} {B : Nat} {rs : List Pn} (h : PnsLaid w B rs rs.length) : PnsAt w B 0 rs :=
  ⟨fun i hi => by rw [Nat.zero_add]; exact h.c0 i hi hi, fun i hi => by rw [Nat.zero_add]; exact h.c1 i hi hi, fun i hi => by rw [Nat.zero_add]; exact h.c2 i hi hi, fun i hi => by rw [Nat.zero_add]; exact h.c3 i hi hi⟩

theorem PnsLaid.below {w W : World} {B : Nat} {rs : List Pn} {k : Nat} (h : PnsLaid w B rs k) {n : Nat} (hn : B < n) (hB : Below n w W) : PnsLaid W B rs k := by
  have hc : ∀ b o, b < n → W.cell? ⟨b, o, none⟩ = w.cell? ⟨b, o, none⟩ := fun b o hb => hB.cell (p := ⟨b, o, none⟩) hb
  have hf : ∀ b o, b < n → W.frozen? ⟨b, o, none⟩ = w.frozen? ⟨b, o, none⟩ := fun b o hb => hB.frozen (p := ⟨b, o, none⟩) hb
  exact ⟨Nat.lt_of_lt_of_le h.blk hB.size, fun i hi hk => (hc B _ hn).trans (h.c0 i hi hk), fun i hi hk => (hc B _ hn).trans (h.c1 i hi hk), fun i hi hk => (hc B _ hn).trans (h.c2 i hi hk), fun i hi hk => (hc B _ hn).trans (h.c3 i hi hk), fun i hi => by rw [hc B _ hn]; exact h.there i hi, fun i hi => by rw [hf B _ hn]; exact h.free i hi⟩

theorem PnsLaid.set {w : World} {B : Nat} {rs : List Pn} {k : Nat} (h : PnsLaid w B rs k) (hk : k < rs.length) : PnsLaid (w.setCells B (k * 4) [.int .i64 rs[k].kids, .int .i64 rs[k].leaf, .int .i64 rs[k].base, .int .i64 rs[k].leafs]) B rs (k + 1) := by
  have hin := World.cell?_setCells_in B [.int .i64 rs[k].kids, .int .i64 rs[k].leaf, .int .i64 rs[k].base, .int .i64 rs[k].leafs] (k * 4) w (fun j hj => h.there _ (by simp at hj; omega))
  have hout : ∀ n, n < k * 4 → (w.setCells B (k * 4) [.int .i64 rs[k].kids, .int .i64 rs[k].leaf, .int .i64 rs[k].base, .int .i64 rs[k].leafs]).cell? ⟨B, n, none⟩ = w.cell? ⟨B, n, none⟩ := fun n hn => World.cell?_setCells_out B _ (k * 4) w _ (fun _ _ => .inl hn)
  refine ⟨Nat.lt_of_lt_of_le h.blk (below_setCells (B := 0) (Nat.zero_le _) _ _ _ (Below.refl 0 w)).size, fun i hi hk' => ?_, fun i hi hk' => ?_, fun i hi hk' => ?_, fun i hi hk' => ?_, fun i hi => ?_, fun i hi => by rw [World.frozen?_setCells]; exact h.free i hi⟩
  · by_cases e : i = k
    · subst e; exact hin 0 (by simp)
    · rw [hout _ (by omega)]; exact h.c0 i hi (by omega)
  · by_cases e : i = k
    · subst e; exact hin 1 (by simp)
    · rw [hout _ (by omega)]; exact h.c1 i hi (by omega)
  · by_cases e : i = k
    · subst e; exact hin 2 (by simp)
    · rw [hout _ (by omega)]; exact h.c2 i hi (by omega)
  · by_cases e : i = k
    · subst e; exact hin 3 (by simp)
    · rw [hout _ (by omega)]; exact h.c3 i hi (by omega)
  · by_cases e : k * 4 ≤ i ∧ i < k * 4 + 4
    · obtain ⟨j, rfl⟩ : ∃ j, i = k * 4 + j := ⟨i - k * 4, by omega⟩
      rw [hin j (by simp; omega)]; rfl
    · rw [World.cell?_setCells_out B _ (k * 4) w _ (fun _ _ => by show i < k * 4 ∨ k * 4 + 4 ≤ i; omega)]; exact h.there i hi

theorem PnsLaid.start {w : World} {base n cap : Nat} {g : Nat} {e : TypeId} {xs : List Value} {rs : List Pn} (hn : n = rs.length) (h : w.ownsRow base e 4 (.slice (some ⟨g, 0, none⟩) n cap) n xs) : PnsLaid w g rs 0 := by
  obtain ⟨hl, h | ⟨g', cap', cur, hv, _, hh, hc, _, hsz, _⟩⟩ := h
  · simp at h
  · injection hv with hv _ hv3
    injection hv with hv
    injection hv with hv _
    subst hv hn hv3
    have hlt : g < w.heap.size := by
      by_cases hb : g < w.heap.size
      · exact hb
      · rw [Array.getElem?_eq_none (by omega)] at hh; simp at hh
    refine ⟨hlt, fun i hi hk => by omega, fun i hi hk => by omega, fun i hi hk => by omega, fun i hi hk => by omega, fun i hi => ?_, fun i hi => ?_⟩
    · have : i < cur.size := by rw [hsz]; have := Nat.mul_le_mul_right 4 hc; omega
      simp [World.cell?, hh, this]
    · simp [World.frozen?, hh]

set_option maxHeartbeats 1000000 in
theorem toNode_any (q : Pn) (w : World) :
    Calls Try.prog 76 #[.agg #[.int .i64 q.kids, .int .i64 q.leaf, .int .i64 q.base, .int .i64 q.leafs]] w fun e w' => e = .returned (.agg #[.int .i64 q.kids, .int .i64 q.leaf, .int .i64 q.base, .int .i64 q.leafs]) ∧ Below w.heap.size w w' := by
  go_enter Try.func76, Try.ntmps76
  go_wp2
  refine bodyPost_ret (v := .agg #[.int .i64 q.kids, .int .i64 q.leaf, .int .i64 q.base, .int .i64 q.leafs]) (by simp [results, Try.results76, go_sem]) rfl ⟨rfl, ?_⟩
  exact (((Below.refl _ _).alloc (Nat.le_refl _) _).alloc (by simp) _).alloc (by simp; omega) _

theorem Try.infoN : (Try.prog.info? 64).map (fun i => (i.zero, i.size, i.bytes)) = some (some (.agg #[.int .i64 0, .int .i64 0, .int .i64 0, .int .i64 0]), 4, 32) := by kernel_rfl

set_option maxRecDepth 100000 in
set_option maxHeartbeats 1000000 in
theorem toNodes_any (rs : List Pn) (a : Option Addr) (cap : Nat) (w : World) (hlen : rs.length ≤ 1048576) (hr : PnsIs w a rs) :
    Calls Try.prog 49 #[.slice a rs.length cap] w fun e w' => e = .returned (.slice (some ⟨w.heap.size, 0, none⟩) rs.length rs.length) ∧ Below w.heap.size w w' ∧ PnsLaid w' w.heap.size rs rs.length := by
  have HR : Hid (PnsIs w a rs) := hr
  clear hr
  obtain ⟨i0, hi, hz0, hz1, hz2⟩ := info_parts Try.infoN
  go_enter Try.func49, Try.ntmps49
  go_wp2_with (at_make; refine wpList_make_full _ rfl _ _ 24 rfl w.heap.size 64 i0 (.agg #[.int .i64 0, .int .i64 0, .int .i64 0, .int .i64 0]) 4 Try.underlying24 hi hz0 hz1 .i64 .i64 _ _ rs.length rfl rfl (by omega) (by omega) (by rw [hz2]; omega) (by unfold maxLen; omega) (Nat.le_refl _) ?_; intro w1 hown hgrow)
  have hlaid := PnsLaid.start (rs := rs) rfl hown
  have hbel : Below w.heap.size w w1 := ⟨hgrow.os, hgrow.tape, hgrow.output, hgrow.size, fun k hk => hgrow.block k hk (by simp)⟩
  have HY : Hid (PnsLaid w1 w.heap.size rs 0) := hlaid
  have HB : Hid (Below w.heap.size w w1) := hbel
  clear hown hgrow hlaid hbel hi hz0 hz1 hz2
  go_wp2_with fail
  go_loopw [4] (fun i wr => ∃ k : Nat, k ≤ rs.length ∧ i = .int .i64 k ∧ PnsLaid wr w.heap.size rs k ∧ Below w.heap.size w wr) (fun i _ => rs.length - (intOf i).toNat)
  case atStart => exact ⟨0, Nat.zero_le _, rfl, HY.out, HB.out⟩
  case round =>
    obtain ⟨k, hk, rfl, hy, hbel⟩ := hrel
    have HK : Hid (PnsLaid wr w.heap.size rs k) := hy
    have HL : Hid (Below w.heap.size w wr) := hbel
    clear hy hbel
    by_cases hlt : k < rs.length
    · obtain ⟨b, off, rfl, hb, hat⟩ : ∃ b off, a = some ⟨b, off, none⟩ ∧ b < w.heap.size ∧ PnsAt w b off rs := by
        rcases HR.out with h | h
        · rw [h] at hlt; simp at hlt
        · exact h
      have HA := PnsAt.below hat hb HL.out
      have c0 := HA.c0 k hlt
      have c1 := HA.c1 k hlt
      have c2 := HA.c2 k hlt
      have c3 := HA.c3 k hlt
      obtain ⟨q, hq⟩ : ∃ q, q = rs[k] := ⟨_, rfl⟩
      rw [← hq] at c0 c1 c2 c3
      have HQ : Hid (q = rs[k]) := hq
      have HC : Hid (∀ W, Calls Try.prog 76 #[.agg #[.int .i64 q.kids, .int .i64 q.leaf, .int .i64 q.base, .int .i64 q.leafs]] W fun e w' => e = .returned (.agg #[.int .i64 q.kids, .int .i64 q.leaf, .int .i64 q.base, .int .i64 q.leafs]) ∧ Below W.heap.size W w') := fun W => toNode_any q W
      clear hq HA hat
      go_wp2_with fail
      refine (HC.out _).mono ?_
      rintro e w2 ⟨rfl, q2⟩
      have HL2 : Hid (Below w.heap.size w w2) := HL.out.trans (q2.mono HL.out.size)
      have HK2 : Hid (PnsLaid w2 w.heap.size rs k) := HK.out.below HK.out.blk q2
      clear q2 c0 c1 c2 c3
      obtain ⟨v0, t0⟩ := Option.isSome_iff_exists.1 (HK2.out.there (k * 4) (by omega))
      obtain ⟨v1, t1⟩ := Option.isSome_iff_exists.1 (HK2.out.there (k * 4 + 1) (by omega))
      obtain ⟨v2, t2⟩ := Option.isSome_iff_exists.1 (HK2.out.there (k * 4 + 2) (by omega))
      obtain ⟨v3, t3⟩ := Option.isSome_iff_exists.1 (HK2.out.there (k * 4 + 3) (by omega))
      have f3 := HK2.out.free (k * 4 + 3) (by omega)
      have f0 := HK2.out.free (k * 4) (by omega)
      have f1 := HK2.out.free (k * 4 + 1) (by omega)
      have f2 := HK2.out.free (k * 4 + 2) (by omega)
      go_wp2_with fail
      go_roundw
      case rel =>
        have hset := HK2.out.set hlt
        rw [← HQ.out] at hset
        exact ⟨k + 1, by omega, by go_num, hset, (((HL2.out.setCell (Nat.le_refl _) _).setCell (Nat.le_refl _) _).setCell (Nat.le_refl _) _).setCell (Nat.le_refl _) _⟩
      case measure => simp [intOf]; omega
    · have hkl : k = rs.length := by omega
      have HE : Hid (PnsLaid wr w.heap.size rs rs.length) := by unfold Hid; rw [← hkl]; exact HK.out
      clear HK
      go_wp2_with fail
      go_ret
      exact ⟨rfl, HL.out, HE.out⟩

end Go.Proofs.Ytmhkhbpedfdocah
