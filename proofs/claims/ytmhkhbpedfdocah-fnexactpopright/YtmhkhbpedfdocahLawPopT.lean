/- LawPopT: toPop. -/
import Derived.Test.YtmhkhbpedfdocahLawPopQ
namespace Go.Proofs.Ytmhkhbpedfdocah
open Go.RowKit Go.PlainAid
set_option linter.unusedVariables false
set_option linter.unusedSimpArgs false

theorem PnsLaid.setOther {w : World} {B X o : Nat} {rs : List Pn} {k : Nat} (h : PnsLaid w B rs k) (hne : B ≠ X) (v : Value) : PnsLaid (w.setCell ⟨X, o, none⟩ v) B rs k := by
  have ho : ∀ i, (w.setCell ⟨X, o, none⟩ v).cell? ⟨B, i, none⟩ = w.cell? ⟨B, i, none⟩ := fun i => World.cell?_setCell_other _ _ _ _ (fun e => hne (by injection e with h1 h2; exact h1.symm))
  exact ⟨Nat.lt_of_lt_of_le h.blk ((Below.refl 0 w).setCell (Nat.zero_le _) _).size, fun i hi hk => (ho _).trans (h.c0 i hi hk), fun i hi hk => (ho _).trans (h.c1 i hi hk), fun i hi hk => (ho _).trans (h.c2 i hi hk), fun i hi hk => (ho _).trans (h.c3 i hi hk), fun i hi => by rw [ho]; exact h.there i hi, fun i hi => by rw [World.frozen?_setCell]; exact h.free i hi⟩

theorem IntsLaid.setOther {w : World} {B X o : Nat} {rs : List Int} {k : Nat} (h : IntsLaid w B rs k) (hne : B ≠ X) (v : Value) : IntsLaid (w.setCell ⟨X, o, none⟩ v) B rs k := by
  have ho : ∀ i, (w.setCell ⟨X, o, none⟩ v).cell? ⟨B, i, none⟩ = w.cell? ⟨B, i, none⟩ := fun i => World.cell?_setCell_other _ _ _ _ (fun e => hne (by injection e with h1 h2; exact h1.symm))
  exact ⟨Nat.lt_of_lt_of_le h.blk ((Below.refl 0 w).setCell (Nat.zero_le _) _).size, fun i hi hk => (ho _).trans (h.c i hi hk), fun i hi => by rw [ho]; exact h.there i hi, fun i hi => by rw [World.frozen?_setCell]; exact h.free i hi⟩

theorem blk_cell {w : World} {B : Nat} {cs : Array Value} {t : TypeId} (h : w.heap[B]? = some (.cells cs t (0, 0))) (j : Nat) : w.cell? ⟨B, j, none⟩ = cs[j]? ∧ w.frozen? ⟨B, j, none⟩ = false := by
  refine ⟨?_, ?_⟩
  · unfold World.cell?; rw [show (⟨B, j, none⟩ : Addr).block = B from rfl, h]; rfl
  · simp [World.frozen?, h]
theorem three_heap {w : World} {c1 c2 c3 : Array Value} {t1 t2 t3 : TypeId} : (((w.alloc (.cells c1 t1)).alloc (.cells c2 t2)).alloc (.cells c3 t3)).heap[w.heap.size]? = some (.cells c1 t1 (0, 0)) ∧ (((w.alloc (.cells c1 t1)).alloc (.cells c2 t2)).alloc (.cells c3 t3)).heap[w.heap.size + 1]? = some (.cells c2 t2 (0, 0)) ∧ (((w.alloc (.cells c1 t1)).alloc (.cells c2 t2)).alloc (.cells c3 t3)).heap[w.heap.size + 1 + 1]? = some (.cells c3 t3 (0, 0)) := by
  refine ⟨?_, ?_, ?_⟩
  · show (((w.heap.push _).push _).push _)[w.heap.size]? = _
    rw [Array.getElem?_push, if_neg (by simp; omega), Array.getElem?_push, if_neg (by simp), Array.getElem?_push, if_pos rfl]
  · show (((w.heap.push _).push _).push _)[w.heap.size + 1]? = _
    rw [Array.getElem?_push, if_neg (by simp), Array.getElem?_push, if_pos (by simp)]
  · show (((w.heap.push _).push _).push _)[w.heap.size + 1 + 1]? = _
    rw [Array.getElem?_push, if_pos (by simp)]

set_option maxHeartbeats 1000000 in
theorem toPop_any (ns : List Pn) (ls : List Int) (a1 a2 : Option Addr) (cap1 cap2 : Nat) (w : World) (hl1 : ns.length ≤ 1048576) (hl2 : ls.length ≤ 1048576) (h1 : PnsIs w a1 ns) (h2 : IntsIs w a2 ls) :
    Calls Try.prog 19 #[.agg #[.slice a1 ns.length cap1, .slice a2 ls.length cap2]] w fun e w' => ∃ B C : Nat, e = .returned (.agg #[.slice (some ⟨B, 0, none⟩) ns.length ns.length, .slice (some ⟨C, 0, none⟩) ls.length ls.length]) ∧ Below w.heap.size w w' ∧ w.heap.size ≤ B ∧ w.heap.size ≤ C ∧ PnsLaid w' B ns ns.length ∧ IntsLaid w' C ls ls.length := by
  have HN : Hid (∀ W, Below w.heap.size w W → Calls Try.prog 49 #[.slice a1 ns.length cap1] W fun e w' => e = .returned (.slice (some ⟨W.heap.size, 0, none⟩) ns.length ns.length) ∧ Below W.heap.size W w' ∧ PnsLaid w' W.heap.size ns ns.length) := fun W hW => toNodes_any ns a1 cap1 W hl1 (h1.below hW)
  have HI : Hid (∀ W, Below w.heap.size w W → Calls Try.prog 50 #[.slice a2 ls.length cap2] W fun e w' => e = .returned (.slice (some ⟨W.heap.size, 0, none⟩) ls.length ls.length) ∧ Below W.heap.size W w' ∧ IntsLaid w' W.heap.size ls ls.length) := fun W hW => toInts_any ls a2 cap2 W hl2 (h2.below hW)
  have HB : Hid (Below w.heap.size w (((w.alloc (.cells #[.slice a1 ns.length cap1, .slice a2 ls.length cap2] 38)).alloc (.cells #[.slice none 0 0, .slice none 0 0] 27)).alloc (.cells #[.slice none 0 0, .slice none 0 0] 27))) := (((Below.refl _ _).alloc (Nat.le_refl _) _).alloc (by simp) _).alloc (by simp; omega) _
  clear h1 h2
  go_enter Try.func19, Try.ntmps19
  go_wp2_with fail
  refine (HN.out _ HB.out).mono ?_
  rintro e w1 ⟨rfl, q1, y1⟩
  obtain ⟨hc, hf⟩ := bcell q1
  have z0 : w1.cell? ⟨w.heap.size, 1, none⟩ = some (.slice a2 ls.length cap2) := (hc _ _ (by rw [three_size]; omega)).trans (blk_cell three_heap.1 1).1
  have r0 : w1.cell? ⟨w.heap.size + 1, 0, none⟩ = some (.slice none 0 0) := (hc _ _ (by rw [three_size]; omega)).trans (blk_cell three_heap.2.1 0).1
  have r1 : w1.cell? ⟨w.heap.size + 1, 1, none⟩ = some (.slice none 0 0) := (hc _ _ (by rw [three_size]; omega)).trans (blk_cell three_heap.2.1 1).1
  have o0 : w1.cell? ⟨w.heap.size + 1 + 1, 0, none⟩ = some (.slice none 0 0) := (hc _ _ (by rw [three_size]; omega)).trans (blk_cell three_heap.2.2 0).1
  have o1 : w1.cell? ⟨w.heap.size + 1 + 1, 1, none⟩ = some (.slice none 0 0) := (hc _ _ (by rw [three_size]; omega)).trans (blk_cell three_heap.2.2 1).1
  have p0 : w1.frozen? ⟨w.heap.size + 1 + 1, 0, none⟩ = false := (hf _ _ (by rw [three_size]; omega)).trans (blk_cell three_heap.2.2 0).2
  have p1 : w1.frozen? ⟨w.heap.size + 1 + 1, 1, none⟩ = false := (hf _ _ (by rw [three_size]; omega)).trans (blk_cell three_heap.2.2 1).2
  have s0 : w1.frozen? ⟨w.heap.size + 1, 0, none⟩ = false := (hf _ _ (by rw [three_size]; omega)).trans (blk_cell three_heap.2.1 0).2
  have s1 : w1.frozen? ⟨w.heap.size + 1, 1, none⟩ = false := (hf _ _ (by rw [three_size]; omega)).trans (blk_cell three_heap.2.1 1).2
  have HW1 : Hid (Below w.heap.size w w1) := three_back q1
  rw [three_size] at y1 ⊢
  have HY : Hid (PnsLaid w1 (w.heap.size + 3) ns ns.length) := y1
  clear q1 y1 hc hf
  go_wp2_with fail
  have HW2 : Hid (Below w.heap.size w (w1.setCell ⟨w.heap.size + 1 + 1, 0, none⟩ (.slice (some ⟨w.heap.size + 3, 0, none⟩) ns.length ns.length))) := HW1.out.setCell (show w.heap.size ≤ w.heap.size + 1 + 1 by omega) _
  have HY2 : Hid (PnsLaid (w1.setCell ⟨w.heap.size + 1 + 1, 0, none⟩ (.slice (some ⟨w.heap.size + 3, 0, none⟩) ns.length ns.length)) (w.heap.size + 3) ns ns.length) := HY.out.setOther (by omega) _
  have hzs : w.heap.size + 3 < w1.heap.size := HY.out.blk
  have t0 : (w1.setCell ⟨w.heap.size + 1 + 1, 0, none⟩ (.slice (some ⟨w.heap.size + 3, 0, none⟩) ns.length ns.length)).cell? ⟨w.heap.size + 1 + 1, 0, none⟩ = some (.slice (some ⟨w.heap.size + 3, 0, none⟩) ns.length ns.length) := World.cell?_setCell_same _ _ _ o0
  have ot : ∀ X i, (X ≠ w.heap.size + 1 + 1 ∨ i ≠ 0) → (w1.setCell ⟨w.heap.size + 1 + 1, 0, none⟩ (.slice (some ⟨w.heap.size + 3, 0, none⟩) ns.length ns.length)).cell? ⟨X, i, none⟩ = w1.cell? ⟨X, i, none⟩ := fun X i hne => World.cell?_setCell_other _ _ _ _ (fun e => by injection e with e1 e2; omega)
  have u1 := (ot (w.heap.size + 1 + 1) 1 (by omega)).trans o1
  have v0 := (ot (w.heap.size + 1) 0 (by omega)).trans r0
  have v1 := (ot (w.heap.size + 1) 1 (by omega)).trans r1
  have fz : ∀ X i, (w1.setCell ⟨w.heap.size + 1 + 1, 0, none⟩ (.slice (some ⟨w.heap.size + 3, 0, none⟩) ns.length ns.length)).frozen? ⟨X, i, none⟩ = w1.frozen? ⟨X, i, none⟩ := fun X i => by rw [World.frozen?_setCell]
  have x1 := (fz (w.heap.size + 1 + 1) 1).trans p1
  have s0 := (fz (w.heap.size + 1) 0).trans s0
  have s1 := (fz (w.heap.size + 1) 1).trans s1
  have hV : w.heap.size + 3 < (w1.setCell ⟨w.heap.size + 1 + 1, 0, none⟩ (.slice (some ⟨w.heap.size + 3, 0, none⟩) ns.length ns.length)).heap.size := HY2.out.blk
  clear ot fz o0 o1 r0 r1 p0 p1 z0
  generalize w1.setCell ⟨w.heap.size + 1 + 1, 0, none⟩ (.slice (some ⟨w.heap.size + 3, 0, none⟩) ns.length ns.length) = V at *
  refine (HI.out _ HW2.out).mono ?_
  rintro e w2 ⟨rfl, q2, y2⟩
  obtain ⟨hc, hf⟩ := bcell q2
  have a0 := (hc (w.heap.size + 1 + 1) 0 (by omega)).trans t0
  have a1' := (hc (w.heap.size + 1 + 1) 1 (by omega)).trans u1
  have b0 := (hc (w.heap.size + 1) 0 (by omega)).trans v0
  have b1 := (hc (w.heap.size + 1) 1 (by omega)).trans v1
  have c1 := (hf (w.heap.size + 1 + 1) 1 (by omega)).trans x1
  have d0 := (hf (w.heap.size + 1) 0 (by omega)).trans s0
  have d1 := (hf (w.heap.size + 1) 1 (by omega)).trans s1
  have HW3 : Hid (Below w.heap.size w w2) := HW2.out.trans (q2.mono HW2.out.size)
  have HY3 : Hid (PnsLaid w2 (w.heap.size + 3) ns ns.length) := HY2.out.below hV q2
  have HZ : Hid (IntsLaid w2 V.heap.size ls ls.length) := y2
  have hVs : w.heap.size ≤ V.heap.size := by omega
  clear hc hf q2 y2 t0 u1 v0 v1 x1 s0 s1 HY HY2 HW1 HW2
  generalize V.heap.size = C at *
  go_wp2_with fail
  have HF : Hid (PnsLaid (((w2.setCell ⟨w.heap.size + 1 + 1, 1, none⟩ (.slice (some ⟨C, 0, none⟩) ls.length ls.length)).setCell ⟨w.heap.size + 1, 0, none⟩ (.slice (some ⟨w.heap.size + 3, 0, none⟩) ns.length ns.length)).setCell ⟨w.heap.size + 1, 1, none⟩ (.slice (some ⟨C, 0, none⟩) ls.length ls.length)) (w.heap.size + 3) ns ns.length) := ((HY3.out.setOther (by omega) _).setOther (by omega) _).setOther (by omega) _
  exact bodyPost_ret (v := .agg #[.slice (some ⟨w.heap.size + 3, 0, none⟩) ns.length ns.length, .slice (some ⟨C, 0, none⟩) ls.length ls.length]) (by simp [results, Try.results19, go_sem, b0, b1]) rfl ⟨w.heap.size + 3, C, rfl, ((HW3.out.setCell (show w.heap.size ≤ w.heap.size + 1 + 1 by omega) _).setCell (show w.heap.size ≤ w.heap.size + 1 by omega) _).setCell (show w.heap.size ≤ w.heap.size + 1 by omega) _, by omega, hVs, HF.out, ((HZ.out.setOther (by omega) _).setOther (by omega) _).setOther (by omega) _⟩

end Go.Proofs.Ytmhkhbpedfdocah
