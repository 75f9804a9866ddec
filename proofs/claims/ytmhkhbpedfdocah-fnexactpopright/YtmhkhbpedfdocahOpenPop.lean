/- OpenPop: the slices of a table that came in, opened. -/
import Derived.Test.YtmhkhbpedfdocahPopRight
import Derived.Test.YtmhkhbpedfdocahOpenRoutes
namespace Go.Proofs.Ytmhkhbpedfdocah
open Go.RowKit Go.PlainAid Go.ChangeShapes Go.WideShapes
set_option linter.unusedVariables false
set_option linter.unusedSimpArgs false

section
variable {H : Type} {enc : TypeId × Value → H} {w : World} {base : Nat} {spare : Nat → Bool} {held : Bool}

theorem trod_slice_form {fuel : Nat} {t e : TypeId} {v : Value} {x : DataW H × List MemPlace} (ht : Try.prog.underlying t = some (.slice e)) (h : DataW.trod enc Try.prog w base spare held fuel t [v] = some x) : ∃ a len cap, v = .slice a len cap := by
  rcases Go.Deep.open_slice ht h with ⟨hcs, _⟩ | ⟨a, len, cap, _, _, _, _, hcs, _⟩
  · simp at hcs; exact ⟨_, _, _, hcs⟩
  · simp at hcs; exact ⟨_, _, _, hcs⟩

set_option maxRecDepth 100000 in
theorem node_elem {n : Nat} {cs : List Value} {y : DataW H × List MemPlace} (h : DataW.trod enc Try.prog w base spare held n 126 cs = some y) :
    ∃ x : Pn, cs = [.int .i64 x.kids, .int .i64 x.leaf, .int .i64 x.base, .int .i64 x.leafs] ∧ In64s x.kids ∧ In64s x.leaf ∧ In64s x.base ∧ In64s x.leafs := by
  obtain ⟨xs, m, _, _, hl, hx, hf⟩ := DataW.trod_struct Try.underlying126 h
  rw [show Try.prog.cellsOf 126 = 4 by kernel_rfl] at hl
  match cs, hl with
  | [c0, c1, c2, c3], _ =>
    have h0 : DataW.trod enc Try.prog w base spare held m 2 (([c0, c1, c2, c3].drop 0).take (Try.prog.cellsOf 2)) = xs[0]? := hf 0 _ rfl
    have h1 : DataW.trod enc Try.prog w base spare held m 2 (([c0, c1, c2, c3].drop 1).take (Try.prog.cellsOf 2)) = xs[1]? := hf 1 _ rfl
    have h2 : DataW.trod enc Try.prog w base spare held m 2 (([c0, c1, c2, c3].drop 2).take (Try.prog.cellsOf 2)) = xs[2]? := hf 2 _ rfl
    have h3 : DataW.trod enc Try.prog w base spare held m 2 (([c0, c1, c2, c3].drop 3).take (Try.prog.cellsOf 2)) = xs[3]? := hf 3 _ rfl
    have hxl : xs.length = 4 := by rw [hx]; rfl
    rw [List.getElem?_eq_getElem (by omega)] at h0 h1 h2 h3
    rw [show Try.prog.cellsOf 2 = 1 by kernel_rfl] at h0 h1 h2 h3
    simp at h0 h1 h2 h3
    obtain ⟨a, ea, _, wa⟩ := DataW.trod_int Try.underlying2 h0
    obtain ⟨b, eb, _, wb⟩ := DataW.trod_int Try.underlying2 h1
    obtain ⟨c, ec, _, wc⟩ := DataW.trod_int Try.underlying2 h2
    obtain ⟨d, ed, _, wd⟩ := DataW.trod_int Try.underlying2 h3
    simp only [List.cons.injEq, and_true] at ea eb ec ed
    subst ea eb ec ed
    exact ⟨⟨a, b, c, d⟩, rfl, wf64 wa, wf64 wb, wf64 wc, wf64 wd⟩

theorem open_nodes {fuel : Nat} {a : Option Addr} {len cap : Nat} {x : DataW H × List MemPlace} (h : DataW.trod enc Try.prog w base spare held fuel 36 [.slice a len cap] = some x) :
    ∃ rs : List Pn, rs.length = len ∧ (rs.length ≤ maxLen ∧ PnsIn rs) ∧ PnsIs w a rs := by
  rcases Go.Deep.open_slice Try.underlying36 h with ⟨hcs, _⟩ | ⟨a', len', cap', m, n, D, Pl, hcs, _, hl, hm, hmm, _, hel⟩
  · simp at hcs
    obtain ⟨rfl, rfl, rfl⟩ := hcs
    exact ⟨[], rfl, ⟨by simp, fun q hq => by simp at hq⟩, .inl rfl⟩
  · simp at hcs
    obtain ⟨rfl, rfl, rfl⟩ := hcs
    have hle : len ≤ m := by rw [hmm]; split <;> omega
    rw [show Try.prog.cellsOf 126 = 4 by kernel_rfl] at hel
    have hq : ∀ i, i < len → ∃ q : Pn, w.cells? base (a'.add (i * 4)) 4 = some [.int .i64 q.kids, .int .i64 q.leaf, .int .i64 q.base, .int .i64 q.leafs] ∧ In64s q.kids ∧ In64s q.leaf ∧ In64s q.base ∧ In64s q.leafs := fun i hi => by
      obtain ⟨cs', h1, h2⟩ := hel i (by omega)
      obtain ⟨q, rfl, hq⟩ := node_elem h2
      exact ⟨q, h1, hq⟩
    obtain ⟨f, hf⟩ := Go.Deep.choose_lt hq
    have hcell : ∀ i, i < len → w.cell? (a'.add (i * 4)) = some (.int .i64 (f i).kids) ∧ w.cell? (a'.add (i * 4 + 1)) = some (.int .i64 (f i).leaf) ∧ w.cell? (a'.add (i * 4 + 2)) = some (.int .i64 (f i).base) ∧ w.cell? (a'.add (i * 4 + 3)) = some (.int .i64 (f i).leafs) := fun i hi => by
      have h1 := (hf i hi).1
      unfold World.cells? at h1
      split at h1
      · rw [show List.range 4 = [0, 1, 2, 3] from rfl] at h1
        simp only [List.mapM_cons, List.mapM_nil, Go.Deep.add_add] at h1
        simp only [Option.bind_eq_bind, Option.bind_eq_some_iff, Option.pure_def, Option.some.injEq, List.cons.injEq] at h1
        obtain ⟨v0, e0, r1, ⟨v1, e1, r2, ⟨v2, e2, r3, ⟨v3, e3, r4, hr4, hr3⟩, hr2⟩, hr1⟩, hv0, hr0⟩ := h1
        subst hv0
        subst hr1
        simp only [List.cons.injEq] at hr0
        obtain ⟨rfl, hr0⟩ := hr0
        subst hr2
        simp only [List.cons.injEq] at hr0
        obtain ⟨rfl, hr0⟩ := hr0
        subst hr3
        simp only [List.cons.injEq] at hr0
        obtain ⟨rfl, _⟩ := hr0
        exact ⟨by simpa using e0, e1, e2, e3⟩
      · simp at h1
    refine ⟨(List.range len).map f, by simp, ⟨by simp; omega, fun q hq => ?_⟩, ?_⟩
    · simp only [List.mem_map, List.mem_range] at hq
      obtain ⟨i, hi, rfl⟩ := hq
      exact (hf i hi).2
    · by_cases h0 : len = 0
      · subst h0; exact .inl rfl
      · right
        have hc0 := (hcell 0 (by omega)).1
        obtain ⟨b, off, spot⟩ := a'
        have hz : ((⟨b, off, spot⟩ : Addr).add (0 * 4)) = ⟨b, off, spot⟩ := rfl
        rw [hz] at hc0
        have hspot : spot = none := by
          unfold World.cell? at hc0
          split at hc0
          · cases spot with
            | none => rfl
            | some _ => simp at hc0
          · simp at hc0
        subst hspot
        have hblk : b < w.heap.size := by
          unfold World.cell? at hc0
          by_cases hb : b < w.heap.size
          · exact hb
          · rw [show w.heap[(⟨b, off, none⟩ : Addr).block]? = none from Array.getElem?_eq_none (by show w.heap.size ≤ b; omega)] at hc0
            simp at hc0
        have hadd : ∀ n, ((⟨b, off, none⟩ : Addr).add n) = ⟨b, off + n, none⟩ := fun n => by
          unfold Addr.add; split
          · next e => subst e; rfl
          · rfl
        refine ⟨b, off, rfl, hblk, ⟨fun i hi => ?_, fun i hi => ?_, fun i hi => ?_, fun i hi => ?_⟩⟩
        · have := (hcell i (by simpa using hi)).1; rw [hadd] at this; simpa using this
        · have := (hcell i (by simpa using hi)).2.1; rw [hadd] at this; simpa [Nat.add_assoc] using this
        · have := (hcell i (by simpa using hi)).2.2.1; rw [hadd] at this; simpa [Nat.add_assoc] using this
        · have := (hcell i (by simpa using hi)).2.2.2; rw [hadd] at this; simpa [Nat.add_assoc] using this

theorem open_leaves {fuel : Nat} {a : Option Addr} {len cap : Nat} {x : DataW H × List MemPlace} (h : DataW.trod enc Try.prog w base spare held fuel 25 [.slice a len cap] = some x) :
    ∃ ls : List Int, ls.length = len ∧ (ls.length ≤ maxLen ∧ IntsIn ls) ∧ IntsIs w a ls := by
  rcases Go.Deep.open_slice Try.underlying25 h with ⟨hcs, _⟩ | ⟨a', len', cap', m, n, D, Pl, hcs, _, hl, hm, hmm, _, hel⟩
  · simp at hcs
    obtain ⟨rfl, rfl, rfl⟩ := hcs
    exact ⟨[], rfl, ⟨by simp, fun q hq => by simp at hq⟩, .inl rfl⟩
  · simp at hcs
    obtain ⟨rfl, rfl, rfl⟩ := hcs
    have hle : len ≤ m := by rw [hmm]; split <;> omega
    rw [show Try.prog.cellsOf 2 = 1 by kernel_rfl] at hel
    have hq : ∀ i, i < len → ∃ q : Int, w.cell? (a'.add i) = some (.int .i64 q) ∧ In64s q := fun i hi => by
      obtain ⟨cs', h1, h2⟩ := hel i (by omega)
      obtain ⟨q, rfl, _, hq⟩ := DataW.trod_int Try.underlying2 h2
      refine ⟨q, ?_, wf64 hq⟩
      unfold World.cells? at h1
      split at h1
      · rw [show List.range 1 = [0] from rfl, Nat.mul_one] at h1
        simp only [List.mapM_cons, List.mapM_nil, Go.Deep.add_add] at h1
        simp only [Option.bind_eq_bind, Option.bind_eq_some_iff, Option.pure_def, Option.some.injEq, List.cons.injEq] at h1
        obtain ⟨v0, e0, r1, _, hv0, _⟩ := h1
        subst hv0
        simpa using e0
      · simp at h1
    obtain ⟨f, hf⟩ := Go.Deep.choose_lt hq
    refine ⟨(List.range len).map f, by simp, ⟨by simp; omega, fun q hq => ?_⟩, ?_⟩
    · simp only [List.mem_map, List.mem_range] at hq
      obtain ⟨i, hi, rfl⟩ := hq
      exact (hf i hi).2
    · by_cases h0 : len = 0
      · subst h0; exact .inl rfl
      · right
        have hc0 := (hf 0 (by omega)).1
        obtain ⟨b, off, spot⟩ := a'
        have hz : ((⟨b, off, spot⟩ : Addr).add 0) = ⟨b, off, spot⟩ := rfl
        rw [hz] at hc0
        have hspot : spot = none := by
          unfold World.cell? at hc0
          split at hc0
          · cases spot with
            | none => rfl
            | some _ => simp at hc0
          · simp at hc0
        subst hspot
        have hblk : b < w.heap.size := by
          unfold World.cell? at hc0
          by_cases hb : b < w.heap.size
          · exact hb
          · rw [show w.heap[(⟨b, off, none⟩ : Addr).block]? = none from Array.getElem?_eq_none (by show w.heap.size ≤ b; omega)] at hc0
            simp at hc0
        have hadd : ∀ n, ((⟨b, off, none⟩ : Addr).add n) = ⟨b, off + n, none⟩ := fun n => by
          unfold Addr.add; split
          · next e => subst e; rfl
          · rfl
        refine ⟨b, off, rfl, hblk, fun i hi => ?_⟩
        have := (hf i (by simpa using hi)).1; rw [hadd] at this; simpa using this
end

end Go.Proofs.Ytmhkhbpedfdocah
