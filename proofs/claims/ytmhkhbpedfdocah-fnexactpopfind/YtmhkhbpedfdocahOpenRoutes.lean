/- OpenRoutes: a slice of the laws' routes that came in, opened. -/
import Derived.Test.YtmhkhbpedfdocahRoutes
import Derived.Deep.Slices
import Derived.WideShapes
namespace Go.Proofs.Ytmhkhbpedfdocah
open Go.RowKit Go.PlainAid Go.ChangeShapes Go.WideShapes
set_option linter.unusedVariables false
set_option linter.unusedSimpArgs false

/-- A slice of routes that came in. -/
def RtsIs (w : World) (a : Option Addr) (rs : List Rt) : Prop := rs = [] ∨ ∃ b off, a = some ⟨b, off, none⟩ ∧ b < w.heap.size ∧ RtsAt w b off rs

/-- Routes as memory may hold them. -/
def RtsWf (rs : List Rt) : Prop := rs.length ≤ maxLen ∧ ∀ q ∈ rs, q.addr.size ≤ maxLen ∧ (-9223372036854775808 ≤ q.bits ∧ q.bits ≤ 9223372036854775807) ∧ (-9223372036854775808 ≤ q.hop ∧ q.hop ≤ 9223372036854775807)

theorem RtsIs.below {w W : World} {a : Option Addr} {rs : List Rt} (h : RtsIs w a rs) (hB : Below w.heap.size w W) : RtsIs W a rs := by
  rcases h with h | ⟨b, off, ha, hb, hr⟩
  · exact .inl h
  · exact .inr ⟨b, off, ha, Nat.lt_of_lt_of_le hb hB.size, hr.below hb hB⟩

instance : Inhabited Rt := ⟨⟨ByteArray.empty, 0, 0⟩⟩

section
variable {H : Type} {enc : TypeId × Value → H} {w : World} {base : Nat} {spare : Nat → Bool} {held : Bool}

theorem wf64 {n : Int} (h : (Lit.int .i64 n).wf = true) : -9223372036854775808 ≤ n ∧ n ≤ 9223372036854775807 := by
  have := h; simp [Lit.wf] at this; exact ⟨this.1, this.2⟩

set_option maxRecDepth 100000 in
theorem route_elem {n : Nat} {cs : List Value} {y : DataW H × List MemPlace} (h : DataW.trod enc Try.prog w base spare held n 57 cs = some y) :
    ∃ q : Rt, cs = [.string q.addr, .int .i64 q.bits, .int .i64 q.hop] ∧ q.addr.size ≤ maxLen ∧ (-9223372036854775808 ≤ q.bits ∧ q.bits ≤ 9223372036854775807) ∧ (-9223372036854775808 ≤ q.hop ∧ q.hop ≤ 9223372036854775807) := by
  obtain ⟨xs, m, _, _, hl, hx, hf⟩ := DataW.trod_struct Try.underlying57 h
  rw [show Try.prog.cellsOf 57 = 3 by kernel_rfl] at hl
  match cs, hl with
  | [c0, c1, c2], _ =>
    have h0 : DataW.trod enc Try.prog w base spare held m 55 (([c0, c1, c2].drop 0).take (Try.prog.cellsOf 55)) = xs[0]? := hf 0 _ rfl
    have h1 : DataW.trod enc Try.prog w base spare held m 2 (([c0, c1, c2].drop 2).take (Try.prog.cellsOf 2)) = xs[1]? := hf 1 _ rfl
    have hx0 : 0 < xs.length := by rw [hx]; simp
    have hx1 : 1 < xs.length := by rw [hx]; simp
    rw [List.getElem?_eq_getElem hx0] at h0
    rw [List.getElem?_eq_getElem hx1] at h1
    rw [show Try.prog.cellsOf 55 = 2 by kernel_rfl] at h0
    rw [show Try.prog.cellsOf 2 = 1 by kernel_rfl] at h1
    simp at h0 h1
    obtain ⟨ys, m2, _, _, _, hy, hg⟩ := DataW.trod_struct Try.underlying55 h0
    have g0 : DataW.trod enc Try.prog w base spare held m2 9 (([c0, c1].drop 0).take (Try.prog.cellsOf 9)) = ys[0]? := hg 0 _ rfl
    have g1 : DataW.trod enc Try.prog w base spare held m2 2 (([c0, c1].drop 1).take (Try.prog.cellsOf 2)) = ys[1]? := hg 1 _ rfl
    have hy0 : 0 < ys.length := by rw [hy]; simp
    have hy1 : 1 < ys.length := by rw [hy]; simp
    rw [List.getElem?_eq_getElem hy0] at g0
    rw [List.getElem?_eq_getElem hy1] at g1
    rw [show Try.prog.cellsOf 9 = 1 by kernel_rfl] at g0
    rw [show Try.prog.cellsOf 2 = 1 by kernel_rfl] at g1
    simp at g0 g1
    obtain ⟨s, es, _, ws⟩ := DataW.trod_string Try.underlying9 g0
    obtain ⟨b, eb, _, wb⟩ := DataW.trod_int Try.underlying2 g1
    obtain ⟨k, ek, _, wk⟩ := DataW.trod_int Try.underlying2 h1
    simp only [List.cons.injEq, and_true] at es eb ek
    subst es eb ek
    exact ⟨⟨s, b, k⟩, rfl, ws, wf64 wb, wf64 wk⟩

theorem open_routes {fuel : Nat} {a : Option Addr} {len cap : Nat} {x : DataW H × List MemPlace} (h : DataW.trod enc Try.prog w base spare held fuel 22 [.slice a len cap] = some x) :
    ∃ rs : List Rt, rs.length = len ∧ RtsWf rs ∧ RtsIs w a rs := by
  rcases Go.Deep.open_slice Try.underlying22 h with ⟨hcs, _⟩ | ⟨a', len', cap', m, n, D, Pl, hcs, _, hl, hm, hmm, _, hel⟩
  · simp at hcs
    obtain ⟨rfl, rfl, rfl⟩ := hcs
    exact ⟨[], rfl, ⟨by simp, fun q hq => by simp at hq⟩, .inl rfl⟩
  · simp at hcs
    obtain ⟨rfl, rfl, rfl⟩ := hcs
    have hle : len ≤ m := by rw [hmm]; split <;> omega
    rw [show Try.prog.cellsOf 57 = 3 by kernel_rfl] at hel
    have hq : ∀ i, i < len → ∃ q : Rt, w.cells? base (a'.add (i * 3)) 3 = some [.string q.addr, .int .i64 q.bits, .int .i64 q.hop] ∧ q.addr.size ≤ maxLen ∧ (-9223372036854775808 ≤ q.bits ∧ q.bits ≤ 9223372036854775807) ∧ (-9223372036854775808 ≤ q.hop ∧ q.hop ≤ 9223372036854775807) := fun i hi => by
      obtain ⟨cs', h1, h2⟩ := hel i (by omega)
      obtain ⟨q, rfl, hq⟩ := route_elem h2
      exact ⟨q, h1, hq⟩
    obtain ⟨f, hf⟩ := Go.Deep.choose_lt hq
    have hcell : ∀ i, i < len → w.cell? (a'.add (i * 3)) = some (.string (f i).addr) ∧ w.cell? (a'.add (i * 3 + 1)) = some (.int .i64 (f i).bits) ∧ w.cell? (a'.add (i * 3 + 2)) = some (.int .i64 (f i).hop) := fun i hi => by
      have h1 := (hf i hi).1
      unfold World.cells? at h1
      split at h1
      · rw [show List.range 3 = [0, 1, 2] from rfl] at h1
        simp only [List.mapM_cons, List.mapM_nil, Go.Deep.add_add] at h1
        simp only [Option.bind_eq_bind, Option.bind_eq_some_iff, Option.pure_def, Option.some.injEq, List.cons.injEq] at h1
        obtain ⟨v0, e0, r1, ⟨v1, e1, r2, ⟨v2, e2, r3, hr3, hr2⟩, hr1⟩, hv0, hr0⟩ := h1
        subst hv0
        subst hr1
        simp only [List.cons.injEq] at hr0
        obtain ⟨rfl, hr0⟩ := hr0
        subst hr2
        simp only [List.cons.injEq] at hr0
        obtain ⟨rfl, _⟩ := hr0
        exact ⟨by simpa using e0, e1, e2⟩
      · simp at h1
    refine ⟨(List.range len).map f, by simp, ⟨by simp; omega, fun q hq => ?_⟩, ?_⟩
    · simp only [List.mem_map, List.mem_range] at hq
      obtain ⟨i, hi, rfl⟩ := hq
      exact (hf i hi).2
    · by_cases h0 : len = 0
      · subst h0; exact .inl rfl
      · right
        have hc0 := (hcell 0 (by omega)).1
        obtain ⟨b, off, spot⟩ := a'
        have hz : ((⟨b, off, spot⟩ : Addr).add (0 * 3)) = ⟨b, off, spot⟩ := rfl
        rw [hz] at hc0
        have hspot : spot = none := by
          unfold World.cell? at hc0
          split at hc0
          · cases spot with
            | none => rfl
            | some _ => simp at hc0
          · simp at hc0
        subst hspot
        have hblk : b < w.heap.size := by
          unfold World.cell? at hc0
          by_cases hb : b < w.heap.size
          · exact hb
          · rw [show w.heap[(⟨b, off, none⟩ : Addr).block]? = none from Array.getElem?_eq_none (by show w.heap.size ≤ b; omega)] at hc0
            simp at hc0
        have hadd : ∀ n, ((⟨b, off, none⟩ : Addr).add n) = ⟨b, off + n, none⟩ := fun n => by
          unfold Addr.add; split
          · next e => subst e; rfl
          · rfl
        refine ⟨b, off, rfl, hblk, ⟨fun i hi => ?_, fun i hi => ?_, fun i hi => ?_⟩⟩
        · have := (hcell i (by simpa using hi)).1; rw [hadd] at this; simpa using this
        · have := (hcell i (by simpa using hi)).2.1; rw [hadd] at this; simpa [Nat.add_assoc] using this
        · have := (hcell i (by simpa using hi)).2.2; rw [hadd] at this; simpa [Nat.add_assoc] using this
end

end Go.Proofs.Ytmhkhbpedfdocah
