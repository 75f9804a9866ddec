/- LawBucket: the laws' helpers for Bucket, its box, and one that came in, opened. Printed by mkflat.py. -/
import Derived.Test.YtellgkeakiikkaaFlat
import Derived.Test.YtellgkeakiikkaaBuck
namespace Go.Proofs.Ytellgkeakiikkaa
open Go.RowKit Go.PlainAid Go.ChangeShapes Go.WideShapes
set_option linter.unusedVariables false
set_option linter.unusedSimpArgs false

theorem arr4Bucket {α : Type} {cs : Array α} (h : cs.size = 4) : ∃ c0 c1 c2 c3, cs = #[c0, c1, c2, c3] := by
  obtain ⟨l⟩ := cs
  match l, h with
  | [c0, c1, c2, c3], _ => exact ⟨c0, c1, c2, c3, rfl⟩

/-- As memory may hold it. -/
def BkWf (p : Bk) : Prop := In64t p.left ∧ In64t p.most ∧ In64t p.each ∧ In64t p.since
/-- It lies in a block. -/
structure BoxBucket (w : World) (B : Nat) (p : Bk) : Prop where
  c0 : w.cell? ⟨B, 0, none⟩ = some (.int .i64 p.left)
  c1 : w.cell? ⟨B, 1, none⟩ = some (.int .i64 p.most)
  c2 : w.cell? ⟨B, 2, none⟩ = some (.int .i64 p.each)
  c3 : w.cell? ⟨B, 3, none⟩ = some (.int .i64 p.since)
theorem BoxBucket.kept {w W : World} {B : Nat} {p : Bk} (h : BoxBucket w B p) (hB : Below w.heap.size w W) : BoxBucket W B p := by
  have hb := World.block_lt_of_cell? w _ h.c0
  exact ⟨((bcell hB).1 B 0 hb).trans h.c0, ((bcell hB).1 B 1 hb).trans h.c1, ((bcell hB).1 B 2 hb).trans h.c2, ((bcell hB).1 B 3 hb).trans h.c3⟩
theorem BoxBucket.new (w : World) (p : Bk) {t : TypeId} : BoxBucket (w.alloc (.cells #[.int .i64 p.left, .int .i64 p.most, .int .i64 p.each, .int .i64 p.since] t)) w.heap.size p := ⟨cell_new rfl, cell_new rfl, cell_new rfl, cell_new rfl⟩

section
variable {H : Type} {enc : TypeId × Value → H} {w : World} {base : Nat} {spare : Nat → Bool} {held : Bool}
set_option maxRecDepth 100000 in
theorem open_Bucket {r : Reach} {b0 : Nat} {v : Value} {d : DataW H} {p : List MemPlace} (hv : Value.okWide Try.prog w r b0 51 v) (h : DataW.Trod enc Try.prog w base spare held 51 v d p) :
    ∃ q : Bk, v = bkC q ∧ BkWf q := by
  obtain ⟨cs, rfl, hsz⟩ := okWide_struct Try.underlying51 hv
  obtain ⟨c0, c1, c2, c3, rfl⟩ := arr4Bucket (hsz.trans (show Try.prog.cellsOf 51 = 4 by kernel_rfl))
  obtain ⟨fuel, hf⟩ := h
  obtain ⟨m0, y0, h0⟩ := flat_field Try.underlying51 hf 0 _ rfl rfl (show Try.prog.cellsOf 2 = 1 by kernel_rfl) c0 rfl
  obtain ⟨x0, e0, _, g0⟩ := DataW.trod_int Try.underlying2 h0
  obtain ⟨m1, y1, h1⟩ := flat_field Try.underlying51 hf 1 _ rfl rfl (show Try.prog.cellsOf 2 = 1 by kernel_rfl) c1 rfl
  obtain ⟨x1, e1, _, g1⟩ := DataW.trod_int Try.underlying2 h1
  obtain ⟨m2, y2, h2⟩ := flat_field Try.underlying51 hf 2 _ rfl rfl (show Try.prog.cellsOf 2 = 1 by kernel_rfl) c2 rfl
  obtain ⟨x2, e2, _, g2⟩ := DataW.trod_int Try.underlying2 h2
  obtain ⟨m3, y3, h3⟩ := flat_field Try.underlying51 hf 3 _ rfl rfl (show Try.prog.cellsOf 2 = 1 by kernel_rfl) c3 rfl
  obtain ⟨x3, e3, _, g3⟩ := DataW.trod_int Try.underlying2 h3
  simp only [List.cons.injEq, and_true] at e0 e1 e2 e3
  subst e0 e1 e2 e3
  exact ⟨⟨x0, x1, x2, x3⟩, rfl, wf64s g0, wf64s g1, wf64s g2, wf64s g3⟩
end

set_option maxRecDepth 100000 in
set_option maxHeartbeats 1000000 in
theorem toBucket_any (p : Bk) (w : World) :
    Calls Try.prog 25 #[bkC p] w fun e w' => e = .returned (bkC p) ∧ Below w.heap.size w w' := by
  obtain ⟨left, most, each, since⟩ := p
  unfold bkC
  dsimp only
  go_enter Try.func25, Try.ntmps25
  go_wp2_with fail
  refine bodyPost_ret (v := .agg #[.int .i64 left, .int .i64 most, .int .i64 each, .int .i64 since]) (by simp [results, Try.results25, go_sem]) rfl ⟨rfl, ?_⟩
  exact (((Below.refl _ _).alloc (Nat.le_refl _) _).alloc (by simp) _).alloc (by simp; omega) _

set_option maxRecDepth 100000 in
set_option maxHeartbeats 1000000 in
theorem eqBucket_same (p : Bk) (w : World) :
    Calls Try.prog 68 #[bkC p, bkC p] w fun e w' => e = .returned (.bool true) ∧ Below w.heap.size w w' := by
  obtain ⟨left, most, each, since⟩ := p
  unfold bkC
  dsimp only
  have HZ : Hid (Below w.heap.size w ((w.alloc (.cells #[.int .i64 left, .int .i64 most, .int .i64 each, .int .i64 since] 24)).alloc (.cells #[.int .i64 left, .int .i64 most, .int .i64 each, .int .i64 since] 24))) := ((Below.refl _ _).alloc (Nat.le_refl _) _).alloc (by simp) _
  go_enter Try.func68, Try.ntmps68
  go_wp2_with fail
  go_ret
  exact ⟨rfl, HZ.out⟩

end Go.Proofs.Ytellgkeakiikkaa
