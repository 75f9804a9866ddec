/- LawLives: the laws' helpers for Lives, its box, and one that came in, opened. Printed by mkflat.py. -/
import Derived.Test.YtkakehchiadpbalK1
import Derived.Test.YtkakehchiadpbalK4
namespace Go.Proofs.Ytkakehchiadpbal
open Go.RowKit Go.PlainAid Go.ChangeShapes Go.WideShapes
set_option linter.unusedVariables false
set_option linter.unusedSimpArgs false

theorem arr5Lives {α : Type} {cs : Array α} (h : cs.size = 5) : ∃ c0 c1 c2 c3 c4, cs = #[c0, c1, c2, c3, c4] := by
  obtain ⟨l⟩ := cs
  match l, h with
  | [c0, c1, c2, c3, c4], _ => exact ⟨c0, c1, c2, c3, c4, rfl⟩

/-- As memory may hold it. -/
def LvWf (p : Lv) : Prop := In64t p.udp ∧ In64t p.echo ∧ In64t p.opening ∧ In64t p.opn ∧ In64t p.closing
/-- It lies in a block. -/
structure BoxLives (w : World) (B : Nat) (p : Lv) : Prop where
  c0 : w.cell? ⟨B, 0, none⟩ = some (.int .i64 p.udp)
  c1 : w.cell? ⟨B, 1, none⟩ = some (.int .i64 p.echo)
  c2 : w.cell? ⟨B, 2, none⟩ = some (.int .i64 p.opening)
  c3 : w.cell? ⟨B, 3, none⟩ = some (.int .i64 p.opn)
  c4 : w.cell? ⟨B, 4, none⟩ = some (.int .i64 p.closing)
theorem BoxLives.kept {w W : World} {B : Nat} {p : Lv} (h : BoxLives w B p) (hB : Below w.heap.size w W) : BoxLives W B p := by
  have hb := World.block_lt_of_cell? w _ h.c0
  exact ⟨((bcell hB).1 B 0 hb).trans h.c0, ((bcell hB).1 B 1 hb).trans h.c1, ((bcell hB).1 B 2 hb).trans h.c2, ((bcell hB).1 B 3 hb).trans h.c3, ((bcell hB).1 B 4 hb).trans h.c4⟩
theorem BoxLives.new (w : World) (p : Lv) {t : TypeId} : BoxLives (w.alloc (.cells #[.int .i64 p.udp, .int .i64 p.echo, .int .i64 p.opening, .int .i64 p.opn, .int .i64 p.closing] t)) w.heap.size p := ⟨cell_new rfl, cell_new rfl, cell_new rfl, cell_new rfl, cell_new rfl⟩

section
variable {H : Type} {enc : TypeId × Value → H} {w : World} {base : Nat} {spare : Nat → Bool} {held : Bool}
set_option maxRecDepth 100000 in
theorem open_Lives {r : Reach} {b0 : Nat} {v : Value} {d : DataW H} {p : List MemPlace} (hv : Value.okWide Try.prog w r b0 24 v) (h : DataW.Trod enc Try.prog w base spare held 24 v d p) :
    ∃ q : Lv, v = lvC q ∧ LvWf q := by
  obtain ⟨cs, rfl, hsz⟩ := okWide_struct Try.underlying24 hv
  obtain ⟨c0, c1, c2, c3, c4, rfl⟩ := arr5Lives (hsz.trans (show Try.prog.cellsOf 24 = 5 by kernel_rfl))
  obtain ⟨fuel, hf⟩ := h
  obtain ⟨m0, y0, h0⟩ := flat_field Try.underlying24 hf 0 _ rfl rfl (show Try.prog.cellsOf 2 = 1 by kernel_rfl) c0 rfl
  obtain ⟨x0, e0, _, g0⟩ := DataW.trod_int Try.underlying2 h0
  obtain ⟨m1, y1, h1⟩ := flat_field Try.underlying24 hf 1 _ rfl rfl (show Try.prog.cellsOf 2 = 1 by kernel_rfl) c1 rfl
  obtain ⟨x1, e1, _, g1⟩ := DataW.trod_int Try.underlying2 h1
  obtain ⟨m2, y2, h2⟩ := flat_field Try.underlying24 hf 2 _ rfl rfl (show Try.prog.cellsOf 2 = 1 by kernel_rfl) c2 rfl
  obtain ⟨x2, e2, _, g2⟩ := DataW.trod_int Try.underlying2 h2
  obtain ⟨m3, y3, h3⟩ := flat_field Try.underlying24 hf 3 _ rfl rfl (show Try.prog.cellsOf 2 = 1 by kernel_rfl) c3 rfl
  obtain ⟨x3, e3, _, g3⟩ := DataW.trod_int Try.underlying2 h3
  obtain ⟨m4, y4, h4⟩ := flat_field Try.underlying24 hf 4 _ rfl rfl (show Try.prog.cellsOf 2 = 1 by kernel_rfl) c4 rfl
  obtain ⟨x4, e4, _, g4⟩ := DataW.trod_int Try.underlying2 h4
  simp only [List.cons.injEq, and_true] at e0 e1 e2 e3 e4
  subst e0 e1 e2 e3 e4
  exact ⟨⟨x0, x1, x2, x3, x4⟩, rfl, wf64s g0, wf64s g1, wf64s g2, wf64s g3, wf64s g4⟩
end

set_option maxRecDepth 100000 in
set_option maxHeartbeats 1000000 in
theorem toLives_any (p : Lv) (w : World) :
    Calls Try.prog 35 #[lvC p] w fun e w' => e = .returned (lvC p) ∧ Below w.heap.size w w' := by
  obtain ⟨udp, echo, opening, opn, closing⟩ := p
  unfold lvC
  dsimp only
  go_enter Try.func35, Try.ntmps35
  go_wp2_with fail
  refine bodyPost_ret (v := .agg #[.int .i64 udp, .int .i64 echo, .int .i64 opening, .int .i64 opn, .int .i64 closing]) (by simp [results, Try.results35, go_sem]) rfl ⟨rfl, ?_⟩
  exact (((Below.refl _ _).alloc (Nat.le_refl _) _).alloc (by simp) _).alloc (by simp; omega) _

set_option maxRecDepth 100000 in
set_option maxHeartbeats 1000000 in
theorem eqLives_same (p : Lv) (w : World) :
    Calls Try.prog 39 #[lvC p, lvC p] w fun e w' => e = .returned (.bool true) ∧ Below w.heap.size w w' := by
  obtain ⟨udp, echo, opening, opn, closing⟩ := p
  unfold lvC
  dsimp only
  have HZ : Hid (Below w.heap.size w ((w.alloc (.cells #[.int .i64 udp, .int .i64 echo, .int .i64 opening, .int .i64 opn, .int .i64 closing] 29)).alloc (.cells #[.int .i64 udp, .int .i64 echo, .int .i64 opening, .int .i64 opn, .int .i64 closing] 29))) := ((Below.refl _ _).alloc (Nat.le_refl _) _).alloc (by simp) _
  go_enter Try.func39, Try.ntmps39
  go_wp2_with fail
  go_ret
  exact ⟨rfl, HZ.out⟩

end Go.Proofs.Ytkakehchiadpbal
