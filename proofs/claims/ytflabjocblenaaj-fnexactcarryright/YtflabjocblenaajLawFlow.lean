/- LawFlow: the laws' helpers for Flow, its box, and one that came in, opened. Printed by mkflat.py. -/
import Derived.Test.YtflabjocblenaajFlat
import Derived.Test.YtflabjocblenaajCarry
namespace Go.Proofs.Ytflabjocblenaaj
open Go.RowKit Go.PlainAid Go.ChangeShapes Go.WideShapes
set_option linter.unusedVariables false
set_option linter.unusedSimpArgs false

theorem arr5 {α : Type} {cs : Array α} (h : cs.size = 5) : ∃ c0 c1 c2 c3 c4, cs = #[c0, c1, c2, c3, c4] := by
  obtain ⟨l⟩ := cs
  match l, h with
  | [c0, c1, c2, c3, c4], _ => exact ⟨c0, c1, c2, c3, c4, rfl⟩

/-- As memory may hold it. -/
def FlWf (p : Fl) : Prop := In64t p.proto ∧ p.src.size ≤ maxLen ∧ p.dst.size ≤ maxLen ∧ In64t p.sp ∧ In64t p.dp
/-- Its texts are in the laws' limits. -/
def FlSm (p : Fl) : Prop := p.src.size ≤ 1048576 ∧ p.dst.size ≤ 1048576
def szFlowV (p : Fl) : Int := szN [p.src.size, p.dst.size] 1048576
theorem szFlow_in {p : Fl} (h : 0 ≤ szFlowV p) : FlSm p := by
  have hb := szN_bound _ _ h
  exact ⟨by have := hb p.src.size (by simp); omega, by have := hb p.dst.size (by simp); omega⟩
/-- It lies in a block. -/
structure BoxFlow (w : World) (B : Nat) (p : Fl) : Prop where
  c0 : w.cell? ⟨B, 0, none⟩ = some (.int .i64 p.proto)
  c1 : w.cell? ⟨B, 1, none⟩ = some (.string p.src)
  c2 : w.cell? ⟨B, 2, none⟩ = some (.string p.dst)
  c3 : w.cell? ⟨B, 3, none⟩ = some (.int .i64 p.sp)
  c4 : w.cell? ⟨B, 4, none⟩ = some (.int .i64 p.dp)
theorem BoxFlow.kept {w W : World} {B : Nat} {p : Fl} (h : BoxFlow w B p) (hB : Below w.heap.size w W) : BoxFlow W B p := by
  have hb := World.block_lt_of_cell? w _ h.c0
  exact ⟨((bcell hB).1 B 0 hb).trans h.c0, ((bcell hB).1 B 1 hb).trans h.c1, ((bcell hB).1 B 2 hb).trans h.c2, ((bcell hB).1 B 3 hb).trans h.c3, ((bcell hB).1 B 4 hb).trans h.c4⟩
theorem BoxFlow.new (w : World) (p : Fl) {t : TypeId} : BoxFlow (w.alloc (.cells #[.int .i64 p.proto, .string p.src, .string p.dst, .int .i64 p.sp, .int .i64 p.dp] t)) w.heap.size p := ⟨cell_new rfl, cell_new rfl, cell_new rfl, cell_new rfl, cell_new rfl⟩

section
variable {H : Type} {enc : TypeId × Value → H} {w : World} {base : Nat} {spare : Nat → Bool} {held : Bool}
set_option maxRecDepth 100000 in
theorem open_Flow {r : Reach} {b0 : Nat} {v : Value} {d : DataW H} {p : List MemPlace} (hv : Value.okWide Try.prog w r b0 24 v) (h : DataW.Trod enc Try.prog w base spare held 24 v d p) :
    ∃ q : Fl, v = fwC q ∧ FlWf q := by
  obtain ⟨cs, rfl, hsz⟩ := okWide_struct Try.underlying24 hv
  obtain ⟨c0, c1, c2, c3, c4, rfl⟩ := arr5 (hsz.trans (show Try.prog.cellsOf 24 = 5 by kernel_rfl))
  obtain ⟨fuel, hf⟩ := h
  obtain ⟨m0, y0, h0⟩ := flat_field Try.underlying24 hf 0 _ rfl rfl (show Try.prog.cellsOf 2 = 1 by kernel_rfl) c0 rfl
  obtain ⟨x0, e0, _, g0⟩ := DataW.trod_int Try.underlying2 h0
  obtain ⟨m1, y1, h1⟩ := flat_field Try.underlying24 hf 1 _ rfl rfl (show Try.prog.cellsOf 9 = 1 by kernel_rfl) c1 rfl
  obtain ⟨x1, e1, _, g1⟩ := DataW.trod_string Try.underlying9 h1
  obtain ⟨m2, y2, h2⟩ := flat_field Try.underlying24 hf 2 _ rfl rfl (show Try.prog.cellsOf 9 = 1 by kernel_rfl) c2 rfl
  obtain ⟨x2, e2, _, g2⟩ := DataW.trod_string Try.underlying9 h2
  obtain ⟨m3, y3, h3⟩ := flat_field Try.underlying24 hf 3 _ rfl rfl (show Try.prog.cellsOf 2 = 1 by kernel_rfl) c3 rfl
  obtain ⟨x3, e3, _, g3⟩ := DataW.trod_int Try.underlying2 h3
  obtain ⟨m4, y4, h4⟩ := flat_field Try.underlying24 hf 4 _ rfl rfl (show Try.prog.cellsOf 2 = 1 by kernel_rfl) c4 rfl
  obtain ⟨x4, e4, _, g4⟩ := DataW.trod_int Try.underlying2 h4
  simp only [List.cons.injEq, and_true] at e0 e1 e2 e3 e4
  subst e0 e1 e2 e3 e4
  exact ⟨⟨x0, x1, x2, x3, x4⟩, rfl, wf64s g0, g1, g2, wf64s g3, wf64s g4⟩
end

set_option maxRecDepth 100000 in
set_option maxHeartbeats 1000000 in
theorem szFlow_any (p : Fl) (w : World) (hw : FlWf p) :
    Calls Try.prog 9 #[fwC p, .int .i64 1048576] w fun e w' => e = .returned (.int .i64 (szFlowV p)) ∧ Below w.heap.size w w' := by
  have HV0 : Hid (szFlowV p = szN [p.src.size, p.dst.size] 1048576) := rfl
  obtain ⟨q_proto, q_src, q_dst, q_sp, q_dp⟩ := hw
  generalize szFlowV p = ans at *
  obtain ⟨proto, src, dst, sp, dp⟩ := p
  unfold fwC
  dsimp only at *
  unfold maxLen at *
  clear q_proto q_sp q_dp
  have HZ : Hid (Below w.heap.size w (w.alloc (.cells #[.int .i64 proto, .string src, .string dst, .int .i64 sp, .int .i64 dp] 24))) := (Below.refl _ _).alloc (Nat.le_refl _) _
  by_cases l0 : (1048576 : Int) < (src.size : Int)
  · have HV : Hid (ans = -1) := by unfold Hid; rw [HV0.out, szN_yes l0]
    clear HV0
    go_enter Try.func9, Try.ntmps9
    go_wp2_with fail
    go_ret
    exact ⟨ret_int HV.out.symm, HZ.out⟩
  · skip
    by_cases l1 : (1048576 : Int) - src.size < (dst.size : Int)
    · have HV : Hid (ans = -1) := by unfold Hid; rw [HV0.out, szN_no l0, szN_yes l1]
      clear HV0
      go_enter Try.func9, Try.ntmps9
      go_wp2_with fail
      go_ret
      exact ⟨ret_int HV.out.symm, HZ.out⟩
    · have HV : Hid (ans = (1048576 : Int) - src.size - dst.size) := by unfold Hid; rw [HV0.out, szN_no l0, szN_no l1]; rfl
      clear HV0
      go_enter Try.func9, Try.ntmps9
      go_wp2_with fail
      go_ret
      exact ⟨ret_int HV.out.symm, HZ.out⟩

set_option maxRecDepth 100000 in
set_option maxHeartbeats 1000000 in
theorem toFlow_any (p : Fl) (w : World) :
    Calls Try.prog 11 #[fwC p] w fun e w' => e = .returned (fwC p) ∧ Below w.heap.size w w' := by
  obtain ⟨proto, src, dst, sp, dp⟩ := p
  unfold fwC
  dsimp only
  go_enter Try.func11, Try.ntmps11
  go_wp2_with fail
  refine bodyPost_ret (v := .agg #[.int .i64 proto, .string src, .string dst, .int .i64 sp, .int .i64 dp]) (by simp [results, Try.results11, go_sem]) rfl ⟨rfl, ?_⟩
  exact (((Below.refl _ _).alloc (Nat.le_refl _) _).alloc (by simp) _).alloc (by simp; omega) _



end Go.Proofs.Ytflabjocblenaaj
