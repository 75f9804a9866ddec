/- LawBind: the laws' helpers for Bind, its box, and one that came in, opened. Printed by mkflat.py. -/
import Derived.Test.YtkakehchiadpbalK1
import Derived.Test.YtkakehchiadpbalK4
namespace Go.Proofs.Ytkakehchiadpbal
open Go.RowKit Go.PlainAid Go.ChangeShapes Go.WideShapes
set_option linter.unusedVariables false
set_option linter.unusedSimpArgs false

theorem arr5Bind {α : Type} {cs : Array α} (h : cs.size = 5) : ∃ c0 c1 c2 c3 c4, cs = #[c0, c1, c2, c3, c4] := by
  obtain ⟨l⟩ := cs
  match l, h with
  | [c0, c1, c2, c3, c4], _ => exact ⟨c0, c1, c2, c3, c4, rfl⟩

/-- As memory may hold it. -/
def BdWf (p : Bd) : Prop := In64t p.proto ∧ p.inn.size ≤ maxLen ∧ In64t p.inPort ∧ p.out.size ≤ maxLen ∧ In64t p.outPort
/-- Its texts are in the laws' limits. -/
def BdSm (p : Bd) : Prop := p.inn.size ≤ 1048576 ∧ p.out.size ≤ 1048576
def szBindV (p : Bd) : Int := szN [p.inn.size, p.out.size] 1048576
theorem szBind_in {p : Bd} (h : 0 ≤ szBindV p) : BdSm p := by
  have hb := szN_bound _ _ h
  exact ⟨by have := hb p.inn.size (by simp); omega, by have := hb p.out.size (by simp); omega⟩
/-- It lies in a block. -/
structure BoxBind (w : World) (B : Nat) (p : Bd) : Prop where
  c0 : w.cell? ⟨B, 0, none⟩ = some (.int .i64 p.proto)
  c1 : w.cell? ⟨B, 1, none⟩ = some (.string p.inn)
  c2 : w.cell? ⟨B, 2, none⟩ = some (.int .i64 p.inPort)
  c3 : w.cell? ⟨B, 3, none⟩ = some (.string p.out)
  c4 : w.cell? ⟨B, 4, none⟩ = some (.int .i64 p.outPort)
theorem BoxBind.kept {w W : World} {B : Nat} {p : Bd} (h : BoxBind w B p) (hB : Below w.heap.size w W) : BoxBind W B p := by
  have hb := World.block_lt_of_cell? w _ h.c0
  exact ⟨((bcell hB).1 B 0 hb).trans h.c0, ((bcell hB).1 B 1 hb).trans h.c1, ((bcell hB).1 B 2 hb).trans h.c2, ((bcell hB).1 B 3 hb).trans h.c3, ((bcell hB).1 B 4 hb).trans h.c4⟩
theorem BoxBind.new (w : World) (p : Bd) {t : TypeId} : BoxBind (w.alloc (.cells #[.int .i64 p.proto, .string p.inn, .int .i64 p.inPort, .string p.out, .int .i64 p.outPort] t)) w.heap.size p := ⟨cell_new rfl, cell_new rfl, cell_new rfl, cell_new rfl, cell_new rfl⟩

section
variable {H : Type} {enc : TypeId × Value → H} {w : World} {base : Nat} {spare : Nat → Bool} {held : Bool}
set_option maxRecDepth 100000 in
theorem open_Bind {r : Reach} {b0 : Nat} {v : Value} {d : DataW H} {p : List MemPlace} (hv : Value.okWide Try.prog w r b0 101 v) (h : DataW.Trod enc Try.prog w base spare held 101 v d p) :
    ∃ q : Bd, v = bdC q ∧ BdWf q := by
  obtain ⟨cs, rfl, hsz⟩ := okWide_struct Try.underlying101 hv
  obtain ⟨c0, c1, c2, c3, c4, rfl⟩ := arr5Bind (hsz.trans (show Try.prog.cellsOf 101 = 5 by kernel_rfl))
  obtain ⟨fuel, hf⟩ := h
  obtain ⟨m0, y0, h0⟩ := flat_field Try.underlying101 hf 0 _ rfl rfl (show Try.prog.cellsOf 2 = 1 by kernel_rfl) c0 rfl
  obtain ⟨x0, e0, _, g0⟩ := DataW.trod_int Try.underlying2 h0
  obtain ⟨m1, y1, h1⟩ := flat_field Try.underlying101 hf 1 _ rfl rfl (show Try.prog.cellsOf 9 = 1 by kernel_rfl) c1 rfl
  obtain ⟨x1, e1, _, g1⟩ := DataW.trod_string Try.underlying9 h1
  obtain ⟨m2, y2, h2⟩ := flat_field Try.underlying101 hf 2 _ rfl rfl (show Try.prog.cellsOf 2 = 1 by kernel_rfl) c2 rfl
  obtain ⟨x2, e2, _, g2⟩ := DataW.trod_int Try.underlying2 h2
  obtain ⟨m3, y3, h3⟩ := flat_field Try.underlying101 hf 3 _ rfl rfl (show Try.prog.cellsOf 9 = 1 by kernel_rfl) c3 rfl
  obtain ⟨x3, e3, _, g3⟩ := DataW.trod_string Try.underlying9 h3
  obtain ⟨m4, y4, h4⟩ := flat_field Try.underlying101 hf 4 _ rfl rfl (show Try.prog.cellsOf 2 = 1 by kernel_rfl) c4 rfl
  obtain ⟨x4, e4, _, g4⟩ := DataW.trod_int Try.underlying2 h4
  simp only [List.cons.injEq, and_true] at e0 e1 e2 e3 e4
  subst e0 e1 e2 e3 e4
  exact ⟨⟨x0, x1, x2, x3, x4⟩, rfl, wf64s g0, g1, wf64s g2, g3, wf64s g4⟩
end

set_option maxRecDepth 100000 in
set_option maxHeartbeats 1000000 in
theorem szBind_any (p : Bd) (w : World) (hw : BdWf p) :
    Calls Try.prog 71 #[bdC p, .int .i64 1048576] w fun e w' => e = .returned (.int .i64 (szBindV p)) ∧ Below w.heap.size w w' := by
  have HV0 : Hid (szBindV p = szN [p.inn.size, p.out.size] 1048576) := rfl
  obtain ⟨q_proto, q_inn, q_inPort, q_out, q_outPort⟩ := hw
  generalize szBindV p = ans at *
  obtain ⟨proto, inn, inPort, out, outPort⟩ := p
  unfold bdC
  dsimp only at *
  unfold maxLen at *
  clear q_proto q_inPort q_outPort
  have HZ : Hid (Below w.heap.size w (w.alloc (.cells #[.int .i64 proto, .string inn, .int .i64 inPort, .string out, .int .i64 outPort] 101))) := (Below.refl _ _).alloc (Nat.le_refl _) _
  by_cases l0 : (1048576 : Int) < (inn.size : Int)
  · have HV : Hid (ans = -1) := by unfold Hid; rw [HV0.out, szN_yes l0]
    clear HV0
    go_enter Try.func71, Try.ntmps71
    go_wp2_with fail
    go_ret
    exact ⟨ret_int HV.out.symm, HZ.out⟩
  · skip
    by_cases l1 : (1048576 : Int) - inn.size < (out.size : Int)
    · have HV : Hid (ans = -1) := by unfold Hid; rw [HV0.out, szN_no l0, szN_yes l1]
      clear HV0
      go_enter Try.func71, Try.ntmps71
      go_wp2_with fail
      go_ret
      exact ⟨ret_int HV.out.symm, HZ.out⟩
    · have HV : Hid (ans = (1048576 : Int) - inn.size - out.size) := by unfold Hid; rw [HV0.out, szN_no l0, szN_no l1]; rfl
      clear HV0
      go_enter Try.func71, Try.ntmps71
      go_wp2_with fail
      go_ret
      exact ⟨ret_int HV.out.symm, HZ.out⟩

set_option maxRecDepth 100000 in
set_option maxHeartbeats 1000000 in
theorem toBind_any (p : Bd) (w : World) :
    Calls Try.prog 73 #[bdC p] w fun e w' => e = .returned (bdC p) ∧ Below w.heap.size w w' := by
  obtain ⟨proto, inn, inPort, out, outPort⟩ := p
  unfold bdC
  dsimp only
  go_enter Try.func73, Try.ntmps73
  go_wp2_with fail
  refine bodyPost_ret (v := .agg #[.int .i64 proto, .string inn, .int .i64 inPort, .string out, .int .i64 outPort]) (by simp [results, Try.results73, go_sem]) rfl ⟨rfl, ?_⟩
  exact (((Below.refl _ _).alloc (Nat.le_refl _) _).alloc (by simp) _).alloc (by simp; omega) _

set_option maxRecDepth 100000 in
set_option maxHeartbeats 1000000 in
theorem eqBind_same (p : Bd) (w : World) :
    Calls Try.prog 20 #[bdC p, bdC p] w fun e w' => e = .returned (.bool true) ∧ Below w.heap.size w w' := by
  obtain ⟨proto, inn, inPort, out, outPort⟩ := p
  unfold bdC
  dsimp only
  have HZ : Hid (Below w.heap.size w ((w.alloc (.cells #[.int .i64 proto, .string inn, .int .i64 inPort, .string out, .int .i64 outPort] 49)).alloc (.cells #[.int .i64 proto, .string inn, .int .i64 inPort, .string out, .int .i64 outPort] 49))) := ((Below.refl _ _).alloc (Nat.le_refl _) _).alloc (by simp) _
  go_enter Try.func20, Try.ntmps20
  go_wp2_with fail
  go_ret
  exact ⟨rfl, HZ.out⟩

end Go.Proofs.Ytkakehchiadpbal
