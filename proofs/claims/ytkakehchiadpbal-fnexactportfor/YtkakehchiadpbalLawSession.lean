/- LawSession: the laws' helpers for Session, its box, and one that came in, opened. Printed by mkflat.py. -/
import Derived.Test.YtkakehchiadpbalK1
import Derived.Test.YtkakehchiadpbalK4
namespace Go.Proofs.Ytkakehchiadpbal
open Go.RowKit Go.PlainAid Go.ChangeShapes Go.WideShapes
set_option linter.unusedVariables false
set_option linter.unusedSimpArgs false

theorem arr7Session {α : Type} {cs : Array α} (h : cs.size = 7) : ∃ c0 c1 c2 c3 c4 c5 c6, cs = #[c0, c1, c2, c3, c4, c5, c6] := by
  obtain ⟨l⟩ := cs
  match l, h with
  | [c0, c1, c2, c3, c4, c5, c6], _ => exact ⟨c0, c1, c2, c3, c4, c5, c6, rfl⟩

/-- As memory may hold it. -/
def SsWf (p : Ss) : Prop := In64t p.proto ∧ p.inn.size ≤ maxLen ∧ In64t p.inPort ∧ p.peer.size ≤ maxLen ∧ In64t p.peerPort ∧ In64t p.state ∧ In64t p.untl
/-- Its texts are in the laws' limits. -/
def SsSm (p : Ss) : Prop := p.inn.size ≤ 1048576 ∧ p.peer.size ≤ 1048576
def szSessionV (p : Ss) : Int := szN [p.inn.size, p.peer.size] 1048576
theorem szSession_in {p : Ss} (h : 0 ≤ szSessionV p) : SsSm p := by
  have hb := szN_bound _ _ h
  exact ⟨by have := hb p.inn.size (by simp); omega, by have := hb p.peer.size (by simp); omega⟩
/-- It lies in a block. -/
structure BoxSession (w : World) (B : Nat) (p : Ss) : Prop where
  c0 : w.cell? ⟨B, 0, none⟩ = some (.int .i64 p.proto)
  c1 : w.cell? ⟨B, 1, none⟩ = some (.string p.inn)
  c2 : w.cell? ⟨B, 2, none⟩ = some (.int .i64 p.inPort)
  c3 : w.cell? ⟨B, 3, none⟩ = some (.string p.peer)
  c4 : w.cell? ⟨B, 4, none⟩ = some (.int .i64 p.peerPort)
  c5 : w.cell? ⟨B, 5, none⟩ = some (.int .i64 p.state)
  c6 : w.cell? ⟨B, 6, none⟩ = some (.int .i64 p.untl)
theorem BoxSession.kept {w W : World} {B : Nat} {p : Ss} (h : BoxSession w B p) (hB : Below w.heap.size w W) : BoxSession W B p := by
  have hb := World.block_lt_of_cell? w _ h.c0
  exact ⟨((bcell hB).1 B 0 hb).trans h.c0, ((bcell hB).1 B 1 hb).trans h.c1, ((bcell hB).1 B 2 hb).trans h.c2, ((bcell hB).1 B 3 hb).trans h.c3, ((bcell hB).1 B 4 hb).trans h.c4, ((bcell hB).1 B 5 hb).trans h.c5, ((bcell hB).1 B 6 hb).trans h.c6⟩
theorem BoxSession.new (w : World) (p : Ss) {t : TypeId} : BoxSession (w.alloc (.cells #[.int .i64 p.proto, .string p.inn, .int .i64 p.inPort, .string p.peer, .int .i64 p.peerPort, .int .i64 p.state, .int .i64 p.untl] t)) w.heap.size p := ⟨cell_new rfl, cell_new rfl, cell_new rfl, cell_new rfl, cell_new rfl, cell_new rfl, cell_new rfl⟩

section
variable {H : Type} {enc : TypeId × Value → H} {w : World} {base : Nat} {spare : Nat → Bool} {held : Bool}
set_option maxRecDepth 100000 in
theorem open_Session {r : Reach} {b0 : Nat} {v : Value} {d : DataW H} {p : List MemPlace} (hv : Value.okWide Try.prog w r b0 103 v) (h : DataW.Trod enc Try.prog w base spare held 103 v d p) :
    ∃ q : Ss, v = ssC q ∧ SsWf q := by
  obtain ⟨cs, rfl, hsz⟩ := okWide_struct Try.underlying103 hv
  obtain ⟨c0, c1, c2, c3, c4, c5, c6, rfl⟩ := arr7Session (hsz.trans (show Try.prog.cellsOf 103 = 7 by kernel_rfl))
  obtain ⟨fuel, hf⟩ := h
  obtain ⟨m0, y0, h0⟩ := flat_field Try.underlying103 hf 0 _ rfl rfl (show Try.prog.cellsOf 2 = 1 by kernel_rfl) c0 rfl
  obtain ⟨x0, e0, _, g0⟩ := DataW.trod_int Try.underlying2 h0
  obtain ⟨m1, y1, h1⟩ := flat_field Try.underlying103 hf 1 _ rfl rfl (show Try.prog.cellsOf 9 = 1 by kernel_rfl) c1 rfl
  obtain ⟨x1, e1, _, g1⟩ := DataW.trod_string Try.underlying9 h1
  obtain ⟨m2, y2, h2⟩ := flat_field Try.underlying103 hf 2 _ rfl rfl (show Try.prog.cellsOf 2 = 1 by kernel_rfl) c2 rfl
  obtain ⟨x2, e2, _, g2⟩ := DataW.trod_int Try.underlying2 h2
  obtain ⟨m3, y3, h3⟩ := flat_field Try.underlying103 hf 3 _ rfl rfl (show Try.prog.cellsOf 9 = 1 by kernel_rfl) c3 rfl
  obtain ⟨x3, e3, _, g3⟩ := DataW.trod_string Try.underlying9 h3
  obtain ⟨m4, y4, h4⟩ := flat_field Try.underlying103 hf 4 _ rfl rfl (show Try.prog.cellsOf 2 = 1 by kernel_rfl) c4 rfl
  obtain ⟨x4, e4, _, g4⟩ := DataW.trod_int Try.underlying2 h4
  obtain ⟨m5, y5, h5⟩ := flat_field Try.underlying103 hf 5 _ rfl rfl (show Try.prog.cellsOf 2 = 1 by kernel_rfl) c5 rfl
  obtain ⟨x5, e5, _, g5⟩ := DataW.trod_int Try.underlying2 h5
  obtain ⟨m6, y6, h6⟩ := flat_field Try.underlying103 hf 6 _ rfl rfl (show Try.prog.cellsOf 2 = 1 by kernel_rfl) c6 rfl
  obtain ⟨x6, e6, _, g6⟩ := DataW.trod_int Try.underlying2 h6
  simp only [List.cons.injEq, and_true] at e0 e1 e2 e3 e4 e5 e6
  subst e0 e1 e2 e3 e4 e5 e6
  exact ⟨⟨x0, x1, x2, x3, x4, x5, x6⟩, rfl, wf64s g0, g1, wf64s g2, g3, wf64s g4, wf64s g5, wf64s g6⟩
end

set_option maxRecDepth 100000 in
set_option maxHeartbeats 1000000 in
theorem szSession_any (p : Ss) (w : World) (hw : SsWf p) :
    Calls Try.prog 72 #[ssC p, .int .i64 1048576] w fun e w' => e = .returned (.int .i64 (szSessionV p)) ∧ Below w.heap.size w w' := by
  have HV0 : Hid (szSessionV p = szN [p.inn.size, p.peer.size] 1048576) := rfl
  obtain ⟨q_proto, q_inn, q_inPort, q_peer, q_peerPort, q_state, q_untl⟩ := hw
  generalize szSessionV p = ans at *
  obtain ⟨proto, inn, inPort, peer, peerPort, state, untl⟩ := p
  unfold ssC
  dsimp only at *
  unfold maxLen at *
  clear q_proto q_inPort q_peerPort q_state q_untl
  have HZ : Hid (Below w.heap.size w (w.alloc (.cells #[.int .i64 proto, .string inn, .int .i64 inPort, .string peer, .int .i64 peerPort, .int .i64 state, .int .i64 untl] 103))) := (Below.refl _ _).alloc (Nat.le_refl _) _
  by_cases l0 : (1048576 : Int) < (inn.size : Int)
  · have HV : Hid (ans = -1) := by unfold Hid; rw [HV0.out, szN_yes l0]
    clear HV0
    go_enter Try.func72, Try.ntmps72
    go_wp2_with fail
    go_ret
    exact ⟨ret_int HV.out.symm, HZ.out⟩
  · skip
    by_cases l1 : (1048576 : Int) - inn.size < (peer.size : Int)
    · have HV : Hid (ans = -1) := by unfold Hid; rw [HV0.out, szN_no l0, szN_yes l1]
      clear HV0
      go_enter Try.func72, Try.ntmps72
      go_wp2_with fail
      go_ret
      exact ⟨ret_int HV.out.symm, HZ.out⟩
    · have HV : Hid (ans = (1048576 : Int) - inn.size - peer.size) := by unfold Hid; rw [HV0.out, szN_no l0, szN_no l1]; rfl
      clear HV0
      go_enter Try.func72, Try.ntmps72
      go_wp2_with fail
      go_ret
      exact ⟨ret_int HV.out.symm, HZ.out⟩

set_option maxRecDepth 100000 in
set_option maxHeartbeats 1000000 in
theorem toSession_any (p : Ss) (w : World) :
    Calls Try.prog 74 #[ssC p] w fun e w' => e = .returned (ssC p) ∧ Below w.heap.size w w' := by
  obtain ⟨proto, inn, inPort, peer, peerPort, state, untl⟩ := p
  unfold ssC
  dsimp only
  go_enter Try.func74, Try.ntmps74
  go_wp2_with fail
  refine bodyPost_ret (v := .agg #[.int .i64 proto, .string inn, .int .i64 inPort, .string peer, .int .i64 peerPort, .int .i64 state, .int .i64 untl]) (by simp [results, Try.results74, go_sem]) rfl ⟨rfl, ?_⟩
  exact (((Below.refl _ _).alloc (Nat.le_refl _) _).alloc (by simp) _).alloc (by simp; omega) _

set_option maxRecDepth 100000 in
set_option maxHeartbeats 1000000 in
theorem eqSession_same (p : Ss) (w : World) :
    Calls Try.prog 79 #[ssC p, ssC p] w fun e w' => e = .returned (.bool true) ∧ Below w.heap.size w w' := by
  obtain ⟨proto, inn, inPort, peer, peerPort, state, untl⟩ := p
  unfold ssC
  dsimp only
  have HZ : Hid (Below w.heap.size w ((w.alloc (.cells #[.int .i64 proto, .string inn, .int .i64 inPort, .string peer, .int .i64 peerPort, .int .i64 state, .int .i64 untl] 76)).alloc (.cells #[.int .i64 proto, .string inn, .int .i64 inPort, .string peer, .int .i64 peerPort, .int .i64 state, .int .i64 untl] 76))) := ((Below.refl _ _).alloc (Nat.le_refl _) _).alloc (by simp) _
  go_enter Try.func79, Try.ntmps79
  go_wp2_with fail
  go_ret
  exact ⟨rfl, HZ.out⟩

end Go.Proofs.Ytkakehchiadpbal
