/- LawPiece: the laws' helpers for Piece, its box, and one that came in, opened. Printed by mkflat.py. -/
import Derived.Test.YtofhcplnnamcdajFlat
import Derived.Test.YtofhcplnnamcdajPieces
namespace Go.Proofs.Ytofhcplnnamcdaj
open Go.RowKit Go.PlainAid Go.ChangeShapes Go.WideShapes
set_option linter.unusedVariables false
set_option linter.unusedSimpArgs false

theorem arr8 {α : Type} {cs : Array α} (h : cs.size = 8) : ∃ c0 c1 c2 c3 c4 c5 c6 c7, cs = #[c0, c1, c2, c3, c4, c5, c6, c7] := by
  obtain ⟨l⟩ := cs
  match l, h with
  | [c0, c1, c2, c3, c4, c5, c6, c7], _ => exact ⟨c0, c1, c2, c3, c4, c5, c6, c7, rfl⟩

/-- As memory may hold it. -/
def PcWf (p : Pc) : Prop := p.src.size ≤ maxLen ∧ p.dst.size ≤ maxLen ∧ In64t p.proto ∧ In64t p.id ∧ In64t p.off ∧ p.data.size ≤ maxLen ∧ In64t p.since
/-- Its texts are in the laws' limits. -/
def PcSm (p : Pc) : Prop := p.src.size ≤ 1048576 ∧ p.dst.size ≤ 1048576 ∧ p.data.size ≤ 1048576
def szPieceV (p : Pc) : Int := szN [p.src.size, p.dst.size, p.data.size] 1048576
theorem szPiece_in {p : Pc} (h : 0 ≤ szPieceV p) : PcSm p := by
  have hb := szN_bound _ _ h
  exact ⟨by have := hb p.src.size (by simp); omega, by have := hb p.dst.size (by simp); omega, by have := hb p.data.size (by simp); omega⟩
/-- It lies in a block. -/
structure BoxPiece (w : World) (B : Nat) (p : Pc) : Prop where
  c0 : w.cell? ⟨B, 0, none⟩ = some (.string p.src)
  c1 : w.cell? ⟨B, 1, none⟩ = some (.string p.dst)
  c2 : w.cell? ⟨B, 2, none⟩ = some (.int .i64 p.proto)
  c3 : w.cell? ⟨B, 3, none⟩ = some (.int .i64 p.id)
  c4 : w.cell? ⟨B, 4, none⟩ = some (.int .i64 p.off)
  c5 : w.cell? ⟨B, 5, none⟩ = some (.bool p.more)
  c6 : w.cell? ⟨B, 6, none⟩ = some (.string p.data)
  c7 : w.cell? ⟨B, 7, none⟩ = some (.int .i64 p.since)
theorem BoxPiece.kept {w W : World} {B : Nat} {p : Pc} (h : BoxPiece w B p) (hB : Below w.heap.size w W) : BoxPiece W B p := by
  have hb := World.block_lt_of_cell? w _ h.c0
  exact ⟨((bcell hB).1 B 0 hb).trans h.c0, ((bcell hB).1 B 1 hb).trans h.c1, ((bcell hB).1 B 2 hb).trans h.c2, ((bcell hB).1 B 3 hb).trans h.c3, ((bcell hB).1 B 4 hb).trans h.c4, ((bcell hB).1 B 5 hb).trans h.c5, ((bcell hB).1 B 6 hb).trans h.c6, ((bcell hB).1 B 7 hb).trans h.c7⟩
theorem BoxPiece.new (w : World) (p : Pc) {t : TypeId} : BoxPiece (w.alloc (.cells #[.string p.src, .string p.dst, .int .i64 p.proto, .int .i64 p.id, .int .i64 p.off, .bool p.more, .string p.data, .int .i64 p.since] t)) w.heap.size p := ⟨cell_new rfl, cell_new rfl, cell_new rfl, cell_new rfl, cell_new rfl, cell_new rfl, cell_new rfl, cell_new rfl⟩

section
variable {H : Type} {enc : TypeId × Value → H} {w : World} {base : Nat} {spare : Nat → Bool} {held : Bool}
set_option maxRecDepth 100000 in
theorem open_Piece {r : Reach} {b0 : Nat} {v : Value} {d : DataW H} {p : List MemPlace} (hv : Value.okWide Try.prog w r b0 36 v) (h : DataW.Trod enc Try.prog w base spare held 36 v d p) :
    ∃ q : Pc, v = pcC q ∧ PcWf q := by
  obtain ⟨cs, rfl, hsz⟩ := okWide_struct Try.underlying36 hv
  obtain ⟨c0, c1, c2, c3, c4, c5, c6, c7, rfl⟩ := arr8 (hsz.trans (show Try.prog.cellsOf 36 = 8 by kernel_rfl))
  obtain ⟨fuel, hf⟩ := h
  obtain ⟨m0, y0, h0⟩ := flat_field Try.underlying36 hf 0 _ rfl rfl (show Try.prog.cellsOf 9 = 1 by kernel_rfl) c0 rfl
  obtain ⟨x0, e0, _, g0⟩ := DataW.trod_string Try.underlying9 h0
  obtain ⟨m1, y1, h1⟩ := flat_field Try.underlying36 hf 1 _ rfl rfl (show Try.prog.cellsOf 9 = 1 by kernel_rfl) c1 rfl
  obtain ⟨x1, e1, _, g1⟩ := DataW.trod_string Try.underlying9 h1
  obtain ⟨m2, y2, h2⟩ := flat_field Try.underlying36 hf 2 _ rfl rfl (show Try.prog.cellsOf 2 = 1 by kernel_rfl) c2 rfl
  obtain ⟨x2, e2, _, g2⟩ := DataW.trod_int Try.underlying2 h2
  obtain ⟨m3, y3, h3⟩ := flat_field Try.underlying36 hf 3 _ rfl rfl (show Try.prog.cellsOf 2 = 1 by kernel_rfl) c3 rfl
  obtain ⟨x3, e3, _, g3⟩ := DataW.trod_int Try.underlying2 h3
  obtain ⟨m4, y4, h4⟩ := flat_field Try.underlying36 hf 4 _ rfl rfl (show Try.prog.cellsOf 2 = 1 by kernel_rfl) c4 rfl
  obtain ⟨x4, e4, _, g4⟩ := DataW.trod_int Try.underlying2 h4
  obtain ⟨m5, y5, h5⟩ := flat_field Try.underlying36 hf 5 _ rfl rfl (show Try.prog.cellsOf 4 = 1 by kernel_rfl) c5 rfl
  obtain ⟨x5, e5, _⟩ := DataW.trod_bool Try.underlying4 h5
  obtain ⟨m6, y6, h6⟩ := flat_field Try.underlying36 hf 6 _ rfl rfl (show Try.prog.cellsOf 9 = 1 by kernel_rfl) c6 rfl
  obtain ⟨x6, e6, _, g6⟩ := DataW.trod_string Try.underlying9 h6
  obtain ⟨m7, y7, h7⟩ := flat_field Try.underlying36 hf 7 _ rfl rfl (show Try.prog.cellsOf 2 = 1 by kernel_rfl) c7 rfl
  obtain ⟨x7, e7, _, g7⟩ := DataW.trod_int Try.underlying2 h7
  simp only [List.cons.injEq, and_true] at e0 e1 e2 e3 e4 e5 e6 e7
  subst e0 e1 e2 e3 e4 e5 e6 e7
  exact ⟨⟨x0, x1, x2, x3, x4, x5, x6, x7⟩, rfl, g0, g1, wf64s g2, wf64s g3, wf64s g4, g6, wf64s g7⟩
end

set_option maxRecDepth 100000 in
set_option maxHeartbeats 1000000 in
theorem szPiece_any (p : Pc) (w : World) (hw : PcWf p) :
    Calls Try.prog 18 #[pcC p, .int .i64 1048576] w fun e w' => e = .returned (.int .i64 (szPieceV p)) ∧ Below w.heap.size w w' := by
  have HV0 : Hid (szPieceV p = szN [p.src.size, p.dst.size, p.data.size] 1048576) := rfl
  obtain ⟨q_src, q_dst, q_proto, q_id, q_off, q_data, q_since⟩ := hw
  generalize szPieceV p = ans at *
  obtain ⟨src, dst, proto, id, off, more, data, since⟩ := p
  unfold pcC
  dsimp only at *
  unfold maxLen at *
  clear q_proto q_id q_off q_since
  have HZ : Hid (Below w.heap.size w (w.alloc (.cells #[.string src, .string dst, .int .i64 proto, .int .i64 id, .int .i64 off, .bool more, .string data, .int .i64 since] 36))) := (Below.refl _ _).alloc (Nat.le_refl _) _
  by_cases l0 : (1048576 : Int) < (src.size : Int)
  · have HV : Hid (ans = -1) := by unfold Hid; rw [HV0.out, szN_yes l0]
    clear HV0
    go_enter Try.func18, Try.ntmps18
    go_wp2_with fail
    go_ret
    exact ⟨ret_int HV.out.symm, HZ.out⟩
  · skip
    by_cases l1 : (1048576 : Int) - src.size < (dst.size : Int)
    · have HV : Hid (ans = -1) := by unfold Hid; rw [HV0.out, szN_no l0, szN_yes l1]
      clear HV0
      go_enter Try.func18, Try.ntmps18
      go_wp2_with fail
      go_ret
      exact ⟨ret_int HV.out.symm, HZ.out⟩
    · skip
      by_cases l2 : (1048576 : Int) - src.size - dst.size < (data.size : Int)
      · have HV : Hid (ans = -1) := by unfold Hid; rw [HV0.out, szN_no l0, szN_no l1, szN_yes l2]
        clear HV0
        go_enter Try.func18, Try.ntmps18
        go_wp2_with fail
        go_ret
        exact ⟨ret_int HV.out.symm, HZ.out⟩
      · have HV : Hid (ans = (1048576 : Int) - src.size - dst.size - data.size) := by unfold Hid; rw [HV0.out, szN_no l0, szN_no l1, szN_no l2]; rfl
        clear HV0
        go_enter Try.func18, Try.ntmps18
        go_wp2_with fail
        go_ret
        exact ⟨ret_int HV.out.symm, HZ.out⟩

set_option maxRecDepth 100000 in
set_option maxHeartbeats 1000000 in
theorem toPiece_any (p : Pc) (w : World) :
    Calls Try.prog 20 #[pcC p] w fun e w' => e = .returned (pcC p) ∧ Below w.heap.size w w' := by
  obtain ⟨src, dst, proto, id, off, more, data, since⟩ := p
  unfold pcC
  dsimp only
  go_enter Try.func20, Try.ntmps20
  go_wp2_with fail
  refine bodyPost_ret (v := .agg #[.string src, .string dst, .int .i64 proto, .int .i64 id, .int .i64 off, .bool more, .string data, .int .i64 since]) (by simp [results, Try.results20, go_sem]) rfl ⟨rfl, ?_⟩
  exact (((Below.refl _ _).alloc (Nat.le_refl _) _).alloc (by simp) _).alloc (by simp; omega) _

set_option maxRecDepth 100000 in
set_option maxHeartbeats 1000000 in
theorem eqPiece_same (p : Pc) (w : World) :
    Calls Try.prog 59 #[pcC p, pcC p] w fun e w' => e = .returned (.bool true) ∧ Below w.heap.size w w' := by
  obtain ⟨src, dst, proto, id, off, more, data, since⟩ := p
  unfold pcC
  dsimp only
  have HZ : Hid (Below w.heap.size w ((w.alloc (.cells #[.string src, .string dst, .int .i64 proto, .int .i64 id, .int .i64 off, .bool more, .string data, .int .i64 since] 39)).alloc (.cells #[.string src, .string dst, .int .i64 proto, .int .i64 id, .int .i64 off, .bool more, .string data, .int .i64 since] 39))) := ((Below.refl _ _).alloc (Nat.le_refl _) _).alloc (by simp) _
  go_enter Try.func59, Try.ntmps59
  go_wp2_with fail
  go_ret
  exact ⟨rfl, HZ.out⟩

end Go.Proofs.Ytofhcplnnamcdaj
