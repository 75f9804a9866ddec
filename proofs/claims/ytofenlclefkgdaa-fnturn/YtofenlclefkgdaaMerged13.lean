/- IPiece6, IRest, in one text. -/
import Derived.Test.YtofenlclefkgdaaIBut
import Derived.Test.YtofenlclefkgdaaBitK
import Derived.Test.YtofenlclefkgdaaICur
import Derived.Deep.RegionWith

/- IPiece6: what the program's withPiece answers. Printed by mkiv6r.py. -/
namespace Go.Proofs.Ytofenlclefkgdaa
open Go.RowKit Go.PlainAid
set_option linter.unusedVariables false
set_option linter.unusedSimpArgs false

/-- A packet with what its piece's header says. -/
def withP (p : P6) (s : ByteArray) : P6 := { p with piece := true, next := bt s 0, off := wordN (bt s) 2 / 8, more := decide (wordN (bt s) 2 % 2 = 1), id := wordN (bt s) 4 * 65536 + wordN (bt s) 6 }

/-- How withPiece ends. -/
def PieceEnd (R b cap : Nat) (t : ByteArray) (p : P6) (e : Ending) (w' : World) : Prop := (8 ≤ t.size → e = .returned (p6C (withP p t)) ∧ CurAt w' R b cap t 8) ∧ (t.size < 8 → e = .panicked [shortE])

set_option maxRecDepth 100000 in
set_option maxHeartbeats 4000000 in
theorem withPiece_any (R b cap : Nat) (t : ByteArray) (w : World) (p : P6) (h : CurAt w R b cap t 0) (hs : t.size ≤ 100000) :
  Calls Try.prog 56 #[.pointer (some ⟨R, 0, none⟩), p6C p] w fun e w' => BelowBut w.heap.size R w w' ∧ PieceEnd R b cap t p e w' := by
 have hRlt : R < w.heap.size := World.block_lt_of_cell? w _ h.c0
 have hblt := h.lt
 have r2 := wordN_range (bt_isByte t) 2
 have m1 : (bits .and .i64 (wordN (bt t) 2) 1 != 0) = decide (wordN (bt t) 2 % 2 = 1) := by
  have := bit_k 0 (by decide) (wordN (bt t) 2) r2.1 (by omega)
  simpa using this
 have HWP : Hid (withP p t = ⟨p.cls, p.flow, bt t 0, p.hops, p.src, p.dst, true, decide (wordN (bt t) 2 % 2 = 1), wordN (bt t) 2 / 8, wordN (bt t) 4 * 65536 + wordN (bt t) 6, p.data⟩) := rfl
 obtain ⟨cls, flow, next, hops, src, dst, piece, more, off, id, data⟩ := p
 have S0 : Hid (WS6 w.heap.size w R b cap t (w.heap.size + 1) w.heap.size ((w.alloc (.cells #[.int .i64 cls, .int .i64 flow, .int .i64 next, .int .i64 hops, .string src, .string dst, .bool piece, .bool more, .int .i64 off, .int .i64 id, .string data] 28)).alloc (.cells #[.int .i64 0, .int .i64 0, .int .i64 0, .int .i64 0, .string ⟨#[]⟩, .string ⟨#[]⟩, .bool false, .bool false, .int .i64 0, .int .i64 0, .string ⟨#[]⟩] 28)) 0 ⟨cls, flow, next, hops, src, dst, piece, more, off, id, data⟩) := by
  have q1 : Below w.heap.size w (w.alloc (.cells #[.int .i64 cls, .int .i64 flow, .int .i64 next, .int .i64 hops, .string src, .string dst, .bool piece, .bool more, .int .i64 off, .int .i64 id, .string data] 28)) := (Below.refl _ _).alloc (Nat.le_refl _) _
  have hz : (w.alloc (.cells #[.int .i64 cls, .int .i64 flow, .int .i64 next, .int .i64 hops, .string src, .string dst, .bool piece, .bool more, .int .i64 off, .int .i64 id, .string data] 28)).heap.size = w.heap.size + 1 := by simp
  have x1 : BoxW6 (w.alloc (.cells #[.int .i64 cls, .int .i64 flow, .int .i64 next, .int .i64 hops, .string src, .string dst, .bool piece, .bool more, .int .i64 off, .int .i64 id, .string data] 28)) w.heap.size ⟨cls, flow, next, hops, src, dst, piece, more, off, id, data⟩ := ⟨cell_new rfl, by simp, cell_new rfl, by simp, cell_new rfl, by simp, cell_new rfl, by simp, cell_new rfl, by simp, cell_new rfl, by simp, cell_new rfl, by simp, cell_new rfl, by simp, cell_new rfl, by simp, cell_new rfl, by simp, cell_new rfl, by simp⟩
  have x2 := h.kept q1
  generalize w.alloc (.cells #[.int .i64 cls, .int .i64 flow, .int .i64 next, .int .i64 hops, .string src, .string dst, .bool piece, .bool more, .int .i64 off, .int .i64 id, .string data] 28) = w1 at *
  have q2 : Below w1.heap.size w1 (w1.alloc (.cells #[.int .i64 0, .int .i64 0, .int .i64 0, .int .i64 0, .string ⟨#[]⟩, .string ⟨#[]⟩, .bool false, .bool false, .int .i64 0, .int .i64 0, .string ⟨#[]⟩] 28)) := (Below.refl _ _).alloc (Nat.le_refl _) _
  have x3 := BoxW6.new w1 (t := 28)
  rw [hz] at x3
  exact ⟨x2.kept q2, x3, x1.kept q2, Below.but (q1.trans (q2.mono (by omega))) R, by omega, by omega, by omega, by omega, by omega, by omega, by omega, Nat.le_trans q1.size q2.size⟩
 clear h
 unfold p6C
 dsimp only at *
 go_enter Try.func56, Try.ntmps56
 go_upto_region 1 with fail
 generalize (w.alloc (.cells #[.int .i64 cls, .int .i64 flow, .int .i64 next, .int .i64 hops, .string src, .string dst, .bool piece, .bool more, .int .i64 off, .int .i64 id, .string data] 28)).alloc (.cells #[.int .i64 0, .int .i64 0, .int .i64 0, .int .i64 0, .string ⟨#[]⟩, .string ⟨#[]⟩, .bool false, .bool false, .int .i64 0, .int .i64 0, .string ⟨#[]⟩] 28) = W0 at *
 have HN : Hid (w.heap.size = w.heap.size) := rfl
 obtain ⟨P, hP⟩ : ∃ P, P = w.heap.size := ⟨_, rfl⟩
 obtain ⟨O, hO⟩ : ∃ O, O = w.heap.size + 1 := ⟨_, rfl⟩
 replace S0 : Hid (WS6 w.heap.size w R b cap t O P W0 0 ⟨cls, flow, next, hops, src, dst, piece, more, off, id, data⟩) := by rw [hP, hO]; exact S0
 rw [← hO, ← hP]
 clear hO hP hRlt hblt
 have c6 := S0.out.box.c6
 have f6 := S0.out.box.f6
 have S : Hid _ := S0.out.setP (S0.out.box.set6 true)
 clear S0
 go_wp2_with fail
 clear c6 f6
 by_cases h0 : 0 + 1 ≤ t.size
 rotate_left
 ·refine Calls.mono (number_short _ R b cap t 0 1 S.out.cur h0 (by omega) (by omega) (by omega)) ?_
  rintro e W' ⟨rfl, q⟩
  go_wp2_with fail
  exact ⟨rfl, S.out.bel.trans ((Below.but q R).mono S.out.nw), ⟨fun hh => absurd hh (by omega), fun _ => rfl⟩⟩
 refine Calls.mono (number_ok _ R b cap t 0 1 S.out.cur h0 (by omega) (by decide)) ?_
 rintro e W1 ⟨rfl, q⟩
 have T : Hid (WS6 w.heap.size w R b cap t O P W1 1 _) := S.out.num 1 q
 clear q S
 rw [num1]
 have c2 := T.out.box.c2
 have f2 := T.out.box.f2
 have S : Hid _ := T.out.setP (T.out.box.set2 (bt t 0))
 clear T
 go_wp2_with fail
 clear c2 f2
 by_cases h1 : 1 + 1 ≤ t.size
 rotate_left
 ·refine Calls.mono (take_short _ R b cap t 1 1 S.out.cur h1 (by omega) (by omega) (by omega)) ?_
  rintro e W' ⟨rfl, q⟩
  go_wp2_with fail
  exact ⟨rfl, S.out.bel.trans ((Below.but q R).mono S.out.nw), ⟨fun hh => absurd hh (by omega), fun _ => rfl⟩⟩
 refine Calls.mono (take_ok _ R b cap t 1 1 S.out.cur h1 (by omega)) ?_
 rintro e W2 ⟨rfl, q⟩
 have T : Hid (WS6 w.heap.size w R b cap t O P W2 2 _) := S.out.num 2 q
 clear q S
 have S : Hid _ := T.out
 clear T
 go_wp2_with fail
 by_cases h2 : 2 + 2 ≤ t.size
 rotate_left
 ·refine Calls.mono (number_short _ R b cap t 2 2 S.out.cur h2 (by omega) (by omega) (by omega)) ?_
  rintro e W' ⟨rfl, q⟩
  go_wp2_with fail
  exact ⟨rfl, S.out.bel.trans ((Below.but q R).mono S.out.nw), ⟨fun hh => absurd hh (by omega), fun _ => rfl⟩⟩
 refine Calls.mono (number_ok _ R b cap t 2 2 S.out.cur h2 (by omega) (by decide)) ?_
 rintro e W3 ⟨rfl, q⟩
 have T : Hid (WS6 w.heap.size w R b cap t O P W3 4 _) := S.out.num 4 q
 clear q S
 rw [num2]
 have S : Hid _ := T.out
 clear T
 have c7 := S.out.box.c7
 have f7 := S.out.box.f7
 have c8 := S.out.box.c8
 have f8 := S.out.box.f8
 have S1 : Hid _ := S.out.setP (S.out.box.set8 (wordN (bt t) 2 / 8))
 have S2 : Hid _ := S1.out.setP (S1.out.box.set7 (decide (wordN (bt t) 2 % 2 = 1)))
 clear S S1
 have S : Hid _ := S2.out
 clear S2
 go_wp2_with fail
 clear c7 f7 c8 f8
 by_cases h3 : 4 + 4 ≤ t.size
 rotate_left
 ·refine Calls.mono (number_short _ R b cap t 4 4 S.out.cur h3 (by omega) (by omega) (by omega)) ?_
  rintro e W' ⟨rfl, q⟩
  go_wp2_with fail
  exact ⟨rfl, S.out.bel.trans ((Below.but q R).mono S.out.nw), ⟨fun hh => absurd hh (by omega), fun _ => rfl⟩⟩
 refine Calls.mono (number_ok _ R b cap t 4 4 S.out.cur h3 (by omega) (by decide)) ?_
 rintro e W4 ⟨rfl, q⟩
 have T : Hid (WS6 w.heap.size w R b cap t O P W4 8 _) := S.out.num 8 q
 clear q S
 rw [num4]
 have c9 := T.out.box.c9
 have f9 := T.out.box.f9
 have S : Hid _ := T.out.setP (T.out.box.set9 (wordN (bt t) 4 * 65536 + wordN (bt t) (4 + 2)))
 clear T
 go_upto_region 7 with fail
 clear c9 f9
 have S2 : Hid (WS6 w.heap.size w R b cap t O P (W4.setCell ⟨P, 9, none⟩ (.int .i64 (wordN (bt t) 4 * 65536 + wordN (bt t) 6))) 8 ⟨cls, flow, bt t 0, hops, src, dst, true, decide (wordN (bt t) 2 % 2 = 1), wordN (bt t) 2 / 8, wordN (bt t) 4 * 65536 + wordN (bt t) 6, data⟩) := S.out
 clear S
 generalize W4.setCell ⟨P, 9, none⟩ (.int .i64 (wordN (bt t) 4 * 65536 + wordN (bt t) 6)) = V at *
 generalize bt t 0 = x0 at *
 generalize decide (wordN (bt t) 2 % 2 = 1) = bm at *
 generalize wordN (bt t) 2 / 8 = xo at *
 generalize wordN (bt t) 4 * 65536 + wordN (bt t) 6 = xi at *
 obtain ⟨c0, f0, c1, f1, c2, f2, c3, f3, c4, f4, c5, f5, c6, f6, c7, f7, c8, f8, c9, f9, c10, f10⟩ := S2.out.box
 obtain ⟨o0, y0, o1, y1, o2, y2, o3, y3, o4, y4, o5, y5, o6, y6, o7, y7, o8, y8, o9, y9, o10, y10⟩ := S2.out.out
 dsimp only [p6Zero] at o0 o1 o2 o3 o4 o5 o6 o7 o8 o9 o10
 have hbel := fun v0 v1 v2 v3 v4 v5 v6 v7 v8 v9 v10 => 
  (((((((((((S2.out.bel.far S2.out.nO 0 v0).far S2.out.nO 1 v1).far S2.out.nO 2 v2).far S2.out.nO 3 v3).far S2.out.nO 4 v4).far S2.out.nO 5 v5).far S2.out.nO 6 v6).far S2.out.nO 7 v7).far S2.out.nO 8 v8).far S2.out.nO 9 v9).far S2.out.nO 10 v10)
 have hcur := fun v0 v1 v2 v3 v4 v5 v6 v7 v8 v9 v10 => 
  (((((((((((S2.out.cur.other (o := 0) v0 S2.out.RO.symm S2.out.bO.symm).other (o := 1) v1 S2.out.RO.symm S2.out.bO.symm).other (o := 2) v2 S2.out.RO.symm S2.out.bO.symm).other (o := 3) v3 S2.out.RO.symm S2.out.bO.symm).other (o := 4) v4 S2.out.RO.symm S2.out.bO.symm).other (o := 5) v5 S2.out.RO.symm S2.out.bO.symm).other (o := 6) v6 S2.out.RO.symm S2.out.bO.symm).other (o := 7) v7 S2.out.RO.symm S2.out.bO.symm).other (o := 8) v8 S2.out.RO.symm S2.out.bO.symm).other (o := 9) v9 S2.out.RO.symm S2.out.bO.symm).other (o := 10) v10 S2.out.RO.symm S2.out.bO.symm)
 have HBEL : Hid _ := hbel
 have HCUR : Hid _ := hcur
 clear hbel hcur r2 m1
 go_wp2_with fail
 exact bodyPost_ret (v := .agg #[.int .i64 cls, .int .i64 flow, .int .i64 x0, .int .i64 hops, .string src, .string dst, .bool true, .bool bm, .int .i64 xo, .int .i64 xi, .string data]) (by simp [results, Try.results56, go_sem, o0, o1, o2, o3, o4, o5, o6, o7, o8, o9, o10]) rfl ⟨HBEL.out _ _ _ _ _ _ _ _ _ _ _, ⟨fun _ => ⟨by rw [HWP.out]; rfl, HCUR.out _ _ _ _ _ _ _ _ _ _ _⟩, fun hh => absurd hh (by omega)⟩⟩

end Go.Proofs.Ytofenlclefkgdaa

/- IRest: what the program's rest answers. -/
namespace Go.Proofs.Ytofenlclefkgdaa
open Go.RowKit Go.PlainAid
set_option linter.unusedVariables false
set_option linter.unusedSimpArgs false

set_option maxHeartbeats 1000000 in
theorem rest_ok (w : World) (B b cap : Nat) (t : ByteArray) (k : Nat) (h : CurAt w B b cap t k) (hk : k ≤ t.size) (hs : t.size ≤ 100000) :
  Calls Try.prog 57 #[.pointer (some ⟨B, 0, none⟩)] w fun e w' => e = .returned (.string (t.extract k t.size)) ∧ ∃ w0, Below w.heap.size w w0 ∧ w0.heap.size = w.heap.size ∧ Below w.heap.size (w0.setCell ⟨B, 1, none⟩ (.int .i64 t.size)) w' := by
 have HT : Hid (∀ W, CurAt W B b cap t k → Calls Try.prog 55 #[.pointer (some ⟨B, 0, none⟩), .int .i64 ((t.size : Int) - k)] W fun e w' => e = .returned (.string (t.extract k t.size)) ∧ Below W.heap.size (W.setCell ⟨B, 1, none⟩ (.int .i64 t.size)) w') := fun W hW => by
  have := take_ok W B b cap t k (t.size - k) hW (by omega) hs
  rw [show k + (t.size - k) = t.size by omega, show ((t.size - k : Nat) : Int) = (t.size : Int) - k by omega] at this
  exact this
 have HT1 : Hid (Calls Try.prog 55 #[.pointer (some ⟨B, 0, none⟩), .int .i64 ((t.size : Int) - k)] w.drew fun e w' => e = .returned (.string (t.extract k t.size)) ∧ ∃ w0, Below w.heap.size w w0 ∧ w0.heap.size = w.heap.size ∧ Below w.heap.size (w0.setCell ⟨B, 1, none⟩ (.int .i64 t.size)) w') :=
  Calls.mono (HT.out w.drew (h.kept (Below.refl _ _).drew)) fun e w' hh => ⟨hh.1, w.drew, (Below.refl _ _).drew, rfl, hh.2⟩
 obtain ⟨c0, f0, c1, f1, bs, ne, lt, cp⟩ := h
 have hwr : IntKind.i64.wrap ((t.size : Int) - k) = t.size - k := by rw [IntKind.wrap_i64]; omega
 clear bs HT
 go_enter Try.func57, Try.ntmps57
 go_wp2_with fail
 go_region_with (go_at_call 55; refine Calls.mono HT1.out ?_; rintro e w4 ⟨rfl, hb4⟩)
 all_goals go_wp2_with fail
 all_goals go_ret
 all_goals exact ⟨rfl, hb4⟩

end Go.Proofs.Ytofenlclefkgdaa
