/- IXlatU: what the program's ToSix answers. Printed by mkixlatt.py. -/
import Derived.Test.YtofenlclefkgdaaIXlatT
import Derived.Test.YtofenlclefkgdaaIV4D
import Derived.Test.YtofenlclefkgdaaIV6D
namespace Go.Proofs.Ytofenlclefkgdaa
open Go.RowKit Go.PlainAid Go.Lib
set_option linter.unusedVariables false
set_option linter.unusedSimpArgs false


set_option maxRecDepth 100000 in
set_option maxHeartbeats 4000000 in
theorem implToSix_any (p : P4) (src dst : ByteArray) (w : World) (hs : P4Sm p) (hw : P4Wf p) (h1 : src.size ≤ 1048576) (h2 : dst.size ≤ 1048576) :
  Calls Try.prog 5 #[p4C p, .string src, .string dst] w fun e w' => e = .returned (p6CO (six4V p src dst) (six4C p src dst)) ∧ Below w.heap.size w w' := by
 have HLs : Hid (∀ W, Calls Try.prog 14 #[.string src] W fun e w' => e = .returned (.bool (decide (20000 < src.size))) ∧ Below W.heap.size W w') := fun W => (tooLong_any src W).mono fun e w h => ⟨by rw [h.1, decide_eq_decide.2 (show (20000 : Int) < src.size ↔ 20000 < src.size by omega)], by rw [h.2]; exact Below.refl _ _⟩
 have HLd : Hid (∀ W, Calls Try.prog 14 #[.string dst] W fun e w' => e = .returned (.bool (decide (20000 < dst.size))) ∧ Below W.heap.size W w') := fun W => (tooLong_any dst W).mono fun e w h => ⟨by rw [h.1, decide_eq_decide.2 (show (20000 : Int) < dst.size ↔ 20000 < dst.size by omega)], by rw [h.2]; exact Below.refl _ _⟩
 have HR : Hid (∀ W, Calls Try.prog 15 #[p4C p] W fun e w' => e = .returned (.bool (v4Ok p)) ∧ Below W.heap.size W w') := fun W => implV4Right_sm p W hs hw
 have HF : Hid (v4Ok p = true → src.size = 16 → dst.size = 16 → ∀ W, Calls Try.prog 17 #[p4C p, .string src, .string dst] W fun e w' => ∃ g n, e = .returned (.slice (some ⟨g, 0, none⟩) n n) ∧ n = (head6T (six4 p src dst)).size ∧ HoldsL w' g (strCells (head6T (six4 p src dst))) ∧ Below W.heap.size W w') := fun h hx hy W => (layAsSix_any p src dst W h hx hy).mono fun e w' ⟨g, n, h1, h2, _, h4, h5⟩ => ⟨g, n, h1, h2, h4, h5⟩
 have HSZ : Hid (v4Ok p = true → src.size = 16 → dst.size = 16 → 0 < (head6T (six4 p src dst)).size ∧ (head6T (six4 p src dst)).size ≤ 100 ∧ p.data.size ≤ 1400) := fun h hx hy => by
  have hz : (head6T (six4 p src dst)).size ≤ 48 ∧ 0 < (head6T (six4 p src dst)).size := by
   unfold head6T
   simp only [ByteArray.size_append, pairV_size, twoV_size]
   have : (if (six4 p src dst).piece = true then pieceH (six4 p src dst) else (⟨#[]⟩ : ByteArray)).size ≤ 8 := by
    split
    ·rw [pieceH_size]; omega
    ·decide
   rw [show (six4 p src dst).src = src from rfl, show (six4 p src dst).dst = dst from rfl]
   omega
  have hB4 : v4B p = true := by unfold v4Ok at h; simp only [Bool.and_eq_true] at h; exact h.1.2
  exact ⟨hz.2, by omega, (v4B_parts hB4).2.2.1⟩
 have HRD : Hid (v4Ok p = true → src.size = 16 → dst.size = 16 → p.proto ≠ 44 → ∀ W, Calls Try.prog 16 #[.string (head6T (six4 p src dst) ++ p.data)] W fun e w' => e = .returned (p6CO (six4V p src dst) (six4C p src dst)) ∧ Below W.heap.size W w') := fun h hx hy hp W => by
  have hr := six4_read h hx hy hp
  have hz : (v6Raw (six4 p src dst)).size ≤ 1048576 := by
   rw [raw_head6]
   have := HSZ.out h hx hy
   rw [ByteArray.size_append]
   show _ + p.data.size ≤ _
   omega
  have := implV6Read_any (v6Raw (six4 p src dst)) W hz
  rw [hr.1, hr.2, raw_head6] at this
  exact this
 have HL : Hid (20000 < src.size ∨ 20000 < dst.size → six4C p src dst = 2) := fun h => if_pos (by unfold long2; simpa using h)
 have HF1 : Hid (¬ 20000 < src.size → ¬ 20000 < dst.size → (v4Ok p = false ∨ src.size ≠ 16 ∨ dst.size ≠ 16) → six4C p src dst = 1) := fun x y h => by
  unfold six4C; rw [if_neg (by unfold long2; simp; omega), if_pos ?_]
  rcases h with h | h | h <;> simp [h]
 have H44 : Hid (¬ 20000 < src.size → ¬ 20000 < dst.size → p.proto = 44 → six4C p src dst = 1) := fun x y hp => by
  unfold six4C; rw [if_neg (by unfold long2; simp; omega)]
  split
  ·rfl
  ·rw [if_neg (by rw [six4_not hp]; decide)]
 have HZ : Hid (six4C p src dst ≠ 0 → six4V p src dst = p6Zero) := fun h => by unfold six4V; rw [if_neg h]
 generalize v4Ok p = ok at *
 generalize six4C p src dst = code at *
 generalize six4V p src dst = ans at *
 generalize head6T (six4 p src dst) = ht at *
 clear hs hw
 obtain ⟨tos, id, whole, more, off, ttl, proto, src4, dst4, opts, data⟩ := p
 unfold p4C at *
 dsimp only at *
 have e0 : HoldsL ((w.alloc (.cells #[.int .i64 tos, .int .i64 id, .bool whole, .bool more, .int .i64 off, .int .i64 ttl, .int .i64 proto, .string src4, .string dst4, .string opts, .string data] 24)).alloc (.cells #[.int .i64 0, .int .i64 0, .int .i64 0, .int .i64 0, .string ⟨#[]⟩, .string ⟨#[]⟩, .bool false, .bool false, .int .i64 0, .int .i64 0, .string ⟨#[]⟩, .int .i64 0] 30)) (w.heap.size) [.int .i64 tos, .int .i64 id, .bool whole, .bool more, .int .i64 off, .int .i64 ttl, .int .i64 proto, .string src4, .string dst4, .string opts, .string data] := by
  have h := HoldsL.new w [.int .i64 tos, .int .i64 id, .bool whole, .bool more, .int .i64 off, .int .i64 ttl, .int .i64 proto, .string src4, .string dst4, .string opts, .string data] 24
  try simp only [World.size_alloc] at h
  exact (h.alloc _)
 have e1 : HoldsL ((w.alloc (.cells #[.int .i64 tos, .int .i64 id, .bool whole, .bool more, .int .i64 off, .int .i64 ttl, .int .i64 proto, .string src4, .string dst4, .string opts, .string data] 24)).alloc (.cells #[.int .i64 0, .int .i64 0, .int .i64 0, .int .i64 0, .string ⟨#[]⟩, .string ⟨#[]⟩, .bool false, .bool false, .int .i64 0, .int .i64 0, .string ⟨#[]⟩, .int .i64 0] 30)) (w.heap.size + 1) [.int .i64 0, .int .i64 0, .int .i64 0, .int .i64 0, .string ⟨#[]⟩, .string ⟨#[]⟩, .bool false, .bool false, .int .i64 0, .int .i64 0, .string ⟨#[]⟩, .int .i64 0] := by
  have h := HoldsL.new (w.alloc (.cells #[.int .i64 tos, .int .i64 id, .bool whole, .bool more, .int .i64 off, .int .i64 ttl, .int .i64 proto, .string src4, .string dst4, .string opts, .string data] 24)) [.int .i64 0, .int .i64 0, .int .i64 0, .int .i64 0, .string ⟨#[]⟩, .string ⟨#[]⟩, .bool false, .bool false, .int .i64 0, .int .i64 0, .string ⟨#[]⟩, .int .i64 0] 30
  try simp only [World.size_alloc] at h
  exact h
 have HS0 : Hid (Bxs w [(w.heap.size, [.int .i64 tos, .int .i64 id, .bool whole, .bool more, .int .i64 off, .int .i64 ttl, .int .i64 proto, .string src4, .string dst4, .string opts, .string data]), (w.heap.size + 1, [.int .i64 0, .int .i64 0, .int .i64 0, .int .i64 0, .string ⟨#[]⟩, .string ⟨#[]⟩, .bool false, .bool false, .int .i64 0, .int .i64 0, .string ⟨#[]⟩, .int .i64 0])] ((w.alloc (.cells #[.int .i64 tos, .int .i64 id, .bool whole, .bool more, .int .i64 off, .int .i64 ttl, .int .i64 proto, .string src4, .string dst4, .string opts, .string data] 24)).alloc (.cells #[.int .i64 0, .int .i64 0, .int .i64 0, .int .i64 0, .string ⟨#[]⟩, .string ⟨#[]⟩, .bool false, .bool false, .int .i64 0, .int .i64 0, .string ⟨#[]⟩, .int .i64 0] 30))) := by
  refine ⟨fun e he => ?_, (((Below.refl _ _).alloc (by (try simp only [World.size_alloc]); omega) _).alloc (by (try simp only [World.size_alloc]); omega) _), fun e he => ?_⟩
  ·simp only [List.mem_cons, List.not_mem_nil, or_false] at he
   rcases he with rfl | rfl
   ·exact e0
   ·exact e1
  ·simp only [List.mem_cons, List.not_mem_nil, or_false] at he
   rcases he with rfl | rfl <;> simp
 clear e0 e1
 have hlr : w.heap.size ≤ w.heap.size + 1 := by omega
 go_enter Try.func5, Try.ntmps5
 go_upto_region 1 with fail
 generalize ((w.alloc (.cells #[.int .i64 tos, .int .i64 id, .bool whole, .bool more, .int .i64 off, .int .i64 ttl, .int .i64 proto, .string src4, .string dst4, .string opts, .string data] 24)).alloc (.cells #[.int .i64 0, .int .i64 0, .int .i64 0, .int .i64 0, .string ⟨#[]⟩, .string ⟨#[]⟩, .bool false, .bool false, .int .i64 0, .int .i64 0, .string ⟨#[]⟩, .int .i64 0] 30)) = W0 at *
 go_wp2_with fail
 refine (HLs.out _).mono ?_
 rintro e W1 ⟨rfl, q1⟩
 have HS1 : Hid _ := HS0.out.kept q1
 clear q1 HS0 HLs
 by_cases c1 : 20000 < src.size
 case pos =>
  rw [decide_eq_true c1]
  go_upto_region 2 with fail
  have HX : Hid (code = 2) := HL.out (.inl c1)
  have HY : Hid (ans = p6Zero) := HZ.out (by rw [HX.out]; decide)
  clear HL HF1 HZ HRD H44
  have HHz := HS1.out.at (.tail _ (.head _))
  have z0 := HHz.cell (j := 0) rfl
  have z1 := HHz.cell (j := 1) rfl
  have z2 := HHz.cell (j := 2) rfl
  have z3 := HHz.cell (j := 3) rfl
  have z4 := HHz.cell (j := 4) rfl
  have z5 := HHz.cell (j := 5) rfl
  have z6 := HHz.cell (j := 6) rfl
  have z7 := HHz.cell (j := 7) rfl
  have z8 := HHz.cell (j := 8) rfl
  have z9 := HHz.cell (j := 9) rfl
  have z10 := HHz.cell (j := 10) rfl
  have z11 := HHz.cell (j := 11) rfl
  have zf0 := HHz.free (j := 0) (by simp)
  have zf1 := HHz.free (j := 1) (by simp)
  have zf2 := HHz.free (j := 2) (by simp)
  have zf3 := HHz.free (j := 3) (by simp)
  have zf4 := HHz.free (j := 4) (by simp)
  have zf5 := HHz.free (j := 5) (by simp)
  have zf6 := HHz.free (j := 6) (by simp)
  have zf7 := HHz.free (j := 7) (by simp)
  have zf8 := HHz.free (j := 8) (by simp)
  have zf9 := HHz.free (j := 9) (by simp)
  have zf10 := HHz.free (j := 10) (by simp)
  have zf11 := HHz.free (j := 11) (by simp)
  have HRR : Hid (HoldsL ((((((((((((W1.setCell ⟨w.heap.size + 1, 0, none⟩ (.int .i64 0)).setCell ⟨w.heap.size + 1, 1, none⟩ (.int .i64 0)).setCell ⟨w.heap.size + 1, 2, none⟩ (.int .i64 0)).setCell ⟨w.heap.size + 1, 3, none⟩ (.int .i64 0)).setCell ⟨w.heap.size + 1, 4, none⟩ (.string ⟨#[]⟩)).setCell ⟨w.heap.size + 1, 5, none⟩ (.string ⟨#[]⟩)).setCell ⟨w.heap.size + 1, 6, none⟩ (.bool false)).setCell ⟨w.heap.size + 1, 7, none⟩ (.bool false)).setCell ⟨w.heap.size + 1, 8, none⟩ (.int .i64 0)).setCell ⟨w.heap.size + 1, 9, none⟩ (.int .i64 0)).setCell ⟨w.heap.size + 1, 10, none⟩ (.string ⟨#[]⟩)).setCell ⟨w.heap.size + 1, 11, none⟩ (.int .i64 2)) (w.heap.size + 1) [.int .i64 0, .int .i64 0, .int .i64 0, .int .i64 0, .string ⟨#[]⟩, .string ⟨#[]⟩, .bool false, .bool false, .int .i64 0, .int .i64 0, .string ⟨#[]⟩, .int .i64 2]) := ((((((((((((HHz.set 0 (.int .i64 0)).set 1 (.int .i64 0)).set 2 (.int .i64 0)).set 3 (.int .i64 0)).set 4 (.string ⟨#[]⟩)).set 5 (.string ⟨#[]⟩)).set 6 (.bool false)).set 7 (.bool false)).set 8 (.int .i64 0)).set 9 (.int .i64 0)).set 10 (.string ⟨#[]⟩)).set 11 (.int .i64 2))
  have RB : Hid _ := ((((((((((((HS1.out.b.setCell (p := ⟨w.heap.size + 1, 0, none⟩) hlr (.int .i64 0)).setCell (p := ⟨w.heap.size + 1, 1, none⟩) hlr (.int .i64 0)).setCell (p := ⟨w.heap.size + 1, 2, none⟩) hlr (.int .i64 0)).setCell (p := ⟨w.heap.size + 1, 3, none⟩) hlr (.int .i64 0)).setCell (p := ⟨w.heap.size + 1, 4, none⟩) hlr (.string ⟨#[]⟩)).setCell (p := ⟨w.heap.size + 1, 5, none⟩) hlr (.string ⟨#[]⟩)).setCell (p := ⟨w.heap.size + 1, 6, none⟩) hlr (.bool false)).setCell (p := ⟨w.heap.size + 1, 7, none⟩) hlr (.bool false)).setCell (p := ⟨w.heap.size + 1, 8, none⟩) hlr (.int .i64 0)).setCell (p := ⟨w.heap.size + 1, 9, none⟩) hlr (.int .i64 0)).setCell (p := ⟨w.heap.size + 1, 10, none⟩) hlr (.string ⟨#[]⟩)).setCell (p := ⟨w.heap.size + 1, 11, none⟩) hlr (.int .i64 2))
  clear HHz
  go_wp2_with fail
  exact bodyPost_ret (results_mid Try.results5 _ _ (w.heap.size + 1) [.int .i64 0, .int .i64 0, .int .i64 0, .int .i64 0, .string ⟨#[]⟩, .string ⟨#[]⟩, .bool false, .bool false, .int .i64 0, .int .i64 0, .string ⟨#[]⟩, .int .i64 2] _ rfl HRR.out Try.underlying30 rfl (show (Try.prog.info? 30).map (·.size) = some 12 by kernel_rfl)) rfl (And.intro (by rw [HX.out, HY.out]; rfl) RB.out)
 rw [decide_eq_false c1]
 go_wp2_with fail
 refine (HLd.out _).mono ?_
 rintro e W2 ⟨rfl, q1⟩
 have HS2 : Hid _ := HS1.out.kept q1
 clear q1 HS1 HLd
 by_cases c2 : 20000 < dst.size
 case pos =>
  rw [decide_eq_true c2]
  go_upto_region 2 with fail
  have HX : Hid (code = 2) := HL.out (.inr c2)
  have HY : Hid (ans = p6Zero) := HZ.out (by rw [HX.out]; decide)
  clear HL HF1 HZ HRD H44
  have HHz := HS2.out.at (.tail _ (.head _))
  have z0 := HHz.cell (j := 0) rfl
  have z1 := HHz.cell (j := 1) rfl
  have z2 := HHz.cell (j := 2) rfl
  have z3 := HHz.cell (j := 3) rfl
  have z4 := HHz.cell (j := 4) rfl
  have z5 := HHz.cell (j := 5) rfl
  have z6 := HHz.cell (j := 6) rfl
  have z7 := HHz.cell (j := 7) rfl
  have z8 := HHz.cell (j := 8) rfl
  have z9 := HHz.cell (j := 9) rfl
  have z10 := HHz.cell (j := 10) rfl
  have z11 := HHz.cell (j := 11) rfl
  have zf0 := HHz.free (j := 0) (by simp)
  have zf1 := HHz.free (j := 1) (by simp)
  have zf2 := HHz.free (j := 2) (by simp)
  have zf3 := HHz.free (j := 3) (by simp)
  have zf4 := HHz.free (j := 4) (by simp)
  have zf5 := HHz.free (j := 5) (by simp)
  have zf6 := HHz.free (j := 6) (by simp)
  have zf7 := HHz.free (j := 7) (by simp)
  have zf8 := HHz.free (j := 8) (by simp)
  have zf9 := HHz.free (j := 9) (by simp)
  have zf10 := HHz.free (j := 10) (by simp)
  have zf11 := HHz.free (j := 11) (by simp)
  have HRR : Hid (HoldsL ((((((((((((W2.setCell ⟨w.heap.size + 1, 0, none⟩ (.int .i64 0)).setCell ⟨w.heap.size + 1, 1, none⟩ (.int .i64 0)).setCell ⟨w.heap.size + 1, 2, none⟩ (.int .i64 0)).setCell ⟨w.heap.size + 1, 3, none⟩ (.int .i64 0)).setCell ⟨w.heap.size + 1, 4, none⟩ (.string ⟨#[]⟩)).setCell ⟨w.heap.size + 1, 5, none⟩ (.string ⟨#[]⟩)).setCell ⟨w.heap.size + 1, 6, none⟩ (.bool false)).setCell ⟨w.heap.size + 1, 7, none⟩ (.bool false)).setCell ⟨w.heap.size + 1, 8, none⟩ (.int .i64 0)).setCell ⟨w.heap.size + 1, 9, none⟩ (.int .i64 0)).setCell ⟨w.heap.size + 1, 10, none⟩ (.string ⟨#[]⟩)).setCell ⟨w.heap.size + 1, 11, none⟩ (.int .i64 2)) (w.heap.size + 1) [.int .i64 0, .int .i64 0, .int .i64 0, .int .i64 0, .string ⟨#[]⟩, .string ⟨#[]⟩, .bool false, .bool false, .int .i64 0, .int .i64 0, .string ⟨#[]⟩, .int .i64 2]) := ((((((((((((HHz.set 0 (.int .i64 0)).set 1 (.int .i64 0)).set 2 (.int .i64 0)).set 3 (.int .i64 0)).set 4 (.string ⟨#[]⟩)).set 5 (.string ⟨#[]⟩)).set 6 (.bool false)).set 7 (.bool false)).set 8 (.int .i64 0)).set 9 (.int .i64 0)).set 10 (.string ⟨#[]⟩)).set 11 (.int .i64 2))
  have RB : Hid _ := ((((((((((((HS2.out.b.setCell (p := ⟨w.heap.size + 1, 0, none⟩) hlr (.int .i64 0)).setCell (p := ⟨w.heap.size + 1, 1, none⟩) hlr (.int .i64 0)).setCell (p := ⟨w.heap.size + 1, 2, none⟩) hlr (.int .i64 0)).setCell (p := ⟨w.heap.size + 1, 3, none⟩) hlr (.int .i64 0)).setCell (p := ⟨w.heap.size + 1, 4, none⟩) hlr (.string ⟨#[]⟩)).setCell (p := ⟨w.heap.size + 1, 5, none⟩) hlr (.string ⟨#[]⟩)).setCell (p := ⟨w.heap.size + 1, 6, none⟩) hlr (.bool false)).setCell (p := ⟨w.heap.size + 1, 7, none⟩) hlr (.bool false)).setCell (p := ⟨w.heap.size + 1, 8, none⟩) hlr (.int .i64 0)).setCell (p := ⟨w.heap.size + 1, 9, none⟩) hlr (.int .i64 0)).setCell (p := ⟨w.heap.size + 1, 10, none⟩) hlr (.string ⟨#[]⟩)).setCell (p := ⟨w.heap.size + 1, 11, none⟩) hlr (.int .i64 2))
  clear HHz
  go_wp2_with fail
  exact bodyPost_ret (results_mid Try.results5 _ _ (w.heap.size + 1) [.int .i64 0, .int .i64 0, .int .i64 0, .int .i64 0, .string ⟨#[]⟩, .string ⟨#[]⟩, .bool false, .bool false, .int .i64 0, .int .i64 0, .string ⟨#[]⟩, .int .i64 2] _ rfl HRR.out Try.underlying30 rfl (show (Try.prog.info? 30).map (·.size) = some 12 by kernel_rfl)) rfl (And.intro (by rw [HX.out, HY.out]; rfl) RB.out)
 rw [decide_eq_false c2]
 go_upto_region 3 with fail
 have HHk := HS2.out.at (.head _)
 have k0 := HHk.cell (j := 0) rfl
 have k1 := HHk.cell (j := 1) rfl
 have k2 := HHk.cell (j := 2) rfl
 have k3 := HHk.cell (j := 3) rfl
 have k4 := HHk.cell (j := 4) rfl
 have k5 := HHk.cell (j := 5) rfl
 have k6 := HHk.cell (j := 6) rfl
 have k7 := HHk.cell (j := 7) rfl
 have k8 := HHk.cell (j := 8) rfl
 have k9 := HHk.cell (j := 9) rfl
 have k10 := HHk.cell (j := 10) rfl
 clear HHk
 go_wp2_with fail
 refine (HR.out _).mono ?_
 rintro e W3 ⟨rfl, q1⟩
 have HS3 : Hid _ := HS2.out.kept q1
 clear q1 HS2 HR k0 k1 k2 k3 k4 k5 k6 k7 k8 k9 k10
 cases ok with
 | false =>
  go_upto_region 4 with fail
  have HX : Hid (code = 1) := HF1.out c1 c2 (.inl (by first | rfl | trivial))
  have HY : Hid (ans = p6Zero) := HZ.out (by rw [HX.out]; decide)
  clear HL HF1 HZ HRD H44
  have HHz := HS3.out.at (.tail _ (.head _))
  have z0 := HHz.cell (j := 0) rfl
  have z1 := HHz.cell (j := 1) rfl
  have z2 := HHz.cell (j := 2) rfl
  have z3 := HHz.cell (j := 3) rfl
  have z4 := HHz.cell (j := 4) rfl
  have z5 := HHz.cell (j := 5) rfl
  have z6 := HHz.cell (j := 6) rfl
  have z7 := HHz.cell (j := 7) rfl
  have z8 := HHz.cell (j := 8) rfl
  have z9 := HHz.cell (j := 9) rfl
  have z10 := HHz.cell (j := 10) rfl
  have z11 := HHz.cell (j := 11) rfl
  have zf0 := HHz.free (j := 0) (by simp)
  have zf1 := HHz.free (j := 1) (by simp)
  have zf2 := HHz.free (j := 2) (by simp)
  have zf3 := HHz.free (j := 3) (by simp)
  have zf4 := HHz.free (j := 4) (by simp)
  have zf5 := HHz.free (j := 5) (by simp)
  have zf6 := HHz.free (j := 6) (by simp)
  have zf7 := HHz.free (j := 7) (by simp)
  have zf8 := HHz.free (j := 8) (by simp)
  have zf9 := HHz.free (j := 9) (by simp)
  have zf10 := HHz.free (j := 10) (by simp)
  have zf11 := HHz.free (j := 11) (by simp)
  have HRR : Hid (HoldsL ((((((((((((W3.setCell ⟨w.heap.size + 1, 0, none⟩ (.int .i64 0)).setCell ⟨w.heap.size + 1, 1, none⟩ (.int .i64 0)).setCell ⟨w.heap.size + 1, 2, none⟩ (.int .i64 0)).setCell ⟨w.heap.size + 1, 3, none⟩ (.int .i64 0)).setCell ⟨w.heap.size + 1, 4, none⟩ (.string ⟨#[]⟩)).setCell ⟨w.heap.size + 1, 5, none⟩ (.string ⟨#[]⟩)).setCell ⟨w.heap.size + 1, 6, none⟩ (.bool false)).setCell ⟨w.heap.size + 1, 7, none⟩ (.bool false)).setCell ⟨w.heap.size + 1, 8, none⟩ (.int .i64 0)).setCell ⟨w.heap.size + 1, 9, none⟩ (.int .i64 0)).setCell ⟨w.heap.size + 1, 10, none⟩ (.string ⟨#[]⟩)).setCell ⟨w.heap.size + 1, 11, none⟩ (.int .i64 1)) (w.heap.size + 1) [.int .i64 0, .int .i64 0, .int .i64 0, .int .i64 0, .string ⟨#[]⟩, .string ⟨#[]⟩, .bool false, .bool false, .int .i64 0, .int .i64 0, .string ⟨#[]⟩, .int .i64 1]) := ((((((((((((HHz.set 0 (.int .i64 0)).set 1 (.int .i64 0)).set 2 (.int .i64 0)).set 3 (.int .i64 0)).set 4 (.string ⟨#[]⟩)).set 5 (.string ⟨#[]⟩)).set 6 (.bool false)).set 7 (.bool false)).set 8 (.int .i64 0)).set 9 (.int .i64 0)).set 10 (.string ⟨#[]⟩)).set 11 (.int .i64 1))
  have RB : Hid _ := ((((((((((((HS3.out.b.setCell (p := ⟨w.heap.size + 1, 0, none⟩) hlr (.int .i64 0)).setCell (p := ⟨w.heap.size + 1, 1, none⟩) hlr (.int .i64 0)).setCell (p := ⟨w.heap.size + 1, 2, none⟩) hlr (.int .i64 0)).setCell (p := ⟨w.heap.size + 1, 3, none⟩) hlr (.int .i64 0)).setCell (p := ⟨w.heap.size + 1, 4, none⟩) hlr (.string ⟨#[]⟩)).setCell (p := ⟨w.heap.size + 1, 5, none⟩) hlr (.string ⟨#[]⟩)).setCell (p := ⟨w.heap.size + 1, 6, none⟩) hlr (.bool false)).setCell (p := ⟨w.heap.size + 1, 7, none⟩) hlr (.bool false)).setCell (p := ⟨w.heap.size + 1, 8, none⟩) hlr (.int .i64 0)).setCell (p := ⟨w.heap.size + 1, 9, none⟩) hlr (.int .i64 0)).setCell (p := ⟨w.heap.size + 1, 10, none⟩) hlr (.string ⟨#[]⟩)).setCell (p := ⟨w.heap.size + 1, 11, none⟩) hlr (.int .i64 1))
  clear HHz
  go_wp2_with fail
  exact bodyPost_ret (results_mid Try.results5 _ _ (w.heap.size + 1) [.int .i64 0, .int .i64 0, .int .i64 0, .int .i64 0, .string ⟨#[]⟩, .string ⟨#[]⟩, .bool false, .bool false, .int .i64 0, .int .i64 0, .string ⟨#[]⟩, .int .i64 1] _ rfl HRR.out Try.underlying30 rfl (show (Try.prog.info? 30).map (·.size) = some 12 by kernel_rfl)) rfl (And.intro (by rw [HX.out, HY.out]; rfl) RB.out)
 | true =>
 by_cases c3 : src.size = 16
 case neg =>
  have d3 : ((src.size : Int) != 16) = true := by simp; omega
  go_upto_region 4 with fail
  have HX : Hid (code = 1) := HF1.out c1 c2 (.inr (.inl c3))
  have HY : Hid (ans = p6Zero) := HZ.out (by rw [HX.out]; decide)
  clear HL HF1 HZ HRD H44
  have HHz := HS3.out.at (.tail _ (.head _))
  have z0 := HHz.cell (j := 0) rfl
  have z1 := HHz.cell (j := 1) rfl
  have z2 := HHz.cell (j := 2) rfl
  have z3 := HHz.cell (j := 3) rfl
  have z4 := HHz.cell (j := 4) rfl
  have z5 := HHz.cell (j := 5) rfl
  have z6 := HHz.cell (j := 6) rfl
  have z7 := HHz.cell (j := 7) rfl
  have z8 := HHz.cell (j := 8) rfl
  have z9 := HHz.cell (j := 9) rfl
  have z10 := HHz.cell (j := 10) rfl
  have z11 := HHz.cell (j := 11) rfl
  have zf0 := HHz.free (j := 0) (by simp)
  have zf1 := HHz.free (j := 1) (by simp)
  have zf2 := HHz.free (j := 2) (by simp)
  have zf3 := HHz.free (j := 3) (by simp)
  have zf4 := HHz.free (j := 4) (by simp)
  have zf5 := HHz.free (j := 5) (by simp)
  have zf6 := HHz.free (j := 6) (by simp)
  have zf7 := HHz.free (j := 7) (by simp)
  have zf8 := HHz.free (j := 8) (by simp)
  have zf9 := HHz.free (j := 9) (by simp)
  have zf10 := HHz.free (j := 10) (by simp)
  have zf11 := HHz.free (j := 11) (by simp)
  have HRR : Hid (HoldsL ((((((((((((W3.setCell ⟨w.heap.size + 1, 0, none⟩ (.int .i64 0)).setCell ⟨w.heap.size + 1, 1, none⟩ (.int .i64 0)).setCell ⟨w.heap.size + 1, 2, none⟩ (.int .i64 0)).setCell ⟨w.heap.size + 1, 3, none⟩ (.int .i64 0)).setCell ⟨w.heap.size + 1, 4, none⟩ (.string ⟨#[]⟩)).setCell ⟨w.heap.size + 1, 5, none⟩ (.string ⟨#[]⟩)).setCell ⟨w.heap.size + 1, 6, none⟩ (.bool false)).setCell ⟨w.heap.size + 1, 7, none⟩ (.bool false)).setCell ⟨w.heap.size + 1, 8, none⟩ (.int .i64 0)).setCell ⟨w.heap.size + 1, 9, none⟩ (.int .i64 0)).setCell ⟨w.heap.size + 1, 10, none⟩ (.string ⟨#[]⟩)).setCell ⟨w.heap.size + 1, 11, none⟩ (.int .i64 1)) (w.heap.size + 1) [.int .i64 0, .int .i64 0, .int .i64 0, .int .i64 0, .string ⟨#[]⟩, .string ⟨#[]⟩, .bool false, .bool false, .int .i64 0, .int .i64 0, .string ⟨#[]⟩, .int .i64 1]) := ((((((((((((HHz.set 0 (.int .i64 0)).set 1 (.int .i64 0)).set 2 (.int .i64 0)).set 3 (.int .i64 0)).set 4 (.string ⟨#[]⟩)).set 5 (.string ⟨#[]⟩)).set 6 (.bool false)).set 7 (.bool false)).set 8 (.int .i64 0)).set 9 (.int .i64 0)).set 10 (.string ⟨#[]⟩)).set 11 (.int .i64 1))
  have RB : Hid _ := ((((((((((((HS3.out.b.setCell (p := ⟨w.heap.size + 1, 0, none⟩) hlr (.int .i64 0)).setCell (p := ⟨w.heap.size + 1, 1, none⟩) hlr (.int .i64 0)).setCell (p := ⟨w.heap.size + 1, 2, none⟩) hlr (.int .i64 0)).setCell (p := ⟨w.heap.size + 1, 3, none⟩) hlr (.int .i64 0)).setCell (p := ⟨w.heap.size + 1, 4, none⟩) hlr (.string ⟨#[]⟩)).setCell (p := ⟨w.heap.size + 1, 5, none⟩) hlr (.string ⟨#[]⟩)).setCell (p := ⟨w.heap.size + 1, 6, none⟩) hlr (.bool false)).setCell (p := ⟨w.heap.size + 1, 7, none⟩) hlr (.bool false)).setCell (p := ⟨w.heap.size + 1, 8, none⟩) hlr (.int .i64 0)).setCell (p := ⟨w.heap.size + 1, 9, none⟩) hlr (.int .i64 0)).setCell (p := ⟨w.heap.size + 1, 10, none⟩) hlr (.string ⟨#[]⟩)).setCell (p := ⟨w.heap.size + 1, 11, none⟩) hlr (.int .i64 1))
  clear HHz
  go_wp2_with fail
  exact bodyPost_ret (results_mid Try.results5 _ _ (w.heap.size + 1) [.int .i64 0, .int .i64 0, .int .i64 0, .int .i64 0, .string ⟨#[]⟩, .string ⟨#[]⟩, .bool false, .bool false, .int .i64 0, .int .i64 0, .string ⟨#[]⟩, .int .i64 1] _ rfl HRR.out Try.underlying30 rfl (show (Try.prog.info? 30).map (·.size) = some 12 by kernel_rfl)) rfl (And.intro (by rw [HX.out, HY.out]; rfl) RB.out)
 have d3 : ((src.size : Int) != 16) = false := by simp; omega
 by_cases c4 : dst.size = 16
 case neg =>
  have d4 : ((dst.size : Int) != 16) = true := by simp; omega
  have C3 : Hid _ := c3
  clear c3
  go_upto_region 4 with fail
  have HX : Hid (code = 1) := HF1.out c1 c2 (.inr (.inr c4))
  have HY : Hid (ans = p6Zero) := HZ.out (by rw [HX.out]; decide)
  clear HL HF1 HZ HRD H44
  have HHz := HS3.out.at (.tail _ (.head _))
  have z0 := HHz.cell (j := 0) rfl
  have z1 := HHz.cell (j := 1) rfl
  have z2 := HHz.cell (j := 2) rfl
  have z3 := HHz.cell (j := 3) rfl
  have z4 := HHz.cell (j := 4) rfl
  have z5 := HHz.cell (j := 5) rfl
  have z6 := HHz.cell (j := 6) rfl
  have z7 := HHz.cell (j := 7) rfl
  have z8 := HHz.cell (j := 8) rfl
  have z9 := HHz.cell (j := 9) rfl
  have z10 := HHz.cell (j := 10) rfl
  have z11 := HHz.cell (j := 11) rfl
  have zf0 := HHz.free (j := 0) (by simp)
  have zf1 := HHz.free (j := 1) (by simp)
  have zf2 := HHz.free (j := 2) (by simp)
  have zf3 := HHz.free (j := 3) (by simp)
  have zf4 := HHz.free (j := 4) (by simp)
  have zf5 := HHz.free (j := 5) (by simp)
  have zf6 := HHz.free (j := 6) (by simp)
  have zf7 := HHz.free (j := 7) (by simp)
  have zf8 := HHz.free (j := 8) (by simp)
  have zf9 := HHz.free (j := 9) (by simp)
  have zf10 := HHz.free (j := 10) (by simp)
  have zf11 := HHz.free (j := 11) (by simp)
  have HRR : Hid (HoldsL ((((((((((((W3.setCell ⟨w.heap.size + 1, 0, none⟩ (.int .i64 0)).setCell ⟨w.heap.size + 1, 1, none⟩ (.int .i64 0)).setCell ⟨w.heap.size + 1, 2, none⟩ (.int .i64 0)).setCell ⟨w.heap.size + 1, 3, none⟩ (.int .i64 0)).setCell ⟨w.heap.size + 1, 4, none⟩ (.string ⟨#[]⟩)).setCell ⟨w.heap.size + 1, 5, none⟩ (.string ⟨#[]⟩)).setCell ⟨w.heap.size + 1, 6, none⟩ (.bool false)).setCell ⟨w.heap.size + 1, 7, none⟩ (.bool false)).setCell ⟨w.heap.size + 1, 8, none⟩ (.int .i64 0)).setCell ⟨w.heap.size + 1, 9, none⟩ (.int .i64 0)).setCell ⟨w.heap.size + 1, 10, none⟩ (.string ⟨#[]⟩)).setCell ⟨w.heap.size + 1, 11, none⟩ (.int .i64 1)) (w.heap.size + 1) [.int .i64 0, .int .i64 0, .int .i64 0, .int .i64 0, .string ⟨#[]⟩, .string ⟨#[]⟩, .bool false, .bool false, .int .i64 0, .int .i64 0, .string ⟨#[]⟩, .int .i64 1]) := ((((((((((((HHz.set 0 (.int .i64 0)).set 1 (.int .i64 0)).set 2 (.int .i64 0)).set 3 (.int .i64 0)).set 4 (.string ⟨#[]⟩)).set 5 (.string ⟨#[]⟩)).set 6 (.bool false)).set 7 (.bool false)).set 8 (.int .i64 0)).set 9 (.int .i64 0)).set 10 (.string ⟨#[]⟩)).set 11 (.int .i64 1))
  have RB : Hid _ := ((((((((((((HS3.out.b.setCell (p := ⟨w.heap.size + 1, 0, none⟩) hlr (.int .i64 0)).setCell (p := ⟨w.heap.size + 1, 1, none⟩) hlr (.int .i64 0)).setCell (p := ⟨w.heap.size + 1, 2, none⟩) hlr (.int .i64 0)).setCell (p := ⟨w.heap.size + 1, 3, none⟩) hlr (.int .i64 0)).setCell (p := ⟨w.heap.size + 1, 4, none⟩) hlr (.string ⟨#[]⟩)).setCell (p := ⟨w.heap.size + 1, 5, none⟩) hlr (.string ⟨#[]⟩)).setCell (p := ⟨w.heap.size + 1, 6, none⟩) hlr (.bool false)).setCell (p := ⟨w.heap.size + 1, 7, none⟩) hlr (.bool false)).setCell (p := ⟨w.heap.size + 1, 8, none⟩) hlr (.int .i64 0)).setCell (p := ⟨w.heap.size + 1, 9, none⟩) hlr (.int .i64 0)).setCell (p := ⟨w.heap.size + 1, 10, none⟩) hlr (.string ⟨#[]⟩)).setCell (p := ⟨w.heap.size + 1, 11, none⟩) hlr (.int .i64 1))
  clear HHz
  go_wp2_with fail
  exact bodyPost_ret (results_mid Try.results5 _ _ (w.heap.size + 1) [.int .i64 0, .int .i64 0, .int .i64 0, .int .i64 0, .string ⟨#[]⟩, .string ⟨#[]⟩, .bool false, .bool false, .int .i64 0, .int .i64 0, .string ⟨#[]⟩, .int .i64 1] _ rfl HRR.out Try.underlying30 rfl (show (Try.prog.info? 30).map (·.size) = some 12 by kernel_rfl)) rfl (And.intro (by rw [HX.out, HY.out]; rfl) RB.out)
 have d4 : ((dst.size : Int) != 16) = false := by simp; omega
 by_cases c5 : proto = 44
 case pos =>
  subst c5
  have C3 : Hid _ := c3
  have C4 : Hid _ := c4
  clear c3 c4
  have HHk := HS3.out.at (.head _)
  have k0 := HHk.cell (j := 0) rfl
  have k1 := HHk.cell (j := 1) rfl
  have k2 := HHk.cell (j := 2) rfl
  have k3 := HHk.cell (j := 3) rfl
  have k4 := HHk.cell (j := 4) rfl
  have k5 := HHk.cell (j := 5) rfl
  have k6 := HHk.cell (j := 6) rfl
  have k7 := HHk.cell (j := 7) rfl
  have k8 := HHk.cell (j := 8) rfl
  have k9 := HHk.cell (j := 9) rfl
  have k10 := HHk.cell (j := 10) rfl
  clear HHk
  go_upto_region 4 with fail
  clear k0 k1 k2 k3 k4 k5 k6 k7 k8 k9 k10
  have HX : Hid (code = 1) := H44.out c1 c2 (by first | rfl | trivial)
  have HY : Hid (ans = p6Zero) := HZ.out (by rw [HX.out]; decide)
  clear HL HF1 HZ HRD H44
  have HHz := HS3.out.at (.tail _ (.head _))
  have z0 := HHz.cell (j := 0) rfl
  have z1 := HHz.cell (j := 1) rfl
  have z2 := HHz.cell (j := 2) rfl
  have z3 := HHz.cell (j := 3) rfl
  have z4 := HHz.cell (j := 4) rfl
  have z5 := HHz.cell (j := 5) rfl
  have z6 := HHz.cell (j := 6) rfl
  have z7 := HHz.cell (j := 7) rfl
  have z8 := HHz.cell (j := 8) rfl
  have z9 := HHz.cell (j := 9) rfl
  have z10 := HHz.cell (j := 10) rfl
  have z11 := HHz.cell (j := 11) rfl
  have zf0 := HHz.free (j := 0) (by simp)
  have zf1 := HHz.free (j := 1) (by simp)
  have zf2 := HHz.free (j := 2) (by simp)
  have zf3 := HHz.free (j := 3) (by simp)
  have zf4 := HHz.free (j := 4) (by simp)
  have zf5 := HHz.free (j := 5) (by simp)
  have zf6 := HHz.free (j := 6) (by simp)
  have zf7 := HHz.free (j := 7) (by simp)
  have zf8 := HHz.free (j := 8) (by simp)
  have zf9 := HHz.free (j := 9) (by simp)
  have zf10 := HHz.free (j := 10) (by simp)
  have zf11 := HHz.free (j := 11) (by simp)
  have HRR : Hid (HoldsL ((((((((((((W3.setCell ⟨w.heap.size + 1, 0, none⟩ (.int .i64 0)).setCell ⟨w.heap.size + 1, 1, none⟩ (.int .i64 0)).setCell ⟨w.heap.size + 1, 2, none⟩ (.int .i64 0)).setCell ⟨w.heap.size + 1, 3, none⟩ (.int .i64 0)).setCell ⟨w.heap.size + 1, 4, none⟩ (.string ⟨#[]⟩)).setCell ⟨w.heap.size + 1, 5, none⟩ (.string ⟨#[]⟩)).setCell ⟨w.heap.size + 1, 6, none⟩ (.bool false)).setCell ⟨w.heap.size + 1, 7, none⟩ (.bool false)).setCell ⟨w.heap.size + 1, 8, none⟩ (.int .i64 0)).setCell ⟨w.heap.size + 1, 9, none⟩ (.int .i64 0)).setCell ⟨w.heap.size + 1, 10, none⟩ (.string ⟨#[]⟩)).setCell ⟨w.heap.size + 1, 11, none⟩ (.int .i64 1)) (w.heap.size + 1) [.int .i64 0, .int .i64 0, .int .i64 0, .int .i64 0, .string ⟨#[]⟩, .string ⟨#[]⟩, .bool false, .bool false, .int .i64 0, .int .i64 0, .string ⟨#[]⟩, .int .i64 1]) := ((((((((((((HHz.set 0 (.int .i64 0)).set 1 (.int .i64 0)).set 2 (.int .i64 0)).set 3 (.int .i64 0)).set 4 (.string ⟨#[]⟩)).set 5 (.string ⟨#[]⟩)).set 6 (.bool false)).set 7 (.bool false)).set 8 (.int .i64 0)).set 9 (.int .i64 0)).set 10 (.string ⟨#[]⟩)).set 11 (.int .i64 1))
  have RB : Hid _ := ((((((((((((HS3.out.b.setCell (p := ⟨w.heap.size + 1, 0, none⟩) hlr (.int .i64 0)).setCell (p := ⟨w.heap.size + 1, 1, none⟩) hlr (.int .i64 0)).setCell (p := ⟨w.heap.size + 1, 2, none⟩) hlr (.int .i64 0)).setCell (p := ⟨w.heap.size + 1, 3, none⟩) hlr (.int .i64 0)).setCell (p := ⟨w.heap.size + 1, 4, none⟩) hlr (.string ⟨#[]⟩)).setCell (p := ⟨w.heap.size + 1, 5, none⟩) hlr (.string ⟨#[]⟩)).setCell (p := ⟨w.heap.size + 1, 6, none⟩) hlr (.bool false)).setCell (p := ⟨w.heap.size + 1, 7, none⟩) hlr (.bool false)).setCell (p := ⟨w.heap.size + 1, 8, none⟩) hlr (.int .i64 0)).setCell (p := ⟨w.heap.size + 1, 9, none⟩) hlr (.int .i64 0)).setCell (p := ⟨w.heap.size + 1, 10, none⟩) hlr (.string ⟨#[]⟩)).setCell (p := ⟨w.heap.size + 1, 11, none⟩) hlr (.int .i64 1))
  clear HHz
  go_wp2_with fail
  exact bodyPost_ret (results_mid Try.results5 _ _ (w.heap.size + 1) [.int .i64 0, .int .i64 0, .int .i64 0, .int .i64 0, .string ⟨#[]⟩, .string ⟨#[]⟩, .bool false, .bool false, .int .i64 0, .int .i64 0, .string ⟨#[]⟩, .int .i64 1] _ rfl HRR.out Try.underlying30 rfl (show (Try.prog.info? 30).map (·.size) = some 12 by kernel_rfl)) rfl (And.intro (by rw [HX.out, HY.out]; rfl) RB.out)
 have d5 : (proto == 44) = false := by simpa using c5
 replace HF : Hid _ := HF.out rfl c3 c4
 replace HRD : Hid _ := HRD.out rfl c3 c4 c5
 replace HSZ : Hid _ := HSZ.out rfl c3 c4
 clear c3 c4 HL HF1 HZ H44
 have HHk := HS3.out.at (.head _)
 have k0 := HHk.cell (j := 0) rfl
 have k1 := HHk.cell (j := 1) rfl
 have k2 := HHk.cell (j := 2) rfl
 have k3 := HHk.cell (j := 3) rfl
 have k4 := HHk.cell (j := 4) rfl
 have k5 := HHk.cell (j := 5) rfl
 have k6 := HHk.cell (j := 6) rfl
 have k7 := HHk.cell (j := 7) rfl
 have k8 := HHk.cell (j := 8) rfl
 have k9 := HHk.cell (j := 9) rfl
 have k10 := HHk.cell (j := 10) rfl
 clear HHk
 go_upto_region 5 with fail
 clear k0 k1 k2 k3 k4 k5 k6 k7 k8 k9 k10
 have HCP : Hid (∀ wy, Below W3.drew.heap.size W3.drew wy → _) := fun wy hy => HS3.out.kept ((Below.refl _ _).drew.trans hy)
 obtain ⟨z1, z2, z3⟩ := HSZ.out
 have nn : ¬ 9223372036854775807 < ht.size + data.size := by omega
 clear HS3 HSZ
 obtain ⟨qcls, qflow, qnext, qhops, qsrc, qdst, qpiece, qmore, qoff, qid, qdata⟩ := ans
 unfold p6CO at *
 dsimp only at *
 refine wp_region_growV [33, 34, 35, 36, 37, 38, 39, 40, 41] (by kernel_rfl) (by kernel_rfl) ?_
 refine GChV.val (n := 0) (fun v => [IsV v]) (fun _ => rfl) rfl ?_
 apply Exists.intro
 refine And.intro ?_ ?_
 ·intro K' a wy ho hd hb hK
  rw [if_pos (wanted_none rfl)]
  have o3 := ho 3 (by decide)
  simp [slot] at o3
  clear hd ho
  have hst := HCP.out wy hb
  have HHk := hst.at (.head _)
  have k0 := HHk.cell (j := 0) rfl
  have k1 := HHk.cell (j := 1) rfl
  have k2 := HHk.cell (j := 2) rfl
  have k3 := HHk.cell (j := 3) rfl
  have k4 := HHk.cell (j := 4) rfl
  have k5 := HHk.cell (j := 5) rfl
  have k6 := HHk.cell (j := 6) rfl
  have k7 := HHk.cell (j := 7) rfl
  have k8 := HHk.cell (j := 8) rfl
  have k9 := HHk.cell (j := 9) rfl
  have k10 := HHk.cell (j := 10) rfl
  clear HHk
  clear hst
  go_simp
  try go_bits
  exact hK _ _ rfl (Below.refl _ _)
 refine GChV.val (n := 1) (fun v => [_, IsV v]) (fun _ => rfl) rfl ?_
 apply Exists.intro
 refine And.intro ?_ ?_
 ·intro K' a wy ho hd hb hK
  rw [if_pos (wanted_none rfl)]
  have o1 := ho 1 (by decide)
  simp [slot] at o1
  clear hd ho
  go_simp
  try go_bits
  exact hK _ _ rfl (Below.refl _ _)
 refine GChV.val (n := 2) (fun v => [_, _, IsV v]) (fun _ => rfl) rfl ?_
 apply Exists.intro
 refine And.intro ?_ ?_
 ·intro K' a wy ho hd hb hK
  rw [if_pos (wanted_none rfl)]
  have o2 := ho 2 (by decide)
  simp [slot] at o2
  clear hd ho
  go_simp
  try go_bits
  exact hK _ _ rfl (Below.refl _ _)
 refine GChV.rel (n := 3) (IsHs ht) (stable_isHs _ z1) [_, _, _, IsHs ht] rfl rfl ?_ ?_
 ·intro K' a wy ho hd hb hK
  rw [if_pos (wanted_none rfl)]
  have q0 := hd ⟨0, .data⟩ (by simp) rfl
  simp [rAt, IsV, slot] at q0
  have q1 := hd ⟨1, .data⟩ (by simp) rfl
  simp [rAt, IsV, slot] at q1
  have q2 := hd ⟨2, .data⟩ (by simp) rfl
  simp [rAt, IsV, slot] at q2
  clear hd ho
  go_simp
  refine (HF.out wy).mono ?_
  rintro e wz ⟨g3, n3, rfl, e4, e5, hz⟩
  exact hK _ _ ⟨g3, n3, rfl, e4, e5⟩ hz
 refine GChV.val (n := 4) (fun v => [_, _, _, _, IsV v]) (fun _ => rfl) rfl ?_
 apply Exists.intro
 refine And.intro ?_ ?_
 ·intro K' a wy ho hd hb hK
  rw [if_pos (wanted_none rfl)]
  have hr : IsHs ht (slot a 36) wy := hd ⟨3, .data⟩ (by simp) rfl
  obtain ⟨g3, n3, e3, e4, e5⟩ := hr
  subst e4
  simp [slot] at e3
  have hcv := hold_conv (cap := ht.size) e5 rfl
  clear hd ho
  go_simp
  try go_bits
  exact hK _ _ rfl (Below.refl _ _)
 refine GChV.val (n := 5) (fun v => [_, _, _, _, _, IsV v]) (fun _ => rfl) rfl ?_
 apply Exists.intro
 refine And.intro ?_ ?_
 ·intro K' a wy ho hd hb hK
  rw [if_pos (wanted_none rfl)]
  have o3 := ho 3 (by decide)
  simp [slot] at o3
  clear hd ho
  go_simp
  try go_bits
  exact hK _ _ rfl (Below.refl _ _)
 refine GChV.val (n := 6) (fun v => [_, _, _, _, _, _, IsV v]) (fun _ => rfl) rfl ?_
 apply Exists.intro
 refine And.intro ?_ ?_
 ·intro K' a wy ho hd hb hK
  rw [if_pos (wanted_none rfl)]
  have q5 := hd ⟨5, .data⟩ (by simp) rfl
  simp [rAt, IsV, slot] at q5
  clear hd ho
  have hst := HCP.out wy hb
  have HHk := hst.at (.head _)
  have k0 := HHk.cell (j := 0) rfl
  have k1 := HHk.cell (j := 1) rfl
  have k2 := HHk.cell (j := 2) rfl
  have k3 := HHk.cell (j := 3) rfl
  have k4 := HHk.cell (j := 4) rfl
  have k5 := HHk.cell (j := 5) rfl
  have k6 := HHk.cell (j := 6) rfl
  have k7 := HHk.cell (j := 7) rfl
  have k8 := HHk.cell (j := 8) rfl
  have k9 := HHk.cell (j := 9) rfl
  have k10 := HHk.cell (j := 10) rfl
  clear HHk
  clear hst
  go_simp
  try go_bits
  exact hK _ _ rfl (Below.refl _ _)
 refine GChV.val (n := 7) (fun v => [_, _, _, _, _, _, _, IsV v]) (fun _ => rfl) rfl ?_
 apply Exists.intro
 refine And.intro ?_ ?_
 ·intro K' a wy ho hd hb hK
  rw [if_pos (wanted_none rfl)]
  have q4 := hd ⟨4, .data⟩ (by simp) rfl
  simp [rAt, IsV, slot] at q4
  have q6 := hd ⟨6, .data⟩ (by simp) rfl
  simp [rAt, IsV, slot] at q6
  clear hd ho
  go_simp
  try go_bits
  exact hK _ _ rfl (Below.refl _ _)
 refine GChV.val (n := 8) (fun v => [_, _, _, _, _, _, _, _, IsV v]) (fun _ => rfl) rfl ?_
 apply Exists.intro
 refine And.intro ?_ ?_
 ·intro K' a wy ho hd hb hK
  rw [if_pos (wanted_none rfl)]
  have q7 := hd ⟨7, .data⟩ (by simp) rfl
  simp [rAt, IsV, slot] at q7
  clear hd ho
  go_simp
  refine (HRD.out wy).mono ?_
  rintro e wz ⟨rfl, hz⟩
  exact hK _ _ rfl hz
 intro X wz hR hz
 obtain ⟨x0, x1, x2, x3, x4, x5, x6, x7, x8, -⟩ := hR
 obtain ⟨g3, n3, e3, -, -⟩ := x3
 simp only [IsV] at x0 x1 x2 x4 x5 x6 x7 x8
 simp only [putsFrom, x0, x1, x2, e3, x4, x5, x6, x7, x8]
 clear x0 x1 x2 x4 x5 x6 x7 x8
 have V7 : Hid (Bxs w [(w.heap.size, [.int .i64 tos, .int .i64 id, .bool whole, .bool more, .int .i64 off, .int .i64 ttl, .int .i64 proto, .string src4, .string dst4, .string opts, .string data]), (w.heap.size + 1, [.int .i64 0, .int .i64 0, .int .i64 0, .int .i64 0, .string ⟨#[]⟩, .string ⟨#[]⟩, .bool false, .bool false, .int .i64 0, .int .i64 0, .string ⟨#[]⟩, .int .i64 0])] wz) := HCP.out wz hz
 clear hz HCP HF HRD
 have HHz := V7.out.at (.tail _ (.head _))
 have z0 := HHz.cell (j := 0) rfl
 have z1 := HHz.cell (j := 1) rfl
 have z2 := HHz.cell (j := 2) rfl
 have z3 := HHz.cell (j := 3) rfl
 have z4 := HHz.cell (j := 4) rfl
 have z5 := HHz.cell (j := 5) rfl
 have z6 := HHz.cell (j := 6) rfl
 have z7 := HHz.cell (j := 7) rfl
 have z8 := HHz.cell (j := 8) rfl
 have z9 := HHz.cell (j := 9) rfl
 have z10 := HHz.cell (j := 10) rfl
 have z11 := HHz.cell (j := 11) rfl
 have zf0 := HHz.free (j := 0) (by simp)
 have zf1 := HHz.free (j := 1) (by simp)
 have zf2 := HHz.free (j := 2) (by simp)
 have zf3 := HHz.free (j := 3) (by simp)
 have zf4 := HHz.free (j := 4) (by simp)
 have zf5 := HHz.free (j := 5) (by simp)
 have zf6 := HHz.free (j := 6) (by simp)
 have zf7 := HHz.free (j := 7) (by simp)
 have zf8 := HHz.free (j := 8) (by simp)
 have zf9 := HHz.free (j := 9) (by simp)
 have zf10 := HHz.free (j := 10) (by simp)
 have zf11 := HHz.free (j := 11) (by simp)
 have HRR : Hid (HoldsL ((((((((((((wz.setCell ⟨w.heap.size + 1, 0, none⟩ (.int .i64 qcls)).setCell ⟨w.heap.size + 1, 1, none⟩ (.int .i64 qflow)).setCell ⟨w.heap.size + 1, 2, none⟩ (.int .i64 qnext)).setCell ⟨w.heap.size + 1, 3, none⟩ (.int .i64 qhops)).setCell ⟨w.heap.size + 1, 4, none⟩ (.string qsrc)).setCell ⟨w.heap.size + 1, 5, none⟩ (.string qdst)).setCell ⟨w.heap.size + 1, 6, none⟩ (.bool qpiece)).setCell ⟨w.heap.size + 1, 7, none⟩ (.bool qmore)).setCell ⟨w.heap.size + 1, 8, none⟩ (.int .i64 qoff)).setCell ⟨w.heap.size + 1, 9, none⟩ (.int .i64 qid)).setCell ⟨w.heap.size + 1, 10, none⟩ (.string qdata)).setCell ⟨w.heap.size + 1, 11, none⟩ (.int .i64 code)) (w.heap.size + 1) [.int .i64 qcls, .int .i64 qflow, .int .i64 qnext, .int .i64 qhops, .string qsrc, .string qdst, .bool qpiece, .bool qmore, .int .i64 qoff, .int .i64 qid, .string qdata, .int .i64 code]) := ((((((((((((HHz.set 0 (.int .i64 qcls)).set 1 (.int .i64 qflow)).set 2 (.int .i64 qnext)).set 3 (.int .i64 qhops)).set 4 (.string qsrc)).set 5 (.string qdst)).set 6 (.bool qpiece)).set 7 (.bool qmore)).set 8 (.int .i64 qoff)).set 9 (.int .i64 qid)).set 10 (.string qdata)).set 11 (.int .i64 code))
 have RB : Hid _ := ((((((((((((V7.out.b.setCell (p := ⟨w.heap.size + 1, 0, none⟩) hlr (.int .i64 qcls)).setCell (p := ⟨w.heap.size + 1, 1, none⟩) hlr (.int .i64 qflow)).setCell (p := ⟨w.heap.size + 1, 2, none⟩) hlr (.int .i64 qnext)).setCell (p := ⟨w.heap.size + 1, 3, none⟩) hlr (.int .i64 qhops)).setCell (p := ⟨w.heap.size + 1, 4, none⟩) hlr (.string qsrc)).setCell (p := ⟨w.heap.size + 1, 5, none⟩) hlr (.string qdst)).setCell (p := ⟨w.heap.size + 1, 6, none⟩) hlr (.bool qpiece)).setCell (p := ⟨w.heap.size + 1, 7, none⟩) hlr (.bool qmore)).setCell (p := ⟨w.heap.size + 1, 8, none⟩) hlr (.int .i64 qoff)).setCell (p := ⟨w.heap.size + 1, 9, none⟩) hlr (.int .i64 qid)).setCell (p := ⟨w.heap.size + 1, 10, none⟩) hlr (.string qdata)).setCell (p := ⟨w.heap.size + 1, 11, none⟩) hlr (.int .i64 code))
 clear HHz
 intro K10 hK10
 go_simp
 refine hK10 _ _ ?_
 simp only [wpSeq]
 go_wp2_with fail
 exact bodyPost_ret (results_mid Try.results5 _ _ (w.heap.size + 1) [.int .i64 qcls, .int .i64 qflow, .int .i64 qnext, .int .i64 qhops, .string qsrc, .string qdst, .bool qpiece, .bool qmore, .int .i64 qoff, .int .i64 qid, .string qdata, .int .i64 code] _ rfl HRR.out Try.underlying30 rfl (show (Try.prog.info? 30).map (·.size) = some 12 by kernel_rfl)) rfl (And.intro rfl RB.out)
end Go.Proofs.Ytofenlclefkgdaa
