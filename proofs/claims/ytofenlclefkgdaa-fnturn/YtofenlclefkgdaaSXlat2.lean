/- SXlat2: what the specification's ToFour and ToSix answer. Printed by mkxlat2.py. -/
import Derived.Test.YtofenlclefkgdaaSXlat
namespace Go.Proofs.Ytofenlclefkgdaa
open Go.RowKit Go.PlainAid
set_option linter.unusedVariables false
set_option linter.unusedSimpArgs false

set_option maxRecDepth 100000 in
set_option maxHeartbeats 4000000 in
theorem specToFour_any (p : P6) (src dst : ByteArray) (w : World) (hs : P6Sm p) (hw : P6Wf p) (h1 : src.size ≤ 1048576) (h2 : dst.size ≤ 1048576) (h3 : p.data.size ≤ 1048576) :
  Calls Try.prog 9 #[p6C p, .string src, .string dst] w fun e w' => e = .returned (p4CO (four6V p src dst) (four6C p src dst)) ∧ Below w.heap.size w w' := by
 have HR : Hid (∀ W, Calls Try.prog 20 #[p6C p] W fun e w' => e = .returned (.bool (v6Ok p)) ∧ Below W.heap.size W w') := fun W => specV6Right_sm p W hs hw
 have HF : Hid (v6Ok p = true → ∀ W, Calls Try.prog 25 #[p6C p, .string src, .string dst] W fun e w' => e = .returned (p4C (four6 p src dst)) ∧ Below W.heap.size W w') := fun h W => spFour_any p src dst W (v6B_parts (v6Ok_ab h).2).2.1.1 (v6B_parts (v6Ok_ab h).2).2.1.2
 have HQ : Hid (v6Ok p = true → ∀ W, Calls Try.prog 18 #[p4C (four6 p src dst)] W fun e w' => e = .returned (.bool (v4Ok (four6 p src dst))) ∧ Below W.heap.size W w') := fun h W => specV4Right_any _ W h1 h2 (by show (⟨#[]⟩ : ByteArray).size ≤ 1048576; decide) h3
 have HL : Hid (20000 < src.size ∨ 20000 < dst.size → four6C p src dst = 2) := fun h => if_pos (by unfold long2; simpa using h)
 have HF1 : Hid (¬ 20000 < src.size → ¬ 20000 < dst.size → (v6Ok p = false ∨ src.size ≠ 4 ∨ dst.size ≠ 4) → four6C p src dst = 1) := fun x y h => by
  unfold four6C; rw [if_neg (by unfold long2; simp; omega), if_pos ?_]
  rcases h with h | h | h <;> simp [h]
 have HF2 : Hid (v6Ok p = true → src.size = 4 → dst.size = 4 → four6C p src dst = if v4Ok (four6 p src dst) then 0 else 1) := fun h hx hy => by
  unfold four6C; rw [if_neg (by unfold long2; simp; omega), if_neg (by simp [h, hx, hy])]
 have HZ : Hid (four6C p src dst ≠ 0 → four6V p src dst = p4Zero) := fun h => by unfold four6V; rw [if_neg h]
 have HG : Hid (four6C p src dst = 0 → four6V p src dst = four6 p src dst) := fun h => by unfold four6V; rw [if_pos h]
 generalize v6Ok p = ok at *
 generalize four6C p src dst = code at *
 generalize four6V p src dst = ans at *
 generalize four6 p src dst = q at *
 generalize v4Ok q = okq at *
 clear hs hw h3
 obtain ⟨cls, flow, next, hops, src6, dst6, piece, more, off, id, data⟩ := p
 unfold p6C at *
 dsimp only at *
 have e0 : HoldsL ((w.alloc (.cells #[.int .i64 cls, .int .i64 flow, .int .i64 next, .int .i64 hops, .string src6, .string dst6, .bool piece, .bool more, .int .i64 off, .int .i64 id, .string data] 28)).alloc (.cells #[.int .i64 0, .int .i64 0, .bool false, .bool false, .int .i64 0, .int .i64 0, .int .i64 0, .string ⟨#[]⟩, .string ⟨#[]⟩, .string ⟨#[]⟩, .string ⟨#[]⟩, .int .i64 0] 33)) (w.heap.size) [.int .i64 cls, .int .i64 flow, .int .i64 next, .int .i64 hops, .string src6, .string dst6, .bool piece, .bool more, .int .i64 off, .int .i64 id, .string data] := by
  have h := HoldsL.new w [.int .i64 cls, .int .i64 flow, .int .i64 next, .int .i64 hops, .string src6, .string dst6, .bool piece, .bool more, .int .i64 off, .int .i64 id, .string data] 28
  try simp only [World.size_alloc] at h
  exact (h.alloc _)
 have e1 : HoldsL ((w.alloc (.cells #[.int .i64 cls, .int .i64 flow, .int .i64 next, .int .i64 hops, .string src6, .string dst6, .bool piece, .bool more, .int .i64 off, .int .i64 id, .string data] 28)).alloc (.cells #[.int .i64 0, .int .i64 0, .bool false, .bool false, .int .i64 0, .int .i64 0, .int .i64 0, .string ⟨#[]⟩, .string ⟨#[]⟩, .string ⟨#[]⟩, .string ⟨#[]⟩, .int .i64 0] 33)) (w.heap.size + 1) [.int .i64 0, .int .i64 0, .bool false, .bool false, .int .i64 0, .int .i64 0, .int .i64 0, .string ⟨#[]⟩, .string ⟨#[]⟩, .string ⟨#[]⟩, .string ⟨#[]⟩, .int .i64 0] := by
  have h := HoldsL.new (w.alloc (.cells #[.int .i64 cls, .int .i64 flow, .int .i64 next, .int .i64 hops, .string src6, .string dst6, .bool piece, .bool more, .int .i64 off, .int .i64 id, .string data] 28)) [.int .i64 0, .int .i64 0, .bool false, .bool false, .int .i64 0, .int .i64 0, .int .i64 0, .string ⟨#[]⟩, .string ⟨#[]⟩, .string ⟨#[]⟩, .string ⟨#[]⟩, .int .i64 0] 33
  try simp only [World.size_alloc] at h
  exact h
 have HS0 : Hid (Bxs w [(w.heap.size, [.int .i64 cls, .int .i64 flow, .int .i64 next, .int .i64 hops, .string src6, .string dst6, .bool piece, .bool more, .int .i64 off, .int .i64 id, .string data]), (w.heap.size + 1, [.int .i64 0, .int .i64 0, .bool false, .bool false, .int .i64 0, .int .i64 0, .int .i64 0, .string ⟨#[]⟩, .string ⟨#[]⟩, .string ⟨#[]⟩, .string ⟨#[]⟩, .int .i64 0])] ((w.alloc (.cells #[.int .i64 cls, .int .i64 flow, .int .i64 next, .int .i64 hops, .string src6, .string dst6, .bool piece, .bool more, .int .i64 off, .int .i64 id, .string data] 28)).alloc (.cells #[.int .i64 0, .int .i64 0, .bool false, .bool false, .int .i64 0, .int .i64 0, .int .i64 0, .string ⟨#[]⟩, .string ⟨#[]⟩, .string ⟨#[]⟩, .string ⟨#[]⟩, .int .i64 0] 33))) := by
  refine ⟨fun e he => ?_, (((Below.refl _ _).alloc (by (try simp only [World.size_alloc]); omega) _).alloc (by (try simp only [World.size_alloc]); omega) _), fun e he => ?_⟩
  ·simp only [List.mem_cons, List.not_mem_nil, or_false] at he
   rcases he with rfl | rfl
   ·exact e0
   ·exact e1
  ·simp only [List.mem_cons, List.not_mem_nil, or_false] at he
   rcases he with rfl | rfl <;> simp
 clear e0 e1
 have hlr : w.heap.size ≤ w.heap.size + 1 := by omega
 by_cases c1 : 20000 < src.size
 ·have d1 : (20000 : Int) < src.size := by omega
  go_enter Try.func9, Try.ntmps9
  go_upto_region 2 with fail
  generalize ((w.alloc (.cells #[.int .i64 cls, .int .i64 flow, .int .i64 next, .int .i64 hops, .string src6, .string dst6, .bool piece, .bool more, .int .i64 off, .int .i64 id, .string data] 28)).alloc (.cells #[.int .i64 0, .int .i64 0, .bool false, .bool false, .int .i64 0, .int .i64 0, .int .i64 0, .string ⟨#[]⟩, .string ⟨#[]⟩, .string ⟨#[]⟩, .string ⟨#[]⟩, .int .i64 0] 33)) = W0 at *
  have HX : Hid (code = 2) := HL.out (.inl c1)
  have HY : Hid (ans = p4Zero) := HZ.out (by rw [HX.out]; decide)
  clear HL HF1 HF2 HZ HG
  have HHz := HS0.out.at (.tail _ (.head _))
  have z0 := HHz.cell (j := 0) rfl
  have z1 := HHz.cell (j := 1) rfl
  have z2 := HHz.cell (j := 2) rfl
  have z3 := HHz.cell (j := 3) rfl
  have z4 := HHz.cell (j := 4) rfl
  have z5 := HHz.cell (j := 5) rfl
  have z6 := HHz.cell (j := 6) rfl
  have z7 := HHz.cell (j := 7) rfl
  have z8 := HHz.cell (j := 8) rfl
  have z9 := HHz.cell (j := 9) rfl
  have z10 := HHz.cell (j := 10) rfl
  have z11 := HHz.cell (j := 11) rfl
  have zf0 := HHz.free (j := 0) (by simp)
  have zf1 := HHz.free (j := 1) (by simp)
  have zf2 := HHz.free (j := 2) (by simp)
  have zf3 := HHz.free (j := 3) (by simp)
  have zf4 := HHz.free (j := 4) (by simp)
  have zf5 := HHz.free (j := 5) (by simp)
  have zf6 := HHz.free (j := 6) (by simp)
  have zf7 := HHz.free (j := 7) (by simp)
  have zf8 := HHz.free (j := 8) (by simp)
  have zf9 := HHz.free (j := 9) (by simp)
  have zf10 := HHz.free (j := 10) (by simp)
  have zf11 := HHz.free (j := 11) (by simp)
  have HRR : Hid (HoldsL ((((((((((((W0.setCell ⟨w.heap.size + 1, 0, none⟩ (.int .i64 0)).setCell ⟨w.heap.size + 1, 1, none⟩ (.int .i64 0)).setCell ⟨w.heap.size + 1, 2, none⟩ (.bool false)).setCell ⟨w.heap.size + 1, 3, none⟩ (.bool false)).setCell ⟨w.heap.size + 1, 4, none⟩ (.int .i64 0)).setCell ⟨w.heap.size + 1, 5, none⟩ (.int .i64 0)).setCell ⟨w.heap.size + 1, 6, none⟩ (.int .i64 0)).setCell ⟨w.heap.size + 1, 7, none⟩ (.string ⟨#[]⟩)).setCell ⟨w.heap.size + 1, 8, none⟩ (.string ⟨#[]⟩)).setCell ⟨w.heap.size + 1, 9, none⟩ (.string ⟨#[]⟩)).setCell ⟨w.heap.size + 1, 10, none⟩ (.string ⟨#[]⟩)).setCell ⟨w.heap.size + 1, 11, none⟩ (.int .i64 2)) (w.heap.size + 1) [.int .i64 0, .int .i64 0, .bool false, .bool false, .int .i64 0, .int .i64 0, .int .i64 0, .string ⟨#[]⟩, .string ⟨#[]⟩, .string ⟨#[]⟩, .string ⟨#[]⟩, .int .i64 2]) := ((((((((((((HHz.set 0 (.int .i64 0)).set 1 (.int .i64 0)).set 2 (.bool false)).set 3 (.bool false)).set 4 (.int .i64 0)).set 5 (.int .i64 0)).set 6 (.int .i64 0)).set 7 (.string ⟨#[]⟩)).set 8 (.string ⟨#[]⟩)).set 9 (.string ⟨#[]⟩)).set 10 (.string ⟨#[]⟩)).set 11 (.int .i64 2))
  have RB : Hid _ := ((((((((((((HS0.out.b.setCell (p := ⟨w.heap.size + 1, 0, none⟩) hlr (.int .i64 0)).setCell (p := ⟨w.heap.size + 1, 1, none⟩) hlr (.int .i64 0)).setCell (p := ⟨w.heap.size + 1, 2, none⟩) hlr (.bool false)).setCell (p := ⟨w.heap.size + 1, 3, none⟩) hlr (.bool false)).setCell (p := ⟨w.heap.size + 1, 4, none⟩) hlr (.int .i64 0)).setCell (p := ⟨w.heap.size + 1, 5, none⟩) hlr (.int .i64 0)).setCell (p := ⟨w.heap.size + 1, 6, none⟩) hlr (.int .i64 0)).setCell (p := ⟨w.heap.size + 1, 7, none⟩) hlr (.string ⟨#[]⟩)).setCell (p := ⟨w.heap.size + 1, 8, none⟩) hlr (.string ⟨#[]⟩)).setCell (p := ⟨w.heap.size + 1, 9, none⟩) hlr (.string ⟨#[]⟩)).setCell (p := ⟨w.heap.size + 1, 10, none⟩) hlr (.string ⟨#[]⟩)).setCell (p := ⟨w.heap.size + 1, 11, none⟩) hlr (.int .i64 2))
  clear HHz
  go_wp2_with fail
  exact bodyPost_ret (results_mid Try.results9 _ _ (w.heap.size + 1) [.int .i64 0, .int .i64 0, .bool false, .bool false, .int .i64 0, .int .i64 0, .int .i64 0, .string ⟨#[]⟩, .string ⟨#[]⟩, .string ⟨#[]⟩, .string ⟨#[]⟩, .int .i64 2] _ rfl HRR.out Try.underlying33 rfl (show (Try.prog.info? 33).map (·.size) = some 12 by kernel_rfl)) rfl (And.intro (by rw [HX.out, HY.out]; rfl) RB.out)
 have d1 : ¬ (20000 : Int) < src.size := by omega
 by_cases c2 : 20000 < dst.size
 ·have d2 : (20000 : Int) < dst.size := by omega
  go_enter Try.func9, Try.ntmps9
  go_upto_region 2 with fail
  generalize ((w.alloc (.cells #[.int .i64 cls, .int .i64 flow, .int .i64 next, .int .i64 hops, .string src6, .string dst6, .bool piece, .bool more, .int .i64 off, .int .i64 id, .string data] 28)).alloc (.cells #[.int .i64 0, .int .i64 0, .bool false, .bool false, .int .i64 0, .int .i64 0, .int .i64 0, .string ⟨#[]⟩, .string ⟨#[]⟩, .string ⟨#[]⟩, .string ⟨#[]⟩, .int .i64 0] 33)) = W0 at *
  have HX : Hid (code = 2) := HL.out (.inr c2)
  have HY : Hid (ans = p4Zero) := HZ.out (by rw [HX.out]; decide)
  clear HL HF1 HF2 HZ HG
  have HHz := HS0.out.at (.tail _ (.head _))
  have z0 := HHz.cell (j := 0) rfl
  have z1 := HHz.cell (j := 1) rfl
  have z2 := HHz.cell (j := 2) rfl
  have z3 := HHz.cell (j := 3) rfl
  have z4 := HHz.cell (j := 4) rfl
  have z5 := HHz.cell (j := 5) rfl
  have z6 := HHz.cell (j := 6) rfl
  have z7 := HHz.cell (j := 7) rfl
  have z8 := HHz.cell (j := 8) rfl
  have z9 := HHz.cell (j := 9) rfl
  have z10 := HHz.cell (j := 10) rfl
  have z11 := HHz.cell (j := 11) rfl
  have zf0 := HHz.free (j := 0) (by simp)
  have zf1 := HHz.free (j := 1) (by simp)
  have zf2 := HHz.free (j := 2) (by simp)
  have zf3 := HHz.free (j := 3) (by simp)
  have zf4 := HHz.free (j := 4) (by simp)
  have zf5 := HHz.free (j := 5) (by simp)
  have zf6 := HHz.free (j := 6) (by simp)
  have zf7 := HHz.free (j := 7) (by simp)
  have zf8 := HHz.free (j := 8) (by simp)
  have zf9 := HHz.free (j := 9) (by simp)
  have zf10 := HHz.free (j := 10) (by simp)
  have zf11 := HHz.free (j := 11) (by simp)
  have HRR : Hid (HoldsL ((((((((((((W0.setCell ⟨w.heap.size + 1, 0, none⟩ (.int .i64 0)).setCell ⟨w.heap.size + 1, 1, none⟩ (.int .i64 0)).setCell ⟨w.heap.size + 1, 2, none⟩ (.bool false)).setCell ⟨w.heap.size + 1, 3, none⟩ (.bool false)).setCell ⟨w.heap.size + 1, 4, none⟩ (.int .i64 0)).setCell ⟨w.heap.size + 1, 5, none⟩ (.int .i64 0)).setCell ⟨w.heap.size + 1, 6, none⟩ (.int .i64 0)).setCell ⟨w.heap.size + 1, 7, none⟩ (.string ⟨#[]⟩)).setCell ⟨w.heap.size + 1, 8, none⟩ (.string ⟨#[]⟩)).setCell ⟨w.heap.size + 1, 9, none⟩ (.string ⟨#[]⟩)).setCell ⟨w.heap.size + 1, 10, none⟩ (.string ⟨#[]⟩)).setCell ⟨w.heap.size + 1, 11, none⟩ (.int .i64 2)) (w.heap.size + 1) [.int .i64 0, .int .i64 0, .bool false, .bool false, .int .i64 0, .int .i64 0, .int .i64 0, .string ⟨#[]⟩, .string ⟨#[]⟩, .string ⟨#[]⟩, .string ⟨#[]⟩, .int .i64 2]) := ((((((((((((HHz.set 0 (.int .i64 0)).set 1 (.int .i64 0)).set 2 (.bool false)).set 3 (.bool false)).set 4 (.int .i64 0)).set 5 (.int .i64 0)).set 6 (.int .i64 0)).set 7 (.string ⟨#[]⟩)).set 8 (.string ⟨#[]⟩)).set 9 (.string ⟨#[]⟩)).set 10 (.string ⟨#[]⟩)).set 11 (.int .i64 2))
  have RB : Hid _ := ((((((((((((HS0.out.b.setCell (p := ⟨w.heap.size + 1, 0, none⟩) hlr (.int .i64 0)).setCell (p := ⟨w.heap.size + 1, 1, none⟩) hlr (.int .i64 0)).setCell (p := ⟨w.heap.size + 1, 2, none⟩) hlr (.bool false)).setCell (p := ⟨w.heap.size + 1, 3, none⟩) hlr (.bool false)).setCell (p := ⟨w.heap.size + 1, 4, none⟩) hlr (.int .i64 0)).setCell (p := ⟨w.heap.size + 1, 5, none⟩) hlr (.int .i64 0)).setCell (p := ⟨w.heap.size + 1, 6, none⟩) hlr (.int .i64 0)).setCell (p := ⟨w.heap.size + 1, 7, none⟩) hlr (.string ⟨#[]⟩)).setCell (p := ⟨w.heap.size + 1, 8, none⟩) hlr (.string ⟨#[]⟩)).setCell (p := ⟨w.heap.size + 1, 9, none⟩) hlr (.string ⟨#[]⟩)).setCell (p := ⟨w.heap.size + 1, 10, none⟩) hlr (.string ⟨#[]⟩)).setCell (p := ⟨w.heap.size + 1, 11, none⟩) hlr (.int .i64 2))
  clear HHz
  go_wp2_with fail
  exact bodyPost_ret (results_mid Try.results9 _ _ (w.heap.size + 1) [.int .i64 0, .int .i64 0, .bool false, .bool false, .int .i64 0, .int .i64 0, .int .i64 0, .string ⟨#[]⟩, .string ⟨#[]⟩, .string ⟨#[]⟩, .string ⟨#[]⟩, .int .i64 2] _ rfl HRR.out Try.underlying33 rfl (show (Try.prog.info? 33).map (·.size) = some 12 by kernel_rfl)) rfl (And.intro (by rw [HX.out, HY.out]; rfl) RB.out)
 have d2 : ¬ (20000 : Int) < dst.size := by omega
 go_enter Try.func9, Try.ntmps9
 go_upto_region 3 with fail
 generalize ((w.alloc (.cells #[.int .i64 cls, .int .i64 flow, .int .i64 next, .int .i64 hops, .string src6, .string dst6, .bool piece, .bool more, .int .i64 off, .int .i64 id, .string data] 28)).alloc (.cells #[.int .i64 0, .int .i64 0, .bool false, .bool false, .int .i64 0, .int .i64 0, .int .i64 0, .string ⟨#[]⟩, .string ⟨#[]⟩, .string ⟨#[]⟩, .string ⟨#[]⟩, .int .i64 0] 33)) = W0 at *
 have HHk := HS0.out.at (.head _)
 have k0 := HHk.cell (j := 0) rfl
 have k1 := HHk.cell (j := 1) rfl
 have k2 := HHk.cell (j := 2) rfl
 have k3 := HHk.cell (j := 3) rfl
 have k4 := HHk.cell (j := 4) rfl
 have k5 := HHk.cell (j := 5) rfl
 have k6 := HHk.cell (j := 6) rfl
 have k7 := HHk.cell (j := 7) rfl
 have k8 := HHk.cell (j := 8) rfl
 have k9 := HHk.cell (j := 9) rfl
 have k10 := HHk.cell (j := 10) rfl
 clear HHk
 go_wp2_with fail
 refine (HR.out _).mono ?_
 rintro e W1 ⟨rfl, q1⟩
 have HS1 : Hid _ := HS0.out.kept q1
 clear q1 HS0 k0 k1 k2 k3 k4 k5 k6 k7 k8 k9 k10
 cases ok with
 | false =>
  go_upto_region 4 with fail
  have HX : Hid (code = 1) := HF1.out c1 c2 (.inl (by first | rfl | trivial))
  have HY : Hid (ans = p4Zero) := HZ.out (by rw [HX.out]; decide)
  clear HL HF1 HF2 HZ HG
  have HHz := HS1.out.at (.tail _ (.head _))
  have z0 := HHz.cell (j := 0) rfl
  have z1 := HHz.cell (j := 1) rfl
  have z2 := HHz.cell (j := 2) rfl
  have z3 := HHz.cell (j := 3) rfl
  have z4 := HHz.cell (j := 4) rfl
  have z5 := HHz.cell (j := 5) rfl
  have z6 := HHz.cell (j := 6) rfl
  have z7 := HHz.cell (j := 7) rfl
  have z8 := HHz.cell (j := 8) rfl
  have z9 := HHz.cell (j := 9) rfl
  have z10 := HHz.cell (j := 10) rfl
  have z11 := HHz.cell (j := 11) rfl
  have zf0 := HHz.free (j := 0) (by simp)
  have zf1 := HHz.free (j := 1) (by simp)
  have zf2 := HHz.free (j := 2) (by simp)
  have zf3 := HHz.free (j := 3) (by simp)
  have zf4 := HHz.free (j := 4) (by simp)
  have zf5 := HHz.free (j := 5) (by simp)
  have zf6 := HHz.free (j := 6) (by simp)
  have zf7 := HHz.free (j := 7) (by simp)
  have zf8 := HHz.free (j := 8) (by simp)
  have zf9 := HHz.free (j := 9) (by simp)
  have zf10 := HHz.free (j := 10) (by simp)
  have zf11 := HHz.free (j := 11) (by simp)
  have HRR : Hid (HoldsL ((((((((((((W1.setCell ⟨w.heap.size + 1, 0, none⟩ (.int .i64 0)).setCell ⟨w.heap.size + 1, 1, none⟩ (.int .i64 0)).setCell ⟨w.heap.size + 1, 2, none⟩ (.bool false)).setCell ⟨w.heap.size + 1, 3, none⟩ (.bool false)).setCell ⟨w.heap.size + 1, 4, none⟩ (.int .i64 0)).setCell ⟨w.heap.size + 1, 5, none⟩ (.int .i64 0)).setCell ⟨w.heap.size + 1, 6, none⟩ (.int .i64 0)).setCell ⟨w.heap.size + 1, 7, none⟩ (.string ⟨#[]⟩)).setCell ⟨w.heap.size + 1, 8, none⟩ (.string ⟨#[]⟩)).setCell ⟨w.heap.size + 1, 9, none⟩ (.string ⟨#[]⟩)).setCell ⟨w.heap.size + 1, 10, none⟩ (.string ⟨#[]⟩)).setCell ⟨w.heap.size + 1, 11, none⟩ (.int .i64 1)) (w.heap.size + 1) [.int .i64 0, .int .i64 0, .bool false, .bool false, .int .i64 0, .int .i64 0, .int .i64 0, .string ⟨#[]⟩, .string ⟨#[]⟩, .string ⟨#[]⟩, .string ⟨#[]⟩, .int .i64 1]) := ((((((((((((HHz.set 0 (.int .i64 0)).set 1 (.int .i64 0)).set 2 (.bool false)).set 3 (.bool false)).set 4 (.int .i64 0)).set 5 (.int .i64 0)).set 6 (.int .i64 0)).set 7 (.string ⟨#[]⟩)).set 8 (.string ⟨#[]⟩)).set 9 (.string ⟨#[]⟩)).set 10 (.string ⟨#[]⟩)).set 11 (.int .i64 1))
  have RB : Hid _ := ((((((((((((HS1.out.b.setCell (p := ⟨w.heap.size + 1, 0, none⟩) hlr (.int .i64 0)).setCell (p := ⟨w.heap.size + 1, 1, none⟩) hlr (.int .i64 0)).setCell (p := ⟨w.heap.size + 1, 2, none⟩) hlr (.bool false)).setCell (p := ⟨w.heap.size + 1, 3, none⟩) hlr (.bool false)).setCell (p := ⟨w.heap.size + 1, 4, none⟩) hlr (.int .i64 0)).setCell (p := ⟨w.heap.size + 1, 5, none⟩) hlr (.int .i64 0)).setCell (p := ⟨w.heap.size + 1, 6, none⟩) hlr (.int .i64 0)).setCell (p := ⟨w.heap.size + 1, 7, none⟩) hlr (.string ⟨#[]⟩)).setCell (p := ⟨w.heap.size + 1, 8, none⟩) hlr (.string ⟨#[]⟩)).setCell (p := ⟨w.heap.size + 1, 9, none⟩) hlr (.string ⟨#[]⟩)).setCell (p := ⟨w.heap.size + 1, 10, none⟩) hlr (.string ⟨#[]⟩)).setCell (p := ⟨w.heap.size + 1, 11, none⟩) hlr (.int .i64 1))
  clear HHz
  go_wp2_with fail
  exact bodyPost_ret (results_mid Try.results9 _ _ (w.heap.size + 1) [.int .i64 0, .int .i64 0, .bool false, .bool false, .int .i64 0, .int .i64 0, .int .i64 0, .string ⟨#[]⟩, .string ⟨#[]⟩, .string ⟨#[]⟩, .string ⟨#[]⟩, .int .i64 1] _ rfl HRR.out Try.underlying33 rfl (show (Try.prog.info? 33).map (·.size) = some 12 by kernel_rfl)) rfl (And.intro (by rw [HX.out, HY.out]; rfl) RB.out)
 | true =>
 by_cases c3 : src.size = 4
 case neg =>
  have d3 : ((src.size : Int) != 4) = true := by simp; omega
  go_upto_region 4 with fail
  have HX : Hid (code = 1) := HF1.out c1 c2 (.inr (.inl c3))
  have HY : Hid (ans = p4Zero) := HZ.out (by rw [HX.out]; decide)
  clear HL HF1 HF2 HZ HG
  have HHz := HS1.out.at (.tail _ (.head _))
  have z0 := HHz.cell (j := 0) rfl
  have z1 := HHz.cell (j := 1) rfl
  have z2 := HHz.cell (j := 2) rfl
  have z3 := HHz.cell (j := 3) rfl
  have z4 := HHz.cell (j := 4) rfl
  have z5 := HHz.cell (j := 5) rfl
  have z6 := HHz.cell (j := 6) rfl
  have z7 := HHz.cell (j := 7) rfl
  have z8 := HHz.cell (j := 8) rfl
  have z9 := HHz.cell (j := 9) rfl
  have z10 := HHz.cell (j := 10) rfl
  have z11 := HHz.cell (j := 11) rfl
  have zf0 := HHz.free (j := 0) (by simp)
  have zf1 := HHz.free (j := 1) (by simp)
  have zf2 := HHz.free (j := 2) (by simp)
  have zf3 := HHz.free (j := 3) (by simp)
  have zf4 := HHz.free (j := 4) (by simp)
  have zf5 := HHz.free (j := 5) (by simp)
  have zf6 := HHz.free (j := 6) (by simp)
  have zf7 := HHz.free (j := 7) (by simp)
  have zf8 := HHz.free (j := 8) (by simp)
  have zf9 := HHz.free (j := 9) (by simp)
  have zf10 := HHz.free (j := 10) (by simp)
  have zf11 := HHz.free (j := 11) (by simp)
  have HRR : Hid (HoldsL ((((((((((((W1.setCell ⟨w.heap.size + 1, 0, none⟩ (.int .i64 0)).setCell ⟨w.heap.size + 1, 1, none⟩ (.int .i64 0)).setCell ⟨w.heap.size + 1, 2, none⟩ (.bool false)).setCell ⟨w.heap.size + 1, 3, none⟩ (.bool false)).setCell ⟨w.heap.size + 1, 4, none⟩ (.int .i64 0)).setCell ⟨w.heap.size + 1, 5, none⟩ (.int .i64 0)).setCell ⟨w.heap.size + 1, 6, none⟩ (.int .i64 0)).setCell ⟨w.heap.size + 1, 7, none⟩ (.string ⟨#[]⟩)).setCell ⟨w.heap.size + 1, 8, none⟩ (.string ⟨#[]⟩)).setCell ⟨w.heap.size + 1, 9, none⟩ (.string ⟨#[]⟩)).setCell ⟨w.heap.size + 1, 10, none⟩ (.string ⟨#[]⟩)).setCell ⟨w.heap.size + 1, 11, none⟩ (.int .i64 1)) (w.heap.size + 1) [.int .i64 0, .int .i64 0, .bool false, .bool false, .int .i64 0, .int .i64 0, .int .i64 0, .string ⟨#[]⟩, .string ⟨#[]⟩, .string ⟨#[]⟩, .string ⟨#[]⟩, .int .i64 1]) := ((((((((((((HHz.set 0 (.int .i64 0)).set 1 (.int .i64 0)).set 2 (.bool false)).set 3 (.bool false)).set 4 (.int .i64 0)).set 5 (.int .i64 0)).set 6 (.int .i64 0)).set 7 (.string ⟨#[]⟩)).set 8 (.string ⟨#[]⟩)).set 9 (.string ⟨#[]⟩)).set 10 (.string ⟨#[]⟩)).set 11 (.int .i64 1))
  have RB : Hid _ := ((((((((((((HS1.out.b.setCell (p := ⟨w.heap.size + 1, 0, none⟩) hlr (.int .i64 0)).setCell (p := ⟨w.heap.size + 1, 1, none⟩) hlr (.int .i64 0)).setCell (p := ⟨w.heap.size + 1, 2, none⟩) hlr (.bool false)).setCell (p := ⟨w.heap.size + 1, 3, none⟩) hlr (.bool false)).setCell (p := ⟨w.heap.size + 1, 4, none⟩) hlr (.int .i64 0)).setCell (p := ⟨w.heap.size + 1, 5, none⟩) hlr (.int .i64 0)).setCell (p := ⟨w.heap.size + 1, 6, none⟩) hlr (.int .i64 0)).setCell (p := ⟨w.heap.size + 1, 7, none⟩) hlr (.string ⟨#[]⟩)).setCell (p := ⟨w.heap.size + 1, 8, none⟩) hlr (.string ⟨#[]⟩)).setCell (p := ⟨w.heap.size + 1, 9, none⟩) hlr (.string ⟨#[]⟩)).setCell (p := ⟨w.heap.size + 1, 10, none⟩) hlr (.string ⟨#[]⟩)).setCell (p := ⟨w.heap.size + 1, 11, none⟩) hlr (.int .i64 1))
  clear HHz
  go_wp2_with fail
  exact bodyPost_ret (results_mid Try.results9 _ _ (w.heap.size + 1) [.int .i64 0, .int .i64 0, .bool false, .bool false, .int .i64 0, .int .i64 0, .int .i64 0, .string ⟨#[]⟩, .string ⟨#[]⟩, .string ⟨#[]⟩, .string ⟨#[]⟩, .int .i64 1] _ rfl HRR.out Try.underlying33 rfl (show (Try.prog.info? 33).map (·.size) = some 12 by kernel_rfl)) rfl (And.intro (by rw [HX.out, HY.out]; rfl) RB.out)
 have d3 : ((src.size : Int) != 4) = false := by simp; omega
 by_cases c4 : dst.size = 4
 case neg =>
  have d4 : ((dst.size : Int) != 4) = true := by simp; omega
  have C3 : Hid _ := c3
  clear c3
  go_upto_region 4 with fail
  have HX : Hid (code = 1) := HF1.out c1 c2 (.inr (.inr c4))
  have HY : Hid (ans = p4Zero) := HZ.out (by rw [HX.out]; decide)
  clear HL HF1 HF2 HZ HG
  have HHz := HS1.out.at (.tail _ (.head _))
  have z0 := HHz.cell (j := 0) rfl
  have z1 := HHz.cell (j := 1) rfl
  have z2 := HHz.cell (j := 2) rfl
  have z3 := HHz.cell (j := 3) rfl
  have z4 := HHz.cell (j := 4) rfl
  have z5 := HHz.cell (j := 5) rfl
  have z6 := HHz.cell (j := 6) rfl
  have z7 := HHz.cell (j := 7) rfl
  have z8 := HHz.cell (j := 8) rfl
  have z9 := HHz.cell (j := 9) rfl
  have z10 := HHz.cell (j := 10) rfl
  have z11 := HHz.cell (j := 11) rfl
  have zf0 := HHz.free (j := 0) (by simp)
  have zf1 := HHz.free (j := 1) (by simp)
  have zf2 := HHz.free (j := 2) (by simp)
  have zf3 := HHz.free (j := 3) (by simp)
  have zf4 := HHz.free (j := 4) (by simp)
  have zf5 := HHz.free (j := 5) (by simp)
  have zf6 := HHz.free (j := 6) (by simp)
  have zf7 := HHz.free (j := 7) (by simp)
  have zf8 := HHz.free (j := 8) (by simp)
  have zf9 := HHz.free (j := 9) (by simp)
  have zf10 := HHz.free (j := 10) (by simp)
  have zf11 := HHz.free (j := 11) (by simp)
  have HRR : Hid (HoldsL ((((((((((((W1.setCell ⟨w.heap.size + 1, 0, none⟩ (.int .i64 0)).setCell ⟨w.heap.size + 1, 1, none⟩ (.int .i64 0)).setCell ⟨w.heap.size + 1, 2, none⟩ (.bool false)).setCell ⟨w.heap.size + 1, 3, none⟩ (.bool false)).setCell ⟨w.heap.size + 1, 4, none⟩ (.int .i64 0)).setCell ⟨w.heap.size + 1, 5, none⟩ (.int .i64 0)).setCell ⟨w.heap.size + 1, 6, none⟩ (.int .i64 0)).setCell ⟨w.heap.size + 1, 7, none⟩ (.string ⟨#[]⟩)).setCell ⟨w.heap.size + 1, 8, none⟩ (.string ⟨#[]⟩)).setCell ⟨w.heap.size + 1, 9, none⟩ (.string ⟨#[]⟩)).setCell ⟨w.heap.size + 1, 10, none⟩ (.string ⟨#[]⟩)).setCell ⟨w.heap.size + 1, 11, none⟩ (.int .i64 1)) (w.heap.size + 1) [.int .i64 0, .int .i64 0, .bool false, .bool false, .int .i64 0, .int .i64 0, .int .i64 0, .string ⟨#[]⟩, .string ⟨#[]⟩, .string ⟨#[]⟩, .string ⟨#[]⟩, .int .i64 1]) := ((((((((((((HHz.set 0 (.int .i64 0)).set 1 (.int .i64 0)).set 2 (.bool false)).set 3 (.bool false)).set 4 (.int .i64 0)).set 5 (.int .i64 0)).set 6 (.int .i64 0)).set 7 (.string ⟨#[]⟩)).set 8 (.string ⟨#[]⟩)).set 9 (.string ⟨#[]⟩)).set 10 (.string ⟨#[]⟩)).set 11 (.int .i64 1))
  have RB : Hid _ := ((((((((((((HS1.out.b.setCell (p := ⟨w.heap.size + 1, 0, none⟩) hlr (.int .i64 0)).setCell (p := ⟨w.heap.size + 1, 1, none⟩) hlr (.int .i64 0)).setCell (p := ⟨w.heap.size + 1, 2, none⟩) hlr (.bool false)).setCell (p := ⟨w.heap.size + 1, 3, none⟩) hlr (.bool false)).setCell (p := ⟨w.heap.size + 1, 4, none⟩) hlr (.int .i64 0)).setCell (p := ⟨w.heap.size + 1, 5, none⟩) hlr (.int .i64 0)).setCell (p := ⟨w.heap.size + 1, 6, none⟩) hlr (.int .i64 0)).setCell (p := ⟨w.heap.size + 1, 7, none⟩) hlr (.string ⟨#[]⟩)).setCell (p := ⟨w.heap.size + 1, 8, none⟩) hlr (.string ⟨#[]⟩)).setCell (p := ⟨w.heap.size + 1, 9, none⟩) hlr (.string ⟨#[]⟩)).setCell (p := ⟨w.heap.size + 1, 10, none⟩) hlr (.string ⟨#[]⟩)).setCell (p := ⟨w.heap.size + 1, 11, none⟩) hlr (.int .i64 1))
  clear HHz
  go_wp2_with fail
  exact bodyPost_ret (results_mid Try.results9 _ _ (w.heap.size + 1) [.int .i64 0, .int .i64 0, .bool false, .bool false, .int .i64 0, .int .i64 0, .int .i64 0, .string ⟨#[]⟩, .string ⟨#[]⟩, .string ⟨#[]⟩, .string ⟨#[]⟩, .int .i64 1] _ rfl HRR.out Try.underlying33 rfl (show (Try.prog.info? 33).map (·.size) = some 12 by kernel_rfl)) rfl (And.intro (by rw [HX.out, HY.out]; rfl) RB.out)
 have d4 : ((dst.size : Int) != 4) = false := by simp; omega
 have HK : Hid _ := HF2.out rfl c3 c4
 clear c3 c4 HL HF1 HF2
 go_upto_region 5 with fail
 have HHk := HS1.out.at (.head _)
 have k0 := HHk.cell (j := 0) rfl
 have k1 := HHk.cell (j := 1) rfl
 have k2 := HHk.cell (j := 2) rfl
 have k3 := HHk.cell (j := 3) rfl
 have k4 := HHk.cell (j := 4) rfl
 have k5 := HHk.cell (j := 5) rfl
 have k6 := HHk.cell (j := 6) rfl
 have k7 := HHk.cell (j := 7) rfl
 have k8 := HHk.cell (j := 8) rfl
 have k9 := HHk.cell (j := 9) rfl
 have k10 := HHk.cell (j := 10) rfl
 clear HHk
 replace HF : Hid _ := HF.out (by first | rfl | trivial)
 replace HQ : Hid _ := HQ.out (by first | rfl | trivial)
 go_wp2_with fail
 refine (HF.out _).mono ?_
 rintro e W2 ⟨rfl, q2⟩
 have HS2 : Hid _ := HS1.out.kept q2
 clear q2 HS1 HF k0 k1 k2 k3 k4 k5 k6 k7 k8 k9 k10
 obtain ⟨qtos, qid, qwhole, qmore, qoff, qttl, qproto, qsrc, qdst, qopts, qdata⟩ := q
 unfold p4C at *
 dsimp only at *
 have HS3 : Hid (Bxs w ((W2.heap.size, [.int .i64 qtos, .int .i64 qid, .bool qwhole, .bool qmore, .int .i64 qoff, .int .i64 qttl, .int .i64 qproto, .string qsrc, .string qdst, .string qopts, .string qdata]) :: [(w.heap.size, [.int .i64 cls, .int .i64 flow, .int .i64 next, .int .i64 hops, .string src6, .string dst6, .bool piece, .bool more, .int .i64 off, .int .i64 id, .string data]), (w.heap.size + 1, [.int .i64 0, .int .i64 0, .bool false, .bool false, .int .i64 0, .int .i64 0, .int .i64 0, .string ⟨#[]⟩, .string ⟨#[]⟩, .string ⟨#[]⟩, .string ⟨#[]⟩, .int .i64 0])]) (W2.alloc (.cells #[.int .i64 qtos, .int .i64 qid, .bool qwhole, .bool qmore, .int .i64 qoff, .int .i64 qttl, .int .i64 qproto, .string qsrc, .string qdst, .string qopts, .string qdata] 24))) := HS2.out.push [.int .i64 qtos, .int .i64 qid, .bool qwhole, .bool qmore, .int .i64 qoff, .int .i64 qttl, .int .i64 qproto, .string qsrc, .string qdst, .string qopts, .string qdata] (by simp) 24
 have hW2 : w.heap.size + 1 < W2.heap.size := (HS2.out.k _ (.tail _ (.head _))).lt (by simp)
 go_upto_region 6 with fail
 generalize W2.alloc (.cells #[.int .i64 qtos, .int .i64 qid, .bool qwhole, .bool qmore, .int .i64 qoff, .int .i64 qttl, .int .i64 qproto, .string qsrc, .string qdst, .string qopts, .string qdata] 24) = W3 at *
 generalize W2.heap.size = g at *
 clear HS2
 have HHj := HS3.out.at (.head _)
 have j0 := HHj.cell (j := 0) rfl
 have j1 := HHj.cell (j := 1) rfl
 have j2 := HHj.cell (j := 2) rfl
 have j3 := HHj.cell (j := 3) rfl
 have j4 := HHj.cell (j := 4) rfl
 have j5 := HHj.cell (j := 5) rfl
 have j6 := HHj.cell (j := 6) rfl
 have j7 := HHj.cell (j := 7) rfl
 have j8 := HHj.cell (j := 8) rfl
 have j9 := HHj.cell (j := 9) rfl
 have j10 := HHj.cell (j := 10) rfl
 clear HHj
 go_wp2_with fail
 refine (HQ.out _).mono ?_
 rintro e W4 ⟨rfl, q4⟩
 have HS4 : Hid _ := HS3.out.kept q4
 clear q4 HS3 HQ j0 j1 j2 j3 j4 j5 j6 j7 j8 j9 j10
 cases okq with
 | false =>
  have HX : Hid (code = 1) := HK.out
  have HY : Hid (ans = p4Zero) := HZ.out (by rw [HX.out]; decide)
  clear HZ HG HK
  go_upto_region 7 with fail
  have HHz := HS4.out.at (.tail _ (.tail _ (.head _)))
  have z0 := HHz.cell (j := 0) rfl
  have z1 := HHz.cell (j := 1) rfl
  have z2 := HHz.cell (j := 2) rfl
  have z3 := HHz.cell (j := 3) rfl
  have z4 := HHz.cell (j := 4) rfl
  have z5 := HHz.cell (j := 5) rfl
  have z6 := HHz.cell (j := 6) rfl
  have z7 := HHz.cell (j := 7) rfl
  have z8 := HHz.cell (j := 8) rfl
  have z9 := HHz.cell (j := 9) rfl
  have z10 := HHz.cell (j := 10) rfl
  have z11 := HHz.cell (j := 11) rfl
  have zf0 := HHz.free (j := 0) (by simp)
  have zf1 := HHz.free (j := 1) (by simp)
  have zf2 := HHz.free (j := 2) (by simp)
  have zf3 := HHz.free (j := 3) (by simp)
  have zf4 := HHz.free (j := 4) (by simp)
  have zf5 := HHz.free (j := 5) (by simp)
  have zf6 := HHz.free (j := 6) (by simp)
  have zf7 := HHz.free (j := 7) (by simp)
  have zf8 := HHz.free (j := 8) (by simp)
  have zf9 := HHz.free (j := 9) (by simp)
  have zf10 := HHz.free (j := 10) (by simp)
  have zf11 := HHz.free (j := 11) (by simp)
  have HRR : Hid (HoldsL ((((((((((((W4.setCell ⟨w.heap.size + 1, 0, none⟩ (.int .i64 0)).setCell ⟨w.heap.size + 1, 1, none⟩ (.int .i64 0)).setCell ⟨w.heap.size + 1, 2, none⟩ (.bool false)).setCell ⟨w.heap.size + 1, 3, none⟩ (.bool false)).setCell ⟨w.heap.size + 1, 4, none⟩ (.int .i64 0)).setCell ⟨w.heap.size + 1, 5, none⟩ (.int .i64 0)).setCell ⟨w.heap.size + 1, 6, none⟩ (.int .i64 0)).setCell ⟨w.heap.size + 1, 7, none⟩ (.string ⟨#[]⟩)).setCell ⟨w.heap.size + 1, 8, none⟩ (.string ⟨#[]⟩)).setCell ⟨w.heap.size + 1, 9, none⟩ (.string ⟨#[]⟩)).setCell ⟨w.heap.size + 1, 10, none⟩ (.string ⟨#[]⟩)).setCell ⟨w.heap.size + 1, 11, none⟩ (.int .i64 1)) (w.heap.size + 1) [.int .i64 0, .int .i64 0, .bool false, .bool false, .int .i64 0, .int .i64 0, .int .i64 0, .string ⟨#[]⟩, .string ⟨#[]⟩, .string ⟨#[]⟩, .string ⟨#[]⟩, .int .i64 1]) := ((((((((((((HHz.set 0 (.int .i64 0)).set 1 (.int .i64 0)).set 2 (.bool false)).set 3 (.bool false)).set 4 (.int .i64 0)).set 5 (.int .i64 0)).set 6 (.int .i64 0)).set 7 (.string ⟨#[]⟩)).set 8 (.string ⟨#[]⟩)).set 9 (.string ⟨#[]⟩)).set 10 (.string ⟨#[]⟩)).set 11 (.int .i64 1))
  have RB : Hid _ := ((((((((((((HS4.out.b.setCell (p := ⟨w.heap.size + 1, 0, none⟩) hlr (.int .i64 0)).setCell (p := ⟨w.heap.size + 1, 1, none⟩) hlr (.int .i64 0)).setCell (p := ⟨w.heap.size + 1, 2, none⟩) hlr (.bool false)).setCell (p := ⟨w.heap.size + 1, 3, none⟩) hlr (.bool false)).setCell (p := ⟨w.heap.size + 1, 4, none⟩) hlr (.int .i64 0)).setCell (p := ⟨w.heap.size + 1, 5, none⟩) hlr (.int .i64 0)).setCell (p := ⟨w.heap.size + 1, 6, none⟩) hlr (.int .i64 0)).setCell (p := ⟨w.heap.size + 1, 7, none⟩) hlr (.string ⟨#[]⟩)).setCell (p := ⟨w.heap.size + 1, 8, none⟩) hlr (.string ⟨#[]⟩)).setCell (p := ⟨w.heap.size + 1, 9, none⟩) hlr (.string ⟨#[]⟩)).setCell (p := ⟨w.heap.size + 1, 10, none⟩) hlr (.string ⟨#[]⟩)).setCell (p := ⟨w.heap.size + 1, 11, none⟩) hlr (.int .i64 1))
  clear HHz
  go_wp2_with fail
  exact bodyPost_ret (results_mid Try.results9 _ _ (w.heap.size + 1) [.int .i64 0, .int .i64 0, .bool false, .bool false, .int .i64 0, .int .i64 0, .int .i64 0, .string ⟨#[]⟩, .string ⟨#[]⟩, .string ⟨#[]⟩, .string ⟨#[]⟩, .int .i64 1] _ rfl HRR.out Try.underlying33 rfl (show (Try.prog.info? 33).map (·.size) = some 12 by kernel_rfl)) rfl (And.intro (by rw [HX.out, HY.out]; rfl) RB.out)
 | true =>
  have HX : Hid (code = 0) := HK.out
  have HY : Hid (ans = ⟨qtos, qid, qwhole, qmore, qoff, qttl, qproto, qsrc, qdst, qopts, qdata⟩) := HG.out HX.out
  clear HZ HG HK
  go_upto_region 8 with fail
  have HHj := HS4.out.at (.head _)
  have j0 := HHj.cell (j := 0) rfl
  have j1 := HHj.cell (j := 1) rfl
  have j2 := HHj.cell (j := 2) rfl
  have j3 := HHj.cell (j := 3) rfl
  have j4 := HHj.cell (j := 4) rfl
  have j5 := HHj.cell (j := 5) rfl
  have j6 := HHj.cell (j := 6) rfl
  have j7 := HHj.cell (j := 7) rfl
  have j8 := HHj.cell (j := 8) rfl
  have j9 := HHj.cell (j := 9) rfl
  have j10 := HHj.cell (j := 10) rfl
  clear HHj
  have HHz := HS4.out.at (.tail _ (.tail _ (.head _)))
  have z0 := HHz.cell (j := 0) rfl
  have z1 := HHz.cell (j := 1) rfl
  have z2 := HHz.cell (j := 2) rfl
  have z3 := HHz.cell (j := 3) rfl
  have z4 := HHz.cell (j := 4) rfl
  have z5 := HHz.cell (j := 5) rfl
  have z6 := HHz.cell (j := 6) rfl
  have z7 := HHz.cell (j := 7) rfl
  have z8 := HHz.cell (j := 8) rfl
  have z9 := HHz.cell (j := 9) rfl
  have z10 := HHz.cell (j := 10) rfl
  have z11 := HHz.cell (j := 11) rfl
  have zf0 := HHz.free (j := 0) (by simp)
  have zf1 := HHz.free (j := 1) (by simp)
  have zf2 := HHz.free (j := 2) (by simp)
  have zf3 := HHz.free (j := 3) (by simp)
  have zf4 := HHz.free (j := 4) (by simp)
  have zf5 := HHz.free (j := 5) (by simp)
  have zf6 := HHz.free (j := 6) (by simp)
  have zf7 := HHz.free (j := 7) (by simp)
  have zf8 := HHz.free (j := 8) (by simp)
  have zf9 := HHz.free (j := 9) (by simp)
  have zf10 := HHz.free (j := 10) (by simp)
  have zf11 := HHz.free (j := 11) (by simp)
  have HRR : Hid (HoldsL ((((((((((((W4.setCell ⟨w.heap.size + 1, 0, none⟩ (.int .i64 qtos)).setCell ⟨w.heap.size + 1, 1, none⟩ (.int .i64 qid)).setCell ⟨w.heap.size + 1, 2, none⟩ (.bool qwhole)).setCell ⟨w.heap.size + 1, 3, none⟩ (.bool qmore)).setCell ⟨w.heap.size + 1, 4, none⟩ (.int .i64 qoff)).setCell ⟨w.heap.size + 1, 5, none⟩ (.int .i64 qttl)).setCell ⟨w.heap.size + 1, 6, none⟩ (.int .i64 qproto)).setCell ⟨w.heap.size + 1, 7, none⟩ (.string qsrc)).setCell ⟨w.heap.size + 1, 8, none⟩ (.string qdst)).setCell ⟨w.heap.size + 1, 9, none⟩ (.string qopts)).setCell ⟨w.heap.size + 1, 10, none⟩ (.string qdata)).setCell ⟨w.heap.size + 1, 11, none⟩ (.int .i64 0)) (w.heap.size + 1) [.int .i64 qtos, .int .i64 qid, .bool qwhole, .bool qmore, .int .i64 qoff, .int .i64 qttl, .int .i64 qproto, .string qsrc, .string qdst, .string qopts, .string qdata, .int .i64 0]) := ((((((((((((HHz.set 0 (.int .i64 qtos)).set 1 (.int .i64 qid)).set 2 (.bool qwhole)).set 3 (.bool qmore)).set 4 (.int .i64 qoff)).set 5 (.int .i64 qttl)).set 6 (.int .i64 qproto)).set 7 (.string qsrc)).set 8 (.string qdst)).set 9 (.string qopts)).set 10 (.string qdata)).set 11 (.int .i64 0))
  have RB : Hid _ := ((((((((((((HS4.out.b.setCell (p := ⟨w.heap.size + 1, 0, none⟩) hlr (.int .i64 qtos)).setCell (p := ⟨w.heap.size + 1, 1, none⟩) hlr (.int .i64 qid)).setCell (p := ⟨w.heap.size + 1, 2, none⟩) hlr (.bool qwhole)).setCell (p := ⟨w.heap.size + 1, 3, none⟩) hlr (.bool qmore)).setCell (p := ⟨w.heap.size + 1, 4, none⟩) hlr (.int .i64 qoff)).setCell (p := ⟨w.heap.size + 1, 5, none⟩) hlr (.int .i64 qttl)).setCell (p := ⟨w.heap.size + 1, 6, none⟩) hlr (.int .i64 qproto)).setCell (p := ⟨w.heap.size + 1, 7, none⟩) hlr (.string qsrc)).setCell (p := ⟨w.heap.size + 1, 8, none⟩) hlr (.string qdst)).setCell (p := ⟨w.heap.size + 1, 9, none⟩) hlr (.string qopts)).setCell (p := ⟨w.heap.size + 1, 10, none⟩) hlr (.string qdata)).setCell (p := ⟨w.heap.size + 1, 11, none⟩) hlr (.int .i64 0))
  clear HHz
  have n1 : ¬ g = w.heap.size + 1 := by omega
  have n2 : ¬ w.heap.size + 1 = g := by omega
  go_wp2_with fail
  exact bodyPost_ret (results_mid Try.results9 _ _ (w.heap.size + 1) [.int .i64 qtos, .int .i64 qid, .bool qwhole, .bool qmore, .int .i64 qoff, .int .i64 qttl, .int .i64 qproto, .string qsrc, .string qdst, .string qopts, .string qdata, .int .i64 0] _ rfl HRR.out Try.underlying33 rfl (show (Try.prog.info? 33).map (·.size) = some 12 by kernel_rfl)) rfl (And.intro (by rw [HX.out, HY.out]; rfl) RB.out)

set_option maxRecDepth 100000 in
set_option maxHeartbeats 4000000 in
theorem specToSix_any (p : P4) (src dst : ByteArray) (w : World) (hs : P4Sm p) (hw : P4Wf p) (h1 : src.size ≤ 1048576) (h2 : dst.size ≤ 1048576) (h3 : p.data.size ≤ 1048576) :
  Calls Try.prog 6 #[p4C p, .string src, .string dst] w fun e w' => e = .returned (p6CO (six4V p src dst) (six4C p src dst)) ∧ Below w.heap.size w w' := by
 have HR : Hid (∀ W, Calls Try.prog 18 #[p4C p] W fun e w' => e = .returned (.bool (v4Ok p)) ∧ Below W.heap.size W w') := fun W => specV4Right_sm p W hs hw
 have HF : Hid (v4Ok p = true → ∀ W, Calls Try.prog 19 #[p4C p, .string src, .string dst] W fun e w' => e = .returned (p6C (six4 p src dst)) ∧ Below W.heap.size W w') := fun h W => spSix_any p src dst W
 have HQ : Hid (v4Ok p = true → ∀ W, Calls Try.prog 20 #[p6C (six4 p src dst)] W fun e w' => e = .returned (.bool (v6Ok (six4 p src dst))) ∧ Below W.heap.size W w') := fun h W => specV6Right_any _ W h1 h2 h3
 have HL : Hid (20000 < src.size ∨ 20000 < dst.size → six4C p src dst = 2) := fun h => if_pos (by unfold long2; simpa using h)
 have HF1 : Hid (¬ 20000 < src.size → ¬ 20000 < dst.size → (v4Ok p = false ∨ src.size ≠ 16 ∨ dst.size ≠ 16) → six4C p src dst = 1) := fun x y h => by
  unfold six4C; rw [if_neg (by unfold long2; simp; omega), if_pos ?_]
  rcases h with h | h | h <;> simp [h]
 have HF2 : Hid (v4Ok p = true → src.size = 16 → dst.size = 16 → six4C p src dst = if v6Ok (six4 p src dst) then 0 else 1) := fun h hx hy => by
  unfold six4C; rw [if_neg (by unfold long2; simp; omega), if_neg (by simp [h, hx, hy])]
 have HZ : Hid (six4C p src dst ≠ 0 → six4V p src dst = p6Zero) := fun h => by unfold six4V; rw [if_neg h]
 have HG : Hid (six4C p src dst = 0 → six4V p src dst = six4 p src dst) := fun h => by unfold six4V; rw [if_pos h]
 generalize v4Ok p = ok at *
 generalize six4C p src dst = code at *
 generalize six4V p src dst = ans at *
 generalize six4 p src dst = q at *
 generalize v6Ok q = okq at *
 clear hs hw h3
 obtain ⟨tos, id, whole, more, off, ttl, proto, src4, dst4, opts, data⟩ := p
 unfold p4C at *
 dsimp only at *
 have e0 : HoldsL ((w.alloc (.cells #[.int .i64 tos, .int .i64 id, .bool whole, .bool more, .int .i64 off, .int .i64 ttl, .int .i64 proto, .string src4, .string dst4, .string opts, .string data] 24)).alloc (.cells #[.int .i64 0, .int .i64 0, .int .i64 0, .int .i64 0, .string ⟨#[]⟩, .string ⟨#[]⟩, .bool false, .bool false, .int .i64 0, .int .i64 0, .string ⟨#[]⟩, .int .i64 0] 30)) (w.heap.size) [.int .i64 tos, .int .i64 id, .bool whole, .bool more, .int .i64 off, .int .i64 ttl, .int .i64 proto, .string src4, .string dst4, .string opts, .string data] := by
  have h := HoldsL.new w [.int .i64 tos, .int .i64 id, .bool whole, .bool more, .int .i64 off, .int .i64 ttl, .int .i64 proto, .string src4, .string dst4, .string opts, .string data] 24
  try simp only [World.size_alloc] at h
  exact (h.alloc _)
 have e1 : HoldsL ((w.alloc (.cells #[.int .i64 tos, .int .i64 id, .bool whole, .bool more, .int .i64 off, .int .i64 ttl, .int .i64 proto, .string src4, .string dst4, .string opts, .string data] 24)).alloc (.cells #[.int .i64 0, .int .i64 0, .int .i64 0, .int .i64 0, .string ⟨#[]⟩, .string ⟨#[]⟩, .bool false, .bool false, .int .i64 0, .int .i64 0, .string ⟨#[]⟩, .int .i64 0] 30)) (w.heap.size + 1) [.int .i64 0, .int .i64 0, .int .i64 0, .int .i64 0, .string ⟨#[]⟩, .string ⟨#[]⟩, .bool false, .bool false, .int .i64 0, .int .i64 0, .string ⟨#[]⟩, .int .i64 0] := by
  have h := HoldsL.new (w.alloc (.cells #[.int .i64 tos, .int .i64 id, .bool whole, .bool more, .int .i64 off, .int .i64 ttl, .int .i64 proto, .string src4, .string dst4, .string opts, .string data] 24)) [.int .i64 0, .int .i64 0, .int .i64 0, .int .i64 0, .string ⟨#[]⟩, .string ⟨#[]⟩, .bool false, .bool false, .int .i64 0, .int .i64 0, .string ⟨#[]⟩, .int .i64 0] 30
  try simp only [World.size_alloc] at h
  exact h
 have HS0 : Hid (Bxs w [(w.heap.size, [.int .i64 tos, .int .i64 id, .bool whole, .bool more, .int .i64 off, .int .i64 ttl, .int .i64 proto, .string src4, .string dst4, .string opts, .string data]), (w.heap.size + 1, [.int .i64 0, .int .i64 0, .int .i64 0, .int .i64 0, .string ⟨#[]⟩, .string ⟨#[]⟩, .bool false, .bool false, .int .i64 0, .int .i64 0, .string ⟨#[]⟩, .int .i64 0])] ((w.alloc (.cells #[.int .i64 tos, .int .i64 id, .bool whole, .bool more, .int .i64 off, .int .i64 ttl, .int .i64 proto, .string src4, .string dst4, .string opts, .string data] 24)).alloc (.cells #[.int .i64 0, .int .i64 0, .int .i64 0, .int .i64 0, .string ⟨#[]⟩, .string ⟨#[]⟩, .bool false, .bool false, .int .i64 0, .int .i64 0, .string ⟨#[]⟩, .int .i64 0] 30))) := by
  refine ⟨fun e he => ?_, (((Below.refl _ _).alloc (by (try simp only [World.size_alloc]); omega) _).alloc (by (try simp only [World.size_alloc]); omega) _), fun e he => ?_⟩
  ·simp only [List.mem_cons, List.not_mem_nil, or_false] at he
   rcases he with rfl | rfl
   ·exact e0
   ·exact e1
  ·simp only [List.mem_cons, List.not_mem_nil, or_false] at he
   rcases he with rfl | rfl <;> simp
 clear e0 e1
 have hlr : w.heap.size ≤ w.heap.size + 1 := by omega
 by_cases c1 : 20000 < src.size
 ·have d1 : (20000 : Int) < src.size := by omega
  go_enter Try.func6, Try.ntmps6
  go_upto_region 2 with fail
  generalize ((w.alloc (.cells #[.int .i64 tos, .int .i64 id, .bool whole, .bool more, .int .i64 off, .int .i64 ttl, .int .i64 proto, .string src4, .string dst4, .string opts, .string data] 24)).alloc (.cells #[.int .i64 0, .int .i64 0, .int .i64 0, .int .i64 0, .string ⟨#[]⟩, .string ⟨#[]⟩, .bool false, .bool false, .int .i64 0, .int .i64 0, .string ⟨#[]⟩, .int .i64 0] 30)) = W0 at *
  have HX : Hid (code = 2) := HL.out (.inl c1)
  have HY : Hid (ans = p6Zero) := HZ.out (by rw [HX.out]; decide)
  clear HL HF1 HF2 HZ HG
  have HHz := HS0.out.at (.tail _ (.head _))
  have z0 := HHz.cell (j := 0) rfl
  have z1 := HHz.cell (j := 1) rfl
  have z2 := HHz.cell (j := 2) rfl
  have z3 := HHz.cell (j := 3) rfl
  have z4 := HHz.cell (j := 4) rfl
  have z5 := HHz.cell (j := 5) rfl
  have z6 := HHz.cell (j := 6) rfl
  have z7 := HHz.cell (j := 7) rfl
  have z8 := HHz.cell (j := 8) rfl
  have z9 := HHz.cell (j := 9) rfl
  have z10 := HHz.cell (j := 10) rfl
  have z11 := HHz.cell (j := 11) rfl
  have zf0 := HHz.free (j := 0) (by simp)
  have zf1 := HHz.free (j := 1) (by simp)
  have zf2 := HHz.free (j := 2) (by simp)
  have zf3 := HHz.free (j := 3) (by simp)
  have zf4 := HHz.free (j := 4) (by simp)
  have zf5 := HHz.free (j := 5) (by simp)
  have zf6 := HHz.free (j := 6) (by simp)
  have zf7 := HHz.free (j := 7) (by simp)
  have zf8 := HHz.free (j := 8) (by simp)
  have zf9 := HHz.free (j := 9) (by simp)
  have zf10 := HHz.free (j := 10) (by simp)
  have zf11 := HHz.free (j := 11) (by simp)
  have HRR : Hid (HoldsL ((((((((((((W0.setCell ⟨w.heap.size + 1, 0, none⟩ (.int .i64 0)).setCell ⟨w.heap.size + 1, 1, none⟩ (.int .i64 0)).setCell ⟨w.heap.size + 1, 2, none⟩ (.int .i64 0)).setCell ⟨w.heap.size + 1, 3, none⟩ (.int .i64 0)).setCell ⟨w.heap.size + 1, 4, none⟩ (.string ⟨#[]⟩)).setCell ⟨w.heap.size + 1, 5, none⟩ (.string ⟨#[]⟩)).setCell ⟨w.heap.size + 1, 6, none⟩ (.bool false)).setCell ⟨w.heap.size + 1, 7, none⟩ (.bool false)).setCell ⟨w.heap.size + 1, 8, none⟩ (.int .i64 0)).setCell ⟨w.heap.size + 1, 9, none⟩ (.int .i64 0)).setCell ⟨w.heap.size + 1, 10, none⟩ (.string ⟨#[]⟩)).setCell ⟨w.heap.size + 1, 11, none⟩ (.int .i64 2)) (w.heap.size + 1) [.int .i64 0, .int .i64 0, .int .i64 0, .int .i64 0, .string ⟨#[]⟩, .string ⟨#[]⟩, .bool false, .bool false, .int .i64 0, .int .i64 0, .string ⟨#[]⟩, .int .i64 2]) := ((((((((((((HHz.set 0 (.int .i64 0)).set 1 (.int .i64 0)).set 2 (.int .i64 0)).set 3 (.int .i64 0)).set 4 (.string ⟨#[]⟩)).set 5 (.string ⟨#[]⟩)).set 6 (.bool false)).set 7 (.bool false)).set 8 (.int .i64 0)).set 9 (.int .i64 0)).set 10 (.string ⟨#[]⟩)).set 11 (.int .i64 2))
  have RB : Hid _ := ((((((((((((HS0.out.b.setCell (p := ⟨w.heap.size + 1, 0, none⟩) hlr (.int .i64 0)).setCell (p := ⟨w.heap.size + 1, 1, none⟩) hlr (.int .i64 0)).setCell (p := ⟨w.heap.size + 1, 2, none⟩) hlr (.int .i64 0)).setCell (p := ⟨w.heap.size + 1, 3, none⟩) hlr (.int .i64 0)).setCell (p := ⟨w.heap.size + 1, 4, none⟩) hlr (.string ⟨#[]⟩)).setCell (p := ⟨w.heap.size + 1, 5, none⟩) hlr (.string ⟨#[]⟩)).setCell (p := ⟨w.heap.size + 1, 6, none⟩) hlr (.bool false)).setCell (p := ⟨w.heap.size + 1, 7, none⟩) hlr (.bool false)).setCell (p := ⟨w.heap.size + 1, 8, none⟩) hlr (.int .i64 0)).setCell (p := ⟨w.heap.size + 1, 9, none⟩) hlr (.int .i64 0)).setCell (p := ⟨w.heap.size + 1, 10, none⟩) hlr (.string ⟨#[]⟩)).setCell (p := ⟨w.heap.size + 1, 11, none⟩) hlr (.int .i64 2))
  clear HHz
  go_wp2_with fail
  exact bodyPost_ret (results_mid Try.results6 _ _ (w.heap.size + 1) [.int .i64 0, .int .i64 0, .int .i64 0, .int .i64 0, .string ⟨#[]⟩, .string ⟨#[]⟩, .bool false, .bool false, .int .i64 0, .int .i64 0, .string ⟨#[]⟩, .int .i64 2] _ rfl HRR.out Try.underlying30 rfl (show (Try.prog.info? 30).map (·.size) = some 12 by kernel_rfl)) rfl (And.intro (by rw [HX.out, HY.out]; rfl) RB.out)
 have d1 : ¬ (20000 : Int) < src.size := by omega
 by_cases c2 : 20000 < dst.size
 ·have d2 : (20000 : Int) < dst.size := by omega
  go_enter Try.func6, Try.ntmps6
  go_upto_region 2 with fail
  generalize ((w.alloc (.cells #[.int .i64 tos, .int .i64 id, .bool whole, .bool more, .int .i64 off, .int .i64 ttl, .int .i64 proto, .string src4, .string dst4, .string opts, .string data] 24)).alloc (.cells #[.int .i64 0, .int .i64 0, .int .i64 0, .int .i64 0, .string ⟨#[]⟩, .string ⟨#[]⟩, .bool false, .bool false, .int .i64 0, .int .i64 0, .string ⟨#[]⟩, .int .i64 0] 30)) = W0 at *
  have HX : Hid (code = 2) := HL.out (.inr c2)
  have HY : Hid (ans = p6Zero) := HZ.out (by rw [HX.out]; decide)
  clear HL HF1 HF2 HZ HG
  have HHz := HS0.out.at (.tail _ (.head _))
  have z0 := HHz.cell (j := 0) rfl
  have z1 := HHz.cell (j := 1) rfl
  have z2 := HHz.cell (j := 2) rfl
  have z3 := HHz.cell (j := 3) rfl
  have z4 := HHz.cell (j := 4) rfl
  have z5 := HHz.cell (j := 5) rfl
  have z6 := HHz.cell (j := 6) rfl
  have z7 := HHz.cell (j := 7) rfl
  have z8 := HHz.cell (j := 8) rfl
  have z9 := HHz.cell (j := 9) rfl
  have z10 := HHz.cell (j := 10) rfl
  have z11 := HHz.cell (j := 11) rfl
  have zf0 := HHz.free (j := 0) (by simp)
  have zf1 := HHz.free (j := 1) (by simp)
  have zf2 := HHz.free (j := 2) (by simp)
  have zf3 := HHz.free (j := 3) (by simp)
  have zf4 := HHz.free (j := 4) (by simp)
  have zf5 := HHz.free (j := 5) (by simp)
  have zf6 := HHz.free (j := 6) (by simp)
  have zf7 := HHz.free (j := 7) (by simp)
  have zf8 := HHz.free (j := 8) (by simp)
  have zf9 := HHz.free (j := 9) (by simp)
  have zf10 := HHz.free (j := 10) (by simp)
  have zf11 := HHz.free (j := 11) (by simp)
  have HRR : Hid (HoldsL ((((((((((((W0.setCell ⟨w.heap.size + 1, 0, none⟩ (.int .i64 0)).setCell ⟨w.heap.size + 1, 1, none⟩ (.int .i64 0)).setCell ⟨w.heap.size + 1, 2, none⟩ (.int .i64 0)).setCell ⟨w.heap.size + 1, 3, none⟩ (.int .i64 0)).setCell ⟨w.heap.size + 1, 4, none⟩ (.string ⟨#[]⟩)).setCell ⟨w.heap.size + 1, 5, none⟩ (.string ⟨#[]⟩)).setCell ⟨w.heap.size + 1, 6, none⟩ (.bool false)).setCell ⟨w.heap.size + 1, 7, none⟩ (.bool false)).setCell ⟨w.heap.size + 1, 8, none⟩ (.int .i64 0)).setCell ⟨w.heap.size + 1, 9, none⟩ (.int .i64 0)).setCell ⟨w.heap.size + 1, 10, none⟩ (.string ⟨#[]⟩)).setCell ⟨w.heap.size + 1, 11, none⟩ (.int .i64 2)) (w.heap.size + 1) [.int .i64 0, .int .i64 0, .int .i64 0, .int .i64 0, .string ⟨#[]⟩, .string ⟨#[]⟩, .bool false, .bool false, .int .i64 0, .int .i64 0, .string ⟨#[]⟩, .int .i64 2]) := ((((((((((((HHz.set 0 (.int .i64 0)).set 1 (.int .i64 0)).set 2 (.int .i64 0)).set 3 (.int .i64 0)).set 4 (.string ⟨#[]⟩)).set 5 (.string ⟨#[]⟩)).set 6 (.bool false)).set 7 (.bool false)).set 8 (.int .i64 0)).set 9 (.int .i64 0)).set 10 (.string ⟨#[]⟩)).set 11 (.int .i64 2))
  have RB : Hid _ := ((((((((((((HS0.out.b.setCell (p := ⟨w.heap.size + 1, 0, none⟩) hlr (.int .i64 0)).setCell (p := ⟨w.heap.size + 1, 1, none⟩) hlr (.int .i64 0)).setCell (p := ⟨w.heap.size + 1, 2, none⟩) hlr (.int .i64 0)).setCell (p := ⟨w.heap.size + 1, 3, none⟩) hlr (.int .i64 0)).setCell (p := ⟨w.heap.size + 1, 4, none⟩) hlr (.string ⟨#[]⟩)).setCell (p := ⟨w.heap.size + 1, 5, none⟩) hlr (.string ⟨#[]⟩)).setCell (p := ⟨w.heap.size + 1, 6, none⟩) hlr (.bool false)).setCell (p := ⟨w.heap.size + 1, 7, none⟩) hlr (.bool false)).setCell (p := ⟨w.heap.size + 1, 8, none⟩) hlr (.int .i64 0)).setCell (p := ⟨w.heap.size + 1, 9, none⟩) hlr (.int .i64 0)).setCell (p := ⟨w.heap.size + 1, 10, none⟩) hlr (.string ⟨#[]⟩)).setCell (p := ⟨w.heap.size + 1, 11, none⟩) hlr (.int .i64 2))
  clear HHz
  go_wp2_with fail
  exact bodyPost_ret (results_mid Try.results6 _ _ (w.heap.size + 1) [.int .i64 0, .int .i64 0, .int .i64 0, .int .i64 0, .string ⟨#[]⟩, .string ⟨#[]⟩, .bool false, .bool false, .int .i64 0, .int .i64 0, .string ⟨#[]⟩, .int .i64 2] _ rfl HRR.out Try.underlying30 rfl (show (Try.prog.info? 30).map (·.size) = some 12 by kernel_rfl)) rfl (And.intro (by rw [HX.out, HY.out]; rfl) RB.out)
 have d2 : ¬ (20000 : Int) < dst.size := by omega
 go_enter Try.func6, Try.ntmps6
 go_upto_region 3 with fail
 generalize ((w.alloc (.cells #[.int .i64 tos, .int .i64 id, .bool whole, .bool more, .int .i64 off, .int .i64 ttl, .int .i64 proto, .string src4, .string dst4, .string opts, .string data] 24)).alloc (.cells #[.int .i64 0, .int .i64 0, .int .i64 0, .int .i64 0, .string ⟨#[]⟩, .string ⟨#[]⟩, .bool false, .bool false, .int .i64 0, .int .i64 0, .string ⟨#[]⟩, .int .i64 0] 30)) = W0 at *
 have HHk := HS0.out.at (.head _)
 have k0 := HHk.cell (j := 0) rfl
 have k1 := HHk.cell (j := 1) rfl
 have k2 := HHk.cell (j := 2) rfl
 have k3 := HHk.cell (j := 3) rfl
 have k4 := HHk.cell (j := 4) rfl
 have k5 := HHk.cell (j := 5) rfl
 have k6 := HHk.cell (j := 6) rfl
 have k7 := HHk.cell (j := 7) rfl
 have k8 := HHk.cell (j := 8) rfl
 have k9 := HHk.cell (j := 9) rfl
 have k10 := HHk.cell (j := 10) rfl
 clear HHk
 go_wp2_with fail
 refine (HR.out _).mono ?_
 rintro e W1 ⟨rfl, q1⟩
 have HS1 : Hid _ := HS0.out.kept q1
 clear q1 HS0 k0 k1 k2 k3 k4 k5 k6 k7 k8 k9 k10
 cases ok with
 | false =>
  go_upto_region 4 with fail
  have HX : Hid (code = 1) := HF1.out c1 c2 (.inl (by first | rfl | trivial))
  have HY : Hid (ans = p6Zero) := HZ.out (by rw [HX.out]; decide)
  clear HL HF1 HF2 HZ HG
  have HHz := HS1.out.at (.tail _ (.head _))
  have z0 := HHz.cell (j := 0) rfl
  have z1 := HHz.cell (j := 1) rfl
  have z2 := HHz.cell (j := 2) rfl
  have z3 := HHz.cell (j := 3) rfl
  have z4 := HHz.cell (j := 4) rfl
  have z5 := HHz.cell (j := 5) rfl
  have z6 := HHz.cell (j := 6) rfl
  have z7 := HHz.cell (j := 7) rfl
  have z8 := HHz.cell (j := 8) rfl
  have z9 := HHz.cell (j := 9) rfl
  have z10 := HHz.cell (j := 10) rfl
  have z11 := HHz.cell (j := 11) rfl
  have zf0 := HHz.free (j := 0) (by simp)
  have zf1 := HHz.free (j := 1) (by simp)
  have zf2 := HHz.free (j := 2) (by simp)
  have zf3 := HHz.free (j := 3) (by simp)
  have zf4 := HHz.free (j := 4) (by simp)
  have zf5 := HHz.free (j := 5) (by simp)
  have zf6 := HHz.free (j := 6) (by simp)
  have zf7 := HHz.free (j := 7) (by simp)
  have zf8 := HHz.free (j := 8) (by simp)
  have zf9 := HHz.free (j := 9) (by simp)
  have zf10 := HHz.free (j := 10) (by simp)
  have zf11 := HHz.free (j := 11) (by simp)
  have HRR : Hid (HoldsL ((((((((((((W1.setCell ⟨w.heap.size + 1, 0, none⟩ (.int .i64 0)).setCell ⟨w.heap.size + 1, 1, none⟩ (.int .i64 0)).setCell ⟨w.heap.size + 1, 2, none⟩ (.int .i64 0)).setCell ⟨w.heap.size + 1, 3, none⟩ (.int .i64 0)).setCell ⟨w.heap.size + 1, 4, none⟩ (.string ⟨#[]⟩)).setCell ⟨w.heap.size + 1, 5, none⟩ (.string ⟨#[]⟩)).setCell ⟨w.heap.size + 1, 6, none⟩ (.bool false)).setCell ⟨w.heap.size + 1, 7, none⟩ (.bool false)).setCell ⟨w.heap.size + 1, 8, none⟩ (.int .i64 0)).setCell ⟨w.heap.size + 1, 9, none⟩ (.int .i64 0)).setCell ⟨w.heap.size + 1, 10, none⟩ (.string ⟨#[]⟩)).setCell ⟨w.heap.size + 1, 11, none⟩ (.int .i64 1)) (w.heap.size + 1) [.int .i64 0, .int .i64 0, .int .i64 0, .int .i64 0, .string ⟨#[]⟩, .string ⟨#[]⟩, .bool false, .bool false, .int .i64 0, .int .i64 0, .string ⟨#[]⟩, .int .i64 1]) := ((((((((((((HHz.set 0 (.int .i64 0)).set 1 (.int .i64 0)).set 2 (.int .i64 0)).set 3 (.int .i64 0)).set 4 (.string ⟨#[]⟩)).set 5 (.string ⟨#[]⟩)).set 6 (.bool false)).set 7 (.bool false)).set 8 (.int .i64 0)).set 9 (.int .i64 0)).set 10 (.string ⟨#[]⟩)).set 11 (.int .i64 1))
  have RB : Hid _ := ((((((((((((HS1.out.b.setCell (p := ⟨w.heap.size + 1, 0, none⟩) hlr (.int .i64 0)).setCell (p := ⟨w.heap.size + 1, 1, none⟩) hlr (.int .i64 0)).setCell (p := ⟨w.heap.size + 1, 2, none⟩) hlr (.int .i64 0)).setCell (p := ⟨w.heap.size + 1, 3, none⟩) hlr (.int .i64 0)).setCell (p := ⟨w.heap.size + 1, 4, none⟩) hlr (.string ⟨#[]⟩)).setCell (p := ⟨w.heap.size + 1, 5, none⟩) hlr (.string ⟨#[]⟩)).setCell (p := ⟨w.heap.size + 1, 6, none⟩) hlr (.bool false)).setCell (p := ⟨w.heap.size + 1, 7, none⟩) hlr (.bool false)).setCell (p := ⟨w.heap.size + 1, 8, none⟩) hlr (.int .i64 0)).setCell (p := ⟨w.heap.size + 1, 9, none⟩) hlr (.int .i64 0)).setCell (p := ⟨w.heap.size + 1, 10, none⟩) hlr (.string ⟨#[]⟩)).setCell (p := ⟨w.heap.size + 1, 11, none⟩) hlr (.int .i64 1))
  clear HHz
  go_wp2_with fail
  exact bodyPost_ret (results_mid Try.results6 _ _ (w.heap.size + 1) [.int .i64 0, .int .i64 0, .int .i64 0, .int .i64 0, .string ⟨#[]⟩, .string ⟨#[]⟩, .bool false, .bool false, .int .i64 0, .int .i64 0, .string ⟨#[]⟩, .int .i64 1] _ rfl HRR.out Try.underlying30 rfl (show (Try.prog.info? 30).map (·.size) = some 12 by kernel_rfl)) rfl (And.intro (by rw [HX.out, HY.out]; rfl) RB.out)
 | true =>
 by_cases c3 : src.size = 16
 case neg =>
  have d3 : ((src.size : Int) != 16) = true := by simp; omega
  go_upto_region 4 with fail
  have HX : Hid (code = 1) := HF1.out c1 c2 (.inr (.inl c3))
  have HY : Hid (ans = p6Zero) := HZ.out (by rw [HX.out]; decide)
  clear HL HF1 HF2 HZ HG
  have HHz := HS1.out.at (.tail _ (.head _))
  have z0 := HHz.cell (j := 0) rfl
  have z1 := HHz.cell (j := 1) rfl
  have z2 := HHz.cell (j := 2) rfl
  have z3 := HHz.cell (j := 3) rfl
  have z4 := HHz.cell (j := 4) rfl
  have z5 := HHz.cell (j := 5) rfl
  have z6 := HHz.cell (j := 6) rfl
  have z7 := HHz.cell (j := 7) rfl
  have z8 := HHz.cell (j := 8) rfl
  have z9 := HHz.cell (j := 9) rfl
  have z10 := HHz.cell (j := 10) rfl
  have z11 := HHz.cell (j := 11) rfl
  have zf0 := HHz.free (j := 0) (by simp)
  have zf1 := HHz.free (j := 1) (by simp)
  have zf2 := HHz.free (j := 2) (by simp)
  have zf3 := HHz.free (j := 3) (by simp)
  have zf4 := HHz.free (j := 4) (by simp)
  have zf5 := HHz.free (j := 5) (by simp)
  have zf6 := HHz.free (j := 6) (by simp)
  have zf7 := HHz.free (j := 7) (by simp)
  have zf8 := HHz.free (j := 8) (by simp)
  have zf9 := HHz.free (j := 9) (by simp)
  have zf10 := HHz.free (j := 10) (by simp)
  have zf11 := HHz.free (j := 11) (by simp)
  have HRR : Hid (HoldsL ((((((((((((W1.setCell ⟨w.heap.size + 1, 0, none⟩ (.int .i64 0)).setCell ⟨w.heap.size + 1, 1, none⟩ (.int .i64 0)).setCell ⟨w.heap.size + 1, 2, none⟩ (.int .i64 0)).setCell ⟨w.heap.size + 1, 3, none⟩ (.int .i64 0)).setCell ⟨w.heap.size + 1, 4, none⟩ (.string ⟨#[]⟩)).setCell ⟨w.heap.size + 1, 5, none⟩ (.string ⟨#[]⟩)).setCell ⟨w.heap.size + 1, 6, none⟩ (.bool false)).setCell ⟨w.heap.size + 1, 7, none⟩ (.bool false)).setCell ⟨w.heap.size + 1, 8, none⟩ (.int .i64 0)).setCell ⟨w.heap.size + 1, 9, none⟩ (.int .i64 0)).setCell ⟨w.heap.size + 1, 10, none⟩ (.string ⟨#[]⟩)).setCell ⟨w.heap.size + 1, 11, none⟩ (.int .i64 1)) (w.heap.size + 1) [.int .i64 0, .int .i64 0, .int .i64 0, .int .i64 0, .string ⟨#[]⟩, .string ⟨#[]⟩, .bool false, .bool false, .int .i64 0, .int .i64 0, .string ⟨#[]⟩, .int .i64 1]) := ((((((((((((HHz.set 0 (.int .i64 0)).set 1 (.int .i64 0)).set 2 (.int .i64 0)).set 3 (.int .i64 0)).set 4 (.string ⟨#[]⟩)).set 5 (.string ⟨#[]⟩)).set 6 (.bool false)).set 7 (.bool false)).set 8 (.int .i64 0)).set 9 (.int .i64 0)).set 10 (.string ⟨#[]⟩)).set 11 (.int .i64 1))
  have RB : Hid _ := ((((((((((((HS1.out.b.setCell (p := ⟨w.heap.size + 1, 0, none⟩) hlr (.int .i64 0)).setCell (p := ⟨w.heap.size + 1, 1, none⟩) hlr (.int .i64 0)).setCell (p := ⟨w.heap.size + 1, 2, none⟩) hlr (.int .i64 0)).setCell (p := ⟨w.heap.size + 1, 3, none⟩) hlr (.int .i64 0)).setCell (p := ⟨w.heap.size + 1, 4, none⟩) hlr (.string ⟨#[]⟩)).setCell (p := ⟨w.heap.size + 1, 5, none⟩) hlr (.string ⟨#[]⟩)).setCell (p := ⟨w.heap.size + 1, 6, none⟩) hlr (.bool false)).setCell (p := ⟨w.heap.size + 1, 7, none⟩) hlr (.bool false)).setCell (p := ⟨w.heap.size + 1, 8, none⟩) hlr (.int .i64 0)).setCell (p := ⟨w.heap.size + 1, 9, none⟩) hlr (.int .i64 0)).setCell (p := ⟨w.heap.size + 1, 10, none⟩) hlr (.string ⟨#[]⟩)).setCell (p := ⟨w.heap.size + 1, 11, none⟩) hlr (.int .i64 1))
  clear HHz
  go_wp2_with fail
  exact bodyPost_ret (results_mid Try.results6 _ _ (w.heap.size + 1) [.int .i64 0, .int .i64 0, .int .i64 0, .int .i64 0, .string ⟨#[]⟩, .string ⟨#[]⟩, .bool false, .bool false, .int .i64 0, .int .i64 0, .string ⟨#[]⟩, .int .i64 1] _ rfl HRR.out Try.underlying30 rfl (show (Try.prog.info? 30).map (·.size) = some 12 by kernel_rfl)) rfl (And.intro (by rw [HX.out, HY.out]; rfl) RB.out)
 have d3 : ((src.size : Int) != 16) = false := by simp; omega
 by_cases c4 : dst.size = 16
 case neg =>
  have d4 : ((dst.size : Int) != 16) = true := by simp; omega
  have C3 : Hid _ := c3
  clear c3
  go_upto_region 4 with fail
  have HX : Hid (code = 1) := HF1.out c1 c2 (.inr (.inr c4))
  have HY : Hid (ans = p6Zero) := HZ.out (by rw [HX.out]; decide)
  clear HL HF1 HF2 HZ HG
  have HHz := HS1.out.at (.tail _ (.head _))
  have z0 := HHz.cell (j := 0) rfl
  have z1 := HHz.cell (j := 1) rfl
  have z2 := HHz.cell (j := 2) rfl
  have z3 := HHz.cell (j := 3) rfl
  have z4 := HHz.cell (j := 4) rfl
  have z5 := HHz.cell (j := 5) rfl
  have z6 := HHz.cell (j := 6) rfl
  have z7 := HHz.cell (j := 7) rfl
  have z8 := HHz.cell (j := 8) rfl
  have z9 := HHz.cell (j := 9) rfl
  have z10 := HHz.cell (j := 10) rfl
  have z11 := HHz.cell (j := 11) rfl
  have zf0 := HHz.free (j := 0) (by simp)
  have zf1 := HHz.free (j := 1) (by simp)
  have zf2 := HHz.free (j := 2) (by simp)
  have zf3 := HHz.free (j := 3) (by simp)
  have zf4 := HHz.free (j := 4) (by simp)
  have zf5 := HHz.free (j := 5) (by simp)
  have zf6 := HHz.free (j := 6) (by simp)
  have zf7 := HHz.free (j := 7) (by simp)
  have zf8 := HHz.free (j := 8) (by simp)
  have zf9 := HHz.free (j := 9) (by simp)
  have zf10 := HHz.free (j := 10) (by simp)
  have zf11 := HHz.free (j := 11) (by simp)
  have HRR : Hid (HoldsL ((((((((((((W1.setCell ⟨w.heap.size + 1, 0, none⟩ (.int .i64 0)).setCell ⟨w.heap.size + 1, 1, none⟩ (.int .i64 0)).setCell ⟨w.heap.size + 1, 2, none⟩ (.int .i64 0)).setCell ⟨w.heap.size + 1, 3, none⟩ (.int .i64 0)).setCell ⟨w.heap.size + 1, 4, none⟩ (.string ⟨#[]⟩)).setCell ⟨w.heap.size + 1, 5, none⟩ (.string ⟨#[]⟩)).setCell ⟨w.heap.size + 1, 6, none⟩ (.bool false)).setCell ⟨w.heap.size + 1, 7, none⟩ (.bool false)).setCell ⟨w.heap.size + 1, 8, none⟩ (.int .i64 0)).setCell ⟨w.heap.size + 1, 9, none⟩ (.int .i64 0)).setCell ⟨w.heap.size + 1, 10, none⟩ (.string ⟨#[]⟩)).setCell ⟨w.heap.size + 1, 11, none⟩ (.int .i64 1)) (w.heap.size + 1) [.int .i64 0, .int .i64 0, .int .i64 0, .int .i64 0, .string ⟨#[]⟩, .string ⟨#[]⟩, .bool false, .bool false, .int .i64 0, .int .i64 0, .string ⟨#[]⟩, .int .i64 1]) := ((((((((((((HHz.set 0 (.int .i64 0)).set 1 (.int .i64 0)).set 2 (.int .i64 0)).set 3 (.int .i64 0)).set 4 (.string ⟨#[]⟩)).set 5 (.string ⟨#[]⟩)).set 6 (.bool false)).set 7 (.bool false)).set 8 (.int .i64 0)).set 9 (.int .i64 0)).set 10 (.string ⟨#[]⟩)).set 11 (.int .i64 1))
  have RB : Hid _ := ((((((((((((HS1.out.b.setCell (p := ⟨w.heap.size + 1, 0, none⟩) hlr (.int .i64 0)).setCell (p := ⟨w.heap.size + 1, 1, none⟩) hlr (.int .i64 0)).setCell (p := ⟨w.heap.size + 1, 2, none⟩) hlr (.int .i64 0)).setCell (p := ⟨w.heap.size + 1, 3, none⟩) hlr (.int .i64 0)).setCell (p := ⟨w.heap.size + 1, 4, none⟩) hlr (.string ⟨#[]⟩)).setCell (p := ⟨w.heap.size + 1, 5, none⟩) hlr (.string ⟨#[]⟩)).setCell (p := ⟨w.heap.size + 1, 6, none⟩) hlr (.bool false)).setCell (p := ⟨w.heap.size + 1, 7, none⟩) hlr (.bool false)).setCell (p := ⟨w.heap.size + 1, 8, none⟩) hlr (.int .i64 0)).setCell (p := ⟨w.heap.size + 1, 9, none⟩) hlr (.int .i64 0)).setCell (p := ⟨w.heap.size + 1, 10, none⟩) hlr (.string ⟨#[]⟩)).setCell (p := ⟨w.heap.size + 1, 11, none⟩) hlr (.int .i64 1))
  clear HHz
  go_wp2_with fail
  exact bodyPost_ret (results_mid Try.results6 _ _ (w.heap.size + 1) [.int .i64 0, .int .i64 0, .int .i64 0, .int .i64 0, .string ⟨#[]⟩, .string ⟨#[]⟩, .bool false, .bool false, .int .i64 0, .int .i64 0, .string ⟨#[]⟩, .int .i64 1] _ rfl HRR.out Try.underlying30 rfl (show (Try.prog.info? 30).map (·.size) = some 12 by kernel_rfl)) rfl (And.intro (by rw [HX.out, HY.out]; rfl) RB.out)
 have d4 : ((dst.size : Int) != 16) = false := by simp; omega
 have HK : Hid _ := HF2.out rfl c3 c4
 clear c3 c4 HL HF1 HF2
 go_upto_region 5 with fail
 have HHk := HS1.out.at (.head _)
 have k0 := HHk.cell (j := 0) rfl
 have k1 := HHk.cell (j := 1) rfl
 have k2 := HHk.cell (j := 2) rfl
 have k3 := HHk.cell (j := 3) rfl
 have k4 := HHk.cell (j := 4) rfl
 have k5 := HHk.cell (j := 5) rfl
 have k6 := HHk.cell (j := 6) rfl
 have k7 := HHk.cell (j := 7) rfl
 have k8 := HHk.cell (j := 8) rfl
 have k9 := HHk.cell (j := 9) rfl
 have k10 := HHk.cell (j := 10) rfl
 clear HHk
 replace HF : Hid _ := HF.out (by first | rfl | trivial)
 replace HQ : Hid _ := HQ.out (by first | rfl | trivial)
 go_wp2_with fail
 refine (HF.out _).mono ?_
 rintro e W2 ⟨rfl, q2⟩
 have HS2 : Hid _ := HS1.out.kept q2
 clear q2 HS1 HF k0 k1 k2 k3 k4 k5 k6 k7 k8 k9 k10
 obtain ⟨qcls, qflow, qnext, qhops, qsrc, qdst, qpiece, qmore, qoff, qid, qdata⟩ := q
 unfold p6C at *
 dsimp only at *
 have HS3 : Hid (Bxs w ((W2.heap.size, [.int .i64 qcls, .int .i64 qflow, .int .i64 qnext, .int .i64 qhops, .string qsrc, .string qdst, .bool qpiece, .bool qmore, .int .i64 qoff, .int .i64 qid, .string qdata]) :: [(w.heap.size, [.int .i64 tos, .int .i64 id, .bool whole, .bool more, .int .i64 off, .int .i64 ttl, .int .i64 proto, .string src4, .string dst4, .string opts, .string data]), (w.heap.size + 1, [.int .i64 0, .int .i64 0, .int .i64 0, .int .i64 0, .string ⟨#[]⟩, .string ⟨#[]⟩, .bool false, .bool false, .int .i64 0, .int .i64 0, .string ⟨#[]⟩, .int .i64 0])]) (W2.alloc (.cells #[.int .i64 qcls, .int .i64 qflow, .int .i64 qnext, .int .i64 qhops, .string qsrc, .string qdst, .bool qpiece, .bool qmore, .int .i64 qoff, .int .i64 qid, .string qdata] 28))) := HS2.out.push [.int .i64 qcls, .int .i64 qflow, .int .i64 qnext, .int .i64 qhops, .string qsrc, .string qdst, .bool qpiece, .bool qmore, .int .i64 qoff, .int .i64 qid, .string qdata] (by simp) 28
 have hW2 : w.heap.size + 1 < W2.heap.size := (HS2.out.k _ (.tail _ (.head _))).lt (by simp)
 go_upto_region 6 with fail
 generalize W2.alloc (.cells #[.int .i64 qcls, .int .i64 qflow, .int .i64 qnext, .int .i64 qhops, .string qsrc, .string qdst, .bool qpiece, .bool qmore, .int .i64 qoff, .int .i64 qid, .string qdata] 28) = W3 at *
 generalize W2.heap.size = g at *
 clear HS2
 have HHj := HS3.out.at (.head _)
 have j0 := HHj.cell (j := 0) rfl
 have j1 := HHj.cell (j := 1) rfl
 have j2 := HHj.cell (j := 2) rfl
 have j3 := HHj.cell (j := 3) rfl
 have j4 := HHj.cell (j := 4) rfl
 have j5 := HHj.cell (j := 5) rfl
 have j6 := HHj.cell (j := 6) rfl
 have j7 := HHj.cell (j := 7) rfl
 have j8 := HHj.cell (j := 8) rfl
 have j9 := HHj.cell (j := 9) rfl
 have j10 := HHj.cell (j := 10) rfl
 clear HHj
 go_wp2_with fail
 refine (HQ.out _).mono ?_
 rintro e W4 ⟨rfl, q4⟩
 have HS4 : Hid _ := HS3.out.kept q4
 clear q4 HS3 HQ j0 j1 j2 j3 j4 j5 j6 j7 j8 j9 j10
 cases okq with
 | false =>
  have HX : Hid (code = 1) := HK.out
  have HY : Hid (ans = p6Zero) := HZ.out (by rw [HX.out]; decide)
  clear HZ HG HK
  go_upto_region 7 with fail
  have HHz := HS4.out.at (.tail _ (.tail _ (.head _)))
  have z0 := HHz.cell (j := 0) rfl
  have z1 := HHz.cell (j := 1) rfl
  have z2 := HHz.cell (j := 2) rfl
  have z3 := HHz.cell (j := 3) rfl
  have z4 := HHz.cell (j := 4) rfl
  have z5 := HHz.cell (j := 5) rfl
  have z6 := HHz.cell (j := 6) rfl
  have z7 := HHz.cell (j := 7) rfl
  have z8 := HHz.cell (j := 8) rfl
  have z9 := HHz.cell (j := 9) rfl
  have z10 := HHz.cell (j := 10) rfl
  have z11 := HHz.cell (j := 11) rfl
  have zf0 := HHz.free (j := 0) (by simp)
  have zf1 := HHz.free (j := 1) (by simp)
  have zf2 := HHz.free (j := 2) (by simp)
  have zf3 := HHz.free (j := 3) (by simp)
  have zf4 := HHz.free (j := 4) (by simp)
  have zf5 := HHz.free (j := 5) (by simp)
  have zf6 := HHz.free (j := 6) (by simp)
  have zf7 := HHz.free (j := 7) (by simp)
  have zf8 := HHz.free (j := 8) (by simp)
  have zf9 := HHz.free (j := 9) (by simp)
  have zf10 := HHz.free (j := 10) (by simp)
  have zf11 := HHz.free (j := 11) (by simp)
  have HRR : Hid (HoldsL ((((((((((((W4.setCell ⟨w.heap.size + 1, 0, none⟩ (.int .i64 0)).setCell ⟨w.heap.size + 1, 1, none⟩ (.int .i64 0)).setCell ⟨w.heap.size + 1, 2, none⟩ (.int .i64 0)).setCell ⟨w.heap.size + 1, 3, none⟩ (.int .i64 0)).setCell ⟨w.heap.size + 1, 4, none⟩ (.string ⟨#[]⟩)).setCell ⟨w.heap.size + 1, 5, none⟩ (.string ⟨#[]⟩)).setCell ⟨w.heap.size + 1, 6, none⟩ (.bool false)).setCell ⟨w.heap.size + 1, 7, none⟩ (.bool false)).setCell ⟨w.heap.size + 1, 8, none⟩ (.int .i64 0)).setCell ⟨w.heap.size + 1, 9, none⟩ (.int .i64 0)).setCell ⟨w.heap.size + 1, 10, none⟩ (.string ⟨#[]⟩)).setCell ⟨w.heap.size + 1, 11, none⟩ (.int .i64 1)) (w.heap.size + 1) [.int .i64 0, .int .i64 0, .int .i64 0, .int .i64 0, .string ⟨#[]⟩, .string ⟨#[]⟩, .bool false, .bool false, .int .i64 0, .int .i64 0, .string ⟨#[]⟩, .int .i64 1]) := ((((((((((((HHz.set 0 (.int .i64 0)).set 1 (.int .i64 0)).set 2 (.int .i64 0)).set 3 (.int .i64 0)).set 4 (.string ⟨#[]⟩)).set 5 (.string ⟨#[]⟩)).set 6 (.bool false)).set 7 (.bool false)).set 8 (.int .i64 0)).set 9 (.int .i64 0)).set 10 (.string ⟨#[]⟩)).set 11 (.int .i64 1))
  have RB : Hid _ := ((((((((((((HS4.out.b.setCell (p := ⟨w.heap.size + 1, 0, none⟩) hlr (.int .i64 0)).setCell (p := ⟨w.heap.size + 1, 1, none⟩) hlr (.int .i64 0)).setCell (p := ⟨w.heap.size + 1, 2, none⟩) hlr (.int .i64 0)).setCell (p := ⟨w.heap.size + 1, 3, none⟩) hlr (.int .i64 0)).setCell (p := ⟨w.heap.size + 1, 4, none⟩) hlr (.string ⟨#[]⟩)).setCell (p := ⟨w.heap.size + 1, 5, none⟩) hlr (.string ⟨#[]⟩)).setCell (p := ⟨w.heap.size + 1, 6, none⟩) hlr (.bool false)).setCell (p := ⟨w.heap.size + 1, 7, none⟩) hlr (.bool false)).setCell (p := ⟨w.heap.size + 1, 8, none⟩) hlr (.int .i64 0)).setCell (p := ⟨w.heap.size + 1, 9, none⟩) hlr (.int .i64 0)).setCell (p := ⟨w.heap.size + 1, 10, none⟩) hlr (.string ⟨#[]⟩)).setCell (p := ⟨w.heap.size + 1, 11, none⟩) hlr (.int .i64 1))
  clear HHz
  go_wp2_with fail
  exact bodyPost_ret (results_mid Try.results6 _ _ (w.heap.size + 1) [.int .i64 0, .int .i64 0, .int .i64 0, .int .i64 0, .string ⟨#[]⟩, .string ⟨#[]⟩, .bool false, .bool false, .int .i64 0, .int .i64 0, .string ⟨#[]⟩, .int .i64 1] _ rfl HRR.out Try.underlying30 rfl (show (Try.prog.info? 30).map (·.size) = some 12 by kernel_rfl)) rfl (And.intro (by rw [HX.out, HY.out]; rfl) RB.out)
 | true =>
  have HX : Hid (code = 0) := HK.out
  have HY : Hid (ans = ⟨qcls, qflow, qnext, qhops, qsrc, qdst, qpiece, qmore, qoff, qid, qdata⟩) := HG.out HX.out
  clear HZ HG HK
  go_upto_region 8 with fail
  have HHj := HS4.out.at (.head _)
  have j0 := HHj.cell (j := 0) rfl
  have j1 := HHj.cell (j := 1) rfl
  have j2 := HHj.cell (j := 2) rfl
  have j3 := HHj.cell (j := 3) rfl
  have j4 := HHj.cell (j := 4) rfl
  have j5 := HHj.cell (j := 5) rfl
  have j6 := HHj.cell (j := 6) rfl
  have j7 := HHj.cell (j := 7) rfl
  have j8 := HHj.cell (j := 8) rfl
  have j9 := HHj.cell (j := 9) rfl
  have j10 := HHj.cell (j := 10) rfl
  clear HHj
  have HHz := HS4.out.at (.tail _ (.tail _ (.head _)))
  have z0 := HHz.cell (j := 0) rfl
  have z1 := HHz.cell (j := 1) rfl
  have z2 := HHz.cell (j := 2) rfl
  have z3 := HHz.cell (j := 3) rfl
  have z4 := HHz.cell (j := 4) rfl
  have z5 := HHz.cell (j := 5) rfl
  have z6 := HHz.cell (j := 6) rfl
  have z7 := HHz.cell (j := 7) rfl
  have z8 := HHz.cell (j := 8) rfl
  have z9 := HHz.cell (j := 9) rfl
  have z10 := HHz.cell (j := 10) rfl
  have z11 := HHz.cell (j := 11) rfl
  have zf0 := HHz.free (j := 0) (by simp)
  have zf1 := HHz.free (j := 1) (by simp)
  have zf2 := HHz.free (j := 2) (by simp)
  have zf3 := HHz.free (j := 3) (by simp)
  have zf4 := HHz.free (j := 4) (by simp)
  have zf5 := HHz.free (j := 5) (by simp)
  have zf6 := HHz.free (j := 6) (by simp)
  have zf7 := HHz.free (j := 7) (by simp)
  have zf8 := HHz.free (j := 8) (by simp)
  have zf9 := HHz.free (j := 9) (by simp)
  have zf10 := HHz.free (j := 10) (by simp)
  have zf11 := HHz.free (j := 11) (by simp)
  have HRR : Hid (HoldsL ((((((((((((W4.setCell ⟨w.heap.size + 1, 0, none⟩ (.int .i64 qcls)).setCell ⟨w.heap.size + 1, 1, none⟩ (.int .i64 qflow)).setCell ⟨w.heap.size + 1, 2, none⟩ (.int .i64 qnext)).setCell ⟨w.heap.size + 1, 3, none⟩ (.int .i64 qhops)).setCell ⟨w.heap.size + 1, 4, none⟩ (.string qsrc)).setCell ⟨w.heap.size + 1, 5, none⟩ (.string qdst)).setCell ⟨w.heap.size + 1, 6, none⟩ (.bool qpiece)).setCell ⟨w.heap.size + 1, 7, none⟩ (.bool qmore)).setCell ⟨w.heap.size + 1, 8, none⟩ (.int .i64 qoff)).setCell ⟨w.heap.size + 1, 9, none⟩ (.int .i64 qid)).setCell ⟨w.heap.size + 1, 10, none⟩ (.string qdata)).setCell ⟨w.heap.size + 1, 11, none⟩ (.int .i64 0)) (w.heap.size + 1) [.int .i64 qcls, .int .i64 qflow, .int .i64 qnext, .int .i64 qhops, .string qsrc, .string qdst, .bool qpiece, .bool qmore, .int .i64 qoff, .int .i64 qid, .string qdata, .int .i64 0]) := ((((((((((((HHz.set 0 (.int .i64 qcls)).set 1 (.int .i64 qflow)).set 2 (.int .i64 qnext)).set 3 (.int .i64 qhops)).set 4 (.string qsrc)).set 5 (.string qdst)).set 6 (.bool qpiece)).set 7 (.bool qmore)).set 8 (.int .i64 qoff)).set 9 (.int .i64 qid)).set 10 (.string qdata)).set 11 (.int .i64 0))
  have RB : Hid _ := ((((((((((((HS4.out.b.setCell (p := ⟨w.heap.size + 1, 0, none⟩) hlr (.int .i64 qcls)).setCell (p := ⟨w.heap.size + 1, 1, none⟩) hlr (.int .i64 qflow)).setCell (p := ⟨w.heap.size + 1, 2, none⟩) hlr (.int .i64 qnext)).setCell (p := ⟨w.heap.size + 1, 3, none⟩) hlr (.int .i64 qhops)).setCell (p := ⟨w.heap.size + 1, 4, none⟩) hlr (.string qsrc)).setCell (p := ⟨w.heap.size + 1, 5, none⟩) hlr (.string qdst)).setCell (p := ⟨w.heap.size + 1, 6, none⟩) hlr (.bool qpiece)).setCell (p := ⟨w.heap.size + 1, 7, none⟩) hlr (.bool qmore)).setCell (p := ⟨w.heap.size + 1, 8, none⟩) hlr (.int .i64 qoff)).setCell (p := ⟨w.heap.size + 1, 9, none⟩) hlr (.int .i64 qid)).setCell (p := ⟨w.heap.size + 1, 10, none⟩) hlr (.string qdata)).setCell (p := ⟨w.heap.size + 1, 11, none⟩) hlr (.int .i64 0))
  clear HHz
  have n1 : ¬ g = w.heap.size + 1 := by omega
  have n2 : ¬ w.heap.size + 1 = g := by omega
  go_wp2_with fail
  exact bodyPost_ret (results_mid Try.results6 _ _ (w.heap.size + 1) [.int .i64 qcls, .int .i64 qflow, .int .i64 qnext, .int .i64 qhops, .string qsrc, .string qdst, .bool qpiece, .bool qmore, .int .i64 qoff, .int .i64 qid, .string qdata, .int .i64 0] _ rfl HRR.out Try.underlying30 rfl (show (Try.prog.info? 30).map (·.size) = some 12 by kernel_rfl)) rfl (And.intro (by rw [HX.out, HY.out]; rfl) RB.out)
end Go.Proofs.Ytofenlclefkgdaa
