/- DrawX: what the specification's DrawToSix and DrawToFour answer. Printed by mkdxlat.py. -/
import Derived.Test.YtofenlclefkgdaaDrawV4
import Derived.Test.YtofenlclefkgdaaDrawV6
import Derived.Test.YtofenlclefkgdaaHoldL
import Derived.Deep.DeepCutAuto
import Derived.RegionTactic
namespace Go.Proofs.Ytofenlclefkgdaa
open Go.RowKit Go.PlainAid
set_option linter.unusedVariables false
set_option linter.unusedSimpArgs false

theorem bel_grownX {n : Nat} {w w1 W : World} {B : Nat} (h : Below n w w1) (hg : w1.grownBy W (some B)) (hB : n ≤ B) (hn : n ≤ w1.heap.size) : Below n w W :=
 ⟨hg.os.trans h.os, hg.tape.trans h.tape, hg.output.trans h.output, Nat.le_trans h.size hg.size, fun k hk => by rw [hg.block k (by omega) (by simp; omega), h.block k hk]⟩

set_option maxRecDepth 100000 in
set_option maxHeartbeats 2000000 in
theorem drawToSix_any (a : Option Addr) (len cap : Nat) (w : World) (hl : len ≤ 1048576) (hb : Bytes w a len w.heap.size) :
  Calls Try.prog 4 #[.slice a len cap] w fun e w' => ∃ (p : P4) (s d : ByteArray), e = .returned (.tuple #[p4C p, .string s, .string d]) ∧ Bd4 p ∧ s.size ≤ 16 ∧ d.size ≤ 16 ∧ Below w.heap.size w w' := by
 have O0 : Hid (HoldsL (w.alloc (.cells #[.int .i64 0, .int .i64 0, .bool false, .bool false, .int .i64 0, .int .i64 0, .int .i64 0, .string ⟨#[]⟩, .string ⟨#[]⟩, .string ⟨#[]⟩, .string ⟨#[]⟩] 24)) w.heap.size [.int .i64 0, .int .i64 0, .bool false, .bool false, .int .i64 0, .int .i64 0, .int .i64 0, .string ⟨#[]⟩, .string ⟨#[]⟩, .string ⟨#[]⟩, .string ⟨#[]⟩]) := HoldsL.new w [.int .i64 0, .int .i64 0, .bool false, .bool false, .int .i64 0, .int .i64 0, .int .i64 0, .string ⟨#[]⟩, .string ⟨#[]⟩, .string ⟨#[]⟩, .string ⟨#[]⟩] _
 have HBY : Hid (Bytes (w.alloc (.cells #[.int .i64 0, .int .i64 0, .bool false, .bool false, .int .i64 0, .int .i64 0, .int .i64 0, .string ⟨#[]⟩, .string ⟨#[]⟩, .string ⟨#[]⟩, .string ⟨#[]⟩] 24)) a len (w.alloc (.cells #[.int .i64 0, .int .i64 0, .bool false, .bool false, .int .i64 0, .int .i64 0, .int .i64 0, .string ⟨#[]⟩, .string ⟨#[]⟩, .string ⟨#[]⟩, .string ⟨#[]⟩] 24)).heap.size) := (hb.mono (by simp)).kept (World.grownBy_alloc _ _ none) (by simp)
 have HS : Hid _ := source_any a len cap (w.alloc (.cells #[.int .i64 0, .int .i64 0, .bool false, .bool false, .int .i64 0, .int .i64 0, .int .i64 0, .string ⟨#[]⟩, .string ⟨#[]⟩, .string ⟨#[]⟩, .string ⟨#[]⟩] 24)) hl HBY.out
 clear hb HBY
 go_enter Try.func4, Try.ntmps4
 go_wp2_with fail
 refine Calls.mono HS.out ?_
 rintro e w1 ⟨rfl, b1, size, s0, s1, hs1⟩
 have HB1 : Hid (Below w.heap.size w w1) := ((Below.refl _ _).alloc (Nat.le_refl _) _).trans (b1.mono (by simp))
 have O1 : Hid _ := O0.out.kept (by simp) b1
 have HB : Hid ((w.alloc (.cells #[.int .i64 0, .int .i64 0, .bool false, .bool false, .int .i64 0, .int .i64 0, .int .i64 0, .string ⟨#[]⟩, .string ⟨#[]⟩, .string ⟨#[]⟩, .string ⟨#[]⟩] 24)).heap.size = w.heap.size + 1) := by unfold Hid; simp
 rw [HB.out] at hs1 ⊢
 have D1 : Hid (Dr w1 (w.heap.size + 1) a len cap size w1) := Dr.start hs1
 have hw1 : w.heap.size < w1.heap.size := by have := (Dr.start hs1).hB; omega
 obtain ⟨B, hBd', hBd⟩ : ∃ B, B = w.heap.size + 1 ∧ w.heap.size < B := ⟨_, rfl, by omega⟩
 rw [← hBd'] at D1 ⊢
 clear b1 hs1 HS s0 s1 O0 HB hBd'
 go_wp2_with fail
 refine (drawV4_any B a len cap size _ hl D1.out.src).mono ?_
 rintro e w2 ⟨⟨p, rfl, hk⟩, hs, hg⟩
 have K2 : Hid (Bd4 p) := hk
 obtain ⟨tos, id, whole, more, off, ttl, proto, src, dst, opts, data⟩ := p
 unfold p4C
 dsimp only at *
 have D2 : Hid (Dr w1 B a len cap size (w2.alloc (.cells #[.int .i64 tos, .int .i64 id, .bool whole, .bool more, .int .i64 off, .int .i64 ttl, .int .i64 proto, .string src, .string dst, .string opts, .string data] 24))) := (D1.out.draw hs hg).alloc _
 have O2 : Hid (HoldsL (w2.alloc (.cells #[.int .i64 tos, .int .i64 id, .bool whole, .bool more, .int .i64 off, .int .i64 ttl, .int .i64 proto, .string src, .string dst, .string opts, .string data] 24)) w.heap.size [.int .i64 0, .int .i64 0, .bool false, .bool false, .int .i64 0, .int .i64 0, .int .i64 0, .string ⟨#[]⟩, .string ⟨#[]⟩, .string ⟨#[]⟩, .string ⟨#[]⟩]) := (O1.out.grown (by simp) hg (by simp; omega)).alloc _
 have L2 : Hid (HoldsL (w2.alloc (.cells #[.int .i64 tos, .int .i64 id, .bool whole, .bool more, .int .i64 off, .int .i64 ttl, .int .i64 proto, .string src, .string dst, .string opts, .string data] 24)) w2.heap.size [.int .i64 tos, .int .i64 id, .bool whole, .bool more, .int .i64 off, .int .i64 ttl, .int .i64 proto, .string src, .string dst, .string opts, .string data]) := HoldsL.new w2 [.int .i64 tos, .int .i64 id, .bool whole, .bool more, .int .i64 off, .int .i64 ttl, .int .i64 proto, .string src, .string dst, .string opts, .string data] _
 have hX1 : w1.heap.size ≤ w2.heap.size := (D1.out.draw hs hg).le
 have hBw1 : B < w1.heap.size := D1.out.hB
 clear hs hg hk D1 O1
 go_wp2_with fail
 refine (drawOne_any 20 B a len cap size _ (by omega) hl D2.out.src).mono ?_
 rintro e w3 ⟨c, rfl, hs, hg⟩
 have D3 : Hid (Dr w1 B a len cap size w3) := D2.out.draw hs hg
 have O3 : Hid (HoldsL w3 w.heap.size [.int .i64 0, .int .i64 0, .bool false, .bool false, .int .i64 0, .int .i64 0, .int .i64 0, .string ⟨#[]⟩, .string ⟨#[]⟩, .string ⟨#[]⟩, .string ⟨#[]⟩]) := O2.out.grown (by simp) hg (by simp; omega)
 have L3 : Hid (HoldsL w3 w2.heap.size [.int .i64 tos, .int .i64 id, .bool whole, .bool more, .int .i64 off, .int .i64 ttl, .int .i64 proto, .string src, .string dst, .string opts, .string data]) := L2.out.grown (by simp) hg (by simp; omega)
 clear hs hg D2 O2 L2
 go_wp2_with fail
 refine (drawAddr_any (!c) B a len cap size _ hl D3.out.src).mono ?_
 rintro e w4 ⟨s, rfl, hsz, hs, hg⟩
 have D4 : Hid (Dr w1 B a len cap size w4) := D3.out.draw hs hg
 have O4 : Hid (HoldsL w4 w.heap.size [.int .i64 0, .int .i64 0, .bool false, .bool false, .int .i64 0, .int .i64 0, .int .i64 0, .string ⟨#[]⟩, .string ⟨#[]⟩, .string ⟨#[]⟩, .string ⟨#[]⟩]) := O3.out.grown (by simp) hg (by simp; omega)
 have L4 : Hid (HoldsL w4 w2.heap.size [.int .i64 tos, .int .i64 id, .bool whole, .bool more, .int .i64 off, .int .i64 ttl, .int .i64 proto, .string src, .string dst, .string opts, .string data]) := L3.out.grown (by simp) hg (by simp; omega)
 obtain ⟨X, hXd, hX2⟩ : ∃ X, X = w2.heap.size ∧ w1.heap.size ≤ X := ⟨_, rfl, hX1⟩
 rw [← hXd] at L4 ⊢
 have HSZ : Hid (s.size ≤ 16) := by unfold Hid; rw [hsz]; split <;> omega
 clear hs hg D3 O3 L3 hXd hX1 hsz
 go_upto_region 4 with fail
 go_cut [3, 4] (fun pv sv wx => pv = .string s ∧ ∃ r : ByteArray, sv = .string r ∧ r.size ≤ 16 ∧ HoldsL wx w.heap.size [.int .i64 tos, .int .i64 id, .bool whole, .bool more, .int .i64 off, .int .i64 ttl, .int .i64 proto, .string src, .string dst, .string opts, .string data] ∧ Below w.heap.size w wx)
 case first =>
  have k0 := L4.out.cell (j := 0) rfl
  have k1 := L4.out.cell (j := 1) rfl
  have k2 := L4.out.cell (j := 2) rfl
  have k3 := L4.out.cell (j := 3) rfl
  have k4 := L4.out.cell (j := 4) rfl
  have k5 := L4.out.cell (j := 5) rfl
  have k6 := L4.out.cell (j := 6) rfl
  have k7 := L4.out.cell (j := 7) rfl
  have k8 := L4.out.cell (j := 8) rfl
  have k9 := L4.out.cell (j := 9) rfl
  have k10 := L4.out.cell (j := 10) rfl
  have z0 := O4.out.cell (j := 0) rfl
  have z1 := O4.out.cell (j := 1) rfl
  have z2 := O4.out.cell (j := 2) rfl
  have z3 := O4.out.cell (j := 3) rfl
  have z4 := O4.out.cell (j := 4) rfl
  have z5 := O4.out.cell (j := 5) rfl
  have z6 := O4.out.cell (j := 6) rfl
  have z7 := O4.out.cell (j := 7) rfl
  have z8 := O4.out.cell (j := 8) rfl
  have z9 := O4.out.cell (j := 9) rfl
  have z10 := O4.out.cell (j := 10) rfl
  have zf0 := O4.out.free (j := 0) (by simp)
  have zf1 := O4.out.free (j := 1) (by simp)
  have zf2 := O4.out.free (j := 2) (by simp)
  have zf3 := O4.out.free (j := 3) (by simp)
  have zf4 := O4.out.free (j := 4) (by simp)
  have zf5 := O4.out.free (j := 5) (by simp)
  have zf6 := O4.out.free (j := 6) (by simp)
  have zf7 := O4.out.free (j := 7) (by simp)
  have zf8 := O4.out.free (j := 8) (by simp)
  have zf9 := O4.out.free (j := 9) (by simp)
  have zf10 := O4.out.free (j := 10) (by simp)
  go_region_with (go_at_call 12; refine (drawAddr_any true B a len cap size _ hl (D4.out.src.kept (grown_drew (World.grownBy.refl w4 none)) (by simp))).mono ?_; rintro e w5 ⟨r, rfl, r0, hs1, hg1⟩; have D5 : Hid (Dr w1 B a len cap size w5) := D4.out.draw hs1 (grown_trans (grown_drew (World.grownBy.refl w4 _)) hg1); have L5 : Hid (HoldsL w5 X [.int .i64 tos, .int .i64 id, .bool whole, .bool more, .int .i64 off, .int .i64 ttl, .int .i64 proto, .string src, .string dst, .string opts, .string data]) := L4.out.drew.grown (by simp) hg1 (by simp; omega); have O5 : Hid (HoldsL w5 w.heap.size [.int .i64 0, .int .i64 0, .bool false, .bool false, .int .i64 0, .int .i64 0, .int .i64 0, .string ⟨#[]⟩, .string ⟨#[]⟩, .string ⟨#[]⟩, .string ⟨#[]⟩]) := O4.out.drew.grown (by simp) hg1 (by simp; omega); have q0 : w5.cell? ⟨X, 0, none⟩ = some (.int .i64 tos) := L5.out.cell rfl; have q1 : w5.cell? ⟨X, 1, none⟩ = some (.int .i64 id) := L5.out.cell rfl; have q2 : w5.cell? ⟨X, 2, none⟩ = some (.bool whole) := L5.out.cell rfl; have q3 : w5.cell? ⟨X, 3, none⟩ = some (.bool more) := L5.out.cell rfl; have q4 : w5.cell? ⟨X, 4, none⟩ = some (.int .i64 off) := L5.out.cell rfl; have q5 : w5.cell? ⟨X, 5, none⟩ = some (.int .i64 ttl) := L5.out.cell rfl; have q6 : w5.cell? ⟨X, 6, none⟩ = some (.int .i64 proto) := L5.out.cell rfl; have q7 : w5.cell? ⟨X, 7, none⟩ = some (.string src) := L5.out.cell rfl; have q8 : w5.cell? ⟨X, 8, none⟩ = some (.string dst) := L5.out.cell rfl; have q9 : w5.cell? ⟨X, 9, none⟩ = some (.string opts) := L5.out.cell rfl; have q10 : w5.cell? ⟨X, 10, none⟩ = some (.string data) := L5.out.cell rfl; have y0 : w5.cell? ⟨w.heap.size, 0, none⟩ = some (.int .i64 0) := O5.out.cell rfl; have y1 : w5.cell? ⟨w.heap.size, 1, none⟩ = some (.int .i64 0) := O5.out.cell rfl; have y2 : w5.cell? ⟨w.heap.size, 2, none⟩ = some (.bool false) := O5.out.cell rfl; have y3 : w5.cell? ⟨w.heap.size, 3, none⟩ = some (.bool false) := O5.out.cell rfl; have y4 : w5.cell? ⟨w.heap.size, 4, none⟩ = some (.int .i64 0) := O5.out.cell rfl; have y5 : w5.cell? ⟨w.heap.size, 5, none⟩ = some (.int .i64 0) := O5.out.cell rfl; have y6 : w5.cell? ⟨w.heap.size, 6, none⟩ = some (.int .i64 0) := O5.out.cell rfl; have y7 : w5.cell? ⟨w.heap.size, 7, none⟩ = some (.string ⟨#[]⟩) := O5.out.cell rfl; have y8 : w5.cell? ⟨w.heap.size, 8, none⟩ = some (.string ⟨#[]⟩) := O5.out.cell rfl; have y9 : w5.cell? ⟨w.heap.size, 9, none⟩ = some (.string ⟨#[]⟩) := O5.out.cell rfl; have y10 : w5.cell? ⟨w.heap.size, 10, none⟩ = some (.string ⟨#[]⟩) := O5.out.cell rfl; have yf0 := O5.out.free (j := 0) (by simp); have yf1 := O5.out.free (j := 1) (by simp); have yf2 := O5.out.free (j := 2) (by simp); have yf3 := O5.out.free (j := 3) (by simp); have yf4 := O5.out.free (j := 4) (by simp); have yf5 := O5.out.free (j := 5) (by simp); have yf6 := O5.out.free (j := 6) (by simp); have yf7 := O5.out.free (j := 7) (by simp); have yf8 := O5.out.free (j := 8) (by simp); have yf9 := O5.out.free (j := 9) (by simp); have yf10 := O5.out.free (j := 10) (by simp); have HR : Hid (r.size ≤ 16) := (by unfold Hid; rw [r0]; decide); clear hs1 hg1 r0)
  all_goals go_wp2_with fail
  all_goals go_meet
  all_goals exact ⟨rfl, r, rfl, HR.out, (((((((((((O5.out.set 0 _).set 1 _).set 2 _).set 3 _).set 4 _).set 5 _).set 6 _).set 7 _).set 8 _).set 9 _).set 10 _), ((((((((((((bel_grownX HB1.out D5.out.grown (Nat.le_of_lt hBd) HB1.out.size).setCell (p := ⟨w.heap.size, 0, none⟩) (Nat.le_refl _) _).setCell (p := ⟨w.heap.size, 1, none⟩) (Nat.le_refl _) _).setCell (p := ⟨w.heap.size, 2, none⟩) (Nat.le_refl _) _).setCell (p := ⟨w.heap.size, 3, none⟩) (Nat.le_refl _) _).setCell (p := ⟨w.heap.size, 4, none⟩) (Nat.le_refl _) _).setCell (p := ⟨w.heap.size, 5, none⟩) (Nat.le_refl _) _).setCell (p := ⟨w.heap.size, 6, none⟩) (Nat.le_refl _) _).setCell (p := ⟨w.heap.size, 7, none⟩) (Nat.le_refl _) _).setCell (p := ⟨w.heap.size, 8, none⟩) (Nat.le_refl _) _).setCell (p := ⟨w.heap.size, 9, none⟩) (Nat.le_refl _) _).setCell (p := ⟨w.heap.size, 10, none⟩) (Nat.le_refl _) _)⟩
 case rest =>
 obtain ⟨rfl, r, rfl, hr, hO, hb⟩ := hcut
 have HBB : Hid _ := hb
 have HRR : Hid _ := hr
 have z0 := hO.cell (j := 0) rfl
 have z1 := hO.cell (j := 1) rfl
 have z2 := hO.cell (j := 2) rfl
 have z3 := hO.cell (j := 3) rfl
 have z4 := hO.cell (j := 4) rfl
 have z5 := hO.cell (j := 5) rfl
 have z6 := hO.cell (j := 6) rfl
 have z7 := hO.cell (j := 7) rfl
 have z8 := hO.cell (j := 8) rfl
 have z9 := hO.cell (j := 9) rfl
 have z10 := hO.cell (j := 10) rfl
 clear hO hb
 go_wp2_with fail
 exact bodyPost_ret (v := .tuple #[.agg #[.int .i64 tos, .int .i64 id, .bool whole, .bool more, .int .i64 off, .int .i64 ttl, .int .i64 proto, .string src, .string dst, .string opts, .string data], .string s, .string r]) (by simp [results, Try.results4, go_sem, z0, z1, z2, z3, z4, z5, z6, z7, z8, z9, z10]) rfl ⟨⟨tos, id, whole, more, off, ttl, proto, src, dst, opts, data⟩, s, r, rfl, K2.out, HSZ.out, HRR.out, HBB.out⟩

set_option maxRecDepth 100000 in
set_option maxHeartbeats 2000000 in
theorem drawToFour_any (a : Option Addr) (len cap : Nat) (w : World) (hl : len ≤ 1048576) (hb : Bytes w a len w.heap.size) :
  Calls Try.prog 8 #[.slice a len cap] w fun e w' => ∃ (p : P6) (s d : ByteArray), e = .returned (.tuple #[p6C p, .string s, .string d]) ∧ Bd6 p ∧ s.size ≤ 16 ∧ d.size ≤ 16 ∧ Below w.heap.size w w' := by
 have O0 : Hid (HoldsL (w.alloc (.cells #[.int .i64 0, .int .i64 0, .int .i64 0, .int .i64 0, .string ⟨#[]⟩, .string ⟨#[]⟩, .bool false, .bool false, .int .i64 0, .int .i64 0, .string ⟨#[]⟩] 28)) w.heap.size [.int .i64 0, .int .i64 0, .int .i64 0, .int .i64 0, .string ⟨#[]⟩, .string ⟨#[]⟩, .bool false, .bool false, .int .i64 0, .int .i64 0, .string ⟨#[]⟩]) := HoldsL.new w [.int .i64 0, .int .i64 0, .int .i64 0, .int .i64 0, .string ⟨#[]⟩, .string ⟨#[]⟩, .bool false, .bool false, .int .i64 0, .int .i64 0, .string ⟨#[]⟩] _
 have HBY : Hid (Bytes (w.alloc (.cells #[.int .i64 0, .int .i64 0, .int .i64 0, .int .i64 0, .string ⟨#[]⟩, .string ⟨#[]⟩, .bool false, .bool false, .int .i64 0, .int .i64 0, .string ⟨#[]⟩] 28)) a len (w.alloc (.cells #[.int .i64 0, .int .i64 0, .int .i64 0, .int .i64 0, .string ⟨#[]⟩, .string ⟨#[]⟩, .bool false, .bool false, .int .i64 0, .int .i64 0, .string ⟨#[]⟩] 28)).heap.size) := (hb.mono (by simp)).kept (World.grownBy_alloc _ _ none) (by simp)
 have HS : Hid _ := source_any a len cap (w.alloc (.cells #[.int .i64 0, .int .i64 0, .int .i64 0, .int .i64 0, .string ⟨#[]⟩, .string ⟨#[]⟩, .bool false, .bool false, .int .i64 0, .int .i64 0, .string ⟨#[]⟩] 28)) hl HBY.out
 clear hb HBY
 go_enter Try.func8, Try.ntmps8
 go_wp2_with fail
 refine Calls.mono HS.out ?_
 rintro e w1 ⟨rfl, b1, size, s0, s1, hs1⟩
 have HB1 : Hid (Below w.heap.size w w1) := ((Below.refl _ _).alloc (Nat.le_refl _) _).trans (b1.mono (by simp))
 have O1 : Hid _ := O0.out.kept (by simp) b1
 have HB : Hid ((w.alloc (.cells #[.int .i64 0, .int .i64 0, .int .i64 0, .int .i64 0, .string ⟨#[]⟩, .string ⟨#[]⟩, .bool false, .bool false, .int .i64 0, .int .i64 0, .string ⟨#[]⟩] 28)).heap.size = w.heap.size + 1) := by unfold Hid; simp
 rw [HB.out] at hs1 ⊢
 have D1 : Hid (Dr w1 (w.heap.size + 1) a len cap size w1) := Dr.start hs1
 have hw1 : w.heap.size < w1.heap.size := by have := (Dr.start hs1).hB; omega
 obtain ⟨B, hBd', hBd⟩ : ∃ B, B = w.heap.size + 1 ∧ w.heap.size < B := ⟨_, rfl, by omega⟩
 rw [← hBd'] at D1 ⊢
 clear b1 hs1 HS s0 s1 O0 HB hBd'
 go_wp2_with fail
 refine (drawV6_any B a len cap size _ hl D1.out.src).mono ?_
 rintro e w2 ⟨⟨p, rfl, hk⟩, hs, hg⟩
 have K2 : Hid (Bd6 p) := hk
 obtain ⟨cls, flow, next, hops, src, dst, piece, more, off, id, data⟩ := p
 unfold p6C
 dsimp only at *
 have D2 : Hid (Dr w1 B a len cap size (w2.alloc (.cells #[.int .i64 cls, .int .i64 flow, .int .i64 next, .int .i64 hops, .string src, .string dst, .bool piece, .bool more, .int .i64 off, .int .i64 id, .string data] 28))) := (D1.out.draw hs hg).alloc _
 have O2 : Hid (HoldsL (w2.alloc (.cells #[.int .i64 cls, .int .i64 flow, .int .i64 next, .int .i64 hops, .string src, .string dst, .bool piece, .bool more, .int .i64 off, .int .i64 id, .string data] 28)) w.heap.size [.int .i64 0, .int .i64 0, .int .i64 0, .int .i64 0, .string ⟨#[]⟩, .string ⟨#[]⟩, .bool false, .bool false, .int .i64 0, .int .i64 0, .string ⟨#[]⟩]) := (O1.out.grown (by simp) hg (by simp; omega)).alloc _
 have L2 : Hid (HoldsL (w2.alloc (.cells #[.int .i64 cls, .int .i64 flow, .int .i64 next, .int .i64 hops, .string src, .string dst, .bool piece, .bool more, .int .i64 off, .int .i64 id, .string data] 28)) w2.heap.size [.int .i64 cls, .int .i64 flow, .int .i64 next, .int .i64 hops, .string src, .string dst, .bool piece, .bool more, .int .i64 off, .int .i64 id, .string data]) := HoldsL.new w2 [.int .i64 cls, .int .i64 flow, .int .i64 next, .int .i64 hops, .string src, .string dst, .bool piece, .bool more, .int .i64 off, .int .i64 id, .string data] _
 have hX1 : w1.heap.size ≤ w2.heap.size := (D1.out.draw hs hg).le
 have hBw1 : B < w1.heap.size := D1.out.hB
 clear hs hg hk D1 O1
 go_wp2_with fail
 refine (drawOne_any 20 B a len cap size _ (by omega) hl D2.out.src).mono ?_
 rintro e w3 ⟨c, rfl, hs, hg⟩
 have D3 : Hid (Dr w1 B a len cap size w3) := D2.out.draw hs hg
 have O3 : Hid (HoldsL w3 w.heap.size [.int .i64 0, .int .i64 0, .int .i64 0, .int .i64 0, .string ⟨#[]⟩, .string ⟨#[]⟩, .bool false, .bool false, .int .i64 0, .int .i64 0, .string ⟨#[]⟩]) := O2.out.grown (by simp) hg (by simp; omega)
 have L3 : Hid (HoldsL w3 w2.heap.size [.int .i64 cls, .int .i64 flow, .int .i64 next, .int .i64 hops, .string src, .string dst, .bool piece, .bool more, .int .i64 off, .int .i64 id, .string data]) := L2.out.grown (by simp) hg (by simp; omega)
 clear hs hg D2 O2 L2
 go_wp2_with fail
 refine (drawAddr_any (c) B a len cap size _ hl D3.out.src).mono ?_
 rintro e w4 ⟨s, rfl, hsz, hs, hg⟩
 have D4 : Hid (Dr w1 B a len cap size w4) := D3.out.draw hs hg
 have O4 : Hid (HoldsL w4 w.heap.size [.int .i64 0, .int .i64 0, .int .i64 0, .int .i64 0, .string ⟨#[]⟩, .string ⟨#[]⟩, .bool false, .bool false, .int .i64 0, .int .i64 0, .string ⟨#[]⟩]) := O3.out.grown (by simp) hg (by simp; omega)
 have L4 : Hid (HoldsL w4 w2.heap.size [.int .i64 cls, .int .i64 flow, .int .i64 next, .int .i64 hops, .string src, .string dst, .bool piece, .bool more, .int .i64 off, .int .i64 id, .string data]) := L3.out.grown (by simp) hg (by simp; omega)
 obtain ⟨X, hXd, hX2⟩ : ∃ X, X = w2.heap.size ∧ w1.heap.size ≤ X := ⟨_, rfl, hX1⟩
 rw [← hXd] at L4 ⊢
 have HSZ : Hid (s.size ≤ 16) := by unfold Hid; rw [hsz]; split <;> omega
 clear hs hg D3 O3 L3 hXd hX1 hsz
 go_upto_region 4 with fail
 go_cut [3, 4] (fun pv sv wx => pv = .string s ∧ ∃ r : ByteArray, sv = .string r ∧ r.size ≤ 16 ∧ HoldsL wx w.heap.size [.int .i64 cls, .int .i64 flow, .int .i64 next, .int .i64 hops, .string src, .string dst, .bool piece, .bool more, .int .i64 off, .int .i64 id, .string data] ∧ Below w.heap.size w wx)
 case first =>
  have k0 := L4.out.cell (j := 0) rfl
  have k1 := L4.out.cell (j := 1) rfl
  have k2 := L4.out.cell (j := 2) rfl
  have k3 := L4.out.cell (j := 3) rfl
  have k4 := L4.out.cell (j := 4) rfl
  have k5 := L4.out.cell (j := 5) rfl
  have k6 := L4.out.cell (j := 6) rfl
  have k7 := L4.out.cell (j := 7) rfl
  have k8 := L4.out.cell (j := 8) rfl
  have k9 := L4.out.cell (j := 9) rfl
  have k10 := L4.out.cell (j := 10) rfl
  have z0 := O4.out.cell (j := 0) rfl
  have z1 := O4.out.cell (j := 1) rfl
  have z2 := O4.out.cell (j := 2) rfl
  have z3 := O4.out.cell (j := 3) rfl
  have z4 := O4.out.cell (j := 4) rfl
  have z5 := O4.out.cell (j := 5) rfl
  have z6 := O4.out.cell (j := 6) rfl
  have z7 := O4.out.cell (j := 7) rfl
  have z8 := O4.out.cell (j := 8) rfl
  have z9 := O4.out.cell (j := 9) rfl
  have z10 := O4.out.cell (j := 10) rfl
  have zf0 := O4.out.free (j := 0) (by simp)
  have zf1 := O4.out.free (j := 1) (by simp)
  have zf2 := O4.out.free (j := 2) (by simp)
  have zf3 := O4.out.free (j := 3) (by simp)
  have zf4 := O4.out.free (j := 4) (by simp)
  have zf5 := O4.out.free (j := 5) (by simp)
  have zf6 := O4.out.free (j := 6) (by simp)
  have zf7 := O4.out.free (j := 7) (by simp)
  have zf8 := O4.out.free (j := 8) (by simp)
  have zf9 := O4.out.free (j := 9) (by simp)
  have zf10 := O4.out.free (j := 10) (by simp)
  go_region_with (go_at_call 12; refine (drawAddr_any false B a len cap size _ hl (D4.out.src.kept (grown_drew (World.grownBy.refl w4 none)) (by simp))).mono ?_; rintro e w5 ⟨r, rfl, r0, hs1, hg1⟩; have D5 : Hid (Dr w1 B a len cap size w5) := D4.out.draw hs1 (grown_trans (grown_drew (World.grownBy.refl w4 _)) hg1); have L5 : Hid (HoldsL w5 X [.int .i64 cls, .int .i64 flow, .int .i64 next, .int .i64 hops, .string src, .string dst, .bool piece, .bool more, .int .i64 off, .int .i64 id, .string data]) := L4.out.drew.grown (by simp) hg1 (by simp; omega); have O5 : Hid (HoldsL w5 w.heap.size [.int .i64 0, .int .i64 0, .int .i64 0, .int .i64 0, .string ⟨#[]⟩, .string ⟨#[]⟩, .bool false, .bool false, .int .i64 0, .int .i64 0, .string ⟨#[]⟩]) := O4.out.drew.grown (by simp) hg1 (by simp; omega); have q0 : w5.cell? ⟨X, 0, none⟩ = some (.int .i64 cls) := L5.out.cell rfl; have q1 : w5.cell? ⟨X, 1, none⟩ = some (.int .i64 flow) := L5.out.cell rfl; have q2 : w5.cell? ⟨X, 2, none⟩ = some (.int .i64 next) := L5.out.cell rfl; have q3 : w5.cell? ⟨X, 3, none⟩ = some (.int .i64 hops) := L5.out.cell rfl; have q4 : w5.cell? ⟨X, 4, none⟩ = some (.string src) := L5.out.cell rfl; have q5 : w5.cell? ⟨X, 5, none⟩ = some (.string dst) := L5.out.cell rfl; have q6 : w5.cell? ⟨X, 6, none⟩ = some (.bool piece) := L5.out.cell rfl; have q7 : w5.cell? ⟨X, 7, none⟩ = some (.bool more) := L5.out.cell rfl; have q8 : w5.cell? ⟨X, 8, none⟩ = some (.int .i64 off) := L5.out.cell rfl; have q9 : w5.cell? ⟨X, 9, none⟩ = some (.int .i64 id) := L5.out.cell rfl; have q10 : w5.cell? ⟨X, 10, none⟩ = some (.string data) := L5.out.cell rfl; have y0 : w5.cell? ⟨w.heap.size, 0, none⟩ = some (.int .i64 0) := O5.out.cell rfl; have y1 : w5.cell? ⟨w.heap.size, 1, none⟩ = some (.int .i64 0) := O5.out.cell rfl; have y2 : w5.cell? ⟨w.heap.size, 2, none⟩ = some (.int .i64 0) := O5.out.cell rfl; have y3 : w5.cell? ⟨w.heap.size, 3, none⟩ = some (.int .i64 0) := O5.out.cell rfl; have y4 : w5.cell? ⟨w.heap.size, 4, none⟩ = some (.string ⟨#[]⟩) := O5.out.cell rfl; have y5 : w5.cell? ⟨w.heap.size, 5, none⟩ = some (.string ⟨#[]⟩) := O5.out.cell rfl; have y6 : w5.cell? ⟨w.heap.size, 6, none⟩ = some (.bool false) := O5.out.cell rfl; have y7 : w5.cell? ⟨w.heap.size, 7, none⟩ = some (.bool false) := O5.out.cell rfl; have y8 : w5.cell? ⟨w.heap.size, 8, none⟩ = some (.int .i64 0) := O5.out.cell rfl; have y9 : w5.cell? ⟨w.heap.size, 9, none⟩ = some (.int .i64 0) := O5.out.cell rfl; have y10 : w5.cell? ⟨w.heap.size, 10, none⟩ = some (.string ⟨#[]⟩) := O5.out.cell rfl; have yf0 := O5.out.free (j := 0) (by simp); have yf1 := O5.out.free (j := 1) (by simp); have yf2 := O5.out.free (j := 2) (by simp); have yf3 := O5.out.free (j := 3) (by simp); have yf4 := O5.out.free (j := 4) (by simp); have yf5 := O5.out.free (j := 5) (by simp); have yf6 := O5.out.free (j := 6) (by simp); have yf7 := O5.out.free (j := 7) (by simp); have yf8 := O5.out.free (j := 8) (by simp); have yf9 := O5.out.free (j := 9) (by simp); have yf10 := O5.out.free (j := 10) (by simp); have HR : Hid (r.size ≤ 16) := (by unfold Hid; rw [r0]; decide); clear hs1 hg1 r0)
  all_goals go_wp2_with fail
  all_goals go_meet
  all_goals exact ⟨rfl, r, rfl, HR.out, (((((((((((O5.out.set 0 _).set 1 _).set 2 _).set 3 _).set 4 _).set 5 _).set 6 _).set 7 _).set 8 _).set 9 _).set 10 _), ((((((((((((bel_grownX HB1.out D5.out.grown (Nat.le_of_lt hBd) HB1.out.size).setCell (p := ⟨w.heap.size, 0, none⟩) (Nat.le_refl _) _).setCell (p := ⟨w.heap.size, 1, none⟩) (Nat.le_refl _) _).setCell (p := ⟨w.heap.size, 2, none⟩) (Nat.le_refl _) _).setCell (p := ⟨w.heap.size, 3, none⟩) (Nat.le_refl _) _).setCell (p := ⟨w.heap.size, 4, none⟩) (Nat.le_refl _) _).setCell (p := ⟨w.heap.size, 5, none⟩) (Nat.le_refl _) _).setCell (p := ⟨w.heap.size, 6, none⟩) (Nat.le_refl _) _).setCell (p := ⟨w.heap.size, 7, none⟩) (Nat.le_refl _) _).setCell (p := ⟨w.heap.size, 8, none⟩) (Nat.le_refl _) _).setCell (p := ⟨w.heap.size, 9, none⟩) (Nat.le_refl _) _).setCell (p := ⟨w.heap.size, 10, none⟩) (Nat.le_refl _) _)⟩
 case rest =>
 obtain ⟨rfl, r, rfl, hr, hO, hb⟩ := hcut
 have HBB : Hid _ := hb
 have HRR : Hid _ := hr
 have z0 := hO.cell (j := 0) rfl
 have z1 := hO.cell (j := 1) rfl
 have z2 := hO.cell (j := 2) rfl
 have z3 := hO.cell (j := 3) rfl
 have z4 := hO.cell (j := 4) rfl
 have z5 := hO.cell (j := 5) rfl
 have z6 := hO.cell (j := 6) rfl
 have z7 := hO.cell (j := 7) rfl
 have z8 := hO.cell (j := 8) rfl
 have z9 := hO.cell (j := 9) rfl
 have z10 := hO.cell (j := 10) rfl
 clear hO hb
 go_wp2_with fail
 exact bodyPost_ret (v := .tuple #[.agg #[.int .i64 cls, .int .i64 flow, .int .i64 next, .int .i64 hops, .string src, .string dst, .bool piece, .bool more, .int .i64 off, .int .i64 id, .string data], .string s, .string r]) (by simp [results, Try.results8, go_sem, z0, z1, z2, z3, z4, z5, z6, z7, z8, z9, z10]) rfl ⟨⟨cls, flow, next, hops, src, dst, piece, more, off, id, data⟩, s, r, rfl, K2.out, HSZ.out, HRR.out, HBB.out⟩
end Go.Proofs.Ytofenlclefkgdaa
