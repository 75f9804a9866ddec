/- DrawBt: what spec.DrawBucketTake draws. Printed by mkdbt.py. -/
import Derived.Test.YtagbhaalmjpkjaaDrawBk
import Derived.Test.YtagbhaalmjpkjaaDrawPrefix
import Derived.Deep.RegionHeld
namespace Go.Proofs.Ytagbhaalmjpkjaa
open Go.RowKit Go.PlainAid
set_option linter.unusedVariables false
set_option linter.unusedSimpArgs false
theorem bel_grownK {n : Nat} {w w1 W : World} {B : Nat} (h : Below n w w1) (hg : w1.grownBy W (some B)) (hB : n ≤ B) (hn : n ≤ w1.heap.size) : Below n w W :=
  ⟨hg.os.trans h.os, hg.tape.trans h.tape, hg.output.trans h.output, Nat.le_trans h.size hg.size, fun k hk => by rw [hg.block k (by omega) (by simp; omega), h.block k hk]⟩
/-- A bucket's box beside a source, the answer's box ahead of it. -/
structure BT (w1 : World) (B : Nat) (sa : Option Addr) (len cap : Nat) (size : Int) (R P : Nat) (b : Bk) (wx : World) : Prop where
  dr : Dr w1 B sa len cap size wx
  r : HoldsL wx R [.int .i64 0, .int .i64 0, .int .i64 0, .int .i64 0]
  p : HoldsL wx P [.int .i64 b.left, .int .i64 b.most, .int .i64 b.each, .int .i64 b.since]
  hP : R < B ∧ w1.heap.size ≤ P
theorem BT.draw {w1 wx : World} {B : Nat} {sa : Option Addr} {len cap : Nat} {size : Int} {R P : Nat} {b : Bk} {wy : World} (h : BT w1 B sa len cap size R P b wx) (hs : Src wy B sa len cap size) (hg : wx.grownBy wy (some B)) : BT w1 B sa len cap size R P b wy := by
  have hB := h.dr.hB
  obtain ⟨h1, h2⟩ := h.hP
  exact ⟨h.dr.draw hs hg, h.r.grown (by simp) hg (by simp; omega), h.p.grown (by simp) hg (by simp; omega), h1, h2⟩
theorem BT.below {w1 wx : World} {B : Nat} {sa : Option Addr} {len cap : Nat} {size : Int} {R P : Nat} {b : Bk} {wy : World} (h : BT w1 B sa len cap size R P b wx) (hb : Below wx.heap.size wx wy) : BT w1 B sa len cap size R P b wy :=
  ⟨h.dr.below hb, h.r.kept (by simp) hb, h.p.kept (by simp) hb, h.hP⟩
set_option maxRecDepth 100000 in
set_option maxHeartbeats 4000000 in
theorem drawBucketTake_any (sa : Option Addr) (len cap : Nat) (w : World) (hl : len ≤ 1048576) (hb : Bytes w sa len w.heap.size) :
    Calls Try.prog 5 #[.slice sa len cap] w fun e w' => ∃ b now, e = .returned (.tuple #[bkC b, .int .i64 now]) ∧ BkDr b ∧ In64 now ∧ Below w.heap.size w w' := by
  have O0 : Hid (HoldsL (w.alloc (.cells #[.int .i64 0, .int .i64 0, .int .i64 0, .int .i64 0] 24)) w.heap.size [.int .i64 0, .int .i64 0, .int .i64 0, .int .i64 0]) := HoldsL.new w [.int .i64 0, .int .i64 0, .int .i64 0, .int .i64 0] 24
  have HZ : Hid ((w.alloc (.cells #[.int .i64 0, .int .i64 0, .int .i64 0, .int .i64 0] 24)).heap.size = w.heap.size + 1) := by unfold Hid; simp
  have HB0 : Hid (Below w.heap.size w (w.alloc (.cells #[.int .i64 0, .int .i64 0, .int .i64 0, .int .i64 0] 24))) := (Below.refl _ _).alloc (Nat.le_refl _) _
  have HBY : Hid (Bytes (w.alloc (.cells #[.int .i64 0, .int .i64 0, .int .i64 0, .int .i64 0] 24)) sa len (w.alloc (.cells #[.int .i64 0, .int .i64 0, .int .i64 0, .int .i64 0] 24)).heap.size) := (hb.mono (by simp; try omega)).kept (World.grownBy_alloc _ _ none) (by simp)
  clear hb
  go_enter Try.func5, Try.ntmps5
  go_upto_region 1 with fail
  generalize w.alloc (.cells #[.int .i64 0, .int .i64 0, .int .i64 0, .int .i64 0] 24) = W0 at *
  go_wp2_with fail
  refine (source_any sa len cap W0 hl HBY.out).mono ?_
  rintro e w1 ⟨rfl, b1, size, s0, s1, hs1⟩
  obtain ⟨B, hBd⟩ : ∃ B, B = W0.heap.size := ⟨_, rfl⟩
  rw [← hBd] at hs1 ⊢
  have hB2 : w.heap.size + 1 ≤ B := by rw [hBd, HZ.out]; exact Nat.le_refl _
  have HS1 : Hid (Src w1 B sa len cap size) := hs1
  have hB1 : B < w1.heap.size := (Dr.start hs1).hB
  have HB1 : Hid (Below w.heap.size w w1) := HB0.out.trans (b1.mono HB0.out.size)
  have Q0 : Hid (HoldsL w1 w.heap.size [.int .i64 0, .int .i64 0, .int .i64 0, .int .i64 0]) := O0.out.kept (by simp) b1
  clear hs1 b1 s0 s1 O0 HBY HB0 hBd HZ
  go_wp2_with fail
  refine (drawBucket_any B sa len cap size w1 hl HS1.out).mono ?_
  rintro e w2 ⟨b, rfl, hbd, hs, hg⟩
  have HBD : Hid (BkDr b) := hbd
  have h12 : w1.heap.size ≤ w2.heap.size := hg.size
  have S3 : Hid (BT w1 B sa len cap size w.heap.size w2.heap.size b (w2.alloc (.cells #[.int .i64 b.left, .int .i64 b.most, .int .i64 b.each, .int .i64 b.since] 24))) := ⟨((Dr.start HS1.out).draw hs hg).alloc _, (Q0.out.grown (by simp) hg (by simp; omega)).alloc _, HoldsL.new w2 [.int .i64 b.left, .int .i64 b.most, .int .i64 b.each, .int .i64 b.since] 24, by omega, h12⟩
  clear hbd hs hg Q0 HS1
  unfold bkC
  go_upto_region 3 with fail
  generalize w2.alloc (.cells #[.int .i64 b.left, .int .i64 b.most, .int .i64 b.each, .int .i64 b.since] 24) = W3 at *
  have g1 : w.heap.size ≠ w2.heap.size := by omega
  go_wp2_with fail
  refine (drawOne_any 12 B sa len cap size _ (by omega) hl S3.out.dr.src).mono ?_
  rintro e w4 ⟨c4, rfl, hs, hg⟩
  have S4 : Hid (BT w1 B sa len cap size w.heap.size w2.heap.size b w4) := S3.out.draw hs hg
  clear hs hg S3
  cases c4 with
  | true =>
    go_upto_region 4 with fail
    have p0 : w4.cell? ⟨w2.heap.size, 0, none⟩ = some (.int .i64 b.left) := S4.out.p.cell rfl
    have p1 : w4.cell? ⟨w2.heap.size, 1, none⟩ = some (.int .i64 b.most) := S4.out.p.cell rfl
    have p2 : w4.cell? ⟨w2.heap.size, 2, none⟩ = some (.int .i64 b.each) := S4.out.p.cell rfl
    have p3 : w4.cell? ⟨w2.heap.size, 3, none⟩ = some (.int .i64 b.since) := S4.out.p.cell rfl
    have z0 : w4.cell? ⟨w.heap.size, 0, none⟩ = some (.int .i64 0) := S4.out.r.cell rfl
    have z1 : w4.cell? ⟨w.heap.size, 1, none⟩ = some (.int .i64 0) := S4.out.r.cell rfl
    have z2 : w4.cell? ⟨w.heap.size, 2, none⟩ = some (.int .i64 0) := S4.out.r.cell rfl
    have z3 : w4.cell? ⟨w.heap.size, 3, none⟩ = some (.int .i64 0) := S4.out.r.cell rfl
    have zf0 := S4.out.r.free (j := 0) (by simp)
    have zf1 := S4.out.r.free (j := 1) (by simp)
    have zf2 := S4.out.r.free (j := 2) (by simp)
    have zf3 := S4.out.r.free (j := 3) (by simp)
    go_cut [3] (fun v wx => ∃ m, v = .int .i64 m ∧ In64 m ∧ Below w.heap.size w wx ∧ HoldsL wx w.heap.size [.int .i64 b.left, .int .i64 b.most, .int .i64 b.each, .int .i64 b.since])
    case first =>
      go_region_held (fun wy => wy.cell? ⟨w2.heap.size, 0, none⟩ = some (.int .i64 b.left) ∧ wy.cell? ⟨w2.heap.size, 1, none⟩ = some (.int .i64 b.most) ∧ wy.cell? ⟨w2.heap.size, 2, none⟩ = some (.int .i64 b.each) ∧ wy.cell? ⟨w2.heap.size, 3, none⟩ = some (.int .i64 b.since)) (go_keep) (first | (go_at_call 24; refine (drawEdge_any B sa len cap size _ hl (S4.out.below (Below.refl _ _).drew).dr.src).mono ?_; rintro e w5 ⟨r5, rfl, hr5, hs, hg⟩; have S5 : Hid (BT w1 B sa len cap size w.heap.size w2.heap.size b w5) := (S4.out.below (Below.refl _ _).drew).draw hs hg; clear hs hg; have q0 : w5.cell? ⟨w2.heap.size, 0, none⟩ = some (.int .i64 b.left) := S5.out.p.cell rfl; have q1 : w5.cell? ⟨w2.heap.size, 1, none⟩ = some (.int .i64 b.most) := S5.out.p.cell rfl; have q2 : w5.cell? ⟨w2.heap.size, 2, none⟩ = some (.int .i64 b.each) := S5.out.p.cell rfl; have q3 : w5.cell? ⟨w2.heap.size, 3, none⟩ = some (.int .i64 b.since) := S5.out.p.cell rfl; have y0 : w5.cell? ⟨w.heap.size, 0, none⟩ = some (.int .i64 0) := S5.out.r.cell rfl; have y1 : w5.cell? ⟨w.heap.size, 1, none⟩ = some (.int .i64 0) := S5.out.r.cell rfl; have y2 : w5.cell? ⟨w.heap.size, 2, none⟩ = some (.int .i64 0) := S5.out.r.cell rfl; have y3 : w5.cell? ⟨w.heap.size, 3, none⟩ = some (.int .i64 0) := S5.out.r.cell rfl; have yf0 := S5.out.r.free (j := 0) (by simp); have yf1 := S5.out.r.free (j := 1) (by simp); have yf2 := S5.out.r.free (j := 2) (by simp); have yf3 := S5.out.r.free (j := 3) (by simp); clear p0 z0 zf0 p1 z1 zf1 p2 z2 zf2 p3 z3 zf3))
      all_goals go_wp2_with fail
      all_goals go_meet
      all_goals exact ⟨r5, by first | rfl | (congr 1; simp only [IntKind.wrap_i64]; omega), hr5, (((((bel_grownK HB1.out S5.out.dr.grown (by omega) HB1.out.size).setCell (p := ⟨w.heap.size, 0, none⟩) (Nat.le_refl _) _).setCell (p := ⟨w.heap.size, 1, none⟩) (Nat.le_refl _) _).setCell (p := ⟨w.heap.size, 2, none⟩) (Nat.le_refl _) _).setCell (p := ⟨w.heap.size, 3, none⟩) (Nat.le_refl _) _), ((((S5.out.r.set 0 (.int .i64 b.left)).set 1 (.int .i64 b.most)).set 2 (.int .i64 b.each)).set 3 (.int .i64 b.since))⟩
    case rest =>
    obtain ⟨m, rfl, m0, hB, hF⟩ := hcut
    have HBB : Hid _ := hB
    have HM : Hid _ := m0
    obtain ⟨z0, z1, z2, z3⟩ := hF.c4
    clear hB hF S4 m0
    go_wp2_with fail
    exact bodyPost_ret (v := .tuple #[.agg #[.int .i64 b.left, .int .i64 b.most, .int .i64 b.each, .int .i64 b.since], .int .i64 m]) (by simp [results, Try.results5, go_sem, z0, z1, z2, z3]) rfl ⟨b, m, rfl, HBD.out, HM.out, HBB.out⟩
  | false =>
    go_upto_region 5 with fail
    have p0 : w4.cell? ⟨w2.heap.size, 0, none⟩ = some (.int .i64 b.left) := S4.out.p.cell rfl
    have p1 : w4.cell? ⟨w2.heap.size, 1, none⟩ = some (.int .i64 b.most) := S4.out.p.cell rfl
    have p2 : w4.cell? ⟨w2.heap.size, 2, none⟩ = some (.int .i64 b.each) := S4.out.p.cell rfl
    have p3 : w4.cell? ⟨w2.heap.size, 3, none⟩ = some (.int .i64 b.since) := S4.out.p.cell rfl
    have z0 : w4.cell? ⟨w.heap.size, 0, none⟩ = some (.int .i64 0) := S4.out.r.cell rfl
    have z1 : w4.cell? ⟨w.heap.size, 1, none⟩ = some (.int .i64 0) := S4.out.r.cell rfl
    have z2 : w4.cell? ⟨w.heap.size, 2, none⟩ = some (.int .i64 0) := S4.out.r.cell rfl
    have z3 : w4.cell? ⟨w.heap.size, 3, none⟩ = some (.int .i64 0) := S4.out.r.cell rfl
    have zf0 := S4.out.r.free (j := 0) (by simp)
    have zf1 := S4.out.r.free (j := 1) (by simp)
    have zf2 := S4.out.r.free (j := 2) (by simp)
    have zf3 := S4.out.r.free (j := 3) (by simp)
    go_cut [3] (fun v wx => ∃ m, v = .int .i64 m ∧ In64 m ∧ Below w.heap.size w wx ∧ HoldsL wx w.heap.size [.int .i64 b.left, .int .i64 b.most, .int .i64 b.each, .int .i64 b.since])
    case first =>
      obtain ⟨m1, m2, m3, m4⟩ := HBD.out
      clear m1 m2 m3
      go_region_held (fun wy => wy.cell? ⟨w2.heap.size, 0, none⟩ = some (.int .i64 b.left) ∧ wy.cell? ⟨w2.heap.size, 1, none⟩ = some (.int .i64 b.most) ∧ wy.cell? ⟨w2.heap.size, 2, none⟩ = some (.int .i64 b.each) ∧ wy.cell? ⟨w2.heap.size, 3, none⟩ = some (.int .i64 b.since)) (go_keep) (first | (go_at_call 25; refine (drawN_more 30 B sa len cap size _ (by omega) (by omega) hl (S4.out.below (Below.refl _ _).drew).dr.src).mono ?_; rintro e w5 ⟨r5, rfl, lr5, ur5, hs, hg⟩; have S5 : Hid (BT w1 B sa len cap size w.heap.size w2.heap.size b w5) := (S4.out.below (Below.refl _ _).drew).draw hs hg; clear hs hg; have q0 : w5.cell? ⟨w2.heap.size, 0, none⟩ = some (.int .i64 b.left) := S5.out.p.cell rfl; have q1 : w5.cell? ⟨w2.heap.size, 1, none⟩ = some (.int .i64 b.most) := S5.out.p.cell rfl; have q2 : w5.cell? ⟨w2.heap.size, 2, none⟩ = some (.int .i64 b.each) := S5.out.p.cell rfl; have q3 : w5.cell? ⟨w2.heap.size, 3, none⟩ = some (.int .i64 b.since) := S5.out.p.cell rfl; have y0 : w5.cell? ⟨w.heap.size, 0, none⟩ = some (.int .i64 0) := S5.out.r.cell rfl; have y1 : w5.cell? ⟨w.heap.size, 1, none⟩ = some (.int .i64 0) := S5.out.r.cell rfl; have y2 : w5.cell? ⟨w.heap.size, 2, none⟩ = some (.int .i64 0) := S5.out.r.cell rfl; have y3 : w5.cell? ⟨w.heap.size, 3, none⟩ = some (.int .i64 0) := S5.out.r.cell rfl; have yf0 := S5.out.r.free (j := 0) (by simp); have yf1 := S5.out.r.free (j := 1) (by simp); have yf2 := S5.out.r.free (j := 2) (by simp); have yf3 := S5.out.r.free (j := 3) (by simp); clear p0 z0 zf0 p1 z1 zf1 p2 z2 zf2 p3 z3 zf3))
      all_goals go_wp2_with fail
      all_goals go_meet
      all_goals exact ⟨b.since + r5 - 3, by first | rfl | (congr 1; simp only [IntKind.wrap_i64]; omega), (by unfold In64; constructor <;> omega), (((((bel_grownK HB1.out S5.out.dr.grown (by omega) HB1.out.size).setCell (p := ⟨w.heap.size, 0, none⟩) (Nat.le_refl _) _).setCell (p := ⟨w.heap.size, 1, none⟩) (Nat.le_refl _) _).setCell (p := ⟨w.heap.size, 2, none⟩) (Nat.le_refl _) _).setCell (p := ⟨w.heap.size, 3, none⟩) (Nat.le_refl _) _), ((((S5.out.r.set 0 (.int .i64 b.left)).set 1 (.int .i64 b.most)).set 2 (.int .i64 b.each)).set 3 (.int .i64 b.since))⟩
    case rest =>
    obtain ⟨m, rfl, m0, hB, hF⟩ := hcut
    have HBB : Hid _ := hB
    have HM : Hid _ := m0
    obtain ⟨z0, z1, z2, z3⟩ := hF.c4
    clear hB hF S4 m0
    go_wp2_with fail
    exact bodyPost_ret (v := .tuple #[.agg #[.int .i64 b.left, .int .i64 b.most, .int .i64 b.each, .int .i64 b.since], .int .i64 m]) (by simp [results, Try.results5, go_sem, z0, z1, z2, z3]) rfl ⟨b, m, rfl, HBD.out, HM.out, HBB.out⟩
end Go.Proofs.Ytagbhaalmjpkjaa
