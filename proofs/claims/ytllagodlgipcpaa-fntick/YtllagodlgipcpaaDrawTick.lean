/- DrawTick: what spec.DrawBibTick draws. Printed by mkdtick.py. -/
import Derived.Test.YtllagodlgipcpaaMerged21
import Derived.Test.YtllagodlgipcpaaDrawBib
namespace Go.Proofs.Ytllagodlgipcpaa
open Go.RowKit Go.PlainAid
set_option linter.unusedVariables false
set_option linter.unusedSimpArgs false
theorem bel_grownT {n : Nat} {w w1 W : World} {B : Nat} (h : Below n w w1) (hg : w1.grownBy W (some B)) (hB : n ≤ B) (hn : n ≤ w1.heap.size) : Below n w W :=
 ⟨hg.os.trans h.os, hg.tape.trans h.tape, hg.output.trans h.output, Nat.le_trans h.size hg.size, fun k hk => by rw [hg.block k (by omega) (by simp; omega), h.block k hk]⟩
set_option maxRecDepth 100000 in
set_option maxHeartbeats 8000000 in
theorem drawBibTick_any (sa : Option Addr) (len cap : Nat) (w : World) (hl : len ≤ 1048576) (hb : Bytes w sa len w.heap.size) :
  Calls Try.prog 11 #[.slice sa len cap] w fun e w' => ∃ pa pc p ba bo ca cb x now, e = .returned (.tuple #[plC pa pc p, bbC ba bo ca cb x, .int .i64 now]) ∧ PlDr p ∧ p.addrs.length ≤ pc ∧ BbDr x ∧ 0 ≤ now ∧ now ≤ 200 ∧ SlIs strL1 1 w' pa p.addrs ∧ BbIs w' ba bo x ∧ Below w.heap.size w w' := by
 have O0 : Hid (HoldsL ((w.alloc (.cells #[.slice none 0 0, .int .i64 0, .int .i64 0, .int .i64 0, .int .i64 0, .int .i64 0, .int .i64 0, .int .i64 0, .int .i64 0, .int .i64 0] 27)).alloc (.cells #[.slice none 0 0, .slice none 0 0] 31)) w.heap.size plZ0) := (HoldsL.new w plZ0 27).alloc _
 have O1 : Hid (HoldsL ((w.alloc (.cells #[.slice none 0 0, .int .i64 0, .int .i64 0, .int .i64 0, .int .i64 0, .int .i64 0, .int .i64 0, .int .i64 0, .int .i64 0, .int .i64 0] 27)).alloc (.cells #[.slice none 0 0, .slice none 0 0] 31)) (w.heap.size + 1) [.slice none 0 0, .slice none 0 0]) := by
  have h := HoldsL.new (w.alloc (.cells #[.slice none 0 0, .int .i64 0, .int .i64 0, .int .i64 0, .int .i64 0, .int .i64 0, .int .i64 0, .int .i64 0, .int .i64 0, .int .i64 0] 27)) [.slice none 0 0, .slice none 0 0] 31
  rw [World.size_alloc] at h; exact h
 have HZ : Hid (((w.alloc (.cells #[.slice none 0 0, .int .i64 0, .int .i64 0, .int .i64 0, .int .i64 0, .int .i64 0, .int .i64 0, .int .i64 0, .int .i64 0, .int .i64 0] 27)).alloc (.cells #[.slice none 0 0, .slice none 0 0] 31)).heap.size = w.heap.size + 2) := by unfold Hid; simp
 have HB0 : Hid (Below w.heap.size w ((w.alloc (.cells #[.slice none 0 0, .int .i64 0, .int .i64 0, .int .i64 0, .int .i64 0, .int .i64 0, .int .i64 0, .int .i64 0, .int .i64 0, .int .i64 0] 27)).alloc (.cells #[.slice none 0 0, .slice none 0 0] 31))) := ((Below.refl _ _).alloc (Nat.le_refl _) _).alloc (by simp) _
 have HBY : Hid (Bytes ((w.alloc (.cells #[.slice none 0 0, .int .i64 0, .int .i64 0, .int .i64 0, .int .i64 0, .int .i64 0, .int .i64 0, .int .i64 0, .int .i64 0, .int .i64 0] 27)).alloc (.cells #[.slice none 0 0, .slice none 0 0] 31)) sa len ((w.alloc (.cells #[.slice none 0 0, .int .i64 0, .int .i64 0, .int .i64 0, .int .i64 0, .int .i64 0, .int .i64 0, .int .i64 0, .int .i64 0, .int .i64 0] 27)).alloc (.cells #[.slice none 0 0, .slice none 0 0] 31)).heap.size) := ((hb.mono (by simp; try omega)).kept (World.grownBy_alloc _ _ none) (by simp)).kept (World.grownBy_alloc _ _ none) (by simp)
 clear hb
 go_enter Try.func11, Try.ntmps11
 go_upto_region 1 with fail
 generalize ((w.alloc (.cells #[.slice none 0 0, .int .i64 0, .int .i64 0, .int .i64 0, .int .i64 0, .int .i64 0, .int .i64 0, .int .i64 0, .int .i64 0, .int .i64 0] 27)).alloc (.cells #[.slice none 0 0, .slice none 0 0] 31)) = W0 at *
 go_wp2_with fail
 refine (source_any sa len cap W0 hl HBY.out).mono ?_
 rintro e w1 ⟨rfl, b1, size, s0, s1, hs1⟩
 obtain ⟨B, hBd⟩ : ∃ B, B = W0.heap.size := ⟨_, rfl⟩
 rw [← hBd] at hs1 ⊢
 have hB2 : w.heap.size + 2 ≤ B := by rw [hBd, HZ.out]; exact Nat.le_refl _
 have HS1 : Hid (Src w1 B sa len cap size) := hs1
 have hB1 : B < w1.heap.size := (Dr.start hs1).hB
 have HB1 : Hid (Below w.heap.size w w1) := HB0.out.trans (b1.mono HB0.out.size)
 have Q0 : Hid _ := O0.out.kept (by simp [plZ0]) b1
 have Q1 : Hid _ := O1.out.kept (by simp) b1
 clear hs1 b1 s0 s1 O0 O1 HBY HB0 hBd HZ
 go_wp2_with fail
 refine (drawBib_any B sa len cap size w1 hl HS1.out).mono ?_
 rintro e w2 ⟨pa, pc, p, ba, bo, ca, cb, x, now, rfl, hpd, hpc, hbd, hn0, hn1, hpl, hbb, fp, fa, fb, hs, hg⟩
 have HPD : Hid (PlDr p) := hpd
 have HBD : Hid (BbDr x) := hbd
 have h12 : w1.heap.size ≤ w2.heap.size := hg.size
 have S3 : Hid (TS w1 B sa len cap size w.heap.size (w.heap.size + 1) w2.heap.size (w2.heap.size + 1) pa pc p ba bo ca cb x ((w2.alloc (.cells #[.slice pa p.addrs.length pc, .int .i64 p.low, .int .i64 p.high, .int .i64 p.most, .int .i64 p.filter, .int .i64 p.lv.udp, .int .i64 p.lv.echo, .int .i64 p.lv.opening, .int .i64 p.lv.opn, .int .i64 p.lv.closing] 27)).alloc (.cells #[.slice ba x.binds.length ca, .slice bo x.sess.length cb] 31))) := by
  have h1 := Q0.out.grown (by simp [plZ0]) hg (by simp; omega)
  have h2 := Q1.out.grown (by simp) hg (by simp; omega)
  have bx := HoldsL.new (w2.alloc (.cells #[.slice pa p.addrs.length pc, .int .i64 p.low, .int .i64 p.high, .int .i64 p.most, .int .i64 p.filter, .int .i64 p.lv.udp, .int .i64 p.lv.echo, .int .i64 p.lv.opening, .int .i64 p.lv.opn, .int .i64 p.lv.closing] 27)) [.slice ba x.binds.length ca, .slice bo x.sess.length cb] 31
  rw [World.size_alloc] at bx
  have hbl : Below w2.heap.size w2 ((w2.alloc (.cells #[.slice pa p.addrs.length pc, .int .i64 p.low, .int .i64 p.high, .int .i64 p.most, .int .i64 p.filter, .int .i64 p.lv.udp, .int .i64 p.lv.echo, .int .i64 p.lv.opening, .int .i64 p.lv.opn, .int .i64 p.lv.closing] 27)).alloc (.cells #[.slice ba x.binds.length ca, .slice bo x.sess.length cb] 31)) := ((Below.refl _ _).alloc (Nat.le_refl _) _).alloc (by simp) _
  exact ⟨(((Dr.start HS1.out).draw hs hg).alloc _).alloc _, (h1.alloc _).alloc _, (h2.alloc _).alloc _, (HoldsL.new w2 (plL pa pc p) 27).alloc _, bx, hpl.below hbl, hbb.below hbl, fp, fa, fb, by omega, by omega, h12, by omega⟩
 clear hpd hbd hpl hbb fp fa fb hs hg Q0 Q1 HS1
 unfold plC bbC
 go_upto_region 3 with fail
 generalize ((w2.alloc (.cells #[.slice pa p.addrs.length pc, .int .i64 p.low, .int .i64 p.high, .int .i64 p.most, .int .i64 p.filter, .int .i64 p.lv.udp, .int .i64 p.lv.echo, .int .i64 p.lv.opening, .int .i64 p.lv.opn, .int .i64 p.lv.closing] 27)).alloc (.cells #[.slice ba x.binds.length ca, .slice bo x.sess.length cb] 31)) = W3 at *
 have g1 : w.heap.size ≠ w2.heap.size := by omega
 have g2 : w.heap.size ≠ w2.heap.size + 1 := by omega
 have g3 : w.heap.size + 1 ≠ w2.heap.size := by omega
 go_cut [4] (fun v wx => ∃ m, v = .int .i64 m ∧ 0 ≤ m ∧ m ≤ 200 ∧ Below w.heap.size w wx ∧ TF w.heap.size (w.heap.size + 1) pa pc p ba bo ca cb x wx)
 case first =>
  have p0 := S3.out.bp.cell (j := 0) rfl
  have p1 := S3.out.bp.cell (j := 1) rfl
  have p2 := S3.out.bp.cell (j := 2) rfl
  have p3 := S3.out.bp.cell (j := 3) rfl
  have p4 := S3.out.bp.cell (j := 4) rfl
  have p5 := S3.out.bp.cell (j := 5) rfl
  have p6 := S3.out.bp.cell (j := 6) rfl
  have p7 := S3.out.bp.cell (j := 7) rfl
  have p8 := S3.out.bp.cell (j := 8) rfl
  have p9 := S3.out.bp.cell (j := 9) rfl
  have b0 := S3.out.bx.cell (j := 0) rfl
  have b1 := S3.out.bx.cell (j := 1) rfl
  have z0 := S3.out.r0.cell (j := 0) rfl
  have z1 := S3.out.r0.cell (j := 1) rfl
  have z2 := S3.out.r0.cell (j := 2) rfl
  have z3 := S3.out.r0.cell (j := 3) rfl
  have z4 := S3.out.r0.cell (j := 4) rfl
  have z5 := S3.out.r0.cell (j := 5) rfl
  have z6 := S3.out.r0.cell (j := 6) rfl
  have z7 := S3.out.r0.cell (j := 7) rfl
  have z8 := S3.out.r0.cell (j := 8) rfl
  have z9 := S3.out.r0.cell (j := 9) rfl
  have zf0 := S3.out.r0.free (j := 0) (by simp [plZ0])
  have zf1 := S3.out.r0.free (j := 1) (by simp [plZ0])
  have zf2 := S3.out.r0.free (j := 2) (by simp [plZ0])
  have zf3 := S3.out.r0.free (j := 3) (by simp [plZ0])
  have zf4 := S3.out.r0.free (j := 4) (by simp [plZ0])
  have zf5 := S3.out.r0.free (j := 5) (by simp [plZ0])
  have zf6 := S3.out.r0.free (j := 6) (by simp [plZ0])
  have zf7 := S3.out.r0.free (j := 7) (by simp [plZ0])
  have zf8 := S3.out.r0.free (j := 8) (by simp [plZ0])
  have zf9 := S3.out.r0.free (j := 9) (by simp [plZ0])
  have u0 := S3.out.r1.cell (j := 0) rfl
  have u1 := S3.out.r1.cell (j := 1) rfl
  have uf0 := S3.out.r1.free (j := 0) (by simp)
  have uf1 := S3.out.r1.free (j := 1) (by simp)
  go_region_held (fun wy => wy.cell? ⟨w2.heap.size, 0, none⟩ = some (.slice pa p.addrs.length pc) ∧ wy.cell? ⟨w2.heap.size, 1, none⟩ = some (.int .i64 p.low) ∧ wy.cell? ⟨w2.heap.size, 2, none⟩ = some (.int .i64 p.high) ∧ wy.cell? ⟨w2.heap.size, 3, none⟩ = some (.int .i64 p.most) ∧ wy.cell? ⟨w2.heap.size, 4, none⟩ = some (.int .i64 p.filter) ∧ wy.cell? ⟨w2.heap.size, 5, none⟩ = some (.int .i64 p.lv.udp) ∧ wy.cell? ⟨w2.heap.size, 6, none⟩ = some (.int .i64 p.lv.echo) ∧ wy.cell? ⟨w2.heap.size, 7, none⟩ = some (.int .i64 p.lv.opening) ∧ wy.cell? ⟨w2.heap.size, 8, none⟩ = some (.int .i64 p.lv.opn) ∧ wy.cell? ⟨w2.heap.size, 9, none⟩ = some (.int .i64 p.lv.closing) ∧ wy.cell? ⟨w2.heap.size + 1, 0, none⟩ = some (.slice ba x.binds.length ca) ∧ wy.cell? ⟨w2.heap.size + 1, 1, none⟩ = some (.slice bo x.sess.length cb)) (go_keep) (first | (go_at_call 35; refine (drawN_more 25 B sa len cap size _ (by omega) (by omega) hl (S3.out.below (Below.refl _ _).drew).dr.src).mono ?_; rintro e w5 ⟨r5, rfl, lr5, ur5, hs, hg⟩; have S5 : Hid (TS w1 B sa len cap size w.heap.size (w.heap.size + 1) w2.heap.size (w2.heap.size + 1) pa pc p ba bo ca cb x w5) := (S3.out.below (Below.refl _ _).drew).draw hs hg; clear hs hg; have q0 : w5.cell? ⟨w2.heap.size, 0, none⟩ = some (.slice pa p.addrs.length pc) := S5.out.bp.cell rfl; have q1 : w5.cell? ⟨w2.heap.size, 1, none⟩ = some (.int .i64 p.low) := S5.out.bp.cell rfl; have q2 : w5.cell? ⟨w2.heap.size, 2, none⟩ = some (.int .i64 p.high) := S5.out.bp.cell rfl; have q3 : w5.cell? ⟨w2.heap.size, 3, none⟩ = some (.int .i64 p.most) := S5.out.bp.cell rfl; have q4 : w5.cell? ⟨w2.heap.size, 4, none⟩ = some (.int .i64 p.filter) := S5.out.bp.cell rfl; have q5 : w5.cell? ⟨w2.heap.size, 5, none⟩ = some (.int .i64 p.lv.udp) := S5.out.bp.cell rfl; have q6 : w5.cell? ⟨w2.heap.size, 6, none⟩ = some (.int .i64 p.lv.echo) := S5.out.bp.cell rfl; have q7 : w5.cell? ⟨w2.heap.size, 7, none⟩ = some (.int .i64 p.lv.opening) := S5.out.bp.cell rfl; have q8 : w5.cell? ⟨w2.heap.size, 8, none⟩ = some (.int .i64 p.lv.opn) := S5.out.bp.cell rfl; have q9 : w5.cell? ⟨w2.heap.size, 9, none⟩ = some (.int .i64 p.lv.closing) := S5.out.bp.cell rfl; have qb0 : w5.cell? ⟨w2.heap.size + 1, 0, none⟩ = some (.slice ba x.binds.length ca) := S5.out.bx.cell rfl; have qb1 : w5.cell? ⟨w2.heap.size + 1, 1, none⟩ = some (.slice bo x.sess.length cb) := S5.out.bx.cell rfl; have y0 : w5.cell? ⟨w.heap.size, 0, none⟩ = some (.slice none 0 0) := S5.out.r0.cell rfl; have y1 : w5.cell? ⟨w.heap.size, 1, none⟩ = some (.int .i64 0) := S5.out.r0.cell rfl; have y2 : w5.cell? ⟨w.heap.size, 2, none⟩ = some (.int .i64 0) := S5.out.r0.cell rfl; have y3 : w5.cell? ⟨w.heap.size, 3, none⟩ = some (.int .i64 0) := S5.out.r0.cell rfl; have y4 : w5.cell? ⟨w.heap.size, 4, none⟩ = some (.int .i64 0) := S5.out.r0.cell rfl; have y5 : w5.cell? ⟨w.heap.size, 5, none⟩ = some (.int .i64 0) := S5.out.r0.cell rfl; have y6 : w5.cell? ⟨w.heap.size, 6, none⟩ = some (.int .i64 0) := S5.out.r0.cell rfl; have y7 : w5.cell? ⟨w.heap.size, 7, none⟩ = some (.int .i64 0) := S5.out.r0.cell rfl; have y8 : w5.cell? ⟨w.heap.size, 8, none⟩ = some (.int .i64 0) := S5.out.r0.cell rfl; have y9 : w5.cell? ⟨w.heap.size, 9, none⟩ = some (.int .i64 0) := S5.out.r0.cell rfl; have yf0 := S5.out.r0.free (j := 0) (by simp [plZ0]); have yf1 := S5.out.r0.free (j := 1) (by simp [plZ0]); have yf2 := S5.out.r0.free (j := 2) (by simp [plZ0]); have yf3 := S5.out.r0.free (j := 3) (by simp [plZ0]); have yf4 := S5.out.r0.free (j := 4) (by simp [plZ0]); have yf5 := S5.out.r0.free (j := 5) (by simp [plZ0]); have yf6 := S5.out.r0.free (j := 6) (by simp [plZ0]); have yf7 := S5.out.r0.free (j := 7) (by simp [plZ0]); have yf8 := S5.out.r0.free (j := 8) (by simp [plZ0]); have yf9 := S5.out.r0.free (j := 9) (by simp [plZ0]); have v0 : w5.cell? ⟨w.heap.size + 1, 0, none⟩ = some (.slice none 0 0) := S5.out.r1.cell rfl; have v1 : w5.cell? ⟨w.heap.size + 1, 1, none⟩ = some (.slice none 0 0) := S5.out.r1.cell rfl; have vf0 := S5.out.r1.free (j := 0) (by simp); have vf1 := S5.out.r1.free (j := 1) (by simp); clear p0 z0 zf0 p1 z1 zf1 p2 z2 zf2 p3 z3 zf3 p4 z4 zf4 p5 z5 zf5 p6 z6 zf6 p7 z7 zf7 p8 z8 zf8 p9 z9 zf9 b0 b1 u0 u1 uf0 uf1))
  all_goals go_wp2_with fail
  all_goals go_meet
  all_goals exact ⟨now + r5, by first | rfl | (congr 1; rw [IntKind.wrap_i64]; omega), by omega, by omega, (((((((((((((bel_grownT HB1.out S5.out.dr.grown (by omega) HB1.out.size).setCell (p := ⟨w.heap.size, 0, none⟩) (Nat.le_refl _) _).setCell (p := ⟨w.heap.size, 1, none⟩) (Nat.le_refl _) _).setCell (p := ⟨w.heap.size, 2, none⟩) (Nat.le_refl _) _).setCell (p := ⟨w.heap.size, 3, none⟩) (Nat.le_refl _) _).setCell (p := ⟨w.heap.size, 4, none⟩) (Nat.le_refl _) _).setCell (p := ⟨w.heap.size, 5, none⟩) (Nat.le_refl _) _).setCell (p := ⟨w.heap.size, 6, none⟩) (Nat.le_refl _) _).setCell (p := ⟨w.heap.size, 7, none⟩) (Nat.le_refl _) _).setCell (p := ⟨w.heap.size, 8, none⟩) (Nat.le_refl _) _).setCell (p := ⟨w.heap.size, 9, none⟩) (Nat.le_refl _) _).setCell (p := ⟨w.heap.size + 1, 0, none⟩) (Nat.le_succ _) _).setCell (p := ⟨w.heap.size + 1, 1, none⟩) (Nat.le_succ _) _), S5.out.fin⟩
 case rest =>
 obtain ⟨m, rfl, m0, m1, hB, hF⟩ := hcut
 have HBB : Hid _ := hB
 have HF : Hid (TF w.heap.size (w.heap.size + 1) pa pc p ba bo ca cb x wc) := hF
 clear hB hF S3
 have z0 := HF.out.r0.cell (j := 0) rfl
 have z1 := HF.out.r0.cell (j := 1) rfl
 have z2 := HF.out.r0.cell (j := 2) rfl
 have z3 := HF.out.r0.cell (j := 3) rfl
 have z4 := HF.out.r0.cell (j := 4) rfl
 have z5 := HF.out.r0.cell (j := 5) rfl
 have z6 := HF.out.r0.cell (j := 6) rfl
 have z7 := HF.out.r0.cell (j := 7) rfl
 have z8 := HF.out.r0.cell (j := 8) rfl
 have z9 := HF.out.r0.cell (j := 9) rfl
 have u0 := HF.out.r1.cell (j := 0) rfl
 have u1 := HF.out.r1.cell (j := 1) rfl
 go_wp2_with fail
 exact bodyPost_ret (v := .tuple #[.agg #[.slice pa p.addrs.length pc, .int .i64 p.low, .int .i64 p.high, .int .i64 p.most, .int .i64 p.filter, .int .i64 p.lv.udp, .int .i64 p.lv.echo, .int .i64 p.lv.opening, .int .i64 p.lv.opn, .int .i64 p.lv.closing], .agg #[.slice ba x.binds.length ca, .slice bo x.sess.length cb], .int .i64 m]) (by simp [results, Try.results11, go_sem, z0, z1, z2, z3, z4, z5, z6, z7, z8, z9, u0, u1]) rfl ⟨pa, pc, p, ba, bo, ca, cb, x, m, rfl, HPD.out, hpc, HBD.out, m0, m1, HF.out.pl, HF.out.bb, HBB.out⟩
end Go.Proofs.Ytllagodlgipcpaa
