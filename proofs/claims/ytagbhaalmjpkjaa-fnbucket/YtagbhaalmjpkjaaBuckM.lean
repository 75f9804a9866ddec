/- BuckM: a right bucket stays right, and gives no more than it has and what has come since; nothing of the program. -/
import Derived.Test.YtagbhaalmjpkjaaBuck
namespace Go.Proofs.Ytagbhaalmjpkjaa
open Go.RowKit

theorem bk_right {b : Bk} (h1 : 1 ≤ b.most ∧ b.most ≤ 100) (h2 : 0 ≤ b.left ∧ b.left ≤ b.most) (h3 : 1 ≤ b.each ∧ b.each ≤ 1000) (h4 : 0 ≤ b.since ∧ b.since ≤ 1000000000) : bucketOk b = true := by
  unfold bucketOk bkTime isIn
  simp only [Bool.and_eq_true, decide_eq_true_eq]
  omega
/-- Behind some takes: so many have been taken of b, and c is what is left of it. -/
structure BInv (b c : Bk) (now took : Int) : Prop where
  right : bucketOk c = true
  each : c.each = b.each
  most : c.most = b.most
  nn : 0 ≤ took
  some : ∃ m : Int, 0 ≤ m ∧ c.since = b.since + m * b.each ∧ took + c.left ≤ b.left + m
  up : c.since ≤ now
theorem BInv.start {b : Bk} {now : Int} (h : bucketOk b = true) (hn : b.since ≤ now) : BInv b b now 0 :=
  ⟨h, rfl, rfl, by omega, ⟨0, by omega, by omega, by omega⟩, hn⟩
theorem BInv.later {b c : Bk} {now took : Int} (h : BInv b c now took) : BInv b c (now + 1) took :=
  ⟨h.right, h.each, h.most, h.nn, h.some, by have := h.up; omega⟩
/-- One more call. -/
theorem BInv.take {b c : Bk} {now took : Int} (h : BInv b c now took) (hn : bkTime now = true) : BInv b (takeB c now) now (took + if takeK c now = true then 1 else 0) := by
  obtain ⟨cm, pr, hq, hp, ⟨p1, p2⟩, p3, ⟨p4, p5, p6⟩, ⟨p7, p8, p9⟩, e1, e2, e3⟩ := take_yes h.right hn (by have := h.up; omega)
  obtain ⟨m, m0, m1, m2⟩ := h.some
  have hs : c.since + pr = b.since + (m + cm) * b.each := by rw [m1, ← hp, h.each, Int.add_mul]; omega
  have nn := h.nn
  by_cases hm : c.most < c.left + cm
  · obtain ⟨t1, t2⟩ := e1 hm
    rw [t1, t2]
    refine ⟨bk_right p1 (by dsimp only; omega) p3 (by dsimp only; omega), h.each, h.most, ?_, ⟨m + cm, by omega, hs, ?_⟩, p9⟩
    · simp; omega
    · dsimp only; simp; omega
  · by_cases hz : c.left + cm = 0
    · obtain ⟨t1, t2⟩ := e2 hm hz
      rw [t1, t2]
      refine ⟨bk_right p1 (by dsimp only; omega) p3 (by dsimp only; omega), h.each, h.most, ?_, ⟨m + cm, by omega, hs, ?_⟩, p9⟩
      · simp; omega
      · dsimp only; simp; omega
    · obtain ⟨t1, t2⟩ := e3 hm hz
      rw [t1, t2]
      refine ⟨bk_right p1 (by dsimp only; omega) p3 (by dsimp only; omega), h.each, h.most, ?_, ⟨m + cm, by omega, hs, ?_⟩, p9⟩
      · simp; omega
      · dsimp only; simp; omega
/-- No more than it has, and what has come since. -/
theorem BInv.ends {b c : Bk} {now took : Int} (h : BInv b c now took) (hb : bucketOk b = true) : took ≤ b.left + (now - b.since) / b.each := by
  obtain ⟨m, m0, m1, m2⟩ := h.some
  obtain ⟨p1, p2, p3, p4⟩ := bk_parts hb
  obtain ⟨q1, q2, q3, q4⟩ := bk_parts h.right
  have hu := h.up
  have : m ≤ (now - b.since) / b.each := (Int.le_ediv_iff_mul_le (by omega)).2 (by omega)
  omega
end Go.Proofs.Ytagbhaalmjpkjaa
