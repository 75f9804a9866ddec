/- Buck: buckets, plainly: what is right, and what is taken. Nothing of the program. -/
import Derived.Test.YtagbhaalmjpkjaaPkt
namespace Go.Proofs.Ytagbhaalmjpkjaa
open Go.RowKit

structure Bk where
  left : Int
  most : Int
  each : Int
  since : Int
def bkC (b : Bk) : Value := .agg #[.int .i64 b.left, .int .i64 b.most, .int .i64 b.each, .int .i64 b.since]
def bkO (b : Bk) (ok : Bool) : Value := .agg #[.int .i64 b.left, .int .i64 b.most, .int .i64 b.each, .int .i64 b.since, .bool ok]
def bkTime (n : Int) : Bool := isIn n 0 1000000000
def bucketOk (b : Bk) : Bool := isIn b.most 1 100 && isIn b.left 0 b.most && isIn b.each 1 1000 && bkTime b.since
/-- It may be taken from at this time. -/
def takeIn (b : Bk) (now : Int) : Bool := bucketOk b && bkTime now && decide (b.since ≤ now)
def cameN (b : Bk) (now : Int) : Int := (now - b.since) / b.each
def leftN (b : Bk) (now : Int) : Int := min (b.left + cameN b now) b.most
def sinceN (b : Bk) (now : Int) : Int := b.since + cameN b now * b.each
def takeB (b : Bk) (now : Int) : Bk := if takeIn b now = true then ⟨if leftN b now = 0 then 0 else leftN b now - 1, b.most, b.each, sinceN b now⟩ else b
def takeK (b : Bk) (now : Int) : Bool := takeIn b now && !decide (leftN b now = 0)
theorem bk_parts {b : Bk} (h : bucketOk b = true) : (1 ≤ b.most ∧ b.most ≤ 100) ∧ (0 ≤ b.left ∧ b.left ≤ b.most) ∧ (1 ≤ b.each ∧ b.each ≤ 1000) ∧ (0 ≤ b.since ∧ b.since ≤ 1000000000) := by
  unfold bucketOk bkTime isIn at h
  simp only [Bool.and_eq_true, decide_eq_true_eq] at h
  omega
theorem take_no {b : Bk} {now : Int} (h : bucketOk b = false ∨ bkTime now = false ∨ now < b.since) : takeB b now = b ∧ takeK b now = false := by
  have hi : takeIn b now = false := by
    unfold takeIn
    rcases h with h | h | h
    · simp [h]
    · simp [h]
    · have : ¬ b.since ≤ now := by omega
      simp [this]
  unfold takeB takeK
  rw [hi]
  exact ⟨if_neg (by simp), rfl⟩
/-- What is taken where it may be: the numbers that are met on the way, and the three ends. -/
def TakeY (b : Bk) (now : Int) (tb : Bk) (tk : Bool) : Prop := ∃ cm pr : Int, (now - b.since).tdiv b.each = cm ∧ cm * b.each = pr ∧ ((1 ≤ b.most ∧ b.most ≤ 100) ∧ (0 ≤ b.left ∧ b.left ≤ b.most)) ∧ (1 ≤ b.each ∧ b.each ≤ 1000) ∧ (0 ≤ b.since ∧ 0 ≤ now ∧ now ≤ 1000000000) ∧ (0 ≤ cm ∧ cm ≤ pr ∧ b.since + pr ≤ now) ∧
  (b.most < b.left + cm → tb = ⟨b.most - 1, b.most, b.each, b.since + pr⟩ ∧ tk = true) ∧ (¬ b.most < b.left + cm → b.left + cm = 0 → tb = ⟨b.left + cm, b.most, b.each, b.since + pr⟩ ∧ tk = false) ∧ (¬ b.most < b.left + cm → ¬ b.left + cm = 0 → tb = ⟨b.left + cm - 1, b.most, b.each, b.since + pr⟩ ∧ tk = true)
theorem came_ok {a c : Int} (ha : 0 ≤ a) (hc : 1 ≤ c) : a.tdiv c = a / c ∧ 0 ≤ a / c ∧ a / c ≤ a / c * c ∧ a / c * c ≤ a := by
  have h1 : a.tdiv c = a / c := Int.tdiv_eq_ediv_of_nonneg ha
  have h2 : 0 ≤ a / c := Int.ediv_nonneg ha (by omega)
  have h3 : a / c * c ≤ a := Int.ediv_mul_le a (by omega)
  have h4 : a / c * 1 ≤ a / c * c := Int.mul_le_mul_of_nonneg_left hc h2
  exact ⟨h1, h2, by omega, h3⟩
theorem take_yes {b : Bk} {now : Int} (h1 : bucketOk b = true) (h2 : bkTime now = true) (h3 : ¬ now < b.since) : TakeY b now (takeB b now) (takeK b now) := by
  obtain ⟨p1, p2, p3, p4⟩ := bk_parts h1
  have p5 : 0 ≤ now ∧ now ≤ 1000000000 := isIn_parts h2
  obtain ⟨c1, c2, c3, c4⟩ := came_ok (a := now - b.since) (c := b.each) (by omega) p3.1
  have hi : takeIn b now = true := by
    have : b.since ≤ now := by omega
    unfold takeIn; simp [h1, h2, this]
  have e1 : takeB b now = ⟨if leftN b now = 0 then 0 else leftN b now - 1, b.most, b.each, sinceN b now⟩ := by unfold takeB; rw [if_pos hi]
  have e2 : takeK b now = !decide (leftN b now = 0) := by unfold takeK; rw [hi]; rfl
  have e3 : sinceN b now = b.since + (now - b.since) / b.each * b.each := rfl
  have e4 : leftN b now = min (b.left + (now - b.since) / b.each) b.most := rfl
  rw [e1, e2, e3]
  refine ⟨(now - b.since) / b.each, (now - b.since) / b.each * b.each, c1, rfl, ⟨p1, p2⟩, p3, ⟨p4.1, p5⟩, ⟨c2, c3, by omega⟩, fun hm => ?_, fun hm hz => ?_, fun hm hz => ?_⟩
  · have : leftN b now = b.most := by rw [e4]; omega
    rw [this, if_neg (by omega)]; exact ⟨rfl, by simp; omega⟩
  · have : leftN b now = 0 := by rw [e4]; omega
    rw [this, if_pos rfl, hz]; exact ⟨rfl, by simp⟩
  · have : leftN b now = b.left + (now - b.since) / b.each := by rw [e4]; omega
    rw [this, if_neg hz]; exact ⟨rfl, by simp; omega⟩
end Go.Proofs.Ytagbhaalmjpkjaa
