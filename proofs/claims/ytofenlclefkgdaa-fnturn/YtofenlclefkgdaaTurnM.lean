/- TurnM: a packet that is turned and turned back. Nothing of the program. -/
import Derived.Test.YtofenlclefkgdaaMerged6
import Derived.Test.YtofenlclefkgdaaMerged3
namespace Go.Proofs.Ytofenlclefkgdaa
open Go.RowKit Go.PlainAid
set_option linter.unusedVariables false
set_option linter.unusedSimpArgs false

/-- What is kept of a packet of IPv4. -/
def kept4 (p : P4) : P4 := ⟨p.tos, if pcd p then p.id else 0, if pcd p then p.whole else true, p.more, p.off, p.ttl, p.proto, p.src, p.dst, ⟨#[]⟩, p.data⟩
/-- What is kept of a packet of IPv6. -/
def lone6 (q : P6) : Bool := q.piece && !q.more && decide (q.off = 0)
def kept6 (q : P6) : P6 := ⟨q.cls, 0, q.next, q.hops, q.src, q.dst, if lone6 q then false else q.piece, q.more, q.off, if lone6 q then 0 else q.id % 65536, q.data⟩

theorem six4_zero {p : P4} {a b : ByteArray} (h : six4C p a b = 0) : v4Ok p = true ∧ a.size = 16 ∧ b.size = 16 ∧ v6Ok (six4 p a b) = true ∧ six4V p a b = six4 p a b := by
 have hv : six4V p a b = six4 p a b := by unfold six4V; rw [if_pos h]
 unfold six4C at h
 split at h
 ·simp at h
 ·split at h
  ·simp at h
  ·rename_i h1 h2
   split at h
   ·rename_i h3
    simp only [Bool.or_eq_true, Bool.not_eq_true', decide_eq_false_iff_not, not_or] at h2
    obtain ⟨⟨x1, x2⟩, x3⟩ := h2
    exact ⟨by simpa using x1, by omega, by omega, h3, hv⟩
   ·simp at h
theorem four6_zero {p : P6} {a b : ByteArray} (h : four6C p a b = 0) : v6Ok p = true ∧ a.size = 4 ∧ b.size = 4 ∧ v4Ok (four6 p a b) = true ∧ four6V p a b = four6 p a b := by
 have hv : four6V p a b = four6 p a b := by unfold four6V; rw [if_pos h]
 unfold four6C at h
 split at h
 ·simp at h
 ·split at h
  ·simp at h
  ·rename_i h1 h2
   split at h
   ·rename_i h3
    simp only [Bool.or_eq_true, Bool.not_eq_true', decide_eq_false_iff_not, not_or] at h2
    obtain ⟨⟨x1, x2⟩, x3⟩ := h2
    exact ⟨by simpa using x1, by omega, by omega, h3, hv⟩
   ·simp at h
theorem v4Ok_all {p : P4} (h : v4Ok p = true) : v4A p = true ∧ v4B p = true ∧ v4C p = true := by unfold v4Ok at h; simp only [Bool.and_eq_true] at h; exact ⟨h.1.1, h.1.2, h.2⟩
theorem v4C_pcd {p : P4} (h : v4C p = true) (hp : pcd p = true) : p.whole = false := by
 unfold v4C at h; unfold pcd at hp
 cases hw : p.whole with
 | false => rfl
 | true =>
  rw [hw] at h
  cases hm : p.more with
  | true => rw [hm] at h; simp at h
  | false => rw [hm] at h hp; simp at h hp; exact absurd h hp
theorem pcd_no {p : P4} (h : pcd p = false) : p.more = false ∧ p.off = 0 := by unfold pcd at h; simpa using h

/-- From four to six and back. -/
theorem turn46 {p : P4} {a b : ByteArray} (h : six4C p a b = 0) (hp : p.proto ≠ 58) : four6C (six4V p a b) p.src p.dst = 0 ∧ four6V (six4V p a b) p.src p.dst = kept4 p := by
 obtain ⟨h1, h2, h3, h4, h5⟩ := six4_zero h
 obtain ⟨hA, hB, hC⟩ := v4Ok_all h1
 obtain ⟨a1, a2, a3, a4, a5, a6, a7⟩ := v4A_parts hA
 obtain ⟨b1, b2, b3, b4, b5⟩ := v4B_parts hB
 have e : four6 (six4 p a b) p.src p.dst = kept4 p := by
  unfold four6 six4 kept4
  simp only
  cases hc : pcd p with
  | true =>
   have hw := v4C_pcd hC hc
   rw [hw]
   have hi : p.id % 65536 = p.id := by omega
   have hq : (if (if p.proto = 1 then (58 : Int) else p.proto) = 58 then (1 : Int) else if p.proto = 1 then 58 else p.proto) = p.proto := by
    by_cases x : p.proto = 1
    ·rw [if_pos x, if_pos rfl, x]
    ·rw [if_neg x, if_neg hp]
   rw [hq]
   simp [hi]
  | false =>
   obtain ⟨m0, o0⟩ := pcd_no hc
   have hq : (if (if p.proto = 1 then (58 : Int) else p.proto) = 58 then (1 : Int) else if p.proto = 1 then 58 else p.proto) = p.proto := by
    by_cases x : p.proto = 1
    ·rw [if_pos x, if_pos rfl, x]
    ·rw [if_neg x, if_neg hp]
   rw [hq, m0, o0]
   simp
 have ok : v4Ok (kept4 p) = true := by
  have k1 : v4A (kept4 p) = true := by rw [← e]; exact four6_A h4 a6 a7
  have k2 : v4B (kept4 p) = true := by
   unfold v4B at hB ⊢
   unfold kept4
   simp only [Bool.and_eq_true, Bool.not_eq_true', decide_eq_true_iff] at hB ⊢
   obtain ⟨⟨⟨⟨x1, x2⟩, x3⟩, x4⟩, x5⟩ := hB
   exact ⟨⟨⟨⟨by decide, by decide⟩, x3⟩, x4⟩, x5⟩
  have k3 : v4C (kept4 p) = true := by
   unfold v4C kept4
   simp only
   cases hc : pcd p with
   | true => rw [v4C_pcd hC hc]; rfl
   | false => obtain ⟨m0, o0⟩ := pcd_no hc; rw [m0, o0]; rfl
  unfold v4Ok; rw [k1, k2, k3]; rfl
 have hc : four6C (six4 p a b) p.src p.dst = 0 := by
  unfold four6C
  rw [if_neg (by unfold long2; simp; omega), if_neg (by simp [h4, a6, a7]), e, if_pos ok]
 rw [h5]
 exact ⟨hc, by unfold four6V; rw [if_pos hc, e]⟩

/-- From six to four and back. -/
theorem turn64 {q : P6} {a b : ByteArray} (h : four6C q a b = 0) (hp : q.next ≠ 1) : six4C (four6V q a b) q.src q.dst = 0 ∧ six4V (four6V q a b) q.src q.dst = kept6 q := by
 obtain ⟨h1, h2, h3, h4, h5⟩ := four6_zero h
 obtain ⟨hA, hB⟩ := v6Ok_ab h1
 obtain ⟨a1, a2, a3, a4, a5, a6, a7, a8⟩ := v6A_parts hA
 obtain ⟨b1, b2, b3⟩ := v6B_parts hB
 have hpr : (four6 q a b).proto ≠ 44 := by
  show (if q.next = 58 then (1 : Int) else q.next) ≠ 44
  split
  ·decide
  ·exact a8
 have hk := six4_ok (src := q.src) (dst := q.dst) h4 a5 a6 hpr
 have hc : six4C (four6 q a b) q.src q.dst = 0 := by
  unfold six4C
  rw [if_neg (by unfold long2; simp; omega), if_neg (by simp [h4, a5, a6]), if_pos hk]
 have hq : (if (if q.next = 58 then (1 : Int) else q.next) = 1 then (58 : Int) else if q.next = 58 then 1 else q.next) = q.next := by
  by_cases x : q.next = 58
  ·rw [if_pos x, if_pos rfl, x]
  ·rw [if_neg x, if_neg hp]
 have e : six4 (four6 q a b) q.src q.dst = kept6 q := by
  have hpc : pcd (four6 q a b) = (q.more || !decide (q.off = 0)) := rfl
  unfold six4
  rw [hpc]
  unfold four6 kept6 lone6
  simp only
  rw [hq]
  cases hm : q.more with
  | true =>
   have hpi : q.piece = true := by
    cases hx : q.piece with
    | true => rfl
    | false => have := (b3 hx).1; rw [hm] at this; simp at this
   rw [hpi]; simp
  | false =>
   by_cases ho : q.off = 0
   ·cases hx : q.piece with
    | true => simp [ho]
    | false => have := (b3 hx).2.2; simp [ho, this]
   ·have hpi : q.piece = true := by
     cases hx : q.piece with
     | true => rfl
     | false => exact absurd (b3 hx).2.1 ho
    simp [ho, hpi]
 rw [h5]
 exact ⟨hc, by unfold six4V; rw [if_pos hc, e]⟩
theorem Bd_four {p : P6} {a b : ByteArray} (h : four6C p a b = 0) : P4Sm (four6V p a b) ∧ P4Wf (four6V p a b) := by
 obtain ⟨-, -, -, h4, h5⟩ := four6_zero h
 rw [h5]
 generalize four6 p a b = r at *
 obtain ⟨hA, hB, hC⟩ := v4Ok_all h4
 obtain ⟨a1, a2, a3, a4, a5, a6, a7⟩ := v4A_parts hA
 obtain ⟨b1, b2, b3, b4, b5⟩ := v4B_parts hB
 unfold P4Sm P4Wf In64t maxLen
 refine ⟨⟨by omega, by omega, by omega, by omega⟩, ⟨by omega, by omega⟩, ⟨by omega, by omega⟩, ⟨by omega, by omega⟩, ⟨by omega, by omega⟩, ⟨by omega, by omega⟩, by omega, by omega, by omega, by omega⟩
theorem Bd_six {p : P4} {a b : ByteArray} (h : six4C p a b = 0) : P6Sm (six4V p a b) ∧ P6Wf (six4V p a b) := by
 obtain ⟨-, -, -, h4, h5⟩ := six4_zero h
 rw [h5]
 generalize six4 p a b = r at *
 obtain ⟨hA, hB⟩ := v6Ok_ab h4
 obtain ⟨a1, a2, a3, a4, a5, a6, a7, a8⟩ := v6A_parts hA
 obtain ⟨b1, b2, b3⟩ := v6B_parts hB
 unfold P6Sm P6Wf In64t maxLen
 refine ⟨⟨by omega, by omega, by omega⟩, ⟨by omega, by omega⟩, ⟨by omega, by omega⟩, ⟨by omega, by omega⟩, ⟨by omega, by omega⟩, by omega, by omega, ⟨by omega, by omega⟩, ⟨by omega, by omega⟩, by omega⟩
end Go.Proofs.Ytofenlclefkgdaa
