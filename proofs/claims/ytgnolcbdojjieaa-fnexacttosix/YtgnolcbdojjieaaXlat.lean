/- Xlat: a packet of one kind turned to the other, as plain functions, and that it is read of the bytes that it would have. Nothing of the program. -/
import Derived.Test.YtgnolcbdojjieaaPktMath2
namespace Go.Proofs.Ytgnolcbdojjieaa
open Go.RowKit Go.PlainAid
set_option linter.unusedVariables false
set_option linter.unusedSimpArgs false

def pcd (p : P4) : Bool := p.more || !decide (p.off = 0)
def six4 (p : P4) (src dst : ByteArray) : P6 := ⟨p.tos, 0, if p.proto = 1 then 58 else p.proto, p.ttl, src, dst, pcd p, p.more && pcd p, if pcd p then p.off else 0, if pcd p then p.id else 0, p.data⟩
def long2 (src dst : ByteArray) : Bool := decide (20000 < src.size) || decide (20000 < dst.size)
def six4C (p : P4) (src dst : ByteArray) : Int := if long2 src dst then 2 else if !v4Ok p || !decide (src.size = 16) || !decide (dst.size = 16) then 1 else if v6Ok (six4 p src dst) then 0 else 1
def six4V (p : P4) (src dst : ByteArray) : P6 := if six4C p src dst = 0 then six4 p src dst else p6Zero

theorem isIn_of {n lo hi : Int} (h : lo ≤ n ∧ n ≤ hi) : isIn n lo hi = true := by unfold isIn; simp [h.1, h.2]

theorem six4_ok {p : P4} {src dst : ByteArray} (h : v4Ok p = true) (hs : src.size = 16) (hd : dst.size = 16) (hp : p.proto ≠ 44) : v6Ok (six4 p src dst) = true := by
 have hA : v4A p = true := by unfold v4Ok at h; simp only [Bool.and_eq_true] at h; exact h.1.1
 have hB : v4B p = true := by unfold v4Ok at h; simp only [Bool.and_eq_true] at h; exact h.1.2
 obtain ⟨a1, a2, a3, a4, a5, a6, a7⟩ := v4A_parts hA
 obtain ⟨b1, b2, b3, b4, b5⟩ := v4B_parts hB
 have hpc : pcd p = false → p.more = false ∧ p.off = 0 := fun hh => by unfold pcd at hh; simpa using hh
 unfold v6Ok v6A v6B six4
 simp only [Bool.and_eq_true, Bool.not_eq_true', decide_eq_true_iff, decide_eq_false_iff_not]
 refine ⟨⟨⟨⟨⟨⟨⟨⟨isIn_of a1, isIn_of ?_⟩, isIn_of a2⟩, isIn_of (by decide)⟩, hs⟩, hd⟩, b3⟩, ?_⟩, ?_⟩
 ·split <;> omega
 ·split <;> omega
 ·cases hc : pcd p with
  | true =>
   simp only [if_pos, Bool.and_true, Bool.and_eq_true, decide_eq_true_iff, Bool.or_eq_true, Bool.not_eq_true']
   refine ⟨⟨⟨isIn_of a5, isIn_of (by omega)⟩, ?_⟩, by omega⟩
   cases hm : p.more with
   | true => exact .inr (b4 hm)
   | false => exact .inl rfl
  | false => simp
theorem six4_not {p : P4} {src dst : ByteArray} (hp : p.proto = 44) : v6Ok (six4 p src dst) = false := by
 unfold v6Ok v6A six4
 simp [hp]
theorem six4_read {p : P4} {src dst : ByteArray} (h : v4Ok p = true) (hs : src.size = 16) (hd : dst.size = 16) (hp : p.proto ≠ 44) : v6CodeV (v6Raw (six4 p src dst)) = six4C p src dst ∧ v6ReadV (v6Raw (six4 p src dst)) = six4V p src dst := by
 have hk := six4_ok h hs hd hp
 have hr := v6_round (six4 p src dst) hk ⟨#[]⟩ (by decide)
 rw [show v6Raw (six4 p src dst) ++ ⟨#[]⟩ = v6Raw (six4 p src dst) from ByteArray.append_empty] at hr
 have hc : six4C p src dst = 0 := by
  unfold six4C
  rw [if_neg (by unfold long2; simp; omega), if_neg (by simp [h, hs, hd]), if_pos hk]
 refine ⟨hr.1.trans hc.symm, ?_⟩
 unfold v6ReadV six4V
 rw [hr.1, hr.2, hc, if_pos rfl]

end Go.Proofs.Ytgnolcbdojjieaa
