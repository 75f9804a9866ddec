/- Xlat: a packet of one kind turned to the other, as plain functions, and that it is read of the bytes that it would have. Nothing of the program. -/
import Derived.Test.YtgnolcbdojjieaaPktMath2
namespace Go.Proofs.Ytgnolcbdojjieaa
open Go.RowKit Go.PlainAid
set_option linter.unusedVariables false
set_option linter.unusedSimpArgs false

def four6 (p : P6) (src dst : ByteArray) : P4 := ⟨p.cls, if p.piece then p.id % 65536 else 0, !p.piece, p.more, p.off, p.hops, if p.next = 58 then 1 else p.next, src, dst, ⟨#[]⟩, p.data⟩
def long2 (src dst : ByteArray) : Bool := decide (20000 < src.size) || decide (20000 < dst.size)
def four6C (p : P6) (src dst : ByteArray) : Int := if long2 src dst then 2 else if !v6Ok p || !decide (src.size = 4) || !decide (dst.size = 4) then 1 else if v4Ok (four6 p src dst) then 0 else 1
def four6V (p : P6) (src dst : ByteArray) : P4 := if four6C p src dst = 0 then four6 p src dst else p4Zero
theorem v6A_parts {p : P6} (h : v6A p = true) : (0 ≤ p.cls ∧ p.cls ≤ 255) ∧ (0 ≤ p.next ∧ p.next ≤ 255) ∧ (0 ≤ p.hops ∧ p.hops ≤ 255) ∧ (0 ≤ p.flow ∧ p.flow ≤ 1048575) ∧ p.src.size = 16 ∧ p.dst.size = 16 ∧ p.data.size ≤ 1400 ∧ p.next ≠ 44 := by
 unfold v6A at h
 simp only [Bool.and_eq_true, Bool.not_eq_true', decide_eq_true_iff, decide_eq_false_iff_not] at h
 obtain ⟨⟨⟨⟨⟨⟨⟨h1, h2⟩, h3⟩, h4⟩, h5⟩, h6⟩, h7⟩, h8⟩ := h
 exact ⟨isIn_parts h1, isIn_parts h2, isIn_parts h3, isIn_parts h4, h5, h6, h7, h8⟩
theorem v6Ok_ab {p : P6} (h : v6Ok p = true) : v6A p = true ∧ v6B p = true := by unfold v6Ok at h; simpa only [Bool.and_eq_true] using h
theorem v6B_parts {p : P6} (h : v6B p = true) : (0 ≤ p.off ∧ p.off ≤ 8191) ∧ (0 ≤ p.id ∧ p.id ≤ 4294967295) ∧ (p.piece = false → p.more = false ∧ p.off = 0 ∧ p.id = 0) := by
 unfold v6B at h
 cases hp : p.piece with
 | true =>
  rw [hp, if_pos rfl] at h
  simp only [Bool.and_eq_true] at h
  exact ⟨isIn_parts h.1.1.1, isIn_parts h.1.1.2, fun x => by cases x⟩
 | false =>
  rw [hp, if_neg (by decide)] at h
  simp only [Bool.and_eq_true, Bool.not_eq_true', decide_eq_true_iff] at h
  obtain ⟨⟨h1, h2⟩, h3⟩ := h
  exact ⟨by omega, by omega, fun _ => ⟨h1, h2, h3⟩⟩
theorem isIn_of {n lo hi : Int} (h : lo ≤ n ∧ n ≤ hi) : isIn n lo hi = true := by unfold isIn; simp [h.1, h.2]

theorem four6_A {p : P6} {src dst : ByteArray} (h : v6Ok p = true) (hs : src.size = 4) (hd : dst.size = 4) : v4A (four6 p src dst) = true := by
 obtain ⟨hA, hB⟩ := v6Ok_ab h
 obtain ⟨a1, a2, a3, a4, -, -, a7, a8⟩ := v6A_parts hA
 obtain ⟨b1, b2, b3⟩ := v6B_parts hB
 unfold v4A four6
 simp only [Bool.and_eq_true, decide_eq_true_iff]
 refine ⟨⟨⟨⟨⟨⟨isIn_of a1, isIn_of a3⟩, isIn_of ?_⟩, isIn_of ?_⟩, isIn_of b1⟩, hs⟩, hd⟩
 ·split <;> omega
 ·split <;> omega
/-- The reader tells what the header becomes, of the bytes of it. -/
theorem four6_read {p : P6} {src dst : ByteArray} (h : v6Ok p = true) (hs : src.size = 4) (hd : dst.size = 4) : v4CodeV (v4Raw (four6 p src dst)) = four6C p src dst ∧ v4ReadV (v4Raw (four6 p src dst)) = four6V p src dst := by
 have hA := four6_A h hs hd
 obtain ⟨hA6, hB6⟩ := v6Ok_ab h
 obtain ⟨a1, a2, a3, a4, -, -, a7, a8⟩ := v6A_parts hA6
 have hr := v4_round' (four6 p src dst) hA (by show (⟨#[]⟩ : ByteArray).size ≤ 40; decide) (by show (⟨#[]⟩ : ByteArray).size % 4 = 0; decide) a7 ⟨#[]⟩ (by decide)
 rw [show v4Raw (four6 p src dst) ++ ⟨#[]⟩ = v4Raw (four6 p src dst) from ByteArray.append_empty] at hr
 have hc : four6C p src dst = if v4Ok (four6 p src dst) then 0 else 1 := by
  unfold four6C
  rw [if_neg (by unfold long2; simp; omega), if_neg (by simp [h, hs, hd])]
 refine ⟨hr.1.trans hc.symm, ?_⟩
 unfold v4ReadV four6V
 rw [hr.1, hr.2, hc]

end Go.Proofs.Ytgnolcbdojjieaa
