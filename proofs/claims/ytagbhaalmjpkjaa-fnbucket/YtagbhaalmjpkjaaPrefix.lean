/- Prefixes: what the specification's PrefixRight, l02Has, PrefixHas and l02Nat answer. -/
import Derived.Test.YtagbhaalmjpkjaaBits
import Derived.RegionTactic
import Derived.BigQuiet
import Derived.Deep.QuietTactic
import Derived.Deep.DeepCutAuto
namespace Go.Proofs.Ytagbhaalmjpkjaa
open Go.RowKit Go.PlainAid
set_option linter.unusedVariables false
set_option linter.unusedSimpArgs false


/-- All bits from k on, n of them, are 0. -/
def zerosN (f : Nat → Int) (k : Nat) : Nat → Bool
  | 0 => true
  | n + 1 => bitN f k == 0 && zerosN f (k + 1) n

/-- The first n bits from k on are the same. -/
def sameN (f g : Nat → Int) (k : Nat) : Nat → Bool
  | 0 => true
  | n + 1 => bitN f k == bitN g k && sameN f g (k + 1) n

/-- Is a prefix refused ahead of its bits? -/
def badP (s : ByteArray) (b : Int) : Bool := !(addrOk s && decide (0 ≤ b) && decide (b ≤ 8 * (s.size : Int)))

/-- Is a prefix right? -/
def prefixOk (s : ByteArray) (b : Int) : Bool := addrOk s && decide (0 ≤ b) && decide (b ≤ 8 * (s.size : Int)) && zerosN (bt s) b.toNat (8 * s.size - b.toNat)

theorem zerosN_step (f : Nat → Int) (k m : Nat) (h : k < m) : zerosN f k (m - k) = (bitN f k == 0 && zerosN f (k + 1) (m - (k + 1))) := by
  obtain ⟨n, e⟩ : ∃ n, m - k = n + 1 := ⟨m - k - 1, by omega⟩
  rw [e, show m - (k + 1) = n by omega]; rfl

theorem sameN_step (f g : Nat → Int) (k m : Nat) (h : k < m) : sameN f g k (m - k) = (bitN f k == bitN g k && sameN f g (k + 1) (m - (k + 1))) := by
  obtain ⟨n, e⟩ : ∃ n, m - k = n + 1 := ⟨m - k - 1, by omega⟩
  rw [e, show m - (k + 1) = n by omega]; rfl

theorem zerosN_end (f : Nat → Int) (k m : Nat) (h : m ≤ k) : zerosN f k (m - k) = true := by rw [show m - k = 0 by omega]; rfl
theorem sameN_end (f g : Nat → Int) (k m : Nat) (h : m ≤ k) : sameN f g k (m - k) = true := by rw [show m - k = 0 by omega]; rfl


/-- Have two addresses of one length the same first bits? -/
def hasV (p : ByteArray) (b : Int) (a : ByteArray) : Bool := decide (a.size = p.size) && sameN (bt p) (bt a) 0 b.toNat


theorem prefixOk_le {s : ByteArray} {b : Int} (h : prefixOk s b = true) : 0 ≤ b ∧ b ≤ 8 * (s.size : Int) ∧ (s.size = 4 ∨ s.size = 16) := by
  simp [prefixOk] at h
  exact ⟨h.1.1.2, h.1.2, addrOk_size h.1.1.1⟩

/-- What PrefixHas answers. -/
def prefixHasV (p : ByteArray) (b : Int) (a : ByteArray) : Bool := prefixOk p b && addrOk a && hasV p b a


end Go.Proofs.Ytagbhaalmjpkjaa
