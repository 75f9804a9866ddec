/- BitMath: bits of packets' numbers: plain mathematics. -/
import Derived.Test.YtgnolcbdojjieaaMath
import Derived.Test.YtgnolcbdojjieaaPkt
namespace Go.Proofs.Ytgnolcbdojjieaa
open Go.RowKit Go.PlainAid
set_option linter.unusedVariables false
set_option linter.unusedSimpArgs false

theorem mask_k (k : Nat) (hk : k < 63) (x : Int) (h0 : 0 ≤ x) (h1 : x < 9223372036854775808) : bits .and .i64 x (2 ^ k - 1) = x % 2 ^ k :=
 bits_mask .i64 63 (by decide) wraps_i64 k (Nat.le_of_lt hk) x h0 (by omega)
theorem mask16 (x : Int) (h0 : 0 ≤ x) (h1 : x ≤ 4294967295) : bits .and .i64 x 65535 = x % 65536 := by
 have h := mask_k 16 (by decide) x h0 (by omega)
 rw [show ((2 : Int) ^ 16 - 1) = 65535 by decide, show ((2 : Int) ^ 16) = 65536 by decide] at h
 exact h

end Go.Proofs.Ytgnolcbdojjieaa
