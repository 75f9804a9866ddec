/- What the two bytes of a word are, in the program and in its specification, and what lies behind layWords. -/
import Derived.Test.YtgnolcbdojjieaaSums
import Derived.Laws.IdiomStrings
namespace Go.Proofs.Ytgnolcbdojjieaa
open Go.RowKit Go.PlainAid

/-- The two bytes of a word. -/
def twoL (n : Int) : List UInt8 := [UInt8.ofNat (n / 256).toNat, UInt8.ofNat (n % 256).toNat]
/-- The text of the two bytes. -/
def twoV (n : Int) : ByteArray := ⟨(twoL n).toArray⟩

theorem u8_ofNat (x : Int) (h0 : 0 ≤ x) (h1 : x ≤ 255) : ((UInt8.ofNat x.toNat).toNat : Int) = x := by
 rw [UInt8.toNat_ofNat']; omega

/-- Is a number a word? -/
def isW (n : Int) : Bool := decide (0 ≤ n) && decide (n ≤ 65535)

theorem isW_yes {n : Int} (h0 : 0 ≤ n) (h1 : n ≤ 65535) : isW n = true := by simp [isW, h0, h1]
theorem isW_no {n : Int} (h : ¬ (0 ≤ n ∧ n ≤ 65535)) : isW n = false := by
 rw [Bool.eq_false_iff]; intro hh; simp [isW] at hh; exact h hh

theorem specWordIs_any (n : Int) (w : World) :
  Calls Try.prog 51 #[.int .i64 n] w fun e w' => e = .returned (.bool (isW n)) ∧ w' = w := by
 by_cases h0 : 0 ≤ n
 ·by_cases h1 : n ≤ 65535
  ·have HV : Hid (isW n = true) := isW_yes h0 h1
   go_enter Try.func51, Try.ntmps51
   go_wp2
   go_ret
   exact ⟨ret_bool HV.out.symm, rfl⟩
  ·have HV : Hid (isW n = false) := isW_no (fun h => h1 h.2)
   go_enter Try.func51, Try.ntmps51
   go_wp2
   go_ret
   exact ⟨ret_bool HV.out.symm, rfl⟩
 ·have HV : Hid (isW n = false) := isW_no (fun h => h0 h.1)
  go_enter Try.func51, Try.ntmps51
  go_wp2
  go_ret
  exact ⟨ret_bool HV.out.symm, rfl⟩

theorem implWordIs_any (n : Int) (w : World) :
  Calls Try.prog 43 #[.int .i64 n] w fun e w' => e = .returned (.bool (isW n)) ∧ w' = w := by
 by_cases h0 : 0 ≤ n
 ·by_cases h1 : n ≤ 65535
  ·have HV : Hid (isW n = true) := isW_yes h0 h1
   go_enter Try.func43, Try.ntmps43
   go_wp2
   go_ret
   exact ⟨ret_bool HV.out.symm, rfl⟩
  ·have HV : Hid (isW n = false) := isW_no (fun h => h1 h.2)
   go_enter Try.func43, Try.ntmps43
   go_wp2
   go_ret
   exact ⟨ret_bool HV.out.symm, rfl⟩
 ·have HV : Hid (isW n = false) := isW_no (fun h => h0 h.1)
  go_enter Try.func43, Try.ntmps43
  go_wp2
  go_ret
  exact ⟨ret_bool HV.out.symm, rfl⟩

/-- The bytes of some words, as numbers. -/
def layL : List Int → List Int
 | [] => []
 | n :: r => n / 256 :: n % 256 :: layL r

theorem layL_length (ws : List Int) : (layL ws).length = 2 * ws.length := by
 induction ws with
 | nil => rfl
 | cons n r ih => simp [layL, ih]; omega

theorem layL_append (a : List Int) (n : Int) : layL (a ++ [n]) = layL a ++ [n / 256, n % 256] := by
 induction a with
 | nil => rfl
 | cons m r ih => simp [layL, ih]

theorem lay_step {ws : List Int} {k : Nat} {n : Int} {w2 : World} {B e : Nat} {v : Value} (hn : n = ws.getD k 0) (hk : k < ws.length)
  (h : w2.ownsRow B e 1 v (2 * k + 2) ((layL (ws.take k)).map (Value.int .u8) ++ [Value.int .u8 (n / 256), Value.int .u8 (n % 256)])) :
  w2.ownsRow B e 1 v (2 * (k + 1)) ((layL (ws.take (k + 1))).map (Value.int .u8)) := by
 have e1 : ws.take (k + 1) = ws.take k ++ [n] := by
  rw [List.take_succ_eq_append_getElem hk, hn]; simp [List.getD, hk]
 rw [e1, layL_append, List.map_append]
 exact h

theorem Try.info5 : (Try.prog.info? 5).map (fun i => (i.zero, i.size, i.bytes)) = some (some (.int .u8 0), 1, 1) := by kernel_rfl

end Go.Proofs.Ytgnolcbdojjieaa
