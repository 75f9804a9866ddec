/- SBib2, Ports, SV4, in one text. -/
import Derived.Test.YtilnnihongokealGreatDoorSBib
import Derived.Test.YtilnnihongokealGreatDoorLawSession
import Derived.Deep.DeepCutAuto
import Derived.Test.YtilnnihongokealGreatDoorMerged3
import Derived.Test.YtilnnihongokealGreatDoorMerged2
import Derived.Test.YtilnnihongokealGreatDoorMerged1
import Derived.BigQuiet

/- SBib2: what the specification's BindOf, BindAt, l08Has answer. Printed by mksbib2.py. -/
namespace Go.Proofs.YtilnnihongokealGreatDoor
open Go.RowKit Go.PlainAid
set_option linter.unusedVariables false
set_option linter.unusedSimpArgs false

def bdZ : Bd := ⟨0, ⟨#[]⟩, 0, ⟨#[]⟩, 0⟩
theorem findBd_at (f : Bd → Bool) (xs : List Bd) (h : ¬ findI f xs < 0) : ∃ i : Nat, ∃ hi : i < xs.length, findI f xs = i ∧ xs.find? f = some xs[i] := by
 unfold findI at *
 cases hf : xs.findIdx? f with
 | none => rw [hf] at h; exact absurd (by decide) h
 | some i =>
  obtain ⟨hi, hfi, hn⟩ := List.findIdx?_eq_some_iff_getElem.1 hf
  exact ⟨i, hi, rfl, List.find?_eq_some_iff_getElem.2 ⟨hfi, i, hi, rfl, fun j hj => by simpa using hn j hj⟩⟩
theorem find_no (f : Bd → Bool) (xs : List Bd) (h : findI f xs < 0) : xs.find? f = none := by
 unfold findI at h
 cases hf : xs.findIdx? f with
 | none => exact List.find?_eq_none.2 (fun x hx => by have := List.findIdx?_eq_none_iff.1 hf x hx; simp [this])
 | some i => rw [hf] at h; simp only at h; omega

set_option maxRecDepth 100000 in
set_option maxHeartbeats 1000000 in
theorem spHas_any (p : Bd) (q : Ss) (w : World) :
  Calls Tryz.prog 54 #[bdC p, ssC q] w fun e w' => e = .returned (.bool (hasS p q)) ∧ Below w.heap.size w w' := by
 have HV : Hid (hasS p q = (decide (p.proto = q.proto) && decide (p.inn.toList = q.inn.toList) && decide (p.inPort = q.inPort))) := rfl
 generalize hasS p q = ans at *
 obtain ⟨proto, inn, inPort, out, outPort⟩ := p
 obtain ⟨proto', inn', inPort', peer', peerPort', state', untl'⟩ := q
 unfold bdC ssC
 dsimp only at *
 have HZ : Hid (∀ o1 o2, Below w.heap.size w ((w.alloc o1).alloc o2)) := fun o1 o2 => ((Below.refl _ _).alloc (Nat.le_refl _) _).alloc (by simp) _
 go_enter Tryz.func54, Tryz.ntmps54
 go_wp2_with fail
 all_goals go_ret
 all_goals exact ⟨ret_bool (by rw [HV.out]; simp_all; try rfl), HZ.out _ _⟩
end Go.Proofs.YtilnnihongokealGreatDoor

/- Ports: the port that is lent (chapter 9), as plain functions for both sides. -/
namespace Go.Proofs.YtilnnihongokealGreatDoor
open Go.RowKit
set_option linter.unusedVariables false
set_option linter.unusedSimpArgs false

def ofHost (inn : ByteArray) (c : Bd) : Bool := decide (c.inn.toList = inn.toList)
def outD (p : Pl) (inn : ByteArray) : ByteArray := (p.addrs[(sumV inn).toNat % p.addrs.length]?).getD ⟨#[]⟩
def outIn (xs : List Bd) (d inn : ByteArray) : ByteArray := match xs.find? (ofHost inn) with | some c => c.out | none => d
def freeP (xs : List Bd) (proto : Int) (out : ByteArray) (n : Int) : Bool := decide (findI (ofOut proto out n) xs < 0)
def leastN (f : Int → Bool) : Int → Nat → Option Int
 | _, 0 => none
 | lo, c + 1 => if f lo = true then some lo else leastN f (lo + 1) c
def lendN (p : Pl) (xs : List Bd) (proto : Int) (out : ByteArray) (port : Int) : Option Int :=
 if (isIn port p.low p.high && freeP xs proto out port) = true then some port
 else match leastN (fun n => decide (n % 2 = port % 2) && freeP xs proto out n) p.low (p.high - p.low + 1).toNat with
  | some n => some n
  | none => leastN (freeP xs proto out) p.low (p.high - p.low + 1).toNat
def lendV (p : Pl) (xs : List Bd) (proto : Int) (inn : ByteArray) (port : Int) : Bd × Int :=
 match xs.find? (ofIn proto inn port) with
 | some c => (c, 0)
 | none => match lendN p xs proto (outIn xs (outD p inn) inn) port with
  | some n => (⟨proto, inn, port, outIn xs (outD p inn) inn, n⟩, 0)
  | none => (bdZ, 9)

theorem leastN_step {f : Int → Bool} {n hi : Int} (h : n ≤ hi) : leastN f n (hi - n + 1).toNat = if f n = true then some n else leastN f (n + 1) (hi - (n + 1) + 1).toNat := by
 obtain ⟨c, hc⟩ : ∃ c : Nat, (hi - n + 1).toNat = c + 1 := ⟨(hi - n).toNat, by omega⟩
 rw [hc]
 show (if f n = true then some n else leastN f (n + 1) c) = _
 rw [show (hi - (n + 1) + 1).toNat = c by omega]
theorem leastN_end {f : Int → Bool} {n hi : Int} (h : hi < n) : leastN f n (hi - n + 1).toNat = none := by
 rw [show (hi - n + 1).toNat = 0 by omega]; rfl
theorem outIn_step {xs : List Bd} {d inn : ByteArray} {i : Nat} (h : i < xs.length) : outIn (xs.drop i) d inn = if ofHost inn xs[i] = true then xs[i].out else outIn (xs.drop (i + 1)) d inn := by
 unfold outIn
 rw [List.drop_eq_getElem_cons h, List.find?_cons]
 cases hb : ofHost inn xs[i] <;> simp

end Go.Proofs.YtilnnihongokealGreatDoor

/- SV4: what the specification's l01Is, l01Byte and V4Right answer. -/
namespace Go.Proofs.YtilnnihongokealGreatDoor
open Go.RowKit Go.PlainAid
set_option linter.unusedVariables false
set_option linter.unusedSimpArgs false

theorem specIs_any (n lo hi : Int) (w : World) :
  Calls Tryz.prog 96 #[.int .i64 n, .int .i64 lo, .int .i64 hi] w fun e w' => e = .returned (.bool (isIn n lo hi)) ∧ w' = w := by
 by_cases h1 : lo ≤ n
 ·by_cases h2 : n ≤ hi
  ·have HV : Hid (isIn n lo hi = true) := by unfold Hid isIn; simp [h1, h2]
   go_enter Tryz.func96, Tryz.ntmps96
   go_wp2_with fail
   go_ret
   exact ⟨ret_bool (by rw [HV.out]), rfl⟩
  ·have HV : Hid (isIn n lo hi = false) := by unfold Hid isIn; simp [h2]
   go_enter Tryz.func96, Tryz.ntmps96
   go_wp2_with fail
   go_ret
   exact ⟨ret_bool (by rw [HV.out]), rfl⟩
 ·have HV : Hid (isIn n lo hi = false) := by unfold Hid isIn; simp [h1]
  have h1' : n < lo := by omega
  go_enter Tryz.func96, Tryz.ntmps96
  go_wp2_with fail
  go_ret
  exact ⟨ret_bool (by rw [HV.out]), rfl⟩

theorem specByte_any (n : Int) (w : World) :
  Calls Tryz.prog 58 #[.int .i64 n] w fun e w' => e = .returned (.bool (isIn n 0 255)) ∧ w' = w := by
 have HC : Hid (∀ W, Calls Tryz.prog 96 #[.int .i64 n, .int .i64 0, .int .i64 255] W fun e w' => e = .returned (.bool (isIn n 0 255)) ∧ w' = W) := fun W => specIs_any n 0 255 W
 generalize isIn n 0 255 = b at *
 go_enter Tryz.func58, Tryz.ntmps58
 go_wp2_with fail
 refine (HC.out _).mono ?_
 rintro e w2 ⟨rfl, rfl⟩
 go_wp2_with fail
 go_ret
 exact ⟨rfl, rfl⟩


end Go.Proofs.YtilnnihongokealGreatDoor
