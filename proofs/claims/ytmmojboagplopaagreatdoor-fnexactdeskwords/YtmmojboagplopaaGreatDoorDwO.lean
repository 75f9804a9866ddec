/- DwO: the program's orders: a map with a row for each of the five words. -/
import Derived.Test.YtmmojboagplopaaGreatDoorLawStrS
import Derived.Maps.Own
import Derived.Sort.KeysCollected
namespace Go.Proofs.YtmmojboagplopaaGreatDoor
open Go.RowKit Go.Maps Go.Sort
set_option linter.unusedVariables false
set_option linter.unusedSimpArgs false
/-- What an order reads as: nothing of it is asked. -/
def R5 : Value → Option (DataW Unit × List MemPlace) := fun _ => some (.nil, [])
def kBinds : List UInt8 := [98, 105, 110, 100, 115]
def kRoute : List UInt8 := [114, 111, 117, 116, 101]
def kTcp : List UInt8 := [116, 99, 112]
def kTick : List UInt8 := [116, 105, 99, 107]
def kUdp : List UInt8 := [117, 100, 112]
def ordersD : DataW Unit := (((((DataW.map []).put (.string kRoute) .nil).put (.string kUdp) .nil).put (.string kTcp) .nil).put (.string kTick) .nil).put (.string kBinds) .nil
theorem ordersD_keys : strKeys ordersD = [kBinds, kRoute, kTcp, kTick, kUdp] := by kernel_rfl
theorem ordersD_size : Maps.size ordersD = 5 := by kernel_rfl
set_option maxRecDepth 100000 in
set_option maxHeartbeats 2000000 in
theorem orders_any (w : World) :
    Calls Tryz.prog 11 #[] w fun e w' => e = .returned (.map (some w.heap.size)) ∧ w'.ownsMap Tryz.prog 9 R5 w.heap.size 5 ordersD ∧ Below w.heap.size w w' := by
  have K : Keyed Tryz.prog 9 := string_keyed Tryz.underlying9
  have h0 := World.ownsMap_made w Tryz.prog 9 R5
  have hmm1 := run_makeMap (P := Tryz.prog) 31 w
  obtain ⟨w1, r1, o1, g1⟩ := h0.update (key := .string ⟨#[114, 111, 117, 116, 101]⟩) (val := .agg #[.string ⟨#[65, 78, 78]⟩, .func (.func 16) #[] #[]]) (kl := .string kRoute) (d := .nil) (ps := []) K Tryz.underlying31 (by unfold maxLen; omega) (by kernel_rfl) rfl
  obtain ⟨w2, r2, o2, g2⟩ := o1.update (key := .string ⟨#[117, 100, 112]⟩) (val := .agg #[.string ⟨#[87, 65, 78, 65, 78]⟩, .func (.func 17) #[] #[]]) (kl := .string kUdp) (d := .nil) (ps := []) K Tryz.underlying31 (by unfold maxLen; omega) (by kernel_rfl) rfl
  obtain ⟨w3, r3, o3, g3⟩ := o2.update (key := .string ⟨#[116, 99, 112]⟩) (val := .agg #[.string ⟨#[87, 65, 78, 65, 78, 78]⟩, .func (.func 18) #[] #[]]) (kl := .string kTcp) (d := .nil) (ps := []) K Tryz.underlying31 (by unfold maxLen; omega) (by kernel_rfl) rfl
  obtain ⟨w4, r4, o4, g4⟩ := o3.update (key := .string ⟨#[116, 105, 99, 107]⟩) (val := .agg #[.string ⟨#[78]⟩, .func (.func 19) #[] #[]]) (kl := .string kTick) (d := .nil) (ps := []) K Tryz.underlying31 (by unfold maxLen; omega) (by kernel_rfl) rfl
  obtain ⟨w5, r5, o5, g5⟩ := o4.update (key := .string ⟨#[98, 105, 110, 100, 115]⟩) (val := .agg #[.string ⟨#[]⟩, .func (.func 20) #[] #[]]) (kl := .string kBinds) (d := .nil) (ps := []) K Tryz.underlying31 (by unfold maxLen; omega) (by kernel_rfl) rfl
  have HO : Hid _ := o5
  have bel : ∀ {u v : World}, Below w.heap.size w u → u.grownBy v (some w.heap.size) → Below w.heap.size w v := fun h g => ⟨g.os.trans h.os, g.tape.trans h.tape, g.output.trans h.output, Nat.le_trans h.size g.size, fun k hk => by rw [g.block k (Nat.lt_of_lt_of_le hk h.size) (by simp; omega), h.block k hk]⟩
  have HB : Hid (Below w.heap.size w w5) := bel (bel (bel (bel (bel ((Below.refl _ _).alloc (Nat.le_refl _) _) g1) g2) g3) g4) g5
  clear h0 o1 o2 o3 o4 o5 g1 g2 g3 g4 g5 bel K
  go_enter Tryz.func11, Tryz.ntmps11
  go_wp2_with fail
  go_ret
  exact ⟨rfl, HO.out, HB.out⟩
end Go.Proofs.YtmmojboagplopaaGreatDoor
