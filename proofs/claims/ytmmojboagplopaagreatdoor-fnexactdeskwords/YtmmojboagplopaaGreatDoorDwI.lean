/- DwI: what the program's DeskWords answers: the keys of its orders, sorted. -/
import Derived.Test.YtmmojboagplopaaGreatDoorDwW
import Derived.Test.YtmmojboagplopaaGreatDoorIterD
namespace Go.Proofs.YtmmojboagplopaaGreatDoor
open Go.RowKit Go.Maps Go.Sort Go.Shelf
set_option linter.unusedVariables false
set_option linter.unusedSimpArgs false
theorem wsD_sorted {ss : List (List UInt8)} (h : ss.Perm (strKeys ordersD)) : (ss.mergeSort (fun x y => decide (x ≤ y))).map encStr = flatS strL1 wsD := by
  have e : ss.mergeSort (fun x y => decide (x ≤ y)) = [kBinds, kRoute, kTcp, kTick, kUdp] := by
    rw [ordersD_keys] at h
    have h1 : ss.mergeSort leB = [kBinds, kRoute, kTcp, kTick, kUdp].mergeSort leB := mergeSort_of_perm h
    have h2 : [kBinds, kRoute, kTcp, kTick, kUdp].mergeSort leB = [kBinds, kRoute, kTcp, kTick, kUdp] := by first | exact List.mergeSort_of_pairwise (by decide) | exact List.mergeSort_of_sorted (by decide)
    exact h1.trans h2
  rw [e]
  rfl
theorem wsD_len {ss : List (List UInt8)} (h : ss.Perm (strKeys ordersD)) : ss.length = wsD.length := by
  rw [h.length_eq, ordersD_keys]; rfl
set_option maxRecDepth 100000 in
set_option maxHeartbeats 2000000 in
theorem implWords_any (w : World) :
    Calls Tryz.prog 5 #[] w fun e w' => (∃ a cap, e = .returned (.slice a wsD.length cap) ∧ SlOwn strL1 1 w.heap.size w' a wsD) ∧ Below w.heap.size w w' := by
  refine (callsIn_wide (n := 6)).1 ?_
  have hfO : Fence.wide.fn 11 := trivial
  have hfK : Fence.wide.fn 10 := trivial
  have hfS : Fence.wide.fn 9 := trivial
  refine callsIn_of_wp Tryz.func5 rfl trivial ?_ rfl
  simp only [Tryz.ntmps5, List.size_toArray, List.length_cons, List.length_nil, Nat.reduceAdd, Nat.reduceSub, Array.replicate_succ, Array.replicate_zero, List.push_toArray, List.append_toArray, List.nil_append, List.cons_append]
  gi_wp2_with (first
    | (gi_at_call 11; refine (callsIn_wide.2 (orders_any _)).mono ?_; rintro e w1 ⟨rfl, o1, b1⟩; have O1 : Hid _ := o1; have B1 : Hid _ := b1; clear o1 b1)
    | (gi_at_call 10; refine (Tryz.maps_Keys_10 _ _).mono ?_; rintro e w2 ⟨rfl, rfl⟩)
    | (gi_at_call 9; refine (Tryz.slices_Sorted_keys_9_10 w.heap.size 5 ordersD R5 w1 O1.out (by rw [ordersD_size]; unfold maxLen; omega) (by rw [ordersD_size]; omega)).mono ?_; rintro e w3 ⟨v, ss, rfl, hS, hrow, hnil, hb⟩))
  rw [wsD_sorted hS, wsD_len hS] at hrow
  obtain ⟨a, cap, rfl, _, h1⟩ := Row.shape (en := strL1) (n := 1) (fun _ => rfl) (w0 := w) (w := w3) (base := w.heap.size) ⟨ownsRow_base_a hrow (by have := B1.out.size; simp; omega), B1.out.trans (((Below.refl _ w1).alloc (by have := B1.out.size; omega) _).trans (hb.mono (by have := B1.out.size; simp; omega)))⟩
  go_ret
  exact ⟨⟨a, cap, rfl, h1⟩, B1.out.trans (((Below.refl _ w1).alloc B1.out.size _).trans (hb.mono (by have := B1.out.size; simp; omega)))⟩
end Go.Proofs.YtmmojboagplopaaGreatDoor
