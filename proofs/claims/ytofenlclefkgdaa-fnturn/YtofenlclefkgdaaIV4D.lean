/- IV4D: what the program's V4Read answers. Printed by mkiv4d.py. -/
import Derived.Test.YtofenlclefkgdaaIV4R
import Derived.Defers
import Derived.Recover
namespace Go.Proofs.Ytofenlclefkgdaa
open Go.RowKit Go.PlainAid
set_option linter.unusedVariables false
set_option linter.unusedSimpArgs false

set_option maxHeartbeats 1000000 in
/-- The deferred closure of a frame that panics: the panic is recovered, the result told anew. -/
theorem catch4_panicking (O : Nat) (u : TypeId) (pv : Value) (older : List PanicEntry) (w : World) (h : BoxR4 w O) :
  CallsD Try.prog 43 #[.pointer (some ⟨O, 0, none⟩)] (.panicking ({ v := .iface u pv, recovered := false } :: older)) w fun e u' w' =>
   e = .returned (.tuple #[]) ∧ u' = .panicking ({ v := .iface u pv, recovered := true } :: older) ∧ w' = ((((((((((((w.setCell ⟨O, 0, none⟩ (.int .i64 0)).setCell ⟨O, 1, none⟩ (.int .i64 0)).setCell ⟨O, 2, none⟩ (.bool false)).setCell ⟨O, 3, none⟩ (.bool false)).setCell ⟨O, 4, none⟩ (.int .i64 0)).setCell ⟨O, 5, none⟩ (.int .i64 0)).setCell ⟨O, 6, none⟩ (.int .i64 0)).setCell ⟨O, 7, none⟩ (.string ⟨#[]⟩)).setCell ⟨O, 8, none⟩ (.string ⟨#[]⟩)).setCell ⟨O, 9, none⟩ (.string ⟨#[]⟩)).setCell ⟨O, 10, none⟩ (.string ⟨#[]⟩)).setCell ⟨O, 11, none⟩ (.int .i64 4)) := by
 obtain ⟨o0, y0, o1, y1, o2, y2, o3, y3, o4, y4, o5, y5, o6, y6, o7, y7, o8, y8, o9, y9, o10, y10, o11, y11⟩ := h
 refine callsD_of_wpS Try.func43 rfl fun c₀ cs hu => ?_
 apply wpS_seq
 apply wpS_region
 simp [wpOpsS, go_sem, recoverD, hu, Try.ntmps43, Exit.thenS]
 refine wpS_cond (t := true) (by simp [Act.eval, Array.replicate]) ?_
 simp only [if_true]
 apply wpS_region
 simp [wpOpsS, go_sem, o0, y0, o1, y1, o2, y2, o3, y3, o4, y4, o5, y5, o6, y6, o7, y7, o8, y8, o9, y9, o10, y10, o11, y11, bodyPostS, results, Try.results43]

theorem catch4_idle (p : Addr) (w : World) :
  CallsD Try.prog 43 #[.pointer (some p)] .returning w fun e u' w' => e = .returned (.tuple #[]) ∧ u' = .returning ∧ w' = w := by
 refine callsD_of_wpS Try.func43 rfl fun c₀ cs hu => ?_
 apply wpS_seq
 apply wpS_region
 simp [wpOpsS, go_sem, recoverD, hu, Try.ntmps43, Exit.thenS]
 refine wpS_cond (t := false) (by simp [Act.eval, Array.replicate]) ?_
 simp only [Bool.false_eq_true, if_false]
 refine wpS_of_wp (wp_skip ?_)
 cases c₀
 simp_all [bodyPostS, results, Try.results43]

set_option maxRecDepth 100000 in
set_option maxHeartbeats 2000000 in
theorem implV4Read_any (t : ByteArray) (w : World) (hs : t.size ≤ 1048576) :
  Calls Try.prog 22 #[.string t] w fun e w' => e = .returned (p4CO (v4ReadV t) (v4CodeV t)) ∧ Below w.heap.size w w' := by
 have hmf : ∀ (fn : Fn) (first cap : Array Value) (w : World), (Instr.makeFunc fn first cap).run Try.prog w = .ok (.func fn first cap) w := fun _ _ _ _ => rfl
 have q0 : Below w.heap.size w (w.alloc (.cells #[.int .i64 0, .int .i64 0, .bool false, .bool false, .int .i64 0, .int .i64 0, .int .i64 0, .string ⟨#[]⟩, .string ⟨#[]⟩, .string ⟨#[]⟩, .string ⟨#[]⟩, .int .i64 0] 33)) := (Below.refl _ _).alloc (Nat.le_refl _) _
 have x0 := BoxR4.new w (t := 33)
 have hz0 : (w.alloc (.cells #[.int .i64 0, .int .i64 0, .bool false, .bool false, .int .i64 0, .int .i64 0, .int .i64 0, .string ⟨#[]⟩, .string ⟨#[]⟩, .string ⟨#[]⟩, .string ⟨#[]⟩, .int .i64 0] 33)).heap.size = w.heap.size + 1 := by simp
 have Q0 : Hid _ := q0
 have X0 : Hid _ := x0
 have Z0 : Hid _ := hz0
 clear q0 x0 hz0
 have HL : Hid (∀ W, Calls Try.prog 14 #[.string t] W fun e w' => e = .returned (.bool (decide (20000 < t.size))) ∧ w' = W) := fun W => (tooLong_any t W).mono fun e w h => ⟨by rw [h.1, decide_eq_decide.2 (show (20000 : Int) < t.size ↔ 20000 < t.size by omega)], h.2⟩
 by_cases g1 : 20000 < t.size
 ·have HV : Hid (p4CO (v4ReadV t) (v4CodeV t) = zr4 2) := by
   have hc : v4CodeV t = 2 := if_pos g1
   unfold Hid v4ReadV; rw [hc]; rfl
  generalize p4CO (v4ReadV t) (v4CodeV t) = ans at *
  rw [decide_eq_true g1] at HL
  go_enter_defers Try.func22, Try.ntmps22
  go_wp2_with fail
  refine (HL.out _).mono ?_
  rintro e w1 ⟨rfl, rfl⟩
  generalize w.alloc (.cells #[.int .i64 0, .int .i64 0, .bool false, .bool false, .int .i64 0, .int .i64 0, .int .i64 0, .string ⟨#[]⟩, .string ⟨#[]⟩, .string ⟨#[]⟩, .string ⟨#[]⟩, .int .i64 0] 33) = W at *
  obtain ⟨o0, y0, o1, y1, o2, y2, o3, y3, o4, y4, o5, y5, o6, y6, o7, y7, o8, y8, o9, y9, o10, y10, o11, y11⟩ := X0.out
  go_wp2_with fail
  have hbel := fun v0 v1 v2 v3 v4 v5 v6 v7 v8 v9 v10 v11 => ((((((((((((Q0.out.setCell (p := ⟨_, 0, none⟩) (Nat.le_refl _) v0).setCell (p := ⟨_, 1, none⟩) (Nat.le_refl _) v1).setCell (p := ⟨_, 2, none⟩) (Nat.le_refl _) v2).setCell (p := ⟨_, 3, none⟩) (Nat.le_refl _) v3).setCell (p := ⟨_, 4, none⟩) (Nat.le_refl _) v4).setCell (p := ⟨_, 5, none⟩) (Nat.le_refl _) v5).setCell (p := ⟨_, 6, none⟩) (Nat.le_refl _) v6).setCell (p := ⟨_, 7, none⟩) (Nat.le_refl _) v7).setCell (p := ⟨_, 8, none⟩) (Nat.le_refl _) v8).setCell (p := ⟨_, 9, none⟩) (Nat.le_refl _) v9).setCell (p := ⟨_, 10, none⟩) (Nat.le_refl _) v10).setCell (p := ⟨_, 11, none⟩) (Nat.le_refl _) v11)
  simp [bodyPostD, Leaves, settle, results, Try.results22, go_sem, o0, o1, o2, o3, o4, o5, o6, o7, o8, o9, o10, o11]
  exact ⟨by rw [HV.out]; rfl, hbel _ _ _ _ _ _ _ _ _ _ _ _⟩
 ·rw [decide_eq_false g1] at HL
  go_enter_defers Try.func22, Try.ntmps22
  go_wp2_with fail
  refine (HL.out _).mono ?_
  rintro e w1 ⟨rfl, rfl⟩
  generalize w.alloc (.cells #[.int .i64 0, .int .i64 0, .bool false, .bool false, .int .i64 0, .int .i64 0, .int .i64 0, .string ⟨#[]⟩, .string ⟨#[]⟩, .string ⟨#[]⟩, .string ⟨#[]⟩, .int .i64 0] 33) = W at *
  obtain ⟨cap, W2, hcv, hold, hB2, hcp⟩ := bytes_new W t
  have hz := Z0.out
  have hz2 := hB2.size
  have q3 : Below W2.heap.size W2 (W2.alloc (.cells #[.slice (some ⟨W.heap.size, 0, none⟩) t.size cap, .int .i64 0] 76)) := (Below.refl _ _).alloc (Nat.le_refl _) _
  have HW : Hid (Below W.heap.size W (W2.alloc (.cells #[.slice (some ⟨W.heap.size, 0, none⟩) t.size cap, .int .i64 0] 76))) := hB2.trans (q3.mono hz2)
  have hlt : W2.heap.size = W.heap.size + 1 := by
   have := hcv.symm.trans (run_bytes_of_string (P := Try.prog) W 9 22 5 t Try.underlying9 Try.underlying22 Try.underlying5)
   injection this with _ hw
   rw [hw]; simp
  have HC : Hid (CurAt (W2.alloc (.cells #[.slice (some ⟨W.heap.size, 0, none⟩) t.size cap, .int .i64 0] 76)) W2.heap.size W.heap.size cap t 0) := by
   refine ⟨cell_new rfl, by simp, cell_new rfl, by simp, fun i hi => ?_, ?_, ?_, hcp⟩
   ·exact ((bcell q3).1 _ _ (by omega)).trans (hold.get i hi).1
   ·omega
   ·simp; omega
  have HRd : Hid _ := read4_any W.heap.size W2.heap.size W.heap.size cap t (W2.alloc (.cells #[.slice (some ⟨W.heap.size, 0, none⟩) t.size cap, .int .i64 0] 76)) (W2.alloc (.cells #[.slice (some ⟨W.heap.size, 0, none⟩) t.size cap, .int .i64 0] 76)) HC.out (by omega) (Below.refl _ _) hz2 (Nat.le_refl _)
  clear hold hB2 q3 hlt HC hz hz2
  go_wp2_with fail
  refine Calls.mono HRd.out ?_
  rintro e W3 ⟨rfl, q⟩
  have HB3 : Hid (Below W.heap.size W W3) := HW.out.trans q
  have X3 : Hid (BoxR4 W3 w.heap.size) := X0.out.kept HB3.out
  have HB : Hid (Below w.heap.size w W3) := Q0.out.trans (HB3.out.mono (by have := Z0.out; omega))
  clear q HRd HW HB3 X0 Q0 hcv
  by_cases hc : v4CodeV t = 4
  ·have HV : Hid (p4CO (v4ReadV t) (v4CodeV t) = zr4 4) := by
    unfold Hid v4ReadV; rw [hc]; rfl
   rw [end4_short hc]
   have hbel := fun v0 v1 v2 v3 v4 v5 v6 v7 v8 v9 v10 v11 => ((((((((((((HB.out.setCell (p := ⟨_, 0, none⟩) (Nat.le_refl _) v0).setCell (p := ⟨_, 1, none⟩) (Nat.le_refl _) v1).setCell (p := ⟨_, 2, none⟩) (Nat.le_refl _) v2).setCell (p := ⟨_, 3, none⟩) (Nat.le_refl _) v3).setCell (p := ⟨_, 4, none⟩) (Nat.le_refl _) v4).setCell (p := ⟨_, 5, none⟩) (Nat.le_refl _) v5).setCell (p := ⟨_, 6, none⟩) (Nat.le_refl _) v6).setCell (p := ⟨_, 7, none⟩) (Nat.le_refl _) v7).setCell (p := ⟨_, 8, none⟩) (Nat.le_refl _) v8).setCell (p := ⟨_, 9, none⟩) (Nat.le_refl _) v9).setCell (p := ⟨_, 10, none⟩) (Nat.le_refl _) v10).setCell (p := ⟨_, 11, none⟩) (Nat.le_refl _) v11)
   go_wp2_with fail
   refine leaves_cons (f := 43) (args := #[.pointer (some ⟨w.heap.size, 0, none⟩)]) (by simp) (by simp [go_sem]) ?_
   refine (catch4_panicking w.heap.size 9 _ [] _ X3.out).mono ?_
   rintro e u' w'' ⟨rfl, rfl, rfl⟩
   obtain ⟨o0, y0, o1, y1, o2, y2, o3, y3, o4, y4, o5, y5, o6, y6, o7, y7, o8, y8, o9, y9, o10, y10, o11, y11⟩ := X3.out
   simp [Leaves, settle, results, Try.results22, go_sem, o0, o1, o2, o3, o4, o5, o6, o7, o8, o9, o10, o11]
   exact ⟨by rw [HV.out]; rfl, hbel _ _ _ _ _ _ _ _ _ _ _ _⟩
  ·have he : end4 t = .returned (p4CO (v4ReadV t) (v4CodeV t)) := if_neg hc
   obtain ⟨code, hcode⟩ : ∃ c, c = v4CodeV t := ⟨_, rfl⟩
   obtain ⟨q, hq⟩ : ∃ q, q = v4ReadV t := ⟨_, rfl⟩
   have HV : Hid (p4CO (v4ReadV t) (v4CodeV t) = p4CO q code) := by rw [hcode, hq]; rfl
   rw [← hcode, ← hq] at he
   rw [he]
   clear he hc hcode hq
   unfold p4CO
   obtain ⟨o0, y0, o1, y1, o2, y2, o3, y3, o4, y4, o5, y5, o6, y6, o7, y7, o8, y8, o9, y9, o10, y10, o11, y11⟩ := X3.out
   have hbel := fun v0 v1 v2 v3 v4 v5 v6 v7 v8 v9 v10 v11 => ((((((((((((HB.out.setCell (p := ⟨_, 0, none⟩) (Nat.le_refl _) v0).setCell (p := ⟨_, 1, none⟩) (Nat.le_refl _) v1).setCell (p := ⟨_, 2, none⟩) (Nat.le_refl _) v2).setCell (p := ⟨_, 3, none⟩) (Nat.le_refl _) v3).setCell (p := ⟨_, 4, none⟩) (Nat.le_refl _) v4).setCell (p := ⟨_, 5, none⟩) (Nat.le_refl _) v5).setCell (p := ⟨_, 6, none⟩) (Nat.le_refl _) v6).setCell (p := ⟨_, 7, none⟩) (Nat.le_refl _) v7).setCell (p := ⟨_, 8, none⟩) (Nat.le_refl _) v8).setCell (p := ⟨_, 9, none⟩) (Nat.le_refl _) v9).setCell (p := ⟨_, 10, none⟩) (Nat.le_refl _) v10).setCell (p := ⟨_, 11, none⟩) (Nat.le_refl _) v11)
   go_wp2_with fail
   refine leaves_cons (f := 43) (args := #[.pointer (some ⟨w.heap.size, 0, none⟩)]) (by simp) (by simp [go_sem]) ?_
   refine (catch4_idle ⟨w.heap.size, 0, none⟩ _).mono ?_
   rintro e u' w'' ⟨rfl, rfl, rfl⟩
   simp [Leaves, settle, results, Try.results22, go_sem, o0, o1, o2, o3, o4, o5, o6, o7, o8, o9, o10, o11]
   exact ⟨by rw [HV.out]; rfl, hbel _ _ _ _ _ _ _ _ _ _ _ _⟩

end Go.Proofs.Ytofenlclefkgdaa
