/- Addresses read: what the specification's AddrRead answers. -/
import Derived.Test.YtebhljogijemoaaDoorSSix
import Derived.Test.YtebhljogijemoaaDoorReadMath
namespace Go.Proofs.YtebhljogijemoaaDoor
open Go.RowKit Go.PlainAid
set_option linter.unusedVariables false
set_option linter.unusedSimpArgs false

/-- What AddrRead answers: the address, and the code. -/
def addrReadV (l : List UInt8) : ByteArray × Int := if 20000 < l.length then (⟨#[]⟩, 2) else match finV (readS l) l with
  | some a => (ofL a, 0)
  | none => (⟨#[]⟩, 3)

theorem addrReadV_big {l : List UInt8} (h : 20000 < l.length) : addrReadV l = (⟨#[]⟩, 2) := if_pos h
theorem addrReadV_some {l a : List UInt8} (h : ¬ 20000 < l.length) (hf : finV (readS l) l = some a) : addrReadV l = (ofL a, 0) := by unfold addrReadV; rw [if_neg h, hf]
theorem addrReadV_none {l : List UInt8} (h : ¬ 20000 < l.length) (hf : finV (readS l) l = none) : addrReadV l = (⟨#[]⟩, 3) := by unfold addrReadV; rw [if_neg h, hf]

theorem fin_yes {r : List UInt8} {l : List UInt8} (h : addrTextL (ofL r) = l) : finV (some r) l = some r := by unfold finV; exact if_pos h
theorem fin_no {r : List UInt8} {l : List UInt8} (h : ¬ addrTextL (ofL r) = l) : finV (some r) l = none := by unfold finV; exact if_neg h

/-- The box of an answer, in a later world. -/
theorem out_box {w wx : World} {t1 : TypeId} (h : Below (w.heap.size + 1) (w.alloc (.cells #[.string ⟨#[]⟩, .int .i64 0] t1)) wx) :
    wx.cell? ⟨w.heap.size, 0, none⟩ = some (.string ⟨#[]⟩) ∧ wx.cell? ⟨w.heap.size, 1, none⟩ = some (.int .i64 0) ∧ wx.frozen? ⟨w.heap.size, 0, none⟩ = false ∧ wx.frozen? ⟨w.heap.size, 1, none⟩ = false ∧ w.heap.size + 1 ≤ wx.heap.size ∧ Below w.heap.size w wx := by
  refine ⟨?_, ?_, ?_, ?_, Nat.le_trans (by simp) h.size, ((Below.refl _ w).alloc (Nat.le_refl _) _).trans (h.mono (by omega))⟩
  · rw [h.cell (p := ⟨w.heap.size, 0, none⟩) (show w.heap.size < w.heap.size + 1 by omega)]; simp
  · rw [h.cell (p := ⟨w.heap.size, 1, none⟩) (show w.heap.size < w.heap.size + 1 by omega)]; simp
  · rw [h.frozen (p := ⟨w.heap.size, 0, none⟩) (show w.heap.size < w.heap.size + 1 by omega)]; simp
  · rw [h.frozen (p := ⟨w.heap.size, 1, none⟩) (show w.heap.size < w.heap.size + 1 by omega)]; simp
theorem out_keep {w wx : World} {o : Obj} (h : Below (w.alloc o).heap.size (w.alloc o) wx) : Below (w.heap.size + 1) (w.alloc o) wx := h.mono (by simp)
theorem out_next {w wx wy : World} {o : Obj} (h : Below (w.heap.size + 1) (w.alloc o) wx) (h2 : Below wx.heap.size wx wy) : Below (w.heap.size + 1) (w.alloc o) wy := h.trans (h2.mono (Nat.le_trans (by simp) h.size))

set_option maxRecDepth 100000 in
set_option maxHeartbeats 1000000 in
theorem specAddrReadL_any (l : List UInt8) (w : World) (hm : (ofL l).size ≤ maxLen) :
    Calls Tryd.prog 10 #[.string (ofL l)] w fun e w' => e = .returned (.agg #[.string (addrReadV l).1, .int .i64 (addrReadV l).2]) ∧ Below w.heap.size w w' := by
  have hsz := ofL_size l
  have hdl : (ofL l).data.toList = l := by simp [ofL]
  unfold maxLen at hm
  rw [hsz] at hm
  by_cases hbig : 20000 < l.length
  · have HV : Hid _ := addrReadV_big hbig
    have hb' : (20000 : Int) < (l.length : Int) := by omega
    go_enter Tryd.func10, Tryd.ntmps10
    go_wp2_with fail
    exact bodyPost_ret (v := .agg #[.string ⟨#[]⟩, .int .i64 2]) (by simp [results, Tryd.results10, go_sem]) rfl ⟨by rw [HV.out], (Below.refl _ _).alloc (Nat.le_refl _) _⟩
  · have hb' : ¬ (20000 : Int) < (l.length : Int) := by omega
    have HF4 : Hid (∀ W, Calls Tryd.prog 26 #[.string (ofL l)] W fun e w' => ReadsAs (fourS l) e ∧ Below W.heap.size W w') := fun W => by have := specFour_any (ofL l) W (by omega); rw [hdl] at this; exact this
    have HF6 : Hid (∀ W, Calls Tryd.prog 27 #[.string (ofL l)] W fun e w' => ReadsAs (sixS l) e ∧ Below W.heap.size W w') := fun W => by have := specSix_any (ofL l) W (by omega); rw [hdl] at this; exact this
    have HBIG : Hid (¬ 20000 < l.length) := hbig
    have HAT : Hid (∀ (r : List UInt8) W, Calls Tryd.prog 6 #[.string (ofL r)] W fun e w' => e = .returned (.string (ofL (addrTextL (ofL r)))) ∧ Below W.heap.size W w') := fun r W => specAddrText_any (ofL r) W
    clear hbig hdl
    go_enter Tryd.func10, Tryd.ntmps10
    go_wp2_with fail
    refine (HF4.out _).mono ?_
    rintro e w1 ⟨⟨r, b, rfl, hV⟩, hB⟩
    have HX : Hid _ := out_keep hB
    have HV : Hid _ := hV
    clear hB hV
    cases b with
    | true =>
      have HR : Hid (readS l = some r) := by unfold Hid readS; rw [HV.out]; rfl
      go_wp2_with fail
      refine (HAT.out r _).mono ?_
      rintro e w2 ⟨rfl, hB2⟩
      have HX2 : Hid _ := out_next HX.out hB2
      obtain ⟨k0, k1, k2, k3, k4, k5⟩ := out_box HX2.out
      have HB2 : Hid _ := k5
      clear hB2 HX k5
      by_cases he : addrTextL (ofL r) = l
      · have HA : Hid _ := addrReadV_some HBIG.out (by rw [HR.out]; exact fin_yes he)
        rw [he]
        clear he
        go_wp2_with fail
        exact bodyPost_ret (v := .agg #[.string (ofL r), .int .i64 0]) (by simp [results, Tryd.results10, go_sem, k0, k1, k2, k3]) rfl ⟨by rw [HA.out], (HB2.out.setCell (by simp) _).setCell (by simp) _⟩
      · have HA : Hid _ := addrReadV_none HBIG.out (by rw [HR.out]; exact fin_no he)
        generalize addrTextL (ofL r) = A at he ⊢
        have e1 : (A == l) = false := by simpa using he
        have e2 : (A != l) = true := by simpa using he
        have g1 := ofL_toList A
        have g2 := ofL_toList l
        go_wp2_with fail
        exact bodyPost_ret (v := .agg #[.string ⟨#[]⟩, .int .i64 3]) (by simp [results, Tryd.results10, go_sem, k0, k1, k2, k3]) rfl ⟨by rw [HA.out], (HB2.out.setCell (by simp) _).setCell (by simp) _⟩
    | false =>
      go_wp2_with fail
      refine (HF6.out _).mono ?_
      rintro e w3 ⟨⟨r, b, rfl, hV3⟩, hB3⟩
      have HX3 : Hid _ := out_next HX.out hB3
      have HV3 : Hid _ := hV3
      clear hB3 hV3 HX
      cases b with
      | true =>
        have HR : Hid (readS l = some r) := by unfold Hid readS; rw [HV.out]; exact HV3.out
        go_wp2_with fail
        refine (HAT.out r _).mono ?_
        rintro e w2 ⟨rfl, hB2⟩
        have HX2 : Hid _ := out_next HX3.out hB2
        obtain ⟨k0, k1, k2, k3, k4, k5⟩ := out_box HX2.out
        have HB2 : Hid _ := k5
        clear hB2 HX3 k5
        by_cases he : addrTextL (ofL r) = l
        · have HA : Hid _ := addrReadV_some HBIG.out (by rw [HR.out]; exact fin_yes he)
          rw [he]
          clear he
          go_wp2_with fail
          exact bodyPost_ret (v := .agg #[.string (ofL r), .int .i64 0]) (by simp [results, Tryd.results10, go_sem, k0, k1, k2, k3]) rfl ⟨by rw [HA.out], (HB2.out.setCell (by simp) _).setCell (by simp) _⟩
        · have HA : Hid _ := addrReadV_none HBIG.out (by rw [HR.out]; exact fin_no he)
          generalize addrTextL (ofL r) = A at he ⊢
          have e1 : (A == l) = false := by simpa using he
          have e2 : (A != l) = true := by simpa using he
          have g1 := ofL_toList A
          have g2 := ofL_toList l
          go_wp2_with fail
          exact bodyPost_ret (v := .agg #[.string ⟨#[]⟩, .int .i64 3]) (by simp [results, Tryd.results10, go_sem, k0, k1, k2, k3]) rfl ⟨by rw [HA.out], (HB2.out.setCell (by simp) _).setCell (by simp) _⟩
      | false =>
        have HR : Hid (readS l = none) := by unfold Hid readS; rw [HV.out]; exact HV3.out
        have HA : Hid _ := addrReadV_none HBIG.out (by rw [HR.out]; rfl)
        obtain ⟨k0, k1, k2, k3, k4, k5⟩ := out_box HX3.out
        have HB2 : Hid _ := k5
        clear HX3 k5
        go_wp2_with fail
        exact bodyPost_ret (v := .agg #[.string ⟨#[]⟩, .int .i64 3]) (by simp [results, Tryd.results10, go_sem, k0, k1, k2, k3]) rfl ⟨by rw [HA.out], (HB2.out.setCell (by simp) _).setCell (by simp) _⟩

end Go.Proofs.YtebhljogijemoaaDoor
