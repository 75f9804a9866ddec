/- Addresses read: what the program's AddrRead answers. -/
import Derived.Test.YtebhljogijemoaaDoorIRead4
namespace Go.Proofs.YtebhljogijemoaaDoor
open Go.RowKit Go.PlainAid
set_option linter.unusedVariables false
set_option linter.unusedSimpArgs false

set_option maxRecDepth 100000 in
set_option maxHeartbeats 1000000 in
theorem implAddrReadL_any (l : List UInt8) (w : World) (hE : Env w) (hm : (ofL l).size ≤ maxLen) :
    Calls Tryd.prog 8 #[.string (ofL l)] w fun e w' => e = .returned (.agg #[.string (addrReadV l).1, .int .i64 (addrReadV l).2]) ∧ Below w.heap.size w w' := by
  have hsz := ofL_size l
  have hdl : (ofL l).data.toList = l := by simp [ofL]
  unfold maxLen at hm
  rw [hsz] at hm
  by_cases hbig : 20000 < l.length
  · have HV : Hid _ := addrReadV_big hbig
    have hb' : (20000 : Int) < (l.length : Int) := by omega
    go_enter Tryd.func8, Tryd.ntmps8
    go_wp2_with (go_at_call 20; go_in)
    exact bodyPost_ret (v := .agg #[.string ⟨#[]⟩, .int .i64 2]) (by simp [results, Tryd.results8, go_sem]) rfl ⟨by rw [HV.out], (Below.refl _ _).alloc (Nat.le_refl _) _⟩
  · have hb' : ¬ (20000 : Int) < (l.length : Int) := by omega
    have HE : Hid (Env w) := hE
    have HF6 : Hid (∀ W, Calls Tryd.prog 21 #[.string (ofL l)] W fun e w' => ReadsAs (sixI l) e ∧ Below W.heap.size W w') := fun W => implSix_any l W (by omega)
    have HF4 : Hid (∀ W, Below w.heap.size w W → Calls Tryd.prog 22 #[.string (ofL l)] W fun e w' => ReadsAs (fourI l) e ∧ Below W.heap.size W w') := fun W hW => implFour_any l W (hE.below hW) (by omega)
    have HBIG : Hid (¬ 20000 < l.length) := hbig
    have HAT : Hid (∀ (r : List UInt8) W, Below w.heap.size w W → Calls Tryd.prog 5 #[.string (ofL r)] W fun e w' => e = .returned (.string (ofL (addrTextL (ofL r)))) ∧ Below W.heap.size W w') := fun r W hW => implAddrText_any (ofL r) W (hE.below hW).tab (fun W2 h2 => cell_below (hE.below hW).tz h2)
    clear hbig hdl hE
    go_enter Tryd.func8, Tryd.ntmps8
    go_wp2_with (go_at_call 20; go_in)
    refine (HF6.out _).mono ?_
    rintro e w1 ⟨⟨r, b, rfl, hV⟩, hB⟩
    have HX : Hid _ := out_keep hB
    have HV : Hid _ := hV
    clear hB hV
    cases b with
    | true =>
      have HR : Hid (readI l = some r) := by unfold Hid readI; rw [HV.out]; rfl
      go_wp2_with (go_at_call 20; go_in)
      refine (HAT.out r _ (out_box HX.out).2.2.2.2.2).mono ?_
      rintro e w2 ⟨rfl, hB2⟩
      have HX2 : Hid _ := out_next HX.out hB2
      obtain ⟨k0, k1, k2, k3, k4, k5⟩ := out_box HX2.out
      have HB2 : Hid _ := k5
      clear hB2 HX k5
      by_cases he : addrTextL (ofL r) = l
      · have HA : Hid _ := addrReadV_some HBIG.out (by rw [← fin_same, HR.out]; exact fin_yes he)
        rw [he]
        clear he
        go_wp2_with (go_at_call 20; go_in)
        exact bodyPost_ret (v := .agg #[.string (ofL r), .int .i64 0]) (by simp [results, Tryd.results8, go_sem, k0, k1, k2, k3]) rfl ⟨by rw [HA.out], (HB2.out.setCell (by simp) _).setCell (by simp) _⟩
      · have HA : Hid _ := addrReadV_none HBIG.out (by rw [← fin_same, HR.out]; exact fin_no he)
        generalize addrTextL (ofL r) = A at he ⊢
        have e1 : (A == l) = false := by simpa using he
        have e2 : (A != l) = true := by simpa using he
        have g1 := ofL_toList A
        have g2 := ofL_toList l
        go_wp2_with (go_at_call 20; go_in)
        exact bodyPost_ret (v := .agg #[.string ⟨#[]⟩, .int .i64 3]) (by simp [results, Tryd.results8, go_sem, k0, k1, k2, k3]) rfl ⟨by rw [HA.out], (HB2.out.setCell (by simp) _).setCell (by simp) _⟩
    | false =>
      go_wp2_with (go_at_call 20; go_in)
      refine (HF4.out _ (out_box HX.out).2.2.2.2.2).mono ?_
      rintro e w3 ⟨⟨r, b, rfl, hV3⟩, hB3⟩
      have HX3 : Hid _ := out_next HX.out hB3
      have HV3 : Hid _ := hV3
      clear hB3 hV3 HX
      cases b with
      | true =>
        have HR : Hid (readI l = some r) := by unfold Hid readI; rw [HV.out]; exact HV3.out
        go_wp2_with (go_at_call 20; go_in)
        refine (HAT.out r _ (out_box HX3.out).2.2.2.2.2).mono ?_
        rintro e w2 ⟨rfl, hB2⟩
        have HX2 : Hid _ := out_next HX3.out hB2
        obtain ⟨k0, k1, k2, k3, k4, k5⟩ := out_box HX2.out
        have HB2 : Hid _ := k5
        clear hB2 HX3 k5
        by_cases he : addrTextL (ofL r) = l
        · have HA : Hid _ := addrReadV_some HBIG.out (by rw [← fin_same, HR.out]; exact fin_yes he)
          rw [he]
          clear he
          go_wp2_with (go_at_call 20; go_in)
          exact bodyPost_ret (v := .agg #[.string (ofL r), .int .i64 0]) (by simp [results, Tryd.results8, go_sem, k0, k1, k2, k3]) rfl ⟨by rw [HA.out], (HB2.out.setCell (by simp) _).setCell (by simp) _⟩
        · have HA : Hid _ := addrReadV_none HBIG.out (by rw [← fin_same, HR.out]; exact fin_no he)
          generalize addrTextL (ofL r) = A at he ⊢
          have e1 : (A == l) = false := by simpa using he
          have e2 : (A != l) = true := by simpa using he
          have g1 := ofL_toList A
          have g2 := ofL_toList l
          go_wp2_with (go_at_call 20; go_in)
          exact bodyPost_ret (v := .agg #[.string ⟨#[]⟩, .int .i64 3]) (by simp [results, Tryd.results8, go_sem, k0, k1, k2, k3]) rfl ⟨by rw [HA.out], (HB2.out.setCell (by simp) _).setCell (by simp) _⟩
      | false =>
        have HR : Hid (readI l = none) := by unfold Hid readI; rw [HV.out]; exact HV3.out
        have HA : Hid _ := addrReadV_none HBIG.out (by rw [← fin_same, HR.out]; rfl)
        obtain ⟨k0, k1, k2, k3, k4, k5⟩ := out_box HX3.out
        have HB2 : Hid _ := k5
        clear HX3 k5
        go_wp2_with (go_at_call 20; go_in)
        exact bodyPost_ret (v := .agg #[.string ⟨#[]⟩, .int .i64 3]) (by simp [results, Tryd.results8, go_sem, k0, k1, k2, k3]) rfl ⟨by rw [HA.out], (HB2.out.setCell (by simp) _).setCell (by simp) _⟩

end Go.Proofs.YtebhljogijemoaaDoor
