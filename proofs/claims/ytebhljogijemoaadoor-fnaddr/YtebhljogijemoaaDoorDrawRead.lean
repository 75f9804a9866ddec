/- The draws of FnAddr: what spoil, DrawAddrText and DrawAddrRead answer: texts of bounded size. -/
import Derived.Test.YtebhljogijemoaaDoorDrState
import Derived.Test.YtebhljogijemoaaDoorIText6
import Derived.Deep.RegionWith
namespace Go.Proofs.YtebhljogijemoaaDoor
open Go.RowKit Go.PlainAid
set_option linter.unusedVariables false
set_option linter.unusedSimpArgs false

theorem grown_belowR {w wx : World} {B : Nat} (hg : w.grownBy wx (some B)) (hB : w.heap.size ≤ B) : Below w.heap.size w wx := ⟨hg.os, hg.tape, hg.output, hg.size, fun k hk => hg.block k hk (by simp; omega)⟩

theorem drawAddrText_any (a : Option Addr) (len cap : Nat) (w : World) (hl : len ≤ 1048576) (hb : Bytes w a len w.heap.size) :
    Calls Tryd.prog 4 #[.slice a len cap] w fun e w' => ∃ s : ByteArray, e = .returned (.string s) ∧ s.size ≤ 17 ∧ Below w.heap.size w w' := by
  have HB : Hid (Bytes w a len w.heap.size) := hb
  clear hb
  go_enter Tryd.func4, Tryd.ntmps4
  go_wp2_with fail
  refine (source_any a len cap _ hl HB.out).mono ?_
  rintro e w1 ⟨rfl, q1, size, -, -, hs1⟩
  have H1 : Hid (Below w.heap.size w w1) := q1
  have HS : Hid (Src w1 w.heap.size a len cap size) := hs1
  clear q1 hs1
  go_wp2_with fail
  refine (drawAny_any w.heap.size a len cap size _ hl HS.out).mono ?_
  rintro e w2 ⟨s, rfl, h17, _, hg⟩
  have H2 : Hid (Below w.heap.size w w2) := H1.out.trans ⟨hg.os, hg.tape, hg.output, hg.size, fun k hk => hg.block k (Nat.lt_of_lt_of_le hk H1.out.size) (by simp; omega)⟩
  clear hg H1 HS
  go_wp2_with fail
  go_ret
  exact ⟨s, rfl, h17, H2.out⟩

set_option maxRecDepth 100000 in
set_option maxHeartbeats 1000000 in
theorem drawSpoil_any (t : ByteArray) (B : Nat) (a : Option Addr) (len cap : Nat) (size : Int) (w : World) (ht : t.size ≤ 1000) (hl : len ≤ 1048576) (hs : Src w B a len cap size) :
    Calls Tryd.prog 24 #[.pointer (some ⟨B, 0, none⟩), .string t] w fun e w' => ∃ s : ByteArray, e = .returned (.string s) ∧ s.size ≤ 1001 ∧ Src w' B a len cap size ∧ w.grownBy w' (some B) := by
  have D0 : Hid (Dr w B a len cap size w) := Dr.start hs
  clear hs
  go_enter Tryd.func24, Tryd.ntmps24
  go_wp2_with fail
  refine (drawN_any ((t.size : Int) + 1) B a len cap size _ (by omega) hl D0.out.src).mono ?_
  rintro e w1 ⟨r, rfl, r0, r1, hs1, hg1⟩
  obtain ⟨k, rfl⟩ := Int.eq_ofNat_of_zero_le r0
  have hk : k ≤ t.size := by omega
  have D1 : Hid (Dr w B a len cap size w1) := D0.out.draw hs1 hg1
  clear hs1 hg1 r0 r1 D0
  go_wp2_with fail
  refine (drawN_more 17 B a len cap size _ (by omega) (by omega) hl D1.out.src).mono ?_
  rintro e w2 ⟨r, rfl, r0, r1, hs2, hg2⟩
  obtain ⟨m, rfl⟩ := Int.eq_ofNat_of_zero_le r0
  have D2 : Hid (Dr w B a len cap size w2) := D1.out.draw hs2 hg2
  have D3 : Hid (∀ x : Int, Dr w B a len cap size (w2.alloc (.cells #[.int .u8 x] 5))) := fun x => D2.out.alloc _
  have hgb := get_bt (ByteArray.mk #[32, 10, 48, 97, 45, 110, 44, 58, 93, 255, 40, 120, 126, 49, 128, 225, 59])
  have hb0 := bt_nonneg (ByteArray.mk #[32, 10, 48, 97, 45, 110, 44, 58, 93, 255, 40, 120, 126, 49, 128, 225, 59]) m
  have hb1 := bt_le (ByteArray.mk #[32, 10, 48, 97, 45, 110, 44, 58, 93, 255, 40, 120, 126, 49, 128, 225, 59]) m
  have hcv := one_conv (w := w2.alloc (.cells #[.int .u8 (bt (ByteArray.mk #[32, 10, 48, 97, 45, 110, 44, 58, 93, 255, 40, 120, 126, 49, 128, 225, 59]) m)] 5)) (b := w2.heap.size) hb0 hb1 (by simp)
  obtain ⟨x, hx⟩ : ∃ x, bt (ByteArray.mk #[32, 10, 48, 97, 45, 110, 44, 58, 93, 255, 40, 120, 126, 49, 128, 225, 59]) m = x := ⟨_, rfl⟩
  rw [hx] at hb0 hb1 hcv
  obtain ⟨C, hC⟩ : ∃ C, C = ofL [UInt8.ofNat x.toNat] := ⟨_, rfl⟩
  have hCs : C.size = 1 := by rw [hC]; rfl
  rw [← hC] at hcv
  have hX : (t.extract 0 k).size = k := by rw [ByteArray.size_extract]; omega
  have hY : (t.extract k t.size).size = t.size - k := by rw [ByteArray.size_extract]; omega
  have hZ : (t.extract (k + 1) t.size).size = t.size - (k + 1) := by rw [ByteArray.size_extract]; omega
  obtain ⟨X, hXX⟩ : ∃ X, X = t.extract 0 k := ⟨_, rfl⟩
  obtain ⟨Y, hYY⟩ : ∃ Y, Y = t.extract k t.size := ⟨_, rfl⟩
  obtain ⟨Z, hZZ⟩ : ∃ Z, Z = t.extract (k + 1) t.size := ⟨_, rfl⟩
  rw [← hXX] at hX
  rw [← hYY] at hY
  rw [← hZZ] at hZ
  have eX := hXX.symm
  have eY := hYY.symm
  have eZ := hZZ.symm
  have ha1 : ∀ W, (Op.stringOp .add X C).run Tryd.prog W = .ok (.string (X ++ C)) W := fun W => run_string_add_sum W _ _ (by omega)
  have ha2 : ∀ W, (Op.stringOp .add (X ++ C) Y).run Tryd.prog W = .ok (.string (X ++ C ++ Y)) W := fun W => run_string_add_sum W _ _ (by rw [ByteArray.size_append]; omega)
  have ha3 : ∀ W, (Op.stringOp .add X Z).run Tryd.prog W = .ok (.string (X ++ Z)) W := fun W => run_string_add_sum W _ _ (by omega)
  have ha4 : ∀ W, (Op.stringOp .add (X ++ C) Z).run Tryd.prog W = .ok (.string (X ++ C ++ Z)) W := fun W => run_string_add_sum W _ _ (by rw [ByteArray.size_append]; omega)
  have S2 : Hid ((X ++ C ++ Y).size ≤ 1001) := by unfold Hid; rw [ByteArray.size_append, ByteArray.size_append]; omega
  have S3 : Hid (k < t.size → (X ++ Z).size ≤ 1001) := fun h => by rw [ByteArray.size_append]; omega
  have S4 : Hid (k < t.size → (X ++ C ++ Z).size ≤ 1001) := fun h => by rw [ByteArray.size_append, ByteArray.size_append]; omega
  generalize X ++ C ++ Y = R2 at ha2 S2
  generalize X ++ Z = R3 at ha3 S3
  generalize X ++ C ++ Z = R4 at ha4 S4
  generalize X ++ C = XC at ha1 ha2 ha4
  have hk' : (k : Int) ≤ (t.size : Int) := by omega
  clear hs2 hg2 D1 hC hCs hX hY hZ hXX hYY hZZ
  by_cases hke : k = t.size
  · have e1 : ((k : Int) == (t.size : Int)) = true := by simp [hke]
    clear hke S3 S4
    go_wp2_with fail
    go_region
    all_goals
      go_wp2_with fail
      go_ret
      exact ⟨R2, rfl, S2.out, (D3.out _).src.kept (grown_drew (World.grownBy.refl _ none)) (by simp), grown_drew (D3.out _).grown⟩
  · have e1 : ((k : Int) == (t.size : Int)) = false := by simp; omega
    have hkl : k < t.size := by omega
    have hkl' : (k : Int) + 1 ≤ (t.size : Int) := by omega
    clear hke
    go_wp2_with fail
    refine (drawOne_any 3 B a len cap size _ (by omega) hl (D3.out _).src).mono ?_
    rintro e w4 ⟨b, rfl, hs4, hg4⟩
    have D4 : Hid (Dr w B a len cap size w4) := (D3.out _).draw hs4 hg4
    clear hs4 hg4 D3 D2
    cases b with
    | true =>
      go_wp2_with fail
      go_region
      all_goals
        go_wp2_with fail
        go_ret
        exact ⟨R2, rfl, S2.out, D4.out.src.kept (grown_drew (World.grownBy.refl _ none)) (by simp), grown_drew D4.out.grown⟩
    | false =>
      go_wp2_with fail
      refine (drawOne_any 2 B a len cap size _ (by omega) hl D4.out.src).mono ?_
      rintro e w5 ⟨b, rfl, hs5, hg5⟩
      have D5 : Hid (Dr w B a len cap size w5) := D4.out.draw hs5 hg5
      clear hs5 hg5 D4
      cases b with
      | true =>
        go_wp2_with fail
        go_region
        all_goals
          go_wp2_with fail
          go_ret
          exact ⟨R3, rfl, S3.out hkl, D5.out.src.kept (grown_drew (World.grownBy.refl _ none)) (by simp), grown_drew D5.out.grown⟩
      | false =>
        go_wp2_with fail
        go_region
        all_goals
          go_wp2_with fail
          go_ret
          exact ⟨R4, rfl, S4.out hkl, D5.out.src.kept (grown_drew (World.grownBy.refl _ none)) (by simp), grown_drew D5.out.grown⟩

theorem addrTextL_length (s : ByteArray) : (addrTextL s).length ≤ 100 := by
  unfold addrTextL
  split
  · have := fourN_length s 4; omega
  · split
    · have hsum := zerosV_sum s
      by_cases hm : (zerosV s).2 = 0
      · rw [hm, hsum.2 hm, rest_none]
        have := joinG_length s 0 8 (by omega); omega
      · rw [rest_row _ _ _ (by omega) hsum.1]
        have h1 := joinG_length s 0 (zerosV s).1 (by omega)
        have h2 := joinG_length s ((zerosV s).1 + (zerosV s).2) (8 - ((zerosV s).1 + (zerosV s).2)) (by omega)
        simp only [List.length_append, List.length_cons, List.length_nil]
        omega
    · simp

set_option maxRecDepth 100000 in
set_option maxHeartbeats 1000000 in
theorem drawAddrRead_any (a : Option Addr) (len cap : Nat) (w : World) (hl : len ≤ 1048576) (hb : Bytes w a len w.heap.size) :
    Calls Tryd.prog 9 #[.slice a len cap] w fun e w' => ∃ s : ByteArray, e = .returned (.string s) ∧ s.size ≤ 1001 ∧ Below w.heap.size w w' := by
  have HB : Hid (Bytes w a len w.heap.size) := hb
  clear hb
  go_enter Tryd.func9, Tryd.ntmps9
  go_wp2_with fail
  refine (source_any a len cap _ hl HB.out).mono ?_
  rintro e w1 ⟨rfl, q1, size, -, -, hs1⟩
  have H1 : Hid (Below w.heap.size w w1) := q1
  have D1 : Hid (Dr w1 w.heap.size a len cap size w1) := Dr.start hs1
  have HW : Hid (∀ wx, Dr w1 w.heap.size a len cap size wx → Below w.heap.size w wx) := fun wx d => H1.out.trans ⟨d.grown.os, d.grown.tape, d.grown.output, d.grown.size, fun k hk => d.grown.block k (Nat.lt_of_lt_of_le hk H1.out.size) (by simp; omega)⟩
  clear q1 hs1 HB H1
  go_wp2_with fail
  refine (drawAny_any w.heap.size a len cap size _ hl D1.out.src).mono ?_
  rintro e w2 ⟨s, rfl, h17, hs2, hg2⟩
  have D2 : Hid (Dr w1 w.heap.size a len cap size w2) := D1.out.draw hs2 hg2
  clear hs2 hg2 D1
  go_wp2_with fail
  refine (specAddrText_any s _).mono ?_
  rintro e w3 ⟨rfl, q3⟩
  have D3 : Hid (Dr w1 w.heap.size a len cap size w3) := D2.out.below q3
  have hT : (ofL (addrTextL s)).size ≤ 100 := by rw [ofL_size]; exact addrTextL_length s
  generalize ofL (addrTextL s) = T at *
  clear q3 D2 h17
  go_wp2_with fail
  refine (drawN_more 6 w.heap.size a len cap size _ (by omega) (by omega) hl D3.out.src).mono ?_
  rintro e w4 ⟨r, rfl, r0, r1, hs4, hg4⟩
  have D4 : Hid (Dr w1 w.heap.size a len cap size w4) := D3.out.draw hs4 hg4
  clear hs4 hg4 D3
  by_cases c0 : r = 0
  · subst c0
    go_wp2_with fail
    refine (drawSpoil_any T w.heap.size a len cap size _ (by omega) hl D4.out.src).mono ?_
    rintro e w5 ⟨u, rfl, hu, hs5, hg5⟩
    have D5 : Hid (Dr w1 w.heap.size a len cap size w5) := D4.out.draw hs5 hg5
    clear hs5 hg5 D4
    go_wp2_with fail
    go_ret
    exact ⟨u, rfl, hu, HW.out _ D5.out⟩
  · have e0 : (r == 0) = false := by simpa using c0
    by_cases c1 : r = 1
    · subst c1
      clear c0 e0
      have hne : w4.heap.size ≠ w.heap.size := by have := D4.out.hB; have := D4.out.le; omega
      go_wp2_with fail
      refine (drawPick_any (fun s => s.size ≤ 100) w4.heap.size 14 14 w.heap.size a len cap size _ (by omega) (by omega) hne (fun i hi => by
        have h14 : i = 0 ∨ i = 1 ∨ i = 2 ∨ i = 3 ∨ i = 4 ∨ i = 5 ∨ i = 6 ∨ i = 7 ∨ i = 8 ∨ i = 9 ∨ i = 10 ∨ i = 11 ∨ i = 12 ∨ i = 13 := by omega
        rcases h14 with h | h | h | h | h | h | h | h | h | h | h | h | h | h <;> subst h <;> exact ⟨_, by simp; rfl, by decide⟩) hl (D4.out.alloc _).src).mono ?_
      rintro e w5 ⟨u, rfl, hu, hs5, hg5⟩
      have D5 : Hid (Dr w1 w.heap.size a len cap size w5) := (D4.out.alloc _).draw hs5 hg5
      clear hs5 hg5 D4
      go_wp2_with fail
      go_ret
      exact ⟨u, rfl, by omega, HW.out _ D5.out⟩
    · have e1 : (r == 1) = false := by simpa using c1
      clear c0 c1
      go_wp2_with fail
      go_ret
      exact ⟨T, rfl, by omega, HW.out _ D4.out⟩

end Go.Proofs.YtebhljogijemoaaDoor
