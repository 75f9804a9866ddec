/- DrawPk: packets drawn, their bytes, spoilt. -/
import Derived.Test.YtaoolicfjpaggaaDrawV4
import Derived.Test.YtaoolicfjpaggaaDrawV6
import Derived.Test.YtaoolicfjpaggaaSV4B
import Derived.Test.YtaoolicfjpaggaaSV6B
import Derived.Test.YtaoolicfjpaggaaText
import Derived.Deep.RegionWith
namespace Go.Proofs.Ytaoolicfjpaggaa
open Go.RowKit Go.PlainAid
set_option linter.unusedVariables false
set_option linter.unusedSimpArgs false

theorem grown_belowP {w wx : World} {B : Nat} (hg : w.grownBy wx (some B)) {n : Nat} (hn : n ≤ w.heap.size) (hB : n ≤ B) : Below n w wx := ⟨hg.os, hg.tape, hg.output, hg.size, fun k hk => hg.block k (by omega) (by simp; omega)⟩
theorem Bd4.sm {p : P4} (h : Bd4 p) : P4Sm p ∧ P4Wf p := by
  unfold Bd4 In64t at h; unfold P4Sm P4Wf In64t maxLen; omega
theorem Bd6.sm {p : P6} (h : Bd6 p) : P6Sm p ∧ P6Wf p := by
  unfold Bd6 In64t at h; unfold P6Sm P6Wf In64t maxLen; omega
theorem v4Bytes_size {p : P4} (h : Bd4 p) : (v4BytesV p).size ≤ 7000 := by
  unfold Bd4 In64t at h
  unfold v4BytesV
  split
  · unfold v4Raw headA headB; simp only [ByteArray.size_append, pairV_size, twoV_size]; omega
  · exact Nat.zero_le _
theorem v6Bytes_size {p : P6} (h : Bd6 p) : (v6BytesV p).size ≤ 7000 := by
  unfold Bd6 In64t at h
  unfold v6BytesV
  split
  · unfold v6Raw restV; split <;> simp only [ByteArray.size_append, pairV_size, twoV_size] <;> omega
  · exact Nat.zero_le _

set_option maxRecDepth 100000 in
set_option maxHeartbeats 1000000 in
theorem drawSpoil7_any (t : ByteArray) (B : Nat) (a : Option Addr) (len cap : Nat) (size : Int) (w : World) (ht : t.size ≤ 7000) (hl : len ≤ 1048576) (hs : Src w B a len cap size) :
    Calls Try.prog 123 #[.pointer (some ⟨B, 0, none⟩), .string t] w fun e w' => ∃ s : ByteArray, e = .returned (.string s) ∧ s.size ≤ 7001 ∧ Src w' B a len cap size ∧ w.grownBy w' (some B) := by
  have D0 : Hid (Dr w B a len cap size w) := Dr.start hs
  clear hs
  go_enter Try.func123, Try.ntmps123
  go_wp2_with fail
  refine (drawN_any ((t.size : Int) + 1) B a len cap size _ (by omega) hl D0.out.src).mono ?_
  rintro e w1 ⟨r, rfl, r0, r1, hs1, hg1⟩
  obtain ⟨k, rfl⟩ := Int.eq_ofNat_of_zero_le r0
  have hk : k ≤ t.size := by omega
  have D1 : Hid (Dr w B a len cap size w1) := D0.out.draw hs1 hg1
  clear hs1 hg1 r0 r1 D0
  go_wp2_with fail
  refine (drawN_more 17 B a len cap size _ (by omega) (by omega) hl D1.out.src).mono ?_
  rintro e w2 ⟨r, rfl, r0, r1, hs2, hg2⟩
  obtain ⟨m, rfl⟩ := Int.eq_ofNat_of_zero_le r0
  have D2 : Hid (Dr w B a len cap size w2) := D1.out.draw hs2 hg2
  have D3 : Hid (∀ x : Int, Dr w B a len cap size (w2.alloc (.cells #[.int .u8 x] 5))) := fun x => D2.out.alloc _
  have hgb := get_bt (ByteArray.mk #[32, 10, 48, 97, 45, 110, 44, 58, 93, 255, 40, 120, 126, 49, 128, 225, 59])
  have hb0 := bt_nonneg (ByteArray.mk #[32, 10, 48, 97, 45, 110, 44, 58, 93, 255, 40, 120, 126, 49, 128, 225, 59]) m
  have hb1 := bt_le (ByteArray.mk #[32, 10, 48, 97, 45, 110, 44, 58, 93, 255, 40, 120, 126, 49, 128, 225, 59]) m
  have hcv := one_conv (w := w2.alloc (.cells #[.int .u8 (bt (ByteArray.mk #[32, 10, 48, 97, 45, 110, 44, 58, 93, 255, 40, 120, 126, 49, 128, 225, 59]) m)] 5)) (b := w2.heap.size) hb0 hb1 (by simp)
  obtain ⟨x, hx⟩ : ∃ x, bt (ByteArray.mk #[32, 10, 48, 97, 45, 110, 44, 58, 93, 255, 40, 120, 126, 49, 128, 225, 59]) m = x := ⟨_, rfl⟩
  rw [hx] at hb0 hb1 hcv
  obtain ⟨C, hC⟩ : ∃ C, C = ofL [UInt8.ofNat x.toNat] := ⟨_, rfl⟩
  have hCs : C.size = 1 := by rw [hC]; rfl
  rw [← hC] at hcv
  have hX : (t.extract 0 k).size = k := by rw [ByteArray.size_extract]; omega
  have hY : (t.extract k t.size).size = t.size - k := by rw [ByteArray.size_extract]; omega
  have hZ : (t.extract (k + 1) t.size).size = t.size - (k + 1) := by rw [ByteArray.size_extract]; omega
  obtain ⟨X, hXX⟩ : ∃ X, X = t.extract 0 k := ⟨_, rfl⟩
  obtain ⟨Y, hYY⟩ : ∃ Y, Y = t.extract k t.size := ⟨_, rfl⟩
  obtain ⟨Z, hZZ⟩ : ∃ Z, Z = t.extract (k + 1) t.size := ⟨_, rfl⟩
  rw [← hXX] at hX
  rw [← hYY] at hY
  rw [← hZZ] at hZ
  have eX := hXX.symm
  have eY := hYY.symm
  have eZ := hZZ.symm
  have ha1 : ∀ W, (Op.stringOp .add X C).run Try.prog W = .ok (.string (X ++ C)) W := fun W => run_string_add_sum W _ _ (by omega)
  have ha2 : ∀ W, (Op.stringOp .add (X ++ C) Y).run Try.prog W = .ok (.string (X ++ C ++ Y)) W := fun W => run_string_add_sum W _ _ (by rw [ByteArray.size_append]; omega)
  have ha3 : ∀ W, (Op.stringOp .add X Z).run Try.prog W = .ok (.string (X ++ Z)) W := fun W => run_string_add_sum W _ _ (by omega)
  have ha4 : ∀ W, (Op.stringOp .add (X ++ C) Z).run Try.prog W = .ok (.string (X ++ C ++ Z)) W := fun W => run_string_add_sum W _ _ (by rw [ByteArray.size_append]; omega)
  have S2 : Hid ((X ++ C ++ Y).size ≤ 7001) := by unfold Hid; rw [ByteArray.size_append, ByteArray.size_append]; omega
  have S3 : Hid (k < t.size → (X ++ Z).size ≤ 7001) := fun h => by rw [ByteArray.size_append]; omega
  have S4 : Hid (k < t.size → (X ++ C ++ Z).size ≤ 7001) := fun h => by rw [ByteArray.size_append, ByteArray.size_append]; omega
  generalize X ++ C ++ Y = R2 at ha2 S2
  generalize X ++ Z = R3 at ha3 S3
  generalize X ++ C ++ Z = R4 at ha4 S4
  generalize X ++ C = XC at ha1 ha2 ha4
  have hk' : (k : Int) ≤ (t.size : Int) := by omega
  clear hs2 hg2 D1 hC hCs hX hY hZ hXX hYY hZZ
  by_cases hke : k = t.size
  · have e1 : ((k : Int) == (t.size : Int)) = true := by simp [hke]
    clear hke S3 S4
    go_wp2_with fail
    go_region
    all_goals
      go_wp2_with fail
      go_ret
      exact ⟨R2, rfl, S2.out, (D3.out _).src.kept (grown_drew (World.grownBy.refl _ none)) (by simp), grown_drew (D3.out _).grown⟩
  · have e1 : ((k : Int) == (t.size : Int)) = false := by simp; omega
    have hkl : k < t.size := by omega
    have hkl' : (k : Int) + 1 ≤ (t.size : Int) := by omega
    clear hke
    go_wp2_with fail
    refine (drawOne_any 3 B a len cap size _ (by omega) hl (D3.out _).src).mono ?_
    rintro e w4 ⟨b, rfl, hs4, hg4⟩
    have D4 : Hid (Dr w B a len cap size w4) := (D3.out _).draw hs4 hg4
    clear hs4 hg4 D3 D2
    cases b with
    | true =>
      go_wp2_with fail
      go_region
      all_goals
        go_wp2_with fail
        go_ret
        exact ⟨R2, rfl, S2.out, D4.out.src.kept (grown_drew (World.grownBy.refl _ none)) (by simp), grown_drew D4.out.grown⟩
    | false =>
      go_wp2_with fail
      refine (drawOne_any 2 B a len cap size _ (by omega) hl D4.out.src).mono ?_
      rintro e w5 ⟨b, rfl, hs5, hg5⟩
      have D5 : Hid (Dr w B a len cap size w5) := D4.out.draw hs5 hg5
      clear hs5 hg5 D4
      cases b with
      | true =>
        go_wp2_with fail
        go_region
        all_goals
          go_wp2_with fail
          go_ret
          exact ⟨R3, rfl, S3.out hkl, D5.out.src.kept (grown_drew (World.grownBy.refl _ none)) (by simp), grown_drew D5.out.grown⟩
      | false =>
        go_wp2_with fail
        go_region
        all_goals
          go_wp2_with fail
          go_ret
          exact ⟨R4, rfl, S4.out hkl, D5.out.src.kept (grown_drew (World.grownBy.refl _ none)) (by simp), grown_drew D5.out.grown⟩

set_option maxHeartbeats 1000000 in
theorem drawPSpoil_any (t : ByteArray) (B : Nat) (a : Option Addr) (len cap : Nat) (size : Int) (w : World) (ht : t.size ≤ 7000) (hl : len ≤ 1048576) (hs : Src w B a len cap size) :
    Calls Try.prog 99 #[.pointer (some ⟨B, 0, none⟩), .string t] w fun e w' => ∃ s : ByteArray, e = .returned (.string s) ∧ s.size ≤ 7100 ∧ Src w' B a len cap size ∧ w.grownBy w' (some B) := by
  have D0 : Hid (Dr w B a len cap size w) := Dr.start hs
  clear hs
  go_enter Try.func99, Try.ntmps99
  go_wp2_with fail
  refine (drawN_any 6 B a len cap size _ (by omega) hl D0.out.src).mono ?_
  rintro e w1 ⟨r, rfl, r0, r1, hs1, hg1⟩
  have D1 : Hid (Dr w B a len cap size w1) := D0.out.draw hs1 hg1
  clear hs1 hg1 D0
  by_cases h0 : r = 0
  · subst h0
    go_wp2_with fail
    refine (drawSpoil7_any t B a len cap size _ ht hl D1.out.src).mono ?_
    rintro e w2 ⟨s, rfl, hsz, hs2, hg2⟩
    have D2 : Hid (Dr w B a len cap size w2) := D1.out.draw hs2 hg2
    clear hs2 hg2
    go_wp2_with fail
    go_ret
    exact ⟨s, rfl, by omega, D2.out.src, D2.out.grown⟩
  have d0 : (r == 0) = false := by simp [h0]
  by_cases h1 : r = 1
  · subst h1
    clear d0
    have hw1 : IntKind.i64.wrap ((t.size : Int) + 1) = (t.size : Int) + 1 := by rw [IntKind.wrap_i64]; omega
    go_wp2_with fail
    refine (drawN_any ((t.size : Int) + 1) B a len cap size _ (by omega) hl D1.out.src).mono ?_
    rintro e w2 ⟨q, rfl, q0, q1, hs2, hg2⟩
    obtain ⟨k, rfl⟩ := Int.eq_ofNat_of_zero_le q0
    have hk : k ≤ t.size := by omega
    have D2 : Hid (Dr w B a len cap size w2) := D1.out.draw hs2 hg2
    have L1 : ∀ W, (Instr.slice 9 (.string t) none (some (.int .i64 k)) none).run Try.prog W = .ok (.string (t.extract 0 k)) W := fun W => by
      rw [run_slice_string_h (P := Try.prog) (t := 9) (s := t) (w := W) (ht := Try.underlying9) .i64 (k : Int) (by omega) (by omega), show ((k : Int)).toNat = k by omega]
    have hz : (t.extract 0 k).size ≤ 7100 := by rw [ByteArray.size_extract]; omega
    clear hs2 hg2 q0 q1
    go_wp2_with fail
    go_ret
    exact ⟨_, rfl, hz, D2.out.src, D2.out.grown⟩
  have d1 : (r == 1) = false := by simp [h1]
  by_cases h2 : r = 2
  · subst h2
    clear d0 d1
    go_wp2_with fail
    refine (drawN_any 6 B a len cap size _ (by omega) hl D1.out.src).mono ?_
    rintro e w2 ⟨q, rfl, q0, q1, hs2, hg2⟩
    obtain ⟨k, rfl⟩ := Int.eq_ofNat_of_zero_le q0
    have hk : k ≤ 6 := by omega
    have D2 : Hid (Dr w B a len cap size w2) := D1.out.draw hs2 hg2
    clear hs2 hg2 q0 q1
    go_wp2_with fail
    refine (drawBytesI k _ rfl B a len cap size _ (by omega) hl D2.out.src).mono ?_
    rintro e w3 ⟨u, rfl, hu, hs3, hg3⟩
    have D3 : Hid (Dr w B a len cap size w3) := D2.out.draw hs3 hg3
    have n1 : ¬ 9223372036854775807 < t.size + u.size := by omega
    have n2 : ¬ 9223372036854775807 < t.size + k := by omega
    have HZ : Hid ((t ++ u).size ≤ 7100) := by unfold Hid; rw [ByteArray.size_append]; omega
    clear hs3 hg3
    go_wp2_with fail
    go_ret
    exact ⟨_, rfl, HZ.out, D3.out.src, D3.out.grown⟩
  have d2 : (r == 2) = false := by simp [h2]
  go_wp2_with fail
  go_ret
  exact ⟨t, rfl, by omega, D1.out.src, D1.out.grown⟩

set_option maxRecDepth 100000 in
set_option maxHeartbeats 1000000 in
theorem drawV4Bytes_any (a : Option Addr) (len cap : Nat) (w : World) (hl : len ≤ 1048576) (hb : Bytes w a len w.heap.size) :
    Calls Try.prog 34 #[.slice a len cap] w fun e w' => ∃ p : P4, e = .returned (p4C p) ∧ Bd4 p ∧ Below w.heap.size w w' := by
  have HB : Hid (Bytes (w.alloc (.cells #[.int .i64 0, .int .i64 0, .bool false, .bool false, .int .i64 0, .int .i64 0, .int .i64 0, .string ⟨#[]⟩, .string ⟨#[]⟩, .string ⟨#[]⟩, .string ⟨#[]⟩] 56)) a len (w.alloc (.cells #[.int .i64 0, .int .i64 0, .bool false, .bool false, .int .i64 0, .int .i64 0, .int .i64 0, .string ⟨#[]⟩, .string ⟨#[]⟩, .string ⟨#[]⟩, .string ⟨#[]⟩] 56)).heap.size) := (hb.kept (World.grownBy_alloc _ _ none) (by simp)).mono (by simp)
  have K0 : Hid (BoxW4 (w.alloc (.cells #[.int .i64 0, .int .i64 0, .bool false, .bool false, .int .i64 0, .int .i64 0, .int .i64 0, .string ⟨#[]⟩, .string ⟨#[]⟩, .string ⟨#[]⟩, .string ⟨#[]⟩] 56)) w.heap.size p4Zero) := BoxW4.new w
  have G0 : Hid (Below w.heap.size w (w.alloc (.cells #[.int .i64 0, .int .i64 0, .bool false, .bool false, .int .i64 0, .int .i64 0, .int .i64 0, .string ⟨#[]⟩, .string ⟨#[]⟩, .string ⟨#[]⟩, .string ⟨#[]⟩] 56))) := (Below.refl _ _).alloc (Nat.le_refl _) _
  clear hb
  go_enter Try.func34, Try.ntmps34
  go_wp2_with fail
  generalize w.alloc (.cells #[.int .i64 0, .int .i64 0, .bool false, .bool false, .int .i64 0, .int .i64 0, .int .i64 0, .string ⟨#[]⟩, .string ⟨#[]⟩, .string ⟨#[]⟩, .string ⟨#[]⟩] 56) = W0 at *
  have hO : w.heap.size < W0.heap.size := World.block_lt_of_cell? W0 _ K0.out.c0
  refine (source_any a len cap _ hl HB.out).mono ?_
  rintro e w1 ⟨rfl, q1, size, -, -, hs1⟩
  have K1 : Hid (BoxW4 w1 w.heap.size p4Zero) := K0.out.kept q1
  have G1 : Hid (Below w.heap.size w w1) := G0.out.trans (q1.mono (by omega))
  have hB1 := q1.size
  have HS : Hid (Src w1 W0.heap.size a len cap size) := hs1
  clear q1 hs1 K0 G0 HB
  generalize W0.heap.size = B at *
  go_wp2_with fail
  refine (drawV4_any B a len cap size _ hl HS.out).mono ?_
  rintro e w2 ⟨⟨p, rfl, hp⟩, hs2, hg2⟩
  have K2 : Hid (BoxW4 w2 w.heap.size p4Zero) := K1.out.drawn hg2 (by omega)
  have G2 : Hid (Below w.heap.size w w2) := G1.out.trans (grown_belowP hg2 (by omega) (by omega))
  clear hs2 hg2 K1 G1 HS
  obtain ⟨tos, id, whole, more, off, ttl, proto, src, dst, opts, data⟩ := p
  unfold p4C
  dsimp only
  obtain ⟨o0, y0, o1, y1, o2, y2, o3, y3, o4, y4, o5, y5, o6, y6, o7, y7, o8, y8, o9, y9, o10, y10⟩ := K2.out
  dsimp only [p4Zero] at o0 o1 o2 o3 o4 o5 o6 o7 o8 o9 o10
  have hfin := (((((((((((G2.out.setCell (p := ⟨w.heap.size, 0, none⟩) (Nat.le_refl _) (.int .i64 tos)).setCell (p := ⟨w.heap.size, 1, none⟩) (Nat.le_refl _) (.int .i64 id)).setCell (p := ⟨w.heap.size, 2, none⟩) (Nat.le_refl _) (.bool whole)).setCell (p := ⟨w.heap.size, 3, none⟩) (Nat.le_refl _) (.bool more)).setCell (p := ⟨w.heap.size, 4, none⟩) (Nat.le_refl _) (.int .i64 off)).setCell (p := ⟨w.heap.size, 5, none⟩) (Nat.le_refl _) (.int .i64 ttl)).setCell (p := ⟨w.heap.size, 6, none⟩) (Nat.le_refl _) (.int .i64 proto)).setCell (p := ⟨w.heap.size, 7, none⟩) (Nat.le_refl _) (.string src)).setCell (p := ⟨w.heap.size, 8, none⟩) (Nat.le_refl _) (.string dst)).setCell (p := ⟨w.heap.size, 9, none⟩) (Nat.le_refl _) (.string opts)).setCell (p := ⟨w.heap.size, 10, none⟩) (Nat.le_refl _) (.string data))
  have HFin : Hid _ := hfin
  clear hfin
  go_wp2_with fail
  exact bodyPost_ret (v := .agg #[.int .i64 tos, .int .i64 id, .bool whole, .bool more, .int .i64 off, .int .i64 ttl, .int .i64 proto, .string src, .string dst, .string opts, .string data]) (by simp [results, Try.results34, go_sem, o0, o1, o2, o3, o4, o5, o6, o7, o8, o9, o10]) rfl ⟨⟨tos, id, whole, more, off, ttl, proto, src, dst, opts, data⟩, rfl, hp, HFin.out⟩

set_option maxHeartbeats 1000000 in
theorem drawV4Read_any (a : Option Addr) (len cap : Nat) (w : World) (hl : len ≤ 1048576) (hb : Bytes w a len w.heap.size) :
    Calls Try.prog 44 #[.slice a len cap] w fun e w' => ∃ t : ByteArray, e = .returned (.string t) ∧ t.size ≤ 7100 ∧ Below w.heap.size w w' := by
  have HB : Hid (Bytes w a len w.heap.size) := hb
  clear hb
  go_enter Try.func44, Try.ntmps44
  go_wp2_with fail
  refine (source_any a len cap _ hl HB.out).mono ?_
  rintro e w1 ⟨rfl, q1, size, -, -, hs1⟩
  have G1 : Hid (Below w.heap.size w w1) := q1
  have HS : Hid (Src w1 w.heap.size a len cap size) := hs1
  clear q1 hs1 HB
  go_wp2_with fail
  refine (drawV4_any w.heap.size a len cap size _ hl HS.out).mono ?_
  rintro e w2 ⟨⟨p, rfl, hp⟩, hs2, hg2⟩
  have G2 : Hid (Below w.heap.size w w2) := G1.out.trans (grown_belowP hg2 G1.out.size (Nat.le_refl _))
  have HS2 : Hid (Src w2 w.heap.size a len cap size) := hs2
  clear hs2 hg2 HS G1
  go_wp2_with fail
  refine (specV4Bytes_sm p _ hp.sm.1 hp.sm.2).mono ?_
  rintro e w3 ⟨rfl, q3⟩
  have G3 : Hid (Below w.heap.size w w3) := G2.out.trans (q3.mono G2.out.size)
  have HS3 : Hid (Src w3 w.heap.size a len cap size) := HS2.out.kept (grown_of_below (r := none) q3) (by simp)
  have hz := v4Bytes_size hp
  clear q3 HS2 G2
  go_wp2_with fail
  refine (drawPSpoil_any _ w.heap.size a len cap size _ hz hl HS3.out).mono ?_
  rintro e w4 ⟨s, rfl, hsz, -, hg4⟩
  have G4 : Hid (Below w.heap.size w w4) := G3.out.trans (grown_belowP hg4 G3.out.size (Nat.le_refl _))
  clear hg4
  go_wp2_with fail
  go_ret
  exact ⟨s, rfl, hsz, G4.out⟩

set_option maxRecDepth 100000 in
set_option maxHeartbeats 1000000 in
theorem drawV6Bytes_any (a : Option Addr) (len cap : Nat) (w : World) (hl : len ≤ 1048576) (hb : Bytes w a len w.heap.size) :
    Calls Try.prog 35 #[.slice a len cap] w fun e w' => ∃ p : P6, e = .returned (p6C p) ∧ Bd6 p ∧ Below w.heap.size w w' := by
  have HB : Hid (Bytes (w.alloc (.cells #[.int .i64 0, .int .i64 0, .int .i64 0, .int .i64 0, .string ⟨#[]⟩, .string ⟨#[]⟩, .bool false, .bool false, .int .i64 0, .int .i64 0, .string ⟨#[]⟩] 59)) a len (w.alloc (.cells #[.int .i64 0, .int .i64 0, .int .i64 0, .int .i64 0, .string ⟨#[]⟩, .string ⟨#[]⟩, .bool false, .bool false, .int .i64 0, .int .i64 0, .string ⟨#[]⟩] 59)).heap.size) := (hb.kept (World.grownBy_alloc _ _ none) (by simp)).mono (by simp)
  have K0 : Hid (BoxW6 (w.alloc (.cells #[.int .i64 0, .int .i64 0, .int .i64 0, .int .i64 0, .string ⟨#[]⟩, .string ⟨#[]⟩, .bool false, .bool false, .int .i64 0, .int .i64 0, .string ⟨#[]⟩] 59)) w.heap.size p6Zero) := BoxW6.new w
  have G0 : Hid (Below w.heap.size w (w.alloc (.cells #[.int .i64 0, .int .i64 0, .int .i64 0, .int .i64 0, .string ⟨#[]⟩, .string ⟨#[]⟩, .bool false, .bool false, .int .i64 0, .int .i64 0, .string ⟨#[]⟩] 59))) := (Below.refl _ _).alloc (Nat.le_refl _) _
  clear hb
  go_enter Try.func35, Try.ntmps35
  go_wp2_with fail
  generalize w.alloc (.cells #[.int .i64 0, .int .i64 0, .int .i64 0, .int .i64 0, .string ⟨#[]⟩, .string ⟨#[]⟩, .bool false, .bool false, .int .i64 0, .int .i64 0, .string ⟨#[]⟩] 59) = W0 at *
  have hO : w.heap.size < W0.heap.size := World.block_lt_of_cell? W0 _ K0.out.c0
  refine (source_any a len cap _ hl HB.out).mono ?_
  rintro e w1 ⟨rfl, q1, size, -, -, hs1⟩
  have K1 : Hid (BoxW6 w1 w.heap.size p6Zero) := K0.out.kept q1
  have G1 : Hid (Below w.heap.size w w1) := G0.out.trans (q1.mono (by omega))
  have hB1 := q1.size
  have HS : Hid (Src w1 W0.heap.size a len cap size) := hs1
  clear q1 hs1 K0 G0 HB
  generalize W0.heap.size = B at *
  go_wp2_with fail
  refine (drawV6_any B a len cap size _ hl HS.out).mono ?_
  rintro e w2 ⟨⟨p, rfl, hp⟩, hs2, hg2⟩
  have K2 : Hid (BoxW6 w2 w.heap.size p6Zero) := K1.out.drawn hg2 (by omega)
  have G2 : Hid (Below w.heap.size w w2) := G1.out.trans (grown_belowP hg2 (by omega) (by omega))
  clear hs2 hg2 K1 G1 HS
  obtain ⟨cls, flow, next, hops, src, dst, piece, more, off, id, data⟩ := p
  unfold p6C
  dsimp only
  obtain ⟨o0, y0, o1, y1, o2, y2, o3, y3, o4, y4, o5, y5, o6, y6, o7, y7, o8, y8, o9, y9, o10, y10⟩ := K2.out
  dsimp only [p6Zero] at o0 o1 o2 o3 o4 o5 o6 o7 o8 o9 o10
  have hfin := (((((((((((G2.out.setCell (p := ⟨w.heap.size, 0, none⟩) (Nat.le_refl _) (.int .i64 cls)).setCell (p := ⟨w.heap.size, 1, none⟩) (Nat.le_refl _) (.int .i64 flow)).setCell (p := ⟨w.heap.size, 2, none⟩) (Nat.le_refl _) (.int .i64 next)).setCell (p := ⟨w.heap.size, 3, none⟩) (Nat.le_refl _) (.int .i64 hops)).setCell (p := ⟨w.heap.size, 4, none⟩) (Nat.le_refl _) (.string src)).setCell (p := ⟨w.heap.size, 5, none⟩) (Nat.le_refl _) (.string dst)).setCell (p := ⟨w.heap.size, 6, none⟩) (Nat.le_refl _) (.bool piece)).setCell (p := ⟨w.heap.size, 7, none⟩) (Nat.le_refl _) (.bool more)).setCell (p := ⟨w.heap.size, 8, none⟩) (Nat.le_refl _) (.int .i64 off)).setCell (p := ⟨w.heap.size, 9, none⟩) (Nat.le_refl _) (.int .i64 id)).setCell (p := ⟨w.heap.size, 10, none⟩) (Nat.le_refl _) (.string data))
  have HFin : Hid _ := hfin
  clear hfin
  go_wp2_with fail
  exact bodyPost_ret (v := .agg #[.int .i64 cls, .int .i64 flow, .int .i64 next, .int .i64 hops, .string src, .string dst, .bool piece, .bool more, .int .i64 off, .int .i64 id, .string data]) (by simp [results, Try.results35, go_sem, o0, o1, o2, o3, o4, o5, o6, o7, o8, o9, o10]) rfl ⟨⟨cls, flow, next, hops, src, dst, piece, more, off, id, data⟩, rfl, hp, HFin.out⟩

set_option maxHeartbeats 1000000 in
theorem drawV6Read_any (a : Option Addr) (len cap : Nat) (w : World) (hl : len ≤ 1048576) (hb : Bytes w a len w.heap.size) :
    Calls Try.prog 45 #[.slice a len cap] w fun e w' => ∃ t : ByteArray, e = .returned (.string t) ∧ t.size ≤ 7100 ∧ Below w.heap.size w w' := by
  have HB : Hid (Bytes w a len w.heap.size) := hb
  clear hb
  go_enter Try.func45, Try.ntmps45
  go_wp2_with fail
  refine (source_any a len cap _ hl HB.out).mono ?_
  rintro e w1 ⟨rfl, q1, size, -, -, hs1⟩
  have G1 : Hid (Below w.heap.size w w1) := q1
  have HS : Hid (Src w1 w.heap.size a len cap size) := hs1
  clear q1 hs1 HB
  go_wp2_with fail
  refine (drawV6_any w.heap.size a len cap size _ hl HS.out).mono ?_
  rintro e w2 ⟨⟨p, rfl, hp⟩, hs2, hg2⟩
  have G2 : Hid (Below w.heap.size w w2) := G1.out.trans (grown_belowP hg2 G1.out.size (Nat.le_refl _))
  have HS2 : Hid (Src w2 w.heap.size a len cap size) := hs2
  clear hs2 hg2 HS G1
  go_wp2_with fail
  refine (specV6Bytes_sm p _ hp.sm.1 hp.sm.2).mono ?_
  rintro e w3 ⟨rfl, q3⟩
  have G3 : Hid (Below w.heap.size w w3) := G2.out.trans (q3.mono G2.out.size)
  have HS3 : Hid (Src w3 w.heap.size a len cap size) := HS2.out.kept (grown_of_below (r := none) q3) (by simp)
  have hz := v6Bytes_size hp
  clear q3 HS2 G2
  go_wp2_with fail
  refine (drawPSpoil_any _ w.heap.size a len cap size _ hz hl HS3.out).mono ?_
  rintro e w4 ⟨s, rfl, hsz, -, hg4⟩
  have G4 : Hid (Below w.heap.size w w4) := G3.out.trans (grown_belowP hg4 G3.out.size (Nat.le_refl _))
  clear hg4
  go_wp2_with fail
  go_ret
  exact ⟨s, rfl, hsz, G4.out⟩
end Go.Proofs.Ytaoolicfjpaggaa
