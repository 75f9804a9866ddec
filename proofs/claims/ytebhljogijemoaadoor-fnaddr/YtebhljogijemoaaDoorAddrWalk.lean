/- The law FnAddr, walked: whatever is drawn, it returns true. -/
import Derived.Test.YtebhljogijemoaaDoorDrawRead
import Derived.Test.YtebhljogijemoaaDoorRowBytes
import Derived.Test.YtebhljogijemoaaDoorIRead
import Derived.Test.YtebhljogijemoaaDoorABit
import Derived.Test.YtebhljogijemoaaDoorSame
import Derived.BigQuiet
import Derived.Lib.QuietBelow
namespace Go.Proofs.YtebhljogijemoaaDoor
open Go.RowKit Go.PlainAid
set_option linter.unusedVariables false
set_option linter.unusedSimpArgs false

/-- An address is read back from its text. -/
theorem read_back (s : ByteArray) (h : addrOk s = true) : addrTextL s ≠ [] ∧ addrReadV (addrTextL s) = (s, 0) := by
  have hs : s.data.toList.length = 4 ∨ s.data.toList.length = 16 := by
    rw [toL_length]
    by_cases h4 : s.size = 4
    · exact .inl h4
    · by_cases h16 : s.size = 16
      · exact .inr h16
      · rw [addrOk_no (by omega)] at h; simp at h
  have hr := (read_text s.data.toList hs).1
  rw [ofL_data] at hr
  refine ⟨fun e => by rw [e, read_nil.1] at hr; simp at hr, ?_⟩
  have := addrReadV_some (l := addrTextL s) (a := s.data.toList) (by have := addrTextL_length s; omega) (by rw [hr]; exact fin_yes (by rw [ofL_data]))
  rw [this, ofL_data]

theorem text_none (s : ByteArray) (h : addrOk s = false) : addrTextL s = [] := by
  unfold addrTextL
  rw [if_neg (fun e => by rw [addrOk_yes (.inl e)] at h; simp at h), if_neg (fun e => by rw [addrOk_yes (.inr e)] at h; simp at h)]

/-- What is read of a text is told by just this text. -/
theorem read_told (l : List UInt8) (h : (addrReadV l).2 = 0) : addrTextL (addrReadV l).1 = l := by
  by_cases hb : 20000 < l.length
  · rw [addrReadV_big hb] at h; simp at h
  · cases hf : finV (readS l) l with
    | none => rw [addrReadV_none hb hf] at h; simp at h
    | some a => rw [addrReadV_some hb hf]; exact (fin_some hf).2

set_option maxRecDepth 100000 in
set_option maxHeartbeats 1000000 in
theorem addrWalk (a0 : Option Addr) (len0 cap0 : Nat) (a1 : Option Addr) (len1 cap1 : Nat) (w : World) (hE : Env w) (h0 : len0 ≤ 1048576) (h1 : len1 ≤ 1048576) (b0 : Bytes w a0 len0 w.heap.size) (b1 : Bytes w a1 len1 w.heap.size) :
    Calls Tryd.prog 3 #[.slice a0 len0 cap0, .slice a1 len1 cap1] w fun e w' => e = .returned (.bool true) ∧ Below w.heap.size w w' := by
  have B0 : Hid (Bytes w a0 len0 w.heap.size) := b0
  have B1 : Hid (Bytes w a1 len1 w.heap.size) := b1
  have HE : Hid (Env w) := hE
  have HAT : Hid (∀ (r : ByteArray) W, Below w.heap.size w W → Calls Tryd.prog 5 #[.string r] W fun e w' => e = .returned (.string (ofL (addrTextL r))) ∧ Below W.heap.size W w') := fun r W hW => implAddrText_any r W (hE.below hW).tab (fun W2 h2 => cell_below (hE.below hW).tz h2)
  have HIR : Hid (∀ (l : List UInt8) W, l.length ≤ 20000 → Below w.heap.size w W → Calls Tryd.prog 8 #[.string (ofL l)] W fun e w' => e = .returned (.agg #[.string (addrReadV l).1, .int .i64 (addrReadV l).2]) ∧ Below W.heap.size W w') := fun l W hl hW => implAddrReadL_any l W (hE.below hW) (by rw [ofL_size]; unfold maxLen; omega)
  clear b0 b1 hE
  go_enter Tryd.func3, Tryd.ntmps3
  go_wp2_with fail
  refine (drawAddrText_any a0 len0 cap0 _ h0 B0.out).mono ?_
  rintro e w1 ⟨s, rfl, hs, hbel⟩
  have H1 : Hid (Below w.heap.size w w1) := hbel
  clear hbel B0
  go_wp2_with fail
  refine (HAT.out s _ H1.out).mono ?_
  rintro e w2 ⟨rfl, q2⟩
  have H2 : Hid (Below w.heap.size w w2) := H1.out.trans (q2.mono H1.out.size)
  clear q2 H1
  go_upto_region 5 with fail
  go_cut [42] (fun c wx => c = .bool false ∧ Below w.heap.size w wx)
  case first =>
    have HST : Hid (∀ W, Calls Tryd.prog 6 #[.string s] W fun e w' => e = .returned (.string (ofL (addrTextL s))) ∧ Below W.heap.size W w') := fun W => specAddrText_any s W
    have HAR : Hid (∀ W, Calls Tryd.prog 7 #[.string s] W fun e w' => e = .returned (.bool (addrOk s)) ∧ w' = W) := fun W => implAddrRight_any s W
    cases hok : addrOk s with
    | true =>
      obtain ⟨hne, hrb⟩ := read_back s hok
      have HRD : Hid (∀ W, Below w.heap.size w W → Calls Tryd.prog 8 #[.string (ofL (addrTextL s))] W fun e w' => e = .returned (.agg #[.string s, .int .i64 0]) ∧ Below W.heap.size W w') := fun W hW => by
        have := HIR.out (addrTextL s) W (by have := addrTextL_length s; omega) hW
        rw [hrb] at this
        exact this
      rw [hok] at HAR
      generalize addrTextL s = T at *
      have gg : ¬ (ofL T).toList = [] := by rw [ofL_toList]; exact hne
      have gb : (ofL T).toList.isEmpty = false := by simpa using gg
      have nq := neq_same s 0
      clear hok hrb hne
      go_wp2_with fail
      refine (HST.out _).mono ?_
      rintro e w3 ⟨rfl, q3⟩
      have H3 : Hid (Below w.heap.size w w3) := H2.out.trans (q3.mono H2.out.size)
      clear q3
      go_wp2_with fail
      refine (HAR.out _).mono ?_
      rintro e w3 ⟨rfl, rfl⟩
      go_wp2_with fail
      refine (HRD.out _ H3.out).mono ?_
      rintro e w4 ⟨rfl, q4⟩
      have H4 : Hid (Below w.heap.size w w4) := H3.out.trans (q4.mono H3.out.size)
      clear q4
      go_wp2_with fail
      go_meet
      exact ⟨rfl, H4.out⟩
    | false =>
      have hne := text_none s hok
      rw [hok] at HAR
      generalize addrTextL s = T at *
      have gg : (ofL T).toList = [] := by rw [ofL_toList]; exact hne
      have gb : (ofL T).toList.isEmpty = true := by rw [gg]; rfl
      clear hok hne
      go_wp2_with fail
      refine (HST.out _).mono ?_
      rintro e w3 ⟨rfl, q3⟩
      have H3 : Hid (Below w.heap.size w w3) := H2.out.trans (q3.mono H2.out.size)
      clear q3
      go_wp2_with fail
      refine (HAR.out _).mono ?_
      rintro e w3 ⟨rfl, rfl⟩
      go_wp2_with fail
      go_meet
      exact ⟨rfl, H3.out⟩
  case rest =>
  obtain ⟨rfl, hb⟩ := hcut
  have H3 : Hid (Below w.heap.size w wc) := hb
  clear hb H2
  go_wp2_with fail
  refine (drawAddrRead_any a1 len1 cap1 _ h1 ((B1.out.kept (grown_of_below (r := none) H3.out) (by simp)).mono H3.out.size)).mono ?_
  rintro e w4 ⟨u0, rfl, hu, hbel⟩
  obtain ⟨u, rfl⟩ : ∃ u, u0 = ofL u := ⟨u0.data.toList, (ofL_data u0).symm⟩
  rw [ofL_size] at hu
  have H4 : Hid (Below w.heap.size w w4) := H3.out.trans (hbel.mono H3.out.size)
  clear hbel B1 H3
  go_wp2_with fail
  refine (HIR.out u _ (by omega) H4.out).mono ?_
  rintro e w5 ⟨rfl, q5⟩
  have H5 : Hid (Below w.heap.size w w5) := H4.out.trans (q5.mono H4.out.size)
  clear q5 H4
  have HM : Hid (∀ W, Calls Tryd.prog 10 #[.string (ofL u)] W fun e w' => e = .returned (.agg #[.string (addrReadV u).1, .int .i64 (addrReadV u).2]) ∧ Below W.heap.size W w') := fun W => specAddrReadL_any u W (by rw [ofL_size]; unfold maxLen; omega)
  have HK : Hid ((addrReadV u).2 = 0 → addrTextL (addrReadV u).1 = u) := fun h => read_told u h
  obtain ⟨A, hA⟩ : ∃ A, A = (addrReadV u).1 := ⟨_, rfl⟩
  obtain ⟨C, hC⟩ : ∃ C, C = (addrReadV u).2 := ⟨_, rfl⟩
  rw [← hA, ← hC] at HM HK ⊢
  clear hA hC
  go_wp2_with fail
  have c0 : (w5.alloc (.cells #[.string A, .int .i64 C] 27)).cell? ⟨w5.heap.size, 0, none⟩ = some (.string A) := by simp
  have c1 : (w5.alloc (.cells #[.string A, .int .i64 C] 27)).cell? ⟨w5.heap.size, 1, none⟩ = some (.int .i64 C) := by simp
  have H9 : Hid (Below w.heap.size w (w5.alloc (.cells #[.string A, .int .i64 C] 27))) := H5.out.alloc H5.out.size _
  clear H5
  generalize w5.alloc (.cells #[.string A, .int .i64 C] 27) = W9 at c0 c1 H9 ⊢
  have y0 := cell_regrown c0
  have y1 := cell_regrown c1
  have eq1 := eql_same A C
  clear c0 c1
  by_cases hC0 : C = 0
  · have HN : Hid (∀ W, Below W9.heap.size W9 W → Calls Tryd.prog 5 #[.string A] W fun e w' => e = .returned (.string (ofL u)) ∧ Below W.heap.size W w') := fun W hW => by
      have := HAT.out A W (H9.out.trans (hW.mono H9.out.size))
      rw [HK.out hC0] at this
      exact this
    subst hC0
    clear HK
    refine wp_region_quiet_below (by kernel_rfl) (by kernel_rfl) ?_
    repeat (go_big_quiet_step ((first | (go_at_call 10; exact Calls.regrown_of (HM.out _)) | (go_at_call 5; exact Calls.regrown_of (HN.out _ (below_regrown _ _ _))))))
    refine wpQuiet_nil ?_
    rintro w10 ⟨⟨dr, osr⟩, rfl⟩
    go_wp2_with fail
    go_ret
    exact ⟨rfl, H9.out.trans ((below_regrown W9 dr osr).mono H9.out.size)⟩
  · have eD : (C == 0) = false := by simp [hC0]
    have eD2 : (C != 0) = true := by simp [hC0]
    clear HK hC0
    refine wp_region_quiet_below (by kernel_rfl) (by kernel_rfl) ?_
    repeat (go_big_quiet_step ((go_at_call 10; exact Calls.regrown_of (HM.out _))))
    refine wpQuiet_nil ?_
    rintro w10 ⟨⟨dr, osr⟩, rfl⟩
    go_wp2_with fail
    go_ret
    exact ⟨rfl, H9.out.trans ((below_regrown W9 dr osr).mono H9.out.size)⟩

end Go.Proofs.YtebhljogijemoaaDoor
