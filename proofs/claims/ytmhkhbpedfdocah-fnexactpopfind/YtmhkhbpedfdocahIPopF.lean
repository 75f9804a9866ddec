/- IPopF: what the program's placeAt and PopFind answer. -/
import Derived.Test.YtmhkhbpedfdocahIPopR
import Derived.Test.YtmhkhbpedfdocahPopFind
import Derived.Test.YtmhkhbpedfdocahIPrefix
namespace Go.Proofs.Ytmhkhbpedfdocah
open Go.RowKit Go.PlainAid
set_option linter.unusedVariables false
set_option linter.unusedSimpArgs false

theorem nib_val2 (a : ByteArray) (d : Nat) : bits .and .i64 (wrap64 (bt a (4 * d / 8) / 2 ^ (4 - 4 * d % 8))) 15 = ((nibA a d : Nat) : Int) := by
  have h0 := bt_nonneg a (d / 2)
  have h1 := bt_le a (d / 2)
  rw [show 4 * d / 8 = d / 2 by omega, and_15]
  unfold nibA
  by_cases e : d % 2 = 0
  · rw [if_pos e, show 4 - 4 * d % 8 = 4 by omega, IntWalk.wrap64_in _ ⟨by omega, by omega⟩]
    omega
  · rw [if_neg e, show 4 - 4 * d % 8 = 0 by omega, IntWalk.wrap64_in _ ⟨by simp; omega, by simp; omega⟩]
    simp; omega

set_option maxRecDepth 100000 in
set_option maxHeartbeats 400000 in
theorem implPlaceAt_any (a : ByteArray) (d t : Nat) (w : World) (ht : t = 4 * d) (hd : d < 2 * a.size) (ha : a.size ≤ 16) :
    Calls Try.prog 53 #[.string a, .int .i64 t] w fun e w' => e = .returned (.int .i64 (nibA a d : Nat)) ∧ w' = w := by
  have hgb := get_bt a
  have hby := bt_isByte a (t / 8)
  have ht' : (t : Int) < 8 * (a.size : Int) := by omega
  have HV : Hid (bits .and .i64 (wrap64 (bt a (4 * d / 8) / 2 ^ (4 - 4 * d % 8))) 15 = ((nibA a d : Nat) : Int)) := nib_val2 a d
  have hn : (4 - (t : Int) % 8).toNat = 4 - t % 8 := by omega
  have h40 : 0 ≤ 4 - (t : Int) % 8 := by omega
  go_enter Try.func53, Try.ntmps53
  go_wp2_with fail
  go_ret
  exact ⟨ret_int HV.out, rfl⟩

set_option maxRecDepth 100000 in
set_option maxHeartbeats 1000000 in
theorem implPopFind_any (ns : List Pn) (ls : List Int) (a : ByteArray) (a1 a2 : Option Addr) (cap1 cap2 : Nat) (w : World) (hl1 : ns.length ≤ 1048576) (hl2 : ls.length ≤ 1048576) (ha : a.size ≤ 1048576) (hin : PnsIn ns) (hil : IntsIn ls) (h1 : PnsIs w a1 ns) (h2 : IntsIs w a2 ls) :
    Calls Try.prog 20 #[.agg #[.slice a1 ns.length cap1, .slice a2 ls.length cap2], .string a] w fun e w' => e = .returned (.int .i64 (popFindV ns ls a)) ∧ Below w.heap.size w w' := by
  have H1 : Hid (PnsIs w a1 ns) := h1
  have H2 : Hid (IntsIs w a2 ls) := h2
  have HI : Hid (PnsIn ns) := hin
  have HB0 : Hid (Below w.heap.size w (w.alloc (.cells #[.slice a1 ns.length cap1, .slice a2 ls.length cap2] 27))) := (Below.refl _ _).alloc (Nat.le_refl _) _
  have HP0 : Hid (BoxP (w.alloc (.cells #[.slice a1 ns.length cap1, .slice a2 ls.length cap2] 27)) w.heap.size (.slice a1 ns.length cap1) (.slice a2 ls.length cap2)) := BoxP.new w _ _
  have HC : Hid (∀ W, Below w.heap.size w W → Calls Try.prog 22 #[.agg #[.slice a1 ns.length cap1, .slice a2 ls.length cap2]] W fun e w' => e = .returned (.bool (popOk ns ls)) ∧ Below W.heap.size W w') := fun W hW => implPopRight_any ns ls a1 a2 cap1 cap2 W hl1 hl2 hin hil (H1.out.below hW) (H2.out.below hW)
  have HD : Hid (∀ W, Calls Try.prog 51 #[.string a] W fun e w' => e = .returned (.bool (addrOk a)) ∧ w' = W) := fun W => implAddrRight_any a W
  clear h1 h2 hin
  cases hao : addrOk a with
  | false =>
    have HV : Hid (popFindV ns ls a = 0) := by unfold Hid popFindV; rw [hao, Bool.and_false]; rfl
    rw [hao] at HD
    clear hao
    go_enter Try.func20, Try.ntmps20
    go_wp2_with fail
    refine (HD.out _).mono ?_
    rintro e w1 ⟨rfl, rfl⟩
    go_wp2_with fail
    go_ret
    exact ⟨ret_int HV.out.symm, HB0.out⟩
  | true =>
    cases hok : popOk ns ls with
    | false =>
      have HV : Hid (popFindV ns ls a = 0) := by unfold Hid popFindV; rw [hok]; rfl
      rw [hok] at HC
      rw [hao] at HD
      clear hok hao
      go_enter Try.func20, Try.ntmps20
      go_wp2_with fail
      refine (HD.out _).mono ?_
      rintro e w1 ⟨rfl, rfl⟩
      go_wp2_with fail
      refine (HC.out _ HB0.out).mono ?_
      rintro e w1 ⟨rfl, q1⟩
      go_wp2_with fail
      go_ret
      exact ⟨ret_int HV.out.symm, HB0.out.trans (q1.mono HB0.out.size)⟩
    | true =>
      obtain ⟨n1, n2, hall⟩ := popOk_facts hok
      have HN : Hid (∀ i (h2 : i < ns.length), nodeOk ns.length ls.length i ns[i] = true) := hall
      have hsz := addrOk_size hao
      have hsz' : a.size ≤ 16 := by omega
      have HV : Hid (popFindV ns ls a = pnFind ns ls (nibA a) (2 * a.size) 0 (ns.getD 0 default)) := by unfold Hid popFindV; rw [hok, hao]; rfl
      have HBT : Hid (∀ W, Calls Try.prog 52 #[.string a] W fun e w' => e = .returned (.int .i64 (8 * (a.size : Int))) ∧ w' = W) := fun W => implBits_any a W (by omega)
      obtain ⟨b1, o1, rfl, hb1, hat⟩ : ∃ b off, a1 = some ⟨b, off, none⟩ ∧ b < w.heap.size ∧ PnsAt w b off ns := by
        rcases H1.out with h | h
        · rw [h] at n1; simp at n1
        · exact h
      have HAT : Hid (PnsAt w b1 o1 ns) := hat
      rw [hok] at HC
      rw [hao] at HD
      clear hok hao hat H1 hall
      go_enter Try.func20, Try.ntmps20
      go_wp2_with fail
      refine (HD.out _).mono ?_
      rintro e w1 ⟨rfl, rfl⟩
      go_wp2_with fail
      refine (HC.out _ HB0.out).mono ?_
      rintro e w1 ⟨rfl, q1⟩
      have HQ1 : Hid (Below w.heap.size w w1) := HB0.out.trans (q1.mono HB0.out.size)
      have HP1 : Hid (BoxP w1 w.heap.size (.slice (some ⟨b1, o1, none⟩) ns.length cap1) (.slice a2 ls.length cap2)) := HP0.out.kept q1
      clear q1 HC HD HB0 HP0
      go_wp2_with fail
      go_loopw [5, 6] (fun u v wr => ∃ (d t i : Nat), t = 4 * d ∧ d ≤ 2 * a.size ∧ u = .int .i64 i ∧ v = .int .i64 t ∧ i < ns.length ∧ pnFind ns ls (nibA a) (2 * a.size) 0 (ns.getD 0 default) = pnFind ns ls (nibA a) (2 * a.size - d) d (ns.getD i default) ∧ BoxP wr w.heap.size (.slice (some ⟨b1, o1, none⟩) ns.length cap1) (.slice a2 ls.length cap2) ∧ Below w.heap.size w wr) (fun _ v _ => 8 * a.size - (intOf v).toNat)
      case atStart => exact ⟨0, 0, 0, rfl, Nat.zero_le _, rfl, rfl, by omega, rfl, HP1.out, HQ1.out⟩
      case round =>
        obtain ⟨d, t, i, ht, hd, rfl, rfl, hi, hfind, hbox, hbel⟩ := hrel
        have HFI : Hid _ := hfind
        have HT : Hid (t = 4 * d) := ht
        have HM : Hid (Below w.heap.size w wr) := hbel
        have HPr : Hid (BoxP wr w.heap.size (.slice (some ⟨b1, o1, none⟩) ns.length cap1) (.slice a2 ls.length cap2)) := hbox
        obtain ⟨k0, k1⟩ := hbox
        clear hfind hbel
        by_cases hlt : d < 2 * a.size
        · have hlt' : (t : Int) < 8 * (a.size : Int) := by omega
          have hA := PnsAt.below HAT.out hb1 HM.out
          have c0 := hA.c0 i hi
          have c1 := hA.c1 i hi
          have c2 := hA.c2 i hi
          have c3 := hA.c3 i hi
          have hI := HI.out ns[i] (List.getElem_mem hi)
          have hnode := HN.out i hi
          have hgd : ns.getD i default = ns[i] := by simp [List.getD, List.getElem?_eq_getElem hi]
          rw [hgd] at HFI
          generalize ns[i] = x at *
          obtain ⟨m, l, hxk, hxl, hm, hl, hkid, hleaf⟩ := node_facts hnode
          obtain ⟨yk, yl, yb, yf⟩ := x
          dsimp only at *
          subst hxk hxl
          unfold In64s at hI
          obtain ⟨-, -, ⟨i5, i6⟩, i7, i8⟩ := hI
          have HKK := nibA_lt a d
          have HPA : Hid (∀ W, Calls Try.prog 53 #[.string a, .int .i64 t] W fun e w' => e = .returned (.int .i64 (nibA a d : Nat)) ∧ w' = W) := fun W => implPlaceAt_any a d t W HT.out hlt hsz'
          clear ht
          have HST : Hid (pnFind ns ls (nibA a) (2 * a.size - d) d ⟨(m : Int), (l : Int), yb, yf⟩ = if m / 2 ^ nibA a d % 2 = 0 then ls.getD (yf + cntMask l (nibA a d + 1) - 1).toNat 0 else pnFind ns ls (nibA a) (2 * a.size - (d + 1)) (d + 1) (ns.getD (yb + cntMask m (nibA a d)).toNat default)) := by
            unfold Hid
            obtain ⟨g, hg⟩ : ∃ g, 2 * a.size - d = g + 1 := ⟨2 * a.size - d - 1, by omega⟩
            rw [hg, show 2 * a.size - (d + 1) = g by omega]; rfl
          rw [← HFI.out] at HST
          have hab := and_bit m (nibA a d)
          generalize nibA a d = kk at *
          have HMX : Hid (Below w.heap.size w (wr.alloc (.cells #[.int .i64 m, .int .i64 l, .int .i64 yb, .int .i64 yf] 64))) := HM.out.alloc HM.out.size _
          have HPX := HPr.out.kept ((Below.refl wr.heap.size wr).alloc (Nat.le_refl _) (.cells #[.int .i64 m, .int .i64 l, .int .i64 yb, .int .i64 yf] 64))
          have HPY : Hid _ := HPX
          obtain ⟨y0, y1⟩ := HPX
          have hBM := BoxM.new wr ⟨(m : Int), (l : Int), yb, yf⟩
          obtain ⟨e0, e1, e2, e3⟩ := hBM
          dsimp only at e0 e1 e2 e3
          have hbl : m / 2 ^ kk % 2 = 0 ∨ m / 2 ^ kk % 2 = 1 := by have : m / 2 ^ kk % 2 < 2 := Nat.mod_lt _ (by omega); omega
          rcases hbl with hb0 | hbt
          · obtain ⟨q1, q2, q3⟩ := hleaf kk HKK hb0
            have HCL : Hid (∀ W, Calls Try.prog 54 #[.int .i64 (l : Int), .int .i64 ((kk : Int) + 1)] W fun e w' => e = .returned (.int .i64 (cntMask l (kk + 1) : Nat)) ∧ w' = W) := fun W => implCount_any l (kk + 1) W hl (by omega)
            have HX : Hid (pnFind ns ls (nibA a) (2 * a.size) 0 (ns.getD 0 default) = ls.getD (yf + cntMask l (kk + 1) - 1).toNat 0) := by unfold Hid; rw [HST.out, if_pos hb0]
            rw [hb0] at hab
            have hc16 := cntMask_le l (kk + 1)
            generalize cntMask l (kk + 1) = c at *
            clear hb0
            obtain ⟨j, hj⟩ : ∃ j : Nat, yf + (c : Int) - 1 = (j : Int) := ⟨(yf + (c : Int) - 1).toNat, by omega⟩
            have hjl : j < ls.length := by omega
            obtain ⟨b2, o2, rfl, hb2, hat⟩ : ∃ b off, a2 = some ⟨b, off, none⟩ ∧ b < (wr.alloc (.cells #[.int .i64 m, .int .i64 l, .int .i64 yb, .int .i64 yf] 64)).heap.size ∧ IntsAt (wr.alloc (.cells #[.int .i64 m, .int .i64 l, .int .i64 yb, .int .i64 yf] 64)) b off ls := by
              rcases H2.out.below HMX.out with h | h
              · rw [h] at hjl; simp at hjl
              · exact h
            have cj := hat j hjl
            have HX2 : Hid (popFindV ns ls a = ls[j]) := by unfold Hid; rw [HV.out, HX.out, hj]; simp [List.getD, List.getElem?_eq_getElem hjl]
            generalize ls[j] = lv at *
            have hjl' : (j : Int) < (ls.length : Int) := by omega
            clear HX hat hA
            go_wp2_with fail
            refine (HBT.out _).mono ?_
            rintro e wr ⟨rfl, rfl⟩
            go_wp2_with fail
            refine (HPA.out _).mono ?_
            rintro e w2 ⟨rfl, rfl⟩
            generalize hWX : wr.alloc (.cells #[.int .i64 m, .int .i64 l, .int .i64 yb, .int .i64 yf] 64) = W at *
            clear hWX c0 c1 c2 c3 k0 k1
            go_wp2_with fail
            go_quiet ((go_at_call 54; exact Calls.quiet_of_same (HCL.out _)))
            all_goals
              go_wp2_with fail
              go_ret
              exact ⟨ret_int HX2.out.symm, HMX.out.trans ⟨rfl, rfl, rfl, Nat.le_refl _, fun _ _ => rfl⟩⟩
          · obtain ⟨q1, q2⟩ := hkid kk HKK hbt
            have HCK : Hid (∀ W, Calls Try.prog 54 #[.int .i64 (m : Int), .int .i64 (kk : Int)] W fun e w' => e = .returned (.int .i64 (cntMask m kk : Nat)) ∧ w' = W) := fun W => implCount_any m kk W hm (by omega)
            have HX : Hid (pnFind ns ls (nibA a) (2 * a.size) 0 (ns.getD 0 default) = pnFind ns ls (nibA a) (2 * a.size - (d + 1)) (d + 1) (ns.getD (yb + cntMask m kk).toNat default)) := by unfold Hid; rw [HST.out, if_neg (by omega)]
            rw [hbt] at hab
            have hc16 := cntMask_le m kk
            generalize cntMask m kk = c at *
            clear hbt
            obtain ⟨j, hj⟩ : ∃ j : Nat, yb + (c : Int) = (j : Int) := ⟨(yb + (c : Int)).toNat, by omega⟩
            have hjl : j < ns.length := by omega
            have HX2 : Hid (pnFind ns ls (nibA a) (2 * a.size) 0 (ns.getD 0 default) = pnFind ns ls (nibA a) (2 * a.size - (d + 1)) (d + 1) (ns.getD j default)) := by unfold Hid; rw [HX.out, hj]; rfl
            clear HX hA
            go_wp2_with fail
            refine (HBT.out _).mono ?_
            rintro e wr ⟨rfl, rfl⟩
            go_wp2_with fail
            refine (HPA.out _).mono ?_
            rintro e w2 ⟨rfl, rfl⟩
            generalize hWX : wr.alloc (.cells #[.int .i64 m, .int .i64 l, .int .i64 yb, .int .i64 yf] 64) = W at *
            clear hWX c0 c1 c2 c3 k0 k1
            go_wp2_with fail
            go_quiet ((go_at_call 54; exact Calls.quiet_of_same (HCK.out _)))
            all_goals
              go_wp2_with fail
              go_roundw
              case rel => exact ⟨d + 1, t + 4, j, by have := HT.out; omega, by omega, by go_num, by go_num, hjl, HX2.out, HPY.out.kept ⟨rfl, rfl, rfl, Nat.le_refl _, fun _ _ => rfl⟩, HMX.out.trans ⟨rfl, rfl, rfl, Nat.le_refl _, fun _ _ => rfl⟩⟩
              case measure => simp [intOf]; omega
        · have hlt' : ¬ (t : Int) < 8 * (a.size : Int) := by omega
          have HX : Hid (popFindV ns ls a = 0) := by unfold Hid; rw [HV.out, HFI.out, show 2 * a.size - d = 0 by omega]; rfl
          go_wp2_with fail
          refine (HBT.out _).mono ?_
          rintro e wr ⟨rfl, rfl⟩
          go_wp2_with fail
          go_ret
          exact ⟨ret_int HX.out.symm, HM.out⟩

end Go.Proofs.Ytmhkhbpedfdocah
