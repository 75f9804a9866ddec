/- Addresses of IPv6 read: what the specification's l02Six answers. -/
import Derived.Test.YtebhljogijemoaaDoorSHalf
namespace Go.Proofs.YtebhljogijemoaaDoor
open Go.RowKit Go.PlainAid
set_option linter.unusedVariables false
set_option linter.unusedSimpArgs false

theorem made_zero (n : Nat) : (madeCells (Value.int .u8 0).cells (n * 1)).toList = byts (List.replicate n 0) := by
  show (madeCells #[Value.int .u8 0] (n * 1)).toList = _
  rw [toList_madeCells_one]; simp [byts]

theorem cc_next {T : List UInt8} {k : Nat} (h : k + 1 < T.length) (hn : ¬ (T[k] = 58 ∧ T[k + 1] = 58)) : ccFirst k (T.drop k) = ccFirst (k + 1) (T.drop (k + 1)) := by
  rw [List.drop_eq_getElem_cons (show k < T.length by omega)]
  show (if T[k] = 58 ∧ _ then _ else _) = _
  rw [if_neg]
  rw [List.drop_eq_getElem_cons h]
  simp only [List.head?_cons, Option.some.injEq]
  exact hn
theorem cc_hit {T : List UInt8} {k : Nat} (h : k + 1 < T.length) (hn : T[k] = 58 ∧ T[k + 1] = 58) : ccFirst k (T.drop k) = some k := by
  rw [List.drop_eq_getElem_cons (show k < T.length by omega)]
  show (if T[k] = 58 ∧ _ then _ else _) = _
  rw [if_pos]
  rw [List.drop_eq_getElem_cons h]
  simp only [List.head?_cons, Option.some.injEq]
  exact hn
theorem cc_over {T : List UInt8} {k : Nat} (h : ¬ k + 1 < T.length) : ccFirst k (T.drop k) = none := by
  by_cases hk : k < T.length
  · rw [List.drop_eq_getElem_cons hk]
    show (if T[k] = 58 ∧ _ then _ else _) = _
    rw [List.drop_eq_nil_of_le (by omega), if_neg (by simp)]; rfl
  · rw [List.drop_eq_nil_of_le (by omega)]; rfl

theorem halfS_length {l a : List UInt8} (h : halfS l = some a) : a.length ≤ 2 * (l.length + 1) := by
  unfold halfS at h
  split at h
  · injection h with h; rw [← h]; simp
  · split at h
    · simp at h
    · rename_i ns hns
      injection h with h
      have h1 := allSome_length _ _ _ hns
      have h2 := cutL_length 58 l
      have h3 : (ns.flatMap two).length = 2 * ns.length := by
        have := twoN_length ns
        rw [← twoN_map, List.length_map, this]
      rw [← h, h3, h1]; omega

theorem sixS_hit {l : List UInt8} {i : Nat} (h : ccFirst 0 l = some i) : sixS l = match halfS (l.take i), halfS (l.drop (i + 2)) with
    | some a, some b => if 14 < a.length + b.length then none else some (a ++ List.replicate (16 - a.length - b.length) 0 ++ b)
    | _, _ => none := by unfold sixS; rw [h]; rfl
theorem sixS_over {l : List UInt8} (h : ccFirst 0 l = none) : sixS l = match halfS l with
    | some a => if a.length = 16 then some a else none
    | none => none := by unfold sixS; rw [h]; rfl

set_option maxRecDepth 100000 in
set_option maxHeartbeats 1000000 in
theorem specSix_any (s : ByteArray) (w : World) (hs : s.size ≤ 20000) :
    Calls Tryd.prog 27 #[.string s] w fun e w' => ReadsAs (sixS s.data.toList) e ∧ Below w.heap.size w w' := by
  obtain ⟨i0, hi, hz0, hz1, hz2⟩ := info_parts Tryd.infoU
  have hgb := get_bt s
  have HT : Hid (s.data.toList.length = s.size) := toL_length s
  have HH : Hid (∀ (t : ByteArray) (l : List UInt8) W, t.data.toList = l → t.size ≤ 20000 → Calls Tryd.prog 42 #[.string t] W fun e w' => ReadsAs (halfS l) e ∧ Below W.heap.size W w') := fun t l W e h => by rw [← e]; exact specHalf_any t W h
  go_enter Tryd.func27, Tryd.ntmps27
  go_wp2_with fail
  go_loop [4] (fun i => ∃ k : Nat, k ≤ s.size ∧ i = .int .i64 k ∧ ccFirst 0 s.data.toList = ccFirst k (s.data.toList.drop k)) (fun i => s.size - (intOf i).toNat)
  case atStart => exact ⟨0, Nat.zero_le _, rfl, by simp⟩
  case round =>
    obtain ⟨k, hk, rfl, hcc⟩ := hrel
    have HC : Hid (ccFirst 0 s.data.toList = ccFirst k (s.data.toList.drop k)) := hcc
    clear hcc
    by_cases hlt : k + 1 < s.size
    · have hT := HT.out
      have hkT : k + 1 < s.data.toList.length := by rw [hT]; exact hlt
      have g0 := toL_get s k (by omega)
      have g1 := toL_get s (k + 1) hlt
      by_cases a0 : s.data.toList[k] = 58
      · have e0 : (bt s k == 58) = true := by rw [g0, a0]; rfl
        by_cases a1 : s.data.toList[k + 1] = 58
        · have e1 : (bt s (k + 1) == 58) = true := by rw [g1, a1]; rfl
          have HF : Hid _ := sixS_hit (HC.out.trans (cc_hit hkT ⟨a0, a1⟩))
          have x0 : (s.extract 0 k).data.toList = s.data.toList.take k := by rw [ext_ofL]; simp [ofL]
          have x1 : (s.extract (k + 2) s.size).data.toList = s.data.toList.drop (k + 2) := by
            rw [ext_ofL, List.take_of_length_le (by rw [List.length_drop, HT.out]; omega)]; simp [ofL]
          have z0 : (s.extract 0 k).size ≤ 20000 := by rw [ByteArray.size_extract]; omega
          have z1 : (s.extract (k + 2) s.size).size ≤ 20000 := by rw [ByteArray.size_extract]; omega
          have HC0 : Hid (∀ W, Calls Tryd.prog 42 #[.string (s.extract 0 k)] W fun e w' => ReadsAs (halfS (s.data.toList.take k)) e ∧ Below W.heap.size W w') := fun W => HH.out _ _ W x0 z0
          have HC1 : Hid (∀ W, Calls Tryd.prog 42 #[.string (s.extract (k + 2) s.size)] W fun e w' => ReadsAs (halfS (s.data.toList.drop (k + 2))) e ∧ Below W.heap.size W w') := fun W => HH.out _ _ W x1 z1
          have HZ0 : Hid ((s.data.toList.take k).length ≤ 20000) := by unfold Hid; rw [List.length_take, HT.out]; omega
          have HZ1 : Hid ((s.data.toList.drop (k + 2)).length ≤ 20000) := by unfold Hid; rw [List.length_drop, HT.out]; omega
          generalize s.data.toList.take k = la at HF HC0 HZ0
          generalize s.data.toList.drop (k + 2) = lb at HF HC1 HZ1
          clear x0 x1 z0 z1 g0 g1 a0 a1 hkT hT
          go_wp2_with fail
          refine (HC0.out _).mono ?_
          rintro e w1 ⟨⟨ra, ba, rfl, hVa⟩, hBa⟩
          go_wp2_with fail
          refine (HC1.out _).mono ?_
          rintro e w2 ⟨⟨rb, bb, rfl, hVb⟩, hBb⟩
          have HVa : Hid _ := hVa
          have HVb : Hid _ := hVb
          have HB : Hid (Below w.heap.size w w2) := hBa.trans (hBb.mono hBa.size)
          clear hVa hVb hBa hBb
          cases ba with
          | false =>
            go_wp2_with fail
            go_ret2
            exact ⟨readsAs_no rfl (by rw [HF.out, HVa.out]; rfl), HB.out⟩
          | true =>
            cases bb with
            | false =>
              go_wp2_with fail
              go_ret2
              exact ⟨readsAs_no rfl (by rw [HF.out, HVa.out, HVb.out]; rfl), HB.out⟩
            | true =>
              have l1 := halfS_length HVa.out
              have l2 := halfS_length HVb.out
              have l3 := HZ0.out
              have l4 := HZ1.out
              have s1 := ofL_size ra
              have s2 := ofL_size rb
              have HF2 : Hid (sixS s.data.toList = if 14 < ra.length + rb.length then none else some (ra ++ List.replicate (16 - ra.length - rb.length) 0 ++ rb)) := by unfold Hid; rw [HF.out, HVa.out, HVb.out]; rfl
              have y1 : ra.length ≤ 40002 := by omega
              have y2 : rb.length ≤ 40002 := by omega
              clear l1 l2 l3 l4 HVa HVb HF
              by_cases h14 : 14 < ra.length + rb.length
              · have h14' : (14 : Int) < (ra.length : Int) + (rb.length : Int) := by omega
                have HR : Hid _ := HF2.out.trans (if_pos h14)
                go_wp2_with fail
                go_ret2
                exact ⟨readsAs_no rfl HR.out, HB.out⟩
              · have h14' : ¬ (14 : Int) < (ra.length : Int) + (rb.length : Int) := by omega
                have HR : Hid _ := HF2.out.trans (if_neg h14)
                obtain ⟨n, hn⟩ : ∃ n, n = 16 - ra.length - rb.length := ⟨_, rfl⟩
                rw [← hn] at HR
                have hnI : (16 : Int) - (ra.length : Int) - (rb.length : Int) = (n : Int) := by omega
                have hn16 : n ≤ 16 := by omega
                have hz := HB.out.size
                clear hn
                go_wp2_with (at_make; refine wpList_make_full _ rfl _ _ 22 rfl w2.heap.size 5 i0 (.int .u8 0) 1 Tryd.underlying22 hi hz0 hz1 .i64 .i64 _ _ n rfl rfl (by omega) (by omega) (by rw [hz2]; omega) (by unfold maxLen; omega) (Nat.le_refl _) ?_; intro w3 hown hgrow)
                have hcv : (convert 22 9 (.slice (some ⟨w2.heap.size, 0, none⟩) n n)).run Tryd.prog w3 = .ok (.string (ofL (List.replicate n 0))) w3 := by
                  rw [made_zero] at hown
                  have := ownL_conv (ns := List.replicate n 0) (by intro m hm; rw [List.eq_of_mem_replicate hm]; omega) (by rw [List.length_replicate]; exact hown)
                  rw [List.length_replicate, List.map_replicate] at this
                  exact this
                have HB3 : Hid (Below w.heap.size w w3) := HB.out.grown hgrow hz (by simp)
                have hrl : (List.replicate n (0 : UInt8)).length = n := List.length_replicate
                have ha1 : ∀ W, (Op.stringOp .add (ofL ra) (ofL (List.replicate n 0))).run Tryd.prog W = .ok (.string (ofL (ra ++ List.replicate n 0))) W := fun W => by
                  rw [run_string_add_sum W _ _ (by rw [ofL_size, ofL_size, hrl]; omega), ofL_append]
                have ha2 : ∀ W, (Op.stringOp .add (ofL (ra ++ List.replicate n 0)) (ofL rb)).run Tryd.prog W = .ok (.string (ofL (ra ++ List.replicate n 0 ++ rb))) W := fun W => by
                  rw [run_string_add_sum W _ _ (by rw [ofL_size, ofL_size]; simp; omega), ofL_append]
                generalize List.replicate n (0 : UInt8) = zz at HR hcv ha1 ha2
                generalize ra ++ zz ++ rb = yy at HR ha2
                generalize ra ++ zz = xx at ha1 ha2
                clear hown hgrow hrl
                rw [hcv]
                go_wp2_with fail
                go_ret2
                exact ⟨readsAs_yes _ rfl HR.out, HB3.out⟩
        · have e1 : (bt s (k + 1) == 58) = false := by rw [g1]; exact beq_eq_false_iff_ne.2 (fun e => a1 (UInt8.toNat.inj (Int.ofNat.inj e)))
          have HN : Hid _ := HC.out.trans (cc_next hkT (fun h => a1 h.2))
          clear g0 g1 a0 a1 hkT hT
          go_wp2_with fail
          go_round
          case rel => exact ⟨k + 1, by omega, by go_num, HN.out⟩
          case measure => simp [intOf]; omega
      · have e0 : (bt s k == 58) = false := by rw [g0]; exact beq_eq_false_iff_ne.2 (fun e => a0 (UInt8.toNat.inj (Int.ofNat.inj e)))
        have HN : Hid _ := HC.out.trans (cc_next hkT (fun h => a0 h.1))
        clear g0 g1 a0 hkT hT
        go_wp2_with fail
        go_round
        case rel => exact ⟨k + 1, by omega, by go_num, HN.out⟩
        case measure => simp [intOf]; omega
    · have HF : Hid _ := sixS_over (HC.out.trans (cc_over (by rw [HT.out]; exact hlt)))
      have HN := HH.out s _ w rfl hs
      have hlt' : ¬ (k : Int) + 1 < (s.size : Int) := by omega
      go_wp2_with fail
      refine HN.mono ?_
      rintro e w1 ⟨⟨r, b, rfl, hV⟩, hB⟩
      have HV : Hid _ := hV
      have HB : Hid (Below w.heap.size w w1) := hB
      clear hV hB HN
      cases b with
      | false =>
        go_wp2_with fail
        go_ret2
        exact ⟨⟨r, false, rfl, by rw [HF.out, HV.out]; rfl⟩, HB.out⟩
      | true =>
        have hr2 := halfS_length HV.out
        rw [HT.out] at hr2
        have hrs := ofL_size r
        by_cases h16 : r.length = 16
        · have H16 : Hid (r.length = 16) := h16
          have e16 : ((r.length : Int) == 16) = true := by simp; omega
          clear h16
          go_wp2_with fail
          go_ret2
          exact ⟨readsAs_yes r rfl (by rw [HF.out, HV.out]; simp [H16.out]), HB.out⟩
        · have H16 : Hid (¬ r.length = 16) := h16
          have e16 : ((r.length : Int) == 16) = false := by simp; omega
          clear h16
          go_wp2_with fail
          go_ret2
          exact ⟨⟨r, false, rfl, by rw [HF.out, HV.out]; simp [H16.out]⟩, HB.out⟩

end Go.Proofs.YtebhljogijemoaaDoor
