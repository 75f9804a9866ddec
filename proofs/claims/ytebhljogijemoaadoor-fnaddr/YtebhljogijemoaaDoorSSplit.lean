/- Texts cut at a byte: what the specification's l01Split answers. -/
import Derived.Test.YtebhljogijemoaaDoorReadDefs
import Derived.Deep.RegionWith
namespace Go.Proofs.YtebhljogijemoaaDoor
open Go.RowKit Go.PlainAid
set_option linter.unusedVariables false
set_option linter.unusedSimpArgs false

theorem Tryd.infoS : (Tryd.prog.info? 9).map (fun i => (i.zero, i.size, i.bytes)) = some (some (.string ⟨#[]⟩), 1, 16) := by kernel_rfl

/-- Texts as a row's cells. -/
def strs (l : List (List UInt8)) : List Value := l.map fun p => .string (ofL p)
theorem strs_append (a b : List (List UInt8)) : strs (a ++ b) = strs a ++ strs b := by simp [strs]
theorem strs_get {l : List (List UInt8)} {i : Nat} (h : i < l.length) : (strs l)[i]? = some (.string (ofL l[i])) := by simp [strs, h]

theorem ext_ofL (s : ByteArray) (a b : Nat) : s.extract a b = ofL ((s.data.toList.drop a).take (b - a)) := by
  apply ByteArray.ext
  rw [ByteArray.data_extract]
  apply Array.ext'
  simp [ofL, List.extract_eq_take_drop]

theorem toL_length (s : ByteArray) : s.data.toList.length = s.size := Array.length_toList
theorem toL_get (s : ByteArray) (k : Nat) (h : k < s.size) : bt s k = ((s.data.toList[k]'(by rw [toL_length]; exact h)).toNat : Int) := by
  unfold bt; rw [dif_pos h]; rfl

theorem cut_hit {T : List UInt8} {c : UInt8} {a k : Nat} (h : a ≤ k) (hk : k < T.length) (hc : T[k] = c) (hn : c ∉ (T.drop a).take (k - a)) : cutL c (T.drop a) = (T.drop a).take (k - a) :: cutL c (T.drop (k + 1)) := by
  have e : T.drop a = (T.drop a).take (k - a) ++ c :: T.drop (k + 1) := by
    conv => lhs; rw [← List.take_append_drop (k - a) (T.drop a)]
    rw [List.drop_drop, show a + (k - a) = k by omega, List.drop_eq_getElem_cons hk, hc]
  conv => lhs; rw [e]
  rw [cutL_app _ _ _ hn]
theorem cut_miss {T : List UInt8} {c : UInt8} {a k : Nat} (h : a ≤ k) (hk : k < T.length) (hc : T[k] ≠ c) (hn : c ∉ (T.drop a).take (k - a)) : c ∉ (T.drop a).take (k + 1 - a) := by
  rw [show k + 1 - a = (k - a) + 1 by omega, List.take_succ_eq_append_getElem (by rw [List.length_drop]; omega)]
  simp only [List.getElem_drop, show a + (k - a) = k by omega]
  intro hm
  rcases List.mem_append.1 hm with hm | hm
  · exact hn hm
  · simp at hm; exact hc hm.symm
theorem cut_end {T : List UInt8} {c : UInt8} {a : Nat} (hn : c ∉ (T.drop a).take (T.length - a)) : cutL c (T.drop a) = [T.drop a] := by
  rw [List.take_of_length_le (by rw [List.length_drop]; omega)] at hn
  exact cutL_none _ _ hn

set_option maxRecDepth 100000 in
set_option maxHeartbeats 1000000 in
theorem specSplit_any (s : ByteArray) (c : UInt8) (w : World) (hs : s.size ≤ 20000) :
    Calls Tryd.prog 41 #[.string s, .int .u8 (c.toNat : Int)] w fun e w' => ∃ g cap, e = .returned (.slice (some ⟨g, 0, none⟩) (cutL c s.data.toList).length cap) ∧ w'.ownsRow w.heap.size 9 1 (.slice (some ⟨g, 0, none⟩) (cutL c s.data.toList).length cap) (cutL c s.data.toList).length (strs (cutL c s.data.toList)) ∧ Below w.heap.size w w' := by
  obtain ⟨i0, hi, hz0, hz1, hz2⟩ := info_parts Tryd.infoS
  have hgb := get_bt s
  have HT : Hid (s.data.toList.length = s.size) := toL_length s
  go_enter Tryd.func41, Tryd.ntmps41
  go_wp2_with fail
  go_loopw [5, 6, 7] (fun v f i wr => ∃ (k a : Nat) (out : List (List UInt8)), k ≤ s.size ∧ a ≤ k ∧ i = .int .i64 k ∧ f = .int .i64 a ∧ wr.ownsRow w.heap.size 9 1 v out.length (strs out) ∧ v ≠ .slice none 0 0 ∧ out.length ≤ k ∧ cutL c s.data.toList = out ++ cutL c (s.data.toList.drop a) ∧ c ∉ (s.data.toList.drop a).take (k - a) ∧ Below w.heap.size w wr) (fun _ _ i _ => s.size - (intOf i).toNat)
  case atStart =>
    refine ⟨0, 0, [], Nat.zero_le _, Nat.le_refl _, rfl, rfl, ?_, by simp, by simp, by simp, by simp, (Below.refl _ _).alloc (Nat.le_refl _) _⟩
    have := World.ownsRow_made (base := w.heap.size) (e := 9) (size := 1) w #[] 0 (Nat.le_refl _) (by unfold maxLen; omega) rfl
    simpa [strs] using this
  case round =>
    obtain ⟨k, a, out, hk, hak, rfl, rfl, hown, hnn, hol, hcut, hnot, hbel⟩ := hrel
    have HC : Hid (cutL c s.data.toList = out ++ cutL c (s.data.toList.drop a)) := hcut
    have HN : Hid (c ∉ (s.data.toList.drop a).take (k - a)) := hnot
    have HL : Hid (Below w.heap.size w wr) := hbel
    have HNN : Hid (u5 ≠ .slice none 0 0) := hnn
    have hsz := hbel.size
    clear hcut hnot hbel hnn
    by_cases hlt : k < s.size
    · have hkT : k < s.data.toList.length := by rw [HT.out]; exact hlt
      have hbk := toL_get s k hlt
      by_cases hc : s.data.toList[k] = c
      · have e1 : (bt s k == (c.toNat : Int)) = true := by rw [hbk, hc]; simp
        have HH : Hid _ := cut_hit hak hkT hc HN.out
        have hex : s.extract a k = ofL ((s.data.toList.drop a).take (k - a)) := ext_ofL s a k
        obtain ⟨p, hp⟩ : ∃ p, p = (s.data.toList.drop a).take (k - a) := ⟨_, rfl⟩
        rw [← hp] at hex
        have HP : Hid (p = (s.data.toList.drop a).take (k - a)) := hp
        clear hp hbk hc
        go_wp2_with (at_builtin; refine wpList_append_own _ rfl (.tmp 20) (.tmp 25) 41 rfl w.heap.size 9 i0 (.string ⟨#[]⟩) 1 16 Tryd.underlying41 hi hz0 hz1 hz2 rfl (by decide) _ _ _ rfl (hown.alloc _) ⟨wr.heap.size, 0, none⟩ 1 1 [.string (ofL p)] rfl rfl ?c1 ?c2 ?c3 ?c4 ?c5 ?_)
        case c1 =>
          intro j u hj
          match j, hj with
          | 0, hj => simp at hj; subst hj; simp [Addr.add]
        case c2 => intro u hu; simp at hu; subst hu; rfl
        case c3 => unfold maxLen; omega
        case c4 => omega
        case c5 => simp; omega
        · intro v' w2 hown2 hgrow hnil
          have hown3 : w2.ownsRow w.heap.size 9 1 v' (out ++ [p]).length (strs (out ++ [p])) := by rw [strs_append, List.length_append]; exact hown2
          have HB2 : Hid (Below w.heap.size w w2) := (HL.out.alloc hsz _).grown hgrow (by simp; omega) (fun j hj => (hown.lt j hj).1)
          have hnn2 : v' ≠ .slice none 0 0 := hnil
          have HC2 : Hid (cutL c s.data.toList = (out ++ [p]) ++ cutL c (s.data.toList.drop (k + 1))) := by unfold Hid; rw [HC.out, HH.out, ← HP.out]; simp
          clear hown2 hgrow hown hnil
          go_wp2
          go_roundw
          case rel => exact ⟨k + 1, k + 1, out ++ [p], by omega, Nat.le_refl _, by go_num, by go_num, hown3, hnn2, by simp; omega, HC2.out, by simp, HB2.out⟩
          case measure => simp [intOf]; omega
      · have e1 : (bt s k == (c.toNat : Int)) = false := by
          rw [hbk]
          exact beq_eq_false_iff_ne.2 (fun e => hc (UInt8.toNat.inj (Int.ofNat.inj e)))
        have HM : Hid _ := cut_miss hak hkT hc HN.out
        clear hc hbk
        go_wp2
        go_roundw
        case rel => exact ⟨k + 1, a, out, by omega, by omega, by go_num, rfl, hown, HNN.out, by omega, HC.out, HM.out, HL.out⟩
        case measure => simp [intOf]; omega
    · have hks : k = s.size := by omega
      subst hks
      have HE : Hid (cutL c (s.data.toList.drop a) = [s.data.toList.drop a]) := cut_end (by rw [HT.out]; exact HN.out)
      have hex : s.extract a s.size = ofL (s.data.toList.drop a) := by
        rw [ext_ofL, List.take_of_length_le (by rw [List.length_drop, HT.out]; omega)]
      obtain ⟨p, hp⟩ : ∃ p, p = s.data.toList.drop a := ⟨_, rfl⟩
      rw [← hp] at hex
      have HC2 : Hid (cutL c s.data.toList = out ++ [p]) := by unfold Hid; rw [HC.out, HE.out, ← hp]
      clear hp
      go_wp2_with (at_builtin; refine wpList_append_own _ rfl (.tmp 29) (.tmp 33) 41 rfl w.heap.size 9 i0 (.string ⟨#[]⟩) 1 16 Tryd.underlying41 hi hz0 hz1 hz2 rfl (by decide) _ _ _ rfl (hown.alloc _) ⟨wr.heap.size, 0, none⟩ 1 1 [.string (ofL p)] rfl rfl ?d1 ?d2 ?d3 ?d4 ?d5 ?_)
      case d1 =>
        intro j u hj
        match j, hj with
        | 0, hj => simp at hj; subst hj; simp [Addr.add]
      case d2 => intro u hu; simp at hu; subst hu; rfl
      case d3 => unfold maxLen; omega
      case d4 => omega
      case d5 => simp; omega
      · intro v' w2 hown2 hgrow hnil
        have hown3 : w2.ownsRow w.heap.size 9 1 v' (cutL c s.data.toList).length (strs (cutL c s.data.toList)) := by rw [HC2.out, strs_append, List.length_append]; exact hown2
        have HB2 : Hid (Below w.heap.size w w2) := (HL.out.alloc hsz _).grown hgrow (by simp; omega) (fun j hj => (hown.lt j hj).1)
        have hnn2 : v' ≠ .slice none 0 0 := hnil
        obtain ⟨g, cp, hv, hown4⟩ := own_shape hown3 hnn2
        subst hv
        clear hown2 hgrow hown hnil hown3
        go_wp2
        go_ret
        exact ⟨g, cp, rfl, hown4, HB2.out⟩

end Go.Proofs.YtebhljogijemoaaDoor
