/- Groups read: what the specification's l01Hex and l02Half answer. -/
import Derived.Test.YtebhljogijemoaaDoorSFour
import Derived.Test.YtebhljogijemoaaDoorTwo
import Derived.Lib.AppendStr
namespace Go.Proofs.YtebhljogijemoaaDoor
open Go.RowKit Go.PlainAid
set_option linter.unusedVariables false
set_option linter.unusedSimpArgs false

/-- The number of a digit, -1 of none. -/
def hexI (c : Int) : Int := if 48 ≤ c ∧ c ≤ 57 then c - 48 else if 97 ≤ c ∧ c ≤ 102 then c - 87 else -1
theorem hexI_range (c : Int) : -1 ≤ hexI c ∧ hexI c ≤ 15 := by
  unfold hexI; split
  · omega
  · split <;> omega
theorem hexI_some {c : UInt8} {d : Nat} (h : hexI (c.toNat : Int) = (d : Int)) : hexV c = some d := by
  unfold hexI at h; unfold hexV
  split at h
  · rw [if_pos (by omega)]; congr 1; omega
  · split at h
    · rw [if_neg (by omega), if_pos (by omega)]; congr 1; omega
    · omega
theorem hexI_none {c : UInt8} (h : hexI (c.toNat : Int) < 0) : hexV c = none := by
  unfold hexI at h; unfold hexV
  split at h
  · omega
  · split at h
    · omega
    · rw [if_neg (by omega), if_neg (by omega)]

theorem specHex_any (c : Int) (w : World) (h0 : 0 ≤ c) (h1 : c ≤ 255) :
    Calls Tryd.prog 54 #[.int .u8 c] w fun e w' => e = .returned (.int .i64 (hexI c)) ∧ w' = w := by
  by_cases a : 48 ≤ c
  · by_cases b : c ≤ 57
    · have HV : Hid (hexI c = c - 48) := if_pos ⟨a, b⟩
      go_enter Tryd.func54, Tryd.ntmps54
      go_wp2
      go_ret
      exact ⟨ret_int (by rw [HV.out]), rfl⟩
    · by_cases x : 97 ≤ c
      · by_cases y : c ≤ 102
        · have HV : Hid (hexI c = c - 87) := by unfold Hid hexI; rw [if_neg (by omega), if_pos ⟨x, y⟩]
          go_enter Tryd.func54, Tryd.ntmps54
          go_wp2
          go_ret
          exact ⟨ret_int (by rw [HV.out]; omega), rfl⟩
        · have HV : Hid (hexI c = -1) := by unfold Hid hexI; rw [if_neg (by omega), if_neg (by omega)]
          go_enter Tryd.func54, Tryd.ntmps54
          go_wp2
          go_ret
          exact ⟨ret_int (by rw [HV.out]), rfl⟩
      · have HV : Hid (hexI c = -1) := by unfold Hid hexI; rw [if_neg (by omega), if_neg (by omega)]
        go_enter Tryd.func54, Tryd.ntmps54
        go_wp2
        go_ret
        exact ⟨ret_int (by rw [HV.out]), rfl⟩
  · have x : ¬ 97 ≤ c := by omega
    have HV : Hid (hexI c = -1) := by unfold Hid hexI; rw [if_neg (by omega), if_neg (by omega)]
    go_enter Tryd.func54, Tryd.ntmps54
    go_wp2
    go_ret
    exact ⟨ret_int (by rw [HV.out]), rfl⟩

theorem digs16_step {acc j d : Nat} {p : List UInt8} (h : j < p.length) (hd : hexV p[j] = some d) : digs16 acc (p.drop j) = digs16 (16 * acc + d) (p.drop (j + 1)) := by
  rw [List.drop_eq_getElem_cons h]; simp only [digs16]; rw [hd]
theorem digs16_bad {acc j : Nat} {p : List UInt8} (h : j < p.length) (hd : hexV p[j] = none) : digs16 acc (p.drop j) = none := by
  rw [List.drop_eq_getElem_cons h]; simp only [digs16]; rw [hd]
theorem wordS_none {p : List UInt8} (h : digs16 0 (p.take 5) = none) : wordS p = none := by unfold wordS; rw [h]
theorem wordS_yes {p : List UInt8} {n : Nat} (h : digs16 0 (p.take 5) = some n) (h1 : ¬ (p.length < 1 ∨ 4 < p.length)) : wordS p = some n := by unfold wordS; rw [h]; simp only []; rw [if_neg h1]
theorem wordS_no {p : List UInt8} {n : Nat} (h : digs16 0 (p.take 5) = some n) (h1 : p.length < 1 ∨ 4 < p.length) : wordS p = none := by unfold wordS; rw [h]; simp only []; rw [if_pos h1]
theorem halfS_none {l : List UInt8} (hl : l ≠ []) (h : allSome wordS (cutL 58 l) = none) : halfS l = none := by unfold halfS; rw [if_neg hl, h]
theorem halfS_some {l : List UInt8} {ns : List Nat} (hl : l ≠ []) (h : allSome wordS (cutL 58 l) = some ns) : halfS l = some (ns.flatMap two) := by unfold halfS; rw [if_neg hl, h]

/-- The bytes of words as numbers. -/
def twoN (ns : List Nat) : List Nat := ns.flatMap fun n => [n / 256, n % 256]
theorem twoN_append (a : List Nat) (n : Nat) : twoN (a ++ [n]) = twoN a ++ [n / 256, n % 256] := by simp [twoN]
theorem twoN_length (a : List Nat) : (twoN a).length = 2 * a.length := by
  induction a with
  | nil => rfl
  | cons n r ih => simp [twoN] at ih ⊢; omega
theorem twoN_le {a : List Nat} (h : ∀ n ∈ a, n ≤ 65535) : ∀ n ∈ twoN a, n ≤ 255 := by
  intro n hn
  simp [twoN] at hn
  obtain ⟨m, hm, hn⟩ := hn
  have := h m hm
  omega
theorem twoN_map (ns : List Nat) : (twoN ns).map UInt8.ofNat = ns.flatMap two := by
  induction ns with
  | nil => rfl
  | cons n r ih =>
    simp only [twoN, List.flatMap_cons, List.map_append] at ih ⊢
    rw [ih]
    congr 1
    simp only [List.map_cons, List.map_nil, two]
    congr 2
    apply UInt8.toNat.inj
    simp

theorem ofL_data (s : ByteArray) : ofL s.data.toList = s := by apply ByteArray.ext; simp [ofL]
theorem toList_data (s : ByteArray) : s.toList = s.data.toList := by
  conv => lhs; rw [← ofL_data s]
  exact ofL_toList _

/-- Two rows of elements of other types lie in other blocks. -/
theorem own_apart {w : World} {base e1 e2 n m c g : Nat} {v : Value} {xs ys : List Value} (h1 : w.ownsRow base e1 1 v n xs) (h2 : w.ownsRow base e2 1 (.slice (some ⟨g, 0, none⟩) m c) m ys) (hne : e1 ≠ e2) : v.ownBlock ≠ some g := by
  rcases h1.2 with ⟨rfl, _⟩ | ⟨g1, c1, cur1, rfl, _, hg1, _⟩
  · simp [Value.ownBlock]
  · rcases h2.2 with ⟨h, _⟩ | ⟨g2, c2, cur2, h, _, hg2, _⟩
    · simp at h
    · simp only [Value.slice.injEq, Option.some.injEq, Addr.mk.injEq, and_true, true_and] at h
      obtain ⟨rfl, rfl⟩ := h
      simp only [Value.ownBlock]
      intro e
      injection e with e
      rw [e] at hg1
      rw [hg1] at hg2
      injection hg2 with hg2
      injection hg2 with _ h3
      exact hne h3

theorem own_below {w w2 : World} {base e n : Nat} {v : Value} {xs : List Value} (h : w.ownsRow base e 1 v n xs) (hb : Below w.heap.size w w2) : w2.ownsRow base e 1 v n xs :=
  h.kept (grown_of_below (r := none) hb) (by cases v.ownBlock <;> simp)

theorem twoV_cells (n : Nat) (h : n ≤ 65535) : Lib.strCells (twoV (n : Int)) = byts [n / 256, n % 256] := by
  have e1 : ((n : Int) / 256).toNat = n / 256 := by omega
  have e2 : ((n : Int) % 256).toNat = n % 256 := by omega
  simp [Lib.strCells, twoV, twoL, byts, e1, e2]
  omega
theorem twoV_size (n : Int) : (twoV n).size = 2 := rfl

set_option maxRecDepth 100000 in
set_option maxHeartbeats 1000000 in
theorem specHalf_any (s : ByteArray) (w : World) (hs : s.size ≤ 20000) :
    Calls Tryd.prog 42 #[.string s] w fun e w' => ReadsAs (halfS s.data.toList) e ∧ Below w.heap.size w w' := by
  by_cases hemp : s.data.toList = []
  · have HV : Hid (halfS s.data.toList = some []) := by unfold Hid; rw [hemp]; rfl
    have hs0 : s = ⟨#[]⟩ := by
      apply ByteArray.ext; apply Array.ext'; exact hemp
    subst hs0
    clear hemp hs
    go_enter Tryd.func42, Tryd.ntmps42
    go_wp2
    go_ret2
    exact ⟨readsAs_yes [] rfl HV.out, (Below.refl _ _).alloc (Nat.le_refl _) _⟩
  obtain ⟨i0, hi, hz0, hz1, hz2⟩ := info_parts Tryd.infoU
  have HS : Hid (s.size ≤ 20000) := hs
  have HE0 : Hid (s.data.toList ≠ []) := hemp
  have hne : s.toList ≠ [] := by rw [toList_data]; exact hemp
  have hnb : s.toList.isEmpty = false := by simpa using hne
  have HSp : Hid (∀ W, Calls Tryd.prog 41 #[.string s, .int .u8 58] W fun e w' => ∃ g cap, e = .returned (.slice (some ⟨g, 0, none⟩) (cutL 58 s.data.toList).length cap) ∧ w'.ownsRow W.heap.size 9 1 (.slice (some ⟨g, 0, none⟩) (cutL 58 s.data.toList).length cap) (cutL 58 s.data.toList).length (strs (cutL 58 s.data.toList)) ∧ Below W.heap.size W w') := fun W => specSplit_any s 58 W hs
  have HFN : Hid (allSome wordS (cutL 58 s.data.toList) = none → halfS s.data.toList = none) := fun h => halfS_none hemp h
  have HFS : Hid (∀ ns, allSome wordS (cutL 58 s.data.toList) = some ns → halfS s.data.toList = some (ns.flatMap two)) := fun ns h => halfS_some hemp h
  have hPl : (cutL 58 s.data.toList).length ≤ 20001 := by have := cutL_length 58 s.data.toList; rw [toL_length] at this; omega
  generalize cutL 58 s.data.toList = P at HSp HFN HFS hPl
  clear hs hemp
  go_enter Tryd.func42, Tryd.ntmps42
  go_wp2_with fail
  refine (HSp.out _).mono ?_
  rintro e w1 ⟨g, cp, rfl, hown1, hb1⟩
  have hzz : w.heap.size + 1 ≤ w1.heap.size := by have := hb1.size; simpa using this
  have HB1 : Hid (Below w.heap.size w w1) := ((Below.refl _ _).alloc (Nat.le_refl _) _).trans (hb1.mono (by simp))
  have HO1 : Hid (w1.ownsRow w.heap.size 5 1 (.slice (some ⟨w.heap.size, 0, none⟩) 0 0) 0 (byts [])) := by
    have := World.ownsRow_made (base := w.heap.size) (e := 5) (size := 1) w #[] 0 (Nat.le_refl _) (by unfold maxLen; omega) rfl
    exact this.kept (grown_of_below (r := none) hb1) (.inr (by simp [Value.ownBlock]))
  have HL1 : Hid (w1.ownsRow w.heap.size 9 1 (.slice (some ⟨g, 0, none⟩) P.length cp) P.length (strs P)) := by
    refine ⟨hown1.1, ?_⟩
    rcases hown1.2 with h | ⟨g', c', cur, h, h2, h3⟩
    · exact .inl h
    · exact .inr ⟨g', c', cur, h, by simp at h2; omega, h3⟩
  clear hown1 hb1 HSp hne hnb
  go_wp2_with fail
  go_loopw [4, 6] (fun v i wr => ∃ (k : Nat) (ns : List Nat), k ≤ P.length ∧ i = .int .i64 k ∧ ns.length = k ∧ (∀ n ∈ ns, n ≤ 65535) ∧ restOf wordS P k ns ∧ wr.ownsRow w.heap.size 5 1 v (2 * k) (byts (twoN ns)) ∧ v ≠ .slice none 0 0 ∧ wr.ownsRow w.heap.size 9 1 (.slice (some ⟨g, 0, none⟩) P.length cp) P.length (strs P) ∧ Below w.heap.size w wr) (fun _ i _ => P.length - (intOf i).toNat)
  case atStart => exact ⟨0, [], Nat.zero_le _, rfl, rfl, by simp, restOf_zero _ _, HO1.out, by simp, HL1.out, HB1.out⟩
  case round =>
    obtain ⟨k, ns, hk, rfl, hnl, hns, hrest, hown, hnn, hlown, hbel⟩ := hrel
    have HR : Hid (restOf wordS P k ns) := hrest
    have HNS : Hid (∀ n ∈ ns, n ≤ 65535) := hns
    have HNL : Hid (ns.length = k) := hnl
    have HL : Hid (Below w.heap.size w wr) := hbel
    have HNN : Hid (u4 ≠ .slice none 0 0) := hnn
    have HO : Hid (wr.ownsRow w.heap.size 5 1 u4 (2 * k) (byts (twoN ns))) := hown
    have HLO : Hid (wr.ownsRow w.heap.size 9 1 (.slice (some ⟨g, 0, none⟩) P.length cp) P.length (strs P)) := hlown
    have hsz := hbel.size
    clear hrest hns hbel hnn hnl hown hlown HO1 HL1
    by_cases hlt : k < P.length
    · have hcell : wr.cell? ⟨g, k, none⟩ = some (.string (ofL P[k])) := by rw [HLO.out.cellAt k (by omega), strs_get hlt]
      obtain ⟨p, hp⟩ : ∃ p, p = P[k] := ⟨_, rfl⟩
      rw [← hp] at hcell
      have HP : Hid (p = P[k]) := hp
      clear hp
      have hq := ofL_size p
      have hgb := get_bt (ofL p)
      have HG : Hid (∀ j (hj : j < p.length), bt (ofL p) j = (p[j].toNat : Int)) := fun j hj => by
        have := toL_get (ofL p) j (by rw [hq]; exact hj)
        rw [this]; simp [ofL]
      have hcd : decide ((k : Int) < (P.length : Int)) = true := by simp; omega
      go_wp2_with fail
      go_loop [7, 8] (fun n i => ∃ (j acc : Nat), j ≤ p.length ∧ j ≤ 5 ∧ i = .int .i64 j ∧ n = .int .i64 acc ∧ acc < 16 ^ j ∧ digs16 0 (p.take 5) = digs16 acc ((p.take 5).drop j)) (fun _ i => 5 - (intOf i).toNat)
      case atStart => exact ⟨0, 0, Nat.zero_le _, Nat.zero_le _, rfl, rfl, by simp, by simp⟩
      case round =>
        obtain ⟨j, acc, hj, hj4, rfl, rfl, hacc, hd⟩ := hrel
        have HD : Hid (digs16 0 (p.take 5) = digs16 acc ((p.take 5).drop j)) := hd
        have hacc2 : acc ≤ 1048575 := by
          have : 16 ^ j ≤ 16 ^ 5 := Nat.pow_le_pow_right (by omega) hj4
          omega
        have HA : Hid (acc < 16 ^ j) := hacc
        clear hd hacc
        by_cases h1 : j < p.length
        · by_cases h2 : j < 5
          · have hjt : j < (p.take 5).length := by rw [List.length_take]; omega
            have hgt : (p.take 5)[j] = p[j] := by rw [List.getElem_take]
            have hbj := HG.out j h1
            have hb0 := bt_nonneg (ofL p) j
            have hb1 := bt_le (ofL p) j
            have h1' : (j : Int) < ((ofL p).size : Int) := by rw [hq]; omega
            have h1'' : j < (ofL p).size := by rw [hq]; omega
            have hr := hexI_range (bt (ofL p) j)
            have HX : Hid (∀ W, Calls Tryd.prog 54 #[.int .u8 (bt (ofL p) j)] W fun e w' => e = .returned (.int .i64 (hexI (bt (ofL p) j))) ∧ w' = W) := fun W => specHex_any _ W hb0 hb1
            by_cases h3 : hexI (bt (ofL p) j) < 0
            · have HE : Hid (wordS p = none) := wordS_none (by rw [HD.out]; exact digs16_bad hjt (by rw [hgt]; exact hexI_none (by rw [← hbj]; exact h3)))
              clear hbj hgt hjt
              go_wp2_with (go_at_call 54; refine (HX.out _).mono ?_; rintro e w' ⟨rfl, rfl⟩)
              go_ret2
              exact ⟨readsAs_no rfl (HFN.out (restOf_none HR.out hlt (by rw [← HP.out]; exact HE.out))), HL.out⟩
            · obtain ⟨d, hd⟩ : ∃ d : Nat, hexI (bt (ofL p) j) = (d : Int) := ⟨(hexI (bt (ofL p) j)).toNat, by omega⟩
              have HE : Hid (digs16 0 (p.take 5) = digs16 (16 * acc + d) ((p.take 5).drop (j + 1))) := by unfold Hid; rw [HD.out, digs16_step (d := d) hjt (by rw [hgt]; exact hexI_some (by rw [← hbj]; exact hd))]
              have HA2 : Hid (16 * acc + d < 16 ^ (j + 1)) := by unfold Hid; rw [Nat.pow_succ]; have := HA.out; omega
              have hd15 : d ≤ 15 := by omega
              rw [hd] at HX
              clear hbj hgt hjt h3 hr hd
              go_wp2_with (go_at_call 54; refine (HX.out _).mono ?_; rintro e w' ⟨rfl, rfl⟩)
              go_round
              case rel => exact ⟨j + 1, 16 * acc + d, by omega, by omega, by go_num, by go_num, HA2.out, HE.out⟩
              case measure => simp [intOf]; omega
          · have HE : Hid (wordS p = none) := by
              have h4 : (p.take 5).drop j = [] := List.drop_eq_nil_of_le (by rw [List.length_take]; omega)
              exact wordS_no (by rw [HD.out, h4]; rfl) (.inr (by omega))
            have h1' : (j : Int) < (p.length : Int) := by omega
            have h2' : ¬ (j : Int) < 5 := by omega
            have h5 : (4 : Int) < (p.length : Int) := by omega
            have h6 : ¬ (p.length : Int) < 1 := by omega
            go_wp2_with fail
            go_ret2
            exact ⟨readsAs_no rfl (HFN.out (restOf_none HR.out hlt (by rw [← HP.out]; exact HE.out))), HL.out⟩
        · have hjp : j = p.length := by omega
          have HV : Hid (digs16 0 (p.take 5) = some acc) := by
            have h4 : (p.take 5).drop j = [] := List.drop_eq_nil_of_le (by rw [List.length_take]; omega)
            unfold Hid; rw [HD.out, h4]; rfl
          have h1' : ¬ (j : Int) < (p.length : Int) := by omega
          by_cases c1 : p.length < 1
          · have HE : Hid (wordS p = none) := wordS_no HV.out (.inl c1)
            have c1' : (p.length : Int) < 1 := by omega
            clear hjp
            go_wp2_with fail
            go_ret2
            exact ⟨readsAs_no rfl (HFN.out (restOf_none HR.out hlt (by rw [← HP.out]; exact HE.out))), HL.out⟩
          · have c1' : ¬ (p.length : Int) < 1 := by omega
            by_cases c2 : 4 < p.length
            · have HE : Hid (wordS p = none) := wordS_no HV.out (.inr c2)
              have c2' : (4 : Int) < (p.length : Int) := by omega
              clear hjp
              go_wp2_with fail
              go_ret2
              exact ⟨readsAs_no rfl (HFN.out (restOf_none HR.out hlt (by rw [← HP.out]; exact HE.out))), HL.out⟩
            · have c2' : ¬ (4 : Int) < (p.length : Int) := by omega
              have HE : Hid (wordS p = some acc) := wordS_yes HV.out (by omega)
              have hacc3 : acc ≤ 65535 := by
                have : 16 ^ j ≤ 16 ^ 4 := Nat.pow_le_pow_right (by omega) (by omega)
                have := HA.out
                omega
              have HT : Hid (∀ W, Calls Tryd.prog 55 #[.int .i64 (acc : Int)] W fun e w' => e = .returned (.string (twoV (acc : Int))) ∧ Below W.heap.size W w') := fun W => specTwo_any _ W (by omega) (by omega)
              clear hjp
              go_wp2_with fail
              refine (HT.out _).mono ?_
              rintro e w2 ⟨rfl, q2⟩
              have hown := own_below HO.out q2
              have HLO2 : Hid (w2.ownsRow w.heap.size 9 1 (.slice (some ⟨g, 0, none⟩) P.length cp) P.length (strs P)) := own_below HLO.out q2
              have HB2 : Hid (Below w.heap.size w w2) := HL.out.trans (q2.mono HL.out.size)
              have hsz2 := HB2.out.size
              have h2s := twoV_size (acc : Int)
              have HTC : Hid _ := twoV_cells acc hacc3
              obtain ⟨tw, htw⟩ : ∃ tw, tw = twoV (acc : Int) := ⟨_, rfl⟩
              rw [← htw] at h2s HTC ⊢
              clear htw q2 HO HLO
              go_wp2_with (at_builtin; refine Lib.wpList_append_own_string _ rfl (.tmp 61) (.tmp 63) 22 9 rfl w.heap.size 5 i0 Tryd.underlying22 Tryd.underlying9 hi hz0 hz1 hz2 _ _ _ rfl hown tw rfl (by unfold maxLen; omega) (by omega) (by omega) ?_; intro v' w3 hown3 hgrow hnil)
              have hap := own_apart hown HLO2.out (by decide)
              have hown4 : w3.ownsRow w.heap.size 5 1 v' (2 * (k + 1)) (byts (twoN (ns ++ [acc]))) := by
                rw [twoN_append, byts_append, ← HTC.out]; rw [h2s] at hown3; exact hown3
              have HLO3 : Hid (w3.ownsRow w.heap.size 9 1 (.slice (some ⟨g, 0, none⟩) P.length cp) P.length (strs P)) := World.ownsRow.kept HLO2.out hgrow (.inr (fun e => hap e.symm))
              have HB3 : Hid (Below w.heap.size w w3) := HB2.out.grown hgrow hsz2 (fun j hj => (hown.lt j hj).1)
              have HR2 : Hid (restOf wordS P (k + 1) (ns ++ [acc])) := restOf_step HR.out hlt (by rw [← HP.out]; exact HE.out)
              have hnn3 : v' ≠ .slice none 0 0 := by first | exact hnil | exact fun e => HNN.out (hnil.1 e).1
              clear hown3 hgrow hown hnil hap
              go_wp2_with fail
              go_roundw
              case rel => exact ⟨k + 1, ns ++ [acc], by omega, by go_num, by simp [HNL.out], by intro n hn; rcases List.mem_append.1 hn with hn | hn; exact HNS.out n hn; simp at hn; omega, HR2.out, hown4, hnn3, HLO3.out, HB3.out⟩
              case measure => simp [intOf]; omega
    · have hkP : k = P.length := by omega
      subst hkP
      have HV : Hid (allSome wordS P = some ns) := restOf_end HR.out
      have hnl2 : 2 * P.length = (twoN ns).length := by rw [twoN_length, HNL.out]
      have hown := HO.out
      rw [hnl2] at hown
      obtain ⟨g2, cp2, hv, hown'⟩ := own_shape hown HNN.out
      subst hv
      have hcv := ownL_conv (twoN_le HNS.out) hown'
      rw [twoN_map] at hcv
      have HFV : Hid _ := HFS.out ns HV.out
      clear hown' hown hnl2
      go_wp2_with fail
      go_ret2
      exact ⟨readsAs_yes (ns.flatMap two) rfl HFV.out, HL.out⟩

end Go.Proofs.YtebhljogijemoaaDoor
