/- Addresses of IPv4 read: what the specification's l02Four answers. -/
import Derived.Test.YtebhljogijemoaaDoorSSplit
namespace Go.Proofs.YtebhljogijemoaaDoor
open Go.RowKit Go.PlainAid
set_option linter.unusedVariables false
set_option linter.unusedSimpArgs false

theorem Tryd.infoU : (Tryd.prog.info? 5).map (fun i => (i.zero, i.size, i.bytes)) = some (some (.int .u8 0), 1, 1) := by kernel_rfl

/-- Numbers as a row of bytes. -/
def byts (l : List Nat) : List Value := l.map fun n : Nat => .int .u8 (n : Int)
theorem byts_append (a b : List Nat) : byts (a ++ b) = byts a ++ byts b := by simp [byts]

theorem ownL_conv {w : World} {base g cap : Nat} {ns : List Nat} (hns : ∀ n ∈ ns, n ≤ 255) (h : w.ownsRow base 5 1 (.slice (some ⟨g, 0, none⟩) ns.length cap) ns.length (byts ns)) :
    (convert 22 9 (.slice (some ⟨g, 0, none⟩) ns.length cap)).run Tryd.prog w = .ok (.string (ofL (ns.map UInt8.ofNat))) w := by
  have := run_convert_bytes_back (P := Tryd.prog) w 22 9 5 ⟨g, 0, none⟩ cap (ns.map UInt8.ofNat) Tryd.underlying22 Tryd.underlying5 Tryd.underlying9 (by
    intro j hj
    have hj' : j < ns.length := by simpa using hj
    have ha : Addr.add ⟨g, 0, none⟩ j = ⟨g, j, none⟩ := by simp only [Addr.add, Nat.zero_add]; split <;> simp_all
    have hb := hns _ (List.getElem_mem hj')
    rw [ha, h.cellAt j (by omega)]
    simp [byts, hj']
    omega)
  rw [List.length_map] at this
  exact this

theorem allSome_drop {α β : Type} (f : α → Option β) (l : List α) (k : Nat) (h : k < l.length) : allSome f (l.drop k) = match f l[k] with
    | none => none
    | some b => match allSome f (l.drop (k + 1)) with
      | none => none
      | some r => some (b :: r) := by
  rw [List.drop_eq_getElem_cons h]; rfl

/-- Behind the first k, which gave ns. -/
def restOf {α β : Type} (f : α → Option β) (l : List α) (k : Nat) (ns : List β) : Prop := allSome f l = match allSome f (l.drop k) with
    | none => none
    | some r => some (ns ++ r)
theorem restOf_zero {α β : Type} (f : α → Option β) (l : List α) : restOf f l 0 [] := by
  unfold restOf; rw [List.drop_zero]; cases allSome f l <;> rfl
theorem restOf_step {α β : Type} {f : α → Option β} {l : List α} {k : Nat} {ns : List β} (h : restOf f l k ns) (hk : k < l.length) {b : β} (hb : f l[k] = some b) : restOf f l (k + 1) (ns ++ [b]) := by
  unfold restOf at h ⊢
  rw [h, allSome_drop f l k hk, hb]
  cases allSome f (l.drop (k + 1)) <;> simp
theorem restOf_none {α β : Type} {f : α → Option β} {l : List α} {k : Nat} {ns : List β} (h : restOf f l k ns) (hk : k < l.length) (hb : f l[k] = none) : allSome f l = none := by
  rw [h, allSome_drop f l k hk, hb]
theorem restOf_end {α β : Type} {f : α → Option β} {l : List α} {ns : List β} (h : restOf f l l.length ns) : allSome f l = some ns := by
  rw [h, List.drop_length]; simp [allSome]

theorem digs10_step {acc j : Nat} {p : List UInt8} (h : j < p.length) (hd : 48 ≤ p[j].toNat ∧ p[j].toNat ≤ 57) : digs10 acc (p.drop j) = digs10 (10 * acc + (p[j].toNat - 48)) (p.drop (j + 1)) := by
  rw [List.drop_eq_getElem_cons h]; simp only [digs10]; rw [if_pos hd]
theorem digs10_bad {acc j : Nat} {p : List UInt8} (h : j < p.length) (hd : ¬ (48 ≤ p[j].toNat ∧ p[j].toNat ≤ 57)) : digs10 acc (p.drop j) = none := by
  rw [List.drop_eq_getElem_cons h]; simp only [digs10]; rw [if_neg hd]

theorem cutL_length (c : UInt8) : ∀ l : List UInt8, (cutL c l).length ≤ l.length + 1
  | [] => by simp [cutL]
  | b :: r => by
    have ih := cutL_length c r
    unfold cutL
    split
    · simp; omega
    · split
      · simp
      · rename_i h; rw [h] at ih; simp at ih ⊢; omega

theorem numS_none {p : List UInt8} (h : digs10 0 (p.take 4) = none) : numS p = none := by unfold numS; rw [h]
theorem numS_yes {p : List UInt8} {n : Nat} (h : digs10 0 (p.take 4) = some n) (h1 : ¬ (p.length < 1 ∨ 3 < p.length ∨ 255 < n ∨ (1 < p.length ∧ p.head? = some 48))) : numS p = some n := by unfold numS; rw [h]; simp only []; rw [if_neg h1]
theorem numS_no {p : List UInt8} {n : Nat} (h : digs10 0 (p.take 4) = some n) (h1 : p.length < 1 ∨ 3 < p.length ∨ 255 < n ∨ (1 < p.length ∧ p.head? = some 48)) : numS p = none := by unfold numS; rw [h]; simp only []; rw [if_pos h1]
theorem fourS_none {l : List UInt8} {P : List (List UInt8)} (hF : fourS l = match allSome numS P with
    | none => none
    | some ns => if ns.length = 4 then some (ns.map UInt8.ofNat) else none) (h : allSome numS P = none) : fourS l = none := by rw [hF, h]
theorem fourS_some {l : List UInt8} {P : List (List UInt8)} {ns : List Nat} (hF : fourS l = match allSome numS P with
    | none => none
    | some ns => if ns.length = 4 then some (ns.map UInt8.ofNat) else none) (h : allSome numS P = some ns) : fourS l = if ns.length = 4 then some (ns.map UInt8.ofNat) else none := by rw [hF, h]

/-- A text and whether it counts: what it is if it does. -/
def ReadsAs (V : Option (List UInt8)) (e : Ending) : Prop := ∃ (r : List UInt8) (b : Bool), e = .returned (.tuple #[.string (ofL r), .bool b]) ∧ V = (if b = true then some r else none)
theorem readsAs_no {V : Option (List UInt8)} {e : Ending} (he : e = .returned (.tuple #[.string ⟨#[]⟩, .bool false])) (h : V = none) : ReadsAs V e := ⟨[], false, he, by rw [h]; rfl⟩
theorem readsAs_yes {V : Option (List UInt8)} {e : Ending} (r : List UInt8) (he : e = .returned (.tuple #[.string (ofL r), .bool true])) (h : V = some r) : ReadsAs V e := ⟨r, true, he, by rw [h]; rfl⟩

set_option maxRecDepth 100000 in
set_option maxHeartbeats 1000000 in
theorem specFour_any (s : ByteArray) (w : World) (hs : s.size ≤ 20000) :
    Calls Tryd.prog 26 #[.string s] w fun e w' => ReadsAs (fourS s.data.toList) e ∧ Below w.heap.size w w' := by
  obtain ⟨i0, hi, hz0, hz1, hz2⟩ := info_parts Tryd.infoU
  have HS : Hid (s.size ≤ 20000) := hs
  have HSp : Hid (∀ W, Calls Tryd.prog 41 #[.string s, .int .u8 46] W fun e w' => ∃ g cap, e = .returned (.slice (some ⟨g, 0, none⟩) (cutL 46 s.data.toList).length cap) ∧ w'.ownsRow W.heap.size 9 1 (.slice (some ⟨g, 0, none⟩) (cutL 46 s.data.toList).length cap) (cutL 46 s.data.toList).length (strs (cutL 46 s.data.toList)) ∧ Below W.heap.size W w') := fun W => specSplit_any s 46 W hs
  have HF : Hid (fourS s.data.toList = match allSome numS (cutL 46 s.data.toList) with
    | none => none
    | some ns => if ns.length = 4 then some (ns.map UInt8.ofNat) else none) := rfl
  have hPl : (cutL 46 s.data.toList).length ≤ 20001 := by have := cutL_length 46 s.data.toList; rw [toL_length] at this; omega
  generalize cutL 46 s.data.toList = P at HSp HF hPl
  clear hs
  go_enter Tryd.func26, Tryd.ntmps26
  go_wp2_with fail
  refine (HSp.out _).mono ?_
  rintro e w1 ⟨g, cp, rfl, hown1, hb1⟩
  have HB1 : Hid (Below w.heap.size w w1) := hb1
  have hg1 := hown1.lt g (by simp [Value.ownBlock])
  have HCELL : Hid (∀ j (hj : j < P.length), w1.cell? ⟨g, j, none⟩ = some (.string (ofL P[j]))) := fun j hj => by rw [hown1.cellAt j (by omega), strs_get hj]
  obtain ⟨hg0, hg1⟩ := hg1
  have hz := hb1.size
  clear hown1 hb1 HSp
  go_wp2_with fail
  go_loopw [5, 6] (fun v i wr => ∃ (k : Nat) (ns : List Nat), k ≤ P.length ∧ i = .int .i64 k ∧ ns.length = k ∧ (∀ n ∈ ns, n ≤ 255) ∧ restOf numS P k ns ∧ wr.ownsRow w1.heap.size 5 1 v ns.length (byts ns) ∧ v ≠ .slice none 0 0 ∧ Below w1.heap.size w1 wr) (fun _ i _ => P.length - (intOf i).toNat)
  case atStart =>
    refine ⟨0, [], Nat.zero_le _, rfl, rfl, by simp, restOf_zero _ _, ?_, by simp, (Below.refl _ _).alloc (Nat.le_refl _) _⟩
    have := World.ownsRow_made (base := w1.heap.size) (e := 5) (size := 1) w1 #[] 0 (Nat.le_refl _) (by unfold maxLen; omega) rfl
    simpa [byts] using this
  case round =>
    obtain ⟨k, ns, hk, rfl, hnl, hns, hrest, hown, hnn, hbel⟩ := hrel
    have HR : Hid (restOf numS P k ns) := hrest
    have HNS : Hid (∀ n ∈ ns, n ≤ 255) := hns
    have HNL : Hid (ns.length = k) := hnl
    have HL : Hid (Below w1.heap.size w1 wr) := hbel
    have HNN : Hid (u5 ≠ .slice none 0 0) := hnn
    have HO : Hid (wr.ownsRow w1.heap.size 5 1 u5 ns.length (byts ns)) := hown
    have hsz := hbel.size
    clear hrest hns hbel hnn hnl hown
    by_cases hlt : k < P.length
    · have hcell : wr.cell? ⟨g, k, none⟩ = some (.string (ofL P[k])) := (HL.out.cell (p := ⟨g, k, none⟩) hg1).trans (HCELL.out k hlt)
      obtain ⟨p, hp⟩ : ∃ p, p = P[k] := ⟨_, rfl⟩
      rw [← hp] at hcell
      have HP : Hid (p = P[k]) := hp
      clear hp
      have hq := ofL_size p
      have hgb := get_bt (ofL p)
      have HG : Hid (∀ j (hj : j < p.length), bt (ofL p) j = (p[j].toNat : Int)) := fun j hj => by
        have := toL_get (ofL p) j (by rw [hq]; exact hj)
        rw [this]; simp [ofL]
      have hcd : decide ((k : Int) < (P.length : Int)) = true := by simp; omega
      go_wp2_with fail
      go_loop [7, 8] (fun n i => ∃ (j acc : Nat), j ≤ p.length ∧ j ≤ 4 ∧ i = .int .i64 j ∧ n = .int .i64 acc ∧ acc < 10 ^ j ∧ digs10 0 (p.take 4) = digs10 acc ((p.take 4).drop j)) (fun _ i => 4 - (intOf i).toNat)
      case atStart => exact ⟨0, 0, Nat.zero_le _, Nat.zero_le _, rfl, rfl, by simp, by simp⟩
      case round =>
        obtain ⟨j, acc, hj, hj4, rfl, rfl, hacc, hd⟩ := hrel
        have HD : Hid (digs10 0 (p.take 4) = digs10 acc ((p.take 4).drop j)) := hd
        have hacc2 : acc ≤ 9999 := by
          have : 10 ^ j ≤ 10 ^ 4 := Nat.pow_le_pow_right (by omega) hj4
          omega
        have HA : Hid (acc < 10 ^ j) := hacc
        clear hd hacc
        by_cases h1 : j < p.length
        · by_cases h2 : j < 4
          · have hjt : j < (p.take 4).length := by rw [List.length_take]; omega
            have hgt : (p.take 4)[j] = p[j] := by rw [List.getElem_take]
            have hbj := HG.out j h1
            have hb0 := bt_nonneg (ofL p) j
            have hb1 := bt_le (ofL p) j
            have h1' : (j : Int) < ((ofL p).size : Int) := by rw [hq]; omega
            have h1'' : j < (ofL p).size := by rw [hq]; omega
            by_cases h3 : bt (ofL p) j < 48
            · have HE : Hid (numS p = none) := numS_none (by rw [HD.out]; exact digs10_bad hjt (by rw [hgt]; omega))
              clear hbj hgt hjt
              go_wp2
              go_ret2
              exact ⟨readsAs_no rfl (fourS_none HF.out (restOf_none HR.out hlt (by rw [← HP.out]; exact HE.out))), HB1.out.trans (HL.out.mono hz)⟩
            · by_cases h4 : (57 : Int) < bt (ofL p) j
              · have HE : Hid (numS p = none) := numS_none (by rw [HD.out]; exact digs10_bad hjt (by rw [hgt]; omega))
                clear hbj hgt hjt
                go_wp2
                go_ret2
                exact ⟨readsAs_no rfl (fourS_none HF.out (restOf_none HR.out hlt (by rw [← HP.out]; exact HE.out))), HB1.out.trans (HL.out.mono hz)⟩
              · obtain ⟨d, hd⟩ : ∃ d : Nat, (d : Int) = bt (ofL p) j - 48 := ⟨(bt (ofL p) j - 48).toNat, by omega⟩
                have HE : Hid (digs10 0 (p.take 4) = digs10 (10 * acc + d) ((p.take 4).drop (j + 1))) := by unfold Hid; rw [HD.out, digs10_step hjt (by rw [hgt]; omega), hgt, show p[j].toNat - 48 = d by omega]
                have HA2 : Hid (10 * acc + d < 10 ^ (j + 1)) := by unfold Hid; rw [Nat.pow_succ]; have := HA.out; omega
                have hbd : bt (ofL p) j = (d : Int) + 48 := by omega
                have HBD : Hid (bt (ofL p) j = (d : Int) + 48) := hbd
                clear hbj hgt hjt hbd hd
                go_wp2
                go_round
                case rel => exact ⟨j + 1, 10 * acc + d, by omega, by omega, by go_num, by have := HBD.out; rw [this]; go_num, HA2.out, HE.out⟩
                case measure => simp [intOf]; omega
          · have HE : Hid (numS p = none) := by
              have h4 : (p.take 4).drop j = [] := List.drop_eq_nil_of_le (by rw [List.length_take]; omega)
              exact numS_no (by rw [HD.out, h4]; rfl) (.inr (.inl (by omega)))
            have h1' : (j : Int) < (p.length : Int) := by omega
            have h2' : ¬ (j : Int) < 4 := by omega
            have h5 : (3 : Int) < (p.length : Int) := by omega
            have h6 : ¬ (p.length : Int) < 1 := by omega
            go_wp2
            go_ret2
            exact ⟨readsAs_no rfl (fourS_none HF.out (restOf_none HR.out hlt (by rw [← HP.out]; exact HE.out))), HB1.out.trans (HL.out.mono hz)⟩
        · have hjp : j = p.length := by omega
          have HV : Hid (digs10 0 (p.take 4) = some acc) := by
            have h4 : (p.take 4).drop j = [] := List.drop_eq_nil_of_le (by rw [List.length_take]; omega)
            unfold Hid; rw [HD.out, h4]; rfl
          have h1' : ¬ (j : Int) < (p.length : Int) := by omega
          by_cases c1 : p.length < 1
          · have HE : Hid (numS p = none) := numS_no HV.out (.inl c1)
            have c1' : (p.length : Int) < 1 := by omega
            clear hjp
            go_wp2
            go_ret2
            exact ⟨readsAs_no rfl (fourS_none HF.out (restOf_none HR.out hlt (by rw [← HP.out]; exact HE.out))), HB1.out.trans (HL.out.mono hz)⟩
          · have c1' : ¬ (p.length : Int) < 1 := by omega
            by_cases c2 : 3 < p.length
            · have HE : Hid (numS p = none) := numS_no HV.out (.inr (.inl c2))
              have c2' : (3 : Int) < (p.length : Int) := by omega
              clear hjp
              go_wp2
              go_ret2
              exact ⟨readsAs_no rfl (fourS_none HF.out (restOf_none HR.out hlt (by rw [← HP.out]; exact HE.out))), HB1.out.trans (HL.out.mono hz)⟩
            · have c2' : ¬ (3 : Int) < (p.length : Int) := by omega
              by_cases c3 : 255 < acc
              · have HE : Hid (numS p = none) := numS_no HV.out (.inr (.inr (.inl c3)))
                have c3' : (255 : Int) < (acc : Int) := by omega
                clear hjp
                go_wp2
                go_ret2
                exact ⟨readsAs_no rfl (fourS_none HF.out (restOf_none HR.out hlt (by rw [← HP.out]; exact HE.out))), HB1.out.trans (HL.out.mono hz)⟩
              · have c3' : ¬ (255 : Int) < (acc : Int) := by omega
                have hb0 := HG.out 0 (by omega)
                have hhd : p.head? = some (p[0]'(by omega)) := by rw [List.head?_eq_getElem?, List.getElem?_eq_getElem (by omega)]
                by_cases c4 : 1 < p.length
                · have c4' : (1 : Int) < (p.length : Int) := by omega
                  have h0s : (0 : Nat) < (ofL p).size := by rw [hq]; omega
                  by_cases c5 : bt (ofL p) 0 = 48
                  · have HE : Hid (numS p = none) := numS_no HV.out (.inr (.inr (.inr ⟨c4, by rw [hhd]; congr 1; exact UInt8.toNat.inj (by show (p[0]'(by omega)).toNat = 48; omega)⟩)))
                    clear hjp hb0 hhd
                    go_wp2
                    go_ret2
                    exact ⟨readsAs_no rfl (fourS_none HF.out (restOf_none HR.out hlt (by rw [← HP.out]; exact HE.out))), HB1.out.trans (HL.out.mono hz)⟩
                  · have c5' : (bt (ofL p) 0 == 48) = false := by simp; exact c5
                    have HE : Hid (numS p = some acc) := numS_yes HV.out (by rintro (h | h | h | ⟨h, h'⟩) <;> first | omega | (rw [hhd] at h'; injection h' with h'; apply c5; rw [hb0, h']; rfl))
                    have hw8 : IntKind.u8.wrap (acc : Int) = (acc : Int) := by rw [IntKind.wrap_u8]; omega
                    clear hjp hb0 hhd
                    have hown := HO.out
                    have hnl := HNL.out
                    go_wp2_with (at_builtin; refine wpList_append_own _ rfl (.tmp 92) (.tmp 95) 22 rfl w1.heap.size 5 i0 (.int .u8 0) 1 1 Tryd.underlying22 hi hz0 hz1 hz2 rfl (by decide) _ _ _ rfl (hown.alloc _) ⟨wr.heap.size, 0, none⟩ 1 1 [.int .u8 (acc : Int)] rfl rfl ?c1a ?c2a ?c3a ?c4a ?c5a ?_)
                    case c2a => first | rfl | (intro u hu; simp at hu; subst hu; rfl)
                    case c3a => unfold maxLen; omega
                    case c4a => omega
                    case c5a => first | omega | (simp; omega)
                    · intro v' w2 hown2 hgrow hnil
                      have hown3 : w2.ownsRow w1.heap.size 5 1 v' (ns ++ [acc]).length (byts (ns ++ [acc])) := by rw [byts_append, List.length_append, HNL.out]; exact hown2
                      have HB2 : Hid (Below w1.heap.size w1 w2) := (HL.out.alloc hsz _).grown hgrow (by simp; omega) (fun j hj => (hown.lt j hj).1)
                      have HR2 : Hid (restOf numS P (k + 1) (ns ++ [acc])) := restOf_step HR.out hlt (by rw [← HP.out]; exact HE.out)
                      clear hown2 hgrow hown
                      go_wp2
                      go_roundw
                      case rel => exact ⟨k + 1, ns ++ [acc], by omega, by go_num, by simp; omega, by intro n hn; rcases List.mem_append.1 hn with hn | hn; exact HNS.out n hn; simp at hn; omega, HR2.out, hown3, hnil, HB2.out⟩
                      case measure => simp [intOf]; omega
                · have c4' : ¬ (1 : Int) < (p.length : Int) := by omega
                  have HE : Hid (numS p = some acc) := numS_yes HV.out (by rintro (h | h | h | ⟨h, h'⟩) <;> first | omega | (omega))
                  have hw8 : IntKind.u8.wrap (acc : Int) = (acc : Int) := by rw [IntKind.wrap_u8]; omega
                  clear hjp hb0 hhd
                  have hown := HO.out
                  have hnl := HNL.out
                  go_wp2_with (at_builtin; refine wpList_append_own _ rfl (.tmp 92) (.tmp 95) 22 rfl w1.heap.size 5 i0 (.int .u8 0) 1 1 Tryd.underlying22 hi hz0 hz1 hz2 rfl (by decide) _ _ _ rfl (hown.alloc _) ⟨wr.heap.size, 0, none⟩ 1 1 [.int .u8 (acc : Int)] rfl rfl ?c1b ?c2b ?c3b ?c4b ?c5b ?_)
                  case c2b => first | rfl | (intro u hu; simp at hu; subst hu; rfl)
                  case c3b => unfold maxLen; omega
                  case c4b => omega
                  case c5b => first | omega | (simp; omega)
                  · intro v' w2 hown2 hgrow hnil
                    have hown3 : w2.ownsRow w1.heap.size 5 1 v' (ns ++ [acc]).length (byts (ns ++ [acc])) := by rw [byts_append, List.length_append, HNL.out]; exact hown2
                    have HB2 : Hid (Below w1.heap.size w1 w2) := (HL.out.alloc hsz _).grown hgrow (by simp; omega) (fun j hj => (hown.lt j hj).1)
                    have HR2 : Hid (restOf numS P (k + 1) (ns ++ [acc])) := restOf_step HR.out hlt (by rw [← HP.out]; exact HE.out)
                    clear hown2 hgrow hown
                    go_wp2
                    go_roundw
                    case rel => exact ⟨k + 1, ns ++ [acc], by omega, by go_num, by simp; omega, by intro n hn; rcases List.mem_append.1 hn with hn | hn; exact HNS.out n hn; simp at hn; omega, HR2.out, hown3, hnil, HB2.out⟩
                    case measure => simp [intOf]; omega
    · have hkP : k = P.length := by omega
      subst hkP
      have HV : Hid (allSome numS P = some ns) := restOf_end HR.out
      obtain ⟨g2, cp2, hv, hown'⟩ := own_shape HO.out HNN.out
      subst hv
      have hcv := ownL_conv HNS.out hown'
      have HFV : Hid _ := fourS_some HF.out HV.out
      obtain ⟨m, hm⟩ : ∃ m, m = ns.length := ⟨_, rfl⟩
      rw [← hm] at hcv ⊢
      have HM : Hid (m = ns.length) := hm
      have hmb : m ≤ 20001 := by have := HNL.out; omega
      clear hown' hm
      by_cases h4 : m = 4
      · have h4' : ((m : Int) == 4) = true := by simp; omega
        have H4 : Hid (m = 4) := h4
        clear h4
        go_wp2
        go_ret2
        exact ⟨readsAs_yes (ns.map UInt8.ofNat) rfl (by rw [HFV.out, if_pos (by rw [← HM.out]; exact H4.out)]), HB1.out.trans (HL.out.mono hz)⟩
      · have h4' : ((m : Int) == 4) = false := by simp; omega
        go_wp2
        go_ret2
        exact ⟨⟨ns.map UInt8.ofNat, false, rfl, by rw [HFV.out, if_neg (by rw [← HM.out]; exact h4)]; rfl⟩, HB1.out.trans (HL.out.mono hz)⟩

end Go.Proofs.YtebhljogijemoaaDoor
