/- Groups read: what the program's leadingGroup answers. -/
import Derived.Test.YtebhljogijemoaaDoorSRead
import Derived.Test.YtebhljogijemoaaDoorShelf
namespace Go.Proofs.YtebhljogijemoaaDoor
open Go.RowKit Go.PlainAid
set_option linter.unusedVariables false
set_option linter.unusedSimpArgs false

theorem index_hex : ∀ n : Fin 256, Lib.indexByte [48, 49, 50, 51, 52, 53, 54, 55, 56, 57, 97, 98, 99, 100, 101, 102] n.val.toUInt8 = hexI n.val := by decide +kernel
theorem index_hexI (c : Int) (h0 : 0 ≤ c) (h1 : c ≤ 255) : Lib.indexByte [48, 49, 50, 51, 52, 53, 54, 55, 56, 57, 97, 98, 99, 100, 101, 102] c.toNat.toUInt8 = hexI c := by
  have := index_hex ⟨c.toNat, by omega⟩
  simp only at this
  rw [this]; congr 1; omega

theorem join_hex (a b : Int) (ha : 0 ≤ a) (ha' : a ≤ 65535) (hb : 0 ≤ b) (hb' : b ≤ 15) : bits .or .i64 (a * 16) b = a * 16 + b :=
  bits_join .i64 63 (by decide) wraps_i64 4 (a * 16) b (by omega) (by omega) (by omega) hb (by omega) (by omega)

theorem leadF_step {f x n d j : Nat} {l : List UInt8} (h : j < l.length) (hd : hexV l[j] = some d) : leadF (f + 1) x n (l.drop j) = leadF f (16 * x + d) (n + 1) (l.drop (j + 1)) := by
  rw [List.drop_eq_getElem_cons h]; simp only [leadF]; rw [hd]
theorem leadF_stop {f x n j : Nat} {l : List UInt8} (h : j < l.length) (hd : hexV l[j] = none) : leadF (f + 1) x n (l.drop j) = (x, n) := by
  rw [List.drop_eq_getElem_cons h]; simp only [leadF]; rw [hd]
theorem leadF_end {f x n j : Nat} {l : List UInt8} (h : l.length ≤ j) : leadF f x n (l.drop j) = (x, n) := by
  rw [List.drop_eq_nil_of_le h]; cases f <;> rfl

set_option maxRecDepth 100000 in
set_option maxHeartbeats 1000000 in
theorem implLead_any (l : List UInt8) (w : World) (hl : l.length ≤ 20000) :
    Calls Tryd.prog 37 #[.string (ofL l)] w fun e w' => e = .returned (.tuple #[.int .i64 ((lead l).1 : Nat), .int .i64 ((lead l).2 : Nat)]) ∧ w' = w := by
  have hq := ofL_size l
  have hgb := get_bt (ofL l)
  have HG : Hid (∀ j (hj : j < l.length), bt (ofL l) j = (l[j].toNat : Int)) := fun j hj => by
    have := toL_get (ofL l) j (by rw [hq]; exact hj)
    rw [this]; simp [ofL]
  go_enter Tryd.func37, Tryd.ntmps37
  go_wp2_with fail
  go_loop [2, 3] (fun x n => ∃ (j a : Nat), j ≤ l.length ∧ j ≤ 4 ∧ n = .int .i64 j ∧ x = .int .i64 a ∧ a < 16 ^ j ∧ lead l = leadF (4 - j) a j (l.drop j)) (fun _ n => 4 - (intOf n).toNat)
  case atStart => exact ⟨0, 0, Nat.zero_le _, Nat.zero_le _, rfl, rfl, by simp, by simp [lead]⟩
  case round =>
    obtain ⟨j, a, hj, hj4, rfl, rfl, ha, hd⟩ := hrel
    have HD : Hid (lead l = leadF (4 - j) a j (l.drop j)) := hd
    have ha2 : a ≤ 65535 := by
      have : 16 ^ j ≤ 16 ^ 4 := Nat.pow_le_pow_right (by omega) hj4
      omega
    have HA : Hid (a < 16 ^ j) := ha
    clear hd ha
    by_cases h1 : j < l.length
    · by_cases h2 : j < 4
      · obtain ⟨f, hf⟩ : ∃ f, 4 - j = f + 1 := ⟨3 - j, by omega⟩
        have hbj := HG.out j h1
        have hb0 := bt_nonneg (ofL l) j
        have hb1 := bt_le (ofL l) j
        have h1' : (j : Int) < ((ofL l).size : Int) := by rw [hq]; omega
        have h1'' : j < (ofL l).size := by rw [hq]; omega
        have hr := hexI_range (bt (ofL l) j)
        have HX : Hid (∀ W, Calls Tryd.prog 49 #[.string ⟨#[48, 49, 50, 51, 52, 53, 54, 55, 56, 57, 97, 98, 99, 100, 101, 102]⟩, .int .u8 (bt (ofL l) j)] W fun e w' => e = .returned (.int .i64 (hexI (bt (ofL l) j))) ∧ w' = W) := fun W => by
          have := Tryd.strings_IndexByte ⟨#[48, 49, 50, 51, 52, 53, 54, 55, 56, 57, 97, 98, 99, 100, 101, 102]⟩ (bt (ofL l) j) W
          rw [show ((⟨#[48, 49, 50, 51, 52, 53, 54, 55, 56, 57, 97, 98, 99, 100, 101, 102]⟩ : ByteArray).data.toList) = [48, 49, 50, 51, 52, 53, 54, 55, 56, 57, 97, 98, 99, 100, 101, 102] from rfl, index_hexI _ hb0 hb1] at this
          exact this
        by_cases h3 : hexI (bt (ofL l) j) < 0
        · have HE : Hid (lead l = (a, j)) := by unfold Hid; rw [HD.out, hf, leadF_stop h1 (hexI_none (by rw [← hbj]; exact h3))]
          clear hbj hf
          go_wp2_with (go_at_call 49; refine (HX.out _).mono ?_; rintro e w' ⟨rfl, rfl⟩)
          go_ret2
          exact ⟨by rw [HE.out]; rfl, rfl⟩
        · obtain ⟨d, hd⟩ : ∃ d : Nat, hexI (bt (ofL l) j) = (d : Int) := ⟨(hexI (bt (ofL l) j)).toNat, by omega⟩
          have HE : Hid (lead l = leadF (4 - (j + 1)) (16 * a + d) (j + 1) (l.drop (j + 1))) := by unfold Hid; rw [HD.out, hf, leadF_step (d := d) h1 (hexI_some (by rw [← hbj]; exact hd)), show 4 - (j + 1) = f by omega]
          have HA2 : Hid (16 * a + d < 16 ^ (j + 1)) := by unfold Hid; rw [Nat.pow_succ]; have := HA.out; omega
          have hd15 : d ≤ 15 := by omega
          have hjn := join_hex (a : Int) (d : Int) (by omega) (by omega) (by omega) (by omega)
          rw [hd] at HX
          clear hbj h3 hr hd hf
          go_wp2_with (go_at_call 49; refine (HX.out _).mono ?_; rintro e w' ⟨rfl, rfl⟩)
          go_round
          case rel => exact ⟨j + 1, 16 * a + d, by omega, by omega, by go_num, by go_num, HA2.out, HE.out⟩
          case measure => simp [intOf]; omega
      · have hj4' : j = 4 := by omega
        subst hj4'
        have HE : Hid (lead l = (a, 4)) := by unfold Hid; rw [HD.out]; rfl
        have h1' : (4 : Int) < (l.length : Int) := by omega
        go_wp2_with fail
        go_ret2
        exact ⟨by rw [HE.out]; rfl, rfl⟩
    · have HE : Hid (lead l = (a, j)) := by unfold Hid; rw [HD.out, leadF_end (by omega)]
      have h1' : ¬ (j : Int) < (l.length : Int) := by omega
      go_wp2_with fail
      go_ret2
      exact ⟨by rw [HE.out]; rfl, rfl⟩

end Go.Proofs.YtebhljogijemoaaDoor
