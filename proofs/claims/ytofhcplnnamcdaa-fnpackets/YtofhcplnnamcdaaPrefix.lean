/- Prefixes: what the specification's PrefixRight, l02Has, PrefixHas and l02Nat answer. -/
import Derived.Test.YtofhcplnnamcdaaBits
import Derived.RegionTactic
import Derived.BigQuiet
import Derived.Deep.QuietTactic
import Derived.Deep.DeepCutAuto
namespace Go.Proofs.Ytofhcplnnamcdaa
open Go.RowKit Go.PlainAid
set_option linter.unusedVariables false
set_option linter.unusedSimpArgs false


/-- All bits from k on, n of them, are 0. -/
def zerosN (f : Nat → Int) (k : Nat) : Nat → Bool
  | 0 => true
  | n + 1 => bitN f k == 0 && zerosN f (k + 1) n

/-- The first n bits from k on are the same. -/
def sameN (f g : Nat → Int) (k : Nat) : Nat → Bool
  | 0 => true
  | n + 1 => bitN f k == bitN g k && sameN f g (k + 1) n

/-- Is a prefix refused ahead of its bits? -/
def badP (s : ByteArray) (b : Int) : Bool := !(addrOk s && decide (0 ≤ b) && decide (b ≤ 8 * (s.size : Int)))

/-- Is a prefix right? -/
def prefixOk (s : ByteArray) (b : Int) : Bool := addrOk s && decide (0 ≤ b) && decide (b ≤ 8 * (s.size : Int)) && zerosN (bt s) b.toNat (8 * s.size - b.toNat)

theorem zerosN_step (f : Nat → Int) (k m : Nat) (h : k < m) : zerosN f k (m - k) = (bitN f k == 0 && zerosN f (k + 1) (m - (k + 1))) := by
  obtain ⟨n, e⟩ : ∃ n, m - k = n + 1 := ⟨m - k - 1, by omega⟩
  rw [e, show m - (k + 1) = n by omega]; rfl

theorem sameN_step (f g : Nat → Int) (k m : Nat) (h : k < m) : sameN f g k (m - k) = (bitN f k == bitN g k && sameN f g (k + 1) (m - (k + 1))) := by
  obtain ⟨n, e⟩ : ∃ n, m - k = n + 1 := ⟨m - k - 1, by omega⟩
  rw [e, show m - (k + 1) = n by omega]; rfl

theorem zerosN_end (f : Nat → Int) (k m : Nat) (h : m ≤ k) : zerosN f k (m - k) = true := by rw [show m - k = 0 by omega]; rfl
theorem sameN_end (f g : Nat → Int) (k m : Nat) (h : m ≤ k) : sameN f g k (m - k) = true := by rw [show m - k = 0 by omega]; rfl

set_option maxRecDepth 100000 in
set_option maxHeartbeats 1000000 in
theorem specPrefixRight_any (s : ByteArray) (b : Int) (w : World) (hs : s.size ≤ 1048576) :
    Calls Try.prog 76 #[.agg #[.string s, .int .i64 b]] w fun e w' => e = .returned (.bool (prefixOk s b)) ∧ Below w.heap.size w w' := by
  have hc0 : (w.alloc (.cells #[.string s, .int .i64 b] 33)).cell? ⟨w.heap.size, 0, none⟩ = some (.string s) := by simp
  have hc1 : (w.alloc (.cells #[.string s, .int .i64 b] 33)).cell? ⟨w.heap.size, 1, none⟩ = some (.int .i64 b) := by simp
  have HB : Hid (Below w.heap.size w (w.alloc (.cells #[.string s, .int .i64 b] 33))) := (Below.refl _ _).alloc (Nat.le_refl _) _
  go_enter Try.func76, Try.ntmps76
  go_upto_region 1 with fail
  generalize hW : w.alloc (.cells #[.string s, .int .i64 b] 33) = W at *
  clear hW
  go_cut [20] (fun v wx => v = .bool (badP s b) ∧ ∃ n, wx = W.drewN n)
  case first =>
    by_cases ha : addrOk s = true
    · by_cases h0 : 0 ≤ b
      · by_cases h1 : b ≤ 8 * (s.size : Int)
        · have d0 : decide (b < 0) = false := by simpa using h0
          have d1 : decide (8 * (s.size : Int) < b) = false := by simpa using h1
          go_quiet ((first | (go_at_call 31; exact Calls.quiet_of_same (specAddrRight_any _ _)) | (go_at_call 107; exact Calls.quiet_of_same (specBits_any _ _ hs))))
          go_wp2_with fail
          go_meet
          exact ⟨by simp [badP, ha, h0, h1], _, rfl⟩
        · have d0 : decide (b < 0) = false := by simpa using h0
          have d1 : 8 * (s.size : Int) < b := by omega
          go_quiet ((first | (go_at_call 31; exact Calls.quiet_of_same (specAddrRight_any _ _)) | (go_at_call 107; exact Calls.quiet_of_same (specBits_any _ _ hs))))
          go_wp2_with fail
          go_meet
          exact ⟨by simp [badP, h1], _, rfl⟩
      · have d0 : b < 0 := by omega
        go_quiet ((first | (go_at_call 31; exact Calls.quiet_of_same (specAddrRight_any _ _)) | (go_at_call 107; exact Calls.quiet_of_same (specBits_any _ _ hs))))
        go_wp2_with fail
        go_meet
        exact ⟨by simp [badP, h0], _, rfl⟩
    · have ha' : addrOk s = false := by simpa using ha
      clear ha
      go_quiet ((first | (go_at_call 31; exact Calls.quiet_of_same (specAddrRight_any _ _)) | (go_at_call 107; exact Calls.quiet_of_same (specBits_any _ _ hs))))
      go_wp2_with fail
      go_meet
      exact ⟨by simp [badP, ha'], _, rfl⟩
  case rest =>
  obtain ⟨rfl, n, rfl⟩ := hcut
  by_cases hok : (addrOk s && decide (0 ≤ b) && decide (b ≤ 8 * (s.size : Int))) = true
  · have hok' := hok
    simp at hok'
    obtain ⟨⟨ha, h0⟩, h1⟩ := hok'
    have hbad : badP s b = false := by unfold badP; rw [hok]; rfl
    obtain ⟨b, rfl⟩ := Int.eq_ofNat_of_zero_le h0
    have HV : Hid (prefixOk s b = zerosN (bt s) b (8 * s.size - b)) := by unfold Hid prefixOk; rw [hok]; simp
    clear ha hok
    have HB2 : Hid (Below w.heap.size w (W.drewN n)) := HB.out.trans ⟨rfl, rfl, rfl, Nat.le_refl _, fun _ _ => rfl⟩
    have hd0 : (W.drewN n).cell? ⟨w.heap.size, 0, none⟩ = some (.string s) := hc0
    have hd1 : (W.drewN n).cell? ⟨w.heap.size, 1, none⟩ = some (.int .i64 b) := hc1
    generalize W.drewN n = W2 at *
    clear hc0 hc1 HB
    rw [hbad]
    clear hbad
    go_wp2_with fail
    go_loop [3] (fun i => ∃ k : Nat, b ≤ k ∧ k ≤ 8 * s.size ∧ i = .int .i64 k ∧ zerosN (bt s) b (8 * s.size - b) = zerosN (bt s) k (8 * s.size - k)) (fun i => 8 * s.size - (intOf i).toNat)
    case atStart => exact ⟨b, Nat.le_refl _, by omega, rfl, rfl⟩
    case round =>
      obtain ⟨k, hk0, hk, rfl, hz⟩ := hrel
      have HZ : Hid _ := hz
      clear hz
      by_cases hlt : k < 8 * s.size
      · have HS : Hid _ := zerosN_step (bt s) k (8 * s.size) hlt
        have hr := bitN_range (bt s) k
        by_cases hbit : bitN (bt s) k = 1
        · go_wp2_with (first | (go_at_call 107; refine (specBits_any s _ hs).mono ?_; rintro e w' ⟨rfl, rfl⟩) | (go_at_call 106; refine (specBit_any s k _ hlt hs).mono ?_; rintro e w' ⟨rfl, rfl⟩))
          go_ret
          exact ⟨ret_bool (by rw [HV.out, HZ.out, HS.out, hbit]; rfl), HB2.out⟩
        · have hb0 : bitN (bt s) k = 0 := by omega
          have hb' : (bitN (bt s) k == 1) = false := by simp [hb0]
          have HB0 : Hid (bitN (bt s) k = 0) := hb0
          clear hb0 hbit
          go_wp2_with (first | (go_at_call 107; refine (specBits_any s _ hs).mono ?_; rintro e w' ⟨rfl, rfl⟩) | (go_at_call 106; refine (specBit_any s k _ hlt hs).mono ?_; rintro e w' ⟨rfl, rfl⟩))
          go_round
          case rel => exact ⟨k + 1, by omega, by omega, by go_num, by rw [HZ.out, HS.out, HB0.out]; rfl⟩
          case measure => simp [intOf]; omega
      · have HE : Hid _ := zerosN_end (bt s) k (8 * s.size) (by omega)
        go_wp2_with (go_at_call 107; refine (specBits_any s _ hs).mono ?_; rintro e w' ⟨rfl, rfl⟩)
        go_ret
        exact ⟨ret_bool (by rw [HV.out, HZ.out, HE.out]), HB2.out⟩
  · have hok' : (addrOk s && decide (0 ≤ b) && decide (b ≤ 8 * (s.size : Int))) = false := by simpa using hok
    have hbad : badP s b = true := by unfold badP; rw [hok']; rfl
    have HV : Hid (prefixOk s b = false) := by unfold Hid prefixOk; rw [hok']; rfl
    clear hok hok'
    rw [hbad]
    clear hbad
    go_wp2_with fail
    go_ret
    exact ⟨ret_bool HV.out.symm, HB.out.trans ⟨rfl, rfl, rfl, Nat.le_refl _, fun _ _ => rfl⟩⟩

/-- Have two addresses of one length the same first bits? -/
def hasV (p : ByteArray) (b : Int) (a : ByteArray) : Bool := decide (a.size = p.size) && sameN (bt p) (bt a) 0 b.toNat

set_option maxRecDepth 100000 in
set_option maxHeartbeats 1000000 in
theorem specHas_any (p : ByteArray) (b : Int) (a : ByteArray) (w : World) (hp : p.size ≤ 1048576) (ha : a.size ≤ 1048576) (hb : b ≤ 8 * (p.size : Int)) :
    Calls Try.prog 70 #[.string p, .int .i64 b, .string a] w fun e w' => e = .returned (.bool (hasV p b a)) ∧ w' = w := by
  by_cases hs : a.size = p.size
  · have HV : Hid (hasV p b a = sameN (bt p) (bt a) 0 (b.toNat - 0)) := by unfold Hid hasV; simp [hs]
    have hs' : ((a.size : Int) != (p.size : Int)) = false := by simp; omega
    go_enter Try.func70, Try.ntmps70
    have HS : Hid (a.size = p.size) := hs
    clear hs
    go_wp2_with fail
    go_loop [7] (fun i => ∃ k : Nat, k ≤ b.toNat ∧ i = .int .i64 k ∧ sameN (bt p) (bt a) 0 (b.toNat - 0) = sameN (bt p) (bt a) k (b.toNat - k)) (fun i => b.toNat - (intOf i).toNat)
    case atStart => exact ⟨0, Nat.zero_le _, rfl, rfl⟩
    case round =>
      obtain ⟨k, hk, rfl, hz⟩ := hrel
      have HZ : Hid _ := hz
      clear hz
      by_cases hlt : k < b.toNat
      · have HT : Hid _ := sameN_step (bt p) (bt a) k b.toNat hlt
        have hlt' : (k : Int) < b := by omega
        have l1 : k < 8 * p.size := by omega
        have l2 : k < 8 * a.size := by have := HS.out; omega
        by_cases hbit : bitN (bt p) k = bitN (bt a) k
        · have hb' : (bitN (bt p) k != bitN (bt a) k) = false := by simp [hbit]
          have HB0 : Hid (bitN (bt p) k = bitN (bt a) k) := hbit
          clear hbit
          go_wp2_with fail
          refine (specBit_any p k _ l1 hp).mono ?_
          rintro e w ⟨rfl, rfl⟩
          go_wp2_with fail
          refine (specBit_any a k _ l2 ha).mono ?_
          rintro e w ⟨rfl, rfl⟩
          go_wp2
          go_round
          case rel => exact ⟨k + 1, by omega, by go_num, by rw [HZ.out, HT.out, HB0.out]; simp⟩
          case measure => simp [intOf]; omega
        · have hb' : (bitN (bt p) k != bitN (bt a) k) = true := by simp [hbit]
          have HB0 : Hid (bitN (bt p) k ≠ bitN (bt a) k) := hbit
          clear hbit
          go_wp2_with fail
          refine (specBit_any p k _ l1 hp).mono ?_
          rintro e w ⟨rfl, rfl⟩
          go_wp2_with fail
          refine (specBit_any a k _ l2 ha).mono ?_
          rintro e w ⟨rfl, rfl⟩
          go_wp2
          go_ret
          exact ⟨ret_bool (by rw [HV.out, HZ.out, HT.out]; simp [HB0.out]), rfl⟩
      · have hlt' : ¬ (k : Int) < b := by omega
        have HE : Hid _ := sameN_end (bt p) (bt a) k b.toNat (by omega)
        go_wp2
        go_ret
        exact ⟨ret_bool (by rw [HV.out, HZ.out, HE.out]), rfl⟩
  · have HV : Hid (hasV p b a = false) := by unfold Hid hasV; simp [hs]
    have hs' : ((a.size : Int) != (p.size : Int)) = true := by simp; omega
    go_enter Try.func70, Try.ntmps70
    go_wp2_with fail
    go_ret
    exact ⟨ret_bool HV.out.symm, rfl⟩

theorem prefixOk_le {s : ByteArray} {b : Int} (h : prefixOk s b = true) : 0 ≤ b ∧ b ≤ 8 * (s.size : Int) ∧ (s.size = 4 ∨ s.size = 16) := by
  simp [prefixOk] at h
  exact ⟨h.1.1.2, h.1.2, addrOk_size h.1.1.1⟩

/-- What PrefixHas answers. -/
def prefixHasV (p : ByteArray) (b : Int) (a : ByteArray) : Bool := prefixOk p b && addrOk a && hasV p b a

theorem specPrefixHas_any (p : ByteArray) (b : Int) (a : ByteArray) (w : World) (hp : p.size ≤ 1048576) (ha : a.size ≤ 1048576) :
    Calls Try.prog 33 #[.agg #[.string p, .int .i64 b], .string a] w fun e w' => e = .returned (.bool (prefixHasV p b a)) ∧ Below w.heap.size w w' := by
  have hB : Hid (Below w.heap.size w (w.alloc (.cells #[.string p, .int .i64 b] 33))) := (Below.refl _ _).alloc (Nat.le_refl _) _
  by_cases hpo : prefixOk p b = true
  · obtain ⟨_, hb1, _⟩ := prefixOk_le hpo
    by_cases hao : addrOk a = true
    · have HV : Hid (prefixHasV p b a = hasV p b a) := by unfold Hid prefixHasV; simp [hpo, hao]
      go_enter Try.func33, Try.ntmps33
      go_wp2_with fail
      refine (specPrefixRight_any p b _ hp).mono ?_
      rw [hpo]
      rintro e w1 ⟨rfl, hb1⟩
      obtain ⟨hc, hf⟩ := bcell hb1
      go_wp2_with fail
      refine (specAddrRight_any a _).mono ?_
      rw [hao]
      rintro e w1 ⟨rfl, rfl⟩
      go_wp2_with fail
      refine (specHas_any p b a _ hp ha (by omega)).mono ?_
      rintro e w1 ⟨rfl, rfl⟩
      go_wp2
      go_ret
      exact ⟨ret_bool HV.out.symm, hB.out.trans (hb1.mono (by simp))⟩
    · have hao' : addrOk a = false := by simpa using hao
      have HV : Hid (prefixHasV p b a = false) := by unfold Hid prefixHasV; simp [hao']
      clear hao
      go_enter Try.func33, Try.ntmps33
      go_wp2_with fail
      refine (specPrefixRight_any p b _ hp).mono ?_
      rw [hpo]
      rintro e w1 ⟨rfl, hb1⟩
      go_wp2_with fail
      refine (specAddrRight_any a _).mono ?_
      rw [hao']
      rintro e w1 ⟨rfl, rfl⟩
      go_wp2
      go_ret
      exact ⟨ret_bool HV.out.symm, hB.out.trans (hb1.mono (by simp))⟩
  · have hpo' : prefixOk p b = false := by simpa using hpo
    have HV : Hid (prefixHasV p b a = false) := by unfold Hid prefixHasV; simp [hpo']
    clear hpo
    go_enter Try.func33, Try.ntmps33
    go_wp2_with fail
    refine (specPrefixRight_any p b _ hp).mono ?_
    rw [hpo']
    rintro e w1 ⟨rfl, hb1⟩
    go_wp2
    go_ret
    exact ⟨ret_bool HV.out.symm, hB.out.trans (hb1.mono (by simp))⟩

end Go.Proofs.Ytofhcplnnamcdaa
