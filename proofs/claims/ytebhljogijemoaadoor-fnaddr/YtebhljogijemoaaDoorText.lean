/- Texts put together: digits and groups: what the specification's l01Dec and l02Group answer. -/
import Derived.Test.YtebhljogijemoaaDoorWords
import Derived.Laws.IdiomStrings
import Derived.Deep.DeepCutAuto
namespace Go.Proofs.YtebhljogijemoaaDoor
open Go.RowKit Go.PlainAid
set_option linter.unusedVariables false
set_option linter.unusedSimpArgs false

/-- The text of a list of bytes. -/
def ofL (l : List UInt8) : ByteArray := ⟨l.toArray⟩
theorem ofL_append (a b : List UInt8) : ofL a ++ ofL b = ofL (a ++ b) := by unfold ofL; rw [ByteArray.mk_append_mk]
theorem ofL_size (l : List UInt8) : (ofL l).size = l.length := by simp [ofL, ByteArray.size]
theorem ofL_nil : ofL [] = ⟨#[]⟩ := rfl
theorem ofL_inj {a b : List UInt8} (h : ofL a = ofL b) : a = b := by
  have := congrArg (fun x => x.data.toList) h; simpa [ofL] using this

/-- One byte, made a text. -/
theorem one_conv {w : World} {b : Nat} {x : Int} (h0 : 0 ≤ x) (h1 : x ≤ 255) (hc : w.cell? ⟨b, 0, none⟩ = some (.int .u8 x)) :
    (convert 22 9 (.slice (some ⟨b, 0, none⟩) 1 1)).run Tryd.prog w = .ok (.string (ofL [UInt8.ofNat x.toNat])) w :=
  run_convert_bytes_back (P := Tryd.prog) w 22 9 5 ⟨b, 0, none⟩ 1 [UInt8.ofNat x.toNat] Tryd.underlying22 Tryd.underlying5 Tryd.underlying9 (by
    intro j hj
    obtain rfl : j = 0 := (by simp at hj; omega)
    simp only [Addr.add, if_true, List.getElem_cons_zero, UInt8.toNat_ofNat']
    rw [hc]; congr 2; omega)

/-- The digits of a number, the highest first; none of 0. -/
def dgF : Nat → Nat → List UInt8
  | 0, _ => []
  | f + 1, n => if n = 0 then [] else dgF f (n / 10) ++ [UInt8.ofNat (48 + n % 10)]

/-- A number in digits. -/
def decL (n : Nat) : List UInt8 := if n = 0 then [48] else dgF 20 n

theorem dgF_step {f n : Nat} (h : n ≠ 0) : dgF (f + 1) n = dgF f (n / 10) ++ [UInt8.ofNat (48 + n % 10)] := by
  show (if n = 0 then [] else _) = _; rw [if_neg h]
theorem dgF_zero (f : Nat) : dgF f 0 = [] := by cases f <;> simp [dgF]
theorem dgF_length : ∀ (f n : Nat), (dgF f n).length ≤ f
  | 0, _ => by simp [dgF]
  | f + 1, n => by
    unfold dgF; split
    · simp
    · have := dgF_length f (n / 10); simp; omega

set_option maxRecDepth 100000 in
set_option maxHeartbeats 1000000 in
theorem specDec_any (n : Nat) (w : World) (hn : n ≤ 9223372036854775807) :
    Calls Tryd.prog 16 #[.int .i64 n] w fun e w' => e = .returned (.string (ofL (decL n))) ∧ Below w.heap.size w w' := by
  by_cases h0 : n = 0
  · subst h0
    go_enter Tryd.func16, Tryd.ntmps16
    go_wp2
    go_ret
    exact ⟨rfl, Below.refl _ _⟩
  · have HV : Hid (decL n = dgF 20 n) := if_neg h0
    have hne : ((n : Int) == 0) = false := by simp; omega
    have HP : Hid (n < 10 ^ 20) := by unfold Hid; omega
    go_enter Tryd.func16, Tryd.ntmps16
    go_wp2_with fail
    go_loopw [0, 4] (fun a o wr => ∃ (m f : Nat) (out : List UInt8), a = .int .i64 m ∧ m ≤ 9223372036854775807 ∧ f ≤ 20 ∧ m < 10 ^ f ∧ o = .string (ofL out) ∧ out.length + f ≤ 20 ∧ dgF 20 n = dgF f m ++ out ∧ Below w.heap.size w wr) (fun a _ _ => (intOf a).toNat)
    case atStart => exact ⟨n, 20, [], rfl, hn, Nat.le_refl _, HP.out, rfl, by simp, by simp, Below.refl _ _⟩
    case round =>
      obtain ⟨m, f, out, rfl, hm, hf, hmf, rfl, hol, hd, hbel⟩ := hrel
      have HD : Hid (dgF 20 n = dgF f m ++ out) := hd
      have HL : Hid (Below w.heap.size w wr) := hbel
      have HM : Hid (m < 10 ^ f) := hmf
      clear hd hbel hmf
      have hlt : ¬ (n : Int) < 0 := by omega
      by_cases hz : m = 0
      · subst hz
        go_wp2
        go_ret
        exact ⟨ret_string (by rw [HV.out, HD.out, dgF_zero, List.nil_append]), HL.out⟩
      · obtain ⟨f, rfl⟩ : ∃ f', f = f' + 1 := ⟨f - 1, by
          have := HM.out
          by_cases e : f = 0
          · subst e; simp at this; omega
          · omega⟩
        have hz' : ((m : Int) != 0) = true := by simp; omega
        have HS : Hid (dgF (f + 1) m = dgF f (m / 10) ++ [UInt8.ofNat (48 + m % 10)]) := dgF_step hz
        obtain ⟨c, hc⟩ : ∃ c : UInt8, c = UInt8.ofNat (48 + m % 10) := ⟨_, rfl⟩
        have hcv : (convert 22 9 (.slice (some ⟨wr.heap.size, 0, none⟩) 1 1)).run Tryd.prog (wr.alloc (.cells #[.int .u8 (48 + (m : Int) % 10)] 5)) = .ok (.string (ofL [c])) (wr.alloc (.cells #[.int .u8 (48 + (m : Int) % 10)] 5)) := by
          rw [one_conv (x := 48 + (m : Int) % 10) (by omega) (by omega) (by simp), hc, show (48 + (m : Int) % 10).toNat = 48 + m % 10 by omega]
        have HC : Hid (c = UInt8.ofNat (48 + m % 10)) := hc
        clear hc
        have hadd : ∀ W, (Op.stringOp .add (ofL [c]) (ofL out)).run Tryd.prog W = .ok (.string (ofL (c :: out))) W := fun W => by
          rw [run_string_add_sum W _ _ (by rw [ofL_size, ofL_size]; simp; omega), ofL_append]; rfl
        have hsz := HL.out.size
        go_wp2
        go_roundw
        case rel =>
          refine ⟨m / 10, f, c :: out, by go_num, by omega, by omega, ?_, rfl, ?_, ?_, HL.out.alloc hsz _⟩
          · have := HM.out; rw [Nat.pow_succ] at this; omega
          · simp; omega
          · rw [HD.out, HS.out, ← HC.out]; simp
        case measure => simp [intOf]; omega

/-- The digit of a number below 16. -/
def hexC (d : Nat) : UInt8 := if d < 10 then UInt8.ofNat (48 + d) else UInt8.ofNat (87 + d)

theorem hex_get : ∀ (n : Nat) (h : n < (ByteArray.mk #[48, 49, 50, 51, 52, 53, 54, 55, 56, 57, 97, 98, 99, 100, 101, 102]).size), (((ByteArray.mk #[48, 49, 50, 51, 52, 53, 54, 55, 56, 57, 97, 98, 99, 100, 101, 102])[n]'h).toNat : Int) = ((hexC n).toNat : Int)
  | 0, _ => by rfl
  | 1, _ => by rfl
  | 2, _ => by rfl
  | 3, _ => by rfl
  | 4, _ => by rfl
  | 5, _ => by rfl
  | 6, _ => by rfl
  | 7, _ => by rfl
  | 8, _ => by rfl
  | 9, _ => by rfl
  | 10, _ => by rfl
  | 11, _ => by rfl
  | 12, _ => by rfl
  | 13, _ => by rfl
  | 14, _ => by rfl
  | 15, _ => by rfl
  | n + 16, h => absurd h (by simp [ByteArray.size])

theorem ofL_toList (l : List UInt8) : (ofL l).toList = l := ByteArray.toList_mk l

/-- A group's digits so far, and one more. -/
def gst (t : List UInt8) (d : Nat) (last : Bool) : List UInt8 := if d ≠ 0 ∨ t ≠ [] ∨ last = true then t ++ [hexC d] else t
/-- The first j digits of a group, those in front that are 0 left out, but the last. -/
def grpN (n : Nat) : Nat → List UInt8
  | 0 => []
  | j + 1 => gst (grpN n j) (n / 16 ^ (3 - j) % 16) (j == 3)
def groupL (n : Nat) : List UInt8 := grpN n 4

theorem grpN_length (n : Nat) : ∀ j, (grpN n j).length ≤ j
  | 0 => by simp [grpN]
  | j + 1 => by
    have := grpN_length n j
    show (gst _ _ _).length ≤ _
    unfold gst; split
    · simp; omega
    · omega

theorem and_15 (n : Int) : bits .and .i64 n 15 = n % 16 := by
  have h127 : (BitVec.ofInt 64 15).toNat = 2 ^ 4 - 1 := by decide
  have key : (BitVec.ofInt 64 n &&& BitVec.ofInt 64 15).toNat = (n % ((2 ^ 64 : Nat) : Int)).toNat % 2 ^ 4 := by
    rw [BitVec.toNat_and, BitVec.toNat_ofInt, h127, Nat.and_two_pow_sub_one_eq_mod]
  show IntKind.i64.wrap ((BitVec.ofInt 64 n &&& BitVec.ofInt 64 15).toNat : Nat) = n % 16
  rw [key, IntKind.wrap_i64]
  omega

set_option maxRecDepth 100000 in
set_option maxHeartbeats 2000000 in
theorem specGroup_any (n : Nat) (w : World) (hn : n ≤ 65535) :
    Calls Tryd.prog 18 #[.int .i64 n] w fun e w' => e = .returned (.string (ofL (groupL n))) ∧ Below w.heap.size w w' := by
  go_enter Tryd.func18, Tryd.ntmps18
  go_wp2_with fail
  go_loopw [3, 4] (fun o k wr => ∃ j : Nat, j ≤ 4 ∧ k = .int .i64 (12 - 4 * (j : Int)) ∧ o = .string (ofL (grpN n j)) ∧ Below w.heap.size w wr) (fun _ k _ => (4 + intOf k).toNat)
  case atStart => exact ⟨0, Nat.zero_le _, rfl, rfl, Below.refl _ _⟩
  case round =>
    obtain ⟨j, hj, rfl, rfl, hbel⟩ := hrel
    have HL : Hid (Below w.heap.size w wr) := hbel
    have hsz := hbel.size
    clear hbel
    have gl := grpN_length n j
    by_cases h4 : j = 4
    · subst h4
      go_wp2
      go_ret
      exact ⟨rfl, HL.out⟩
    · obtain ⟨d, hd⟩ : ∃ d : Nat, d = n / 16 ^ (3 - j) % 16 := ⟨_, rfl⟩
      have hd16 : d < 16 := by rw [hd]; exact Nat.mod_lt _ (by omega)
      have HS : Hid (grpN n (j + 1) = gst (grpN n j) d (j == 3)) := by unfold Hid; rw [hd]; rfl
      obtain ⟨T, hT⟩ : ∃ T, T = grpN n j := ⟨_, rfl⟩
      rw [← hT]
      rw [← hT] at gl
      have HT : Hid (T = grpN n j) := hT
      clear hT
      have hgx := hex_get
      have hbits : bits .and .i64 ((n : Int) / 2 ^ (12 - 4 * j)) 15 = (d : Int) := by
        rw [and_15, hd, show (2 : Int) ^ (12 - 4 * j) = ((16 ^ (3 - j) : Nat) : Int) by
          rw [show 12 - 4 * j = 4 * (3 - j) by omega, Int.pow_mul]; simp]
        omega
      have hcv : (convert 22 9 (.slice (some ⟨wr.heap.size, 0, none⟩) 1 1)).run Tryd.prog (wr.alloc (.cells #[.int .u8 ((hexC d).toNat : Int)] 5)) = .ok (.string (ofL [hexC d])) (wr.alloc (.cells #[.int .u8 ((hexC d).toNat : Int)] 5)) := by
        have hb := (hexC d).toNat_lt
        rw [one_conv (x := ((hexC d).toNat : Int)) (by omega) (by omega) (by simp)]; simp
      have hadd : ∀ W, (Op.stringOp .add (ofL T) (ofL [hexC d])).run Tryd.prog W = .ok (.string (ofL (T ++ [hexC d]))) W := fun W => by
        rw [run_string_add_sum W _ _ (by rw [ofL_size, ofL_size]; simp; omega), ofL_append]
      clear hd
      have R1 : Hid ((d ≠ 0 ∨ T ≠ [] ∨ j = 3) → grpN n (j + 1) = T ++ [hexC d]) := fun h => by
        rw [HS.out, ← HT.out]; unfold gst; rw [if_pos (by rcases h with h | h | h <;> simp [h])]
      have R2 : Hid (¬ (d ≠ 0 ∨ T ≠ [] ∨ j = 3) → grpN n (j + 1) = T) := fun h => by
        rw [HS.out, ← HT.out]; unfold gst; rw [if_neg (by simp at h ⊢; exact h)]
      clear HS HT
      have g0 := ofL_toList T
      by_cases hd0 : d = 0
      · have e0 : ((d : Int) != 0) = false := by simp [hd0]
        by_cases hT0 : T = []
        · have gg : (ofL T).toList = [] := g0.trans hT0
          have gb : (ofL T).toList.isEmpty = true := by rw [gg]; rfl
          clear g0
          by_cases h3 : j = 3
          · have HR : Hid _ := R1.out (.inr (.inr h3))
            have e3 : ((12 - 4 * (j : Int)) == 0) = true := by simp; omega
            clear R1 R2 hd0 hT0 h3
            go_wp2
            go_roundw
            case rel => exact ⟨j + 1, by omega, by go_num, by rw [HR.out], HL.out.alloc hsz _⟩
            case measure => simp [intOf]; omega
          · have HR : Hid _ := R2.out (by simp [hd0, hT0, h3])
            have e3 : ((12 - 4 * (j : Int)) == 0) = false := by simp; omega
            clear R1 R2 hd0 hT0
            go_wp2
            go_roundw
            case rel => exact ⟨j + 1, by omega, by go_num, by rw [HR.out], HL.out⟩
            case measure => simp [intOf]; omega
        · have gg : ¬ (ofL T).toList = [] := by rw [g0]; exact hT0
          have gb : (ofL T).toList.isEmpty = false := by simpa using gg
          have HR : Hid _ := R1.out (.inr (.inl hT0))
          clear R1 R2 hd0 hT0 g0
          go_wp2
          go_roundw
          case rel => exact ⟨j + 1, by omega, by go_num, by rw [HR.out], HL.out.alloc hsz _⟩
          case measure => simp [intOf]; omega
      · have e0 : ((d : Int) != 0) = true := by simp [hd0]
        have HR : Hid _ := R1.out (.inl hd0)
        clear R1 R2 hd0 g0
        go_wp2
        go_roundw
        case rel => exact ⟨j + 1, by omega, by go_num, by rw [HR.out], HL.out.alloc hsz _⟩
        case measure => simp [intOf]; omega

end Go.Proofs.YtebhljogijemoaaDoor
