/- MgTx: Two, Text, Lay, Add, SumMath, Pkt, in one text. -/
import Derived.Test.YtofhcplnnamcdabSums
import Derived.Laws.IdiomStrings
import Derived.Test.YtofhcplnnamcdabWords
import Derived.Deep.DeepCutAuto

/- What the two bytes of a word are, in the program and in its specification, and what lies behind layWords. -/
namespace Go.Proofs.Ytofhcplnnamcdab
open Go.RowKit Go.PlainAid

/-- The two bytes of a word. -/
def twoL (n : Int) : List UInt8 := [UInt8.ofNat (n / 256).toNat, UInt8.ofNat (n % 256).toNat]
/-- The text of the two bytes. -/
def twoV (n : Int) : ByteArray := ⟨(twoL n).toArray⟩

theorem u8_ofNat (x : Int) (h0 : 0 ≤ x) (h1 : x ≤ 255) : ((UInt8.ofNat x.toNat).toNat : Int) = x := by
  rw [UInt8.toNat_ofNat']; omega

theorem two_cells {w : World} {b : Nat} {n : Int} (h0 : 0 ≤ n) (h1 : n ≤ 65535)
    (hc0 : w.cell? ⟨b, 0, none⟩ = some (.int .u8 (n / 256))) (hc1 : w.cell? ⟨b, 1, none⟩ = some (.int .u8 (n % 256))) :
    ∀ j (hj : j < (twoL n).length), w.cell? (Addr.add ⟨b, 0, none⟩ j) = some (.int .u8 ((twoL n)[j].toNat : Int)) := by
  intro j hj
  match j, hj with
  | 0, _ => simp only [Addr.add, Nat.add_zero, twoL, List.getElem_cons_zero]; rw [u8_ofNat _ (by omega) (by omega)]; exact hc0
  | 1, _ => simp only [Addr.add, Nat.zero_add, twoL, List.getElem_cons_succ, List.getElem_cons_zero]; rw [u8_ofNat _ (by omega) (by omega)]; exact hc1

theorem two_conv {w : World} {b cap : Nat} {n : Int} (h0 : 0 ≤ n) (h1 : n ≤ 65535)
    (hc0 : w.cell? ⟨b, 0, none⟩ = some (.int .u8 (n / 256))) (hc1 : w.cell? ⟨b, 1, none⟩ = some (.int .u8 (n % 256))) :
    (convert 22 9 (.slice (some ⟨b, 0, none⟩) 2 cap)).run Try.prog w = .ok (.string (twoV n)) w :=
  run_convert_bytes_back (P := Try.prog) w 22 9 5 ⟨b, 0, none⟩ cap (twoL n) Try.underlying22 Try.underlying5 Try.underlying9 (two_cells h0 h1 hc0 hc1)

theorem specTwo_any (n : Int) (w : World) (h0 : 0 ≤ n) (h1 : n ≤ 65535) :
    Calls Try.prog 76 #[.int .i64 n] w fun e w' => e = .returned (.string (twoV n)) ∧ Below w.heap.size w w' := by
  have hcv := two_conv (w := w.alloc (.cells #[.int .u8 (n / 256), .int .u8 (n % 256)] 5)) (b := w.heap.size) (cap := 2) h0 h1 (by simp) (by simp)
  go_enter Try.func76, Try.ntmps76
  go_wp2
  go_ret
  exact ⟨rfl, (Below.refl _ _).alloc (Nat.le_refl _) _⟩

/-- Is a number a word? -/
def isW (n : Int) : Bool := decide (0 ≤ n) && decide (n ≤ 65535)

theorem isW_yes {n : Int} (h0 : 0 ≤ n) (h1 : n ≤ 65535) : isW n = true := by simp [isW, h0, h1]
theorem isW_no {n : Int} (h : ¬ (0 ≤ n ∧ n ≤ 65535)) : isW n = false := by
  rw [Bool.eq_false_iff]; intro hh; simp [isW] at hh; exact h hh

theorem specWordIs_any (n : Int) (w : World) :
    Calls Try.prog 61 #[.int .i64 n] w fun e w' => e = .returned (.bool (isW n)) ∧ w' = w := by
  by_cases h0 : 0 ≤ n
  · by_cases h1 : n ≤ 65535
    · have HV : Hid (isW n = true) := isW_yes h0 h1
      go_enter Try.func61, Try.ntmps61
      go_wp2
      go_ret
      exact ⟨ret_bool HV.out.symm, rfl⟩
    · have HV : Hid (isW n = false) := isW_no (fun h => h1 h.2)
      go_enter Try.func61, Try.ntmps61
      go_wp2
      go_ret
      exact ⟨ret_bool HV.out.symm, rfl⟩
  · have HV : Hid (isW n = false) := isW_no (fun h => h0 h.1)
    go_enter Try.func61, Try.ntmps61
    go_wp2
    go_ret
    exact ⟨ret_bool HV.out.symm, rfl⟩

theorem implWordIs_any (n : Int) (w : World) :
    Calls Try.prog 57 #[.int .i64 n] w fun e w' => e = .returned (.bool (isW n)) ∧ w' = w := by
  by_cases h0 : 0 ≤ n
  · by_cases h1 : n ≤ 65535
    · have HV : Hid (isW n = true) := isW_yes h0 h1
      go_enter Try.func57, Try.ntmps57
      go_wp2
      go_ret
      exact ⟨ret_bool HV.out.symm, rfl⟩
    · have HV : Hid (isW n = false) := isW_no (fun h => h1 h.2)
      go_enter Try.func57, Try.ntmps57
      go_wp2
      go_ret
      exact ⟨ret_bool HV.out.symm, rfl⟩
  · have HV : Hid (isW n = false) := isW_no (fun h => h0 h.1)
    go_enter Try.func57, Try.ntmps57
    go_wp2
    go_ret
    exact ⟨ret_bool HV.out.symm, rfl⟩

/-- The bytes of some words, as numbers. -/
def layL : List Int → List Int
  | [] => []
  | n :: r => n / 256 :: n % 256 :: layL r

theorem layL_length (ws : List Int) : (layL ws).length = 2 * ws.length := by
  induction ws with
  | nil => rfl
  | cons n r ih => simp [layL, ih]; omega

theorem layL_append (a : List Int) (n : Int) : layL (a ++ [n]) = layL a ++ [n / 256, n % 256] := by
  induction a with
  | nil => rfl
  | cons m r ih => simp [layL, ih]

theorem lay_step {ws : List Int} {k : Nat} {n : Int} {w2 : World} {B e : Nat} {v : Value} (hn : n = ws.getD k 0) (hk : k < ws.length)
    (h : w2.ownsRow B e 1 v (2 * k + 2) ((layL (ws.take k)).map (Value.int .u8) ++ [Value.int .u8 (n / 256), Value.int .u8 (n % 256)])) :
    w2.ownsRow B e 1 v (2 * (k + 1)) ((layL (ws.take (k + 1))).map (Value.int .u8)) := by
  have e1 : ws.take (k + 1) = ws.take k ++ [n] := by
    rw [List.take_succ_eq_append_getElem hk, hn]; simp [List.getD, hk]
  rw [e1, layL_append, List.map_append]
  exact h

theorem Try.info5 : (Try.prog.info? 5).map (fun i => (i.zero, i.size, i.bytes)) = some (some (.int .u8 0), 1, 1) := by kernel_rfl

set_option maxHeartbeats 800000 in
theorem layWords_any (ws : List Int) (b m cap : Nat) (w : World) (hm : m ≤ 1000) (hb : b < w.heap.size) (hl : ws.length = m)
    (hw : ∀ k, 0 ≤ ws.getD k 0 ∧ ws.getD k 0 ≤ 65535) (hc : ∀ k, k < m → w.cell? ⟨b, k, none⟩ = some (.int .i64 (ws.getD k 0))) :
    Calls Try.prog 32 #[.slice (some ⟨b, 0, none⟩) m cap] w fun e w' => e = .returned (.slice (some ⟨w.heap.size, 0, none⟩) (2 * m) (2 * m)) ∧
      w'.ownsRow w.heap.size 5 1 (.slice (some ⟨w.heap.size, 0, none⟩) (2 * m) (2 * m)) (2 * m) ((layL ws).map (Value.int .u8)) ∧ Below w.heap.size w w' := by
  obtain ⟨i0, hi, hz0, hz1, hz2⟩ := info_parts Try.info5
  go_enter Try.func32, Try.ntmps32
  go_wp2_with (at_make; refine wpList_make_own _ rfl _ _ 22 rfl w.heap.size 5 i0 (.int .u8 0) 1 Try.underlying22 hi hz0 hz1 .i64 .i64 _ (2 * m) rfl rfl (by omega) (by rw [hz2]; omega) (by unfold maxLen; omega) (Nat.le_refl _) ?_; intro w1 hown hgrow)
  have hbel : Below w.heap.size w w1 := (Below.refl _ _).grown hgrow (Nat.le_refl _) (by simp)
  clear hgrow
  go_loopw [3, 12] (fun v i wr => ∃ k : Nat, k ≤ m ∧ i = .int .i64 k ∧ v = .slice (some ⟨w.heap.size, 0, none⟩) (2 * k) (2 * m) ∧
      wr.ownsRow w.heap.size 5 1 (.slice (some ⟨w.heap.size, 0, none⟩) (2 * k) (2 * m)) (2 * k) ((layL (ws.take k)).map (Value.int .u8)) ∧ Below w.heap.size w wr) (fun _ i _ => m - (intOf i).toNat)
  case atStart => exact ⟨0, Nat.zero_le _, rfl, rfl, by simpa [layL] using hown, hbel⟩
  case round =>
    clear hown hbel
    obtain ⟨k, hk, rfl, rfl, hown, hbel⟩ := hrel
    by_cases hlt : k < m
    · have hcx : wr.cell? ⟨b, k, none⟩ = some (.int .i64 (ws.getD k 0)) := (hbel.cell (p := ⟨b, k, none⟩) hb).trans (hc k hlt)
      obtain ⟨n, hn⟩ : ∃ n, n = ws.getD k 0 := ⟨_, rfl⟩
      have hwn := hw k
      rw [← hn] at hcx hwn
      have HN : Hid (n = ws.getD k 0) := hn
      clear hn hw hc
      have hsz := hbel.size
      go_wp2_with (at_builtin; refine wpList_append_fits _ rfl (.tmp 16) (.tmp 22) 22 rfl w.heap.size 5 i0 1 Try.underlying22 hi hz1 w.heap.size (2 * k) (2 * m) _ rfl (hown.alloc _) ⟨wr.heap.size, 0, none⟩ 2 2 [.int .u8 (n / 256), .int .u8 (n % 256)] rfl rfl ?c1 ?c2 (by omega) ?_)
      case c1 =>
        intro j u hj
        match j, hj with
        | 0, hj => simp at hj; subst hj; simp [Addr.add]
        | 1, hj => simp at hj; subst hj; simp [Addr.add]
      case c2 => intro u hu; simp at hu; rcases hu with rfl | rfl <;> rfl
      · intro w2 hown2 hgrow2
        have hbel2 : Below w.heap.size w w2 := (hbel.alloc hsz _).grown hgrow2 (by simp; omega) (by simp)
        have R := lay_step HN.out (by omega) hown2
        clear hown2 hgrow2 hown hbel hcx
        go_wp2
        go_roundw
        case rel => exact ⟨k + 1, by omega, by go_num, rfl, R, hbel2⟩
        case measure => simp [intOf]; omega
    · have hkm : k = m := by omega
      subst hkm
      have R : wr.ownsRow w.heap.size 5 1 (.slice (some ⟨w.heap.size, 0, none⟩) (2 * k) (2 * k)) (2 * k) ((layL ws).map (Value.int .u8)) := by
        rw [List.take_of_length_le (by omega)] at hown; exact hown
      clear hown
      go_wp2
      go_ret
      exact ⟨rfl, R, hbel⟩

end Go.Proofs.Ytofhcplnnamcdab

/- Texts put together: digits and groups: what the specification's l01Dec and l02Group answer. -/
namespace Go.Proofs.Ytofhcplnnamcdab
open Go.RowKit Go.PlainAid
set_option linter.unusedVariables false
set_option linter.unusedSimpArgs false

/-- The text of a list of bytes. -/
def ofL (l : List UInt8) : ByteArray := ⟨l.toArray⟩
theorem ofL_append (a b : List UInt8) : ofL a ++ ofL b = ofL (a ++ b) := by unfold ofL; rw [ByteArray.mk_append_mk]
theorem ofL_size (l : List UInt8) : (ofL l).size = l.length := by simp [ofL, ByteArray.size]
theorem ofL_nil : ofL [] = ⟨#[]⟩ := rfl
theorem ofL_inj {a b : List UInt8} (h : ofL a = ofL b) : a = b := by
  have := congrArg (fun x => x.data.toList) h; simpa [ofL] using this

/-- One byte, made a text. -/
theorem one_conv {w : World} {b : Nat} {x : Int} (h0 : 0 ≤ x) (h1 : x ≤ 255) (hc : w.cell? ⟨b, 0, none⟩ = some (.int .u8 x)) :
    (convert 22 9 (.slice (some ⟨b, 0, none⟩) 1 1)).run Try.prog w = .ok (.string (ofL [UInt8.ofNat x.toNat])) w :=
  run_convert_bytes_back (P := Try.prog) w 22 9 5 ⟨b, 0, none⟩ 1 [UInt8.ofNat x.toNat] Try.underlying22 Try.underlying5 Try.underlying9 (by
    intro j hj
    obtain rfl : j = 0 := (by simp at hj; omega)
    simp only [Addr.add, if_true, List.getElem_cons_zero, UInt8.toNat_ofNat']
    rw [hc]; congr 2; omega)

/-- The digits of a number, the highest first; none of 0. -/
def dgF : Nat → Nat → List UInt8
  | 0, _ => []
  | f + 1, n => if n = 0 then [] else dgF f (n / 10) ++ [UInt8.ofNat (48 + n % 10)]

/-- A number in digits. -/
def decL (n : Nat) : List UInt8 := if n = 0 then [48] else dgF 20 n

theorem dgF_step {f n : Nat} (h : n ≠ 0) : dgF (f + 1) n = dgF f (n / 10) ++ [UInt8.ofNat (48 + n % 10)] := by
  show (if n = 0 then [] else _) = _; rw [if_neg h]
theorem dgF_zero (f : Nat) : dgF f 0 = [] := by cases f <;> simp [dgF]
theorem dgF_length : ∀ (f n : Nat), (dgF f n).length ≤ f
  | 0, _ => by simp [dgF]
  | f + 1, n => by
    unfold dgF; split
    · simp
    · have := dgF_length f (n / 10); simp; omega


/-- The digit of a number below 16. -/
def hexC (d : Nat) : UInt8 := if d < 10 then UInt8.ofNat (48 + d) else UInt8.ofNat (87 + d)

theorem hex_get : ∀ (n : Nat) (h : n < (ByteArray.mk #[48, 49, 50, 51, 52, 53, 54, 55, 56, 57, 97, 98, 99, 100, 101, 102]).size), (((ByteArray.mk #[48, 49, 50, 51, 52, 53, 54, 55, 56, 57, 97, 98, 99, 100, 101, 102])[n]'h).toNat : Int) = ((hexC n).toNat : Int)
  | 0, _ => by rfl
  | 1, _ => by rfl
  | 2, _ => by rfl
  | 3, _ => by rfl
  | 4, _ => by rfl
  | 5, _ => by rfl
  | 6, _ => by rfl
  | 7, _ => by rfl
  | 8, _ => by rfl
  | 9, _ => by rfl
  | 10, _ => by rfl
  | 11, _ => by rfl
  | 12, _ => by rfl
  | 13, _ => by rfl
  | 14, _ => by rfl
  | 15, _ => by rfl
  | n + 16, h => absurd h (by simp [ByteArray.size])

theorem ofL_toList (l : List UInt8) : (ofL l).toList = l := ByteArray.toList_mk l

/-- A group's digits so far, and one more. -/
def gst (t : List UInt8) (d : Nat) (last : Bool) : List UInt8 := if d ≠ 0 ∨ t ≠ [] ∨ last = true then t ++ [hexC d] else t
/-- The first j digits of a group, those in front that are 0 left out, but the last. -/
def grpN (n : Nat) : Nat → List UInt8
  | 0 => []
  | j + 1 => gst (grpN n j) (n / 16 ^ (3 - j) % 16) (j == 3)
def groupL (n : Nat) : List UInt8 := grpN n 4

theorem grpN_length (n : Nat) : ∀ j, (grpN n j).length ≤ j
  | 0 => by simp [grpN]
  | j + 1 => by
    have := grpN_length n j
    show (gst _ _ _).length ≤ _
    unfold gst; split
    · simp; omega
    · omega

theorem and_15 (n : Int) : bits .and .i64 n 15 = n % 16 := by
  have h127 : (BitVec.ofInt 64 15).toNat = 2 ^ 4 - 1 := by decide
  have key : (BitVec.ofInt 64 n &&& BitVec.ofInt 64 15).toNat = (n % ((2 ^ 64 : Nat) : Int)).toNat % 2 ^ 4 := by
    rw [BitVec.toNat_and, BitVec.toNat_ofInt, h127, Nat.and_two_pow_sub_one_eq_mod]
  show IntKind.i64.wrap ((BitVec.ofInt 64 n &&& BitVec.ofInt 64 15).toNat : Nat) = n % 16
  rw [key, IntKind.wrap_i64]
  omega


end Go.Proofs.Ytofhcplnnamcdab

/- The words' bytes, and sums over lists of bytes: what WordBytes, SumAdd, SumTurn and SumRight answer, in the program and in its specification. -/
namespace Go.Proofs.Ytofhcplnnamcdab
open Go.RowKit Go.PlainAid


/-- What WordBytes answers. -/
def wordBytesV (n : Int) : ByteArray := if 0 ≤ n ∧ n ≤ 65535 then twoV n else ⟨#[]⟩


theorem lay_one {ws : List Int} {n : Int} (h : ws = [n]) : layL ws = [n / 256, n % 256] := by subst h; rfl


/-- The word from place k of a slice of bytes on whose first byte is there. -/
theorem wordFromB_any (f : Nat → Int) (b len cap k : Nat) (w : World) (hf : isByte f) (he : ∀ i, len ≤ i → f i = 0) (hl : len ≤ 2000) (hk : k < len)
    (hc : ∀ i, i < len → w.cell? ⟨b, i, none⟩ = some (.int .u8 (f i))) :
    Calls Try.prog 62 #[.slice (some ⟨b, 0, none⟩) len cap, .int .i64 k] w fun e w' => e = .returned (.int .i64 (wordN f k)) ∧ w' = w := by
  have b1 := hf k
  have b2 := hf (k + 1)
  have hj := join_word (f k) (f (k + 1)) b1.1 b1.2 b2.1 b2.2
  have c1 := hc k hk
  by_cases h : k + 1 < len
  · have c2 := hc (k + 1) h
    clear hc he hf
    go_enter Try.func62, Try.ntmps62
    go_wp2
    go_ret
    exact ⟨ret_int rfl, rfl⟩
  · have HE : Hid (f (k + 1) = 0) := he _ (by omega)
    clear hc he hf
    go_enter Try.func62, Try.ntmps62
    go_wp2
    go_ret
    exact ⟨ret_int (by unfold wordN; rw [HE.out]; omega), rfl⟩

set_option maxHeartbeats 800000 in
theorem sumOfB_any (f : Nat → Int) (b len cap : Nat) (w : World) (hf : isByte f) (he : ∀ i, len ≤ i → f i = 0) (hl : len ≤ 2000)
    (hc : ∀ i, i < len → w.cell? ⟨b, i, none⟩ = some (.int .u8 (f i))) :
    Calls Try.prog 34 #[.slice (some ⟨b, 0, none⟩) len cap] w fun e w' => e = .returned (.int .i64 (sumN f ((len + 1) / 2))) ∧ w' = w := by
  have HW : Hid (∀ k, k < len → Calls Try.prog 62 #[.slice (some ⟨b, 0, none⟩) len cap, .int .i64 k] w fun e w' => e = .returned (.int .i64 (wordN f k)) ∧ w' = w) := fun k hk => wordFromB_any f b len cap k w hf he hl hk hc
  clear hc he
  go_enter Try.func34, Try.ntmps34
  go_wp2
  go_loop [3, 9] (fun n i => ∃ k : Nat, k ≤ (len + 1) / 2 ∧ i = .int .i64 k ∧ n = .int .i64 (sumN f k)) (fun _ i => (len + 1) / 2 - (intOf i).toNat)
  case atStart => exact ⟨0, Nat.zero_le _, rfl, rfl⟩
  case round =>
    obtain ⟨k, hk, rfl, rfl⟩ := hrel
    have hr := sumN_range hf k
    have hq := wordN_range hf (2 * k)
    have HN : Hid (sumN f (k + 1) = add1 (sumN f k) (wordN f (2 * k))) := rfl
    have HF : Hid _ := fold_add (sumN f k) (wordN f (2 * k)) hr.1 hr.2 hq.1 hq.2
    have ha := and_65535 (sumN f k + wordN f (2 * k))
    clear hf
    by_cases hlt : k < (len + 1) / 2
    · have h2 : 2 * k < len := by omega
      go_wp2_with (go_at_call 62; refine (HW.out (2 * k) h2).mono ?_; rintro e w' ⟨rfl, rfl⟩)
      go_round
      case rel => exact ⟨k + 1, by omega, by go_num, by rw [HN.out, ← HF.out]⟩
      case measure => simp [intOf]; omega
    · go_wp2
      go_ret
      exact ⟨ret_int (by rw [show (len + 1) / 2 = k by omega]), rfl⟩

end Go.Proofs.Ytofhcplnnamcdab

/- Sums of two and three words by layWords and sumOf: what SumAdd, SumTurn and SumRight answer, in the program and in its specification. -/
namespace Go.Proofs.Ytofhcplnnamcdab
open Go.RowKit Go.PlainAid

/-- The bytes of some words, by their place. -/
def fL (ws : List Int) (i : Nat) : Int := (layL ws).getD i 0

theorem fL_end (ws : List Int) (i : Nat) (h : 2 * ws.length ≤ i) : fL ws i = 0 := by
  have := layL_length ws
  simp [fL, List.getD, List.getElem?_eq_none (show (layL ws).length ≤ i by omega)]

theorem fL_byte : ∀ (ws : List Int), (∀ n ∈ ws, 0 ≤ n ∧ n ≤ 65535) → isByte (fL ws)
  | [], _ => fun i => by simp [fL, layL]
  | n :: r, h => fun i => by
    have hn := h n (by simp)
    match i with
    | 0 => simp only [fL, layL, List.getD_cons_zero]; omega
    | 1 => simp only [fL, layL, List.getD_cons_succ, List.getD_cons_zero]; omega
    | i + 2 => simpa [fL, layL] using fL_byte r (fun m hm => h m (by simp [hm])) i

theorem add1_zero {a : Int} (h : a ≤ 65535) : add1 0 a = a := by unfold add1; rw [if_neg (by omega)]; omega

theorem word_two (n : Int) : n / 256 * 256 + n % 256 = n := by omega

theorem sum_two {a b : Int} (h : a ≤ 65535) : sumN (fL [a, b]) 2 = add1 a b := by
  simp only [sumN, wordN, fL, layL, Nat.mul_zero, Nat.mul_one, Nat.zero_add, List.getD_cons_zero, List.getD_cons_succ, word_two]
  rw [add1_zero h]

theorem sum_three {a b c : Int} (h : a ≤ 65535) : sumN (fL [a, b, c]) 3 = add1 (add1 a b) c := by
  simp only [sumN, wordN, fL, layL, Nat.mul_zero, Nat.mul_one, Nat.zero_add, List.getD_cons_zero, List.getD_cons_succ, word_two, show 2 * 2 = 4 from rfl]
  rw [add1_zero h]

theorem getD_word (ws : List Int) (h : ∀ n ∈ ws, 0 ≤ n ∧ n ≤ 65535) (k : Nat) : 0 ≤ ws.getD k 0 ∧ ws.getD k 0 ≤ 65535 := by
  by_cases hk : k < ws.length
  · simp only [List.getD, List.getElem?_eq_getElem hk, Option.getD_some]; exact h _ (List.getElem_mem hk)
  · simp [List.getD, List.getElem?_eq_none (show ws.length ≤ k by omega)]

/-- layWords over a list that the caller has just laid. -/
theorem layAt (ws : List Int) (w : World) (hm : ws.length ≤ 1000) (h : ∀ n ∈ ws, 0 ≤ n ∧ n ≤ 65535) :
    Calls Try.prog 32 #[.slice (some ⟨w.heap.size, 0, none⟩) ws.length ws.length] (w.alloc (.cells (ws.map (Value.int .i64)).toArray 2)) fun e w' =>
      e = .returned (.slice (some ⟨w.heap.size + 1, 0, none⟩) (2 * ws.length) (2 * ws.length)) ∧ (∀ i, i < 2 * ws.length → w'.cell? ⟨w.heap.size + 1, i, none⟩ = some (.int .u8 (fL ws i))) ∧ Below w.heap.size w w' := by
  refine (layWords_any ws w.heap.size ws.length ws.length (w.alloc (.cells (ws.map (Value.int .i64)).toArray 2)) hm (by simp) rfl (getD_word ws h) (by intro k hk; simp [hk])).mono ?_
  rintro e w' ⟨rfl, hown, hB⟩
  have hz : (w.alloc (.cells (ws.map (Value.int .i64)).toArray 2)).heap.size = w.heap.size + 1 := by simp
  rw [hz] at hown hB ⊢
  refine ⟨rfl, fun i hi => ?_, ((Below.refl _ _).alloc (Nat.le_refl _) _).trans (hB.mono (by omega))⟩
  have hl := layL_length ws
  rw [hown.cellAt i (by omega)]
  simp [fL, show i < (layL ws).length by omega]



/-- What SumTurn answers. -/
def sumTurnV (s o n : Int) : Int := if (0 ≤ s ∧ s ≤ 65535) ∧ (0 ≤ o ∧ o ≤ 65535) ∧ (0 ≤ n ∧ n ≤ 65535) then 65535 - add1 (add1 (65535 - s) (65535 - o)) n else 0



/-- What SumRight answers. -/
def sumRightV (s : ByteArray) : Bool := sumA s == 65535



end Go.Proofs.Ytofhcplnnamcdab

/- Sums of texts that are put together: a check behind a text, a word that is turned in it. -/
namespace Go.Proofs.Ytofhcplnnamcdab
open Go.RowKit Go.PlainAid

theorem bt_append (a b : ByteArray) (i : Nat) : bt (a ++ b) i = if i < a.size then bt a i else bt b (i - a.size) := by
  have hs : (a ++ b).size = a.size + b.size := ByteArray.size_append
  by_cases h : i < a.size
  · rw [if_pos h]; unfold bt; rw [dif_pos (by omega), dif_pos h, ByteArray.getElem_append_left h]
  · rw [if_neg h]; unfold bt
    by_cases h2 : i < (a ++ b).size
    · rw [dif_pos h2, dif_pos (by omega), ByteArray.getElem_append_right (by omega)]
    · rw [dif_neg h2, dif_neg (by omega)]

theorem bt_extract (a : ByteArray) (s e i : Nat) (he : e ≤ a.size) : bt (a.extract s e) i = if s + i < e then bt a (s + i) else 0 := by
  have hs : (a.extract s e).size = min e a.size - s := ByteArray.size_extract
  by_cases h : s + i < e
  · rw [if_pos h]; unfold bt; rw [dif_pos (by omega), dif_pos (by omega), ByteArray.getElem_extract]
  · rw [if_neg h]; unfold bt; rw [dif_neg (by omega)]

theorem twoV_size (n : Int) : (twoV n).size = 2 := rfl

theorem bt_two (n : Int) (h0 : 0 ≤ n) (h1 : n ≤ 65535) : bt (twoV n) 0 = n / 256 ∧ bt (twoV n) 1 = n % 256 := by
  constructor
  · unfold bt; rw [dif_pos (by rw [twoV_size]; omega)]; exact u8_ofNat _ (by omega) (by omega)
  · unfold bt; rw [dif_pos (by rw [twoV_size]; omega)]; exact u8_ofNat _ (by omega) (by omega)

theorem sumN_congr {f g : Nat → Int} : ∀ (k : Nat), (∀ i, i < 2 * k → f i = g i) → sumN f k = sumN g k
  | 0, _ => rfl
  | k + 1, h => by
    unfold sumN
    rw [sumN_congr k (fun i hi => h i (by omega))]
    unfold wordN
    rw [h (2 * k) (by omega), h (2 * k + 1) (by omega)]

/-- A word put behind a text of an even number of bytes is added to its sum. -/
theorem sumV_check (t : ByteArray) (n : Int) (K : Nat) (ht : t.size = 2 * K) (h0 : 0 ≤ n) (h1 : n ≤ 65535) : sumV (t ++ twoV n) = add1 (sumV t) n := by
  have hs : (t ++ twoV n).size = 2 * K + 2 := by rw [ByteArray.size_append, twoV_size, ht]
  unfold sumV
  rw [hs, ht, show (2 * K + 2 + 1) / 2 = K + 1 by omega, show (2 * K + 1) / 2 = K by omega]
  show add1 (sumN (bt (t ++ twoV n)) K) (wordN (bt (t ++ twoV n)) (2 * K)) = _
  rw [sumN_congr (g := bt t) K (fun i hi => by rw [bt_append, if_pos (by omega)])]
  congr 1
  unfold wordN
  rw [bt_append, bt_append, if_neg (by omega), if_neg (by omega), ht, show 2 * K - 2 * K = 0 by omega, show 2 * K + 1 - 2 * K = 1 by omega, (bt_two n h0 h1).1, (bt_two n h0 h1).2]
  omega

/-- A text in which the word at place 2 j is n now. -/
def turnV (t : ByteArray) (j : Nat) (n : Int) : ByteArray := t.extract 0 (2 * j) ++ twoV n ++ t.extract (2 * j + 2) t.size

section
variable {t : ByteArray} {j K : Nat} {n : Int}

theorem turn_size (ht : t.size = 2 * K) (hj : j < K) : (turnV t j n).size = 2 * K := by
  unfold turnV
  rw [ByteArray.size_append, ByteArray.size_append, twoV_size, ByteArray.size_extract, ByteArray.size_extract, ht]; omega

theorem turn_other (ht : t.size = 2 * K) (hj : j < K) (i : Nat) (hi : i < 2 * j ∨ 2 * j + 2 ≤ i) : bt (turnV t j n) i = bt t i := by
  have s1 : (t.extract 0 (2 * j)).size = 2 * j := by rw [ByteArray.size_extract, ht]; omega
  have s2 : (t.extract 0 (2 * j) ++ twoV n).size = 2 * j + 2 := by rw [ByteArray.size_append, s1, twoV_size]
  unfold turnV
  rw [bt_append, s2]
  rcases hi with hi | hi
  · rw [if_pos (by omega), bt_append, s1, if_pos hi, bt_extract t 0 (2 * j) i (by omega), if_pos (by omega), Nat.zero_add]
  · rw [if_neg (by omega), bt_extract t _ _ _ (Nat.le_refl _)]
    by_cases h : 2 * j + 2 + (i - (2 * j + 2)) < t.size
    · rw [if_pos h]; congr 1; omega
    · rw [if_neg h, bt_end t (by omega)]

theorem turn_word (ht : t.size = 2 * K) (hj : j < K) (h0 : 0 ≤ n) (h1 : n ≤ 65535) : wordN (bt (turnV t j n)) (2 * j) = n := by
  have s1 : (t.extract 0 (2 * j)).size = 2 * j := by rw [ByteArray.size_extract, ht]; omega
  have s2 : (t.extract 0 (2 * j) ++ twoV n).size = 2 * j + 2 := by rw [ByteArray.size_append, s1, twoV_size]
  have e0 : bt (turnV t j n) (2 * j) = n / 256 := by
    unfold turnV
    rw [bt_append, s2, if_pos (by omega), bt_append, s1, if_neg (by omega), show 2 * j - 2 * j = 0 by omega, (bt_two n h0 h1).1]
  have e1 : bt (turnV t j n) (2 * j + 1) = n % 256 := by
    unfold turnV
    rw [bt_append, s2, if_pos (by omega), bt_append, s1, if_neg (by omega), show 2 * j + 1 - 2 * j = 1 by omega, (bt_two n h0 h1).2]
  unfold wordN
  rw [e0, e1]
  omega
end

theorem add1_mod (a b : Int) : ∃ z, add1 a b = a + b + 65535 * z := by
  unfold add1; split
  · exact ⟨-1, by omega⟩
  · exact ⟨0, by omega⟩

/-- Sums that differ in one word differ by it, but for turns of 65535. -/
theorem sumN_turn {f g : Nat → Int} {j : Nat} (h : ∀ i, (i < 2 * j ∨ 2 * j + 2 ≤ i) → f i = g i) : ∀ k, j < k → ∃ z, sumN g k = sumN f k - wordN f (2 * j) + wordN g (2 * j) + 65535 * z
  | 0, h0 => by omega
  | k + 1, hk => by
    obtain ⟨z1, e1⟩ := add1_mod (sumN f k) (wordN f (2 * k))
    obtain ⟨z2, e2⟩ := add1_mod (sumN g k) (wordN g (2 * k))
    unfold sumN
    by_cases hjk : j = k
    · subst hjk
      have := sumN_congr (f := f) (g := g) j (fun i hi => h i (.inl hi))
      exact ⟨z2 - z1, by rw [e1, e2]; omega⟩
    · obtain ⟨z, e⟩ := sumN_turn h k (by omega)
      have e3 : wordN f (2 * k) = wordN g (2 * k) := by unfold wordN; rw [h _ (.inr (by omega)), h _ (.inr (by omega))]
      exact ⟨z2 - z1 + z, by rw [e1, e2]; omega⟩

theorem add1_full (s : Int) : add1 s (65535 - s) = 65535 := by unfold add1; rw [if_neg (by omega)]; omega

/-- A check that is turned with a word is right again, unless all is 0. -/
theorem turn_right {t : ByteArray} {j K : Nat} {n : Int} (ht : t.size = 2 * K) (hj : j < K) (h0 : 0 ≤ n) (h1 : n ≤ 65535) (hz : sumV (turnV t j n) ≠ 0) :
    sumV (turnV t j n ++ twoV (65535 - add1 (add1 (sumV t) (65535 - wordN (bt t) (2 * j))) n)) = 65535 := by
  have rs := sumV_range t
  have rw1 := wordN_range (bt_isByte t) (2 * j)
  have ra := add1_range rs.1 rs.2 (show 0 ≤ 65535 - wordN (bt t) (2 * j) by omega) (by omega)
  have rb := add1_range ra.1 ra.2 h0 h1
  rw [sumV_check _ _ K (turn_size ht hj) (by omega) (by omega)]
  have ru := sumV_range (turnV t j n)
  obtain ⟨z, e⟩ := sumN_turn (f := bt t) (g := bt (turnV t j n)) (j := j) (fun i hi => (turn_other ht hj i hi).symm) K hj
  rw [turn_word ht hj h0 h1] at e
  have e1 : sumV (turnV t j n) = sumN (bt (turnV t j n)) K := by unfold sumV; rw [turn_size ht hj, show (2 * K + 1) / 2 = K by omega]
  have e2 : sumV t = sumN (bt t) K := by unfold sumV; rw [ht, show (2 * K + 1) / 2 = K by omega]
  obtain ⟨z1, a1⟩ := add1_mod (sumV t) (65535 - wordN (bt t) (2 * j))
  obtain ⟨z2, a2⟩ := add1_mod (add1 (sumV t) (65535 - wordN (bt t) (2 * j))) n
  rw [← e1, ← e2] at e
  generalize sumV (turnV t j n) = U at *
  generalize sumV t = S at *
  generalize wordN (bt t) (2 * j) = W at *
  generalize add1 (add1 S (65535 - W)) n = C at *
  generalize add1 S (65535 - W) = D at *
  have hC : U + (65535 - C) = 65535 * (z - z1 - z2) := by omega
  unfold add1
  split <;> omega

end Go.Proofs.Ytofhcplnnamcdab

/- Pkt: packets, as plain functions: when they are right, their bytes, what is read of a text; nothing of the program. -/
namespace Go.Proofs.Ytofhcplnnamcdab
open Go.RowKit Go.PlainAid
set_option linter.unusedVariables false
set_option linter.unusedSimpArgs false

/-- A packet of IPv4. -/
structure P4 where
  tos : Int
  id : Int
  whole : Bool
  more : Bool
  off : Int
  ttl : Int
  proto : Int
  src : ByteArray
  dst : ByteArray
  opts : ByteArray
  data : ByteArray
/-- A packet of IPv6. -/
structure P6 where
  cls : Int
  flow : Int
  next : Int
  hops : Int
  src : ByteArray
  dst : ByteArray
  piece : Bool
  more : Bool
  off : Int
  id : Int
  data : ByteArray

def p4C (p : P4) : Value := .agg #[.int .i64 p.tos, .int .i64 p.id, .bool p.whole, .bool p.more, .int .i64 p.off, .int .i64 p.ttl, .int .i64 p.proto, .string p.src, .string p.dst, .string p.opts, .string p.data]
def p6C (p : P6) : Value := .agg #[.int .i64 p.cls, .int .i64 p.flow, .int .i64 p.next, .int .i64 p.hops, .string p.src, .string p.dst, .bool p.piece, .bool p.more, .int .i64 p.off, .int .i64 p.id, .string p.data]
/-- A packet and a code. -/
def p4CO (p : P4) (code : Int) : Value := .agg #[.int .i64 p.tos, .int .i64 p.id, .bool p.whole, .bool p.more, .int .i64 p.off, .int .i64 p.ttl, .int .i64 p.proto, .string p.src, .string p.dst, .string p.opts, .string p.data, .int .i64 code]
def p6CO (p : P6) (code : Int) : Value := .agg #[.int .i64 p.cls, .int .i64 p.flow, .int .i64 p.next, .int .i64 p.hops, .string p.src, .string p.dst, .bool p.piece, .bool p.more, .int .i64 p.off, .int .i64 p.id, .string p.data, .int .i64 code]

def isIn (n lo hi : Int) : Bool := decide (lo ≤ n) && decide (n ≤ hi)
theorem isIn_parts {n lo hi : Int} (h : isIn n lo hi = true) : lo ≤ n ∧ n ≤ hi := by simpa [isIn] using h
theorem isIn_no {n lo hi : Int} (h : isIn n lo hi = false) : ¬ (lo ≤ n ∧ n ≤ hi) := fun hh => by simp [isIn, hh.1, hh.2] at h

/-- The first test of a packet of IPv4. -/
def v4A (p : P4) : Bool := isIn p.tos 0 255 && isIn p.ttl 0 255 && isIn p.proto 0 255 && isIn p.id 0 65535 && isIn p.off 0 8191 && decide (p.src.size = 4) && decide (p.dst.size = 4)
/-- The second. -/
def v4B (p : P4) : Bool := decide (p.opts.size ≤ 40) && decide (p.opts.size % 4 = 0) && decide (p.data.size ≤ 1400) && !(p.more && !decide (p.data.size % 8 = 0)) && decide (8 * p.off + p.data.size ≤ 65515)
def v4C (p : P4) : Bool := !p.whole || (!p.more && decide (p.off = 0))
def v4Ok (p : P4) : Bool := v4A p && v4B p && v4C p

def v6A (p : P6) : Bool := isIn p.cls 0 255 && isIn p.next 0 255 && isIn p.hops 0 255 && isIn p.flow 0 1048575 && decide (p.src.size = 16) && decide (p.dst.size = 16) && decide (p.data.size ≤ 1400) && !decide (p.next = 44)
def v6B (p : P6) : Bool := if p.piece then isIn p.off 0 8191 && isIn p.id 0 4294967295 && (!p.more || decide (p.data.size % 8 = 0)) && decide (8 * p.off + p.data.size ≤ 65535) else !p.more && decide (p.off = 0) && decide (p.id = 0)
def v6Ok (p : P6) : Bool := v6A p && v6B p

theorem v4A_parts {p : P4} (h : v4A p = true) : (0 ≤ p.tos ∧ p.tos ≤ 255) ∧ (0 ≤ p.ttl ∧ p.ttl ≤ 255) ∧ (0 ≤ p.proto ∧ p.proto ≤ 255) ∧ (0 ≤ p.id ∧ p.id ≤ 65535) ∧ (0 ≤ p.off ∧ p.off ≤ 8191) ∧ p.src.size = 4 ∧ p.dst.size = 4 := by
  unfold v4A at h
  simp only [Bool.and_eq_true, decide_eq_true_iff] at h
  obtain ⟨⟨⟨⟨⟨⟨h1, h2⟩, h3⟩, h4⟩, h5⟩, h6⟩, h7⟩ := h
  exact ⟨isIn_parts h1, isIn_parts h2, isIn_parts h3, isIn_parts h4, isIn_parts h5, h6, h7⟩
theorem v4B_parts {p : P4} (h : v4B p = true) : p.opts.size ≤ 40 ∧ p.opts.size % 4 = 0 ∧ p.data.size ≤ 1400 ∧ (p.more = true → p.data.size % 8 = 0) ∧ 8 * p.off + p.data.size ≤ 65515 := by
  unfold v4B at h
  simp only [Bool.and_eq_true, Bool.not_eq_true', decide_eq_true_iff] at h
  obtain ⟨⟨⟨⟨h1, h2⟩, h3⟩, h4⟩, h5⟩ := h
  refine ⟨h1, h2, h3, fun hm => ?_, h5⟩
  rw [hm, Bool.true_and, Bool.not_eq_false', decide_eq_true_iff] at h4
  exact h4

/-- Two bytes. -/
def pairV (x y : Int) : ByteArray := ⟨#[UInt8.ofNat x.toNat, UInt8.ofNat y.toNat]⟩
theorem pairV_size (x y : Int) : (pairV x y).size = 2 := rfl
theorem pairV_bt (x y : Int) (hx : 0 ≤ x ∧ x ≤ 255) (hy : 0 ≤ y ∧ y ≤ 255) : bt (pairV x y) 0 = x ∧ bt (pairV x y) 1 = y := by
  constructor
  · exact u8_ofNat x hx.1 hx.2
  · exact u8_ofNat y hy.1 hy.2

/-- The number with Off and the two bits ahead of it. -/
def offV (p : P4) : Int := p.off + (if p.whole then 16384 else 0) + (if p.more then 8192 else 0)
def hlen (p : P4) : Int := 20 + p.opts.size
/-- The bytes ahead of the check, and those behind it. -/
def headA (p : P4) : ByteArray := pairV (64 + hlen p / 4) p.tos ++ twoV (hlen p + p.data.size) ++ twoV p.id ++ twoV (offV p) ++ pairV p.ttl p.proto
def headB (p : P4) : ByteArray := p.src ++ p.dst ++ p.opts
def v4Raw (p : P4) : ByteArray := headA p ++ twoV (65535 - sumV (headA p ++ headB p)) ++ headB p ++ p.data
/-- The bytes of a packet of IPv4. -/
def v4BytesV (p : P4) : ByteArray := if v4Ok p then v4Raw p else ⟨#[]⟩

/-- The first four bytes of a packet of IPv6, as a number. -/
def firstN (p : P6) : Int := 6 * 268435456 + p.cls * 1048576 + p.flow
def restV (p : P6) : ByteArray := if p.piece then pairV p.next 0 ++ twoV (8 * p.off + if p.more then 1 else 0) ++ twoV (p.id / 65536) ++ twoV (p.id % 65536) ++ p.data else p.data
def v6Raw (p : P6) : ByteArray := twoV (firstN p / 65536) ++ twoV (firstN p % 65536) ++ twoV (restV p).size ++ pairV (if p.piece then 44 else p.next) p.hops ++ p.src ++ p.dst ++ restV p
def v6BytesV (p : P6) : ByteArray := if v6Ok p then v6Raw p else ⟨#[]⟩

def p4Zero : P4 := ⟨0, 0, false, false, 0, 0, 0, ⟨#[]⟩, ⟨#[]⟩, ⟨#[]⟩, ⟨#[]⟩⟩
def p6Zero : P6 := ⟨0, 0, 0, 0, ⟨#[]⟩, ⟨#[]⟩, false, false, 0, 0, ⟨#[]⟩⟩

/-- What is read of a text as a packet of IPv4: the packet that it would be. -/
def v4Cut (t : ByteArray) : P4 :=
  let h := 4 * (bt t 0 % 16).toNat
  let all := (wordN (bt t) 2).toNat
  let off := wordN (bt t) 6
  ⟨bt t 1, wordN (bt t) 4, decide (off / 16384 % 2 = 1), decide (off / 8192 % 2 = 1), off % 8192, bt t 8, bt t 9, t.extract 12 16, t.extract 16 20, t.extract 20 h, t.extract h all⟩
/-- The code of a text that is read as a packet of IPv4. -/
def v4CodeV (t : ByteArray) : Int :=
  if 20000 < t.size then 2
  else if t.size < 20 then 4
  else if bt t 0 / 16 ≠ 4 ∨ 4 * (bt t 0 % 16) < 20 ∨ wordN (bt t) 2 < 4 * (bt t 0 % 16) ∨ 32768 ≤ wordN (bt t) 6 then 3
  else if (t.size : Int) < wordN (bt t) 2 then 4
  else if sumV (t.extract 0 (4 * (bt t 0 % 16).toNat)) ≠ 65535 then 5
  else if v4Ok (v4Cut t) then 0 else 1
def v4ReadV (t : ByteArray) : P4 := if v4CodeV t = 0 then v4Cut t else p4Zero

/-- What is read of a text as a packet of IPv6. -/
def v6Cut (t : ByteArray) : P6 :=
  let n := (wordN (bt t) 4).toNat
  let first := wordN (bt t) 0 * 65536 + wordN (bt t) 2
  if bt t 6 = 44 then ⟨first / 1048576 % 256, first % 1048576, bt t 40, bt t 7, t.extract 8 24, t.extract 24 40, true, decide (bt t 43 % 2 = 1), wordN (bt t) 42 / 8, wordN (bt t) 44 * 65536 + wordN (bt t) 46, t.extract 48 (40 + n)⟩
  else ⟨first / 1048576 % 256, first % 1048576, bt t 6, bt t 7, t.extract 8 24, t.extract 24 40, false, false, 0, 0, t.extract 40 (40 + n)⟩
def v6CodeV (t : ByteArray) : Int :=
  if 20000 < t.size then 2
  else if t.size < 40 then 4
  else if bt t 0 / 16 ≠ 6 then 3
  else if (t.size : Int) < 40 + wordN (bt t) 4 ∨ (bt t 6 = 44 ∧ wordN (bt t) 4 < 8) then 4
  else if v6Ok (v6Cut t) then 0 else 1
def v6ReadV (t : ByteArray) : P6 := if v6CodeV t = 0 then v6Cut t else p6Zero

end Go.Proofs.Ytofhcplnnamcdab
