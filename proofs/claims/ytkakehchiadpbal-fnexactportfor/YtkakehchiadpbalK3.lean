/- MarkT, MarkS, Text, Lay, Add, SumMath, Pkt, in one text. -/
import Derived.Test.YtkakehchiadpbalK1
import Derived.Test.YtkakehchiadpbalK2
import Derived.Deep.RegionWith
import Derived.Laws.IdiomStrings
import Derived.Deep.DeepCutAuto

/- MarkT: what the laws' markText answers. -/
namespace Go.Proofs.Ytkakehchiadpbal
open Go.RowKit Go.PlainAid
set_option linter.unusedVariables false
set_option linter.unusedSimpArgs false

def oneM (x : Nat) : ByteArray := ⟨#[UInt8.ofNat x]⟩
/-- The digits of a number ahead of a text. -/
def markA (k : Nat) (o : ByteArray) : ByteArray := if h : k = 0 then o else markA (k / 10) (oneM (48 + k % 10) ++ o)
termination_by k
decreasing_by omega
theorem markA_zero (o : ByteArray) : markA 0 o = o := by rw [markA]; rfl
theorem markA_step {k : Nat} (h : 0 < k) (o : ByteArray) : markA k o = markA (k / 10) (oneM (48 + k % 10) ++ o) := by rw [markA, dif_neg (by omega)]
def emM : ByteArray := ⟨#[109]⟩
/-- What markText answers. -/
def markV (k : Nat) : ByteArray := emM ++ markA k ⟨#[]⟩

theorem oneM_conv {w : World} {b cap : Nat} {x : Nat} (hx : x ≤ 255) (h0 : w.cell? ⟨b, 0, none⟩ = some (.int .u8 (x : Int))) :
    (convert 128 9 (.slice (some ⟨b, 0, none⟩) 1 cap)).run Try.prog w = .ok (.string (oneM x)) w :=
  run_convert_bytes_back (P := Try.prog) w 128 9 5 ⟨b, 0, none⟩ cap [UInt8.ofNat x] Try.underlying128 Try.underlying5 Try.underlying9 (by
    intro j hj
    match j, hj with
    | 0, _ => simp only [Addr.add, Nat.add_zero, List.getElem_cons_zero]; rw [UInt8.toNat_ofNat', Nat.mod_eq_of_lt (by omega)]; exact h0)

set_option maxRecDepth 100000 in
set_option maxHeartbeats 1000000 in
theorem markText_any (k : Nat) (w : World) (hk : 0 < k) (hk2 : k ≤ 1073741824) :
    Calls Try.prog 87 #[.int .i64 k] w fun e w' => e = .returned (.string (markV k)) ∧ Below w.heap.size w w' := by
  have HV : Hid (markV k = emM ++ markA k ⟨#[]⟩) := rfl
  generalize markV k = ans at *
  go_enter Try.func87, Try.ntmps87
  go_wp2_with fail
  go_loopw [0, 3] (fun kv ov wr => ∃ (m : Nat) (o : ByteArray), kv = .int .i64 m ∧ ov = .string o ∧ markA m o = markA k ⟨#[]⟩ ∧ m * 2 ^ o.size ≤ k ∧ m ≤ 1073741824 ∧ o.size ≤ 31 ∧ Below w.heap.size w wr) (fun kv _ _ => (intOf kv).toNat)
  case atStart => exact ⟨k, ⟨#[]⟩, rfl, rfl, rfl, by simp [ByteArray.size], hk2, by simp [ByteArray.size], Below.refl _ _⟩
  case round =>
    obtain ⟨m, o, rfl, rfl, hm, hb, hm2, ho, hbel⟩ := hrel
    have HM : Hid (markA m o = markA k ⟨#[]⟩) := hm
    have HB : Hid (m * 2 ^ o.size ≤ k) := hb
    have HL : Hid (Below w.heap.size w wr) := hbel
    clear hm hb hbel
    by_cases h0 : 0 < m
    · have hcv : (convert 128 9 (.slice (some ⟨wr.heap.size, 0, none⟩) 1 1)).run Try.prog (wr.alloc (.cells #[.int .u8 (48 + (m : Int) % 10)] 5)) = .ok (.string (oneM (48 + m % 10))) (wr.alloc (.cells #[.int .u8 (48 + (m : Int) % 10)] 5)) :=
        oneM_conv (by omega) (by simp)
      have ho2 : o.size ≤ 30 := by
        by_cases hx : o.size ≤ 30
        · exact hx
        · have h1 : 2 ^ 31 ≤ 2 ^ o.size := Nat.pow_le_pow_right (by omega) (by omega)
          have h2 : 1 * 2 ^ o.size ≤ m * 2 ^ o.size := Nat.mul_le_mul_right _ h0
          have := HB.out
          omega
      have HB2 : Hid (m / 10 * 2 ^ (o.size + 1) ≤ k) := by
        have h1 : m / 10 * 2 ≤ m := by omega
        have h2 := Nat.mul_le_mul_right (2 ^ o.size) h1
        have h3 := HB.out
        unfold Hid
        rw [Nat.pow_succ, Nat.mul_comm (2 ^ o.size) 2, ← Nat.mul_assoc]
        omega
      have z1 : (oneM (48 + m % 10)).size = 1 := rfl
      have n1 : ¬ 9223372036854775807 < (oneM (48 + m % 10)).size + o.size := by omega
      have HM2 : Hid (markA (m / 10) (oneM (48 + m % 10) ++ o) = markA k ⟨#[]⟩) := by unfold Hid; rw [← HM.out, markA_step h0]
      have z2 : (oneM (48 + m % 10) ++ o).size = o.size + 1 := by rw [ByteArray.size_append]; omega
      have hlt : m / 10 < m := by omega
      generalize oneM (48 + m % 10) = u at *
      go_wp2_with fail
      go_roundw
      case rel => exact ⟨m / 10, u ++ o, by go_num, rfl, HM2.out, by rw [z2]; exact HB2.out, by omega, by omega, HL.out.alloc HL.out.size _⟩
      case measure => simp [intOf]; omega
    · obtain rfl : m = 0 := by omega
      have HO : Hid (ans = ⟨#[109]⟩ ++ o) := by unfold Hid; rw [HV.out, ← HM.out, markA_zero]; rfl
      go_wp2_with fail
      go_ret
      exact ⟨ret_string HO.out.symm, HL.out⟩
end Go.Proofs.Ytkakehchiadpbal

/- MarkS: rows that the laws mark: a row of marks that is being laid; nothing of the program but markText. -/
namespace Go.Proofs.Ytkakehchiadpbal
open Go.RowKit Go.PlainAid
set_option linter.unusedVariables false
set_option linter.unusedSimpArgs false

/-- The numbers from which the rows are marked. -/
def marksOf (n k L : Nat) : List Nat := (List.range L).map fun i => k + n * i
theorem marksOf_length (n k L : Nat) : (marksOf n k L).length = L := by simp [marksOf]
theorem marksOf_get (n k L i : Nat) (h : i < (marksOf n k L).length) : (marksOf n k L)[i] = k + n * i := by simp [marksOf]

/-- A row of which the first m structs are marked, and the first cells of the next. -/
structure MkSt (en : Nat → List Value) (n : Nat) (w0 : World) (B k L m : Nat) (cs : List Value) (w : World) : Prop where
  laid : SlLaid en n w B (marksOf n k L) L m
  part : w.rangeAt B (m * n) cs
  grown : w0.grownBy w (some B)
section
variable {en : Nat → List Value} {n : Nat} {w0 w w' : World} {B k L m : Nat} {cs : List Value}
theorem MkSt.new (h : SlLaid en n w B (marksOf n k L) L m) (hg : w0.grownBy w (some B)) : MkSt en n w0 B k L m [] w := ⟨h, fun j v hv => by simp at hv, hg⟩
theorem MkSt.idx (hm : m < L) {j : Nat} (hj : j < n) : m * n + j < L * n := by
  have := Nat.mul_le_mul_right n (show m + 1 ≤ L from hm); rw [Nat.succ_mul] at this; omega
theorem MkSt.put (h : MkSt en n w0 B k L m cs w) (hn : ∀ x, (en x).length = n) (hc : cs.length < n) (hm : m < L) (v : Value) : MkSt en n w0 B k L m (cs ++ [v]) (w.setCell ⟨B, m * n + cs.length, none⟩ v) := by
  have hix := MkSt.idx hm hc
  obtain ⟨x, hx⟩ := Option.isSome_iff_exists.1 (h.laid.there _ hix)
  have ho : ∀ o, o ≠ m * n + cs.length → (w.setCell ⟨B, m * n + cs.length, none⟩ v).cell? ⟨B, o, none⟩ = w.cell? ⟨B, o, none⟩ := fun o ho => World.cell?_setCell_other _ _ _ _ (fun e => ho (by injection e with _ e2; exact e2.symm))
  have hs : (w.setCell ⟨B, m * n + cs.length, none⟩ v).cell? ⟨B, m * n + cs.length, none⟩ = some v := World.cell?_setCell_same _ _ _ hx
  refine ⟨⟨?_, fun i hi hk j u hu => ?_, fun i hi => ?_, fun i hi => by rw [World.frozen?_setCell]; exact h.laid.free i hi⟩, fun j u hu => ?_, grown_set h.grown v⟩
  · exact Nat.lt_of_lt_of_le h.laid.blk (((Below.refl 0 w).setCell (p := ⟨B, m * n + cs.length, none⟩) (Nat.zero_le _) v).size)
  · have hj := (List.getElem?_eq_some_iff.1 hu).1
    rw [hn] at hj
    have hle : i * n + n ≤ m * n := by have := Nat.mul_le_mul_right n (show i + 1 ≤ m by omega); rw [Nat.succ_mul] at this; exact this
    rw [ho _ (by omega)]; exact h.laid.at0 i hi hk j u hu
  · by_cases e : i = m * n + cs.length
    · rw [e, hs]; rfl
    · rw [ho _ e]; exact h.laid.there i hi
  · by_cases e : j < cs.length
    · rw [List.getElem?_append_left e] at hu
      rw [ho _ (by omega)]; exact h.part j u hu
    · have hj := (List.getElem?_eq_some_iff.1 hu).1
      rw [List.length_append] at hj
      have : j = cs.length := by simp at hj; omega
      subst this
      simp at hu
      rw [hs, hu]
theorem MkSt.call (h : MkSt en n w0 B k L m cs w) (q : Below w.heap.size w w') : MkSt en n w0 B k L m cs w' :=
  ⟨h.laid.kept q, fun j v hv => ((bcell q).1 B _ h.laid.blk).trans (h.part j v hv), grown_trans h.grown (grown_of_below q)⟩
theorem MkSt.there (h : MkSt en n w0 B k L m cs w) (hm : m < L) {j : Nat} (hj : j < n) : ∃ v, w.cell? ⟨B, m * n + j, none⟩ = some v := Option.isSome_iff_exists.1 (h.laid.there _ (MkSt.idx hm hj))
theorem MkSt.free (h : MkSt en n w0 B k L m cs w) (hm : m < L) {j : Nat} (hj : j < n) : w.frozen? ⟨B, m * n + j, none⟩ = false := h.laid.free _ (MkSt.idx hm hj)
theorem MkSt.next (hn : ∀ x, (en x).length = n) (h : MkSt en n w0 B k L m cs w) (hc : cs = en (k + n * m)) (hm : m < L) : SlLaid en n w B (marksOf n k L) L (m + 1) := by
  refine ⟨h.laid.blk, fun i hi hk j v hv => ?_, h.laid.there, h.laid.free⟩
  by_cases e : i = m
  · subst e
    rw [marksOf_get, ← hc] at hv
    exact h.part j v hv
  · exact h.laid.at0 i hi (by omega) j v hv
end

theorem markText_at (x : Int) (y : Nat) (w : World) (h : x = (y : Int)) (h0 : 0 < y) (h1 : y ≤ 1073741824) :
    Calls Try.prog 87 #[.int .i64 x] w fun e w' => e = .returned (.string (markV y)) ∧ Below w.heap.size w w' := by
  subst h; exact markText_any y w h0 h1
end Go.Proofs.Ytkakehchiadpbal

/- Texts put together: digits and groups: what the specification's l01Dec and l02Group answer. -/
namespace Go.Proofs.Ytkakehchiadpbal
open Go.RowKit Go.PlainAid
set_option linter.unusedVariables false
set_option linter.unusedSimpArgs false

/-- The text of a list of bytes. -/
def ofL (l : List UInt8) : ByteArray := ⟨l.toArray⟩
theorem ofL_append (a b : List UInt8) : ofL a ++ ofL b = ofL (a ++ b) := by unfold ofL; rw [ByteArray.mk_append_mk]
theorem ofL_size (l : List UInt8) : (ofL l).size = l.length := by simp [ofL, ByteArray.size]
theorem ofL_nil : ofL [] = ⟨#[]⟩ := rfl
theorem ofL_inj {a b : List UInt8} (h : ofL a = ofL b) : a = b := by
  have := congrArg (fun x => x.data.toList) h; simpa [ofL] using this

/-- One byte, made a text. -/
theorem one_conv {w : World} {b : Nat} {x : Int} (h0 : 0 ≤ x) (h1 : x ≤ 255) (hc : w.cell? ⟨b, 0, none⟩ = some (.int .u8 x)) :
    (convert 128 9 (.slice (some ⟨b, 0, none⟩) 1 1)).run Try.prog w = .ok (.string (ofL [UInt8.ofNat x.toNat])) w :=
  run_convert_bytes_back (P := Try.prog) w 128 9 5 ⟨b, 0, none⟩ 1 [UInt8.ofNat x.toNat] Try.underlying128 Try.underlying5 Try.underlying9 (by
    intro j hj
    obtain rfl : j = 0 := (by simp at hj; omega)
    simp only [Addr.add, if_true, List.getElem_cons_zero, UInt8.toNat_ofNat']
    rw [hc]; congr 2; omega)

/-- The digits of a number, the highest first; none of 0. -/
def dgF : Nat → Nat → List UInt8
  | 0, _ => []
  | f + 1, n => if n = 0 then [] else dgF f (n / 10) ++ [UInt8.ofNat (48 + n % 10)]

/-- A number in digits. -/
def decL (n : Nat) : List UInt8 := if n = 0 then [48] else dgF 20 n

theorem dgF_step {f n : Nat} (h : n ≠ 0) : dgF (f + 1) n = dgF f (n / 10) ++ [UInt8.ofNat (48 + n % 10)] := by
  show (if n = 0 then [] else _) = _; rw [if_neg h]
theorem dgF_zero (f : Nat) : dgF f 0 = [] := by cases f <;> simp [dgF]
theorem dgF_length : ∀ (f n : Nat), (dgF f n).length ≤ f
  | 0, _ => by simp [dgF]
  | f + 1, n => by
    unfold dgF; split
    · simp
    · have := dgF_length f (n / 10); simp; omega


/-- The digit of a number below 16. -/
def hexC (d : Nat) : UInt8 := if d < 10 then UInt8.ofNat (48 + d) else UInt8.ofNat (87 + d)

theorem hex_get : ∀ (n : Nat) (h : n < (ByteArray.mk #[48, 49, 50, 51, 52, 53, 54, 55, 56, 57, 97, 98, 99, 100, 101, 102]).size), (((ByteArray.mk #[48, 49, 50, 51, 52, 53, 54, 55, 56, 57, 97, 98, 99, 100, 101, 102])[n]'h).toNat : Int) = ((hexC n).toNat : Int)
  | 0, _ => by rfl
  | 1, _ => by rfl
  | 2, _ => by rfl
  | 3, _ => by rfl
  | 4, _ => by rfl
  | 5, _ => by rfl
  | 6, _ => by rfl
  | 7, _ => by rfl
  | 8, _ => by rfl
  | 9, _ => by rfl
  | 10, _ => by rfl
  | 11, _ => by rfl
  | 12, _ => by rfl
  | 13, _ => by rfl
  | 14, _ => by rfl
  | 15, _ => by rfl
  | n + 16, h => absurd h (by simp [ByteArray.size])

theorem ofL_toList (l : List UInt8) : (ofL l).toList = l := ByteArray.toList_mk l

/-- A group's digits so far, and one more. -/
def gst (t : List UInt8) (d : Nat) (last : Bool) : List UInt8 := if d ≠ 0 ∨ t ≠ [] ∨ last = true then t ++ [hexC d] else t
/-- The first j digits of a group, those in front that are 0 left out, but the last. -/
def grpN (n : Nat) : Nat → List UInt8
  | 0 => []
  | j + 1 => gst (grpN n j) (n / 16 ^ (3 - j) % 16) (j == 3)
def groupL (n : Nat) : List UInt8 := grpN n 4

theorem grpN_length (n : Nat) : ∀ j, (grpN n j).length ≤ j
  | 0 => by simp [grpN]
  | j + 1 => by
    have := grpN_length n j
    show (gst _ _ _).length ≤ _
    unfold gst; split
    · simp; omega
    · omega

theorem and_15 (n : Int) : bits .and .i64 n 15 = n % 16 := by
  have h127 : (BitVec.ofInt 64 15).toNat = 2 ^ 4 - 1 := by decide
  have key : (BitVec.ofInt 64 n &&& BitVec.ofInt 64 15).toNat = (n % ((2 ^ 64 : Nat) : Int)).toNat % 2 ^ 4 := by
    rw [BitVec.toNat_and, BitVec.toNat_ofInt, h127, Nat.and_two_pow_sub_one_eq_mod]
  show IntKind.i64.wrap ((BitVec.ofInt 64 n &&& BitVec.ofInt 64 15).toNat : Nat) = n % 16
  rw [key, IntKind.wrap_i64]
  omega


end Go.Proofs.Ytkakehchiadpbal

/- The words' bytes, and sums over lists of bytes: what WordBytes, SumAdd, SumTurn and SumRight answer, in the program and in its specification. -/
namespace Go.Proofs.Ytkakehchiadpbal
open Go.RowKit Go.PlainAid


/-- What WordBytes answers. -/
def wordBytesV (n : Int) : ByteArray := if 0 ≤ n ∧ n ≤ 65535 then twoV n else ⟨#[]⟩


theorem lay_one {ws : List Int} {n : Int} (h : ws = [n]) : layL ws = [n / 256, n % 256] := by subst h; rfl



end Go.Proofs.Ytkakehchiadpbal

/- Sums of two and three words by layWords and sumOf: what SumAdd, SumTurn and SumRight answer, in the program and in its specification. -/
namespace Go.Proofs.Ytkakehchiadpbal
open Go.RowKit Go.PlainAid

/-- The bytes of some words, by their place. -/
def fL (ws : List Int) (i : Nat) : Int := (layL ws).getD i 0

theorem fL_end (ws : List Int) (i : Nat) (h : 2 * ws.length ≤ i) : fL ws i = 0 := by
  have := layL_length ws
  simp [fL, List.getD, List.getElem?_eq_none (show (layL ws).length ≤ i by omega)]

theorem fL_byte : ∀ (ws : List Int), (∀ n ∈ ws, 0 ≤ n ∧ n ≤ 65535) → isByte (fL ws)
  | [], _ => fun i => by simp [fL, layL]
  | n :: r, h => fun i => by
    have hn := h n (by simp)
    match i with
    | 0 => simp only [fL, layL, List.getD_cons_zero]; omega
    | 1 => simp only [fL, layL, List.getD_cons_succ, List.getD_cons_zero]; omega
    | i + 2 => simpa [fL, layL] using fL_byte r (fun m hm => h m (by simp [hm])) i

theorem add1_zero {a : Int} (h : a ≤ 65535) : add1 0 a = a := by unfold add1; rw [if_neg (by omega)]; omega

theorem word_two (n : Int) : n / 256 * 256 + n % 256 = n := by omega

theorem sum_two {a b : Int} (h : a ≤ 65535) : sumN (fL [a, b]) 2 = add1 a b := by
  simp only [sumN, wordN, fL, layL, Nat.mul_zero, Nat.mul_one, Nat.zero_add, List.getD_cons_zero, List.getD_cons_succ, word_two]
  rw [add1_zero h]

theorem sum_three {a b c : Int} (h : a ≤ 65535) : sumN (fL [a, b, c]) 3 = add1 (add1 a b) c := by
  simp only [sumN, wordN, fL, layL, Nat.mul_zero, Nat.mul_one, Nat.zero_add, List.getD_cons_zero, List.getD_cons_succ, word_two, show 2 * 2 = 4 from rfl]
  rw [add1_zero h]




/-- What SumTurn answers. -/
def sumTurnV (s o n : Int) : Int := if (0 ≤ s ∧ s ≤ 65535) ∧ (0 ≤ o ∧ o ≤ 65535) ∧ (0 ≤ n ∧ n ≤ 65535) then 65535 - add1 (add1 (65535 - s) (65535 - o)) n else 0



/-- What SumRight answers. -/
def sumRightV (s : ByteArray) : Bool := sumA s == 65535



end Go.Proofs.Ytkakehchiadpbal

/- Sums of texts that are put together: a check behind a text, a word that is turned in it. -/
namespace Go.Proofs.Ytkakehchiadpbal
open Go.RowKit Go.PlainAid

theorem bt_append (a b : ByteArray) (i : Nat) : bt (a ++ b) i = if i < a.size then bt a i else bt b (i - a.size) := by
  have hs : (a ++ b).size = a.size + b.size := ByteArray.size_append
  by_cases h : i < a.size
  · rw [if_pos h]; unfold bt; rw [dif_pos (by omega), dif_pos h, ByteArray.getElem_append_left h]
  · rw [if_neg h]; unfold bt
    by_cases h2 : i < (a ++ b).size
    · rw [dif_pos h2, dif_pos (by omega), ByteArray.getElem_append_right (by omega)]
    · rw [dif_neg h2, dif_neg (by omega)]

theorem bt_extract (a : ByteArray) (s e i : Nat) (he : e ≤ a.size) : bt (a.extract s e) i = if s + i < e then bt a (s + i) else 0 := by
  have hs : (a.extract s e).size = min e a.size - s := ByteArray.size_extract
  by_cases h : s + i < e
  · rw [if_pos h]; unfold bt; rw [dif_pos (by omega), dif_pos (by omega), ByteArray.getElem_extract]
  · rw [if_neg h]; unfold bt; rw [dif_neg (by omega)]

theorem twoV_size (n : Int) : (twoV n).size = 2 := rfl

theorem bt_two (n : Int) (h0 : 0 ≤ n) (h1 : n ≤ 65535) : bt (twoV n) 0 = n / 256 ∧ bt (twoV n) 1 = n % 256 := by
  constructor
  · unfold bt; rw [dif_pos (by rw [twoV_size]; omega)]; exact u8_ofNat _ (by omega) (by omega)
  · unfold bt; rw [dif_pos (by rw [twoV_size]; omega)]; exact u8_ofNat _ (by omega) (by omega)

theorem sumN_congr {f g : Nat → Int} : ∀ (k : Nat), (∀ i, i < 2 * k → f i = g i) → sumN f k = sumN g k
  | 0, _ => rfl
  | k + 1, h => by
    unfold sumN
    rw [sumN_congr k (fun i hi => h i (by omega))]
    unfold wordN
    rw [h (2 * k) (by omega), h (2 * k + 1) (by omega)]

/-- A word put behind a text of an even number of bytes is added to its sum. -/
theorem sumV_check (t : ByteArray) (n : Int) (K : Nat) (ht : t.size = 2 * K) (h0 : 0 ≤ n) (h1 : n ≤ 65535) : sumV (t ++ twoV n) = add1 (sumV t) n := by
  have hs : (t ++ twoV n).size = 2 * K + 2 := by rw [ByteArray.size_append, twoV_size, ht]
  unfold sumV
  rw [hs, ht, show (2 * K + 2 + 1) / 2 = K + 1 by omega, show (2 * K + 1) / 2 = K by omega]
  show add1 (sumN (bt (t ++ twoV n)) K) (wordN (bt (t ++ twoV n)) (2 * K)) = _
  rw [sumN_congr (g := bt t) K (fun i hi => by rw [bt_append, if_pos (by omega)])]
  congr 1
  unfold wordN
  rw [bt_append, bt_append, if_neg (by omega), if_neg (by omega), ht, show 2 * K - 2 * K = 0 by omega, show 2 * K + 1 - 2 * K = 1 by omega, (bt_two n h0 h1).1, (bt_two n h0 h1).2]
  omega

/-- A text in which the word at place 2 j is n now. -/
def turnV (t : ByteArray) (j : Nat) (n : Int) : ByteArray := t.extract 0 (2 * j) ++ twoV n ++ t.extract (2 * j + 2) t.size

section
variable {t : ByteArray} {j K : Nat} {n : Int}

theorem turn_size (ht : t.size = 2 * K) (hj : j < K) : (turnV t j n).size = 2 * K := by
  unfold turnV
  rw [ByteArray.size_append, ByteArray.size_append, twoV_size, ByteArray.size_extract, ByteArray.size_extract, ht]; omega

theorem turn_other (ht : t.size = 2 * K) (hj : j < K) (i : Nat) (hi : i < 2 * j ∨ 2 * j + 2 ≤ i) : bt (turnV t j n) i = bt t i := by
  have s1 : (t.extract 0 (2 * j)).size = 2 * j := by rw [ByteArray.size_extract, ht]; omega
  have s2 : (t.extract 0 (2 * j) ++ twoV n).size = 2 * j + 2 := by rw [ByteArray.size_append, s1, twoV_size]
  unfold turnV
  rw [bt_append, s2]
  rcases hi with hi | hi
  · rw [if_pos (by omega), bt_append, s1, if_pos hi, bt_extract t 0 (2 * j) i (by omega), if_pos (by omega), Nat.zero_add]
  · rw [if_neg (by omega), bt_extract t _ _ _ (Nat.le_refl _)]
    by_cases h : 2 * j + 2 + (i - (2 * j + 2)) < t.size
    · rw [if_pos h]; congr 1; omega
    · rw [if_neg h, bt_end t (by omega)]

theorem turn_word (ht : t.size = 2 * K) (hj : j < K) (h0 : 0 ≤ n) (h1 : n ≤ 65535) : wordN (bt (turnV t j n)) (2 * j) = n := by
  have s1 : (t.extract 0 (2 * j)).size = 2 * j := by rw [ByteArray.size_extract, ht]; omega
  have s2 : (t.extract 0 (2 * j) ++ twoV n).size = 2 * j + 2 := by rw [ByteArray.size_append, s1, twoV_size]
  have e0 : bt (turnV t j n) (2 * j) = n / 256 := by
    unfold turnV
    rw [bt_append, s2, if_pos (by omega), bt_append, s1, if_neg (by omega), show 2 * j - 2 * j = 0 by omega, (bt_two n h0 h1).1]
  have e1 : bt (turnV t j n) (2 * j + 1) = n % 256 := by
    unfold turnV
    rw [bt_append, s2, if_pos (by omega), bt_append, s1, if_neg (by omega), show 2 * j + 1 - 2 * j = 1 by omega, (bt_two n h0 h1).2]
  unfold wordN
  rw [e0, e1]
  omega
end

theorem add1_mod (a b : Int) : ∃ z, add1 a b = a + b + 65535 * z := by
  unfold add1; split
  · exact ⟨-1, by omega⟩
  · exact ⟨0, by omega⟩

/-- Sums that differ in one word differ by it, but for turns of 65535. -/
theorem sumN_turn {f g : Nat → Int} {j : Nat} (h : ∀ i, (i < 2 * j ∨ 2 * j + 2 ≤ i) → f i = g i) : ∀ k, j < k → ∃ z, sumN g k = sumN f k - wordN f (2 * j) + wordN g (2 * j) + 65535 * z
  | 0, h0 => by omega
  | k + 1, hk => by
    obtain ⟨z1, e1⟩ := add1_mod (sumN f k) (wordN f (2 * k))
    obtain ⟨z2, e2⟩ := add1_mod (sumN g k) (wordN g (2 * k))
    unfold sumN
    by_cases hjk : j = k
    · subst hjk
      have := sumN_congr (f := f) (g := g) j (fun i hi => h i (.inl hi))
      exact ⟨z2 - z1, by rw [e1, e2]; omega⟩
    · obtain ⟨z, e⟩ := sumN_turn h k (by omega)
      have e3 : wordN f (2 * k) = wordN g (2 * k) := by unfold wordN; rw [h _ (.inr (by omega)), h _ (.inr (by omega))]
      exact ⟨z2 - z1 + z, by rw [e1, e2]; omega⟩

theorem add1_full (s : Int) : add1 s (65535 - s) = 65535 := by unfold add1; rw [if_neg (by omega)]; omega

/-- A check that is turned with a word is right again, unless all is 0. -/
theorem turn_right {t : ByteArray} {j K : Nat} {n : Int} (ht : t.size = 2 * K) (hj : j < K) (h0 : 0 ≤ n) (h1 : n ≤ 65535) (hz : sumV (turnV t j n) ≠ 0) :
    sumV (turnV t j n ++ twoV (65535 - add1 (add1 (sumV t) (65535 - wordN (bt t) (2 * j))) n)) = 65535 := by
  have rs := sumV_range t
  have rw1 := wordN_range (bt_isByte t) (2 * j)
  have ra := add1_range rs.1 rs.2 (show 0 ≤ 65535 - wordN (bt t) (2 * j) by omega) (by omega)
  have rb := add1_range ra.1 ra.2 h0 h1
  rw [sumV_check _ _ K (turn_size ht hj) (by omega) (by omega)]
  have ru := sumV_range (turnV t j n)
  obtain ⟨z, e⟩ := sumN_turn (f := bt t) (g := bt (turnV t j n)) (j := j) (fun i hi => (turn_other ht hj i hi).symm) K hj
  rw [turn_word ht hj h0 h1] at e
  have e1 : sumV (turnV t j n) = sumN (bt (turnV t j n)) K := by unfold sumV; rw [turn_size ht hj, show (2 * K + 1) / 2 = K by omega]
  have e2 : sumV t = sumN (bt t) K := by unfold sumV; rw [ht, show (2 * K + 1) / 2 = K by omega]
  obtain ⟨z1, a1⟩ := add1_mod (sumV t) (65535 - wordN (bt t) (2 * j))
  obtain ⟨z2, a2⟩ := add1_mod (add1 (sumV t) (65535 - wordN (bt t) (2 * j))) n
  rw [← e1, ← e2] at e
  generalize sumV (turnV t j n) = U at *
  generalize sumV t = S at *
  generalize wordN (bt t) (2 * j) = W at *
  generalize add1 (add1 S (65535 - W)) n = C at *
  generalize add1 S (65535 - W) = D at *
  have hC : U + (65535 - C) = 65535 * (z - z1 - z2) := by omega
  unfold add1
  split <;> omega

end Go.Proofs.Ytkakehchiadpbal

/- Pkt: packets, as plain functions: when they are right, their bytes, what is read of a text; nothing of the program. -/
namespace Go.Proofs.Ytkakehchiadpbal
open Go.RowKit Go.PlainAid
set_option linter.unusedVariables false
set_option linter.unusedSimpArgs false

/-- A packet of IPv4. -/
structure P4 where
  tos : Int
  id : Int
  whole : Bool
  more : Bool
  off : Int
  ttl : Int
  proto : Int
  src : ByteArray
  dst : ByteArray
  opts : ByteArray
  data : ByteArray
/-- A packet of IPv6. -/
structure P6 where
  cls : Int
  flow : Int
  next : Int
  hops : Int
  src : ByteArray
  dst : ByteArray
  piece : Bool
  more : Bool
  off : Int
  id : Int
  data : ByteArray

def p4C (p : P4) : Value := .agg #[.int .i64 p.tos, .int .i64 p.id, .bool p.whole, .bool p.more, .int .i64 p.off, .int .i64 p.ttl, .int .i64 p.proto, .string p.src, .string p.dst, .string p.opts, .string p.data]
def p6C (p : P6) : Value := .agg #[.int .i64 p.cls, .int .i64 p.flow, .int .i64 p.next, .int .i64 p.hops, .string p.src, .string p.dst, .bool p.piece, .bool p.more, .int .i64 p.off, .int .i64 p.id, .string p.data]
/-- A packet and a code. -/
def p4CO (p : P4) (code : Int) : Value := .agg #[.int .i64 p.tos, .int .i64 p.id, .bool p.whole, .bool p.more, .int .i64 p.off, .int .i64 p.ttl, .int .i64 p.proto, .string p.src, .string p.dst, .string p.opts, .string p.data, .int .i64 code]
def p6CO (p : P6) (code : Int) : Value := .agg #[.int .i64 p.cls, .int .i64 p.flow, .int .i64 p.next, .int .i64 p.hops, .string p.src, .string p.dst, .bool p.piece, .bool p.more, .int .i64 p.off, .int .i64 p.id, .string p.data, .int .i64 code]

def isIn (n lo hi : Int) : Bool := decide (lo ≤ n) && decide (n ≤ hi)
theorem isIn_parts {n lo hi : Int} (h : isIn n lo hi = true) : lo ≤ n ∧ n ≤ hi := by simpa [isIn] using h
theorem isIn_no {n lo hi : Int} (h : isIn n lo hi = false) : ¬ (lo ≤ n ∧ n ≤ hi) := fun hh => by simp [isIn, hh.1, hh.2] at h

/-- The first test of a packet of IPv4. -/
def v4A (p : P4) : Bool := isIn p.tos 0 255 && isIn p.ttl 0 255 && isIn p.proto 0 255 && isIn p.id 0 65535 && isIn p.off 0 8191 && decide (p.src.size = 4) && decide (p.dst.size = 4)
/-- The second. -/
def v4B (p : P4) : Bool := decide (p.opts.size ≤ 40) && decide (p.opts.size % 4 = 0) && decide (p.data.size ≤ 1400) && !(p.more && !decide (p.data.size % 8 = 0)) && decide (8 * p.off + p.data.size ≤ 65515)
def v4C (p : P4) : Bool := !p.whole || (!p.more && decide (p.off = 0))
def v4Ok (p : P4) : Bool := v4A p && v4B p && v4C p

def v6A (p : P6) : Bool := isIn p.cls 0 255 && isIn p.next 0 255 && isIn p.hops 0 255 && isIn p.flow 0 1048575 && decide (p.src.size = 16) && decide (p.dst.size = 16) && decide (p.data.size ≤ 1400) && !decide (p.next = 44)
def v6B (p : P6) : Bool := if p.piece then isIn p.off 0 8191 && isIn p.id 0 4294967295 && (!p.more || decide (p.data.size % 8 = 0)) && decide (8 * p.off + p.data.size ≤ 65535) else !p.more && decide (p.off = 0) && decide (p.id = 0)
def v6Ok (p : P6) : Bool := v6A p && v6B p

theorem v4A_parts {p : P4} (h : v4A p = true) : (0 ≤ p.tos ∧ p.tos ≤ 255) ∧ (0 ≤ p.ttl ∧ p.ttl ≤ 255) ∧ (0 ≤ p.proto ∧ p.proto ≤ 255) ∧ (0 ≤ p.id ∧ p.id ≤ 65535) ∧ (0 ≤ p.off ∧ p.off ≤ 8191) ∧ p.src.size = 4 ∧ p.dst.size = 4 := by
  unfold v4A at h
  simp only [Bool.and_eq_true, decide_eq_true_iff] at h
  obtain ⟨⟨⟨⟨⟨⟨h1, h2⟩, h3⟩, h4⟩, h5⟩, h6⟩, h7⟩ := h
  exact ⟨isIn_parts h1, isIn_parts h2, isIn_parts h3, isIn_parts h4, isIn_parts h5, h6, h7⟩
theorem v4B_parts {p : P4} (h : v4B p = true) : p.opts.size ≤ 40 ∧ p.opts.size % 4 = 0 ∧ p.data.size ≤ 1400 ∧ (p.more = true → p.data.size % 8 = 0) ∧ 8 * p.off + p.data.size ≤ 65515 := by
  unfold v4B at h
  simp only [Bool.and_eq_true, Bool.not_eq_true', decide_eq_true_iff] at h
  obtain ⟨⟨⟨⟨h1, h2⟩, h3⟩, h4⟩, h5⟩ := h
  refine ⟨h1, h2, h3, fun hm => ?_, h5⟩
  rw [hm, Bool.true_and, Bool.not_eq_false', decide_eq_true_iff] at h4
  exact h4

/-- Two bytes. -/
def pairV (x y : Int) : ByteArray := ⟨#[UInt8.ofNat x.toNat, UInt8.ofNat y.toNat]⟩
theorem pairV_size (x y : Int) : (pairV x y).size = 2 := rfl
theorem pairV_bt (x y : Int) (hx : 0 ≤ x ∧ x ≤ 255) (hy : 0 ≤ y ∧ y ≤ 255) : bt (pairV x y) 0 = x ∧ bt (pairV x y) 1 = y := by
  constructor
  · exact u8_ofNat x hx.1 hx.2
  · exact u8_ofNat y hy.1 hy.2

/-- The number with Off and the two bits ahead of it. -/
def offV (p : P4) : Int := p.off + (if p.whole then 16384 else 0) + (if p.more then 8192 else 0)
def hlen (p : P4) : Int := 20 + p.opts.size
/-- The bytes ahead of the check, and those behind it. -/
def headA (p : P4) : ByteArray := pairV (64 + hlen p / 4) p.tos ++ twoV (hlen p + p.data.size) ++ twoV p.id ++ twoV (offV p) ++ pairV p.ttl p.proto
def headB (p : P4) : ByteArray := p.src ++ p.dst ++ p.opts
def v4Raw (p : P4) : ByteArray := headA p ++ twoV (65535 - sumV (headA p ++ headB p)) ++ headB p ++ p.data
/-- The bytes of a packet of IPv4. -/
def v4BytesV (p : P4) : ByteArray := if v4Ok p then v4Raw p else ⟨#[]⟩

/-- The first four bytes of a packet of IPv6, as a number. -/
def firstN (p : P6) : Int := 6 * 268435456 + p.cls * 1048576 + p.flow
def restV (p : P6) : ByteArray := if p.piece then pairV p.next 0 ++ twoV (8 * p.off + if p.more then 1 else 0) ++ twoV (p.id / 65536) ++ twoV (p.id % 65536) ++ p.data else p.data
def v6Raw (p : P6) : ByteArray := twoV (firstN p / 65536) ++ twoV (firstN p % 65536) ++ twoV (restV p).size ++ pairV (if p.piece then 44 else p.next) p.hops ++ p.src ++ p.dst ++ restV p
def v6BytesV (p : P6) : ByteArray := if v6Ok p then v6Raw p else ⟨#[]⟩

def p4Zero : P4 := ⟨0, 0, false, false, 0, 0, 0, ⟨#[]⟩, ⟨#[]⟩, ⟨#[]⟩, ⟨#[]⟩⟩
def p6Zero : P6 := ⟨0, 0, 0, 0, ⟨#[]⟩, ⟨#[]⟩, false, false, 0, 0, ⟨#[]⟩⟩

/-- What is read of a text as a packet of IPv4: the packet that it would be. -/
def v4Cut (t : ByteArray) : P4 :=
  let h := 4 * (bt t 0 % 16).toNat
  let all := (wordN (bt t) 2).toNat
  let off := wordN (bt t) 6
  ⟨bt t 1, wordN (bt t) 4, decide (off / 16384 % 2 = 1), decide (off / 8192 % 2 = 1), off % 8192, bt t 8, bt t 9, t.extract 12 16, t.extract 16 20, t.extract 20 h, t.extract h all⟩
/-- The code of a text that is read as a packet of IPv4. -/
def v4CodeV (t : ByteArray) : Int :=
  if 20000 < t.size then 2
  else if t.size < 20 then 4
  else if bt t 0 / 16 ≠ 4 ∨ 4 * (bt t 0 % 16) < 20 ∨ wordN (bt t) 2 < 4 * (bt t 0 % 16) ∨ 32768 ≤ wordN (bt t) 6 then 3
  else if (t.size : Int) < wordN (bt t) 2 then 4
  else if sumV (t.extract 0 (4 * (bt t 0 % 16).toNat)) ≠ 65535 then 5
  else if v4Ok (v4Cut t) then 0 else 1
def v4ReadV (t : ByteArray) : P4 := if v4CodeV t = 0 then v4Cut t else p4Zero

/-- What is read of a text as a packet of IPv6. -/
def v6Cut (t : ByteArray) : P6 :=
  let n := (wordN (bt t) 4).toNat
  let first := wordN (bt t) 0 * 65536 + wordN (bt t) 2
  if bt t 6 = 44 then ⟨first / 1048576 % 256, first % 1048576, bt t 40, bt t 7, t.extract 8 24, t.extract 24 40, true, decide (bt t 43 % 2 = 1), wordN (bt t) 42 / 8, wordN (bt t) 44 * 65536 + wordN (bt t) 46, t.extract 48 (40 + n)⟩
  else ⟨first / 1048576 % 256, first % 1048576, bt t 6, bt t 7, t.extract 8 24, t.extract 24 40, false, false, 0, 0, t.extract 40 (40 + n)⟩
def v6CodeV (t : ByteArray) : Int :=
  if 20000 < t.size then 2
  else if t.size < 40 then 4
  else if bt t 0 / 16 ≠ 6 then 3
  else if (t.size : Int) < 40 + wordN (bt t) 4 ∨ (bt t 6 = 44 ∧ wordN (bt t) 4 < 8) then 4
  else if v6Ok (v6Cut t) then 0 else 1
def v6ReadV (t : ByteArray) : P6 := if v6CodeV t = 0 then v6Cut t else p6Zero

end Go.Proofs.Ytkakehchiadpbal
