/- OwnS, Math, Words, Sums, Two, in one text. -/
import Derived.Test.YtilnnihongokealGreatDoorMerged1
import Derived.OwnWalk
import Derived.WalkKit
import Derived.PlainAid
import Derived.Laws.BitsLemmas
import Derived.Laws.Bits64
import Derived.Test.YtilnnihongokealGreatDoorChecked
import Derived.WalkLawsBesides
import Derived.RegionTactic
import Derived.ChangeAlike
import Derived.Laws.IdiomStrings

/- OwnS: rows of structs that grow by append; nothing of the program. -/
namespace Go.Proofs.YtilnnihongokealGreatDoor
open Go.RowKit
set_option linter.unusedVariables false
set_option linter.unusedSimpArgs false

theorem below_grown {n : Nat} {w w1 W : World} {B : Nat} (h : Below n w w1) (hg : w1.grownBy W (some B)) (hB : n ≤ B) (hn : n ≤ w1.heap.size := by omega) : Below n w W :=
 ⟨hg.os.trans h.os, hg.tape.trans h.tape, hg.output.trans h.output, Nat.le_trans h.size hg.size, fun k hk => by rw [hg.block k (by omega) (by simp; omega), h.block k hk]⟩

section
variable {α : Type} (en : α → List Value) (n : Nat)
def flatS (xs : List α) : List Value := xs.flatMap en
/-- A slice of its own, from block base on. -/
def SlOwn (base : Nat) (w : World) (a : Option Addr) (xs : List α) : Prop := xs = [] ∨ ∃ g, a = some ⟨g, 0, none⟩ ∧ base ≤ g ∧ SlLaid en n w g xs xs.length xs.length
/-- A slice of its own is told. -/
def SlRet (w : World) (ys : List α) : Ending → World → Prop := fun e w' => ∃ a cap, e = .returned (.slice a ys.length cap) ∧ ys.length ≤ cap ∧ SlOwn en n w.heap.size w' a ys ∧ Below w.heap.size w w'
/-- A slice of its own that is marked. -/
def MkOwn (em : Nat → List Value) (base : Nat) (w : World) (a : Option Addr) (k L : Nat) : Prop := L = 0 ∨ ∃ g, a = some ⟨g, 0, none⟩ ∧ base ≤ g ∧ SlLaid em n w g ((List.range L).map fun i => k + n * i) L L
/-- A row that grows, and nothing below base has changed. -/
structure Row (base : Nat) (e : TypeId) (v : Value) (xs : List α) (w0 w : World) : Prop where
 own : w.ownsRow base e n v xs.length (flatS en xs)
 bel : Below base w0 w
end

section
variable {α : Type} {en : α → List Value} {n : Nat} {w w0 W : World} {base : Nat} {e : TypeId} {v : Value} {xs : List α}
theorem flatS_length (hn : ∀ x, (en x).length = n) : ∀ xs : List α, (flatS en xs).length = xs.length * n
 | [] => by simp [flatS]
 | x :: xs => by
  have := flatS_length hn xs
  unfold flatS at *
  rw [List.flatMap_cons, List.length_append, this, hn, List.length_cons, Nat.succ_mul]; omega
theorem flatS_snoc (xs : List α) (q : α) : flatS en (xs ++ [q]) = flatS en xs ++ en q := by
 unfold flatS; rw [List.flatMap_append]; simp
theorem flatS_get (hn : ∀ x, (en x).length = n) : ∀ (xs : List α) (i : Nat) (h : i < xs.length) (j : Nat) (u : Value), (en xs[i])[j]? = some u → (flatS en xs)[i * n + j]? = some u
 | [], i, h, _, _, _ => by simp at h
 | x :: xs, 0, h, j, u, hu => by
  have hj := (List.getElem?_eq_some_iff.1 hu).1
  unfold flatS
  rw [List.flatMap_cons, Nat.zero_mul, Nat.zero_add, List.getElem?_append_left (by simpa using hj)]
  simpa using hu
 | x :: xs, i + 1, h, j, u, hu => by
  have := flatS_get hn xs i (by simpa using h) j u (by simpa using hu)
  unfold flatS at *
  rw [List.flatMap_cons, List.getElem?_append_right (by rw [hn, Nat.succ_mul]; omega), hn]
  rw [show (i + 1) * n + j - n = i * n + j by rw [Nat.succ_mul]; omega]
  exact this
theorem flatS_cells (hn : ∀ x, (en x).length = n) (hn0 : 0 < n) {b off : Nat} (h : SlAt en n w b off xs) (j : Nat) (u : Value) (hu : (flatS en xs)[j]? = some u) : w.cell? ⟨b, off + j, none⟩ = some u := by
 have hj := (List.getElem?_eq_some_iff.1 hu).1
 rw [flatS_length hn] at hj
 have hi : j / n < xs.length := (Nat.div_lt_iff_lt_mul hn0).2 hj
 have hr : j % n < (en xs[j / n]).length := by rw [hn]; exact Nat.mod_lt _ hn0
 have h1 := flatS_get hn xs (j / n) hi (j % n) _ (List.getElem?_eq_getElem hr)
 have e : j / n * n + j % n = j := by rw [Nat.mul_comm]; exact Nat.div_add_mod j n
 rw [e, hu] at h1
 have h2 := h (j / n) hi (j % n) _ (List.getElem?_eq_getElem hr)
 rw [Nat.add_assoc, e] at h2
 rw [h2, h1]
theorem Row.kept (h : Row en n base e v xs w0 w) (hb : Below w.heap.size w W) (hl : base ≤ w.heap.size) : Row en n base e v xs w0 W :=
 ⟨h.own.kept (grown_of_below (r := none) hb) (by cases v.ownBlock <;> simp), h.bel.trans (hb.mono hl)⟩
theorem Row.append (h : Row en n base e v xs w0 w) {o : Obj} {q : α} {v' : Value} (hl : base ≤ w.heap.size) (hown : W.ownsRow base e n v' (xs.length + 1) (flatS en xs ++ en q)) (hgrow : (w.alloc o).grownBy W v.ownBlock) : Row en n base e v' (xs ++ [q]) w0 W := by
 have hlo : ∀ k, v.ownBlock = some k → base ≤ k := fun k hk => (h.own.lt k hk).1
 refine ⟨by rw [flatS_snoc]; simpa using hown, ?_⟩
 have h1 : Below base w0 (w.alloc o) := h.bel.alloc hl o
 refine ⟨hgrow.os.trans h1.os, hgrow.tape.trans h1.tape, hgrow.output.trans h1.output, Nat.le_trans h1.size hgrow.size, fun k hk => ?_⟩
 rw [hgrow.block k (Nat.lt_of_lt_of_le hk (Nat.le_trans hl (by simp))) (fun e2 => by have := hlo k e2.symm; omega), h1.block k hk]
/-- A row from a later block on is one from an earlier one on. -/
theorem Row.down (h : Row en n base e v xs w W) {b0 : Nat} (hb : Below b0 w0 w) (hle : b0 ≤ base) : Row en n b0 e v xs w0 W := by
 refine ⟨⟨h.own.1, ?_⟩, hb.trans (h.bel.mono hle)⟩
 rcases h.own.2 with h1 | ⟨g, cap, cur, h1, h2, h3⟩
 ·exact .inl h1
 ·exact .inr ⟨g, cap, cur, h1, Nat.le_trans hle h2, h3⟩
theorem Row.laid (hn : ∀ x, (en x).length = n) {g cap : Nat} (h : w.ownsRow base e n (.slice (some ⟨g, 0, none⟩) xs.length cap) xs.length (flatS en xs)) : SlLaid en n w g xs xs.length xs.length := by
 have hs : SlLaid en n w g xs xs.length 0 := SlLaid.start h
 refine ⟨hs.blk, fun i hi _ j u hu => ?_, hs.there, hs.free⟩
 have hj : j < n := by have := (List.getElem?_eq_some_iff.1 hu).1; rwa [hn] at this
 have hb : i * n + j < xs.length * n := by have := Nat.mul_le_mul_right n (show i + 1 ≤ xs.length from hi); rw [Nat.succ_mul] at this; omega
 rw [h.cellAt _ hb]
 exact flatS_get hn xs i hi j u hu
theorem Row.shape (hn : ∀ x, (en x).length = n) (h : Row en n base e v xs w0 w) : ∃ a cap, v = .slice a xs.length cap ∧ xs.length ≤ cap ∧ SlOwn en n base w a xs := by
 rcases h.own.2 with ⟨h1, h2⟩ | ⟨g, cap, cur, h1, hb, hg, hc, _⟩
 ·have hx : xs.length = 0 := by simpa using h2
  exact ⟨none, 0, by rw [h1, hx], by omega, .inl (List.length_eq_zero_iff.1 hx)⟩
 ·refine ⟨some ⟨g, 0, none⟩, cap, h1, hc, .inr ⟨g, rfl, hb, ?_⟩⟩
  have := h.own
  rw [h1] at this
  exact Row.laid hn this
theorem SlRet.nil {cap : Nat} {a : Option Addr} {v : Value} (hv : v = .slice a 0 cap) (h : Below w.heap.size w W) : SlRet en n w [] (.returned v) W := ⟨a, cap, by rw [hv]; rfl, Nat.zero_le _, .inl rfl, h⟩
theorem SlRet.row (hn : ∀ x, (en x).length = n) (h : Row en n w.heap.size e v xs w W) : SlRet en n w xs (.returned v) W := by
 obtain ⟨a, cap, h1, h2, h3⟩ := h.shape hn
 exact ⟨a, cap, by rw [h1], h2, h3, h.bel⟩
theorem SlOwn.is {a : Option Addr} (h : SlOwn en n base w a xs) : SlIs en n w a xs := by
 rcases h with h | ⟨g, rfl, _, h⟩
 ·exact .inl h
 ·exact h.is
theorem SlOwn.grown {a : Option Addr} (h : SlOwn en n base w a xs) {B : Nat} (hg : w.grownBy W (some B)) (hB : B < base) : SlOwn en n base W a xs := by
 rcases h with h | ⟨g, rfl, h1, h⟩
 ·exact .inl h
 ·refine .inr ⟨g, rfl, h1, ?_⟩
  have hb := hg.block g h.blk (by simp; omega)
  have hc : ∀ o, W.cell? ⟨g, o, none⟩ = w.cell? ⟨g, o, none⟩ := fun o => by unfold World.cell?; rw [show (⟨g, o, none⟩ : Addr).block = g from rfl, hb]
  have hf : ∀ o, W.frozen? ⟨g, o, none⟩ = w.frozen? ⟨g, o, none⟩ := fun o => World.frozen?_of_block (a := ⟨g, o, none⟩) hb
  exact ⟨Nat.lt_of_lt_of_le h.blk hg.size, fun i hi hk j u hu => (hc _).trans (h.at0 i hi hk j u hu), fun i hi => by rw [hc]; exact h.there i hi, fun i hi => by rw [hf]; exact h.free i hi⟩
theorem MkOwn.kept {em : Nat → List Value} {a : Option Addr} {k L : Nat} (h : MkOwn n em base w a k L) (hb : Below w.heap.size w W) : MkOwn n em base W a k L := by
 rcases h with h | ⟨g, rfl, h1, h⟩
 ·exact .inl h
 ·exact .inr ⟨g, rfl, h1, h.kept hb⟩
theorem SlOwn.down {a : Option Addr} (h : SlOwn en n base w a xs) {b0 : Nat} (hb : b0 ≤ base) : SlOwn en n b0 w a xs := by
 rcases h with h | ⟨g, rfl, h1, h⟩
 ·exact .inl h
 ·exact .inr ⟨g, rfl, Nat.le_trans hb h1, h⟩
theorem SlOwn.kept {a : Option Addr} (h : SlOwn en n base w a xs) (hb : Below w.heap.size w W) : SlOwn en n base W a xs := by
 rcases h with h | ⟨g, rfl, h1, h⟩
 ·exact .inl h
 ·exact .inr ⟨g, rfl, h1, h.kept hb⟩
end
end Go.Proofs.YtilnnihongokealGreatDoor

/- Plain mathematics of chapter 2: words and one's complement sums over integers and bytes; nothing of the program. -/
namespace Go.Proofs.YtilnnihongokealGreatDoor
open Go.PlainAid

/-- Two words, added so that what leaves 16 bits is added at the low end again. -/
def add1 (a b : Int) : Int := if 65535 < a + b then a + b - 65535 else a + b

theorem add1_range {a b : Int} (ha : 0 ≤ a) (ha' : a ≤ 65535) (hb : 0 ≤ b) (hb' : b ≤ 65535) : 0 ≤ add1 a b ∧ add1 a b ≤ 65535 := by
 unfold add1; split <;> omega

theorem wraps_i64 (n : Int) (h0 : 0 ≤ n) (h1 : n < 2 ^ 63) : IntKind.i64.wrap n = n := by rw [IntKind.wrap_i64]; omega

theorem join_word (a b : Int) (ha : 0 ≤ a) (ha' : a ≤ 255) (hb : 0 ≤ b) (hb' : b ≤ 255) : bits .or .i64 (a * 256) b = a * 256 + b :=
 bits_join .i64 63 (by decide) wraps_i64 8 (a * 256) b (by omega) (by omega) (by omega) hb (by omega) (by omega)

theorem and_65535 (n : Int) : bits .and .i64 n 65535 = n % 65536 := by
 have h127 : (BitVec.ofInt 64 65535).toNat = 2 ^ 16 - 1 := by decide
 have key : (BitVec.ofInt 64 n &&& BitVec.ofInt 64 65535).toNat = (n % ((2 ^ 64 : Nat) : Int)).toNat % 2 ^ 16 := by
  rw [BitVec.toNat_and, BitVec.toNat_ofInt, h127, Nat.and_two_pow_sub_one_eq_mod]
 show IntKind.i64.wrap ((BitVec.ofInt 64 n &&& BitVec.ofInt 64 65535).toNat : Nat) = n % 65536
 rw [key, IntKind.wrap_i64]
 omega

/-- The turn of a sum of two words back into 16 bits. -/
theorem fold_add (a b : Int) (ha : 0 ≤ a) (ha' : a ≤ 65535) (hb : 0 ≤ b) (hb' : b ≤ 65535) : (a + b) % 65536 + (a + b) / 65536 = add1 a b := by
 unfold add1; split <;> omega

/-- The word at a place of a list of bytes: a byte that is not there is 0. -/
def wordN (f : Nat → Int) (i : Nat) : Int := f i * 256 + f (i + 1)

/-- The sum of the first k words. -/
def sumN (f : Nat → Int) : Nat → Int
 | 0 => 0
 | k + 1 => add1 (sumN f k) (wordN f (2 * k))

def isByte (f : Nat → Int) : Prop := ∀ i, 0 ≤ f i ∧ f i ≤ 255

theorem wordN_range {f : Nat → Int} (h : isByte f) (i : Nat) : 0 ≤ wordN f i ∧ wordN f i ≤ 65535 := by
 have h1 := h i; have h2 := h (i + 1); unfold wordN; omega

theorem sumN_range {f : Nat → Int} (h : isByte f) (k : Nat) : 0 ≤ sumN f k ∧ sumN f k ≤ 65535 := by
 induction k with
 | zero => simp [sumN]
 | succ k ih => have := wordN_range h (2 * k); exact add1_range ih.1 ih.2 this.1 this.2

theorem bt_isByte (s : ByteArray) : isByte (bt s) := fun i => ⟨bt_nonneg s i, bt_le s i⟩

end Go.Proofs.YtilnnihongokealGreatDoor

/- What the words of chapter 2 answer, in the program and in its specification: one contract a function, over strings. -/
namespace Go.Proofs.YtilnnihongokealGreatDoor
open Go.RowKit Go.PlainAid





/-- The word from place k of a string on whose first byte is there: a byte 0 for the lower one that it lacks. -/
theorem wordFromS_any (s : ByteArray) (k : Nat) (w : World) (hk : k < s.size) (hs : s.size ≤ maxLen) :
  Calls Tryz.prog 119 #[.string s, .int .i64 k] w fun e w' => e = .returned (.int .i64 (wordN (bt s) k)) ∧ w' = w := by
 unfold maxLen at hs
 have hb := get_bt s
 have b1 := bt_isByte s k
 have b2 := bt_isByte s (k + 1)
 have hj := join_word (bt s k) (bt s (k + 1)) b1.1 b1.2 b2.1 b2.2
 by_cases h : k + 1 < s.size
 ·go_enter Tryz.func119, Tryz.ntmps119
  go_wp2
  go_ret
  exact ⟨ret_int rfl, rfl⟩
 ·have h2 : ¬ (k : Int) + 1 < s.size := by omega
  have HE : Hid (bt s (k + 1) = 0) := bt_end s (by omega)
  go_enter Tryz.func119, Tryz.ntmps119
  go_wp2
  go_ret
  exact ⟨ret_int (by unfold wordN; rw [HE.out]; omega), rfl⟩

end Go.Proofs.YtilnnihongokealGreatDoor

/- What the sums of chapter 2 answer over a string, in the program and in its specification: one contract a function. -/
namespace Go.Proofs.YtilnnihongokealGreatDoor
open Go.RowKit Go.PlainAid

/-- Two words, added in the specification. -/
theorem specAdd_any (a b : Int) (w : World) (ha : 0 ≤ a) (ha' : a ≤ 65535) (hb : 0 ≤ b) (hb' : b ≤ 65535) :
  Calls Tryz.prog 122 #[.int .i64 a, .int .i64 b] w fun e w' => e = .returned (.int .i64 (add1 a b)) ∧ w' = w := by
 by_cases h : 65535 < a + b
 ·have HV : Hid (add1 a b = a + b - 65535) := by unfold Hid add1; rw [if_pos h]
  go_enter Tryz.func122, Tryz.ntmps122
  go_wp2
  go_ret
  exact ⟨ret_int HV.out.symm, rfl⟩
 ·have HV : Hid (add1 a b = a + b) := by unfold Hid add1; rw [if_neg h]
  go_enter Tryz.func122, Tryz.ntmps122
  go_wp2
  go_ret
  exact ⟨ret_int HV.out.symm, rfl⟩

/-- The sum of a text: its words, added so. -/
def sumV (s : ByteArray) : Int := sumN (bt s) ((s.size + 1) / 2)

theorem sumV_range (s : ByteArray) : 0 ≤ sumV s ∧ sumV s ≤ 65535 := sumN_range (bt_isByte s) _

set_option maxHeartbeats 800000 in
theorem specSum1_any (s : ByteArray) (w : World) (hs : s.size ≤ 1048578) :
  Calls Tryz.prog 114 #[.string s] w fun e w' => e = .returned (.int .i64 (sumV s)) ∧ w' = w := by
 have hb := get_bt s
 go_enter Tryz.func114, Tryz.ntmps114
 go_wp2
 go_loop [3, 4] (fun n i => ∃ k : Nat, 2 * k ≤ s.size + 1 ∧ i = .int .i64 (2 * (k : Int)) ∧ n = .int .i64 (sumN (bt s) k)) (fun _ i => s.size + 2 - (intOf i).toNat)
 case atStart => exact ⟨0, Nat.zero_le _, rfl, rfl⟩
 case round =>
  obtain ⟨k, hk, rfl, rfl⟩ := hrel
  have hr := sumN_range (bt_isByte s) k
  have hq := wordN_range (bt_isByte s) (2 * k)
  have HW : Hid (wordN (bt s) (2 * k) = bt s (2 * k) * 256 + bt s (2 * k + 1)) := rfl
  have HN : Hid (sumN (bt s) (k + 1) = add1 (sumN (bt s) k) (wordN (bt s) (2 * k))) := rfl
  have b1 := bt_isByte s (2 * k)
  have b2 := bt_isByte s (2 * k + 1)
  have hj := join_word (bt s (2 * k)) (bt s (2 * k + 1)) b1.1 b1.2 b2.1 b2.2
  by_cases hlt : 2 * k < s.size
  ·by_cases h2 : 2 * k + 1 < s.size
   ·go_wp2_with (go_at_call 122; refine (specAdd_any _ _ _ hr.1 hr.2 (by omega) (by omega)).mono ?_; rintro e w' ⟨rfl, rfl⟩)
    go_round
    case rel => exact ⟨k + 1, by omega, by go_num, by rw [HN.out, HW.out]⟩
    case measure => simp [intOf]; omega
   ·have HE : Hid (bt s (2 * k + 1) = 0) := bt_end s (by omega)
    go_wp2_with (go_at_call 122; refine (specAdd_any _ _ _ hr.1 hr.2 (by omega) (by omega)).mono ?_; rintro e w' ⟨rfl, rfl⟩)
    go_round
    case rel => exact ⟨k + 1, by omega, by go_num, by rw [HN.out, HW.out, HE.out, Int.add_zero]⟩
    case measure => simp [intOf]; omega
  ·go_wp2
   go_ret
   exact ⟨ret_int (by unfold sumV; rw [show (s.size + 1) / 2 = k by omega]), rfl⟩

set_option maxHeartbeats 800000 in
theorem sumOfS_any (s : ByteArray) (w : World) (hs : s.size ≤ 1048578) :
  Calls Tryz.prog 110 #[.string s] w fun e w' => e = .returned (.int .i64 (sumV s)) ∧ w' = w := by
 have hs' : s.size ≤ maxLen := by unfold maxLen; omega
 go_enter Tryz.func110, Tryz.ntmps110
 go_wp2
 go_loop [3, 9] (fun n i => ∃ k : Nat, k ≤ (s.size + 1) / 2 ∧ i = .int .i64 k ∧ n = .int .i64 (sumN (bt s) k)) (fun _ i => (s.size + 1) / 2 - (intOf i).toNat)
 case atStart => exact ⟨0, Nat.zero_le _, rfl, rfl⟩
 case round =>
  obtain ⟨k, hk, rfl, rfl⟩ := hrel
  have hr := sumN_range (bt_isByte s) k
  have hq := wordN_range (bt_isByte s) (2 * k)
  have HN : Hid (sumN (bt s) (k + 1) = add1 (sumN (bt s) k) (wordN (bt s) (2 * k))) := rfl
  have HF : Hid _ := fold_add (sumN (bt s) k) (wordN (bt s) (2 * k)) hr.1 hr.2 hq.1 hq.2
  have ha := and_65535 (sumN (bt s) k + wordN (bt s) (2 * k))
  by_cases hlt : k < (s.size + 1) / 2
  ·have h2 : 2 * k < s.size := by omega
   go_wp2_with (go_at_call 119; refine (wordFromS_any s (2 * k) _ h2 hs').mono ?_; rintro e w' ⟨rfl, rfl⟩)
   go_round
   case rel => exact ⟨k + 1, by omega, by go_num, by rw [HN.out, ← HF.out]⟩
   case measure => simp [intOf]; omega
  ·go_wp2
   go_ret
   exact ⟨ret_int (by unfold sumV; rw [show (s.size + 1) / 2 = k by omega]), rfl⟩

end Go.Proofs.YtilnnihongokealGreatDoor

/- What the two bytes of a word are, in the program and in its specification, and what lies behind layWords. -/
namespace Go.Proofs.YtilnnihongokealGreatDoor
open Go.RowKit Go.PlainAid

/-- Is a number a word? -/
def isW (n : Int) : Bool := decide (0 ≤ n) && decide (n ≤ 65535)

theorem isW_yes {n : Int} (h0 : 0 ≤ n) (h1 : n ≤ 65535) : isW n = true := by simp [isW, h0, h1]
theorem isW_no {n : Int} (h : ¬ (0 ≤ n ∧ n ≤ 65535)) : isW n = false := by
 rw [Bool.eq_false_iff]; intro hh; simp [isW] at hh; exact h hh

theorem specWordIs_any (n : Int) (w : World) :
  Calls Tryz.prog 57 #[.int .i64 n] w fun e w' => e = .returned (.bool (isW n)) ∧ w' = w := by
 by_cases h0 : 0 ≤ n
 ·by_cases h1 : n ≤ 65535
  ·have HV : Hid (isW n = true) := isW_yes h0 h1
   go_enter Tryz.func57, Tryz.ntmps57
   go_wp2
   go_ret
   exact ⟨ret_bool HV.out.symm, rfl⟩
  ·have HV : Hid (isW n = false) := isW_no (fun h => h1 h.2)
   go_enter Tryz.func57, Tryz.ntmps57
   go_wp2
   go_ret
   exact ⟨ret_bool HV.out.symm, rfl⟩
 ·have HV : Hid (isW n = false) := isW_no (fun h => h0 h.1)
  go_enter Tryz.func57, Tryz.ntmps57
  go_wp2
  go_ret
  exact ⟨ret_bool HV.out.symm, rfl⟩

theorem implWordIs_any (n : Int) (w : World) :
  Calls Tryz.prog 77 #[.int .i64 n] w fun e w' => e = .returned (.bool (isW n)) ∧ w' = w := by
 by_cases h0 : 0 ≤ n
 ·by_cases h1 : n ≤ 65535
  ·have HV : Hid (isW n = true) := isW_yes h0 h1
   go_enter Tryz.func77, Tryz.ntmps77
   go_wp2
   go_ret
   exact ⟨ret_bool HV.out.symm, rfl⟩
  ·have HV : Hid (isW n = false) := isW_no (fun h => h1 h.2)
   go_enter Tryz.func77, Tryz.ntmps77
   go_wp2
   go_ret
   exact ⟨ret_bool HV.out.symm, rfl⟩
 ·have HV : Hid (isW n = false) := isW_no (fun h => h0 h.1)
  go_enter Tryz.func77, Tryz.ntmps77
  go_wp2
  go_ret
  exact ⟨ret_bool HV.out.symm, rfl⟩

end Go.Proofs.YtilnnihongokealGreatDoor
