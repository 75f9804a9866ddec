/- IV4BM, BitMath, in one text. -/
import Derived.Test.YtofenlclefkgdaaMerged2
import Derived.Test.YtofenlclefkgdaaMerged3
import Derived.Test.YtofenlclefkgdaaGrow
import Derived.Test.YtofenlclefkgdaaICur
import Derived.Lib.AppendStr
import Derived.Test.YtofenlclefkgdaaMerged1

/- IV4BM: rows of bytes that a call owns, as texts; the sum of a text with a word of 0 in it; the word with Off. -/
namespace Go.Proofs.Ytofenlclefkgdaa
open Go.RowKit Go.PlainAid Go.Lib
set_option linter.unusedVariables false
set_option linter.unusedSimpArgs false

theorem strCells_append (a b : ByteArray) : strCells (a ++ b) = strCells a ++ strCells b := by
 unfold strCells; rw [ByteArray.data_append]; simp
theorem strCells_two (n : Int) (h0 : 0 ≤ n) (h1 : n ≤ 65535) : strCells (twoV n) = [.int .u8 (n / 256), .int .u8 (n % 256)] := by
 have e1 := u8_ofNat (n / 256) (by omega) (by omega)
 have e2 := u8_ofNat (n % 256) (by omega) (by omega)
 simp only [strCells, twoV, twoL, List.map_cons, List.map_nil, e1, e2]
theorem strCells_pair (x y : Int) (hx : 0 ≤ x ∧ x ≤ 255) (hy : 0 ≤ y ∧ y ≤ 255) : strCells (pairV x y) = [.int .u8 x, .int .u8 y] := by
 have e1 := u8_ofNat x hx.1 hx.2
 have e2 := u8_ofNat y hy.1 hy.2
 simp only [strCells, pairV, List.map_cons, List.map_nil, e1, e2]
theorem strCells_at (s : ByteArray) (i : Nat) (h : i < s.size) : (strCells s)[i]? = some (.int .u8 (bt s i)) := by
 have h' : i < s.data.toList.length := by rw [Array.length_toList]; exact h
 unfold strCells
 rw [List.getElem?_map, List.getElem?_eq_getElem h', Option.map_some, bt_list h']

theorem bt_out {s : ByteArray} {i : Nat} (h : s.size ≤ i) : bt s i = 0 := by unfold bt; rw [dif_neg (by omega)]

/-- The sum of a text into which a word of 0 is put at an even place. -/
theorem sumV_zero (a b : ByteArray) (K : Nat) (ha : a.size = 2 * K) : sumV (a ++ twoV 0 ++ b) = sumV (a ++ b) := by
 have hz : (twoV 0).size = 2 := rfl
 have h0 : bt (twoV 0) 0 = 0 ∧ bt (twoV 0) 1 = 0 := bt_two 0 (by decide) (by decide)
 have f1 : ∀ i, i < 2 * K → bt (a ++ twoV 0 ++ b) i = bt (a ++ b) i := fun i hi => by
  rw [bt_append, bt_append, if_pos (by rw [ByteArray.size_append]; omega), bt_append, if_pos (by omega), if_pos (by omega)]
 have f2 : bt (a ++ twoV 0 ++ b) (2 * K) = 0 ∧ bt (a ++ twoV 0 ++ b) (2 * K + 1) = 0 := by
  constructor
  ·rw [bt_append, if_pos (by rw [ByteArray.size_append]; omega), bt_append, if_neg (by omega), show 2 * K - a.size = 0 by omega]; exact h0.1
  ·rw [bt_append, if_pos (by rw [ByteArray.size_append]; omega), bt_append, if_neg (by omega), show 2 * K + 1 - a.size = 1 by omega]; exact h0.2
 have f3 : ∀ i, 2 * K ≤ i → bt (a ++ twoV 0 ++ b) (i + 2) = bt (a ++ b) i := fun i hi => by
  rw [bt_append, if_neg (by rw [ByteArray.size_append]; omega), bt_append, if_neg (by omega), ByteArray.size_append]
  congr 1; omega
 have key : ∀ j, sumN (bt (a ++ twoV 0 ++ b)) (K + 1 + j) = sumN (bt (a ++ b)) (K + j) := by
  intro j
  induction j with
  | zero =>
   show add1 (sumN _ K) (wordN _ (2 * K)) = _
   rw [sumN_congr K f1]
   unfold wordN
   rw [f2.1, f2.2]
   have := sumN_range (bt_isByte (a ++ b)) K
   unfold add1
   rw [if_neg (by omega)]; simp
  | succ j ih =>
   show add1 (sumN _ (K + 1 + j)) (wordN _ (2 * (K + 1 + j))) = add1 (sumN _ (K + j)) (wordN _ (2 * (K + j)))
   rw [ih]
   unfold wordN
   rw [show 2 * (K + 1 + j) = 2 * (K + j) + 2 by omega, f3 (2 * (K + j)) (by omega), show 2 * (K + j) + 2 + 1 = 2 * (K + j) + 1 + 2 by omega, f3 (2 * (K + j) + 1) (by omega)]
 unfold sumV
 rw [ByteArray.size_append, ByteArray.size_append, ByteArray.size_append, hz, ha]
 have := key ((b.size + 1) / 2)
 rw [show (2 * K + 2 + b.size + 1) / 2 = K + 1 + (b.size + 1) / 2 by omega, show (2 * K + b.size + 1) / 2 = K + (b.size + 1) / 2 by omega]
 exact this

/-- A slice of just these words. -/
def IsWords (ws : List Int) : Value → World → Prop := fun v w => ∃ b, v = .slice (some ⟨b, 0, none⟩) ws.length ws.length ∧ b < w.heap.size ∧ ∀ k, k < ws.length → w.cell? ⟨b, k, none⟩ = some (.int .i64 (ws.getD k 0))
theorem stable_isWords (ws : List Int) : Stable (IsWords ws) := fun v w w' ⟨b, h1, h2, h3⟩ hb => ⟨b, h1, Nat.lt_of_lt_of_le h2 hb.size, fun k hk => ((bcell hb).1 b k h2).trans (h3 k hk)⟩
theorem owns_kept {w W : World} {base e n : Nat} {v : Value} {xs : List Value} (h : w.ownsRow base e 1 v n xs) (hB : Below w.heap.size w W) : W.ownsRow base e 1 v n xs := by
 obtain ⟨h1, h2⟩ := h
 refine ⟨h1, ?_⟩
 rcases h2 with h2 | ⟨g, cap, cur, q1, q2, q3, q4⟩
 ·exact .inl h2
 ·exact .inr ⟨g, cap, cur, q1, q2, by rw [hB.block g (Array.getElem?_eq_some_iff.1 q3).1]; exact q3, q4⟩
theorem owns_base {w : World} {base base' e n : Nat} {v : Value} {xs : List Value} (h : w.ownsRow base e 1 v n xs) (hB : base' ≤ base) : w.ownsRow base' e 1 v n xs := by
 obtain ⟨h1, h2⟩ := h
 refine ⟨h1, ?_⟩
 rcases h2 with h2 | ⟨g, cap, cur, q1, q2, q3, q4⟩
 ·exact .inl h2
 ·exact .inr ⟨g, cap, cur, q1, Nat.le_trans hB q2, q3, q4⟩
/-- A row of so many bytes that the call owns. -/
def IsOwn (base e n : Nat) (xs : List Value) : Value → World → Prop := fun v w => ∃ g, v = .slice (some ⟨g, 0, none⟩) n n ∧ w.ownsRow base e 1 v n xs
theorem stable_isOwn (base e n : Nat) (xs : List Value) : Stable (IsOwn base e n xs) := fun v w w' ⟨g, h1, h2⟩ hb => ⟨g, h1, owns_kept h2 hb⟩

/-- The word of Off and the two bits ahead of it, by bits. -/
theorem or_16384 (n : Int) (h0 : 0 ≤ n) (h1 : n ≤ 8191) : bits .or .i64 n 16384 = n + 16384 := by
 obtain ⟨m, rfl⟩ := Int.eq_ofNat_of_zero_le h0
 have h := (bits_nat .i64 63 (by decide) wraps_i64 m 16384 (by omega) (by omega)).2
 have e : m ||| 16384 = 16384 + m := by
  rw [Nat.or_comm]; exact (Nat.two_pow_add_eq_or_of_lt (i := 14) (b := m) (by omega) 1).symm
 refine h.trans ?_
 rw [e]; omega
theorem or_8192 (n : Int) (h0 : 0 ≤ n) (h1 : n ≤ 8191) : bits .or .i64 n 8192 = n + 8192 := by
 obtain ⟨m, rfl⟩ := Int.eq_ofNat_of_zero_le h0
 have h := (bits_nat .i64 63 (by decide) wraps_i64 m 8192 (by omega) (by omega)).2
 have e : m ||| 8192 = 8192 + m := by
  rw [Nat.or_comm]; exact (Nat.two_pow_add_eq_or_of_lt (i := 13) (b := m) (by omega) 1).symm
 refine h.trans ?_
 rw [e]; omega
theorem or_8192b (n : Int) (h0 : 0 ≤ n) (h1 : n ≤ 8191) : bits .or .i64 (n + 16384) 8192 = n + 16384 + 8192 := by
 obtain ⟨m, rfl⟩ := Int.eq_ofNat_of_zero_le h0
 have h := (bits_nat .i64 63 (by decide) wraps_i64 (m + 16384) 8192 (by omega) (by omega)).2
 have e1 : m + 16384 = 16384 ||| m := by rw [← Nat.two_pow_add_eq_or_of_lt (i := 14) (b := m) (by omega) 1]; omega
 have e2 : m ||| 8192 = 8192 + m := by
  rw [Nat.or_comm]; exact (Nat.two_pow_add_eq_or_of_lt (i := 13) (b := m) (by omega) 1).symm
 have e3 : 16384 ||| (8192 + m) = 16384 + (8192 + m) := (Nat.two_pow_add_eq_or_of_lt (i := 14) (b := 8192 + m) (by omega) 1).symm
 have e : (m + 16384) ||| 8192 = m + 16384 + 8192 := by rw [e1, Nat.or_assoc, e2, e3, ← e1]; omega
 refine h.trans ?_
 rw [e]; omega

end Go.Proofs.Ytofenlclefkgdaa

/- BitMath: bits of packets' numbers: plain mathematics. -/
namespace Go.Proofs.Ytofenlclefkgdaa
open Go.RowKit Go.PlainAid
set_option linter.unusedVariables false
set_option linter.unusedSimpArgs false

theorem mask_k (k : Nat) (hk : k < 63) (x : Int) (h0 : 0 ≤ x) (h1 : x < 9223372036854775808) : bits .and .i64 x (2 ^ k - 1) = x % 2 ^ k :=
 bits_mask .i64 63 (by decide) wraps_i64 k (Nat.le_of_lt hk) x h0 (by omega)
theorem mask16 (x : Int) (h0 : 0 ≤ x) (h1 : x ≤ 4294967295) : bits .and .i64 x 65535 = x % 65536 := by
 have h := mask_k 16 (by decide) x h0 (by omega)
 rw [show ((2 : Int) ^ 16 - 1) = 65535 by decide, show ((2 : Int) ^ 16) = 65536 by decide] at h
 exact h

theorem v6Ok_parts {p : P6} (h : v6Ok p = true) : (0 ≤ p.cls ∧ p.cls ≤ 255) ∧ (0 ≤ p.next ∧ p.next ≤ 255) ∧ (0 ≤ p.hops ∧ p.hops ≤ 255) ∧ (0 ≤ p.flow ∧ p.flow ≤ 1048575) ∧ p.src.size = 16 ∧ p.dst.size = 16 ∧ p.data.size ≤ 1400 ∧
  (p.piece = true → (0 ≤ p.off ∧ p.off ≤ 8191) ∧ (0 ≤ p.id ∧ p.id ≤ 4294967295) ∧ 8 * p.off + p.data.size ≤ 65535) := by
 unfold v6Ok at h
 rw [Bool.and_eq_true] at h
 obtain ⟨ha, hb⟩ := h
 unfold v6A at ha
 simp only [Bool.and_eq_true, decide_eq_true_iff] at ha
 obtain ⟨⟨⟨⟨⟨⟨⟨h1, h2⟩, h3⟩, h4⟩, h5⟩, h6⟩, h7⟩, _⟩ := ha
 refine ⟨isIn_parts h1, isIn_parts h2, isIn_parts h3, isIn_parts h4, h5, h6, h7, fun hp => ?_⟩
 unfold v6B at hb
 rw [if_pos hp] at hb
 simp only [Bool.and_eq_true, decide_eq_true_iff] at hb
 obtain ⟨⟨⟨g1, g2⟩, _⟩, g4⟩ := hb
 exact ⟨isIn_parts g1, isIn_parts g2, g4⟩

end Go.Proofs.Ytofenlclefkgdaa
