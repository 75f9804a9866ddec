/- PaW: LawPcOut, AddRel, WalkPA, in one text. -/
import Derived.Test.YtofhcplnnamcdajLawPieceS
import Derived.Test.YtofhcplnnamcdajOwnS
import Derived.Test.YtofhcplnnamcdajMarkS
import Derived.Test.YtofhcplnnamcdajHoldL
import Derived.Test.YtofhcplnnamcdajSAdd
import Derived.Test.YtofhcplnnamcdajGrowV
import Derived.Deep.DeepCutAuto

/- LawPcOut: the laws' helpers for PieceAdd's answer: compared, marked, held. -/
namespace Go.Proofs.Ytofhcplnnamcdaj
open Go.RowKit Go.PlainAid
set_option linter.unusedVariables false
set_option linter.unusedSimpArgs false

/-- PieceAdd's answer as a value. -/
def poC (a : Option Addr) (n cap : Nat) (d : ByteArray) (dn : Bool) (c : Int) : Value := .agg #[.slice a n cap, .string d, .bool dn, .int .i64 c]
set_option maxRecDepth 100000 in
set_option maxHeartbeats 1000000 in
theorem eqPieceOut_same (xs : List Pc) (a1 a2 : Option Addr) (cap1 cap2 : Nat) (d : ByteArray) (dn : Bool) (c : Int) (w : World) (hlen : xs.length ≤ 1048576) (h1 : SlIs pcL 8 w a1 xs) (h2 : SlIs pcL 8 w a2 xs) :
    Calls Try.prog 29 #[poC a1 xs.length cap1 d dn c, poC a2 xs.length cap2 d dn c] w fun e w' => e = .returned (.bool true) ∧ Below w.heap.size w w' := by
  have HC : Hid (∀ W, Below w.heap.size w W → Calls Try.prog 26 #[.slice a1 xs.length cap1, .slice a2 xs.length cap2] W fun e w' => e = .returned (.bool true) ∧ Below W.heap.size W w') := fun W hW => eqPieceS_same xs a1 a2 cap1 cap2 W hlen (h1.below hW) (h2.below hW)
  clear h1 h2
  unfold poC
  have HZ : Hid (Below w.heap.size w ((w.alloc (.cells #[.slice a1 xs.length cap1, .string d, .bool dn, .int .i64 c] 50)).alloc (.cells #[.slice a2 xs.length cap2, .string d, .bool dn, .int .i64 c] 50))) := ((Below.refl _ _).alloc (Nat.le_refl _) _).alloc (by simp) _
  go_enter Try.func29, Try.ntmps29
  go_wp2_with fail
  refine (HC.out _ HZ.out).mono ?_
  rintro e w1 ⟨rfl, q1⟩
  have HQ : Hid (Below w.heap.size w w1) := HZ.out.trans (q1.mono HZ.out.size)
  obtain ⟨hc, hf⟩ := bcell q1
  clear q1
  go_wp2_with fail
  go_ret
  exact ⟨rfl, HQ.out⟩

/-- The boxes that are not the answer's row stay as they are. -/
def BoxesStay (ys : List Pc) (a : Option Addr) (w w' : World) : Prop := ∀ (B : Nat) (cs : List Value), 0 < cs.length → HoldsL w B cs → (ys = [] ∨ ∀ g o, a = some ⟨g, o, none⟩ → g ≠ B) → HoldsL w' B cs
theorem markPieceS_keep (base : Nat) (ys : List Pc) (a : Option Addr) (cap k : Nat) (w : World) (hk : 0 < k) (hL : k + 8 * ys.length ≤ 1073741824) (hs : SlOwn pcL 8 base w a ys) :
    Calls Try.prog 30 #[.slice a ys.length cap, .int .i64 k] w fun e w' => e = .returned (.int .i64 ((k + 8 * ys.length : Nat) : Int)) ∧ MkOwn 8 pieceM base w' a k ys.length ∧ Below base w w' ∧ BoxesStay ys a w w' := by
  by_cases hy : ys = []
  · subst hy
    refine (markPieceS_nil a cap k w (by simpa using hL)).mono ?_
    rintro e w' ⟨rfl, rfl⟩
    exact ⟨rfl, .inl rfl, Below.refl _ _, fun B cs _ h _ => h⟩
  rcases hs with hs | ⟨g, rfl, hb, hl⟩
  · exact absurd hs hy
  · refine (markPieceS_any g ys.length cap k w hk hL (hl.other _)).mono ?_
    rintro e w' ⟨rfl, h1, h2⟩
    refine ⟨rfl, .inr ⟨g, rfl, hb, h1⟩, ⟨h2.os, h2.tape, h2.output, h2.size, fun j hj => h2.block j (Nat.lt_trans (Nat.lt_of_lt_of_le hj hb) hl.blk) (by simp; omega)⟩, fun B cs hc h hne => ?_⟩
    rcases hne with hne | hne
    · exact absurd hne hy
    · exact h.grown hc h2 (by simp; exact fun e => hne g 0 rfl e.symm)
set_option maxRecDepth 100000 in
set_option maxHeartbeats 1000000 in
theorem markPieceOut_own (base : Nat) (ys : List Pc) (a : Option Addr) (cap k : Nat) (d : ByteArray) (dn : Bool) (c : Int) (w : World) (hk : 0 < k) (hL : k + 8 * ys.length ≤ 1073741824) (hb : base ≤ w.heap.size) (hs : SlOwn pcL 8 base w a ys) :
    Calls Try.prog 31 #[poC a ys.length cap d dn c, .int .i64 k] w fun e w' => e = .returned (.int .i64 ((k + 8 * ys.length : Nat) : Int)) ∧ MkOwn 8 pieceM base w' a k ys.length ∧ Below base w w' ∧ BoxesStay ys a w w' := by
  have HC : Hid (∀ W, Below w.heap.size w W → Calls Try.prog 30 #[.slice a ys.length cap, .int .i64 k] W fun e w' => e = .returned (.int .i64 ((k + 8 * ys.length : Nat) : Int)) ∧ MkOwn 8 pieceM base w' a k ys.length ∧ Below base W w' ∧ BoxesStay ys a W w') := fun W hW => markPieceS_keep base ys a cap k W hk hL (hs.kept hW)
  have HZ : Hid (Below w.heap.size w (w.alloc (.cells #[.slice a ys.length cap, .string d, .bool dn, .int .i64 c] 50))) := (Below.refl _ _).alloc (Nat.le_refl _) _
  generalize hm : k + 8 * ys.length = m at *
  clear hs
  unfold poC
  go_enter Try.func31, Try.ntmps31
  go_wp2_with fail
  refine (HC.out _ HZ.out).mono ?_
  rintro e w1 ⟨rfl, m1, q1, b1⟩
  have HM : Hid (MkOwn 8 pieceM base w1 a k ys.length) := m1
  have HQ : Hid (Below base w w1) := (HZ.out.mono hb).trans q1
  have HB : Hid (BoxesStay ys a w w1) := fun B cs hc h hne => b1 B cs hc (h.kept hc HZ.out) hne
  clear m1 q1 b1 hm
  go_wp2_with fail
  go_ret
  exact ⟨rfl, HM.out, HQ.out, HB.out⟩

set_option maxRecDepth 100000 in
set_option maxHeartbeats 1000000 in
theorem heldPieceOut_own (base L : Nat) (a : Option Addr) (cap k : Nat) (d : ByteArray) (dn : Bool) (c : Int) (w : World) (hk : 0 < k) (hL : k + 8 * L ≤ 1073741824) (hs : MkOwn 8 pieceM base w a k L) :
    Calls Try.prog 32 #[poC a L cap d dn c, .int .i64 k] w fun e w' => e = .returned (.int .i64 ((k + 8 * L : Nat) : Int)) ∧ Below w.heap.size w w' := by
  have HC : Hid (∀ W, Below w.heap.size w W → Calls Try.prog 70 #[.slice a L cap, .int .i64 k] W fun e w' => e = .returned (.int .i64 ((k + 8 * L : Nat) : Int)) ∧ Below W.heap.size W w') := fun W hW => heldPieceS_own base L a cap k W hk hL (hs.kept hW)
  have HZ : Hid (Below w.heap.size w (w.alloc (.cells #[.slice a L cap, .string d, .bool dn, .int .i64 c] 50))) := (Below.refl _ _).alloc (Nat.le_refl _) _
  generalize hm : k + 8 * L = m at *
  clear hs
  unfold poC
  go_enter Try.func32, Try.ntmps32
  go_wp2_with fail
  refine (HC.out _ HZ.out).mono ?_
  rintro e w1 ⟨rfl, q1⟩
  have HQ : Hid (Below w.heap.size w w1) := HZ.out.trans (q1.mono HZ.out.size)
  clear q1 hm
  go_wp2_with fail
  go_ret
  exact ⟨rfl, HQ.out⟩
end Go.Proofs.Ytofhcplnnamcdaj

/- AddRel: what a law's slots hold as it calls PieceAdd in a drawn region: a row laid, an answer, a box for it. -/
namespace Go.Proofs.Ytofhcplnnamcdaj
open Go.RowKit Go.PlainAid
set_option linter.unusedVariables false

def IsLd (base : Nat) (xs : List Pc) : Value → World → Prop := fun v w => ∃ g, v = .slice (some ⟨g, 0, none⟩) xs.length xs.length ∧ base ≤ g ∧ SlLaid pcL 8 w g xs xs.length xs.length
def IsPo (base : Nat) (ys : List Pc) (d : ByteArray) (dn : Bool) (c : Int) : Value → World → Prop := fun v w => ∃ a cap, v = poC a ys.length cap d dn c ∧ ys.length ≤ cap ∧ SlOwn pcL 8 base w a ys
def IsZb (base : Nat) : Value → World → Prop := fun v w => ∃ g, v = .pointer (some ⟨g, 0, none⟩) ∧ base ≤ g ∧ HoldsL w g outZ
theorem stable_isLd (base : Nat) (xs : List Pc) : Stable (IsLd base xs) := fun v w w' ⟨g, h1, h2, h3⟩ hb => ⟨g, h1, h2, h3.kept hb⟩
theorem stable_isPo (base : Nat) (ys : List Pc) (d : ByteArray) (dn : Bool) (c : Int) : Stable (IsPo base ys d dn c) := fun v w w' ⟨a, cap, h1, h2, h3⟩ hb => ⟨a, cap, h1, h2, h3.kept hb⟩
theorem stable_isZb (base : Nat) : Stable (IsZb base) := fun v w w' ⟨g, h1, h2, h3⟩ hb => ⟨g, h1, h2, h3.kept (by simp [outZ]) hb⟩
/-- A row of pieces and a box of an answer are two blocks. -/
theorem row_not_box {base B : Nat} {w : World} {a : Option Addr} {ys : List Pc} {x : Option Addr} {n cap : Nat} {l : List Value} (h : SlOwn pcL 8 base w a ys) (hB : HoldsL w B (.slice x n cap :: l)) : ys = [] ∨ ∀ g o, a = some ⟨g, o, none⟩ → g ≠ B := by
  rcases h with h | ⟨g, rfl, _, h⟩
  · exact .inl h
  · cases ys with
    | nil => exact .inl rfl
    | cons y ys =>
      refine .inr fun g' o e hg => ?_
      cases e
      subst hg
      rcases h.is with h0 | ⟨b, off, hb, hlt, hat⟩
      · exact absurd h0 (by simp)
      · cases hb
        have h1 := hat 0 (by simp) 0 (.string y.src) rfl
        have h2 : w.cell? ⟨g, 0, none⟩ = some (.slice x n cap) := hB.cell rfl
        simp at h1
        rw [h2] at h1
        exact absurd h1 (by simp)
theorem addV_le (xs : List Pc) (q : Pc) : (addV xs q).pieces.length ≤ xs.length + 1 := by
  unfold addV
  split
  · exact Nat.le_succ_of_le (List.length_filter_le _ _)
  · split
    · exact Nat.le_succ _
    · split
      · exact Nat.le_trans (List.length_filter_le _ _) (by simp)
      · simp
theorem addPc_le (xs : List Pc) (p : Pc) (now : Int) : (addPc xs p now).pieces.length ≤ 401 := by
  unfold addPc
  split
  · simp
  · split
    · simp
    · have := addV_le xs (withS p (sincePc xs p now)); omega
end Go.Proofs.Ytofhcplnnamcdaj

/- WalkPA: the law FnExactPieceAdd walked, given the contract of the program's PieceAdd. -/
namespace Go.Proofs.Ytofhcplnnamcdaj
open Go.RowKit Go.PlainAid
set_option linter.unusedVariables false
set_option linter.unusedSimpArgs false

theorem SlOwn_apart {base B : Nat} {w : World} {a : Option Addr} {ys : List Pc} (h : SlOwn pcL 8 base w a ys) (hB : B < base) : ys = [] ∨ ∀ g o, a = some ⟨g, o, none⟩ → g ≠ B := by
  rcases h with h | ⟨g, rfl, h1, _⟩
  · exact .inl h
  · exact .inr fun g' o e => by injection e with e; injection e with e1 _; omega

set_option maxRecDepth 100000 in
set_option maxHeartbeats 2000000 in
theorem walkPA (himpl : ∀ (xs : List Pc) (p : Pc) (now : Int) (b off cap : Nat) (w : World), PcsIn xs → PcSm p → b < w.heap.size → SlAt pcL 8 w b off xs → Calls Try.prog 28 #[.slice (some ⟨b, off, none⟩) xs.length cap, pcC p, .int .i64 now] w (AddRet w (addPc xs p now)))
    (a0 : Option Addr) (cap0 : Nat) (r0 : List Pc) (p1 : Pc) (a2 : Int) (w : World) (w0 : PcsWf r0) (x0 : SlIs pcL 8 w a0 r0) (w1 : PcWf p1) :
    Calls Try.prog 8 #[.slice a0 r0.length cap0, pcC p1, .int .i64 a2] w fun e w' => e = .returned (.bool true) ∧ Below w.heap.size w w' := by
  have HX0 : Hid (SlIs pcL 8 w a0 r0) := x0
  have HS0 : Hid (∀ W, Below w.heap.size w W → Calls Try.prog 22 #[.slice a0 r0.length cap0, .int .i64 1048576] W fun e w' => e = .returned (.int .i64 (szSl pieceN r0 1048576)) ∧ Below W.heap.size W w') := fun W hW => szPieceS_at r0 a0 cap0 1048576 W w0 (x0.below hW) (by omega) (by omega)
  have HS1 : Hid (∀ left W, 0 ≤ left → left ≤ 1048576 → Calls Try.prog 18 #[pcC p1, .int .i64 left] W fun e w' => e = .returned (.int .i64 (szN (pieceN p1) left)) ∧ Below W.heap.size W w') := fun left W h0 h1 => szPiece_at p1 left W w1 h0 h1
  have HAU : Hid (∀ B, w.heap.size ≤ B → r0 = [] ∨ ∀ g o, a0 = some ⟨g, o, none⟩ → g ≠ B) := fun B hB => x0.upto.imp (fun x => x) fun hh g o e => Nat.ne_of_lt (Nat.lt_of_lt_of_le (hh g o e) hB)
  have HAV : Hid (∀ B, w.heap.size ≤ B → r0 = [] ∨ ∀ g o, a0 = some ⟨g, o, none⟩ → g < B) := fun B hB => x0.upto.imp (fun x => x) fun hh g o e => Nat.lt_of_lt_of_le (hh g o e) hB
  have B_0 : Hid (Below w.heap.size w (w.alloc (.cells #[.string p1.src, .string p1.dst, .int .i64 p1.proto, .int .i64 p1.id, .int .i64 p1.off, .bool p1.more, .string p1.data, .int .i64 p1.since] 36))) := (Below.refl _ _).alloc (Nat.le_refl _) _
  have K_0 : Hid (HoldsL (w.alloc (.cells #[.string p1.src, .string p1.dst, .int .i64 p1.proto, .int .i64 p1.id, .int .i64 p1.off, .bool p1.more, .string p1.data, .int .i64 p1.since] 36)) w.heap.size (pcL p1)) := HoldsL.new w (pcL p1) 36
  have hr0 := szSl_range pieceN r0 1048576 (by omega)
  have HPI : Hid (0 ≤ szSl pieceN r0 1048576 → PcsIn r0) := fun h => pcs_in (by omega) (by omega) h
  have HR1 : Hid (∀ left, 0 ≤ left → -1 ≤ szN (pieceN p1) left ∧ szN (pieceN p1) left ≤ left) := fun left h => szN_range _ left h
  have HP1 : Hid (∀ left, left ≤ 1048576 → 0 ≤ szN (pieceN p1) left → PcSm p1) := fun left hl h => by
    have hb := szN_bound _ _ h
    exact ⟨by have := hb p1.src.size (by simp [pieceN]); omega, by have := hb p1.dst.size (by simp [pieceN]); omega, by have := hb p1.data.size (by simp [pieceN]); omega⟩
  have HT1 : Hid (∀ W, Calls Try.prog 20 #[pcC p1] W fun e w' => e = .returned (pcC p1) ∧ Below W.heap.size W w') := fun W => toPiece_any p1 W
  clear w0 x0 w1
  unfold pcC at *
  generalize szSl pieceN r0 1048576 = s1 at *
  go_enter Try.func8, Try.ntmps8
  go_wp2_with fail
  refine (HS0.out _ B_0.out).mono ?_
  rintro e v1 ⟨rfl, q1⟩
  have B_1 : Hid (Below w.heap.size w v1) := B_0.out.trans (q1.mono B_0.out.size)
  have K_1 : Hid (HoldsL v1 w.heap.size (pcL p1)) := K_0.out.kept (by simp [pcL]) q1
  clear q1 B_0 K_0 HS0
  by_cases hs1 : s1 < 0
  · go_wp2_with fail
    go_ret
    exact ⟨rfl, B_1.out⟩
  · have k0 : v1.cell? ⟨w.heap.size, 0, none⟩ = some (.string p1.src) := K_1.out.cell rfl
    have k1 : v1.cell? ⟨w.heap.size, 1, none⟩ = some (.string p1.dst) := K_1.out.cell rfl
    have k2 : v1.cell? ⟨w.heap.size, 2, none⟩ = some (.int .i64 p1.proto) := K_1.out.cell rfl
    have k3 : v1.cell? ⟨w.heap.size, 3, none⟩ = some (.int .i64 p1.id) := K_1.out.cell rfl
    have k4 : v1.cell? ⟨w.heap.size, 4, none⟩ = some (.int .i64 p1.off) := K_1.out.cell rfl
    have k5 : v1.cell? ⟨w.heap.size, 5, none⟩ = some (.bool p1.more) := K_1.out.cell rfl
    have k6 : v1.cell? ⟨w.heap.size, 6, none⟩ = some (.string p1.data) := K_1.out.cell rfl
    have k7 : v1.cell? ⟨w.heap.size, 7, none⟩ = some (.int .i64 p1.since) := K_1.out.cell rfl
    go_wp2_with fail
    refine (HS1.out s1 _ (by omega) (by omega)).mono ?_
    rintro e v2 ⟨rfl, q2⟩
    have B_2 : Hid (Below w.heap.size w v2) := B_1.out.trans (q2.mono B_1.out.size)
    have K_2 : Hid (HoldsL v2 w.heap.size (pcL p1)) := K_1.out.kept (by simp [pcL]) q2
    have hr1 := HR1.out s1 (by omega)
    clear q2 B_1 K_1 k0 k1 k2 k3 k4 k5 k6 k7 HS1 HR1
    have HP2 : Hid (0 ≤ szN (pieceN p1) s1 → PcSm p1) := HP1.out s1 (by omega)
    clear HP1
    generalize szN (pieceN p1) s1 = s2 at *
    by_cases hs2 : s2 < 0
    · go_wp2_with fail
      go_ret
      exact ⟨rfl, B_2.out⟩
    · have hin : PcsIn r0 := HPI.out (by omega)
      have hsm : PcSm p1 := HP2.out (by omega)
      have hlen := hin.1
      have HT : Hid (∀ W, Below w.heap.size w W → Calls Try.prog 24 #[.slice a0 r0.length cap0] W fun e w' => e = .returned (.slice (some ⟨W.heap.size, 0, none⟩) r0.length r0.length) ∧ Below W.heap.size W w' ∧ SlLaid pcL 8 w' W.heap.size r0 r0.length r0.length) := fun W hW => toPieceS_any r0 a0 cap0 W hlen (HX0.out.below hW)
      obtain ⟨⟨ys, yd, yn, yc⟩, hyo⟩ : ∃ o, addPc r0 p1 a2 = o := ⟨_, rfl⟩
      have hyl : ys.length ≤ 401 := by have := addPc_le r0 p1 a2; rw [hyo] at this; exact this
      have HP : Hid (∀ g cap W, SlLaid pcL 8 W g r0 r0.length r0.length → Calls Try.prog 27 #[.slice (some ⟨g, 0, none⟩) r0.length cap, pcC p1, .int .i64 a2] W fun e w' => ∃ a c, e = .returned (poC a ys.length c yd yn yc) ∧ ys.length ≤ c ∧ SlOwn pcL 8 W.heap.size w' a ys ∧ Below W.heap.size W w') := fun g cap W hl => by
        have h := specPieceAdd_any r0 p1 a2 g 0 cap W hin hsm hl.blk hl.at
        rw [hyo] at h
        exact h
      have HI : Hid (∀ g cap W, SlLaid pcL 8 W g r0 r0.length r0.length → Calls Try.prog 28 #[.slice (some ⟨g, 0, none⟩) r0.length cap, pcC p1, .int .i64 a2] W fun e w' => ∃ a c, e = .returned (poC a ys.length c yd yn yc) ∧ ys.length ≤ c ∧ SlOwn pcL 8 W.heap.size w' a ys ∧ Below W.heap.size W w') := fun g cap W hl => by
        have h := himpl r0 p1 a2 g 0 cap W hin hsm hl.blk hl.at
        rw [hyo] at h
        exact h
      clear hyo hin hsm HPI HP2 himpl
      unfold pcC at HP HI
      have HCQ : Hid (∀ wy, Below v2.heap.size v2 wy → wy.cell? ⟨w.heap.size, 0, none⟩ = some (.string p1.src) ∧ wy.cell? ⟨w.heap.size, 1, none⟩ = some (.string p1.dst) ∧ wy.cell? ⟨w.heap.size, 2, none⟩ = some (.int .i64 p1.proto) ∧ wy.cell? ⟨w.heap.size, 3, none⟩ = some (.int .i64 p1.id) ∧ wy.cell? ⟨w.heap.size, 4, none⟩ = some (.int .i64 p1.off) ∧ wy.cell? ⟨w.heap.size, 5, none⟩ = some (.bool p1.more) ∧ wy.cell? ⟨w.heap.size, 6, none⟩ = some (.string p1.data) ∧ wy.cell? ⟨w.heap.size, 7, none⟩ = some (.int .i64 p1.since)) := fun wy hy => by
        have hS := K_2.out.kept (by simp [pcL]) hy
        exact ⟨hS.cell rfl, hS.cell rfl, hS.cell rfl, hS.cell rfl, hS.cell rfl, hS.cell rfl, hS.cell rfl, hS.cell rfl⟩
      have hwl : w.heap.size < v2.heap.size := K_2.out.lt (by simp [pcL])
      go_upto_region 8 with fail
      go_cut [8] (fun v wx => ∃ g8 aw cw, v = .pointer (some ⟨g8, 0, none⟩) ∧ w.heap.size < g8 ∧ g8 < wx.heap.size ∧ HoldsL wx g8 [.slice aw ys.length cw, .string yd, .bool yn, .int .i64 yc] ∧ SlIs pcL 8 wx aw ys ∧ Below v2.heap.size v2 wx)
      case first =>
        rename_i J K2 hJ hK2
        have B_W : Hid (Below w.heap.size w v2) := B_2.out
        refine wp_region_growV [25, 26, 27, 28, 29, 30, 8] (by kernel_rfl) (by kernel_rfl) ?_
        refine GChV.val (n := 0) (fun v => [IsV v]) (fun _ => rfl) rfl ?_
        apply Exists.intro
        refine And.intro ?_ ?_
        · intro K' a wy ho hd hb hK
          rw [if_pos (wanted_none rfl)]
          have o0 := ho 0 (by decide)
          simp [slot] at o0
          clear hd ho
          go_simp
          try go_bits
          exact hK _ _ rfl (Below.refl _ _)
        refine GChV.rel (n := 1) (IsLd v2.drew.heap.size r0) (stable_isLd _ _) [_, IsLd v2.drew.heap.size r0] rfl rfl ?_ ?_
        · intro K' a wy ho hd hb hK
          rw [if_pos (wanted_none rfl)]
          have q0 := hd ⟨0, .data⟩ (by simp) rfl
          simp [rAt, IsV, slot] at q0
          clear hd ho
          go_simp
          refine (HT.out wy (B_W.out.trans (((Below.refl _ _).drew.trans hb).mono B_W.out.size))).mono ?_
          rintro e wz ⟨rfl, hz, hl⟩
          exact hK _ _ ⟨wy.heap.size, rfl, hb.size, hl⟩ hz
        refine GChV.val (n := 2) (fun v => [_, _, IsV v]) (fun _ => rfl) rfl ?_
        apply Exists.intro
        refine And.intro ?_ ?_
        · intro K' a wy ho hd hb hK
          rw [if_pos (wanted_none rfl)]
          have o4 := ho 4 (by decide)
          simp [slot] at o4
          clear hd ho
          obtain ⟨k0, k1, k2, k3, k4, k5, k6, k7⟩ := HCQ.out wy ((Below.refl _ _).drew.trans hb)
          go_simp
          try go_bits
          exact hK _ _ rfl (Below.refl _ _)
        refine GChV.val (n := 3) (fun v => [_, _, _, IsV v]) (fun _ => rfl) rfl ?_
        apply Exists.intro
        refine And.intro ?_ ?_
        · intro K' a wy ho hd hb hK
          rw [if_pos (wanted_none rfl)]
          have q2 := hd ⟨2, .data⟩ (by simp) rfl
          simp [rAt, IsV, slot] at q2
          clear hd ho
          go_simp
          refine (HT1.out wy).mono ?_
          rintro e wz ⟨rfl, hz⟩
          exact hK _ _ rfl hz
        refine GChV.val (n := 4) (fun v => [_, _, _, _, IsV v]) (fun _ => rfl) rfl ?_
        apply Exists.intro
        refine And.intro ?_ ?_
        · intro K' a wy ho hd hb hK
          rw [if_pos (wanted_none rfl)]
          have o2 := ho 2 (by decide)
          simp [slot] at o2
          clear hd ho
          go_simp
          try go_bits
          exact hK _ _ rfl (Below.refl _ _)
        refine GChV.rel (n := 5) (IsPo v2.drew.heap.size ys yd yn yc) (stable_isPo _ _ _ _ _) [_, _, _, _, _, IsPo v2.drew.heap.size ys yd yn yc] rfl rfl ?_ ?_
        · intro K' a wy ho hd hb hK
          rw [if_pos (wanted_none rfl)]
          obtain ⟨g1, e1, b1, l1⟩ : IsLd v2.drew.heap.size r0 (slot a 26) wy := hd ⟨1, .data⟩ (by simp) rfl
          simp [slot] at e1
          have q3 := hd ⟨3, .data⟩ (by simp) rfl
          simp [rAt, IsV, slot] at q3
          have q4 := hd ⟨4, .data⟩ (by simp) rfl
          simp [rAt, IsV, slot] at q4
          clear hd ho
          go_simp
          refine (HP.out g1 _ wy l1).mono ?_
          rintro e wz ⟨a5, c5, rfl, hc5, ho5, hz⟩
          exact hK _ _ ⟨a5, c5, rfl, hc5, ho5.down hb.size⟩ hz
        refine GChV.rel (n := 6) (IsZb v2.drew.heap.size) (stable_isZb _) [_, _, _, _, _, _, IsZb v2.drew.heap.size] rfl rfl ?_ ?_
        · intro K' a wy ho hd hb hK
          rw [if_pos (wanted_none rfl)]
          clear hd ho
          go_simp
          exact hK _ _ ⟨wy.heap.size, rfl, hb.size, HoldsL.new wy outZ 50⟩ ((Below.refl _ _).alloc (Nat.le_refl _) _)
        intro X wz hR hz
        obtain ⟨x0, x1, x2, x3, x4, x5, x6, -⟩ := hR
        obtain ⟨g1, e1, -, -⟩ := x1
        obtain ⟨aw, cw, e5, hcw, o5⟩ := x5
        obtain ⟨g6, e6, b6, z6⟩ := x6
        simp only [IsV] at x0 x2 x3 x4
        simp only [putsFrom, x0, e1, x2, x3, x4, e5, e6]
        clear x0 x2 x3 x4
        have z0 : wz.cell? ⟨g6, 0, none⟩ = some (.slice none 0 0) := z6.cell rfl
        have zf0 := z6.free (j := 0) (by simp [outZ])
        have z1 : wz.cell? ⟨g6, 1, none⟩ = some (.string ⟨#[]⟩) := z6.cell rfl
        have zf1 := z6.free (j := 1) (by simp [outZ])
        have z2 : wz.cell? ⟨g6, 2, none⟩ = some (.bool false) := z6.cell rfl
        have zf2 := z6.free (j := 2) (by simp [outZ])
        have z3 : wz.cell? ⟨g6, 3, none⟩ = some (.int .i64 0) := z6.cell rfl
        have zf3 := z6.free (j := 3) (by simp [outZ])
        have hne : ys = [] ∨ ∀ g o, aw = some ⟨g, o, none⟩ → g ≠ g6 := row_not_box (x := none) (n := 0) (cap := 0) o5 z6
        have HZ6 : Hid (HoldsL ((((wz.setCell ⟨g6, 0, none⟩ (.slice aw ys.length cw)).setCell ⟨g6, 1, none⟩ (.string yd)).setCell ⟨g6, 2, none⟩ (.bool yn)).setCell ⟨g6, 3, none⟩ (.int .i64 yc)) g6 [.slice aw ys.length cw, .string yd, .bool yn, .int .i64 yc]) := (((z6.set 0 _).set 1 _).set 2 _).set 3 _
        have HO6 : Hid (SlIs pcL 8 ((((wz.setCell ⟨g6, 0, none⟩ (.slice aw ys.length cw)).setCell ⟨g6, 1, none⟩ (.string yd)).setCell ⟨g6, 2, none⟩ (.bool yn)).setCell ⟨g6, 3, none⟩ (.int .i64 yc)) aw ys) := o5.is.grown (grown_set (grown_set (grown_set (grown_set (World.grownBy.refl _ _) _) _) _) _) hne
        have b6' : v2.heap.size ≤ g6 := b6
        have hz0 : Below v2.heap.size v2 wz := (Below.refl _ _).drew.trans hz
        have HB6 : Hid (Below v2.heap.size v2 ((((wz.setCell ⟨g6, 0, none⟩ (.slice aw ys.length cw)).setCell ⟨g6, 1, none⟩ (.string yd)).setCell ⟨g6, 2, none⟩ (.bool yn)).setCell ⟨g6, 3, none⟩ (.int .i64 yc))) := (((hz0.setCell b6' _).setCell b6' _).setCell b6' _).setCell b6' _
        have hgw : w.heap.size < g6 := Nat.lt_of_lt_of_le hwl b6'
        clear hne o5 z6 b6 b6' hz hz0 hcw
        unfold poC
        intro K5 hK5
        go_simp
        refine hK5 _ _ ?_
        show Exit.then _ _ _ _ _
        refine hK2 _ _ (hJ _ _ ?_)
        (repeat apply Exists.intro)
        exact ⟨⟨g6, aw, cw, rfl, hgw, HZ6.out.lt (by simp), HZ6.out, HO6.out, HB6.out⟩, rfl⟩
      case rest =>
      obtain ⟨g8, aw, cw, rfl, hg8, hg8', z, o, q3⟩ := hcut
      generalize wc = v3 at *
      have B_3 : Hid (Below w.heap.size w v3) := B_2.out.trans (q3.mono B_2.out.size)
      have K_3 : Hid (HoldsL v3 w.heap.size (pcL p1)) := K_2.out.kept (by simp [pcL]) q3
      clear B_2
      clear K_2
      have Z_3 : Hid (HoldsL v3 g8 [.slice aw ys.length cw, .string yd, .bool yn, .int .i64 yc]) := z
      have O_3 : Hid (SlIs pcL 8 v3 aw ys) := o
      have HU : Hid (ys = [] ∨ ∀ g o, aw = some ⟨g, o, none⟩ → g < v3.heap.size) := O_3.out.upto
      clear z o q3 HCQ hwl
      go_wp2_with fail
      refine (HT.out _ B_3.out).mono ?_
      rintro e v4 ⟨rfl, q4, y4⟩
      have B_4 : Hid (Below w.heap.size w v4) := B_3.out.trans (q4.mono B_3.out.size)
      have K_4 : Hid (HoldsL v4 w.heap.size (pcL p1)) := K_3.out.kept (by simp [pcL]) q4
      have Z_4 : Hid (HoldsL v4 g8 [.slice aw ys.length cw, .string yd, .bool yn, .int .i64 yc]) := Z_3.out.kept (by simp) q4
      have O_4 : Hid (SlIs pcL 8 v4 aw ys) := O_3.out.below q4
      clear B_3
      clear K_3
      clear Z_3
      clear O_3
      have L_4 : Hid (SlLaid pcL 8 v4 v3.heap.size r0 r0.length r0.length) := y4
      have hbx : v3.heap.size < v4.heap.size := L_4.out.blk
      have hbw : w.heap.size < v3.heap.size := by omega
      clear q4 y4
      have k0 : v4.cell? ⟨w.heap.size, 0, none⟩ = some (.string p1.src) := K_4.out.cell rfl
      have k1 : v4.cell? ⟨w.heap.size, 1, none⟩ = some (.string p1.dst) := K_4.out.cell rfl
      have k2 : v4.cell? ⟨w.heap.size, 2, none⟩ = some (.int .i64 p1.proto) := K_4.out.cell rfl
      have k3 : v4.cell? ⟨w.heap.size, 3, none⟩ = some (.int .i64 p1.id) := K_4.out.cell rfl
      have k4 : v4.cell? ⟨w.heap.size, 4, none⟩ = some (.int .i64 p1.off) := K_4.out.cell rfl
      have k5 : v4.cell? ⟨w.heap.size, 5, none⟩ = some (.bool p1.more) := K_4.out.cell rfl
      have k6 : v4.cell? ⟨w.heap.size, 6, none⟩ = some (.string p1.data) := K_4.out.cell rfl
      have k7 : v4.cell? ⟨w.heap.size, 7, none⟩ = some (.int .i64 p1.since) := K_4.out.cell rfl
      go_wp2_with fail
      refine (HT1.out _).mono ?_
      rintro e v5 ⟨rfl, q5⟩
      clear k0 k1 k2 k3 k4 k5 k6 k7
      have hs5 : v4.heap.size ≤ v5.heap.size := q5.size
      have B_5 : Hid (Below w.heap.size w v5) := B_4.out.trans (q5.mono B_4.out.size)
      have K_5 : Hid (HoldsL v5 w.heap.size (pcL p1)) := K_4.out.kept (by simp [pcL]) q5
      have Z_5 : Hid (HoldsL v5 g8 [.slice aw ys.length cw, .string yd, .bool yn, .int .i64 yc]) := Z_4.out.kept (by simp) q5
      have O_5 : Hid (SlIs pcL 8 v5 aw ys) := O_4.out.below q5
      have L_5 : Hid (SlLaid pcL 8 v5 v3.heap.size r0 r0.length r0.length) := L_4.out.kept q5
      clear B_4
      clear K_4
      clear Z_4
      clear O_4
      clear L_4
      clear q5
      go_wp2_with fail
      refine (HI.out _ _ _ L_5.out).mono ?_
      rintro e v6 ⟨ag, cg, rfl, hcg, hw6, q6⟩
      have B_6 : Hid (Below w.heap.size w v6) := B_5.out.trans (q6.mono B_5.out.size)
      have K_6 : Hid (HoldsL v6 w.heap.size (pcL p1)) := K_5.out.kept (by simp [pcL]) q6
      have Z_6 : Hid (HoldsL v6 g8 [.slice aw ys.length cw, .string yd, .bool yn, .int .i64 yc]) := Z_5.out.kept (by simp) q6
      have O_6 : Hid (SlIs pcL 8 v6 aw ys) := O_5.out.below q6
      have L_6 : Hid (SlLaid pcL 8 v6 v3.heap.size r0 r0.length r0.length) := L_5.out.kept q6
      clear B_5
      clear K_5
      clear Z_5
      clear O_5
      clear L_5
      have G_6 : Hid (SlOwn pcL 8 v5.heap.size v6 ag ys) := hw6
      have hs6 : v5.heap.size ≤ v6.heap.size := q6.size
      clear q6 hw6 hcg
      have HGB : Hid (∀ B, B < v5.heap.size → ys = [] ∨ ∀ g o, ag = some ⟨g, o, none⟩ → g ≠ B) := fun B hB => SlOwn_apart G_6.out hB
      have HG : Hid (ys = [] ∨ ∀ g o, ag = some ⟨g, o, none⟩ → g ≠ v6.heap.size) := G_6.out.is.upto.imp (fun x => x) fun hh g o e => Nat.ne_of_lt (hh g o e)
      unfold poC
      go_upto_region 11 with fail
      have q7 : Below v6.heap.size v6 (v6.alloc (.cells #[.slice ag ys.length cg, .string yd, .bool yn, .int .i64 yc] 50)) := (Below.refl _ _).alloc (Nat.le_refl _) _
      have y7 : HoldsL (v6.alloc (.cells #[.slice ag ys.length cg, .string yd, .bool yn, .int .i64 yc] 50)) v6.heap.size [.slice ag ys.length cg, .string yd, .bool yn, .int .i64 yc] := HoldsL.new v6 _ 50
      obtain ⟨g10, hg10⟩ : ∃ g10, g10 = v6.heap.size := ⟨_, rfl⟩
      rw [← hg10] at y7 HG ⊢
      generalize v6.alloc (.cells #[.slice ag ys.length cg, .string yd, .bool yn, .int .i64 yc] 50) = v7 at *
      have B_7 : Hid (Below w.heap.size w v7) := B_6.out.trans (q7.mono B_6.out.size)
      have K_7 : Hid (HoldsL v7 w.heap.size (pcL p1)) := K_6.out.kept (by simp [pcL]) q7
      have Z_7 : Hid (HoldsL v7 g8 [.slice aw ys.length cw, .string yd, .bool yn, .int .i64 yc]) := Z_6.out.kept (by simp) q7
      have O_7 : Hid (SlIs pcL 8 v7 aw ys) := O_6.out.below q7
      have L_7 : Hid (SlLaid pcL 8 v7 v3.heap.size r0 r0.length r0.length) := L_6.out.kept q7
      have G_7 : Hid (SlOwn pcL 8 v5.heap.size v7 ag ys) := G_6.out.kept q7
      clear B_6
      clear K_6
      clear Z_6
      clear O_6
      clear L_6
      clear G_6
      have Y_7 : Hid (HoldsL v7 g10 [.slice ag ys.length cg, .string yd, .bool yn, .int .i64 yc]) := y7
      have hs7 : v6.heap.size ≤ v7.heap.size := q7.size
      clear q7 y7
      have hord : v3.heap.size < v5.heap.size ∧ v5.heap.size ≤ g10 := ⟨by omega, by omega⟩
      clear hg10
      have y0 : v7.cell? ⟨g10, 0, none⟩ = some (.slice ag ys.length cg) := Y_7.out.cell rfl
      have y1 : v7.cell? ⟨g10, 1, none⟩ = some (.string yd) := Y_7.out.cell rfl
      have y2 : v7.cell? ⟨g10, 2, none⟩ = some (.bool yn) := Y_7.out.cell rfl
      have y3 : v7.cell? ⟨g10, 3, none⟩ = some (.int .i64 yc) := Y_7.out.cell rfl
      have z0 : v7.cell? ⟨g8, 0, none⟩ = some (.slice aw ys.length cw) := Z_7.out.cell rfl
      have z1 : v7.cell? ⟨g8, 1, none⟩ = some (.string yd) := Z_7.out.cell rfl
      have z2 : v7.cell? ⟨g8, 2, none⟩ = some (.bool yn) := Z_7.out.cell rfl
      have z3 : v7.cell? ⟨g8, 3, none⟩ = some (.int .i64 yc) := Z_7.out.cell rfl
      go_wp2_with fail
      refine (eqPieceOut_same ys _ _ _ _ yd yn yc _ (by omega) G_7.out.is O_7.out).mono ?_
      rintro e v8 ⟨rfl, q8⟩
      clear y0 y1 y2 y3 z0 z1 z2 z3
      have B_8 : Hid (Below w.heap.size w v8) := B_7.out.trans (q8.mono B_7.out.size)
      have K_8 : Hid (HoldsL v8 w.heap.size (pcL p1)) := K_7.out.kept (by simp [pcL]) q8
      have Z_8 : Hid (HoldsL v8 g8 [.slice aw ys.length cw, .string yd, .bool yn, .int .i64 yc]) := Z_7.out.kept (by simp) q8
      have O_8 : Hid (SlIs pcL 8 v8 aw ys) := O_7.out.below q8
      have L_8 : Hid (SlLaid pcL 8 v8 v3.heap.size r0 r0.length r0.length) := L_7.out.kept q8
      have G_8 : Hid (SlOwn pcL 8 v5.heap.size v8 ag ys) := G_7.out.kept q8
      have Y_8 : Hid (HoldsL v8 g10 [.slice ag ys.length cg, .string yd, .bool yn, .int .i64 yc]) := Y_7.out.kept (by simp) q8
      clear B_7
      clear K_7
      clear Z_7
      clear O_7
      clear L_7
      clear G_7
      clear Y_7
      clear q8
      go_wp2_with fail
      refine (HT.out _ B_8.out).mono ?_
      rintro e v9 ⟨rfl, q9, y9⟩
      have B_9 : Hid (Below w.heap.size w v9) := B_8.out.trans (q9.mono B_8.out.size)
      have K_9 : Hid (HoldsL v9 w.heap.size (pcL p1)) := K_8.out.kept (by simp [pcL]) q9
      have Z_9 : Hid (HoldsL v9 g8 [.slice aw ys.length cw, .string yd, .bool yn, .int .i64 yc]) := Z_8.out.kept (by simp) q9
      have O_9 : Hid (SlIs pcL 8 v9 aw ys) := O_8.out.below q9
      have L_9 : Hid (SlLaid pcL 8 v9 v3.heap.size r0 r0.length r0.length) := L_8.out.kept q9
      have G_9 : Hid (SlOwn pcL 8 v5.heap.size v9 ag ys) := G_8.out.kept q9
      have Y_9 : Hid (HoldsL v9 g10 [.slice ag ys.length cg, .string yd, .bool yn, .int .i64 yc]) := Y_8.out.kept (by simp) q9
      clear B_8
      clear K_8
      clear Z_8
      clear O_8
      clear L_8
      clear G_8
      clear Y_8
      have H_9 : Hid (SlIs pcL 8 v9 (some ⟨v8.heap.size, 0, none⟩) r0) := y9.is
      clear q9 y9
      go_wp2_with fail
      refine (eqPieceS_same r0 _ _ _ _ _ hlen L_9.out.is H_9.out).mono ?_
      rintro e v10 ⟨rfl, q10⟩
      clear H_9
      have B_10 : Hid (Below w.heap.size w v10) := B_9.out.trans (q10.mono B_9.out.size)
      have K_10 : Hid (HoldsL v10 w.heap.size (pcL p1)) := K_9.out.kept (by simp [pcL]) q10
      have Z_10 : Hid (HoldsL v10 g8 [.slice aw ys.length cw, .string yd, .bool yn, .int .i64 yc]) := Z_9.out.kept (by simp) q10
      have O_10 : Hid (SlIs pcL 8 v10 aw ys) := O_9.out.below q10
      have L_10 : Hid (SlLaid pcL 8 v10 v3.heap.size r0 r0.length r0.length) := L_9.out.kept q10
      have G_10 : Hid (SlOwn pcL 8 v5.heap.size v10 ag ys) := G_9.out.kept q10
      have Y_10 : Hid (HoldsL v10 g10 [.slice ag ys.length cg, .string yd, .bool yn, .int .i64 yc]) := Y_9.out.kept (by simp) q10
      clear B_9
      clear K_9
      clear Z_9
      clear O_9
      clear L_9
      clear G_9
      clear Y_9
      clear q10
      go_wp2_with fail
      refine (markPieceS_any _ r0.length _ 1 _ (by omega) (by omega) (L_10.out.other _)).mono ?_
      rintro e v11 ⟨rfl, m11, g11⟩
      clear L_10
      have hz11 := B_10.out.size
      have B_11 : Hid (Below w.heap.size w v11) := below_grown B_10.out g11 (by omega) (by have := B_10.out.size; omega)
      have K_11 : Hid (HoldsL v11 w.heap.size (pcL p1)) := K_10.out.grown (by simp [pcL]) g11 (by simp; omega)
      have Z_11 : Hid (HoldsL v11 g8 [.slice aw ys.length cw, .string yd, .bool yn, .int .i64 yc]) := Z_10.out.grown (by simp) g11 (by simp; omega)
      have O_11 : Hid (SlIs pcL 8 v11 aw ys) := O_10.out.grown g11 (HU.out.imp (fun x => x) fun hh g o e => Nat.ne_of_lt (hh g o e))
      have G_11 : Hid (SlOwn pcL 8 v5.heap.size v11 ag ys) := G_10.out.grown g11 hord.1
      have Y_11 : Hid (HoldsL v11 g10 [.slice ag ys.length cg, .string yd, .bool yn, .int .i64 yc]) := Y_10.out.grown (by simp) g11 (by simp; omega)
      clear B_10
      clear K_10
      clear Z_10
      clear O_10
      clear G_10
      clear Y_10
      clear m11 g11 hz11
      have y0 : v11.cell? ⟨g10, 0, none⟩ = some (.slice ag ys.length cg) := Y_11.out.cell rfl
      have y1 : v11.cell? ⟨g10, 1, none⟩ = some (.string yd) := Y_11.out.cell rfl
      have y2 : v11.cell? ⟨g10, 2, none⟩ = some (.bool yn) := Y_11.out.cell rfl
      have y3 : v11.cell? ⟨g10, 3, none⟩ = some (.int .i64 yc) := Y_11.out.cell rfl
      have z0 : v11.cell? ⟨g8, 0, none⟩ = some (.slice aw ys.length cw) := Z_11.out.cell rfl
      have z1 : v11.cell? ⟨g8, 1, none⟩ = some (.string yd) := Z_11.out.cell rfl
      have z2 : v11.cell? ⟨g8, 2, none⟩ = some (.bool yn) := Z_11.out.cell rfl
      have z3 : v11.cell? ⟨g8, 3, none⟩ = some (.int .i64 yc) := Z_11.out.cell rfl
      go_wp2_with fail
      refine (eqPieceOut_same ys _ _ _ _ yd yn yc _ (by omega) G_11.out.is O_11.out).mono ?_
      rintro e v12 ⟨rfl, q12⟩
      clear y0 y1 y2 y3 z0 z1 z2 z3
      have B_12 : Hid (Below w.heap.size w v12) := B_11.out.trans (q12.mono B_11.out.size)
      have K_12 : Hid (HoldsL v12 w.heap.size (pcL p1)) := K_11.out.kept (by simp [pcL]) q12
      have Z_12 : Hid (HoldsL v12 g8 [.slice aw ys.length cw, .string yd, .bool yn, .int .i64 yc]) := Z_11.out.kept (by simp) q12
      have O_12 : Hid (SlIs pcL 8 v12 aw ys) := O_11.out.below q12
      have G_12 : Hid (SlOwn pcL 8 v5.heap.size v12 ag ys) := G_11.out.kept q12
      have Y_12 : Hid (HoldsL v12 g10 [.slice ag ys.length cg, .string yd, .bool yn, .int .i64 yc]) := Y_11.out.kept (by simp) q12
      clear B_11
      clear K_11
      clear Z_11
      clear O_11
      clear G_11
      clear Y_11
      clear q12
      have y0 : v12.cell? ⟨g10, 0, none⟩ = some (.slice ag ys.length cg) := Y_12.out.cell rfl
      have y1 : v12.cell? ⟨g10, 1, none⟩ = some (.string yd) := Y_12.out.cell rfl
      have y2 : v12.cell? ⟨g10, 2, none⟩ = some (.bool yn) := Y_12.out.cell rfl
      have y3 : v12.cell? ⟨g10, 3, none⟩ = some (.int .i64 yc) := Y_12.out.cell rfl
      have hzb : v5.heap.size ≤ v12.heap.size := by have := Y_12.out.lt (by simp); omega
      go_wp2_with fail
      refine (markPieceOut_own v5.heap.size ys _ _ 1 yd yn yc _ (by omega) (by omega) hzb G_12.out).mono ?_
      rintro e v13 ⟨rfl, m13, q13, b13⟩
      clear y0 y1 y2 y3
      clear G_12
      have B_13 : Hid (Below w.heap.size w v13) := B_12.out.trans (q13.mono (by omega))
      have K_13 : Hid (HoldsL v13 w.heap.size (pcL p1)) := b13 _ _ (by simp [pcL]) K_12.out (HGB.out _ (by omega))
      have Z_13 : Hid (HoldsL v13 g8 [.slice aw ys.length cw, .string yd, .bool yn, .int .i64 yc]) := b13 _ _ (by simp) Z_12.out (HGB.out _ (by omega))
      have O_13 : Hid (SlIs pcL 8 v13 aw ys) := O_12.out.belowU q13 (HU.out.imp (fun x => x) fun hh g o e => Nat.lt_trans (hh g o e) hord.1)
      have Y_13 : Hid (HoldsL v13 g10 [.slice ag ys.length cg, .string yd, .bool yn, .int .i64 yc]) := b13 _ _ (by simp) Y_12.out HG.out
      clear B_12
      clear K_12
      clear Z_12
      clear O_12
      clear Y_12
      have M_13 : Hid (MkOwn 8 pieceM v5.heap.size v13 ag 1 ys.length) := m13
      clear q13 m13 b13 hzb
      have y0 : v13.cell? ⟨g10, 0, none⟩ = some (.slice ag ys.length cg) := Y_13.out.cell rfl
      have y1 : v13.cell? ⟨g10, 1, none⟩ = some (.string yd) := Y_13.out.cell rfl
      have y2 : v13.cell? ⟨g10, 2, none⟩ = some (.bool yn) := Y_13.out.cell rfl
      have y3 : v13.cell? ⟨g10, 3, none⟩ = some (.int .i64 yc) := Y_13.out.cell rfl
      go_wp2_with fail
      refine (heldPieceOut_own _ ys.length _ _ 1 yd yn yc _ (by omega) (by omega) M_13.out).mono ?_
      rintro e v14 ⟨rfl, q14⟩
      clear y0 y1 y2 y3
      have B_14 : Hid (Below w.heap.size w v14) := B_13.out.trans (q14.mono B_13.out.size)
      have K_14 : Hid (HoldsL v14 w.heap.size (pcL p1)) := K_13.out.kept (by simp [pcL]) q14
      have Z_14 : Hid (HoldsL v14 g8 [.slice aw ys.length cw, .string yd, .bool yn, .int .i64 yc]) := Z_13.out.kept (by simp) q14
      have O_14 : Hid (SlIs pcL 8 v14 aw ys) := O_13.out.below q14
      have Y_14 : Hid (HoldsL v14 g10 [.slice ag ys.length cg, .string yd, .bool yn, .int .i64 yc]) := Y_13.out.kept (by simp) q14
      have M_14 : Hid (MkOwn 8 pieceM v5.heap.size v14 ag 1 ys.length) := M_13.out.kept q14
      clear B_13
      clear K_13
      clear Z_13
      clear O_13
      clear Y_13
      clear M_13
      clear q14
      have HCQ : Hid (∀ wy, Below v14.heap.size v14 wy → wy.cell? ⟨w.heap.size, 0, none⟩ = some (.string p1.src) ∧ wy.cell? ⟨w.heap.size, 1, none⟩ = some (.string p1.dst) ∧ wy.cell? ⟨w.heap.size, 2, none⟩ = some (.int .i64 p1.proto) ∧ wy.cell? ⟨w.heap.size, 3, none⟩ = some (.int .i64 p1.id) ∧ wy.cell? ⟨w.heap.size, 4, none⟩ = some (.int .i64 p1.off) ∧ wy.cell? ⟨w.heap.size, 5, none⟩ = some (.bool p1.more) ∧ wy.cell? ⟨w.heap.size, 6, none⟩ = some (.string p1.data) ∧ wy.cell? ⟨w.heap.size, 7, none⟩ = some (.int .i64 p1.since)) := fun wy hy => by
        have hS := K_14.out.kept (by simp [pcL]) hy
        exact ⟨hS.cell rfl, hS.cell rfl, hS.cell rfl, hS.cell rfl, hS.cell rfl, hS.cell rfl, hS.cell rfl, hS.cell rfl⟩
      have hwl : w.heap.size < v14.heap.size := K_14.out.lt (by simp [pcL])
      go_upto_region 27 with fail
      go_cut [14] (fun v wx => ∃ g8 aw cw, v = .pointer (some ⟨g8, 0, none⟩) ∧ w.heap.size < g8 ∧ g8 < wx.heap.size ∧ HoldsL wx g8 [.slice aw ys.length cw, .string yd, .bool yn, .int .i64 yc] ∧ SlIs pcL 8 wx aw ys ∧ Below v14.heap.size v14 wx)
      case first =>
        rename_i J K2 hJ hK2
        have B_W : Hid (Below w.heap.size w v14) := B_14.out
        refine wp_region_growV [69, 70, 71, 72, 73, 74, 14] (by kernel_rfl) (by kernel_rfl) ?_
        refine GChV.val (n := 0) (fun v => [IsV v]) (fun _ => rfl) rfl ?_
        apply Exists.intro
        refine And.intro ?_ ?_
        · intro K' a wy ho hd hb hK
          rw [if_pos (wanted_none rfl)]
          have o0 := ho 0 (by decide)
          simp [slot] at o0
          clear hd ho
          go_simp
          try go_bits
          exact hK _ _ rfl (Below.refl _ _)
        refine GChV.rel (n := 1) (IsLd v14.drew.heap.size r0) (stable_isLd _ _) [_, IsLd v14.drew.heap.size r0] rfl rfl ?_ ?_
        · intro K' a wy ho hd hb hK
          rw [if_pos (wanted_none rfl)]
          have q0 := hd ⟨0, .data⟩ (by simp) rfl
          simp [rAt, IsV, slot] at q0
          clear hd ho
          go_simp
          refine (HT.out wy (B_W.out.trans (((Below.refl _ _).drew.trans hb).mono B_W.out.size))).mono ?_
          rintro e wz ⟨rfl, hz, hl⟩
          exact hK _ _ ⟨wy.heap.size, rfl, hb.size, hl⟩ hz
        refine GChV.val (n := 2) (fun v => [_, _, IsV v]) (fun _ => rfl) rfl ?_
        apply Exists.intro
        refine And.intro ?_ ?_
        · intro K' a wy ho hd hb hK
          rw [if_pos (wanted_none rfl)]
          have o4 := ho 4 (by decide)
          simp [slot] at o4
          clear hd ho
          obtain ⟨k0, k1, k2, k3, k4, k5, k6, k7⟩ := HCQ.out wy ((Below.refl _ _).drew.trans hb)
          go_simp
          try go_bits
          exact hK _ _ rfl (Below.refl _ _)
        refine GChV.val (n := 3) (fun v => [_, _, _, IsV v]) (fun _ => rfl) rfl ?_
        apply Exists.intro
        refine And.intro ?_ ?_
        · intro K' a wy ho hd hb hK
          rw [if_pos (wanted_none rfl)]
          have q2 := hd ⟨2, .data⟩ (by simp) rfl
          simp [rAt, IsV, slot] at q2
          clear hd ho
          go_simp
          refine (HT1.out wy).mono ?_
          rintro e wz ⟨rfl, hz⟩
          exact hK _ _ rfl hz
        refine GChV.val (n := 4) (fun v => [_, _, _, _, IsV v]) (fun _ => rfl) rfl ?_
        apply Exists.intro
        refine And.intro ?_ ?_
        · intro K' a wy ho hd hb hK
          rw [if_pos (wanted_none rfl)]
          have o2 := ho 2 (by decide)
          simp [slot] at o2
          clear hd ho
          go_simp
          try go_bits
          exact hK _ _ rfl (Below.refl _ _)
        refine GChV.rel (n := 5) (IsPo v14.drew.heap.size ys yd yn yc) (stable_isPo _ _ _ _ _) [_, _, _, _, _, IsPo v14.drew.heap.size ys yd yn yc] rfl rfl ?_ ?_
        · intro K' a wy ho hd hb hK
          rw [if_pos (wanted_none rfl)]
          obtain ⟨g1, e1, b1, l1⟩ : IsLd v14.drew.heap.size r0 (slot a 70) wy := hd ⟨1, .data⟩ (by simp) rfl
          simp [slot] at e1
          have q3 := hd ⟨3, .data⟩ (by simp) rfl
          simp [rAt, IsV, slot] at q3
          have q4 := hd ⟨4, .data⟩ (by simp) rfl
          simp [rAt, IsV, slot] at q4
          clear hd ho
          go_simp
          refine (HI.out g1 _ wy l1).mono ?_
          rintro e wz ⟨a5, c5, rfl, hc5, ho5, hz⟩
          exact hK _ _ ⟨a5, c5, rfl, hc5, ho5.down hb.size⟩ hz
        refine GChV.rel (n := 6) (IsZb v14.drew.heap.size) (stable_isZb _) [_, _, _, _, _, _, IsZb v14.drew.heap.size] rfl rfl ?_ ?_
        · intro K' a wy ho hd hb hK
          rw [if_pos (wanted_none rfl)]
          clear hd ho
          go_simp
          exact hK _ _ ⟨wy.heap.size, rfl, hb.size, HoldsL.new wy outZ 50⟩ ((Below.refl _ _).alloc (Nat.le_refl _) _)
        intro X wz hR hz
        obtain ⟨x0, x1, x2, x3, x4, x5, x6, -⟩ := hR
        obtain ⟨g1, e1, -, -⟩ := x1
        obtain ⟨aw, cw, e5, hcw, o5⟩ := x5
        obtain ⟨g6, e6, b6, z6⟩ := x6
        simp only [IsV] at x0 x2 x3 x4
        simp only [putsFrom, x0, e1, x2, x3, x4, e5, e6]
        clear x0 x2 x3 x4
        have z0 : wz.cell? ⟨g6, 0, none⟩ = some (.slice none 0 0) := z6.cell rfl
        have zf0 := z6.free (j := 0) (by simp [outZ])
        have z1 : wz.cell? ⟨g6, 1, none⟩ = some (.string ⟨#[]⟩) := z6.cell rfl
        have zf1 := z6.free (j := 1) (by simp [outZ])
        have z2 : wz.cell? ⟨g6, 2, none⟩ = some (.bool false) := z6.cell rfl
        have zf2 := z6.free (j := 2) (by simp [outZ])
        have z3 : wz.cell? ⟨g6, 3, none⟩ = some (.int .i64 0) := z6.cell rfl
        have zf3 := z6.free (j := 3) (by simp [outZ])
        have hne : ys = [] ∨ ∀ g o, aw = some ⟨g, o, none⟩ → g ≠ g6 := row_not_box (x := none) (n := 0) (cap := 0) o5 z6
        have HZ6 : Hid (HoldsL ((((wz.setCell ⟨g6, 0, none⟩ (.slice aw ys.length cw)).setCell ⟨g6, 1, none⟩ (.string yd)).setCell ⟨g6, 2, none⟩ (.bool yn)).setCell ⟨g6, 3, none⟩ (.int .i64 yc)) g6 [.slice aw ys.length cw, .string yd, .bool yn, .int .i64 yc]) := (((z6.set 0 _).set 1 _).set 2 _).set 3 _
        have HO6 : Hid (SlIs pcL 8 ((((wz.setCell ⟨g6, 0, none⟩ (.slice aw ys.length cw)).setCell ⟨g6, 1, none⟩ (.string yd)).setCell ⟨g6, 2, none⟩ (.bool yn)).setCell ⟨g6, 3, none⟩ (.int .i64 yc)) aw ys) := o5.is.grown (grown_set (grown_set (grown_set (grown_set (World.grownBy.refl _ _) _) _) _) _) hne
        have b6' : v14.heap.size ≤ g6 := b6
        have hz0 : Below v14.heap.size v14 wz := (Below.refl _ _).drew.trans hz
        have HB6 : Hid (Below v14.heap.size v14 ((((wz.setCell ⟨g6, 0, none⟩ (.slice aw ys.length cw)).setCell ⟨g6, 1, none⟩ (.string yd)).setCell ⟨g6, 2, none⟩ (.bool yn)).setCell ⟨g6, 3, none⟩ (.int .i64 yc))) := (((hz0.setCell b6' _).setCell b6' _).setCell b6' _).setCell b6' _
        have hgw : w.heap.size < g6 := Nat.lt_of_lt_of_le hwl b6'
        clear hne o5 z6 b6 b6' hz hz0 hcw
        unfold poC
        intro K5 hK5
        go_simp
        refine hK5 _ _ ?_
        show Exit.then _ _ _ _ _
        refine hK2 _ _ (hJ _ _ ?_)
        (repeat apply Exists.intro)
        exact ⟨⟨g6, aw, cw, rfl, hgw, HZ6.out.lt (by simp), HZ6.out, HO6.out, HB6.out⟩, rfl⟩
      case rest =>
      obtain ⟨g14, ah, ch, rfl, hg14, hg14', z, o, q15⟩ := hcut
      generalize wc = v15 at *
      have B_15 : Hid (Below w.heap.size w v15) := B_14.out.trans (q15.mono B_14.out.size)
      have K_15 : Hid (HoldsL v15 w.heap.size (pcL p1)) := K_14.out.kept (by simp [pcL]) q15
      have Z_15 : Hid (HoldsL v15 g8 [.slice aw ys.length cw, .string yd, .bool yn, .int .i64 yc]) := Z_14.out.kept (by simp) q15
      have O_15 : Hid (SlIs pcL 8 v15 aw ys) := O_14.out.below q15
      have Y_15 : Hid (HoldsL v15 g10 [.slice ag ys.length cg, .string yd, .bool yn, .int .i64 yc]) := Y_14.out.kept (by simp) q15
      have M_15 : Hid (MkOwn 8 pieceM v5.heap.size v15 ag 1 ys.length) := M_14.out.kept q15
      clear B_14
      clear K_14
      clear Z_14
      clear O_14
      clear Y_14
      clear M_14
      have V_15 : Hid (HoldsL v15 g14 [.slice ah ys.length ch, .string yd, .bool yn, .int .i64 yc]) := z
      have H_15 : Hid (SlIs pcL 8 v15 ah ys) := o
      clear z o q15 HCQ hwl
      have y0 : v15.cell? ⟨g14, 0, none⟩ = some (.slice ah ys.length ch) := V_15.out.cell rfl
      have y1 : v15.cell? ⟨g14, 1, none⟩ = some (.string yd) := V_15.out.cell rfl
      have y2 : v15.cell? ⟨g14, 2, none⟩ = some (.bool yn) := V_15.out.cell rfl
      have y3 : v15.cell? ⟨g14, 3, none⟩ = some (.int .i64 yc) := V_15.out.cell rfl
      have z0 : v15.cell? ⟨g8, 0, none⟩ = some (.slice aw ys.length cw) := Z_15.out.cell rfl
      have z1 : v15.cell? ⟨g8, 1, none⟩ = some (.string yd) := Z_15.out.cell rfl
      have z2 : v15.cell? ⟨g8, 2, none⟩ = some (.bool yn) := Z_15.out.cell rfl
      have z3 : v15.cell? ⟨g8, 3, none⟩ = some (.int .i64 yc) := Z_15.out.cell rfl
      go_wp2_with fail
      refine (eqPieceOut_same ys _ _ _ _ yd yn yc _ (by omega) H_15.out O_15.out).mono ?_
      rintro e v16 ⟨rfl, q16⟩
      clear y0 y1 y2 y3 z0 z1 z2 z3
      have B_16 : Hid (Below w.heap.size w v16) := B_15.out.trans (q16.mono B_15.out.size)
      have K_16 : Hid (HoldsL v16 w.heap.size (pcL p1)) := K_15.out.kept (by simp [pcL]) q16
      have Z_16 : Hid (HoldsL v16 g8 [.slice aw ys.length cw, .string yd, .bool yn, .int .i64 yc]) := Z_15.out.kept (by simp) q16
      have O_16 : Hid (SlIs pcL 8 v16 aw ys) := O_15.out.below q16
      have Y_16 : Hid (HoldsL v16 g10 [.slice ag ys.length cg, .string yd, .bool yn, .int .i64 yc]) := Y_15.out.kept (by simp) q16
      have M_16 : Hid (MkOwn 8 pieceM v5.heap.size v16 ag 1 ys.length) := M_15.out.kept q16
      have V_16 : Hid (HoldsL v16 g14 [.slice ah ys.length ch, .string yd, .bool yn, .int .i64 yc]) := V_15.out.kept (by simp) q16
      have H_16 : Hid (SlIs pcL 8 v16 ah ys) := H_15.out.below q16
      clear B_15
      clear K_15
      clear Z_15
      clear O_15
      clear Y_15
      clear M_15
      clear V_15
      clear H_15
      clear q16
      have y0 : v16.cell? ⟨g10, 0, none⟩ = some (.slice ag ys.length cg) := Y_16.out.cell rfl
      have y1 : v16.cell? ⟨g10, 1, none⟩ = some (.string yd) := Y_16.out.cell rfl
      have y2 : v16.cell? ⟨g10, 2, none⟩ = some (.bool yn) := Y_16.out.cell rfl
      have y3 : v16.cell? ⟨g10, 3, none⟩ = some (.int .i64 yc) := Y_16.out.cell rfl
      go_wp2_with fail
      refine (heldPieceOut_own _ ys.length _ _ 1 yd yn yc _ (by omega) (by omega) M_16.out).mono ?_
      rintro e v17 ⟨rfl, q17⟩
      clear y0 y1 y2 y3
      have B_17 : Hid (Below w.heap.size w v17) := B_16.out.trans (q17.mono B_16.out.size)
      have K_17 : Hid (HoldsL v17 w.heap.size (pcL p1)) := K_16.out.kept (by simp [pcL]) q17
      have Z_17 : Hid (HoldsL v17 g8 [.slice aw ys.length cw, .string yd, .bool yn, .int .i64 yc]) := Z_16.out.kept (by simp) q17
      have O_17 : Hid (SlIs pcL 8 v17 aw ys) := O_16.out.below q17
      have Y_17 : Hid (HoldsL v17 g10 [.slice ag ys.length cg, .string yd, .bool yn, .int .i64 yc]) := Y_16.out.kept (by simp) q17
      have M_17 : Hid (MkOwn 8 pieceM v5.heap.size v17 ag 1 ys.length) := M_16.out.kept q17
      have V_17 : Hid (HoldsL v17 g14 [.slice ah ys.length ch, .string yd, .bool yn, .int .i64 yc]) := V_16.out.kept (by simp) q17
      have H_17 : Hid (SlIs pcL 8 v17 ah ys) := H_16.out.below q17
      clear B_16
      clear K_16
      clear Z_16
      clear O_16
      clear Y_16
      clear M_16
      clear V_16
      clear H_16
      clear q17
      go_wp2_with fail
      go_ret
      exact ⟨rfl, B_17.out⟩
end Go.Proofs.Ytofhcplnnamcdaj
