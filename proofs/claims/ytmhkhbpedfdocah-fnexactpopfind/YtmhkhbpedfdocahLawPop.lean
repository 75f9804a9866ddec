/- LawPop: what the laws' own helpers for tables answer: szPop, toPop, eqPop. -/
import Derived.Test.YtmhkhbpedfdocahOpenPop
import Derived.Test.YtmhkhbpedfdocahLawRoutes
namespace Go.Proofs.Ytmhkhbpedfdocah
open Go.RowKit Go.PlainAid
set_option linter.unusedVariables false
set_option linter.unusedSimpArgs false

/-- What szPop answers. -/
def szPopV (n l : Nat) : Int := if (1048576 : Int) < (n : Int) then -1 else if (1048576 : Int) - n < (l : Int) then -1 else 1048576 - n - l
theorem szPop_in {n l : Nat} (h : 0 ≤ szPopV n l) : n ≤ 1048576 ∧ l ≤ 1048576 := by
  unfold szPopV at h
  split at h
  · omega
  · split at h <;> omega

theorem szNodes_any (n cap : Nat) (a : Option Addr) (w : World) (hn : n ≤ maxLen) :
    Calls Try.prog 45 #[.slice a n cap, .int .i64 1048576] w fun e w' => e = .returned (.int .i64 (if (1048576 : Int) < (n : Int) then -1 else 1048576 - n)) ∧ w' = w := by
  unfold maxLen at hn
  by_cases h : (1048576 : Int) < (n : Int)
  · rw [if_pos h]
    go_enter Try.func45, Try.ntmps45
    go_wp2
    go_ret
    exact ⟨rfl, rfl⟩
  · rw [if_neg h]
    go_enter Try.func45, Try.ntmps45
    go_wp2
    go_ret
    exact ⟨rfl, rfl⟩
theorem szInts_any (n cap : Nat) (left : Int) (a : Option Addr) (w : World) (hn : n ≤ maxLen) (h0 : 0 ≤ left) (h1 : left ≤ 1048576) :
    Calls Try.prog 46 #[.slice a n cap, .int .i64 left] w fun e w' => e = .returned (.int .i64 (if left < (n : Int) then -1 else left - n)) ∧ w' = w := by
  unfold maxLen at hn
  by_cases h : left < (n : Int)
  · rw [if_pos h]
    go_enter Try.func46, Try.ntmps46
    go_wp2
    go_ret
    exact ⟨rfl, rfl⟩
  · rw [if_neg h]
    go_enter Try.func46, Try.ntmps46
    go_wp2
    go_ret
    exact ⟨rfl, rfl⟩

set_option maxHeartbeats 1000000 in
theorem szPop_any (n l cap1 cap2 : Nat) (a1 a2 : Option Addr) (w : World) (hn : n ≤ maxLen) (hl : l ≤ maxLen) :
    Calls Try.prog 17 #[.agg #[.slice a1 n cap1, .slice a2 l cap2], .int .i64 1048576] w fun e w' => e = .returned (.int .i64 (szPopV n l)) ∧ Below w.heap.size w w' := by
  have HB : Hid (Below w.heap.size w (w.alloc (.cells #[.slice a1 n cap1, .slice a2 l cap2] 38))) := (Below.refl _ _).alloc (Nat.le_refl _) _
  have HC : Hid (∀ W, Calls Try.prog 45 #[.slice a1 n cap1, .int .i64 1048576] W fun e w' => e = .returned (.int .i64 (if (1048576 : Int) < (n : Int) then -1 else 1048576 - n)) ∧ w' = W) := fun W => szNodes_any n cap1 a1 W hn
  by_cases h : (1048576 : Int) < (n : Int)
  · have HV : Hid (szPopV n l = -1) := if_pos h
    rw [if_pos h] at HC
    unfold maxLen at hn
    go_enter Try.func17, Try.ntmps17
    go_wp2_with fail
    refine (HC.out _).mono ?_
    rintro e w1 ⟨rfl, rfl⟩
    go_wp2_with fail
    go_ret
    exact ⟨ret_int HV.out.symm, HB.out⟩
  · rw [if_neg h] at HC
    have HV0 : Hid (szPopV n l = if (1048576 : Int) - n < (l : Int) then (-1 : Int) else 1048576 - n - l) := if_neg h
    obtain ⟨left, hle⟩ : ∃ x, x = (1048576 : Int) - n := ⟨_, rfl⟩
    rw [← hle] at HC HV0
    have h0 : 0 ≤ left := by omega
    have h1 : left ≤ 1048576 := by omega
    have HD : Hid (∀ W, Calls Try.prog 46 #[.slice a2 l cap2, .int .i64 left] W fun e w' => e = .returned (.int .i64 (if left < (l : Int) then -1 else left - l)) ∧ w' = W) := fun W => szInts_any l cap2 left a2 W hl h0 h1
    unfold maxLen at hl
    clear hle
    by_cases h2 : left < (l : Int)
    · rw [if_pos h2] at HD HV0
      go_enter Try.func17, Try.ntmps17
      go_wp2_with fail
      refine (HC.out _).mono ?_
      rintro e w1 ⟨rfl, rfl⟩
      go_wp2_with fail
      refine (HD.out _).mono ?_
      rintro e w1 ⟨rfl, rfl⟩
      go_wp2_with fail
      go_ret
      exact ⟨ret_int HV0.out.symm, HB.out⟩
    · rw [if_neg h2] at HD HV0
      go_enter Try.func17, Try.ntmps17
      go_wp2_with fail
      refine (HC.out _).mono ?_
      rintro e w1 ⟨rfl, rfl⟩
      go_wp2_with fail
      refine (HD.out _).mono ?_
      rintro e w1 ⟨rfl, rfl⟩
      go_wp2_with fail
      go_ret
      exact ⟨ret_int HV0.out.symm, HB.out⟩

/-- Integers in a row of their own, the first k of them laid. -/
structure IntsLaid (w : World) (B : Nat) (ls : List Int) (k : Nat) : Prop where
  blk : B < w.heap.size
  c : ∀ i (h : i < ls.length), i < k → w.cell? ⟨B, i, none⟩ = some (.int .i64 ls[i])
  there : ∀ i, i < ls.length → (w.cell? ⟨B, i, none⟩).isSome = true
  free : ∀ i, i < ls.length → w.frozen? ⟨B, i, none⟩ = false

theorem IntsLaid.at {w : World} {B : Nat} {ls : List Int} (h : IntsLaid w B ls ls.length) : IntsAt w B 0 ls := fun i hi => by rw [Nat.zero_add]; exact h.c i hi hi
theorem IntsLaid.below {w W : World} {B : Nat} {ls : List Int} {k : Nat} (h : IntsLaid w B ls k) {n : Nat} (hn : B < n) (hB : Below n w W) : IntsLaid W B ls k := by
  have hc : ∀ b o, b < n → W.cell? ⟨b, o, none⟩ = w.cell? ⟨b, o, none⟩ := fun b o hb => hB.cell (p := ⟨b, o, none⟩) hb
  have hf : ∀ b o, b < n → W.frozen? ⟨b, o, none⟩ = w.frozen? ⟨b, o, none⟩ := fun b o hb => hB.frozen (p := ⟨b, o, none⟩) hb
  exact ⟨Nat.lt_of_lt_of_le h.blk hB.size, fun i hi hk => (hc B _ hn).trans (h.c i hi hk), fun i hi => by rw [hc B _ hn]; exact h.there i hi, fun i hi => by rw [hf B _ hn]; exact h.free i hi⟩
theorem IntsLaid.set {w : World} {B : Nat} {ls : List Int} {k : Nat} (h : IntsLaid w B ls k) (hk : k < ls.length) : IntsLaid (w.setCell ⟨B, k, none⟩ (.int .i64 ls[k])) B ls (k + 1) := by
  obtain ⟨v, hv⟩ := Option.isSome_iff_exists.1 (h.there k hk)
  have hs := World.cell?_setCell_same w ⟨B, k, none⟩ (.int .i64 ls[k]) hv
  have ho : ∀ i, i ≠ k → (w.setCell ⟨B, k, none⟩ (.int .i64 ls[k])).cell? ⟨B, i, none⟩ = w.cell? ⟨B, i, none⟩ := fun i hne => World.cell?_setCell_other _ _ _ _ (fun e => hne (by injection e with _ h2; exact h2.symm))
  refine ⟨Nat.lt_of_lt_of_le h.blk ((Below.refl 0 w).setCell (Nat.zero_le _) _).size, fun i hi hk' => ?_, fun i hi => ?_, fun i hi => by rw [World.frozen?_setCell]; exact h.free i hi⟩
  · by_cases e : i = k
    · subst e; exact hs
    · rw [ho i e]; exact h.c i hi (by omega)
  · by_cases e : i = k
    · subst e; rw [hs]; rfl
    · rw [ho i e]; exact h.there i hi
theorem IntsLaid.start {w : World} {base n cap : Nat} {g : Nat} {e : TypeId} {xs : List Value} {ls : List Int} (hn : n = ls.length) (h : w.ownsRow base e 1 (.slice (some ⟨g, 0, none⟩) n cap) n xs) : IntsLaid w g ls 0 := by
  obtain ⟨hl, h | ⟨g', cap', cur, hv, _, hh, hc, _, hsz, _⟩⟩ := h
  · simp at h
  · injection hv with hv _ hv3
    injection hv with hv
    injection hv with hv _
    subst hv hn hv3
    have hlt : g < w.heap.size := by
      by_cases hb : g < w.heap.size
      · exact hb
      · rw [Array.getElem?_eq_none (by omega)] at hh; simp at hh
    refine ⟨hlt, fun i hi hk => by omega, fun i hi => ?_, fun i hi => ?_⟩
    · have : i < cur.size := by rw [hsz]; omega
      simp [World.cell?, hh, this]
    · simp [World.frozen?, hh]

theorem Try.infoL : (Try.prog.info? 2).map (fun i => (i.zero, i.size, i.bytes)) = some (some (.int .i64 0), 1, 8) := by kernel_rfl

set_option maxRecDepth 100000 in
set_option maxHeartbeats 1000000 in
theorem toInts_any (ls : List Int) (a : Option Addr) (cap : Nat) (w : World) (hlen : ls.length ≤ 1048576) (hr : IntsIs w a ls) :
    Calls Try.prog 50 #[.slice a ls.length cap] w fun e w' => e = .returned (.slice (some ⟨w.heap.size, 0, none⟩) ls.length ls.length) ∧ Below w.heap.size w w' ∧ IntsLaid w' w.heap.size ls ls.length := by
  have HR : Hid (IntsIs w a ls) := hr
  clear hr
  obtain ⟨i0, hi, hz0, hz1, hz2⟩ := info_parts Try.infoL
  go_enter Try.func50, Try.ntmps50
  go_wp2_with (at_make; refine wpList_make_full _ rfl _ _ 25 rfl w.heap.size 2 i0 (.int .i64 0) 1 Try.underlying25 hi hz0 hz1 .i64 .i64 _ _ ls.length rfl rfl (by omega) (by omega) (by rw [hz2]; omega) (by unfold maxLen; omega) (Nat.le_refl _) ?_; intro w1 hown hgrow)
  have hlaid := IntsLaid.start (ls := ls) rfl hown
  have hbel : Below w.heap.size w w1 := ⟨hgrow.os, hgrow.tape, hgrow.output, hgrow.size, fun k hk => hgrow.block k hk (by simp)⟩
  have HY : Hid (IntsLaid w1 w.heap.size ls 0) := hlaid
  have HB : Hid (Below w.heap.size w w1) := hbel
  clear hown hgrow hlaid hbel hi hz0 hz1 hz2
  go_wp2_with fail
  go_loopw [4] (fun i wr => ∃ k : Nat, k ≤ ls.length ∧ i = .int .i64 k ∧ IntsLaid wr w.heap.size ls k ∧ Below w.heap.size w wr) (fun i _ => ls.length - (intOf i).toNat)
  case atStart => exact ⟨0, Nat.zero_le _, rfl, HY.out, HB.out⟩
  case round =>
    obtain ⟨k, hk, rfl, hy, hbel⟩ := hrel
    have HK : Hid (IntsLaid wr w.heap.size ls k) := hy
    have HL : Hid (Below w.heap.size w wr) := hbel
    clear hy hbel
    by_cases hlt : k < ls.length
    · obtain ⟨b, off, rfl, hb, hat⟩ : ∃ b off, a = some ⟨b, off, none⟩ ∧ b < wr.heap.size ∧ IntsAt wr b off ls := by
        rcases HR.out.below HL.out with h | h
        · rw [h] at hlt; simp at hlt
        · exact h
      have c0 := hat k hlt
      obtain ⟨v, hv⟩ : ∃ v, v = ls[k] := ⟨_, rfl⟩
      rw [← hv] at c0
      have HQ : Hid (v = ls[k]) := hv
      obtain ⟨v0, t0⟩ := Option.isSome_iff_exists.1 (HK.out.there k hlt)
      have f0 := HK.out.free k hlt
      clear hv hat
      go_wp2_with fail
      go_roundw
      case rel =>
        have hset := HK.out.set hlt
        rw [← HQ.out] at hset
        exact ⟨k + 1, by omega, by go_num, hset, HL.out.setCell (Nat.le_refl _) _⟩
      case measure => simp [intOf]; omega
    · have hkl : k = ls.length := by omega
      have HE : Hid (IntsLaid wr w.heap.size ls ls.length) := by unfold Hid; rw [← hkl]; exact HK.out
      clear HK
      go_wp2_with fail
      go_ret
      exact ⟨rfl, HL.out, HE.out⟩

end Go.Proofs.Ytmhkhbpedfdocah
