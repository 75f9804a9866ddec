/- LawStrS, LawLives, HoldL, in one text. -/
import Derived.Test.YtilnnihongokealGreatDoorMerged1
import Derived.Test.YtilnnihongokealGreatDoorMerged2
import Derived.Test.YtilnnihongokealGreatDoorMerged3
import Derived.Test.YtilnnihongokealGreatDoorGrow
import Derived.Deep.RegionWith
import Derived.Deep.DeepCutAuto
import Derived.Deep.MidRow
import Derived.Deep.Slices
import Derived.OwnWalk
import Derived.WalkLawsBesides
import Derived.Lib.LazyBuf
import Derived.Deep.AppendLies

/- LawStrS: the laws' helpers for slices of texts: one that came in, opened; its size; told anew; held against another; marked. -/
namespace Go.Proofs.YtilnnihongokealGreatDoor
open Go.RowKit Go.PlainAid Go.ChangeShapes Go.WideShapes
set_option linter.unusedVariables false
set_option linter.unusedSimpArgs false

theorem SlLaid.setOther {α : Type} {en : α → List Value} {n : Nat} {w : World} {B X o : Nat} {xs : List α} {L k : Nat} (h : SlLaid en n w B xs L k) (hne : B ≠ X) (v : Value) : SlLaid en n (w.setCell ⟨X, o, none⟩ v) B xs L k := by
 have ho : ∀ i, (w.setCell ⟨X, o, none⟩ v).cell? ⟨B, i, none⟩ = w.cell? ⟨B, i, none⟩ := fun i => World.cell?_setCell_other _ _ _ _ (fun e => hne (by injection e with h1 h2; exact h1.symm))
 exact ⟨Nat.lt_of_lt_of_le h.blk ((Below.refl 0 w).setCell (Nat.zero_le _) _).size, fun i hi hk j u hu => (ho _).trans (h.at0 i hi hk j u hu), fun i hi => by rw [ho]; exact h.there i hi, fun i hi => by rw [World.frozen?_setCell]; exact h.free i hi⟩

theorem strL1_length (s : ByteArray) : (strL1 s).length = 1 := rfl
def strN (s : ByteArray) : List Nat := [s.size]
def StrWf (s : ByteArray) : Prop := s.size ≤ maxLen
def StrsWf (xs : List ByteArray) : Prop := xs.length ≤ maxLen ∧ ∀ q ∈ xs, StrWf q

section
variable {H : Type} {enc : TypeId × Value → H} {w : World} {base : Nat} {spare : Nat → Bool} {held : Bool}
theorem elem_Str {m : Nat} {cs : List Value} {y : DataW H × List MemPlace} (h : DataW.trod enc Tryz.prog w base spare held m 9 cs = some y) : ∃ q : ByteArray, cs = strL1 q ∧ StrWf q := by
 obtain ⟨x, e, _, g⟩ := DataW.trod_string Tryz.underlying9 h
 exact ⟨x, e, g⟩
theorem open_StringS {fuel : Nat} {a : Option Addr} {len cap : Nat} {x : DataW H × List MemPlace} (h : DataW.trod enc Tryz.prog w base spare held fuel 22 [.slice a len cap] = some x) : ∃ xs : List ByteArray, xs.length = len ∧ StrsWf xs ∧ SlIs strL1 1 w a xs :=
 open_flat strL1_length (by omega) Tryz.underlying22 (by kernel_rfl) StrWf (fun m cs y h => elem_Str h) h
end

set_option maxRecDepth 100000 in
set_option maxHeartbeats 1000000 in
theorem szStringS_at (xs : List ByteArray) (a : Option Addr) (cap : Nat) (left : Int) (w : World) (hwf : StrsWf xs) (hr : SlIs strL1 1 w a xs) (h0 : 0 ≤ left) (h1 : left ≤ 1048576) :
  Calls Tryz.prog 19 #[.slice a xs.length cap, .int .i64 left] w fun e w' => e = .returned (.int .i64 (szSl strN xs left)) ∧ Below w.heap.size w w' := by
 have hlm := hwf.1
 unfold maxLen at hlm
 by_cases hlong : left < (xs.length : Int)
 ·have HV : Hid (szSl strN xs left = -1) := if_pos hlong
  clear hr hwf
  generalize szSl strN xs left = ans at *
  go_enter Tryz.func19, Tryz.ntmps19
  go_wp2_with fail
  go_ret
  exact ⟨ret_int HV.out.symm, Below.refl _ _⟩
 ·have HV : Hid (szSl strN xs left = szL (xs.map strN) (left - xs.length)) := if_neg hlong
  have HR : Hid (SlIs strL1 1 w a xs) := hr
  have HW : Hid (StrsWf xs) := hwf
  clear hr hwf
  generalize szSl strN xs left = ans at *
  go_enter Tryz.func19, Tryz.ntmps19
  go_wp2_with fail
  go_loopw [1, 5] (fun l i wr => ∃ (k : Nat) (lf : Int), k ≤ xs.length ∧ i = .int .i64 k ∧ l = .int .i64 lf ∧ 0 ≤ lf ∧ lf ≤ 1048576 ∧ szL (xs.map strN) (left - xs.length) = szL ((xs.drop k).map strN) lf ∧ Below w.heap.size w wr) (fun _ i _ => xs.length - (intOf i).toNat)
  case atStart => exact ⟨0, left - xs.length, Nat.zero_le _, rfl, rfl, by omega, by omega, rfl, Below.refl _ _⟩
  case round =>
   obtain ⟨k, lf, hk, rfl, rfl, hl0, hl1, hz, hbel⟩ := hrel
   have HK : Hid _ := hz
   have HL : Hid (Below w.heap.size w wr) := hbel
   clear hz hbel
   by_cases hlt : k < xs.length
   ·obtain ⟨b, off, rfl, hb, hat⟩ := HR.out.at hlt
    have HA := (hat.below hb HL.out) k hlt
    have hst := szL_drop (f := strN) hlt lf
    have hq2 := HW.out.2 xs[k] (List.getElem_mem hlt)
    obtain ⟨q, hq⟩ : ∃ q, q = xs[k] := ⟨_, rfl⟩
    rw [← hq] at HA hst hq2
    unfold StrWf maxLen at hq2
    have c0 : wr.cell? ⟨b, off + k * 1, none⟩ = some (.string q) := HA 0 _ rfl
    rw [Nat.mul_one] at c0
    have HST : Hid _ := hst
    clear hq HA hat hst
    by_cases hs : lf < (q.size : Int)
    ·have HX : Hid (ans = -1) := by unfold Hid; rw [HV.out, HK.out, HST.out, show szN (strN q) lf = -1 from szN_yes hs]; rfl
     have hs' : lf - (q.size : Int) < 0 := by omega
     go_wp2_with fail
     go_ret
     exact ⟨ret_int HX.out.symm, HL.out⟩
    ·have hn : szN (strN q) lf = lf - q.size := szN_no hs
     have HX : Hid (szL ((xs.drop k).map strN) lf = szL ((xs.drop (k + 1)).map strN) (lf - q.size)) := by unfold Hid; rw [HST.out, hn, if_neg (by omega)]
     have hs0 : 0 ≤ lf - (q.size : Int) := by omega
     have hs1 : lf - (q.size : Int) ≤ 1048576 := by omega
     clear HST hn
     go_wp2_with fail
     go_roundw
     case rel => exact ⟨k + 1, lf - q.size, by omega, by go_num, rfl, hs0, hs1, by rw [HK.out, HX.out], HL.out⟩
     case measure => simp [intOf]; omega
   ·have HX : Hid (ans = lf) := by unfold Hid; rw [HV.out, HK.out, szL_end (by omega)]
    go_wp2_with fail
    go_ret
    exact ⟨ret_int HX.out.symm, HL.out⟩

theorem Tryz.infoStr : (Tryz.prog.info? 9).map (fun i => (i.zero, i.size, i.bytes)) = some (some (.string ⟨#[]⟩), 1, 16) := by kernel_rfl
set_option maxRecDepth 100000 in
set_option maxHeartbeats 1000000 in
theorem toStringS_any (xs : List ByteArray) (a : Option Addr) (cap : Nat) (w : World) (hlen : xs.length ≤ 1048576) (hr : SlIs strL1 1 w a xs) :
  Calls Tryz.prog 26 #[.slice a xs.length cap] w fun e w' => e = .returned (.slice (some ⟨w.heap.size, 0, none⟩) xs.length xs.length) ∧ Below w.heap.size w w' ∧ SlLaid strL1 1 w' w.heap.size xs xs.length xs.length := by
 have HR : Hid (SlIs strL1 1 w a xs) := hr
 clear hr
 obtain ⟨i0, hi, hz0, hz1, hz2⟩ := info_parts Tryz.infoStr
 go_enter Tryz.func26, Tryz.ntmps26
 go_wp2_with (at_make; refine wpList_make_full _ rfl _ _ 22 rfl w.heap.size 9 i0 (.string ⟨#[]⟩) 1 Tryz.underlying22 hi hz0 hz1 .i64 .i64 _ _ xs.length rfl rfl (by omega) (by omega) (by rw [hz2]; omega) (by unfold maxLen; omega) (Nat.le_refl _) ?_; intro w1 hown hgrow)
 have hlaid : SlLaid strL1 1 w1 w.heap.size xs xs.length 0 := SlLaid.start hown
 have hbel : Below w.heap.size w w1 := ⟨hgrow.os, hgrow.tape, hgrow.output, hgrow.size, fun k hk => hgrow.block k hk (by simp)⟩
 have HY : Hid (SlLaid strL1 1 w1 w.heap.size xs xs.length 0) := hlaid
 have HB : Hid (Below w.heap.size w w1) := hbel
 clear hown hgrow hlaid hbel hi hz0 hz1 hz2
 go_wp2_with fail
 go_loopw [4] (fun i wr => ∃ k : Nat, k ≤ xs.length ∧ i = .int .i64 k ∧ SlLaid strL1 1 wr w.heap.size xs xs.length k ∧ Below w.heap.size w wr) (fun i _ => xs.length - (intOf i).toNat)
 case atStart => exact ⟨0, Nat.zero_le _, rfl, HY.out, HB.out⟩
 case round =>
  obtain ⟨k, hk, rfl, hy, hbel⟩ := hrel
  have HK : Hid (SlLaid strL1 1 wr w.heap.size xs xs.length k) := hy
  have HL : Hid (Below w.heap.size w wr) := hbel
  clear hy hbel
  by_cases hlt : k < xs.length
  ·obtain ⟨b, off, rfl, hb, hat⟩ := HR.out.at hlt
   have HA := (hat.below hb HL.out) k hlt
   obtain ⟨q, hq⟩ : ∃ q, q = xs[k] := ⟨_, rfl⟩
   rw [← hq] at HA
   have c0 : wr.cell? ⟨b, off + k * 1, none⟩ = some (.string q) := HA 0 _ rfl
   rw [Nat.mul_one] at c0
   have HQ : Hid (q = xs[k]) := hq
   clear hq HA hat
   obtain ⟨v0, t0⟩ := Option.isSome_iff_exists.1 (HK.out.there (k * 1) (by omega))
   have f0 := HK.out.free (k * 1) (by omega)
   rw [Nat.mul_one] at t0 f0
   have hset := HK.out.set strL1_length hlt hlt
   rw [← HQ.out] at hset
   have HSET : Hid (SlLaid strL1 1 (wr.setCell ⟨w.heap.size, k, none⟩ (.string q)) w.heap.size xs xs.length (k + 1)) := by
    have := hset
    simp only [Nat.mul_one] at this
    exact this
   clear hset
   go_wp2_with fail
   go_roundw
   case rel => exact ⟨k + 1, by omega, by go_num, HSET.out, HL.out.setCell (Nat.le_refl _) _⟩
   case measure => simp [intOf]; omega
  ·have hkl : k = xs.length := by omega
   have HE : Hid (SlLaid strL1 1 wr w.heap.size xs xs.length xs.length) := by have h := HK.out; rw [hkl] at h; exact h
   clear HK
   go_wp2_with fail
   go_ret
   exact ⟨rfl, HL.out, HE.out⟩

set_option maxRecDepth 100000 in
set_option maxHeartbeats 1000000 in
theorem eqStringS_same (xs : List ByteArray) (a1 a2 : Option Addr) (cap1 cap2 : Nat) (w : World) (hlen : xs.length ≤ 1048576) (h1 : SlIs strL1 1 w a1 xs) (h2 : SlIs strL1 1 w a2 xs) :
  Calls Tryz.prog 41 #[.slice a1 xs.length cap1, .slice a2 xs.length cap2] w fun e w' => e = .returned (.bool true) ∧ Below w.heap.size w w' := by
 have H1 : Hid (SlIs strL1 1 w a1 xs) := h1
 have H2 : Hid (SlIs strL1 1 w a2 xs) := h2
 clear h1 h2
 go_enter Tryz.func41, Tryz.ntmps41
 go_wp2_with fail
 go_loopw [5] (fun i wr => ∃ k : Nat, k ≤ xs.length ∧ i = .int .i64 k ∧ Below w.heap.size w wr) (fun i _ => xs.length - (intOf i).toNat)
 case atStart => exact ⟨0, Nat.zero_le _, rfl, Below.refl _ _⟩
 case round =>
  obtain ⟨k, hk, rfl, hbel⟩ := hrel
  have HL : Hid (Below w.heap.size w wr) := hbel
  clear hbel
  by_cases hlt : k < xs.length
  ·obtain ⟨b1, o1, rfl, hb1, hA⟩ := H1.out.at hlt
   obtain ⟨b2, o2, rfl, hb2, hB⟩ := H2.out.at hlt
   have hA := (hA.below hb1 HL.out) k hlt
   have hB := (hB.below hb2 HL.out) k hlt
   obtain ⟨q, hq⟩ : ∃ q, q = xs[k] := ⟨_, rfl⟩
   rw [← hq] at hA hB
   have c0 : wr.cell? ⟨b1, o1 + k * 1, none⟩ = some (.string q) := hA 0 _ rfl
   have d0 : wr.cell? ⟨b2, o2 + k * 1, none⟩ = some (.string q) := hB 0 _ rfl
   rw [Nat.mul_one] at c0 d0
   clear hq hA hB
   have hqq : (q.toList == q.toList) = true := by simp
   go_wp2_with fail
   go_quiet (fail)
   go_wp2_with fail
   go_roundw
   case rel => exact ⟨k + 1, by omega, by go_num, ⟨HL.out.os, HL.out.tape, HL.out.output, HL.out.size, HL.out.block⟩⟩
   case measure => simp [intOf]; omega
  ·go_wp2_with fail
   go_ret
   exact ⟨rfl, HL.out⟩

/-- The mark of one. -/
def strM (k : Nat) : List Value := [.string (markV k)]
theorem strM_length (k : Nat) : (strM k).length = 1 := rfl

set_option maxRecDepth 100000 in
set_option maxHeartbeats 2000000 in
theorem markStringS_any (B L cap k : Nat) (w : World) (hk : 0 < k) (hL : k + 1 * L ≤ 1073741824) (hs : SlLaid strM 1 w B (marksOf 1 k L) L 0) :
  Calls Tryz.prog 45 #[.slice (some ⟨B, 0, none⟩) L cap, .int .i64 k] w fun e w' => e = .returned (.int .i64 ((k + 1 * L : Nat) : Int)) ∧ SlLaid strM 1 w' B (marksOf 1 k L) L L ∧ w.grownBy w' (some B) := by
 have HS : Hid _ := hs
 clear hs
 go_enter Tryz.func45, Tryz.ntmps45
 go_wp2_with fail
 go_loopw [1, 5] (fun kv i wr => ∃ m : Nat, m ≤ L ∧ i = .int .i64 m ∧ kv = .int .i64 ((k + 1 * m : Nat) : Int) ∧ SlLaid strM 1 wr B (marksOf 1 k L) L m ∧ w.grownBy wr (some B)) (fun _ i _ => L - (intOf i).toNat)
 case atStart => exact ⟨0, Nat.zero_le _, rfl, rfl, HS.out, World.grownBy.refl _ _⟩
 case round =>
  obtain ⟨m, hm, rfl, rfl, hy, hg⟩ := hrel
  have HK : Hid (MkSt strM 1 w B k L m [] wr) := MkSt.new hy hg
  clear hy hg HS
  by_cases hlt : m < L
  ·obtain ⟨kk, hkk⟩ : ∃ kk, kk = k + 1 * m := ⟨_, rfl⟩
   have HKK : Hid (kk = k + 1 * m) := hkk
   rw [← hkk]
   have hk1 : 0 < kk := by omega
   have hk2 : kk + 1 ≤ 1073741824 := by omega
   clear hkk
   go_wp2_with fail
   refine (markText_at _ kk _ (by omega) (by omega) (by omega)).mono ?_
   rintro e wA1 ⟨rfl, qA1⟩
   have HA1 : Hid (MkSt strM 1 w B k L m [] wA1) := HK.out.call qA1
   clear qA1 HK
   obtain ⟨v0, t0⟩ := HA1.out.there (j := 0) hlt (by omega)
   have f0 := HA1.out.free (j := 0) hlt (by omega)
   rw [Nat.add_zero, Nat.mul_one] at t0 f0
   have hF : Hid (MkSt strM 1 w B k L m (strM kk) _) := HA1.out.put strM_length (by simp) hlt (.string (markV kk))
   go_wp2_with fail
   go_roundw
   case rel =>
    exact ⟨m + 1, by omega, by go_num, by have := HKK.out; congr 1; omega, by have := hF.out.next strM_length (by rw [HKK.out]) hlt; simpa using this, by have := hF.out.grown; simpa using this⟩
   case measure => simp [intOf]; omega
  ·have hml : m = L := by omega
   have HE : Hid (SlLaid strM 1 wr B (marksOf 1 k L) L L ∧ w.grownBy wr (some B)) := ⟨by have h := HK.out.laid; rw [hml] at h; exact h, HK.out.grown⟩
   clear HK
   go_wp2_with fail
   go_ret
   exact ⟨ret_int (by rw [hml]), HE.out.1, HE.out.2⟩

theorem markStringS_nil (a : Option Addr) (cap k : Nat) (w : World) (hL : k ≤ 1073741824) :
  Calls Tryz.prog 45 #[.slice a 0 cap, .int .i64 k] w fun e w' => e = .returned (.int .i64 (k : Int)) ∧ w' = w := by
 go_enter Tryz.func45, Tryz.ntmps45
 go_wp2_with fail
 go_loopw [1, 5] (fun kv i wr => kv = .int .i64 k ∧ i = .int .i64 0 ∧ wr = w) (fun _ _ _ => 0)
 case atStart => exact ⟨rfl, rfl, rfl⟩
 case round =>
  obtain ⟨rfl, rfl, rfl⟩ := hrel
  go_wp2_with fail
  go_ret
  exact ⟨rfl, rfl⟩
end Go.Proofs.YtilnnihongokealGreatDoor

/- LawLives: the laws' helpers for Lives, its box, and one that came in, opened. Printed by mkflat.py. -/
namespace Go.Proofs.YtilnnihongokealGreatDoor
open Go.RowKit Go.PlainAid Go.ChangeShapes Go.WideShapes
set_option linter.unusedVariables false
set_option linter.unusedSimpArgs false

/-- As memory may hold it. -/
def LvWf (p : Lv) : Prop := In64t p.udp ∧ In64t p.echo ∧ In64t p.opening ∧ In64t p.opn ∧ In64t p.closing
/-- It lies in a block. -/
structure BoxLives (w : World) (B : Nat) (p : Lv) : Prop where
 c0 : w.cell? ⟨B, 0, none⟩ = some (.int .i64 p.udp)
 c1 : w.cell? ⟨B, 1, none⟩ = some (.int .i64 p.echo)
 c2 : w.cell? ⟨B, 2, none⟩ = some (.int .i64 p.opening)
 c3 : w.cell? ⟨B, 3, none⟩ = some (.int .i64 p.opn)
 c4 : w.cell? ⟨B, 4, none⟩ = some (.int .i64 p.closing)
theorem BoxLives.kept {w W : World} {B : Nat} {p : Lv} (h : BoxLives w B p) (hB : Below w.heap.size w W) : BoxLives W B p := by
 have hb := World.block_lt_of_cell? w _ h.c0
 exact ⟨((bcell hB).1 B 0 hb).trans h.c0, ((bcell hB).1 B 1 hb).trans h.c1, ((bcell hB).1 B 2 hb).trans h.c2, ((bcell hB).1 B 3 hb).trans h.c3, ((bcell hB).1 B 4 hb).trans h.c4⟩
theorem BoxLives.new (w : World) (p : Lv) {t : TypeId} : BoxLives (w.alloc (.cells #[.int .i64 p.udp, .int .i64 p.echo, .int .i64 p.opening, .int .i64 p.opn, .int .i64 p.closing] t)) w.heap.size p := ⟨cell_new rfl, cell_new rfl, cell_new rfl, cell_new rfl, cell_new rfl⟩

section
variable {H : Type} {enc : TypeId × Value → H} {w : World} {base : Nat} {spare : Nat → Bool} {held : Bool}
end

set_option maxRecDepth 100000 in
set_option maxHeartbeats 1000000 in
theorem toLives_any (p : Lv) (w : World) :
  Calls Tryz.prog 27 #[lvC p] w fun e w' => e = .returned (lvC p) ∧ Below w.heap.size w w' := by
 obtain ⟨udp, echo, opening, opn, closing⟩ := p
 unfold lvC
 dsimp only
 go_enter Tryz.func27, Tryz.ntmps27
 go_wp2_with fail
 refine bodyPost_ret (v := .agg #[.int .i64 udp, .int .i64 echo, .int .i64 opening, .int .i64 opn, .int .i64 closing]) (by simp [results, Tryz.results27, go_sem]) rfl ⟨rfl, ?_⟩
 exact (((Below.refl _ _).alloc (Nat.le_refl _) _).alloc (by simp) _).alloc (by simp; omega) _

set_option maxRecDepth 100000 in
set_option maxHeartbeats 1000000 in
theorem eqLives_same (p : Lv) (w : World) :
  Calls Tryz.prog 42 #[lvC p, lvC p] w fun e w' => e = .returned (.bool true) ∧ Below w.heap.size w w' := by
 obtain ⟨udp, echo, opening, opn, closing⟩ := p
 unfold lvC
 dsimp only
 have HZ : Hid (Below w.heap.size w ((w.alloc (.cells #[.int .i64 udp, .int .i64 echo, .int .i64 opening, .int .i64 opn, .int .i64 closing] 45)).alloc (.cells #[.int .i64 udp, .int .i64 echo, .int .i64 opening, .int .i64 opn, .int .i64 closing] 45))) := ((Below.refl _ _).alloc (Nat.le_refl _) _).alloc (by simp) _
 go_enter Tryz.func42, Tryz.ntmps42
 go_wp2_with fail
 go_ret
 exact ⟨rfl, HZ.out⟩

end Go.Proofs.YtilnnihongokealGreatDoor

/- HoldL: structs of many cells in blocks of their own, whatever their number: the cells as a list; nothing of the program. -/
namespace Go.Proofs.YtilnnihongokealGreatDoor
open Go.RowKit
set_option linter.unusedVariables false
set_option linter.unusedSimpArgs false

/-- The cells cs lie in block B from its head on, and may be written. -/
structure HoldsL (w : World) (B : Nat) (cs : List Value) : Prop where
 at0 : w.rangeAt B 0 cs
 th : w.there B 0 cs.length

section
variable {w W : World} {B : Nat} {cs : List Value}
theorem HoldsL.new (w : World) (cs : List Value) (t : TypeId) : HoldsL (w.alloc (.cells cs.toArray t)) w.heap.size cs :=
 ⟨fun j v hv => by rw [Nat.zero_add, cell_of_row _ w.heap.size j cs.toArray t (0, 0) (heap_alloc_new w _)]; simpa using hv,
   fun j hj => ⟨by rw [Nat.zero_add, cell_of_row _ w.heap.size j cs.toArray t (0, 0) (heap_alloc_new w _)]; simp [hj], by simp⟩⟩
theorem HoldsL.cell (h : HoldsL w B cs) {j : Nat} {v : Value} (hv : cs[j]? = some v) : w.cell? ⟨B, j, none⟩ = some v := by
 have := h.at0 j v hv; rwa [Nat.zero_add] at this
theorem HoldsL.free (h : HoldsL w B cs) {j : Nat} (hj : j < cs.length) : w.frozen? ⟨B, j, none⟩ = false := by
 have := (h.th j hj).2; rwa [Nat.zero_add] at this
theorem HoldsL.lt (h : HoldsL w B cs) (hl : 0 < cs.length) : B < w.heap.size := by
 obtain ⟨v, hv⟩ := Option.isSome_iff_exists.1 (h.th 0 hl).1
 exact World.block_lt_of_cell? w _ hv
theorem HoldsL.of_block (hb : W.heap[B]? = w.heap[B]?) (h : HoldsL w B cs) : HoldsL W B cs := by
 have hc : ∀ j, W.cell? ⟨B, j, none⟩ = w.cell? ⟨B, j, none⟩ := fun j => by unfold World.cell?; rw [show (⟨B, j, none⟩ : Addr).block = B from rfl, hb]
 exact ⟨fun j v hv => by rw [hc]; exact h.at0 j v hv, fun j hj => ⟨by rw [hc]; exact (h.th j hj).1, (World.frozen?_of_block (a := ⟨B, 0 + j, none⟩) hb).trans (h.th j hj).2⟩⟩
theorem HoldsL.kept (h : HoldsL w B cs) (hl : 0 < cs.length) (hB : Below w.heap.size w W) : HoldsL W B cs := h.of_block (hB.block B (h.lt hl))
theorem HoldsL.grown {row : Option Nat} (h : HoldsL w B cs) (hl : 0 < cs.length) (hg : w.grownBy W row) (hr : some B ≠ row) : HoldsL W B cs := h.of_block (hg.block B (h.lt hl) hr)
theorem HoldsL.alloc (h : HoldsL w B cs) (o : Obj) : HoldsL (w.alloc o) B cs := ⟨World.rangeAt_alloc h.at0 o, World.there_alloc h.th o⟩
theorem HoldsL.drew (h : HoldsL w B cs) : HoldsL w.drew B cs := ⟨by simpa using h.at0, by simpa using h.th⟩
theorem HoldsL.set (h : HoldsL w B cs) (j : Nat) (v : Value) : HoldsL (w.setCell ⟨B, j, none⟩ v) B (cs.set j v) := by
 refine ⟨fun i u hu => ?_, fun i hi => ⟨?_, by rw [World.frozen?_setCell]; exact (h.th i (by simpa using hi)).2⟩⟩
 ·rw [Nat.zero_add]
  by_cases e : i = j
  ·subst e
   have hi : i < cs.length := by
    rw [List.getElem?_set] at hu
    by_cases e : i < cs.length
    ·exact e
    ·simp [e] at hu
   obtain ⟨x, hx⟩ := Option.isSome_iff_exists.1 (h.th i hi).1
   rw [Nat.zero_add] at hx
   rw [World.cell?_setCell_same _ _ _ hx]
   rw [List.getElem?_set_self hi] at hu
   exact hu
  ·rw [World.cell?_setCell_other _ _ _ _ (fun e2 => e (by injection e2 with _ h2; exact h2.symm))]
   rw [List.getElem?_set_ne (fun e2 => e e2.symm)] at hu
   exact h.cell hu
 ·have hi' : i < cs.length := by simpa using hi
  obtain ⟨x, hx⟩ := Option.isSome_iff_exists.1 (h.th i hi').1
  by_cases e : i = j
  ·subst e; rw [Nat.zero_add] at hx ⊢; rw [World.cell?_setCell_same _ _ _ hx]; rfl
  ·rw [Nat.zero_add] at hx ⊢; rw [World.cell?_setCell_other _ _ _ _ (fun e2 => e (by injection e2 with _ h2; exact h2.symm)), hx]; rfl
theorem HoldsL.setOther (h : HoldsL w B cs) {C j : Nat} (hne : B ≠ C) (v : Value) : HoldsL (w.setCell ⟨C, j, none⟩ v) B cs :=
 h.of_block (Below.heap_setCell w _ v B (fun e => hne (by simpa using e)))
theorem HoldsL.setCells (h : HoldsL w B cs) (ds : List Value) (hl : ds.length = cs.length) : HoldsL (w.setCells B 0 ds) B ds :=
 ⟨World.rangeAt_setCells_same w B 0 ds (by rw [hl]; exact h.th), by rw [hl]; exact World.there_setCells h.th B 0 ds⟩
end

/-- A result that is a struct in a block of its own. -/
theorem results_mid {P : Program} {fn : Func} {p : Tmp} {ty : TypeId} (h : fn.results = #[.cell p ty]) (tmps : Array Value) (w : World) (g : Nat) (cs : List Value) (d : TypeDesc)
  (hp : tmps.getD p undef = .pointer (some ⟨g, 0, none⟩)) (hc : HoldsL w g cs) (hu : P.underlying ty = some d) (hd : d.isRow = true) (hi : (P.info? ty).map (·.size) = some cs.length) :
  (results fn tmps).run P w = .ok (.agg cs.toArray) w := by
 have hp' : tmps[p]?.getD undef = .pointer (some ⟨g, 0, none⟩) := by simpa using hp
 simp [results, h, hp', asAddr, run_loadVar_mid w g 0 ty cs d hc.at0 hu hd hi]
end Go.Proofs.YtilnnihongokealGreatDoor
