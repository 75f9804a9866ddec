/- ICur: what the program's take, number and rest answer. -/
import Derived.Test.YtofenlclefkgdaaMerged2
import Derived.Test.YtofenlclefkgdaaMerged4
import Derived.WalkLawsBesides
import Derived.RegionTactic
import Derived.Deep.QuietTactic
import Derived.Deep.RegionWith
import Derived.Deep.DeepCutAuto
namespace Go.Proofs.Ytofenlclefkgdaa
open Go.RowKit Go.PlainAid
set_option linter.unusedVariables false
set_option linter.unusedSimpArgs false

/-- A cursor in block B: its text's bytes lie in block b, it stands at k. -/
structure CurAt (w : World) (B b cap : Nat) (t : ByteArray) (k : Nat) : Prop where
 c0 : w.cell? ⟨B, 0, none⟩ = some (.slice (some ⟨b, 0, none⟩) t.size cap)
 f0 : w.frozen? ⟨B, 0, none⟩ = false
 c1 : w.cell? ⟨B, 1, none⟩ = some (.int .i64 k)
 f1 : w.frozen? ⟨B, 1, none⟩ = false
 bs : ∀ i, i < t.size → w.cell? ⟨b, i, none⟩ = some (.int .u8 (bt t i))
 ne : b ≠ B
 lt : b < w.heap.size
 cp : t.size ≤ cap

theorem CurAt.kept {w W : World} {B b cap : Nat} {t : ByteArray} {k : Nat} (h : CurAt w B b cap t k) (hB : Below w.heap.size w W) : CurAt W B b cap t k := by
 have hb := World.block_lt_of_cell? w _ h.c0
 exact ⟨((bcell hB).1 B 0 hb).trans h.c0, ((bcell hB).2 B 0 hb).trans h.f0, ((bcell hB).1 B 1 hb).trans h.c1, ((bcell hB).2 B 1 hb).trans h.f1, fun i hi => ((bcell hB).1 b i h.lt).trans (h.bs i hi), h.ne, Nat.lt_of_lt_of_le h.lt hB.size, h.cp⟩
theorem CurAt.step {w : World} {B b cap : Nat} {t : ByteArray} {k : Nat} (h : CurAt w B b cap t k) (k' : Nat) : CurAt (w.setCell ⟨B, 1, none⟩ (.int .i64 k')) B b cap t k' := by
 refine ⟨?_, by simpa using h.f0, World.cell?_setCell_same _ _ _ h.c1, by simpa using h.f1, fun i hi => ?_, h.ne, by simpa using h.lt, h.cp⟩
 ·rw [World.cell?_setCell_other _ _ _ _ (fun e => by injection e with _ h2; omega)]; exact h.c0
 ·rw [World.cell?_setCell_other _ _ _ _ (fun e => by injection e with h1 _; exact h.ne h1.symm)]; exact h.bs i hi
theorem CurAt.other {w : World} {B b cap : Nat} {t : ByteArray} {k : Nat} (h : CurAt w B b cap t k) {C o : Nat} (v : Value) (h1 : C ≠ B) (h2 : C ≠ b) : CurAt (w.setCell ⟨C, o, none⟩ v) B b cap t k := by
 have hc : ∀ X j, C ≠ X → (w.setCell ⟨C, o, none⟩ v).cell? ⟨X, j, none⟩ = w.cell? ⟨X, j, none⟩ := fun X j hX => World.cell?_setCell_other w _ _ v (fun e => hX (congrArg Addr.block e))
 exact ⟨(hc B 0 h1).trans h.c0, by simpa using h.f0, (hc B 1 h1).trans h.c1, by simpa using h.f1, fun i hi => (hc b i h2).trans (h.bs i hi), h.ne, by simpa using h.lt, h.cp⟩

/-- The panic of a text that ends too early. -/
def shortE : PanicEntry := { v := .iface 9 (.string ⟨#[116, 104, 101, 32, 116, 101, 120, 116, 32, 101, 110, 100, 115, 32, 116, 111, 111, 32, 101, 97, 114, 108, 121]⟩), recovered := false }

theorem bt_list {s : ByteArray} {j : Nat} (h : j < s.data.toList.length) : (s.data.toList[j].toNat : Int) = bt s j := by
 have h' : j < s.size := by rw [Array.length_toList] at h; exact h
 unfold bt
 rw [dif_pos h', ByteArray.getElem_eq_getElem_data]
 simp

theorem take_conv {w : World} {b k n cap : Nat} {t : ByteArray} (bs : ∀ i, i < t.size → w.cell? ⟨b, i, none⟩ = some (.int .u8 (bt t i))) (h : k + n ≤ t.size) :
  (convert 22 9 (.slice (some ⟨b, k, none⟩) n cap)).run Try.prog w = .ok (.string (t.extract k (k + n))) w := by
 have hl : (t.extract k (k + n)).data.toList.length = n := by
  have : (t.extract k (k + n)).size = n := by rw [ByteArray.size_extract]; omega
  rw [Array.length_toList]; exact this
 have := run_convert_bytes_back (P := Try.prog) w 22 9 5 ⟨b, k, none⟩ cap ((t.extract k (k + n)).data.toList) Try.underlying22 Try.underlying5 Try.underlying9 (by
  intro j hj
  have hj' : j < n := by omega
  have ha : Addr.add ⟨b, k, none⟩ j = ⟨b, k + j, none⟩ := by simp only [Addr.add]; split <;> simp_all
  rw [ha, bs (k + j) (by omega), bt_list hj, bt_extract t k (k + n) j h, if_pos (by omega)])
 rw [hl] at this
 exact this

theorem Try.undElemB : Try.prog.underlying 22 = some (.slice (Try.prog.elem 22)) := by kernel_rfl
theorem Try.sizeElemB (w : World) : (sizeOf (Try.prog.elem 22)).run Try.prog w = .ok 1 w := by kernel_rfl
/-- A slice of a row of bytes, and its text. -/
theorem take_slice {w : World} {b k n cap : Nat} {t : ByteArray} (bs : ∀ i, i < t.size → w.cell? ⟨b, i, none⟩ = some (.int .u8 (bt t i))) (h : k + n ≤ t.size) (hc : t.size ≤ cap) :
  ∃ sv, (Instr.slice 22 (.slice (some ⟨b, 0, none⟩) t.size cap) (some (.int .i64 k)) (some (.int .i64 ((k : Int) + n))) none).run Try.prog w = .ok sv w ∧
   (convert 22 9 sv).run Try.prog w = .ok (.string (t.extract k (k + n))) w := by
 have h1 := run_slice_lh (P := Try.prog) w 22 (some ⟨b, 0, none⟩) t.size cap Try.undElemB .i64 .i64 (k : Int) ((k : Int) + n) (by omega) (by omega) (by omega)
 rw [Try.sizeElemB, show ((k : Int) + n).toNat = k + n by omega, show (k : Int).toNat = k by omega] at h1
 refine ⟨_, h1, ?_⟩
 simp only [sliced, show k + n - k = n by omega]
 by_cases e : cap = k
 ·have hn : n = 0 := by omega
  subst hn
  have := take_conv (w := w) (b := b) (k := 0) (n := 0) (cap := cap - k) (t := t) bs (by omega)
  have e2 : t.extract k (k + 0) = t.extract 0 (0 + 0) := by apply ByteArray.ext; simp
  simpa [e, e2] using this
 ·have ha : Addr.add ⟨b, 0, none⟩ k = ⟨b, k, none⟩ := by simp only [Addr.add]; split <;> simp_all
  simpa [e, ha] using take_conv (w := w) (b := b) (k := k) (n := n) (cap := cap - k) (t := t) bs h

set_option maxHeartbeats 1000000 in
theorem take_ok (w : World) (B b cap : Nat) (t : ByteArray) (k n : Nat) (h : CurAt w B b cap t k) (hn : k + n ≤ t.size) (hs : t.size ≤ 100000) :
  Calls Try.prog 55 #[.pointer (some ⟨B, 0, none⟩), .int .i64 n] w fun e w' => e = .returned (.string (t.extract k (k + n))) ∧ Below w.heap.size (w.setCell ⟨B, 1, none⟩ (.int .i64 (k + n : Nat))) w' := by
 have hge : decide ((t.size : Int) - (k : Int) < (n : Int)) = false := by simp; omega
 obtain ⟨c0, f0, c1, f1, bs, ne, lt, cp⟩ := h
 have HS : Hid (CurAt (w.setCell ⟨B, 1, none⟩ (.int .i64 (k + n : Nat))) B b cap t (k + n)) := CurAt.step ⟨c0, f0, c1, f1, bs, ne, lt, cp⟩ _
 clear bs
 go_enter Try.func55, Try.ntmps55
 go_wp2_with fail
 go_region
 go_wp2_with fail
 have HW : Hid (CurAt (w.setCell ⟨B, 1, none⟩ (.int .i64 ((k : Int) + n))) B b cap t (k + n)) := HS.out
 clear c0 f0 c1 f1
 have HZ : Hid (Below w.heap.size (w.setCell ⟨B, 1, none⟩ (.int .i64 (k + n : Nat))) (w.setCell ⟨B, 1, none⟩ (.int .i64 ((k : Int) + n)))) := Below.refl _ _
 generalize w.setCell ⟨B, 1, none⟩ (.int .i64 ((k : Int) + n)) = W at *
 obtain ⟨c0, f0, c1, f1, bs, -, lt2, -⟩ := HW.out
 obtain ⟨sv, hsl, hcv⟩ := take_slice (w := W.drew.drew) bs hn cp
 clear bs
 go_region
 all_goals go_wp2_with fail
 all_goals go_ret
 all_goals exact ⟨rfl, HZ.out.drew.drew⟩

set_option maxHeartbeats 1000000 in
theorem take_short (w : World) (B b cap : Nat) (t : ByteArray) (k n : Nat) (h : CurAt w B b cap t k) (hn : ¬ k + n ≤ t.size) (hk : k ≤ t.size) (hs : t.size ≤ 100000) (hb : n ≤ 100000) :
  Calls Try.prog 55 #[.pointer (some ⟨B, 0, none⟩), .int .i64 n] w fun e w' => e = .panicked [shortE] ∧ Below w.heap.size w w' := by
 have hge : decide ((t.size : Int) - (k : Int) < (n : Int)) = true := by simp; omega
 obtain ⟨c0, f0, c1, f1, bs, ne, lt, cp⟩ := h
 clear bs
 have HP : Hid (∀ W : World, Below w.heap.size w W.drew → Below w.heap.size w W.drew) := fun _ h => h
 go_enter Try.func55, Try.ntmps55
 go_wp2_with fail
 go_region
 go_wp2_with fail
 exact ⟨rfl, rfl, (Below.refl _ _).drew⟩

/-- The number of some bytes, the highest first. -/
def numN (f : Nat → Int) (k : Nat) : Nat → Int
 | 0 => 0
 | j + 1 => numN f k j * 256 + f (k + j)
theorem numN_range {f : Nat → Int} (hf : isByte f) (k : Nat) : ∀ j, 0 ≤ numN f k j ∧ numN f k j < 256 ^ j
 | 0 => by simp [numN]
 | j + 1 => by
  have := numN_range hf k j
  have hb := hf (k + j)
  rw [Int.pow_succ]
  simp only [numN]
  omega
theorem join8 (a b : Int) (ha : 0 ≤ a) (ha' : a ≤ 16777215) (hb : 0 ≤ b) (hb' : b ≤ 255) : bits .or .i64 (a * 256) b = a * 256 + b :=
 bits_join .i64 63 (by decide) wraps_i64 8 (a * 256) b (by omega) (by omega) (by omega) hb (by omega) (by omega)

set_option maxHeartbeats 1000000 in
theorem number_ok (w : World) (B b cap : Nat) (t : ByteArray) (k n : Nat) (h : CurAt w B b cap t k) (hn : k + n ≤ t.size) (hs : t.size ≤ 100000) (h4 : n ≤ 4) :
  Calls Try.prog 54 #[.pointer (some ⟨B, 0, none⟩), .int .i64 n] w fun e w' => e = .returned (.int .i64 (numN (bt t) k n)) ∧ Below w.heap.size (w.setCell ⟨B, 1, none⟩ (.int .i64 (k + n : Nat))) w' := by
 have HT : Hid _ := take_ok w B b cap t k n h hn hs
 have hz : (t.extract k (k + n)).size = n := by rw [ByteArray.size_extract]; omega
 have HE : Hid (∀ j, j < n → bt (t.extract k (k + n)) j = bt t (k + j)) := fun j hj => by rw [bt_extract t k (k + n) j hn, if_pos (by omega)]
 have HR : Hid (∀ j, 0 ≤ numN (bt t) k j ∧ numN (bt t) k j < 256 ^ j) := numN_range (bt_isByte t) k
 have HX : Hid (∀ j, numN (bt t) k (j + 1) = numN (bt t) k j * 256 + bt t (k + j)) := fun _ => rfl
 have hb := bt_isByte t
 clear h
 generalize t.extract k (k + n) = s at *
 go_enter Try.func54, Try.ntmps54
 go_wp2_with fail
 refine Calls.mono HT.out ?_
 rintro e w1 ⟨rfl, hB1⟩
 obtain ⟨cap2, W2, hcv, hold, hB2, hcp⟩ := bytes_new w1 s
 have HB : Hid (Below w.heap.size (w.setCell ⟨B, 1, none⟩ (.int .i64 (k + n : Nat))) W2) := hB1.trans (hB2.mono (by simpa using hB1.size))
 have HH : Hid (Holds W2 w1.heap.size s.size (bt s)) := hold
 clear hold hB1 hB2 HT
 go_wp2_with fail
 go_loop [5, 13] (fun v i => ∃ j : Nat, j ≤ n ∧ i = .int .i64 j ∧ v = .int .i64 (numN (bt t) k j)) (fun _ i => n - (intOf i).toNat)
 case atStart => exact ⟨0, Nat.zero_le _, rfl, rfl⟩
 case round =>
  obtain ⟨j, hj, rfl, rfl⟩ := hrel
  by_cases hlt : j < n
  ·have hc := (HH.out.get j (by omega)).1
   rw [HE.out j hlt] at hc
   have hx := HX.out j
   have hr := HR.out j
   have hbj := hb (k + j)
   have hp : (256 : Int) ^ j ≤ 16777216 := by
    have : j = 0 ∨ j = 1 ∨ j = 2 ∨ j = 3 := by omega
    rcases this with rfl | rfl | rfl | rfl <;> decide
   obtain ⟨x, hx0⟩ : ∃ x, x = numN (bt t) k j := ⟨_, rfl⟩
   obtain ⟨y, hy0⟩ : ∃ y, y = bt t (k + j) := ⟨_, rfl⟩
   rw [← hx0, ← hy0] at hx
   rw [← hx0] at hr
   rw [← hy0] at hbj hc
   rw [← hx0]
   have HXX : Hid (numN (bt t) k (j + 1) = x * 256 + y) := hx
   have hr1 : x ≤ 16777215 := by omega
   have hr0 := hr.1
   have hjn := join8 x y hr0 hr1 hbj.1 hbj.2
   have hb0 := hbj.1
   have hb1 := hbj.2
   clear hx hr hbj hb hp hx0 hy0
   go_wp2_with fail
   go_round
   case rel => exact ⟨j + 1, by omega, by go_num, by rw [HXX.out]⟩
   case measure => simp [intOf]; omega
  ·have e : j = n := by omega
   subst e
   clear hb
   go_wp2_with fail
   go_ret
   exact ⟨rfl, HB.out⟩

set_option maxHeartbeats 1000000 in
theorem number_short (w : World) (B b cap : Nat) (t : ByteArray) (k n : Nat) (h : CurAt w B b cap t k) (hn : ¬ k + n ≤ t.size) (hk : k ≤ t.size) (hs : t.size ≤ 100000) (hb : n ≤ 100000) :
  Calls Try.prog 54 #[.pointer (some ⟨B, 0, none⟩), .int .i64 n] w fun e w' => e = .panicked [shortE] ∧ Below w.heap.size w w' := by
 have HT : Hid _ := take_short w B b cap t k n h hn hk hs hb
 go_enter Try.func54, Try.ntmps54
 go_wp2_with fail
 refine Calls.mono HT.out ?_
 rintro e w1 ⟨rfl, hB1⟩
 go_wp2_with fail
 exact ⟨rfl, rfl, hB1⟩

end Go.Proofs.Ytofenlclefkgdaa
