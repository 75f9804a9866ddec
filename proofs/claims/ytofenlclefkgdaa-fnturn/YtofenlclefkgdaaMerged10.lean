/- HdLay, IV4A, in one text. -/
import Derived.Test.YtofenlclefkgdaaMerged5
import Derived.Test.YtofenlclefkgdaaMerged9
import Derived.Laws.IdiomCopy
import Derived.Deep.OwnRows
import Derived.Lib.LazyBuf
import Derived.Lib.BufferWrite
import Derived.Test.YtofenlclefkgdaaMerged3
import Derived.Deep.DeepCutAuto

/- HdLay: a row of bytes into which texts are copied, as one text; nothing of the program. -/
namespace Go.Proofs.Ytofenlclefkgdaa
open Go.RowKit Go.PlainAid Go.Lib
set_option linter.unusedVariables false
set_option linter.unusedSimpArgs false

def zs (n : Nat) : ByteArray := ⟨Array.replicate n 0⟩
theorem zs_size (n : Nat) : (zs n).size = n := by unfold zs; simp [ByteArray.size]
theorem zs_add (a b : Nat) : zs (a + b) = zs a ++ zs b := by
 unfold zs
 apply ByteArray.ext
 simp [ByteArray.data_append]
theorem zs_two : zs 2 = twoV 0 := rfl
theorem strCells_zs (n : Nat) : strCells (zs n) = List.replicate n (.int .u8 0) := by unfold strCells zs; simp

theorem made_zs (n : Nat) : (madeCells (Value.int .u8 0).cells (n * 1)).toList = strCells (zs n) := by
 rw [strCells_zs]
 show (madeCells #[Value.int .u8 0] (n * 1)).toList = _
 rw [toList_madeCells_one]; simp
/-- A text copied over a part of its length. -/
theorem lay_at {w : World} {g o : Nat} {A Z B s : ByteArray} (h : HoldsL w g (strCells (A ++ Z ++ B))) (hA : A.size = o) (hZ : Z.size = s.size) : HoldsL (w.setCells g o (strCells s)) g (strCells (A ++ s ++ B)) := by
 have hl : (strCells (A ++ Z ++ B)).length = o + s.size + B.size := by rw [strCells_length]; simp only [ByteArray.size_append]; omega
 have := h.setRange o (strCells s) (by rw [hl, strCells_length]; omega)
 rw [strCells_length] at this
 rw [strCells_append, strCells_append] at this ⊢
 rw [List.append_assoc (strCells A), List.take_left' (by rw [strCells_length]; exact hA), ← List.append_assoc, List.drop_left' (by rw [List.length_append, strCells_length, strCells_length]; omega)] at this
 exact this
theorem below_setCells {w W : World} {B g : Nat} (h : Below B w W) (hg : B ≤ g) : ∀ (cs : List Value) (o : Nat), Below B w (W.setCells g o cs)
 | [], o => h
 | c :: cs, o => by rw [World.setCells]; exact below_setCells (h.setCell (p := ⟨g, o, none⟩) hg c) hg cs (o + 1)
theorem ByteArray.empty_append' (t : ByteArray) : (⟨#[]⟩ : ByteArray) ++ t = t := ByteArray.empty_append
theorem ByteArray.append_empty' (t : ByteArray) : t ++ (⟨#[]⟩ : ByteArray) = t := ByteArray.append_empty
/-- The boxes stand when another block is written. -/
theorem Bxs.cells {w wx : World} {ks : List (Nat × List Value)} (h : Bxs w ks wx) {g : Nat} (hne : ∀ e ∈ ks, e.1 ≠ g) (hg : w.heap.size ≤ g) {o : Nat} {cs : List Value} : Bxs w ks (wx.setCells g o cs) :=
 ⟨fun e he => (h.k e he).setCellsOther (hne e he) cs, below_setCells h.b hg cs o, h.z⟩
theorem hold_of_own {w : World} {base e g n : Nat} {xs : List Value} (h : w.ownsRow base e 1 (.slice (some ⟨g, 0, none⟩) n n) n xs) : HoldsL w g xs := by
 obtain ⟨h1, h2⟩ := h
 rcases h2 with ⟨h2, _⟩ | ⟨g', cap', cur, q1, q2, q3, q4, q5, q6, q7⟩
 ·cases h2
 ·cases q1
  have hx : cur.toList = xs := by rw [← q7]; exact (List.take_of_length_le (by simp; omega)).symm
  refine ⟨fun j v hv => ?_, fun j hj => ⟨?_, ?_⟩⟩
  ·rw [Nat.zero_add, cell_of_row _ g j cur e (0, 0) q3]
   rw [← hx] at hv; simpa using hv
  ·rw [Nat.zero_add, cell_of_row _ g j cur e (0, 0) q3]
   have : j < cur.size := by rw [← hx] at hj; simpa using hj
   simp [this]
  ·rw [Nat.zero_add]; exact frozen_of_row w g j cur e q3
/-- Its cells, byte by byte. -/
theorem hold_bt {w : World} {g : Nat} {t : ByteArray} (h : HoldsL w g (strCells t)) (i : Nat) (hi : i < t.size) : w.cell? ⟨g, i, none⟩ = some (.int .u8 (bt t i)) := h.cell (strCells_at t i hi)

theorem run_lay_string {P : Program} {w : World} {g o dCap : Nat} {A Z B s : ByteArray} (dT sT ty elem : TypeId) (hu : P.underlying dT = some (.slice elem)) (hz : ∀ w, (Go.sizeOf elem).run P w = .ok 1 w) (h : HoldsL w g (strCells (A ++ Z ++ B))) (hA : A.size = o) (hZ : Z.size = s.size) {dLen : Nat} (hd : dLen = s.size) :
  (Builtin.copy_ #[dT, sT] ty #[.slice (some ⟨g, o, none⟩) dLen dCap, .string s]).run P w = .ok (goInt s.size) (w.setCells g o (strCells s)) := by
 have hl : (strCells (A ++ Z ++ B)).length = o + s.size + B.size := by rw [strCells_length]; simp only [ByteArray.size_append]; omega
 exact run_copy_string w dT sT ty elem g o dLen dCap s hu hz (by omega) (fun j hj => by have := (h.th (o + j) (by omega)).1; rwa [Nat.zero_add] at this) (fun j hj => by have := (h.th (o + j) (by omega)).2; rwa [Nat.zero_add] at this)
theorem run_lay_row {P : Program} {w : World} {g o dCap base e g6 : Nat} {A Z B s : ByteArray} (dT sT ty elem : TypeId) (hu : P.underlying dT = some (.slice elem)) (hz : (P.info? elem).map (·.size) = some 1) (h : HoldsL w g (strCells (A ++ Z ++ B))) (hA : A.size = o) (hZ : Z.size = s.size) {dLen sLen : Nat} (hd : dLen = s.size) (hs : sLen = s.size) (hown : w.ownsRow base e 1 (.slice (some ⟨g6, 0, none⟩) sLen sLen) sLen (strCells s)) :
  (Builtin.copy_ #[dT, sT] ty #[.slice (some ⟨g, o, none⟩) dLen dCap, .slice (some ⟨g6, 0, none⟩) sLen sLen]).run P w = .ok (goInt s.size) (w.setCells g o (strCells s)) := by
 have hl : (strCells (A ++ Z ++ B)).length = o + s.size + B.size := by rw [strCells_length]; simp only [ByteArray.size_append]; omega
 have := run_copy_cells (P := P) w dT sT ty elem g o dLen dCap ⟨g6, 0, none⟩ sLen sLen (strCells s) hu hz (by rw [strCells_length, hd, hs]; exact (Nat.min_self _).symm) (fun j v hj => hown.cells (g := g6) rfl j v hj) (fun j hj => by rw [strCells_length] at hj; have := (h.th (o + j) (by omega)).1; rwa [Nat.zero_add] at this) (fun j hj => by rw [strCells_length] at hj; have := (h.th (o + j) (by omega)).2; rwa [Nat.zero_add] at this) (strCells_oneCell _)
 rw [strCells_length] at this
 exact this
end Go.Proofs.Ytofenlclefkgdaa

/- IV4A: what the program's isByte and pieceRight answer. -/
namespace Go.Proofs.Ytofenlclefkgdaa
open Go.RowKit Go.PlainAid
set_option linter.unusedVariables false
set_option linter.unusedSimpArgs false

theorem implByte_any (n : Int) (w : World) :
  Calls Try.prog 32 #[.int .i64 n] w fun e w' => e = .returned (.bool (isIn n 0 255)) ∧ w' = w := by
 by_cases h1 : 0 ≤ n
 ·by_cases h2 : n ≤ 255
  ·have HV : Hid (isIn n 0 255 = true) := by unfold Hid isIn; simp [h1, h2]
   go_enter Try.func32, Try.ntmps32
   go_wp2_with fail
   go_ret
   exact ⟨ret_bool (by rw [HV.out]), rfl⟩
  ·have HV : Hid (isIn n 0 255 = false) := by unfold Hid isIn; simp [h2]
   go_enter Try.func32, Try.ntmps32
   go_wp2_with fail
   go_ret
   exact ⟨ret_bool (by rw [HV.out]), rfl⟩
 ·have HV : Hid (isIn n 0 255 = false) := by unfold Hid isIn; simp [h1]
  have h1' : n < 0 := by omega
  go_enter Try.func32, Try.ntmps32
  go_wp2_with fail
  go_ret
  exact ⟨ret_bool (by rw [HV.out]), rfl⟩

/-- What pieceRight answers. -/
def pcV (off : Int) (more : Bool) (data : ByteArray) (top : Int) : Bool := isIn off 0 8191 && decide (data.size ≤ 1400) && (!more || decide (data.size % 8 = 0)) && decide (8 * off + data.size ≤ top)

theorem v4Ok_prog (p : P4) : v4Ok p = (isIn p.tos 0 255 && (isIn p.ttl 0 255 && (isIn p.proto 0 255 && (isIn p.id 0 65535 && (decide (p.src.size = 4) && (decide (p.dst.size = 4) && (decide (p.opts.size ≤ 40) && (decide (p.opts.size % 4 = 0) && (pcV p.off p.more p.data 65515 && !(p.whole && (p.more || !decide (p.off = 0))))))))))) ) := by
 unfold v4Ok v4A v4B v4C pcV
 simp only [Bool.not_and, Bool.not_not, Bool.not_or]
 ac_rfl

theorem v6Ok_prog (p : P6) : v6Ok p = (isIn p.cls 0 255 && (isIn p.next 0 255 && (isIn p.hops 0 255 && (decide (0 ≤ p.flow) && (decide (p.flow ≤ 1048575) && (decide (p.src.size = 16) && (decide (p.dst.size = 16) && (pcV p.off p.more p.data 65535 && (decide (0 ≤ p.id) && (decide (p.id ≤ 4294967295) && ((p.piece || (!p.more && (decide (p.off = 0) && decide (p.id = 0)))) && !decide (p.next = 44)))))))))) )) := by
 unfold v6Ok v6A v6B pcV isIn
 cases p.piece with
 | true => simp only [if_true, Bool.true_or, Bool.true_and]; ac_rfl
 | false =>
  simp only [Bool.false_or, Bool.false_eq_true, if_false]
  by_cases h1 : p.off = 0
  ·by_cases h2 : p.id = 0
   ·cases hm : p.more with
    | true => simp
    | false =>
     by_cases h3 : p.data.size ≤ 1400
     ·have h4 : (p.data.size : Int) ≤ 65535 := by omega
      simp [h1, h2, h3, h4, Bool.and_assoc, Bool.and_comm, Bool.and_left_comm]
     ·simp [h3]
   ·simp [h2]
  ·simp [h1]

set_option maxHeartbeats 1000000 in
theorem implPiece_any (off : Int) (more : Bool) (data : ByteArray) (top : Int) (w : World) (h4 : data.size ≤ 1048576) :
  Calls Try.prog 34 #[.int .i64 off, .bool more, .string data, .int .i64 top] w fun e w' => e = .returned (.bool (pcV off more data top)) ∧ w' = w := by
 have HV : Hid (pcV off more data top = (decide (0 ≤ off) && decide (off ≤ 8191) && decide (data.size ≤ 1400) && (!more || decide (data.size % 8 = 0)) && decide (8 * off + data.size ≤ top))) := by unfold Hid pcV isIn; rfl
 generalize pcV off more data top = ok at *
 by_cases e0 : 0 ≤ off
 ·by_cases e1 : off ≤ 8191
  ·by_cases e2 : data.size ≤ 1400
   ·have d2 : decide ((data.size : Int) ≤ 1400) = true := by simp; omega
    have em : (!more || decide (data.size % 8 = 0)) = true ∨ (more = true ∧ ¬ data.size % 8 = 0) := by cases more <;> simp <;> omega
    rcases em with em | ⟨rfl, em⟩
    ·by_cases e9 : 8 * off + data.size ≤ top
     ·replace HV : Hid (ok = true) := by unfold Hid; rw [HV.out, em]; simp [e0, e1, e2, e9]
      cases more with
      | false =>
       clear em
       go_enter Try.func34, Try.ntmps34
       go_wp2_with fail
       go_ret
       exact ⟨ret_bool HV.out.symm, rfl⟩
      | true =>
       have dm : (((data.size : Int) % 8) == 0) = true := by simp at em; simp; omega
       clear em
       go_enter Try.func34, Try.ntmps34
       go_wp2_with fail
       go_ret
       exact ⟨ret_bool HV.out.symm, rfl⟩
     ·replace HV : Hid (ok = false) := by unfold Hid; rw [HV.out]; simp [e9]
      cases more with
      | false =>
       clear em
       go_enter Try.func34, Try.ntmps34
       go_wp2_with fail
       go_ret
       exact ⟨ret_bool HV.out.symm, rfl⟩
      | true =>
       have dm : (((data.size : Int) % 8) == 0) = true := by simp at em; simp; omega
       clear em
       go_enter Try.func34, Try.ntmps34
       go_wp2_with fail
       go_ret
       exact ⟨ret_bool HV.out.symm, rfl⟩
    ·replace HV : Hid (ok = false) := by unfold Hid; rw [HV.out]; simp [em]
     have dm : (((data.size : Int) % 8) == 0) = false := by simp; omega
     go_enter Try.func34, Try.ntmps34
     go_wp2_with fail
     go_ret
     exact ⟨ret_bool HV.out.symm, rfl⟩
   ·replace HV : Hid (ok = false) := by unfold Hid; rw [HV.out]; simp [e2]
    have d2 : decide ((data.size : Int) ≤ 1400) = false := by simp; omega
    go_enter Try.func34, Try.ntmps34
    go_wp2_with fail
    go_ret
    exact ⟨ret_bool HV.out.symm, rfl⟩
  ·replace HV : Hid (ok = false) := by unfold Hid; rw [HV.out]; simp [e1]
   go_enter Try.func34, Try.ntmps34
   go_wp2_with fail
   go_ret
   exact ⟨ret_bool HV.out.symm, rfl⟩
 ·replace HV : Hid (ok = false) := by unfold Hid; rw [HV.out]; simp [e0]
  go_enter Try.func34, Try.ntmps34
  go_wp2_with fail
  go_ret
  exact ⟨ret_bool HV.out.symm, rfl⟩

end Go.Proofs.Ytofenlclefkgdaa
