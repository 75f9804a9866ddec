/- The source of draws: what edge, l02Cut, l02Prefix and l02NatPrefix answer: numbers of 64 bits, texts of at most 16 bytes, prefixes of these. -/
import Derived.Test.YtagbhaalmjpkjaaDrState
import Derived.Test.YtagbhaalmjpkjaaEmbed
namespace Go.Proofs.Ytagbhaalmjpkjaa
open Go.RowKit Go.PlainAid
set_option linter.unusedVariables false
set_option linter.unusedSimpArgs false

/-- A number of 64 bits. -/
def In64 (r : Int) : Prop := -9223372036854775808 ≤ r ∧ r ≤ 9223372036854775807

theorem drawEdge_any (B : Nat) (a : Option Addr) (len cap : Nat) (size : Int) (w : World) (hl : len ≤ 1048576) (hs : Src w B a len cap size) :
    Calls Try.prog 24 #[.pointer (some ⟨B, 0, none⟩)] w fun e w' => ∃ r, e = .returned (.int .i64 r) ∧ In64 r ∧ Src w' B a len cap size ∧ w.grownBy w' (some B) := by
  have hB : B < w.heap.size := by obtain ⟨_, _, _, h⟩ := hs; exact World.block_lt_of_cell? w _ h.cb
  have HS : Hid (Src w B a len cap size) := hs
  clear hs
  go_enter Try.func24, Try.ntmps24
  go_wp2_with fail
  refine (drawN_more 14 B a len cap size _ (by omega) (by omega) hl (HS.out.kept (World.grownBy_alloc _ _ none) (by simp))).mono ?_
  rintro e w1 ⟨q, rfl, q0, q1, hs1, hg1⟩
  obtain ⟨k, rfl⟩ := Int.eq_ofNat_of_zero_le q0
  have hc : ∃ r, w1.cell? ⟨w.heap.size, k, none⟩ = some (.int .i64 r) ∧ In64 r := by
    have hk : k < 14 := by omega
    match k, hk with
    | 0, _ => exact ⟨_, hg1.cell ((World.cell?_alloc_mark w _ _ _ 0).trans rfl) (by simp; omega), by unfold In64; omega⟩
    | 1, _ => exact ⟨_, hg1.cell ((World.cell?_alloc_mark w _ _ _ 1).trans rfl) (by simp; omega), by unfold In64; omega⟩
    | 2, _ => exact ⟨_, hg1.cell ((World.cell?_alloc_mark w _ _ _ 2).trans rfl) (by simp; omega), by unfold In64; omega⟩
    | 3, _ => exact ⟨_, hg1.cell ((World.cell?_alloc_mark w _ _ _ 3).trans rfl) (by simp; omega), by unfold In64; omega⟩
    | 4, _ => exact ⟨_, hg1.cell ((World.cell?_alloc_mark w _ _ _ 4).trans rfl) (by simp; omega), by unfold In64; omega⟩
    | 5, _ => exact ⟨_, hg1.cell ((World.cell?_alloc_mark w _ _ _ 5).trans rfl) (by simp; omega), by unfold In64; omega⟩
    | 6, _ => exact ⟨_, hg1.cell ((World.cell?_alloc_mark w _ _ _ 6).trans rfl) (by simp; omega), by unfold In64; omega⟩
    | 7, _ => exact ⟨_, hg1.cell ((World.cell?_alloc_mark w _ _ _ 7).trans rfl) (by simp; omega), by unfold In64; omega⟩
    | 8, _ => exact ⟨_, hg1.cell ((World.cell?_alloc_mark w _ _ _ 8).trans rfl) (by simp; omega), by unfold In64; omega⟩
    | 9, _ => exact ⟨_, hg1.cell ((World.cell?_alloc_mark w _ _ _ 9).trans rfl) (by simp; omega), by unfold In64; omega⟩
    | 10, _ => exact ⟨_, hg1.cell ((World.cell?_alloc_mark w _ _ _ 10).trans rfl) (by simp; omega), by unfold In64; omega⟩
    | 11, _ => exact ⟨_, hg1.cell ((World.cell?_alloc_mark w _ _ _ 11).trans rfl) (by simp; omega), by unfold In64; omega⟩
    | 12, _ => exact ⟨_, hg1.cell ((World.cell?_alloc_mark w _ _ _ 12).trans rfl) (by simp; omega), by unfold In64; omega⟩
    | 13, _ => exact ⟨_, hg1.cell ((World.cell?_alloc_mark w _ _ _ 13).trans rfl) (by simp; omega), by unfold In64; omega⟩
  obtain ⟨r, hc, hr⟩ := hc
  have H1 : Hid (In64 r ∧ Src w1 B a len cap size ∧ w.grownBy w1 (some B)) := ⟨hr, hs1, grown_trans (World.grownBy_alloc _ _ _) hg1⟩
  clear hr hs1 hg1
  go_wp2
  go_ret
  exact ⟨r, rfl, H1.out.1, H1.out.2.1, H1.out.2.2⟩


/-- A prefix in a box of its own. -/
structure BoxP (w : World) (P : Nat) (s : ByteArray) (b : Int) : Prop where
  c0 : w.cell? ⟨P, 0, none⟩ = some (.string s)
  c1 : w.cell? ⟨P, 1, none⟩ = some (.int .i64 b)
  f0 : w.frozen? ⟨P, 0, none⟩ = false
  f1 : w.frozen? ⟨P, 1, none⟩ = false

section
variable {w wx wy : World} {B P : Nat} {s : ByteArray} {b : Int} {a : Option Addr} {len cap : Nat} {size : Int}

theorem BoxP.new (w : World) (s : ByteArray) (b : Int) (t : TypeId) : BoxP (w.alloc (.cells #[.string s, .int .i64 b] t)) w.heap.size s b := ⟨by simp, by simp, by simp, by simp⟩
theorem BoxP.lt (h : BoxP w P s b) : P < w.heap.size := World.block_lt_of_cell? w _ h.c0
theorem BoxP.kept {row : Option Nat} (h : BoxP wx P s b) (hg : wx.grownBy wy row) (hr : some P ≠ row) : BoxP wy P s b :=
  have hb := hg.block P h.lt hr
  ⟨hg.cell h.c0 hr, hg.cell h.c1 hr, (World.frozen?_of_block (a := ⟨P, 0, none⟩) hb).trans h.f0, (World.frozen?_of_block (a := ⟨P, 1, none⟩) hb).trans h.f1⟩
theorem BoxP.set0 (h : BoxP wx P s b) (u : ByteArray) : BoxP (wx.setCell ⟨P, 0, none⟩ (.string u)) P u b :=
  ⟨World.cell?_setCell_same _ _ _ h.c0, (World.cell?_setCell_other _ _ _ _ (by simp)).trans h.c1, by rw [World.frozen?_setCell]; exact h.f0, by rw [World.frozen?_setCell]; exact h.f1⟩
theorem BoxP.set1 (h : BoxP wx P s b) (n : Int) : BoxP (wx.setCell ⟨P, 1, none⟩ (.int .i64 n)) P s n :=
  ⟨(World.cell?_setCell_other _ _ _ _ (by simp)).trans h.c0, World.cell?_setCell_same _ _ _ h.c1, by rw [World.frozen?_setCell]; exact h.f0, by rw [World.frozen?_setCell]; exact h.f1⟩

end



end Go.Proofs.Ytagbhaalmjpkjaa
