/- FlatS, HoldL, in one text. -/
import Derived.Test.YtllagodlgipcpaaMerged2
import Derived.Deep.Slices
import Derived.Deep.MidRow
import Derived.OwnWalk
import Derived.WideShapes
import Derived.WalkLawsBesides
import Derived.Lib.LazyBuf
import Derived.Test.YtllagodlgipcpaaMerged1
import Derived.Deep.AppendLies

/- FlatS: slices of structs of one-cell fields, whatever their number: opened, laid, and a row that is being laid; nothing of the program. -/
namespace Go.Proofs.Ytllagodlgipcpaa
open Go.RowKit Go.ChangeShapes Go.WideShapes
set_option linter.unusedVariables false
set_option linter.unusedSimpArgs false

section
variable {α : Type} (en : α → List Value) (n : Nat)
/-- The structs lie in block b from off on. -/
def SlAt (w : World) (b off : Nat) (xs : List α) : Prop := ∀ i (h : i < xs.length), w.rangeAt b (off + i * n) (en xs[i])
/-- A slice of structs. -/
def SlIs (w : World) (a : Option Addr) (xs : List α) : Prop := xs = [] ∨ ∃ b off, a = some ⟨b, off, none⟩ ∧ b < w.heap.size ∧ SlAt en n w b off xs
/-- A row of L structs, of which the first k of xs are laid. -/
structure SlLaid (w : World) (B : Nat) (xs : List α) (L k : Nat) : Prop where
 blk : B < w.heap.size
 at0 : ∀ i (h : i < xs.length), i < k → w.rangeAt B (i * n) (en xs[i])
 there : ∀ i, i < L * n → (w.cell? ⟨B, i, none⟩).isSome = true
 free : ∀ i, i < L * n → w.frozen? ⟨B, i, none⟩ = false
end

section
variable {α : Type} {en : α → List Value} {n : Nat} {w W : World}
theorem SlAt.below {b off : Nat} {xs : List α} (h : SlAt en n w b off xs) {m : Nat} (hb : b < m) (hB : Below m w W) : SlAt en n W b off xs :=
 fun i hi j v hv => (hB.cell (p := ⟨b, off + i * n + j, none⟩) hb).trans (h i hi j v hv)
theorem SlIs.below {a : Option Addr} {xs : List α} (h : SlIs en n w a xs) (hB : Below w.heap.size w W) : SlIs en n W a xs := by
 rcases h with h | ⟨b, off, ha, hb, hr⟩
 ·exact .inl h
 ·exact .inr ⟨b, off, ha, Nat.lt_of_lt_of_le hb hB.size, hr.below hb hB⟩
theorem SlIs.grown {a : Option Addr} {xs : List α} (h : SlIs en n w a xs) {B : Nat} (hg : w.grownBy W (some B)) (hne : xs = [] ∨ ∀ g o, a = some ⟨g, o, none⟩ → g ≠ B) : SlIs en n W a xs := by
 rcases h with h | ⟨b, off, ha, hb, hr⟩
 ·exact .inl h
 ·rcases hne with h0 | hne
  ·exact .inl h0
  ·have hbl := hg.block b hb (by simp; exact hne b off ha)
   refine .inr ⟨b, off, ha, Nat.lt_of_lt_of_le hb hg.size, fun i hi j v hv => ?_⟩
   have hc : ∀ o, W.cell? ⟨b, o, none⟩ = w.cell? ⟨b, o, none⟩ := fun o => by unfold World.cell?; rw [show (⟨b, o, none⟩ : Addr).block = b from rfl, hbl]
   exact (hc _).trans (hr i hi j v hv)
theorem SlIs.at {a : Option Addr} {xs : List α} (h : SlIs en n w a xs) {k : Nat} (hk : k < xs.length) : ∃ b off, a = some ⟨b, off, none⟩ ∧ b < w.heap.size ∧ SlAt en n w b off xs := by
 rcases h with h | h
 ·rw [h] at hk; simp at hk
 ·exact h

theorem SlLaid.at {B : Nat} {xs : List α} {L : Nat} (h : SlLaid en n w B xs L xs.length) : SlAt en n w B 0 xs := fun i hi => by
 rw [Nat.zero_add]; exact h.at0 i hi hi
theorem SlLaid.is {B : Nat} {xs : List α} {L : Nat} (h : SlLaid en n w B xs L xs.length) : SlIs en n w (some ⟨B, 0, none⟩) xs := .inr ⟨B, 0, rfl, h.blk, h.at⟩
theorem SlLaid.below {B : Nat} {xs : List α} {L k : Nat} (h : SlLaid en n w B xs L k) {m : Nat} (hm : B < m) (hB : Below m w W) (hs : w.heap.size ≤ W.heap.size) : SlLaid en n W B xs L k := by
 have hc : ∀ o, W.cell? ⟨B, o, none⟩ = w.cell? ⟨B, o, none⟩ := fun o => hB.cell (p := ⟨B, o, none⟩) hm
 have hf : ∀ o, W.frozen? ⟨B, o, none⟩ = w.frozen? ⟨B, o, none⟩ := fun o => hB.frozen (p := ⟨B, o, none⟩) hm
 exact ⟨Nat.lt_of_lt_of_le h.blk hs, fun i hi hk j v hv => (hc _).trans (h.at0 i hi hk j v hv), fun i hi => by rw [hc]; exact h.there i hi, fun i hi => by rw [hf]; exact h.free i hi⟩
theorem SlLaid.kept {B : Nat} {xs : List α} {L k : Nat} (h : SlLaid en n w B xs L k) (hB : Below w.heap.size w W) : SlLaid en n W B xs L k := h.below h.blk hB hB.size
theorem SlLaid.mono {B : Nat} {xs : List α} {L k k' : Nat} (h : SlLaid en n w B xs L k) (hk : k' ≤ k) : SlLaid en n w B xs L k' :=
 ⟨h.blk, fun i hi hk' => h.at0 i hi (by omega), h.there, h.free⟩
/-- Another list, of which nothing is laid yet. -/
theorem SlLaid.other {β : Type} {en' : β → List Value} {B : Nat} {xs : List α} {L k : Nat} (h : SlLaid en n w B xs L k) (ys : List β) : SlLaid en' n w B ys L 0 :=
 ⟨h.blk, fun i hi hk => by omega, h.there, h.free⟩
theorem SlLaid.set (hn : ∀ x, (en x).length = n) {B : Nat} {xs : List α} {L k : Nat} (h : SlLaid en n w B xs L k) (hk : k < xs.length) (hL : k < L) : SlLaid en n (w.setCells B (k * n) (en xs[k])) B xs L (k + 1) := by
 have hb : k * n + n ≤ L * n := by have := Nat.mul_le_mul_right n (show k + 1 ≤ L from hL); rw [Nat.succ_mul] at this; exact this
 have hin := World.cell?_setCells_in B (en xs[k]) (k * n) w (fun j hj => h.there _ (by rw [hn] at hj; omega))
 refine ⟨Nat.lt_of_lt_of_le h.blk (below_setCells (B := 0) (Nat.zero_le _) _ _ _ (Below.refl 0 w)).size, fun i hi hk' j v hv => ?_, fun i hi => ?_, fun i hi => by rw [World.frozen?_setCells]; exact h.free i hi⟩
 ·by_cases e : i = k
  ·subst e
   obtain ⟨hj, hjv⟩ := List.getElem?_eq_some_iff.1 hv
   rw [hin j hj, hjv]
  ·have hj := (List.getElem?_eq_some_iff.1 hv).1
   rw [hn] at hj
   have hle : i * n + n ≤ k * n := by have := Nat.mul_le_mul_right n (show i + 1 ≤ k by omega); rw [Nat.succ_mul] at this; exact this
   rw [World.cell?_setCells_out B _ (k * n) w _ (fun _ _ => .inl (by show i * n + j < k * n; omega))]
   exact h.at0 i hi (by omega) j v hv
 ·by_cases e : k * n ≤ i ∧ i < k * n + n
  ·obtain ⟨j, rfl⟩ : ∃ j, i = k * n + j := ⟨i - k * n, by omega⟩
   have hj : j < (en xs[k]).length := by rw [hn]; omega
   rw [hin j hj]; rfl
  ·rw [World.cell?_setCells_out B _ (k * n) w _ (fun _ _ => by show i < k * n ∨ k * n + (en xs[k]).length ≤ i; rw [hn]; omega)]; exact h.there i hi

/-- A row that was made. -/
theorem SlLaid.start {base len cap g : Nat} {e : TypeId} {vs : List Value} {xs : List α} (h : w.ownsRow base e n (.slice (some ⟨g, 0, none⟩) len cap) len vs) : SlLaid en n w g xs len 0 := by
 obtain ⟨hl, h | ⟨g', cap', cur, hv, _, hh, hc, _, hsz, _⟩⟩ := h
 ·simp at h
 ·injection hv with hv _ hv3
  injection hv with hv
  injection hv with hv _
  subst hv hv3
  have hlt : g < w.heap.size := by
   by_cases hb : g < w.heap.size
   ·exact hb
   ·rw [Array.getElem?_eq_none (by omega)] at hh; simp at hh
  refine ⟨hlt, fun i hi hk => by omega, fun i hi => ?_, fun i hi => ?_⟩
  ·have : i < cur.size := by rw [hsz]; have := Nat.mul_le_mul_right n hc; omega
   simp [World.cell?, hh, this]
  ·simp [World.frozen?, hh]
end

section
variable {H : Type} {enc : TypeId × Value → H} {P : Program} {w : World} {base : Nat} {spare : Nat → Bool} {held : Bool}
end

end Go.Proofs.Ytllagodlgipcpaa

/- HoldL: structs of many cells in blocks of their own, whatever their number: the cells as a list; nothing of the program. -/
namespace Go.Proofs.Ytllagodlgipcpaa
open Go.RowKit
set_option linter.unusedVariables false
set_option linter.unusedSimpArgs false

/-- The cells cs lie in block B from its head on, and may be written. -/
structure HoldsL (w : World) (B : Nat) (cs : List Value) : Prop where
 at0 : w.rangeAt B 0 cs
 th : w.there B 0 cs.length

section
variable {w W : World} {B : Nat} {cs : List Value}
theorem HoldsL.new (w : World) (cs : List Value) (t : TypeId) : HoldsL (w.alloc (.cells cs.toArray t)) w.heap.size cs :=
 ⟨fun j v hv => by rw [Nat.zero_add, cell_of_row _ w.heap.size j cs.toArray t (0, 0) (heap_alloc_new w _)]; simpa using hv,
   fun j hj => ⟨by rw [Nat.zero_add, cell_of_row _ w.heap.size j cs.toArray t (0, 0) (heap_alloc_new w _)]; simp [hj], by simp⟩⟩
theorem HoldsL.cell (h : HoldsL w B cs) {j : Nat} {v : Value} (hv : cs[j]? = some v) : w.cell? ⟨B, j, none⟩ = some v := by
 have := h.at0 j v hv; rwa [Nat.zero_add] at this
theorem HoldsL.free (h : HoldsL w B cs) {j : Nat} (hj : j < cs.length) : w.frozen? ⟨B, j, none⟩ = false := by
 have := (h.th j hj).2; rwa [Nat.zero_add] at this
theorem HoldsL.lt (h : HoldsL w B cs) (hl : 0 < cs.length) : B < w.heap.size := by
 obtain ⟨v, hv⟩ := Option.isSome_iff_exists.1 (h.th 0 hl).1
 exact World.block_lt_of_cell? w _ hv
theorem HoldsL.of_block (hb : W.heap[B]? = w.heap[B]?) (h : HoldsL w B cs) : HoldsL W B cs := by
 have hc : ∀ j, W.cell? ⟨B, j, none⟩ = w.cell? ⟨B, j, none⟩ := fun j => by unfold World.cell?; rw [show (⟨B, j, none⟩ : Addr).block = B from rfl, hb]
 exact ⟨fun j v hv => by rw [hc]; exact h.at0 j v hv, fun j hj => ⟨by rw [hc]; exact (h.th j hj).1, (World.frozen?_of_block (a := ⟨B, 0 + j, none⟩) hb).trans (h.th j hj).2⟩⟩
theorem HoldsL.kept (h : HoldsL w B cs) (hl : 0 < cs.length) (hB : Below w.heap.size w W) : HoldsL W B cs := h.of_block (hB.block B (h.lt hl))
theorem HoldsL.grown {row : Option Nat} (h : HoldsL w B cs) (hl : 0 < cs.length) (hg : w.grownBy W row) (hr : some B ≠ row) : HoldsL W B cs := h.of_block (hg.block B (h.lt hl) hr)
theorem HoldsL.alloc (h : HoldsL w B cs) (o : Obj) : HoldsL (w.alloc o) B cs := ⟨World.rangeAt_alloc h.at0 o, World.there_alloc h.th o⟩
theorem HoldsL.drew (h : HoldsL w B cs) : HoldsL w.drew B cs := ⟨by simpa using h.at0, by simpa using h.th⟩
theorem HoldsL.set (h : HoldsL w B cs) (j : Nat) (v : Value) : HoldsL (w.setCell ⟨B, j, none⟩ v) B (cs.set j v) := by
 refine ⟨fun i u hu => ?_, fun i hi => ⟨?_, by rw [World.frozen?_setCell]; exact (h.th i (by simpa using hi)).2⟩⟩
 ·rw [Nat.zero_add]
  by_cases e : i = j
  ·subst e
   have hi : i < cs.length := by
    rw [List.getElem?_set] at hu
    by_cases e : i < cs.length
    ·exact e
    ·simp [e] at hu
   obtain ⟨x, hx⟩ := Option.isSome_iff_exists.1 (h.th i hi).1
   rw [Nat.zero_add] at hx
   rw [World.cell?_setCell_same _ _ _ hx]
   rw [List.getElem?_set_self hi] at hu
   exact hu
  ·rw [World.cell?_setCell_other _ _ _ _ (fun e2 => e (by injection e2 with _ h2; exact h2.symm))]
   rw [List.getElem?_set_ne (fun e2 => e e2.symm)] at hu
   exact h.cell hu
 ·have hi' : i < cs.length := by simpa using hi
  obtain ⟨x, hx⟩ := Option.isSome_iff_exists.1 (h.th i hi').1
  by_cases e : i = j
  ·subst e; rw [Nat.zero_add] at hx ⊢; rw [World.cell?_setCell_same _ _ _ hx]; rfl
  ·rw [Nat.zero_add] at hx ⊢; rw [World.cell?_setCell_other _ _ _ _ (fun e2 => e (by injection e2 with _ h2; exact h2.symm)), hx]; rfl
theorem HoldsL.setOther (h : HoldsL w B cs) {C j : Nat} (hne : B ≠ C) (v : Value) : HoldsL (w.setCell ⟨C, j, none⟩ v) B cs :=
 h.of_block (Below.heap_setCell w _ v B (fun e => hne (by simpa using e)))
theorem HoldsL.setCells (h : HoldsL w B cs) (ds : List Value) (hl : ds.length = cs.length) : HoldsL (w.setCells B 0 ds) B ds :=
 ⟨World.rangeAt_setCells_same w B 0 ds (by rw [hl]; exact h.th), by rw [hl]; exact World.there_setCells h.th B 0 ds⟩
end

/-- A result that is a struct in a block of its own. -/
theorem results_mid {P : Program} {fn : Func} {p : Tmp} {ty : TypeId} (h : fn.results = #[.cell p ty]) (tmps : Array Value) (w : World) (g : Nat) (cs : List Value) (d : TypeDesc)
  (hp : tmps.getD p undef = .pointer (some ⟨g, 0, none⟩)) (hc : HoldsL w g cs) (hu : P.underlying ty = some d) (hd : d.isRow = true) (hi : (P.info? ty).map (·.size) = some cs.length) :
  (results fn tmps).run P w = .ok (.agg cs.toArray) w := by
 have hp' : tmps[p]?.getD undef = .pointer (some ⟨g, 0, none⟩) := by simpa using hp
 simp [results, h, hp', asAddr, run_loadVar_mid w g 0 ty cs d hc.at0 hu hd hi]
end Go.Proofs.Ytllagodlgipcpaa
