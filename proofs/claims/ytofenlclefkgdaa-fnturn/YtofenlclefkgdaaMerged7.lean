/- DrState, GrowU, in one text. -/
import Derived.Test.YtofenlclefkgdaaDrawAddr
import Derived.Test.YtofenlclefkgdaaMerged1
import Derived.Test.YtofenlclefkgdaaGrow

/- A world behind draws. -/
namespace Go.Proofs.Ytofenlclefkgdaa
open Go.RowKit Go.PlainAid
set_option linter.unusedVariables false

section
variable {w wx wy : World} {B len cap : Nat} {a : Option Addr} {size : Int}
/-- A world behind draws: the source in block B, nothing else that was there is turned. -/
structure Dr (w : World) (B : Nat) (a : Option Addr) (len cap : Nat) (size : Int) (wx : World) : Prop where
 src : Src wx B a len cap size
 grown : w.grownBy wx (some B)
 hB : B < w.heap.size

theorem Dr.start (hs : Src w B a len cap size) : Dr w B a len cap size w := ⟨hs, World.grownBy.refl _ _, by obtain ⟨_, _, _, h⟩ := hs; exact World.block_lt_of_cell? w _ h.cb⟩
theorem Dr.draw (h : Dr w B a len cap size wx) (hs : Src wy B a len cap size) (hg : wx.grownBy wy (some B)) : Dr w B a len cap size wy := ⟨hs, grown_trans h.grown hg, h.hB⟩
theorem Dr.below (h : Dr w B a len cap size wx) (hb : Below wx.heap.size wx wy) : Dr w B a len cap size wy := ⟨h.src.kept (grown_of_below (r := none) hb) (by simp), grown_trans h.grown (grown_of_below hb), h.hB⟩
theorem Dr.alloc (h : Dr w B a len cap size wx) (o : Obj) : Dr w B a len cap size (wx.alloc o) := h.below ((Below.refl _ _).alloc (Nat.le_refl _) o)
theorem Dr.set (h : Dr w B a len cap size wx) (R j : Nat) (v : Value) (hR : w.heap.size ≤ R) : Dr w B a len cap size (wx.setCell ⟨R, j, none⟩ v) :=
 ⟨h.src.kept (grown_cell wx R j v) (fun k e => by have := h.hB; injection e with e; omega), grown_new h.grown hR, h.hB⟩
theorem Dr.le (h : Dr w B a len cap size wx) : w.heap.size ≤ wx.heap.size := h.grown.size
end

end Go.Proofs.Ytofenlclefkgdaa

/- GrowT: the law of Grow for a region whose last operation (a store) waits for all the others. -/
namespace Go.Proofs.Ytofenlclefkgdaa
open Go.RowKit Go.ChangeShapes
set_option linter.unusedVariables false
set_option linter.unusedSimpArgs false

section
variable {P : Program} {ops : Array Oper} {Q : Exit → Act → World → Prop} {ds : List Tmp} {R : Nat → Value → World → Prop} {a0 : Act} {w0 : World} {last : Oper}

structure GFormU (ops : Array Oper) (ds : List Tmp) (n : Nat) (last : Oper) : Prop where
 len : ops.size = ds.length + 1
 dst : ∀ i o, i < ds.length → ops[i]? = some o → o.dst = some (ds.getD i 0) ∧ o.guard = none
 nodup : ds.Nodup
 fits : ∀ d ∈ ds, d < n
 topo : ∀ i o, i < ds.length → ops[i]? = some o → ∀ e ∈ o.after, Region.binds .any e = true → e.on < i
 isLast : ops[ds.length]? = some last
 lguard : last.guard = none
 ledge : ∀ e ∈ last.after, Region.binds .any e = true → e.on < ds.length
 lall : ∀ j, j < ds.length → (∃ e ∈ last.after, Region.binds .any e = true ∧ e.on = j) ∨ ∃ i o, j < i ∧ i < ds.length ∧ ops[i]? = some o ∧ ∃ e ∈ o.after, Region.binds .any e = true ∧ e.on = j

def gformU (ops : Array Oper) (ds : List Tmp) (n : Nat) (last : Oper) : Bool :=
 decide (ops.size = ds.length + 1) && (List.range ds.length).all (fun i => match ops[i]? with
  | some o => (match o.dst with | some d => d == ds.getD i 0 | none => false) && o.guard.isNone && o.after.all (fun e => !Region.binds .any e || decide (e.on < i))
  | none => true) && decide ds.Nodup && ds.all (fun d => decide (d < n)) && last.guard.isNone && last.after.all (fun e => !Region.binds .any e || decide (e.on < ds.length)) &&
  (List.range ds.length).all (fun j => last.after.any (fun e => Region.binds .any e && e.on == j) || (List.range ds.length).any (fun i => decide (j < i) && match ops[i]? with | some o => o.after.any (fun e => Region.binds .any e && e.on == j) | none => false))
theorem GFormU.of {n : Nat} (hl : ops[ds.length]? = some last) (h : gformU ops ds n last = true) : GFormU ops ds n last := by
 unfold gformU at h
 simp only [Bool.and_eq_true, decide_eq_true_iff, List.all_eq_true, List.mem_range] at h
 obtain ⟨⟨⟨⟨⟨⟨h1, h2⟩, h3⟩, h4⟩, h5⟩, h6⟩, h7⟩ := h
 refine ⟨h1, fun i o hi ho => ?_, h3, h4, fun i o hi ho e he hb => ?_, hl, by simpa using h5, fun e he hb => ?_, fun j hj => ?_⟩
 ·have := h2 i hi
  rw [ho] at this
  simp only [Bool.and_eq_true] at this
  obtain ⟨⟨t1, t2⟩, _⟩ := this
  refine ⟨?_, by simpa using t2⟩
  cases hd : o.dst with
  | none => rw [hd] at t1; simp at t1
  | some d => rw [hd] at t1; simp at t1; rw [t1]; simp
 ·have := h2 i hi
  rw [ho] at this
  simp only [Bool.and_eq_true] at this
  obtain ⟨_, t3⟩ := this
  have := Array.all_eq_true_iff_forall_mem.1 t3 e he
  simp [hb] at this
  exact this
 ·have := Array.all_eq_true_iff_forall_mem.1 h6 e he
  simp [hb] at this
  exact this
 ·have := h7 j hj
  simp only [Bool.or_eq_true] at this
  rcases this with this | this
  ·obtain ⟨e, he, hb⟩ := Array.any_eq_true'.1 this
   simp only [Bool.and_eq_true, beq_iff_eq] at hb
   exact .inl ⟨e, he, hb.1, hb.2⟩
  ·obtain ⟨i, hi, hh⟩ := List.any_eq_true.1 this
   simp only [Bool.and_eq_true, decide_eq_true_iff] at hh
   cases ho : ops[i]? with
   | none => rw [ho] at hh; simp at hh
   | some o =>
    rw [ho] at hh
    obtain ⟨e, he, hb⟩ := Array.any_eq_true'.1 hh.2
    simp only [Bool.and_eq_true, beq_iff_eq] at hb
    exact .inr ⟨i, o, hh.1, List.mem_range.1 hi, ho, e, he, hb.1, hb.2⟩

end

end Go.Proofs.Ytofenlclefkgdaa
