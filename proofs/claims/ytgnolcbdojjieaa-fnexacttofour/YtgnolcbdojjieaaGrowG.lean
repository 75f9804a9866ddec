/- GrowG: as Grow, for regions with guarded operations ('&&', '||'). -/
import Derived.Test.YtgnolcbdojjieaaGrow
namespace Go.Proofs.Ytgnolcbdojjieaa
open Go.RowKit Go.ChangeShapes
set_option linter.unusedVariables false
set_option linter.unusedSimpArgs false

section
variable {P : Program} {ops : Array Oper} {Q : Exit → Act → World → Prop} {ds : List Tmp} {R : Nat → Value → World → Prop} {a0 : Act} {w0 : World}

def GStepG (P : Program) (ops : Array Oper) (Q : Exit → Act → World → Prop) (ds : List Tmp) (R : Nat → Value → World → Prop) (a0 : Act) (w0 : World) (i : Nat) (o : Oper) : Prop :=
 ∀ (K' : Act → World → Prop) (a : Act) (w : World), (∀ t, t ∉ ds → slot a t = slot a0 t) → (∀ e ∈ o.after, Region.binds .any e = true → R e.on (slot a (ds.getD e.on 0)) w) →
  Below w0.heap.size w0 w → (∀ v w', R i v w' → Below w.heap.size w w' → K' (a.put o.dst v) w') → if Region.wanted o (yielded ops a.tmps) = true then Oper.wp P o a w K' Q else K' (a.put o.dst undef) w

structure GFormG (ops : Array Oper) (ds : List Tmp) (n : Nat) : Prop where
 len : ds.length = ops.size
 dst : ∀ i o, ops[i]? = some o → o.dst = some (ds.getD i 0)
 nodup : ds.Nodup
 fits : ∀ d ∈ ds, d < n
 topo : ∀ i o, ops[i]? = some o → ∀ e ∈ o.after, Region.binds .any e = true → e.on < i
def gformG (ops : Array Oper) (ds : List Tmp) (n : Nat) : Bool :=
 decide (ds.length = ops.size) && (List.range ops.size).all (fun i => match ops[i]? with
  | some o => (match o.dst with | some d => d == ds.getD i 0 | none => false) && o.after.all (fun e => !Region.binds .any e || decide (e.on < i))
  | none => true) && decide ds.Nodup && ds.all (fun d => decide (d < n))
theorem GFormG.of {n : Nat} (h : gformG ops ds n = true) : GFormG ops ds n := by
 unfold gformG at h
 simp only [Bool.and_eq_true, decide_eq_true_iff, List.all_eq_true, List.mem_range] at h
 obtain ⟨⟨⟨h1, h2⟩, h3⟩, h4⟩ := h
 have hb : ∀ i o, ops[i]? = some o → i < ops.size := fun i o ho => (Array.getElem?_eq_some_iff.1 ho).1
 refine ⟨h1, fun i o ho => ?_, h3, h4, fun i o ho e he hbd => ?_⟩
 ·have := h2 i (hb i o ho)
  rw [ho] at this
  simp only [Bool.and_eq_true] at this
  obtain ⟨t1, _⟩ := this
  cases hd : o.dst with
  | none => rw [hd] at t1; simp at t1
  | some d => rw [hd] at t1; simp at t1; rw [t1]; simp
 ·have := h2 i (hb i o ho)
  rw [ho] at this
  simp only [Bool.and_eq_true] at this
  obtain ⟨_, t3⟩ := this
  have := Array.all_eq_true_iff_forall_mem.1 t3 e he
  simp [hbd] at this
  exact this

end

theorem wanted_none {ops : Array Oper} {a : Act} {o : Oper} (hg : o.guard = none) : Region.wanted o (yielded ops a.tmps) = true := by unfold Region.wanted; rw [hg]

end Go.Proofs.Ytgnolcbdojjieaa
