/- Boxes: boxes that stand in memory, as a list; nothing of the program. -/
import Derived.Test.YtagbhaalmjpkjaaHoldL
import Derived.Test.YtagbhaalmjpkjaaGrow
namespace Go.Proofs.Ytagbhaalmjpkjaa
open Go.RowKit
set_option linter.unusedVariables false
set_option linter.unusedSimpArgs false

/-- Boxes that stand. -/
structure Bxs (w : World) (ks : List (Nat × List Value)) (wx : World) : Prop where
  k : ∀ e ∈ ks, HoldsL wx e.1 e.2
  b : Below w.heap.size w wx
  z : ∀ e ∈ ks, 0 < e.2.length
theorem Bxs.at {w wx : World} {ks : List (Nat × List Value)} {a : Nat} {l : List Value} (h : Bxs w ks wx) (hm : (a, l) ∈ ks) : HoldsL wx a l := h.k _ hm
theorem Bxs.kept {w wx wy : World} {ks : List (Nat × List Value)} (h : Bxs w ks wx) (hB : Below wx.heap.size wx wy) : Bxs w ks wy := ⟨fun e he => (h.k e he).kept (h.z e he) hB, h.b.trans (hB.mono h.b.size), h.z⟩
theorem Bxs.lts {w wx : World} {ks : List (Nat × List Value)} (h : Bxs w ks wx) : ∀ e ∈ ks, e.1 < wx.heap.size ∧ 0 < e.2.length := fun e he => ⟨(h.k e he).lt (h.z e he), h.z e he⟩
theorem Bxs.push {w wx : World} {ks : List (Nat × List Value)} (h : Bxs w ks wx) (vs : List Value) (hv : 0 < vs.length) (T : TypeId) : Bxs w ((wx.heap.size, vs) :: ks) (wx.alloc (.cells vs.toArray T)) := by
  have hal : Below wx.heap.size wx (wx.alloc (.cells vs.toArray T)) := (Below.refl _ _).alloc (Nat.le_refl _) _
  refine ⟨fun e he => ?_, h.b.trans (hal.mono h.b.size), fun e he => ?_⟩
  · rcases List.mem_cons.1 he with rfl | he
    · exact HoldsL.new wx vs T
    · exact (h.k e he).kept (h.z e he) hal
  · rcases List.mem_cons.1 he with rfl | he
    · exact hv
    · exact h.z e he
theorem Bxs.cons {w wx : World} {ks : List (Nat × List Value)} {g : Nat} {vs : List Value} (h : Bxs w ks wx) (hg : HoldsL wx g vs) (hv : 0 < vs.length) : Bxs w ((g, vs) :: ks) wx := ⟨fun e he => by
  rcases List.mem_cons.1 he with rfl | he
  · exact hg
  · exact h.k e he, h.b, fun e he => by
  rcases List.mem_cons.1 he with rfl | he
  · exact hv
  · exact h.z e he⟩
def IsZy (base : Nat) (zs : List Value) : Value → World → Prop := fun v w => ∃ g, v = .pointer (some ⟨g, 0, none⟩) ∧ base ≤ g ∧ HoldsL w g zs
theorem stable_isZy (base : Nat) (zs : List Value) (h : 0 < zs.length) : Stable (IsZy base zs) := fun v w w' ⟨g, h1, h2, h3⟩ hb => ⟨g, h1, h2, h3.kept h hb⟩
end Go.Proofs.Ytagbhaalmjpkjaa
