/- OpRun, TickS, in one text. -/
import Derived.Test.YtkakehchiadpbamK1
import Derived.Maps.AppendAt
import Derived.OwnWalk
import Derived.Test.YtkakehchiadpbamLawBib

/- OpRun: operations whose run is known as a whole; nothing of the program. -/
namespace Go.Proofs.Ytkakehchiadpbam
open Go.RowKit
set_option linter.unusedVariables false
set_option linter.unusedSimpArgs false

theorem wp_append_run {P : Program} {o : Oper} {a : Act} {w w' : World} {v1 v2 v' : Value} {K : Act → World → Prop} {Q : Exit → Act → World → Prop} (s x : Operand) (t : TypeId) (hop : o.op = Op.call { callee := Callee.builtin Builtin.append, args := #[s, x], argTypes := #[t, t] })
    (hs : a.eval s = v1) (hx : a.eval x = v2) (hrun : (Builtin.append_ #[t, t] o.type #[v1, v2]).run P w = .ok v' w') (hK : K (a.put o.dst v') w') : Oper.wp P o a w K Q := by
  unfold Oper.wp
  simp [execOp, hop, resolve, invoke, builtin, hs, hx, hrun, Result.andThen]
  exact hK
theorem wpList_append_run {P : Program} {ops : Array Oper} {rest : List Oper} {o : Oper} {a : Act} {w w' : World} {v1 v2 v' : Value} {Q : Exit → Act → World → Prop} (hg : o.guard = none) (s x : Operand) (t : TypeId) (hop : o.op = Op.call { callee := Callee.builtin Builtin.append, args := #[s, x], argTypes := #[t, t] })
    (hs : a.eval s = v1) (hx : a.eval x = v2) (hrun : (Builtin.append_ #[t, t] o.type #[v1, v2]).run P w = .ok v' w') (hK : wpList P ops Q rest (a.put o.dst v') w') : wpList P ops Q (o :: rest) a w :=
  wpList_plain hg fun K hK' => wp_append_run s x t hop hs hx hrun (hK' _ _ hK)
theorem own_stable {base n z : Nat} {e : TypeId} {v : Value} {xs : List Value} {w w' : World} (h : w.ownsRow base e z v n xs) (hb : Below w.heap.size w w') : w'.ownsRow base e z v n xs := h.kept (grown_of_below (r := none) hb) (by cases v.ownBlock <;> simp)
end Go.Proofs.Ytkakehchiadpbam

/- TickS: the boxes and the two growing rows of l08Tick. -/
namespace Go.Proofs.Ytkakehchiadpbam
open Go.RowKit Go.PlainAid
set_option linter.unusedVariables false
set_option linter.unusedSimpArgs false

theorem ownC_cell {w : World} {base n s X j : Nat} {e : TypeId} {v u : Value} {xs : List Value} (h : w.ownsRow base e s v n xs) (hne : v.ownBlock ≠ some X) : (w.setCell ⟨X, j, none⟩ u).ownsRow base e s v n xs := by
  obtain ⟨h1, h2⟩ := h
  refine ⟨h1, ?_⟩
  rcases h2 with h2 | ⟨g, cap, cur, rfl, hg, hh, h3⟩
  · exact .inl h2
  · exact .inr ⟨g, cap, cur, rfl, hg, (Below.heap_setCell w _ u g (fun e => hne (by simpa [Value.ownBlock] using e))).trans hh, h3⟩
theorem ownC_in {w : World} {base n s g : Nat} {e : TypeId} {v : Value} {xs : List Value} (h : w.ownsRow base e s v n xs) (hg : v.ownBlock = some g) : base ≤ g ∧ g < w.heap.size := by
  rcases h.2 with ⟨rfl, _⟩ | ⟨g', cap, cur, rfl, hb, hh, _⟩
  · simp [Value.ownBlock] at hg
  · simp [Value.ownBlock] at hg; subst hg; exact ⟨hb, (Array.getElem?_eq_some_iff.1 hh).1⟩
theorem ownC_ne {w : World} {base n s : Nat} {e : TypeId} {v : Value} {xs : List Value} (h : w.ownsRow base e s v n xs) {X : Nat} (hX : X < base) : v.ownBlock ≠ some X := fun e => by have := (ownC_in h e).1; omega
theorem bdL_one (q : Bd) : ∀ u ∈ bdL q, u.oneCell' = true := fun u hu => by simp [bdL] at hu; rcases hu with rfl | rfl | rfl | rfl | rfl <;> rfl
theorem ssL_one (q : Ss) : ∀ u ∈ ssL q, u.oneCell' = true := fun u hu => by simp [ssL] at hu; rcases hu with rfl | rfl | rfl | rfl | rfl | rfl | rfl <;> rfl
theorem add_at (g i : Nat) : (⟨g, 0, none⟩ : Addr).add i = ⟨g, i, none⟩ := by cases i <;> simp [Addr.add]

structure TickSt (w : World) (cs : List Value) (bv sv : Value) (ys : List Bd) (zs : List Ss) (wx : World) : Prop where
  x : HoldsL wx w.heap.size cs
  r : HoldsL wx (w.heap.size + 1) [.slice none 0 0, .slice none 0 0]
  o : HoldsL wx (w.heap.size + 1 + 1) [bv, sv]
  bo : wx.ownsRow (w.heap.size + 1 + 1 + 1) 62 5 bv ys.length (flatS bdL ys)
  so : wx.ownsRow (w.heap.size + 1 + 1 + 1) 59 7 sv zs.length (flatS ssL zs)
  b : Below w.heap.size w wx
  ne : ∀ g, bv.ownBlock = some g → sv.ownBlock = some g → False
section
variable {w : World} {cs : List Value} {bv sv : Value} {ys : List Bd} {zs : List Ss} {wx wy : World}
theorem TickSt.kept (h : TickSt w cs bv sv ys zs wx) (hc : 0 < cs.length) (hB : Below wx.heap.size wx wy) : TickSt w cs bv sv ys zs wy :=
  ⟨h.x.kept hc hB, h.r.kept (by simp) hB, h.o.kept (by simp) hB, own_stable h.bo hB, own_stable h.so hB, h.b.trans (hB.mono h.b.size), h.ne⟩
theorem TickSt.drew (h : TickSt w cs bv sv ys zs wx) : TickSt w cs bv sv ys zs wx.drew := ⟨h.x.drew, h.r.drew, h.o.drew, h.bo, h.so, h.b.drew, h.ne⟩
theorem below_grow {row : Option Nat} (hb : Below w.heap.size w wx) (hg : wx.grownBy wy row) (hr : ∀ g, row = some g → w.heap.size ≤ g) : Below w.heap.size w wy :=
  ⟨hg.os.trans hb.os, hg.tape.trans hb.tape, hg.output.trans hb.output, Nat.le_trans hb.size hg.size, fun k hk => by
    rw [hg.block k (Nat.lt_of_lt_of_le hk hb.size) (fun e => by have := hr k e.symm; omega)]; exact hb.block k hk⟩
theorem TickSt.appS (h : TickSt w cs bv sv ys zs wx) (hc : 0 < cs.length) (q : Ss) (g : Nat) (hg : HoldsL wx g (ssL q)) (hlen : zs.length ≤ 1048576) :
    ∃ v6 w6, (Builtin.append_ #[34, 34] 34 #[sv, .slice (some ⟨g, 0, none⟩) 1 1]).run Try.prog wx = .ok v6 w6 ∧ (∃ gg l c, v6 = .slice (some ⟨gg, 0, none⟩) l c) ∧ HoldsL w6 (w.heap.size + 1 + 1) [bv, sv] ∧ TickSt w cs bv v6 ys (zs ++ [q]) (w6.setCell ⟨w.heap.size + 1 + 1, 1, none⟩ v6) := by
  obtain ⟨i0, hi, hz0, hz1, hz2⟩ := info_parts Try.infoSs
  have hos := h.o.lt (by simp)
  obtain ⟨v6, w6, hrun, h62, h63, h64, h65⟩ := run_append_own_at (P := Try.prog) wx (w.heap.size + 1 + 1 + 1) 34 34 59 i0 _ 7 _ Try.underlying34 hi hz0 hz1 hz2 rfl (by decide) sv _ _ h.so ⟨g, 0, none⟩ 1 1 (ssL q) rfl (fun i u hu => by rw [add_at]; exact hg.cell hu) (ssL_one q) (by unfold maxLen; omega) (by omega) (by omega)
  have hnr : ∀ X, X < w.heap.size + 1 + 1 + 1 → some X ≠ sv.ownBlock := fun X hX e => ownC_ne h.so hX e.symm
  have n6 : v6.ownBlock ≠ some (w.heap.size + 1 + 1) := by
    rcases h65 with h7 | h7 <;> rw [h7]
    · exact ownC_ne h.so (by omega)
    · intro e; injection e with e; omega
  have hO := h.o.grown (by simp) h63 (hnr _ (by omega))
  have hne : ∀ g, bv.ownBlock = some g → v6.ownBlock = some g → False := by
    intro g e1 e2
    rcases h65 with h7 | h7
    · exact h.ne g e1 (h7 ▸ e2)
    · rw [h7] at e2
      injection e2 with e3
      have := (ownC_in h.bo e1).2
      omega
  have hold := World.ownsRow.kept h.bo h63 (by
    by_cases e : bv.ownBlock = none
    · exact .inl e
    · refine .inr (fun e2 => ?_)
      obtain ⟨k, hk⟩ := Option.ne_none_iff_exists'.1 e
      exact h.ne k hk (e2 ▸ hk))
  refine ⟨v6, w6, hrun, ?_, hO, (h.x.grown hc h63 (hnr _ (by omega))).setOther (by omega) v6, (h.r.grown (by simp) h63 (hnr _ (by omega))).setOther (by omega) v6, hO.set 1 v6, ownC_cell hold (ownC_ne h.bo (by omega)), ownC_cell (by rw [flatS_snoc, List.length_append]; exact h62) n6, (below_grow h.b h63 (fun k e => by have := (ownC_in h.so e).1; omega)).setCell (p := ⟨w.heap.size + 1 + 1, 1, none⟩) (by show w.heap.size ≤ w.heap.size + 1 + 1; omega) v6, hne⟩
  rcases h62.2 with ⟨_, h0⟩ | ⟨gg, c6, _, h6, _⟩
  · simp at h0
  · exact ⟨gg, _, c6, h6⟩
theorem TickSt.appB (h : TickSt w cs bv sv ys zs wx) (hc : 0 < cs.length) (q : Bd) (g : Nat) (hg : HoldsL wx g (bdL q)) (hlen : ys.length ≤ 1048576) :
    ∃ v6 w6, (Builtin.append_ #[33, 33] 33 #[bv, .slice (some ⟨g, 0, none⟩) 1 1]).run Try.prog wx = .ok v6 w6 ∧ (∃ gg l c, v6 = .slice (some ⟨gg, 0, none⟩) l c) ∧ HoldsL w6 (w.heap.size + 1 + 1) [bv, sv] ∧ TickSt w cs v6 sv (ys ++ [q]) zs (w6.setCell ⟨w.heap.size + 1 + 1, 0, none⟩ v6) := by
  obtain ⟨i0, hi, hz0, hz1, hz2⟩ := info_parts Try.infoBd
  have hos := h.o.lt (by simp)
  obtain ⟨v6, w6, hrun, h62, h63, h64, h65⟩ := run_append_own_at (P := Try.prog) wx (w.heap.size + 1 + 1 + 1) 33 33 62 i0 _ 5 _ Try.underlying33 hi hz0 hz1 hz2 rfl (by decide) bv _ _ h.bo ⟨g, 0, none⟩ 1 1 (bdL q) rfl (fun i u hu => by rw [add_at]; exact hg.cell hu) (bdL_one q) (by unfold maxLen; omega) (by omega) (by omega)
  have hnr : ∀ X, X < w.heap.size + 1 + 1 + 1 → some X ≠ bv.ownBlock := fun X hX e => ownC_ne h.bo hX e.symm
  have n6 : v6.ownBlock ≠ some (w.heap.size + 1 + 1) := by
    rcases h65 with h7 | h7 <;> rw [h7]
    · exact ownC_ne h.bo (by omega)
    · intro e; injection e with e; omega
  have hO := h.o.grown (by simp) h63 (hnr _ (by omega))
  have hne : ∀ g, v6.ownBlock = some g → sv.ownBlock = some g → False := by
    intro g e1 e2
    rcases h65 with h7 | h7
    · exact h.ne g (h7 ▸ e1) e2
    · rw [h7] at e1
      injection e1 with e3
      have := (ownC_in h.so e2).2
      omega
  have hold := World.ownsRow.kept h.so h63 (by
    by_cases e : sv.ownBlock = none
    · exact .inl e
    · refine .inr (fun e2 => ?_)
      obtain ⟨k, hk⟩ := Option.ne_none_iff_exists'.1 e
      exact h.ne k (e2 ▸ hk) hk)
  refine ⟨v6, w6, hrun, ?_, hO, (h.x.grown hc h63 (hnr _ (by omega))).setOther (by omega) v6, (h.r.grown (by simp) h63 (hnr _ (by omega))).setOther (by omega) v6, hO.set 0 v6, ownC_cell (by rw [flatS_snoc, List.length_append]; exact h62) n6, ownC_cell hold (ownC_ne h.so (by omega)), (below_grow h.b h63 (fun k e => by have := (ownC_in h.bo e).1; omega)).setCell (p := ⟨w.heap.size + 1 + 1, 0, none⟩) (by show w.heap.size ≤ w.heap.size + 1 + 1; omega) v6, hne⟩
  rcases h62.2 with ⟨_, h0⟩ | ⟨gg, c6, _, h6, _⟩
  · simp at h0
  · exact ⟨gg, _, c6, h6⟩
end

end Go.Proofs.Ytkakehchiadpbam
