/- SAddA: what the specification's PieceAdd wants: a row that is copied, what a region yields. -/
import Derived.Test.YtofhcplnnamcdabSBut
import Derived.Test.YtofhcplnnamcdabSWhole
import Derived.Test.YtofhcplnnamcdabGrowV
import Derived.Test.YtofhcplnnamcdabOpRun
import Derived.ArgAppend
import Derived.Maps.AppendAt
namespace Go.Proofs.Ytofhcplnnamcdab
open Go.RowKit Go.PlainAid
set_option linter.unusedVariables false
set_option linter.unusedSimpArgs false

def IsEmp (base : Nat) (e : TypeId) : Value → World → Prop := fun v w => ∃ g, v = .slice (some ⟨g, 0, none⟩) 0 0 ∧ w.ownsRow base e 8 v 0 []
def IsRws (base : Nat) (e : TypeId) (xs : List Pc) : Value → World → Prop := fun v w => w.ownsRow base e 8 v xs.length (flatS pcL xs)
def IsOneP (q : Pc) : Value → World → Prop := fun v w => ∃ g, v = .slice (some ⟨g, 0, none⟩) 1 1 ∧ ∀ j u, (pcL q)[j]? = some u → w.cell? ((⟨g, 0, none⟩ : Addr).add j) = some u
theorem stable_isEmp (base : Nat) (e : TypeId) : Stable (IsEmp base e) := fun v w w' ⟨g, h1, h2⟩ hb => ⟨g, h1, own_stable h2 hb⟩
theorem stable_isRws (base : Nat) (e : TypeId) (xs : List Pc) : Stable (IsRws base e xs) := fun v w w' h hb => own_stable h hb
theorem stable_isOneP (q : Pc) : Stable (IsOneP q) := fun v w w' ⟨g, h1, h2⟩ hb => ⟨g, h1, fun j u hu => by
  have hc := h2 j u hu
  have hlt := World.block_lt_of_cell? w _ hc
  have e : ((⟨g, 0, none⟩ : Addr).add j) = ⟨g, j, none⟩ := by simp [Addr.add]; omega
  rw [e] at hc hlt ⊢
  exact ((bcell hb).1 g j hlt).trans hc⟩

/-- All pieces of a slice, behind an empty one that has no room. -/
theorem append_all {base g0 b off cap : Nat} {ty : TypeId} {xs : List Pc} {w : World} (h0 : w.ownsRow base 37 8 (.slice (some ⟨g0, 0, none⟩) 0 0) 0 []) (hx : SlAt pcL 8 w b off xs) (hl : xs.length ≤ 1048576) (hb : base ≤ w.heap.size) :
    ∃ v' w', (Builtin.append_ #[30, 30] ty #[.slice (some ⟨g0, 0, none⟩) 0 0, .slice (some ⟨b, off, none⟩) xs.length cap]).run Try.prog w = .ok v' w' ∧ w'.ownsRow base 37 8 v' xs.length (flatS pcL xs) ∧ Below w.heap.size w w' := by
  obtain ⟨i0, hi, hz0, hz1, hz2⟩ := info_parts Try.infoPt
  by_cases hn : xs.length = 0
  · have hx0 : xs = [] := List.length_eq_zero_iff.1 hn
    subst hx0
    have hr := run_append_room_cells (P := Try.prog) w 30 ty 37 i0 Try.underlying30 hi g0 0 0 0 ⟨b, off, none⟩ 0 cap [] (by simp) (fun j u hu => by simp at hu) (fun u hu => by simp at hu) (by omega) (fun j hj => by simp at hj) (fun j hj => by simp at hj)
    exact ⟨_, _, hr, by simpa [flatS, World.setCells] using h0, by simpa [World.setCells] using Below.refl _ _⟩
  · obtain ⟨v', w', hr, h1, h2⟩ := run_append_arg_grows (P := Try.prog) w 30 ty 37 i0 _ 8 88 Try.underlying30 hi hz0 hz1 hz2 rfl (by decide) ⟨g0, 0, none⟩ 0 0 [] (by simp) (fun j u hu => by simp at hu) ⟨b, off, none⟩ xs.length cap (flatS pcL xs) (flatS_length pcL_length xs) (fun j u hu => by
      rw [Addr.add_lit]; exact flatS_cells pcL_length (by omega) hx j u hu) (by omega) (by unfold maxLen; omega) (by omega)
    refine ⟨v', w', hr, ?_, ⟨h2.os, h2.tape, h2.output, h2.size, fun k hk => h2.block k hk (by simp)⟩⟩
    rw [Nat.zero_add, List.nil_append] at h1
    refine ⟨h1.1, ?_⟩
    rcases h1.2 with h3 | ⟨g, c, cur, h3, h4, h5⟩
    · exact .inl h3
    · exact .inr ⟨g, c, cur, h3, Nat.le_trans hb h4, h5⟩
end Go.Proofs.Ytofhcplnnamcdab
