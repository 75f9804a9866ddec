/- A scope with several labels (goto): a law of the walk, in the manner of the library's own for one label; nothing of the program. -/
import Derived.ScopeJumps
namespace Go.Proofs.YtebhljogijemoaaDoor
/-- As Q; by a goto to label l: J l. -/
def jumpN (J : Nat → Act → World → Prop) (Q : Exit → Act → World → Prop) : Exit → Act → World → Prop
  | .goto l, a, w => J l a w
  | e, a, w => Q e a w

section
variable {P : Program} {a : Act} {w : World} {Q : Exit → Act → World → Prop}

/-- A scope with several labels: what holds at each jump, and a measure that each pass lowers. -/
theorem wp_scope_labels {c : Code} (J : Nat → Act → World → Prop) (μ : Nat → Act → World → Nat) (R : Nat → Code) (hf : ∀ l a w, J l a w → findLabel c l = some (R l))
    (first : c.wp P (jumpN J Q) a w)
    (pass : ∀ l a w, J l a w → (R l).wp P (jumpN (fun l' a' w' => J l' a' w' ∧ μ l' a' w' < μ l a w) Q) a w) : (Code.scope c).wp P Q a w := by
  intro b k cs
  have hg : ∀ l a w, J l a w → gotoIn l (.inScope c :: k) = some (.code (R l) :: .inScope c :: k) := fun l a w h => by simp [gotoIn, hf l a w h]
  have key : ∀ n l a w, μ l a w = n → J l a w → ∃ e a' w', Q e a' w' ∧ Arrives P (lone (b.at a (.code (R l) :: .inScope c :: k)) cs w) b k cs e a' w' := by
    intro n
    induction n using Nat.strongRecOn with
    | _ n ih =>
      intro l a w hn hJ
      obtain ⟨e, a₁, w₁, hq, harr⟩ := pass l a w hJ b (.inScope c :: k) cs
      cases e with
      | normal => exact ⟨.normal, a₁, w₁, hq, Steps.trans harr (.one step_inScope)⟩
      | exit id => exact ⟨.exit id, a₁, w₁, hq, fun k' hk => harr k' (by simp [exitTo, hk])⟩
      | goto l' =>
        obtain ⟨hJ', hlt⟩ := hq
        obtain ⟨e₂, a₂, w₂, hq₂, harr₂⟩ := ih _ (by omega) l' a₁ w₁ rfl hJ'
        exact ⟨e₂, a₂, w₂, hq₂, .of_steps (harr _ (hg l' a₁ w₁ hJ')) harr₂⟩
      | ret => exact ⟨_, a₁, w₁, hq, harr⟩
      | panic ch => exact ⟨_, a₁, w₁, hq, harr⟩
      | outgrown => exact ⟨_, a₁, w₁, hq, harr⟩
  obtain ⟨e, a₁, w₁, hq, harr⟩ := first b (.inScope c :: k) cs
  cases e with
  | normal => exact ⟨.normal, a₁, w₁, hq, .head step_scope (Steps.trans harr (.one step_inScope))⟩
  | exit id => exact ⟨.exit id, a₁, w₁, hq, fun k' hk => .head step_scope (harr k' (by simp [exitTo, hk]))⟩
  | goto l' =>
    have hJ' : J l' a₁ w₁ := hq
    obtain ⟨e₂, a₂, w₂, hq₂, harr₂⟩ := key _ l' a₁ w₁ rfl hJ'
    exact ⟨e₂, a₂, w₂, hq₂, .of_steps (.head step_scope (harr _ (hg l' a₁ w₁ hJ'))) harr₂⟩
  | ret => exact ⟨_, a₁, w₁, hq, .of_steps (.one step_scope) harr⟩
  | panic ch => exact ⟨_, a₁, w₁, hq, .of_steps (.one step_scope) harr⟩
  | outgrown => exact ⟨_, a₁, w₁, hq, .of_steps (.one step_scope) harr⟩

theorem wp_mono {c : Code} {R : Exit → Act → World → Prop} (h : c.wp P Q a w) (m : ∀ e a w, Q e a w → R e a w) : c.wp P R a w := by
  intro b k cs
  obtain ⟨e, a', w', hq, harr⟩ := h b k cs
  exact ⟨e, a', w', m e a' w' hq, harr⟩

/-- .. with the labels 0, 1 and 2: the run falls from 1 into 0 and from 0 into 2. -/
theorem wp_scope_three {c d0 d1 d2 : Code} (J : Nat → Act → World → Prop) (μ : Nat → Act → World → Nat) (h0 : findLabel c 0 = some (Code.skip.seq d0)) (h1 : findLabel c 1 = some (Code.skip.seq d1)) (h2 : findLabel c 2 = some (Code.skip.seq d2))
    (hJ : ∀ l a w, J l a w → l < 3)
    (pass2 : ∀ M a w, J 2 a w → μ 2 a w ≤ M → d2.wp P (jumpN (fun l' a' w' => J l' a' w' ∧ μ l' a' w' < M) Q) a w)
    (pass0 : (∀ M a w, J 2 a w → μ 2 a w ≤ M → d2.wp P (jumpN (fun l' a' w' => J l' a' w' ∧ μ l' a' w' < M) Q) a w) → ∀ M a w, J 0 a w → μ 0 a w ≤ M → d0.wp P (jumpN (fun l' a' w' => J l' a' w' ∧ μ l' a' w' < M) Q) a w)
    (pass1 : (∀ M a w, J 0 a w → μ 0 a w ≤ M → d0.wp P (jumpN (fun l' a' w' => J l' a' w' ∧ μ l' a' w' < M) Q) a w) → ∀ M a w, J 1 a w → μ 1 a w ≤ M → d1.wp P (jumpN (fun l' a' w' => J l' a' w' ∧ μ l' a' w' < M) Q) a w)
    (first : (∀ a w, J 1 a w → d1.wp P (jumpN J Q) a w) → c.wp P (jumpN J Q) a w) : (Code.scope c).wp P Q a w := by
  have p0 := pass0 pass2
  have p1 := pass1 p0
  refine wp_scope_labels J μ (fun l => if l = 0 then Code.skip.seq d0 else if l = 1 then Code.skip.seq d1 else Code.skip.seq d2) (fun l a w h => ?_) (first (fun a w h => wp_mono (p1 _ a w h (Nat.le_refl _)) (fun e a w hq => ?_))) (fun l a w h => ?_)
  · have h3 : l = 0 ∨ l = 1 ∨ l = 2 := by have := hJ l a w h; omega
    rcases h3 with rfl | rfl | rfl
    · exact h0
    · exact h1
    · exact h2
  · cases e <;> first | exact hq.1 | exact hq
  · have h3 : l = 0 ∨ l = 1 ∨ l = 2 := by have := hJ l a w h; omega
    rcases h3 with rfl | rfl | rfl
    · exact wp_seq (wp_skip (p0 _ a w h (Nat.le_refl _)))
    · exact wp_seq (wp_skip (p1 _ a w h (Nat.le_refl _)))
    · exact wp_seq (wp_skip (pass2 _ a w h (Nat.le_refl _)))
end
end Go.Proofs.YtebhljogijemoaaDoor
