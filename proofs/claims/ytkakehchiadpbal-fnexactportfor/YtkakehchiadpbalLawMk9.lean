/- LawMk9: the laws' marks of pools, bibs and answers of chapter 9, with what they leave alone. -/
import Derived.Test.YtkakehchiadpbalLawSt9
namespace Go.Proofs.Ytkakehchiadpbal
open Go.RowKit Go.PlainAid Go.ChangeShapes Go.WideShapes
set_option linter.unusedVariables false
set_option linter.unusedSimpArgs false

set_option maxRecDepth 100000 in
set_option maxHeartbeats 1000000 in
theorem markPool_out (lo hi : Nat) (p : Pl) (a1 : Option Addr) (cap1 k : Nat) (w : World) (hk : 0 < k) (hL : k + 1 * p.addrs.length ≤ 1073741824) (hs : SlIn strL1 1 lo hi w a1 p.addrs) :
    Calls Try.prog 26 #[plC a1 cap1 p, .int .i64 k] w fun e w' => e = .returned (.int .i64 ((k + 1 * p.addrs.length : Nat) : Int)) ∧ OutOf lo hi w w' := by
  have GA : Hid (Below w.heap.size w (w.alloc (.cells #[.slice a1 p.addrs.length cap1, .int .i64 p.low, .int .i64 p.high, .int .i64 p.most, .int .i64 p.filter, .int .i64 p.lv.udp, .int .i64 p.lv.echo, .int .i64 p.lv.opening, .int .i64 p.lv.opn, .int .i64 p.lv.closing] 31))) := (Below.refl _ _).alloc (Nat.le_refl _) _
  have HM : Hid (∀ W, Below w.heap.size w W → Calls Try.prog 65 #[.slice a1 p.addrs.length cap1, .int .i64 k] W fun e w' => e = .returned (.int .i64 ((k + 1 * p.addrs.length : Nat) : Int)) ∧ OutOf lo hi W w') := fun W hW => by
    rcases hs.kept hW with h | ⟨g, rfl, h1, h2, h3⟩
    · rw [h]
      refine (markStringS_nil a1 cap1 k W (by omega)).mono ?_
      rintro e w' ⟨rfl, rfl⟩
      exact ⟨rfl, OutOf.of_below (Below.refl _ _)⟩
    · refine (markStringS_any g p.addrs.length cap1 k W hk hL (h3.other _)).mono ?_
      rintro e w' ⟨rfl, _, h5⟩
      exact ⟨rfl, OutOf.of_grown h5 h1 h2⟩
  clear hs
  unfold plC
  go_enter Try.func26, Try.ntmps26
  go_wp2_with fail
  refine (HM.out _ GA.out).mono ?_
  rintro e w1 ⟨rfl, q1⟩
  have G1 : Hid (OutOf lo hi w w1) := (OutOf.of_below GA.out).trans q1
  clear q1
  go_wp2_with fail
  go_ret
  exact ⟨ret_int (by omega), G1.out⟩
theorem markBindS_out (lo hi : Nat) (x : Bb) (a b : Option Addr) (ca k : Nat) (w : World) (hk : 0 < k) (hL : k + 5 * x.binds.length ≤ 1073741824) (hs : BbIn lo hi w a b x) :
    Calls Try.prog 66 #[.slice a x.binds.length ca, .int .i64 k] w fun e w' => e = .returned (.int .i64 ((k + 5 * x.binds.length : Nat) : Int)) ∧ MkOwn 5 bindM lo w' a k x.binds.length ∧ SlIn ssL 7 lo hi w' b x.sess ∧ OutOf lo hi w w' := by
  obtain ⟨h1, h2, h3⟩ := hs
  by_cases e1 : x.binds = []
  · rw [e1]
    refine (markBindS_nil a ca k w (by omega)).mono ?_
    rintro e w' ⟨rfl, rfl⟩
    exact ⟨rfl, .inl rfl, h2, OutOf.of_below (Below.refl _ _)⟩
  · rcases h1 with e | ⟨g, rfl, hb, hh, hl⟩
    · exact absurd e e1
    · refine (markBindS_any g x.binds.length ca k w hk hL (hl.other _)).mono ?_
      rintro e w' ⟨rfl, q1, q2⟩
      refine ⟨rfl, .inr ⟨g, rfl, hb, q1⟩, ?_, OutOf.of_grown q2 hb hh⟩
      by_cases e2 : x.sess = []
      · exact .inl e2
      · rcases h2 with e | ⟨h, rfl, hb2, hh2, hl2⟩
        · exact absurd e e2
        · exact .inr ⟨h, rfl, hb2, hh2, hl2.grownNe q2 (fun e => h3 g h rfl rfl e1 e2 e.symm)⟩
theorem markSessionS_out (lo hi : Nat) (xs : List Ss) (a b : Option Addr) (cb k kb nb : Nat) (w : World) (hk : 0 < k) (hL : k + 7 * xs.length ≤ 1073741824) (hm : MkOwn 5 bindM lo w a kb nb) (hs : SlIn ssL 7 lo hi w b xs) (hne : ∀ g h, a = some ⟨g, 0, none⟩ → b = some ⟨h, 0, none⟩ → nb ≠ 0 → xs ≠ [] → g ≠ h) :
    Calls Try.prog 67 #[.slice b xs.length cb, .int .i64 k] w fun e w' => e = .returned (.int .i64 ((k + 7 * xs.length : Nat) : Int)) ∧ MkOwn 5 bindM lo w' a kb nb ∧ MkOwn 7 sessionM lo w' b k xs.length ∧ OutOf lo hi w w' := by
  by_cases e1 : xs = []
  · rw [e1]
    refine (markSessionS_nil b cb k w (by omega)).mono ?_
    rintro e w' ⟨rfl, rfl⟩
    exact ⟨rfl, hm, .inl rfl, OutOf.of_below (Below.refl _ _)⟩
  · rcases hs with e | ⟨h, rfl, hb, hh, hl⟩
    · exact absurd e e1
    · refine (markSessionS_any h xs.length cb k w hk hL (hl.other _)).mono ?_
      rintro e w' ⟨rfl, q1, q2⟩
      refine ⟨rfl, ?_, .inr ⟨h, rfl, hb, q1⟩, OutOf.of_grown q2 hb hh⟩
      by_cases e2 : nb = 0
      · exact .inl e2
      · rcases hm with e | ⟨g, rfl, hb2, hl2⟩
        · exact absurd e e2
        · exact .inr ⟨g, rfl, hb2, hl2.grownNe q2 (fun e => hne g h rfl rfl e2 e1 e)⟩
set_option maxRecDepth 100000 in
set_option maxHeartbeats 1000000 in
theorem markBib_out (lo hi : Nat) (x : Bb) (a b : Option Addr) (ca cb k : Nat) (w : World) (hh : hi ≤ w.heap.size) (hk : 0 < k) (hL : k + 5 * x.binds.length + 7 * x.sess.length ≤ 1073741824) (hs : BbIn lo hi w a b x) :
    Calls Try.prog 27 #[bbC a b ca cb x, .int .i64 k] w fun e w' => e = .returned (.int .i64 ((k + 5 * x.binds.length + 7 * x.sess.length : Nat) : Int)) ∧ BbMk lo w' a b k x.binds.length x.sess.length ∧ OutOf lo hi w w' := by
  have GA : Hid (Below w.heap.size w (w.alloc (.cells #[.slice a x.binds.length ca, .slice b x.sess.length cb] 44))) := (Below.refl _ _).alloc (Nat.le_refl _) _
  have HM : Hid _ := markBindS_out lo hi x a b ca k (w.alloc (.cells #[.slice a x.binds.length ca, .slice b x.sess.length cb] 44)) hk (by omega) (hs.kept GA.out)
  have HN : Hid (∀ W, MkOwn 5 bindM lo W a k x.binds.length → SlIn ssL 7 lo hi W b x.sess → Calls Try.prog 67 #[.slice b x.sess.length cb, .int .i64 ((k + 5 * x.binds.length : Nat) : Int)] W fun e w' => e = .returned (.int .i64 ((k + 5 * x.binds.length + 7 * x.sess.length : Nat) : Int)) ∧ MkOwn 5 bindM lo w' a k x.binds.length ∧ MkOwn 7 sessionM lo w' b (k + 5 * x.binds.length) x.sess.length ∧ OutOf lo hi W w') := fun W h1 h2 => markSessionS_out lo hi x.sess a b cb (k + 5 * x.binds.length) k x.binds.length W (by omega) hL h1 h2 (fun g h e1 e2 n1 n2 => hs.ne g h e1 e2 (fun e => n1 (by rw [e]; rfl)) n2)
  have H0 : Hid _ := HoldsL.new w [.slice a x.binds.length ca, .slice b x.sess.length cb] 44
  have hh' : Hid (hi ≤ w.heap.size) := hh
  obtain ⟨k1, hk1⟩ : ∃ k1, k1 = k + 5 * x.binds.length := ⟨_, rfl⟩
  rw [← hk1] at HM HN hL ⊢
  obtain ⟨k2, hk2⟩ : ∃ k2, k2 = k1 + 7 * x.sess.length := ⟨_, rfl⟩
  rw [← hk2] at HN hL ⊢
  have HK1 : Hid (k1 = k + 5 * x.binds.length) := hk1
  clear hk1 hk2 hs hh
  unfold bbC
  go_enter Try.func27, Try.ntmps27
  go_wp2_with fail
  refine Calls.mono HM.out ?_
  rintro e w1 ⟨rfl, m1, o1, q1⟩
  have G1 : Hid (OutOf lo hi w w1) := (OutOf.of_below GA.out).trans q1
  have M1 : Hid _ := m1
  have O1 : Hid _ := o1
  have c1 : w1.cell? ⟨w.heap.size, 1, none⟩ = some (.slice b x.sess.length cb) := (H0.out.outOf (by simp) q1 (.inr hh'.out)).cell rfl
  clear m1 o1 q1
  go_wp2_with fail
  refine (HN.out _ M1.out O1.out).mono ?_
  rintro e w2 ⟨rfl, m2, o2, q2⟩
  have G2 : Hid (OutOf lo hi w w2) := G1.out.trans q2
  have M2 : Hid (BbMk lo w2 a b k x.binds.length x.sess.length) := ⟨m2, by rw [← HK1.out]; exact o2⟩
  clear m2 o2 q2
  go_wp2_with fail
  go_ret
  exact ⟨rfl, M2.out, G2.out⟩
set_option maxRecDepth 100000 in
set_option maxHeartbeats 1000000 in
theorem markBibOut_out (lo hi : Nat) (o : Bo) (a b : Option Addr) (ca cb k : Nat) (w : World) (hh : hi ≤ w.heap.size) (hk : 0 < k) (hL : k + 5 * o.bib.binds.length + 7 * o.bib.sess.length ≤ 1073741824) (hs : BbIn lo hi w a b o.bib) :
    Calls Try.prog 28 #[boC a b ca cb o, .int .i64 k] w fun e w' => e = .returned (.int .i64 ((k + 5 * o.bib.binds.length + 7 * o.bib.sess.length : Nat) : Int)) ∧ BbMk lo w' a b k o.bib.binds.length o.bib.sess.length ∧ OutOf lo hi w w' := by
  have GA : Hid (Below w.heap.size w (w.alloc (.cells (boL a b ca cb o).toArray 54))) := (Below.refl _ _).alloc (Nat.le_refl _) _
  have HM : Hid _ := markBib_out lo hi o.bib a b ca cb k (w.alloc (.cells (boL a b ca cb o).toArray 54)) (by simp; omega) hk hL (hs.kept GA.out)
  obtain ⟨k2, hk2⟩ : ∃ k2, k2 = k + 5 * o.bib.binds.length + 7 * o.bib.sess.length := ⟨_, rfl⟩
  rw [← hk2] at HM hL ⊢
  unfold boC
  unfold bbC at HM
  unfold boL at HM GA
  clear hk2 hs
  go_enter Try.func28, Try.ntmps28
  go_wp2_with fail
  refine Calls.mono HM.out ?_
  rintro e w1 ⟨rfl, m1, q1⟩
  have G1 : Hid (OutOf lo hi w w1) := (OutOf.of_below GA.out).trans q1
  have M1 : Hid _ := m1
  clear m1 q1
  go_wp2_with fail
  go_ret
  exact ⟨rfl, M1.out, G1.out⟩
section
variable {base lo hi B : Nat} {w W : World} {a b : Option Addr} {x : Bb}
theorem BbOwn.grownNe (h : BbOwn base w a b x) (hg : w.grownBy W (some B)) (hne : ∀ g o, (x.binds ≠ [] ∧ a = some ⟨g, o, none⟩) ∨ (x.sess ≠ [] ∧ b = some ⟨g, o, none⟩) → g ≠ B) : BbOwn base W a b x := by
  refine ⟨?_, ?_, h.ne⟩
  · by_cases e : x.binds = []
    · exact .inl e
    · rcases h.bd with h1 | ⟨g, rfl, h2, h3⟩
      · exact .inl h1
      · exact .inr ⟨g, rfl, h2, h3.grownNe hg (hne g 0 (.inl ⟨e, rfl⟩))⟩
  · by_cases e : x.sess = []
    · exact .inl e
    · rcases h.ss with h1 | ⟨g, rfl, h2, h3⟩
      · exact .inl h1
      · exact .inr ⟨g, rfl, h2, h3.grownNe hg (hne g 0 (.inr ⟨e, rfl⟩))⟩
/-- The rows of a bib and a box that begins with a slice are apart. -/
theorem BbOwn.not_box {y : Option Addr} {n cap : Nat} {l : List Value} (h : BbOwn base w a b x) (hB : HoldsL w B (.slice y n cap :: l)) : ∀ g o, (x.binds ≠ [] ∧ a = some ⟨g, o, none⟩) ∨ (x.sess ≠ [] ∧ b = some ⟨g, o, none⟩) → g ≠ B := by
  intro g o hc hg
  subst hg
  have h2 : w.cell? ⟨g, 0, none⟩ = some (.slice y n cap) := hB.cell rfl
  rcases hc with ⟨h1, rfl⟩ | ⟨h1, rfl⟩
  · rcases h.bd with h3 | ⟨g', e, _, h3⟩
    · exact h1 h3
    · cases e
      cases hx : x.binds with
      | nil => exact h1 hx
      | cons q qs =>
        rw [hx] at h3
        have := h3.at 0 (by simp) 0 (.int .i64 q.proto) rfl
        simp at this
        rw [h2] at this
        simp at this
  · rcases h.ss with h3 | ⟨g', e, _, h3⟩
    · exact h1 h3
    · cases e
      cases hx : x.sess with
      | nil => exact h1 hx
      | cons q qs =>
        rw [hx] at h3
        have := h3.at 0 (by simp) 0 (.int .i64 q.proto) rfl
        simp at this
        rw [h2] at this
        simp at this
end
/-- An answer that is told, a box for it, in a drawn region. -/
def IsBo (base : Nat) (o : Bo) : Value → World → Prop := fun v w => ∃ a b ca cb, v = boC a b ca cb o ∧ BbOwn base w a b o.bib
theorem stable_isBo (base : Nat) (o : Bo) : Stable (IsBo base o) := fun v w w' ⟨a, b, ca, cb, h1, h2⟩ hb => ⟨a, b, ca, cb, h1, h2.kept hb⟩
def IsZx (base : Nat) (zs : List Value) : Value → World → Prop := fun v w => ∃ g, v = .pointer (some ⟨g, 0, none⟩) ∧ base ≤ g ∧ HoldsL w g zs
theorem stable_isZx (base : Nat) (zs : List Value) (h : 0 < zs.length) : Stable (IsZx base zs) := fun v w w' ⟨g, h1, h2, h3⟩ hb => ⟨g, h1, h2, h3.kept h hb⟩
end Go.Proofs.Ytkakehchiadpbal
