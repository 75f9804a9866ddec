/- LawBibM: the laws' helpers for a Bib and a BibOut of its own: marked and held; BibOuts held against one another. -/
import Derived.Test.YtkakehchiadpbalLawBib
namespace Go.Proofs.Ytkakehchiadpbal
open Go.RowKit Go.PlainAid Go.ChangeShapes Go.WideShapes
set_option linter.unusedVariables false
set_option linter.unusedSimpArgs false

section
variable {α : Type} {en : α → List Value} {n : Nat} {w W : World}
theorem SlLaid.grownNe {B X : Nat} {xs : List α} {L k : Nat} (h : SlLaid en n w B xs L k) (hg : w.grownBy W (some X)) (hne : B ≠ X) : SlLaid en n W B xs L k := by
  have hb : W.heap[B]? = w.heap[B]? := hg.block B h.blk (fun e => hne (by injection e))
  have hc : ∀ o, W.cell? ⟨B, o, none⟩ = w.cell? ⟨B, o, none⟩ := fun o => by unfold World.cell?; rw [show (⟨B, o, none⟩ : Addr).block = B from rfl, hb]
  have hf : ∀ o, W.frozen? ⟨B, o, none⟩ = w.frozen? ⟨B, o, none⟩ := fun o => World.frozen?_of_block (a := ⟨B, o, none⟩) hb
  exact ⟨Nat.lt_of_lt_of_le h.blk hg.size, fun i hi hk j v hv => (hc _).trans (h.at0 i hi hk j v hv), fun i hi => by rw [hc]; exact h.there i hi, fun i hi => by rw [hf]; exact h.free i hi⟩
end

/-- A bib of its own that is marked. -/
structure BbMk (base : Nat) (w : World) (a b : Option Addr) (k nb ns : Nat) : Prop where
  bd : MkOwn 5 bindM base w a k nb
  ss : MkOwn 7 sessionM base w b (k + 5 * nb) ns
theorem BbMk.kept {base : Nat} {w W : World} {a b : Option Addr} {k nb ns : Nat} (h : BbMk base w a b k nb ns) (hB : Below w.heap.size w W) : BbMk base W a b k nb ns := ⟨h.bd.kept hB, h.ss.kept hB⟩
theorem below_of_grown {base B : Nat} {w W : World} (hg : w.grownBy W (some B)) (hb : base ≤ B) (hs : base ≤ w.heap.size) : Below base w W :=
  ⟨hg.os, hg.tape, hg.output, hg.size, fun j hj => hg.block j (Nat.lt_of_lt_of_le hj hs) (by simp; omega)⟩

/-- The two rows are marked, one behind the other. -/
theorem markBindS_two (base : Nat) (x : Bb) (a b : Option Addr) (ca k : Nat) (w : World) (hbs : base ≤ w.heap.size) (hk : 0 < k) (hL : k + 5 * x.binds.length ≤ 1073741824) (hs : BbOwn base w a b x) :
    Calls Try.prog 66 #[.slice a x.binds.length ca, .int .i64 k] w fun e w' => e = .returned (.int .i64 ((k + 5 * x.binds.length : Nat) : Int)) ∧ MkOwn 5 bindM base w' a k x.binds.length ∧ SlOwn ssL 7 base w' b x.sess ∧ Below base w w' ∧ ∀ B, B < w.heap.size → (x.binds ≠ [] → a ≠ some ⟨B, 0, none⟩) → w'.heap[B]? = w.heap[B]? := by
  obtain ⟨h1, h2, h3⟩ := hs
  by_cases e1 : x.binds = []
  · rw [e1]
    refine (markBindS_nil a ca k w (by omega)).mono ?_
    rintro e w' ⟨rfl, rfl⟩
    exact ⟨rfl, .inl rfl, h2, Below.refl _ _, fun _ _ _ => rfl⟩
  · rcases h1 with e | ⟨g, rfl, hb, hl⟩
    · exact absurd e e1
    · refine (markBindS_any g x.binds.length ca k w hk hL (hl.other _)).mono ?_
      rintro e w' ⟨rfl, q1, q2⟩
      refine ⟨rfl, .inr ⟨g, rfl, hb, q1⟩, ?_, below_of_grown q2 hb hbs, fun B hB hne => q2.block B hB (fun e => hne e1 (by injection e with e; rw [e]))⟩
      by_cases e2 : x.sess = []
      · exact .inl e2
      · rcases h2 with e | ⟨h, rfl, hb2, hl2⟩
        · exact absurd e e2
        · exact .inr ⟨h, rfl, hb2, hl2.grownNe q2 (fun e => h3 g h rfl rfl e1 e2 e.symm)⟩
theorem markSessionS_two (base : Nat) (x : Bb) (a b : Option Addr) (cb k kb nb : Nat) (w : World) (hbs : base ≤ w.heap.size) (hk : 0 < k) (hL : k + 7 * x.sess.length ≤ 1073741824) (hm : MkOwn 5 bindM base w a kb nb) (hs : SlOwn ssL 7 base w b x.sess) (hne : ∀ g h, a = some ⟨g, 0, none⟩ → b = some ⟨h, 0, none⟩ → nb ≠ 0 → x.sess ≠ [] → g ≠ h) :
    Calls Try.prog 67 #[.slice b x.sess.length cb, .int .i64 k] w fun e w' => e = .returned (.int .i64 ((k + 7 * x.sess.length : Nat) : Int)) ∧ MkOwn 5 bindM base w' a kb nb ∧ MkOwn 7 sessionM base w' b k x.sess.length ∧ Below base w w' := by
  by_cases e1 : x.sess = []
  · rw [e1]
    refine (markSessionS_nil b cb k w (by omega)).mono ?_
    rintro e w' ⟨rfl, rfl⟩
    exact ⟨rfl, hm, .inl rfl, Below.refl _ _⟩
  · rcases hs with e | ⟨h, rfl, hb, hl⟩
    · exact absurd e e1
    · refine (markSessionS_any h x.sess.length cb k w hk hL (hl.other _)).mono ?_
      rintro e w' ⟨rfl, q1, q2⟩
      refine ⟨rfl, ?_, .inr ⟨h, rfl, hb, q1⟩, below_of_grown q2 hb hbs⟩
      by_cases e2 : nb = 0
      · exact .inl e2
      · rcases hm with e | ⟨g, rfl, hb2, hl2⟩
        · exact absurd e e2
        · exact .inr ⟨g, rfl, hb2, hl2.grownNe q2 (fun e => hne g h rfl rfl e2 e1 e)⟩

set_option maxRecDepth 100000 in
set_option maxHeartbeats 1000000 in
theorem markBib_own (base : Nat) (x : Bb) (a b : Option Addr) (ca cb k : Nat) (w : World) (hbs : base ≤ w.heap.size) (hk : 0 < k) (hL : k + 5 * x.binds.length + 7 * x.sess.length ≤ 1073741824) (hs : BbOwn base w a b x) :
    Calls Try.prog 27 #[bbC a b ca cb x, .int .i64 k] w fun e w' => e = .returned (.int .i64 ((k + 5 * x.binds.length + 7 * x.sess.length : Nat) : Int)) ∧ BbMk base w' a b k x.binds.length x.sess.length ∧ Below base w w' := by
  have GA : Hid (Below w.heap.size w (w.alloc (.cells #[.slice a x.binds.length ca, .slice b x.sess.length cb] 44))) := (Below.refl _ _).alloc (Nat.le_refl _) _
  have HM : Hid _ := markBindS_two base x a b ca k (w.alloc (.cells #[.slice a x.binds.length ca, .slice b x.sess.length cb] 44)) (by simp; omega) hk (by omega) (hs.kept GA.out)
  have HN : Hid (∀ W, base ≤ W.heap.size → MkOwn 5 bindM base W a k x.binds.length → SlOwn ssL 7 base W b x.sess → Calls Try.prog 67 #[.slice b x.sess.length cb, .int .i64 ((k + 5 * x.binds.length : Nat) : Int)] W fun e w' => e = .returned (.int .i64 ((k + 5 * x.binds.length + 7 * x.sess.length : Nat) : Int)) ∧ MkOwn 5 bindM base w' a k x.binds.length ∧ MkOwn 7 sessionM base w' b (k + 5 * x.binds.length) x.sess.length ∧ Below base W w') := fun W hW h1 h2 => markSessionS_two base x a b cb (k + 5 * x.binds.length) k x.binds.length W hW (by omega) hL h1 h2 (fun g h e1 e2 n1 n2 => hs.ne g h e1 e2 (fun e => n1 (by rw [e]; rfl)) n2)
  have H0 : Hid _ := HoldsL.new w [.slice a x.binds.length ca, .slice b x.sess.length cb] 44
  have HNE : Hid (x.binds ≠ [] → a ≠ some ⟨w.heap.size, 0, none⟩) := fun h e => by
    rcases hs.bd with e2 | ⟨g, e2, _, hl⟩
    · exact h e2
    · rw [e] at e2; injection e2 with e2; injection e2 with e2 _; have := hl.blk; omega
  have hlt : Hid (base ≤ w.heap.size) := hbs
  obtain ⟨k1, hk1⟩ : ∃ k1, k1 = k + 5 * x.binds.length := ⟨_, rfl⟩
  rw [← hk1] at HM HN hL ⊢
  obtain ⟨k2, hk2⟩ : ∃ k2, k2 = k1 + 7 * x.sess.length := ⟨_, rfl⟩
  rw [← hk2] at HN hL ⊢
  have HK1 : Hid (k1 = k + 5 * x.binds.length) := hk1
  clear hk1 hk2 hs
  unfold bbC
  go_enter Try.func27, Try.ntmps27
  go_wp2_with fail
  refine Calls.mono HM.out ?_
  rintro e w1 ⟨rfl, m1, o1, q1, p1⟩
  have G1 : Hid (Below base w w1) := (GA.out.mono hlt.out).trans q1
  have M1 : Hid _ := m1
  have O1 : Hid _ := o1
  have c1 : w1.cell? ⟨w.heap.size, 1, none⟩ = some (.slice b x.sess.length cb) := by
    exact (H0.out.of_block (p1 w.heap.size (by simp) HNE.out)).cell rfl
  clear m1 o1 q1 p1
  go_wp2_with fail
  refine (HN.out _ (Nat.le_trans hlt.out G1.out.size) M1.out O1.out).mono ?_
  rintro e w2 ⟨rfl, m2, o2, q2⟩
  have G2 : Hid (Below base w w2) := G1.out.trans q2
  have M2 : Hid (BbMk base w2 a b k x.binds.length x.sess.length) := ⟨m2, by rw [← HK1.out]; exact o2⟩
  clear m2 o2 q2
  go_wp2_with fail
  go_ret
  exact ⟨rfl, M2.out, G2.out⟩

set_option maxRecDepth 100000 in
set_option maxHeartbeats 1000000 in
theorem heldBib_own (base nb ns : Nat) (a b : Option Addr) (ca cb k : Nat) (w : World) (hk : 0 < k) (hL : k + 5 * nb + 7 * ns ≤ 1073741824) (hs : BbMk base w a b k nb ns) :
    Calls Try.prog 68 #[.agg #[.slice a nb ca, .slice b ns cb], .int .i64 k] w fun e w' => e = .returned (.int .i64 ((k + 5 * nb + 7 * ns : Nat) : Int)) ∧ Below w.heap.size w w' := by
  have GA : Hid (Below w.heap.size w (w.alloc (.cells #[.slice a nb ca, .slice b ns cb] 44))) := (Below.refl _ _).alloc (Nat.le_refl _) _
  have HM : Hid (∀ W, Below w.heap.size w W → Calls Try.prog 88 #[.slice a nb ca, .int .i64 k] W fun e w' => e = .returned (.int .i64 ((k + 5 * nb : Nat) : Int)) ∧ Below W.heap.size W w') := fun W hW => heldBindS_own base nb a ca k W hk (by omega) (hs.kept hW).bd
  have HN : Hid (∀ W, Below w.heap.size w W → Calls Try.prog 89 #[.slice b ns cb, .int .i64 ((k + 5 * nb : Nat) : Int)] W fun e w' => e = .returned (.int .i64 ((k + 5 * nb + 7 * ns : Nat) : Int)) ∧ Below W.heap.size W w') := fun W hW => heldSessionS_own base ns b cb (k + 5 * nb) W (by omega) hL (hs.kept hW).ss
  have H0 : Hid _ := HoldsL.new w [.slice a nb ca, .slice b ns cb] 44
  obtain ⟨k1, hk1⟩ : ∃ k1, k1 = k + 5 * nb := ⟨_, rfl⟩
  rw [← hk1] at HM HN hL ⊢
  obtain ⟨k2, hk2⟩ : ∃ k2, k2 = k1 + 7 * ns := ⟨_, rfl⟩
  rw [← hk2] at HN hL ⊢
  have h1 : 0 < k1 := by omega
  have h2 : 0 < k2 := by omega
  have h3 : k1 ≤ 1073741824 := by omega
  clear hk1 hk2 hs
  go_enter Try.func68, Try.ntmps68
  go_wp2_with fail
  refine (HM.out _ GA.out).mono ?_
  rintro e w1 ⟨rfl, q1⟩
  have G1 : Hid (Below w.heap.size w w1) := GA.out.trans (q1.mono GA.out.size)
  have c1 : w1.cell? ⟨w.heap.size, 1, none⟩ = some (.slice b ns cb) := (H0.out.kept (by simp) q1).cell rfl
  clear q1
  go_wp2_with fail
  refine (HN.out _ G1.out).mono ?_
  rintro e w2 ⟨rfl, q2⟩
  have G2 : Hid (Below w.heap.size w w2) := G1.out.trans (q2.mono G1.out.size)
  clear q2
  go_wp2_with fail
  go_ret
  exact ⟨rfl, G2.out⟩

/-- An answer of chapter 9. -/
structure Bo where
  bib : Bb
  bind : Bd
  code : Int
def boL (a b : Option Addr) (ca cb : Nat) (o : Bo) : List Value := [.slice a o.bib.binds.length ca, .slice b o.bib.sess.length cb, .int .i64 o.bind.proto, .string o.bind.inn, .int .i64 o.bind.inPort, .string o.bind.out, .int .i64 o.bind.outPort, .int .i64 o.code]
def boC (a b : Option Addr) (ca cb : Nat) (o : Bo) : Value := .agg #[.slice a o.bib.binds.length ca, .slice b o.bib.sess.length cb, .int .i64 o.bind.proto, .string o.bind.inn, .int .i64 o.bind.inPort, .string o.bind.out, .int .i64 o.bind.outPort, .int .i64 o.code]
/-- An answer of its own is told. -/
def BoRet (base : Nat) (o : Bo) (e : Ending) (w : World) : Prop := ∃ a b ca cb, e = .returned (boC a b ca cb o) ∧ BbOwn base w a b o.bib

set_option maxRecDepth 100000 in
set_option maxHeartbeats 2000000 in
theorem eqBibOut_same (o : Bo) (a1 b1 a2 b2 : Option Addr) (ca1 cb1 ca2 cb2 : Nat) (w : World) (hl1 : o.bib.binds.length ≤ 1048576) (hl2 : o.bib.sess.length ≤ 1048576) (h1 : BbIs w a1 b1 o.bib) (h2 : BbIs w a2 b2 o.bib) :
    Calls Try.prog 25 #[boC a1 b1 ca1 cb1 o, boC a2 b2 ca2 cb2 o] w fun e w' => e = .returned (.bool true) ∧ Below w.heap.size w w' := by
  have HB : Hid (Below w.heap.size w ((w.alloc (.cells (boL a1 b1 ca1 cb1 o).toArray 54)).alloc (.cells (boL a2 b2 ca2 cb2 o).toArray 54))) := ((Below.refl _ _).alloc (Nat.le_refl _) _).alloc (by simp) _
  have H0 := (HoldsL.new w (boL a1 b1 ca1 cb1 o) 54).alloc (.cells (boL a2 b2 ca2 cb2 o).toArray 54)
  have H1 := HoldsL.new (w.alloc (.cells (boL a1 b1 ca1 cb1 o).toArray 54)) (boL a2 b2 ca2 cb2 o) 54
  rw [World.size_alloc] at H1
  have HS : Hid (∀ W, Below w.heap.size w W → Calls Try.prog 17 #[bbC a1 b1 ca1 cb1 o.bib, bbC a2 b2 ca2 cb2 o.bib] W fun e w' => e = .returned (.bool true) ∧ Below W.heap.size W w') := fun W hW => eqBib_same o.bib a1 b1 a2 b2 ca1 cb1 ca2 cb2 W hl1 hl2 (h1.below hW) (h2.below hW)
  have HT : Hid (∀ W, Calls Try.prog 20 #[bdC o.bind, bdC o.bind] W fun e w' => e = .returned (.bool true) ∧ Below W.heap.size W w') := fun W => eqBind_same o.bind W
  have G0 : Hid _ := H0
  have G1 : Hid _ := H1
  unfold boC
  unfold bbC at HS
  unfold bdC at HT
  unfold boL at HB G0 G1
  clear h1 h2 H0 H1
  go_enter Try.func25, Try.ntmps25
  go_upto_region 1 with fail
  generalize (w.alloc (.cells #[.slice a1 o.bib.binds.length ca1, .slice b1 o.bib.sess.length cb1, .int .i64 o.bind.proto, .string o.bind.inn, .int .i64 o.bind.inPort, .string o.bind.out, .int .i64 o.bind.outPort, .int .i64 o.code] 54)).alloc (.cells #[.slice a2 o.bib.binds.length ca2, .slice b2 o.bib.sess.length cb2, .int .i64 o.bind.proto, .string o.bind.inn, .int .i64 o.bind.inPort, .string o.bind.out, .int .i64 o.bind.outPort, .int .i64 o.code] 54) = W2 at *
  have k0 : W2.cell? ⟨w.heap.size, 0, none⟩ = some (.slice a1 o.bib.binds.length ca1) := G0.out.cell rfl
  have k1 : W2.cell? ⟨w.heap.size, 1, none⟩ = some (.slice b1 o.bib.sess.length cb1) := G0.out.cell rfl
  have m0 : W2.cell? ⟨w.heap.size + 1, 0, none⟩ = some (.slice a2 o.bib.binds.length ca2) := G1.out.cell rfl
  have m1 : W2.cell? ⟨w.heap.size + 1, 1, none⟩ = some (.slice b2 o.bib.sess.length cb2) := G1.out.cell rfl
  go_wp2_with fail
  refine (HS.out _ HB.out).mono ?_
  rintro e w1 ⟨rfl, q1⟩
  have B1 : Hid (Below w.heap.size w w1) := HB.out.trans (q1.mono HB.out.size)
  have K0 := G0.out.kept (by simp) q1
  have K1 := G1.out.kept (by simp) q1
  clear q1 k0 k1 m0 m1
  have c2 : w1.cell? ⟨w.heap.size, 2, none⟩ = some (.int .i64 o.bind.proto) := K0.cell rfl
  have c3 : w1.cell? ⟨w.heap.size, 3, none⟩ = some (.string o.bind.inn) := K0.cell rfl
  have c4 : w1.cell? ⟨w.heap.size, 4, none⟩ = some (.int .i64 o.bind.inPort) := K0.cell rfl
  have c5 : w1.cell? ⟨w.heap.size, 5, none⟩ = some (.string o.bind.out) := K0.cell rfl
  have c6 : w1.cell? ⟨w.heap.size, 6, none⟩ = some (.int .i64 o.bind.outPort) := K0.cell rfl
  have d2 : w1.cell? ⟨w.heap.size + 1, 2, none⟩ = some (.int .i64 o.bind.proto) := K1.cell rfl
  have d3 : w1.cell? ⟨w.heap.size + 1, 3, none⟩ = some (.string o.bind.inn) := K1.cell rfl
  have d4 : w1.cell? ⟨w.heap.size + 1, 4, none⟩ = some (.int .i64 o.bind.inPort) := K1.cell rfl
  have d5 : w1.cell? ⟨w.heap.size + 1, 5, none⟩ = some (.string o.bind.out) := K1.cell rfl
  have d6 : w1.cell? ⟨w.heap.size + 1, 6, none⟩ = some (.int .i64 o.bind.outPort) := K1.cell rfl
  have K0' : Hid _ := K0
  have K1' : Hid _ := K1
  clear K0 K1
  go_wp2_with fail
  refine (HT.out _).mono ?_
  rintro e w2 ⟨rfl, q2⟩
  have B2 : Hid (Below w.heap.size w w2) := B1.out.trans (q2.mono B1.out.size)
  have c7 : w2.cell? ⟨w.heap.size, 7, none⟩ = some (.int .i64 o.code) := (K0'.out.kept (by simp) q2).cell rfl
  have d7 : w2.cell? ⟨w.heap.size + 1, 7, none⟩ = some (.int .i64 o.code) := (K1'.out.kept (by simp) q2).cell rfl
  clear q2
  go_wp2_with fail
  go_ret
  exact ⟨rfl, B2.out⟩

set_option maxRecDepth 100000 in
set_option maxHeartbeats 1000000 in
theorem markBibOut_own (base : Nat) (o : Bo) (a b : Option Addr) (ca cb k : Nat) (w : World) (hbs : base ≤ w.heap.size) (hk : 0 < k) (hL : k + 5 * o.bib.binds.length + 7 * o.bib.sess.length ≤ 1073741824) (hs : BbOwn base w a b o.bib) :
    Calls Try.prog 28 #[boC a b ca cb o, .int .i64 k] w fun e w' => e = .returned (.int .i64 ((k + 5 * o.bib.binds.length + 7 * o.bib.sess.length : Nat) : Int)) ∧ BbMk base w' a b k o.bib.binds.length o.bib.sess.length ∧ Below base w w' := by
  have GA : Hid (Below w.heap.size w (w.alloc (.cells (boL a b ca cb o).toArray 54))) := (Below.refl _ _).alloc (Nat.le_refl _) _
  have HM : Hid _ := markBib_own base o.bib a b ca cb k (w.alloc (.cells (boL a b ca cb o).toArray 54)) (by simp; omega) hk hL (hs.kept GA.out)
  have hlt : Hid (base ≤ w.heap.size) := hbs
  obtain ⟨k2, hk2⟩ : ∃ k2, k2 = k + 5 * o.bib.binds.length + 7 * o.bib.sess.length := ⟨_, rfl⟩
  rw [← hk2] at HM hL ⊢
  unfold boC
  unfold bbC at HM
  unfold boL at HM GA
  clear hk2 hs
  go_enter Try.func28, Try.ntmps28
  go_wp2_with fail
  refine Calls.mono HM.out ?_
  rintro e w1 ⟨rfl, m1, q1⟩
  have G1 : Hid (Below base w w1) := (GA.out.mono hlt.out).trans q1
  have M1 : Hid _ := m1
  clear m1 q1
  go_wp2_with fail
  go_ret
  exact ⟨rfl, M1.out, G1.out⟩

set_option maxRecDepth 100000 in
set_option maxHeartbeats 1000000 in
theorem heldBibOut_own (base : Nat) (o : Bo) (a b : Option Addr) (ca cb k : Nat) (w : World) (hk : 0 < k) (hL : k + 5 * o.bib.binds.length + 7 * o.bib.sess.length ≤ 1073741824) (hs : BbMk base w a b k o.bib.binds.length o.bib.sess.length) :
    Calls Try.prog 29 #[boC a b ca cb o, .int .i64 k] w fun e w' => e = .returned (.int .i64 ((k + 5 * o.bib.binds.length + 7 * o.bib.sess.length : Nat) : Int)) ∧ Below w.heap.size w w' := by
  have GA : Hid (Below w.heap.size w (w.alloc (.cells (boL a b ca cb o).toArray 54))) := (Below.refl _ _).alloc (Nat.le_refl _) _
  have HM : Hid _ := heldBib_own base o.bib.binds.length o.bib.sess.length a b ca cb k (w.alloc (.cells (boL a b ca cb o).toArray 54)) hk hL (hs.kept GA.out)
  obtain ⟨k2, hk2⟩ : ∃ k2, k2 = k + 5 * o.bib.binds.length + 7 * o.bib.sess.length := ⟨_, rfl⟩
  have hk3 : 0 < k2 := by omega
  rw [← hk2] at HM hL ⊢
  unfold boC
  unfold boL at HM GA
  clear hk2 hs
  go_enter Try.func29, Try.ntmps29
  go_wp2_with fail
  refine Calls.mono HM.out ?_
  rintro e w1 ⟨rfl, q1⟩
  have G1 : Hid (Below w.heap.size w w1) := GA.out.trans (q1.mono GA.out.size)
  clear q1
  go_wp2_with fail
  go_ret
  exact ⟨rfl, G1.out⟩


end Go.Proofs.Ytkakehchiadpbal
