/- LawSt9, LawMk9, in one text. -/
import Derived.Test.YtilnnihongokealGreatDoorLawPool
import Derived.Test.YtilnnihongokealGreatDoorMerged5
import Derived.Test.YtilnnihongokealGreatDoorGrowV

/- LawSt9: what the laws of chapter 9 hold between their calls: rows that lie in a stretch of blocks, and what is changed in such a stretch alone; pools and bibs told in drawn regions. -/
namespace Go.Proofs.YtilnnihongokealGreatDoor
open Go.RowKit Go.PlainAid Go.ChangeShapes Go.WideShapes
set_option linter.unusedVariables false
set_option linter.unusedSimpArgs false

/-- Nothing that was there has changed but blocks from lo to hi. -/
structure OutOf (lo hi : Nat) (w W : World) : Prop where
 os : W.os = w.os
 tape : W.tape = w.tape
 output : W.output = w.output
 size : w.heap.size ≤ W.heap.size
 block : ∀ k, k < w.heap.size → (k < lo ∨ hi ≤ k) → W.heap[k]? = w.heap[k]?
section
variable {lo hi lo2 hi2 B : Nat} {w w1 W : World}
theorem OutOf.of_below (h : Below w.heap.size w W) : OutOf lo hi w W := ⟨h.os, h.tape, h.output, h.size, fun k hk _ => h.block k hk⟩
theorem OutOf.trans (h : OutOf lo hi w w1) (h2 : OutOf lo hi w1 W) : OutOf lo hi w W :=
 ⟨h2.os.trans h.os, h2.tape.trans h.tape, h2.output.trans h.output, Nat.le_trans h.size h2.size, fun k hk hb => (h2.block k (Nat.lt_of_lt_of_le hk h.size) hb).trans (h.block k hk hb)⟩
theorem OutOf.below (h : OutOf lo hi w W) {m : Nat} (hm : m ≤ lo) (hl : m ≤ w.heap.size) : Below m w W := ⟨h.os, h.tape, h.output, h.size, fun k hk => h.block k (by omega) (.inl (by omega))⟩
theorem OutOf.of_grown (h : w.grownBy W (some B)) (h1 : lo ≤ B) (h2 : B < hi) : OutOf lo hi w W :=
 ⟨h.os, h.tape, h.output, h.size, fun k hk hb => h.block k hk (by simp; omega)⟩
theorem HoldsL.outOf {cs : List Value} (h : HoldsL w B cs) (hl : 0 < cs.length) (ho : OutOf lo hi w W) (hb : B < lo ∨ hi ≤ B) : HoldsL W B cs := h.of_block (ho.block B (h.lt hl) hb)
end
section
variable {α : Type} {en : α → List Value} {n : Nat} {lo hi lo2 hi2 : Nat} {w W : World} {a : Option Addr} {xs : List α}
theorem SlLaid.of_block {B L k : Nat} (h : SlLaid en n w B xs L k) (hb : W.heap[B]? = w.heap[B]?) (hs : w.heap.size ≤ W.heap.size) : SlLaid en n W B xs L k := by
 have hc : ∀ o, W.cell? ⟨B, o, none⟩ = w.cell? ⟨B, o, none⟩ := fun o => by unfold World.cell?; rw [show (⟨B, o, none⟩ : Addr).block = B from rfl, hb]
 have hf : ∀ o, W.frozen? ⟨B, o, none⟩ = w.frozen? ⟨B, o, none⟩ := fun o => World.frozen?_of_block (a := ⟨B, o, none⟩) hb
 exact ⟨Nat.lt_of_lt_of_le h.blk hs, fun i hi hk j v hv => (hc _).trans (h.at0 i hi hk j v hv), fun i hi => by rw [hc]; exact h.there i hi, fun i hi => by rw [hf]; exact h.free i hi⟩
/-- A row of its own that lies in the blocks from lo to hi. -/
def SlIn (en : α → List Value) (n lo hi : Nat) (w : World) (a : Option Addr) (xs : List α) : Prop := xs = [] ∨ ∃ g, a = some ⟨g, 0, none⟩ ∧ lo ≤ g ∧ g < hi ∧ SlLaid en n w g xs xs.length xs.length
theorem SlIn.of_own (h : SlOwn en n lo w a xs) {hi : Nat} (hh : w.heap.size ≤ hi) : SlIn en n lo hi w a xs := by
 rcases h with h | ⟨g, h1, h2, h3⟩
 ·exact .inl h
 ·exact .inr ⟨g, h1, h2, Nat.lt_of_lt_of_le h3.blk hh, h3⟩
theorem SlIn.own (h : SlIn en n lo hi w a xs) : SlOwn en n lo w a xs := by
 rcases h with h | ⟨g, h1, h2, h3, h4⟩
 ·exact .inl h
 ·exact .inr ⟨g, h1, h2, h4⟩
theorem SlIn.is (h : SlIn en n lo hi w a xs) : SlIs en n w a xs := h.own.is
theorem SlIn.kept (h : SlIn en n lo hi w a xs) (hb : Below w.heap.size w W) : SlIn en n lo hi W a xs := by
 rcases h with h | ⟨g, h1, h2, h3, h4⟩
 ·exact .inl h
 ·exact .inr ⟨g, h1, h2, h3, h4.kept hb⟩
theorem SlIn.outOf (h : SlIn en n lo hi w a xs) (ho : OutOf lo2 hi2 w W) (hb : hi ≤ lo2 ∨ hi2 ≤ lo) : SlIn en n lo hi W a xs := by
 rcases h with h | ⟨g, h1, h2, h3, h4⟩
 ·exact .inl h
 ·exact .inr ⟨g, h1, h2, h3, h4.of_block (ho.block g h4.blk (by omega)) ho.size⟩
end
/-- A bib of its own whose rows lie in the blocks from lo to hi. -/
structure BbIn (lo hi : Nat) (w : World) (a b : Option Addr) (x : Bb) : Prop where
 bd : SlIn bdL 5 lo hi w a x.binds
 ss : SlIn ssL 7 lo hi w b x.sess
 ne : ∀ g h, a = some ⟨g, 0, none⟩ → b = some ⟨h, 0, none⟩ → x.binds ≠ [] → x.sess ≠ [] → g ≠ h
section
variable {lo hi lo2 hi2 : Nat} {w W : World} {a b : Option Addr} {x : Bb}
theorem BbIn.of_own (h : BbOwn lo w a b x) (hh : w.heap.size ≤ hi) : BbIn lo hi w a b x := ⟨SlIn.of_own h.bd hh, SlIn.of_own h.ss hh, h.ne⟩
theorem BbIn.own (h : BbIn lo hi w a b x) : BbOwn lo w a b x := ⟨h.bd.own, h.ss.own, h.ne⟩
theorem BbIn.is (h : BbIn lo hi w a b x) : BbIs w a b x := ⟨h.bd.is, h.ss.is⟩
theorem BbIn.kept (h : BbIn lo hi w a b x) (hb : Below w.heap.size w W) : BbIn lo hi W a b x := ⟨h.bd.kept hb, h.ss.kept hb, h.ne⟩
theorem BbIn.outOf (h : BbIn lo hi w a b x) (ho : OutOf lo2 hi2 w W) (hb : hi ≤ lo2 ∨ hi2 ≤ lo) : BbIn lo hi W a b x := ⟨h.bd.outOf ho hb, h.ss.outOf ho hb, h.ne⟩
theorem BbOwn.low {base : Nat} (h : BbOwn base w a b x) {m : Nat} (hm : m ≤ base) : BbOwn m w a b x := ⟨h.bd.down hm, h.ss.down hm, h.ne⟩
end
/-- A pool, a bib that a law has told, in a drawn region. -/
def IsPl (base : Nat) (p : Pl) : Value → World → Prop := fun v w => ∃ B, v = plC (some ⟨B, 0, none⟩) p.addrs.length p ∧ base ≤ B ∧ SlLaid strL1 1 w B p.addrs p.addrs.length p.addrs.length
theorem stable_isPl (base : Nat) (p : Pl) : Stable (IsPl base p) := fun v w w' ⟨B, h1, h2, h3⟩ hb => ⟨B, h1, h2, h3.kept hb⟩
def IsBb (base : Nat) (x : Bb) : Value → World → Prop := fun v w => ∃ a b ca cb, v = bbC a b ca cb x ∧ BbOwn base w a b x
theorem stable_isBb (base : Nat) (x : Bb) : Stable (IsBb base x) := fun v w w' ⟨a, b, ca, cb, h1, h2⟩ hb => ⟨a, b, ca, cb, h1, h2.kept hb⟩
/-- What is told is small. -/
theorem strs_in {xs : List ByteArray} {left : Int} (h0 : 0 ≤ left) (h1 : left ≤ 1048576) (h : 0 ≤ szSl strN xs left) : xs.length ≤ 1048576 ∧ ∀ s ∈ xs, s.size ≤ 1048576 := by
 obtain ⟨h2, h3⟩ := szSl_in h0 h
 exact ⟨by omega, fun q hq => by have := h3 q hq q.size (by simp [strN]); omega⟩
def BbSm (x : Bb) : Prop := x.binds.length ≤ 1048576 ∧ x.sess.length ≤ 1048576 ∧ (∀ q ∈ x.binds, q.inn.size ≤ 1048576 ∧ q.out.size ≤ 1048576) ∧ ∀ s ∈ x.sess, s.inn.size ≤ 1048576 ∧ s.peer.size ≤ 1048576
theorem bb_in {x : Bb} {left : Int} (h0 : 0 ≤ left) (h1 : left ≤ 1048576) (h : 0 ≤ szBb x left) : BbSm x := by
 unfold szBb at h
 split at h
 ·omega
 ·rename_i hn
  have r1 := szSl_range bindN x.binds left h0
  obtain ⟨a1, a2⟩ := szSl_in h0 (show 0 ≤ szSl bindN x.binds left by omega)
  obtain ⟨b1, b2⟩ := szSl_in (show 0 ≤ szSl bindN x.binds left by omega) h
  refine ⟨by omega, by omega, fun q hq => ⟨?_, ?_⟩, fun q hq => ⟨?_, ?_⟩⟩
  ·have := a2 q hq q.inn.size (by simp [bindN]); omega
  ·have := a2 q hq q.out.size (by simp [bindN]); omega
  ·have := b2 q hq q.inn.size (by simp [sessionN]); omega
  ·have := b2 q hq q.peer.size (by simp [sessionN]); omega
theorem szBb_range (x : Bb) (left : Int) (h : 0 ≤ left) : -1 ≤ szBb x left ∧ szBb x left ≤ left := by
 unfold szBb
 have r1 := szSl_range bindN x.binds left h
 split
 ·omega
 ·have r2 := szSl_range sessionN x.sess (szSl bindN x.binds left) (by omega); omega
end Go.Proofs.YtilnnihongokealGreatDoor

/- LawMk9: the laws' marks of pools, bibs and answers of chapter 9, with what they leave alone. -/
namespace Go.Proofs.YtilnnihongokealGreatDoor
open Go.RowKit Go.PlainAid Go.ChangeShapes Go.WideShapes
set_option linter.unusedVariables false
set_option linter.unusedSimpArgs false

set_option maxRecDepth 100000 in
set_option maxHeartbeats 1000000 in
theorem markPool_out (lo hi : Nat) (p : Pl) (a1 : Option Addr) (cap1 k : Nat) (w : World) (hk : 0 < k) (hL : k + 1 * p.addrs.length ≤ 1073741824) (hs : SlIn strL1 1 lo hi w a1 p.addrs) :
  Calls Tryz.prog 15 #[plC a1 cap1 p, .int .i64 k] w fun e w' => e = .returned (.int .i64 ((k + 1 * p.addrs.length : Nat) : Int)) ∧ OutOf lo hi w w' := by
 have GA : Hid (Below w.heap.size w (w.alloc (.cells #[.slice a1 p.addrs.length cap1, .int .i64 p.low, .int .i64 p.high, .int .i64 p.most, .int .i64 p.filter, .int .i64 p.lv.udp, .int .i64 p.lv.echo, .int .i64 p.lv.opening, .int .i64 p.lv.opn, .int .i64 p.lv.closing] 47))) := (Below.refl _ _).alloc (Nat.le_refl _) _
 have HM : Hid (∀ W, Below w.heap.size w W → Calls Tryz.prog 45 #[.slice a1 p.addrs.length cap1, .int .i64 k] W fun e w' => e = .returned (.int .i64 ((k + 1 * p.addrs.length : Nat) : Int)) ∧ OutOf lo hi W w') := fun W hW => by
  rcases hs.kept hW with h | ⟨g, rfl, h1, h2, h3⟩
  ·rw [h]
   refine (markStringS_nil a1 cap1 k W (by omega)).mono ?_
   rintro e w' ⟨rfl, rfl⟩
   exact ⟨rfl, OutOf.of_below (Below.refl _ _)⟩
  ·refine (markStringS_any g p.addrs.length cap1 k W hk hL (h3.other _)).mono ?_
   rintro e w' ⟨rfl, _, h5⟩
   exact ⟨rfl, OutOf.of_grown h5 h1 h2⟩
 clear hs
 unfold plC
 go_enter Tryz.func15, Tryz.ntmps15
 go_wp2_with fail
 refine (HM.out _ GA.out).mono ?_
 rintro e w1 ⟨rfl, q1⟩
 have G1 : Hid (OutOf lo hi w w1) := (OutOf.of_below GA.out).trans q1
 clear q1
 go_wp2_with fail
 go_ret
 exact ⟨ret_int (by omega), G1.out⟩
theorem markBindS_out (lo hi : Nat) (x : Bb) (a b : Option Addr) (ca k : Nat) (w : World) (hk : 0 < k) (hL : k + 5 * x.binds.length ≤ 1073741824) (hs : BbIn lo hi w a b x) :
  Calls Tryz.prog 46 #[.slice a x.binds.length ca, .int .i64 k] w fun e w' => e = .returned (.int .i64 ((k + 5 * x.binds.length : Nat) : Int)) ∧ MkOwn 5 bindM lo w' a k x.binds.length ∧ SlIn ssL 7 lo hi w' b x.sess ∧ OutOf lo hi w w' := by
 obtain ⟨h1, h2, h3⟩ := hs
 by_cases e1 : x.binds = []
 ·rw [e1]
  refine (markBindS_nil a ca k w (by omega)).mono ?_
  rintro e w' ⟨rfl, rfl⟩
  exact ⟨rfl, .inl rfl, h2, OutOf.of_below (Below.refl _ _)⟩
 ·rcases h1 with e | ⟨g, rfl, hb, hh, hl⟩
  ·exact absurd e e1
  ·refine (markBindS_any g x.binds.length ca k w hk hL (hl.other _)).mono ?_
   rintro e w' ⟨rfl, q1, q2⟩
   refine ⟨rfl, .inr ⟨g, rfl, hb, q1⟩, ?_, OutOf.of_grown q2 hb hh⟩
   by_cases e2 : x.sess = []
   ·exact .inl e2
   ·rcases h2 with e | ⟨h, rfl, hb2, hh2, hl2⟩
    ·exact absurd e e2
    ·exact .inr ⟨h, rfl, hb2, hh2, hl2.grownNe q2 (fun e => h3 g h rfl rfl e1 e2 e.symm)⟩
theorem markSessionS_out (lo hi : Nat) (xs : List Ss) (a b : Option Addr) (cb k kb nb : Nat) (w : World) (hk : 0 < k) (hL : k + 7 * xs.length ≤ 1073741824) (hm : MkOwn 5 bindM lo w a kb nb) (hs : SlIn ssL 7 lo hi w b xs) (hne : ∀ g h, a = some ⟨g, 0, none⟩ → b = some ⟨h, 0, none⟩ → nb ≠ 0 → xs ≠ [] → g ≠ h) :
  Calls Tryz.prog 47 #[.slice b xs.length cb, .int .i64 k] w fun e w' => e = .returned (.int .i64 ((k + 7 * xs.length : Nat) : Int)) ∧ MkOwn 5 bindM lo w' a kb nb ∧ MkOwn 7 sessionM lo w' b k xs.length ∧ OutOf lo hi w w' := by
 by_cases e1 : xs = []
 ·rw [e1]
  refine (markSessionS_nil b cb k w (by omega)).mono ?_
  rintro e w' ⟨rfl, rfl⟩
  exact ⟨rfl, hm, .inl rfl, OutOf.of_below (Below.refl _ _)⟩
 ·rcases hs with e | ⟨h, rfl, hb, hh, hl⟩
  ·exact absurd e e1
  ·refine (markSessionS_any h xs.length cb k w hk hL (hl.other _)).mono ?_
   rintro e w' ⟨rfl, q1, q2⟩
   refine ⟨rfl, ?_, .inr ⟨h, rfl, hb, q1⟩, OutOf.of_grown q2 hb hh⟩
   by_cases e2 : nb = 0
   ·exact .inl e2
   ·rcases hm with e | ⟨g, rfl, hb2, hl2⟩
    ·exact absurd e e2
    ·exact .inr ⟨g, rfl, hb2, hl2.grownNe q2 (fun e => hne g h rfl rfl e2 e1 e)⟩
set_option maxRecDepth 100000 in
set_option maxHeartbeats 1000000 in
theorem markBib_out (lo hi : Nat) (x : Bb) (a b : Option Addr) (ca cb k : Nat) (w : World) (hh : hi ≤ w.heap.size) (hk : 0 < k) (hL : k + 5 * x.binds.length + 7 * x.sess.length ≤ 1073741824) (hs : BbIn lo hi w a b x) :
  Calls Tryz.prog 16 #[bbC a b ca cb x, .int .i64 k] w fun e w' => e = .returned (.int .i64 ((k + 5 * x.binds.length + 7 * x.sess.length : Nat) : Int)) ∧ BbMk lo w' a b k x.binds.length x.sess.length ∧ OutOf lo hi w w' := by
 have GA : Hid (Below w.heap.size w (w.alloc (.cells #[.slice a x.binds.length ca, .slice b x.sess.length cb] 39))) := (Below.refl _ _).alloc (Nat.le_refl _) _
 have HM : Hid _ := markBindS_out lo hi x a b ca k (w.alloc (.cells #[.slice a x.binds.length ca, .slice b x.sess.length cb] 39)) hk (by omega) (hs.kept GA.out)
 have HN : Hid (∀ W, MkOwn 5 bindM lo W a k x.binds.length → SlIn ssL 7 lo hi W b x.sess → Calls Tryz.prog 47 #[.slice b x.sess.length cb, .int .i64 ((k + 5 * x.binds.length : Nat) : Int)] W fun e w' => e = .returned (.int .i64 ((k + 5 * x.binds.length + 7 * x.sess.length : Nat) : Int)) ∧ MkOwn 5 bindM lo w' a k x.binds.length ∧ MkOwn 7 sessionM lo w' b (k + 5 * x.binds.length) x.sess.length ∧ OutOf lo hi W w') := fun W h1 h2 => markSessionS_out lo hi x.sess a b cb (k + 5 * x.binds.length) k x.binds.length W (by omega) hL h1 h2 (fun g h e1 e2 n1 n2 => hs.ne g h e1 e2 (fun e => n1 (by rw [e]; rfl)) n2)
 have H0 : Hid _ := HoldsL.new w [.slice a x.binds.length ca, .slice b x.sess.length cb] 39
 have hh' : Hid (hi ≤ w.heap.size) := hh
 obtain ⟨k1, hk1⟩ : ∃ k1, k1 = k + 5 * x.binds.length := ⟨_, rfl⟩
 rw [← hk1] at HM HN hL ⊢
 obtain ⟨k2, hk2⟩ : ∃ k2, k2 = k1 + 7 * x.sess.length := ⟨_, rfl⟩
 rw [← hk2] at HN hL ⊢
 have HK1 : Hid (k1 = k + 5 * x.binds.length) := hk1
 clear hk1 hk2 hs hh
 unfold bbC
 go_enter Tryz.func16, Tryz.ntmps16
 go_wp2_with fail
 refine Calls.mono HM.out ?_
 rintro e w1 ⟨rfl, m1, o1, q1⟩
 have G1 : Hid (OutOf lo hi w w1) := (OutOf.of_below GA.out).trans q1
 have M1 : Hid _ := m1
 have O1 : Hid _ := o1
 have c1 : w1.cell? ⟨w.heap.size, 1, none⟩ = some (.slice b x.sess.length cb) := (H0.out.outOf (by simp) q1 (.inr hh'.out)).cell rfl
 clear m1 o1 q1
 go_wp2_with fail
 refine (HN.out _ M1.out O1.out).mono ?_
 rintro e w2 ⟨rfl, m2, o2, q2⟩
 have G2 : Hid (OutOf lo hi w w2) := G1.out.trans q2
 have M2 : Hid (BbMk lo w2 a b k x.binds.length x.sess.length) := ⟨m2, by rw [← HK1.out]; exact o2⟩
 clear m2 o2 q2
 go_wp2_with fail
 go_ret
 exact ⟨rfl, M2.out, G2.out⟩
section
variable {base lo hi B : Nat} {w W : World} {a b : Option Addr} {x : Bb}
theorem BbOwn.grownNe (h : BbOwn base w a b x) (hg : w.grownBy W (some B)) (hne : ∀ g o, (x.binds ≠ [] ∧ a = some ⟨g, o, none⟩) ∨ (x.sess ≠ [] ∧ b = some ⟨g, o, none⟩) → g ≠ B) : BbOwn base W a b x := by
 refine ⟨?_, ?_, h.ne⟩
 ·by_cases e : x.binds = []
  ·exact .inl e
  ·rcases h.bd with h1 | ⟨g, rfl, h2, h3⟩
   ·exact .inl h1
   ·exact .inr ⟨g, rfl, h2, h3.grownNe hg (hne g 0 (.inl ⟨e, rfl⟩))⟩
 ·by_cases e : x.sess = []
  ·exact .inl e
  ·rcases h.ss with h1 | ⟨g, rfl, h2, h3⟩
   ·exact .inl h1
   ·exact .inr ⟨g, rfl, h2, h3.grownNe hg (hne g 0 (.inr ⟨e, rfl⟩))⟩
/-- The rows of a bib and a box that begins with a slice are apart. -/
theorem BbOwn.not_box {y : Option Addr} {n cap : Nat} {l : List Value} (h : BbOwn base w a b x) (hB : HoldsL w B (.slice y n cap :: l)) : ∀ g o, (x.binds ≠ [] ∧ a = some ⟨g, o, none⟩) ∨ (x.sess ≠ [] ∧ b = some ⟨g, o, none⟩) → g ≠ B := by
 intro g o hc hg
 subst hg
 have h2 := hB.cell (j := 0) rfl
 rcases hc with ⟨h1, rfl⟩ | ⟨h1, rfl⟩
 ·rcases h.bd with h3 | ⟨g', e, _, h3⟩
  ·exact h1 h3
  ·cases e
   cases hx : x.binds with
   | nil => exact h1 hx
   | cons q qs =>
    rw [hx] at h3
    have := h3.at 0 (by simp) 0 (.int .i64 q.proto) rfl
    simp at this
    rw [h2] at this
    simp at this
 ·rcases h.ss with h3 | ⟨g', e, _, h3⟩
  ·exact h1 h3
  ·cases e
   cases hx : x.sess with
   | nil => exact h1 hx
   | cons q qs =>
    rw [hx] at h3
    have := h3.at 0 (by simp) 0 (.int .i64 q.proto) rfl
    simp at this
    rw [h2] at this
    simp at this
end
/-- An answer that is told, a box for it, in a drawn region. -/
def IsBo (base : Nat) (o : Bo) : Value → World → Prop := fun v w => ∃ a b ca cb, v = boC a b ca cb o ∧ BbOwn base w a b o.bib
theorem stable_isBo (base : Nat) (o : Bo) : Stable (IsBo base o) := fun v w w' ⟨a, b, ca, cb, h1, h2⟩ hb => ⟨a, b, ca, cb, h1, h2.kept hb⟩
def IsZx (base : Nat) (zs : List Value) : Value → World → Prop := fun v w => ∃ g, v = .pointer (some ⟨g, 0, none⟩) ∧ base ≤ g ∧ HoldsL w g zs
theorem stable_isZx (base : Nat) (zs : List Value) (h : 0 < zs.length) : Stable (IsZx base zs) := fun v w w' ⟨g, h1, h2, h3⟩ hb => ⟨g, h1, h2, h3.kept h hb⟩
end Go.Proofs.YtilnnihongokealGreatDoor
