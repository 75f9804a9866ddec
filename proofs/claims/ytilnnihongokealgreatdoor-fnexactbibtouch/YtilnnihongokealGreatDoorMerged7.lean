/- LawMk9b, LawTouch, LawV4, LawSzAt, in one text. -/
import Derived.Test.YtilnnihongokealGreatDoorMerged6
import Derived.Test.YtilnnihongokealGreatDoorMerged1
import Derived.Test.YtilnnihongokealGreatDoorMerged3

/- LawMk9b: the laws' marks of bibs and answers of chapter 9, with a box beside their rows that they leave alone. -/
namespace Go.Proofs.YtilnnihongokealGreatDoor
open Go.RowKit Go.PlainAid Go.ChangeShapes Go.WideShapes
set_option linter.unusedVariables false
set_option linter.unusedSimpArgs false

theorem markBindS_but (lo hi : Nat) (x : Bb) (a b : Option Addr) (ca k : Nat) (w : World) (hk : 0 < k) (hL : k + 5 * x.binds.length ≤ 1073741824) (hs : BbIn lo hi w a b x) (X : Nat) (hX : X < w.heap.size) (hn : ∀ g o', (x.binds ≠ [] ∧ a = some ⟨g, o', none⟩) ∨ (x.sess ≠ [] ∧ b = some ⟨g, o', none⟩) → g ≠ X) :
  Calls Tryz.prog 46 #[.slice a x.binds.length ca, .int .i64 k] w fun e w' => e = .returned (.int .i64 ((k + 5 * x.binds.length : Nat) : Int)) ∧ MkOwn 5 bindM lo w' a k x.binds.length ∧ SlIn ssL 7 lo hi w' b x.sess ∧ OutOf lo hi w w' ∧ w'.heap[X]? = w.heap[X]? := by
 obtain ⟨h1, h2, h3⟩ := hs
 by_cases e1 : x.binds = []
 ·rw [e1]
  refine (markBindS_nil a ca k w (by omega)).mono ?_
  rintro e w' ⟨rfl, rfl⟩
  exact ⟨rfl, .inl rfl, h2, OutOf.of_below (Below.refl _ _), rfl⟩
 ·rcases h1 with e | ⟨g, rfl, hb, hh, hl⟩
  ·exact absurd e e1
  ·refine (markBindS_any g x.binds.length ca k w hk hL (hl.other _)).mono ?_
   rintro e w' ⟨rfl, q1, q2⟩
   refine ⟨rfl, .inr ⟨g, rfl, hb, q1⟩, ?_, OutOf.of_grown q2 hb hh, q2.block X hX (by simp; exact fun e => hn g 0 (.inl ⟨e1, rfl⟩) e.symm)⟩
   by_cases e2 : x.sess = []
   ·exact .inl e2
   ·rcases h2 with e | ⟨h, rfl, hb2, hh2, hl2⟩
    ·exact absurd e e2
    ·exact .inr ⟨h, rfl, hb2, hh2, hl2.grownNe q2 (fun e => h3 g h rfl rfl e1 e2 e.symm)⟩
theorem markSessionS_but (lo hi : Nat) (xs : List Ss) (a b : Option Addr) (cb k kb nb : Nat) (w : World) (hk : 0 < k) (hL : k + 7 * xs.length ≤ 1073741824) (hm : MkOwn 5 bindM lo w a kb nb) (hs : SlIn ssL 7 lo hi w b xs) (hne : ∀ g h, a = some ⟨g, 0, none⟩ → b = some ⟨h, 0, none⟩ → nb ≠ 0 → xs ≠ [] → g ≠ h) (X : Nat) (hX : X < w.heap.size) (hn : ∀ g o, xs ≠ [] ∧ b = some ⟨g, o, none⟩ → g ≠ X) :
  Calls Tryz.prog 47 #[.slice b xs.length cb, .int .i64 k] w fun e w' => e = .returned (.int .i64 ((k + 7 * xs.length : Nat) : Int)) ∧ MkOwn 5 bindM lo w' a kb nb ∧ MkOwn 7 sessionM lo w' b k xs.length ∧ OutOf lo hi w w' ∧ w'.heap[X]? = w.heap[X]? := by
 by_cases e1 : xs = []
 ·rw [e1]
  refine (markSessionS_nil b cb k w (by omega)).mono ?_
  rintro e w' ⟨rfl, rfl⟩
  exact ⟨rfl, hm, .inl rfl, OutOf.of_below (Below.refl _ _), rfl⟩
 ·rcases hs with e | ⟨h, rfl, hb, hh, hl⟩
  ·exact absurd e e1
  ·refine (markSessionS_any h xs.length cb k w hk hL (hl.other _)).mono ?_
   rintro e w' ⟨rfl, q1, q2⟩
   refine ⟨rfl, ?_, .inr ⟨h, rfl, hb, q1⟩, OutOf.of_grown q2 hb hh, q2.block X hX (by simp; exact fun e => hn h 0 ⟨e1, rfl⟩ e.symm)⟩
   by_cases e2 : nb = 0
   ·exact .inl e2
   ·rcases hm with e | ⟨g, rfl, hb2, hl2⟩
    ·exact absurd e e2
    ·exact .inr ⟨g, rfl, hb2, hl2.grownNe q2 (fun e => hne g h rfl rfl e2 e1 e)⟩
set_option maxRecDepth 100000 in
set_option maxHeartbeats 1000000 in
theorem markBib_but (lo hi : Nat) (x : Bb) (a b : Option Addr) (ca cb k : Nat) (w : World) (hh : hi ≤ w.heap.size) (hk : 0 < k) (hL : k + 5 * x.binds.length + 7 * x.sess.length ≤ 1073741824) (hs : BbIn lo hi w a b x) (X : Nat) (hX : X < w.heap.size) (hn : ∀ g o', (x.binds ≠ [] ∧ a = some ⟨g, o', none⟩) ∨ (x.sess ≠ [] ∧ b = some ⟨g, o', none⟩) → g ≠ X) :
  Calls Tryz.prog 16 #[bbC a b ca cb x, .int .i64 k] w fun e w' => e = .returned (.int .i64 ((k + 5 * x.binds.length + 7 * x.sess.length : Nat) : Int)) ∧ BbMk lo w' a b k x.binds.length x.sess.length ∧ OutOf lo hi w w' ∧ w'.heap[X]? = w.heap[X]? := by
 have GA : Hid (Below w.heap.size w (w.alloc (.cells #[.slice a x.binds.length ca, .slice b x.sess.length cb] 39))) := (Below.refl _ _).alloc (Nat.le_refl _) _
 have HX1 : Hid (∀ W : World, w.heap.size ≤ W.heap.size → X < W.heap.size) := fun W hW => by omega
 have HM : Hid _ := markBindS_but lo hi x a b ca k (w.alloc (.cells #[.slice a x.binds.length ca, .slice b x.sess.length cb] 39)) hk (by omega) (hs.kept GA.out) X (by simp; omega) hn
 have HN : Hid (∀ W, X < W.heap.size → MkOwn 5 bindM lo W a k x.binds.length → SlIn ssL 7 lo hi W b x.sess → Calls Tryz.prog 47 #[.slice b x.sess.length cb, .int .i64 ((k + 5 * x.binds.length : Nat) : Int)] W fun e w' => e = .returned (.int .i64 ((k + 5 * x.binds.length + 7 * x.sess.length : Nat) : Int)) ∧ MkOwn 5 bindM lo w' a k x.binds.length ∧ MkOwn 7 sessionM lo w' b (k + 5 * x.binds.length) x.sess.length ∧ OutOf lo hi W w' ∧ w'.heap[X]? = W.heap[X]?) := fun W h0 h1 h2 => markSessionS_but lo hi x.sess a b cb (k + 5 * x.binds.length) k x.binds.length W (by omega) hL h1 h2 (fun g h e1 e2 n1 n2 => hs.ne g h e1 e2 (fun e => n1 (by rw [e]; rfl)) n2) X h0 (fun g o h => hn g o (.inr h))
 have H0 : Hid _ := HoldsL.new w [.slice a x.binds.length ca, .slice b x.sess.length cb] 39
 have hh' : Hid (hi ≤ w.heap.size) := hh
 obtain ⟨k1, hk1⟩ : ∃ k1, k1 = k + 5 * x.binds.length := ⟨_, rfl⟩
 rw [← hk1] at HM HN hL ⊢
 obtain ⟨k2, hk2⟩ : ∃ k2, k2 = k1 + 7 * x.sess.length := ⟨_, rfl⟩
 rw [← hk2] at HN hL ⊢
 have HK1 : Hid (k1 = k + 5 * x.binds.length) := hk1
 have HA0 : Hid ((w.alloc (.cells #[.slice a x.binds.length ca, .slice b x.sess.length cb] 39)).heap[X]? = w.heap[X]?) := GA.out.block X hX
 clear hk1 hk2 hs hh hn hX
 unfold bbC
 go_enter Tryz.func16, Tryz.ntmps16
 go_wp2_with fail
 refine Calls.mono HM.out ?_
 rintro e w1 ⟨rfl, m1, o1, q1, x1⟩
 have G1 : Hid (OutOf lo hi w w1) := (OutOf.of_below GA.out).trans q1
 have X1 : Hid (w1.heap[X]? = w.heap[X]?) := x1.trans HA0.out
 have HL1 : Hid (X < w1.heap.size) := HX1.out _ G1.out.size
 have M1 : Hid _ := m1
 have O1 : Hid _ := o1
 have c1 : w1.cell? ⟨w.heap.size, 1, none⟩ = some (.slice b x.sess.length cb) := (H0.out.outOf (by simp) q1 (.inr hh'.out)).cell rfl
 clear m1 o1 q1 x1
 go_wp2_with fail
 refine (HN.out _ HL1.out M1.out O1.out).mono ?_
 rintro e w2 ⟨rfl, m2, o2, q2, x2⟩
 have X2 : Hid (w2.heap[X]? = w.heap[X]?) := x2.trans X1.out
 have G2 : Hid (OutOf lo hi w w2) := G1.out.trans q2
 have M2 : Hid (BbMk lo w2 a b k x.binds.length x.sess.length) := ⟨m2, by rw [← HK1.out]; exact o2⟩
 clear m2 o2 q2 x2
 go_wp2_with fail
 go_ret
 exact ⟨rfl, M2.out, G2.out, X2.out⟩
set_option maxRecDepth 100000 in
set_option maxHeartbeats 1000000 in
theorem markBibOut_but (lo hi : Nat) (o : Bo) (a b : Option Addr) (ca cb k : Nat) (w : World) (hh : hi ≤ w.heap.size) (hk : 0 < k) (hL : k + 5 * o.bib.binds.length + 7 * o.bib.sess.length ≤ 1073741824) (hs : BbIn lo hi w a b o.bib) (X : Nat) (hX : X < w.heap.size) (hn : ∀ g o', (o.bib.binds ≠ [] ∧ a = some ⟨g, o', none⟩) ∨ (o.bib.sess ≠ [] ∧ b = some ⟨g, o', none⟩) → g ≠ X) :
  Calls Tryz.prog 17 #[boC a b ca cb o, .int .i64 k] w fun e w' => e = .returned (.int .i64 ((k + 5 * o.bib.binds.length + 7 * o.bib.sess.length : Nat) : Int)) ∧ BbMk lo w' a b k o.bib.binds.length o.bib.sess.length ∧ OutOf lo hi w w' ∧ w'.heap[X]? = w.heap[X]? := by
 have GA : Hid (Below w.heap.size w (w.alloc (.cells (boL a b ca cb o).toArray 43))) := (Below.refl _ _).alloc (Nat.le_refl _) _
 have HM : Hid _ := markBib_but lo hi o.bib a b ca cb k (w.alloc (.cells (boL a b ca cb o).toArray 43)) (by simp; omega) hk hL (hs.kept GA.out) X (by simp; omega) hn
 have HA0 : Hid ((w.alloc (.cells (boL a b ca cb o).toArray 43)).heap[X]? = w.heap[X]?) := GA.out.block X hX
 obtain ⟨k2, hk2⟩ : ∃ k2, k2 = k + 5 * o.bib.binds.length + 7 * o.bib.sess.length := ⟨_, rfl⟩
 rw [← hk2] at HM hL ⊢
 unfold boC
 unfold bbC at HM
 unfold boL at HM GA HA0
 clear hk2 hs hn hX
 go_enter Tryz.func17, Tryz.ntmps17
 go_wp2_with fail
 refine Calls.mono HM.out ?_
 rintro e w1 ⟨rfl, m1, q1, x1⟩
 have G1 : Hid (OutOf lo hi w w1) := (OutOf.of_below GA.out).trans q1
 have X1 : Hid (w1.heap[X]? = w.heap[X]?) := x1.trans HA0.out
 have M1 : Hid _ := m1
 clear m1 q1 x1
 go_wp2_with fail
 go_ret
 exact ⟨rfl, M1.out, G1.out, X1.out⟩
end Go.Proofs.YtilnnihongokealGreatDoor

/- LawTouch: the laws' helpers for Touch, its box, and one that came in, opened. Printed by mkflat.py. -/
namespace Go.Proofs.YtilnnihongokealGreatDoor
open Go.RowKit Go.PlainAid Go.ChangeShapes Go.WideShapes
set_option linter.unusedVariables false
set_option linter.unusedSimpArgs false

theorem arr7Touch {α : Type} {cs : Array α} (h : cs.size = 7) : ∃ c0 c1 c2 c3 c4 c5 c6, cs = #[c0, c1, c2, c3, c4, c5, c6] := by
 obtain ⟨l⟩ := cs
 match l, h with
 | [c0, c1, c2, c3, c4, c5, c6], _ => exact ⟨c0, c1, c2, c3, c4, c5, c6, rfl⟩

/-- As memory may hold it. -/
def TcWf (p : Tc) : Prop := In64t p.proto ∧ p.addr.size ≤ maxLen ∧ In64t p.port ∧ p.peer.size ≤ maxLen ∧ In64t p.peerPort ∧ In64t p.flags
/-- It lies in a block. -/
structure BoxTouch (w : World) (B : Nat) (p : Tc) : Prop where
 c0 : w.cell? ⟨B, 0, none⟩ = some (.int .i64 p.proto)
 c1 : w.cell? ⟨B, 1, none⟩ = some (.bool p.inside)
 c2 : w.cell? ⟨B, 2, none⟩ = some (.string p.addr)
 c3 : w.cell? ⟨B, 3, none⟩ = some (.int .i64 p.port)
 c4 : w.cell? ⟨B, 4, none⟩ = some (.string p.peer)
 c5 : w.cell? ⟨B, 5, none⟩ = some (.int .i64 p.peerPort)
 c6 : w.cell? ⟨B, 6, none⟩ = some (.int .i64 p.flags)
theorem BoxTouch.kept {w W : World} {B : Nat} {p : Tc} (h : BoxTouch w B p) (hB : Below w.heap.size w W) : BoxTouch W B p := by
 have hb := World.block_lt_of_cell? w _ h.c0
 exact ⟨((bcell hB).1 B 0 hb).trans h.c0, ((bcell hB).1 B 1 hb).trans h.c1, ((bcell hB).1 B 2 hb).trans h.c2, ((bcell hB).1 B 3 hb).trans h.c3, ((bcell hB).1 B 4 hb).trans h.c4, ((bcell hB).1 B 5 hb).trans h.c5, ((bcell hB).1 B 6 hb).trans h.c6⟩
theorem BoxTouch.new (w : World) (p : Tc) {t : TypeId} : BoxTouch (w.alloc (.cells #[.int .i64 p.proto, .bool p.inside, .string p.addr, .int .i64 p.port, .string p.peer, .int .i64 p.peerPort, .int .i64 p.flags] t)) w.heap.size p := ⟨cell_new rfl, cell_new rfl, cell_new rfl, cell_new rfl, cell_new rfl, cell_new rfl, cell_new rfl⟩

section
variable {H : Type} {enc : TypeId × Value → H} {w : World} {base : Nat} {spare : Nat → Bool} {held : Bool}
set_option maxRecDepth 100000 in
theorem open_Touch {r : Reach} {b0 : Nat} {v : Value} {d : DataW H} {p : List MemPlace} (hv : Value.okWide Tryz.prog w r b0 32 v) (h : DataW.Trod enc Tryz.prog w base spare held 32 v d p) :
  ∃ q : Tc, v = tcC q ∧ TcWf q := by
 obtain ⟨cs, rfl, hsz⟩ := okWide_struct Tryz.underlying32 hv
 obtain ⟨c0, c1, c2, c3, c4, c5, c6, rfl⟩ := arr7Touch (hsz.trans (show Tryz.prog.cellsOf 32 = 7 by kernel_rfl))
 obtain ⟨fuel, hf⟩ := h
 obtain ⟨m0, y0, h0⟩ := flat_field Tryz.underlying32 hf 0 _ rfl rfl (show Tryz.prog.cellsOf 2 = 1 by kernel_rfl) c0 rfl
 obtain ⟨x0, e0, _, g0⟩ := DataW.trod_int Tryz.underlying2 h0
 obtain ⟨m1, y1, h1⟩ := flat_field Tryz.underlying32 hf 1 _ rfl rfl (show Tryz.prog.cellsOf 4 = 1 by kernel_rfl) c1 rfl
 obtain ⟨x1, e1, _⟩ := DataW.trod_bool Tryz.underlying4 h1
 obtain ⟨m2, y2, h2⟩ := flat_field Tryz.underlying32 hf 2 _ rfl rfl (show Tryz.prog.cellsOf 9 = 1 by kernel_rfl) c2 rfl
 obtain ⟨x2, e2, _, g2⟩ := DataW.trod_string Tryz.underlying9 h2
 obtain ⟨m3, y3, h3⟩ := flat_field Tryz.underlying32 hf 3 _ rfl rfl (show Tryz.prog.cellsOf 2 = 1 by kernel_rfl) c3 rfl
 obtain ⟨x3, e3, _, g3⟩ := DataW.trod_int Tryz.underlying2 h3
 obtain ⟨m4, y4, h4⟩ := flat_field Tryz.underlying32 hf 4 _ rfl rfl (show Tryz.prog.cellsOf 9 = 1 by kernel_rfl) c4 rfl
 obtain ⟨x4, e4, _, g4⟩ := DataW.trod_string Tryz.underlying9 h4
 obtain ⟨m5, y5, h5⟩ := flat_field Tryz.underlying32 hf 5 _ rfl rfl (show Tryz.prog.cellsOf 2 = 1 by kernel_rfl) c5 rfl
 obtain ⟨x5, e5, _, g5⟩ := DataW.trod_int Tryz.underlying2 h5
 obtain ⟨m6, y6, h6⟩ := flat_field Tryz.underlying32 hf 6 _ rfl rfl (show Tryz.prog.cellsOf 2 = 1 by kernel_rfl) c6 rfl
 obtain ⟨x6, e6, _, g6⟩ := DataW.trod_int Tryz.underlying2 h6
 simp only [List.cons.injEq, and_true] at e0 e1 e2 e3 e4 e5 e6
 subst e0 e1 e2 e3 e4 e5 e6
 exact ⟨⟨x0, x1, x2, x3, x4, x5, x6⟩, rfl, wf64s g0, g2, wf64s g3, g4, wf64s g5, wf64s g6⟩
end

set_option maxRecDepth 100000 in
set_option maxHeartbeats 1000000 in
theorem toTouch_any (p : Tc) (w : World) :
  Calls Tryz.prog 10 #[tcC p] w fun e w' => e = .returned (tcC p) ∧ Below w.heap.size w w' := by
 obtain ⟨proto, inside, addr, port, peer, peerPort, flags⟩ := p
 unfold tcC
 dsimp only
 go_enter Tryz.func10, Tryz.ntmps10
 go_wp2_with fail
 refine bodyPost_ret (v := .agg #[.int .i64 proto, .bool inside, .string addr, .int .i64 port, .string peer, .int .i64 peerPort, .int .i64 flags]) (by simp [results, Tryz.results10, go_sem]) rfl ⟨rfl, ?_⟩
 exact (((Below.refl _ _).alloc (Nat.le_refl _) _).alloc (by simp) _).alloc (by simp; omega) _


end Go.Proofs.YtilnnihongokealGreatDoor

/- LawV4: the laws' helpers for V4, its box, and one that came in, opened. Printed by mkflat.py. -/
namespace Go.Proofs.YtilnnihongokealGreatDoor
open Go.RowKit Go.PlainAid Go.ChangeShapes Go.WideShapes
set_option linter.unusedVariables false
set_option linter.unusedSimpArgs false

/-- It lies in a block. -/
structure BoxV4 (w : World) (B : Nat) (p : P4) : Prop where
 c0 : w.cell? ⟨B, 0, none⟩ = some (.int .i64 p.tos)
 c1 : w.cell? ⟨B, 1, none⟩ = some (.int .i64 p.id)
 c2 : w.cell? ⟨B, 2, none⟩ = some (.bool p.whole)
 c3 : w.cell? ⟨B, 3, none⟩ = some (.bool p.more)
 c4 : w.cell? ⟨B, 4, none⟩ = some (.int .i64 p.off)
 c5 : w.cell? ⟨B, 5, none⟩ = some (.int .i64 p.ttl)
 c6 : w.cell? ⟨B, 6, none⟩ = some (.int .i64 p.proto)
 c7 : w.cell? ⟨B, 7, none⟩ = some (.string p.src)
 c8 : w.cell? ⟨B, 8, none⟩ = some (.string p.dst)
 c9 : w.cell? ⟨B, 9, none⟩ = some (.string p.opts)
 c10 : w.cell? ⟨B, 10, none⟩ = some (.string p.data)
theorem BoxV4.kept {w W : World} {B : Nat} {p : P4} (h : BoxV4 w B p) (hB : Below w.heap.size w W) : BoxV4 W B p := by
 have hb := World.block_lt_of_cell? w _ h.c0
 exact ⟨((bcell hB).1 B 0 hb).trans h.c0, ((bcell hB).1 B 1 hb).trans h.c1, ((bcell hB).1 B 2 hb).trans h.c2, ((bcell hB).1 B 3 hb).trans h.c3, ((bcell hB).1 B 4 hb).trans h.c4, ((bcell hB).1 B 5 hb).trans h.c5, ((bcell hB).1 B 6 hb).trans h.c6, ((bcell hB).1 B 7 hb).trans h.c7, ((bcell hB).1 B 8 hb).trans h.c8, ((bcell hB).1 B 9 hb).trans h.c9, ((bcell hB).1 B 10 hb).trans h.c10⟩
theorem BoxV4.new (w : World) (p : P4) {t : TypeId} : BoxV4 (w.alloc (.cells #[.int .i64 p.tos, .int .i64 p.id, .bool p.whole, .bool p.more, .int .i64 p.off, .int .i64 p.ttl, .int .i64 p.proto, .string p.src, .string p.dst, .string p.opts, .string p.data] t)) w.heap.size p := ⟨cell_new rfl, cell_new rfl, cell_new rfl, cell_new rfl, cell_new rfl, cell_new rfl, cell_new rfl, cell_new rfl, cell_new rfl, cell_new rfl, cell_new rfl⟩






end Go.Proofs.YtilnnihongokealGreatDoor

/- LawSzAt: the laws' sizes of a Touch and a V4, whatever is left. Printed by mkszat.py. -/
namespace Go.Proofs.YtilnnihongokealGreatDoor
open Go.RowKit Go.PlainAid
set_option linter.unusedVariables false
set_option linter.unusedSimpArgs false

def touchN (p : Tc) : List Nat := [p.addr.size, p.peer.size]
theorem touchN_in {p : Tc} {left : Int} (h1 : left ≤ 1048576) (h : 0 ≤ szN (touchN p) left) : p.addr.size ≤ 1048576 ∧ p.peer.size ≤ 1048576 := by
 have hb := szN_bound _ _ h
 exact ⟨by have := hb p.addr.size (by simp [touchN]); omega, by have := hb p.peer.size (by simp [touchN]); omega⟩
set_option maxRecDepth 100000 in
set_option maxHeartbeats 1000000 in
theorem szTouch_at (p : Tc) (left : Int) (w : World) (hw : TcWf p) (h0 : 0 ≤ left) (h1 : left ≤ 1048576) :
  Calls Tryz.prog 6 #[tcC p, .int .i64 left] w fun e w' => e = .returned (.int .i64 (szN (touchN p) left)) ∧ Below w.heap.size w w' := by
 have HV0 : Hid (szN (touchN p) left = szN [p.addr.size, p.peer.size] left) := rfl
 obtain ⟨q_proto, q_addr, q_port, q_peer, q_peerPort, q_flags⟩ := hw
 generalize szN (touchN p) left = ans at *
 obtain ⟨proto, inside, addr, port, peer, peerPort, flags⟩ := p
 unfold tcC
 dsimp only at *
 unfold maxLen at *
 clear q_proto q_port q_peerPort q_flags
 have HZ : Hid (Below w.heap.size w (w.alloc (.cells #[.int .i64 proto, .bool inside, .string addr, .int .i64 port, .string peer, .int .i64 peerPort, .int .i64 flags] 32))) := (Below.refl _ _).alloc (Nat.le_refl _) _
 by_cases l0 : left < (addr.size : Int)
 ·have HV : Hid (ans = -1) := by unfold Hid; rw [HV0.out, szN_yes l0]
  clear HV0
  go_enter Tryz.func6, Tryz.ntmps6
  go_wp2_with fail
  go_ret
  exact ⟨ret_int HV.out.symm, HZ.out⟩
 ·skip
  by_cases l1 : left - addr.size < (peer.size : Int)
  ·have HV : Hid (ans = -1) := by unfold Hid; rw [HV0.out, szN_no l0, szN_yes l1]
   clear HV0
   go_enter Tryz.func6, Tryz.ntmps6
   go_wp2_with fail
   go_ret
   exact ⟨ret_int HV.out.symm, HZ.out⟩
  ·have HV : Hid (ans = left - addr.size - peer.size) := by unfold Hid; rw [HV0.out, szN_no l0, szN_no l1]; rfl
   clear HV0
   go_enter Tryz.func6, Tryz.ntmps6
   go_wp2_with fail
   go_ret
   exact ⟨ret_int HV.out.symm, HZ.out⟩
end Go.Proofs.YtilnnihongokealGreatDoor
