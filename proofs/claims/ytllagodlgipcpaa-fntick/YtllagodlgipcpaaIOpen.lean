/- IOpen: what the program's openBook answers. Printed by mkibk6.py. -/
import Derived.Test.YtllagodlgipcpaaIFits
namespace Go.Proofs.Ytllagodlgipcpaa
open Go.RowKit Go.PlainAid
set_option linter.unusedVariables false
set_option linter.unusedSimpArgs false

def bkZ : Value := .agg #[.slice none 0 0, .int .i64 0, .int .i64 0, .int .i64 0, .int .i64 0, .int .i64 0, .int .i64 0, .int .i64 0, .int .i64 0, .int .i64 0, .slice none 0 0, .slice none 0 0, .map none, .map none]
/-- What openBook tells: a book of right ones, the zero one of others. -/
def OpenRet (w : World) (pa : Option Addr) (pc : Nat) (p : Pl) (ba bo : Option Addr) (ca cb : Nat) (x : Bb) (e : Ending) (w' : World) : Prop := Below w.heap.size w w' ∧ ((bookOk p x = false ∧ e = .returned (.tuple #[bkZ, .bool false])) ∨ (bookOk p x = true ∧ ∃ m1 m2, e = .returned (.tuple #[bkC pa pc p ba bo ca cb x m1 m2, .bool true]) ∧ w.heap.size ≤ m1 ∧ w.heap.size ≤ m2 ∧ BookAt w' m1 m2 x.binds x.binds))
/-- Its boxes: the bib, the answer, the book; the maps. -/
structure OpSt (w : World) (pa : Option Addr) (pc : Nat) (p : Pl) (ba bo : Option Addr) (ca cb : Nat) (x : Bb) (m1 m2 Y : Nat) (xs ys : List Bd) (wr : World) : Prop where
 bx : HoldsL wr (w.heap.size + 1) [.slice ba x.binds.length ca, .slice bo x.sess.length cb]
 r : HoldsL wr (w.heap.size + 1 + 1) [.slice none 0 0, .int .i64 0, .int .i64 0, .int .i64 0, .int .i64 0, .int .i64 0, .int .i64 0, .int .i64 0, .int .i64 0, .int .i64 0, .slice none 0 0, .slice none 0 0, .map none, .map none]
 k : HoldsL wr Y [.slice pa p.addrs.length pc, .int .i64 p.low, .int .i64 p.high, .int .i64 p.most, .int .i64 p.filter, .int .i64 p.lv.udp, .int .i64 p.lv.echo, .int .i64 p.lv.opening, .int .i64 p.lv.opn, .int .i64 p.lv.closing, .slice ba x.binds.length ca, .slice bo x.sess.length cb, .map (some m1), .map (some m2)]
 bk : BookAt wr m1 m2 xs ys
 b : Below w.heap.size w wr
 l1 : w.heap.size + 1 + 1 < m1
 l2 : w.heap.size + 1 + 1 < m2
 n1 : Y ≠ m1
 n2 : Y ≠ m2
section
variable {w : World} {pa : Option Addr} {pc : Nat} {p : Pl} {ba bo : Option Addr} {ca cb : Nat} {x : Bb} {m1 m2 Y : Nat} {xs ys : List Bd} {wr W : World}
theorem OpSt.kept (h : OpSt w pa pc p ba bo ca cb x m1 m2 Y xs ys wr) (hb : Below wr.heap.size wr W) : OpSt w pa pc p ba bo ca cb x m1 m2 Y xs ys W :=
 ⟨h.bx.kept (by simp) hb, h.r.kept (by simp) hb, h.k.kept (by simp) hb, h.bk.kept hb, h.b.trans (hb.mono h.b.size), h.l1, h.l2, h.n1, h.n2⟩
theorem OpSt.put {xs' ys' : List Bd} {m : Nat} (h : OpSt w pa pc p ba bo ca cb x m1 m2 Y xs ys wr) (hm : m = m1 ∨ m = m2) (hg : wr.grownBy W (some m)) (hk : BookAt W m1 m2 xs' ys') : OpSt w pa pc p ba bo ca cb x m1 m2 Y xs' ys' W := by
 have a1 := h.l1; have a2 := h.l2; have a3 := h.n1; have a4 := h.n2
 exact ⟨h.bx.grown (by simp) hg (by simp; omega), h.r.grown (by simp) hg (by simp; omega), h.k.grown (by simp) hg (by simp; omega), hk, below_grown h.b hg (by omega) h.b.size, h.l1, h.l2, h.n1, h.n2⟩
end
theorem findI_self {α : Type} (f : α → Bool) (xs : List α) (i : Nat) (h : i < xs.length) (hf : f xs[i] = true) : decide (findI f xs = (i : Int)) = !(xs.take i).any f := by
 cases ha : (xs.take i).any f with
 | false => rw [findI_at f xs i h ha hf]; simp
 | true =>
  obtain ⟨c, hc, hfc⟩ := List.any_eq_true.1 ha
  obtain ⟨k, hk, hki, rfl⟩ := mem_take hc
  have : findI f xs ≠ (i : Int) := by
   intro e
   unfold findI at e
   cases hx : xs.findIdx? f with
   | none =>
    have := List.findIdx?_eq_none_iff.1 hx xs[k] (List.getElem_mem hk)
    rw [hfc] at this; simp at this
   | some n =>
    rw [hx] at e
    obtain ⟨hn, hfn, hlt⟩ := List.findIdx?_eq_some_iff_getElem.1 hx
    simp only at e
    have hni : n = i := by omega
    subst hni
    exact absurd hfc (by simpa using hlt k hki)
  rw [decide_eq_false this]; rfl

set_option maxRecDepth 100000 in
set_option maxHeartbeats 8000000 in
theorem open_any (pa : Option Addr) (pc : Nat) (p : Pl) (ba bo : Option Addr) (ca cb : Nat) (x : Bb) (w : World) (hpl : p.addrs.length ≤ 1048576) (hpc : p.addrs.length ≤ pc) (hps : ∀ s ∈ p.addrs, s.size ≤ 1048576) (hbl1 : x.binds.length ≤ 1048576) (hbl2 : x.sess.length ≤ 1048576) (hgb : ∀ q ∈ x.binds, BdGood q) (hgs : ∀ s ∈ x.sess, SsGood s) (hp : SlIs strL1 1 w pa p.addrs) (hx : BbIs w ba bo x) :
  Calls Try.prog 21 #[plC pa pc p, bbC ba bo ca cb x] w (OpenRet w pa pc p ba bo ca cb x) := by
 have HZ0 : Hid (Below w.heap.size w (((w.alloc (.cells #[.slice pa p.addrs.length pc, .int .i64 p.low, .int .i64 p.high, .int .i64 p.most, .int .i64 p.filter, .int .i64 p.lv.udp, .int .i64 p.lv.echo, .int .i64 p.lv.opening, .int .i64 p.lv.opn, .int .i64 p.lv.closing] 27)).alloc (.cells #[.slice ba x.binds.length ca, .slice bo x.sess.length cb] 31)).alloc (.cells #[.slice none 0 0, .int .i64 0, .int .i64 0, .int .i64 0, .int .i64 0, .int .i64 0, .int .i64 0, .int .i64 0, .int .i64 0, .int .i64 0, .slice none 0 0, .slice none 0 0, .map none, .map none] 60))) := (((Below.refl _ _).alloc (Nat.le_refl _) _).alloc (by simp) _).alloc (by simp; omega) _
 have HP : Hid (HoldsL (((w.alloc (.cells #[.slice pa p.addrs.length pc, .int .i64 p.low, .int .i64 p.high, .int .i64 p.most, .int .i64 p.filter, .int .i64 p.lv.udp, .int .i64 p.lv.echo, .int .i64 p.lv.opening, .int .i64 p.lv.opn, .int .i64 p.lv.closing] 27)).alloc (.cells #[.slice ba x.binds.length ca, .slice bo x.sess.length cb] 31)).alloc (.cells #[.slice none 0 0, .int .i64 0, .int .i64 0, .int .i64 0, .int .i64 0, .int .i64 0, .int .i64 0, .int .i64 0, .int .i64 0, .int .i64 0, .slice none 0 0, .slice none 0 0, .map none, .map none] 60)) w.heap.size [.slice pa p.addrs.length pc, .int .i64 p.low, .int .i64 p.high, .int .i64 p.most, .int .i64 p.filter, .int .i64 p.lv.udp, .int .i64 p.lv.echo, .int .i64 p.lv.opening, .int .i64 p.lv.opn, .int .i64 p.lv.closing]) := ((HoldsL.new w [.slice pa p.addrs.length pc, .int .i64 p.low, .int .i64 p.high, .int .i64 p.most, .int .i64 p.filter, .int .i64 p.lv.udp, .int .i64 p.lv.echo, .int .i64 p.lv.opening, .int .i64 p.lv.opn, .int .i64 p.lv.closing] 27).alloc _).alloc _
 have HB : Hid (HoldsL (((w.alloc (.cells #[.slice pa p.addrs.length pc, .int .i64 p.low, .int .i64 p.high, .int .i64 p.most, .int .i64 p.filter, .int .i64 p.lv.udp, .int .i64 p.lv.echo, .int .i64 p.lv.opening, .int .i64 p.lv.opn, .int .i64 p.lv.closing] 27)).alloc (.cells #[.slice ba x.binds.length ca, .slice bo x.sess.length cb] 31)).alloc (.cells #[.slice none 0 0, .int .i64 0, .int .i64 0, .int .i64 0, .int .i64 0, .int .i64 0, .int .i64 0, .int .i64 0, .int .i64 0, .int .i64 0, .slice none 0 0, .slice none 0 0, .map none, .map none] 60)) (w.heap.size + 1) [.slice ba x.binds.length ca, .slice bo x.sess.length cb]) := by
  have h := (HoldsL.new (w.alloc (.cells #[.slice pa p.addrs.length pc, .int .i64 p.low, .int .i64 p.high, .int .i64 p.most, .int .i64 p.filter, .int .i64 p.lv.udp, .int .i64 p.lv.echo, .int .i64 p.lv.opening, .int .i64 p.lv.opn, .int .i64 p.lv.closing] 27)) [.slice ba x.binds.length ca, .slice bo x.sess.length cb] 31).alloc (.cells #[.slice none 0 0, .int .i64 0, .int .i64 0, .int .i64 0, .int .i64 0, .int .i64 0, .int .i64 0, .int .i64 0, .int .i64 0, .int .i64 0, .slice none 0 0, .slice none 0 0, .map none, .map none] 60)
  rw [World.size_alloc] at h; exact h
 have HR : Hid (HoldsL (((w.alloc (.cells #[.slice pa p.addrs.length pc, .int .i64 p.low, .int .i64 p.high, .int .i64 p.most, .int .i64 p.filter, .int .i64 p.lv.udp, .int .i64 p.lv.echo, .int .i64 p.lv.opening, .int .i64 p.lv.opn, .int .i64 p.lv.closing] 27)).alloc (.cells #[.slice ba x.binds.length ca, .slice bo x.sess.length cb] 31)).alloc (.cells #[.slice none 0 0, .int .i64 0, .int .i64 0, .int .i64 0, .int .i64 0, .int .i64 0, .int .i64 0, .int .i64 0, .int .i64 0, .int .i64 0, .slice none 0 0, .slice none 0 0, .map none, .map none] 60)) (w.heap.size + 1 + 1) [.slice none 0 0, .int .i64 0, .int .i64 0, .int .i64 0, .int .i64 0, .int .i64 0, .int .i64 0, .int .i64 0, .int .i64 0, .int .i64 0, .slice none 0 0, .slice none 0 0, .map none, .map none]) := by
  have h := HoldsL.new ((w.alloc (.cells #[.slice pa p.addrs.length pc, .int .i64 p.low, .int .i64 p.high, .int .i64 p.most, .int .i64 p.filter, .int .i64 p.lv.udp, .int .i64 p.lv.echo, .int .i64 p.lv.opening, .int .i64 p.lv.opn, .int .i64 p.lv.closing] 27)).alloc (.cells #[.slice ba x.binds.length ca, .slice bo x.sess.length cb] 31)) [.slice none 0 0, .int .i64 0, .int .i64 0, .int .i64 0, .int .i64 0, .int .i64 0, .int .i64 0, .int .i64 0, .int .i64 0, .int .i64 0, .slice none 0 0, .slice none 0 0, .map none, .map none] 60
  rw [World.size_alloc, World.size_alloc] at h; exact h
 have HSP : Hid (SlIs strL1 1 w pa p.addrs) := hp
 have HSX : Hid (BbIs w ba bo x) := hx
 have HGB : Hid (∀ q ∈ x.binds, BdGood q) := hgb
 have HGS : Hid (∀ s ∈ x.sess, SsGood s) := hgs
 have HPR : Hid (∀ W, Below w.heap.size w W → Calls Try.prog 56 #[.agg #[.slice pa p.addrs.length pc, .int .i64 p.low, .int .i64 p.high, .int .i64 p.most, .int .i64 p.filter, .int .i64 p.lv.udp, .int .i64 p.lv.echo, .int .i64 p.lv.opening, .int .i64 p.lv.opn, .int .i64 p.lv.closing]] W fun e w' => e = .returned (.bool (poolOk p)) ∧ Below W.heap.size W w') := fun W hW => implPool_any p pa pc W hpl hpc hps (hp.below hW)
 have HV : Hid (bookOk p x = (poolOk p && decide ((x.sess.length : Int) ≤ p.most) && decide (x.binds.length ≤ x.sess.length) && upN (fitB p x) x.binds x.binds.length && upN (sessB x) x.sess x.sess.length)) := rfl
 obtain ⟨ok, hok⟩ : ∃ y, y = bookOk p x := ⟨_, rfl⟩
 have HOK : Hid (ok = bookOk p x) := hok
 rw [← hok] at HV
 clear hok
 generalize poolOk p = po at *
 have hun : undef = Value.tuple #[] := rfl
 have hRw : w.heap.size ≤ w.heap.size + 1 + 1 := by omega
 clear hp hx hgb hgs hps
 unfold plC bbC
 go_enter Try.func21, Try.ntmps21
 go_upto_region 1 with fail
 generalize ((w.alloc (.cells #[.slice pa p.addrs.length pc, .int .i64 p.low, .int .i64 p.high, .int .i64 p.most, .int .i64 p.filter, .int .i64 p.lv.udp, .int .i64 p.lv.echo, .int .i64 p.lv.opening, .int .i64 p.lv.opn, .int .i64 p.lv.closing] 27)).alloc (.cells #[.slice ba x.binds.length ca, .slice bo x.sess.length cb] 31)).alloc (.cells #[.slice none 0 0, .int .i64 0, .int .i64 0, .int .i64 0, .int .i64 0, .int .i64 0, .int .i64 0, .int .i64 0, .int .i64 0, .int .i64 0, .slice none 0 0, .slice none 0 0, .map none, .map none] 60) = W0 at *
 have k0 := HP.out.cell (j := 0) rfl
 have k1 := HP.out.cell (j := 1) rfl
 have k2 := HP.out.cell (j := 2) rfl
 have k3 := HP.out.cell (j := 3) rfl
 have k4 := HP.out.cell (j := 4) rfl
 have k5 := HP.out.cell (j := 5) rfl
 have k6 := HP.out.cell (j := 6) rfl
 have k7 := HP.out.cell (j := 7) rfl
 have k8 := HP.out.cell (j := 8) rfl
 have k9 := HP.out.cell (j := 9) rfl
 go_wp2_with fail
 refine (HPR.out _ HZ0.out).mono ?_
 rintro e w1 ⟨rfl, q1⟩
 have B1 : Hid (Below w.heap.size w w1) := HZ0.out.trans (q1.mono HZ0.out.size)
 have P1 : Hid _ := HP.out.kept (by simp) q1
 have BX1 : Hid _ := HB.out.kept (by simp) q1
 have R1 : Hid _ := HR.out.kept (by simp) q1
 clear q1 HP HB HR HZ0 HPR k0 k1 k2 k3 k4 k5 k6 k7 k8 k9
 have c0 := BX1.out.cell (j := 0) rfl
 have c1 := BX1.out.cell (j := 1) rfl
 have k0 := P1.out.cell (j := 0) rfl
 have k1 := P1.out.cell (j := 1) rfl
 have k2 := P1.out.cell (j := 2) rfl
 have k3 := P1.out.cell (j := 3) rfl
 have k4 := P1.out.cell (j := 4) rfl
 have k5 := P1.out.cell (j := 5) rfl
 have k6 := P1.out.cell (j := 6) rfl
 have k7 := P1.out.cell (j := 7) rfl
 have k8 := P1.out.cell (j := 8) rfl
 have k9 := P1.out.cell (j := 9) rfl
 cases po with
 | false =>
  have z0 := R1.out.cell (j := 0) rfl
  have zf0 := R1.out.free (j := 0) (by simp)
  have z1 := R1.out.cell (j := 1) rfl
  have zf1 := R1.out.free (j := 1) (by simp)
  have z2 := R1.out.cell (j := 2) rfl
  have zf2 := R1.out.free (j := 2) (by simp)
  have z3 := R1.out.cell (j := 3) rfl
  have zf3 := R1.out.free (j := 3) (by simp)
  have z4 := R1.out.cell (j := 4) rfl
  have zf4 := R1.out.free (j := 4) (by simp)
  have z5 := R1.out.cell (j := 5) rfl
  have zf5 := R1.out.free (j := 5) (by simp)
  have z6 := R1.out.cell (j := 6) rfl
  have zf6 := R1.out.free (j := 6) (by simp)
  have z7 := R1.out.cell (j := 7) rfl
  have zf7 := R1.out.free (j := 7) (by simp)
  have z8 := R1.out.cell (j := 8) rfl
  have zf8 := R1.out.free (j := 8) (by simp)
  have z9 := R1.out.cell (j := 9) rfl
  have zf9 := R1.out.free (j := 9) (by simp)
  have z10 := R1.out.cell (j := 10) rfl
  have zf10 := R1.out.free (j := 10) (by simp)
  have z11 := R1.out.cell (j := 11) rfl
  have zf11 := R1.out.free (j := 11) (by simp)
  have z12 := R1.out.cell (j := 12) rfl
  have zf12 := R1.out.free (j := 12) (by simp)
  have z13 := R1.out.cell (j := 13) rfl
  have zf13 := R1.out.free (j := 13) (by simp)
  have HX : Hid (bookOk p x = false) := by unfold Hid; rw [← HOK.out, HV.out]; rfl
  go_wp2_with fail
  refine bodyPost_ret (v := .tuple #[.agg #[.slice none 0 0, .int .i64 0, .int .i64 0, .int .i64 0, .int .i64 0, .int .i64 0, .int .i64 0, .int .i64 0, .int .i64 0, .int .i64 0, .slice none 0 0, .slice none 0 0, .map none, .map none], .bool false]) (by simp [results, Try.results21, go_sem, z0, z1, z2, z3, z4, z5, z6, z7, z8, z9, z10, z11, z12, z13]) rfl (show OpenRet w pa pc p ba bo ca cb x _ _ from And.intro ?_ (.inl ⟨HX.out, rfl⟩))
  exact ((((((((((((((B1.out.setCell (p := ⟨w.heap.size + 1 + 1, 0, none⟩) hRw _).setCell (p := ⟨w.heap.size + 1 + 1, 1, none⟩) hRw _).setCell (p := ⟨w.heap.size + 1 + 1, 2, none⟩) hRw _).setCell (p := ⟨w.heap.size + 1 + 1, 3, none⟩) hRw _).setCell (p := ⟨w.heap.size + 1 + 1, 4, none⟩) hRw _).setCell (p := ⟨w.heap.size + 1 + 1, 5, none⟩) hRw _).setCell (p := ⟨w.heap.size + 1 + 1, 6, none⟩) hRw _).setCell (p := ⟨w.heap.size + 1 + 1, 7, none⟩) hRw _).setCell (p := ⟨w.heap.size + 1 + 1, 8, none⟩) hRw _).setCell (p := ⟨w.heap.size + 1 + 1, 9, none⟩) hRw _).setCell (p := ⟨w.heap.size + 1 + 1, 10, none⟩) hRw _).setCell (p := ⟨w.heap.size + 1 + 1, 11, none⟩) hRw _).setCell (p := ⟨w.heap.size + 1 + 1, 12, none⟩) hRw _).setCell (p := ⟨w.heap.size + 1 + 1, 13, none⟩) hRw _)
 | true =>
 by_cases h1 : (x.sess.length : Int) ≤ p.most
 case neg =>
  have h1' : p.most < (x.sess.length : Int) := by omega
  have d1 : decide (p.most < (x.sess.length : Int)) = true := decide_eq_true h1'
  have z0 := R1.out.cell (j := 0) rfl
  have zf0 := R1.out.free (j := 0) (by simp)
  have z1 := R1.out.cell (j := 1) rfl
  have zf1 := R1.out.free (j := 1) (by simp)
  have z2 := R1.out.cell (j := 2) rfl
  have zf2 := R1.out.free (j := 2) (by simp)
  have z3 := R1.out.cell (j := 3) rfl
  have zf3 := R1.out.free (j := 3) (by simp)
  have z4 := R1.out.cell (j := 4) rfl
  have zf4 := R1.out.free (j := 4) (by simp)
  have z5 := R1.out.cell (j := 5) rfl
  have zf5 := R1.out.free (j := 5) (by simp)
  have z6 := R1.out.cell (j := 6) rfl
  have zf6 := R1.out.free (j := 6) (by simp)
  have z7 := R1.out.cell (j := 7) rfl
  have zf7 := R1.out.free (j := 7) (by simp)
  have z8 := R1.out.cell (j := 8) rfl
  have zf8 := R1.out.free (j := 8) (by simp)
  have z9 := R1.out.cell (j := 9) rfl
  have zf9 := R1.out.free (j := 9) (by simp)
  have z10 := R1.out.cell (j := 10) rfl
  have zf10 := R1.out.free (j := 10) (by simp)
  have z11 := R1.out.cell (j := 11) rfl
  have zf11 := R1.out.free (j := 11) (by simp)
  have z12 := R1.out.cell (j := 12) rfl
  have zf12 := R1.out.free (j := 12) (by simp)
  have z13 := R1.out.cell (j := 13) rfl
  have zf13 := R1.out.free (j := 13) (by simp)
  have HX : Hid (bookOk p x = false) := by unfold Hid; rw [← HOK.out, HV.out]; rw [decide_eq_false h1]; rfl
  go_wp2_with fail
  refine bodyPost_ret (v := .tuple #[.agg #[.slice none 0 0, .int .i64 0, .int .i64 0, .int .i64 0, .int .i64 0, .int .i64 0, .int .i64 0, .int .i64 0, .int .i64 0, .int .i64 0, .slice none 0 0, .slice none 0 0, .map none, .map none], .bool false]) (by simp [results, Try.results21, go_sem, z0, z1, z2, z3, z4, z5, z6, z7, z8, z9, z10, z11, z12, z13]) rfl (show OpenRet w pa pc p ba bo ca cb x _ _ from And.intro ?_ (.inl ⟨HX.out, rfl⟩))
  exact ((((((((((((((B1.out.setCell (p := ⟨w.heap.size + 1 + 1, 0, none⟩) hRw _).setCell (p := ⟨w.heap.size + 1 + 1, 1, none⟩) hRw _).setCell (p := ⟨w.heap.size + 1 + 1, 2, none⟩) hRw _).setCell (p := ⟨w.heap.size + 1 + 1, 3, none⟩) hRw _).setCell (p := ⟨w.heap.size + 1 + 1, 4, none⟩) hRw _).setCell (p := ⟨w.heap.size + 1 + 1, 5, none⟩) hRw _).setCell (p := ⟨w.heap.size + 1 + 1, 6, none⟩) hRw _).setCell (p := ⟨w.heap.size + 1 + 1, 7, none⟩) hRw _).setCell (p := ⟨w.heap.size + 1 + 1, 8, none⟩) hRw _).setCell (p := ⟨w.heap.size + 1 + 1, 9, none⟩) hRw _).setCell (p := ⟨w.heap.size + 1 + 1, 10, none⟩) hRw _).setCell (p := ⟨w.heap.size + 1 + 1, 11, none⟩) hRw _).setCell (p := ⟨w.heap.size + 1 + 1, 12, none⟩) hRw _).setCell (p := ⟨w.heap.size + 1 + 1, 13, none⟩) hRw _)
 have h1' : ¬ p.most < (x.sess.length : Int) := by omega
 have d1 : decide (p.most < (x.sess.length : Int)) = false := decide_eq_false h1'
 by_cases h2 : x.binds.length ≤ x.sess.length
 case neg =>
  have h2' : (x.sess.length : Int) < (x.binds.length : Int) := by omega
  have d2 : decide ((x.sess.length : Int) < (x.binds.length : Int)) = true := decide_eq_true h2'
  have z0 := R1.out.cell (j := 0) rfl
  have zf0 := R1.out.free (j := 0) (by simp)
  have z1 := R1.out.cell (j := 1) rfl
  have zf1 := R1.out.free (j := 1) (by simp)
  have z2 := R1.out.cell (j := 2) rfl
  have zf2 := R1.out.free (j := 2) (by simp)
  have z3 := R1.out.cell (j := 3) rfl
  have zf3 := R1.out.free (j := 3) (by simp)
  have z4 := R1.out.cell (j := 4) rfl
  have zf4 := R1.out.free (j := 4) (by simp)
  have z5 := R1.out.cell (j := 5) rfl
  have zf5 := R1.out.free (j := 5) (by simp)
  have z6 := R1.out.cell (j := 6) rfl
  have zf6 := R1.out.free (j := 6) (by simp)
  have z7 := R1.out.cell (j := 7) rfl
  have zf7 := R1.out.free (j := 7) (by simp)
  have z8 := R1.out.cell (j := 8) rfl
  have zf8 := R1.out.free (j := 8) (by simp)
  have z9 := R1.out.cell (j := 9) rfl
  have zf9 := R1.out.free (j := 9) (by simp)
  have z10 := R1.out.cell (j := 10) rfl
  have zf10 := R1.out.free (j := 10) (by simp)
  have z11 := R1.out.cell (j := 11) rfl
  have zf11 := R1.out.free (j := 11) (by simp)
  have z12 := R1.out.cell (j := 12) rfl
  have zf12 := R1.out.free (j := 12) (by simp)
  have z13 := R1.out.cell (j := 13) rfl
  have zf13 := R1.out.free (j := 13) (by simp)
  have HX : Hid (bookOk p x = false) := by unfold Hid; rw [← HOK.out, HV.out]; rw [decide_eq_false h2]; simp
  go_wp2_with fail
  refine bodyPost_ret (v := .tuple #[.agg #[.slice none 0 0, .int .i64 0, .int .i64 0, .int .i64 0, .int .i64 0, .int .i64 0, .int .i64 0, .int .i64 0, .int .i64 0, .int .i64 0, .slice none 0 0, .slice none 0 0, .map none, .map none], .bool false]) (by simp [results, Try.results21, go_sem, z0, z1, z2, z3, z4, z5, z6, z7, z8, z9, z10, z11, z12, z13]) rfl (show OpenRet w pa pc p ba bo ca cb x _ _ from And.intro ?_ (.inl ⟨HX.out, rfl⟩))
  exact ((((((((((((((B1.out.setCell (p := ⟨w.heap.size + 1 + 1, 0, none⟩) hRw _).setCell (p := ⟨w.heap.size + 1 + 1, 1, none⟩) hRw _).setCell (p := ⟨w.heap.size + 1 + 1, 2, none⟩) hRw _).setCell (p := ⟨w.heap.size + 1 + 1, 3, none⟩) hRw _).setCell (p := ⟨w.heap.size + 1 + 1, 4, none⟩) hRw _).setCell (p := ⟨w.heap.size + 1 + 1, 5, none⟩) hRw _).setCell (p := ⟨w.heap.size + 1 + 1, 6, none⟩) hRw _).setCell (p := ⟨w.heap.size + 1 + 1, 7, none⟩) hRw _).setCell (p := ⟨w.heap.size + 1 + 1, 8, none⟩) hRw _).setCell (p := ⟨w.heap.size + 1 + 1, 9, none⟩) hRw _).setCell (p := ⟨w.heap.size + 1 + 1, 10, none⟩) hRw _).setCell (p := ⟨w.heap.size + 1 + 1, 11, none⟩) hRw _).setCell (p := ⟨w.heap.size + 1 + 1, 12, none⟩) hRw _).setCell (p := ⟨w.heap.size + 1 + 1, 13, none⟩) hRw _)
 have h2' : ¬ (x.sess.length : Int) < (x.binds.length : Int) := by omega
 have d2 : decide ((x.sess.length : Int) < (x.binds.length : Int)) = false := decide_eq_false h2'
 have d3 : decide (x.sess.length < x.binds.length) = false := decide_eq_false (by omega)
 have HV2 : Hid (ok = (upN (fitB p x) x.binds x.binds.length && upN (sessB x) x.sess x.sess.length)) := by unfold Hid; rw [HV.out, decide_eq_true h1, decide_eq_true h2]; rfl
 clear HV
 have HV : Hid _ := HV2
 clear HV2
 have hmm1 := run_makeMap (P := Try.prog) 58 w1
 have hmm2 := run_makeMap (P := Try.prog) 58 (w1.alloc (.map #[] 0))
 rw [World.size_alloc] at hmm2
 go_upto_region 4 with fail
 have hlt1 : w.heap.size + 1 + 1 < w1.heap.size := R1.out.lt (by simp)
 have HST : Hid (OpSt w pa pc p ba bo ca cb x w1.heap.size (w1.heap.size + 1) (w1.heap.size + 1 + 1) [] [] (((w1.alloc (.map #[] 0)).alloc (.map #[] 0)).alloc (.cells #[.slice pa p.addrs.length pc, .int .i64 p.low, .int .i64 p.high, .int .i64 p.most, .int .i64 p.filter, .int .i64 p.lv.udp, .int .i64 p.lv.echo, .int .i64 p.lv.opening, .int .i64 p.lv.opn, .int .i64 p.lv.closing, .slice ba x.binds.length ca, .slice bo x.sess.length cb, .map (some w1.heap.size), .map (some (w1.heap.size + 1))] 60))) := by
  have bm : Below w1.heap.size w1 ((w1.alloc (.map #[] 0)).alloc (.map #[] 0)) := ((Below.refl _ _).alloc (Nat.le_refl _) _).alloc (by simp) _
  have b3 : Below w1.heap.size w1 (((w1.alloc (.map #[] 0)).alloc (.map #[] 0)).alloc (.cells #[.slice pa p.addrs.length pc, .int .i64 p.low, .int .i64 p.high, .int .i64 p.most, .int .i64 p.filter, .int .i64 p.lv.udp, .int .i64 p.lv.echo, .int .i64 p.lv.opening, .int .i64 p.lv.opn, .int .i64 p.lv.closing, .slice ba x.binds.length ca, .slice bo x.sess.length cb, .map (some w1.heap.size), .map (some (w1.heap.size + 1))] 60)) := bm.alloc bm.size _
  have hk := HoldsL.new ((w1.alloc (.map #[] 0)).alloc (.map #[] 0)) [.slice pa p.addrs.length pc, .int .i64 p.low, .int .i64 p.high, .int .i64 p.most, .int .i64 p.filter, .int .i64 p.lv.udp, .int .i64 p.lv.echo, .int .i64 p.lv.opening, .int .i64 p.lv.opn, .int .i64 p.lv.closing, .slice ba x.binds.length ca, .slice bo x.sess.length cb, .map (some w1.heap.size), .map (some (w1.heap.size + 1))] 60
  rw [World.size_alloc, World.size_alloc] at hk
  exact ⟨BX1.out.kept (by simp) b3, R1.out.kept (by simp) b3, hk, BookAt.made.kept ((Below.refl _ _).alloc (Nat.le_refl _) _), B1.out.trans (b3.mono B1.out.size), hlt1, by omega, by omega, by omega⟩
 clear c0 c1 d1 d2 d3 h1' h2' P1 R1 BX1 hmm1 hmm2 k0 k1 k2 k3 k4 k5 k6 k7 k8 k9
 generalize ((w1.alloc (.map #[] 0)).alloc (.map #[] 0)).alloc (.cells #[.slice pa p.addrs.length pc, .int .i64 p.low, .int .i64 p.high, .int .i64 p.most, .int .i64 p.filter, .int .i64 p.lv.udp, .int .i64 p.lv.echo, .int .i64 p.lv.opening, .int .i64 p.lv.opn, .int .i64 p.lv.closing, .slice ba x.binds.length ca, .slice bo x.sess.length cb, .map (some w1.heap.size), .map (some (w1.heap.size + 1))] 60) = W3 at *
 have hm1 : w.heap.size ≤ w1.heap.size := by omega
 have hm2 : w.heap.size ≤ w1.heap.size + 1 := by omega
 generalize hY : w1.heap.size + 1 + 1 = Y at *
 generalize hm2e : w1.heap.size + 1 = m2 at *
 generalize w1.heap.size = m1 at *
 clear hY hm2e hlt1 B1
 have c0 := HST.out.bx.cell (j := 0) rfl
 go_wp2_with fail
 clear c0
 go_loopw [43] (fun iv wr => ∃ i : Nat, i ≤ x.binds.length ∧ iv = .int .i64 i ∧ upN (fitB p x) x.binds i = true ∧ OpSt w pa pc p ba bo ca cb x m1 m2 Y (x.binds.take i) (x.binds.take i) wr) (fun iv _ => x.binds.length - (intOf iv).toNat)
 case atStart => exact ⟨0, Nat.zero_le _, rfl, rfl, HST.out⟩
 case round =>
  obtain ⟨i, hi, rfl, hn, hS⟩ := hrel
  have HN : Hid (upN (fitB p x) x.binds i = true) := hn
  have HS : Hid (OpSt w pa pc p ba bo ca cb x m1 m2 Y (x.binds.take i) (x.binds.take i) wr) := hS
  clear hn hS HST
  generalize wr = w4 at *
  by_cases hlt : i < x.binds.length
  · -- a bind
   obtain ⟨bb, off, rfl, hb, hat⟩ := HSX.out.bd.at hlt
   have hA := (hat.below hb HS.out.b) i hlt
   have HST : Hid _ := upN_step (f := fitB p x) hlt
   have HATF : Hid (fitB p x (x.binds.take i) x.binds[i] = false → upN (fitB p x) x.binds x.binds.length = false) := upN_at hlt
   have hgd := HGB.out x.binds[i] (List.getElem_mem hlt)
   have HTK : Hid (x.binds.take (i + 1) = x.binds.take i ++ [x.binds[i]]) := List.take_succ_eq_append_getElem hlt
   obtain ⟨q, hq⟩ : ∃ q, q = x.binds[i] := ⟨_, rfl⟩
   rw [← hq] at hA HST HATF HTK hgd
   have HGD : Hid (BdGood q) := hgd
   have hltI : (i : Int) < (x.binds.length : Int) := by omega
   have c0 : w4.cell? ⟨bb, off + i * 5, none⟩ = some (.int .i64 q.proto) := hA 0 _ rfl
   have c1 : w4.cell? ⟨bb, off + i * 5 + 1, none⟩ = some (.string q.inn) := hA 1 _ rfl
   have c2 : w4.cell? ⟨bb, off + i * 5 + 2, none⟩ = some (.int .i64 q.inPort) := hA 2 _ rfl
   have c3 : w4.cell? ⟨bb, off + i * 5 + 3, none⟩ = some (.string q.out) := hA 3 _ rfl
   have c4 : w4.cell? ⟨bb, off + i * 5 + 4, none⟩ = some (.int .i64 q.outPort) := hA 4 _ rfl
   clear hA hat hq hgd
   have HFI : Hid (∀ W, OpSt w pa pc p (some ⟨bb, off, none⟩) bo ca cb x m1 m2 Y (x.binds.take i) (x.binds.take i) W → Calls Try.prog 57 #[.agg #[.slice pa p.addrs.length pc, .int .i64 p.low, .int .i64 p.high, .int .i64 p.most, .int .i64 p.filter, .int .i64 p.lv.udp, .int .i64 p.lv.echo, .int .i64 p.lv.opening, .int .i64 p.lv.opn, .int .i64 p.lv.closing, .slice (some ⟨bb, off, none⟩) x.binds.length ca, .slice bo x.sess.length cb, .map (some m1), .map (some m2)], .agg #[.int .i64 q.proto, .string q.inn, .int .i64 q.inPort, .string q.out, .int .i64 q.outPort]] W fun e w' => e = .returned (.bool (fitB p x (x.binds.take i) q)) ∧ Below W.heap.size W w') := fun W hW => fits_any pa pc p (some ⟨bb, off, none⟩) bo ca cb x m1 m2 (x.binds.take i) q W hpl hbl1 hbl2 HGD.out hW.bk (HSP.out.below hW.b) (HSX.out.below hW.b)
   go_upto_region 7 with fail
   have bn : Below w4.heap.size w4 (w4.alloc (.cells #[.int .i64 q.proto, .string q.inn, .int .i64 q.inPort, .string q.out, .int .i64 q.outPort] 35)) := (Below.refl _ _).alloc (Nat.le_refl _) _
   have HQ : Hid (HoldsL (w4.alloc (.cells #[.int .i64 q.proto, .string q.inn, .int .i64 q.inPort, .string q.out, .int .i64 q.outPort] 35)) w4.heap.size [.int .i64 q.proto, .string q.inn, .int .i64 q.inPort, .string q.out, .int .i64 q.outPort]) := HoldsL.new w4 [.int .i64 q.proto, .string q.inn, .int .i64 q.inPort, .string q.out, .int .i64 q.outPort] 35
   have HS5 : Hid _ := HS.out.kept bn
   generalize w4.alloc (.cells #[.int .i64 q.proto, .string q.inn, .int .i64 q.inPort, .string q.out, .int .i64 q.outPort] 35) = W5 at *
   have hqm : w4.heap.size ≠ m1 ∧ w4.heap.size ≠ m2 := by have := HS.out.bk.lt; omega
   clear bn HS c0 c1 c2 c3 c4
   have k0 := HS5.out.k.cell (j := 0) rfl
   have k1 := HS5.out.k.cell (j := 1) rfl
   have k2 := HS5.out.k.cell (j := 2) rfl
   have k3 := HS5.out.k.cell (j := 3) rfl
   have k4 := HS5.out.k.cell (j := 4) rfl
   have k5 := HS5.out.k.cell (j := 5) rfl
   have k6 := HS5.out.k.cell (j := 6) rfl
   have k7 := HS5.out.k.cell (j := 7) rfl
   have k8 := HS5.out.k.cell (j := 8) rfl
   have k9 := HS5.out.k.cell (j := 9) rfl
   have k10 := HS5.out.k.cell (j := 10) rfl
   have k11 := HS5.out.k.cell (j := 11) rfl
   have k12 := HS5.out.k.cell (j := 12) rfl
   have k13 := HS5.out.k.cell (j := 13) rfl
   have c0 := HQ.out.cell (j := 0) rfl
   have c1 := HQ.out.cell (j := 1) rfl
   have c2 := HQ.out.cell (j := 2) rfl
   have c3 := HQ.out.cell (j := 3) rfl
   have c4 := HQ.out.cell (j := 4) rfl
   generalize w4.heap.size = Bq at *
   obtain ⟨fb, hfb⟩ : ∃ y, y = fitB p x (x.binds.take i) q := ⟨_, rfl⟩
   have HFB : Hid (fb = fitB p x (x.binds.take i) q) := hfb
   rw [← hfb] at HFI HST HATF
   clear hfb
   go_wp2_with fail
   refine (HFI.out _ HS5.out).mono ?_
   rintro e w6 ⟨rfl, q6⟩
   have HS6 : Hid _ := HS5.out.kept q6
   have HQ6 : Hid _ := HQ.out.kept (by simp) q6
   clear q6 HS5 HQ HFI k0 k1 k2 k3 k4 k5 k6 k7 k8 k9 k10 k11 k12 k13 c0 c1 c2 c3 c4
   cases fb with
   | false =>
    have HXF := HATF.out rfl
    have z0 := HS6.out.r.cell (j := 0) rfl
    have zf0 := HS6.out.r.free (j := 0) (by simp)
    have z1 := HS6.out.r.cell (j := 1) rfl
    have zf1 := HS6.out.r.free (j := 1) (by simp)
    have z2 := HS6.out.r.cell (j := 2) rfl
    have zf2 := HS6.out.r.free (j := 2) (by simp)
    have z3 := HS6.out.r.cell (j := 3) rfl
    have zf3 := HS6.out.r.free (j := 3) (by simp)
    have z4 := HS6.out.r.cell (j := 4) rfl
    have zf4 := HS6.out.r.free (j := 4) (by simp)
    have z5 := HS6.out.r.cell (j := 5) rfl
    have zf5 := HS6.out.r.free (j := 5) (by simp)
    have z6 := HS6.out.r.cell (j := 6) rfl
    have zf6 := HS6.out.r.free (j := 6) (by simp)
    have z7 := HS6.out.r.cell (j := 7) rfl
    have zf7 := HS6.out.r.free (j := 7) (by simp)
    have z8 := HS6.out.r.cell (j := 8) rfl
    have zf8 := HS6.out.r.free (j := 8) (by simp)
    have z9 := HS6.out.r.cell (j := 9) rfl
    have zf9 := HS6.out.r.free (j := 9) (by simp)
    have z10 := HS6.out.r.cell (j := 10) rfl
    have zf10 := HS6.out.r.free (j := 10) (by simp)
    have z11 := HS6.out.r.cell (j := 11) rfl
    have zf11 := HS6.out.r.free (j := 11) (by simp)
    have z12 := HS6.out.r.cell (j := 12) rfl
    have zf12 := HS6.out.r.free (j := 12) (by simp)
    have z13 := HS6.out.r.cell (j := 13) rfl
    have zf13 := HS6.out.r.free (j := 13) (by simp)
    have HX : Hid (bookOk p x = false) := by unfold Hid; rw [← HOK.out, HV.out]; rw [HXF]; rfl
    go_wp2_with fail
    refine bodyPost_ret (v := .tuple #[.agg #[.slice none 0 0, .int .i64 0, .int .i64 0, .int .i64 0, .int .i64 0, .int .i64 0, .int .i64 0, .int .i64 0, .int .i64 0, .int .i64 0, .slice none 0 0, .slice none 0 0, .map none, .map none], .bool false]) (by simp [results, Try.results21, go_sem, z0, z1, z2, z3, z4, z5, z6, z7, z8, z9, z10, z11, z12, z13]) rfl (show OpenRet w pa pc p (some ⟨bb, off, none⟩) bo ca cb x _ _ from And.intro ?_ (.inl ⟨HX.out, rfl⟩))
    exact ((((((((((((((HS6.out.b.setCell (p := ⟨w.heap.size + 1 + 1, 0, none⟩) hRw _).setCell (p := ⟨w.heap.size + 1 + 1, 1, none⟩) hRw _).setCell (p := ⟨w.heap.size + 1 + 1, 2, none⟩) hRw _).setCell (p := ⟨w.heap.size + 1 + 1, 3, none⟩) hRw _).setCell (p := ⟨w.heap.size + 1 + 1, 4, none⟩) hRw _).setCell (p := ⟨w.heap.size + 1 + 1, 5, none⟩) hRw _).setCell (p := ⟨w.heap.size + 1 + 1, 6, none⟩) hRw _).setCell (p := ⟨w.heap.size + 1 + 1, 7, none⟩) hRw _).setCell (p := ⟨w.heap.size + 1 + 1, 8, none⟩) hRw _).setCell (p := ⟨w.heap.size + 1 + 1, 9, none⟩) hRw _).setCell (p := ⟨w.heap.size + 1 + 1, 10, none⟩) hRw _).setCell (p := ⟨w.heap.size + 1 + 1, 11, none⟩) hRw _).setCell (p := ⟨w.heap.size + 1 + 1, 12, none⟩) hRw _).setCell (p := ⟨w.heap.size + 1 + 1, 13, none⟩) hRw _)
   | true =>
   have HNN : Hid (upN (fitB p x) x.binds (i + 1) = true) := by unfold Hid; rw [HST.out, HN.out]; rfl
   have HNN : Hid (upN (fitB p x) x.binds (i + 1) = true) := by unfold Hid; rw [HST.out, HN.out]; rfl
   have HNI : Hid ((x.binds.take i).any (fun c => sameEn (hostE c) (hostE q)) = false ∧ (x.binds.take i).any (fun c => sameEn (lentE c) (lentE q)) = false) := by
    have h := HFB.out.symm
    unfold fitB at h
    simp only [Bool.and_eq_true, Bool.not_eq_true'] at h
    rw [show (fun c => sameEn (hostE c) (hostE q)) = ofIn q.proto q.inn q.inPort from funext fun c => host_in _ _ _ c, show (fun c => sameEn (lentE c) (lentE q)) = ofOut q.proto q.out q.outPort from funext fun c => lent_out _ _ _ c]
    exact ⟨h.1.1.1.2, h.1.1.2⟩
   clear HFB HST HATF HN
   go_upto_region 9 with fail
   go_cut [52] (fun v wx => OpSt w pa pc p (some ⟨bb, off, none⟩) bo ca cb x m1 m2 Y (x.binds.take i ++ [q]) (x.binds.take i) wx ∧ HoldsL wx Bq [.int .i64 q.proto, .string q.inn, .int .i64 q.inPort, .string q.out, .int .i64 q.outPort])
   case first =>
    rename_i J K2 hJ hK2
    clear hun
    have HCP : Hid (∀ wy, Below w6.drew.heap.size w6.drew wy → OpSt w pa pc p (some ⟨bb, off, none⟩) bo ca cb x m1 m2 Y (x.binds.take i) (x.binds.take i) wy ∧ HoldsL wy Bq [.int .i64 q.proto, .string q.inn, .int .i64 q.inPort, .string q.out, .int .i64 q.outPort]) := fun wy hy => ⟨HS6.out.kept ((Below.refl _ _).drew.trans hy), HQ6.out.drew.kept (by simp) hy⟩
    have HHE : Hid (∀ W, Calls Try.prog 33 #[.agg #[.int .i64 q.proto, .string q.inn, .int .i64 q.inPort, .string q.out, .int .i64 q.outPort]] W fun e w' => e = .returned (.agg #[.int .i64 q.proto, .string q.inn, .int .i64 q.inPort]) ∧ Below W.heap.size W w') := fun W => hostEnd_any q W
    refine wp_region_growV [52, 53, 54, 55, 56] (by kernel_rfl) (by kernel_rfl) ?_
    refine GChV.val (n := 0) (fun v => [IsV v]) (fun _ => rfl) rfl ?_
    apply Exists.intro
    refine And.intro ?_ ?_
    ·intro K' a wy ho hd hb hK
     rw [if_pos (wanted_none rfl)]
     have o6 := ho 6 (by decide)
     simp [slot] at o6
     clear hd ho
     go_simp
     try go_bits
     exact hK _ _ rfl (Below.refl _ _)
    refine GChV.val (n := 1) (fun v => [_, IsV v]) (fun _ => rfl) rfl ?_
    apply Exists.intro
    refine And.intro ?_ ?_
    ·intro K' a wy ho hd hb hK
     rw [if_pos (wanted_none rfl)]
     have q0 := hd ⟨0, .data⟩ (by simp) rfl
     simp [rAt, IsV, slot] at q0
     clear hd ho
     obtain ⟨hst, hqq⟩ := HCP.out wy hb
     have k0 := hst.k.cell (j := 0) rfl
     have k1 := hst.k.cell (j := 1) rfl
     have k2 := hst.k.cell (j := 2) rfl
     have k3 := hst.k.cell (j := 3) rfl
     have k4 := hst.k.cell (j := 4) rfl
     have k5 := hst.k.cell (j := 5) rfl
     have k6 := hst.k.cell (j := 6) rfl
     have k7 := hst.k.cell (j := 7) rfl
     have k8 := hst.k.cell (j := 8) rfl
     have k9 := hst.k.cell (j := 9) rfl
     have k10 := hst.k.cell (j := 10) rfl
     have k11 := hst.k.cell (j := 11) rfl
     have k12 := hst.k.cell (j := 12) rfl
     have k13 := hst.k.cell (j := 13) rfl
     have c0 := hqq.cell (j := 0) rfl
     have c1 := hqq.cell (j := 1) rfl
     have c2 := hqq.cell (j := 2) rfl
     have c3 := hqq.cell (j := 3) rfl
     have c4 := hqq.cell (j := 4) rfl
     go_simp
     try go_bits
     exact hK _ _ rfl (Below.refl _ _)
    refine GChV.val (n := 2) (fun v => [_, _, IsV v]) (fun _ => rfl) rfl ?_
    apply Exists.intro
    refine And.intro ?_ ?_
    ·intro K' a wy ho hd hb hK
     rw [if_pos (wanted_none rfl)]
     have o8 := ho 8 (by decide)
     simp [slot] at o8
     clear hd ho
     obtain ⟨hst, hqq⟩ := HCP.out wy hb
     have k0 := hst.k.cell (j := 0) rfl
     have k1 := hst.k.cell (j := 1) rfl
     have k2 := hst.k.cell (j := 2) rfl
     have k3 := hst.k.cell (j := 3) rfl
     have k4 := hst.k.cell (j := 4) rfl
     have k5 := hst.k.cell (j := 5) rfl
     have k6 := hst.k.cell (j := 6) rfl
     have k7 := hst.k.cell (j := 7) rfl
     have k8 := hst.k.cell (j := 8) rfl
     have k9 := hst.k.cell (j := 9) rfl
     have k10 := hst.k.cell (j := 10) rfl
     have k11 := hst.k.cell (j := 11) rfl
     have k12 := hst.k.cell (j := 12) rfl
     have k13 := hst.k.cell (j := 13) rfl
     have c0 := hqq.cell (j := 0) rfl
     have c1 := hqq.cell (j := 1) rfl
     have c2 := hqq.cell (j := 2) rfl
     have c3 := hqq.cell (j := 3) rfl
     have c4 := hqq.cell (j := 4) rfl
     go_simp
     try go_bits
     exact hK _ _ rfl (Below.refl _ _)
    refine GChV.val (n := 3) (fun v => [_, _, _, IsV v]) (fun _ => rfl) rfl ?_
    apply Exists.intro
    refine And.intro ?_ ?_
    ·intro K' a wy ho hd hb hK
     rw [if_pos (wanted_none rfl)]
     have q2 := hd ⟨2, .data⟩ (by simp) rfl
     simp [rAt, IsV, slot] at q2
     clear hd ho
     go_simp
     refine (HHE.out wy).mono ?_
     rintro e wz ⟨rfl, hz⟩
     exact hK _ _ rfl hz
    refine GChV.val (n := 4) (fun v => [_, _, _, _, IsV v]) (fun _ => rfl) rfl ?_
    apply Exists.intro
    refine And.intro ?_ ?_
    ·intro K' a wy ho hd hb hK
     rw [if_pos (wanted_none rfl)]
     have o8 := ho 8 (by decide)
     simp [slot] at o8
     clear hd ho
     obtain ⟨hst, hqq⟩ := HCP.out wy hb
     have k0 := hst.k.cell (j := 0) rfl
     have k1 := hst.k.cell (j := 1) rfl
     have k2 := hst.k.cell (j := 2) rfl
     have k3 := hst.k.cell (j := 3) rfl
     have k4 := hst.k.cell (j := 4) rfl
     have k5 := hst.k.cell (j := 5) rfl
     have k6 := hst.k.cell (j := 6) rfl
     have k7 := hst.k.cell (j := 7) rfl
     have k8 := hst.k.cell (j := 8) rfl
     have k9 := hst.k.cell (j := 9) rfl
     have k10 := hst.k.cell (j := 10) rfl
     have k11 := hst.k.cell (j := 11) rfl
     have k12 := hst.k.cell (j := 12) rfl
     have k13 := hst.k.cell (j := 13) rfl
     have c0 := hqq.cell (j := 0) rfl
     have c1 := hqq.cell (j := 1) rfl
     have c2 := hqq.cell (j := 2) rfl
     have c3 := hqq.cell (j := 3) rfl
     have c4 := hqq.cell (j := 4) rfl
     go_simp
     try go_bits
     exact hK _ _ rfl (Below.refl _ _)
    intro X wz hR hz
    obtain ⟨x0, x1, x2, x3, x4, -⟩ := hR
    simp only [IsV] at x0 x1 x2 x3 x4
    simp only [putsFrom, x0, x1, x2, x3, x4]
    clear x0 x1 x2 x3 x4
    obtain ⟨hst, hqq⟩ := HCP.out wz hz
    obtain ⟨W9, hrun, hbk, hgr⟩ := hst.bk.put1 (q := q) (hostE_in HGD.out) HNI.out.1
    unfold enC bdC hostE at hrun
    intro K10 hK10
    with_reducible refine wp_upd_val _ (.tmp 53) (.tmp 55) (.tmp 56) rfl ?_ ?_ ?_ hrun (hK10 _ _ ?_)
    ·simp [Act.eval, Act.put]
    ·simp [Act.eval, Act.put]
    ·simp [Act.eval, Act.put]
    show Exit.then _ _ _ _ _
    refine hK2 _ _ (hJ _ _ ?_)
    (repeat apply Exists.intro)
    exact ⟨⟨hst.put (.inl rfl) hgr hbk, hqq.grown (by simp) hgr (by simp; omega)⟩, rfl⟩
   case rest =>
   obtain ⟨hsn, hqn⟩ := hcut
   generalize wc = W9 at *
   have HS6n : Hid (OpSt w pa pc p (some ⟨bb, off, none⟩) bo ca cb x m1 m2 Y (x.binds.take i ++ [q]) (x.binds.take i) W9) := hsn
   have HQ6n : Hid (HoldsL W9 Bq [.int .i64 q.proto, .string q.inn, .int .i64 q.inPort, .string q.out, .int .i64 q.outPort]) := hqn
   clear hsn hqn HS6 HQ6
   go_upto_region 10 with fail
   clear hun
   have HCP : Hid (∀ wy, Below W9.drew.heap.size W9.drew wy → OpSt w pa pc p (some ⟨bb, off, none⟩) bo ca cb x m1 m2 Y (x.binds.take i ++ [q]) (x.binds.take i) wy ∧ HoldsL wy Bq [.int .i64 q.proto, .string q.inn, .int .i64 q.inPort, .string q.out, .int .i64 q.outPort]) := fun wy hy => ⟨HS6n.out.kept ((Below.refl _ _).drew.trans hy), HQ6n.out.drew.kept (by simp) hy⟩
   have HHE : Hid (∀ W, Calls Try.prog 32 #[.agg #[.int .i64 q.proto, .string q.inn, .int .i64 q.inPort, .string q.out, .int .i64 q.outPort]] W fun e w' => e = .returned (.agg #[.int .i64 q.proto, .string q.out, .int .i64 q.outPort]) ∧ Below W.heap.size W w') := fun W => lentEnd_any q W
   refine wp_region_growV [57, 58, 59, 60, 61] (by kernel_rfl) (by kernel_rfl) ?_
   refine GChV.val (n := 0) (fun v => [IsV v]) (fun _ => rfl) rfl ?_
   apply Exists.intro
   refine And.intro ?_ ?_
   ·intro K' a wy ho hd hb hK
    rw [if_pos (wanted_none rfl)]
    have o6 := ho 6 (by decide)
    simp [slot] at o6
    clear hd ho
    go_simp
    try go_bits
    exact hK _ _ rfl (Below.refl _ _)
   refine GChV.val (n := 1) (fun v => [_, IsV v]) (fun _ => rfl) rfl ?_
   apply Exists.intro
   refine And.intro ?_ ?_
   ·intro K' a wy ho hd hb hK
    rw [if_pos (wanted_none rfl)]
    have q0 := hd ⟨0, .data⟩ (by simp) rfl
    simp [rAt, IsV, slot] at q0
    clear hd ho
    obtain ⟨hst, hqq⟩ := HCP.out wy hb
    have k0 := hst.k.cell (j := 0) rfl
    have k1 := hst.k.cell (j := 1) rfl
    have k2 := hst.k.cell (j := 2) rfl
    have k3 := hst.k.cell (j := 3) rfl
    have k4 := hst.k.cell (j := 4) rfl
    have k5 := hst.k.cell (j := 5) rfl
    have k6 := hst.k.cell (j := 6) rfl
    have k7 := hst.k.cell (j := 7) rfl
    have k8 := hst.k.cell (j := 8) rfl
    have k9 := hst.k.cell (j := 9) rfl
    have k10 := hst.k.cell (j := 10) rfl
    have k11 := hst.k.cell (j := 11) rfl
    have k12 := hst.k.cell (j := 12) rfl
    have k13 := hst.k.cell (j := 13) rfl
    have c0 := hqq.cell (j := 0) rfl
    have c1 := hqq.cell (j := 1) rfl
    have c2 := hqq.cell (j := 2) rfl
    have c3 := hqq.cell (j := 3) rfl
    have c4 := hqq.cell (j := 4) rfl
    go_simp
    try go_bits
    exact hK _ _ rfl (Below.refl _ _)
   refine GChV.val (n := 2) (fun v => [_, _, IsV v]) (fun _ => rfl) rfl ?_
   apply Exists.intro
   refine And.intro ?_ ?_
   ·intro K' a wy ho hd hb hK
    rw [if_pos (wanted_none rfl)]
    have o8 := ho 8 (by decide)
    simp [slot] at o8
    clear hd ho
    obtain ⟨hst, hqq⟩ := HCP.out wy hb
    have k0 := hst.k.cell (j := 0) rfl
    have k1 := hst.k.cell (j := 1) rfl
    have k2 := hst.k.cell (j := 2) rfl
    have k3 := hst.k.cell (j := 3) rfl
    have k4 := hst.k.cell (j := 4) rfl
    have k5 := hst.k.cell (j := 5) rfl
    have k6 := hst.k.cell (j := 6) rfl
    have k7 := hst.k.cell (j := 7) rfl
    have k8 := hst.k.cell (j := 8) rfl
    have k9 := hst.k.cell (j := 9) rfl
    have k10 := hst.k.cell (j := 10) rfl
    have k11 := hst.k.cell (j := 11) rfl
    have k12 := hst.k.cell (j := 12) rfl
    have k13 := hst.k.cell (j := 13) rfl
    have c0 := hqq.cell (j := 0) rfl
    have c1 := hqq.cell (j := 1) rfl
    have c2 := hqq.cell (j := 2) rfl
    have c3 := hqq.cell (j := 3) rfl
    have c4 := hqq.cell (j := 4) rfl
    go_simp
    try go_bits
    exact hK _ _ rfl (Below.refl _ _)
   refine GChV.val (n := 3) (fun v => [_, _, _, IsV v]) (fun _ => rfl) rfl ?_
   apply Exists.intro
   refine And.intro ?_ ?_
   ·intro K' a wy ho hd hb hK
    rw [if_pos (wanted_none rfl)]
    have q2 := hd ⟨2, .data⟩ (by simp) rfl
    simp [rAt, IsV, slot] at q2
    clear hd ho
    go_simp
    refine (HHE.out wy).mono ?_
    rintro e wz ⟨rfl, hz⟩
    exact hK _ _ rfl hz
   refine GChV.val (n := 4) (fun v => [_, _, _, _, IsV v]) (fun _ => rfl) rfl ?_
   apply Exists.intro
   refine And.intro ?_ ?_
   ·intro K' a wy ho hd hb hK
    rw [if_pos (wanted_none rfl)]
    have o8 := ho 8 (by decide)
    simp [slot] at o8
    clear hd ho
    obtain ⟨hst, hqq⟩ := HCP.out wy hb
    have k0 := hst.k.cell (j := 0) rfl
    have k1 := hst.k.cell (j := 1) rfl
    have k2 := hst.k.cell (j := 2) rfl
    have k3 := hst.k.cell (j := 3) rfl
    have k4 := hst.k.cell (j := 4) rfl
    have k5 := hst.k.cell (j := 5) rfl
    have k6 := hst.k.cell (j := 6) rfl
    have k7 := hst.k.cell (j := 7) rfl
    have k8 := hst.k.cell (j := 8) rfl
    have k9 := hst.k.cell (j := 9) rfl
    have k10 := hst.k.cell (j := 10) rfl
    have k11 := hst.k.cell (j := 11) rfl
    have k12 := hst.k.cell (j := 12) rfl
    have k13 := hst.k.cell (j := 13) rfl
    have c0 := hqq.cell (j := 0) rfl
    have c1 := hqq.cell (j := 1) rfl
    have c2 := hqq.cell (j := 2) rfl
    have c3 := hqq.cell (j := 3) rfl
    have c4 := hqq.cell (j := 4) rfl
    go_simp
    try go_bits
    exact hK _ _ rfl (Below.refl _ _)
   intro X wz hR hz
   obtain ⟨x0, x1, x2, x3, x4, -⟩ := hR
   simp only [IsV] at x0 x1 x2 x3 x4
   simp only [putsFrom, x0, x1, x2, x3, x4]
   clear x0 x1 x2 x3 x4
   obtain ⟨hst, hqq⟩ := HCP.out wz hz
   obtain ⟨W9, hrun, hbk, hgr⟩ := hst.bk.put2 (q := q) (lentE_in HGD.out) HNI.out.2
   unfold enC bdC lentE at hrun
   intro K10 hK10
   with_reducible refine wp_upd_val _ (.tmp 58) (.tmp 60) (.tmp 61) rfl ?_ ?_ ?_ hrun (hK10 _ _ ?_)
   ·simp [Act.eval, Act.put]
   ·simp [Act.eval, Act.put]
   ·simp [Act.eval, Act.put]
   have HSF : Hid (OpSt w pa pc p (some ⟨bb, off, none⟩) bo ca cb x m1 m2 Y (x.binds.take (i + 1)) (x.binds.take (i + 1)) W9) := by have h := hst.put (.inr rfl) hgr hbk; rw [← HTK.out] at h; exact h
   clear hst hqq hbk hgr hrun HCP HHE HNI
   simp only [wpSeq]
   go_wp2_with fail
   go_roundw
   case rel =>
    first | exact ⟨i + 1, by omega, by go_num, HNN.out, HSF.out⟩ | ((repeat apply Exists.intro); exact ⟨⟨i + 1, by omega, by go_num, HNN.out, HSF.out⟩, rfl⟩)
   case measure => simp [intOf] <;> omega
  · -- the sessions
   have hie : i = x.binds.length := by omega
   have HF1 : Hid (upN (fitB p x) x.binds x.binds.length = true) := by unfold Hid; have := HN.out; rw [hie] at this; exact this
   have HSE : Hid (OpSt w pa pc p ba bo ca cb x m1 m2 Y (x.binds) (x.binds) w4) := by unfold Hid; have := HS.out; rw [hie, List.take_length] at this; exact this
   have HV3 : Hid (ok = upN (sessB x) x.sess x.sess.length) := by unfold Hid; rw [HV.out, HF1.out]; rfl
   clear HV HS HN
   have HV : Hid _ := HV3
   clear HV3 HF1
   have hge : ¬ (i : Int) < (x.binds.length : Int) := by omega
   clear hie hlt
   have c1 := HSE.out.bx.cell (j := 1) rfl
   go_wp2_with fail
   clear c1
   go_loopw [66] (fun iv wr => ∃ i : Nat, i ≤ x.sess.length ∧ iv = .int .i64 i ∧ upN (sessB x) x.sess i = true ∧ OpSt w pa pc p ba bo ca cb x m1 m2 Y (x.binds) (x.binds) wr) (fun iv _ => x.sess.length - (intOf iv).toNat)
   case atStart => exact ⟨0, Nat.zero_le _, rfl, rfl, HSE.out⟩
   case round =>
    obtain ⟨k, hk, rfl, hn, hS⟩ := hrel
    have HN : Hid (upN (sessB x) x.sess k = true) := hn
    have HS : Hid (OpSt w pa pc p ba bo ca cb x m1 m2 Y (x.binds) (x.binds) wr) := hS
    clear hn hS HSE hge hi
    generalize wr = v4 at *
    by_cases hlt : k < x.sess.length
    · -- a session
     obtain ⟨bb, off, rfl, hb, hat⟩ := HSX.out.ss.at hlt
     have hA := (hat.below hb HS.out.b) k hlt
     have HST : Hid _ := upN_step (f := sessB x) hlt
     have HATF : Hid (sessB x (x.sess.take k) x.sess[k] = false → upN (sessB x) x.sess x.sess.length = false) := upN_at hlt
     have hgd := HGS.out x.sess[k] (List.getElem_mem hlt)
     have HFS : Hid (decide (findI (fun q => sameSk (sessK q) (sessK x.sess[k])) x.sess = (k : Int)) = !(x.sess.take k).any (fun t => sameS x.sess[k] t)) := by
      have h := findI_self (fun q => sameSk (sessK q) (sessK x.sess[k])) x.sess k hlt (by rw [sess_same]; unfold sameS; simp)
      rw [show (fun t => sameS x.sess[k] t) = (fun q => sameSk (sessK q) (sessK x.sess[k])) from funext fun q => (sess_same _ _).symm]
      exact h
     obtain ⟨s, hs⟩ : ∃ s, s = x.sess[k] := ⟨_, rfl⟩
     rw [← hs] at hA HST HATF HFS hgd
     have HGD : Hid (SsGood s) := hgd
     have hltI : (k : Int) < (x.sess.length : Int) := by omega
     have HOV : Hid (sessB x (x.sess.take k) s = (x.binds.any (ofIn s.proto s.inn s.inPort) && sessR s && !((x.sess.take k).any fun t => sameS s t))) := rfl
     have c0 : v4.cell? ⟨bb, off + k * 7, none⟩ = some (.int .i64 s.proto) := hA 0 _ rfl
     have c1 : v4.cell? ⟨bb, off + k * 7 + 1, none⟩ = some (.string s.inn) := hA 1 _ rfl
     have c2 : v4.cell? ⟨bb, off + k * 7 + 2, none⟩ = some (.int .i64 s.inPort) := hA 2 _ rfl
     have c3 : v4.cell? ⟨bb, off + k * 7 + 3, none⟩ = some (.string s.peer) := hA 3 _ rfl
     have c4 : v4.cell? ⟨bb, off + k * 7 + 4, none⟩ = some (.int .i64 s.peerPort) := hA 4 _ rfl
     have c5 : v4.cell? ⟨bb, off + k * 7 + 5, none⟩ = some (.int .i64 s.state) := hA 5 _ rfl
     have c6 : v4.cell? ⟨bb, off + k * 7 + 6, none⟩ = some (.int .i64 s.untl) := hA 6 _ rfl
     clear hA hat hs hgd
     go_upto_region 15 with fail
     have bn : Below v4.heap.size v4 (v4.alloc (.cells #[.int .i64 s.proto, .string s.inn, .int .i64 s.inPort, .string s.peer, .int .i64 s.peerPort, .int .i64 s.state, .int .i64 s.untl] 48)) := (Below.refl _ _).alloc (Nat.le_refl _) _
     have HQ : Hid (HoldsL (v4.alloc (.cells #[.int .i64 s.proto, .string s.inn, .int .i64 s.inPort, .string s.peer, .int .i64 s.peerPort, .int .i64 s.state, .int .i64 s.untl] 48)) v4.heap.size [.int .i64 s.proto, .string s.inn, .int .i64 s.inPort, .string s.peer, .int .i64 s.peerPort, .int .i64 s.state, .int .i64 s.untl]) := HoldsL.new v4 [.int .i64 s.proto, .string s.inn, .int .i64 s.inPort, .string s.peer, .int .i64 s.peerPort, .int .i64 s.state, .int .i64 s.untl] 48
     have HS5 : Hid _ := HS.out.kept bn
     generalize v4.alloc (.cells #[.int .i64 s.proto, .string s.inn, .int .i64 s.inPort, .string s.peer, .int .i64 s.peerPort, .int .i64 s.state, .int .i64 s.untl] 48) = V5 at *
     clear bn HS c0 c1 c2 c3 c4 c5 c6
     generalize v4.heap.size = Bq at *
     have c0 := HQ.out.cell (j := 0) rfl
     have c1 := HQ.out.cell (j := 1) rfl
     have c2 := HQ.out.cell (j := 2) rfl
     have c3 := HQ.out.cell (j := 3) rfl
     have c4 := HQ.out.cell (j := 4) rfl
     have c5 := HQ.out.cell (j := 5) rfl
     have c6 := HQ.out.cell (j := 6) rfl
     have HKE : Hid (∀ W, Calls Try.prog 58 #[.agg #[.int .i64 s.proto, .string s.inn, .int .i64 s.inPort, .string s.peer, .int .i64 s.peerPort, .int .i64 s.state, .int .i64 s.untl]] W fun e w' => e = .returned (.agg #[.int .i64 s.proto, .string s.inn, .int .i64 s.inPort, .string s.peer, .int .i64 s.peerPort]) ∧ Below W.heap.size W w') := fun W => sessKey_any s W
     go_wp2_with fail
     refine (HKE.out _).mono ?_
     rintro e v6 ⟨rfl, q6⟩
     have HS6 : Hid _ := HS5.out.kept q6
     have HQ6 : Hid _ := HQ.out.kept (by simp) q6
     clear q6 HS5 HQ HKE c0 c1 c2 c3 c4 c5 c6
     go_upto_region 16 with fail
     have bn : Below v6.heap.size v6 (v6.alloc (.cells #[.int .i64 s.proto, .string s.inn, .int .i64 s.inPort, .string s.peer, .int .i64 s.peerPort] 92)) := (Below.refl _ _).alloc (Nat.le_refl _) _
     have HE : Hid (HoldsL (v6.alloc (.cells #[.int .i64 s.proto, .string s.inn, .int .i64 s.inPort, .string s.peer, .int .i64 s.peerPort] 92)) v6.heap.size [.int .i64 s.proto, .string s.inn, .int .i64 s.inPort, .string s.peer, .int .i64 s.peerPort]) := HoldsL.new v6 [.int .i64 s.proto, .string s.inn, .int .i64 s.inPort, .string s.peer, .int .i64 s.peerPort] 92
     have HS7 : Hid _ := HS6.out.kept bn
     have HQ7 : Hid _ := HQ6.out.kept (by simp) bn
     generalize v6.alloc (.cells #[.int .i64 s.proto, .string s.inn, .int .i64 s.inPort, .string s.peer, .int .i64 s.peerPort] 92) = V7 at *
     clear bn HS6 HQ6
     generalize v6.heap.size = Be at *
     obtain ⟨c, hc⟩ : ∃ c, c = (x.binds.find? fun q => sameEn (hostE q) (sessE s)).getD bdZ := ⟨_, rfl⟩
     have LK : (Instr.lookup 58 (.map (some m1)) (.agg #[.int .i64 s.proto, .string s.inn, .int .i64 s.inPort]) true).run Try.prog V7 = .ok (.tuple #[.agg #[.int .i64 c.proto, .string c.inn, .int .i64 c.inPort, .string c.out, .int .i64 c.outPort], .bool (x.binds.any (ofIn s.proto s.inn s.inPort))]) V7 := by
      have h := HS7.out.bk.look1 (e := sessE s) (sessE_in HGD.out)
      rw [find_some_any, ← hc, show (fun q => sameEn (hostE q) (sessE s)) = ofIn s.proto s.inn s.inPort from funext fun c => host_in _ _ _ c] at h
      exact h
     clear hc
     have k0 := HS7.out.k.cell (j := 0) rfl
     have k1 := HS7.out.k.cell (j := 1) rfl
     have k2 := HS7.out.k.cell (j := 2) rfl
     have k3 := HS7.out.k.cell (j := 3) rfl
     have k4 := HS7.out.k.cell (j := 4) rfl
     have k5 := HS7.out.k.cell (j := 5) rfl
     have k6 := HS7.out.k.cell (j := 6) rfl
     have k7 := HS7.out.k.cell (j := 7) rfl
     have k8 := HS7.out.k.cell (j := 8) rfl
     have k9 := HS7.out.k.cell (j := 9) rfl
     have k10 := HS7.out.k.cell (j := 10) rfl
     have k11 := HS7.out.k.cell (j := 11) rfl
     have k12 := HS7.out.k.cell (j := 12) rfl
     have k13 := HS7.out.k.cell (j := 13) rfl
     have c0 := HE.out.cell (j := 0) rfl
     have c1 := HE.out.cell (j := 1) rfl
     have c2 := HE.out.cell (j := 2) rfl
     have c3 := HE.out.cell (j := 3) rfl
     have c4 := HE.out.cell (j := 4) rfl
     generalize x.binds.any (ofIn s.proto s.inn s.inPort) = t1 at *
     go_upto_region 17 with (at_lookup; refine wpList_look_val rfl _ _ _ _ rfl rfl rfl LK ?_)
     have bn : Below V7.heap.size V7 (V7.alloc (.cells #[.int .i64 c.proto, .string c.inn, .int .i64 c.inPort, .string c.out, .int .i64 c.outPort] 35)) := (Below.refl _ _).alloc (Nat.le_refl _) _
     have HS8 : Hid _ := HS7.out.kept bn
     have HQ8 : Hid _ := HQ7.out.kept (by simp) bn
     have HE8 : Hid _ := HE.out.kept (by simp) bn
     generalize V7.alloc (.cells #[.int .i64 c.proto, .string c.inn, .int .i64 c.inPort, .string c.out, .int .i64 c.outPort] 35) = V8 at *
     clear bn HS7 HQ7 HE LK k0 k1 k2 k3 k4 k5 k6 k7 k8 k9 k10 k11 k12 k13 c0 c1 c2 c3 c4
     have HSR : Hid (∀ W, Calls Try.prog 59 #[.agg #[.int .i64 s.proto, .string s.inn, .int .i64 s.inPort, .string s.peer, .int .i64 s.peerPort, .int .i64 s.state, .int .i64 s.untl]] W fun e w' => e = .returned (.bool (sessR s)) ∧ Below W.heap.size W w') := fun W => sessRight_any s W HGD.out.2.1
     have HAT : Hid (∀ W, Below w.heap.size w W → Calls Try.prog 60 #[.slice (some ⟨bb, off, none⟩) x.sess.length cb, .agg #[.int .i64 s.proto, .string s.inn, .int .i64 s.inPort, .string s.peer, .int .i64 s.peerPort]] W fun e w' => e = .returned (.int .i64 (findI (fun q => sameSk (sessK q) (sessK s)) x.sess)) ∧ Below W.heap.size W w') := fun W hW => sessAt_any (sessK s) x.sess _ cb W hbl2 (HSX.out.ss.below hW)
     obtain ⟨hf1, hf2⟩ := findI_in (fun q => sameSk (sessK q) (sessK s)) x.sess
     generalize findI (fun q => sameSk (sessK q) (sessK s)) x.sess = fi at *
     generalize sessR s = t2 at *
     generalize (x.sess.take k).any (fun t => sameS s t) = t3 at *
     cases t1 with
     | false =>
      have HXF := HATF.out (by rw [HOV.out]; rfl)
      have z0 := HS8.out.r.cell (j := 0) rfl
      have zf0 := HS8.out.r.free (j := 0) (by simp)
      have z1 := HS8.out.r.cell (j := 1) rfl
      have zf1 := HS8.out.r.free (j := 1) (by simp)
      have z2 := HS8.out.r.cell (j := 2) rfl
      have zf2 := HS8.out.r.free (j := 2) (by simp)
      have z3 := HS8.out.r.cell (j := 3) rfl
      have zf3 := HS8.out.r.free (j := 3) (by simp)
      have z4 := HS8.out.r.cell (j := 4) rfl
      have zf4 := HS8.out.r.free (j := 4) (by simp)
      have z5 := HS8.out.r.cell (j := 5) rfl
      have zf5 := HS8.out.r.free (j := 5) (by simp)
      have z6 := HS8.out.r.cell (j := 6) rfl
      have zf6 := HS8.out.r.free (j := 6) (by simp)
      have z7 := HS8.out.r.cell (j := 7) rfl
      have zf7 := HS8.out.r.free (j := 7) (by simp)
      have z8 := HS8.out.r.cell (j := 8) rfl
      have zf8 := HS8.out.r.free (j := 8) (by simp)
      have z9 := HS8.out.r.cell (j := 9) rfl
      have zf9 := HS8.out.r.free (j := 9) (by simp)
      have z10 := HS8.out.r.cell (j := 10) rfl
      have zf10 := HS8.out.r.free (j := 10) (by simp)
      have z11 := HS8.out.r.cell (j := 11) rfl
      have zf11 := HS8.out.r.free (j := 11) (by simp)
      have z12 := HS8.out.r.cell (j := 12) rfl
      have zf12 := HS8.out.r.free (j := 12) (by simp)
      have z13 := HS8.out.r.cell (j := 13) rfl
      have zf13 := HS8.out.r.free (j := 13) (by simp)
      have HX : Hid (bookOk p x = false) := by unfold Hid; rw [← HOK.out, HV.out]; exact HXF
      go_wp2_with fail
      refine bodyPost_ret (v := .tuple #[.agg #[.slice none 0 0, .int .i64 0, .int .i64 0, .int .i64 0, .int .i64 0, .int .i64 0, .int .i64 0, .int .i64 0, .int .i64 0, .int .i64 0, .slice none 0 0, .slice none 0 0, .map none, .map none], .bool false]) (by simp [results, Try.results21, go_sem, z0, z1, z2, z3, z4, z5, z6, z7, z8, z9, z10, z11, z12, z13]) rfl (show OpenRet w pa pc p ba (some ⟨bb, off, none⟩) ca cb x _ _ from And.intro ?_ (.inl ⟨HX.out, rfl⟩))
      exact ((((((((((((((HS8.out.b.setCell (p := ⟨w.heap.size + 1 + 1, 0, none⟩) hRw _).setCell (p := ⟨w.heap.size + 1 + 1, 1, none⟩) hRw _).setCell (p := ⟨w.heap.size + 1 + 1, 2, none⟩) hRw _).setCell (p := ⟨w.heap.size + 1 + 1, 3, none⟩) hRw _).setCell (p := ⟨w.heap.size + 1 + 1, 4, none⟩) hRw _).setCell (p := ⟨w.heap.size + 1 + 1, 5, none⟩) hRw _).setCell (p := ⟨w.heap.size + 1 + 1, 6, none⟩) hRw _).setCell (p := ⟨w.heap.size + 1 + 1, 7, none⟩) hRw _).setCell (p := ⟨w.heap.size + 1 + 1, 8, none⟩) hRw _).setCell (p := ⟨w.heap.size + 1 + 1, 9, none⟩) hRw _).setCell (p := ⟨w.heap.size + 1 + 1, 10, none⟩) hRw _).setCell (p := ⟨w.heap.size + 1 + 1, 11, none⟩) hRw _).setCell (p := ⟨w.heap.size + 1 + 1, 12, none⟩) hRw _).setCell (p := ⟨w.heap.size + 1 + 1, 13, none⟩) hRw _)
     | true =>
     have c0 := HQ8.out.cell (j := 0) rfl
     have c1 := HQ8.out.cell (j := 1) rfl
     have c2 := HQ8.out.cell (j := 2) rfl
     have c3 := HQ8.out.cell (j := 3) rfl
     have c4 := HQ8.out.cell (j := 4) rfl
     have c5 := HQ8.out.cell (j := 5) rfl
     have c6 := HQ8.out.cell (j := 6) rfl
     go_wp2_with fail
     refine (HSR.out _).mono ?_
     rintro e v9 ⟨rfl, q9⟩
     have HS9 : Hid _ := HS8.out.kept q9
     have HE9 : Hid _ := HE8.out.kept (by simp) q9
     clear q9 HS8 HQ8 HE8 HSR c0 c1 c2 c3 c4 c5 c6
     cases t2 with
     | false =>
      have HXF := HATF.out (by rw [HOV.out]; rfl)
      have z0 := HS9.out.r.cell (j := 0) rfl
      have zf0 := HS9.out.r.free (j := 0) (by simp)
      have z1 := HS9.out.r.cell (j := 1) rfl
      have zf1 := HS9.out.r.free (j := 1) (by simp)
      have z2 := HS9.out.r.cell (j := 2) rfl
      have zf2 := HS9.out.r.free (j := 2) (by simp)
      have z3 := HS9.out.r.cell (j := 3) rfl
      have zf3 := HS9.out.r.free (j := 3) (by simp)
      have z4 := HS9.out.r.cell (j := 4) rfl
      have zf4 := HS9.out.r.free (j := 4) (by simp)
      have z5 := HS9.out.r.cell (j := 5) rfl
      have zf5 := HS9.out.r.free (j := 5) (by simp)
      have z6 := HS9.out.r.cell (j := 6) rfl
      have zf6 := HS9.out.r.free (j := 6) (by simp)
      have z7 := HS9.out.r.cell (j := 7) rfl
      have zf7 := HS9.out.r.free (j := 7) (by simp)
      have z8 := HS9.out.r.cell (j := 8) rfl
      have zf8 := HS9.out.r.free (j := 8) (by simp)
      have z9 := HS9.out.r.cell (j := 9) rfl
      have zf9 := HS9.out.r.free (j := 9) (by simp)
      have z10 := HS9.out.r.cell (j := 10) rfl
      have zf10 := HS9.out.r.free (j := 10) (by simp)
      have z11 := HS9.out.r.cell (j := 11) rfl
      have zf11 := HS9.out.r.free (j := 11) (by simp)
      have z12 := HS9.out.r.cell (j := 12) rfl
      have zf12 := HS9.out.r.free (j := 12) (by simp)
      have z13 := HS9.out.r.cell (j := 13) rfl
      have zf13 := HS9.out.r.free (j := 13) (by simp)
      have HX : Hid (bookOk p x = false) := by unfold Hid; rw [← HOK.out, HV.out]; exact HXF
      go_wp2_with fail
      refine bodyPost_ret (v := .tuple #[.agg #[.slice none 0 0, .int .i64 0, .int .i64 0, .int .i64 0, .int .i64 0, .int .i64 0, .int .i64 0, .int .i64 0, .int .i64 0, .int .i64 0, .slice none 0 0, .slice none 0 0, .map none, .map none], .bool false]) (by simp [results, Try.results21, go_sem, z0, z1, z2, z3, z4, z5, z6, z7, z8, z9, z10, z11, z12, z13]) rfl (show OpenRet w pa pc p ba (some ⟨bb, off, none⟩) ca cb x _ _ from And.intro ?_ (.inl ⟨HX.out, rfl⟩))
      exact ((((((((((((((HS9.out.b.setCell (p := ⟨w.heap.size + 1 + 1, 0, none⟩) hRw _).setCell (p := ⟨w.heap.size + 1 + 1, 1, none⟩) hRw _).setCell (p := ⟨w.heap.size + 1 + 1, 2, none⟩) hRw _).setCell (p := ⟨w.heap.size + 1 + 1, 3, none⟩) hRw _).setCell (p := ⟨w.heap.size + 1 + 1, 4, none⟩) hRw _).setCell (p := ⟨w.heap.size + 1 + 1, 5, none⟩) hRw _).setCell (p := ⟨w.heap.size + 1 + 1, 6, none⟩) hRw _).setCell (p := ⟨w.heap.size + 1 + 1, 7, none⟩) hRw _).setCell (p := ⟨w.heap.size + 1 + 1, 8, none⟩) hRw _).setCell (p := ⟨w.heap.size + 1 + 1, 9, none⟩) hRw _).setCell (p := ⟨w.heap.size + 1 + 1, 10, none⟩) hRw _).setCell (p := ⟨w.heap.size + 1 + 1, 11, none⟩) hRw _).setCell (p := ⟨w.heap.size + 1 + 1, 12, none⟩) hRw _).setCell (p := ⟨w.heap.size + 1 + 1, 13, none⟩) hRw _)
     | true =>
     have c0 := HE9.out.cell (j := 0) rfl
     have c1 := HE9.out.cell (j := 1) rfl
     have c2 := HE9.out.cell (j := 2) rfl
     have c3 := HE9.out.cell (j := 3) rfl
     have c4 := HE9.out.cell (j := 4) rfl
     have x1 := HS9.out.bx.cell (j := 1) rfl
     go_wp2_with fail
     refine (HAT.out _ HS9.out.b).mono ?_
     rintro e v10 ⟨rfl, q10⟩
     have HS10 : Hid _ := HS9.out.kept q10
     clear q10 HS9 HE9 HAT x1 c0 c1 c2 c3 c4
     by_cases he : fi = (k : Int)
     case neg =>
      have d1 : (fi != (k : Int)) = true := by simp [he]
      have HXF := HATF.out (by rw [HOV.out, ← HFS.out, decide_eq_false he]; rfl)
      clear he
      have z0 := HS10.out.r.cell (j := 0) rfl
      have zf0 := HS10.out.r.free (j := 0) (by simp)
      have z1 := HS10.out.r.cell (j := 1) rfl
      have zf1 := HS10.out.r.free (j := 1) (by simp)
      have z2 := HS10.out.r.cell (j := 2) rfl
      have zf2 := HS10.out.r.free (j := 2) (by simp)
      have z3 := HS10.out.r.cell (j := 3) rfl
      have zf3 := HS10.out.r.free (j := 3) (by simp)
      have z4 := HS10.out.r.cell (j := 4) rfl
      have zf4 := HS10.out.r.free (j := 4) (by simp)
      have z5 := HS10.out.r.cell (j := 5) rfl
      have zf5 := HS10.out.r.free (j := 5) (by simp)
      have z6 := HS10.out.r.cell (j := 6) rfl
      have zf6 := HS10.out.r.free (j := 6) (by simp)
      have z7 := HS10.out.r.cell (j := 7) rfl
      have zf7 := HS10.out.r.free (j := 7) (by simp)
      have z8 := HS10.out.r.cell (j := 8) rfl
      have zf8 := HS10.out.r.free (j := 8) (by simp)
      have z9 := HS10.out.r.cell (j := 9) rfl
      have zf9 := HS10.out.r.free (j := 9) (by simp)
      have z10 := HS10.out.r.cell (j := 10) rfl
      have zf10 := HS10.out.r.free (j := 10) (by simp)
      have z11 := HS10.out.r.cell (j := 11) rfl
      have zf11 := HS10.out.r.free (j := 11) (by simp)
      have z12 := HS10.out.r.cell (j := 12) rfl
      have zf12 := HS10.out.r.free (j := 12) (by simp)
      have z13 := HS10.out.r.cell (j := 13) rfl
      have zf13 := HS10.out.r.free (j := 13) (by simp)
      have HX : Hid (bookOk p x = false) := by unfold Hid; rw [← HOK.out, HV.out]; exact HXF
      go_wp2_with fail
      refine bodyPost_ret (v := .tuple #[.agg #[.slice none 0 0, .int .i64 0, .int .i64 0, .int .i64 0, .int .i64 0, .int .i64 0, .int .i64 0, .int .i64 0, .int .i64 0, .int .i64 0, .slice none 0 0, .slice none 0 0, .map none, .map none], .bool false]) (by simp [results, Try.results21, go_sem, z0, z1, z2, z3, z4, z5, z6, z7, z8, z9, z10, z11, z12, z13]) rfl (show OpenRet w pa pc p ba (some ⟨bb, off, none⟩) ca cb x _ _ from And.intro ?_ (.inl ⟨HX.out, rfl⟩))
      exact ((((((((((((((HS10.out.b.setCell (p := ⟨w.heap.size + 1 + 1, 0, none⟩) hRw _).setCell (p := ⟨w.heap.size + 1 + 1, 1, none⟩) hRw _).setCell (p := ⟨w.heap.size + 1 + 1, 2, none⟩) hRw _).setCell (p := ⟨w.heap.size + 1 + 1, 3, none⟩) hRw _).setCell (p := ⟨w.heap.size + 1 + 1, 4, none⟩) hRw _).setCell (p := ⟨w.heap.size + 1 + 1, 5, none⟩) hRw _).setCell (p := ⟨w.heap.size + 1 + 1, 6, none⟩) hRw _).setCell (p := ⟨w.heap.size + 1 + 1, 7, none⟩) hRw _).setCell (p := ⟨w.heap.size + 1 + 1, 8, none⟩) hRw _).setCell (p := ⟨w.heap.size + 1 + 1, 9, none⟩) hRw _).setCell (p := ⟨w.heap.size + 1 + 1, 10, none⟩) hRw _).setCell (p := ⟨w.heap.size + 1 + 1, 11, none⟩) hRw _).setCell (p := ⟨w.heap.size + 1 + 1, 12, none⟩) hRw _).setCell (p := ⟨w.heap.size + 1 + 1, 13, none⟩) hRw _)
     have d1 : (fi != (k : Int)) = false := by simp [he]
     have HNN : Hid (upN (sessB x) x.sess (k + 1) = true) := by unfold Hid; rw [HST.out, HN.out, HOV.out, ← HFS.out, decide_eq_true he]; rfl
     clear he
     go_wp2_with fail
     go_roundw
     case rel => exact ⟨k + 1, by omega, by go_num, HNN.out, HS10.out⟩
     case measure => simp [intOf]; omega
    · -- the end
     have hie : k = x.sess.length := by omega
     have HX : Hid (bookOk p x = true) := by unfold Hid; rw [← HOK.out, HV.out]; have := HN.out; rw [hie] at this; exact this
     have hge : ¬ (k : Int) < (x.sess.length : Int) := by omega
     clear hie hlt HN
     have z0 := HS.out.r.cell (j := 0) rfl
     have zf0 := HS.out.r.free (j := 0) (by simp)
     have z1 := HS.out.r.cell (j := 1) rfl
     have zf1 := HS.out.r.free (j := 1) (by simp)
     have z2 := HS.out.r.cell (j := 2) rfl
     have zf2 := HS.out.r.free (j := 2) (by simp)
     have z3 := HS.out.r.cell (j := 3) rfl
     have zf3 := HS.out.r.free (j := 3) (by simp)
     have z4 := HS.out.r.cell (j := 4) rfl
     have zf4 := HS.out.r.free (j := 4) (by simp)
     have z5 := HS.out.r.cell (j := 5) rfl
     have zf5 := HS.out.r.free (j := 5) (by simp)
     have z6 := HS.out.r.cell (j := 6) rfl
     have zf6 := HS.out.r.free (j := 6) (by simp)
     have z7 := HS.out.r.cell (j := 7) rfl
     have zf7 := HS.out.r.free (j := 7) (by simp)
     have z8 := HS.out.r.cell (j := 8) rfl
     have zf8 := HS.out.r.free (j := 8) (by simp)
     have z9 := HS.out.r.cell (j := 9) rfl
     have zf9 := HS.out.r.free (j := 9) (by simp)
     have z10 := HS.out.r.cell (j := 10) rfl
     have zf10 := HS.out.r.free (j := 10) (by simp)
     have z11 := HS.out.r.cell (j := 11) rfl
     have zf11 := HS.out.r.free (j := 11) (by simp)
     have z12 := HS.out.r.cell (j := 12) rfl
     have zf12 := HS.out.r.free (j := 12) (by simp)
     have z13 := HS.out.r.cell (j := 13) rfl
     have zf13 := HS.out.r.free (j := 13) (by simp)
     have k0 := HS.out.k.cell (j := 0) rfl
     have k1 := HS.out.k.cell (j := 1) rfl
     have k2 := HS.out.k.cell (j := 2) rfl
     have k3 := HS.out.k.cell (j := 3) rfl
     have k4 := HS.out.k.cell (j := 4) rfl
     have k5 := HS.out.k.cell (j := 5) rfl
     have k6 := HS.out.k.cell (j := 6) rfl
     have k7 := HS.out.k.cell (j := 7) rfl
     have k8 := HS.out.k.cell (j := 8) rfl
     have k9 := HS.out.k.cell (j := 9) rfl
     have k10 := HS.out.k.cell (j := 10) rfl
     have k11 := HS.out.k.cell (j := 11) rfl
     have k12 := HS.out.k.cell (j := 12) rfl
     have k13 := HS.out.k.cell (j := 13) rfl
     go_wp2_with fail
     have HBE : Hid (BookAt ((((((((((((((v4.setCell ⟨w.heap.size + 1 + 1, 0, none⟩ (.slice pa p.addrs.length pc)).setCell ⟨w.heap.size + 1 + 1, 1, none⟩ (.int .i64 p.low)).setCell ⟨w.heap.size + 1 + 1, 2, none⟩ (.int .i64 p.high)).setCell ⟨w.heap.size + 1 + 1, 3, none⟩ (.int .i64 p.most)).setCell ⟨w.heap.size + 1 + 1, 4, none⟩ (.int .i64 p.filter)).setCell ⟨w.heap.size + 1 + 1, 5, none⟩ (.int .i64 p.lv.udp)).setCell ⟨w.heap.size + 1 + 1, 6, none⟩ (.int .i64 p.lv.echo)).setCell ⟨w.heap.size + 1 + 1, 7, none⟩ (.int .i64 p.lv.opening)).setCell ⟨w.heap.size + 1 + 1, 8, none⟩ (.int .i64 p.lv.opn)).setCell ⟨w.heap.size + 1 + 1, 9, none⟩ (.int .i64 p.lv.closing)).setCell ⟨w.heap.size + 1 + 1, 10, none⟩ (.slice ba x.binds.length ca)).setCell ⟨w.heap.size + 1 + 1, 11, none⟩ (.slice bo x.sess.length cb)).setCell ⟨w.heap.size + 1 + 1, 12, none⟩ (.map (some m1))).setCell ⟨w.heap.size + 1 + 1, 13, none⟩ (.map (some m2))) m1 m2 x.binds x.binds) := by
      have a1 := HS.out.l1
      have a2 := HS.out.l2
      obtain ⟨M1, M2, hM⟩ := HS.out.bk
      have hg : v4.grownBy ((((((((((((((v4.setCell ⟨w.heap.size + 1 + 1, 0, none⟩ (.slice pa p.addrs.length pc)).setCell ⟨w.heap.size + 1 + 1, 1, none⟩ (.int .i64 p.low)).setCell ⟨w.heap.size + 1 + 1, 2, none⟩ (.int .i64 p.high)).setCell ⟨w.heap.size + 1 + 1, 3, none⟩ (.int .i64 p.most)).setCell ⟨w.heap.size + 1 + 1, 4, none⟩ (.int .i64 p.filter)).setCell ⟨w.heap.size + 1 + 1, 5, none⟩ (.int .i64 p.lv.udp)).setCell ⟨w.heap.size + 1 + 1, 6, none⟩ (.int .i64 p.lv.echo)).setCell ⟨w.heap.size + 1 + 1, 7, none⟩ (.int .i64 p.lv.opening)).setCell ⟨w.heap.size + 1 + 1, 8, none⟩ (.int .i64 p.lv.opn)).setCell ⟨w.heap.size + 1 + 1, 9, none⟩ (.int .i64 p.lv.closing)).setCell ⟨w.heap.size + 1 + 1, 10, none⟩ (.slice ba x.binds.length ca)).setCell ⟨w.heap.size + 1 + 1, 11, none⟩ (.slice bo x.sess.length cb)).setCell ⟨w.heap.size + 1 + 1, 12, none⟩ (.map (some m1))).setCell ⟨w.heap.size + 1 + 1, 13, none⟩ (.map (some m2))) (some (w.heap.size + 1 + 1)) := grown_set (grown_set (grown_set (grown_set (grown_set (grown_set (grown_set (grown_set (grown_set (grown_set (grown_set (grown_set (grown_set (grown_set (World.grownBy.refl _ _) _) _) _) _) _) _) _) _) _) _) _) _) _) _
      exact ⟨M1, M2, hM.h1.grown hg (by simp; omega), hM.h2.grown hg (by simp; omega), hM.v1, hM.v2, hM.ne⟩
     refine bodyPost_ret (v := .tuple #[.agg #[.slice pa p.addrs.length pc, .int .i64 p.low, .int .i64 p.high, .int .i64 p.most, .int .i64 p.filter, .int .i64 p.lv.udp, .int .i64 p.lv.echo, .int .i64 p.lv.opening, .int .i64 p.lv.opn, .int .i64 p.lv.closing, .slice ba x.binds.length ca, .slice bo x.sess.length cb, .map (some m1), .map (some m2)], .bool true]) (by simp [results, Try.results21, go_sem, z0, z1, z2, z3, z4, z5, z6, z7, z8, z9, z10, z11, z12, z13]) rfl (show OpenRet w pa pc p ba bo ca cb x _ _ from And.intro ?_ (.inr ⟨HX.out, m1, m2, rfl, hm1, hm2, HBE.out⟩))
     exact ((((((((((((((HS.out.b.setCell (p := ⟨w.heap.size + 1 + 1, 0, none⟩) hRw _).setCell (p := ⟨w.heap.size + 1 + 1, 1, none⟩) hRw _).setCell (p := ⟨w.heap.size + 1 + 1, 2, none⟩) hRw _).setCell (p := ⟨w.heap.size + 1 + 1, 3, none⟩) hRw _).setCell (p := ⟨w.heap.size + 1 + 1, 4, none⟩) hRw _).setCell (p := ⟨w.heap.size + 1 + 1, 5, none⟩) hRw _).setCell (p := ⟨w.heap.size + 1 + 1, 6, none⟩) hRw _).setCell (p := ⟨w.heap.size + 1 + 1, 7, none⟩) hRw _).setCell (p := ⟨w.heap.size + 1 + 1, 8, none⟩) hRw _).setCell (p := ⟨w.heap.size + 1 + 1, 9, none⟩) hRw _).setCell (p := ⟨w.heap.size + 1 + 1, 10, none⟩) hRw _).setCell (p := ⟨w.heap.size + 1 + 1, 11, none⟩) hRw _).setCell (p := ⟨w.heap.size + 1 + 1, 12, none⟩) hRw _).setCell (p := ⟨w.heap.size + 1 + 1, 13, none⟩) hRw _)
end Go.Proofs.Ytllagodlgipcpaa
