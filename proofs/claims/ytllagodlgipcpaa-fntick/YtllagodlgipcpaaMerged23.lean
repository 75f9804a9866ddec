/- IBibR, STickR, IPieceR, in one text. -/
import Derived.Test.YtllagodlgipcpaaIOpen
import Derived.Test.YtllagodlgipcpaaSTick9
import Derived.Test.YtllagodlgipcpaaMerged9
import Derived.Test.YtllagodlgipcpaaMerged22
import Derived.Test.YtllagodlgipcpaaMerged11
import Derived.Test.YtllagodlgipcpaaMerged1
import Derived.BigQuiet
import Derived.Deep.DeepCutAuto

/- IBibR: what the program's BibRight answers. Printed by mkibk7.py. -/
namespace Go.Proofs.Ytllagodlgipcpaa
open Go.RowKit Go.PlainAid
set_option linter.unusedVariables false
set_option linter.unusedSimpArgs false

set_option maxRecDepth 100000 in
set_option maxHeartbeats 2000000 in
theorem implBib_any (pa : Option Addr) (pc : Nat) (p : Pl) (ba bo : Option Addr) (ca cb : Nat) (x : Bb) (w : World) (hpl : p.addrs.length ≤ 1048576) (hpc : p.addrs.length ≤ pc) (hps : ∀ s ∈ p.addrs, s.size ≤ 1048576) (hbl1 : x.binds.length ≤ 1048576) (hbl2 : x.sess.length ≤ 1048576) (hgb : ∀ q ∈ x.binds, BdGood q) (hgs : ∀ s ∈ x.sess, SsGood s) (hp : SlIs strL1 1 w pa p.addrs) (hx : BbIs w ba bo x) :
  Calls Try.prog 36 #[plC pa pc p, bbC ba bo ca cb x] w fun e w' => e = .returned (.bool (bibOk p x)) ∧ Below w.heap.size w w' := by
 have HZ0 : Hid (Below w.heap.size w ((w.alloc (.cells #[.slice pa p.addrs.length pc, .int .i64 p.low, .int .i64 p.high, .int .i64 p.most, .int .i64 p.filter, .int .i64 p.lv.udp, .int .i64 p.lv.echo, .int .i64 p.lv.opening, .int .i64 p.lv.opn, .int .i64 p.lv.closing] 27)).alloc (.cells #[.slice ba x.binds.length ca, .slice bo x.sess.length cb] 31))) := ((Below.refl _ _).alloc (Nat.le_refl _) _).alloc (by simp) _
 have HP : HoldsL ((w.alloc (.cells #[.slice pa p.addrs.length pc, .int .i64 p.low, .int .i64 p.high, .int .i64 p.most, .int .i64 p.filter, .int .i64 p.lv.udp, .int .i64 p.lv.echo, .int .i64 p.lv.opening, .int .i64 p.lv.opn, .int .i64 p.lv.closing] 27)).alloc (.cells #[.slice ba x.binds.length ca, .slice bo x.sess.length cb] 31)) w.heap.size [.slice pa p.addrs.length pc, .int .i64 p.low, .int .i64 p.high, .int .i64 p.most, .int .i64 p.filter, .int .i64 p.lv.udp, .int .i64 p.lv.echo, .int .i64 p.lv.opening, .int .i64 p.lv.opn, .int .i64 p.lv.closing] := (HoldsL.new w [.slice pa p.addrs.length pc, .int .i64 p.low, .int .i64 p.high, .int .i64 p.most, .int .i64 p.filter, .int .i64 p.lv.udp, .int .i64 p.lv.echo, .int .i64 p.lv.opening, .int .i64 p.lv.opn, .int .i64 p.lv.closing] 27).alloc _
 have HB : HoldsL ((w.alloc (.cells #[.slice pa p.addrs.length pc, .int .i64 p.low, .int .i64 p.high, .int .i64 p.most, .int .i64 p.filter, .int .i64 p.lv.udp, .int .i64 p.lv.echo, .int .i64 p.lv.opening, .int .i64 p.lv.opn, .int .i64 p.lv.closing] 27)).alloc (.cells #[.slice ba x.binds.length ca, .slice bo x.sess.length cb] 31)) (w.heap.size + 1) [.slice ba x.binds.length ca, .slice bo x.sess.length cb] := by
  have h := HoldsL.new (w.alloc (.cells #[.slice pa p.addrs.length pc, .int .i64 p.low, .int .i64 p.high, .int .i64 p.most, .int .i64 p.filter, .int .i64 p.lv.udp, .int .i64 p.lv.echo, .int .i64 p.lv.opening, .int .i64 p.lv.opn, .int .i64 p.lv.closing] 27)) [.slice ba x.binds.length ca, .slice bo x.sess.length cb] 31
  rw [World.size_alloc] at h; exact h
 have HOP : Hid (∀ W, Below w.heap.size w W → Calls Try.prog 21 #[.agg #[.slice pa p.addrs.length pc, .int .i64 p.low, .int .i64 p.high, .int .i64 p.most, .int .i64 p.filter, .int .i64 p.lv.udp, .int .i64 p.lv.echo, .int .i64 p.lv.opening, .int .i64 p.lv.opn, .int .i64 p.lv.closing], .agg #[.slice ba x.binds.length ca, .slice bo x.sess.length cb]] W (OpenRet W pa pc p ba bo ca cb x)) := fun W hW => open_any pa pc p ba bo ca cb x W hpl hpc hps hbl1 hbl2 hgb hgs (hp.below hW) (hx.below hW)
 have HV : Hid (bookOk p x = bibOk p x) := book_bib p x
 clear hp hx hgb hgs hps
 unfold plC bbC
 go_enter Try.func36, Try.ntmps36
 go_upto_region 1 with fail
 generalize (w.alloc (.cells #[.slice pa p.addrs.length pc, .int .i64 p.low, .int .i64 p.high, .int .i64 p.most, .int .i64 p.filter, .int .i64 p.lv.udp, .int .i64 p.lv.echo, .int .i64 p.lv.opening, .int .i64 p.lv.opn, .int .i64 p.lv.closing] 27)).alloc (.cells #[.slice ba x.binds.length ca, .slice bo x.sess.length cb] 31) = W0 at *
 have k0 := HP.cell (j := 0) rfl
 have k1 := HP.cell (j := 1) rfl
 have k2 := HP.cell (j := 2) rfl
 have k3 := HP.cell (j := 3) rfl
 have k4 := HP.cell (j := 4) rfl
 have k5 := HP.cell (j := 5) rfl
 have k6 := HP.cell (j := 6) rfl
 have k7 := HP.cell (j := 7) rfl
 have k8 := HP.cell (j := 8) rfl
 have k9 := HP.cell (j := 9) rfl
 have c0 := HB.cell (j := 0) rfl
 have c1 := HB.cell (j := 1) rfl
 clear HP HB
 go_wp2_with fail
 refine (HOP.out _ HZ0.out).mono ?_
 rintro e w1 ⟨q1, h⟩
 have B1 : Hid (Below w.heap.size w w1) := HZ0.out.trans (q1.mono HZ0.out.size)
 clear q1 HZ0 HOP k0 k1 k2 k3 k4 k5 k6 k7 k8 k9 c0 c1
 rcases h with ⟨hx, rfl⟩ | ⟨hx, m1, m2, rfl, hm1, hm2, hbk⟩
 ·have HX : Hid (bibOk p x = false) := by unfold Hid; rw [← HV.out]; exact hx
  unfold bkZ
  clear hx
  go_wp2_with fail
  go_ret
  exact ⟨ret_bool HX.out.symm, B1.out.alloc B1.out.size _⟩
 ·have HX : Hid (bibOk p x = true) := by unfold Hid; rw [← HV.out]; exact hx
  unfold bkC
  clear hx hbk
  go_wp2_with fail
  go_ret
  exact ⟨ret_bool HX.out.symm, B1.out.alloc B1.out.size _⟩
end Go.Proofs.Ytllagodlgipcpaa

/- STickR: what the specification's BibTick answers. Printed by mkstickr.py. -/
namespace Go.Proofs.Ytllagodlgipcpaa
open Go.RowKit Go.PlainAid
set_option linter.unusedVariables false
set_option linter.unusedSimpArgs false

def bibTickV (p : Pl) (x : Bb) (now : Int) : Bb := if (bibOk p x && isTime now) = true then tickV x now else bbZ
theorem set_two {base : Nat} {w : World} {X : Nat} {a b : Option Addr} {x : Bb} (h : BbOwn base w a b x) (hX : X < base) {b0 : Nat} (hb : b0 ≤ base) (u v : Value) : BbOwn b0 ((w.setCell ⟨X, 0, none⟩ u).setCell ⟨X, 1, none⟩ v) a b x :=
 ⟨(h.bd.grown (grown_set (grown_set (World.grownBy.refl _ _) u) v) hX).down hb, (h.ss.grown (grown_set (grown_set (World.grownBy.refl _ _) u) v) hX).down hb, h.ne⟩

set_option maxRecDepth 100000 in
set_option maxHeartbeats 4000000 in
theorem specBibTick_any (p : Pl) (x : Bb) (pa : Option Addr) (pc : Nat) (a b : Option Addr) (ca cb : Nat) (now : Int) (w : World) (hlp : p.addrs.length ≤ 1048576) (hpc : p.addrs.length ≤ pc) (hsz : ∀ s ∈ p.addrs, s.size ≤ 1048576) (hl1 : x.binds.length ≤ 1048576) (hl2 : x.sess.length ≤ 1048576) (hp : SlIs strL1 1 w pa p.addrs) (hr : BbIs w a b x) :
  Calls Try.prog 14 #[plC pa pc p, bbC a b ca cb x, .int .i64 now] w fun e w' => BbRet w.heap.size (bibTickV p x now) e w' ∧ Below w.heap.size w w' := by
 have HB : Hid (Below w.heap.size w (((w.alloc (.cells #[.slice pa p.addrs.length pc, .int .i64 p.low, .int .i64 p.high, .int .i64 p.most, .int .i64 p.filter, .int .i64 p.lv.udp, .int .i64 p.lv.echo, .int .i64 p.lv.opening, .int .i64 p.lv.opn, .int .i64 p.lv.closing] 27)).alloc (.cells #[.slice a x.binds.length ca, .slice b x.sess.length cb] 31)).alloc (.cells #[.slice none 0 0, .slice none 0 0] 31))) := (((Below.refl _ _).alloc (Nat.le_refl _) _).alloc (by simp) _).alloc (by simp; omega) _
 have H0 := ((HoldsL.new w [.slice pa p.addrs.length pc, .int .i64 p.low, .int .i64 p.high, .int .i64 p.most, .int .i64 p.filter, .int .i64 p.lv.udp, .int .i64 p.lv.echo, .int .i64 p.lv.opening, .int .i64 p.lv.opn, .int .i64 p.lv.closing] 27).alloc (.cells #[.slice a x.binds.length ca, .slice b x.sess.length cb] 31)).alloc (.cells #[.slice none 0 0, .slice none 0 0] 31)
 have H1 := (HoldsL.new (w.alloc (.cells #[.slice pa p.addrs.length pc, .int .i64 p.low, .int .i64 p.high, .int .i64 p.most, .int .i64 p.filter, .int .i64 p.lv.udp, .int .i64 p.lv.echo, .int .i64 p.lv.opening, .int .i64 p.lv.opn, .int .i64 p.lv.closing] 27)) [.slice a x.binds.length ca, .slice b x.sess.length cb] 31).alloc (.cells #[.slice none 0 0, .slice none 0 0] 31)
 have H2 := HoldsL.new ((w.alloc (.cells #[.slice pa p.addrs.length pc, .int .i64 p.low, .int .i64 p.high, .int .i64 p.most, .int .i64 p.filter, .int .i64 p.lv.udp, .int .i64 p.lv.echo, .int .i64 p.lv.opening, .int .i64 p.lv.opn, .int .i64 p.lv.closing] 27)).alloc (.cells #[.slice a x.binds.length ca, .slice b x.sess.length cb] 31)) [.slice none 0 0, .slice none 0 0] 31
 rw [World.size_alloc] at H1 H2
 rw [World.size_alloc] at H2
 have hs3 : (((w.alloc (.cells #[.slice pa p.addrs.length pc, .int .i64 p.low, .int .i64 p.high, .int .i64 p.most, .int .i64 p.filter, .int .i64 p.lv.udp, .int .i64 p.lv.echo, .int .i64 p.lv.opening, .int .i64 p.lv.opn, .int .i64 p.lv.closing] 27)).alloc (.cells #[.slice a x.binds.length ca, .slice b x.sess.length cb] 31)).alloc (.cells #[.slice none 0 0, .slice none 0 0] 31)).heap.size = w.heap.size + 1 + 1 + 1 := by simp
 have HBR : Hid (∀ W, Below w.heap.size w W → Calls Try.prog 15 #[plC pa pc p, bbC a b ca cb x] W fun e w' => e = .returned (.bool (bibOk p x)) ∧ Below W.heap.size W w') := fun W hW => specBib_any p x pa pc a b ca cb W hlp hpc hsz hl1 hl2 (hp.below hW) (hr.below hW)
 have HT : Hid (∀ W, Calls Try.prog 40 #[.int .i64 now] W fun e w' => e = .returned (.bool (isTime now)) ∧ w' = W) := fun W => spTime_any now W
 have HTK : Hid (∀ W, Below w.heap.size w W → Calls Try.prog 41 #[bbC a b ca cb x, .int .i64 now] W fun e w' => BbRet W.heap.size (tickV x now) e w' ∧ Below W.heap.size W w') := fun W hW => spTick_any x a b ca cb now W hl1 hl2 (hr.below hW)
 obtain ⟨ans, hans⟩ : ∃ y, y = bibTickV p x now := ⟨_, rfl⟩
 rw [← hans]
 have HA : Hid (ans = if (bibOk p x && isTime now) = true then tickV x now else bbZ) := hans
 generalize tickV x now = tv at *
 generalize bibOk p x = b1 at *
 generalize isTime now = b2 at *
 have G0 : Hid _ := H0
 have G1 : Hid _ := H1
 have G2 : Hid _ := H2
 unfold plC bbC at HBR ⊢
 unfold bbC at HTK
 clear hp hr H0 H1 H2 hans
 go_enter Try.func14, Try.ntmps14
 go_upto_region 1 with fail
 generalize ((w.alloc (.cells #[.slice pa p.addrs.length pc, .int .i64 p.low, .int .i64 p.high, .int .i64 p.most, .int .i64 p.filter, .int .i64 p.lv.udp, .int .i64 p.lv.echo, .int .i64 p.lv.opening, .int .i64 p.lv.opn, .int .i64 p.lv.closing] 27)).alloc (.cells #[.slice a x.binds.length ca, .slice b x.sess.length cb] 31)).alloc (.cells #[.slice none 0 0, .slice none 0 0] 31) = W3 at *
 go_cut [15] (fun v wx => v = .bool (!(b1 && b2)) ∧ Below W3.heap.size W3 wx)
 case first =>
  have hun : undef = Value.tuple #[] := rfl
  have z0 : W3.cell? ⟨w.heap.size, 0, none⟩ = some (.slice pa p.addrs.length pc) := G0.out.cell rfl; have z1 : W3.cell? ⟨w.heap.size, 1, none⟩ = some (.int .i64 p.low) := G0.out.cell rfl; have z2 : W3.cell? ⟨w.heap.size, 2, none⟩ = some (.int .i64 p.high) := G0.out.cell rfl; have z3 : W3.cell? ⟨w.heap.size, 3, none⟩ = some (.int .i64 p.most) := G0.out.cell rfl; have z4 : W3.cell? ⟨w.heap.size, 4, none⟩ = some (.int .i64 p.filter) := G0.out.cell rfl; have z5 : W3.cell? ⟨w.heap.size, 5, none⟩ = some (.int .i64 p.lv.udp) := G0.out.cell rfl; have z6 : W3.cell? ⟨w.heap.size, 6, none⟩ = some (.int .i64 p.lv.echo) := G0.out.cell rfl; have z7 : W3.cell? ⟨w.heap.size, 7, none⟩ = some (.int .i64 p.lv.opening) := G0.out.cell rfl; have z8 : W3.cell? ⟨w.heap.size, 8, none⟩ = some (.int .i64 p.lv.opn) := G0.out.cell rfl; have z9 : W3.cell? ⟨w.heap.size, 9, none⟩ = some (.int .i64 p.lv.closing) := G0.out.cell rfl
  have k0 : W3.cell? ⟨w.heap.size + 1, 0, none⟩ = some (.slice a x.binds.length ca) := G1.out.cell rfl; have k1 : W3.cell? ⟨w.heap.size + 1, 1, none⟩ = some (.slice b x.sess.length cb) := G1.out.cell rfl
  go_wp2_with fail
  refine (HBR.out _ HB.out).mono ?_
  rintro e w1 ⟨rfl, q1⟩
  have Q1 : Hid _ := q1
  clear q1
  cases b1 with
  | false =>
   go_wp2_with fail
   go_meet
   exact ⟨rfl, Q1.out⟩
  | true =>
   go_wp2_with fail
   refine (HT.out _).mono ?_
   rintro e w2 ⟨rfl, rfl⟩
   cases b2
   all_goals
    go_wp2_with fail
    go_meet
    exact ⟨rfl, Q1.out⟩
 case rest =>
  obtain ⟨rfl, hQ⟩ := hcut
  have K1 : Hid _ := G1.out.kept (by simp) hQ
  have K2 : Hid _ := G2.out.kept (by simp) hQ
  have BK2 : Hid (Below w.heap.size w wc) := HB.out.trans (hQ.mono HB.out.size)
  have hs4 := hQ.size
  rw [hs3] at hs4
  clear hQ G0 G1 G2 HB HBR HT
  cases hok : (b1 && b2) with
  | false =>
   rw [hok, if_neg (by decide)] at HA
   clear hok
   have r0 := K2.out.cell (j := 0) rfl
   have r1 := K2.out.cell (j := 1) rfl
   have g0 := K2.out.free (j := 0) (by simp)
   have g1 := K2.out.free (j := 1) (by simp)
   have R1 : Hid _ := (K2.out.set 0 (.slice none 0 0)).set 1 (.slice none 0 0)
   have RB : Hid _ := (BK2.out.setCell (p := ⟨w.heap.size + 1 + 1, 0, none⟩) (by show w.heap.size ≤ w.heap.size + 1 + 1; omega) (.slice none 0 0)).setCell (p := ⟨w.heap.size + 1 + 1, 1, none⟩) (by show w.heap.size ≤ w.heap.size + 1 + 1; omega) (.slice none 0 0)
   go_wp2_with fail
   exact bodyPost_ret (results_mid Try.results14 _ _ (w.heap.size + 1 + 1) [.slice none 0 0, .slice none 0 0] _ rfl R1.out Try.underlying31 rfl (show (Try.prog.info? 31).map (·.size) = some 2 by kernel_rfl)) rfl (by rw [HA.out]; exact ⟨⟨none, none, 0, 0, rfl, .inl rfl, .inl rfl, fun _ _ h => by cases h⟩, RB.out⟩)
  | true =>
   rw [hok, if_pos rfl] at HA
   clear hok
   have k0 : wc.cell? ⟨w.heap.size + 1, 0, none⟩ = some (.slice a x.binds.length ca) := K1.out.cell rfl; have k1 : wc.cell? ⟨w.heap.size + 1, 1, none⟩ = some (.slice b x.sess.length cb) := K1.out.cell rfl
   go_wp2_with fail
   refine (HTK.out _ BK2.out).mono ?_
   rintro e w5 ⟨⟨ab, bb, c1, c2, rfl, ho⟩, q5⟩
   have K5 : Hid _ := K2.out.kept (by simp) q5
   have B5 : Hid (Below w.heap.size w w5) := BK2.out.trans (q5.mono BK2.out.size)
   have HO : Hid (BbOwn w.heap.size ((w5.setCell ⟨w.heap.size + 1 + 1, 0, none⟩ (.slice ab tv.binds.length c1)).setCell ⟨w.heap.size + 1 + 1, 1, none⟩ (.slice bb tv.sess.length c2)) ab bb tv) := set_two ho (by omega) (by omega) _ _
   clear k0 k1 ho q5
   have r0 := K5.out.cell (j := 0) rfl
   have r1 := K5.out.cell (j := 1) rfl
   have g0 := K5.out.free (j := 0) (by simp)
   have g1 := K5.out.free (j := 1) (by simp)
   have R1 : Hid _ := (K5.out.set 0 (.slice ab tv.binds.length c1)).set 1 (.slice bb tv.sess.length c2)
   have RB : Hid _ := (B5.out.setCell (p := ⟨w.heap.size + 1 + 1, 0, none⟩) (by show w.heap.size ≤ w.heap.size + 1 + 1; omega) (.slice ab tv.binds.length c1)).setCell (p := ⟨w.heap.size + 1 + 1, 1, none⟩) (by show w.heap.size ≤ w.heap.size + 1 + 1; omega) (.slice bb tv.sess.length c2)
   unfold bbC
   go_wp2_with fail
   exact bodyPost_ret (results_mid Try.results14 _ _ (w.heap.size + 1 + 1) [.slice ab tv.binds.length c1, .slice bb tv.sess.length c2] _ rfl R1.out Try.underlying31 rfl (show (Try.prog.info? 31).map (·.size) = some 2 by kernel_rfl)) rfl (by rw [HA.out]; exact ⟨⟨ab, bb, c1, c2, rfl, HO.out⟩, RB.out⟩)

end Go.Proofs.Ytllagodlgipcpaa

/- IPieceR: what the program's addrsPair, isTime and PieceRight answer. -/
namespace Go.Proofs.Ytllagodlgipcpaa
open Go.RowKit Go.PlainAid
set_option linter.unusedVariables false
set_option linter.unusedSimpArgs false


theorem implTime_any (n : Int) (w : World) :
  Calls Try.prog 37 #[.int .i64 n] w fun e w' => e = .returned (.bool (isTime n)) ∧ w' = w := by
 by_cases h1 : 0 ≤ n
 ·by_cases h2 : n ≤ 1000000000
  ·have HV : Hid (isTime n = true) := by unfold Hid isTime isIn; simp [h1, h2]
   go_enter Try.func37, Try.ntmps37
   go_wp2_with fail
   go_ret
   exact ⟨ret_bool (by rw [HV.out]), rfl⟩
  ·have HV : Hid (isTime n = false) := by unfold Hid isTime isIn; simp [h2]
   go_enter Try.func37, Try.ntmps37
   go_wp2_with fail
   go_ret
   exact ⟨ret_bool (by rw [HV.out]), rfl⟩
 ·have HV : Hid (isTime n = false) := by unfold Hid isTime isIn; simp [h1]
  have h1' : n < 0 := by omega
  go_enter Try.func37, Try.ntmps37
  go_wp2_with fail
  go_ret
  exact ⟨ret_bool (by rw [HV.out]), rfl⟩

end Go.Proofs.Ytllagodlgipcpaa
