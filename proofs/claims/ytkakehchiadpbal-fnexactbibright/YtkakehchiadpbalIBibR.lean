/- IBibR: what the program's BibRight answers. Printed by mkibk7.py. -/
import Derived.Test.YtkakehchiadpbalIOpen
namespace Go.Proofs.Ytkakehchiadpbal
open Go.RowKit Go.PlainAid
set_option linter.unusedVariables false
set_option linter.unusedSimpArgs false

set_option maxRecDepth 100000 in
set_option maxHeartbeats 2000000 in
theorem implBib_any (pa : Option Addr) (pc : Nat) (p : Pl) (ba bo : Option Addr) (ca cb : Nat) (x : Bb) (w : World) (hpl : p.addrs.length ≤ 1048576) (hpc : p.addrs.length ≤ pc) (hps : ∀ s ∈ p.addrs, s.size ≤ 1048576) (hbl1 : x.binds.length ≤ 1048576) (hbl2 : x.sess.length ≤ 1048576) (hgb : ∀ q ∈ x.binds, BdGood q) (hgs : ∀ s ∈ x.sess, SsGood s) (hp : SlIs strL1 1 w pa p.addrs) (hx : BbIs w ba bo x) :
    Calls Try.prog 16 #[plC pa pc p, bbC ba bo ca cb x] w fun e w' => e = .returned (.bool (bibOk p x)) ∧ Below w.heap.size w w' := by
  have HZ0 : Hid (Below w.heap.size w ((w.alloc (.cells #[.slice pa p.addrs.length pc, .int .i64 p.low, .int .i64 p.high, .int .i64 p.most, .int .i64 p.filter, .int .i64 p.lv.udp, .int .i64 p.lv.echo, .int .i64 p.lv.opening, .int .i64 p.lv.opn, .int .i64 p.lv.closing] 31)).alloc (.cells #[.slice ba x.binds.length ca, .slice bo x.sess.length cb] 44))) := ((Below.refl _ _).alloc (Nat.le_refl _) _).alloc (by simp) _
  have HP : HoldsL ((w.alloc (.cells #[.slice pa p.addrs.length pc, .int .i64 p.low, .int .i64 p.high, .int .i64 p.most, .int .i64 p.filter, .int .i64 p.lv.udp, .int .i64 p.lv.echo, .int .i64 p.lv.opening, .int .i64 p.lv.opn, .int .i64 p.lv.closing] 31)).alloc (.cells #[.slice ba x.binds.length ca, .slice bo x.sess.length cb] 44)) w.heap.size [.slice pa p.addrs.length pc, .int .i64 p.low, .int .i64 p.high, .int .i64 p.most, .int .i64 p.filter, .int .i64 p.lv.udp, .int .i64 p.lv.echo, .int .i64 p.lv.opening, .int .i64 p.lv.opn, .int .i64 p.lv.closing] := (HoldsL.new w [.slice pa p.addrs.length pc, .int .i64 p.low, .int .i64 p.high, .int .i64 p.most, .int .i64 p.filter, .int .i64 p.lv.udp, .int .i64 p.lv.echo, .int .i64 p.lv.opening, .int .i64 p.lv.opn, .int .i64 p.lv.closing] 31).alloc _
  have HB : HoldsL ((w.alloc (.cells #[.slice pa p.addrs.length pc, .int .i64 p.low, .int .i64 p.high, .int .i64 p.most, .int .i64 p.filter, .int .i64 p.lv.udp, .int .i64 p.lv.echo, .int .i64 p.lv.opening, .int .i64 p.lv.opn, .int .i64 p.lv.closing] 31)).alloc (.cells #[.slice ba x.binds.length ca, .slice bo x.sess.length cb] 44)) (w.heap.size + 1) [.slice ba x.binds.length ca, .slice bo x.sess.length cb] := by
    have h := HoldsL.new (w.alloc (.cells #[.slice pa p.addrs.length pc, .int .i64 p.low, .int .i64 p.high, .int .i64 p.most, .int .i64 p.filter, .int .i64 p.lv.udp, .int .i64 p.lv.echo, .int .i64 p.lv.opening, .int .i64 p.lv.opn, .int .i64 p.lv.closing] 31)) [.slice ba x.binds.length ca, .slice bo x.sess.length cb] 44
    rw [World.size_alloc] at h; exact h
  have HOP : Hid (∀ W, Below w.heap.size w W → Calls Try.prog 47 #[.agg #[.slice pa p.addrs.length pc, .int .i64 p.low, .int .i64 p.high, .int .i64 p.most, .int .i64 p.filter, .int .i64 p.lv.udp, .int .i64 p.lv.echo, .int .i64 p.lv.opening, .int .i64 p.lv.opn, .int .i64 p.lv.closing], .agg #[.slice ba x.binds.length ca, .slice bo x.sess.length cb]] W (OpenRet W pa pc p ba bo ca cb x)) := fun W hW => open_any pa pc p ba bo ca cb x W hpl hpc hps hbl1 hbl2 hgb hgs (hp.below hW) (hx.below hW)
  have HV : Hid (bookOk p x = bibOk p x) := book_bib p x
  clear hp hx hgb hgs hps
  unfold plC bbC
  go_enter Try.func16, Try.ntmps16
  go_upto_region 1 with fail
  generalize (w.alloc (.cells #[.slice pa p.addrs.length pc, .int .i64 p.low, .int .i64 p.high, .int .i64 p.most, .int .i64 p.filter, .int .i64 p.lv.udp, .int .i64 p.lv.echo, .int .i64 p.lv.opening, .int .i64 p.lv.opn, .int .i64 p.lv.closing] 31)).alloc (.cells #[.slice ba x.binds.length ca, .slice bo x.sess.length cb] 44) = W0 at *
  have k0 : W0.cell? ⟨w.heap.size, 0, none⟩ = some (.slice pa p.addrs.length pc) := HP.cell rfl
  have k1 : W0.cell? ⟨w.heap.size, 1, none⟩ = some (.int .i64 p.low) := HP.cell rfl
  have k2 : W0.cell? ⟨w.heap.size, 2, none⟩ = some (.int .i64 p.high) := HP.cell rfl
  have k3 : W0.cell? ⟨w.heap.size, 3, none⟩ = some (.int .i64 p.most) := HP.cell rfl
  have k4 : W0.cell? ⟨w.heap.size, 4, none⟩ = some (.int .i64 p.filter) := HP.cell rfl
  have k5 : W0.cell? ⟨w.heap.size, 5, none⟩ = some (.int .i64 p.lv.udp) := HP.cell rfl
  have k6 : W0.cell? ⟨w.heap.size, 6, none⟩ = some (.int .i64 p.lv.echo) := HP.cell rfl
  have k7 : W0.cell? ⟨w.heap.size, 7, none⟩ = some (.int .i64 p.lv.opening) := HP.cell rfl
  have k8 : W0.cell? ⟨w.heap.size, 8, none⟩ = some (.int .i64 p.lv.opn) := HP.cell rfl
  have k9 : W0.cell? ⟨w.heap.size, 9, none⟩ = some (.int .i64 p.lv.closing) := HP.cell rfl
  have c0 : W0.cell? ⟨(w.heap.size + 1), 0, none⟩ = some (.slice ba x.binds.length ca) := HB.cell rfl
  have c1 : W0.cell? ⟨(w.heap.size + 1), 1, none⟩ = some (.slice bo x.sess.length cb) := HB.cell rfl
  clear HP HB
  go_wp2_with fail
  refine (HOP.out _ HZ0.out).mono ?_
  rintro e w1 ⟨q1, h⟩
  have B1 : Hid (Below w.heap.size w w1) := HZ0.out.trans (q1.mono HZ0.out.size)
  clear q1 HZ0 HOP k0 k1 k2 k3 k4 k5 k6 k7 k8 k9 c0 c1
  rcases h with ⟨hx, rfl⟩ | ⟨hx, m1, m2, rfl, hm1, hm2, hbk⟩
  · have HX : Hid (bibOk p x = false) := by unfold Hid; rw [← HV.out]; exact hx
    unfold bkZ
    clear hx
    go_wp2_with fail
    go_ret
    exact ⟨ret_bool HX.out.symm, B1.out.alloc B1.out.size _⟩
  · have HX : Hid (bibOk p x = true) := by unfold Hid; rw [← HV.out]; exact hx
    unfold bkC
    clear hx hbk
    go_wp2_with fail
    go_ret
    exact ⟨ret_bool HX.out.symm, B1.out.alloc B1.out.size _⟩
end Go.Proofs.Ytkakehchiadpbal
