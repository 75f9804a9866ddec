/- At every pool and bib the program's BibRight answers as the specification's: the law FnExactBibRight returns true, and writes nothing that was there. No condition. -/
import Derived.Test.YtkakehchiadpbalRows
import Derived.Test.YtkakehchiadpbalLawSt9
import Derived.Test.YtkakehchiadpbalSBibR
import Derived.Test.YtkakehchiadpbalIBibR
import Derived.WalkKit
import Derived.ProofKit
import Derived.OpenShut
import Derived.ShutString
import Derived.ChangeOld
import Derived.Below
import Derived.Lib.SmallJoins
namespace Go.Proofs.Ytkakehchiadpbal.fnExactBibRight
open Go.ChangeShapes Go.WideShapes Go.ChangeAt Go.RowKit Go.Joins
open Go.ChangeMaps (open_string shut_string)
set_option linter.unusedVariables false

theorem own : ownKnob Try.prog.godebug = none := by kernel_rfl
theorem laidOut : laidOutB Try.prog = true := by kernel_rfl

set_option maxRecDepth 100000 in
set_option maxHeartbeats 4000000 in
theorem walk (a0 : Option Addr) (cap0 : Nat) (p0 : Pl) (a1 b1 : Option Addr) (ca1 cb1 : Nat) (y1 : Bb) (w : World) (w0 : PlWf p0) (x0 : SlIs strL1 1 w a0 p0.addrs) (w1 : BbWf y1) (x1 : BbIs w a1 b1 y1) :
    Calls Try.prog 4 #[plC a0 cap0 p0, bbC a1 b1 ca1 cb1 y1] w fun e w' => e = .returned (.bool true) ∧ Below w.heap.size w w' := by
  have HX0 : Hid (SlIs strL1 1 w a0 p0.addrs) := x0
  have HW0 : Hid (PlWf p0) := w0
  obtain ⟨s0, hs0⟩ : ∃ s, s = szSl strN p0.addrs 1048576 := ⟨_, rfl⟩
  have HS0 : Hid (s0 = szSl strN p0.addrs 1048576) := hs0
  have HX1 : Hid (BbIs w a1 b1 y1) := x1
  have HW1 : Hid (BbWf y1) := w1
  obtain ⟨s1, hs1⟩ : ∃ s, s = szBb y1 s0 := ⟨_, rfl⟩
  have HS1 : Hid (s1 = szBb y1 s0) := hs1
  clear x0 w0 hs0 x1 w1 hs1
  have hr0 : -1 ≤ s0 ∧ s0 ≤ 1048576 := by rw [HS0.out]; exact szSl_range strN p0.addrs _ (by omega)
  obtain ⟨hra0, hrb0⟩ := hr0
  by_cases hz0 : s0 < 0
  case pos =>
    have HZ0 : Hid (Below w.heap.size w ((w.alloc (.cells #[.slice a0 p0.addrs.length cap0, .int .i64 p0.low, .int .i64 p0.high, .int .i64 p0.most, .int .i64 p0.filter, .int .i64 p0.lv.udp, .int .i64 p0.lv.echo, .int .i64 p0.lv.opening, .int .i64 p0.lv.opn, .int .i64 p0.lv.closing] 26)).alloc (.cells #[.slice a1 y1.binds.length ca1, .slice b1 y1.sess.length cb1] 38))) := (((Below.refl _ _).alloc (Nat.le_refl _) _).alloc (by simp) _)
    have HB0 : Hid (HoldsL ((w.alloc (.cells #[.slice a0 p0.addrs.length cap0, .int .i64 p0.low, .int .i64 p0.high, .int .i64 p0.most, .int .i64 p0.filter, .int .i64 p0.lv.udp, .int .i64 p0.lv.echo, .int .i64 p0.lv.opening, .int .i64 p0.lv.opn, .int .i64 p0.lv.closing] 26)).alloc (.cells #[.slice a1 y1.binds.length ca1, .slice b1 y1.sess.length cb1] 38)) (w.heap.size) [.slice a0 p0.addrs.length cap0, .int .i64 p0.low, .int .i64 p0.high, .int .i64 p0.most, .int .i64 p0.filter, .int .i64 p0.lv.udp, .int .i64 p0.lv.echo, .int .i64 p0.lv.opening, .int .i64 p0.lv.opn, .int .i64 p0.lv.closing]) := by have h := ((HoldsL.new w [.slice a0 p0.addrs.length cap0, .int .i64 p0.low, .int .i64 p0.high, .int .i64 p0.most, .int .i64 p0.filter, .int .i64 p0.lv.udp, .int .i64 p0.lv.echo, .int .i64 p0.lv.opening, .int .i64 p0.lv.opn, .int .i64 p0.lv.closing] 26).alloc (.cells #[.slice a1 y1.binds.length ca1, .slice b1 y1.sess.length cb1] 38)); exact h
    have HB1 : Hid (HoldsL ((w.alloc (.cells #[.slice a0 p0.addrs.length cap0, .int .i64 p0.low, .int .i64 p0.high, .int .i64 p0.most, .int .i64 p0.filter, .int .i64 p0.lv.udp, .int .i64 p0.lv.echo, .int .i64 p0.lv.opening, .int .i64 p0.lv.opn, .int .i64 p0.lv.closing] 26)).alloc (.cells #[.slice a1 y1.binds.length ca1, .slice b1 y1.sess.length cb1] 38)) (w.heap.size + 1) [.slice a1 y1.binds.length ca1, .slice b1 y1.sess.length cb1]) := by have h := (HoldsL.new (w.alloc (.cells #[.slice a0 p0.addrs.length cap0, .int .i64 p0.low, .int .i64 p0.high, .int .i64 p0.most, .int .i64 p0.filter, .int .i64 p0.lv.udp, .int .i64 p0.lv.echo, .int .i64 p0.lv.opening, .int .i64 p0.lv.opn, .int .i64 p0.lv.closing] 26)) [.slice a1 y1.binds.length ca1, .slice b1 y1.sess.length cb1] 38); rw [World.size_alloc] at h; exact h
    have hun : undef = Value.tuple #[] := rfl
    unfold plC bbC
    go_enter Try.func4, Try.ntmps4
    go_upto_region 1 with fail
    generalize (w.alloc (.cells #[.slice a0 p0.addrs.length cap0, .int .i64 p0.low, .int .i64 p0.high, .int .i64 p0.most, .int .i64 p0.filter, .int .i64 p0.lv.udp, .int .i64 p0.lv.echo, .int .i64 p0.lv.opening, .int .i64 p0.lv.opn, .int .i64 p0.lv.closing] 26)).alloc (.cells #[.slice a1 y1.binds.length ca1, .slice b1 y1.sess.length cb1] 38) = W0 at *
    have A_0 : Hid (Below w.heap.size w W0) := HZ0.out
    have P0_0 : Hid (HoldsL W0 w.heap.size [.slice a0 p0.addrs.length cap0, .int .i64 p0.low, .int .i64 p0.high, .int .i64 p0.most, .int .i64 p0.filter, .int .i64 p0.lv.udp, .int .i64 p0.lv.echo, .int .i64 p0.lv.opening, .int .i64 p0.lv.opn, .int .i64 p0.lv.closing]) := HB0.out
    have P1_0 : Hid (HoldsL W0 (w.heap.size + 1) [.slice a1 y1.binds.length ca1, .slice b1 y1.sess.length cb1]) := HB1.out
    clear HZ0 HB0 HB1
    have cP00 : W0.cell? ⟨w.heap.size, 0, none⟩ = some (.slice a0 p0.addrs.length cap0) := P0_0.out.cell rfl
    have cP01 : W0.cell? ⟨w.heap.size, 1, none⟩ = some (.int .i64 p0.low) := P0_0.out.cell rfl
    have cP02 : W0.cell? ⟨w.heap.size, 2, none⟩ = some (.int .i64 p0.high) := P0_0.out.cell rfl
    have cP03 : W0.cell? ⟨w.heap.size, 3, none⟩ = some (.int .i64 p0.most) := P0_0.out.cell rfl
    have cP04 : W0.cell? ⟨w.heap.size, 4, none⟩ = some (.int .i64 p0.filter) := P0_0.out.cell rfl
    have cP05 : W0.cell? ⟨w.heap.size, 5, none⟩ = some (.int .i64 p0.lv.udp) := P0_0.out.cell rfl
    have cP06 : W0.cell? ⟨w.heap.size, 6, none⟩ = some (.int .i64 p0.lv.echo) := P0_0.out.cell rfl
    have cP07 : W0.cell? ⟨w.heap.size, 7, none⟩ = some (.int .i64 p0.lv.opening) := P0_0.out.cell rfl
    have cP08 : W0.cell? ⟨w.heap.size, 8, none⟩ = some (.int .i64 p0.lv.opn) := P0_0.out.cell rfl
    have cP09 : W0.cell? ⟨w.heap.size, 9, none⟩ = some (.int .i64 p0.lv.closing) := P0_0.out.cell rfl
    go_wp2_with fail
    refine (szPool_at p0 a0 cap0 1048576 _ HW0.out (HX0.out.below A_0.out) (by omega) (by omega)).mono ?_
    rw [← HS0.out]
    rintro e v1 ⟨rfl, q⟩
    clear cP00 cP01 cP02 cP03 cP04 cP05 cP06 cP07 cP08 cP09
    have A_1 : Hid (Below w.heap.size w v1) := A_0.out.trans (q.mono A_0.out.size)
    have P0_1 : Hid (HoldsL v1 w.heap.size [.slice a0 p0.addrs.length cap0, .int .i64 p0.low, .int .i64 p0.high, .int .i64 p0.most, .int .i64 p0.filter, .int .i64 p0.lv.udp, .int .i64 p0.lv.echo, .int .i64 p0.lv.opening, .int .i64 p0.lv.opn, .int .i64 p0.lv.closing]) := P0_0.out.kept (by simp) q
    have P1_1 : Hid (HoldsL v1 (w.heap.size + 1) [.slice a1 y1.binds.length ca1, .slice b1 y1.sess.length cb1]) := P1_0.out.kept (by simp) q
    clear A_0 P0_0 P1_0
    clear q
    go_wp2_with fail
    go_ret
    exact ⟨rfl, A_1.out⟩
  have hnn0 : 0 ≤ s0 := by omega
  have hpi : Hid (p0.addrs.length ≤ 1048576 ∧ ∀ s ∈ p0.addrs, s.size ≤ 1048576) := strs_in (left := 1048576) (by omega) (by omega) (by rw [← HS0.out]; omega)
  have hpl := hpi.out.1
  have hr1 : -1 ≤ s1 ∧ s1 ≤ s0 := by rw [HS1.out]; exact szBb_range y1 _ (by omega)
  obtain ⟨hra1, hrb1⟩ := hr1
  by_cases hz1 : s1 < 0
  case pos =>
    have HZ0 : Hid (Below w.heap.size w ((w.alloc (.cells #[.slice a0 p0.addrs.length cap0, .int .i64 p0.low, .int .i64 p0.high, .int .i64 p0.most, .int .i64 p0.filter, .int .i64 p0.lv.udp, .int .i64 p0.lv.echo, .int .i64 p0.lv.opening, .int .i64 p0.lv.opn, .int .i64 p0.lv.closing] 26)).alloc (.cells #[.slice a1 y1.binds.length ca1, .slice b1 y1.sess.length cb1] 38))) := (((Below.refl _ _).alloc (Nat.le_refl _) _).alloc (by simp) _)
    have HB0 : Hid (HoldsL ((w.alloc (.cells #[.slice a0 p0.addrs.length cap0, .int .i64 p0.low, .int .i64 p0.high, .int .i64 p0.most, .int .i64 p0.filter, .int .i64 p0.lv.udp, .int .i64 p0.lv.echo, .int .i64 p0.lv.opening, .int .i64 p0.lv.opn, .int .i64 p0.lv.closing] 26)).alloc (.cells #[.slice a1 y1.binds.length ca1, .slice b1 y1.sess.length cb1] 38)) (w.heap.size) [.slice a0 p0.addrs.length cap0, .int .i64 p0.low, .int .i64 p0.high, .int .i64 p0.most, .int .i64 p0.filter, .int .i64 p0.lv.udp, .int .i64 p0.lv.echo, .int .i64 p0.lv.opening, .int .i64 p0.lv.opn, .int .i64 p0.lv.closing]) := by have h := ((HoldsL.new w [.slice a0 p0.addrs.length cap0, .int .i64 p0.low, .int .i64 p0.high, .int .i64 p0.most, .int .i64 p0.filter, .int .i64 p0.lv.udp, .int .i64 p0.lv.echo, .int .i64 p0.lv.opening, .int .i64 p0.lv.opn, .int .i64 p0.lv.closing] 26).alloc (.cells #[.slice a1 y1.binds.length ca1, .slice b1 y1.sess.length cb1] 38)); exact h
    have HB1 : Hid (HoldsL ((w.alloc (.cells #[.slice a0 p0.addrs.length cap0, .int .i64 p0.low, .int .i64 p0.high, .int .i64 p0.most, .int .i64 p0.filter, .int .i64 p0.lv.udp, .int .i64 p0.lv.echo, .int .i64 p0.lv.opening, .int .i64 p0.lv.opn, .int .i64 p0.lv.closing] 26)).alloc (.cells #[.slice a1 y1.binds.length ca1, .slice b1 y1.sess.length cb1] 38)) (w.heap.size + 1) [.slice a1 y1.binds.length ca1, .slice b1 y1.sess.length cb1]) := by have h := (HoldsL.new (w.alloc (.cells #[.slice a0 p0.addrs.length cap0, .int .i64 p0.low, .int .i64 p0.high, .int .i64 p0.most, .int .i64 p0.filter, .int .i64 p0.lv.udp, .int .i64 p0.lv.echo, .int .i64 p0.lv.opening, .int .i64 p0.lv.opn, .int .i64 p0.lv.closing] 26)) [.slice a1 y1.binds.length ca1, .slice b1 y1.sess.length cb1] 38); rw [World.size_alloc] at h; exact h
    have hun : undef = Value.tuple #[] := rfl
    unfold plC bbC
    go_enter Try.func4, Try.ntmps4
    go_upto_region 1 with fail
    generalize (w.alloc (.cells #[.slice a0 p0.addrs.length cap0, .int .i64 p0.low, .int .i64 p0.high, .int .i64 p0.most, .int .i64 p0.filter, .int .i64 p0.lv.udp, .int .i64 p0.lv.echo, .int .i64 p0.lv.opening, .int .i64 p0.lv.opn, .int .i64 p0.lv.closing] 26)).alloc (.cells #[.slice a1 y1.binds.length ca1, .slice b1 y1.sess.length cb1] 38) = W0 at *
    have A_0 : Hid (Below w.heap.size w W0) := HZ0.out
    have P0_0 : Hid (HoldsL W0 w.heap.size [.slice a0 p0.addrs.length cap0, .int .i64 p0.low, .int .i64 p0.high, .int .i64 p0.most, .int .i64 p0.filter, .int .i64 p0.lv.udp, .int .i64 p0.lv.echo, .int .i64 p0.lv.opening, .int .i64 p0.lv.opn, .int .i64 p0.lv.closing]) := HB0.out
    have P1_0 : Hid (HoldsL W0 (w.heap.size + 1) [.slice a1 y1.binds.length ca1, .slice b1 y1.sess.length cb1]) := HB1.out
    clear HZ0 HB0 HB1
    have cP00 : W0.cell? ⟨w.heap.size, 0, none⟩ = some (.slice a0 p0.addrs.length cap0) := P0_0.out.cell rfl
    have cP01 : W0.cell? ⟨w.heap.size, 1, none⟩ = some (.int .i64 p0.low) := P0_0.out.cell rfl
    have cP02 : W0.cell? ⟨w.heap.size, 2, none⟩ = some (.int .i64 p0.high) := P0_0.out.cell rfl
    have cP03 : W0.cell? ⟨w.heap.size, 3, none⟩ = some (.int .i64 p0.most) := P0_0.out.cell rfl
    have cP04 : W0.cell? ⟨w.heap.size, 4, none⟩ = some (.int .i64 p0.filter) := P0_0.out.cell rfl
    have cP05 : W0.cell? ⟨w.heap.size, 5, none⟩ = some (.int .i64 p0.lv.udp) := P0_0.out.cell rfl
    have cP06 : W0.cell? ⟨w.heap.size, 6, none⟩ = some (.int .i64 p0.lv.echo) := P0_0.out.cell rfl
    have cP07 : W0.cell? ⟨w.heap.size, 7, none⟩ = some (.int .i64 p0.lv.opening) := P0_0.out.cell rfl
    have cP08 : W0.cell? ⟨w.heap.size, 8, none⟩ = some (.int .i64 p0.lv.opn) := P0_0.out.cell rfl
    have cP09 : W0.cell? ⟨w.heap.size, 9, none⟩ = some (.int .i64 p0.lv.closing) := P0_0.out.cell rfl
    go_wp2_with fail
    refine (szPool_at p0 a0 cap0 1048576 _ HW0.out (HX0.out.below A_0.out) (by omega) (by omega)).mono ?_
    rw [← HS0.out]
    rintro e v1 ⟨rfl, q⟩
    clear cP00 cP01 cP02 cP03 cP04 cP05 cP06 cP07 cP08 cP09
    have A_1 : Hid (Below w.heap.size w v1) := A_0.out.trans (q.mono A_0.out.size)
    have P0_1 : Hid (HoldsL v1 w.heap.size [.slice a0 p0.addrs.length cap0, .int .i64 p0.low, .int .i64 p0.high, .int .i64 p0.most, .int .i64 p0.filter, .int .i64 p0.lv.udp, .int .i64 p0.lv.echo, .int .i64 p0.lv.opening, .int .i64 p0.lv.opn, .int .i64 p0.lv.closing]) := P0_0.out.kept (by simp) q
    have P1_1 : Hid (HoldsL v1 (w.heap.size + 1) [.slice a1 y1.binds.length ca1, .slice b1 y1.sess.length cb1]) := P1_0.out.kept (by simp) q
    clear A_0 P0_0 P1_0
    clear q
    have cP10 : v1.cell? ⟨(w.heap.size + 1), 0, none⟩ = some (.slice a1 y1.binds.length ca1) := P1_1.out.cell rfl
    have cP11 : v1.cell? ⟨(w.heap.size + 1), 1, none⟩ = some (.slice b1 y1.sess.length cb1) := P1_1.out.cell rfl
    go_wp2_with fail
    refine (szBib_at y1 a1 b1 ca1 cb1 s0 _ HW1.out (HX1.out.below A_1.out) (by omega) (by omega)).mono ?_
    rw [← HS1.out]
    rintro e v2 ⟨rfl, q⟩
    clear cP10 cP11
    have A_2 : Hid (Below w.heap.size w v2) := A_1.out.trans (q.mono A_1.out.size)
    have P0_2 : Hid (HoldsL v2 w.heap.size [.slice a0 p0.addrs.length cap0, .int .i64 p0.low, .int .i64 p0.high, .int .i64 p0.most, .int .i64 p0.filter, .int .i64 p0.lv.udp, .int .i64 p0.lv.echo, .int .i64 p0.lv.opening, .int .i64 p0.lv.opn, .int .i64 p0.lv.closing]) := P0_1.out.kept (by simp) q
    have P1_2 : Hid (HoldsL v2 (w.heap.size + 1) [.slice a1 y1.binds.length ca1, .slice b1 y1.sess.length cb1]) := P1_1.out.kept (by simp) q
    clear A_1 P0_1 P1_1
    clear q
    go_wp2_with fail
    go_ret
    exact ⟨rfl, A_2.out⟩
  have hnn1 : 0 ≤ s1 := by omega
  have hbi : Hid (BbSm y1) := bb_in (left := s0) (by omega) (by omega) (by rw [← HS1.out]; omega)
  have hbl1 := hbi.out.1
  have hbl2 := hbi.out.2.1
  have HZ0 : Hid (Below w.heap.size w ((w.alloc (.cells #[.slice a0 p0.addrs.length cap0, .int .i64 p0.low, .int .i64 p0.high, .int .i64 p0.most, .int .i64 p0.filter, .int .i64 p0.lv.udp, .int .i64 p0.lv.echo, .int .i64 p0.lv.opening, .int .i64 p0.lv.opn, .int .i64 p0.lv.closing] 26)).alloc (.cells #[.slice a1 y1.binds.length ca1, .slice b1 y1.sess.length cb1] 38))) := (((Below.refl _ _).alloc (Nat.le_refl _) _).alloc (by simp) _)
  have HB0 : Hid (HoldsL ((w.alloc (.cells #[.slice a0 p0.addrs.length cap0, .int .i64 p0.low, .int .i64 p0.high, .int .i64 p0.most, .int .i64 p0.filter, .int .i64 p0.lv.udp, .int .i64 p0.lv.echo, .int .i64 p0.lv.opening, .int .i64 p0.lv.opn, .int .i64 p0.lv.closing] 26)).alloc (.cells #[.slice a1 y1.binds.length ca1, .slice b1 y1.sess.length cb1] 38)) (w.heap.size) [.slice a0 p0.addrs.length cap0, .int .i64 p0.low, .int .i64 p0.high, .int .i64 p0.most, .int .i64 p0.filter, .int .i64 p0.lv.udp, .int .i64 p0.lv.echo, .int .i64 p0.lv.opening, .int .i64 p0.lv.opn, .int .i64 p0.lv.closing]) := by have h := ((HoldsL.new w [.slice a0 p0.addrs.length cap0, .int .i64 p0.low, .int .i64 p0.high, .int .i64 p0.most, .int .i64 p0.filter, .int .i64 p0.lv.udp, .int .i64 p0.lv.echo, .int .i64 p0.lv.opening, .int .i64 p0.lv.opn, .int .i64 p0.lv.closing] 26).alloc (.cells #[.slice a1 y1.binds.length ca1, .slice b1 y1.sess.length cb1] 38)); exact h
  have HB1 : Hid (HoldsL ((w.alloc (.cells #[.slice a0 p0.addrs.length cap0, .int .i64 p0.low, .int .i64 p0.high, .int .i64 p0.most, .int .i64 p0.filter, .int .i64 p0.lv.udp, .int .i64 p0.lv.echo, .int .i64 p0.lv.opening, .int .i64 p0.lv.opn, .int .i64 p0.lv.closing] 26)).alloc (.cells #[.slice a1 y1.binds.length ca1, .slice b1 y1.sess.length cb1] 38)) (w.heap.size + 1) [.slice a1 y1.binds.length ca1, .slice b1 y1.sess.length cb1]) := by have h := (HoldsL.new (w.alloc (.cells #[.slice a0 p0.addrs.length cap0, .int .i64 p0.low, .int .i64 p0.high, .int .i64 p0.most, .int .i64 p0.filter, .int .i64 p0.lv.udp, .int .i64 p0.lv.echo, .int .i64 p0.lv.opening, .int .i64 p0.lv.opn, .int .i64 p0.lv.closing] 26)) [.slice a1 y1.binds.length ca1, .slice b1 y1.sess.length cb1] 38); rw [World.size_alloc] at h; exact h
  have hun : undef = Value.tuple #[] := rfl
  unfold plC bbC
  go_enter Try.func4, Try.ntmps4
  go_upto_region 1 with fail
  generalize (w.alloc (.cells #[.slice a0 p0.addrs.length cap0, .int .i64 p0.low, .int .i64 p0.high, .int .i64 p0.most, .int .i64 p0.filter, .int .i64 p0.lv.udp, .int .i64 p0.lv.echo, .int .i64 p0.lv.opening, .int .i64 p0.lv.opn, .int .i64 p0.lv.closing] 26)).alloc (.cells #[.slice a1 y1.binds.length ca1, .slice b1 y1.sess.length cb1] 38) = W0 at *
  have A_0 : Hid (Below w.heap.size w W0) := HZ0.out
  have P0_0 : Hid (HoldsL W0 w.heap.size [.slice a0 p0.addrs.length cap0, .int .i64 p0.low, .int .i64 p0.high, .int .i64 p0.most, .int .i64 p0.filter, .int .i64 p0.lv.udp, .int .i64 p0.lv.echo, .int .i64 p0.lv.opening, .int .i64 p0.lv.opn, .int .i64 p0.lv.closing]) := HB0.out
  have P1_0 : Hid (HoldsL W0 (w.heap.size + 1) [.slice a1 y1.binds.length ca1, .slice b1 y1.sess.length cb1]) := HB1.out
  clear HZ0 HB0 HB1
  have cP00 : W0.cell? ⟨w.heap.size, 0, none⟩ = some (.slice a0 p0.addrs.length cap0) := P0_0.out.cell rfl
  have cP01 : W0.cell? ⟨w.heap.size, 1, none⟩ = some (.int .i64 p0.low) := P0_0.out.cell rfl
  have cP02 : W0.cell? ⟨w.heap.size, 2, none⟩ = some (.int .i64 p0.high) := P0_0.out.cell rfl
  have cP03 : W0.cell? ⟨w.heap.size, 3, none⟩ = some (.int .i64 p0.most) := P0_0.out.cell rfl
  have cP04 : W0.cell? ⟨w.heap.size, 4, none⟩ = some (.int .i64 p0.filter) := P0_0.out.cell rfl
  have cP05 : W0.cell? ⟨w.heap.size, 5, none⟩ = some (.int .i64 p0.lv.udp) := P0_0.out.cell rfl
  have cP06 : W0.cell? ⟨w.heap.size, 6, none⟩ = some (.int .i64 p0.lv.echo) := P0_0.out.cell rfl
  have cP07 : W0.cell? ⟨w.heap.size, 7, none⟩ = some (.int .i64 p0.lv.opening) := P0_0.out.cell rfl
  have cP08 : W0.cell? ⟨w.heap.size, 8, none⟩ = some (.int .i64 p0.lv.opn) := P0_0.out.cell rfl
  have cP09 : W0.cell? ⟨w.heap.size, 9, none⟩ = some (.int .i64 p0.lv.closing) := P0_0.out.cell rfl
  go_wp2_with fail
  refine (szPool_at p0 a0 cap0 1048576 _ HW0.out (HX0.out.below A_0.out) (by omega) (by omega)).mono ?_
  rw [← HS0.out]
  rintro e v1 ⟨rfl, q⟩
  clear cP00 cP01 cP02 cP03 cP04 cP05 cP06 cP07 cP08 cP09
  have A_1 : Hid (Below w.heap.size w v1) := A_0.out.trans (q.mono A_0.out.size)
  have P0_1 : Hid (HoldsL v1 w.heap.size [.slice a0 p0.addrs.length cap0, .int .i64 p0.low, .int .i64 p0.high, .int .i64 p0.most, .int .i64 p0.filter, .int .i64 p0.lv.udp, .int .i64 p0.lv.echo, .int .i64 p0.lv.opening, .int .i64 p0.lv.opn, .int .i64 p0.lv.closing]) := P0_0.out.kept (by simp) q
  have P1_1 : Hid (HoldsL v1 (w.heap.size + 1) [.slice a1 y1.binds.length ca1, .slice b1 y1.sess.length cb1]) := P1_0.out.kept (by simp) q
  clear A_0 P0_0 P1_0
  clear q
  have cP10 : v1.cell? ⟨(w.heap.size + 1), 0, none⟩ = some (.slice a1 y1.binds.length ca1) := P1_1.out.cell rfl
  have cP11 : v1.cell? ⟨(w.heap.size + 1), 1, none⟩ = some (.slice b1 y1.sess.length cb1) := P1_1.out.cell rfl
  go_wp2_with fail
  refine (szBib_at y1 a1 b1 ca1 cb1 s0 _ HW1.out (HX1.out.below A_1.out) (by omega) (by omega)).mono ?_
  rw [← HS1.out]
  rintro e v2 ⟨rfl, q⟩
  clear cP10 cP11
  have A_2 : Hid (Below w.heap.size w v2) := A_1.out.trans (q.mono A_1.out.size)
  have P0_2 : Hid (HoldsL v2 w.heap.size [.slice a0 p0.addrs.length cap0, .int .i64 p0.low, .int .i64 p0.high, .int .i64 p0.most, .int .i64 p0.filter, .int .i64 p0.lv.udp, .int .i64 p0.lv.echo, .int .i64 p0.lv.opening, .int .i64 p0.lv.opn, .int .i64 p0.lv.closing]) := P0_1.out.kept (by simp) q
  have P1_2 : Hid (HoldsL v2 (w.heap.size + 1) [.slice a1 y1.binds.length ca1, .slice b1 y1.sess.length cb1]) := P1_1.out.kept (by simp) q
  clear A_1 P0_1 P1_1
  clear q
  have HGB : Hid (∀ q ∈ y1.binds, BdGood q) := fun q hq => ⟨(hbi.out.2.2.1 q hq).1, (hbi.out.2.2.1 q hq).2, (HW1.out.1.2 q hq).1, (HW1.out.1.2 q hq).2.2.1, (HW1.out.1.2 q hq).2.2.2.2⟩
  have HGS : Hid (∀ s ∈ y1.sess, SsGood s) := fun s hs => ⟨(hbi.out.2.2.2 s hs).1, (hbi.out.2.2.2 s hs).2, (HW1.out.2.2 s hs).1, (HW1.out.2.2 s hs).2.2.1⟩
  obtain ⟨ok, hok⟩ : ∃ y, y = bibOk p0 y1 := ⟨_, rfl⟩
  have HSP : Hid (∀ W b ta tb tc td, SlIs strL1 1 W (some ⟨b, 0, none⟩) p0.addrs → BbIs W ta tb y1 → Calls Try.prog 14 #[plC (some ⟨b, 0, none⟩) p0.addrs.length p0, bbC ta tb tc td y1] W fun e w' => e = .returned (.bool ok) ∧ Below W.heap.size W w') := fun W b ta tb tc td h h2 => by rw [hok]; exact specBib_any p0 y1 _ _ ta tb tc td W hpl (Nat.le_refl _) hpi.out.2 hbl1 hbl2 h h2
  have HIP : Hid (∀ W b ta tb tc td, SlIs strL1 1 W (some ⟨b, 0, none⟩) p0.addrs → BbIs W ta tb y1 → Calls Try.prog 16 #[plC (some ⟨b, 0, none⟩) p0.addrs.length p0, bbC ta tb tc td y1] W fun e w' => e = .returned (.bool ok) ∧ Below W.heap.size W w') := fun W b ta tb tc td h h2 => by rw [hok]; exact implBib_any _ _ p0 ta tb tc td y1 W hpl (Nat.le_refl _) hpi.out.2 hbl1 hbl2 HGB.out HGS.out h h2
  clear hok
  go_upto_region 8 with fail
  go_cut [6] (fun v wx => v = .bool ok ∧ Below v2.heap.size v2 wx)
  case first =>
    rename_i J K2 hJ hK2
    clear hun
    have HCP : Hid (∀ wy, Below v2.drew.heap.size v2.drew wy → HoldsL wy w.heap.size [.slice a0 p0.addrs.length cap0, .int .i64 p0.low, .int .i64 p0.high, .int .i64 p0.most, .int .i64 p0.filter, .int .i64 p0.lv.udp, .int .i64 p0.lv.echo, .int .i64 p0.lv.opening, .int .i64 p0.lv.opn, .int .i64 p0.lv.closing] ∧ HoldsL wy (w.heap.size + 1) [.slice a1 y1.binds.length ca1, .slice b1 y1.sess.length cb1] ∧ Below w.heap.size w wy ∧ Below v2.heap.size v2 wy) := fun wy hy => ⟨P0_2.out.drew.kept (by simp) hy, P1_2.out.drew.kept (by simp) hy, A_2.out.drew.trans (hy.mono A_2.out.size), (Below.refl _ _).drew.trans hy⟩
    refine wp_region_growH [20, 21, 22, 23, 24, 6] (by kernel_rfl) (by kernel_rfl) ?_
    refine GCh.val (n := 0) (fun v => [IsV v]) (fun _ => rfl) rfl ?_
    apply Exists.intro
    refine And.intro ?_ ?_
    · intro K' a wy ho hd hb hK
      rw [if_pos (wanted_none rfl)]
      have o2 := ho 2 (by decide)
      simp [slot] at o2
      clear hd ho
      obtain ⟨hq1, hq2, -, -⟩ := HCP.out wy hb
      have u0 : wy.cell? ⟨w.heap.size, 0, none⟩ = some (.slice a0 p0.addrs.length cap0) := hq1.cell rfl
      have u1 : wy.cell? ⟨w.heap.size, 1, none⟩ = some (.int .i64 p0.low) := hq1.cell rfl
      have u2 : wy.cell? ⟨w.heap.size, 2, none⟩ = some (.int .i64 p0.high) := hq1.cell rfl
      have u3 : wy.cell? ⟨w.heap.size, 3, none⟩ = some (.int .i64 p0.most) := hq1.cell rfl
      have u4 : wy.cell? ⟨w.heap.size, 4, none⟩ = some (.int .i64 p0.filter) := hq1.cell rfl
      have u5 : wy.cell? ⟨w.heap.size, 5, none⟩ = some (.int .i64 p0.lv.udp) := hq1.cell rfl
      have u6 : wy.cell? ⟨w.heap.size, 6, none⟩ = some (.int .i64 p0.lv.echo) := hq1.cell rfl
      have u7 : wy.cell? ⟨w.heap.size, 7, none⟩ = some (.int .i64 p0.lv.opening) := hq1.cell rfl
      have u8 : wy.cell? ⟨w.heap.size, 8, none⟩ = some (.int .i64 p0.lv.opn) := hq1.cell rfl
      have u9 : wy.cell? ⟨w.heap.size, 9, none⟩ = some (.int .i64 p0.lv.closing) := hq1.cell rfl
      have t0 : wy.cell? ⟨(w.heap.size + 1), 0, none⟩ = some (.slice a1 y1.binds.length ca1) := hq2.cell rfl
      have t1 : wy.cell? ⟨(w.heap.size + 1), 1, none⟩ = some (.slice b1 y1.sess.length cb1) := hq2.cell rfl
      go_simp
      try go_bits
      exact hK _ _ rfl (Below.refl _ _)
    refine GCh.rel (n := 1) (IsPl v2.drew.heap.size p0) (stable_isPl _ _) [_, IsPl v2.drew.heap.size p0] rfl rfl ?_ ?_
    · intro K' a wy ho hd hb hK
      rw [if_pos (wanted_none rfl)]
      have q0 := hd ⟨0, .data⟩ (by simp) rfl
      simp [rAt, IsV, slot] at q0
      clear hd ho
      go_simp
      refine (toPool_any p0 a0 cap0 wy hpl (HX0.out.below (HCP.out wy hb).2.2.1)).mono ?_
      rintro e wz ⟨⟨gg, rfl, hg, hl⟩, hz⟩
      exact hK _ _ ⟨gg, rfl, Nat.le_trans hb.size hg, hl⟩ hz
    refine GCh.val (n := 2) (fun v => [_, _, IsV v]) (fun _ => rfl) rfl ?_
    apply Exists.intro
    refine And.intro ?_ ?_
    · intro K' a wy ho hd hb hK
      rw [if_pos (wanted_none rfl)]
      have o3 := ho 3 (by decide)
      simp [slot] at o3
      clear hd ho
      obtain ⟨hq1, hq2, -, -⟩ := HCP.out wy hb
      have u0 : wy.cell? ⟨w.heap.size, 0, none⟩ = some (.slice a0 p0.addrs.length cap0) := hq1.cell rfl
      have u1 : wy.cell? ⟨w.heap.size, 1, none⟩ = some (.int .i64 p0.low) := hq1.cell rfl
      have u2 : wy.cell? ⟨w.heap.size, 2, none⟩ = some (.int .i64 p0.high) := hq1.cell rfl
      have u3 : wy.cell? ⟨w.heap.size, 3, none⟩ = some (.int .i64 p0.most) := hq1.cell rfl
      have u4 : wy.cell? ⟨w.heap.size, 4, none⟩ = some (.int .i64 p0.filter) := hq1.cell rfl
      have u5 : wy.cell? ⟨w.heap.size, 5, none⟩ = some (.int .i64 p0.lv.udp) := hq1.cell rfl
      have u6 : wy.cell? ⟨w.heap.size, 6, none⟩ = some (.int .i64 p0.lv.echo) := hq1.cell rfl
      have u7 : wy.cell? ⟨w.heap.size, 7, none⟩ = some (.int .i64 p0.lv.opening) := hq1.cell rfl
      have u8 : wy.cell? ⟨w.heap.size, 8, none⟩ = some (.int .i64 p0.lv.opn) := hq1.cell rfl
      have u9 : wy.cell? ⟨w.heap.size, 9, none⟩ = some (.int .i64 p0.lv.closing) := hq1.cell rfl
      have t0 : wy.cell? ⟨(w.heap.size + 1), 0, none⟩ = some (.slice a1 y1.binds.length ca1) := hq2.cell rfl
      have t1 : wy.cell? ⟨(w.heap.size + 1), 1, none⟩ = some (.slice b1 y1.sess.length cb1) := hq2.cell rfl
      go_simp
      try go_bits
      exact hK _ _ rfl (Below.refl _ _)
    refine GCh.rel (n := 3) (IsBb v2.drew.heap.size y1) (stable_isBb _ _) [_, _, _, IsBb v2.drew.heap.size y1] rfl rfl ?_ ?_
    · intro K' a wy ho hd hb hK
      rw [if_pos (wanted_none rfl)]
      have q2 := hd ⟨2, .data⟩ (by simp) rfl
      simp [rAt, IsV, slot] at q2
      clear hd ho
      go_simp
      refine (toBib_any y1 a1 b1 ca1 cb1 wy hbl1 hbl2 (HX1.out.below (HCP.out wy hb).2.2.1)).mono ?_
      rintro e wz ⟨⟨xa, xb, xc, xd, rfl, hl⟩, hz⟩
      exact hK _ _ ⟨xa, xb, xc, xd, rfl, hl.low hb.size⟩ hz
    refine GCh.val (n := 4) (fun v => [_, _, _, _, IsV v]) (fun _ => rfl) rfl ?_
    apply Exists.intro
    refine And.intro ?_ ?_
    · intro K' a wy ho hd hb hK
      rw [if_pos (wanted_none rfl)]
      obtain ⟨g1, e1, b1, l1⟩ : IsPl v2.drew.heap.size p0 (slot a 21) wy := hd ⟨1, .data⟩ (by simp) rfl
      simp [slot] at e1
      obtain ⟨xa, xb, xc, xd, e3, l3⟩ : IsBb v2.drew.heap.size y1 (slot a 23) wy := hd ⟨3, .data⟩ (by simp) rfl
      simp [slot] at e3
      clear hd ho
      go_simp
      refine (HSP.out wy g1 xa xb xc xd l1.is l3.is).mono ?_
      rintro e wz ⟨rfl, hz⟩
      exact hK _ _ rfl hz
    refine GCh.val (n := 5) (fun v => [_, _, _, _, _, IsV v]) (fun _ => rfl) rfl ?_
    apply Exists.intro
    refine And.intro ?_ ?_
    · intro K' a wy ho hd hb hK
      rw [if_pos (wanted_none rfl)]
      have q4 := hd ⟨4, .data⟩ (by simp) rfl
      simp [rAt, IsV, slot] at q4
      clear hd ho
      go_simp
      try go_bits
      exact hK _ _ rfl (Below.refl _ _)
    intro X wz hR hz
    obtain ⟨x0, x1, x2, x3, x4, x5, -⟩ := hR
    obtain ⟨g1, e1, -, -⟩ := x1
    obtain ⟨xa, xb, xc, xd, e3, -⟩ := x3
    simp only [IsV] at x0 x2 x4 x5
    simp only [putsFrom, x0, e1, x2, e3, x4, x5]
    clear x0 x2 x4 x5
    go_simp
    refine hK2 _ _ (hJ _ _ ?_)
    (repeat apply Exists.intro)
    refine ⟨⟨rfl, (Below.refl _ _).drew.trans hz⟩, rfl⟩
  case rest =>
  obtain ⟨rfl, q⟩ := hcut
  generalize wc = v3 at *
  have A_3 : Hid (Below w.heap.size w v3) := A_2.out.trans (q.mono A_2.out.size)
  have P0_3 : Hid (HoldsL v3 w.heap.size [.slice a0 p0.addrs.length cap0, .int .i64 p0.low, .int .i64 p0.high, .int .i64 p0.most, .int .i64 p0.filter, .int .i64 p0.lv.udp, .int .i64 p0.lv.echo, .int .i64 p0.lv.opening, .int .i64 p0.lv.opn, .int .i64 p0.lv.closing]) := P0_2.out.kept (by simp) q
  have P1_3 : Hid (HoldsL v3 (w.heap.size + 1) [.slice a1 y1.binds.length ca1, .slice b1 y1.sess.length cb1]) := P1_2.out.kept (by simp) q
  clear A_2 P0_2 P1_2
  clear q
  have cP00 : v3.cell? ⟨w.heap.size, 0, none⟩ = some (.slice a0 p0.addrs.length cap0) := P0_3.out.cell rfl
  have cP01 : v3.cell? ⟨w.heap.size, 1, none⟩ = some (.int .i64 p0.low) := P0_3.out.cell rfl
  have cP02 : v3.cell? ⟨w.heap.size, 2, none⟩ = some (.int .i64 p0.high) := P0_3.out.cell rfl
  have cP03 : v3.cell? ⟨w.heap.size, 3, none⟩ = some (.int .i64 p0.most) := P0_3.out.cell rfl
  have cP04 : v3.cell? ⟨w.heap.size, 4, none⟩ = some (.int .i64 p0.filter) := P0_3.out.cell rfl
  have cP05 : v3.cell? ⟨w.heap.size, 5, none⟩ = some (.int .i64 p0.lv.udp) := P0_3.out.cell rfl
  have cP06 : v3.cell? ⟨w.heap.size, 6, none⟩ = some (.int .i64 p0.lv.echo) := P0_3.out.cell rfl
  have cP07 : v3.cell? ⟨w.heap.size, 7, none⟩ = some (.int .i64 p0.lv.opening) := P0_3.out.cell rfl
  have cP08 : v3.cell? ⟨w.heap.size, 8, none⟩ = some (.int .i64 p0.lv.opn) := P0_3.out.cell rfl
  have cP09 : v3.cell? ⟨w.heap.size, 9, none⟩ = some (.int .i64 p0.lv.closing) := P0_3.out.cell rfl
  go_wp2_with fail
  refine (toPool_any p0 a0 cap0 _ hpl (HX0.out.below A_3.out)).mono ?_
  rintro e v4 ⟨⟨g4, rfl, hg, hl⟩, q⟩
  clear cP00 cP01 cP02 cP03 cP04 cP05 cP06 cP07 cP08 cP09
  have A_4 : Hid (Below w.heap.size w v4) := A_3.out.trans (q.mono A_3.out.size)
  have P0_4 : Hid (HoldsL v4 w.heap.size [.slice a0 p0.addrs.length cap0, .int .i64 p0.low, .int .i64 p0.high, .int .i64 p0.most, .int .i64 p0.filter, .int .i64 p0.lv.udp, .int .i64 p0.lv.echo, .int .i64 p0.lv.opening, .int .i64 p0.lv.opn, .int .i64 p0.lv.closing]) := P0_3.out.kept (by simp) q
  have P1_4 : Hid (HoldsL v4 (w.heap.size + 1) [.slice a1 y1.binds.length ca1, .slice b1 y1.sess.length cb1]) := P1_3.out.kept (by simp) q
  clear A_3 P0_3 P1_3
  clear q
  have T0_4 : Hid (SlLaid strL1 1 v4 g4 p0.addrs p0.addrs.length p0.addrs.length) := hl
  have hgx := hg
  clear hg hl
  unfold plC
  go_upto_region 10 with fail
  have bn : Below v4.heap.size v4 (v4.alloc (.cells #[.slice (some ⟨g4, 0, none⟩) p0.addrs.length p0.addrs.length, .int .i64 p0.low, .int .i64 p0.high, .int .i64 p0.most, .int .i64 p0.filter, .int .i64 p0.lv.udp, .int .i64 p0.lv.echo, .int .i64 p0.lv.opening, .int .i64 p0.lv.opn, .int .i64 p0.lv.closing] 31)) := (Below.refl _ _).alloc (Nat.le_refl _) _
  have hn : HoldsL (v4.alloc (.cells #[.slice (some ⟨g4, 0, none⟩) p0.addrs.length p0.addrs.length, .int .i64 p0.low, .int .i64 p0.high, .int .i64 p0.most, .int .i64 p0.filter, .int .i64 p0.lv.udp, .int .i64 p0.lv.echo, .int .i64 p0.lv.opening, .int .i64 p0.lv.opn, .int .i64 p0.lv.closing] 31)) v4.heap.size [.slice (some ⟨g4, 0, none⟩) p0.addrs.length p0.addrs.length, .int .i64 p0.low, .int .i64 p0.high, .int .i64 p0.most, .int .i64 p0.filter, .int .i64 p0.lv.udp, .int .i64 p0.lv.echo, .int .i64 p0.lv.opening, .int .i64 p0.lv.opn, .int .i64 p0.lv.closing] := HoldsL.new v4 [.slice (some ⟨g4, 0, none⟩) p0.addrs.length p0.addrs.length, .int .i64 p0.low, .int .i64 p0.high, .int .i64 p0.most, .int .i64 p0.filter, .int .i64 p0.lv.udp, .int .i64 p0.lv.echo, .int .i64 p0.lv.opening, .int .i64 p0.lv.opn, .int .i64 p0.lv.closing] 31
  generalize v4.alloc (.cells #[.slice (some ⟨g4, 0, none⟩) p0.addrs.length p0.addrs.length, .int .i64 p0.low, .int .i64 p0.high, .int .i64 p0.most, .int .i64 p0.filter, .int .i64 p0.lv.udp, .int .i64 p0.lv.echo, .int .i64 p0.lv.opening, .int .i64 p0.lv.opn, .int .i64 p0.lv.closing] 31) = v5 at *
  have A_5 : Hid (Below w.heap.size w v5) := A_4.out.trans (bn.mono A_4.out.size)
  have P0_5 : Hid (HoldsL v5 w.heap.size [.slice a0 p0.addrs.length cap0, .int .i64 p0.low, .int .i64 p0.high, .int .i64 p0.most, .int .i64 p0.filter, .int .i64 p0.lv.udp, .int .i64 p0.lv.echo, .int .i64 p0.lv.opening, .int .i64 p0.lv.opn, .int .i64 p0.lv.closing]) := P0_4.out.kept (by simp) bn
  have P1_5 : Hid (HoldsL v5 (w.heap.size + 1) [.slice a1 y1.binds.length ca1, .slice b1 y1.sess.length cb1]) := P1_4.out.kept (by simp) bn
  have T0_5 : Hid (SlLaid strL1 1 v5 g4 p0.addrs p0.addrs.length p0.addrs.length) := T0_4.out.kept bn
  clear A_4 P0_4 P1_4 T0_4
  have X_5 : Hid (HoldsL v5 v4.heap.size [.slice (some ⟨g4, 0, none⟩) p0.addrs.length p0.addrs.length, .int .i64 p0.low, .int .i64 p0.high, .int .i64 p0.most, .int .i64 p0.filter, .int .i64 p0.lv.udp, .int .i64 p0.lv.echo, .int .i64 p0.lv.opening, .int .i64 p0.lv.opn, .int .i64 p0.lv.closing]) := hn
  have hXl : v4.heap.size < v5.heap.size := hn.lt (by simp)
  clear bn hn
  have cP10 : v5.cell? ⟨(w.heap.size + 1), 0, none⟩ = some (.slice a1 y1.binds.length ca1) := P1_5.out.cell rfl
  have cP11 : v5.cell? ⟨(w.heap.size + 1), 1, none⟩ = some (.slice b1 y1.sess.length cb1) := P1_5.out.cell rfl
  go_wp2_with fail
  refine (toBib_any y1 a1 b1 ca1 cb1 _ hbl1 hbl2 (HX1.out.below A_5.out)).mono ?_
  rintro e v6 ⟨⟨ta6, tb6, tc6, td6, rfl, ho⟩, q⟩
  clear cP10 cP11
  have A_6 : Hid (Below w.heap.size w v6) := A_5.out.trans (q.mono A_5.out.size)
  have P0_6 : Hid (HoldsL v6 w.heap.size [.slice a0 p0.addrs.length cap0, .int .i64 p0.low, .int .i64 p0.high, .int .i64 p0.most, .int .i64 p0.filter, .int .i64 p0.lv.udp, .int .i64 p0.lv.echo, .int .i64 p0.lv.opening, .int .i64 p0.lv.opn, .int .i64 p0.lv.closing]) := P0_5.out.kept (by simp) q
  have P1_6 : Hid (HoldsL v6 (w.heap.size + 1) [.slice a1 y1.binds.length ca1, .slice b1 y1.sess.length cb1]) := P1_5.out.kept (by simp) q
  have T0_6 : Hid (SlLaid strL1 1 v6 g4 p0.addrs p0.addrs.length p0.addrs.length) := T0_5.out.kept q
  have X_6 : Hid (HoldsL v6 v4.heap.size [.slice (some ⟨g4, 0, none⟩) p0.addrs.length p0.addrs.length, .int .i64 p0.low, .int .i64 p0.high, .int .i64 p0.most, .int .i64 p0.filter, .int .i64 p0.lv.udp, .int .i64 p0.lv.echo, .int .i64 p0.lv.opening, .int .i64 p0.lv.opn, .int .i64 p0.lv.closing]) := X_5.out.kept (by simp) q
  clear A_5 P0_5 P1_5 T0_5 X_5
  clear q
  have T1_6 : Hid (BbOwn v5.heap.size v6 ta6 tb6 y1) := ho
  clear ho
  unfold bbC
  go_upto_region 11 with fail
  have bn : Below v6.heap.size v6 (v6.alloc (.cells #[.slice ta6 y1.binds.length tc6, .slice tb6 y1.sess.length td6] 44)) := (Below.refl _ _).alloc (Nat.le_refl _) _
  have hn : HoldsL (v6.alloc (.cells #[.slice ta6 y1.binds.length tc6, .slice tb6 y1.sess.length td6] 44)) v6.heap.size [.slice ta6 y1.binds.length tc6, .slice tb6 y1.sess.length td6] := HoldsL.new v6 [.slice ta6 y1.binds.length tc6, .slice tb6 y1.sess.length td6] 44
  generalize v6.alloc (.cells #[.slice ta6 y1.binds.length tc6, .slice tb6 y1.sess.length td6] 44) = v7 at *
  have A_7 : Hid (Below w.heap.size w v7) := A_6.out.trans (bn.mono A_6.out.size)
  have P0_7 : Hid (HoldsL v7 w.heap.size [.slice a0 p0.addrs.length cap0, .int .i64 p0.low, .int .i64 p0.high, .int .i64 p0.most, .int .i64 p0.filter, .int .i64 p0.lv.udp, .int .i64 p0.lv.echo, .int .i64 p0.lv.opening, .int .i64 p0.lv.opn, .int .i64 p0.lv.closing]) := P0_6.out.kept (by simp) bn
  have P1_7 : Hid (HoldsL v7 (w.heap.size + 1) [.slice a1 y1.binds.length ca1, .slice b1 y1.sess.length cb1]) := P1_6.out.kept (by simp) bn
  have T0_7 : Hid (SlLaid strL1 1 v7 g4 p0.addrs p0.addrs.length p0.addrs.length) := T0_6.out.kept bn
  have X_7 : Hid (HoldsL v7 v4.heap.size [.slice (some ⟨g4, 0, none⟩) p0.addrs.length p0.addrs.length, .int .i64 p0.low, .int .i64 p0.high, .int .i64 p0.most, .int .i64 p0.filter, .int .i64 p0.lv.udp, .int .i64 p0.lv.echo, .int .i64 p0.lv.opening, .int .i64 p0.lv.opn, .int .i64 p0.lv.closing]) := X_6.out.kept (by simp) bn
  have T1_7 : Hid (BbOwn v5.heap.size v7 ta6 tb6 y1) := T1_6.out.kept bn
  clear A_6 P0_6 P1_6 T0_6 X_6 T1_6
  have Y_7 : Hid (HoldsL v7 v6.heap.size [.slice ta6 y1.binds.length tc6, .slice tb6 y1.sess.length td6]) := hn
  have hYl : v6.heap.size < v7.heap.size := hn.lt (by simp)
  clear bn hn
  have cX0 : v7.cell? ⟨v4.heap.size, 0, none⟩ = some (.slice (some ⟨g4, 0, none⟩) p0.addrs.length p0.addrs.length) := X_7.out.cell rfl
  have cX1 : v7.cell? ⟨v4.heap.size, 1, none⟩ = some (.int .i64 p0.low) := X_7.out.cell rfl
  have cX2 : v7.cell? ⟨v4.heap.size, 2, none⟩ = some (.int .i64 p0.high) := X_7.out.cell rfl
  have cX3 : v7.cell? ⟨v4.heap.size, 3, none⟩ = some (.int .i64 p0.most) := X_7.out.cell rfl
  have cX4 : v7.cell? ⟨v4.heap.size, 4, none⟩ = some (.int .i64 p0.filter) := X_7.out.cell rfl
  have cX5 : v7.cell? ⟨v4.heap.size, 5, none⟩ = some (.int .i64 p0.lv.udp) := X_7.out.cell rfl
  have cX6 : v7.cell? ⟨v4.heap.size, 6, none⟩ = some (.int .i64 p0.lv.echo) := X_7.out.cell rfl
  have cX7 : v7.cell? ⟨v4.heap.size, 7, none⟩ = some (.int .i64 p0.lv.opening) := X_7.out.cell rfl
  have cX8 : v7.cell? ⟨v4.heap.size, 8, none⟩ = some (.int .i64 p0.lv.opn) := X_7.out.cell rfl
  have cX9 : v7.cell? ⟨v4.heap.size, 9, none⟩ = some (.int .i64 p0.lv.closing) := X_7.out.cell rfl
  have cY0 : v7.cell? ⟨v6.heap.size, 0, none⟩ = some (.slice ta6 y1.binds.length tc6) := Y_7.out.cell rfl
  have cY1 : v7.cell? ⟨v6.heap.size, 1, none⟩ = some (.slice tb6 y1.sess.length td6) := Y_7.out.cell rfl
  go_wp2_with fail
  refine (HIP.out _ _ _ _ _ _ T0_7.out.is T1_7.out.is).mono ?_
  rintro e v8 ⟨rfl, q⟩
  clear cX0 cX1 cX2 cX3 cX4 cX5 cX6 cX7 cX8 cX9 cY0 cY1
  have A_8 : Hid (Below w.heap.size w v8) := A_7.out.trans (q.mono A_7.out.size)
  have P0_8 : Hid (HoldsL v8 w.heap.size [.slice a0 p0.addrs.length cap0, .int .i64 p0.low, .int .i64 p0.high, .int .i64 p0.most, .int .i64 p0.filter, .int .i64 p0.lv.udp, .int .i64 p0.lv.echo, .int .i64 p0.lv.opening, .int .i64 p0.lv.opn, .int .i64 p0.lv.closing]) := P0_7.out.kept (by simp) q
  have P1_8 : Hid (HoldsL v8 (w.heap.size + 1) [.slice a1 y1.binds.length ca1, .slice b1 y1.sess.length cb1]) := P1_7.out.kept (by simp) q
  have T0_8 : Hid (SlLaid strL1 1 v8 g4 p0.addrs p0.addrs.length p0.addrs.length) := T0_7.out.kept q
  have X_8 : Hid (HoldsL v8 v4.heap.size [.slice (some ⟨g4, 0, none⟩) p0.addrs.length p0.addrs.length, .int .i64 p0.low, .int .i64 p0.high, .int .i64 p0.most, .int .i64 p0.filter, .int .i64 p0.lv.udp, .int .i64 p0.lv.echo, .int .i64 p0.lv.opening, .int .i64 p0.lv.opn, .int .i64 p0.lv.closing]) := X_7.out.kept (by simp) q
  have T1_8 : Hid (BbOwn v5.heap.size v8 ta6 tb6 y1) := T1_7.out.kept q
  have Y_8 : Hid (HoldsL v8 v6.heap.size [.slice ta6 y1.binds.length tc6, .slice tb6 y1.sess.length td6]) := Y_7.out.kept (by simp) q
  clear A_7 P0_7 P1_7 T0_7 X_7 T1_7 Y_7
  clear q
  go_upto_region 14 with fail
  go_cut [39] (fun v wx => v = .bool false ∧ Below v8.heap.size v8 wx)
  case first =>
    rename_i J K2 hJ hK2
    clear hun
    have HCP : Hid (∀ wy, Below v8.drew.heap.size v8.drew wy → HoldsL wy v4.heap.size [.slice (some ⟨g4, 0, none⟩) p0.addrs.length p0.addrs.length, .int .i64 p0.low, .int .i64 p0.high, .int .i64 p0.most, .int .i64 p0.filter, .int .i64 p0.lv.udp, .int .i64 p0.lv.echo, .int .i64 p0.lv.opening, .int .i64 p0.lv.opn, .int .i64 p0.lv.closing] ∧ HoldsL wy w.heap.size [.slice a0 p0.addrs.length cap0, .int .i64 p0.low, .int .i64 p0.high, .int .i64 p0.most, .int .i64 p0.filter, .int .i64 p0.lv.udp, .int .i64 p0.lv.echo, .int .i64 p0.lv.opening, .int .i64 p0.lv.opn, .int .i64 p0.lv.closing] ∧ Below w.heap.size w wy ∧ Below v8.heap.size v8 wy) := fun wy hy => ⟨X_8.out.drew.kept (by simp) hy, P0_8.out.drew.kept (by simp) hy, A_8.out.drew.trans (hy.mono A_8.out.size), (Below.refl _ _).drew.trans hy⟩
    have HE : Hid (∀ wy b2, SlIs strL1 1 wy (some ⟨g4, 0, none⟩) p0.addrs → SlIs strL1 1 wy (some ⟨b2, 0, none⟩) p0.addrs → Calls Try.prog 12 #[.agg #[.slice (some ⟨g4, 0, none⟩) p0.addrs.length p0.addrs.length, .int .i64 p0.low, .int .i64 p0.high, .int .i64 p0.most, .int .i64 p0.filter, .int .i64 p0.lv.udp, .int .i64 p0.lv.echo, .int .i64 p0.lv.opening, .int .i64 p0.lv.opn, .int .i64 p0.lv.closing], plC (some ⟨b2, 0, none⟩) p0.addrs.length p0] wy fun e w' => e = .returned (.bool true) ∧ Below wy.heap.size wy w') := fun wy b2 h1 h2 => eqPool_same p0 _ _ _ _ wy hpl h1 h2
    refine wp_region_growH [35, 36, 37, 38, 39] (by kernel_rfl) (by kernel_rfl) ?_
    refine GCh.val (n := 0) (fun v => [IsV v]) (fun _ => rfl) rfl ?_
    apply Exists.intro
    refine And.intro ?_ ?_
    · intro K' a wy ho hd hb hK
      rw [if_pos (wanted_none rfl)]
      have o7 := ho 7 (by decide)
      simp [slot] at o7
      clear hd ho
      obtain ⟨hq1, hq2, -, -⟩ := HCP.out wy hb
      have u0 : wy.cell? ⟨v4.heap.size, 0, none⟩ = some (.slice (some ⟨g4, 0, none⟩) p0.addrs.length p0.addrs.length) := hq1.cell rfl
      have u1 : wy.cell? ⟨v4.heap.size, 1, none⟩ = some (.int .i64 p0.low) := hq1.cell rfl
      have u2 : wy.cell? ⟨v4.heap.size, 2, none⟩ = some (.int .i64 p0.high) := hq1.cell rfl
      have u3 : wy.cell? ⟨v4.heap.size, 3, none⟩ = some (.int .i64 p0.most) := hq1.cell rfl
      have u4 : wy.cell? ⟨v4.heap.size, 4, none⟩ = some (.int .i64 p0.filter) := hq1.cell rfl
      have u5 : wy.cell? ⟨v4.heap.size, 5, none⟩ = some (.int .i64 p0.lv.udp) := hq1.cell rfl
      have u6 : wy.cell? ⟨v4.heap.size, 6, none⟩ = some (.int .i64 p0.lv.echo) := hq1.cell rfl
      have u7 : wy.cell? ⟨v4.heap.size, 7, none⟩ = some (.int .i64 p0.lv.opening) := hq1.cell rfl
      have u8 : wy.cell? ⟨v4.heap.size, 8, none⟩ = some (.int .i64 p0.lv.opn) := hq1.cell rfl
      have u9 : wy.cell? ⟨v4.heap.size, 9, none⟩ = some (.int .i64 p0.lv.closing) := hq1.cell rfl
      have t0 : wy.cell? ⟨w.heap.size, 0, none⟩ = some (.slice a0 p0.addrs.length cap0) := hq2.cell rfl
      have t1 : wy.cell? ⟨w.heap.size, 1, none⟩ = some (.int .i64 p0.low) := hq2.cell rfl
      have t2 : wy.cell? ⟨w.heap.size, 2, none⟩ = some (.int .i64 p0.high) := hq2.cell rfl
      have t3 : wy.cell? ⟨w.heap.size, 3, none⟩ = some (.int .i64 p0.most) := hq2.cell rfl
      have t4 : wy.cell? ⟨w.heap.size, 4, none⟩ = some (.int .i64 p0.filter) := hq2.cell rfl
      have t5 : wy.cell? ⟨w.heap.size, 5, none⟩ = some (.int .i64 p0.lv.udp) := hq2.cell rfl
      have t6 : wy.cell? ⟨w.heap.size, 6, none⟩ = some (.int .i64 p0.lv.echo) := hq2.cell rfl
      have t7 : wy.cell? ⟨w.heap.size, 7, none⟩ = some (.int .i64 p0.lv.opening) := hq2.cell rfl
      have t8 : wy.cell? ⟨w.heap.size, 8, none⟩ = some (.int .i64 p0.lv.opn) := hq2.cell rfl
      have t9 : wy.cell? ⟨w.heap.size, 9, none⟩ = some (.int .i64 p0.lv.closing) := hq2.cell rfl
      go_simp
      try go_bits
      exact hK _ _ rfl (Below.refl _ _)
    refine GCh.val (n := 1) (fun v => [_, IsV v]) (fun _ => rfl) rfl ?_
    apply Exists.intro
    refine And.intro ?_ ?_
    · intro K' a wy ho hd hb hK
      rw [if_pos (wanted_none rfl)]
      have o2 := ho 2 (by decide)
      simp [slot] at o2
      clear hd ho
      obtain ⟨hq1, hq2, -, -⟩ := HCP.out wy hb
      have u0 : wy.cell? ⟨v4.heap.size, 0, none⟩ = some (.slice (some ⟨g4, 0, none⟩) p0.addrs.length p0.addrs.length) := hq1.cell rfl
      have u1 : wy.cell? ⟨v4.heap.size, 1, none⟩ = some (.int .i64 p0.low) := hq1.cell rfl
      have u2 : wy.cell? ⟨v4.heap.size, 2, none⟩ = some (.int .i64 p0.high) := hq1.cell rfl
      have u3 : wy.cell? ⟨v4.heap.size, 3, none⟩ = some (.int .i64 p0.most) := hq1.cell rfl
      have u4 : wy.cell? ⟨v4.heap.size, 4, none⟩ = some (.int .i64 p0.filter) := hq1.cell rfl
      have u5 : wy.cell? ⟨v4.heap.size, 5, none⟩ = some (.int .i64 p0.lv.udp) := hq1.cell rfl
      have u6 : wy.cell? ⟨v4.heap.size, 6, none⟩ = some (.int .i64 p0.lv.echo) := hq1.cell rfl
      have u7 : wy.cell? ⟨v4.heap.size, 7, none⟩ = some (.int .i64 p0.lv.opening) := hq1.cell rfl
      have u8 : wy.cell? ⟨v4.heap.size, 8, none⟩ = some (.int .i64 p0.lv.opn) := hq1.cell rfl
      have u9 : wy.cell? ⟨v4.heap.size, 9, none⟩ = some (.int .i64 p0.lv.closing) := hq1.cell rfl
      have t0 : wy.cell? ⟨w.heap.size, 0, none⟩ = some (.slice a0 p0.addrs.length cap0) := hq2.cell rfl
      have t1 : wy.cell? ⟨w.heap.size, 1, none⟩ = some (.int .i64 p0.low) := hq2.cell rfl
      have t2 : wy.cell? ⟨w.heap.size, 2, none⟩ = some (.int .i64 p0.high) := hq2.cell rfl
      have t3 : wy.cell? ⟨w.heap.size, 3, none⟩ = some (.int .i64 p0.most) := hq2.cell rfl
      have t4 : wy.cell? ⟨w.heap.size, 4, none⟩ = some (.int .i64 p0.filter) := hq2.cell rfl
      have t5 : wy.cell? ⟨w.heap.size, 5, none⟩ = some (.int .i64 p0.lv.udp) := hq2.cell rfl
      have t6 : wy.cell? ⟨w.heap.size, 6, none⟩ = some (.int .i64 p0.lv.echo) := hq2.cell rfl
      have t7 : wy.cell? ⟨w.heap.size, 7, none⟩ = some (.int .i64 p0.lv.opening) := hq2.cell rfl
      have t8 : wy.cell? ⟨w.heap.size, 8, none⟩ = some (.int .i64 p0.lv.opn) := hq2.cell rfl
      have t9 : wy.cell? ⟨w.heap.size, 9, none⟩ = some (.int .i64 p0.lv.closing) := hq2.cell rfl
      go_simp
      try go_bits
      exact hK _ _ rfl (Below.refl _ _)
    refine GCh.rel (n := 2) (IsPl v8.drew.heap.size p0) (stable_isPl _ _) [_, _, IsPl v8.drew.heap.size p0] rfl rfl ?_ ?_
    · intro K' a wy ho hd hb hK
      rw [if_pos (wanted_none rfl)]
      have q1 := hd ⟨1, .data⟩ (by simp) rfl
      simp [rAt, IsV, slot] at q1
      clear hd ho
      go_simp
      refine (toPool_any p0 a0 cap0 wy hpl (HX0.out.below (HCP.out wy hb).2.2.1)).mono ?_
      rintro e wz ⟨⟨gg, rfl, hg, hl⟩, hz⟩
      exact hK _ _ ⟨gg, rfl, Nat.le_trans hb.size hg, hl⟩ hz
    refine GCh.val (n := 3) (fun v => [_, _, _, IsV v]) (fun _ => rfl) rfl ?_
    apply Exists.intro
    refine And.intro ?_ ?_
    · intro K' a wy ho hd hb hK
      rw [if_pos (wanted_none rfl)]
      have q0 := hd ⟨0, .data⟩ (by simp) rfl
      simp [rAt, IsV, slot] at q0
      obtain ⟨g2, e2, b2, l2⟩ : IsPl v8.drew.heap.size p0 (slot a 37) wy := hd ⟨2, .data⟩ (by simp) rfl
      simp [slot] at e2
      clear hd ho
      go_simp
      refine (HE.out wy g2 (T0_8.out.kept (HCP.out wy hb).2.2.2).is l2.is).mono ?_
      rintro e wz ⟨rfl, hz⟩
      exact hK _ _ rfl hz
    refine GCh.val (n := 4) (fun v => [_, _, _, _, IsV v]) (fun _ => rfl) rfl ?_
    apply Exists.intro
    refine And.intro ?_ ?_
    · intro K' a wy ho hd hb hK
      rw [if_pos (wanted_none rfl)]
      have q3 := hd ⟨3, .data⟩ (by simp) rfl
      simp [rAt, IsV, slot] at q3
      clear hd ho
      go_simp
      try go_bits
      exact hK _ _ rfl (Below.refl _ _)
    intro X wz hR hz
    obtain ⟨x0, x1, x2, x3, x4, -⟩ := hR
    obtain ⟨g2, e2, -, -⟩ := x2
    simp only [IsV] at x0 x1 x3 x4
    simp only [putsFrom, x0, x1, e2, x3, x4]
    clear x0 x1 x3 x4
    go_simp
    refine hK2 _ _ (hJ _ _ ?_)
    (repeat apply Exists.intro)
    refine ⟨⟨rfl, (Below.refl _ _).drew.trans hz⟩, rfl⟩
  case rest =>
  obtain ⟨rfl, q⟩ := hcut
  generalize wc = v9 at *
  have A_9 : Hid (Below w.heap.size w v9) := A_8.out.trans (q.mono A_8.out.size)
  have P0_9 : Hid (HoldsL v9 w.heap.size [.slice a0 p0.addrs.length cap0, .int .i64 p0.low, .int .i64 p0.high, .int .i64 p0.most, .int .i64 p0.filter, .int .i64 p0.lv.udp, .int .i64 p0.lv.echo, .int .i64 p0.lv.opening, .int .i64 p0.lv.opn, .int .i64 p0.lv.closing]) := P0_8.out.kept (by simp) q
  have P1_9 : Hid (HoldsL v9 (w.heap.size + 1) [.slice a1 y1.binds.length ca1, .slice b1 y1.sess.length cb1]) := P1_8.out.kept (by simp) q
  have T0_9 : Hid (SlLaid strL1 1 v9 g4 p0.addrs p0.addrs.length p0.addrs.length) := T0_8.out.kept q
  have X_9 : Hid (HoldsL v9 v4.heap.size [.slice (some ⟨g4, 0, none⟩) p0.addrs.length p0.addrs.length, .int .i64 p0.low, .int .i64 p0.high, .int .i64 p0.most, .int .i64 p0.filter, .int .i64 p0.lv.udp, .int .i64 p0.lv.echo, .int .i64 p0.lv.opening, .int .i64 p0.lv.opn, .int .i64 p0.lv.closing]) := X_8.out.kept (by simp) q
  have T1_9 : Hid (BbOwn v5.heap.size v9 ta6 tb6 y1) := T1_8.out.kept q
  have Y_9 : Hid (HoldsL v9 v6.heap.size [.slice ta6 y1.binds.length tc6, .slice tb6 y1.sess.length td6]) := Y_8.out.kept (by simp) q
  clear A_8 P0_8 P1_8 T0_8 X_8 T1_8 Y_8
  clear q
  go_upto_region 16 with fail
  go_cut [44] (fun v wx => v = .bool false ∧ Below v9.heap.size v9 wx)
  case first =>
    rename_i J K2 hJ hK2
    clear hun
    have HCP : Hid (∀ wy, Below v9.drew.heap.size v9.drew wy → HoldsL wy v6.heap.size [.slice ta6 y1.binds.length tc6, .slice tb6 y1.sess.length td6] ∧ HoldsL wy (w.heap.size + 1) [.slice a1 y1.binds.length ca1, .slice b1 y1.sess.length cb1] ∧ Below w.heap.size w wy ∧ Below v9.heap.size v9 wy) := fun wy hy => ⟨Y_9.out.drew.kept (by simp) hy, P1_9.out.drew.kept (by simp) hy, A_9.out.drew.trans (hy.mono A_9.out.size), (Below.refl _ _).drew.trans hy⟩
    have HE : Hid (∀ wy xa xb xc xd, BbIs wy ta6 tb6 y1 → BbIs wy xa xb y1 → Calls Try.prog 17 #[.agg #[.slice ta6 y1.binds.length tc6, .slice tb6 y1.sess.length td6], bbC xa xb xc xd y1] wy fun e w' => e = .returned (.bool true) ∧ Below wy.heap.size wy w') := fun wy xa xb xc xd h1 h2 => eqBib_same y1 _ _ _ _ _ _ _ _ wy hbl1 hbl2 h1 h2
    refine wp_region_growH [40, 41, 42, 43, 44] (by kernel_rfl) (by kernel_rfl) ?_
    refine GCh.val (n := 0) (fun v => [IsV v]) (fun _ => rfl) rfl ?_
    apply Exists.intro
    refine And.intro ?_ ?_
    · intro K' a wy ho hd hb hK
      rw [if_pos (wanted_none rfl)]
      have o8 := ho 8 (by decide)
      simp [slot] at o8
      clear hd ho
      obtain ⟨hq1, hq2, -, -⟩ := HCP.out wy hb
      have u0 : wy.cell? ⟨v6.heap.size, 0, none⟩ = some (.slice ta6 y1.binds.length tc6) := hq1.cell rfl
      have u1 : wy.cell? ⟨v6.heap.size, 1, none⟩ = some (.slice tb6 y1.sess.length td6) := hq1.cell rfl
      have t0 : wy.cell? ⟨(w.heap.size + 1), 0, none⟩ = some (.slice a1 y1.binds.length ca1) := hq2.cell rfl
      have t1 : wy.cell? ⟨(w.heap.size + 1), 1, none⟩ = some (.slice b1 y1.sess.length cb1) := hq2.cell rfl
      go_simp
      try go_bits
      exact hK _ _ rfl (Below.refl _ _)
    refine GCh.val (n := 1) (fun v => [_, IsV v]) (fun _ => rfl) rfl ?_
    apply Exists.intro
    refine And.intro ?_ ?_
    · intro K' a wy ho hd hb hK
      rw [if_pos (wanted_none rfl)]
      have o3 := ho 3 (by decide)
      simp [slot] at o3
      clear hd ho
      obtain ⟨hq1, hq2, -, -⟩ := HCP.out wy hb
      have u0 : wy.cell? ⟨v6.heap.size, 0, none⟩ = some (.slice ta6 y1.binds.length tc6) := hq1.cell rfl
      have u1 : wy.cell? ⟨v6.heap.size, 1, none⟩ = some (.slice tb6 y1.sess.length td6) := hq1.cell rfl
      have t0 : wy.cell? ⟨(w.heap.size + 1), 0, none⟩ = some (.slice a1 y1.binds.length ca1) := hq2.cell rfl
      have t1 : wy.cell? ⟨(w.heap.size + 1), 1, none⟩ = some (.slice b1 y1.sess.length cb1) := hq2.cell rfl
      go_simp
      try go_bits
      exact hK _ _ rfl (Below.refl _ _)
    refine GCh.rel (n := 2) (IsBb v9.drew.heap.size y1) (stable_isBb _ _) [_, _, IsBb v9.drew.heap.size y1] rfl rfl ?_ ?_
    · intro K' a wy ho hd hb hK
      rw [if_pos (wanted_none rfl)]
      have q1 := hd ⟨1, .data⟩ (by simp) rfl
      simp [rAt, IsV, slot] at q1
      clear hd ho
      go_simp
      refine (toBib_any y1 a1 b1 ca1 cb1 wy hbl1 hbl2 (HX1.out.below (HCP.out wy hb).2.2.1)).mono ?_
      rintro e wz ⟨⟨xa, xb, xc, xd, rfl, hl⟩, hz⟩
      exact hK _ _ ⟨xa, xb, xc, xd, rfl, hl.low hb.size⟩ hz
    refine GCh.val (n := 3) (fun v => [_, _, _, IsV v]) (fun _ => rfl) rfl ?_
    apply Exists.intro
    refine And.intro ?_ ?_
    · intro K' a wy ho hd hb hK
      rw [if_pos (wanted_none rfl)]
      have q0 := hd ⟨0, .data⟩ (by simp) rfl
      simp [rAt, IsV, slot] at q0
      obtain ⟨xa, xb, xc, xd, e2, l2⟩ : IsBb v9.drew.heap.size y1 (slot a 42) wy := hd ⟨2, .data⟩ (by simp) rfl
      simp [slot] at e2
      clear hd ho
      go_simp
      refine (HE.out wy xa xb xc xd (T1_9.out.kept (HCP.out wy hb).2.2.2).is l2.is).mono ?_
      rintro e wz ⟨rfl, hz⟩
      exact hK _ _ rfl hz
    refine GCh.val (n := 4) (fun v => [_, _, _, _, IsV v]) (fun _ => rfl) rfl ?_
    apply Exists.intro
    refine And.intro ?_ ?_
    · intro K' a wy ho hd hb hK
      rw [if_pos (wanted_none rfl)]
      have q3 := hd ⟨3, .data⟩ (by simp) rfl
      simp [rAt, IsV, slot] at q3
      clear hd ho
      go_simp
      try go_bits
      exact hK _ _ rfl (Below.refl _ _)
    intro X wz hR hz
    obtain ⟨x0, x1, x2, x3, x4, -⟩ := hR
    obtain ⟨xa, xb, xc, xd, e2, -⟩ := x2
    simp only [IsV] at x0 x1 x3 x4
    simp only [putsFrom, x0, x1, e2, x3, x4]
    clear x0 x1 x3 x4
    go_simp
    refine hK2 _ _ (hJ _ _ ?_)
    (repeat apply Exists.intro)
    refine ⟨⟨rfl, (Below.refl _ _).drew.trans hz⟩, rfl⟩
  case rest =>
  obtain ⟨rfl, q⟩ := hcut
  generalize wc = v10 at *
  have A_10 : Hid (Below w.heap.size w v10) := A_9.out.trans (q.mono A_9.out.size)
  have P0_10 : Hid (HoldsL v10 w.heap.size [.slice a0 p0.addrs.length cap0, .int .i64 p0.low, .int .i64 p0.high, .int .i64 p0.most, .int .i64 p0.filter, .int .i64 p0.lv.udp, .int .i64 p0.lv.echo, .int .i64 p0.lv.opening, .int .i64 p0.lv.opn, .int .i64 p0.lv.closing]) := P0_9.out.kept (by simp) q
  have P1_10 : Hid (HoldsL v10 (w.heap.size + 1) [.slice a1 y1.binds.length ca1, .slice b1 y1.sess.length cb1]) := P1_9.out.kept (by simp) q
  have T0_10 : Hid (SlLaid strL1 1 v10 g4 p0.addrs p0.addrs.length p0.addrs.length) := T0_9.out.kept q
  have X_10 : Hid (HoldsL v10 v4.heap.size [.slice (some ⟨g4, 0, none⟩) p0.addrs.length p0.addrs.length, .int .i64 p0.low, .int .i64 p0.high, .int .i64 p0.most, .int .i64 p0.filter, .int .i64 p0.lv.udp, .int .i64 p0.lv.echo, .int .i64 p0.lv.opening, .int .i64 p0.lv.opn, .int .i64 p0.lv.closing]) := X_9.out.kept (by simp) q
  have T1_10 : Hid (BbOwn v5.heap.size v10 ta6 tb6 y1) := T1_9.out.kept q
  have Y_10 : Hid (HoldsL v10 v6.heap.size [.slice ta6 y1.binds.length tc6, .slice tb6 y1.sess.length td6]) := Y_9.out.kept (by simp) q
  clear A_9 P0_9 P1_9 T0_9 X_9 T1_9 Y_9
  clear q
  go_wp2_with fail
  go_ret
  exact ⟨rfl, A_10.out⟩

set_option maxRecDepth 100000 in
theorem lifted (os : Os) (started : os.Started) (H : Type) (enc : TypeId × Value → H) :
    ReturnsInHanded {} Try.checked os 4 .any (Rows.fnExactBibRightSpec.pre6 enc Try.prog Try.f4 Rows.fnExactBibRightRow.domain false) (Rows.fnExactBibRightSpec.post enc Try.prog Try.f4 false true false false) := by
  refine returnsInHanded_of_change (C := Try.checked) own started (by kernel_rfl) Try.func4
    (ChangeSpec.witness6 (enc := enc) (C := Try.checked) false ⟨#[], #[.agg #[.slice none 0 0, .int .i64 0, .int .i64 0, .int .i64 0, .int .i64 0, .int .i64 0, .int .i64 0, .int .i64 0, .int .i64 0, .int .i64 0], .agg #[.slice none 0 0, .slice none 0 0]], []⟩ 8 (by kernel_rfl) (by kernel_rfl) (by kernel_rfl) (by kernel_rfl)) ?_
  intro W base args ds gs before hval0 hW hcnd _
  have hval : ∀ (j : Nat) t v, Try.f4.params[j]? = some t → args[j]? = some v → Value.okWide Try.prog W .any base t v := hval0
  have hW' := hW
  obtain ⟨p, q, hA0, hV, rfl, hfz, hnd⟩ := hW
  have hA : DataW.TrodAll enc Try.prog W 0 (fun _ => true) true Try.f4.params.toList args.toList ds p := hA0
  rw [Try.params4] at hA hval
  obtain ⟨v0, vs0, d0, ds0, p0, q0, hargs, rfl, rfl, h0, r0⟩ := trodAll_cons hA
  obtain ⟨v1, vs1, d1, ds1, p1, q1, rfl, rfl, rfl, h1, r1⟩ := trodAll_cons r0
  obtain ⟨rfl, rfl, rfl⟩ := trodAll_nil r1
  obtain rfl : args = #[v0, v1] := by cases args; simp_all
  obtain ⟨rfl, rfl⟩ := trodVars_none hV
  have k0 := h0
  have lt0 : ∀ x ∈ p0, x.block < W.heap.size := by obtain ⟨m, hm⟩ := k0; exact DataW.trod_lt m _ _ _ hm
  obtain ⟨a0, cap0, pl0, rfl, w0, x0⟩ := open_Pool (hval 0 26 v0 rfl rfl) h0
  have k1 := h1
  have lt1 : ∀ x ∈ p1, x.block < W.heap.size := by obtain ⟨m, hm⟩ := k1; exact DataW.trod_lt m _ _ _ hm
  obtain ⟨a1, b1, ca1, cb1, y1, rfl, w1, x1⟩ := open_Bib (hval 1 38 v1 rfl rfl) h1
  clear hA0 hval0
  refine (walk a0 cap0 pl0 a1 b1 ca1 cb1 y1 W w0 x0 w1 x1).mono fun e W' ⟨he, hg⟩ => ?_
  subst he
  exact ⟨_, rfl, _, _, _, [], _, [], hW', (trodAll_cons_mk (shut_bool Try.underlying4 _) trodAll_mk0), (trodAll_cons_mk (Below.trod laidOut (by kernel_rfl) (of_decide_eq_true (by kernel_rfl)) k0 hg lt0) (trodAll_cons_mk (Below.trod laidOut (by kernel_rfl) (of_decide_eq_true (by kernel_rfl)) k1 hg lt1) trodAll_mk0)), rfl, hg.frame _, fun h => by cases h⟩

theorem over : Rows.fnExactBibRightRow.holds Try.pinned (OpenSpec.ofChange Rows.fnExactBibRightSpec) :=
  OpenClaim.holds_of_wide 4 Try.f4 rfl rfl rfl rfl rfl rfl rfl ⟨rfl, rfl, rfl, rfl, rfl⟩ rfl rfl rfl rfl rfl (by kernel_rfl) Try.func4 (by kernel_rfl)
    (of_decide_eq_true (by kernel_rfl)) (by unfold Func.isWrapper; first | (rw [if_pos (by decide +kernel)]; kernel_rfl) | (rw [if_neg (by decide +kernel)]; exact ⟨rfl, rfl⟩))
    (fun os started H enc _ => lifted os started H enc)

end Go.Proofs.Ytkakehchiadpbal.fnExactBibRight
namespace Go.Proofs.Ytkakehchiadpbal
theorem fnExactBibRight_holds : Rows.FnExactBibRightSaid := fnExactBibRight.over
#print axioms fnExactBibRight_holds
end Go.Proofs.Ytkakehchiadpbal
