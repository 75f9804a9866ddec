/- At every pool, bib, proto, text and port the program's PortFor answers as the specification's, its answer owns its memory, and nothing that was there is written: the law FnExactPortFor returns true. No condition. -/
import Derived.Test.YtkakehchiadpbalRows
import Derived.Test.YtkakehchiadpbalLawMk9
import Derived.Test.YtkakehchiadpbalIPortF
import Derived.WalkKit
import Derived.ProofKit
import Derived.OpenShut
import Derived.ShutString
import Derived.ChangeOld
import Derived.Below
import Derived.Lib.SmallJoins
namespace Go.Proofs.Ytkakehchiadpbal.fnExactPortFor
open Go.ChangeShapes Go.WideShapes Go.ChangeAt Go.RowKit Go.Joins
open Go.ChangeMaps (open_string shut_string)
set_option linter.unusedVariables false

theorem own : ownKnob Try.prog.godebug = none := by kernel_rfl
theorem laidOut : laidOutB Try.prog = true := by kernel_rfl

set_option maxRecDepth 100000 in
set_option maxHeartbeats 4000000 in
theorem walk (a0 : Option Addr) (cap0 : Nat) (p0 : Pl) (a1 b1 : Option Addr) (ca1 cb1 : Nat) (y1 : Bb) (a2 : Int) (a3 : ByteArray) (a4 : Int) (w : World) (w0 : PlWf p0) (x0 : SlIs strL1 1 w a0 p0.addrs) (w1 : BbWf y1) (x1 : BbIs w a1 b1 y1) (w2 : (Lit.int .i64 a2).wf = true) (w3 : a3.size ≤ maxLen) (w4 : (Lit.int .i64 a4).wf = true) :
    Calls Try.prog 7 #[plC a0 cap0 p0, bbC a1 b1 ca1 cb1 y1, .int .i64 a2, .string a3, .int .i64 a4] w fun e w' => e = .returned (.bool true) ∧ Below w.heap.size w w' := by
  have HX0 : Hid (SlIs strL1 1 w a0 p0.addrs) := x0
  have HW0 : Hid (PlWf p0) := w0
  obtain ⟨s0, hs0⟩ : ∃ s, s = szSl strN p0.addrs 1048576 := ⟨_, rfl⟩
  have HS0 : Hid (s0 = szSl strN p0.addrs 1048576) := hs0
  have HX1 : Hid (BbIs w a1 b1 y1) := x1
  have HW1 : Hid (BbWf y1) := w1
  obtain ⟨s1, hs1⟩ : ∃ s, s = szBb y1 s0 := ⟨_, rfl⟩
  have HS1 : Hid (s1 = szBb y1 s0) := hs1
  clear x0 w0 hs0 x1 w1 hs1
  by_cases hl3 : 1048576 < a3.size
  case pos =>
    have hli : (1048576 : Int) < (a3.size : Int) := by omega
    have HZ0 : Hid (Below w.heap.size w ((w.alloc (.cells #[.slice a0 p0.addrs.length cap0, .int .i64 p0.low, .int .i64 p0.high, .int .i64 p0.most, .int .i64 p0.filter, .int .i64 p0.lv.udp, .int .i64 p0.lv.echo, .int .i64 p0.lv.opening, .int .i64 p0.lv.opn, .int .i64 p0.lv.closing] 26)).alloc (.cells #[.slice a1 y1.binds.length ca1, .slice b1 y1.sess.length cb1] 38))) := (((Below.refl _ _).alloc (Nat.le_refl _) _).alloc (by simp) _)
    have HB0 : Hid (HoldsL ((w.alloc (.cells #[.slice a0 p0.addrs.length cap0, .int .i64 p0.low, .int .i64 p0.high, .int .i64 p0.most, .int .i64 p0.filter, .int .i64 p0.lv.udp, .int .i64 p0.lv.echo, .int .i64 p0.lv.opening, .int .i64 p0.lv.opn, .int .i64 p0.lv.closing] 26)).alloc (.cells #[.slice a1 y1.binds.length ca1, .slice b1 y1.sess.length cb1] 38)) (w.heap.size) [.slice a0 p0.addrs.length cap0, .int .i64 p0.low, .int .i64 p0.high, .int .i64 p0.most, .int .i64 p0.filter, .int .i64 p0.lv.udp, .int .i64 p0.lv.echo, .int .i64 p0.lv.opening, .int .i64 p0.lv.opn, .int .i64 p0.lv.closing]) := by have h := ((HoldsL.new w [.slice a0 p0.addrs.length cap0, .int .i64 p0.low, .int .i64 p0.high, .int .i64 p0.most, .int .i64 p0.filter, .int .i64 p0.lv.udp, .int .i64 p0.lv.echo, .int .i64 p0.lv.opening, .int .i64 p0.lv.opn, .int .i64 p0.lv.closing] 26).alloc (.cells #[.slice a1 y1.binds.length ca1, .slice b1 y1.sess.length cb1] 38)); exact h
    have HB1 : Hid (HoldsL ((w.alloc (.cells #[.slice a0 p0.addrs.length cap0, .int .i64 p0.low, .int .i64 p0.high, .int .i64 p0.most, .int .i64 p0.filter, .int .i64 p0.lv.udp, .int .i64 p0.lv.echo, .int .i64 p0.lv.opening, .int .i64 p0.lv.opn, .int .i64 p0.lv.closing] 26)).alloc (.cells #[.slice a1 y1.binds.length ca1, .slice b1 y1.sess.length cb1] 38)) (w.heap.size + 1) [.slice a1 y1.binds.length ca1, .slice b1 y1.sess.length cb1]) := by have h := (HoldsL.new (w.alloc (.cells #[.slice a0 p0.addrs.length cap0, .int .i64 p0.low, .int .i64 p0.high, .int .i64 p0.most, .int .i64 p0.filter, .int .i64 p0.lv.udp, .int .i64 p0.lv.echo, .int .i64 p0.lv.opening, .int .i64 p0.lv.opn, .int .i64 p0.lv.closing] 26)) [.slice a1 y1.binds.length ca1, .slice b1 y1.sess.length cb1] 38); rw [World.size_alloc] at h; exact h
    have hun : undef = Value.tuple #[] := rfl
    unfold plC bbC
    go_enter Try.func7, Try.ntmps7
    go_upto_region 1 with fail
    generalize (w.alloc (.cells #[.slice a0 p0.addrs.length cap0, .int .i64 p0.low, .int .i64 p0.high, .int .i64 p0.most, .int .i64 p0.filter, .int .i64 p0.lv.udp, .int .i64 p0.lv.echo, .int .i64 p0.lv.opening, .int .i64 p0.lv.opn, .int .i64 p0.lv.closing] 26)).alloc (.cells #[.slice a1 y1.binds.length ca1, .slice b1 y1.sess.length cb1] 38) = W0 at *
    have A_0 : Hid (Below w.heap.size w W0) := HZ0.out
    have P0_0 : Hid (HoldsL W0 w.heap.size [.slice a0 p0.addrs.length cap0, .int .i64 p0.low, .int .i64 p0.high, .int .i64 p0.most, .int .i64 p0.filter, .int .i64 p0.lv.udp, .int .i64 p0.lv.echo, .int .i64 p0.lv.opening, .int .i64 p0.lv.opn, .int .i64 p0.lv.closing]) := HB0.out
    have P1_0 : Hid (HoldsL W0 (w.heap.size + 1) [.slice a1 y1.binds.length ca1, .slice b1 y1.sess.length cb1]) := HB1.out
    clear HZ0 HB0 HB1
    go_wp2_with fail
    go_ret
    exact ⟨rfl, A_0.out⟩
  have hln3 : ¬ (1048576 : Int) < (a3.size : Int) := by omega
  have hr0 : -1 ≤ s0 ∧ s0 ≤ 1048576 := by rw [HS0.out]; exact szSl_range strN p0.addrs _ (by omega)
  obtain ⟨hra0, hrb0⟩ := hr0
  by_cases hz0 : s0 < 0
  case pos =>
    have HZ0 : Hid (Below w.heap.size w ((w.alloc (.cells #[.slice a0 p0.addrs.length cap0, .int .i64 p0.low, .int .i64 p0.high, .int .i64 p0.most, .int .i64 p0.filter, .int .i64 p0.lv.udp, .int .i64 p0.lv.echo, .int .i64 p0.lv.opening, .int .i64 p0.lv.opn, .int .i64 p0.lv.closing] 26)).alloc (.cells #[.slice a1 y1.binds.length ca1, .slice b1 y1.sess.length cb1] 38))) := (((Below.refl _ _).alloc (Nat.le_refl _) _).alloc (by simp) _)
    have HB0 : Hid (HoldsL ((w.alloc (.cells #[.slice a0 p0.addrs.length cap0, .int .i64 p0.low, .int .i64 p0.high, .int .i64 p0.most, .int .i64 p0.filter, .int .i64 p0.lv.udp, .int .i64 p0.lv.echo, .int .i64 p0.lv.opening, .int .i64 p0.lv.opn, .int .i64 p0.lv.closing] 26)).alloc (.cells #[.slice a1 y1.binds.length ca1, .slice b1 y1.sess.length cb1] 38)) (w.heap.size) [.slice a0 p0.addrs.length cap0, .int .i64 p0.low, .int .i64 p0.high, .int .i64 p0.most, .int .i64 p0.filter, .int .i64 p0.lv.udp, .int .i64 p0.lv.echo, .int .i64 p0.lv.opening, .int .i64 p0.lv.opn, .int .i64 p0.lv.closing]) := by have h := ((HoldsL.new w [.slice a0 p0.addrs.length cap0, .int .i64 p0.low, .int .i64 p0.high, .int .i64 p0.most, .int .i64 p0.filter, .int .i64 p0.lv.udp, .int .i64 p0.lv.echo, .int .i64 p0.lv.opening, .int .i64 p0.lv.opn, .int .i64 p0.lv.closing] 26).alloc (.cells #[.slice a1 y1.binds.length ca1, .slice b1 y1.sess.length cb1] 38)); exact h
    have HB1 : Hid (HoldsL ((w.alloc (.cells #[.slice a0 p0.addrs.length cap0, .int .i64 p0.low, .int .i64 p0.high, .int .i64 p0.most, .int .i64 p0.filter, .int .i64 p0.lv.udp, .int .i64 p0.lv.echo, .int .i64 p0.lv.opening, .int .i64 p0.lv.opn, .int .i64 p0.lv.closing] 26)).alloc (.cells #[.slice a1 y1.binds.length ca1, .slice b1 y1.sess.length cb1] 38)) (w.heap.size + 1) [.slice a1 y1.binds.length ca1, .slice b1 y1.sess.length cb1]) := by have h := (HoldsL.new (w.alloc (.cells #[.slice a0 p0.addrs.length cap0, .int .i64 p0.low, .int .i64 p0.high, .int .i64 p0.most, .int .i64 p0.filter, .int .i64 p0.lv.udp, .int .i64 p0.lv.echo, .int .i64 p0.lv.opening, .int .i64 p0.lv.opn, .int .i64 p0.lv.closing] 26)) [.slice a1 y1.binds.length ca1, .slice b1 y1.sess.length cb1] 38); rw [World.size_alloc] at h; exact h
    have hun : undef = Value.tuple #[] := rfl
    unfold plC bbC
    go_enter Try.func7, Try.ntmps7
    go_upto_region 1 with fail
    generalize (w.alloc (.cells #[.slice a0 p0.addrs.length cap0, .int .i64 p0.low, .int .i64 p0.high, .int .i64 p0.most, .int .i64 p0.filter, .int .i64 p0.lv.udp, .int .i64 p0.lv.echo, .int .i64 p0.lv.opening, .int .i64 p0.lv.opn, .int .i64 p0.lv.closing] 26)).alloc (.cells #[.slice a1 y1.binds.length ca1, .slice b1 y1.sess.length cb1] 38) = W0 at *
    have A_0 : Hid (Below w.heap.size w W0) := HZ0.out
    have P0_0 : Hid (HoldsL W0 w.heap.size [.slice a0 p0.addrs.length cap0, .int .i64 p0.low, .int .i64 p0.high, .int .i64 p0.most, .int .i64 p0.filter, .int .i64 p0.lv.udp, .int .i64 p0.lv.echo, .int .i64 p0.lv.opening, .int .i64 p0.lv.opn, .int .i64 p0.lv.closing]) := HB0.out
    have P1_0 : Hid (HoldsL W0 (w.heap.size + 1) [.slice a1 y1.binds.length ca1, .slice b1 y1.sess.length cb1]) := HB1.out
    clear HZ0 HB0 HB1
    have cP00 : W0.cell? ⟨w.heap.size, 0, none⟩ = some (.slice a0 p0.addrs.length cap0) := P0_0.out.cell rfl
    have cP01 : W0.cell? ⟨w.heap.size, 1, none⟩ = some (.int .i64 p0.low) := P0_0.out.cell rfl
    have cP02 : W0.cell? ⟨w.heap.size, 2, none⟩ = some (.int .i64 p0.high) := P0_0.out.cell rfl
    have cP03 : W0.cell? ⟨w.heap.size, 3, none⟩ = some (.int .i64 p0.most) := P0_0.out.cell rfl
    have cP04 : W0.cell? ⟨w.heap.size, 4, none⟩ = some (.int .i64 p0.filter) := P0_0.out.cell rfl
    have cP05 : W0.cell? ⟨w.heap.size, 5, none⟩ = some (.int .i64 p0.lv.udp) := P0_0.out.cell rfl
    have cP06 : W0.cell? ⟨w.heap.size, 6, none⟩ = some (.int .i64 p0.lv.echo) := P0_0.out.cell rfl
    have cP07 : W0.cell? ⟨w.heap.size, 7, none⟩ = some (.int .i64 p0.lv.opening) := P0_0.out.cell rfl
    have cP08 : W0.cell? ⟨w.heap.size, 8, none⟩ = some (.int .i64 p0.lv.opn) := P0_0.out.cell rfl
    have cP09 : W0.cell? ⟨w.heap.size, 9, none⟩ = some (.int .i64 p0.lv.closing) := P0_0.out.cell rfl
    go_wp2_with fail
    refine (szPool_at p0 a0 cap0 1048576 _ HW0.out (HX0.out.below A_0.out) (by omega) (by omega)).mono ?_
    rw [← HS0.out]
    rintro e v1 ⟨rfl, q⟩
    clear cP00 cP01 cP02 cP03 cP04 cP05 cP06 cP07 cP08 cP09
    have A_1 : Hid (Below w.heap.size w v1) := A_0.out.trans (q.mono A_0.out.size)
    have P0_1 : Hid (HoldsL v1 w.heap.size [.slice a0 p0.addrs.length cap0, .int .i64 p0.low, .int .i64 p0.high, .int .i64 p0.most, .int .i64 p0.filter, .int .i64 p0.lv.udp, .int .i64 p0.lv.echo, .int .i64 p0.lv.opening, .int .i64 p0.lv.opn, .int .i64 p0.lv.closing]) := P0_0.out.kept (by simp) q
    have P1_1 : Hid (HoldsL v1 (w.heap.size + 1) [.slice a1 y1.binds.length ca1, .slice b1 y1.sess.length cb1]) := P1_0.out.kept (by simp) q
    clear A_0 P0_0 P1_0
    clear q
    go_wp2_with fail
    go_ret
    exact ⟨rfl, A_1.out⟩
  have hnn0 : 0 ≤ s0 := by omega
  have hpi : Hid (p0.addrs.length ≤ 1048576 ∧ ∀ s ∈ p0.addrs, s.size ≤ 1048576) := strs_in (left := 1048576) (by omega) (by omega) (by rw [← HS0.out]; omega)
  have hpl := hpi.out.1
  have hr1 : -1 ≤ s1 ∧ s1 ≤ s0 := by rw [HS1.out]; exact szBb_range y1 _ (by omega)
  obtain ⟨hra1, hrb1⟩ := hr1
  by_cases hz1 : s1 < 0
  case pos =>
    have HZ0 : Hid (Below w.heap.size w ((w.alloc (.cells #[.slice a0 p0.addrs.length cap0, .int .i64 p0.low, .int .i64 p0.high, .int .i64 p0.most, .int .i64 p0.filter, .int .i64 p0.lv.udp, .int .i64 p0.lv.echo, .int .i64 p0.lv.opening, .int .i64 p0.lv.opn, .int .i64 p0.lv.closing] 26)).alloc (.cells #[.slice a1 y1.binds.length ca1, .slice b1 y1.sess.length cb1] 38))) := (((Below.refl _ _).alloc (Nat.le_refl _) _).alloc (by simp) _)
    have HB0 : Hid (HoldsL ((w.alloc (.cells #[.slice a0 p0.addrs.length cap0, .int .i64 p0.low, .int .i64 p0.high, .int .i64 p0.most, .int .i64 p0.filter, .int .i64 p0.lv.udp, .int .i64 p0.lv.echo, .int .i64 p0.lv.opening, .int .i64 p0.lv.opn, .int .i64 p0.lv.closing] 26)).alloc (.cells #[.slice a1 y1.binds.length ca1, .slice b1 y1.sess.length cb1] 38)) (w.heap.size) [.slice a0 p0.addrs.length cap0, .int .i64 p0.low, .int .i64 p0.high, .int .i64 p0.most, .int .i64 p0.filter, .int .i64 p0.lv.udp, .int .i64 p0.lv.echo, .int .i64 p0.lv.opening, .int .i64 p0.lv.opn, .int .i64 p0.lv.closing]) := by have h := ((HoldsL.new w [.slice a0 p0.addrs.length cap0, .int .i64 p0.low, .int .i64 p0.high, .int .i64 p0.most, .int .i64 p0.filter, .int .i64 p0.lv.udp, .int .i64 p0.lv.echo, .int .i64 p0.lv.opening, .int .i64 p0.lv.opn, .int .i64 p0.lv.closing] 26).alloc (.cells #[.slice a1 y1.binds.length ca1, .slice b1 y1.sess.length cb1] 38)); exact h
    have HB1 : Hid (HoldsL ((w.alloc (.cells #[.slice a0 p0.addrs.length cap0, .int .i64 p0.low, .int .i64 p0.high, .int .i64 p0.most, .int .i64 p0.filter, .int .i64 p0.lv.udp, .int .i64 p0.lv.echo, .int .i64 p0.lv.opening, .int .i64 p0.lv.opn, .int .i64 p0.lv.closing] 26)).alloc (.cells #[.slice a1 y1.binds.length ca1, .slice b1 y1.sess.length cb1] 38)) (w.heap.size + 1) [.slice a1 y1.binds.length ca1, .slice b1 y1.sess.length cb1]) := by have h := (HoldsL.new (w.alloc (.cells #[.slice a0 p0.addrs.length cap0, .int .i64 p0.low, .int .i64 p0.high, .int .i64 p0.most, .int .i64 p0.filter, .int .i64 p0.lv.udp, .int .i64 p0.lv.echo, .int .i64 p0.lv.opening, .int .i64 p0.lv.opn, .int .i64 p0.lv.closing] 26)) [.slice a1 y1.binds.length ca1, .slice b1 y1.sess.length cb1] 38); rw [World.size_alloc] at h; exact h
    have hun : undef = Value.tuple #[] := rfl
    unfold plC bbC
    go_enter Try.func7, Try.ntmps7
    go_upto_region 1 with fail
    generalize (w.alloc (.cells #[.slice a0 p0.addrs.length cap0, .int .i64 p0.low, .int .i64 p0.high, .int .i64 p0.most, .int .i64 p0.filter, .int .i64 p0.lv.udp, .int .i64 p0.lv.echo, .int .i64 p0.lv.opening, .int .i64 p0.lv.opn, .int .i64 p0.lv.closing] 26)).alloc (.cells #[.slice a1 y1.binds.length ca1, .slice b1 y1.sess.length cb1] 38) = W0 at *
    have A_0 : Hid (Below w.heap.size w W0) := HZ0.out
    have P0_0 : Hid (HoldsL W0 w.heap.size [.slice a0 p0.addrs.length cap0, .int .i64 p0.low, .int .i64 p0.high, .int .i64 p0.most, .int .i64 p0.filter, .int .i64 p0.lv.udp, .int .i64 p0.lv.echo, .int .i64 p0.lv.opening, .int .i64 p0.lv.opn, .int .i64 p0.lv.closing]) := HB0.out
    have P1_0 : Hid (HoldsL W0 (w.heap.size + 1) [.slice a1 y1.binds.length ca1, .slice b1 y1.sess.length cb1]) := HB1.out
    clear HZ0 HB0 HB1
    have cP00 : W0.cell? ⟨w.heap.size, 0, none⟩ = some (.slice a0 p0.addrs.length cap0) := P0_0.out.cell rfl
    have cP01 : W0.cell? ⟨w.heap.size, 1, none⟩ = some (.int .i64 p0.low) := P0_0.out.cell rfl
    have cP02 : W0.cell? ⟨w.heap.size, 2, none⟩ = some (.int .i64 p0.high) := P0_0.out.cell rfl
    have cP03 : W0.cell? ⟨w.heap.size, 3, none⟩ = some (.int .i64 p0.most) := P0_0.out.cell rfl
    have cP04 : W0.cell? ⟨w.heap.size, 4, none⟩ = some (.int .i64 p0.filter) := P0_0.out.cell rfl
    have cP05 : W0.cell? ⟨w.heap.size, 5, none⟩ = some (.int .i64 p0.lv.udp) := P0_0.out.cell rfl
    have cP06 : W0.cell? ⟨w.heap.size, 6, none⟩ = some (.int .i64 p0.lv.echo) := P0_0.out.cell rfl
    have cP07 : W0.cell? ⟨w.heap.size, 7, none⟩ = some (.int .i64 p0.lv.opening) := P0_0.out.cell rfl
    have cP08 : W0.cell? ⟨w.heap.size, 8, none⟩ = some (.int .i64 p0.lv.opn) := P0_0.out.cell rfl
    have cP09 : W0.cell? ⟨w.heap.size, 9, none⟩ = some (.int .i64 p0.lv.closing) := P0_0.out.cell rfl
    go_wp2_with fail
    refine (szPool_at p0 a0 cap0 1048576 _ HW0.out (HX0.out.below A_0.out) (by omega) (by omega)).mono ?_
    rw [← HS0.out]
    rintro e v1 ⟨rfl, q⟩
    clear cP00 cP01 cP02 cP03 cP04 cP05 cP06 cP07 cP08 cP09
    have A_1 : Hid (Below w.heap.size w v1) := A_0.out.trans (q.mono A_0.out.size)
    have P0_1 : Hid (HoldsL v1 w.heap.size [.slice a0 p0.addrs.length cap0, .int .i64 p0.low, .int .i64 p0.high, .int .i64 p0.most, .int .i64 p0.filter, .int .i64 p0.lv.udp, .int .i64 p0.lv.echo, .int .i64 p0.lv.opening, .int .i64 p0.lv.opn, .int .i64 p0.lv.closing]) := P0_0.out.kept (by simp) q
    have P1_1 : Hid (HoldsL v1 (w.heap.size + 1) [.slice a1 y1.binds.length ca1, .slice b1 y1.sess.length cb1]) := P1_0.out.kept (by simp) q
    clear A_0 P0_0 P1_0
    clear q
    have cP10 : v1.cell? ⟨(w.heap.size + 1), 0, none⟩ = some (.slice a1 y1.binds.length ca1) := P1_1.out.cell rfl
    have cP11 : v1.cell? ⟨(w.heap.size + 1), 1, none⟩ = some (.slice b1 y1.sess.length cb1) := P1_1.out.cell rfl
    go_wp2_with fail
    refine (szBib_at y1 a1 b1 ca1 cb1 s0 _ HW1.out (HX1.out.below A_1.out) (by omega) (by omega)).mono ?_
    rw [← HS1.out]
    rintro e v2 ⟨rfl, q⟩
    clear cP10 cP11
    have A_2 : Hid (Below w.heap.size w v2) := A_1.out.trans (q.mono A_1.out.size)
    have P0_2 : Hid (HoldsL v2 w.heap.size [.slice a0 p0.addrs.length cap0, .int .i64 p0.low, .int .i64 p0.high, .int .i64 p0.most, .int .i64 p0.filter, .int .i64 p0.lv.udp, .int .i64 p0.lv.echo, .int .i64 p0.lv.opening, .int .i64 p0.lv.opn, .int .i64 p0.lv.closing]) := P0_1.out.kept (by simp) q
    have P1_2 : Hid (HoldsL v2 (w.heap.size + 1) [.slice a1 y1.binds.length ca1, .slice b1 y1.sess.length cb1]) := P1_1.out.kept (by simp) q
    clear A_1 P0_1 P1_1
    clear q
    go_wp2_with fail
    go_ret
    exact ⟨rfl, A_2.out⟩
  have hnn1 : 0 ≤ s1 := by omega
  have hbi : Hid (BbSm y1) := bb_in (left := s0) (by omega) (by omega) (by rw [← HS1.out]; omega)
  have hbl1 := hbi.out.1
  have hbl2 := hbi.out.2.1
  have HZ0 : Hid (Below w.heap.size w ((w.alloc (.cells #[.slice a0 p0.addrs.length cap0, .int .i64 p0.low, .int .i64 p0.high, .int .i64 p0.most, .int .i64 p0.filter, .int .i64 p0.lv.udp, .int .i64 p0.lv.echo, .int .i64 p0.lv.opening, .int .i64 p0.lv.opn, .int .i64 p0.lv.closing] 26)).alloc (.cells #[.slice a1 y1.binds.length ca1, .slice b1 y1.sess.length cb1] 38))) := (((Below.refl _ _).alloc (Nat.le_refl _) _).alloc (by simp) _)
  have HB0 : Hid (HoldsL ((w.alloc (.cells #[.slice a0 p0.addrs.length cap0, .int .i64 p0.low, .int .i64 p0.high, .int .i64 p0.most, .int .i64 p0.filter, .int .i64 p0.lv.udp, .int .i64 p0.lv.echo, .int .i64 p0.lv.opening, .int .i64 p0.lv.opn, .int .i64 p0.lv.closing] 26)).alloc (.cells #[.slice a1 y1.binds.length ca1, .slice b1 y1.sess.length cb1] 38)) (w.heap.size) [.slice a0 p0.addrs.length cap0, .int .i64 p0.low, .int .i64 p0.high, .int .i64 p0.most, .int .i64 p0.filter, .int .i64 p0.lv.udp, .int .i64 p0.lv.echo, .int .i64 p0.lv.opening, .int .i64 p0.lv.opn, .int .i64 p0.lv.closing]) := by have h := ((HoldsL.new w [.slice a0 p0.addrs.length cap0, .int .i64 p0.low, .int .i64 p0.high, .int .i64 p0.most, .int .i64 p0.filter, .int .i64 p0.lv.udp, .int .i64 p0.lv.echo, .int .i64 p0.lv.opening, .int .i64 p0.lv.opn, .int .i64 p0.lv.closing] 26).alloc (.cells #[.slice a1 y1.binds.length ca1, .slice b1 y1.sess.length cb1] 38)); exact h
  have HB1 : Hid (HoldsL ((w.alloc (.cells #[.slice a0 p0.addrs.length cap0, .int .i64 p0.low, .int .i64 p0.high, .int .i64 p0.most, .int .i64 p0.filter, .int .i64 p0.lv.udp, .int .i64 p0.lv.echo, .int .i64 p0.lv.opening, .int .i64 p0.lv.opn, .int .i64 p0.lv.closing] 26)).alloc (.cells #[.slice a1 y1.binds.length ca1, .slice b1 y1.sess.length cb1] 38)) (w.heap.size + 1) [.slice a1 y1.binds.length ca1, .slice b1 y1.sess.length cb1]) := by have h := (HoldsL.new (w.alloc (.cells #[.slice a0 p0.addrs.length cap0, .int .i64 p0.low, .int .i64 p0.high, .int .i64 p0.most, .int .i64 p0.filter, .int .i64 p0.lv.udp, .int .i64 p0.lv.echo, .int .i64 p0.lv.opening, .int .i64 p0.lv.opn, .int .i64 p0.lv.closing] 26)) [.slice a1 y1.binds.length ca1, .slice b1 y1.sess.length cb1] 38); rw [World.size_alloc] at h; exact h
  have hun : undef = Value.tuple #[] := rfl
  unfold plC bbC
  go_enter Try.func7, Try.ntmps7
  go_upto_region 1 with fail
  generalize (w.alloc (.cells #[.slice a0 p0.addrs.length cap0, .int .i64 p0.low, .int .i64 p0.high, .int .i64 p0.most, .int .i64 p0.filter, .int .i64 p0.lv.udp, .int .i64 p0.lv.echo, .int .i64 p0.lv.opening, .int .i64 p0.lv.opn, .int .i64 p0.lv.closing] 26)).alloc (.cells #[.slice a1 y1.binds.length ca1, .slice b1 y1.sess.length cb1] 38) = W0 at *
  have A_0 : Hid (Below w.heap.size w W0) := HZ0.out
  have P0_0 : Hid (HoldsL W0 w.heap.size [.slice a0 p0.addrs.length cap0, .int .i64 p0.low, .int .i64 p0.high, .int .i64 p0.most, .int .i64 p0.filter, .int .i64 p0.lv.udp, .int .i64 p0.lv.echo, .int .i64 p0.lv.opening, .int .i64 p0.lv.opn, .int .i64 p0.lv.closing]) := HB0.out
  have P1_0 : Hid (HoldsL W0 (w.heap.size + 1) [.slice a1 y1.binds.length ca1, .slice b1 y1.sess.length cb1]) := HB1.out
  clear HZ0 HB0 HB1
  have cP00 : W0.cell? ⟨w.heap.size, 0, none⟩ = some (.slice a0 p0.addrs.length cap0) := P0_0.out.cell rfl
  have cP01 : W0.cell? ⟨w.heap.size, 1, none⟩ = some (.int .i64 p0.low) := P0_0.out.cell rfl
  have cP02 : W0.cell? ⟨w.heap.size, 2, none⟩ = some (.int .i64 p0.high) := P0_0.out.cell rfl
  have cP03 : W0.cell? ⟨w.heap.size, 3, none⟩ = some (.int .i64 p0.most) := P0_0.out.cell rfl
  have cP04 : W0.cell? ⟨w.heap.size, 4, none⟩ = some (.int .i64 p0.filter) := P0_0.out.cell rfl
  have cP05 : W0.cell? ⟨w.heap.size, 5, none⟩ = some (.int .i64 p0.lv.udp) := P0_0.out.cell rfl
  have cP06 : W0.cell? ⟨w.heap.size, 6, none⟩ = some (.int .i64 p0.lv.echo) := P0_0.out.cell rfl
  have cP07 : W0.cell? ⟨w.heap.size, 7, none⟩ = some (.int .i64 p0.lv.opening) := P0_0.out.cell rfl
  have cP08 : W0.cell? ⟨w.heap.size, 8, none⟩ = some (.int .i64 p0.lv.opn) := P0_0.out.cell rfl
  have cP09 : W0.cell? ⟨w.heap.size, 9, none⟩ = some (.int .i64 p0.lv.closing) := P0_0.out.cell rfl
  go_wp2_with fail
  refine (szPool_at p0 a0 cap0 1048576 _ HW0.out (HX0.out.below A_0.out) (by omega) (by omega)).mono ?_
  rw [← HS0.out]
  rintro e v1 ⟨rfl, q⟩
  clear cP00 cP01 cP02 cP03 cP04 cP05 cP06 cP07 cP08 cP09
  have A_1 : Hid (Below w.heap.size w v1) := A_0.out.trans (q.mono A_0.out.size)
  have P0_1 : Hid (HoldsL v1 w.heap.size [.slice a0 p0.addrs.length cap0, .int .i64 p0.low, .int .i64 p0.high, .int .i64 p0.most, .int .i64 p0.filter, .int .i64 p0.lv.udp, .int .i64 p0.lv.echo, .int .i64 p0.lv.opening, .int .i64 p0.lv.opn, .int .i64 p0.lv.closing]) := P0_0.out.kept (by simp) q
  have P1_1 : Hid (HoldsL v1 (w.heap.size + 1) [.slice a1 y1.binds.length ca1, .slice b1 y1.sess.length cb1]) := P1_0.out.kept (by simp) q
  clear A_0 P0_0 P1_0
  clear q
  have cP10 : v1.cell? ⟨(w.heap.size + 1), 0, none⟩ = some (.slice a1 y1.binds.length ca1) := P1_1.out.cell rfl
  have cP11 : v1.cell? ⟨(w.heap.size + 1), 1, none⟩ = some (.slice b1 y1.sess.length cb1) := P1_1.out.cell rfl
  go_wp2_with fail
  refine (szBib_at y1 a1 b1 ca1 cb1 s0 _ HW1.out (HX1.out.below A_1.out) (by omega) (by omega)).mono ?_
  rw [← HS1.out]
  rintro e v2 ⟨rfl, q⟩
  clear cP10 cP11
  have A_2 : Hid (Below w.heap.size w v2) := A_1.out.trans (q.mono A_1.out.size)
  have P0_2 : Hid (HoldsL v2 w.heap.size [.slice a0 p0.addrs.length cap0, .int .i64 p0.low, .int .i64 p0.high, .int .i64 p0.most, .int .i64 p0.filter, .int .i64 p0.lv.udp, .int .i64 p0.lv.echo, .int .i64 p0.lv.opening, .int .i64 p0.lv.opn, .int .i64 p0.lv.closing]) := P0_1.out.kept (by simp) q
  have P1_2 : Hid (HoldsL v2 (w.heap.size + 1) [.slice a1 y1.binds.length ca1, .slice b1 y1.sess.length cb1]) := P1_1.out.kept (by simp) q
  clear A_1 P0_1 P1_1
  clear q
  have HGB : Hid (∀ q ∈ y1.binds, BdGood q) := fun q hq => ⟨(hbi.out.2.2.1 q hq).1, (hbi.out.2.2.1 q hq).2, (HW1.out.1.2 q hq).1, (HW1.out.1.2 q hq).2.2.1, (HW1.out.1.2 q hq).2.2.2.2⟩
  have HGS : Hid (∀ s ∈ y1.sess, SsGood s) := fun s hs => ⟨(hbi.out.2.2.2 s hs).1, (hbi.out.2.2.2 s hs).2, (HW1.out.2.2 s hs).1, (HW1.out.2.2 s hs).2.2.1⟩
  have hzP : w.heap.size + 1 < v2.heap.size := P1_2.out.lt (by simp)
  obtain ⟨o, ho⟩ : ∃ y, y = portForV p0 y1 a2 a3 a4 := ⟨_, rfl⟩
  have HSM : Hid (o.bib.binds.length ≤ 1048576 ∧ o.bib.sess.length ≤ 1048576) := by rw [ho]; exact portFor_bib p0 y1 a2 a3 a4
  obtain ⟨hol1, hol2⟩ := HSM.out
  have HSP : Hid (∀ W b ta tb tc td, Below w.heap.size w W → SlIs strL1 1 W (some ⟨b, 0, none⟩) p0.addrs → BbIs W ta tb y1 → Calls Try.prog 23 #[plC (some ⟨b, 0, none⟩) p0.addrs.length p0, bbC ta tb tc td y1, .int .i64 a2, .string a3, .int .i64 a4] W fun e w' => BoRet W.heap.size o e w' ∧ Below W.heap.size W w') := fun W b ta tb tc td h0 h h2 => by rw [ho]; exact ((specPortFor_any p0 y1 _ _ ta tb tc td a2 a3 a4 W hpl (Nat.le_refl _) hpi.out.2 (by omega) hbl1 hbl2 h h2).mono fun e w' hh => ⟨⟨none, none, 0, 0, hh.1, portFor_own _ _ p0 y1 a2 a3 a4⟩, hh.2⟩)
  have HIP : Hid (∀ W b ta tb tc td, Below w.heap.size w W → SlIs strL1 1 W (some ⟨b, 0, none⟩) p0.addrs → BbIs W ta tb y1 → Calls Try.prog 24 #[plC (some ⟨b, 0, none⟩) p0.addrs.length p0, bbC ta tb tc td y1, .int .i64 a2, .string a3, .int .i64 a4] W fun e w' => BoRet W.heap.size o e w' ∧ Below W.heap.size W w') := fun W b ta tb tc td h0 h h2 => by rw [ho]; exact ((implPortFor_any _ _ p0 ta tb tc td y1 a2 a3 a4 W (wf64s w2) (by omega) hpl (Nat.le_refl _) hpi.out.2 hbl1 hbl2 HGB.out HGS.out h h2).mono fun e w' hh => ⟨⟨none, none, 0, 0, hh.1, portFor_own _ _ p0 y1 a2 a3 a4⟩, hh.2⟩)
  clear ho
  go_upto_region 10 with fail
  go_cut [12] (fun v wx => ∃ (g6 : Nat) (oa ob : Option Addr) (oc od : Nat), v = .pointer (some ⟨g6, 0, none⟩) ∧ v2.heap.size ≤ g6 ∧ HoldsL wx g6 [.slice oa o.bib.binds.length oc, .slice ob o.bib.sess.length od, .int .i64 o.bind.proto, .string o.bind.inn, .int .i64 o.bind.inPort, .string o.bind.out, .int .i64 o.bind.outPort, .int .i64 o.code] ∧ BbOwn v2.heap.size wx oa ob o.bib ∧ Below v2.heap.size v2 wx)
  case first =>
    rename_i J K2 hJ hK2
    clear hun
    have HCP : Hid (∀ wy, Below v2.drew.heap.size v2.drew wy → HoldsL wy w.heap.size [.slice a0 p0.addrs.length cap0, .int .i64 p0.low, .int .i64 p0.high, .int .i64 p0.most, .int .i64 p0.filter, .int .i64 p0.lv.udp, .int .i64 p0.lv.echo, .int .i64 p0.lv.opening, .int .i64 p0.lv.opn, .int .i64 p0.lv.closing] ∧ HoldsL wy (w.heap.size + 1) [.slice a1 y1.binds.length ca1, .slice b1 y1.sess.length cb1] ∧ Below w.heap.size w wy ∧ Below v2.heap.size v2 wy) := fun wy hy => ⟨P0_2.out.drew.kept (by simp) hy, P1_2.out.drew.kept (by simp) hy, A_2.out.drew.trans (hy.mono A_2.out.size), (Below.refl _ _).drew.trans hy⟩
    refine wp_region_growV [33, 34, 35, 36, 37, 38, 39, 40, 12] (by kernel_rfl) (by kernel_rfl) ?_
    refine GChV.val (n := 0) (fun v => [IsV v]) (fun _ => rfl) rfl ?_
    apply Exists.intro
    refine And.intro ?_ ?_
    · intro K' a wy ho hd hb hK
      rw [if_pos (wanted_none rfl)]
      have o5 := ho 5 (by decide)
      simp [slot] at o5
      clear hd ho
      obtain ⟨hq1, hq2, -, -⟩ := HCP.out wy hb
      have u0 : wy.cell? ⟨w.heap.size, 0, none⟩ = some (.slice a0 p0.addrs.length cap0) := hq1.cell rfl
      have u1 : wy.cell? ⟨w.heap.size, 1, none⟩ = some (.int .i64 p0.low) := hq1.cell rfl
      have u2 : wy.cell? ⟨w.heap.size, 2, none⟩ = some (.int .i64 p0.high) := hq1.cell rfl
      have u3 : wy.cell? ⟨w.heap.size, 3, none⟩ = some (.int .i64 p0.most) := hq1.cell rfl
      have u4 : wy.cell? ⟨w.heap.size, 4, none⟩ = some (.int .i64 p0.filter) := hq1.cell rfl
      have u5 : wy.cell? ⟨w.heap.size, 5, none⟩ = some (.int .i64 p0.lv.udp) := hq1.cell rfl
      have u6 : wy.cell? ⟨w.heap.size, 6, none⟩ = some (.int .i64 p0.lv.echo) := hq1.cell rfl
      have u7 : wy.cell? ⟨w.heap.size, 7, none⟩ = some (.int .i64 p0.lv.opening) := hq1.cell rfl
      have u8 : wy.cell? ⟨w.heap.size, 8, none⟩ = some (.int .i64 p0.lv.opn) := hq1.cell rfl
      have u9 : wy.cell? ⟨w.heap.size, 9, none⟩ = some (.int .i64 p0.lv.closing) := hq1.cell rfl
      have t0 : wy.cell? ⟨(w.heap.size + 1), 0, none⟩ = some (.slice a1 y1.binds.length ca1) := hq2.cell rfl
      have t1 : wy.cell? ⟨(w.heap.size + 1), 1, none⟩ = some (.slice b1 y1.sess.length cb1) := hq2.cell rfl
      go_simp
      try go_bits
      exact hK _ _ rfl (Below.refl _ _)
    refine GChV.rel (n := 1) (IsPl v2.drew.heap.size p0) (stable_isPl _ _) [_, IsPl v2.drew.heap.size p0] rfl rfl ?_ ?_
    · intro K' a wy ho hd hb hK
      rw [if_pos (wanted_none rfl)]
      have q0 := hd ⟨0, .data⟩ (by simp) rfl
      simp [rAt, IsV, slot] at q0
      clear hd ho
      go_simp
      refine (toPool_any p0 a0 cap0 wy hpl (HX0.out.below (HCP.out wy hb).2.2.1)).mono ?_
      rintro e wz ⟨⟨gg, rfl, hg, hl⟩, hz⟩
      exact hK _ _ ⟨gg, rfl, Nat.le_trans hb.size hg, hl⟩ hz
    refine GChV.val (n := 2) (fun v => [_, _, IsV v]) (fun _ => rfl) rfl ?_
    apply Exists.intro
    refine And.intro ?_ ?_
    · intro K' a wy ho hd hb hK
      rw [if_pos (wanted_none rfl)]
      have o6 := ho 6 (by decide)
      simp [slot] at o6
      clear hd ho
      obtain ⟨hq1, hq2, -, -⟩ := HCP.out wy hb
      have u0 : wy.cell? ⟨w.heap.size, 0, none⟩ = some (.slice a0 p0.addrs.length cap0) := hq1.cell rfl
      have u1 : wy.cell? ⟨w.heap.size, 1, none⟩ = some (.int .i64 p0.low) := hq1.cell rfl
      have u2 : wy.cell? ⟨w.heap.size, 2, none⟩ = some (.int .i64 p0.high) := hq1.cell rfl
      have u3 : wy.cell? ⟨w.heap.size, 3, none⟩ = some (.int .i64 p0.most) := hq1.cell rfl
      have u4 : wy.cell? ⟨w.heap.size, 4, none⟩ = some (.int .i64 p0.filter) := hq1.cell rfl
      have u5 : wy.cell? ⟨w.heap.size, 5, none⟩ = some (.int .i64 p0.lv.udp) := hq1.cell rfl
      have u6 : wy.cell? ⟨w.heap.size, 6, none⟩ = some (.int .i64 p0.lv.echo) := hq1.cell rfl
      have u7 : wy.cell? ⟨w.heap.size, 7, none⟩ = some (.int .i64 p0.lv.opening) := hq1.cell rfl
      have u8 : wy.cell? ⟨w.heap.size, 8, none⟩ = some (.int .i64 p0.lv.opn) := hq1.cell rfl
      have u9 : wy.cell? ⟨w.heap.size, 9, none⟩ = some (.int .i64 p0.lv.closing) := hq1.cell rfl
      have t0 : wy.cell? ⟨(w.heap.size + 1), 0, none⟩ = some (.slice a1 y1.binds.length ca1) := hq2.cell rfl
      have t1 : wy.cell? ⟨(w.heap.size + 1), 1, none⟩ = some (.slice b1 y1.sess.length cb1) := hq2.cell rfl
      go_simp
      try go_bits
      exact hK _ _ rfl (Below.refl _ _)
    refine GChV.rel (n := 3) (IsBb v2.drew.heap.size y1) (stable_isBb _ _) [_, _, _, IsBb v2.drew.heap.size y1] rfl rfl ?_ ?_
    · intro K' a wy ho hd hb hK
      rw [if_pos (wanted_none rfl)]
      have q2 := hd ⟨2, .data⟩ (by simp) rfl
      simp [rAt, IsV, slot] at q2
      clear hd ho
      go_simp
      refine (toBib_any y1 a1 b1 ca1 cb1 wy hbl1 hbl2 (HX1.out.below (HCP.out wy hb).2.2.1)).mono ?_
      rintro e wz ⟨⟨xa, xb, xc, xd, rfl, hl⟩, hz⟩
      exact hK _ _ ⟨xa, xb, xc, xd, rfl, hl.low hb.size⟩ hz
    refine GChV.val (n := 4) (fun v => [_, _, _, _, IsV v]) (fun _ => rfl) rfl ?_
    apply Exists.intro
    refine And.intro ?_ ?_
    · intro K' a wy ho hd hb hK
      rw [if_pos (wanted_none rfl)]
      have o2 := ho 2 (by decide)
      simp [slot] at o2
      clear hd ho
      go_simp
      try go_bits
      exact hK _ _ rfl (Below.refl _ _)
    refine GChV.val (n := 5) (fun v => [_, _, _, _, _, IsV v]) (fun _ => rfl) rfl ?_
    apply Exists.intro
    refine And.intro ?_ ?_
    · intro K' a wy ho hd hb hK
      rw [if_pos (wanted_none rfl)]
      have o3 := ho 3 (by decide)
      simp [slot] at o3
      clear hd ho
      go_simp
      try go_bits
      exact hK _ _ rfl (Below.refl _ _)
    refine GChV.val (n := 6) (fun v => [_, _, _, _, _, _, IsV v]) (fun _ => rfl) rfl ?_
    apply Exists.intro
    refine And.intro ?_ ?_
    · intro K' a wy ho hd hb hK
      rw [if_pos (wanted_none rfl)]
      have o4 := ho 4 (by decide)
      simp [slot] at o4
      clear hd ho
      go_simp
      try go_bits
      exact hK _ _ rfl (Below.refl _ _)
    refine GChV.rel (n := 7) (IsBo v2.drew.heap.size o) (stable_isBo _ _) [_, _, _, _, _, _, _, IsBo v2.drew.heap.size o] rfl rfl ?_ ?_
    · intro K' a wy ho hd hb hK
      rw [if_pos (wanted_none rfl)]
      obtain ⟨g1, e1, b1, l1⟩ : IsPl v2.drew.heap.size p0 (slot a 34) wy := hd ⟨1, .data⟩ (by simp) rfl
      simp [slot] at e1
      obtain ⟨xa, xb, xc, xd, e3, l3⟩ : IsBb v2.drew.heap.size y1 (slot a 36) wy := hd ⟨3, .data⟩ (by simp) rfl
      simp [slot] at e3
      have q4 := hd ⟨4, .data⟩ (by simp) rfl
      simp [rAt, IsV, slot] at q4
      have q5 := hd ⟨5, .data⟩ (by simp) rfl
      simp [rAt, IsV, slot] at q5
      have q6 := hd ⟨6, .data⟩ (by simp) rfl
      simp [rAt, IsV, slot] at q6
      clear hd ho
      go_simp
      refine (HSP.out wy g1 xa xb xc xd (HCP.out wy hb).2.2.1 l1.is l3.is).mono ?_
      rintro e wz ⟨⟨oa, ob, oc, od, rfl, hl⟩, hz⟩
      exact hK _ _ ⟨oa, ob, oc, od, rfl, hl.low hb.size⟩ hz
    refine GChV.rel (n := 8) (IsZx v2.drew.heap.size [.slice none 0 0, .slice none 0 0, .int .i64 0, .string ⟨#[]⟩, .int .i64 0, .string ⟨#[]⟩, .int .i64 0, .int .i64 0]) (stable_isZx _ _ (by simp)) [_, _, _, _, _, _, _, _, IsZx v2.drew.heap.size [.slice none 0 0, .slice none 0 0, .int .i64 0, .string ⟨#[]⟩, .int .i64 0, .string ⟨#[]⟩, .int .i64 0, .int .i64 0]] rfl rfl ?_ ?_
    · intro K' a wy ho hd hb hK
      rw [if_pos (wanted_none rfl)]
      clear hd ho
      go_simp
      exact hK _ _ ⟨wy.heap.size, rfl, hb.size, HoldsL.new wy [.slice none 0 0, .slice none 0 0, .int .i64 0, .string ⟨#[]⟩, .int .i64 0, .string ⟨#[]⟩, .int .i64 0, .int .i64 0] 54⟩ ((Below.refl _ _).alloc (Nat.le_refl _) _)
    intro X wz hR hz
    obtain ⟨x0, x1, x2, x3, x4, x5, x6, x7, x8, -⟩ := hR
    obtain ⟨g1, e1, -, -⟩ := x1
    obtain ⟨xa, xb, xc, xd, e3, -⟩ := x3
    obtain ⟨oa, ob, oc, od, e7, o5⟩ := x7
    obtain ⟨g6, e6, b6, zz6⟩ := x8
    simp only [IsV] at x0 x2 x4 x5 x6
    simp only [putsFrom, x0, e1, x2, e3, x4, x5, x6, e7, e6]
    clear x0 x2 x4 x5 x6
    have z0 : wz.cell? ⟨g6, 0, none⟩ = some (.slice none 0 0) := zz6.cell rfl
    have zf0 := zz6.free (j := 0) (by simp)
    have z1 : wz.cell? ⟨g6, 1, none⟩ = some (.slice none 0 0) := zz6.cell rfl
    have zf1 := zz6.free (j := 1) (by simp)
    have z2 : wz.cell? ⟨g6, 2, none⟩ = some (.int .i64 0) := zz6.cell rfl
    have zf2 := zz6.free (j := 2) (by simp)
    have z3 : wz.cell? ⟨g6, 3, none⟩ = some (.string ⟨#[]⟩) := zz6.cell rfl
    have zf3 := zz6.free (j := 3) (by simp)
    have z4 : wz.cell? ⟨g6, 4, none⟩ = some (.int .i64 0) := zz6.cell rfl
    have zf4 := zz6.free (j := 4) (by simp)
    have z5 : wz.cell? ⟨g6, 5, none⟩ = some (.string ⟨#[]⟩) := zz6.cell rfl
    have zf5 := zz6.free (j := 5) (by simp)
    have z6 : wz.cell? ⟨g6, 6, none⟩ = some (.int .i64 0) := zz6.cell rfl
    have zf6 := zz6.free (j := 6) (by simp)
    have z7 : wz.cell? ⟨g6, 7, none⟩ = some (.int .i64 0) := zz6.cell rfl
    have zf7 := zz6.free (j := 7) (by simp)
    have hz0 : Below v2.heap.size v2 wz := (Below.refl _ _).drew.trans hz
    have b6' : v2.heap.size ≤ g6 := b6
    have HH6 : Hid (HoldsL ((((((((wz.setCell ⟨g6, 0, none⟩ (.slice oa o.bib.binds.length oc)).setCell ⟨g6, 1, none⟩ (.slice ob o.bib.sess.length od)).setCell ⟨g6, 2, none⟩ (.int .i64 o.bind.proto)).setCell ⟨g6, 3, none⟩ (.string o.bind.inn)).setCell ⟨g6, 4, none⟩ (.int .i64 o.bind.inPort)).setCell ⟨g6, 5, none⟩ (.string o.bind.out)).setCell ⟨g6, 6, none⟩ (.int .i64 o.bind.outPort)).setCell ⟨g6, 7, none⟩ (.int .i64 o.code)) g6 [.slice oa o.bib.binds.length oc, .slice ob o.bib.sess.length od, .int .i64 o.bind.proto, .string o.bind.inn, .int .i64 o.bind.inPort, .string o.bind.out, .int .i64 o.bind.outPort, .int .i64 o.code]) := ((((((((zz6.set 0 _).set 1 _).set 2 _).set 3 _).set 4 _).set 5 _).set 6 _).set 7 _)
    have HO6 : Hid (BbOwn v2.heap.size ((((((((wz.setCell ⟨g6, 0, none⟩ (.slice oa o.bib.binds.length oc)).setCell ⟨g6, 1, none⟩ (.slice ob o.bib.sess.length od)).setCell ⟨g6, 2, none⟩ (.int .i64 o.bind.proto)).setCell ⟨g6, 3, none⟩ (.string o.bind.inn)).setCell ⟨g6, 4, none⟩ (.int .i64 o.bind.inPort)).setCell ⟨g6, 5, none⟩ (.string o.bind.out)).setCell ⟨g6, 6, none⟩ (.int .i64 o.bind.outPort)).setCell ⟨g6, 7, none⟩ (.int .i64 o.code)) oa ob o.bib) := BbOwn.grownNe o5 (grown_set (grown_set (grown_set (grown_set (grown_set (grown_set (grown_set (grown_set (World.grownBy.refl _ _) _) _) _) _) _) _) _) _) (o5.not_box zz6)
    have HB6 : Hid (Below v2.heap.size v2 ((((((((wz.setCell ⟨g6, 0, none⟩ (.slice oa o.bib.binds.length oc)).setCell ⟨g6, 1, none⟩ (.slice ob o.bib.sess.length od)).setCell ⟨g6, 2, none⟩ (.int .i64 o.bind.proto)).setCell ⟨g6, 3, none⟩ (.string o.bind.inn)).setCell ⟨g6, 4, none⟩ (.int .i64 o.bind.inPort)).setCell ⟨g6, 5, none⟩ (.string o.bind.out)).setCell ⟨g6, 6, none⟩ (.int .i64 o.bind.outPort)).setCell ⟨g6, 7, none⟩ (.int .i64 o.code))) := ((((((((hz0.setCell (p := ⟨g6, 0, none⟩) b6' _).setCell (p := ⟨g6, 1, none⟩) b6' _).setCell (p := ⟨g6, 2, none⟩) b6' _).setCell (p := ⟨g6, 3, none⟩) b6' _).setCell (p := ⟨g6, 4, none⟩) b6' _).setCell (p := ⟨g6, 5, none⟩) b6' _).setCell (p := ⟨g6, 6, none⟩) b6' _).setCell (p := ⟨g6, 7, none⟩) b6' _)
    clear o5 zz6 b6 hz hz0
    unfold boC
    intro K5 hK5
    go_simp
    refine hK5 _ _ ?_
    show Exit.then _ _ _ _ _
    refine hK2 _ _ (hJ _ _ ?_)
    (repeat apply Exists.intro)
    exact ⟨⟨g6, oa, ob, oc, od, rfl, b6', HH6.out, HO6.out, HB6.out⟩, rfl⟩
  case rest =>
  obtain ⟨g3, oa3, ob3, oc3, od3, rfl, hgl, hgh, hgo, q⟩ := hcut
  generalize wc = v3 at *
  have A_3 : Hid (Below w.heap.size w v3) := A_2.out.trans (q.mono A_2.out.size)
  have P0_3 : Hid (HoldsL v3 w.heap.size [.slice a0 p0.addrs.length cap0, .int .i64 p0.low, .int .i64 p0.high, .int .i64 p0.most, .int .i64 p0.filter, .int .i64 p0.lv.udp, .int .i64 p0.lv.echo, .int .i64 p0.lv.opening, .int .i64 p0.lv.opn, .int .i64 p0.lv.closing]) := P0_2.out.kept (by simp) q
  have P1_3 : Hid (HoldsL v3 (w.heap.size + 1) [.slice a1 y1.binds.length ca1, .slice b1 y1.sess.length cb1]) := P1_2.out.kept (by simp) q
  clear A_2 P0_2 P1_2
  have hz103 : v2.heap.size ≤ v3.heap.size := q.size
  clear q
  have S_3 : Hid (HoldsL v3 g3 [.slice oa3 o.bib.binds.length oc3, .slice ob3 o.bib.sess.length od3, .int .i64 o.bind.proto, .string o.bind.inn, .int .i64 o.bind.inPort, .string o.bind.out, .int .i64 o.bind.outPort, .int .i64 o.code]) := hgh
  have So_3 : Hid (BbIn v2.heap.size v3.heap.size v3 oa3 ob3 o.bib) := BbIn.of_own hgo (Nat.le_refl _)
  have hSl : g3 < v3.heap.size := hgh.lt (by simp)
  have hSg : v2.heap.size ≤ g3 := hgl
  clear hgh hgo hgl
  have cP00 : v3.cell? ⟨w.heap.size, 0, none⟩ = some (.slice a0 p0.addrs.length cap0) := P0_3.out.cell rfl
  have cP01 : v3.cell? ⟨w.heap.size, 1, none⟩ = some (.int .i64 p0.low) := P0_3.out.cell rfl
  have cP02 : v3.cell? ⟨w.heap.size, 2, none⟩ = some (.int .i64 p0.high) := P0_3.out.cell rfl
  have cP03 : v3.cell? ⟨w.heap.size, 3, none⟩ = some (.int .i64 p0.most) := P0_3.out.cell rfl
  have cP04 : v3.cell? ⟨w.heap.size, 4, none⟩ = some (.int .i64 p0.filter) := P0_3.out.cell rfl
  have cP05 : v3.cell? ⟨w.heap.size, 5, none⟩ = some (.int .i64 p0.lv.udp) := P0_3.out.cell rfl
  have cP06 : v3.cell? ⟨w.heap.size, 6, none⟩ = some (.int .i64 p0.lv.echo) := P0_3.out.cell rfl
  have cP07 : v3.cell? ⟨w.heap.size, 7, none⟩ = some (.int .i64 p0.lv.opening) := P0_3.out.cell rfl
  have cP08 : v3.cell? ⟨w.heap.size, 8, none⟩ = some (.int .i64 p0.lv.opn) := P0_3.out.cell rfl
  have cP09 : v3.cell? ⟨w.heap.size, 9, none⟩ = some (.int .i64 p0.lv.closing) := P0_3.out.cell rfl
  go_wp2_with fail
  refine (toPool_any p0 a0 cap0 _ hpl (HX0.out.below A_3.out)).mono ?_
  rintro e v4 ⟨⟨g4, rfl, hg, hl⟩, q⟩
  clear cP00 cP01 cP02 cP03 cP04 cP05 cP06 cP07 cP08 cP09
  have A_4 : Hid (Below w.heap.size w v4) := A_3.out.trans (q.mono A_3.out.size)
  have P0_4 : Hid (HoldsL v4 w.heap.size [.slice a0 p0.addrs.length cap0, .int .i64 p0.low, .int .i64 p0.high, .int .i64 p0.most, .int .i64 p0.filter, .int .i64 p0.lv.udp, .int .i64 p0.lv.echo, .int .i64 p0.lv.opening, .int .i64 p0.lv.opn, .int .i64 p0.lv.closing]) := P0_3.out.kept (by simp) q
  have P1_4 : Hid (HoldsL v4 (w.heap.size + 1) [.slice a1 y1.binds.length ca1, .slice b1 y1.sess.length cb1]) := P1_3.out.kept (by simp) q
  have S_4 : Hid (HoldsL v4 g3 [.slice oa3 o.bib.binds.length oc3, .slice ob3 o.bib.sess.length od3, .int .i64 o.bind.proto, .string o.bind.inn, .int .i64 o.bind.inPort, .string o.bind.out, .int .i64 o.bind.outPort, .int .i64 o.code]) := S_3.out.kept (by simp) q
  have So_4 : Hid (BbIn v2.heap.size v3.heap.size v4 oa3 ob3 o.bib) := So_3.out.kept q
  clear A_3 P0_3 P1_3 S_3 So_3
  have hz104 : v3.heap.size ≤ v4.heap.size := q.size
  clear q
  have T0_4 : Hid (SlLaid strL1 1 v4 g4 p0.addrs p0.addrs.length p0.addrs.length) := hl
  have hgx := hg
  clear hg hl
  unfold plC
  have hT : SlIn strL1 1 v3.heap.size v4.heap.size v4 (some ⟨g4, 0, none⟩) p0.addrs := .inr ⟨g4, rfl, hgx, T0_4.out.blk, T0_4.out⟩
  clear T0_4
  have T0_4 : Hid (SlIn strL1 1 v3.heap.size v4.heap.size v4 (some ⟨g4, 0, none⟩) p0.addrs) := hT
  clear hT
  go_upto_region 12 with fail
  have bn : Below v4.heap.size v4 (v4.alloc (.cells #[.slice (some ⟨g4, 0, none⟩) p0.addrs.length p0.addrs.length, .int .i64 p0.low, .int .i64 p0.high, .int .i64 p0.most, .int .i64 p0.filter, .int .i64 p0.lv.udp, .int .i64 p0.lv.echo, .int .i64 p0.lv.opening, .int .i64 p0.lv.opn, .int .i64 p0.lv.closing] 31)) := (Below.refl _ _).alloc (Nat.le_refl _) _
  have hn : HoldsL (v4.alloc (.cells #[.slice (some ⟨g4, 0, none⟩) p0.addrs.length p0.addrs.length, .int .i64 p0.low, .int .i64 p0.high, .int .i64 p0.most, .int .i64 p0.filter, .int .i64 p0.lv.udp, .int .i64 p0.lv.echo, .int .i64 p0.lv.opening, .int .i64 p0.lv.opn, .int .i64 p0.lv.closing] 31)) v4.heap.size [.slice (some ⟨g4, 0, none⟩) p0.addrs.length p0.addrs.length, .int .i64 p0.low, .int .i64 p0.high, .int .i64 p0.most, .int .i64 p0.filter, .int .i64 p0.lv.udp, .int .i64 p0.lv.echo, .int .i64 p0.lv.opening, .int .i64 p0.lv.opn, .int .i64 p0.lv.closing] := HoldsL.new v4 [.slice (some ⟨g4, 0, none⟩) p0.addrs.length p0.addrs.length, .int .i64 p0.low, .int .i64 p0.high, .int .i64 p0.most, .int .i64 p0.filter, .int .i64 p0.lv.udp, .int .i64 p0.lv.echo, .int .i64 p0.lv.opening, .int .i64 p0.lv.opn, .int .i64 p0.lv.closing] 31
  generalize v4.alloc (.cells #[.slice (some ⟨g4, 0, none⟩) p0.addrs.length p0.addrs.length, .int .i64 p0.low, .int .i64 p0.high, .int .i64 p0.most, .int .i64 p0.filter, .int .i64 p0.lv.udp, .int .i64 p0.lv.echo, .int .i64 p0.lv.opening, .int .i64 p0.lv.opn, .int .i64 p0.lv.closing] 31) = v5 at *
  have A_5 : Hid (Below w.heap.size w v5) := A_4.out.trans (bn.mono A_4.out.size)
  have P0_5 : Hid (HoldsL v5 w.heap.size [.slice a0 p0.addrs.length cap0, .int .i64 p0.low, .int .i64 p0.high, .int .i64 p0.most, .int .i64 p0.filter, .int .i64 p0.lv.udp, .int .i64 p0.lv.echo, .int .i64 p0.lv.opening, .int .i64 p0.lv.opn, .int .i64 p0.lv.closing]) := P0_4.out.kept (by simp) bn
  have P1_5 : Hid (HoldsL v5 (w.heap.size + 1) [.slice a1 y1.binds.length ca1, .slice b1 y1.sess.length cb1]) := P1_4.out.kept (by simp) bn
  have S_5 : Hid (HoldsL v5 g3 [.slice oa3 o.bib.binds.length oc3, .slice ob3 o.bib.sess.length od3, .int .i64 o.bind.proto, .string o.bind.inn, .int .i64 o.bind.inPort, .string o.bind.out, .int .i64 o.bind.outPort, .int .i64 o.code]) := S_4.out.kept (by simp) bn
  have So_5 : Hid (BbIn v2.heap.size v3.heap.size v5 oa3 ob3 o.bib) := So_4.out.kept bn
  have T0_5 : Hid (SlIn strL1 1 v3.heap.size v4.heap.size v5 (some ⟨g4, 0, none⟩) p0.addrs) := T0_4.out.kept bn
  clear A_4 P0_4 P1_4 S_4 So_4 T0_4
  have hz105 : v4.heap.size ≤ v5.heap.size := bn.size
  have X_5 : Hid (HoldsL v5 v4.heap.size [.slice (some ⟨g4, 0, none⟩) p0.addrs.length p0.addrs.length, .int .i64 p0.low, .int .i64 p0.high, .int .i64 p0.most, .int .i64 p0.filter, .int .i64 p0.lv.udp, .int .i64 p0.lv.echo, .int .i64 p0.lv.opening, .int .i64 p0.lv.opn, .int .i64 p0.lv.closing]) := hn
  have hXl : v4.heap.size < v5.heap.size := hn.lt (by simp)
  clear bn hn
  have cP10 : v5.cell? ⟨(w.heap.size + 1), 0, none⟩ = some (.slice a1 y1.binds.length ca1) := P1_5.out.cell rfl
  have cP11 : v5.cell? ⟨(w.heap.size + 1), 1, none⟩ = some (.slice b1 y1.sess.length cb1) := P1_5.out.cell rfl
  go_wp2_with fail
  refine (toBib_any y1 a1 b1 ca1 cb1 _ hbl1 hbl2 (HX1.out.below A_5.out)).mono ?_
  rintro e v6 ⟨⟨ta6, tb6, tc6, td6, rfl, ho⟩, q⟩
  clear cP10 cP11
  have A_6 : Hid (Below w.heap.size w v6) := A_5.out.trans (q.mono A_5.out.size)
  have P0_6 : Hid (HoldsL v6 w.heap.size [.slice a0 p0.addrs.length cap0, .int .i64 p0.low, .int .i64 p0.high, .int .i64 p0.most, .int .i64 p0.filter, .int .i64 p0.lv.udp, .int .i64 p0.lv.echo, .int .i64 p0.lv.opening, .int .i64 p0.lv.opn, .int .i64 p0.lv.closing]) := P0_5.out.kept (by simp) q
  have P1_6 : Hid (HoldsL v6 (w.heap.size + 1) [.slice a1 y1.binds.length ca1, .slice b1 y1.sess.length cb1]) := P1_5.out.kept (by simp) q
  have S_6 : Hid (HoldsL v6 g3 [.slice oa3 o.bib.binds.length oc3, .slice ob3 o.bib.sess.length od3, .int .i64 o.bind.proto, .string o.bind.inn, .int .i64 o.bind.inPort, .string o.bind.out, .int .i64 o.bind.outPort, .int .i64 o.code]) := S_5.out.kept (by simp) q
  have So_6 : Hid (BbIn v2.heap.size v3.heap.size v6 oa3 ob3 o.bib) := So_5.out.kept q
  have T0_6 : Hid (SlIn strL1 1 v3.heap.size v4.heap.size v6 (some ⟨g4, 0, none⟩) p0.addrs) := T0_5.out.kept q
  have X_6 : Hid (HoldsL v6 v4.heap.size [.slice (some ⟨g4, 0, none⟩) p0.addrs.length p0.addrs.length, .int .i64 p0.low, .int .i64 p0.high, .int .i64 p0.most, .int .i64 p0.filter, .int .i64 p0.lv.udp, .int .i64 p0.lv.echo, .int .i64 p0.lv.opening, .int .i64 p0.lv.opn, .int .i64 p0.lv.closing]) := X_5.out.kept (by simp) q
  clear A_5 P0_5 P1_5 S_5 So_5 T0_5 X_5
  have hz106 : v5.heap.size ≤ v6.heap.size := q.size
  clear q
  have T1_6 : Hid (BbOwn v5.heap.size v6 ta6 tb6 y1) := ho
  clear ho
  unfold bbC
  have hT : BbIn v5.heap.size v6.heap.size v6 ta6 tb6 y1 := BbIn.of_own T1_6.out (Nat.le_refl _)
  clear T1_6
  have T1_6 : Hid (BbIn v5.heap.size v6.heap.size v6 ta6 tb6 y1) := hT
  clear hT
  go_upto_region 13 with fail
  have bn : Below v6.heap.size v6 (v6.alloc (.cells #[.slice ta6 y1.binds.length tc6, .slice tb6 y1.sess.length td6] 44)) := (Below.refl _ _).alloc (Nat.le_refl _) _
  have hn : HoldsL (v6.alloc (.cells #[.slice ta6 y1.binds.length tc6, .slice tb6 y1.sess.length td6] 44)) v6.heap.size [.slice ta6 y1.binds.length tc6, .slice tb6 y1.sess.length td6] := HoldsL.new v6 [.slice ta6 y1.binds.length tc6, .slice tb6 y1.sess.length td6] 44
  generalize v6.alloc (.cells #[.slice ta6 y1.binds.length tc6, .slice tb6 y1.sess.length td6] 44) = v7 at *
  have A_7 : Hid (Below w.heap.size w v7) := A_6.out.trans (bn.mono A_6.out.size)
  have P0_7 : Hid (HoldsL v7 w.heap.size [.slice a0 p0.addrs.length cap0, .int .i64 p0.low, .int .i64 p0.high, .int .i64 p0.most, .int .i64 p0.filter, .int .i64 p0.lv.udp, .int .i64 p0.lv.echo, .int .i64 p0.lv.opening, .int .i64 p0.lv.opn, .int .i64 p0.lv.closing]) := P0_6.out.kept (by simp) bn
  have P1_7 : Hid (HoldsL v7 (w.heap.size + 1) [.slice a1 y1.binds.length ca1, .slice b1 y1.sess.length cb1]) := P1_6.out.kept (by simp) bn
  have S_7 : Hid (HoldsL v7 g3 [.slice oa3 o.bib.binds.length oc3, .slice ob3 o.bib.sess.length od3, .int .i64 o.bind.proto, .string o.bind.inn, .int .i64 o.bind.inPort, .string o.bind.out, .int .i64 o.bind.outPort, .int .i64 o.code]) := S_6.out.kept (by simp) bn
  have So_7 : Hid (BbIn v2.heap.size v3.heap.size v7 oa3 ob3 o.bib) := So_6.out.kept bn
  have T0_7 : Hid (SlIn strL1 1 v3.heap.size v4.heap.size v7 (some ⟨g4, 0, none⟩) p0.addrs) := T0_6.out.kept bn
  have X_7 : Hid (HoldsL v7 v4.heap.size [.slice (some ⟨g4, 0, none⟩) p0.addrs.length p0.addrs.length, .int .i64 p0.low, .int .i64 p0.high, .int .i64 p0.most, .int .i64 p0.filter, .int .i64 p0.lv.udp, .int .i64 p0.lv.echo, .int .i64 p0.lv.opening, .int .i64 p0.lv.opn, .int .i64 p0.lv.closing]) := X_6.out.kept (by simp) bn
  have T1_7 : Hid (BbIn v5.heap.size v6.heap.size v7 ta6 tb6 y1) := T1_6.out.kept bn
  clear A_6 P0_6 P1_6 S_6 So_6 T0_6 X_6 T1_6
  have hz107 : v6.heap.size ≤ v7.heap.size := bn.size
  have Y_7 : Hid (HoldsL v7 v6.heap.size [.slice ta6 y1.binds.length tc6, .slice tb6 y1.sess.length td6]) := hn
  have hYl : v6.heap.size < v7.heap.size := hn.lt (by simp)
  clear bn hn
  have cX0 : v7.cell? ⟨v4.heap.size, 0, none⟩ = some (.slice (some ⟨g4, 0, none⟩) p0.addrs.length p0.addrs.length) := X_7.out.cell rfl
  have cX1 : v7.cell? ⟨v4.heap.size, 1, none⟩ = some (.int .i64 p0.low) := X_7.out.cell rfl
  have cX2 : v7.cell? ⟨v4.heap.size, 2, none⟩ = some (.int .i64 p0.high) := X_7.out.cell rfl
  have cX3 : v7.cell? ⟨v4.heap.size, 3, none⟩ = some (.int .i64 p0.most) := X_7.out.cell rfl
  have cX4 : v7.cell? ⟨v4.heap.size, 4, none⟩ = some (.int .i64 p0.filter) := X_7.out.cell rfl
  have cX5 : v7.cell? ⟨v4.heap.size, 5, none⟩ = some (.int .i64 p0.lv.udp) := X_7.out.cell rfl
  have cX6 : v7.cell? ⟨v4.heap.size, 6, none⟩ = some (.int .i64 p0.lv.echo) := X_7.out.cell rfl
  have cX7 : v7.cell? ⟨v4.heap.size, 7, none⟩ = some (.int .i64 p0.lv.opening) := X_7.out.cell rfl
  have cX8 : v7.cell? ⟨v4.heap.size, 8, none⟩ = some (.int .i64 p0.lv.opn) := X_7.out.cell rfl
  have cX9 : v7.cell? ⟨v4.heap.size, 9, none⟩ = some (.int .i64 p0.lv.closing) := X_7.out.cell rfl
  have cY0 : v7.cell? ⟨v6.heap.size, 0, none⟩ = some (.slice ta6 y1.binds.length tc6) := Y_7.out.cell rfl
  have cY1 : v7.cell? ⟨v6.heap.size, 1, none⟩ = some (.slice tb6 y1.sess.length td6) := Y_7.out.cell rfl
  go_wp2_with fail
  refine (HIP.out _ _ _ _ _ _ A_7.out T0_7.out.is T1_7.out.is).mono ?_
  rintro e v8 ⟨⟨ga, gb, gc, gd, rfl, hgo⟩, q⟩
  clear cX0 cX1 cX2 cX3 cX4 cX5 cX6 cX7 cX8 cX9 cY0 cY1
  have A_8 : Hid (Below w.heap.size w v8) := A_7.out.trans (q.mono A_7.out.size)
  have P0_8 : Hid (HoldsL v8 w.heap.size [.slice a0 p0.addrs.length cap0, .int .i64 p0.low, .int .i64 p0.high, .int .i64 p0.most, .int .i64 p0.filter, .int .i64 p0.lv.udp, .int .i64 p0.lv.echo, .int .i64 p0.lv.opening, .int .i64 p0.lv.opn, .int .i64 p0.lv.closing]) := P0_7.out.kept (by simp) q
  have P1_8 : Hid (HoldsL v8 (w.heap.size + 1) [.slice a1 y1.binds.length ca1, .slice b1 y1.sess.length cb1]) := P1_7.out.kept (by simp) q
  have S_8 : Hid (HoldsL v8 g3 [.slice oa3 o.bib.binds.length oc3, .slice ob3 o.bib.sess.length od3, .int .i64 o.bind.proto, .string o.bind.inn, .int .i64 o.bind.inPort, .string o.bind.out, .int .i64 o.bind.outPort, .int .i64 o.code]) := S_7.out.kept (by simp) q
  have So_8 : Hid (BbIn v2.heap.size v3.heap.size v8 oa3 ob3 o.bib) := So_7.out.kept q
  have T0_8 : Hid (SlIn strL1 1 v3.heap.size v4.heap.size v8 (some ⟨g4, 0, none⟩) p0.addrs) := T0_7.out.kept q
  have X_8 : Hid (HoldsL v8 v4.heap.size [.slice (some ⟨g4, 0, none⟩) p0.addrs.length p0.addrs.length, .int .i64 p0.low, .int .i64 p0.high, .int .i64 p0.most, .int .i64 p0.filter, .int .i64 p0.lv.udp, .int .i64 p0.lv.echo, .int .i64 p0.lv.opening, .int .i64 p0.lv.opn, .int .i64 p0.lv.closing]) := X_7.out.kept (by simp) q
  have T1_8 : Hid (BbIn v5.heap.size v6.heap.size v8 ta6 tb6 y1) := T1_7.out.kept q
  have Y_8 : Hid (HoldsL v8 v6.heap.size [.slice ta6 y1.binds.length tc6, .slice tb6 y1.sess.length td6]) := Y_7.out.kept (by simp) q
  clear A_7 P0_7 P1_7 S_7 So_7 T0_7 X_7 T1_7 Y_7
  have hz108 : v7.heap.size ≤ v8.heap.size := q.size
  clear q
  unfold boC
  have Go_8 : Hid (BbIn v7.heap.size v8.heap.size v8 ga gb o.bib) := BbIn.of_own hgo (Nat.le_refl _)
  clear hgo
  go_upto_region 14 with fail
  have bn : Below v8.heap.size v8 (v8.alloc (.cells #[.slice ga o.bib.binds.length gc, .slice gb o.bib.sess.length gd, .int .i64 o.bind.proto, .string o.bind.inn, .int .i64 o.bind.inPort, .string o.bind.out, .int .i64 o.bind.outPort, .int .i64 o.code] 54)) := (Below.refl _ _).alloc (Nat.le_refl _) _
  have hn : HoldsL (v8.alloc (.cells #[.slice ga o.bib.binds.length gc, .slice gb o.bib.sess.length gd, .int .i64 o.bind.proto, .string o.bind.inn, .int .i64 o.bind.inPort, .string o.bind.out, .int .i64 o.bind.outPort, .int .i64 o.code] 54)) v8.heap.size [.slice ga o.bib.binds.length gc, .slice gb o.bib.sess.length gd, .int .i64 o.bind.proto, .string o.bind.inn, .int .i64 o.bind.inPort, .string o.bind.out, .int .i64 o.bind.outPort, .int .i64 o.code] := HoldsL.new v8 [.slice ga o.bib.binds.length gc, .slice gb o.bib.sess.length gd, .int .i64 o.bind.proto, .string o.bind.inn, .int .i64 o.bind.inPort, .string o.bind.out, .int .i64 o.bind.outPort, .int .i64 o.code] 54
  generalize v8.alloc (.cells #[.slice ga o.bib.binds.length gc, .slice gb o.bib.sess.length gd, .int .i64 o.bind.proto, .string o.bind.inn, .int .i64 o.bind.inPort, .string o.bind.out, .int .i64 o.bind.outPort, .int .i64 o.code] 54) = v9 at *
  have A_9 : Hid (Below w.heap.size w v9) := A_8.out.trans (bn.mono A_8.out.size)
  have P0_9 : Hid (HoldsL v9 w.heap.size [.slice a0 p0.addrs.length cap0, .int .i64 p0.low, .int .i64 p0.high, .int .i64 p0.most, .int .i64 p0.filter, .int .i64 p0.lv.udp, .int .i64 p0.lv.echo, .int .i64 p0.lv.opening, .int .i64 p0.lv.opn, .int .i64 p0.lv.closing]) := P0_8.out.kept (by simp) bn
  have P1_9 : Hid (HoldsL v9 (w.heap.size + 1) [.slice a1 y1.binds.length ca1, .slice b1 y1.sess.length cb1]) := P1_8.out.kept (by simp) bn
  have S_9 : Hid (HoldsL v9 g3 [.slice oa3 o.bib.binds.length oc3, .slice ob3 o.bib.sess.length od3, .int .i64 o.bind.proto, .string o.bind.inn, .int .i64 o.bind.inPort, .string o.bind.out, .int .i64 o.bind.outPort, .int .i64 o.code]) := S_8.out.kept (by simp) bn
  have So_9 : Hid (BbIn v2.heap.size v3.heap.size v9 oa3 ob3 o.bib) := So_8.out.kept bn
  have T0_9 : Hid (SlIn strL1 1 v3.heap.size v4.heap.size v9 (some ⟨g4, 0, none⟩) p0.addrs) := T0_8.out.kept bn
  have X_9 : Hid (HoldsL v9 v4.heap.size [.slice (some ⟨g4, 0, none⟩) p0.addrs.length p0.addrs.length, .int .i64 p0.low, .int .i64 p0.high, .int .i64 p0.most, .int .i64 p0.filter, .int .i64 p0.lv.udp, .int .i64 p0.lv.echo, .int .i64 p0.lv.opening, .int .i64 p0.lv.opn, .int .i64 p0.lv.closing]) := X_8.out.kept (by simp) bn
  have T1_9 : Hid (BbIn v5.heap.size v6.heap.size v9 ta6 tb6 y1) := T1_8.out.kept bn
  have Y_9 : Hid (HoldsL v9 v6.heap.size [.slice ta6 y1.binds.length tc6, .slice tb6 y1.sess.length td6]) := Y_8.out.kept (by simp) bn
  have Go_9 : Hid (BbIn v7.heap.size v8.heap.size v9 ga gb o.bib) := Go_8.out.kept bn
  clear A_8 P0_8 P1_8 S_8 So_8 T0_8 X_8 T1_8 Y_8 Go_8
  have hz109 : v8.heap.size ≤ v9.heap.size := bn.size
  have Z_9 : Hid (HoldsL v9 v8.heap.size [.slice ga o.bib.binds.length gc, .slice gb o.bib.sess.length gd, .int .i64 o.bind.proto, .string o.bind.inn, .int .i64 o.bind.inPort, .string o.bind.out, .int .i64 o.bind.outPort, .int .i64 o.code]) := hn
  have hZl : v8.heap.size < v9.heap.size := hn.lt (by simp)
  clear bn hn
  have cZ0 : v9.cell? ⟨v8.heap.size, 0, none⟩ = some (.slice ga o.bib.binds.length gc) := Z_9.out.cell rfl
  have cZ1 : v9.cell? ⟨v8.heap.size, 1, none⟩ = some (.slice gb o.bib.sess.length gd) := Z_9.out.cell rfl
  have cZ2 : v9.cell? ⟨v8.heap.size, 2, none⟩ = some (.int .i64 o.bind.proto) := Z_9.out.cell rfl
  have cZ3 : v9.cell? ⟨v8.heap.size, 3, none⟩ = some (.string o.bind.inn) := Z_9.out.cell rfl
  have cZ4 : v9.cell? ⟨v8.heap.size, 4, none⟩ = some (.int .i64 o.bind.inPort) := Z_9.out.cell rfl
  have cZ5 : v9.cell? ⟨v8.heap.size, 5, none⟩ = some (.string o.bind.out) := Z_9.out.cell rfl
  have cZ6 : v9.cell? ⟨v8.heap.size, 6, none⟩ = some (.int .i64 o.bind.outPort) := Z_9.out.cell rfl
  have cZ7 : v9.cell? ⟨v8.heap.size, 7, none⟩ = some (.int .i64 o.code) := Z_9.out.cell rfl
  have cS0 : v9.cell? ⟨g3, 0, none⟩ = some (.slice oa3 o.bib.binds.length oc3) := S_9.out.cell rfl
  have cS1 : v9.cell? ⟨g3, 1, none⟩ = some (.slice ob3 o.bib.sess.length od3) := S_9.out.cell rfl
  have cS2 : v9.cell? ⟨g3, 2, none⟩ = some (.int .i64 o.bind.proto) := S_9.out.cell rfl
  have cS3 : v9.cell? ⟨g3, 3, none⟩ = some (.string o.bind.inn) := S_9.out.cell rfl
  have cS4 : v9.cell? ⟨g3, 4, none⟩ = some (.int .i64 o.bind.inPort) := S_9.out.cell rfl
  have cS5 : v9.cell? ⟨g3, 5, none⟩ = some (.string o.bind.out) := S_9.out.cell rfl
  have cS6 : v9.cell? ⟨g3, 6, none⟩ = some (.int .i64 o.bind.outPort) := S_9.out.cell rfl
  have cS7 : v9.cell? ⟨g3, 7, none⟩ = some (.int .i64 o.code) := S_9.out.cell rfl
  go_wp2_with fail
  refine (eqBibOut_same o _ _ _ _ _ _ _ _ _ hol1 hol2 Go_9.out.is So_9.out.is).mono ?_
  rintro e v10 ⟨rfl, q⟩
  clear cZ0 cZ1 cZ2 cZ3 cZ4 cZ5 cZ6 cZ7 cS0 cS1 cS2 cS3 cS4 cS5 cS6 cS7
  have A_10 : Hid (Below w.heap.size w v10) := A_9.out.trans (q.mono A_9.out.size)
  have P0_10 : Hid (HoldsL v10 w.heap.size [.slice a0 p0.addrs.length cap0, .int .i64 p0.low, .int .i64 p0.high, .int .i64 p0.most, .int .i64 p0.filter, .int .i64 p0.lv.udp, .int .i64 p0.lv.echo, .int .i64 p0.lv.opening, .int .i64 p0.lv.opn, .int .i64 p0.lv.closing]) := P0_9.out.kept (by simp) q
  have P1_10 : Hid (HoldsL v10 (w.heap.size + 1) [.slice a1 y1.binds.length ca1, .slice b1 y1.sess.length cb1]) := P1_9.out.kept (by simp) q
  have S_10 : Hid (HoldsL v10 g3 [.slice oa3 o.bib.binds.length oc3, .slice ob3 o.bib.sess.length od3, .int .i64 o.bind.proto, .string o.bind.inn, .int .i64 o.bind.inPort, .string o.bind.out, .int .i64 o.bind.outPort, .int .i64 o.code]) := S_9.out.kept (by simp) q
  have So_10 : Hid (BbIn v2.heap.size v3.heap.size v10 oa3 ob3 o.bib) := So_9.out.kept q
  have T0_10 : Hid (SlIn strL1 1 v3.heap.size v4.heap.size v10 (some ⟨g4, 0, none⟩) p0.addrs) := T0_9.out.kept q
  have X_10 : Hid (HoldsL v10 v4.heap.size [.slice (some ⟨g4, 0, none⟩) p0.addrs.length p0.addrs.length, .int .i64 p0.low, .int .i64 p0.high, .int .i64 p0.most, .int .i64 p0.filter, .int .i64 p0.lv.udp, .int .i64 p0.lv.echo, .int .i64 p0.lv.opening, .int .i64 p0.lv.opn, .int .i64 p0.lv.closing]) := X_9.out.kept (by simp) q
  have T1_10 : Hid (BbIn v5.heap.size v6.heap.size v10 ta6 tb6 y1) := T1_9.out.kept q
  have Y_10 : Hid (HoldsL v10 v6.heap.size [.slice ta6 y1.binds.length tc6, .slice tb6 y1.sess.length td6]) := Y_9.out.kept (by simp) q
  have Go_10 : Hid (BbIn v7.heap.size v8.heap.size v10 ga gb o.bib) := Go_9.out.kept q
  have Z_10 : Hid (HoldsL v10 v8.heap.size [.slice ga o.bib.binds.length gc, .slice gb o.bib.sess.length gd, .int .i64 o.bind.proto, .string o.bind.inn, .int .i64 o.bind.inPort, .string o.bind.out, .int .i64 o.bind.outPort, .int .i64 o.code]) := Z_9.out.kept (by simp) q
  clear A_9 P0_9 P1_9 S_9 So_9 T0_9 X_9 T1_9 Y_9 Go_9 Z_9
  have hz110 : v9.heap.size ≤ v10.heap.size := q.size
  clear q
  go_upto_region 16 with fail
  go_cut [59] (fun v wx => v = .bool false ∧ Below v10.heap.size v10 wx)
  case first =>
    rename_i J K2 hJ hK2
    clear hun
    have HCP : Hid (∀ wy, Below v10.drew.heap.size v10.drew wy → HoldsL wy v4.heap.size [.slice (some ⟨g4, 0, none⟩) p0.addrs.length p0.addrs.length, .int .i64 p0.low, .int .i64 p0.high, .int .i64 p0.most, .int .i64 p0.filter, .int .i64 p0.lv.udp, .int .i64 p0.lv.echo, .int .i64 p0.lv.opening, .int .i64 p0.lv.opn, .int .i64 p0.lv.closing] ∧ HoldsL wy w.heap.size [.slice a0 p0.addrs.length cap0, .int .i64 p0.low, .int .i64 p0.high, .int .i64 p0.most, .int .i64 p0.filter, .int .i64 p0.lv.udp, .int .i64 p0.lv.echo, .int .i64 p0.lv.opening, .int .i64 p0.lv.opn, .int .i64 p0.lv.closing] ∧ Below w.heap.size w wy ∧ Below v10.heap.size v10 wy) := fun wy hy => ⟨X_10.out.drew.kept (by simp) hy, P0_10.out.drew.kept (by simp) hy, A_10.out.drew.trans (hy.mono A_10.out.size), (Below.refl _ _).drew.trans hy⟩
    have HE : Hid (∀ wy b2, SlIs strL1 1 wy (some ⟨g4, 0, none⟩) p0.addrs → SlIs strL1 1 wy (some ⟨b2, 0, none⟩) p0.addrs → Calls Try.prog 12 #[.agg #[.slice (some ⟨g4, 0, none⟩) p0.addrs.length p0.addrs.length, .int .i64 p0.low, .int .i64 p0.high, .int .i64 p0.most, .int .i64 p0.filter, .int .i64 p0.lv.udp, .int .i64 p0.lv.echo, .int .i64 p0.lv.opening, .int .i64 p0.lv.opn, .int .i64 p0.lv.closing], plC (some ⟨b2, 0, none⟩) p0.addrs.length p0] wy fun e w' => e = .returned (.bool true) ∧ Below wy.heap.size wy w') := fun wy b2 h1 h2 => eqPool_same p0 _ _ _ _ wy hpl h1 h2
    refine wp_region_growH [55, 56, 57, 58, 59] (by kernel_rfl) (by kernel_rfl) ?_
    refine GCh.val (n := 0) (fun v => [IsV v]) (fun _ => rfl) rfl ?_
    apply Exists.intro
    refine And.intro ?_ ?_
    · intro K' a wy ho hd hb hK
      rw [if_pos (wanted_none rfl)]
      have o13 := ho 13 (by decide)
      simp [slot] at o13
      clear hd ho
      obtain ⟨hq1, hq2, -, -⟩ := HCP.out wy hb
      have u0 : wy.cell? ⟨v4.heap.size, 0, none⟩ = some (.slice (some ⟨g4, 0, none⟩) p0.addrs.length p0.addrs.length) := hq1.cell rfl
      have u1 : wy.cell? ⟨v4.heap.size, 1, none⟩ = some (.int .i64 p0.low) := hq1.cell rfl
      have u2 : wy.cell? ⟨v4.heap.size, 2, none⟩ = some (.int .i64 p0.high) := hq1.cell rfl
      have u3 : wy.cell? ⟨v4.heap.size, 3, none⟩ = some (.int .i64 p0.most) := hq1.cell rfl
      have u4 : wy.cell? ⟨v4.heap.size, 4, none⟩ = some (.int .i64 p0.filter) := hq1.cell rfl
      have u5 : wy.cell? ⟨v4.heap.size, 5, none⟩ = some (.int .i64 p0.lv.udp) := hq1.cell rfl
      have u6 : wy.cell? ⟨v4.heap.size, 6, none⟩ = some (.int .i64 p0.lv.echo) := hq1.cell rfl
      have u7 : wy.cell? ⟨v4.heap.size, 7, none⟩ = some (.int .i64 p0.lv.opening) := hq1.cell rfl
      have u8 : wy.cell? ⟨v4.heap.size, 8, none⟩ = some (.int .i64 p0.lv.opn) := hq1.cell rfl
      have u9 : wy.cell? ⟨v4.heap.size, 9, none⟩ = some (.int .i64 p0.lv.closing) := hq1.cell rfl
      have t0 : wy.cell? ⟨w.heap.size, 0, none⟩ = some (.slice a0 p0.addrs.length cap0) := hq2.cell rfl
      have t1 : wy.cell? ⟨w.heap.size, 1, none⟩ = some (.int .i64 p0.low) := hq2.cell rfl
      have t2 : wy.cell? ⟨w.heap.size, 2, none⟩ = some (.int .i64 p0.high) := hq2.cell rfl
      have t3 : wy.cell? ⟨w.heap.size, 3, none⟩ = some (.int .i64 p0.most) := hq2.cell rfl
      have t4 : wy.cell? ⟨w.heap.size, 4, none⟩ = some (.int .i64 p0.filter) := hq2.cell rfl
      have t5 : wy.cell? ⟨w.heap.size, 5, none⟩ = some (.int .i64 p0.lv.udp) := hq2.cell rfl
      have t6 : wy.cell? ⟨w.heap.size, 6, none⟩ = some (.int .i64 p0.lv.echo) := hq2.cell rfl
      have t7 : wy.cell? ⟨w.heap.size, 7, none⟩ = some (.int .i64 p0.lv.opening) := hq2.cell rfl
      have t8 : wy.cell? ⟨w.heap.size, 8, none⟩ = some (.int .i64 p0.lv.opn) := hq2.cell rfl
      have t9 : wy.cell? ⟨w.heap.size, 9, none⟩ = some (.int .i64 p0.lv.closing) := hq2.cell rfl
      go_simp
      try go_bits
      exact hK _ _ rfl (Below.refl _ _)
    refine GCh.val (n := 1) (fun v => [_, IsV v]) (fun _ => rfl) rfl ?_
    apply Exists.intro
    refine And.intro ?_ ?_
    · intro K' a wy ho hd hb hK
      rw [if_pos (wanted_none rfl)]
      have o5 := ho 5 (by decide)
      simp [slot] at o5
      clear hd ho
      obtain ⟨hq1, hq2, -, -⟩ := HCP.out wy hb
      have u0 : wy.cell? ⟨v4.heap.size, 0, none⟩ = some (.slice (some ⟨g4, 0, none⟩) p0.addrs.length p0.addrs.length) := hq1.cell rfl
      have u1 : wy.cell? ⟨v4.heap.size, 1, none⟩ = some (.int .i64 p0.low) := hq1.cell rfl
      have u2 : wy.cell? ⟨v4.heap.size, 2, none⟩ = some (.int .i64 p0.high) := hq1.cell rfl
      have u3 : wy.cell? ⟨v4.heap.size, 3, none⟩ = some (.int .i64 p0.most) := hq1.cell rfl
      have u4 : wy.cell? ⟨v4.heap.size, 4, none⟩ = some (.int .i64 p0.filter) := hq1.cell rfl
      have u5 : wy.cell? ⟨v4.heap.size, 5, none⟩ = some (.int .i64 p0.lv.udp) := hq1.cell rfl
      have u6 : wy.cell? ⟨v4.heap.size, 6, none⟩ = some (.int .i64 p0.lv.echo) := hq1.cell rfl
      have u7 : wy.cell? ⟨v4.heap.size, 7, none⟩ = some (.int .i64 p0.lv.opening) := hq1.cell rfl
      have u8 : wy.cell? ⟨v4.heap.size, 8, none⟩ = some (.int .i64 p0.lv.opn) := hq1.cell rfl
      have u9 : wy.cell? ⟨v4.heap.size, 9, none⟩ = some (.int .i64 p0.lv.closing) := hq1.cell rfl
      have t0 : wy.cell? ⟨w.heap.size, 0, none⟩ = some (.slice a0 p0.addrs.length cap0) := hq2.cell rfl
      have t1 : wy.cell? ⟨w.heap.size, 1, none⟩ = some (.int .i64 p0.low) := hq2.cell rfl
      have t2 : wy.cell? ⟨w.heap.size, 2, none⟩ = some (.int .i64 p0.high) := hq2.cell rfl
      have t3 : wy.cell? ⟨w.heap.size, 3, none⟩ = some (.int .i64 p0.most) := hq2.cell rfl
      have t4 : wy.cell? ⟨w.heap.size, 4, none⟩ = some (.int .i64 p0.filter) := hq2.cell rfl
      have t5 : wy.cell? ⟨w.heap.size, 5, none⟩ = some (.int .i64 p0.lv.udp) := hq2.cell rfl
      have t6 : wy.cell? ⟨w.heap.size, 6, none⟩ = some (.int .i64 p0.lv.echo) := hq2.cell rfl
      have t7 : wy.cell? ⟨w.heap.size, 7, none⟩ = some (.int .i64 p0.lv.opening) := hq2.cell rfl
      have t8 : wy.cell? ⟨w.heap.size, 8, none⟩ = some (.int .i64 p0.lv.opn) := hq2.cell rfl
      have t9 : wy.cell? ⟨w.heap.size, 9, none⟩ = some (.int .i64 p0.lv.closing) := hq2.cell rfl
      go_simp
      try go_bits
      exact hK _ _ rfl (Below.refl _ _)
    refine GCh.rel (n := 2) (IsPl v10.drew.heap.size p0) (stable_isPl _ _) [_, _, IsPl v10.drew.heap.size p0] rfl rfl ?_ ?_
    · intro K' a wy ho hd hb hK
      rw [if_pos (wanted_none rfl)]
      have q1 := hd ⟨1, .data⟩ (by simp) rfl
      simp [rAt, IsV, slot] at q1
      clear hd ho
      go_simp
      refine (toPool_any p0 a0 cap0 wy hpl (HX0.out.below (HCP.out wy hb).2.2.1)).mono ?_
      rintro e wz ⟨⟨gg, rfl, hg, hl⟩, hz⟩
      exact hK _ _ ⟨gg, rfl, Nat.le_trans hb.size hg, hl⟩ hz
    refine GCh.val (n := 3) (fun v => [_, _, _, IsV v]) (fun _ => rfl) rfl ?_
    apply Exists.intro
    refine And.intro ?_ ?_
    · intro K' a wy ho hd hb hK
      rw [if_pos (wanted_none rfl)]
      have q0 := hd ⟨0, .data⟩ (by simp) rfl
      simp [rAt, IsV, slot] at q0
      obtain ⟨g2, e2, b2, l2⟩ : IsPl v10.drew.heap.size p0 (slot a 57) wy := hd ⟨2, .data⟩ (by simp) rfl
      simp [slot] at e2
      clear hd ho
      go_simp
      refine (HE.out wy g2 (T0_10.out.kept (HCP.out wy hb).2.2.2).is l2.is).mono ?_
      rintro e wz ⟨rfl, hz⟩
      exact hK _ _ rfl hz
    refine GCh.val (n := 4) (fun v => [_, _, _, _, IsV v]) (fun _ => rfl) rfl ?_
    apply Exists.intro
    refine And.intro ?_ ?_
    · intro K' a wy ho hd hb hK
      rw [if_pos (wanted_none rfl)]
      have q3 := hd ⟨3, .data⟩ (by simp) rfl
      simp [rAt, IsV, slot] at q3
      clear hd ho
      go_simp
      try go_bits
      exact hK _ _ rfl (Below.refl _ _)
    intro X wz hR hz
    obtain ⟨x0, x1, x2, x3, x4, -⟩ := hR
    obtain ⟨g2, e2, -, -⟩ := x2
    simp only [IsV] at x0 x1 x3 x4
    simp only [putsFrom, x0, x1, e2, x3, x4]
    clear x0 x1 x3 x4
    go_simp
    refine hK2 _ _ (hJ _ _ ?_)
    (repeat apply Exists.intro)
    refine ⟨⟨rfl, (Below.refl _ _).drew.trans hz⟩, rfl⟩
  case rest =>
  obtain ⟨rfl, q⟩ := hcut
  generalize wc = v11 at *
  have A_11 : Hid (Below w.heap.size w v11) := A_10.out.trans (q.mono A_10.out.size)
  have P0_11 : Hid (HoldsL v11 w.heap.size [.slice a0 p0.addrs.length cap0, .int .i64 p0.low, .int .i64 p0.high, .int .i64 p0.most, .int .i64 p0.filter, .int .i64 p0.lv.udp, .int .i64 p0.lv.echo, .int .i64 p0.lv.opening, .int .i64 p0.lv.opn, .int .i64 p0.lv.closing]) := P0_10.out.kept (by simp) q
  have P1_11 : Hid (HoldsL v11 (w.heap.size + 1) [.slice a1 y1.binds.length ca1, .slice b1 y1.sess.length cb1]) := P1_10.out.kept (by simp) q
  have S_11 : Hid (HoldsL v11 g3 [.slice oa3 o.bib.binds.length oc3, .slice ob3 o.bib.sess.length od3, .int .i64 o.bind.proto, .string o.bind.inn, .int .i64 o.bind.inPort, .string o.bind.out, .int .i64 o.bind.outPort, .int .i64 o.code]) := S_10.out.kept (by simp) q
  have So_11 : Hid (BbIn v2.heap.size v3.heap.size v11 oa3 ob3 o.bib) := So_10.out.kept q
  have T0_11 : Hid (SlIn strL1 1 v3.heap.size v4.heap.size v11 (some ⟨g4, 0, none⟩) p0.addrs) := T0_10.out.kept q
  have X_11 : Hid (HoldsL v11 v4.heap.size [.slice (some ⟨g4, 0, none⟩) p0.addrs.length p0.addrs.length, .int .i64 p0.low, .int .i64 p0.high, .int .i64 p0.most, .int .i64 p0.filter, .int .i64 p0.lv.udp, .int .i64 p0.lv.echo, .int .i64 p0.lv.opening, .int .i64 p0.lv.opn, .int .i64 p0.lv.closing]) := X_10.out.kept (by simp) q
  have T1_11 : Hid (BbIn v5.heap.size v6.heap.size v11 ta6 tb6 y1) := T1_10.out.kept q
  have Y_11 : Hid (HoldsL v11 v6.heap.size [.slice ta6 y1.binds.length tc6, .slice tb6 y1.sess.length td6]) := Y_10.out.kept (by simp) q
  have Go_11 : Hid (BbIn v7.heap.size v8.heap.size v11 ga gb o.bib) := Go_10.out.kept q
  have Z_11 : Hid (HoldsL v11 v8.heap.size [.slice ga o.bib.binds.length gc, .slice gb o.bib.sess.length gd, .int .i64 o.bind.proto, .string o.bind.inn, .int .i64 o.bind.inPort, .string o.bind.out, .int .i64 o.bind.outPort, .int .i64 o.code]) := Z_10.out.kept (by simp) q
  clear A_10 P0_10 P1_10 S_10 So_10 T0_10 X_10 T1_10 Y_10 Go_10 Z_10
  have hz111 : v10.heap.size ≤ v11.heap.size := q.size
  clear q
  go_upto_region 18 with fail
  go_cut [64] (fun v wx => v = .bool false ∧ Below v11.heap.size v11 wx)
  case first =>
    rename_i J K2 hJ hK2
    clear hun
    have HCP : Hid (∀ wy, Below v11.drew.heap.size v11.drew wy → HoldsL wy v6.heap.size [.slice ta6 y1.binds.length tc6, .slice tb6 y1.sess.length td6] ∧ HoldsL wy (w.heap.size + 1) [.slice a1 y1.binds.length ca1, .slice b1 y1.sess.length cb1] ∧ Below w.heap.size w wy ∧ Below v11.heap.size v11 wy) := fun wy hy => ⟨Y_11.out.drew.kept (by simp) hy, P1_11.out.drew.kept (by simp) hy, A_11.out.drew.trans (hy.mono A_11.out.size), (Below.refl _ _).drew.trans hy⟩
    have HE : Hid (∀ wy xa xb xc xd, BbIs wy ta6 tb6 y1 → BbIs wy xa xb y1 → Calls Try.prog 17 #[.agg #[.slice ta6 y1.binds.length tc6, .slice tb6 y1.sess.length td6], bbC xa xb xc xd y1] wy fun e w' => e = .returned (.bool true) ∧ Below wy.heap.size wy w') := fun wy xa xb xc xd h1 h2 => eqBib_same y1 _ _ _ _ _ _ _ _ wy hbl1 hbl2 h1 h2
    refine wp_region_growH [60, 61, 62, 63, 64] (by kernel_rfl) (by kernel_rfl) ?_
    refine GCh.val (n := 0) (fun v => [IsV v]) (fun _ => rfl) rfl ?_
    apply Exists.intro
    refine And.intro ?_ ?_
    · intro K' a wy ho hd hb hK
      rw [if_pos (wanted_none rfl)]
      have o14 := ho 14 (by decide)
      simp [slot] at o14
      clear hd ho
      obtain ⟨hq1, hq2, -, -⟩ := HCP.out wy hb
      have u0 : wy.cell? ⟨v6.heap.size, 0, none⟩ = some (.slice ta6 y1.binds.length tc6) := hq1.cell rfl
      have u1 : wy.cell? ⟨v6.heap.size, 1, none⟩ = some (.slice tb6 y1.sess.length td6) := hq1.cell rfl
      have t0 : wy.cell? ⟨(w.heap.size + 1), 0, none⟩ = some (.slice a1 y1.binds.length ca1) := hq2.cell rfl
      have t1 : wy.cell? ⟨(w.heap.size + 1), 1, none⟩ = some (.slice b1 y1.sess.length cb1) := hq2.cell rfl
      go_simp
      try go_bits
      exact hK _ _ rfl (Below.refl _ _)
    refine GCh.val (n := 1) (fun v => [_, IsV v]) (fun _ => rfl) rfl ?_
    apply Exists.intro
    refine And.intro ?_ ?_
    · intro K' a wy ho hd hb hK
      rw [if_pos (wanted_none rfl)]
      have o6 := ho 6 (by decide)
      simp [slot] at o6
      clear hd ho
      obtain ⟨hq1, hq2, -, -⟩ := HCP.out wy hb
      have u0 : wy.cell? ⟨v6.heap.size, 0, none⟩ = some (.slice ta6 y1.binds.length tc6) := hq1.cell rfl
      have u1 : wy.cell? ⟨v6.heap.size, 1, none⟩ = some (.slice tb6 y1.sess.length td6) := hq1.cell rfl
      have t0 : wy.cell? ⟨(w.heap.size + 1), 0, none⟩ = some (.slice a1 y1.binds.length ca1) := hq2.cell rfl
      have t1 : wy.cell? ⟨(w.heap.size + 1), 1, none⟩ = some (.slice b1 y1.sess.length cb1) := hq2.cell rfl
      go_simp
      try go_bits
      exact hK _ _ rfl (Below.refl _ _)
    refine GCh.rel (n := 2) (IsBb v11.drew.heap.size y1) (stable_isBb _ _) [_, _, IsBb v11.drew.heap.size y1] rfl rfl ?_ ?_
    · intro K' a wy ho hd hb hK
      rw [if_pos (wanted_none rfl)]
      have q1 := hd ⟨1, .data⟩ (by simp) rfl
      simp [rAt, IsV, slot] at q1
      clear hd ho
      go_simp
      refine (toBib_any y1 a1 b1 ca1 cb1 wy hbl1 hbl2 (HX1.out.below (HCP.out wy hb).2.2.1)).mono ?_
      rintro e wz ⟨⟨xa, xb, xc, xd, rfl, hl⟩, hz⟩
      exact hK _ _ ⟨xa, xb, xc, xd, rfl, hl.low hb.size⟩ hz
    refine GCh.val (n := 3) (fun v => [_, _, _, IsV v]) (fun _ => rfl) rfl ?_
    apply Exists.intro
    refine And.intro ?_ ?_
    · intro K' a wy ho hd hb hK
      rw [if_pos (wanted_none rfl)]
      have q0 := hd ⟨0, .data⟩ (by simp) rfl
      simp [rAt, IsV, slot] at q0
      obtain ⟨xa, xb, xc, xd, e2, l2⟩ : IsBb v11.drew.heap.size y1 (slot a 62) wy := hd ⟨2, .data⟩ (by simp) rfl
      simp [slot] at e2
      clear hd ho
      go_simp
      refine (HE.out wy xa xb xc xd (T1_11.out.kept (HCP.out wy hb).2.2.2).is l2.is).mono ?_
      rintro e wz ⟨rfl, hz⟩
      exact hK _ _ rfl hz
    refine GCh.val (n := 4) (fun v => [_, _, _, _, IsV v]) (fun _ => rfl) rfl ?_
    apply Exists.intro
    refine And.intro ?_ ?_
    · intro K' a wy ho hd hb hK
      rw [if_pos (wanted_none rfl)]
      have q3 := hd ⟨3, .data⟩ (by simp) rfl
      simp [rAt, IsV, slot] at q3
      clear hd ho
      go_simp
      try go_bits
      exact hK _ _ rfl (Below.refl _ _)
    intro X wz hR hz
    obtain ⟨x0, x1, x2, x3, x4, -⟩ := hR
    obtain ⟨xa, xb, xc, xd, e2, -⟩ := x2
    simp only [IsV] at x0 x1 x3 x4
    simp only [putsFrom, x0, x1, e2, x3, x4]
    clear x0 x1 x3 x4
    go_simp
    refine hK2 _ _ (hJ _ _ ?_)
    (repeat apply Exists.intro)
    refine ⟨⟨rfl, (Below.refl _ _).drew.trans hz⟩, rfl⟩
  case rest =>
  obtain ⟨rfl, q⟩ := hcut
  generalize wc = v12 at *
  have A_12 : Hid (Below w.heap.size w v12) := A_11.out.trans (q.mono A_11.out.size)
  have P0_12 : Hid (HoldsL v12 w.heap.size [.slice a0 p0.addrs.length cap0, .int .i64 p0.low, .int .i64 p0.high, .int .i64 p0.most, .int .i64 p0.filter, .int .i64 p0.lv.udp, .int .i64 p0.lv.echo, .int .i64 p0.lv.opening, .int .i64 p0.lv.opn, .int .i64 p0.lv.closing]) := P0_11.out.kept (by simp) q
  have P1_12 : Hid (HoldsL v12 (w.heap.size + 1) [.slice a1 y1.binds.length ca1, .slice b1 y1.sess.length cb1]) := P1_11.out.kept (by simp) q
  have S_12 : Hid (HoldsL v12 g3 [.slice oa3 o.bib.binds.length oc3, .slice ob3 o.bib.sess.length od3, .int .i64 o.bind.proto, .string o.bind.inn, .int .i64 o.bind.inPort, .string o.bind.out, .int .i64 o.bind.outPort, .int .i64 o.code]) := S_11.out.kept (by simp) q
  have So_12 : Hid (BbIn v2.heap.size v3.heap.size v12 oa3 ob3 o.bib) := So_11.out.kept q
  have T0_12 : Hid (SlIn strL1 1 v3.heap.size v4.heap.size v12 (some ⟨g4, 0, none⟩) p0.addrs) := T0_11.out.kept q
  have X_12 : Hid (HoldsL v12 v4.heap.size [.slice (some ⟨g4, 0, none⟩) p0.addrs.length p0.addrs.length, .int .i64 p0.low, .int .i64 p0.high, .int .i64 p0.most, .int .i64 p0.filter, .int .i64 p0.lv.udp, .int .i64 p0.lv.echo, .int .i64 p0.lv.opening, .int .i64 p0.lv.opn, .int .i64 p0.lv.closing]) := X_11.out.kept (by simp) q
  have T1_12 : Hid (BbIn v5.heap.size v6.heap.size v12 ta6 tb6 y1) := T1_11.out.kept q
  have Y_12 : Hid (HoldsL v12 v6.heap.size [.slice ta6 y1.binds.length tc6, .slice tb6 y1.sess.length td6]) := Y_11.out.kept (by simp) q
  have Go_12 : Hid (BbIn v7.heap.size v8.heap.size v12 ga gb o.bib) := Go_11.out.kept q
  have Z_12 : Hid (HoldsL v12 v8.heap.size [.slice ga o.bib.binds.length gc, .slice gb o.bib.sess.length gd, .int .i64 o.bind.proto, .string o.bind.inn, .int .i64 o.bind.inPort, .string o.bind.out, .int .i64 o.bind.outPort, .int .i64 o.code]) := Z_11.out.kept (by simp) q
  clear A_11 P0_11 P1_11 S_11 So_11 T0_11 X_11 T1_11 Y_11 Go_11 Z_11
  have hz112 : v11.heap.size ≤ v12.heap.size := q.size
  clear q
  have cX0 : v12.cell? ⟨v4.heap.size, 0, none⟩ = some (.slice (some ⟨g4, 0, none⟩) p0.addrs.length p0.addrs.length) := X_12.out.cell rfl
  have cX1 : v12.cell? ⟨v4.heap.size, 1, none⟩ = some (.int .i64 p0.low) := X_12.out.cell rfl
  have cX2 : v12.cell? ⟨v4.heap.size, 2, none⟩ = some (.int .i64 p0.high) := X_12.out.cell rfl
  have cX3 : v12.cell? ⟨v4.heap.size, 3, none⟩ = some (.int .i64 p0.most) := X_12.out.cell rfl
  have cX4 : v12.cell? ⟨v4.heap.size, 4, none⟩ = some (.int .i64 p0.filter) := X_12.out.cell rfl
  have cX5 : v12.cell? ⟨v4.heap.size, 5, none⟩ = some (.int .i64 p0.lv.udp) := X_12.out.cell rfl
  have cX6 : v12.cell? ⟨v4.heap.size, 6, none⟩ = some (.int .i64 p0.lv.echo) := X_12.out.cell rfl
  have cX7 : v12.cell? ⟨v4.heap.size, 7, none⟩ = some (.int .i64 p0.lv.opening) := X_12.out.cell rfl
  have cX8 : v12.cell? ⟨v4.heap.size, 8, none⟩ = some (.int .i64 p0.lv.opn) := X_12.out.cell rfl
  have cX9 : v12.cell? ⟨v4.heap.size, 9, none⟩ = some (.int .i64 p0.lv.closing) := X_12.out.cell rfl
  obtain ⟨k1, hk1⟩ : ∃ k, k = 1 + 1 * p0.addrs.length := ⟨_, rfl⟩
  have HK1 : Hid (k1 = 1 + 1 * p0.addrs.length) := hk1
  have hk1a : 0 < k1 := by omega
  have hk1b : k1 ≤ 1048577 := by omega
  clear hk1
  obtain ⟨k2, hk2⟩ : ∃ k, k = k1 + 5 * y1.binds.length + 7 * y1.sess.length := ⟨_, rfl⟩
  have HK2 : Hid (k2 = k1 + 5 * y1.binds.length + 7 * y1.sess.length) := hk2
  clear hk2
  obtain ⟨k3, hk3⟩ : ∃ k, k = 1 + 5 * o.bib.binds.length + 7 * o.bib.sess.length := ⟨_, rfl⟩
  have HK3 : Hid (k3 = 1 + 5 * o.bib.binds.length + 7 * o.bib.sess.length) := hk3
  clear hk3
  go_wp2_with fail
  refine (markPool_out _ _ p0 _ _ 1 _ (by omega) (by omega) T0_12.out).mono ?_
  rw [← HK1.out]
  rintro e v13 ⟨rfl, oo⟩
  clear cX0 cX1 cX2 cX3 cX4 cX5 cX6 cX7 cX8 cX9
  have A_13 : Hid (Below w.heap.size w v13) := A_12.out.trans (oo.below (by omega) A_12.out.size)
  have P0_13 : Hid (HoldsL v13 w.heap.size [.slice a0 p0.addrs.length cap0, .int .i64 p0.low, .int .i64 p0.high, .int .i64 p0.most, .int .i64 p0.filter, .int .i64 p0.lv.udp, .int .i64 p0.lv.echo, .int .i64 p0.lv.opening, .int .i64 p0.lv.opn, .int .i64 p0.lv.closing]) := P0_12.out.outOf (by simp) oo (by omega)
  have P1_13 : Hid (HoldsL v13 (w.heap.size + 1) [.slice a1 y1.binds.length ca1, .slice b1 y1.sess.length cb1]) := P1_12.out.outOf (by simp) oo (by omega)
  have S_13 : Hid (HoldsL v13 g3 [.slice oa3 o.bib.binds.length oc3, .slice ob3 o.bib.sess.length od3, .int .i64 o.bind.proto, .string o.bind.inn, .int .i64 o.bind.inPort, .string o.bind.out, .int .i64 o.bind.outPort, .int .i64 o.code]) := S_12.out.outOf (by simp) oo (by omega)
  have So_13 : Hid (BbIn v2.heap.size v3.heap.size v13 oa3 ob3 o.bib) := So_12.out.outOf oo (by omega)
  have X_13 : Hid (HoldsL v13 v4.heap.size [.slice (some ⟨g4, 0, none⟩) p0.addrs.length p0.addrs.length, .int .i64 p0.low, .int .i64 p0.high, .int .i64 p0.most, .int .i64 p0.filter, .int .i64 p0.lv.udp, .int .i64 p0.lv.echo, .int .i64 p0.lv.opening, .int .i64 p0.lv.opn, .int .i64 p0.lv.closing]) := X_12.out.outOf (by simp) oo (by omega)
  have T1_13 : Hid (BbIn v5.heap.size v6.heap.size v13 ta6 tb6 y1) := T1_12.out.outOf oo (by omega)
  have Y_13 : Hid (HoldsL v13 v6.heap.size [.slice ta6 y1.binds.length tc6, .slice tb6 y1.sess.length td6]) := Y_12.out.outOf (by simp) oo (by omega)
  have Go_13 : Hid (BbIn v7.heap.size v8.heap.size v13 ga gb o.bib) := Go_12.out.outOf oo (by omega)
  have Z_13 : Hid (HoldsL v13 v8.heap.size [.slice ga o.bib.binds.length gc, .slice gb o.bib.sess.length gd, .int .i64 o.bind.proto, .string o.bind.inn, .int .i64 o.bind.inPort, .string o.bind.out, .int .i64 o.bind.outPort, .int .i64 o.code]) := Z_12.out.outOf (by simp) oo (by omega)
  have hz113 : v12.heap.size ≤ v13.heap.size := oo.size
  clear A_12 P0_12 P1_12 S_12 So_12 X_12 T1_12 Y_12 Go_12 Z_12
  clear oo
  clear T0_12
  clear X_13
  have cY0 : v13.cell? ⟨v6.heap.size, 0, none⟩ = some (.slice ta6 y1.binds.length tc6) := Y_13.out.cell rfl
  have cY1 : v13.cell? ⟨v6.heap.size, 1, none⟩ = some (.slice tb6 y1.sess.length td6) := Y_13.out.cell rfl
  go_wp2_with fail
  refine (markBib_out _ _ y1 _ _ _ _ k1 _ (by omega) (by omega) (by omega) T1_13.out).mono ?_
  rw [← HK2.out]
  rintro e v14 ⟨rfl, -, oo⟩
  clear cY0 cY1
  have A_14 : Hid (Below w.heap.size w v14) := A_13.out.trans (oo.below (by omega) A_13.out.size)
  have P0_14 : Hid (HoldsL v14 w.heap.size [.slice a0 p0.addrs.length cap0, .int .i64 p0.low, .int .i64 p0.high, .int .i64 p0.most, .int .i64 p0.filter, .int .i64 p0.lv.udp, .int .i64 p0.lv.echo, .int .i64 p0.lv.opening, .int .i64 p0.lv.opn, .int .i64 p0.lv.closing]) := P0_13.out.outOf (by simp) oo (by omega)
  have P1_14 : Hid (HoldsL v14 (w.heap.size + 1) [.slice a1 y1.binds.length ca1, .slice b1 y1.sess.length cb1]) := P1_13.out.outOf (by simp) oo (by omega)
  have S_14 : Hid (HoldsL v14 g3 [.slice oa3 o.bib.binds.length oc3, .slice ob3 o.bib.sess.length od3, .int .i64 o.bind.proto, .string o.bind.inn, .int .i64 o.bind.inPort, .string o.bind.out, .int .i64 o.bind.outPort, .int .i64 o.code]) := S_13.out.outOf (by simp) oo (by omega)
  have So_14 : Hid (BbIn v2.heap.size v3.heap.size v14 oa3 ob3 o.bib) := So_13.out.outOf oo (by omega)
  have Y_14 : Hid (HoldsL v14 v6.heap.size [.slice ta6 y1.binds.length tc6, .slice tb6 y1.sess.length td6]) := Y_13.out.outOf (by simp) oo (by omega)
  have Go_14 : Hid (BbIn v7.heap.size v8.heap.size v14 ga gb o.bib) := Go_13.out.outOf oo (by omega)
  have Z_14 : Hid (HoldsL v14 v8.heap.size [.slice ga o.bib.binds.length gc, .slice gb o.bib.sess.length gd, .int .i64 o.bind.proto, .string o.bind.inn, .int .i64 o.bind.inPort, .string o.bind.out, .int .i64 o.bind.outPort, .int .i64 o.code]) := Z_13.out.outOf (by simp) oo (by omega)
  have hz114 : v13.heap.size ≤ v14.heap.size := oo.size
  clear A_13 P0_13 P1_13 S_13 So_13 Y_13 Go_13 Z_13
  clear oo
  clear T1_13
  clear Y_14
  have cZ0 : v14.cell? ⟨v8.heap.size, 0, none⟩ = some (.slice ga o.bib.binds.length gc) := Z_14.out.cell rfl
  have cZ1 : v14.cell? ⟨v8.heap.size, 1, none⟩ = some (.slice gb o.bib.sess.length gd) := Z_14.out.cell rfl
  have cZ2 : v14.cell? ⟨v8.heap.size, 2, none⟩ = some (.int .i64 o.bind.proto) := Z_14.out.cell rfl
  have cZ3 : v14.cell? ⟨v8.heap.size, 3, none⟩ = some (.string o.bind.inn) := Z_14.out.cell rfl
  have cZ4 : v14.cell? ⟨v8.heap.size, 4, none⟩ = some (.int .i64 o.bind.inPort) := Z_14.out.cell rfl
  have cZ5 : v14.cell? ⟨v8.heap.size, 5, none⟩ = some (.string o.bind.out) := Z_14.out.cell rfl
  have cZ6 : v14.cell? ⟨v8.heap.size, 6, none⟩ = some (.int .i64 o.bind.outPort) := Z_14.out.cell rfl
  have cZ7 : v14.cell? ⟨v8.heap.size, 7, none⟩ = some (.int .i64 o.code) := Z_14.out.cell rfl
  have cS0 : v14.cell? ⟨g3, 0, none⟩ = some (.slice oa3 o.bib.binds.length oc3) := S_14.out.cell rfl
  have cS1 : v14.cell? ⟨g3, 1, none⟩ = some (.slice ob3 o.bib.sess.length od3) := S_14.out.cell rfl
  have cS2 : v14.cell? ⟨g3, 2, none⟩ = some (.int .i64 o.bind.proto) := S_14.out.cell rfl
  have cS3 : v14.cell? ⟨g3, 3, none⟩ = some (.string o.bind.inn) := S_14.out.cell rfl
  have cS4 : v14.cell? ⟨g3, 4, none⟩ = some (.int .i64 o.bind.inPort) := S_14.out.cell rfl
  have cS5 : v14.cell? ⟨g3, 5, none⟩ = some (.string o.bind.out) := S_14.out.cell rfl
  have cS6 : v14.cell? ⟨g3, 6, none⟩ = some (.int .i64 o.bind.outPort) := S_14.out.cell rfl
  have cS7 : v14.cell? ⟨g3, 7, none⟩ = some (.int .i64 o.code) := S_14.out.cell rfl
  go_wp2_with fail
  refine (eqBibOut_same o _ _ _ _ _ _ _ _ _ hol1 hol2 Go_14.out.is So_14.out.is).mono ?_
  rintro e v15 ⟨rfl, q⟩
  clear cZ0 cZ1 cZ2 cZ3 cZ4 cZ5 cZ6 cZ7 cS0 cS1 cS2 cS3 cS4 cS5 cS6 cS7
  have A_15 : Hid (Below w.heap.size w v15) := A_14.out.trans (q.mono A_14.out.size)
  have P0_15 : Hid (HoldsL v15 w.heap.size [.slice a0 p0.addrs.length cap0, .int .i64 p0.low, .int .i64 p0.high, .int .i64 p0.most, .int .i64 p0.filter, .int .i64 p0.lv.udp, .int .i64 p0.lv.echo, .int .i64 p0.lv.opening, .int .i64 p0.lv.opn, .int .i64 p0.lv.closing]) := P0_14.out.kept (by simp) q
  have P1_15 : Hid (HoldsL v15 (w.heap.size + 1) [.slice a1 y1.binds.length ca1, .slice b1 y1.sess.length cb1]) := P1_14.out.kept (by simp) q
  have S_15 : Hid (HoldsL v15 g3 [.slice oa3 o.bib.binds.length oc3, .slice ob3 o.bib.sess.length od3, .int .i64 o.bind.proto, .string o.bind.inn, .int .i64 o.bind.inPort, .string o.bind.out, .int .i64 o.bind.outPort, .int .i64 o.code]) := S_14.out.kept (by simp) q
  have So_15 : Hid (BbIn v2.heap.size v3.heap.size v15 oa3 ob3 o.bib) := So_14.out.kept q
  have Go_15 : Hid (BbIn v7.heap.size v8.heap.size v15 ga gb o.bib) := Go_14.out.kept q
  have Z_15 : Hid (HoldsL v15 v8.heap.size [.slice ga o.bib.binds.length gc, .slice gb o.bib.sess.length gd, .int .i64 o.bind.proto, .string o.bind.inn, .int .i64 o.bind.inPort, .string o.bind.out, .int .i64 o.bind.outPort, .int .i64 o.code]) := Z_14.out.kept (by simp) q
  clear A_14 P0_14 P1_14 S_14 So_14 Go_14 Z_14
  have hz115 : v14.heap.size ≤ v15.heap.size := q.size
  clear q
  have cZ0 : v15.cell? ⟨v8.heap.size, 0, none⟩ = some (.slice ga o.bib.binds.length gc) := Z_15.out.cell rfl
  have cZ1 : v15.cell? ⟨v8.heap.size, 1, none⟩ = some (.slice gb o.bib.sess.length gd) := Z_15.out.cell rfl
  have cZ2 : v15.cell? ⟨v8.heap.size, 2, none⟩ = some (.int .i64 o.bind.proto) := Z_15.out.cell rfl
  have cZ3 : v15.cell? ⟨v8.heap.size, 3, none⟩ = some (.string o.bind.inn) := Z_15.out.cell rfl
  have cZ4 : v15.cell? ⟨v8.heap.size, 4, none⟩ = some (.int .i64 o.bind.inPort) := Z_15.out.cell rfl
  have cZ5 : v15.cell? ⟨v8.heap.size, 5, none⟩ = some (.string o.bind.out) := Z_15.out.cell rfl
  have cZ6 : v15.cell? ⟨v8.heap.size, 6, none⟩ = some (.int .i64 o.bind.outPort) := Z_15.out.cell rfl
  have cZ7 : v15.cell? ⟨v8.heap.size, 7, none⟩ = some (.int .i64 o.code) := Z_15.out.cell rfl
  go_wp2_with fail
  refine (markBibOut_out _ _ o _ _ _ _ 1 _ (by omega) (by omega) (by omega) Go_15.out).mono ?_
  rw [← HK3.out]
  rintro e v16 ⟨rfl, hmk, oo⟩
  clear cZ0 cZ1 cZ2 cZ3 cZ4 cZ5 cZ6 cZ7
  have A_16 : Hid (Below w.heap.size w v16) := A_15.out.trans (oo.below (by omega) A_15.out.size)
  have P0_16 : Hid (HoldsL v16 w.heap.size [.slice a0 p0.addrs.length cap0, .int .i64 p0.low, .int .i64 p0.high, .int .i64 p0.most, .int .i64 p0.filter, .int .i64 p0.lv.udp, .int .i64 p0.lv.echo, .int .i64 p0.lv.opening, .int .i64 p0.lv.opn, .int .i64 p0.lv.closing]) := P0_15.out.outOf (by simp) oo (by omega)
  have P1_16 : Hid (HoldsL v16 (w.heap.size + 1) [.slice a1 y1.binds.length ca1, .slice b1 y1.sess.length cb1]) := P1_15.out.outOf (by simp) oo (by omega)
  have S_16 : Hid (HoldsL v16 g3 [.slice oa3 o.bib.binds.length oc3, .slice ob3 o.bib.sess.length od3, .int .i64 o.bind.proto, .string o.bind.inn, .int .i64 o.bind.inPort, .string o.bind.out, .int .i64 o.bind.outPort, .int .i64 o.code]) := S_15.out.outOf (by simp) oo (by omega)
  have So_16 : Hid (BbIn v2.heap.size v3.heap.size v16 oa3 ob3 o.bib) := So_15.out.outOf oo (by omega)
  have Z_16 : Hid (HoldsL v16 v8.heap.size [.slice ga o.bib.binds.length gc, .slice gb o.bib.sess.length gd, .int .i64 o.bind.proto, .string o.bind.inn, .int .i64 o.bind.inPort, .string o.bind.out, .int .i64 o.bind.outPort, .int .i64 o.code]) := Z_15.out.outOf (by simp) oo (by omega)
  have hz116 : v15.heap.size ≤ v16.heap.size := oo.size
  clear A_15 P0_15 P1_15 S_15 So_15 Z_15
  clear oo
  clear Go_15
  have M_16 : Hid (BbMk v7.heap.size v16 ga gb 1 o.bib.binds.length o.bib.sess.length) := hmk
  clear hmk
  have cZ0 : v16.cell? ⟨v8.heap.size, 0, none⟩ = some (.slice ga o.bib.binds.length gc) := Z_16.out.cell rfl
  have cZ1 : v16.cell? ⟨v8.heap.size, 1, none⟩ = some (.slice gb o.bib.sess.length gd) := Z_16.out.cell rfl
  have cZ2 : v16.cell? ⟨v8.heap.size, 2, none⟩ = some (.int .i64 o.bind.proto) := Z_16.out.cell rfl
  have cZ3 : v16.cell? ⟨v8.heap.size, 3, none⟩ = some (.string o.bind.inn) := Z_16.out.cell rfl
  have cZ4 : v16.cell? ⟨v8.heap.size, 4, none⟩ = some (.int .i64 o.bind.inPort) := Z_16.out.cell rfl
  have cZ5 : v16.cell? ⟨v8.heap.size, 5, none⟩ = some (.string o.bind.out) := Z_16.out.cell rfl
  have cZ6 : v16.cell? ⟨v8.heap.size, 6, none⟩ = some (.int .i64 o.bind.outPort) := Z_16.out.cell rfl
  have cZ7 : v16.cell? ⟨v8.heap.size, 7, none⟩ = some (.int .i64 o.code) := Z_16.out.cell rfl
  go_wp2_with fail
  refine (heldBibOut_own _ o ga gb gc gd 1 _ (by omega) (by omega) M_16.out).mono ?_
  rw [← HK3.out]
  rintro e v17 ⟨rfl, q⟩
  clear cZ0 cZ1 cZ2 cZ3 cZ4 cZ5 cZ6 cZ7
  have A_17 : Hid (Below w.heap.size w v17) := A_16.out.trans (q.mono A_16.out.size)
  have P0_17 : Hid (HoldsL v17 w.heap.size [.slice a0 p0.addrs.length cap0, .int .i64 p0.low, .int .i64 p0.high, .int .i64 p0.most, .int .i64 p0.filter, .int .i64 p0.lv.udp, .int .i64 p0.lv.echo, .int .i64 p0.lv.opening, .int .i64 p0.lv.opn, .int .i64 p0.lv.closing]) := P0_16.out.kept (by simp) q
  have P1_17 : Hid (HoldsL v17 (w.heap.size + 1) [.slice a1 y1.binds.length ca1, .slice b1 y1.sess.length cb1]) := P1_16.out.kept (by simp) q
  have S_17 : Hid (HoldsL v17 g3 [.slice oa3 o.bib.binds.length oc3, .slice ob3 o.bib.sess.length od3, .int .i64 o.bind.proto, .string o.bind.inn, .int .i64 o.bind.inPort, .string o.bind.out, .int .i64 o.bind.outPort, .int .i64 o.code]) := S_16.out.kept (by simp) q
  have So_17 : Hid (BbIn v2.heap.size v3.heap.size v17 oa3 ob3 o.bib) := So_16.out.kept q
  have Z_17 : Hid (HoldsL v17 v8.heap.size [.slice ga o.bib.binds.length gc, .slice gb o.bib.sess.length gd, .int .i64 o.bind.proto, .string o.bind.inn, .int .i64 o.bind.inPort, .string o.bind.out, .int .i64 o.bind.outPort, .int .i64 o.code]) := Z_16.out.kept (by simp) q
  have M_17 : Hid (BbMk v7.heap.size v17 ga gb 1 o.bib.binds.length o.bib.sess.length) := M_16.out.kept q
  clear A_16 P0_16 P1_16 S_16 So_16 Z_16 M_16
  have hz117 : v16.heap.size ≤ v17.heap.size := q.size
  clear q
  go_upto_region 33 with fail
  go_cut [19] (fun v wx => ∃ (g6 : Nat) (oa ob : Option Addr) (oc od : Nat), v = .pointer (some ⟨g6, 0, none⟩) ∧ v17.heap.size ≤ g6 ∧ HoldsL wx g6 [.slice oa o.bib.binds.length oc, .slice ob o.bib.sess.length od, .int .i64 o.bind.proto, .string o.bind.inn, .int .i64 o.bind.inPort, .string o.bind.out, .int .i64 o.bind.outPort, .int .i64 o.code] ∧ BbOwn v17.heap.size wx oa ob o.bib ∧ Below v17.heap.size v17 wx)
  case first =>
    rename_i J K2 hJ hK2
    clear hun
    have HCP : Hid (∀ wy, Below v17.drew.heap.size v17.drew wy → HoldsL wy w.heap.size [.slice a0 p0.addrs.length cap0, .int .i64 p0.low, .int .i64 p0.high, .int .i64 p0.most, .int .i64 p0.filter, .int .i64 p0.lv.udp, .int .i64 p0.lv.echo, .int .i64 p0.lv.opening, .int .i64 p0.lv.opn, .int .i64 p0.lv.closing] ∧ HoldsL wy (w.heap.size + 1) [.slice a1 y1.binds.length ca1, .slice b1 y1.sess.length cb1] ∧ Below w.heap.size w wy ∧ Below v17.heap.size v17 wy) := fun wy hy => ⟨P0_17.out.drew.kept (by simp) hy, P1_17.out.drew.kept (by simp) hy, A_17.out.drew.trans (hy.mono A_17.out.size), (Below.refl _ _).drew.trans hy⟩
    refine wp_region_growV [90, 91, 92, 93, 94, 95, 96, 97, 19] (by kernel_rfl) (by kernel_rfl) ?_
    refine GChV.val (n := 0) (fun v => [IsV v]) (fun _ => rfl) rfl ?_
    apply Exists.intro
    refine And.intro ?_ ?_
    · intro K' a wy ho hd hb hK
      rw [if_pos (wanted_none rfl)]
      have o5 := ho 5 (by decide)
      simp [slot] at o5
      clear hd ho
      obtain ⟨hq1, hq2, -, -⟩ := HCP.out wy hb
      have u0 : wy.cell? ⟨w.heap.size, 0, none⟩ = some (.slice a0 p0.addrs.length cap0) := hq1.cell rfl
      have u1 : wy.cell? ⟨w.heap.size, 1, none⟩ = some (.int .i64 p0.low) := hq1.cell rfl
      have u2 : wy.cell? ⟨w.heap.size, 2, none⟩ = some (.int .i64 p0.high) := hq1.cell rfl
      have u3 : wy.cell? ⟨w.heap.size, 3, none⟩ = some (.int .i64 p0.most) := hq1.cell rfl
      have u4 : wy.cell? ⟨w.heap.size, 4, none⟩ = some (.int .i64 p0.filter) := hq1.cell rfl
      have u5 : wy.cell? ⟨w.heap.size, 5, none⟩ = some (.int .i64 p0.lv.udp) := hq1.cell rfl
      have u6 : wy.cell? ⟨w.heap.size, 6, none⟩ = some (.int .i64 p0.lv.echo) := hq1.cell rfl
      have u7 : wy.cell? ⟨w.heap.size, 7, none⟩ = some (.int .i64 p0.lv.opening) := hq1.cell rfl
      have u8 : wy.cell? ⟨w.heap.size, 8, none⟩ = some (.int .i64 p0.lv.opn) := hq1.cell rfl
      have u9 : wy.cell? ⟨w.heap.size, 9, none⟩ = some (.int .i64 p0.lv.closing) := hq1.cell rfl
      have t0 : wy.cell? ⟨(w.heap.size + 1), 0, none⟩ = some (.slice a1 y1.binds.length ca1) := hq2.cell rfl
      have t1 : wy.cell? ⟨(w.heap.size + 1), 1, none⟩ = some (.slice b1 y1.sess.length cb1) := hq2.cell rfl
      go_simp
      try go_bits
      exact hK _ _ rfl (Below.refl _ _)
    refine GChV.rel (n := 1) (IsPl v17.drew.heap.size p0) (stable_isPl _ _) [_, IsPl v17.drew.heap.size p0] rfl rfl ?_ ?_
    · intro K' a wy ho hd hb hK
      rw [if_pos (wanted_none rfl)]
      have q0 := hd ⟨0, .data⟩ (by simp) rfl
      simp [rAt, IsV, slot] at q0
      clear hd ho
      go_simp
      refine (toPool_any p0 a0 cap0 wy hpl (HX0.out.below (HCP.out wy hb).2.2.1)).mono ?_
      rintro e wz ⟨⟨gg, rfl, hg, hl⟩, hz⟩
      exact hK _ _ ⟨gg, rfl, Nat.le_trans hb.size hg, hl⟩ hz
    refine GChV.val (n := 2) (fun v => [_, _, IsV v]) (fun _ => rfl) rfl ?_
    apply Exists.intro
    refine And.intro ?_ ?_
    · intro K' a wy ho hd hb hK
      rw [if_pos (wanted_none rfl)]
      have o6 := ho 6 (by decide)
      simp [slot] at o6
      clear hd ho
      obtain ⟨hq1, hq2, -, -⟩ := HCP.out wy hb
      have u0 : wy.cell? ⟨w.heap.size, 0, none⟩ = some (.slice a0 p0.addrs.length cap0) := hq1.cell rfl
      have u1 : wy.cell? ⟨w.heap.size, 1, none⟩ = some (.int .i64 p0.low) := hq1.cell rfl
      have u2 : wy.cell? ⟨w.heap.size, 2, none⟩ = some (.int .i64 p0.high) := hq1.cell rfl
      have u3 : wy.cell? ⟨w.heap.size, 3, none⟩ = some (.int .i64 p0.most) := hq1.cell rfl
      have u4 : wy.cell? ⟨w.heap.size, 4, none⟩ = some (.int .i64 p0.filter) := hq1.cell rfl
      have u5 : wy.cell? ⟨w.heap.size, 5, none⟩ = some (.int .i64 p0.lv.udp) := hq1.cell rfl
      have u6 : wy.cell? ⟨w.heap.size, 6, none⟩ = some (.int .i64 p0.lv.echo) := hq1.cell rfl
      have u7 : wy.cell? ⟨w.heap.size, 7, none⟩ = some (.int .i64 p0.lv.opening) := hq1.cell rfl
      have u8 : wy.cell? ⟨w.heap.size, 8, none⟩ = some (.int .i64 p0.lv.opn) := hq1.cell rfl
      have u9 : wy.cell? ⟨w.heap.size, 9, none⟩ = some (.int .i64 p0.lv.closing) := hq1.cell rfl
      have t0 : wy.cell? ⟨(w.heap.size + 1), 0, none⟩ = some (.slice a1 y1.binds.length ca1) := hq2.cell rfl
      have t1 : wy.cell? ⟨(w.heap.size + 1), 1, none⟩ = some (.slice b1 y1.sess.length cb1) := hq2.cell rfl
      go_simp
      try go_bits
      exact hK _ _ rfl (Below.refl _ _)
    refine GChV.rel (n := 3) (IsBb v17.drew.heap.size y1) (stable_isBb _ _) [_, _, _, IsBb v17.drew.heap.size y1] rfl rfl ?_ ?_
    · intro K' a wy ho hd hb hK
      rw [if_pos (wanted_none rfl)]
      have q2 := hd ⟨2, .data⟩ (by simp) rfl
      simp [rAt, IsV, slot] at q2
      clear hd ho
      go_simp
      refine (toBib_any y1 a1 b1 ca1 cb1 wy hbl1 hbl2 (HX1.out.below (HCP.out wy hb).2.2.1)).mono ?_
      rintro e wz ⟨⟨xa, xb, xc, xd, rfl, hl⟩, hz⟩
      exact hK _ _ ⟨xa, xb, xc, xd, rfl, hl.low hb.size⟩ hz
    refine GChV.val (n := 4) (fun v => [_, _, _, _, IsV v]) (fun _ => rfl) rfl ?_
    apply Exists.intro
    refine And.intro ?_ ?_
    · intro K' a wy ho hd hb hK
      rw [if_pos (wanted_none rfl)]
      have o2 := ho 2 (by decide)
      simp [slot] at o2
      clear hd ho
      go_simp
      try go_bits
      exact hK _ _ rfl (Below.refl _ _)
    refine GChV.val (n := 5) (fun v => [_, _, _, _, _, IsV v]) (fun _ => rfl) rfl ?_
    apply Exists.intro
    refine And.intro ?_ ?_
    · intro K' a wy ho hd hb hK
      rw [if_pos (wanted_none rfl)]
      have o3 := ho 3 (by decide)
      simp [slot] at o3
      clear hd ho
      go_simp
      try go_bits
      exact hK _ _ rfl (Below.refl _ _)
    refine GChV.val (n := 6) (fun v => [_, _, _, _, _, _, IsV v]) (fun _ => rfl) rfl ?_
    apply Exists.intro
    refine And.intro ?_ ?_
    · intro K' a wy ho hd hb hK
      rw [if_pos (wanted_none rfl)]
      have o4 := ho 4 (by decide)
      simp [slot] at o4
      clear hd ho
      go_simp
      try go_bits
      exact hK _ _ rfl (Below.refl _ _)
    refine GChV.rel (n := 7) (IsBo v17.drew.heap.size o) (stable_isBo _ _) [_, _, _, _, _, _, _, IsBo v17.drew.heap.size o] rfl rfl ?_ ?_
    · intro K' a wy ho hd hb hK
      rw [if_pos (wanted_none rfl)]
      obtain ⟨g1, e1, b1, l1⟩ : IsPl v17.drew.heap.size p0 (slot a 91) wy := hd ⟨1, .data⟩ (by simp) rfl
      simp [slot] at e1
      obtain ⟨xa, xb, xc, xd, e3, l3⟩ : IsBb v17.drew.heap.size y1 (slot a 93) wy := hd ⟨3, .data⟩ (by simp) rfl
      simp [slot] at e3
      have q4 := hd ⟨4, .data⟩ (by simp) rfl
      simp [rAt, IsV, slot] at q4
      have q5 := hd ⟨5, .data⟩ (by simp) rfl
      simp [rAt, IsV, slot] at q5
      have q6 := hd ⟨6, .data⟩ (by simp) rfl
      simp [rAt, IsV, slot] at q6
      clear hd ho
      go_simp
      refine (HIP.out wy g1 xa xb xc xd (HCP.out wy hb).2.2.1 l1.is l3.is).mono ?_
      rintro e wz ⟨⟨oa, ob, oc, od, rfl, hl⟩, hz⟩
      exact hK _ _ ⟨oa, ob, oc, od, rfl, hl.low hb.size⟩ hz
    refine GChV.rel (n := 8) (IsZx v17.drew.heap.size [.slice none 0 0, .slice none 0 0, .int .i64 0, .string ⟨#[]⟩, .int .i64 0, .string ⟨#[]⟩, .int .i64 0, .int .i64 0]) (stable_isZx _ _ (by simp)) [_, _, _, _, _, _, _, _, IsZx v17.drew.heap.size [.slice none 0 0, .slice none 0 0, .int .i64 0, .string ⟨#[]⟩, .int .i64 0, .string ⟨#[]⟩, .int .i64 0, .int .i64 0]] rfl rfl ?_ ?_
    · intro K' a wy ho hd hb hK
      rw [if_pos (wanted_none rfl)]
      clear hd ho
      go_simp
      exact hK _ _ ⟨wy.heap.size, rfl, hb.size, HoldsL.new wy [.slice none 0 0, .slice none 0 0, .int .i64 0, .string ⟨#[]⟩, .int .i64 0, .string ⟨#[]⟩, .int .i64 0, .int .i64 0] 54⟩ ((Below.refl _ _).alloc (Nat.le_refl _) _)
    intro X wz hR hz
    obtain ⟨x0, x1, x2, x3, x4, x5, x6, x7, x8, -⟩ := hR
    obtain ⟨g1, e1, -, -⟩ := x1
    obtain ⟨xa, xb, xc, xd, e3, -⟩ := x3
    obtain ⟨oa, ob, oc, od, e7, o5⟩ := x7
    obtain ⟨g6, e6, b6, zz6⟩ := x8
    simp only [IsV] at x0 x2 x4 x5 x6
    simp only [putsFrom, x0, e1, x2, e3, x4, x5, x6, e7, e6]
    clear x0 x2 x4 x5 x6
    have z0 : wz.cell? ⟨g6, 0, none⟩ = some (.slice none 0 0) := zz6.cell rfl
    have zf0 := zz6.free (j := 0) (by simp)
    have z1 : wz.cell? ⟨g6, 1, none⟩ = some (.slice none 0 0) := zz6.cell rfl
    have zf1 := zz6.free (j := 1) (by simp)
    have z2 : wz.cell? ⟨g6, 2, none⟩ = some (.int .i64 0) := zz6.cell rfl
    have zf2 := zz6.free (j := 2) (by simp)
    have z3 : wz.cell? ⟨g6, 3, none⟩ = some (.string ⟨#[]⟩) := zz6.cell rfl
    have zf3 := zz6.free (j := 3) (by simp)
    have z4 : wz.cell? ⟨g6, 4, none⟩ = some (.int .i64 0) := zz6.cell rfl
    have zf4 := zz6.free (j := 4) (by simp)
    have z5 : wz.cell? ⟨g6, 5, none⟩ = some (.string ⟨#[]⟩) := zz6.cell rfl
    have zf5 := zz6.free (j := 5) (by simp)
    have z6 : wz.cell? ⟨g6, 6, none⟩ = some (.int .i64 0) := zz6.cell rfl
    have zf6 := zz6.free (j := 6) (by simp)
    have z7 : wz.cell? ⟨g6, 7, none⟩ = some (.int .i64 0) := zz6.cell rfl
    have zf7 := zz6.free (j := 7) (by simp)
    have hz0 : Below v17.heap.size v17 wz := (Below.refl _ _).drew.trans hz
    have b6' : v17.heap.size ≤ g6 := b6
    have HH6 : Hid (HoldsL ((((((((wz.setCell ⟨g6, 0, none⟩ (.slice oa o.bib.binds.length oc)).setCell ⟨g6, 1, none⟩ (.slice ob o.bib.sess.length od)).setCell ⟨g6, 2, none⟩ (.int .i64 o.bind.proto)).setCell ⟨g6, 3, none⟩ (.string o.bind.inn)).setCell ⟨g6, 4, none⟩ (.int .i64 o.bind.inPort)).setCell ⟨g6, 5, none⟩ (.string o.bind.out)).setCell ⟨g6, 6, none⟩ (.int .i64 o.bind.outPort)).setCell ⟨g6, 7, none⟩ (.int .i64 o.code)) g6 [.slice oa o.bib.binds.length oc, .slice ob o.bib.sess.length od, .int .i64 o.bind.proto, .string o.bind.inn, .int .i64 o.bind.inPort, .string o.bind.out, .int .i64 o.bind.outPort, .int .i64 o.code]) := ((((((((zz6.set 0 _).set 1 _).set 2 _).set 3 _).set 4 _).set 5 _).set 6 _).set 7 _)
    have HO6 : Hid (BbOwn v17.heap.size ((((((((wz.setCell ⟨g6, 0, none⟩ (.slice oa o.bib.binds.length oc)).setCell ⟨g6, 1, none⟩ (.slice ob o.bib.sess.length od)).setCell ⟨g6, 2, none⟩ (.int .i64 o.bind.proto)).setCell ⟨g6, 3, none⟩ (.string o.bind.inn)).setCell ⟨g6, 4, none⟩ (.int .i64 o.bind.inPort)).setCell ⟨g6, 5, none⟩ (.string o.bind.out)).setCell ⟨g6, 6, none⟩ (.int .i64 o.bind.outPort)).setCell ⟨g6, 7, none⟩ (.int .i64 o.code)) oa ob o.bib) := BbOwn.grownNe o5 (grown_set (grown_set (grown_set (grown_set (grown_set (grown_set (grown_set (grown_set (World.grownBy.refl _ _) _) _) _) _) _) _) _) _) (o5.not_box zz6)
    have HB6 : Hid (Below v17.heap.size v17 ((((((((wz.setCell ⟨g6, 0, none⟩ (.slice oa o.bib.binds.length oc)).setCell ⟨g6, 1, none⟩ (.slice ob o.bib.sess.length od)).setCell ⟨g6, 2, none⟩ (.int .i64 o.bind.proto)).setCell ⟨g6, 3, none⟩ (.string o.bind.inn)).setCell ⟨g6, 4, none⟩ (.int .i64 o.bind.inPort)).setCell ⟨g6, 5, none⟩ (.string o.bind.out)).setCell ⟨g6, 6, none⟩ (.int .i64 o.bind.outPort)).setCell ⟨g6, 7, none⟩ (.int .i64 o.code))) := ((((((((hz0.setCell (p := ⟨g6, 0, none⟩) b6' _).setCell (p := ⟨g6, 1, none⟩) b6' _).setCell (p := ⟨g6, 2, none⟩) b6' _).setCell (p := ⟨g6, 3, none⟩) b6' _).setCell (p := ⟨g6, 4, none⟩) b6' _).setCell (p := ⟨g6, 5, none⟩) b6' _).setCell (p := ⟨g6, 6, none⟩) b6' _).setCell (p := ⟨g6, 7, none⟩) b6' _)
    clear o5 zz6 b6 hz hz0
    unfold boC
    intro K5 hK5
    go_simp
    refine hK5 _ _ ?_
    show Exit.then _ _ _ _ _
    refine hK2 _ _ (hJ _ _ ?_)
    (repeat apply Exists.intro)
    exact ⟨⟨g6, oa, ob, oc, od, rfl, b6', HH6.out, HO6.out, HB6.out⟩, rfl⟩
  case rest =>
  obtain ⟨g18, oa18, ob18, oc18, od18, rfl, hgl, hgh, hgo, q⟩ := hcut
  generalize wc = v18 at *
  have A_18 : Hid (Below w.heap.size w v18) := A_17.out.trans (q.mono A_17.out.size)
  have P0_18 : Hid (HoldsL v18 w.heap.size [.slice a0 p0.addrs.length cap0, .int .i64 p0.low, .int .i64 p0.high, .int .i64 p0.most, .int .i64 p0.filter, .int .i64 p0.lv.udp, .int .i64 p0.lv.echo, .int .i64 p0.lv.opening, .int .i64 p0.lv.opn, .int .i64 p0.lv.closing]) := P0_17.out.kept (by simp) q
  have P1_18 : Hid (HoldsL v18 (w.heap.size + 1) [.slice a1 y1.binds.length ca1, .slice b1 y1.sess.length cb1]) := P1_17.out.kept (by simp) q
  have S_18 : Hid (HoldsL v18 g3 [.slice oa3 o.bib.binds.length oc3, .slice ob3 o.bib.sess.length od3, .int .i64 o.bind.proto, .string o.bind.inn, .int .i64 o.bind.inPort, .string o.bind.out, .int .i64 o.bind.outPort, .int .i64 o.code]) := S_17.out.kept (by simp) q
  have So_18 : Hid (BbIn v2.heap.size v3.heap.size v18 oa3 ob3 o.bib) := So_17.out.kept q
  have Z_18 : Hid (HoldsL v18 v8.heap.size [.slice ga o.bib.binds.length gc, .slice gb o.bib.sess.length gd, .int .i64 o.bind.proto, .string o.bind.inn, .int .i64 o.bind.inPort, .string o.bind.out, .int .i64 o.bind.outPort, .int .i64 o.code]) := Z_17.out.kept (by simp) q
  have M_18 : Hid (BbMk v7.heap.size v18 ga gb 1 o.bib.binds.length o.bib.sess.length) := M_17.out.kept q
  clear A_17 P0_17 P1_17 S_17 So_17 Z_17 M_17
  have hz118 : v17.heap.size ≤ v18.heap.size := q.size
  clear q
  have H_18 : Hid (HoldsL v18 g18 [.slice oa18 o.bib.binds.length oc18, .slice ob18 o.bib.sess.length od18, .int .i64 o.bind.proto, .string o.bind.inn, .int .i64 o.bind.inPort, .string o.bind.out, .int .i64 o.bind.outPort, .int .i64 o.code]) := hgh
  have Ho_18 : Hid (BbIn v17.heap.size v18.heap.size v18 oa18 ob18 o.bib) := BbIn.of_own hgo (Nat.le_refl _)
  have hHl : g18 < v18.heap.size := hgh.lt (by simp)
  have hHg : v17.heap.size ≤ g18 := hgl
  clear hgh hgo hgl
  have cH0 : v18.cell? ⟨g18, 0, none⟩ = some (.slice oa18 o.bib.binds.length oc18) := H_18.out.cell rfl
  have cH1 : v18.cell? ⟨g18, 1, none⟩ = some (.slice ob18 o.bib.sess.length od18) := H_18.out.cell rfl
  have cH2 : v18.cell? ⟨g18, 2, none⟩ = some (.int .i64 o.bind.proto) := H_18.out.cell rfl
  have cH3 : v18.cell? ⟨g18, 3, none⟩ = some (.string o.bind.inn) := H_18.out.cell rfl
  have cH4 : v18.cell? ⟨g18, 4, none⟩ = some (.int .i64 o.bind.inPort) := H_18.out.cell rfl
  have cH5 : v18.cell? ⟨g18, 5, none⟩ = some (.string o.bind.out) := H_18.out.cell rfl
  have cH6 : v18.cell? ⟨g18, 6, none⟩ = some (.int .i64 o.bind.outPort) := H_18.out.cell rfl
  have cH7 : v18.cell? ⟨g18, 7, none⟩ = some (.int .i64 o.code) := H_18.out.cell rfl
  have cS0 : v18.cell? ⟨g3, 0, none⟩ = some (.slice oa3 o.bib.binds.length oc3) := S_18.out.cell rfl
  have cS1 : v18.cell? ⟨g3, 1, none⟩ = some (.slice ob3 o.bib.sess.length od3) := S_18.out.cell rfl
  have cS2 : v18.cell? ⟨g3, 2, none⟩ = some (.int .i64 o.bind.proto) := S_18.out.cell rfl
  have cS3 : v18.cell? ⟨g3, 3, none⟩ = some (.string o.bind.inn) := S_18.out.cell rfl
  have cS4 : v18.cell? ⟨g3, 4, none⟩ = some (.int .i64 o.bind.inPort) := S_18.out.cell rfl
  have cS5 : v18.cell? ⟨g3, 5, none⟩ = some (.string o.bind.out) := S_18.out.cell rfl
  have cS6 : v18.cell? ⟨g3, 6, none⟩ = some (.int .i64 o.bind.outPort) := S_18.out.cell rfl
  have cS7 : v18.cell? ⟨g3, 7, none⟩ = some (.int .i64 o.code) := S_18.out.cell rfl
  go_wp2_with fail
  refine (eqBibOut_same o _ _ _ _ _ _ _ _ _ hol1 hol2 Ho_18.out.is So_18.out.is).mono ?_
  rintro e v19 ⟨rfl, q⟩
  clear cH0 cH1 cH2 cH3 cH4 cH5 cH6 cH7 cS0 cS1 cS2 cS3 cS4 cS5 cS6 cS7
  have A_19 : Hid (Below w.heap.size w v19) := A_18.out.trans (q.mono A_18.out.size)
  have P0_19 : Hid (HoldsL v19 w.heap.size [.slice a0 p0.addrs.length cap0, .int .i64 p0.low, .int .i64 p0.high, .int .i64 p0.most, .int .i64 p0.filter, .int .i64 p0.lv.udp, .int .i64 p0.lv.echo, .int .i64 p0.lv.opening, .int .i64 p0.lv.opn, .int .i64 p0.lv.closing]) := P0_18.out.kept (by simp) q
  have P1_19 : Hid (HoldsL v19 (w.heap.size + 1) [.slice a1 y1.binds.length ca1, .slice b1 y1.sess.length cb1]) := P1_18.out.kept (by simp) q
  have S_19 : Hid (HoldsL v19 g3 [.slice oa3 o.bib.binds.length oc3, .slice ob3 o.bib.sess.length od3, .int .i64 o.bind.proto, .string o.bind.inn, .int .i64 o.bind.inPort, .string o.bind.out, .int .i64 o.bind.outPort, .int .i64 o.code]) := S_18.out.kept (by simp) q
  have So_19 : Hid (BbIn v2.heap.size v3.heap.size v19 oa3 ob3 o.bib) := So_18.out.kept q
  have Z_19 : Hid (HoldsL v19 v8.heap.size [.slice ga o.bib.binds.length gc, .slice gb o.bib.sess.length gd, .int .i64 o.bind.proto, .string o.bind.inn, .int .i64 o.bind.inPort, .string o.bind.out, .int .i64 o.bind.outPort, .int .i64 o.code]) := Z_18.out.kept (by simp) q
  have M_19 : Hid (BbMk v7.heap.size v19 ga gb 1 o.bib.binds.length o.bib.sess.length) := M_18.out.kept q
  have H_19 : Hid (HoldsL v19 g18 [.slice oa18 o.bib.binds.length oc18, .slice ob18 o.bib.sess.length od18, .int .i64 o.bind.proto, .string o.bind.inn, .int .i64 o.bind.inPort, .string o.bind.out, .int .i64 o.bind.outPort, .int .i64 o.code]) := H_18.out.kept (by simp) q
  have Ho_19 : Hid (BbIn v17.heap.size v18.heap.size v19 oa18 ob18 o.bib) := Ho_18.out.kept q
  clear A_18 P0_18 P1_18 S_18 So_18 Z_18 M_18 H_18 Ho_18
  have hz119 : v18.heap.size ≤ v19.heap.size := q.size
  clear q
  have cZ0 : v19.cell? ⟨v8.heap.size, 0, none⟩ = some (.slice ga o.bib.binds.length gc) := Z_19.out.cell rfl
  have cZ1 : v19.cell? ⟨v8.heap.size, 1, none⟩ = some (.slice gb o.bib.sess.length gd) := Z_19.out.cell rfl
  have cZ2 : v19.cell? ⟨v8.heap.size, 2, none⟩ = some (.int .i64 o.bind.proto) := Z_19.out.cell rfl
  have cZ3 : v19.cell? ⟨v8.heap.size, 3, none⟩ = some (.string o.bind.inn) := Z_19.out.cell rfl
  have cZ4 : v19.cell? ⟨v8.heap.size, 4, none⟩ = some (.int .i64 o.bind.inPort) := Z_19.out.cell rfl
  have cZ5 : v19.cell? ⟨v8.heap.size, 5, none⟩ = some (.string o.bind.out) := Z_19.out.cell rfl
  have cZ6 : v19.cell? ⟨v8.heap.size, 6, none⟩ = some (.int .i64 o.bind.outPort) := Z_19.out.cell rfl
  have cZ7 : v19.cell? ⟨v8.heap.size, 7, none⟩ = some (.int .i64 o.code) := Z_19.out.cell rfl
  go_wp2_with fail
  refine (heldBibOut_own _ o ga gb gc gd 1 _ (by omega) (by omega) M_19.out).mono ?_
  rw [← HK3.out]
  rintro e v20 ⟨rfl, q⟩
  clear cZ0 cZ1 cZ2 cZ3 cZ4 cZ5 cZ6 cZ7
  have A_20 : Hid (Below w.heap.size w v20) := A_19.out.trans (q.mono A_19.out.size)
  have P0_20 : Hid (HoldsL v20 w.heap.size [.slice a0 p0.addrs.length cap0, .int .i64 p0.low, .int .i64 p0.high, .int .i64 p0.most, .int .i64 p0.filter, .int .i64 p0.lv.udp, .int .i64 p0.lv.echo, .int .i64 p0.lv.opening, .int .i64 p0.lv.opn, .int .i64 p0.lv.closing]) := P0_19.out.kept (by simp) q
  have P1_20 : Hid (HoldsL v20 (w.heap.size + 1) [.slice a1 y1.binds.length ca1, .slice b1 y1.sess.length cb1]) := P1_19.out.kept (by simp) q
  have S_20 : Hid (HoldsL v20 g3 [.slice oa3 o.bib.binds.length oc3, .slice ob3 o.bib.sess.length od3, .int .i64 o.bind.proto, .string o.bind.inn, .int .i64 o.bind.inPort, .string o.bind.out, .int .i64 o.bind.outPort, .int .i64 o.code]) := S_19.out.kept (by simp) q
  have So_20 : Hid (BbIn v2.heap.size v3.heap.size v20 oa3 ob3 o.bib) := So_19.out.kept q
  have Z_20 : Hid (HoldsL v20 v8.heap.size [.slice ga o.bib.binds.length gc, .slice gb o.bib.sess.length gd, .int .i64 o.bind.proto, .string o.bind.inn, .int .i64 o.bind.inPort, .string o.bind.out, .int .i64 o.bind.outPort, .int .i64 o.code]) := Z_19.out.kept (by simp) q
  have M_20 : Hid (BbMk v7.heap.size v20 ga gb 1 o.bib.binds.length o.bib.sess.length) := M_19.out.kept q
  have H_20 : Hid (HoldsL v20 g18 [.slice oa18 o.bib.binds.length oc18, .slice ob18 o.bib.sess.length od18, .int .i64 o.bind.proto, .string o.bind.inn, .int .i64 o.bind.inPort, .string o.bind.out, .int .i64 o.bind.outPort, .int .i64 o.code]) := H_19.out.kept (by simp) q
  have Ho_20 : Hid (BbIn v17.heap.size v18.heap.size v20 oa18 ob18 o.bib) := Ho_19.out.kept q
  clear A_19 P0_19 P1_19 S_19 So_19 Z_19 M_19 H_19 Ho_19
  have hz120 : v19.heap.size ≤ v20.heap.size := q.size
  clear q
  go_wp2_with fail
  go_ret
  exact ⟨rfl, A_20.out⟩

set_option maxRecDepth 100000 in
theorem lifted (os : Os) (started : os.Started) (H : Type) (enc : TypeId × Value → H) :
    ReturnsInHanded {} Try.checked os 7 .any (Rows.fnExactPortForSpec.pre6 enc Try.prog Try.f7 Rows.fnExactPortForRow.domain false) (Rows.fnExactPortForSpec.post enc Try.prog Try.f7 false true false false) := by
  refine returnsInHanded_of_change (C := Try.checked) own started (by kernel_rfl) Try.func7
    (ChangeSpec.witness6 (enc := enc) (C := Try.checked) false ⟨#[], #[.agg #[.slice none 0 0, .int .i64 0, .int .i64 0, .int .i64 0, .int .i64 0, .int .i64 0, .int .i64 0, .int .i64 0, .int .i64 0, .int .i64 0], .agg #[.slice none 0 0, .slice none 0 0], .int .i64 0, .string ByteArray.empty, .int .i64 0], []⟩ 8 (by kernel_rfl) (by kernel_rfl) (by kernel_rfl) (by kernel_rfl)) ?_
  intro W base args ds gs before hval0 hW hcnd _
  have hval : ∀ (j : Nat) t v, Try.f7.params[j]? = some t → args[j]? = some v → Value.okWide Try.prog W .any base t v := hval0
  have hW' := hW
  obtain ⟨p, q, hA0, hV, rfl, hfz, hnd⟩ := hW
  have hA : DataW.TrodAll enc Try.prog W 0 (fun _ => true) true Try.f7.params.toList args.toList ds p := hA0
  rw [Try.params7] at hA hval
  obtain ⟨v0, vs0, d0, ds0, p0, q0, hargs, rfl, rfl, h0, r0⟩ := trodAll_cons hA
  obtain ⟨v1, vs1, d1, ds1, p1, q1, rfl, rfl, rfl, h1, r1⟩ := trodAll_cons r0
  obtain ⟨v2, vs2, d2, ds2, p2, q2, rfl, rfl, rfl, h2, r2⟩ := trodAll_cons r1
  obtain ⟨v3, vs3, d3, ds3, p3, q3, rfl, rfl, rfl, h3, r3⟩ := trodAll_cons r2
  obtain ⟨v4, vs4, d4, ds4, p4, q4, rfl, rfl, rfl, h4, r4⟩ := trodAll_cons r3
  obtain ⟨rfl, rfl, rfl⟩ := trodAll_nil r4
  obtain rfl : args = #[v0, v1, v2, v3, v4] := by cases args; simp_all
  obtain ⟨rfl, rfl⟩ := trodVars_none hV
  have k0 := h0
  have lt0 : ∀ x ∈ p0, x.block < W.heap.size := by obtain ⟨m, hm⟩ := k0; exact DataW.trod_lt m _ _ _ hm
  obtain ⟨a0, cap0, pl0, rfl, w0, x0⟩ := open_Pool (hval 0 26 v0 rfl rfl) h0
  have k1 := h1
  have lt1 : ∀ x ∈ p1, x.block < W.heap.size := by obtain ⟨m, hm⟩ := k1; exact DataW.trod_lt m _ _ _ hm
  obtain ⟨a1, b1, ca1, cb1, y1, rfl, w1, x1⟩ := open_Bib (hval 1 38 v1 rfl rfl) h1
  obtain ⟨a2, rfl, rfl, rfl, w2⟩ := open_int Try.underlying2 (hval 2 2 v2 rfl rfl) h2
  obtain ⟨a3, rfl, rfl, rfl, w3⟩ := open_string Try.underlying9 (hval 3 9 v3 rfl rfl) h3
  obtain ⟨a4, rfl, rfl, rfl, w4⟩ := open_int Try.underlying2 (hval 4 2 v4 rfl rfl) h4
  clear hA0 hval0
  refine (walk a0 cap0 pl0 a1 b1 ca1 cb1 y1 a2 a3 a4 W w0 x0 w1 x1 w2 w3 w4).mono fun e W' ⟨he, hg⟩ => ?_
  subst he
  exact ⟨_, rfl, _, _, _, [], _, [], hW', (trodAll_cons_mk (shut_bool Try.underlying4 _) trodAll_mk0), (trodAll_cons_mk (Below.trod laidOut (by kernel_rfl) (of_decide_eq_true (by kernel_rfl)) k0 hg lt0) (trodAll_cons_mk (Below.trod laidOut (by kernel_rfl) (of_decide_eq_true (by kernel_rfl)) k1 hg lt1) (trodAll_cons_mk (shut_int Try.underlying2 w2) (trodAll_cons_mk (shut_string Try.underlying9 w3) (trodAll_cons_mk (shut_int Try.underlying2 w4) trodAll_mk0))))), rfl, hg.frame _, fun h => by cases h⟩

theorem over : Rows.fnExactPortForRow.holds Try.pinned (OpenSpec.ofChange Rows.fnExactPortForSpec) :=
  OpenClaim.holds_of_wide 7 Try.f7 rfl rfl rfl rfl rfl rfl rfl ⟨rfl, rfl, rfl, rfl, rfl⟩ rfl rfl rfl rfl rfl (by kernel_rfl) Try.func7 (by kernel_rfl)
    (of_decide_eq_true (by kernel_rfl)) (by unfold Func.isWrapper; first | (rw [if_pos (by decide +kernel)]; kernel_rfl) | (rw [if_neg (by decide +kernel)]; exact ⟨rfl, rfl⟩))
    (fun os started H enc _ => lifted os started H enc)

end Go.Proofs.Ytkakehchiadpbal.fnExactPortFor
namespace Go.Proofs.Ytkakehchiadpbal
theorem fnExactPortFor_holds : Rows.FnExactPortForSaid := fnExactPortFor.over
#print axioms fnExactPortFor_holds
end Go.Proofs.Ytkakehchiadpbal
