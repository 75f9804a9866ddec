/- At every pool the program's PoolRight answers as the specification's: the law FnExactPoolRight returns true, and writes nothing that was there. No condition. -/
import Derived.Test.YtkakehchiadpbalRows
import Derived.Test.YtkakehchiadpbalLawSt9
import Derived.Test.YtkakehchiadpbalSPool
import Derived.Test.YtkakehchiadpbalIPool
import Derived.WalkKit
import Derived.ProofKit
import Derived.OpenShut
import Derived.ShutString
import Derived.ChangeOld
import Derived.Below
import Derived.Lib.SmallJoins
namespace Go.Proofs.Ytkakehchiadpbal.fnExactPoolRight
open Go.ChangeShapes Go.WideShapes Go.ChangeAt Go.RowKit Go.Joins
open Go.ChangeMaps (open_string shut_string)
set_option linter.unusedVariables false

theorem own : ownKnob Try.prog.godebug = none := by kernel_rfl
theorem laidOut : laidOutB Try.prog = true := by kernel_rfl

set_option maxRecDepth 100000 in
set_option maxHeartbeats 4000000 in
theorem walk (a0 : Option Addr) (cap0 : Nat) (p0 : Pl) (w : World) (w0 : PlWf p0) (x0 : SlIs strL1 1 w a0 p0.addrs) :
    Calls Try.prog 3 #[plC a0 cap0 p0] w fun e w' => e = .returned (.bool true) ∧ Below w.heap.size w w' := by
  have HX0 : Hid (SlIs strL1 1 w a0 p0.addrs) := x0
  have HW0 : Hid (PlWf p0) := w0
  obtain ⟨s0, hs0⟩ : ∃ s, s = szSl strN p0.addrs 1048576 := ⟨_, rfl⟩
  have HS0 : Hid (s0 = szSl strN p0.addrs 1048576) := hs0
  clear x0 w0 hs0
  have hr0 : -1 ≤ s0 ∧ s0 ≤ 1048576 := by rw [HS0.out]; exact szSl_range strN p0.addrs _ (by omega)
  obtain ⟨hra0, hrb0⟩ := hr0
  by_cases hz0 : s0 < 0
  case pos =>
    have HZ0 : Hid (Below w.heap.size w (w.alloc (.cells #[.slice a0 p0.addrs.length cap0, .int .i64 p0.low, .int .i64 p0.high, .int .i64 p0.most, .int .i64 p0.filter, .int .i64 p0.lv.udp, .int .i64 p0.lv.echo, .int .i64 p0.lv.opening, .int .i64 p0.lv.opn, .int .i64 p0.lv.closing] 26))) := ((Below.refl _ _).alloc (Nat.le_refl _) _)
    have HB0 : Hid (HoldsL (w.alloc (.cells #[.slice a0 p0.addrs.length cap0, .int .i64 p0.low, .int .i64 p0.high, .int .i64 p0.most, .int .i64 p0.filter, .int .i64 p0.lv.udp, .int .i64 p0.lv.echo, .int .i64 p0.lv.opening, .int .i64 p0.lv.opn, .int .i64 p0.lv.closing] 26)) (w.heap.size) [.slice a0 p0.addrs.length cap0, .int .i64 p0.low, .int .i64 p0.high, .int .i64 p0.most, .int .i64 p0.filter, .int .i64 p0.lv.udp, .int .i64 p0.lv.echo, .int .i64 p0.lv.opening, .int .i64 p0.lv.opn, .int .i64 p0.lv.closing]) := by have h := (HoldsL.new w [.slice a0 p0.addrs.length cap0, .int .i64 p0.low, .int .i64 p0.high, .int .i64 p0.most, .int .i64 p0.filter, .int .i64 p0.lv.udp, .int .i64 p0.lv.echo, .int .i64 p0.lv.opening, .int .i64 p0.lv.opn, .int .i64 p0.lv.closing] 26); exact h
    have hun : undef = Value.tuple #[] := rfl
    unfold plC
    go_enter Try.func3, Try.ntmps3
    go_upto_region 1 with fail
    generalize w.alloc (.cells #[.slice a0 p0.addrs.length cap0, .int .i64 p0.low, .int .i64 p0.high, .int .i64 p0.most, .int .i64 p0.filter, .int .i64 p0.lv.udp, .int .i64 p0.lv.echo, .int .i64 p0.lv.opening, .int .i64 p0.lv.opn, .int .i64 p0.lv.closing] 26) = W0 at *
    have A_0 : Hid (Below w.heap.size w W0) := HZ0.out
    have P0_0 : Hid (HoldsL W0 w.heap.size [.slice a0 p0.addrs.length cap0, .int .i64 p0.low, .int .i64 p0.high, .int .i64 p0.most, .int .i64 p0.filter, .int .i64 p0.lv.udp, .int .i64 p0.lv.echo, .int .i64 p0.lv.opening, .int .i64 p0.lv.opn, .int .i64 p0.lv.closing]) := HB0.out
    clear HZ0 HB0
    have cP00 : W0.cell? ⟨w.heap.size, 0, none⟩ = some (.slice a0 p0.addrs.length cap0) := P0_0.out.cell rfl
    have cP01 : W0.cell? ⟨w.heap.size, 1, none⟩ = some (.int .i64 p0.low) := P0_0.out.cell rfl
    have cP02 : W0.cell? ⟨w.heap.size, 2, none⟩ = some (.int .i64 p0.high) := P0_0.out.cell rfl
    have cP03 : W0.cell? ⟨w.heap.size, 3, none⟩ = some (.int .i64 p0.most) := P0_0.out.cell rfl
    have cP04 : W0.cell? ⟨w.heap.size, 4, none⟩ = some (.int .i64 p0.filter) := P0_0.out.cell rfl
    have cP05 : W0.cell? ⟨w.heap.size, 5, none⟩ = some (.int .i64 p0.lv.udp) := P0_0.out.cell rfl
    have cP06 : W0.cell? ⟨w.heap.size, 6, none⟩ = some (.int .i64 p0.lv.echo) := P0_0.out.cell rfl
    have cP07 : W0.cell? ⟨w.heap.size, 7, none⟩ = some (.int .i64 p0.lv.opening) := P0_0.out.cell rfl
    have cP08 : W0.cell? ⟨w.heap.size, 8, none⟩ = some (.int .i64 p0.lv.opn) := P0_0.out.cell rfl
    have cP09 : W0.cell? ⟨w.heap.size, 9, none⟩ = some (.int .i64 p0.lv.closing) := P0_0.out.cell rfl
    go_wp2_with fail
    refine (szPool_at p0 a0 cap0 1048576 _ HW0.out (HX0.out.below A_0.out) (by omega) (by omega)).mono ?_
    rw [← HS0.out]
    rintro e v1 ⟨rfl, q⟩
    clear cP00 cP01 cP02 cP03 cP04 cP05 cP06 cP07 cP08 cP09
    have A_1 : Hid (Below w.heap.size w v1) := A_0.out.trans (q.mono A_0.out.size)
    have P0_1 : Hid (HoldsL v1 w.heap.size [.slice a0 p0.addrs.length cap0, .int .i64 p0.low, .int .i64 p0.high, .int .i64 p0.most, .int .i64 p0.filter, .int .i64 p0.lv.udp, .int .i64 p0.lv.echo, .int .i64 p0.lv.opening, .int .i64 p0.lv.opn, .int .i64 p0.lv.closing]) := P0_0.out.kept (by simp) q
    clear A_0 P0_0
    clear q
    go_wp2_with fail
    go_ret
    exact ⟨rfl, A_1.out⟩
  have hnn0 : 0 ≤ s0 := by omega
  have hpi : Hid (p0.addrs.length ≤ 1048576 ∧ ∀ s ∈ p0.addrs, s.size ≤ 1048576) := strs_in (left := 1048576) (by omega) (by omega) (by rw [← HS0.out]; omega)
  have hpl := hpi.out.1
  have HZ0 : Hid (Below w.heap.size w (w.alloc (.cells #[.slice a0 p0.addrs.length cap0, .int .i64 p0.low, .int .i64 p0.high, .int .i64 p0.most, .int .i64 p0.filter, .int .i64 p0.lv.udp, .int .i64 p0.lv.echo, .int .i64 p0.lv.opening, .int .i64 p0.lv.opn, .int .i64 p0.lv.closing] 26))) := ((Below.refl _ _).alloc (Nat.le_refl _) _)
  have HB0 : Hid (HoldsL (w.alloc (.cells #[.slice a0 p0.addrs.length cap0, .int .i64 p0.low, .int .i64 p0.high, .int .i64 p0.most, .int .i64 p0.filter, .int .i64 p0.lv.udp, .int .i64 p0.lv.echo, .int .i64 p0.lv.opening, .int .i64 p0.lv.opn, .int .i64 p0.lv.closing] 26)) (w.heap.size) [.slice a0 p0.addrs.length cap0, .int .i64 p0.low, .int .i64 p0.high, .int .i64 p0.most, .int .i64 p0.filter, .int .i64 p0.lv.udp, .int .i64 p0.lv.echo, .int .i64 p0.lv.opening, .int .i64 p0.lv.opn, .int .i64 p0.lv.closing]) := by have h := (HoldsL.new w [.slice a0 p0.addrs.length cap0, .int .i64 p0.low, .int .i64 p0.high, .int .i64 p0.most, .int .i64 p0.filter, .int .i64 p0.lv.udp, .int .i64 p0.lv.echo, .int .i64 p0.lv.opening, .int .i64 p0.lv.opn, .int .i64 p0.lv.closing] 26); exact h
  have hun : undef = Value.tuple #[] := rfl
  unfold plC
  go_enter Try.func3, Try.ntmps3
  go_upto_region 1 with fail
  generalize w.alloc (.cells #[.slice a0 p0.addrs.length cap0, .int .i64 p0.low, .int .i64 p0.high, .int .i64 p0.most, .int .i64 p0.filter, .int .i64 p0.lv.udp, .int .i64 p0.lv.echo, .int .i64 p0.lv.opening, .int .i64 p0.lv.opn, .int .i64 p0.lv.closing] 26) = W0 at *
  have A_0 : Hid (Below w.heap.size w W0) := HZ0.out
  have P0_0 : Hid (HoldsL W0 w.heap.size [.slice a0 p0.addrs.length cap0, .int .i64 p0.low, .int .i64 p0.high, .int .i64 p0.most, .int .i64 p0.filter, .int .i64 p0.lv.udp, .int .i64 p0.lv.echo, .int .i64 p0.lv.opening, .int .i64 p0.lv.opn, .int .i64 p0.lv.closing]) := HB0.out
  clear HZ0 HB0
  have cP00 : W0.cell? ⟨w.heap.size, 0, none⟩ = some (.slice a0 p0.addrs.length cap0) := P0_0.out.cell rfl
  have cP01 : W0.cell? ⟨w.heap.size, 1, none⟩ = some (.int .i64 p0.low) := P0_0.out.cell rfl
  have cP02 : W0.cell? ⟨w.heap.size, 2, none⟩ = some (.int .i64 p0.high) := P0_0.out.cell rfl
  have cP03 : W0.cell? ⟨w.heap.size, 3, none⟩ = some (.int .i64 p0.most) := P0_0.out.cell rfl
  have cP04 : W0.cell? ⟨w.heap.size, 4, none⟩ = some (.int .i64 p0.filter) := P0_0.out.cell rfl
  have cP05 : W0.cell? ⟨w.heap.size, 5, none⟩ = some (.int .i64 p0.lv.udp) := P0_0.out.cell rfl
  have cP06 : W0.cell? ⟨w.heap.size, 6, none⟩ = some (.int .i64 p0.lv.echo) := P0_0.out.cell rfl
  have cP07 : W0.cell? ⟨w.heap.size, 7, none⟩ = some (.int .i64 p0.lv.opening) := P0_0.out.cell rfl
  have cP08 : W0.cell? ⟨w.heap.size, 8, none⟩ = some (.int .i64 p0.lv.opn) := P0_0.out.cell rfl
  have cP09 : W0.cell? ⟨w.heap.size, 9, none⟩ = some (.int .i64 p0.lv.closing) := P0_0.out.cell rfl
  go_wp2_with fail
  refine (szPool_at p0 a0 cap0 1048576 _ HW0.out (HX0.out.below A_0.out) (by omega) (by omega)).mono ?_
  rw [← HS0.out]
  rintro e v1 ⟨rfl, q⟩
  clear cP00 cP01 cP02 cP03 cP04 cP05 cP06 cP07 cP08 cP09
  have A_1 : Hid (Below w.heap.size w v1) := A_0.out.trans (q.mono A_0.out.size)
  have P0_1 : Hid (HoldsL v1 w.heap.size [.slice a0 p0.addrs.length cap0, .int .i64 p0.low, .int .i64 p0.high, .int .i64 p0.most, .int .i64 p0.filter, .int .i64 p0.lv.udp, .int .i64 p0.lv.echo, .int .i64 p0.lv.opening, .int .i64 p0.lv.opn, .int .i64 p0.lv.closing]) := P0_0.out.kept (by simp) q
  clear A_0 P0_0
  clear q
  obtain ⟨ok, hok⟩ : ∃ y, y = poolOk p0 := ⟨_, rfl⟩
  have HSP : Hid (∀ W b, SlIs strL1 1 W (some ⟨b, 0, none⟩) p0.addrs → Calls Try.prog 9 #[plC (some ⟨b, 0, none⟩) p0.addrs.length p0] W fun e w' => e = .returned (.bool ok) ∧ Below W.heap.size W w') := fun W b h => by rw [hok]; exact specPool_any p0 _ _ W hpl (Nat.le_refl _) hpi.out.2 h
  have HIP : Hid (∀ W b, SlIs strL1 1 W (some ⟨b, 0, none⟩) p0.addrs → Calls Try.prog 11 #[plC (some ⟨b, 0, none⟩) p0.addrs.length p0] W fun e w' => e = .returned (.bool ok) ∧ Below W.heap.size W w') := fun W b h => by rw [hok]; exact implPool_any p0 _ _ W hpl (Nat.le_refl _) hpi.out.2 h
  clear hok
  have cP00 : v1.cell? ⟨w.heap.size, 0, none⟩ = some (.slice a0 p0.addrs.length cap0) := P0_1.out.cell rfl
  have cP01 : v1.cell? ⟨w.heap.size, 1, none⟩ = some (.int .i64 p0.low) := P0_1.out.cell rfl
  have cP02 : v1.cell? ⟨w.heap.size, 2, none⟩ = some (.int .i64 p0.high) := P0_1.out.cell rfl
  have cP03 : v1.cell? ⟨w.heap.size, 3, none⟩ = some (.int .i64 p0.most) := P0_1.out.cell rfl
  have cP04 : v1.cell? ⟨w.heap.size, 4, none⟩ = some (.int .i64 p0.filter) := P0_1.out.cell rfl
  have cP05 : v1.cell? ⟨w.heap.size, 5, none⟩ = some (.int .i64 p0.lv.udp) := P0_1.out.cell rfl
  have cP06 : v1.cell? ⟨w.heap.size, 6, none⟩ = some (.int .i64 p0.lv.echo) := P0_1.out.cell rfl
  have cP07 : v1.cell? ⟨w.heap.size, 7, none⟩ = some (.int .i64 p0.lv.opening) := P0_1.out.cell rfl
  have cP08 : v1.cell? ⟨w.heap.size, 8, none⟩ = some (.int .i64 p0.lv.opn) := P0_1.out.cell rfl
  have cP09 : v1.cell? ⟨w.heap.size, 9, none⟩ = some (.int .i64 p0.lv.closing) := P0_1.out.cell rfl
  go_wp2_with fail
  refine (toPool_any p0 a0 cap0 _ hpl (HX0.out.below A_1.out)).mono ?_
  rintro e v2 ⟨⟨g2, rfl, hg, hl⟩, q⟩
  clear cP00 cP01 cP02 cP03 cP04 cP05 cP06 cP07 cP08 cP09
  have A_2 : Hid (Below w.heap.size w v2) := A_1.out.trans (q.mono A_1.out.size)
  have P0_2 : Hid (HoldsL v2 w.heap.size [.slice a0 p0.addrs.length cap0, .int .i64 p0.low, .int .i64 p0.high, .int .i64 p0.most, .int .i64 p0.filter, .int .i64 p0.lv.udp, .int .i64 p0.lv.echo, .int .i64 p0.lv.opening, .int .i64 p0.lv.opn, .int .i64 p0.lv.closing]) := P0_1.out.kept (by simp) q
  clear A_1 P0_1
  clear q
  have T0_2 : Hid (SlLaid strL1 1 v2 g2 p0.addrs p0.addrs.length p0.addrs.length) := hl
  have hgx := hg
  clear hg hl
  unfold plC
  go_wp2_with fail
  refine (HSP.out _ _ T0_2.out.is).mono ?_
  rintro e v3 ⟨rfl, q⟩
  have A_3 : Hid (Below w.heap.size w v3) := A_2.out.trans (q.mono A_2.out.size)
  have P0_3 : Hid (HoldsL v3 w.heap.size [.slice a0 p0.addrs.length cap0, .int .i64 p0.low, .int .i64 p0.high, .int .i64 p0.most, .int .i64 p0.filter, .int .i64 p0.lv.udp, .int .i64 p0.lv.echo, .int .i64 p0.lv.opening, .int .i64 p0.lv.opn, .int .i64 p0.lv.closing]) := P0_2.out.kept (by simp) q
  have T0_3 : Hid (SlLaid strL1 1 v3 g2 p0.addrs p0.addrs.length p0.addrs.length) := T0_2.out.kept q
  clear A_2 P0_2 T0_2
  clear q
  clear T0_3
  have cP00 : v3.cell? ⟨w.heap.size, 0, none⟩ = some (.slice a0 p0.addrs.length cap0) := P0_3.out.cell rfl
  have cP01 : v3.cell? ⟨w.heap.size, 1, none⟩ = some (.int .i64 p0.low) := P0_3.out.cell rfl
  have cP02 : v3.cell? ⟨w.heap.size, 2, none⟩ = some (.int .i64 p0.high) := P0_3.out.cell rfl
  have cP03 : v3.cell? ⟨w.heap.size, 3, none⟩ = some (.int .i64 p0.most) := P0_3.out.cell rfl
  have cP04 : v3.cell? ⟨w.heap.size, 4, none⟩ = some (.int .i64 p0.filter) := P0_3.out.cell rfl
  have cP05 : v3.cell? ⟨w.heap.size, 5, none⟩ = some (.int .i64 p0.lv.udp) := P0_3.out.cell rfl
  have cP06 : v3.cell? ⟨w.heap.size, 6, none⟩ = some (.int .i64 p0.lv.echo) := P0_3.out.cell rfl
  have cP07 : v3.cell? ⟨w.heap.size, 7, none⟩ = some (.int .i64 p0.lv.opening) := P0_3.out.cell rfl
  have cP08 : v3.cell? ⟨w.heap.size, 8, none⟩ = some (.int .i64 p0.lv.opn) := P0_3.out.cell rfl
  have cP09 : v3.cell? ⟨w.heap.size, 9, none⟩ = some (.int .i64 p0.lv.closing) := P0_3.out.cell rfl
  go_wp2_with fail
  refine (toPool_any p0 a0 cap0 _ hpl (HX0.out.below A_3.out)).mono ?_
  rintro e v4 ⟨⟨g4, rfl, hg, hl⟩, q⟩
  clear cP00 cP01 cP02 cP03 cP04 cP05 cP06 cP07 cP08 cP09
  have A_4 : Hid (Below w.heap.size w v4) := A_3.out.trans (q.mono A_3.out.size)
  have P0_4 : Hid (HoldsL v4 w.heap.size [.slice a0 p0.addrs.length cap0, .int .i64 p0.low, .int .i64 p0.high, .int .i64 p0.most, .int .i64 p0.filter, .int .i64 p0.lv.udp, .int .i64 p0.lv.echo, .int .i64 p0.lv.opening, .int .i64 p0.lv.opn, .int .i64 p0.lv.closing]) := P0_3.out.kept (by simp) q
  clear A_3 P0_3
  clear q
  have T0_4 : Hid (SlLaid strL1 1 v4 g4 p0.addrs p0.addrs.length p0.addrs.length) := hl
  have hgx := hg
  clear hg hl
  unfold plC
  go_upto_region 7 with fail
  have bn : Below v4.heap.size v4 (v4.alloc (.cells #[.slice (some ⟨g4, 0, none⟩) p0.addrs.length p0.addrs.length, .int .i64 p0.low, .int .i64 p0.high, .int .i64 p0.most, .int .i64 p0.filter, .int .i64 p0.lv.udp, .int .i64 p0.lv.echo, .int .i64 p0.lv.opening, .int .i64 p0.lv.opn, .int .i64 p0.lv.closing] 31)) := (Below.refl _ _).alloc (Nat.le_refl _) _
  have hn : HoldsL (v4.alloc (.cells #[.slice (some ⟨g4, 0, none⟩) p0.addrs.length p0.addrs.length, .int .i64 p0.low, .int .i64 p0.high, .int .i64 p0.most, .int .i64 p0.filter, .int .i64 p0.lv.udp, .int .i64 p0.lv.echo, .int .i64 p0.lv.opening, .int .i64 p0.lv.opn, .int .i64 p0.lv.closing] 31)) v4.heap.size [.slice (some ⟨g4, 0, none⟩) p0.addrs.length p0.addrs.length, .int .i64 p0.low, .int .i64 p0.high, .int .i64 p0.most, .int .i64 p0.filter, .int .i64 p0.lv.udp, .int .i64 p0.lv.echo, .int .i64 p0.lv.opening, .int .i64 p0.lv.opn, .int .i64 p0.lv.closing] := HoldsL.new v4 [.slice (some ⟨g4, 0, none⟩) p0.addrs.length p0.addrs.length, .int .i64 p0.low, .int .i64 p0.high, .int .i64 p0.most, .int .i64 p0.filter, .int .i64 p0.lv.udp, .int .i64 p0.lv.echo, .int .i64 p0.lv.opening, .int .i64 p0.lv.opn, .int .i64 p0.lv.closing] 31
  generalize v4.alloc (.cells #[.slice (some ⟨g4, 0, none⟩) p0.addrs.length p0.addrs.length, .int .i64 p0.low, .int .i64 p0.high, .int .i64 p0.most, .int .i64 p0.filter, .int .i64 p0.lv.udp, .int .i64 p0.lv.echo, .int .i64 p0.lv.opening, .int .i64 p0.lv.opn, .int .i64 p0.lv.closing] 31) = v5 at *
  have A_5 : Hid (Below w.heap.size w v5) := A_4.out.trans (bn.mono A_4.out.size)
  have P0_5 : Hid (HoldsL v5 w.heap.size [.slice a0 p0.addrs.length cap0, .int .i64 p0.low, .int .i64 p0.high, .int .i64 p0.most, .int .i64 p0.filter, .int .i64 p0.lv.udp, .int .i64 p0.lv.echo, .int .i64 p0.lv.opening, .int .i64 p0.lv.opn, .int .i64 p0.lv.closing]) := P0_4.out.kept (by simp) bn
  have T0_5 : Hid (SlLaid strL1 1 v5 g4 p0.addrs p0.addrs.length p0.addrs.length) := T0_4.out.kept bn
  clear A_4 P0_4 T0_4
  have X_5 : Hid (HoldsL v5 v4.heap.size [.slice (some ⟨g4, 0, none⟩) p0.addrs.length p0.addrs.length, .int .i64 p0.low, .int .i64 p0.high, .int .i64 p0.most, .int .i64 p0.filter, .int .i64 p0.lv.udp, .int .i64 p0.lv.echo, .int .i64 p0.lv.opening, .int .i64 p0.lv.opn, .int .i64 p0.lv.closing]) := hn
  have hXl : v4.heap.size < v5.heap.size := hn.lt (by simp)
  clear bn hn
  have cX0 : v5.cell? ⟨v4.heap.size, 0, none⟩ = some (.slice (some ⟨g4, 0, none⟩) p0.addrs.length p0.addrs.length) := X_5.out.cell rfl
  have cX1 : v5.cell? ⟨v4.heap.size, 1, none⟩ = some (.int .i64 p0.low) := X_5.out.cell rfl
  have cX2 : v5.cell? ⟨v4.heap.size, 2, none⟩ = some (.int .i64 p0.high) := X_5.out.cell rfl
  have cX3 : v5.cell? ⟨v4.heap.size, 3, none⟩ = some (.int .i64 p0.most) := X_5.out.cell rfl
  have cX4 : v5.cell? ⟨v4.heap.size, 4, none⟩ = some (.int .i64 p0.filter) := X_5.out.cell rfl
  have cX5 : v5.cell? ⟨v4.heap.size, 5, none⟩ = some (.int .i64 p0.lv.udp) := X_5.out.cell rfl
  have cX6 : v5.cell? ⟨v4.heap.size, 6, none⟩ = some (.int .i64 p0.lv.echo) := X_5.out.cell rfl
  have cX7 : v5.cell? ⟨v4.heap.size, 7, none⟩ = some (.int .i64 p0.lv.opening) := X_5.out.cell rfl
  have cX8 : v5.cell? ⟨v4.heap.size, 8, none⟩ = some (.int .i64 p0.lv.opn) := X_5.out.cell rfl
  have cX9 : v5.cell? ⟨v4.heap.size, 9, none⟩ = some (.int .i64 p0.lv.closing) := X_5.out.cell rfl
  go_wp2_with fail
  refine (HIP.out _ _ T0_5.out.is).mono ?_
  rintro e v6 ⟨rfl, q⟩
  clear cX0 cX1 cX2 cX3 cX4 cX5 cX6 cX7 cX8 cX9
  have A_6 : Hid (Below w.heap.size w v6) := A_5.out.trans (q.mono A_5.out.size)
  have P0_6 : Hid (HoldsL v6 w.heap.size [.slice a0 p0.addrs.length cap0, .int .i64 p0.low, .int .i64 p0.high, .int .i64 p0.most, .int .i64 p0.filter, .int .i64 p0.lv.udp, .int .i64 p0.lv.echo, .int .i64 p0.lv.opening, .int .i64 p0.lv.opn, .int .i64 p0.lv.closing]) := P0_5.out.kept (by simp) q
  have T0_6 : Hid (SlLaid strL1 1 v6 g4 p0.addrs p0.addrs.length p0.addrs.length) := T0_5.out.kept q
  have X_6 : Hid (HoldsL v6 v4.heap.size [.slice (some ⟨g4, 0, none⟩) p0.addrs.length p0.addrs.length, .int .i64 p0.low, .int .i64 p0.high, .int .i64 p0.most, .int .i64 p0.filter, .int .i64 p0.lv.udp, .int .i64 p0.lv.echo, .int .i64 p0.lv.opening, .int .i64 p0.lv.opn, .int .i64 p0.lv.closing]) := X_5.out.kept (by simp) q
  clear A_5 P0_5 T0_5 X_5
  clear q
  go_upto_region 10 with fail
  go_cut [26] (fun v wx => v = .bool false ∧ Below v6.heap.size v6 wx)
  case first =>
    rename_i J K2 hJ hK2
    clear hun
    have HCP : Hid (∀ wy, Below v6.drew.heap.size v6.drew wy → HoldsL wy v4.heap.size [.slice (some ⟨g4, 0, none⟩) p0.addrs.length p0.addrs.length, .int .i64 p0.low, .int .i64 p0.high, .int .i64 p0.most, .int .i64 p0.filter, .int .i64 p0.lv.udp, .int .i64 p0.lv.echo, .int .i64 p0.lv.opening, .int .i64 p0.lv.opn, .int .i64 p0.lv.closing] ∧ HoldsL wy w.heap.size [.slice a0 p0.addrs.length cap0, .int .i64 p0.low, .int .i64 p0.high, .int .i64 p0.most, .int .i64 p0.filter, .int .i64 p0.lv.udp, .int .i64 p0.lv.echo, .int .i64 p0.lv.opening, .int .i64 p0.lv.opn, .int .i64 p0.lv.closing] ∧ Below w.heap.size w wy ∧ Below v6.heap.size v6 wy) := fun wy hy => ⟨X_6.out.drew.kept (by simp) hy, P0_6.out.drew.kept (by simp) hy, A_6.out.drew.trans (hy.mono A_6.out.size), (Below.refl _ _).drew.trans hy⟩
    have HE : Hid (∀ wy b2, SlIs strL1 1 wy (some ⟨g4, 0, none⟩) p0.addrs → SlIs strL1 1 wy (some ⟨b2, 0, none⟩) p0.addrs → Calls Try.prog 12 #[.agg #[.slice (some ⟨g4, 0, none⟩) p0.addrs.length p0.addrs.length, .int .i64 p0.low, .int .i64 p0.high, .int .i64 p0.most, .int .i64 p0.filter, .int .i64 p0.lv.udp, .int .i64 p0.lv.echo, .int .i64 p0.lv.opening, .int .i64 p0.lv.opn, .int .i64 p0.lv.closing], plC (some ⟨b2, 0, none⟩) p0.addrs.length p0] wy fun e w' => e = .returned (.bool true) ∧ Below wy.heap.size wy w') := fun wy b2 h1 h2 => eqPool_same p0 _ _ _ _ wy hpl h1 h2
    refine wp_region_growH [22, 23, 24, 25, 26] (by kernel_rfl) (by kernel_rfl) ?_
    refine GCh.val (n := 0) (fun v => [IsV v]) (fun _ => rfl) rfl ?_
    apply Exists.intro
    refine And.intro ?_ ?_
    · intro K' a wy ho hd hb hK
      rw [if_pos (wanted_none rfl)]
      have o5 := ho 5 (by decide)
      simp [slot] at o5
      clear hd ho
      obtain ⟨hq1, hq2, -, -⟩ := HCP.out wy hb
      have u0 : wy.cell? ⟨v4.heap.size, 0, none⟩ = some (.slice (some ⟨g4, 0, none⟩) p0.addrs.length p0.addrs.length) := hq1.cell rfl
      have u1 : wy.cell? ⟨v4.heap.size, 1, none⟩ = some (.int .i64 p0.low) := hq1.cell rfl
      have u2 : wy.cell? ⟨v4.heap.size, 2, none⟩ = some (.int .i64 p0.high) := hq1.cell rfl
      have u3 : wy.cell? ⟨v4.heap.size, 3, none⟩ = some (.int .i64 p0.most) := hq1.cell rfl
      have u4 : wy.cell? ⟨v4.heap.size, 4, none⟩ = some (.int .i64 p0.filter) := hq1.cell rfl
      have u5 : wy.cell? ⟨v4.heap.size, 5, none⟩ = some (.int .i64 p0.lv.udp) := hq1.cell rfl
      have u6 : wy.cell? ⟨v4.heap.size, 6, none⟩ = some (.int .i64 p0.lv.echo) := hq1.cell rfl
      have u7 : wy.cell? ⟨v4.heap.size, 7, none⟩ = some (.int .i64 p0.lv.opening) := hq1.cell rfl
      have u8 : wy.cell? ⟨v4.heap.size, 8, none⟩ = some (.int .i64 p0.lv.opn) := hq1.cell rfl
      have u9 : wy.cell? ⟨v4.heap.size, 9, none⟩ = some (.int .i64 p0.lv.closing) := hq1.cell rfl
      have t0 : wy.cell? ⟨w.heap.size, 0, none⟩ = some (.slice a0 p0.addrs.length cap0) := hq2.cell rfl
      have t1 : wy.cell? ⟨w.heap.size, 1, none⟩ = some (.int .i64 p0.low) := hq2.cell rfl
      have t2 : wy.cell? ⟨w.heap.size, 2, none⟩ = some (.int .i64 p0.high) := hq2.cell rfl
      have t3 : wy.cell? ⟨w.heap.size, 3, none⟩ = some (.int .i64 p0.most) := hq2.cell rfl
      have t4 : wy.cell? ⟨w.heap.size, 4, none⟩ = some (.int .i64 p0.filter) := hq2.cell rfl
      have t5 : wy.cell? ⟨w.heap.size, 5, none⟩ = some (.int .i64 p0.lv.udp) := hq2.cell rfl
      have t6 : wy.cell? ⟨w.heap.size, 6, none⟩ = some (.int .i64 p0.lv.echo) := hq2.cell rfl
      have t7 : wy.cell? ⟨w.heap.size, 7, none⟩ = some (.int .i64 p0.lv.opening) := hq2.cell rfl
      have t8 : wy.cell? ⟨w.heap.size, 8, none⟩ = some (.int .i64 p0.lv.opn) := hq2.cell rfl
      have t9 : wy.cell? ⟨w.heap.size, 9, none⟩ = some (.int .i64 p0.lv.closing) := hq2.cell rfl
      go_simp
      try go_bits
      exact hK _ _ rfl (Below.refl _ _)
    refine GCh.val (n := 1) (fun v => [_, IsV v]) (fun _ => rfl) rfl ?_
    apply Exists.intro
    refine And.intro ?_ ?_
    · intro K' a wy ho hd hb hK
      rw [if_pos (wanted_none rfl)]
      have o1 := ho 1 (by decide)
      simp [slot] at o1
      clear hd ho
      obtain ⟨hq1, hq2, -, -⟩ := HCP.out wy hb
      have u0 : wy.cell? ⟨v4.heap.size, 0, none⟩ = some (.slice (some ⟨g4, 0, none⟩) p0.addrs.length p0.addrs.length) := hq1.cell rfl
      have u1 : wy.cell? ⟨v4.heap.size, 1, none⟩ = some (.int .i64 p0.low) := hq1.cell rfl
      have u2 : wy.cell? ⟨v4.heap.size, 2, none⟩ = some (.int .i64 p0.high) := hq1.cell rfl
      have u3 : wy.cell? ⟨v4.heap.size, 3, none⟩ = some (.int .i64 p0.most) := hq1.cell rfl
      have u4 : wy.cell? ⟨v4.heap.size, 4, none⟩ = some (.int .i64 p0.filter) := hq1.cell rfl
      have u5 : wy.cell? ⟨v4.heap.size, 5, none⟩ = some (.int .i64 p0.lv.udp) := hq1.cell rfl
      have u6 : wy.cell? ⟨v4.heap.size, 6, none⟩ = some (.int .i64 p0.lv.echo) := hq1.cell rfl
      have u7 : wy.cell? ⟨v4.heap.size, 7, none⟩ = some (.int .i64 p0.lv.opening) := hq1.cell rfl
      have u8 : wy.cell? ⟨v4.heap.size, 8, none⟩ = some (.int .i64 p0.lv.opn) := hq1.cell rfl
      have u9 : wy.cell? ⟨v4.heap.size, 9, none⟩ = some (.int .i64 p0.lv.closing) := hq1.cell rfl
      have t0 : wy.cell? ⟨w.heap.size, 0, none⟩ = some (.slice a0 p0.addrs.length cap0) := hq2.cell rfl
      have t1 : wy.cell? ⟨w.heap.size, 1, none⟩ = some (.int .i64 p0.low) := hq2.cell rfl
      have t2 : wy.cell? ⟨w.heap.size, 2, none⟩ = some (.int .i64 p0.high) := hq2.cell rfl
      have t3 : wy.cell? ⟨w.heap.size, 3, none⟩ = some (.int .i64 p0.most) := hq2.cell rfl
      have t4 : wy.cell? ⟨w.heap.size, 4, none⟩ = some (.int .i64 p0.filter) := hq2.cell rfl
      have t5 : wy.cell? ⟨w.heap.size, 5, none⟩ = some (.int .i64 p0.lv.udp) := hq2.cell rfl
      have t6 : wy.cell? ⟨w.heap.size, 6, none⟩ = some (.int .i64 p0.lv.echo) := hq2.cell rfl
      have t7 : wy.cell? ⟨w.heap.size, 7, none⟩ = some (.int .i64 p0.lv.opening) := hq2.cell rfl
      have t8 : wy.cell? ⟨w.heap.size, 8, none⟩ = some (.int .i64 p0.lv.opn) := hq2.cell rfl
      have t9 : wy.cell? ⟨w.heap.size, 9, none⟩ = some (.int .i64 p0.lv.closing) := hq2.cell rfl
      go_simp
      try go_bits
      exact hK _ _ rfl (Below.refl _ _)
    refine GCh.rel (n := 2) (IsPl v6.drew.heap.size p0) (stable_isPl _ _) [_, _, IsPl v6.drew.heap.size p0] rfl rfl ?_ ?_
    · intro K' a wy ho hd hb hK
      rw [if_pos (wanted_none rfl)]
      have q1 := hd ⟨1, .data⟩ (by simp) rfl
      simp [rAt, IsV, slot] at q1
      clear hd ho
      go_simp
      refine (toPool_any p0 a0 cap0 wy hpl (HX0.out.below (HCP.out wy hb).2.2.1)).mono ?_
      rintro e wz ⟨⟨gg, rfl, hg, hl⟩, hz⟩
      exact hK _ _ ⟨gg, rfl, Nat.le_trans hb.size hg, hl⟩ hz
    refine GCh.val (n := 3) (fun v => [_, _, _, IsV v]) (fun _ => rfl) rfl ?_
    apply Exists.intro
    refine And.intro ?_ ?_
    · intro K' a wy ho hd hb hK
      rw [if_pos (wanted_none rfl)]
      have q0 := hd ⟨0, .data⟩ (by simp) rfl
      simp [rAt, IsV, slot] at q0
      obtain ⟨g2, e2, b2, l2⟩ : IsPl v6.drew.heap.size p0 (slot a 24) wy := hd ⟨2, .data⟩ (by simp) rfl
      simp [slot] at e2
      clear hd ho
      go_simp
      refine (HE.out wy g2 (T0_6.out.kept (HCP.out wy hb).2.2.2).is l2.is).mono ?_
      rintro e wz ⟨rfl, hz⟩
      exact hK _ _ rfl hz
    refine GCh.val (n := 4) (fun v => [_, _, _, _, IsV v]) (fun _ => rfl) rfl ?_
    apply Exists.intro
    refine And.intro ?_ ?_
    · intro K' a wy ho hd hb hK
      rw [if_pos (wanted_none rfl)]
      have q3 := hd ⟨3, .data⟩ (by simp) rfl
      simp [rAt, IsV, slot] at q3
      clear hd ho
      go_simp
      try go_bits
      exact hK _ _ rfl (Below.refl _ _)
    intro X wz hR hz
    obtain ⟨x0, x1, x2, x3, x4, -⟩ := hR
    obtain ⟨g2, e2, -, -⟩ := x2
    simp only [IsV] at x0 x1 x3 x4
    simp only [putsFrom, x0, x1, e2, x3, x4]
    clear x0 x1 x3 x4
    go_simp
    refine hK2 _ _ (hJ _ _ ?_)
    (repeat apply Exists.intro)
    refine ⟨⟨rfl, (Below.refl _ _).drew.trans hz⟩, rfl⟩
  case rest =>
  obtain ⟨rfl, q⟩ := hcut
  generalize wc = v7 at *
  have A_7 : Hid (Below w.heap.size w v7) := A_6.out.trans (q.mono A_6.out.size)
  have P0_7 : Hid (HoldsL v7 w.heap.size [.slice a0 p0.addrs.length cap0, .int .i64 p0.low, .int .i64 p0.high, .int .i64 p0.most, .int .i64 p0.filter, .int .i64 p0.lv.udp, .int .i64 p0.lv.echo, .int .i64 p0.lv.opening, .int .i64 p0.lv.opn, .int .i64 p0.lv.closing]) := P0_6.out.kept (by simp) q
  have T0_7 : Hid (SlLaid strL1 1 v7 g4 p0.addrs p0.addrs.length p0.addrs.length) := T0_6.out.kept q
  have X_7 : Hid (HoldsL v7 v4.heap.size [.slice (some ⟨g4, 0, none⟩) p0.addrs.length p0.addrs.length, .int .i64 p0.low, .int .i64 p0.high, .int .i64 p0.most, .int .i64 p0.filter, .int .i64 p0.lv.udp, .int .i64 p0.lv.echo, .int .i64 p0.lv.opening, .int .i64 p0.lv.opn, .int .i64 p0.lv.closing]) := X_6.out.kept (by simp) q
  clear A_6 P0_6 T0_6 X_6
  clear q
  go_wp2_with fail
  go_ret
  exact ⟨rfl, A_7.out⟩

set_option maxRecDepth 100000 in
theorem lifted (os : Os) (started : os.Started) (H : Type) (enc : TypeId × Value → H) :
    ReturnsInHanded {} Try.checked os 3 .any (Rows.fnExactPoolRightSpec.pre6 enc Try.prog Try.f3 Rows.fnExactPoolRightRow.domain false) (Rows.fnExactPoolRightSpec.post enc Try.prog Try.f3 false true false false) := by
  refine returnsInHanded_of_change (C := Try.checked) own started (by kernel_rfl) Try.func3
    (ChangeSpec.witness6 (enc := enc) (C := Try.checked) false ⟨#[], #[.agg #[.slice none 0 0, .int .i64 0, .int .i64 0, .int .i64 0, .int .i64 0, .int .i64 0, .int .i64 0, .int .i64 0, .int .i64 0, .int .i64 0]], []⟩ 8 (by kernel_rfl) (by kernel_rfl) (by kernel_rfl) (by kernel_rfl)) ?_
  intro W base args ds gs before hval0 hW hcnd _
  have hval : ∀ (j : Nat) t v, Try.f3.params[j]? = some t → args[j]? = some v → Value.okWide Try.prog W .any base t v := hval0
  have hW' := hW
  obtain ⟨p, q, hA0, hV, rfl, hfz, hnd⟩ := hW
  have hA : DataW.TrodAll enc Try.prog W 0 (fun _ => true) true Try.f3.params.toList args.toList ds p := hA0
  rw [Try.params3] at hA hval
  obtain ⟨v0, vs0, d0, ds0, p0, q0, hargs, rfl, rfl, h0, r0⟩ := trodAll_cons hA
  obtain ⟨rfl, rfl, rfl⟩ := trodAll_nil r0
  obtain rfl : args = #[v0] := by cases args; simp_all
  obtain ⟨rfl, rfl⟩ := trodVars_none hV
  have k0 := h0
  have lt0 : ∀ x ∈ p0, x.block < W.heap.size := by obtain ⟨m, hm⟩ := k0; exact DataW.trod_lt m _ _ _ hm
  obtain ⟨a0, cap0, pl0, rfl, w0, x0⟩ := open_Pool (hval 0 26 v0 rfl rfl) h0
  clear hA0 hval0
  refine (walk a0 cap0 pl0 W w0 x0).mono fun e W' ⟨he, hg⟩ => ?_
  subst he
  exact ⟨_, rfl, _, _, _, [], _, [], hW', (trodAll_cons_mk (shut_bool Try.underlying4 _) trodAll_mk0), (trodAll_cons_mk (Below.trod laidOut (by kernel_rfl) (of_decide_eq_true (by kernel_rfl)) k0 hg lt0) trodAll_mk0), rfl, hg.frame _, fun h => by cases h⟩

theorem over : Rows.fnExactPoolRightRow.holds Try.pinned (OpenSpec.ofChange Rows.fnExactPoolRightSpec) :=
  OpenClaim.holds_of_wide 3 Try.f3 rfl rfl rfl rfl rfl rfl rfl ⟨rfl, rfl, rfl, rfl, rfl⟩ rfl rfl rfl rfl rfl (by kernel_rfl) Try.func3 (by kernel_rfl)
    (of_decide_eq_true (by kernel_rfl)) (by unfold Func.isWrapper; first | (rw [if_pos (by decide +kernel)]; kernel_rfl) | (rw [if_neg (by decide +kernel)]; exact ⟨rfl, rfl⟩))
    (fun os started H enc _ => lifted os started H enc)

end Go.Proofs.Ytkakehchiadpbal.fnExactPoolRight
namespace Go.Proofs.Ytkakehchiadpbal
theorem fnExactPoolRight_holds : Rows.FnExactPoolRightSaid := fnExactPoolRight.over
#print axioms fnExactPoolRight_holds
end Go.Proofs.Ytkakehchiadpbal
