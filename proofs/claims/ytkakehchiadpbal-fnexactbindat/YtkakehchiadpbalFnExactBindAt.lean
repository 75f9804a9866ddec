/- At every bib, proto, text and port the program's BindAt answers as the specification's: the law FnExactBindAt returns true, and writes nothing that was there. No condition. -/
import Derived.Test.YtkakehchiadpbalRows
import Derived.Test.YtkakehchiadpbalLawSt9
import Derived.Test.YtkakehchiadpbalSBib2
import Derived.Test.YtkakehchiadpbalIBk3
import Derived.WalkKit
import Derived.ProofKit
import Derived.OpenShut
import Derived.ShutString
import Derived.ChangeOld
import Derived.Below
import Derived.Lib.SmallJoins
namespace Go.Proofs.Ytkakehchiadpbal.fnExactBindAt
open Go.ChangeShapes Go.WideShapes Go.ChangeAt Go.RowKit Go.Joins
open Go.ChangeMaps (open_string shut_string)
set_option linter.unusedVariables false

theorem own : ownKnob Try.prog.godebug = none := by kernel_rfl
theorem laidOut : laidOutB Try.prog = true := by kernel_rfl

set_option maxRecDepth 100000 in
set_option maxHeartbeats 4000000 in
theorem walk (a0 b0 : Option Addr) (ca0 cb0 : Nat) (y0 : Bb) (a1 : Int) (a2 : ByteArray) (a3 : Int) (w : World) (w0 : BbWf y0) (x0 : BbIs w a0 b0 y0) (w1 : (Lit.int .i64 a1).wf = true) (w2 : a2.size ≤ maxLen) (w3 : (Lit.int .i64 a3).wf = true) :
    Calls Try.prog 6 #[bbC a0 b0 ca0 cb0 y0, .int .i64 a1, .string a2, .int .i64 a3] w fun e w' => e = .returned (.bool true) ∧ Below w.heap.size w w' := by
  have HX0 : Hid (BbIs w a0 b0 y0) := x0
  have HW0 : Hid (BbWf y0) := w0
  obtain ⟨s0, hs0⟩ : ∃ s, s = szBb y0 1048576 := ⟨_, rfl⟩
  have HS0 : Hid (s0 = szBb y0 1048576) := hs0
  clear x0 w0 hs0
  by_cases hl2 : 1048576 < a2.size
  case pos =>
    have hli : (1048576 : Int) < (a2.size : Int) := by omega
    have HZ0 : Hid (Below w.heap.size w (w.alloc (.cells #[.slice a0 y0.binds.length ca0, .slice b0 y0.sess.length cb0] 38))) := ((Below.refl _ _).alloc (Nat.le_refl _) _)
    have HB0 : Hid (HoldsL (w.alloc (.cells #[.slice a0 y0.binds.length ca0, .slice b0 y0.sess.length cb0] 38)) (w.heap.size) [.slice a0 y0.binds.length ca0, .slice b0 y0.sess.length cb0]) := by have h := (HoldsL.new w [.slice a0 y0.binds.length ca0, .slice b0 y0.sess.length cb0] 38); exact h
    have hun : undef = Value.tuple #[] := rfl
    unfold bbC
    go_enter Try.func6, Try.ntmps6
    go_upto_region 1 with fail
    generalize w.alloc (.cells #[.slice a0 y0.binds.length ca0, .slice b0 y0.sess.length cb0] 38) = W0 at *
    have A_0 : Hid (Below w.heap.size w W0) := HZ0.out
    have P0_0 : Hid (HoldsL W0 w.heap.size [.slice a0 y0.binds.length ca0, .slice b0 y0.sess.length cb0]) := HB0.out
    clear HZ0 HB0
    go_wp2_with fail
    go_ret
    exact ⟨rfl, A_0.out⟩
  have hln2 : ¬ (1048576 : Int) < (a2.size : Int) := by omega
  have hr0 : -1 ≤ s0 ∧ s0 ≤ 1048576 := by rw [HS0.out]; exact szBb_range y0 _ (by omega)
  obtain ⟨hra0, hrb0⟩ := hr0
  by_cases hz0 : s0 < 0
  case pos =>
    have HZ0 : Hid (Below w.heap.size w (w.alloc (.cells #[.slice a0 y0.binds.length ca0, .slice b0 y0.sess.length cb0] 38))) := ((Below.refl _ _).alloc (Nat.le_refl _) _)
    have HB0 : Hid (HoldsL (w.alloc (.cells #[.slice a0 y0.binds.length ca0, .slice b0 y0.sess.length cb0] 38)) (w.heap.size) [.slice a0 y0.binds.length ca0, .slice b0 y0.sess.length cb0]) := by have h := (HoldsL.new w [.slice a0 y0.binds.length ca0, .slice b0 y0.sess.length cb0] 38); exact h
    have hun : undef = Value.tuple #[] := rfl
    unfold bbC
    go_enter Try.func6, Try.ntmps6
    go_upto_region 1 with fail
    generalize w.alloc (.cells #[.slice a0 y0.binds.length ca0, .slice b0 y0.sess.length cb0] 38) = W0 at *
    have A_0 : Hid (Below w.heap.size w W0) := HZ0.out
    have P0_0 : Hid (HoldsL W0 w.heap.size [.slice a0 y0.binds.length ca0, .slice b0 y0.sess.length cb0]) := HB0.out
    clear HZ0 HB0
    have cP00 : W0.cell? ⟨w.heap.size, 0, none⟩ = some (.slice a0 y0.binds.length ca0) := P0_0.out.cell rfl
    have cP01 : W0.cell? ⟨w.heap.size, 1, none⟩ = some (.slice b0 y0.sess.length cb0) := P0_0.out.cell rfl
    go_wp2_with fail
    refine (szBib_at y0 a0 b0 ca0 cb0 1048576 _ HW0.out (HX0.out.below A_0.out) (by omega) (by omega)).mono ?_
    rw [← HS0.out]
    rintro e v1 ⟨rfl, q⟩
    clear cP00 cP01
    have A_1 : Hid (Below w.heap.size w v1) := A_0.out.trans (q.mono A_0.out.size)
    have P0_1 : Hid (HoldsL v1 w.heap.size [.slice a0 y0.binds.length ca0, .slice b0 y0.sess.length cb0]) := P0_0.out.kept (by simp) q
    clear A_0 P0_0
    clear q
    go_wp2_with fail
    go_ret
    exact ⟨rfl, A_1.out⟩
  have hnn0 : 0 ≤ s0 := by omega
  have hbi : Hid (BbSm y0) := bb_in (left := 1048576) (by omega) (by omega) (by rw [← HS0.out]; omega)
  have hbl1 := hbi.out.1
  have hbl2 := hbi.out.2.1
  have HZ0 : Hid (Below w.heap.size w (w.alloc (.cells #[.slice a0 y0.binds.length ca0, .slice b0 y0.sess.length cb0] 38))) := ((Below.refl _ _).alloc (Nat.le_refl _) _)
  have HB0 : Hid (HoldsL (w.alloc (.cells #[.slice a0 y0.binds.length ca0, .slice b0 y0.sess.length cb0] 38)) (w.heap.size) [.slice a0 y0.binds.length ca0, .slice b0 y0.sess.length cb0]) := by have h := (HoldsL.new w [.slice a0 y0.binds.length ca0, .slice b0 y0.sess.length cb0] 38); exact h
  have hun : undef = Value.tuple #[] := rfl
  unfold bbC
  go_enter Try.func6, Try.ntmps6
  go_upto_region 1 with fail
  generalize w.alloc (.cells #[.slice a0 y0.binds.length ca0, .slice b0 y0.sess.length cb0] 38) = W0 at *
  have A_0 : Hid (Below w.heap.size w W0) := HZ0.out
  have P0_0 : Hid (HoldsL W0 w.heap.size [.slice a0 y0.binds.length ca0, .slice b0 y0.sess.length cb0]) := HB0.out
  clear HZ0 HB0
  have cP00 : W0.cell? ⟨w.heap.size, 0, none⟩ = some (.slice a0 y0.binds.length ca0) := P0_0.out.cell rfl
  have cP01 : W0.cell? ⟨w.heap.size, 1, none⟩ = some (.slice b0 y0.sess.length cb0) := P0_0.out.cell rfl
  go_wp2_with fail
  refine (szBib_at y0 a0 b0 ca0 cb0 1048576 _ HW0.out (HX0.out.below A_0.out) (by omega) (by omega)).mono ?_
  rw [← HS0.out]
  rintro e v1 ⟨rfl, q⟩
  clear cP00 cP01
  have A_1 : Hid (Below w.heap.size w v1) := A_0.out.trans (q.mono A_0.out.size)
  have P0_1 : Hid (HoldsL v1 w.heap.size [.slice a0 y0.binds.length ca0, .slice b0 y0.sess.length cb0]) := P0_0.out.kept (by simp) q
  clear A_0 P0_0
  clear q
  have HIN : Hid (BdsIn y0.binds) := ⟨hbl1, fun q hq => hbi.out.2.2.1 q hq⟩
  obtain ⟨an, han⟩ : ∃ y, y = bindV (ofOut a1 a2 a3) y0.binds a2 := ⟨_, rfl⟩
  have HSP : Hid (∀ W ta tb tc td, BbIs W ta tb y0 → Calls Try.prog 21 #[bbC ta tb tc td y0, .int .i64 a1, .string a2, .int .i64 a3] W fun e w' => e = .returned (bdC an) ∧ Below W.heap.size W w') := fun W ta tb tc td h => by rw [han]; exact specBindAt_any y0.binds a1 a2 a3 ta tc _ W hbl1 h.bd
  have HIP : Hid (∀ W ta tb tc td, BbIs W ta tb y0 → Calls Try.prog 22 #[bbC ta tb tc td y0, .int .i64 a1, .string a2, .int .i64 a3] W fun e w' => e = .returned (bdC an) ∧ Below W.heap.size W w') := fun W ta tb tc td h => by rw [han]; exact implBindAt_any y0.binds a1 a2 a3 ta tc _ rfl W HIN.out h.bd
  clear han
  unfold bdC at HSP HIP
  have cP00 : v1.cell? ⟨w.heap.size, 0, none⟩ = some (.slice a0 y0.binds.length ca0) := P0_1.out.cell rfl
  have cP01 : v1.cell? ⟨w.heap.size, 1, none⟩ = some (.slice b0 y0.sess.length cb0) := P0_1.out.cell rfl
  go_wp2_with fail
  refine (toBib_any y0 a0 b0 ca0 cb0 _ hbl1 hbl2 (HX0.out.below A_1.out)).mono ?_
  rintro e v2 ⟨⟨ta2, tb2, tc2, td2, rfl, ho⟩, q⟩
  clear cP00 cP01
  have A_2 : Hid (Below w.heap.size w v2) := A_1.out.trans (q.mono A_1.out.size)
  have P0_2 : Hid (HoldsL v2 w.heap.size [.slice a0 y0.binds.length ca0, .slice b0 y0.sess.length cb0]) := P0_1.out.kept (by simp) q
  clear A_1 P0_1
  clear q
  have T0_2 : Hid (BbOwn v1.heap.size v2 ta2 tb2 y0) := ho
  clear ho
  unfold bbC
  go_wp2_with fail
  refine (HSP.out _ _ _ _ _ T0_2.out.is).mono ?_
  rintro e v3 ⟨rfl, q⟩
  have A_3 : Hid (Below w.heap.size w v3) := A_2.out.trans (q.mono A_2.out.size)
  have P0_3 : Hid (HoldsL v3 w.heap.size [.slice a0 y0.binds.length ca0, .slice b0 y0.sess.length cb0]) := P0_2.out.kept (by simp) q
  have T0_3 : Hid (BbOwn v1.heap.size v3 ta2 tb2 y0) := T0_2.out.kept q
  clear A_2 P0_2 T0_2
  clear q
  clear T0_3
  go_upto_region 8 with fail
  have bn : Below v3.heap.size v3 (v3.alloc (.cells #[.int .i64 an.proto, .string an.inn, .int .i64 an.inPort, .string an.out, .int .i64 an.outPort] 49)) := (Below.refl _ _).alloc (Nat.le_refl _) _
  have hn : HoldsL (v3.alloc (.cells #[.int .i64 an.proto, .string an.inn, .int .i64 an.inPort, .string an.out, .int .i64 an.outPort] 49)) v3.heap.size [.int .i64 an.proto, .string an.inn, .int .i64 an.inPort, .string an.out, .int .i64 an.outPort] := HoldsL.new v3 [.int .i64 an.proto, .string an.inn, .int .i64 an.inPort, .string an.out, .int .i64 an.outPort] 49
  generalize v3.alloc (.cells #[.int .i64 an.proto, .string an.inn, .int .i64 an.inPort, .string an.out, .int .i64 an.outPort] 49) = v4 at *
  have A_4 : Hid (Below w.heap.size w v4) := A_3.out.trans (bn.mono A_3.out.size)
  have P0_4 : Hid (HoldsL v4 w.heap.size [.slice a0 y0.binds.length ca0, .slice b0 y0.sess.length cb0]) := P0_3.out.kept (by simp) bn
  clear A_3 P0_3
  have Y_4 : Hid (HoldsL v4 v3.heap.size [.int .i64 an.proto, .string an.inn, .int .i64 an.inPort, .string an.out, .int .i64 an.outPort]) := hn
  have hYl : v3.heap.size < v4.heap.size := hn.lt (by simp)
  clear bn hn
  have cP00 : v4.cell? ⟨w.heap.size, 0, none⟩ = some (.slice a0 y0.binds.length ca0) := P0_4.out.cell rfl
  have cP01 : v4.cell? ⟨w.heap.size, 1, none⟩ = some (.slice b0 y0.sess.length cb0) := P0_4.out.cell rfl
  go_wp2_with fail
  refine (toBib_any y0 a0 b0 ca0 cb0 _ hbl1 hbl2 (HX0.out.below A_4.out)).mono ?_
  rintro e v5 ⟨⟨ta5, tb5, tc5, td5, rfl, ho⟩, q⟩
  clear cP00 cP01
  have A_5 : Hid (Below w.heap.size w v5) := A_4.out.trans (q.mono A_4.out.size)
  have P0_5 : Hid (HoldsL v5 w.heap.size [.slice a0 y0.binds.length ca0, .slice b0 y0.sess.length cb0]) := P0_4.out.kept (by simp) q
  have Y_5 : Hid (HoldsL v5 v3.heap.size [.int .i64 an.proto, .string an.inn, .int .i64 an.inPort, .string an.out, .int .i64 an.outPort]) := Y_4.out.kept (by simp) q
  clear A_4 P0_4 Y_4
  clear q
  have T0_5 : Hid (BbOwn v4.heap.size v5 ta5 tb5 y0) := ho
  clear ho
  unfold bbC
  go_upto_region 9 with fail
  have bn : Below v5.heap.size v5 (v5.alloc (.cells #[.slice ta5 y0.binds.length tc5, .slice tb5 y0.sess.length td5] 44)) := (Below.refl _ _).alloc (Nat.le_refl _) _
  have hn : HoldsL (v5.alloc (.cells #[.slice ta5 y0.binds.length tc5, .slice tb5 y0.sess.length td5] 44)) v5.heap.size [.slice ta5 y0.binds.length tc5, .slice tb5 y0.sess.length td5] := HoldsL.new v5 [.slice ta5 y0.binds.length tc5, .slice tb5 y0.sess.length td5] 44
  generalize v5.alloc (.cells #[.slice ta5 y0.binds.length tc5, .slice tb5 y0.sess.length td5] 44) = v6 at *
  have A_6 : Hid (Below w.heap.size w v6) := A_5.out.trans (bn.mono A_5.out.size)
  have P0_6 : Hid (HoldsL v6 w.heap.size [.slice a0 y0.binds.length ca0, .slice b0 y0.sess.length cb0]) := P0_5.out.kept (by simp) bn
  have Y_6 : Hid (HoldsL v6 v3.heap.size [.int .i64 an.proto, .string an.inn, .int .i64 an.inPort, .string an.out, .int .i64 an.outPort]) := Y_5.out.kept (by simp) bn
  have T0_6 : Hid (BbOwn v4.heap.size v6 ta5 tb5 y0) := T0_5.out.kept bn
  clear A_5 P0_5 Y_5 T0_5
  have X_6 : Hid (HoldsL v6 v5.heap.size [.slice ta5 y0.binds.length tc5, .slice tb5 y0.sess.length td5]) := hn
  have hXl : v5.heap.size < v6.heap.size := hn.lt (by simp)
  clear bn hn
  have cX0 : v6.cell? ⟨v5.heap.size, 0, none⟩ = some (.slice ta5 y0.binds.length tc5) := X_6.out.cell rfl
  have cX1 : v6.cell? ⟨v5.heap.size, 1, none⟩ = some (.slice tb5 y0.sess.length td5) := X_6.out.cell rfl
  go_wp2_with fail
  refine (HIP.out _ _ _ _ _ T0_6.out.is).mono ?_
  rintro e v7 ⟨rfl, q⟩
  clear cX0 cX1
  have A_7 : Hid (Below w.heap.size w v7) := A_6.out.trans (q.mono A_6.out.size)
  have P0_7 : Hid (HoldsL v7 w.heap.size [.slice a0 y0.binds.length ca0, .slice b0 y0.sess.length cb0]) := P0_6.out.kept (by simp) q
  have Y_7 : Hid (HoldsL v7 v3.heap.size [.int .i64 an.proto, .string an.inn, .int .i64 an.inPort, .string an.out, .int .i64 an.outPort]) := Y_6.out.kept (by simp) q
  have T0_7 : Hid (BbOwn v4.heap.size v7 ta5 tb5 y0) := T0_6.out.kept q
  have X_7 : Hid (HoldsL v7 v5.heap.size [.slice ta5 y0.binds.length tc5, .slice tb5 y0.sess.length td5]) := X_6.out.kept (by simp) q
  clear A_6 P0_6 Y_6 T0_6 X_6
  clear q
  go_upto_region 10 with fail
  have bn : Below v7.heap.size v7 (v7.alloc (.cells #[.int .i64 an.proto, .string an.inn, .int .i64 an.inPort, .string an.out, .int .i64 an.outPort] 49)) := (Below.refl _ _).alloc (Nat.le_refl _) _
  have hn : HoldsL (v7.alloc (.cells #[.int .i64 an.proto, .string an.inn, .int .i64 an.inPort, .string an.out, .int .i64 an.outPort] 49)) v7.heap.size [.int .i64 an.proto, .string an.inn, .int .i64 an.inPort, .string an.out, .int .i64 an.outPort] := HoldsL.new v7 [.int .i64 an.proto, .string an.inn, .int .i64 an.inPort, .string an.out, .int .i64 an.outPort] 49
  generalize v7.alloc (.cells #[.int .i64 an.proto, .string an.inn, .int .i64 an.inPort, .string an.out, .int .i64 an.outPort] 49) = v8 at *
  have A_8 : Hid (Below w.heap.size w v8) := A_7.out.trans (bn.mono A_7.out.size)
  have P0_8 : Hid (HoldsL v8 w.heap.size [.slice a0 y0.binds.length ca0, .slice b0 y0.sess.length cb0]) := P0_7.out.kept (by simp) bn
  have Y_8 : Hid (HoldsL v8 v3.heap.size [.int .i64 an.proto, .string an.inn, .int .i64 an.inPort, .string an.out, .int .i64 an.outPort]) := Y_7.out.kept (by simp) bn
  have T0_8 : Hid (BbOwn v4.heap.size v8 ta5 tb5 y0) := T0_7.out.kept bn
  have X_8 : Hid (HoldsL v8 v5.heap.size [.slice ta5 y0.binds.length tc5, .slice tb5 y0.sess.length td5]) := X_7.out.kept (by simp) bn
  clear A_7 P0_7 Y_7 T0_7 X_7
  have Z_8 : Hid (HoldsL v8 v7.heap.size [.int .i64 an.proto, .string an.inn, .int .i64 an.inPort, .string an.out, .int .i64 an.outPort]) := hn
  have hZl : v7.heap.size < v8.heap.size := hn.lt (by simp)
  clear bn hn
  have cY0 : v8.cell? ⟨v3.heap.size, 0, none⟩ = some (.int .i64 an.proto) := Y_8.out.cell rfl
  have cY1 : v8.cell? ⟨v3.heap.size, 1, none⟩ = some (.string an.inn) := Y_8.out.cell rfl
  have cY2 : v8.cell? ⟨v3.heap.size, 2, none⟩ = some (.int .i64 an.inPort) := Y_8.out.cell rfl
  have cY3 : v8.cell? ⟨v3.heap.size, 3, none⟩ = some (.string an.out) := Y_8.out.cell rfl
  have cY4 : v8.cell? ⟨v3.heap.size, 4, none⟩ = some (.int .i64 an.outPort) := Y_8.out.cell rfl
  have cZ0 : v8.cell? ⟨v7.heap.size, 0, none⟩ = some (.int .i64 an.proto) := Z_8.out.cell rfl
  have cZ1 : v8.cell? ⟨v7.heap.size, 1, none⟩ = some (.string an.inn) := Z_8.out.cell rfl
  have cZ2 : v8.cell? ⟨v7.heap.size, 2, none⟩ = some (.int .i64 an.inPort) := Z_8.out.cell rfl
  have cZ3 : v8.cell? ⟨v7.heap.size, 3, none⟩ = some (.string an.out) := Z_8.out.cell rfl
  have cZ4 : v8.cell? ⟨v7.heap.size, 4, none⟩ = some (.int .i64 an.outPort) := Z_8.out.cell rfl
  go_wp2_with fail
  refine (eqBind_same an _).mono ?_
  rintro e v9 ⟨rfl, q⟩
  clear cY0 cY1 cY2 cY3 cY4 cZ0 cZ1 cZ2 cZ3 cZ4
  have A_9 : Hid (Below w.heap.size w v9) := A_8.out.trans (q.mono A_8.out.size)
  have P0_9 : Hid (HoldsL v9 w.heap.size [.slice a0 y0.binds.length ca0, .slice b0 y0.sess.length cb0]) := P0_8.out.kept (by simp) q
  have Y_9 : Hid (HoldsL v9 v3.heap.size [.int .i64 an.proto, .string an.inn, .int .i64 an.inPort, .string an.out, .int .i64 an.outPort]) := Y_8.out.kept (by simp) q
  have T0_9 : Hid (BbOwn v4.heap.size v9 ta5 tb5 y0) := T0_8.out.kept q
  have X_9 : Hid (HoldsL v9 v5.heap.size [.slice ta5 y0.binds.length tc5, .slice tb5 y0.sess.length td5]) := X_8.out.kept (by simp) q
  have Z_9 : Hid (HoldsL v9 v7.heap.size [.int .i64 an.proto, .string an.inn, .int .i64 an.inPort, .string an.out, .int .i64 an.outPort]) := Z_8.out.kept (by simp) q
  clear A_8 P0_8 Y_8 T0_8 X_8 Z_8
  clear q
  go_upto_region 12 with fail
  go_cut [42] (fun v wx => v = .bool false ∧ Below v9.heap.size v9 wx)
  case first =>
    rename_i J K2 hJ hK2
    clear hun
    have HCP : Hid (∀ wy, Below v9.drew.heap.size v9.drew wy → HoldsL wy v5.heap.size [.slice ta5 y0.binds.length tc5, .slice tb5 y0.sess.length td5] ∧ HoldsL wy w.heap.size [.slice a0 y0.binds.length ca0, .slice b0 y0.sess.length cb0] ∧ Below w.heap.size w wy ∧ Below v9.heap.size v9 wy) := fun wy hy => ⟨X_9.out.drew.kept (by simp) hy, P0_9.out.drew.kept (by simp) hy, A_9.out.drew.trans (hy.mono A_9.out.size), (Below.refl _ _).drew.trans hy⟩
    have HE : Hid (∀ wy xa xb xc xd, BbIs wy ta5 tb5 y0 → BbIs wy xa xb y0 → Calls Try.prog 17 #[.agg #[.slice ta5 y0.binds.length tc5, .slice tb5 y0.sess.length td5], bbC xa xb xc xd y0] wy fun e w' => e = .returned (.bool true) ∧ Below wy.heap.size wy w') := fun wy xa xb xc xd h1 h2 => eqBib_same y0 _ _ _ _ _ _ _ _ wy hbl1 hbl2 h1 h2
    refine wp_region_growH [38, 39, 40, 41, 42] (by kernel_rfl) (by kernel_rfl) ?_
    refine GCh.val (n := 0) (fun v => [IsV v]) (fun _ => rfl) rfl ?_
    apply Exists.intro
    refine And.intro ?_ ?_
    · intro K' a wy ho hd hb hK
      rw [if_pos (wanted_none rfl)]
      have o11 := ho 11 (by decide)
      simp [slot] at o11
      clear hd ho
      obtain ⟨hq1, hq2, -, -⟩ := HCP.out wy hb
      have u0 : wy.cell? ⟨v5.heap.size, 0, none⟩ = some (.slice ta5 y0.binds.length tc5) := hq1.cell rfl
      have u1 : wy.cell? ⟨v5.heap.size, 1, none⟩ = some (.slice tb5 y0.sess.length td5) := hq1.cell rfl
      have t0 : wy.cell? ⟨w.heap.size, 0, none⟩ = some (.slice a0 y0.binds.length ca0) := hq2.cell rfl
      have t1 : wy.cell? ⟨w.heap.size, 1, none⟩ = some (.slice b0 y0.sess.length cb0) := hq2.cell rfl
      go_simp
      try go_bits
      exact hK _ _ rfl (Below.refl _ _)
    refine GCh.val (n := 1) (fun v => [_, IsV v]) (fun _ => rfl) rfl ?_
    apply Exists.intro
    refine And.intro ?_ ?_
    · intro K' a wy ho hd hb hK
      rw [if_pos (wanted_none rfl)]
      have o4 := ho 4 (by decide)
      simp [slot] at o4
      clear hd ho
      obtain ⟨hq1, hq2, -, -⟩ := HCP.out wy hb
      have u0 : wy.cell? ⟨v5.heap.size, 0, none⟩ = some (.slice ta5 y0.binds.length tc5) := hq1.cell rfl
      have u1 : wy.cell? ⟨v5.heap.size, 1, none⟩ = some (.slice tb5 y0.sess.length td5) := hq1.cell rfl
      have t0 : wy.cell? ⟨w.heap.size, 0, none⟩ = some (.slice a0 y0.binds.length ca0) := hq2.cell rfl
      have t1 : wy.cell? ⟨w.heap.size, 1, none⟩ = some (.slice b0 y0.sess.length cb0) := hq2.cell rfl
      go_simp
      try go_bits
      exact hK _ _ rfl (Below.refl _ _)
    refine GCh.rel (n := 2) (IsBb v9.drew.heap.size y0) (stable_isBb _ _) [_, _, IsBb v9.drew.heap.size y0] rfl rfl ?_ ?_
    · intro K' a wy ho hd hb hK
      rw [if_pos (wanted_none rfl)]
      have q1 := hd ⟨1, .data⟩ (by simp) rfl
      simp [rAt, IsV, slot] at q1
      clear hd ho
      go_simp
      refine (toBib_any y0 a0 b0 ca0 cb0 wy hbl1 hbl2 (HX0.out.below (HCP.out wy hb).2.2.1)).mono ?_
      rintro e wz ⟨⟨xa, xb, xc, xd, rfl, hl⟩, hz⟩
      exact hK _ _ ⟨xa, xb, xc, xd, rfl, hl.low hb.size⟩ hz
    refine GCh.val (n := 3) (fun v => [_, _, _, IsV v]) (fun _ => rfl) rfl ?_
    apply Exists.intro
    refine And.intro ?_ ?_
    · intro K' a wy ho hd hb hK
      rw [if_pos (wanted_none rfl)]
      have q0 := hd ⟨0, .data⟩ (by simp) rfl
      simp [rAt, IsV, slot] at q0
      obtain ⟨xa, xb, xc, xd, e2, l2⟩ : IsBb v9.drew.heap.size y0 (slot a 40) wy := hd ⟨2, .data⟩ (by simp) rfl
      simp [slot] at e2
      clear hd ho
      go_simp
      refine (HE.out wy xa xb xc xd (T0_9.out.kept (HCP.out wy hb).2.2.2).is l2.is).mono ?_
      rintro e wz ⟨rfl, hz⟩
      exact hK _ _ rfl hz
    refine GCh.val (n := 4) (fun v => [_, _, _, _, IsV v]) (fun _ => rfl) rfl ?_
    apply Exists.intro
    refine And.intro ?_ ?_
    · intro K' a wy ho hd hb hK
      rw [if_pos (wanted_none rfl)]
      have q3 := hd ⟨3, .data⟩ (by simp) rfl
      simp [rAt, IsV, slot] at q3
      clear hd ho
      go_simp
      try go_bits
      exact hK _ _ rfl (Below.refl _ _)
    intro X wz hR hz
    obtain ⟨x0, x1, x2, x3, x4, -⟩ := hR
    obtain ⟨xa, xb, xc, xd, e2, -⟩ := x2
    simp only [IsV] at x0 x1 x3 x4
    simp only [putsFrom, x0, x1, e2, x3, x4]
    clear x0 x1 x3 x4
    go_simp
    refine hK2 _ _ (hJ _ _ ?_)
    (repeat apply Exists.intro)
    refine ⟨⟨rfl, (Below.refl _ _).drew.trans hz⟩, rfl⟩
  case rest =>
  obtain ⟨rfl, q⟩ := hcut
  generalize wc = v10 at *
  have A_10 : Hid (Below w.heap.size w v10) := A_9.out.trans (q.mono A_9.out.size)
  have P0_10 : Hid (HoldsL v10 w.heap.size [.slice a0 y0.binds.length ca0, .slice b0 y0.sess.length cb0]) := P0_9.out.kept (by simp) q
  have Y_10 : Hid (HoldsL v10 v3.heap.size [.int .i64 an.proto, .string an.inn, .int .i64 an.inPort, .string an.out, .int .i64 an.outPort]) := Y_9.out.kept (by simp) q
  have T0_10 : Hid (BbOwn v4.heap.size v10 ta5 tb5 y0) := T0_9.out.kept q
  have X_10 : Hid (HoldsL v10 v5.heap.size [.slice ta5 y0.binds.length tc5, .slice tb5 y0.sess.length td5]) := X_9.out.kept (by simp) q
  have Z_10 : Hid (HoldsL v10 v7.heap.size [.int .i64 an.proto, .string an.inn, .int .i64 an.inPort, .string an.out, .int .i64 an.outPort]) := Z_9.out.kept (by simp) q
  clear A_9 P0_9 Y_9 T0_9 X_9 Z_9
  clear q
  go_wp2_with fail
  go_ret
  exact ⟨rfl, A_10.out⟩

set_option maxRecDepth 100000 in
theorem lifted (os : Os) (started : os.Started) (H : Type) (enc : TypeId × Value → H) :
    ReturnsInHanded {} Try.checked os 6 .any (Rows.fnExactBindAtSpec.pre6 enc Try.prog Try.f6 Rows.fnExactBindAtRow.domain false) (Rows.fnExactBindAtSpec.post enc Try.prog Try.f6 false true false false) := by
  refine returnsInHanded_of_change (C := Try.checked) own started (by kernel_rfl) Try.func6
    (ChangeSpec.witness6 (enc := enc) (C := Try.checked) false ⟨#[], #[.agg #[.slice none 0 0, .slice none 0 0], .int .i64 0, .string ByteArray.empty, .int .i64 0], []⟩ 8 (by kernel_rfl) (by kernel_rfl) (by kernel_rfl) (by kernel_rfl)) ?_
  intro W base args ds gs before hval0 hW hcnd _
  have hval : ∀ (j : Nat) t v, Try.f6.params[j]? = some t → args[j]? = some v → Value.okWide Try.prog W .any base t v := hval0
  have hW' := hW
  obtain ⟨p, q, hA0, hV, rfl, hfz, hnd⟩ := hW
  have hA : DataW.TrodAll enc Try.prog W 0 (fun _ => true) true Try.f6.params.toList args.toList ds p := hA0
  rw [Try.params6] at hA hval
  obtain ⟨v0, vs0, d0, ds0, p0, q0, hargs, rfl, rfl, h0, r0⟩ := trodAll_cons hA
  obtain ⟨v1, vs1, d1, ds1, p1, q1, rfl, rfl, rfl, h1, r1⟩ := trodAll_cons r0
  obtain ⟨v2, vs2, d2, ds2, p2, q2, rfl, rfl, rfl, h2, r2⟩ := trodAll_cons r1
  obtain ⟨v3, vs3, d3, ds3, p3, q3, rfl, rfl, rfl, h3, r3⟩ := trodAll_cons r2
  obtain ⟨rfl, rfl, rfl⟩ := trodAll_nil r3
  obtain rfl : args = #[v0, v1, v2, v3] := by cases args; simp_all
  obtain ⟨rfl, rfl⟩ := trodVars_none hV
  have k0 := h0
  have lt0 : ∀ x ∈ p0, x.block < W.heap.size := by obtain ⟨m, hm⟩ := k0; exact DataW.trod_lt m _ _ _ hm
  obtain ⟨a0, b0, ca0, cb0, y0, rfl, w0, x0⟩ := open_Bib (hval 0 38 v0 rfl rfl) h0
  obtain ⟨a1, rfl, rfl, rfl, w1⟩ := open_int Try.underlying2 (hval 1 2 v1 rfl rfl) h1
  obtain ⟨a2, rfl, rfl, rfl, w2⟩ := open_string Try.underlying9 (hval 2 9 v2 rfl rfl) h2
  obtain ⟨a3, rfl, rfl, rfl, w3⟩ := open_int Try.underlying2 (hval 3 2 v3 rfl rfl) h3
  clear hA0 hval0
  refine (walk a0 b0 ca0 cb0 y0 a1 a2 a3 W w0 x0 w1 w2 w3).mono fun e W' ⟨he, hg⟩ => ?_
  subst he
  exact ⟨_, rfl, _, _, _, [], _, [], hW', (trodAll_cons_mk (shut_bool Try.underlying4 _) trodAll_mk0), (trodAll_cons_mk (Below.trod laidOut (by kernel_rfl) (of_decide_eq_true (by kernel_rfl)) k0 hg lt0) (trodAll_cons_mk (shut_int Try.underlying2 w1) (trodAll_cons_mk (shut_string Try.underlying9 w2) (trodAll_cons_mk (shut_int Try.underlying2 w3) trodAll_mk0)))), rfl, hg.frame _, fun h => by cases h⟩

theorem over : Rows.fnExactBindAtRow.holds Try.pinned (OpenSpec.ofChange Rows.fnExactBindAtSpec) :=
  OpenClaim.holds_of_wide 6 Try.f6 rfl rfl rfl rfl rfl rfl rfl ⟨rfl, rfl, rfl, rfl, rfl⟩ rfl rfl rfl rfl rfl (by kernel_rfl) Try.func6 (by kernel_rfl)
    (of_decide_eq_true (by kernel_rfl)) (by unfold Func.isWrapper; first | (rw [if_pos (by decide +kernel)]; kernel_rfl) | (rw [if_neg (by decide +kernel)]; exact ⟨rfl, rfl⟩))
    (fun os started H enc _ => lifted os started H enc)

end Go.Proofs.Ytkakehchiadpbal.fnExactBindAt
namespace Go.Proofs.Ytkakehchiadpbal
theorem fnExactBindAt_holds : Rows.FnExactBindAtSaid := fnExactBindAt.over
#print axioms fnExactBindAt_holds
end Go.Proofs.Ytkakehchiadpbal
