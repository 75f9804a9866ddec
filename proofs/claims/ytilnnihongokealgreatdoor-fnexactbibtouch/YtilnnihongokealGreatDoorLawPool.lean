/- LawPool: the laws' helpers for a Pool: one that came in, opened; its size; told anew; held against another; marked. Printed by mkpool.py. -/
import Derived.Test.YtilnnihongokealGreatDoorMerged4
namespace Go.Proofs.YtilnnihongokealGreatDoor
open Go.RowKit Go.PlainAid Go.ChangeShapes Go.WideShapes
set_option linter.unusedVariables false
set_option linter.unusedSimpArgs false

def PlWf (p : Pl) : Prop := StrsWf p.addrs ∧ In64t p.low ∧ In64t p.high ∧ In64t p.most ∧ In64t p.filter ∧ LvWf p.lv
/-- A pool as it is told: its row lies behind base. -/
def PlRet (base : Nat) (p : Pl) (e : Ending) (w : World) : Prop := ∃ B, e = .returned (plC (some ⟨B, 0, none⟩) p.addrs.length p) ∧ base ≤ B ∧ SlLaid strL1 1 w B p.addrs p.addrs.length p.addrs.length

section
variable {H : Type} {enc : TypeId × Value → H} {w : World} {base : Nat} {spare : Nat → Bool} {held : Bool}
theorem arr10 {α : Type} {cs : Array α} (h : cs.size = 10) : ∃ c0 c1 c2 c3 c4 c5 c6 c7 c8 c9, cs = #[c0, c1, c2, c3, c4, c5, c6, c7, c8, c9] := by
 obtain ⟨l⟩ := cs
 match l, h with
 | [c0, c1, c2, c3, c4, c5, c6, c7, c8, c9], _ => exact ⟨c0, c1, c2, c3, c4, c5, c6, c7, c8, c9, rfl⟩
set_option maxRecDepth 100000 in
theorem open_Pool {r : Reach} {b0 : Nat} {v : Value} {d : DataW H} {p : List MemPlace} (hv : Value.okWide Tryz.prog w r b0 26 v) (h : DataW.Trod enc Tryz.prog w base spare held 26 v d p) :
  ∃ (a : Option Addr) (cap : Nat) (q : Pl), v = plC a cap q ∧ PlWf q ∧ SlIs strL1 1 w a q.addrs := by
 obtain ⟨cs, rfl, hsz⟩ := okWide_struct Tryz.underlying26 hv
 obtain ⟨c0, c1, c2, c3, c4, c5, c6, c7, c8, c9, rfl⟩ := arr10 (hsz.trans (show Tryz.prog.cellsOf 26 = 10 by kernel_rfl))
 obtain ⟨fuel, hf⟩ := h
 obtain ⟨m0, y0, h0⟩ := flat_field Tryz.underlying26 hf 0 _ rfl rfl (show Tryz.prog.cellsOf 22 = 1 by kernel_rfl) c0 rfl
 obtain ⟨m1, y1, h1⟩ := flat_field Tryz.underlying26 hf 1 _ rfl rfl (show Tryz.prog.cellsOf 2 = 1 by kernel_rfl) c1 rfl
 obtain ⟨x1, e1, _, g1⟩ := DataW.trod_int Tryz.underlying2 h1
 obtain ⟨m2, y2, h2⟩ := flat_field Tryz.underlying26 hf 2 _ rfl rfl (show Tryz.prog.cellsOf 2 = 1 by kernel_rfl) c2 rfl
 obtain ⟨x2, e2, _, g2⟩ := DataW.trod_int Tryz.underlying2 h2
 obtain ⟨m3, y3, h3⟩ := flat_field Tryz.underlying26 hf 3 _ rfl rfl (show Tryz.prog.cellsOf 2 = 1 by kernel_rfl) c3 rfl
 obtain ⟨x3, e3, _, g3⟩ := DataW.trod_int Tryz.underlying2 h3
 obtain ⟨m4, y4, h4⟩ := flat_field Tryz.underlying26 hf 4 _ rfl rfl (show Tryz.prog.cellsOf 2 = 1 by kernel_rfl) c4 rfl
 obtain ⟨x4, e4, _, g4⟩ := DataW.trod_int Tryz.underlying2 h4
 obtain ⟨xs, m5, _, _, hl, hx, hg⟩ := DataW.trod_struct Tryz.underlying26 hf
 have h5 : DataW.trod enc Tryz.prog w base spare held m5 24 (([c0, c1, c2, c3, c4, c5, c6, c7, c8, c9].drop 5).take (Tryz.prog.cellsOf 24)) = xs[5]? := hg 5 _ rfl
 have hl5 : 5 < xs.length := by rw [hx]; decide
 rw [List.getElem?_eq_getElem hl5, show Tryz.prog.cellsOf 24 = 5 by kernel_rfl] at h5
 have h5 : DataW.trod enc Tryz.prog w base spare held m5 24 [c5, c6, c7, c8, c9] = some xs[5] := h5
 obtain ⟨n0, z0, k0⟩ := flat_field Tryz.underlying24 h5 0 _ rfl rfl (show Tryz.prog.cellsOf 2 = 1 by kernel_rfl) c5 rfl
 obtain ⟨x5, e5, _, g5⟩ := DataW.trod_int Tryz.underlying2 k0
 obtain ⟨n1, z1, k1⟩ := flat_field Tryz.underlying24 h5 1 _ rfl rfl (show Tryz.prog.cellsOf 2 = 1 by kernel_rfl) c6 rfl
 obtain ⟨x6, e6, _, g6⟩ := DataW.trod_int Tryz.underlying2 k1
 obtain ⟨n2, z2, k2⟩ := flat_field Tryz.underlying24 h5 2 _ rfl rfl (show Tryz.prog.cellsOf 2 = 1 by kernel_rfl) c7 rfl
 obtain ⟨x7, e7, _, g7⟩ := DataW.trod_int Tryz.underlying2 k2
 obtain ⟨n3, z3, k3⟩ := flat_field Tryz.underlying24 h5 3 _ rfl rfl (show Tryz.prog.cellsOf 2 = 1 by kernel_rfl) c8 rfl
 obtain ⟨x8, e8, _, g8⟩ := DataW.trod_int Tryz.underlying2 k3
 obtain ⟨n4, z4, k4⟩ := flat_field Tryz.underlying24 h5 4 _ rfl rfl (show Tryz.prog.cellsOf 2 = 1 by kernel_rfl) c9 rfl
 obtain ⟨x9, e9, _, g9⟩ := DataW.trod_int Tryz.underlying2 k4
 simp only [List.cons.injEq, and_true] at e1 e2 e3 e4 e5 e6 e7 e8 e9
 subst e1 e2 e3 e4 e5 e6 e7 e8 e9
 obtain ⟨a, len, cap, rfl⟩ : ∃ a len cap, c0 = .slice a len cap := by
  rcases DataW.trod_slice Tryz.underlying22 h0 with ⟨e, _⟩ | ⟨b, l, c, _, _, _, _, e, _⟩
  ·simp at e; exact ⟨_, _, _, e⟩
  ·simp at e; exact ⟨_, _, _, e⟩
 obtain ⟨ys, rfl, hw, hs⟩ := open_StringS h0
 exact ⟨a, cap, ⟨ys, x1, x2, x3, x4, ⟨x5, x6, x7, x8, x9⟩⟩, rfl, ⟨hw, wf64s g1, wf64s g2, wf64s g3, wf64s g4, wf64s g5, wf64s g6, wf64s g7, wf64s g8, wf64s g9⟩, hs⟩
end

set_option maxRecDepth 100000 in
set_option maxHeartbeats 1000000 in
theorem szPool_at (p : Pl) (a : Option Addr) (cap : Nat) (left : Int) (w : World) (hw : PlWf p) (hr : SlIs strL1 1 w a p.addrs) (h0 : 0 ≤ left) (h1 : left ≤ 1048576) :
  Calls Tryz.prog 4 #[plC a cap p, .int .i64 left] w fun e w' => e = .returned (.int .i64 (szSl strN p.addrs left)) ∧ Below w.heap.size w w' := by
 have GA : Hid (Below w.heap.size w (w.alloc (.cells #[.slice a p.addrs.length cap, .int .i64 p.low, .int .i64 p.high, .int .i64 p.most, .int .i64 p.filter, .int .i64 p.lv.udp, .int .i64 p.lv.echo, .int .i64 p.lv.opening, .int .i64 p.lv.opn, .int .i64 p.lv.closing] 26))) := (Below.refl _ _).alloc (Nat.le_refl _) _
 have HC : Hid (∀ W, Below w.heap.size w W → Calls Tryz.prog 19 #[.slice a p.addrs.length cap, .int .i64 left] W fun e w' => e = .returned (.int .i64 (szSl strN p.addrs left)) ∧ Below W.heap.size W w') := fun W hW => szStringS_at p.addrs a cap left W hw.1 (hr.below hW) h0 h1
 have hrg := szSl_range strN p.addrs left h0
 clear hr
 generalize szSl strN p.addrs left = ans at *
 unfold plC
 by_cases hs : ans < 0
 ·have he : ans = -1 := by omega
  subst he
  go_enter Tryz.func4, Tryz.ntmps4
  go_wp2_with fail
  refine (HC.out _ GA.out).mono ?_
  rintro e w1 ⟨rfl, q1⟩
  have G1 : Hid (Below w.heap.size w w1) := GA.out.trans (q1.mono GA.out.size)
  clear q1
  go_wp2_with fail
  go_ret
  exact ⟨rfl, G1.out⟩
 ·have hs1 : 0 ≤ ans := by omega
  have hs2 : ans ≤ 1048576 := by omega
  go_enter Tryz.func4, Tryz.ntmps4
  go_wp2_with fail
  refine (HC.out _ GA.out).mono ?_
  rintro e w1 ⟨rfl, q1⟩
  have G1 : Hid (Below w.heap.size w w1) := GA.out.trans (q1.mono GA.out.size)
  clear q1
  go_wp2_with fail
  go_ret
  exact ⟨rfl, G1.out⟩

set_option maxRecDepth 100000 in
set_option maxHeartbeats 2000000 in
theorem toPool_any (p : Pl) (a : Option Addr) (cap : Nat) (w : World) (hl : p.addrs.length ≤ 1048576) (hr : SlIs strL1 1 w a p.addrs) :
  Calls Tryz.prog 8 #[plC a cap p] w fun e w' => PlRet w.heap.size p e w' ∧ Below w.heap.size w w' := by
 have HB : Hid (Below w.heap.size w (((w.alloc (.cells #[.slice a p.addrs.length cap, .int .i64 p.low, .int .i64 p.high, .int .i64 p.most, .int .i64 p.filter, .int .i64 p.lv.udp, .int .i64 p.lv.echo, .int .i64 p.lv.opening, .int .i64 p.lv.opn, .int .i64 p.lv.closing] 26)).alloc (.cells #[.slice none 0 0, .int .i64 0, .int .i64 0, .int .i64 0, .int .i64 0, .int .i64 0, .int .i64 0, .int .i64 0, .int .i64 0, .int .i64 0] 47)).alloc (.cells #[.slice none 0 0, .int .i64 0, .int .i64 0, .int .i64 0, .int .i64 0, .int .i64 0, .int .i64 0, .int .i64 0, .int .i64 0, .int .i64 0] 47))) := (((Below.refl _ _).alloc (Nat.le_refl _) _).alloc (by simp) _).alloc (by simp; omega) _
 have H0 := ((HoldsL.new w [.slice a p.addrs.length cap, .int .i64 p.low, .int .i64 p.high, .int .i64 p.most, .int .i64 p.filter, .int .i64 p.lv.udp, .int .i64 p.lv.echo, .int .i64 p.lv.opening, .int .i64 p.lv.opn, .int .i64 p.lv.closing] 26).alloc (.cells #[.slice none 0 0, .int .i64 0, .int .i64 0, .int .i64 0, .int .i64 0, .int .i64 0, .int .i64 0, .int .i64 0, .int .i64 0, .int .i64 0] 47)).alloc (.cells #[.slice none 0 0, .int .i64 0, .int .i64 0, .int .i64 0, .int .i64 0, .int .i64 0, .int .i64 0, .int .i64 0, .int .i64 0, .int .i64 0] 47)
 have H1 := (HoldsL.new (w.alloc (.cells #[.slice a p.addrs.length cap, .int .i64 p.low, .int .i64 p.high, .int .i64 p.most, .int .i64 p.filter, .int .i64 p.lv.udp, .int .i64 p.lv.echo, .int .i64 p.lv.opening, .int .i64 p.lv.opn, .int .i64 p.lv.closing] 26)) [.slice none 0 0, .int .i64 0, .int .i64 0, .int .i64 0, .int .i64 0, .int .i64 0, .int .i64 0, .int .i64 0, .int .i64 0, .int .i64 0] 47).alloc (.cells #[.slice none 0 0, .int .i64 0, .int .i64 0, .int .i64 0, .int .i64 0, .int .i64 0, .int .i64 0, .int .i64 0, .int .i64 0, .int .i64 0] 47)
 have H2 := HoldsL.new ((w.alloc (.cells #[.slice a p.addrs.length cap, .int .i64 p.low, .int .i64 p.high, .int .i64 p.most, .int .i64 p.filter, .int .i64 p.lv.udp, .int .i64 p.lv.echo, .int .i64 p.lv.opening, .int .i64 p.lv.opn, .int .i64 p.lv.closing] 26)).alloc (.cells #[.slice none 0 0, .int .i64 0, .int .i64 0, .int .i64 0, .int .i64 0, .int .i64 0, .int .i64 0, .int .i64 0, .int .i64 0, .int .i64 0] 47)) [.slice none 0 0, .int .i64 0, .int .i64 0, .int .i64 0, .int .i64 0, .int .i64 0, .int .i64 0, .int .i64 0, .int .i64 0, .int .i64 0] 47
 have hsz : (((w.alloc (.cells #[.slice a p.addrs.length cap, .int .i64 p.low, .int .i64 p.high, .int .i64 p.most, .int .i64 p.filter, .int .i64 p.lv.udp, .int .i64 p.lv.echo, .int .i64 p.lv.opening, .int .i64 p.lv.opn, .int .i64 p.lv.closing] 26)).alloc (.cells #[.slice none 0 0, .int .i64 0, .int .i64 0, .int .i64 0, .int .i64 0, .int .i64 0, .int .i64 0, .int .i64 0, .int .i64 0, .int .i64 0] 47)).alloc (.cells #[.slice none 0 0, .int .i64 0, .int .i64 0, .int .i64 0, .int .i64 0, .int .i64 0, .int .i64 0, .int .i64 0, .int .i64 0, .int .i64 0] 47)).heap.size = w.heap.size + 1 + 1 + 1 := by simp
 rw [World.size_alloc] at H1 H2
 rw [World.size_alloc] at H2
 have HS : Hid (∀ W, Below w.heap.size w W → Calls Tryz.prog 26 #[.slice a p.addrs.length cap] W fun e w' => e = .returned (.slice (some ⟨W.heap.size, 0, none⟩) p.addrs.length p.addrs.length) ∧ Below W.heap.size W w' ∧ SlLaid strL1 1 w' W.heap.size p.addrs p.addrs.length p.addrs.length) := fun W hW => toStringS_any p.addrs a cap W hl (hr.below hW)
 have HT : Hid (∀ W, Calls Tryz.prog 27 #[lvC p.lv] W fun e w' => e = .returned (lvC p.lv) ∧ Below W.heap.size W w') := fun W => toLives_any p.lv W
 have G0 : Hid _ := H0
 have G1 : Hid _ := H1
 have G2 : Hid _ := H2
 unfold plC
 unfold lvC at HT
 clear hr H0 H1 H2
 go_enter Tryz.func8, Tryz.ntmps8
 go_upto_region 2 with fail
 generalize ((w.alloc (.cells #[.slice a p.addrs.length cap, .int .i64 p.low, .int .i64 p.high, .int .i64 p.most, .int .i64 p.filter, .int .i64 p.lv.udp, .int .i64 p.lv.echo, .int .i64 p.lv.opening, .int .i64 p.lv.opn, .int .i64 p.lv.closing] 26)).alloc (.cells #[.slice none 0 0, .int .i64 0, .int .i64 0, .int .i64 0, .int .i64 0, .int .i64 0, .int .i64 0, .int .i64 0, .int .i64 0, .int .i64 0] 47)).alloc (.cells #[.slice none 0 0, .int .i64 0, .int .i64 0, .int .i64 0, .int .i64 0, .int .i64 0, .int .i64 0, .int .i64 0, .int .i64 0, .int .i64 0] 47) = W3 at *
 have k0 := G0.out.cell (j := 0) rfl
 go_wp2_with fail
 refine (HS.out _ HB.out).mono ?_
 rintro e w1 ⟨rfl, q1, y1⟩
 have B1 : Hid (Below w.heap.size w w1) := HB.out.trans (q1.mono HB.out.size)
 have K0 := G0.out.kept (by simp) q1
 have K1 : Hid _ := G1.out.kept (by simp) q1
 have K2 := G2.out.kept (by simp) q1
 have HY : Hid (SlLaid strL1 1 w1 W3.heap.size p.addrs p.addrs.length p.addrs.length) := y1
 rw [hsz] at HY ⊢
 obtain ⟨C, hC⟩ : ∃ C, C = w.heap.size + 1 + 1 + 1 := ⟨_, rfl⟩
 rw [← hC] at HY ⊢
 have hCl : w.heap.size + 1 + 1 < C := by omega
 clear q1 y1 k0 hC hsz
 have b1 := K0.cell (j := 1) rfl
 have b2 := K0.cell (j := 2) rfl
 have b3 := K0.cell (j := 3) rfl
 have b4 := K0.cell (j := 4) rfl
 have b5 := K0.cell (j := 5) rfl
 have b6 := K0.cell (j := 6) rfl
 have b7 := K0.cell (j := 7) rfl
 have b8 := K0.cell (j := 8) rfl
 have b9 := K0.cell (j := 9) rfl
 have o0 := K2.cell (j := 0) rfl
 have f0 := K2.free (j := 0) (by simp)
 have o1 := K2.cell (j := 1) rfl
 have f1 := K2.free (j := 1) (by simp)
 have o2 := K2.cell (j := 2) rfl
 have f2 := K2.free (j := 2) (by simp)
 have o3 := K2.cell (j := 3) rfl
 have f3 := K2.free (j := 3) (by simp)
 have o4 := K2.cell (j := 4) rfl
 have f4 := K2.free (j := 4) (by simp)
 have D2 : Hid _ := ((((K2.set 0 (.slice (some ⟨C, 0, none⟩) p.addrs.length p.addrs.length)).set 1 (.int .i64 p.low)).set 2 (.int .i64 p.high)).set 3 (.int .i64 p.most)).set 4 (.int .i64 p.filter)
 have D1 : Hid _ := ((((K1.out.setOther (C := w.heap.size + 1 + 1) (j := 0) (by omega) (.slice (some ⟨C, 0, none⟩) p.addrs.length p.addrs.length)).setOther (C := w.heap.size + 1 + 1) (j := 1) (by omega) (.int .i64 p.low)).setOther (C := w.heap.size + 1 + 1) (j := 2) (by omega) (.int .i64 p.high)).setOther (C := w.heap.size + 1 + 1) (j := 3) (by omega) (.int .i64 p.most)).setOther (C := w.heap.size + 1 + 1) (j := 4) (by omega) (.int .i64 p.filter)
 have DY : Hid _ := ((((HY.out.setOther (X := w.heap.size + 1 + 1) (o := 0) (by omega) (.slice (some ⟨C, 0, none⟩) p.addrs.length p.addrs.length)).setOther (X := w.heap.size + 1 + 1) (o := 1) (by omega) (.int .i64 p.low)).setOther (X := w.heap.size + 1 + 1) (o := 2) (by omega) (.int .i64 p.high)).setOther (X := w.heap.size + 1 + 1) (o := 3) (by omega) (.int .i64 p.most)).setOther (X := w.heap.size + 1 + 1) (o := 4) (by omega) (.int .i64 p.filter)
 have DB : Hid _ := ((((B1.out.setCell (p := ⟨w.heap.size + 1 + 1, 0, none⟩) (by show w.heap.size ≤ w.heap.size + 1 + 1; omega) (.slice (some ⟨C, 0, none⟩) p.addrs.length p.addrs.length)).setCell (p := ⟨w.heap.size + 1 + 1, 1, none⟩) (by show w.heap.size ≤ w.heap.size + 1 + 1; omega) (.int .i64 p.low)).setCell (p := ⟨w.heap.size + 1 + 1, 2, none⟩) (by show w.heap.size ≤ w.heap.size + 1 + 1; omega) (.int .i64 p.high)).setCell (p := ⟨w.heap.size + 1 + 1, 3, none⟩) (by show w.heap.size ≤ w.heap.size + 1 + 1; omega) (.int .i64 p.most)).setCell (p := ⟨w.heap.size + 1 + 1, 4, none⟩) (by show w.heap.size ≤ w.heap.size + 1 + 1; omega) (.int .i64 p.filter)
 clear K0 K1 K2 HY B1
 go_wp2_with fail
 generalize ((((w1.setCell ⟨w.heap.size + 1 + 1, 0, none⟩ (.slice (some ⟨C, 0, none⟩) p.addrs.length p.addrs.length)).setCell ⟨w.heap.size + 1 + 1, 1, none⟩ (.int .i64 p.low)).setCell ⟨w.heap.size + 1 + 1, 2, none⟩ (.int .i64 p.high)).setCell ⟨w.heap.size + 1 + 1, 3, none⟩ (.int .i64 p.most)).setCell ⟨w.heap.size + 1 + 1, 4, none⟩ (.int .i64 p.filter) = W5 at *
 refine (HT.out _).mono ?_
 rintro e w6 ⟨rfl, q6⟩
 have E2 := D2.out.kept (by simp) q6
 have E1 := D1.out.kept (by simp) q6
 have EY : Hid _ := DY.out.kept q6
 have EB : Hid (Below w.heap.size w w6) := DB.out.trans (q6.mono DB.out.size)
 clear q6
 clear b1 b2 b3 b4 b5 b6 b7 b8 b9 o0 o1 o2 o3 o4 f0 f1 f2 f3 f4
 have o0 := E2.cell (j := 0) rfl
 have o1 := E2.cell (j := 1) rfl
 have o2 := E2.cell (j := 2) rfl
 have o3 := E2.cell (j := 3) rfl
 have o4 := E2.cell (j := 4) rfl
 have o5 := E2.cell (j := 5) rfl
 have o6 := E2.cell (j := 6) rfl
 have o7 := E2.cell (j := 7) rfl
 have o8 := E2.cell (j := 8) rfl
 have o9 := E2.cell (j := 9) rfl
 have f5 := E2.free (j := 5) (by simp)
 have f6 := E2.free (j := 6) (by simp)
 have f7 := E2.free (j := 7) (by simp)
 have f8 := E2.free (j := 8) (by simp)
 have f9 := E2.free (j := 9) (by simp)
 have r0 := E1.cell (j := 0) rfl
 have s0 := E1.free (j := 0) (by simp)
 have r1 := E1.cell (j := 1) rfl
 have s1 := E1.free (j := 1) (by simp)
 have r2 := E1.cell (j := 2) rfl
 have s2 := E1.free (j := 2) (by simp)
 have r3 := E1.cell (j := 3) rfl
 have s3 := E1.free (j := 3) (by simp)
 have r4 := E1.cell (j := 4) rfl
 have s4 := E1.free (j := 4) (by simp)
 have r5 := E1.cell (j := 5) rfl
 have s5 := E1.free (j := 5) (by simp)
 have r6 := E1.cell (j := 6) rfl
 have s6 := E1.free (j := 6) (by simp)
 have r7 := E1.cell (j := 7) rfl
 have s7 := E1.free (j := 7) (by simp)
 have r8 := E1.cell (j := 8) rfl
 have s8 := E1.free (j := 8) (by simp)
 have r9 := E1.cell (j := 9) rfl
 have s9 := E1.free (j := 9) (by simp)
 have R1 : Hid (HoldsL _ (w.heap.size + 1) (plL (some ⟨C, 0, none⟩) p.addrs.length p)) := (((((((((((((((E1.setOther (C := w.heap.size + 1 + 1) (j := 5) (by omega) (.int .i64 p.lv.udp)).setOther (C := w.heap.size + 1 + 1) (j := 6) (by omega) (.int .i64 p.lv.echo)).setOther (C := w.heap.size + 1 + 1) (j := 7) (by omega) (.int .i64 p.lv.opening)).setOther (C := w.heap.size + 1 + 1) (j := 8) (by omega) (.int .i64 p.lv.opn)).setOther (C := w.heap.size + 1 + 1) (j := 9) (by omega) (.int .i64 p.lv.closing)).set 0 (.slice (some ⟨C, 0, none⟩) p.addrs.length p.addrs.length)).set 1 (.int .i64 p.low)).set 2 (.int .i64 p.high)).set 3 (.int .i64 p.most)).set 4 (.int .i64 p.filter)).set 5 (.int .i64 p.lv.udp)).set 6 (.int .i64 p.lv.echo)).set 7 (.int .i64 p.lv.opening)).set 8 (.int .i64 p.lv.opn)).set 9 (.int .i64 p.lv.closing))
 have RY : Hid _ := (((((((((((((((EY.out.setOther (X := w.heap.size + 1 + 1) (o := 5) (by omega) (.int .i64 p.lv.udp)).setOther (X := w.heap.size + 1 + 1) (o := 6) (by omega) (.int .i64 p.lv.echo)).setOther (X := w.heap.size + 1 + 1) (o := 7) (by omega) (.int .i64 p.lv.opening)).setOther (X := w.heap.size + 1 + 1) (o := 8) (by omega) (.int .i64 p.lv.opn)).setOther (X := w.heap.size + 1 + 1) (o := 9) (by omega) (.int .i64 p.lv.closing)).setOther (X := w.heap.size + 1) (o := 0) (by omega) (.slice (some ⟨C, 0, none⟩) p.addrs.length p.addrs.length)).setOther (X := w.heap.size + 1) (o := 1) (by omega) (.int .i64 p.low)).setOther (X := w.heap.size + 1) (o := 2) (by omega) (.int .i64 p.high)).setOther (X := w.heap.size + 1) (o := 3) (by omega) (.int .i64 p.most)).setOther (X := w.heap.size + 1) (o := 4) (by omega) (.int .i64 p.filter)).setOther (X := w.heap.size + 1) (o := 5) (by omega) (.int .i64 p.lv.udp)).setOther (X := w.heap.size + 1) (o := 6) (by omega) (.int .i64 p.lv.echo)).setOther (X := w.heap.size + 1) (o := 7) (by omega) (.int .i64 p.lv.opening)).setOther (X := w.heap.size + 1) (o := 8) (by omega) (.int .i64 p.lv.opn)).setOther (X := w.heap.size + 1) (o := 9) (by omega) (.int .i64 p.lv.closing))
 have RB : Hid _ := (((((((((((((((EB.out.setCell (p := ⟨w.heap.size + 1 + 1, 5, none⟩) (by show w.heap.size ≤ w.heap.size + 1 + 1; omega) (.int .i64 p.lv.udp)).setCell (p := ⟨w.heap.size + 1 + 1, 6, none⟩) (by show w.heap.size ≤ w.heap.size + 1 + 1; omega) (.int .i64 p.lv.echo)).setCell (p := ⟨w.heap.size + 1 + 1, 7, none⟩) (by show w.heap.size ≤ w.heap.size + 1 + 1; omega) (.int .i64 p.lv.opening)).setCell (p := ⟨w.heap.size + 1 + 1, 8, none⟩) (by show w.heap.size ≤ w.heap.size + 1 + 1; omega) (.int .i64 p.lv.opn)).setCell (p := ⟨w.heap.size + 1 + 1, 9, none⟩) (by show w.heap.size ≤ w.heap.size + 1 + 1; omega) (.int .i64 p.lv.closing)).setCell (p := ⟨w.heap.size + 1, 0, none⟩) (by show w.heap.size ≤ w.heap.size + 1; omega) (.slice (some ⟨C, 0, none⟩) p.addrs.length p.addrs.length)).setCell (p := ⟨w.heap.size + 1, 1, none⟩) (by show w.heap.size ≤ w.heap.size + 1; omega) (.int .i64 p.low)).setCell (p := ⟨w.heap.size + 1, 2, none⟩) (by show w.heap.size ≤ w.heap.size + 1; omega) (.int .i64 p.high)).setCell (p := ⟨w.heap.size + 1, 3, none⟩) (by show w.heap.size ≤ w.heap.size + 1; omega) (.int .i64 p.most)).setCell (p := ⟨w.heap.size + 1, 4, none⟩) (by show w.heap.size ≤ w.heap.size + 1; omega) (.int .i64 p.filter)).setCell (p := ⟨w.heap.size + 1, 5, none⟩) (by show w.heap.size ≤ w.heap.size + 1; omega) (.int .i64 p.lv.udp)).setCell (p := ⟨w.heap.size + 1, 6, none⟩) (by show w.heap.size ≤ w.heap.size + 1; omega) (.int .i64 p.lv.echo)).setCell (p := ⟨w.heap.size + 1, 7, none⟩) (by show w.heap.size ≤ w.heap.size + 1; omega) (.int .i64 p.lv.opening)).setCell (p := ⟨w.heap.size + 1, 8, none⟩) (by show w.heap.size ≤ w.heap.size + 1; omega) (.int .i64 p.lv.opn)).setCell (p := ⟨w.heap.size + 1, 9, none⟩) (by show w.heap.size ≤ w.heap.size + 1; omega) (.int .i64 p.lv.closing))
 clear E1 E2
 go_wp2_with fail
 exact bodyPost_ret (results_mid Tryz.results8 _ _ (w.heap.size + 1) (plL (some ⟨C, 0, none⟩) p.addrs.length p) _ rfl R1.out Tryz.underlying47 rfl (show (Tryz.prog.info? 47).map (·.size) = some 10 by kernel_rfl)) rfl ⟨⟨C, rfl, by omega, RY.out⟩, RB.out⟩

set_option maxRecDepth 100000 in
set_option maxHeartbeats 2000000 in
theorem eqPool_same (p : Pl) (a1 a2 : Option Addr) (cap1 cap2 : Nat) (w : World) (hl : p.addrs.length ≤ 1048576) (h1 : SlIs strL1 1 w a1 p.addrs) (h2 : SlIs strL1 1 w a2 p.addrs) :
  Calls Tryz.prog 13 #[plC a1 cap1 p, plC a2 cap2 p] w fun e w' => e = .returned (.bool true) ∧ Below w.heap.size w w' := by
 have HB : Hid (Below w.heap.size w ((w.alloc (.cells #[.slice a1 p.addrs.length cap1, .int .i64 p.low, .int .i64 p.high, .int .i64 p.most, .int .i64 p.filter, .int .i64 p.lv.udp, .int .i64 p.lv.echo, .int .i64 p.lv.opening, .int .i64 p.lv.opn, .int .i64 p.lv.closing] 47)).alloc (.cells #[.slice a2 p.addrs.length cap2, .int .i64 p.low, .int .i64 p.high, .int .i64 p.most, .int .i64 p.filter, .int .i64 p.lv.udp, .int .i64 p.lv.echo, .int .i64 p.lv.opening, .int .i64 p.lv.opn, .int .i64 p.lv.closing] 47))) := ((Below.refl _ _).alloc (Nat.le_refl _) _).alloc (by simp) _
 have H0 := (HoldsL.new w [.slice a1 p.addrs.length cap1, .int .i64 p.low, .int .i64 p.high, .int .i64 p.most, .int .i64 p.filter, .int .i64 p.lv.udp, .int .i64 p.lv.echo, .int .i64 p.lv.opening, .int .i64 p.lv.opn, .int .i64 p.lv.closing] 47).alloc (.cells #[.slice a2 p.addrs.length cap2, .int .i64 p.low, .int .i64 p.high, .int .i64 p.most, .int .i64 p.filter, .int .i64 p.lv.udp, .int .i64 p.lv.echo, .int .i64 p.lv.opening, .int .i64 p.lv.opn, .int .i64 p.lv.closing] 47)
 have H1 := HoldsL.new (w.alloc (.cells #[.slice a1 p.addrs.length cap1, .int .i64 p.low, .int .i64 p.high, .int .i64 p.most, .int .i64 p.filter, .int .i64 p.lv.udp, .int .i64 p.lv.echo, .int .i64 p.lv.opening, .int .i64 p.lv.opn, .int .i64 p.lv.closing] 47)) [.slice a2 p.addrs.length cap2, .int .i64 p.low, .int .i64 p.high, .int .i64 p.most, .int .i64 p.filter, .int .i64 p.lv.udp, .int .i64 p.lv.echo, .int .i64 p.lv.opening, .int .i64 p.lv.opn, .int .i64 p.lv.closing] 47
 rw [World.size_alloc] at H1
 have HS : Hid (∀ W, Below w.heap.size w W → Calls Tryz.prog 41 #[.slice a1 p.addrs.length cap1, .slice a2 p.addrs.length cap2] W fun e w' => e = .returned (.bool true) ∧ Below W.heap.size W w') := fun W hW => eqStringS_same p.addrs a1 a2 cap1 cap2 W hl (h1.below hW) (h2.below hW)
 have HT : Hid (∀ W, Calls Tryz.prog 42 #[lvC p.lv, lvC p.lv] W fun e w' => e = .returned (.bool true) ∧ Below W.heap.size W w') := fun W => eqLives_same p.lv W
 have G0 : Hid _ := H0
 have G1 : Hid _ := H1
 unfold plC
 unfold lvC at HT
 clear h1 h2 H0 H1
 go_enter Tryz.func13, Tryz.ntmps13
 go_upto_region 1 with fail
 generalize (w.alloc (.cells #[.slice a1 p.addrs.length cap1, .int .i64 p.low, .int .i64 p.high, .int .i64 p.most, .int .i64 p.filter, .int .i64 p.lv.udp, .int .i64 p.lv.echo, .int .i64 p.lv.opening, .int .i64 p.lv.opn, .int .i64 p.lv.closing] 47)).alloc (.cells #[.slice a2 p.addrs.length cap2, .int .i64 p.low, .int .i64 p.high, .int .i64 p.most, .int .i64 p.filter, .int .i64 p.lv.udp, .int .i64 p.lv.echo, .int .i64 p.lv.opening, .int .i64 p.lv.opn, .int .i64 p.lv.closing] 47) = W2 at *
 have k0 := G0.out.cell (j := 0) rfl
 have k1 := G1.out.cell (j := 0) rfl
 go_wp2_with fail
 refine (HS.out _ HB.out).mono ?_
 rintro e w1 ⟨rfl, q1⟩
 have B1 : Hid (Below w.heap.size w w1) := HB.out.trans (q1.mono HB.out.size)
 have K0 := G0.out.kept (by simp) q1
 have K1 := G1.out.kept (by simp) q1
 clear q1 k0 k1
 have b1 := K0.cell (j := 1) rfl
 have d1 := K1.cell (j := 1) rfl
 have b2 := K0.cell (j := 2) rfl
 have d2 := K1.cell (j := 2) rfl
 have b3 := K0.cell (j := 3) rfl
 have d3 := K1.cell (j := 3) rfl
 have b4 := K0.cell (j := 4) rfl
 have d4 := K1.cell (j := 4) rfl
 have b5 := K0.cell (j := 5) rfl
 have d5 := K1.cell (j := 5) rfl
 have b6 := K0.cell (j := 6) rfl
 have d6 := K1.cell (j := 6) rfl
 have b7 := K0.cell (j := 7) rfl
 have d7 := K1.cell (j := 7) rfl
 have b8 := K0.cell (j := 8) rfl
 have d8 := K1.cell (j := 8) rfl
 have b9 := K0.cell (j := 9) rfl
 have d9 := K1.cell (j := 9) rfl
 clear K0 K1
 go_wp2_with fail
 refine (HT.out _).mono ?_
 rintro e w2 ⟨rfl, q2⟩
 have B2 : Hid (Below w.heap.size w w2) := B1.out.trans (q2.mono B1.out.size)
 clear q2
 go_wp2_with fail
 go_ret
 exact ⟨rfl, B2.out⟩

end Go.Proofs.YtilnnihongokealGreatDoor
