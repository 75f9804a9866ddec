/- At every pool, bib, touch and time the program's BibTouch answers as the specification's, its answer owns its memory, and nothing that was there is written: the law FnExactBibTouch returns true. The program's table of states starts as the program's text lays it (the card ties it). No other condition. -/
import Derived.Test.YtilnnihongokealGreatDoorRows
import Derived.Test.YtilnnihongokealGreatDoorCards
import Derived.Test.YtilnnihongokealGreatDoorTie
import Derived.Test.YtilnnihongokealGreatDoorMerged1
import Derived.Test.YtilnnihongokealGreatDoorMerged7
import Derived.Test.YtilnnihongokealGreatDoorSTouch9
import Derived.Test.YtilnnihongokealGreatDoorITouch9
import Derived.Test.YtilnnihongokealGreatDoorMerged17
import Derived.OpenVars
import Derived.WalkKit
import Derived.ProofKit
import Derived.OpenShut
import Derived.ShutString
import Derived.ChangeOld
import Derived.Below
import Derived.Lib.SmallJoins
import Derived.Lib.LaidTab
import Derived.Lay
import Derived.SevenTiedAt
namespace Go.Proofs.YtilnnihongokealGreatDoor.fnExactBibTouch
open Go.ChangeShapes Go.WideShapes Go.ChangeAt Go.RowKit Go.Joins
open Go.ChangeMaps (open_string shut_string)
set_option linter.unusedVariables false

theorem own : ownKnob Tryz.prog.godebug = none := by kernel_rfl
theorem laidOut : laidOutB Tryz.prog = true := by kernel_rfl

theorem of_laid {W : World} (h : laidMet Tryz.prog Rows.fnExactBibTouchRow.laid W) : TabB W := by
 have hp := fun i z hz => var_pairs (P := Tryz.prog) (zs := [(0, 0), (0, 3), (3, 0), (4, 5), (0, 6), (6, 0), (0, 0), (3, 3)]) (g := 0) (by kernel_rfl) (by kernel_rfl) Tryz.underlying122 Tryz.underlying121 rfl rfl rfl rfl Tryz.underlying2 (by kernel_rfl) (by kernel_rfl) h i z hz
 intro i hi
 match i, hi with
 | 0, _ => exact (hp 0 _ rfl).1
 | 1, _ => exact (hp 0 _ rfl).2
 | 2, _ => exact (hp 1 _ rfl).1
 | 3, _ => exact (hp 1 _ rfl).2
 | 4, _ => exact (hp 2 _ rfl).1
 | 5, _ => exact (hp 2 _ rfl).2
 | 6, _ => exact (hp 3 _ rfl).1
 | 7, _ => exact (hp 3 _ rfl).2
 | 8, _ => exact (hp 4 _ rfl).1
 | 9, _ => exact (hp 4 _ rfl).2
 | 10, _ => exact (hp 5 _ rfl).1
 | 11, _ => exact (hp 5 _ rfl).2
 | 12, _ => exact (hp 6 _ rfl).1
 | 13, _ => exact (hp 6 _ rfl).2
 | 14, _ => exact (hp 7 _ rfl).1
 | 15, _ => exact (hp 7 _ rfl).2
 | n + 16, h => exact absurd h (by omega)

set_option maxRecDepth 100000 in
set_option maxHeartbeats 8000000 in
theorem walk (a0 : Option Addr) (cap0 : Nat) (p0 : Pl) (a1 b1 : Option Addr) (ca1 cb1 : Nat) (y1 : Bb) (p2 : Tc) (a3 : Int) (w : World) (w0 : PlWf p0) (x0 : SlIs strL1 1 w a0 p0.addrs) (w1 : BbWf y1) (x1 : BbIs w a1 b1 y1) (w2 : TcWf p2) (w3 : (Lit.int .i64 a3).wf = true) (hE : TabB w) :
  Calls Tryz.prog 3 #[plC a0 cap0 p0, bbC a1 b1 ca1 cb1 y1, tcC p2, .int .i64 a3] w fun e w' => e = .returned (.bool true) ∧ Below w.heap.size w w' := by
 have HTB : Hid (TabB w) := hE
 clear hE
 have HX0 : Hid (SlIs strL1 1 w a0 p0.addrs) := x0
 have HW0 : Hid (PlWf p0) := w0
 obtain ⟨s0, hs0⟩ : ∃ s, s = szSl strN p0.addrs 1048576 := ⟨_, rfl⟩
 have HS0 : Hid (s0 = szSl strN p0.addrs 1048576) := hs0
 have HX1 : Hid (BbIs w a1 b1 y1) := x1
 have HW1 : Hid (BbWf y1) := w1
 obtain ⟨s1, hs1⟩ : ∃ s, s = szBb y1 s0 := ⟨_, rfl⟩
 have HS1 : Hid (s1 = szBb y1 s0) := hs1
 have HW2 : Hid (TcWf p2) := w2
 obtain ⟨s2, hs2⟩ : ∃ s, s = szN (touchN p2) s1 := ⟨_, rfl⟩
 have HS2 : Hid (s2 = szN (touchN p2) s1) := hs2
 clear x0 w0 hs0 x1 w1 hs1 w2 hs2
 have hr0 : -1 ≤ s0 ∧ s0 ≤ 1048576 := by rw [HS0.out]; exact szSl_range strN p0.addrs _ (by omega)
 obtain ⟨hra0, hrb0⟩ := hr0
 by_cases hz0 : s0 < 0
 case pos =>
  have HZ0 : Hid (Below w.heap.size w (((w.alloc (.cells #[.slice a0 p0.addrs.length cap0, .int .i64 p0.low, .int .i64 p0.high, .int .i64 p0.most, .int .i64 p0.filter, .int .i64 p0.lv.udp, .int .i64 p0.lv.echo, .int .i64 p0.lv.opening, .int .i64 p0.lv.opn, .int .i64 p0.lv.closing] 26)).alloc (.cells #[.slice a1 y1.binds.length ca1, .slice b1 y1.sess.length cb1] 30)).alloc (.cells #[.int .i64 p2.proto, .bool p2.inside, .string p2.addr, .int .i64 p2.port, .string p2.peer, .int .i64 p2.peerPort, .int .i64 p2.flags] 32))) := ((((Below.refl _ _).alloc (by (try simp only [World.size_alloc]); omega) _).alloc (by (try simp only [World.size_alloc]); omega) _).alloc (by (try simp only [World.size_alloc]); omega) _)
  have HB0 : Hid (HoldsL (((w.alloc (.cells #[.slice a0 p0.addrs.length cap0, .int .i64 p0.low, .int .i64 p0.high, .int .i64 p0.most, .int .i64 p0.filter, .int .i64 p0.lv.udp, .int .i64 p0.lv.echo, .int .i64 p0.lv.opening, .int .i64 p0.lv.opn, .int .i64 p0.lv.closing] 26)).alloc (.cells #[.slice a1 y1.binds.length ca1, .slice b1 y1.sess.length cb1] 30)).alloc (.cells #[.int .i64 p2.proto, .bool p2.inside, .string p2.addr, .int .i64 p2.port, .string p2.peer, .int .i64 p2.peerPort, .int .i64 p2.flags] 32)) (w.heap.size) [.slice a0 p0.addrs.length cap0, .int .i64 p0.low, .int .i64 p0.high, .int .i64 p0.most, .int .i64 p0.filter, .int .i64 p0.lv.udp, .int .i64 p0.lv.echo, .int .i64 p0.lv.opening, .int .i64 p0.lv.opn, .int .i64 p0.lv.closing]) := by
   have h := HoldsL.new w [.slice a0 p0.addrs.length cap0, .int .i64 p0.low, .int .i64 p0.high, .int .i64 p0.most, .int .i64 p0.filter, .int .i64 p0.lv.udp, .int .i64 p0.lv.echo, .int .i64 p0.lv.opening, .int .i64 p0.lv.opn, .int .i64 p0.lv.closing] 26
   try simp only [World.size_alloc] at h
   exact ((h.alloc _).alloc _)
  have HB1 : Hid (HoldsL (((w.alloc (.cells #[.slice a0 p0.addrs.length cap0, .int .i64 p0.low, .int .i64 p0.high, .int .i64 p0.most, .int .i64 p0.filter, .int .i64 p0.lv.udp, .int .i64 p0.lv.echo, .int .i64 p0.lv.opening, .int .i64 p0.lv.opn, .int .i64 p0.lv.closing] 26)).alloc (.cells #[.slice a1 y1.binds.length ca1, .slice b1 y1.sess.length cb1] 30)).alloc (.cells #[.int .i64 p2.proto, .bool p2.inside, .string p2.addr, .int .i64 p2.port, .string p2.peer, .int .i64 p2.peerPort, .int .i64 p2.flags] 32)) (w.heap.size + 1) [.slice a1 y1.binds.length ca1, .slice b1 y1.sess.length cb1]) := by
   have h := HoldsL.new (w.alloc (.cells #[.slice a0 p0.addrs.length cap0, .int .i64 p0.low, .int .i64 p0.high, .int .i64 p0.most, .int .i64 p0.filter, .int .i64 p0.lv.udp, .int .i64 p0.lv.echo, .int .i64 p0.lv.opening, .int .i64 p0.lv.opn, .int .i64 p0.lv.closing] 26)) [.slice a1 y1.binds.length ca1, .slice b1 y1.sess.length cb1] 30
   try simp only [World.size_alloc] at h
   exact (h.alloc _)
  have HB2 : Hid (HoldsL (((w.alloc (.cells #[.slice a0 p0.addrs.length cap0, .int .i64 p0.low, .int .i64 p0.high, .int .i64 p0.most, .int .i64 p0.filter, .int .i64 p0.lv.udp, .int .i64 p0.lv.echo, .int .i64 p0.lv.opening, .int .i64 p0.lv.opn, .int .i64 p0.lv.closing] 26)).alloc (.cells #[.slice a1 y1.binds.length ca1, .slice b1 y1.sess.length cb1] 30)).alloc (.cells #[.int .i64 p2.proto, .bool p2.inside, .string p2.addr, .int .i64 p2.port, .string p2.peer, .int .i64 p2.peerPort, .int .i64 p2.flags] 32)) (w.heap.size + 1 + 1) [.int .i64 p2.proto, .bool p2.inside, .string p2.addr, .int .i64 p2.port, .string p2.peer, .int .i64 p2.peerPort, .int .i64 p2.flags]) := by
   have h := HoldsL.new ((w.alloc (.cells #[.slice a0 p0.addrs.length cap0, .int .i64 p0.low, .int .i64 p0.high, .int .i64 p0.most, .int .i64 p0.filter, .int .i64 p0.lv.udp, .int .i64 p0.lv.echo, .int .i64 p0.lv.opening, .int .i64 p0.lv.opn, .int .i64 p0.lv.closing] 26)).alloc (.cells #[.slice a1 y1.binds.length ca1, .slice b1 y1.sess.length cb1] 30)) [.int .i64 p2.proto, .bool p2.inside, .string p2.addr, .int .i64 p2.port, .string p2.peer, .int .i64 p2.peerPort, .int .i64 p2.flags] 32
   try simp only [World.size_alloc] at h
   exact h
  have hun : undef = Value.tuple #[] := rfl
  unfold plC bbC tcC
  go_enter Tryz.func3, Tryz.ntmps3
  go_upto_region 1 with fail
  generalize (((w.alloc (.cells #[.slice a0 p0.addrs.length cap0, .int .i64 p0.low, .int .i64 p0.high, .int .i64 p0.most, .int .i64 p0.filter, .int .i64 p0.lv.udp, .int .i64 p0.lv.echo, .int .i64 p0.lv.opening, .int .i64 p0.lv.opn, .int .i64 p0.lv.closing] 26)).alloc (.cells #[.slice a1 y1.binds.length ca1, .slice b1 y1.sess.length cb1] 30)).alloc (.cells #[.int .i64 p2.proto, .bool p2.inside, .string p2.addr, .int .i64 p2.port, .string p2.peer, .int .i64 p2.peerPort, .int .i64 p2.flags] 32)) = W0 at *
  have A_0 : Hid (Below w.heap.size w W0) := HZ0.out
  have P0_0 : Hid (HoldsL W0 w.heap.size [.slice a0 p0.addrs.length cap0, .int .i64 p0.low, .int .i64 p0.high, .int .i64 p0.most, .int .i64 p0.filter, .int .i64 p0.lv.udp, .int .i64 p0.lv.echo, .int .i64 p0.lv.opening, .int .i64 p0.lv.opn, .int .i64 p0.lv.closing]) := HB0.out
  have P1_0 : Hid (HoldsL W0 (w.heap.size + 1) [.slice a1 y1.binds.length ca1, .slice b1 y1.sess.length cb1]) := HB1.out
  have P2_0 : Hid (HoldsL W0 (w.heap.size + 1 + 1) [.int .i64 p2.proto, .bool p2.inside, .string p2.addr, .int .i64 p2.port, .string p2.peer, .int .i64 p2.peerPort, .int .i64 p2.flags]) := HB2.out
  clear HZ0 HB0 HB1 HB2
  have cP00 := P0_0.out.cell (j := 0) rfl
  have cP01 := P0_0.out.cell (j := 1) rfl
  have cP02 := P0_0.out.cell (j := 2) rfl
  have cP03 := P0_0.out.cell (j := 3) rfl
  have cP04 := P0_0.out.cell (j := 4) rfl
  have cP05 := P0_0.out.cell (j := 5) rfl
  have cP06 := P0_0.out.cell (j := 6) rfl
  have cP07 := P0_0.out.cell (j := 7) rfl
  have cP08 := P0_0.out.cell (j := 8) rfl
  have cP09 := P0_0.out.cell (j := 9) rfl
  go_wp2_with fail
  refine (szPool_at p0 a0 cap0 1048576 _ HW0.out (HX0.out.below A_0.out) (by omega) (by omega)).mono ?_
  rw [← HS0.out]
  rintro e v1 ⟨rfl, q⟩
  clear cP00 cP01 cP02 cP03 cP04 cP05 cP06 cP07 cP08 cP09
  have A_1 : Hid (Below w.heap.size w v1) := A_0.out.trans (q.mono A_0.out.size)
  have P0_1 : Hid _ := P0_0.out.kept (by simp) q
  have P1_1 : Hid _ := P1_0.out.kept (by simp) q
  have P2_1 : Hid _ := P2_0.out.kept (by simp) q
  clear A_0 P0_0 P1_0 P2_0
  clear q
  go_wp2_with fail
  go_ret
  exact ⟨rfl, A_1.out⟩
 have hnn0 : 0 ≤ s0 := by omega
 have hpi : Hid (p0.addrs.length ≤ 1048576 ∧ ∀ s ∈ p0.addrs, s.size ≤ 1048576) := strs_in (left := 1048576) (by omega) (by omega) (by rw [← HS0.out]; omega)
 have hpl := hpi.out.1
 have hr1 : -1 ≤ s1 ∧ s1 ≤ s0 := by rw [HS1.out]; exact szBb_range y1 _ (by omega)
 obtain ⟨hra1, hrb1⟩ := hr1
 by_cases hz1 : s1 < 0
 case pos =>
  have HZ0 : Hid (Below w.heap.size w (((w.alloc (.cells #[.slice a0 p0.addrs.length cap0, .int .i64 p0.low, .int .i64 p0.high, .int .i64 p0.most, .int .i64 p0.filter, .int .i64 p0.lv.udp, .int .i64 p0.lv.echo, .int .i64 p0.lv.opening, .int .i64 p0.lv.opn, .int .i64 p0.lv.closing] 26)).alloc (.cells #[.slice a1 y1.binds.length ca1, .slice b1 y1.sess.length cb1] 30)).alloc (.cells #[.int .i64 p2.proto, .bool p2.inside, .string p2.addr, .int .i64 p2.port, .string p2.peer, .int .i64 p2.peerPort, .int .i64 p2.flags] 32))) := ((((Below.refl _ _).alloc (by (try simp only [World.size_alloc]); omega) _).alloc (by (try simp only [World.size_alloc]); omega) _).alloc (by (try simp only [World.size_alloc]); omega) _)
  have HB0 : Hid (HoldsL (((w.alloc (.cells #[.slice a0 p0.addrs.length cap0, .int .i64 p0.low, .int .i64 p0.high, .int .i64 p0.most, .int .i64 p0.filter, .int .i64 p0.lv.udp, .int .i64 p0.lv.echo, .int .i64 p0.lv.opening, .int .i64 p0.lv.opn, .int .i64 p0.lv.closing] 26)).alloc (.cells #[.slice a1 y1.binds.length ca1, .slice b1 y1.sess.length cb1] 30)).alloc (.cells #[.int .i64 p2.proto, .bool p2.inside, .string p2.addr, .int .i64 p2.port, .string p2.peer, .int .i64 p2.peerPort, .int .i64 p2.flags] 32)) (w.heap.size) [.slice a0 p0.addrs.length cap0, .int .i64 p0.low, .int .i64 p0.high, .int .i64 p0.most, .int .i64 p0.filter, .int .i64 p0.lv.udp, .int .i64 p0.lv.echo, .int .i64 p0.lv.opening, .int .i64 p0.lv.opn, .int .i64 p0.lv.closing]) := by
   have h := HoldsL.new w [.slice a0 p0.addrs.length cap0, .int .i64 p0.low, .int .i64 p0.high, .int .i64 p0.most, .int .i64 p0.filter, .int .i64 p0.lv.udp, .int .i64 p0.lv.echo, .int .i64 p0.lv.opening, .int .i64 p0.lv.opn, .int .i64 p0.lv.closing] 26
   try simp only [World.size_alloc] at h
   exact ((h.alloc _).alloc _)
  have HB1 : Hid (HoldsL (((w.alloc (.cells #[.slice a0 p0.addrs.length cap0, .int .i64 p0.low, .int .i64 p0.high, .int .i64 p0.most, .int .i64 p0.filter, .int .i64 p0.lv.udp, .int .i64 p0.lv.echo, .int .i64 p0.lv.opening, .int .i64 p0.lv.opn, .int .i64 p0.lv.closing] 26)).alloc (.cells #[.slice a1 y1.binds.length ca1, .slice b1 y1.sess.length cb1] 30)).alloc (.cells #[.int .i64 p2.proto, .bool p2.inside, .string p2.addr, .int .i64 p2.port, .string p2.peer, .int .i64 p2.peerPort, .int .i64 p2.flags] 32)) (w.heap.size + 1) [.slice a1 y1.binds.length ca1, .slice b1 y1.sess.length cb1]) := by
   have h := HoldsL.new (w.alloc (.cells #[.slice a0 p0.addrs.length cap0, .int .i64 p0.low, .int .i64 p0.high, .int .i64 p0.most, .int .i64 p0.filter, .int .i64 p0.lv.udp, .int .i64 p0.lv.echo, .int .i64 p0.lv.opening, .int .i64 p0.lv.opn, .int .i64 p0.lv.closing] 26)) [.slice a1 y1.binds.length ca1, .slice b1 y1.sess.length cb1] 30
   try simp only [World.size_alloc] at h
   exact (h.alloc _)
  have HB2 : Hid (HoldsL (((w.alloc (.cells #[.slice a0 p0.addrs.length cap0, .int .i64 p0.low, .int .i64 p0.high, .int .i64 p0.most, .int .i64 p0.filter, .int .i64 p0.lv.udp, .int .i64 p0.lv.echo, .int .i64 p0.lv.opening, .int .i64 p0.lv.opn, .int .i64 p0.lv.closing] 26)).alloc (.cells #[.slice a1 y1.binds.length ca1, .slice b1 y1.sess.length cb1] 30)).alloc (.cells #[.int .i64 p2.proto, .bool p2.inside, .string p2.addr, .int .i64 p2.port, .string p2.peer, .int .i64 p2.peerPort, .int .i64 p2.flags] 32)) (w.heap.size + 1 + 1) [.int .i64 p2.proto, .bool p2.inside, .string p2.addr, .int .i64 p2.port, .string p2.peer, .int .i64 p2.peerPort, .int .i64 p2.flags]) := by
   have h := HoldsL.new ((w.alloc (.cells #[.slice a0 p0.addrs.length cap0, .int .i64 p0.low, .int .i64 p0.high, .int .i64 p0.most, .int .i64 p0.filter, .int .i64 p0.lv.udp, .int .i64 p0.lv.echo, .int .i64 p0.lv.opening, .int .i64 p0.lv.opn, .int .i64 p0.lv.closing] 26)).alloc (.cells #[.slice a1 y1.binds.length ca1, .slice b1 y1.sess.length cb1] 30)) [.int .i64 p2.proto, .bool p2.inside, .string p2.addr, .int .i64 p2.port, .string p2.peer, .int .i64 p2.peerPort, .int .i64 p2.flags] 32
   try simp only [World.size_alloc] at h
   exact h
  have hun : undef = Value.tuple #[] := rfl
  unfold plC bbC tcC
  go_enter Tryz.func3, Tryz.ntmps3
  go_upto_region 1 with fail
  generalize (((w.alloc (.cells #[.slice a0 p0.addrs.length cap0, .int .i64 p0.low, .int .i64 p0.high, .int .i64 p0.most, .int .i64 p0.filter, .int .i64 p0.lv.udp, .int .i64 p0.lv.echo, .int .i64 p0.lv.opening, .int .i64 p0.lv.opn, .int .i64 p0.lv.closing] 26)).alloc (.cells #[.slice a1 y1.binds.length ca1, .slice b1 y1.sess.length cb1] 30)).alloc (.cells #[.int .i64 p2.proto, .bool p2.inside, .string p2.addr, .int .i64 p2.port, .string p2.peer, .int .i64 p2.peerPort, .int .i64 p2.flags] 32)) = W0 at *
  have A_0 : Hid (Below w.heap.size w W0) := HZ0.out
  have P0_0 : Hid (HoldsL W0 w.heap.size [.slice a0 p0.addrs.length cap0, .int .i64 p0.low, .int .i64 p0.high, .int .i64 p0.most, .int .i64 p0.filter, .int .i64 p0.lv.udp, .int .i64 p0.lv.echo, .int .i64 p0.lv.opening, .int .i64 p0.lv.opn, .int .i64 p0.lv.closing]) := HB0.out
  have P1_0 : Hid (HoldsL W0 (w.heap.size + 1) [.slice a1 y1.binds.length ca1, .slice b1 y1.sess.length cb1]) := HB1.out
  have P2_0 : Hid (HoldsL W0 (w.heap.size + 1 + 1) [.int .i64 p2.proto, .bool p2.inside, .string p2.addr, .int .i64 p2.port, .string p2.peer, .int .i64 p2.peerPort, .int .i64 p2.flags]) := HB2.out
  clear HZ0 HB0 HB1 HB2
  have cP00 := P0_0.out.cell (j := 0) rfl
  have cP01 := P0_0.out.cell (j := 1) rfl
  have cP02 := P0_0.out.cell (j := 2) rfl
  have cP03 := P0_0.out.cell (j := 3) rfl
  have cP04 := P0_0.out.cell (j := 4) rfl
  have cP05 := P0_0.out.cell (j := 5) rfl
  have cP06 := P0_0.out.cell (j := 6) rfl
  have cP07 := P0_0.out.cell (j := 7) rfl
  have cP08 := P0_0.out.cell (j := 8) rfl
  have cP09 := P0_0.out.cell (j := 9) rfl
  go_wp2_with fail
  refine (szPool_at p0 a0 cap0 1048576 _ HW0.out (HX0.out.below A_0.out) (by omega) (by omega)).mono ?_
  rw [← HS0.out]
  rintro e v1 ⟨rfl, q⟩
  clear cP00 cP01 cP02 cP03 cP04 cP05 cP06 cP07 cP08 cP09
  have A_1 : Hid (Below w.heap.size w v1) := A_0.out.trans (q.mono A_0.out.size)
  have P0_1 : Hid _ := P0_0.out.kept (by simp) q
  have P1_1 : Hid _ := P1_0.out.kept (by simp) q
  have P2_1 : Hid _ := P2_0.out.kept (by simp) q
  clear A_0 P0_0 P1_0 P2_0
  clear q
  have cP10 := P1_1.out.cell (j := 0) rfl
  have cP11 := P1_1.out.cell (j := 1) rfl
  go_wp2_with fail
  refine (szBib_at y1 a1 b1 ca1 cb1 s0 _ HW1.out (HX1.out.below A_1.out) (by omega) (by omega)).mono ?_
  rw [← HS1.out]
  rintro e v2 ⟨rfl, q⟩
  clear cP10 cP11
  have A_2 : Hid (Below w.heap.size w v2) := A_1.out.trans (q.mono A_1.out.size)
  have P0_2 : Hid _ := P0_1.out.kept (by simp) q
  have P1_2 : Hid _ := P1_1.out.kept (by simp) q
  have P2_2 : Hid _ := P2_1.out.kept (by simp) q
  clear A_1 P0_1 P1_1 P2_1
  clear q
  go_wp2_with fail
  go_ret
  exact ⟨rfl, A_2.out⟩
 have hnn1 : 0 ≤ s1 := by omega
 have hbi : Hid (BbSm y1) := bb_in (left := s0) (by omega) (by omega) (by rw [← HS1.out]; omega)
 have hbl1 := hbi.out.1
 have hbl2 := hbi.out.2.1
 have hr2 : -1 ≤ s2 ∧ s2 ≤ s1 := by rw [HS2.out]; exact szN_range _ _ (by omega)
 obtain ⟨hra2, hrb2⟩ := hr2
 by_cases hz2 : s2 < 0
 case pos =>
  have HZ0 : Hid (Below w.heap.size w (((w.alloc (.cells #[.slice a0 p0.addrs.length cap0, .int .i64 p0.low, .int .i64 p0.high, .int .i64 p0.most, .int .i64 p0.filter, .int .i64 p0.lv.udp, .int .i64 p0.lv.echo, .int .i64 p0.lv.opening, .int .i64 p0.lv.opn, .int .i64 p0.lv.closing] 26)).alloc (.cells #[.slice a1 y1.binds.length ca1, .slice b1 y1.sess.length cb1] 30)).alloc (.cells #[.int .i64 p2.proto, .bool p2.inside, .string p2.addr, .int .i64 p2.port, .string p2.peer, .int .i64 p2.peerPort, .int .i64 p2.flags] 32))) := ((((Below.refl _ _).alloc (by (try simp only [World.size_alloc]); omega) _).alloc (by (try simp only [World.size_alloc]); omega) _).alloc (by (try simp only [World.size_alloc]); omega) _)
  have HB0 : Hid (HoldsL (((w.alloc (.cells #[.slice a0 p0.addrs.length cap0, .int .i64 p0.low, .int .i64 p0.high, .int .i64 p0.most, .int .i64 p0.filter, .int .i64 p0.lv.udp, .int .i64 p0.lv.echo, .int .i64 p0.lv.opening, .int .i64 p0.lv.opn, .int .i64 p0.lv.closing] 26)).alloc (.cells #[.slice a1 y1.binds.length ca1, .slice b1 y1.sess.length cb1] 30)).alloc (.cells #[.int .i64 p2.proto, .bool p2.inside, .string p2.addr, .int .i64 p2.port, .string p2.peer, .int .i64 p2.peerPort, .int .i64 p2.flags] 32)) (w.heap.size) [.slice a0 p0.addrs.length cap0, .int .i64 p0.low, .int .i64 p0.high, .int .i64 p0.most, .int .i64 p0.filter, .int .i64 p0.lv.udp, .int .i64 p0.lv.echo, .int .i64 p0.lv.opening, .int .i64 p0.lv.opn, .int .i64 p0.lv.closing]) := by
   have h := HoldsL.new w [.slice a0 p0.addrs.length cap0, .int .i64 p0.low, .int .i64 p0.high, .int .i64 p0.most, .int .i64 p0.filter, .int .i64 p0.lv.udp, .int .i64 p0.lv.echo, .int .i64 p0.lv.opening, .int .i64 p0.lv.opn, .int .i64 p0.lv.closing] 26
   try simp only [World.size_alloc] at h
   exact ((h.alloc _).alloc _)
  have HB1 : Hid (HoldsL (((w.alloc (.cells #[.slice a0 p0.addrs.length cap0, .int .i64 p0.low, .int .i64 p0.high, .int .i64 p0.most, .int .i64 p0.filter, .int .i64 p0.lv.udp, .int .i64 p0.lv.echo, .int .i64 p0.lv.opening, .int .i64 p0.lv.opn, .int .i64 p0.lv.closing] 26)).alloc (.cells #[.slice a1 y1.binds.length ca1, .slice b1 y1.sess.length cb1] 30)).alloc (.cells #[.int .i64 p2.proto, .bool p2.inside, .string p2.addr, .int .i64 p2.port, .string p2.peer, .int .i64 p2.peerPort, .int .i64 p2.flags] 32)) (w.heap.size + 1) [.slice a1 y1.binds.length ca1, .slice b1 y1.sess.length cb1]) := by
   have h := HoldsL.new (w.alloc (.cells #[.slice a0 p0.addrs.length cap0, .int .i64 p0.low, .int .i64 p0.high, .int .i64 p0.most, .int .i64 p0.filter, .int .i64 p0.lv.udp, .int .i64 p0.lv.echo, .int .i64 p0.lv.opening, .int .i64 p0.lv.opn, .int .i64 p0.lv.closing] 26)) [.slice a1 y1.binds.length ca1, .slice b1 y1.sess.length cb1] 30
   try simp only [World.size_alloc] at h
   exact (h.alloc _)
  have HB2 : Hid (HoldsL (((w.alloc (.cells #[.slice a0 p0.addrs.length cap0, .int .i64 p0.low, .int .i64 p0.high, .int .i64 p0.most, .int .i64 p0.filter, .int .i64 p0.lv.udp, .int .i64 p0.lv.echo, .int .i64 p0.lv.opening, .int .i64 p0.lv.opn, .int .i64 p0.lv.closing] 26)).alloc (.cells #[.slice a1 y1.binds.length ca1, .slice b1 y1.sess.length cb1] 30)).alloc (.cells #[.int .i64 p2.proto, .bool p2.inside, .string p2.addr, .int .i64 p2.port, .string p2.peer, .int .i64 p2.peerPort, .int .i64 p2.flags] 32)) (w.heap.size + 1 + 1) [.int .i64 p2.proto, .bool p2.inside, .string p2.addr, .int .i64 p2.port, .string p2.peer, .int .i64 p2.peerPort, .int .i64 p2.flags]) := by
   have h := HoldsL.new ((w.alloc (.cells #[.slice a0 p0.addrs.length cap0, .int .i64 p0.low, .int .i64 p0.high, .int .i64 p0.most, .int .i64 p0.filter, .int .i64 p0.lv.udp, .int .i64 p0.lv.echo, .int .i64 p0.lv.opening, .int .i64 p0.lv.opn, .int .i64 p0.lv.closing] 26)).alloc (.cells #[.slice a1 y1.binds.length ca1, .slice b1 y1.sess.length cb1] 30)) [.int .i64 p2.proto, .bool p2.inside, .string p2.addr, .int .i64 p2.port, .string p2.peer, .int .i64 p2.peerPort, .int .i64 p2.flags] 32
   try simp only [World.size_alloc] at h
   exact h
  have hun : undef = Value.tuple #[] := rfl
  unfold plC bbC tcC
  go_enter Tryz.func3, Tryz.ntmps3
  go_upto_region 1 with fail
  generalize (((w.alloc (.cells #[.slice a0 p0.addrs.length cap0, .int .i64 p0.low, .int .i64 p0.high, .int .i64 p0.most, .int .i64 p0.filter, .int .i64 p0.lv.udp, .int .i64 p0.lv.echo, .int .i64 p0.lv.opening, .int .i64 p0.lv.opn, .int .i64 p0.lv.closing] 26)).alloc (.cells #[.slice a1 y1.binds.length ca1, .slice b1 y1.sess.length cb1] 30)).alloc (.cells #[.int .i64 p2.proto, .bool p2.inside, .string p2.addr, .int .i64 p2.port, .string p2.peer, .int .i64 p2.peerPort, .int .i64 p2.flags] 32)) = W0 at *
  have A_0 : Hid (Below w.heap.size w W0) := HZ0.out
  have P0_0 : Hid (HoldsL W0 w.heap.size [.slice a0 p0.addrs.length cap0, .int .i64 p0.low, .int .i64 p0.high, .int .i64 p0.most, .int .i64 p0.filter, .int .i64 p0.lv.udp, .int .i64 p0.lv.echo, .int .i64 p0.lv.opening, .int .i64 p0.lv.opn, .int .i64 p0.lv.closing]) := HB0.out
  have P1_0 : Hid (HoldsL W0 (w.heap.size + 1) [.slice a1 y1.binds.length ca1, .slice b1 y1.sess.length cb1]) := HB1.out
  have P2_0 : Hid (HoldsL W0 (w.heap.size + 1 + 1) [.int .i64 p2.proto, .bool p2.inside, .string p2.addr, .int .i64 p2.port, .string p2.peer, .int .i64 p2.peerPort, .int .i64 p2.flags]) := HB2.out
  clear HZ0 HB0 HB1 HB2
  have cP00 := P0_0.out.cell (j := 0) rfl
  have cP01 := P0_0.out.cell (j := 1) rfl
  have cP02 := P0_0.out.cell (j := 2) rfl
  have cP03 := P0_0.out.cell (j := 3) rfl
  have cP04 := P0_0.out.cell (j := 4) rfl
  have cP05 := P0_0.out.cell (j := 5) rfl
  have cP06 := P0_0.out.cell (j := 6) rfl
  have cP07 := P0_0.out.cell (j := 7) rfl
  have cP08 := P0_0.out.cell (j := 8) rfl
  have cP09 := P0_0.out.cell (j := 9) rfl
  go_wp2_with fail
  refine (szPool_at p0 a0 cap0 1048576 _ HW0.out (HX0.out.below A_0.out) (by omega) (by omega)).mono ?_
  rw [← HS0.out]
  rintro e v1 ⟨rfl, q⟩
  clear cP00 cP01 cP02 cP03 cP04 cP05 cP06 cP07 cP08 cP09
  have A_1 : Hid (Below w.heap.size w v1) := A_0.out.trans (q.mono A_0.out.size)
  have P0_1 : Hid _ := P0_0.out.kept (by simp) q
  have P1_1 : Hid _ := P1_0.out.kept (by simp) q
  have P2_1 : Hid _ := P2_0.out.kept (by simp) q
  clear A_0 P0_0 P1_0 P2_0
  clear q
  have cP10 := P1_1.out.cell (j := 0) rfl
  have cP11 := P1_1.out.cell (j := 1) rfl
  go_wp2_with fail
  refine (szBib_at y1 a1 b1 ca1 cb1 s0 _ HW1.out (HX1.out.below A_1.out) (by omega) (by omega)).mono ?_
  rw [← HS1.out]
  rintro e v2 ⟨rfl, q⟩
  clear cP10 cP11
  have A_2 : Hid (Below w.heap.size w v2) := A_1.out.trans (q.mono A_1.out.size)
  have P0_2 : Hid _ := P0_1.out.kept (by simp) q
  have P1_2 : Hid _ := P1_1.out.kept (by simp) q
  have P2_2 : Hid _ := P2_1.out.kept (by simp) q
  clear A_1 P0_1 P1_1 P2_1
  clear q
  have cP20 := P2_2.out.cell (j := 0) rfl
  have cP21 := P2_2.out.cell (j := 1) rfl
  have cP22 := P2_2.out.cell (j := 2) rfl
  have cP23 := P2_2.out.cell (j := 3) rfl
  have cP24 := P2_2.out.cell (j := 4) rfl
  have cP25 := P2_2.out.cell (j := 5) rfl
  have cP26 := P2_2.out.cell (j := 6) rfl
  go_wp2_with fail
  refine (szTouch_at p2 s1 _ HW2.out (by omega) (by omega)).mono ?_
  rw [← HS2.out]
  rintro e v3 ⟨rfl, q⟩
  clear cP20 cP21 cP22 cP23 cP24 cP25 cP26
  have A_3 : Hid (Below w.heap.size w v3) := A_2.out.trans (q.mono A_2.out.size)
  have P0_3 : Hid _ := P0_2.out.kept (by simp) q
  have P1_3 : Hid _ := P1_2.out.kept (by simp) q
  have P2_3 : Hid _ := P2_2.out.kept (by simp) q
  clear A_2 P0_2 P1_2 P2_2
  clear q
  go_wp2_with fail
  go_ret
  exact ⟨rfl, A_3.out⟩
 have hnn2 : 0 ≤ s2 := by omega
 have hvi : Hid _ := touchN_in (p := p2) (left := s1) (by omega) (by rw [← HS2.out]; omega)
 have HZ0 : Hid (Below w.heap.size w (((w.alloc (.cells #[.slice a0 p0.addrs.length cap0, .int .i64 p0.low, .int .i64 p0.high, .int .i64 p0.most, .int .i64 p0.filter, .int .i64 p0.lv.udp, .int .i64 p0.lv.echo, .int .i64 p0.lv.opening, .int .i64 p0.lv.opn, .int .i64 p0.lv.closing] 26)).alloc (.cells #[.slice a1 y1.binds.length ca1, .slice b1 y1.sess.length cb1] 30)).alloc (.cells #[.int .i64 p2.proto, .bool p2.inside, .string p2.addr, .int .i64 p2.port, .string p2.peer, .int .i64 p2.peerPort, .int .i64 p2.flags] 32))) := ((((Below.refl _ _).alloc (by (try simp only [World.size_alloc]); omega) _).alloc (by (try simp only [World.size_alloc]); omega) _).alloc (by (try simp only [World.size_alloc]); omega) _)
 have HB0 : Hid (HoldsL (((w.alloc (.cells #[.slice a0 p0.addrs.length cap0, .int .i64 p0.low, .int .i64 p0.high, .int .i64 p0.most, .int .i64 p0.filter, .int .i64 p0.lv.udp, .int .i64 p0.lv.echo, .int .i64 p0.lv.opening, .int .i64 p0.lv.opn, .int .i64 p0.lv.closing] 26)).alloc (.cells #[.slice a1 y1.binds.length ca1, .slice b1 y1.sess.length cb1] 30)).alloc (.cells #[.int .i64 p2.proto, .bool p2.inside, .string p2.addr, .int .i64 p2.port, .string p2.peer, .int .i64 p2.peerPort, .int .i64 p2.flags] 32)) (w.heap.size) [.slice a0 p0.addrs.length cap0, .int .i64 p0.low, .int .i64 p0.high, .int .i64 p0.most, .int .i64 p0.filter, .int .i64 p0.lv.udp, .int .i64 p0.lv.echo, .int .i64 p0.lv.opening, .int .i64 p0.lv.opn, .int .i64 p0.lv.closing]) := by
  have h := HoldsL.new w [.slice a0 p0.addrs.length cap0, .int .i64 p0.low, .int .i64 p0.high, .int .i64 p0.most, .int .i64 p0.filter, .int .i64 p0.lv.udp, .int .i64 p0.lv.echo, .int .i64 p0.lv.opening, .int .i64 p0.lv.opn, .int .i64 p0.lv.closing] 26
  try simp only [World.size_alloc] at h
  exact ((h.alloc _).alloc _)
 have HB1 : Hid (HoldsL (((w.alloc (.cells #[.slice a0 p0.addrs.length cap0, .int .i64 p0.low, .int .i64 p0.high, .int .i64 p0.most, .int .i64 p0.filter, .int .i64 p0.lv.udp, .int .i64 p0.lv.echo, .int .i64 p0.lv.opening, .int .i64 p0.lv.opn, .int .i64 p0.lv.closing] 26)).alloc (.cells #[.slice a1 y1.binds.length ca1, .slice b1 y1.sess.length cb1] 30)).alloc (.cells #[.int .i64 p2.proto, .bool p2.inside, .string p2.addr, .int .i64 p2.port, .string p2.peer, .int .i64 p2.peerPort, .int .i64 p2.flags] 32)) (w.heap.size + 1) [.slice a1 y1.binds.length ca1, .slice b1 y1.sess.length cb1]) := by
  have h := HoldsL.new (w.alloc (.cells #[.slice a0 p0.addrs.length cap0, .int .i64 p0.low, .int .i64 p0.high, .int .i64 p0.most, .int .i64 p0.filter, .int .i64 p0.lv.udp, .int .i64 p0.lv.echo, .int .i64 p0.lv.opening, .int .i64 p0.lv.opn, .int .i64 p0.lv.closing] 26)) [.slice a1 y1.binds.length ca1, .slice b1 y1.sess.length cb1] 30
  try simp only [World.size_alloc] at h
  exact (h.alloc _)
 have HB2 : Hid (HoldsL (((w.alloc (.cells #[.slice a0 p0.addrs.length cap0, .int .i64 p0.low, .int .i64 p0.high, .int .i64 p0.most, .int .i64 p0.filter, .int .i64 p0.lv.udp, .int .i64 p0.lv.echo, .int .i64 p0.lv.opening, .int .i64 p0.lv.opn, .int .i64 p0.lv.closing] 26)).alloc (.cells #[.slice a1 y1.binds.length ca1, .slice b1 y1.sess.length cb1] 30)).alloc (.cells #[.int .i64 p2.proto, .bool p2.inside, .string p2.addr, .int .i64 p2.port, .string p2.peer, .int .i64 p2.peerPort, .int .i64 p2.flags] 32)) (w.heap.size + 1 + 1) [.int .i64 p2.proto, .bool p2.inside, .string p2.addr, .int .i64 p2.port, .string p2.peer, .int .i64 p2.peerPort, .int .i64 p2.flags]) := by
  have h := HoldsL.new ((w.alloc (.cells #[.slice a0 p0.addrs.length cap0, .int .i64 p0.low, .int .i64 p0.high, .int .i64 p0.most, .int .i64 p0.filter, .int .i64 p0.lv.udp, .int .i64 p0.lv.echo, .int .i64 p0.lv.opening, .int .i64 p0.lv.opn, .int .i64 p0.lv.closing] 26)).alloc (.cells #[.slice a1 y1.binds.length ca1, .slice b1 y1.sess.length cb1] 30)) [.int .i64 p2.proto, .bool p2.inside, .string p2.addr, .int .i64 p2.port, .string p2.peer, .int .i64 p2.peerPort, .int .i64 p2.flags] 32
  try simp only [World.size_alloc] at h
  exact h
 have hun : undef = Value.tuple #[] := rfl
 unfold plC bbC tcC
 go_enter Tryz.func3, Tryz.ntmps3
 go_upto_region 1 with fail
 generalize (((w.alloc (.cells #[.slice a0 p0.addrs.length cap0, .int .i64 p0.low, .int .i64 p0.high, .int .i64 p0.most, .int .i64 p0.filter, .int .i64 p0.lv.udp, .int .i64 p0.lv.echo, .int .i64 p0.lv.opening, .int .i64 p0.lv.opn, .int .i64 p0.lv.closing] 26)).alloc (.cells #[.slice a1 y1.binds.length ca1, .slice b1 y1.sess.length cb1] 30)).alloc (.cells #[.int .i64 p2.proto, .bool p2.inside, .string p2.addr, .int .i64 p2.port, .string p2.peer, .int .i64 p2.peerPort, .int .i64 p2.flags] 32)) = W0 at *
 have A_0 : Hid (Below w.heap.size w W0) := HZ0.out
 have P0_0 : Hid (HoldsL W0 w.heap.size [.slice a0 p0.addrs.length cap0, .int .i64 p0.low, .int .i64 p0.high, .int .i64 p0.most, .int .i64 p0.filter, .int .i64 p0.lv.udp, .int .i64 p0.lv.echo, .int .i64 p0.lv.opening, .int .i64 p0.lv.opn, .int .i64 p0.lv.closing]) := HB0.out
 have P1_0 : Hid (HoldsL W0 (w.heap.size + 1) [.slice a1 y1.binds.length ca1, .slice b1 y1.sess.length cb1]) := HB1.out
 have P2_0 : Hid (HoldsL W0 (w.heap.size + 1 + 1) [.int .i64 p2.proto, .bool p2.inside, .string p2.addr, .int .i64 p2.port, .string p2.peer, .int .i64 p2.peerPort, .int .i64 p2.flags]) := HB2.out
 clear HZ0 HB0 HB1 HB2
 have cP00 := P0_0.out.cell (j := 0) rfl
 have cP01 := P0_0.out.cell (j := 1) rfl
 have cP02 := P0_0.out.cell (j := 2) rfl
 have cP03 := P0_0.out.cell (j := 3) rfl
 have cP04 := P0_0.out.cell (j := 4) rfl
 have cP05 := P0_0.out.cell (j := 5) rfl
 have cP06 := P0_0.out.cell (j := 6) rfl
 have cP07 := P0_0.out.cell (j := 7) rfl
 have cP08 := P0_0.out.cell (j := 8) rfl
 have cP09 := P0_0.out.cell (j := 9) rfl
 go_wp2_with fail
 refine (szPool_at p0 a0 cap0 1048576 _ HW0.out (HX0.out.below A_0.out) (by omega) (by omega)).mono ?_
 rw [← HS0.out]
 rintro e v1 ⟨rfl, q⟩
 clear cP00 cP01 cP02 cP03 cP04 cP05 cP06 cP07 cP08 cP09
 have A_1 : Hid (Below w.heap.size w v1) := A_0.out.trans (q.mono A_0.out.size)
 have P0_1 : Hid _ := P0_0.out.kept (by simp) q
 have P1_1 : Hid _ := P1_0.out.kept (by simp) q
 have P2_1 : Hid _ := P2_0.out.kept (by simp) q
 clear A_0 P0_0 P1_0 P2_0
 clear q
 have cP10 := P1_1.out.cell (j := 0) rfl
 have cP11 := P1_1.out.cell (j := 1) rfl
 go_wp2_with fail
 refine (szBib_at y1 a1 b1 ca1 cb1 s0 _ HW1.out (HX1.out.below A_1.out) (by omega) (by omega)).mono ?_
 rw [← HS1.out]
 rintro e v2 ⟨rfl, q⟩
 clear cP10 cP11
 have A_2 : Hid (Below w.heap.size w v2) := A_1.out.trans (q.mono A_1.out.size)
 have P0_2 : Hid _ := P0_1.out.kept (by simp) q
 have P1_2 : Hid _ := P1_1.out.kept (by simp) q
 have P2_2 : Hid _ := P2_1.out.kept (by simp) q
 clear A_1 P0_1 P1_1 P2_1
 clear q
 have cP20 := P2_2.out.cell (j := 0) rfl
 have cP21 := P2_2.out.cell (j := 1) rfl
 have cP22 := P2_2.out.cell (j := 2) rfl
 have cP23 := P2_2.out.cell (j := 3) rfl
 have cP24 := P2_2.out.cell (j := 4) rfl
 have cP25 := P2_2.out.cell (j := 5) rfl
 have cP26 := P2_2.out.cell (j := 6) rfl
 go_wp2_with fail
 refine (szTouch_at p2 s1 _ HW2.out (by omega) (by omega)).mono ?_
 rw [← HS2.out]
 rintro e v3 ⟨rfl, q⟩
 clear cP20 cP21 cP22 cP23 cP24 cP25 cP26
 have A_3 : Hid (Below w.heap.size w v3) := A_2.out.trans (q.mono A_2.out.size)
 have P0_3 : Hid _ := P0_2.out.kept (by simp) q
 have P1_3 : Hid _ := P1_2.out.kept (by simp) q
 have P2_3 : Hid _ := P2_2.out.kept (by simp) q
 clear A_2 P0_2 P1_2 P2_2
 clear q
 have HGB : Hid (∀ q ∈ y1.binds, BdGood q) := fun q hq => ⟨(hbi.out.2.2.1 q hq).1, (hbi.out.2.2.1 q hq).2, (HW1.out.1.2 q hq).1, (HW1.out.1.2 q hq).2.2.1, (HW1.out.1.2 q hq).2.2.2.2⟩
 have HGS : Hid (∀ s ∈ y1.sess, SsGood s) := fun s hs => ⟨(hbi.out.2.2.2 s hs).1, (hbi.out.2.2.2 s hs).2, (HW1.out.2.2 s hs).1, (HW1.out.2.2 s hs).2.2.1⟩
 have hzP : w.heap.size + 1 + 1 < v3.heap.size := P2_3.out.lt (by simp)
 obtain ⟨o, ho⟩ : ∃ y, y = bibTouchV p0 y1 p2 a3 := ⟨_, rfl⟩
 have HSM : Hid (o.bib.binds.length ≤ 1048576 ∧ o.bib.sess.length ≤ 1048576) := by rw [ho]; exact bibTouch_len p0 y1 p2 a3 hbl1 hbl2
 obtain ⟨hol1, hol2⟩ := HSM.out
 have HSP : Hid (∀ W b ta tb tc td, Below w.heap.size w W → SlIs strL1 1 W (some ⟨b, 0, none⟩) p0.addrs → BbIs W ta tb y1 → Calls Tryz.prog 7 #[plC (some ⟨b, 0, none⟩) p0.addrs.length p0, bbC ta tb tc td y1, tcC p2, .int .i64 a3] W fun e w' => BoRet W.heap.size o e w' ∧ Below W.heap.size W w') := fun W b ta tb tc td h0 h h2 => by rw [ho]; exact specBibTouch_any _ _ p0 ta tb tc td y1 p2 a3 W hpl (Nat.le_refl _) hpi.out.2 hvi.out.1 hvi.out.2 hbl1 hbl2 h h2
 have HIP : Hid (∀ W b ta tb tc td, Below w.heap.size w W → SlIs strL1 1 W (some ⟨b, 0, none⟩) p0.addrs → BbIs W ta tb y1 → Calls Tryz.prog 11 #[plC (some ⟨b, 0, none⟩) p0.addrs.length p0, bbC ta tb tc td y1, tcC p2, .int .i64 a3] W fun e w' => BoRet W.heap.size o e w' ∧ Below W.heap.size W w') := fun W b ta tb tc td h0 h h2 => by rw [ho]; exact implBibTouch_any _ _ p0 ta tb tc td y1 p2 a3 W (HTB.out.below h0) hvi.out.1 hvi.out.2 hpl (Nat.le_refl _) hpi.out.2 hbl1 hbl2 HGB.out HGS.out h h2
 clear ho
 go_upto_region 11 with fail
 go_cut [10] (fun v wx => ∃ (g6 : Nat) (oa ob : Option Addr) (oc od : Nat), v = .pointer (some ⟨g6, 0, none⟩) ∧ v3.heap.size ≤ g6 ∧ HoldsL wx g6 [.slice oa o.bib.binds.length oc, .slice ob o.bib.sess.length od, .int .i64 o.bind.proto, .string o.bind.inn, .int .i64 o.bind.inPort, .string o.bind.out, .int .i64 o.bind.outPort, .int .i64 o.code] ∧ BbOwn v3.heap.size wx oa ob o.bib ∧ Below v3.heap.size v3 wx)
 case first =>
  rename_i J K2 hJ hK2
  clear hun
  have HCP : Hid (∀ wy, Below v3.drew.heap.size v3.drew wy → HoldsL wy w.heap.size [.slice a0 p0.addrs.length cap0, .int .i64 p0.low, .int .i64 p0.high, .int .i64 p0.most, .int .i64 p0.filter, .int .i64 p0.lv.udp, .int .i64 p0.lv.echo, .int .i64 p0.lv.opening, .int .i64 p0.lv.opn, .int .i64 p0.lv.closing] ∧ HoldsL wy (w.heap.size + 1) [.slice a1 y1.binds.length ca1, .slice b1 y1.sess.length cb1] ∧ HoldsL wy (w.heap.size + 1 + 1) [.int .i64 p2.proto, .bool p2.inside, .string p2.addr, .int .i64 p2.port, .string p2.peer, .int .i64 p2.peerPort, .int .i64 p2.flags] ∧ Below w.heap.size w wy ∧ Below v3.heap.size v3 wy) := fun wy hy => ⟨P0_3.out.drew.kept (by simp) hy, P1_3.out.drew.kept (by simp) hy, P2_3.out.drew.kept (by simp) hy, A_3.out.drew.trans (hy.mono A_3.out.size), (Below.refl _ _).drew.trans hy⟩
  refine wp_region_growV [33, 34, 35, 36, 37, 38, 39, 40, 10] (by kernel_rfl) (by kernel_rfl) ?_
  refine GChV.val (n := 0) (fun v => [IsV v]) (fun _ => rfl) rfl ?_
  apply Exists.intro
  refine And.intro ?_ ?_
  ·intro K' a wy ho hd hb hK
   rw [if_pos (wanted_none rfl)]
   have o4 := ho 4 (by decide)
   simp [slot] at o4
   clear hd ho
   obtain ⟨hq0, hq1, hq2, -, -⟩ := HCP.out wy hb
   have u0_0 := hq0.cell (j := 0) rfl
   have u0_1 := hq0.cell (j := 1) rfl
   have u0_2 := hq0.cell (j := 2) rfl
   have u0_3 := hq0.cell (j := 3) rfl
   have u0_4 := hq0.cell (j := 4) rfl
   have u0_5 := hq0.cell (j := 5) rfl
   have u0_6 := hq0.cell (j := 6) rfl
   have u0_7 := hq0.cell (j := 7) rfl
   have u0_8 := hq0.cell (j := 8) rfl
   have u0_9 := hq0.cell (j := 9) rfl
   have u1_0 := hq1.cell (j := 0) rfl
   have u1_1 := hq1.cell (j := 1) rfl
   have u2_0 := hq2.cell (j := 0) rfl
   have u2_1 := hq2.cell (j := 1) rfl
   have u2_2 := hq2.cell (j := 2) rfl
   have u2_3 := hq2.cell (j := 3) rfl
   have u2_4 := hq2.cell (j := 4) rfl
   have u2_5 := hq2.cell (j := 5) rfl
   have u2_6 := hq2.cell (j := 6) rfl
   go_simp
   try go_bits
   exact hK _ _ rfl (Below.refl _ _)
  refine GChV.rel (n := 1) (IsPl v3.drew.heap.size p0) (stable_isPl _ _) [_, IsPl v3.drew.heap.size p0] rfl rfl ?_ ?_
  ·intro K' a wy ho hd hb hK
   rw [if_pos (wanted_none rfl)]
   have q0 := hd ⟨0, .data⟩ (by simp) rfl
   simp [rAt, IsV, slot] at q0
   clear hd ho
   go_simp
   refine (toPool_any p0 a0 cap0 wy hpl (HX0.out.below (HCP.out wy hb).2.2.2.1)).mono ?_
   rintro e wz ⟨⟨gg, rfl, hg, hl⟩, hz⟩
   exact hK _ _ ⟨gg, rfl, Nat.le_trans hb.size hg, hl⟩ hz
  refine GChV.val (n := 2) (fun v => [_, _, IsV v]) (fun _ => rfl) rfl ?_
  apply Exists.intro
  refine And.intro ?_ ?_
  ·intro K' a wy ho hd hb hK
   rw [if_pos (wanted_none rfl)]
   have o5 := ho 5 (by decide)
   simp [slot] at o5
   clear hd ho
   obtain ⟨hq0, hq1, hq2, -, -⟩ := HCP.out wy hb
   have u0_0 := hq0.cell (j := 0) rfl
   have u0_1 := hq0.cell (j := 1) rfl
   have u0_2 := hq0.cell (j := 2) rfl
   have u0_3 := hq0.cell (j := 3) rfl
   have u0_4 := hq0.cell (j := 4) rfl
   have u0_5 := hq0.cell (j := 5) rfl
   have u0_6 := hq0.cell (j := 6) rfl
   have u0_7 := hq0.cell (j := 7) rfl
   have u0_8 := hq0.cell (j := 8) rfl
   have u0_9 := hq0.cell (j := 9) rfl
   have u1_0 := hq1.cell (j := 0) rfl
   have u1_1 := hq1.cell (j := 1) rfl
   have u2_0 := hq2.cell (j := 0) rfl
   have u2_1 := hq2.cell (j := 1) rfl
   have u2_2 := hq2.cell (j := 2) rfl
   have u2_3 := hq2.cell (j := 3) rfl
   have u2_4 := hq2.cell (j := 4) rfl
   have u2_5 := hq2.cell (j := 5) rfl
   have u2_6 := hq2.cell (j := 6) rfl
   go_simp
   try go_bits
   exact hK _ _ rfl (Below.refl _ _)
  refine GChV.rel (n := 3) (IsBb v3.drew.heap.size y1) (stable_isBb _ _) [_, _, _, IsBb v3.drew.heap.size y1] rfl rfl ?_ ?_
  ·intro K' a wy ho hd hb hK
   rw [if_pos (wanted_none rfl)]
   have q2 := hd ⟨2, .data⟩ (by simp) rfl
   simp [rAt, IsV, slot] at q2
   clear hd ho
   go_simp
   refine (toBib_any y1 a1 b1 ca1 cb1 wy hbl1 hbl2 (HX1.out.below (HCP.out wy hb).2.2.2.1)).mono ?_
   rintro e wz ⟨⟨xa, xb, xc, xd, rfl, hl⟩, hz⟩
   exact hK _ _ ⟨xa, xb, xc, xd, rfl, hl.low hb.size⟩ hz
  refine GChV.val (n := 4) (fun v => [_, _, _, _, IsV v]) (fun _ => rfl) rfl ?_
  apply Exists.intro
  refine And.intro ?_ ?_
  ·intro K' a wy ho hd hb hK
   rw [if_pos (wanted_none rfl)]
   have o6 := ho 6 (by decide)
   simp [slot] at o6
   clear hd ho
   obtain ⟨hq0, hq1, hq2, -, -⟩ := HCP.out wy hb
   have u0_0 := hq0.cell (j := 0) rfl
   have u0_1 := hq0.cell (j := 1) rfl
   have u0_2 := hq0.cell (j := 2) rfl
   have u0_3 := hq0.cell (j := 3) rfl
   have u0_4 := hq0.cell (j := 4) rfl
   have u0_5 := hq0.cell (j := 5) rfl
   have u0_6 := hq0.cell (j := 6) rfl
   have u0_7 := hq0.cell (j := 7) rfl
   have u0_8 := hq0.cell (j := 8) rfl
   have u0_9 := hq0.cell (j := 9) rfl
   have u1_0 := hq1.cell (j := 0) rfl
   have u1_1 := hq1.cell (j := 1) rfl
   have u2_0 := hq2.cell (j := 0) rfl
   have u2_1 := hq2.cell (j := 1) rfl
   have u2_2 := hq2.cell (j := 2) rfl
   have u2_3 := hq2.cell (j := 3) rfl
   have u2_4 := hq2.cell (j := 4) rfl
   have u2_5 := hq2.cell (j := 5) rfl
   have u2_6 := hq2.cell (j := 6) rfl
   go_simp
   try go_bits
   exact hK _ _ rfl (Below.refl _ _)
  refine GChV.val (n := 5) (fun v => [_, _, _, _, _, IsV v]) (fun _ => rfl) rfl ?_
  apply Exists.intro
  refine And.intro ?_ ?_
  ·intro K' a wy ho hd hb hK
   rw [if_pos (wanted_none rfl)]
   have q4 := hd ⟨4, .data⟩ (by simp) rfl
   simp [rAt, IsV, slot] at q4
   clear hd ho
   go_simp
   refine (toTouch_any p2 wy).mono ?_
   rintro e wz ⟨rfl, hz⟩
   exact hK _ _ rfl hz
  refine GChV.val (n := 6) (fun v => [_, _, _, _, _, _, IsV v]) (fun _ => rfl) rfl ?_
  apply Exists.intro
  refine And.intro ?_ ?_
  ·intro K' a wy ho hd hb hK
   rw [if_pos (wanted_none rfl)]
   have o3 := ho 3 (by decide)
   simp [slot] at o3
   clear hd ho
   go_simp
   try go_bits
   exact hK _ _ rfl (Below.refl _ _)
  refine GChV.rel (n := 7) (IsBo v3.drew.heap.size o) (stable_isBo _ _) [_, _, _, _, _, _, _, IsBo v3.drew.heap.size o] rfl rfl ?_ ?_
  ·intro K' a wy ho hd hb hK
   rw [if_pos (wanted_none rfl)]
   obtain ⟨g1, e1, b1, l1⟩ : IsPl v3.drew.heap.size p0 (slot a 34) wy := hd ⟨1, .data⟩ (by simp) rfl
   simp [slot] at e1
   obtain ⟨xa, xb, xc, xd, e3, l3⟩ : IsBb v3.drew.heap.size y1 (slot a 36) wy := hd ⟨3, .data⟩ (by simp) rfl
   simp [slot] at e3
   have q5 := hd ⟨5, .data⟩ (by simp) rfl
   simp [rAt, IsV, slot] at q5
   have q6 := hd ⟨6, .data⟩ (by simp) rfl
   simp [rAt, IsV, slot] at q6
   clear hd ho
   go_simp
   refine (HSP.out wy g1 xa xb xc xd (HCP.out wy hb).2.2.2.1 l1.is l3.is).mono ?_
   rintro e wz ⟨⟨oa, ob, oc, od, rfl, hl⟩, hz⟩
   exact hK _ _ ⟨oa, ob, oc, od, rfl, hl.low hb.size⟩ hz
  refine GChV.rel (n := 8) (IsZx v3.drew.heap.size [.slice none 0 0, .slice none 0 0, .int .i64 0, .string ⟨#[]⟩, .int .i64 0, .string ⟨#[]⟩, .int .i64 0, .int .i64 0]) (stable_isZx _ _ (by simp)) [_, _, _, _, _, _, _, _, IsZx v3.drew.heap.size [.slice none 0 0, .slice none 0 0, .int .i64 0, .string ⟨#[]⟩, .int .i64 0, .string ⟨#[]⟩, .int .i64 0, .int .i64 0]] rfl rfl ?_ ?_
  ·intro K' a wy ho hd hb hK
   rw [if_pos (wanted_none rfl)]
   clear hd ho
   go_simp
   exact hK _ _ ⟨wy.heap.size, rfl, hb.size, HoldsL.new wy [.slice none 0 0, .slice none 0 0, .int .i64 0, .string ⟨#[]⟩, .int .i64 0, .string ⟨#[]⟩, .int .i64 0, .int .i64 0] 43⟩ ((Below.refl _ _).alloc (Nat.le_refl _) _)
  intro X wz hR hz
  obtain ⟨x0, x1, x2, x3, x4, x5, x6, x7, x8, -⟩ := hR
  obtain ⟨oa, ob, oc, od, e7, o5⟩ := x7
  obtain ⟨g6, e6, b6, zz6⟩ := x8
  obtain ⟨g1, e1, -, -⟩ := x1
  obtain ⟨xa, xb, xc, xd, e3, -⟩ := x3
  simp only [IsV] at x0 x2 x4 x5 x6
  simp only [putsFrom, x0, e1, x2, e3, x4, x5, x6, e7, e6]
  clear x0 x2 x4 x5 x6
  have z0 := zz6.cell (j := 0) rfl
  have zf0 := zz6.free (j := 0) (by simp)
  have z1 := zz6.cell (j := 1) rfl
  have zf1 := zz6.free (j := 1) (by simp)
  have z2 := zz6.cell (j := 2) rfl
  have zf2 := zz6.free (j := 2) (by simp)
  have z3 := zz6.cell (j := 3) rfl
  have zf3 := zz6.free (j := 3) (by simp)
  have z4 := zz6.cell (j := 4) rfl
  have zf4 := zz6.free (j := 4) (by simp)
  have z5 := zz6.cell (j := 5) rfl
  have zf5 := zz6.free (j := 5) (by simp)
  have z6 := zz6.cell (j := 6) rfl
  have zf6 := zz6.free (j := 6) (by simp)
  have z7 := zz6.cell (j := 7) rfl
  have zf7 := zz6.free (j := 7) (by simp)
  have hz0 : Below v3.heap.size v3 wz := (Below.refl _ _).drew.trans hz
  have b6' : v3.heap.size ≤ g6 := b6
  have HH6 : Hid (HoldsL ((((((((wz.setCell ⟨g6, 0, none⟩ (.slice oa o.bib.binds.length oc)).setCell ⟨g6, 1, none⟩ (.slice ob o.bib.sess.length od)).setCell ⟨g6, 2, none⟩ (.int .i64 o.bind.proto)).setCell ⟨g6, 3, none⟩ (.string o.bind.inn)).setCell ⟨g6, 4, none⟩ (.int .i64 o.bind.inPort)).setCell ⟨g6, 5, none⟩ (.string o.bind.out)).setCell ⟨g6, 6, none⟩ (.int .i64 o.bind.outPort)).setCell ⟨g6, 7, none⟩ (.int .i64 o.code)) g6 [.slice oa o.bib.binds.length oc, .slice ob o.bib.sess.length od, .int .i64 o.bind.proto, .string o.bind.inn, .int .i64 o.bind.inPort, .string o.bind.out, .int .i64 o.bind.outPort, .int .i64 o.code]) := ((((((((zz6.set 0 _).set 1 _).set 2 _).set 3 _).set 4 _).set 5 _).set 6 _).set 7 _)
  have HO6 : Hid (BbOwn v3.heap.size ((((((((wz.setCell ⟨g6, 0, none⟩ (.slice oa o.bib.binds.length oc)).setCell ⟨g6, 1, none⟩ (.slice ob o.bib.sess.length od)).setCell ⟨g6, 2, none⟩ (.int .i64 o.bind.proto)).setCell ⟨g6, 3, none⟩ (.string o.bind.inn)).setCell ⟨g6, 4, none⟩ (.int .i64 o.bind.inPort)).setCell ⟨g6, 5, none⟩ (.string o.bind.out)).setCell ⟨g6, 6, none⟩ (.int .i64 o.bind.outPort)).setCell ⟨g6, 7, none⟩ (.int .i64 o.code)) oa ob o.bib) := BbOwn.grownNe o5 (grown_set (grown_set (grown_set (grown_set (grown_set (grown_set (grown_set (grown_set (World.grownBy.refl _ _) _) _) _) _) _) _) _) _) (o5.not_box zz6)
  have HB6 : Hid (Below v3.heap.size v3 ((((((((wz.setCell ⟨g6, 0, none⟩ (.slice oa o.bib.binds.length oc)).setCell ⟨g6, 1, none⟩ (.slice ob o.bib.sess.length od)).setCell ⟨g6, 2, none⟩ (.int .i64 o.bind.proto)).setCell ⟨g6, 3, none⟩ (.string o.bind.inn)).setCell ⟨g6, 4, none⟩ (.int .i64 o.bind.inPort)).setCell ⟨g6, 5, none⟩ (.string o.bind.out)).setCell ⟨g6, 6, none⟩ (.int .i64 o.bind.outPort)).setCell ⟨g6, 7, none⟩ (.int .i64 o.code))) := ((((((((hz0.setCell (p := ⟨g6, 0, none⟩) b6' _).setCell (p := ⟨g6, 1, none⟩) b6' _).setCell (p := ⟨g6, 2, none⟩) b6' _).setCell (p := ⟨g6, 3, none⟩) b6' _).setCell (p := ⟨g6, 4, none⟩) b6' _).setCell (p := ⟨g6, 5, none⟩) b6' _).setCell (p := ⟨g6, 6, none⟩) b6' _).setCell (p := ⟨g6, 7, none⟩) b6' _)
  clear o5 zz6 b6 hz hz0
  unfold boC
  intro K5 hK5
  go_simp
  refine hK5 _ _ ?_
  show Exit.then _ _ _ _ _
  refine hK2 _ _ (hJ _ _ ?_)
  (repeat apply Exists.intro)
  exact ⟨⟨g6, oa, ob, oc, od, rfl, b6', HH6.out, HO6.out, HB6.out⟩, rfl⟩
 case rest =>
 obtain ⟨g4, oa4, ob4, oc4, od4, rfl, hgl, hgh, hgo, q⟩ := hcut
 generalize wc = v4 at *
 have A_4 : Hid (Below w.heap.size w v4) := A_3.out.trans (q.mono A_3.out.size)
 have P0_4 : Hid _ := P0_3.out.kept (by simp) q
 have P1_4 : Hid _ := P1_3.out.kept (by simp) q
 have P2_4 : Hid _ := P2_3.out.kept (by simp) q
 clear A_3 P0_3 P1_3 P2_3
 have hz104 : v3.heap.size ≤ v4.heap.size := q.size
 clear q
 have S_4 : Hid (HoldsL v4 g4 [.slice oa4 o.bib.binds.length oc4, .slice ob4 o.bib.sess.length od4, .int .i64 o.bind.proto, .string o.bind.inn, .int .i64 o.bind.inPort, .string o.bind.out, .int .i64 o.bind.outPort, .int .i64 o.code]) := hgh
 have So_4 : Hid (BbIn v3.heap.size v4.heap.size v4 oa4 ob4 o.bib) := BbIn.of_own hgo (Nat.le_refl _)
 have hSl : g4 < v4.heap.size := hgh.lt (by simp)
 have hSg : v3.heap.size ≤ g4 := hgl
 clear hgh hgo hgl
 have cP00 := P0_4.out.cell (j := 0) rfl
 have cP01 := P0_4.out.cell (j := 1) rfl
 have cP02 := P0_4.out.cell (j := 2) rfl
 have cP03 := P0_4.out.cell (j := 3) rfl
 have cP04 := P0_4.out.cell (j := 4) rfl
 have cP05 := P0_4.out.cell (j := 5) rfl
 have cP06 := P0_4.out.cell (j := 6) rfl
 have cP07 := P0_4.out.cell (j := 7) rfl
 have cP08 := P0_4.out.cell (j := 8) rfl
 have cP09 := P0_4.out.cell (j := 9) rfl
 go_wp2_with fail
 refine (toPool_any p0 a0 cap0 _ hpl (HX0.out.below A_4.out)).mono ?_
 rintro e v5 ⟨⟨g5, rfl, hg, hl⟩, q⟩
 clear cP00 cP01 cP02 cP03 cP04 cP05 cP06 cP07 cP08 cP09
 have A_5 : Hid (Below w.heap.size w v5) := A_4.out.trans (q.mono A_4.out.size)
 have P0_5 : Hid _ := P0_4.out.kept (by simp) q
 have P1_5 : Hid _ := P1_4.out.kept (by simp) q
 have P2_5 : Hid _ := P2_4.out.kept (by simp) q
 have S_5 : Hid _ := S_4.out.kept (by simp) q
 have So_5 : Hid (BbIn v3.heap.size v4.heap.size v5 oa4 ob4 o.bib) := So_4.out.kept q
 clear A_4 P0_4 P1_4 P2_4 S_4 So_4
 have hz105 : v4.heap.size ≤ v5.heap.size := q.size
 clear q
 have T0_5 : Hid (SlLaid strL1 1 v5 g5 p0.addrs p0.addrs.length p0.addrs.length) := hl
 have hgx := hg
 clear hg hl
 unfold plC
 have hT : SlIn strL1 1 v4.heap.size v5.heap.size v5 (some ⟨g5, 0, none⟩) p0.addrs := .inr ⟨g5, rfl, hgx, T0_5.out.blk, T0_5.out⟩
 clear T0_5
 have T0_5 : Hid (SlIn strL1 1 v4.heap.size v5.heap.size v5 (some ⟨g5, 0, none⟩) p0.addrs) := hT
 clear hT
 go_upto_region 13 with fail
 have bn : Below v5.heap.size v5 (v5.alloc (.cells #[.slice (some ⟨g5, 0, none⟩) p0.addrs.length p0.addrs.length, .int .i64 p0.low, .int .i64 p0.high, .int .i64 p0.most, .int .i64 p0.filter, .int .i64 p0.lv.udp, .int .i64 p0.lv.echo, .int .i64 p0.lv.opening, .int .i64 p0.lv.opn, .int .i64 p0.lv.closing] 47)) := (Below.refl _ _).alloc (Nat.le_refl _) _
 have hn : HoldsL (v5.alloc (.cells #[.slice (some ⟨g5, 0, none⟩) p0.addrs.length p0.addrs.length, .int .i64 p0.low, .int .i64 p0.high, .int .i64 p0.most, .int .i64 p0.filter, .int .i64 p0.lv.udp, .int .i64 p0.lv.echo, .int .i64 p0.lv.opening, .int .i64 p0.lv.opn, .int .i64 p0.lv.closing] 47)) v5.heap.size [.slice (some ⟨g5, 0, none⟩) p0.addrs.length p0.addrs.length, .int .i64 p0.low, .int .i64 p0.high, .int .i64 p0.most, .int .i64 p0.filter, .int .i64 p0.lv.udp, .int .i64 p0.lv.echo, .int .i64 p0.lv.opening, .int .i64 p0.lv.opn, .int .i64 p0.lv.closing] := HoldsL.new v5 [.slice (some ⟨g5, 0, none⟩) p0.addrs.length p0.addrs.length, .int .i64 p0.low, .int .i64 p0.high, .int .i64 p0.most, .int .i64 p0.filter, .int .i64 p0.lv.udp, .int .i64 p0.lv.echo, .int .i64 p0.lv.opening, .int .i64 p0.lv.opn, .int .i64 p0.lv.closing] 47
 generalize v5.alloc (.cells #[.slice (some ⟨g5, 0, none⟩) p0.addrs.length p0.addrs.length, .int .i64 p0.low, .int .i64 p0.high, .int .i64 p0.most, .int .i64 p0.filter, .int .i64 p0.lv.udp, .int .i64 p0.lv.echo, .int .i64 p0.lv.opening, .int .i64 p0.lv.opn, .int .i64 p0.lv.closing] 47) = v6 at *
 have A_6 : Hid (Below w.heap.size w v6) := A_5.out.trans (bn.mono A_5.out.size)
 have P0_6 : Hid _ := P0_5.out.kept (by simp) bn
 have P1_6 : Hid _ := P1_5.out.kept (by simp) bn
 have P2_6 : Hid _ := P2_5.out.kept (by simp) bn
 have S_6 : Hid _ := S_5.out.kept (by simp) bn
 have So_6 : Hid (BbIn v3.heap.size v4.heap.size v6 oa4 ob4 o.bib) := So_5.out.kept bn
 have T0_6 : Hid (SlIn strL1 1 v4.heap.size v5.heap.size v6 (some ⟨g5, 0, none⟩) p0.addrs) := T0_5.out.kept bn
 clear A_5 P0_5 P1_5 P2_5 S_5 So_5 T0_5
 have hz106 : v5.heap.size ≤ v6.heap.size := bn.size
 have X_6 : Hid (HoldsL v6 v5.heap.size [.slice (some ⟨g5, 0, none⟩) p0.addrs.length p0.addrs.length, .int .i64 p0.low, .int .i64 p0.high, .int .i64 p0.most, .int .i64 p0.filter, .int .i64 p0.lv.udp, .int .i64 p0.lv.echo, .int .i64 p0.lv.opening, .int .i64 p0.lv.opn, .int .i64 p0.lv.closing]) := hn
 have hXl : v5.heap.size < v6.heap.size := hn.lt (by simp)
 clear bn hn
 have cP10 := P1_6.out.cell (j := 0) rfl
 have cP11 := P1_6.out.cell (j := 1) rfl
 go_wp2_with fail
 refine (toBib_any y1 a1 b1 ca1 cb1 _ hbl1 hbl2 (HX1.out.below A_6.out)).mono ?_
 rintro e v7 ⟨⟨ta7, tb7, tc7, td7, rfl, ho⟩, q⟩
 clear cP10 cP11
 have A_7 : Hid (Below w.heap.size w v7) := A_6.out.trans (q.mono A_6.out.size)
 have P0_7 : Hid _ := P0_6.out.kept (by simp) q
 have P1_7 : Hid _ := P1_6.out.kept (by simp) q
 have P2_7 : Hid _ := P2_6.out.kept (by simp) q
 have S_7 : Hid _ := S_6.out.kept (by simp) q
 have So_7 : Hid (BbIn v3.heap.size v4.heap.size v7 oa4 ob4 o.bib) := So_6.out.kept q
 have T0_7 : Hid (SlIn strL1 1 v4.heap.size v5.heap.size v7 (some ⟨g5, 0, none⟩) p0.addrs) := T0_6.out.kept q
 have X_7 : Hid _ := X_6.out.kept (by simp) q
 clear A_6 P0_6 P1_6 P2_6 S_6 So_6 T0_6 X_6
 have hz107 : v6.heap.size ≤ v7.heap.size := q.size
 clear q
 have T1_7 : Hid (BbOwn v6.heap.size v7 ta7 tb7 y1) := ho
 clear ho
 unfold bbC
 have hT : BbIn v6.heap.size v7.heap.size v7 ta7 tb7 y1 := BbIn.of_own T1_7.out (Nat.le_refl _)
 clear T1_7
 have T1_7 : Hid (BbIn v6.heap.size v7.heap.size v7 ta7 tb7 y1) := hT
 clear hT
 go_upto_region 14 with fail
 have bn : Below v7.heap.size v7 (v7.alloc (.cells #[.slice ta7 y1.binds.length tc7, .slice tb7 y1.sess.length td7] 39)) := (Below.refl _ _).alloc (Nat.le_refl _) _
 have hn : HoldsL (v7.alloc (.cells #[.slice ta7 y1.binds.length tc7, .slice tb7 y1.sess.length td7] 39)) v7.heap.size [.slice ta7 y1.binds.length tc7, .slice tb7 y1.sess.length td7] := HoldsL.new v7 [.slice ta7 y1.binds.length tc7, .slice tb7 y1.sess.length td7] 39
 generalize v7.alloc (.cells #[.slice ta7 y1.binds.length tc7, .slice tb7 y1.sess.length td7] 39) = v8 at *
 have A_8 : Hid (Below w.heap.size w v8) := A_7.out.trans (bn.mono A_7.out.size)
 have P0_8 : Hid _ := P0_7.out.kept (by simp) bn
 have P1_8 : Hid _ := P1_7.out.kept (by simp) bn
 have P2_8 : Hid _ := P2_7.out.kept (by simp) bn
 have S_8 : Hid _ := S_7.out.kept (by simp) bn
 have So_8 : Hid (BbIn v3.heap.size v4.heap.size v8 oa4 ob4 o.bib) := So_7.out.kept bn
 have T0_8 : Hid (SlIn strL1 1 v4.heap.size v5.heap.size v8 (some ⟨g5, 0, none⟩) p0.addrs) := T0_7.out.kept bn
 have X_8 : Hid _ := X_7.out.kept (by simp) bn
 have T1_8 : Hid (BbIn v6.heap.size v7.heap.size v8 ta7 tb7 y1) := T1_7.out.kept bn
 clear A_7 P0_7 P1_7 P2_7 S_7 So_7 T0_7 X_7 T1_7
 have hz108 : v7.heap.size ≤ v8.heap.size := bn.size
 have Y_8 : Hid (HoldsL v8 v7.heap.size [.slice ta7 y1.binds.length tc7, .slice tb7 y1.sess.length td7]) := hn
 have hYl : v7.heap.size < v8.heap.size := hn.lt (by simp)
 clear bn hn
 go_upto_region 14 with fail
 go_cut [13] (fun v wx => ∃ (g6 : Nat) (oa ob : Option Addr) (oc od : Nat), v = .pointer (some ⟨g6, 0, none⟩) ∧ v8.heap.size ≤ g6 ∧ HoldsL wx g6 [.slice oa o.bib.binds.length oc, .slice ob o.bib.sess.length od, .int .i64 o.bind.proto, .string o.bind.inn, .int .i64 o.bind.inPort, .string o.bind.out, .int .i64 o.bind.outPort, .int .i64 o.code] ∧ BbOwn v8.heap.size wx oa ob o.bib ∧ Below v8.heap.size v8 wx)
 case first =>
  rename_i J K2 hJ hK2
  clear hun
  have HCP : Hid (∀ wy, Below v8.drew.heap.size v8.drew wy → HoldsL wy v5.heap.size [.slice (some ⟨g5, 0, none⟩) p0.addrs.length p0.addrs.length, .int .i64 p0.low, .int .i64 p0.high, .int .i64 p0.most, .int .i64 p0.filter, .int .i64 p0.lv.udp, .int .i64 p0.lv.echo, .int .i64 p0.lv.opening, .int .i64 p0.lv.opn, .int .i64 p0.lv.closing] ∧ HoldsL wy v7.heap.size [.slice ta7 y1.binds.length tc7, .slice tb7 y1.sess.length td7] ∧ HoldsL wy (w.heap.size + 1 + 1) [.int .i64 p2.proto, .bool p2.inside, .string p2.addr, .int .i64 p2.port, .string p2.peer, .int .i64 p2.peerPort, .int .i64 p2.flags] ∧ Below w.heap.size w wy ∧ Below v8.heap.size v8 wy) := fun wy hy => ⟨X_8.out.drew.kept (by simp) hy, Y_8.out.drew.kept (by simp) hy, P2_8.out.drew.kept (by simp) hy, A_8.out.drew.trans (hy.mono A_8.out.size), (Below.refl _ _).drew.trans hy⟩
  refine wp_region_growV [45, 46, 47, 48, 49, 50, 13] (by kernel_rfl) (by kernel_rfl) ?_
  refine GChV.val (n := 0) (fun v => [IsV v]) (fun _ => rfl) rfl ?_
  apply Exists.intro
  refine And.intro ?_ ?_
  ·intro K' a wy ho hd hb hK
   rw [if_pos (wanted_none rfl)]
   have o11 := ho 11 (by decide)
   simp [slot] at o11
   clear hd ho
   obtain ⟨hq0, hq1, hq2, -, -⟩ := HCP.out wy hb
   have u0_0 := hq0.cell (j := 0) rfl
   have u0_1 := hq0.cell (j := 1) rfl
   have u0_2 := hq0.cell (j := 2) rfl
   have u0_3 := hq0.cell (j := 3) rfl
   have u0_4 := hq0.cell (j := 4) rfl
   have u0_5 := hq0.cell (j := 5) rfl
   have u0_6 := hq0.cell (j := 6) rfl
   have u0_7 := hq0.cell (j := 7) rfl
   have u0_8 := hq0.cell (j := 8) rfl
   have u0_9 := hq0.cell (j := 9) rfl
   have u1_0 := hq1.cell (j := 0) rfl
   have u1_1 := hq1.cell (j := 1) rfl
   have u2_0 := hq2.cell (j := 0) rfl
   have u2_1 := hq2.cell (j := 1) rfl
   have u2_2 := hq2.cell (j := 2) rfl
   have u2_3 := hq2.cell (j := 3) rfl
   have u2_4 := hq2.cell (j := 4) rfl
   have u2_5 := hq2.cell (j := 5) rfl
   have u2_6 := hq2.cell (j := 6) rfl
   go_simp
   try go_bits
   exact hK _ _ rfl (Below.refl _ _)
  refine GChV.val (n := 1) (fun v => [_, IsV v]) (fun _ => rfl) rfl ?_
  apply Exists.intro
  refine And.intro ?_ ?_
  ·intro K' a wy ho hd hb hK
   rw [if_pos (wanted_none rfl)]
   have o12 := ho 12 (by decide)
   simp [slot] at o12
   clear hd ho
   obtain ⟨hq0, hq1, hq2, -, -⟩ := HCP.out wy hb
   have u0_0 := hq0.cell (j := 0) rfl
   have u0_1 := hq0.cell (j := 1) rfl
   have u0_2 := hq0.cell (j := 2) rfl
   have u0_3 := hq0.cell (j := 3) rfl
   have u0_4 := hq0.cell (j := 4) rfl
   have u0_5 := hq0.cell (j := 5) rfl
   have u0_6 := hq0.cell (j := 6) rfl
   have u0_7 := hq0.cell (j := 7) rfl
   have u0_8 := hq0.cell (j := 8) rfl
   have u0_9 := hq0.cell (j := 9) rfl
   have u1_0 := hq1.cell (j := 0) rfl
   have u1_1 := hq1.cell (j := 1) rfl
   have u2_0 := hq2.cell (j := 0) rfl
   have u2_1 := hq2.cell (j := 1) rfl
   have u2_2 := hq2.cell (j := 2) rfl
   have u2_3 := hq2.cell (j := 3) rfl
   have u2_4 := hq2.cell (j := 4) rfl
   have u2_5 := hq2.cell (j := 5) rfl
   have u2_6 := hq2.cell (j := 6) rfl
   go_simp
   try go_bits
   exact hK _ _ rfl (Below.refl _ _)
  refine GChV.val (n := 2) (fun v => [_, _, IsV v]) (fun _ => rfl) rfl ?_
  apply Exists.intro
  refine And.intro ?_ ?_
  ·intro K' a wy ho hd hb hK
   rw [if_pos (wanted_none rfl)]
   have o6 := ho 6 (by decide)
   simp [slot] at o6
   clear hd ho
   obtain ⟨hq0, hq1, hq2, -, -⟩ := HCP.out wy hb
   have u0_0 := hq0.cell (j := 0) rfl
   have u0_1 := hq0.cell (j := 1) rfl
   have u0_2 := hq0.cell (j := 2) rfl
   have u0_3 := hq0.cell (j := 3) rfl
   have u0_4 := hq0.cell (j := 4) rfl
   have u0_5 := hq0.cell (j := 5) rfl
   have u0_6 := hq0.cell (j := 6) rfl
   have u0_7 := hq0.cell (j := 7) rfl
   have u0_8 := hq0.cell (j := 8) rfl
   have u0_9 := hq0.cell (j := 9) rfl
   have u1_0 := hq1.cell (j := 0) rfl
   have u1_1 := hq1.cell (j := 1) rfl
   have u2_0 := hq2.cell (j := 0) rfl
   have u2_1 := hq2.cell (j := 1) rfl
   have u2_2 := hq2.cell (j := 2) rfl
   have u2_3 := hq2.cell (j := 3) rfl
   have u2_4 := hq2.cell (j := 4) rfl
   have u2_5 := hq2.cell (j := 5) rfl
   have u2_6 := hq2.cell (j := 6) rfl
   go_simp
   try go_bits
   exact hK _ _ rfl (Below.refl _ _)
  refine GChV.val (n := 3) (fun v => [_, _, _, IsV v]) (fun _ => rfl) rfl ?_
  apply Exists.intro
  refine And.intro ?_ ?_
  ·intro K' a wy ho hd hb hK
   rw [if_pos (wanted_none rfl)]
   have q2 := hd ⟨2, .data⟩ (by simp) rfl
   simp [rAt, IsV, slot] at q2
   clear hd ho
   go_simp
   refine (toTouch_any p2 wy).mono ?_
   rintro e wz ⟨rfl, hz⟩
   exact hK _ _ rfl hz
  refine GChV.val (n := 4) (fun v => [_, _, _, _, IsV v]) (fun _ => rfl) rfl ?_
  apply Exists.intro
  refine And.intro ?_ ?_
  ·intro K' a wy ho hd hb hK
   rw [if_pos (wanted_none rfl)]
   have o3 := ho 3 (by decide)
   simp [slot] at o3
   clear hd ho
   go_simp
   try go_bits
   exact hK _ _ rfl (Below.refl _ _)
  refine GChV.rel (n := 5) (IsBo v8.drew.heap.size o) (stable_isBo _ _) [_, _, _, _, _, IsBo v8.drew.heap.size o] rfl rfl ?_ ?_
  ·intro K' a wy ho hd hb hK
   rw [if_pos (wanted_none rfl)]
   have q0 := hd ⟨0, .data⟩ (by simp) rfl
   simp [rAt, IsV, slot] at q0
   have q1 := hd ⟨1, .data⟩ (by simp) rfl
   simp [rAt, IsV, slot] at q1
   have q3 := hd ⟨3, .data⟩ (by simp) rfl
   simp [rAt, IsV, slot] at q3
   have q4 := hd ⟨4, .data⟩ (by simp) rfl
   simp [rAt, IsV, slot] at q4
   clear hd ho
   go_simp
   refine (HIP.out wy _ _ _ _ _ (HCP.out wy hb).2.2.2.1 (T0_8.out.kept (HCP.out wy hb).2.2.2.2).is (T1_8.out.kept (HCP.out wy hb).2.2.2.2).is).mono ?_
   rintro e wz ⟨⟨oa, ob, oc, od, rfl, hl⟩, hz⟩
   exact hK _ _ ⟨oa, ob, oc, od, rfl, hl.low hb.size⟩ hz
  refine GChV.rel (n := 6) (IsZx v8.drew.heap.size [.slice none 0 0, .slice none 0 0, .int .i64 0, .string ⟨#[]⟩, .int .i64 0, .string ⟨#[]⟩, .int .i64 0, .int .i64 0]) (stable_isZx _ _ (by simp)) [_, _, _, _, _, _, IsZx v8.drew.heap.size [.slice none 0 0, .slice none 0 0, .int .i64 0, .string ⟨#[]⟩, .int .i64 0, .string ⟨#[]⟩, .int .i64 0, .int .i64 0]] rfl rfl ?_ ?_
  ·intro K' a wy ho hd hb hK
   rw [if_pos (wanted_none rfl)]
   clear hd ho
   go_simp
   exact hK _ _ ⟨wy.heap.size, rfl, hb.size, HoldsL.new wy [.slice none 0 0, .slice none 0 0, .int .i64 0, .string ⟨#[]⟩, .int .i64 0, .string ⟨#[]⟩, .int .i64 0, .int .i64 0] 43⟩ ((Below.refl _ _).alloc (Nat.le_refl _) _)
  intro X wz hR hz
  obtain ⟨x0, x1, x2, x3, x4, x5, x6, -⟩ := hR
  obtain ⟨oa, ob, oc, od, e5, o5⟩ := x5
  obtain ⟨g6, e6, b6, zz6⟩ := x6
  simp only [IsV] at x0 x1 x2 x3 x4
  simp only [putsFrom, x0, x1, x2, x3, x4, e5, e6]
  clear x0 x1 x2 x3 x4
  have z0 := zz6.cell (j := 0) rfl
  have zf0 := zz6.free (j := 0) (by simp)
  have z1 := zz6.cell (j := 1) rfl
  have zf1 := zz6.free (j := 1) (by simp)
  have z2 := zz6.cell (j := 2) rfl
  have zf2 := zz6.free (j := 2) (by simp)
  have z3 := zz6.cell (j := 3) rfl
  have zf3 := zz6.free (j := 3) (by simp)
  have z4 := zz6.cell (j := 4) rfl
  have zf4 := zz6.free (j := 4) (by simp)
  have z5 := zz6.cell (j := 5) rfl
  have zf5 := zz6.free (j := 5) (by simp)
  have z6 := zz6.cell (j := 6) rfl
  have zf6 := zz6.free (j := 6) (by simp)
  have z7 := zz6.cell (j := 7) rfl
  have zf7 := zz6.free (j := 7) (by simp)
  have hz0 : Below v8.heap.size v8 wz := (Below.refl _ _).drew.trans hz
  have b6' : v8.heap.size ≤ g6 := b6
  have HH6 : Hid (HoldsL ((((((((wz.setCell ⟨g6, 0, none⟩ (.slice oa o.bib.binds.length oc)).setCell ⟨g6, 1, none⟩ (.slice ob o.bib.sess.length od)).setCell ⟨g6, 2, none⟩ (.int .i64 o.bind.proto)).setCell ⟨g6, 3, none⟩ (.string o.bind.inn)).setCell ⟨g6, 4, none⟩ (.int .i64 o.bind.inPort)).setCell ⟨g6, 5, none⟩ (.string o.bind.out)).setCell ⟨g6, 6, none⟩ (.int .i64 o.bind.outPort)).setCell ⟨g6, 7, none⟩ (.int .i64 o.code)) g6 [.slice oa o.bib.binds.length oc, .slice ob o.bib.sess.length od, .int .i64 o.bind.proto, .string o.bind.inn, .int .i64 o.bind.inPort, .string o.bind.out, .int .i64 o.bind.outPort, .int .i64 o.code]) := ((((((((zz6.set 0 _).set 1 _).set 2 _).set 3 _).set 4 _).set 5 _).set 6 _).set 7 _)
  have HO6 : Hid (BbOwn v8.heap.size ((((((((wz.setCell ⟨g6, 0, none⟩ (.slice oa o.bib.binds.length oc)).setCell ⟨g6, 1, none⟩ (.slice ob o.bib.sess.length od)).setCell ⟨g6, 2, none⟩ (.int .i64 o.bind.proto)).setCell ⟨g6, 3, none⟩ (.string o.bind.inn)).setCell ⟨g6, 4, none⟩ (.int .i64 o.bind.inPort)).setCell ⟨g6, 5, none⟩ (.string o.bind.out)).setCell ⟨g6, 6, none⟩ (.int .i64 o.bind.outPort)).setCell ⟨g6, 7, none⟩ (.int .i64 o.code)) oa ob o.bib) := BbOwn.grownNe o5 (grown_set (grown_set (grown_set (grown_set (grown_set (grown_set (grown_set (grown_set (World.grownBy.refl _ _) _) _) _) _) _) _) _) _) (o5.not_box zz6)
  have HB6 : Hid (Below v8.heap.size v8 ((((((((wz.setCell ⟨g6, 0, none⟩ (.slice oa o.bib.binds.length oc)).setCell ⟨g6, 1, none⟩ (.slice ob o.bib.sess.length od)).setCell ⟨g6, 2, none⟩ (.int .i64 o.bind.proto)).setCell ⟨g6, 3, none⟩ (.string o.bind.inn)).setCell ⟨g6, 4, none⟩ (.int .i64 o.bind.inPort)).setCell ⟨g6, 5, none⟩ (.string o.bind.out)).setCell ⟨g6, 6, none⟩ (.int .i64 o.bind.outPort)).setCell ⟨g6, 7, none⟩ (.int .i64 o.code))) := ((((((((hz0.setCell (p := ⟨g6, 0, none⟩) b6' _).setCell (p := ⟨g6, 1, none⟩) b6' _).setCell (p := ⟨g6, 2, none⟩) b6' _).setCell (p := ⟨g6, 3, none⟩) b6' _).setCell (p := ⟨g6, 4, none⟩) b6' _).setCell (p := ⟨g6, 5, none⟩) b6' _).setCell (p := ⟨g6, 6, none⟩) b6' _).setCell (p := ⟨g6, 7, none⟩) b6' _)
  clear o5 zz6 b6 hz hz0
  unfold boC
  intro K5 hK5
  go_simp
  refine hK5 _ _ ?_
  show Exit.then _ _ _ _ _
  refine hK2 _ _ (hJ _ _ ?_)
  (repeat apply Exists.intro)
  exact ⟨⟨g6, oa, ob, oc, od, rfl, b6', HH6.out, HO6.out, HB6.out⟩, rfl⟩
 case rest =>
 obtain ⟨g9, oa9, ob9, oc9, od9, rfl, hgl, hgh, hgo, q⟩ := hcut
 generalize wc = v9 at *
 have A_9 : Hid (Below w.heap.size w v9) := A_8.out.trans (q.mono A_8.out.size)
 have P0_9 : Hid _ := P0_8.out.kept (by simp) q
 have P1_9 : Hid _ := P1_8.out.kept (by simp) q
 have P2_9 : Hid _ := P2_8.out.kept (by simp) q
 have S_9 : Hid _ := S_8.out.kept (by simp) q
 have So_9 : Hid (BbIn v3.heap.size v4.heap.size v9 oa4 ob4 o.bib) := So_8.out.kept q
 have T0_9 : Hid (SlIn strL1 1 v4.heap.size v5.heap.size v9 (some ⟨g5, 0, none⟩) p0.addrs) := T0_8.out.kept q
 have X_9 : Hid _ := X_8.out.kept (by simp) q
 have T1_9 : Hid (BbIn v6.heap.size v7.heap.size v9 ta7 tb7 y1) := T1_8.out.kept q
 have Y_9 : Hid _ := Y_8.out.kept (by simp) q
 clear A_8 P0_8 P1_8 P2_8 S_8 So_8 T0_8 X_8 T1_8 Y_8
 have hz109 : v8.heap.size ≤ v9.heap.size := q.size
 clear q
 have Z_9 : Hid (HoldsL v9 g9 [.slice oa9 o.bib.binds.length oc9, .slice ob9 o.bib.sess.length od9, .int .i64 o.bind.proto, .string o.bind.inn, .int .i64 o.bind.inPort, .string o.bind.out, .int .i64 o.bind.outPort, .int .i64 o.code]) := hgh
 have Zo_9 : Hid (BbIn v8.heap.size v9.heap.size v9 oa9 ob9 o.bib) := BbIn.of_own hgo (Nat.le_refl _)
 have hZl : g9 < v9.heap.size := hgh.lt (by simp)
 have hZg : v8.heap.size ≤ g9 := hgl
 clear hgh hgo hgl
 have cZ0 := Z_9.out.cell (j := 0) rfl
 have cZ1 := Z_9.out.cell (j := 1) rfl
 have cZ2 := Z_9.out.cell (j := 2) rfl
 have cZ3 := Z_9.out.cell (j := 3) rfl
 have cZ4 := Z_9.out.cell (j := 4) rfl
 have cZ5 := Z_9.out.cell (j := 5) rfl
 have cZ6 := Z_9.out.cell (j := 6) rfl
 have cZ7 := Z_9.out.cell (j := 7) rfl
 have cS0 := S_9.out.cell (j := 0) rfl
 have cS1 := S_9.out.cell (j := 1) rfl
 have cS2 := S_9.out.cell (j := 2) rfl
 have cS3 := S_9.out.cell (j := 3) rfl
 have cS4 := S_9.out.cell (j := 4) rfl
 have cS5 := S_9.out.cell (j := 5) rfl
 have cS6 := S_9.out.cell (j := 6) rfl
 have cS7 := S_9.out.cell (j := 7) rfl
 go_wp2_with fail
 refine (eqBibOut_same o _ _ _ _ _ _ _ _ _ hol1 hol2 Zo_9.out.is So_9.out.is).mono ?_
 rintro e v10 ⟨rfl, q⟩
 clear cZ0 cZ1 cZ2 cZ3 cZ4 cZ5 cZ6 cZ7 cS0 cS1 cS2 cS3 cS4 cS5 cS6 cS7
 have A_10 : Hid (Below w.heap.size w v10) := A_9.out.trans (q.mono A_9.out.size)
 have P0_10 : Hid _ := P0_9.out.kept (by simp) q
 have P1_10 : Hid _ := P1_9.out.kept (by simp) q
 have P2_10 : Hid _ := P2_9.out.kept (by simp) q
 have S_10 : Hid _ := S_9.out.kept (by simp) q
 have So_10 : Hid (BbIn v3.heap.size v4.heap.size v10 oa4 ob4 o.bib) := So_9.out.kept q
 have T0_10 : Hid (SlIn strL1 1 v4.heap.size v5.heap.size v10 (some ⟨g5, 0, none⟩) p0.addrs) := T0_9.out.kept q
 have X_10 : Hid _ := X_9.out.kept (by simp) q
 have T1_10 : Hid (BbIn v6.heap.size v7.heap.size v10 ta7 tb7 y1) := T1_9.out.kept q
 have Y_10 : Hid _ := Y_9.out.kept (by simp) q
 have Z_10 : Hid _ := Z_9.out.kept (by simp) q
 have Zo_10 : Hid (BbIn v8.heap.size v9.heap.size v10 oa9 ob9 o.bib) := Zo_9.out.kept q
 clear A_9 P0_9 P1_9 P2_9 S_9 So_9 T0_9 X_9 T1_9 Y_9 Z_9 Zo_9
 have hz110 : v9.heap.size ≤ v10.heap.size := q.size
 clear q
 go_upto_region 17 with fail
 go_cut [59] (fun v wx => v = .bool false ∧ Below v10.heap.size v10 wx)
 case first =>
  rename_i J K2 hJ hK2
  clear hun
  have HCP : Hid (∀ wy, Below v10.drew.heap.size v10.drew wy → HoldsL wy v5.heap.size [.slice (some ⟨g5, 0, none⟩) p0.addrs.length p0.addrs.length, .int .i64 p0.low, .int .i64 p0.high, .int .i64 p0.most, .int .i64 p0.filter, .int .i64 p0.lv.udp, .int .i64 p0.lv.echo, .int .i64 p0.lv.opening, .int .i64 p0.lv.opn, .int .i64 p0.lv.closing] ∧ HoldsL wy w.heap.size [.slice a0 p0.addrs.length cap0, .int .i64 p0.low, .int .i64 p0.high, .int .i64 p0.most, .int .i64 p0.filter, .int .i64 p0.lv.udp, .int .i64 p0.lv.echo, .int .i64 p0.lv.opening, .int .i64 p0.lv.opn, .int .i64 p0.lv.closing] ∧ Below w.heap.size w wy ∧ Below v10.heap.size v10 wy) := fun wy hy => ⟨X_10.out.drew.kept (by simp) hy, P0_10.out.drew.kept (by simp) hy, A_10.out.drew.trans (hy.mono A_10.out.size), (Below.refl _ _).drew.trans hy⟩
  have HE : Hid (∀ wy b2, SlIs strL1 1 wy (some ⟨g5, 0, none⟩) p0.addrs → SlIs strL1 1 wy (some ⟨b2, 0, none⟩) p0.addrs → Calls Tryz.prog 13 #[.agg #[.slice (some ⟨g5, 0, none⟩) p0.addrs.length p0.addrs.length, .int .i64 p0.low, .int .i64 p0.high, .int .i64 p0.most, .int .i64 p0.filter, .int .i64 p0.lv.udp, .int .i64 p0.lv.echo, .int .i64 p0.lv.opening, .int .i64 p0.lv.opn, .int .i64 p0.lv.closing], plC (some ⟨b2, 0, none⟩) p0.addrs.length p0] wy fun e w' => e = .returned (.bool true) ∧ Below wy.heap.size wy w') := fun wy b2 h1 h2 => eqPool_same p0 _ _ _ _ wy hpl h1 h2
  refine wp_region_growH [55, 56, 57, 58, 59] (by kernel_rfl) (by kernel_rfl) ?_
  refine GCh.val (n := 0) (fun v => [IsV v]) (fun _ => rfl) rfl ?_
  apply Exists.intro
  refine And.intro ?_ ?_
  ·intro K' a wy ho hd hb hK
   rw [if_pos (wanted_none rfl)]
   have o11 := ho 11 (by decide)
   simp [slot] at o11
   clear hd ho
   obtain ⟨hq1, hq2, -, -⟩ := HCP.out wy hb
   have u0 := hq1.cell (j := 0) rfl
   have u1 := hq1.cell (j := 1) rfl
   have u2 := hq1.cell (j := 2) rfl
   have u3 := hq1.cell (j := 3) rfl
   have u4 := hq1.cell (j := 4) rfl
   have u5 := hq1.cell (j := 5) rfl
   have u6 := hq1.cell (j := 6) rfl
   have u7 := hq1.cell (j := 7) rfl
   have u8 := hq1.cell (j := 8) rfl
   have u9 := hq1.cell (j := 9) rfl
   have t0 := hq2.cell (j := 0) rfl
   have t1 := hq2.cell (j := 1) rfl
   have t2 := hq2.cell (j := 2) rfl
   have t3 := hq2.cell (j := 3) rfl
   have t4 := hq2.cell (j := 4) rfl
   have t5 := hq2.cell (j := 5) rfl
   have t6 := hq2.cell (j := 6) rfl
   have t7 := hq2.cell (j := 7) rfl
   have t8 := hq2.cell (j := 8) rfl
   have t9 := hq2.cell (j := 9) rfl
   go_simp
   try go_bits
   exact hK _ _ rfl (Below.refl _ _)
  refine GCh.val (n := 1) (fun v => [_, IsV v]) (fun _ => rfl) rfl ?_
  apply Exists.intro
  refine And.intro ?_ ?_
  ·intro K' a wy ho hd hb hK
   rw [if_pos (wanted_none rfl)]
   have o4 := ho 4 (by decide)
   simp [slot] at o4
   clear hd ho
   obtain ⟨hq1, hq2, -, -⟩ := HCP.out wy hb
   have u0 := hq1.cell (j := 0) rfl
   have u1 := hq1.cell (j := 1) rfl
   have u2 := hq1.cell (j := 2) rfl
   have u3 := hq1.cell (j := 3) rfl
   have u4 := hq1.cell (j := 4) rfl
   have u5 := hq1.cell (j := 5) rfl
   have u6 := hq1.cell (j := 6) rfl
   have u7 := hq1.cell (j := 7) rfl
   have u8 := hq1.cell (j := 8) rfl
   have u9 := hq1.cell (j := 9) rfl
   have t0 := hq2.cell (j := 0) rfl
   have t1 := hq2.cell (j := 1) rfl
   have t2 := hq2.cell (j := 2) rfl
   have t3 := hq2.cell (j := 3) rfl
   have t4 := hq2.cell (j := 4) rfl
   have t5 := hq2.cell (j := 5) rfl
   have t6 := hq2.cell (j := 6) rfl
   have t7 := hq2.cell (j := 7) rfl
   have t8 := hq2.cell (j := 8) rfl
   have t9 := hq2.cell (j := 9) rfl
   go_simp
   try go_bits
   exact hK _ _ rfl (Below.refl _ _)
  refine GCh.rel (n := 2) (IsPl v10.drew.heap.size p0) (stable_isPl _ _) [_, _, IsPl v10.drew.heap.size p0] rfl rfl ?_ ?_
  ·intro K' a wy ho hd hb hK
   rw [if_pos (wanted_none rfl)]
   have q1 := hd ⟨1, .data⟩ (by simp) rfl
   simp [rAt, IsV, slot] at q1
   clear hd ho
   go_simp
   refine (toPool_any p0 a0 cap0 wy hpl (HX0.out.below (HCP.out wy hb).2.2.1)).mono ?_
   rintro e wz ⟨⟨gg, rfl, hg, hl⟩, hz⟩
   exact hK _ _ ⟨gg, rfl, Nat.le_trans hb.size hg, hl⟩ hz
  refine GCh.val (n := 3) (fun v => [_, _, _, IsV v]) (fun _ => rfl) rfl ?_
  apply Exists.intro
  refine And.intro ?_ ?_
  ·intro K' a wy ho hd hb hK
   rw [if_pos (wanted_none rfl)]
   have q0 := hd ⟨0, .data⟩ (by simp) rfl
   simp [rAt, IsV, slot] at q0
   obtain ⟨g2, e2, b2, l2⟩ : IsPl v10.drew.heap.size p0 (slot a 57) wy := hd ⟨2, .data⟩ (by simp) rfl
   simp [slot] at e2
   clear hd ho
   go_simp
   refine (HE.out wy g2 (T0_10.out.kept (HCP.out wy hb).2.2.2).is l2.is).mono ?_
   rintro e wz ⟨rfl, hz⟩
   exact hK _ _ rfl hz
  refine GCh.val (n := 4) (fun v => [_, _, _, _, IsV v]) (fun _ => rfl) rfl ?_
  apply Exists.intro
  refine And.intro ?_ ?_
  ·intro K' a wy ho hd hb hK
   rw [if_pos (wanted_none rfl)]
   have q3 := hd ⟨3, .data⟩ (by simp) rfl
   simp [rAt, IsV, slot] at q3
   clear hd ho
   go_simp
   try go_bits
   exact hK _ _ rfl (Below.refl _ _)
  intro X wz hR hz
  obtain ⟨x0, x1, x2, x3, x4, -⟩ := hR
  obtain ⟨g2, e2, -, -⟩ := x2
  simp only [IsV] at x0 x1 x3 x4
  simp only [putsFrom, x0, x1, e2, x3, x4]
  clear x0 x1 x3 x4
  go_simp
  refine hK2 _ _ (hJ _ _ ?_)
  (repeat apply Exists.intro)
  refine ⟨⟨rfl, (Below.refl _ _).drew.trans hz⟩, rfl⟩
 case rest =>
 obtain ⟨rfl, q⟩ := hcut
 generalize wc = v11 at *
 have A_11 : Hid (Below w.heap.size w v11) := A_10.out.trans (q.mono A_10.out.size)
 have P0_11 : Hid _ := P0_10.out.kept (by simp) q
 have P1_11 : Hid _ := P1_10.out.kept (by simp) q
 have P2_11 : Hid _ := P2_10.out.kept (by simp) q
 have S_11 : Hid _ := S_10.out.kept (by simp) q
 have So_11 : Hid (BbIn v3.heap.size v4.heap.size v11 oa4 ob4 o.bib) := So_10.out.kept q
 have T0_11 : Hid (SlIn strL1 1 v4.heap.size v5.heap.size v11 (some ⟨g5, 0, none⟩) p0.addrs) := T0_10.out.kept q
 have X_11 : Hid _ := X_10.out.kept (by simp) q
 have T1_11 : Hid (BbIn v6.heap.size v7.heap.size v11 ta7 tb7 y1) := T1_10.out.kept q
 have Y_11 : Hid _ := Y_10.out.kept (by simp) q
 have Z_11 : Hid _ := Z_10.out.kept (by simp) q
 have Zo_11 : Hid (BbIn v8.heap.size v9.heap.size v11 oa9 ob9 o.bib) := Zo_10.out.kept q
 clear A_10 P0_10 P1_10 P2_10 S_10 So_10 T0_10 X_10 T1_10 Y_10 Z_10 Zo_10
 have hz111 : v10.heap.size ≤ v11.heap.size := q.size
 clear q
 go_upto_region 19 with fail
 go_cut [64] (fun v wx => v = .bool false ∧ Below v11.heap.size v11 wx)
 case first =>
  rename_i J K2 hJ hK2
  clear hun
  have HCP : Hid (∀ wy, Below v11.drew.heap.size v11.drew wy → HoldsL wy v7.heap.size [.slice ta7 y1.binds.length tc7, .slice tb7 y1.sess.length td7] ∧ HoldsL wy (w.heap.size + 1) [.slice a1 y1.binds.length ca1, .slice b1 y1.sess.length cb1] ∧ Below w.heap.size w wy ∧ Below v11.heap.size v11 wy) := fun wy hy => ⟨Y_11.out.drew.kept (by simp) hy, P1_11.out.drew.kept (by simp) hy, A_11.out.drew.trans (hy.mono A_11.out.size), (Below.refl _ _).drew.trans hy⟩
  have HE : Hid (∀ wy xa xb xc xd, BbIs wy ta7 tb7 y1 → BbIs wy xa xb y1 → Calls Tryz.prog 14 #[.agg #[.slice ta7 y1.binds.length tc7, .slice tb7 y1.sess.length td7], bbC xa xb xc xd y1] wy fun e w' => e = .returned (.bool true) ∧ Below wy.heap.size wy w') := fun wy xa xb xc xd h1 h2 => eqBib_same y1 _ _ _ _ _ _ _ _ wy hbl1 hbl2 h1 h2
  refine wp_region_growH [60, 61, 62, 63, 64] (by kernel_rfl) (by kernel_rfl) ?_
  refine GCh.val (n := 0) (fun v => [IsV v]) (fun _ => rfl) rfl ?_
  apply Exists.intro
  refine And.intro ?_ ?_
  ·intro K' a wy ho hd hb hK
   rw [if_pos (wanted_none rfl)]
   have o12 := ho 12 (by decide)
   simp [slot] at o12
   clear hd ho
   obtain ⟨hq1, hq2, -, -⟩ := HCP.out wy hb
   have u0 := hq1.cell (j := 0) rfl
   have u1 := hq1.cell (j := 1) rfl
   have t0 := hq2.cell (j := 0) rfl
   have t1 := hq2.cell (j := 1) rfl
   go_simp
   try go_bits
   exact hK _ _ rfl (Below.refl _ _)
  refine GCh.val (n := 1) (fun v => [_, IsV v]) (fun _ => rfl) rfl ?_
  apply Exists.intro
  refine And.intro ?_ ?_
  ·intro K' a wy ho hd hb hK
   rw [if_pos (wanted_none rfl)]
   have o5 := ho 5 (by decide)
   simp [slot] at o5
   clear hd ho
   obtain ⟨hq1, hq2, -, -⟩ := HCP.out wy hb
   have u0 := hq1.cell (j := 0) rfl
   have u1 := hq1.cell (j := 1) rfl
   have t0 := hq2.cell (j := 0) rfl
   have t1 := hq2.cell (j := 1) rfl
   go_simp
   try go_bits
   exact hK _ _ rfl (Below.refl _ _)
  refine GCh.rel (n := 2) (IsBb v11.drew.heap.size y1) (stable_isBb _ _) [_, _, IsBb v11.drew.heap.size y1] rfl rfl ?_ ?_
  ·intro K' a wy ho hd hb hK
   rw [if_pos (wanted_none rfl)]
   have q1 := hd ⟨1, .data⟩ (by simp) rfl
   simp [rAt, IsV, slot] at q1
   clear hd ho
   go_simp
   refine (toBib_any y1 a1 b1 ca1 cb1 wy hbl1 hbl2 (HX1.out.below (HCP.out wy hb).2.2.1)).mono ?_
   rintro e wz ⟨⟨xa, xb, xc, xd, rfl, hl⟩, hz⟩
   exact hK _ _ ⟨xa, xb, xc, xd, rfl, hl.low hb.size⟩ hz
  refine GCh.val (n := 3) (fun v => [_, _, _, IsV v]) (fun _ => rfl) rfl ?_
  apply Exists.intro
  refine And.intro ?_ ?_
  ·intro K' a wy ho hd hb hK
   rw [if_pos (wanted_none rfl)]
   have q0 := hd ⟨0, .data⟩ (by simp) rfl
   simp [rAt, IsV, slot] at q0
   obtain ⟨xa, xb, xc, xd, e2, l2⟩ : IsBb v11.drew.heap.size y1 (slot a 62) wy := hd ⟨2, .data⟩ (by simp) rfl
   simp [slot] at e2
   clear hd ho
   go_simp
   refine (HE.out wy xa xb xc xd (T1_11.out.kept (HCP.out wy hb).2.2.2).is l2.is).mono ?_
   rintro e wz ⟨rfl, hz⟩
   exact hK _ _ rfl hz
  refine GCh.val (n := 4) (fun v => [_, _, _, _, IsV v]) (fun _ => rfl) rfl ?_
  apply Exists.intro
  refine And.intro ?_ ?_
  ·intro K' a wy ho hd hb hK
   rw [if_pos (wanted_none rfl)]
   have q3 := hd ⟨3, .data⟩ (by simp) rfl
   simp [rAt, IsV, slot] at q3
   clear hd ho
   go_simp
   try go_bits
   exact hK _ _ rfl (Below.refl _ _)
  intro X wz hR hz
  obtain ⟨x0, x1, x2, x3, x4, -⟩ := hR
  obtain ⟨xa, xb, xc, xd, e2, -⟩ := x2
  simp only [IsV] at x0 x1 x3 x4
  simp only [putsFrom, x0, x1, e2, x3, x4]
  clear x0 x1 x3 x4
  go_simp
  refine hK2 _ _ (hJ _ _ ?_)
  (repeat apply Exists.intro)
  refine ⟨⟨rfl, (Below.refl _ _).drew.trans hz⟩, rfl⟩
 case rest =>
 obtain ⟨rfl, q⟩ := hcut
 generalize wc = v12 at *
 have A_12 : Hid (Below w.heap.size w v12) := A_11.out.trans (q.mono A_11.out.size)
 have P0_12 : Hid _ := P0_11.out.kept (by simp) q
 have P1_12 : Hid _ := P1_11.out.kept (by simp) q
 have P2_12 : Hid _ := P2_11.out.kept (by simp) q
 have S_12 : Hid _ := S_11.out.kept (by simp) q
 have So_12 : Hid (BbIn v3.heap.size v4.heap.size v12 oa4 ob4 o.bib) := So_11.out.kept q
 have T0_12 : Hid (SlIn strL1 1 v4.heap.size v5.heap.size v12 (some ⟨g5, 0, none⟩) p0.addrs) := T0_11.out.kept q
 have X_12 : Hid _ := X_11.out.kept (by simp) q
 have T1_12 : Hid (BbIn v6.heap.size v7.heap.size v12 ta7 tb7 y1) := T1_11.out.kept q
 have Y_12 : Hid _ := Y_11.out.kept (by simp) q
 have Z_12 : Hid _ := Z_11.out.kept (by simp) q
 have Zo_12 : Hid (BbIn v8.heap.size v9.heap.size v12 oa9 ob9 o.bib) := Zo_11.out.kept q
 clear A_11 P0_11 P1_11 P2_11 S_11 So_11 T0_11 X_11 T1_11 Y_11 Z_11 Zo_11
 have hz112 : v11.heap.size ≤ v12.heap.size := q.size
 clear q
 have cX0 := X_12.out.cell (j := 0) rfl
 have cX1 := X_12.out.cell (j := 1) rfl
 have cX2 := X_12.out.cell (j := 2) rfl
 have cX3 := X_12.out.cell (j := 3) rfl
 have cX4 := X_12.out.cell (j := 4) rfl
 have cX5 := X_12.out.cell (j := 5) rfl
 have cX6 := X_12.out.cell (j := 6) rfl
 have cX7 := X_12.out.cell (j := 7) rfl
 have cX8 := X_12.out.cell (j := 8) rfl
 have cX9 := X_12.out.cell (j := 9) rfl
 obtain ⟨k1, hk1⟩ : ∃ k, k = 1 + 1 * p0.addrs.length := ⟨_, rfl⟩
 have HK1 : Hid (k1 = 1 + 1 * p0.addrs.length) := hk1
 have hk1a : 0 < k1 := by omega
 have hk1b : k1 ≤ 1048577 := by omega
 clear hk1
 obtain ⟨k2, hk2⟩ : ∃ k, k = k1 + 5 * y1.binds.length + 7 * y1.sess.length := ⟨_, rfl⟩
 have HK2 : Hid (k2 = k1 + 5 * y1.binds.length + 7 * y1.sess.length) := hk2
 clear hk2
 obtain ⟨k3, hk3⟩ : ∃ k, k = 1 + 5 * o.bib.binds.length + 7 * o.bib.sess.length := ⟨_, rfl⟩
 have HK3 : Hid (k3 = 1 + 5 * o.bib.binds.length + 7 * o.bib.sess.length) := hk3
 clear hk3
 go_wp2_with fail
 refine (markPool_out _ _ p0 _ _ 1 _ (by omega) (by omega) T0_12.out).mono ?_
 rw [← HK1.out]
 rintro e v13 ⟨rfl, oo⟩
 clear cX0 cX1 cX2 cX3 cX4 cX5 cX6 cX7 cX8 cX9
 have A_13 : Hid (Below w.heap.size w v13) := A_12.out.trans (oo.below (by omega) A_12.out.size)
 have P0_13 : Hid (HoldsL v13 w.heap.size [.slice a0 p0.addrs.length cap0, .int .i64 p0.low, .int .i64 p0.high, .int .i64 p0.most, .int .i64 p0.filter, .int .i64 p0.lv.udp, .int .i64 p0.lv.echo, .int .i64 p0.lv.opening, .int .i64 p0.lv.opn, .int .i64 p0.lv.closing]) := P0_12.out.outOf (by simp) oo (by omega)
 have P1_13 : Hid (HoldsL v13 (w.heap.size + 1) [.slice a1 y1.binds.length ca1, .slice b1 y1.sess.length cb1]) := P1_12.out.outOf (by simp) oo (by omega)
 have P2_13 : Hid (HoldsL v13 (w.heap.size + 1 + 1) [.int .i64 p2.proto, .bool p2.inside, .string p2.addr, .int .i64 p2.port, .string p2.peer, .int .i64 p2.peerPort, .int .i64 p2.flags]) := P2_12.out.outOf (by simp) oo (by omega)
 have S_13 : Hid (HoldsL v13 g4 [.slice oa4 o.bib.binds.length oc4, .slice ob4 o.bib.sess.length od4, .int .i64 o.bind.proto, .string o.bind.inn, .int .i64 o.bind.inPort, .string o.bind.out, .int .i64 o.bind.outPort, .int .i64 o.code]) := S_12.out.outOf (by simp) oo (by omega)
 have So_13 : Hid (BbIn v3.heap.size v4.heap.size v13 oa4 ob4 o.bib) := So_12.out.outOf oo (by omega)
 have X_13 : Hid (HoldsL v13 v5.heap.size [.slice (some ⟨g5, 0, none⟩) p0.addrs.length p0.addrs.length, .int .i64 p0.low, .int .i64 p0.high, .int .i64 p0.most, .int .i64 p0.filter, .int .i64 p0.lv.udp, .int .i64 p0.lv.echo, .int .i64 p0.lv.opening, .int .i64 p0.lv.opn, .int .i64 p0.lv.closing]) := X_12.out.outOf (by simp) oo (by omega)
 have T1_13 : Hid (BbIn v6.heap.size v7.heap.size v13 ta7 tb7 y1) := T1_12.out.outOf oo (by omega)
 have Y_13 : Hid (HoldsL v13 v7.heap.size [.slice ta7 y1.binds.length tc7, .slice tb7 y1.sess.length td7]) := Y_12.out.outOf (by simp) oo (by omega)
 have Z_13 : Hid (HoldsL v13 g9 [.slice oa9 o.bib.binds.length oc9, .slice ob9 o.bib.sess.length od9, .int .i64 o.bind.proto, .string o.bind.inn, .int .i64 o.bind.inPort, .string o.bind.out, .int .i64 o.bind.outPort, .int .i64 o.code]) := Z_12.out.outOf (by simp) oo (by omega)
 have Zo_13 : Hid (BbIn v8.heap.size v9.heap.size v13 oa9 ob9 o.bib) := Zo_12.out.outOf oo (by omega)
 have hz113 : v12.heap.size ≤ v13.heap.size := oo.size
 clear A_12 P0_12 P1_12 P2_12 S_12 So_12 X_12 T1_12 Y_12 Z_12 Zo_12
 clear oo
 clear T0_12
 clear X_13
 have cY0 := Y_13.out.cell (j := 0) rfl
 have cY1 := Y_13.out.cell (j := 1) rfl
 go_wp2_with fail
 refine (markBib_out _ _ y1 _ _ _ _ k1 _ (by omega) (by omega) (by omega) T1_13.out).mono ?_
 rw [← HK2.out]
 rintro e v14 ⟨rfl, -, oo⟩
 clear cY0 cY1
 have A_14 : Hid (Below w.heap.size w v14) := A_13.out.trans (oo.below (by omega) A_13.out.size)
 have P0_14 : Hid (HoldsL v14 w.heap.size [.slice a0 p0.addrs.length cap0, .int .i64 p0.low, .int .i64 p0.high, .int .i64 p0.most, .int .i64 p0.filter, .int .i64 p0.lv.udp, .int .i64 p0.lv.echo, .int .i64 p0.lv.opening, .int .i64 p0.lv.opn, .int .i64 p0.lv.closing]) := P0_13.out.outOf (by simp) oo (by omega)
 have P1_14 : Hid (HoldsL v14 (w.heap.size + 1) [.slice a1 y1.binds.length ca1, .slice b1 y1.sess.length cb1]) := P1_13.out.outOf (by simp) oo (by omega)
 have P2_14 : Hid (HoldsL v14 (w.heap.size + 1 + 1) [.int .i64 p2.proto, .bool p2.inside, .string p2.addr, .int .i64 p2.port, .string p2.peer, .int .i64 p2.peerPort, .int .i64 p2.flags]) := P2_13.out.outOf (by simp) oo (by omega)
 have S_14 : Hid (HoldsL v14 g4 [.slice oa4 o.bib.binds.length oc4, .slice ob4 o.bib.sess.length od4, .int .i64 o.bind.proto, .string o.bind.inn, .int .i64 o.bind.inPort, .string o.bind.out, .int .i64 o.bind.outPort, .int .i64 o.code]) := S_13.out.outOf (by simp) oo (by omega)
 have So_14 : Hid (BbIn v3.heap.size v4.heap.size v14 oa4 ob4 o.bib) := So_13.out.outOf oo (by omega)
 have Y_14 : Hid (HoldsL v14 v7.heap.size [.slice ta7 y1.binds.length tc7, .slice tb7 y1.sess.length td7]) := Y_13.out.outOf (by simp) oo (by omega)
 have Z_14 : Hid (HoldsL v14 g9 [.slice oa9 o.bib.binds.length oc9, .slice ob9 o.bib.sess.length od9, .int .i64 o.bind.proto, .string o.bind.inn, .int .i64 o.bind.inPort, .string o.bind.out, .int .i64 o.bind.outPort, .int .i64 o.code]) := Z_13.out.outOf (by simp) oo (by omega)
 have Zo_14 : Hid (BbIn v8.heap.size v9.heap.size v14 oa9 ob9 o.bib) := Zo_13.out.outOf oo (by omega)
 have hz114 : v13.heap.size ≤ v14.heap.size := oo.size
 clear A_13 P0_13 P1_13 P2_13 S_13 So_13 Y_13 Z_13 Zo_13
 clear oo
 clear T1_13
 clear Y_14
 have cZ0 := Z_14.out.cell (j := 0) rfl
 have cZ1 := Z_14.out.cell (j := 1) rfl
 have cZ2 := Z_14.out.cell (j := 2) rfl
 have cZ3 := Z_14.out.cell (j := 3) rfl
 have cZ4 := Z_14.out.cell (j := 4) rfl
 have cZ5 := Z_14.out.cell (j := 5) rfl
 have cZ6 := Z_14.out.cell (j := 6) rfl
 have cZ7 := Z_14.out.cell (j := 7) rfl
 have cS0 := S_14.out.cell (j := 0) rfl
 have cS1 := S_14.out.cell (j := 1) rfl
 have cS2 := S_14.out.cell (j := 2) rfl
 have cS3 := S_14.out.cell (j := 3) rfl
 have cS4 := S_14.out.cell (j := 4) rfl
 have cS5 := S_14.out.cell (j := 5) rfl
 have cS6 := S_14.out.cell (j := 6) rfl
 have cS7 := S_14.out.cell (j := 7) rfl
 go_wp2_with fail
 refine (eqBibOut_same o _ _ _ _ _ _ _ _ _ hol1 hol2 Zo_14.out.is So_14.out.is).mono ?_
 rintro e v15 ⟨rfl, q⟩
 clear cZ0 cZ1 cZ2 cZ3 cZ4 cZ5 cZ6 cZ7 cS0 cS1 cS2 cS3 cS4 cS5 cS6 cS7
 have A_15 : Hid (Below w.heap.size w v15) := A_14.out.trans (q.mono A_14.out.size)
 have P0_15 : Hid _ := P0_14.out.kept (by simp) q
 have P1_15 : Hid _ := P1_14.out.kept (by simp) q
 have P2_15 : Hid _ := P2_14.out.kept (by simp) q
 have S_15 : Hid _ := S_14.out.kept (by simp) q
 have So_15 : Hid (BbIn v3.heap.size v4.heap.size v15 oa4 ob4 o.bib) := So_14.out.kept q
 have Z_15 : Hid _ := Z_14.out.kept (by simp) q
 have Zo_15 : Hid (BbIn v8.heap.size v9.heap.size v15 oa9 ob9 o.bib) := Zo_14.out.kept q
 clear A_14 P0_14 P1_14 P2_14 S_14 So_14 Z_14 Zo_14
 have hz115 : v14.heap.size ≤ v15.heap.size := q.size
 clear q
 have hzn := Zo_15.out.own.not_box Z_15.out
 have hzl : g9 < v15.heap.size := Z_15.out.lt (by simp)
 have HZN : Hid _ := hzn
 clear hzn
 have cZ0 := Z_15.out.cell (j := 0) rfl
 have cZ1 := Z_15.out.cell (j := 1) rfl
 have cZ2 := Z_15.out.cell (j := 2) rfl
 have cZ3 := Z_15.out.cell (j := 3) rfl
 have cZ4 := Z_15.out.cell (j := 4) rfl
 have cZ5 := Z_15.out.cell (j := 5) rfl
 have cZ6 := Z_15.out.cell (j := 6) rfl
 have cZ7 := Z_15.out.cell (j := 7) rfl
 go_wp2_with fail
 refine (markBibOut_but _ _ o _ _ _ _ 1 _ (by omega) (by omega) (by omega) Zo_15.out _ hzl HZN.out).mono ?_
 rw [← HK3.out]
 rintro e v16 ⟨rfl, hmk, oo, hbx⟩
 clear cZ0 cZ1 cZ2 cZ3 cZ4 cZ5 cZ6 cZ7
 have A_16 : Hid (Below w.heap.size w v16) := A_15.out.trans (oo.below (by omega) A_15.out.size)
 have P0_16 : Hid (HoldsL v16 w.heap.size [.slice a0 p0.addrs.length cap0, .int .i64 p0.low, .int .i64 p0.high, .int .i64 p0.most, .int .i64 p0.filter, .int .i64 p0.lv.udp, .int .i64 p0.lv.echo, .int .i64 p0.lv.opening, .int .i64 p0.lv.opn, .int .i64 p0.lv.closing]) := P0_15.out.outOf (by simp) oo (by omega)
 have P1_16 : Hid (HoldsL v16 (w.heap.size + 1) [.slice a1 y1.binds.length ca1, .slice b1 y1.sess.length cb1]) := P1_15.out.outOf (by simp) oo (by omega)
 have P2_16 : Hid (HoldsL v16 (w.heap.size + 1 + 1) [.int .i64 p2.proto, .bool p2.inside, .string p2.addr, .int .i64 p2.port, .string p2.peer, .int .i64 p2.peerPort, .int .i64 p2.flags]) := P2_15.out.outOf (by simp) oo (by omega)
 have S_16 : Hid (HoldsL v16 g4 [.slice oa4 o.bib.binds.length oc4, .slice ob4 o.bib.sess.length od4, .int .i64 o.bind.proto, .string o.bind.inn, .int .i64 o.bind.inPort, .string o.bind.out, .int .i64 o.bind.outPort, .int .i64 o.code]) := S_15.out.outOf (by simp) oo (by omega)
 have So_16 : Hid (BbIn v3.heap.size v4.heap.size v16 oa4 ob4 o.bib) := So_15.out.outOf oo (by omega)
 have hz116 : v15.heap.size ≤ v16.heap.size := oo.size
 clear A_15 P0_15 P1_15 P2_15 S_15 So_15
 clear oo
 have Z_16 : Hid (HoldsL v16 g9 [.slice oa9 o.bib.binds.length oc9, .slice ob9 o.bib.sess.length od9, .int .i64 o.bind.proto, .string o.bind.inn, .int .i64 o.bind.inPort, .string o.bind.out, .int .i64 o.bind.outPort, .int .i64 o.code]) := HoldsL.of_block hbx Z_15.out
 clear hbx hzl HZN Z_15 Zo_15
 have M_16 : Hid (BbMk v8.heap.size v16 oa9 ob9 1 o.bib.binds.length o.bib.sess.length) := hmk
 clear hmk
 have cZ0 := Z_16.out.cell (j := 0) rfl
 have cZ1 := Z_16.out.cell (j := 1) rfl
 have cZ2 := Z_16.out.cell (j := 2) rfl
 have cZ3 := Z_16.out.cell (j := 3) rfl
 have cZ4 := Z_16.out.cell (j := 4) rfl
 have cZ5 := Z_16.out.cell (j := 5) rfl
 have cZ6 := Z_16.out.cell (j := 6) rfl
 have cZ7 := Z_16.out.cell (j := 7) rfl
 go_wp2_with fail
 refine (heldBibOut_own _ o oa9 ob9 oc9 od9 1 _ (by omega) (by omega) M_16.out).mono ?_
 rw [← HK3.out]
 rintro e v17 ⟨rfl, q⟩
 clear cZ0 cZ1 cZ2 cZ3 cZ4 cZ5 cZ6 cZ7
 have A_17 : Hid (Below w.heap.size w v17) := A_16.out.trans (q.mono A_16.out.size)
 have P0_17 : Hid _ := P0_16.out.kept (by simp) q
 have P1_17 : Hid _ := P1_16.out.kept (by simp) q
 have P2_17 : Hid _ := P2_16.out.kept (by simp) q
 have S_17 : Hid _ := S_16.out.kept (by simp) q
 have So_17 : Hid (BbIn v3.heap.size v4.heap.size v17 oa4 ob4 o.bib) := So_16.out.kept q
 have Z_17 : Hid _ := Z_16.out.kept (by simp) q
 have M_17 : Hid (BbMk v8.heap.size v17 oa9 ob9 1 o.bib.binds.length o.bib.sess.length) := M_16.out.kept q
 clear A_16 P0_16 P1_16 P2_16 S_16 So_16 Z_16 M_16
 have hz117 : v16.heap.size ≤ v17.heap.size := q.size
 clear q
 go_upto_region 34 with fail
 go_cut [17] (fun v wx => ∃ (g6 : Nat) (oa ob : Option Addr) (oc od : Nat), v = .pointer (some ⟨g6, 0, none⟩) ∧ v17.heap.size ≤ g6 ∧ HoldsL wx g6 [.slice oa o.bib.binds.length oc, .slice ob o.bib.sess.length od, .int .i64 o.bind.proto, .string o.bind.inn, .int .i64 o.bind.inPort, .string o.bind.out, .int .i64 o.bind.outPort, .int .i64 o.code] ∧ BbOwn v17.heap.size wx oa ob o.bib ∧ Below v17.heap.size v17 wx)
 case first =>
  rename_i J K2 hJ hK2
  clear hun
  have HCP : Hid (∀ wy, Below v17.drew.heap.size v17.drew wy → HoldsL wy w.heap.size [.slice a0 p0.addrs.length cap0, .int .i64 p0.low, .int .i64 p0.high, .int .i64 p0.most, .int .i64 p0.filter, .int .i64 p0.lv.udp, .int .i64 p0.lv.echo, .int .i64 p0.lv.opening, .int .i64 p0.lv.opn, .int .i64 p0.lv.closing] ∧ HoldsL wy (w.heap.size + 1) [.slice a1 y1.binds.length ca1, .slice b1 y1.sess.length cb1] ∧ HoldsL wy (w.heap.size + 1 + 1) [.int .i64 p2.proto, .bool p2.inside, .string p2.addr, .int .i64 p2.port, .string p2.peer, .int .i64 p2.peerPort, .int .i64 p2.flags] ∧ Below w.heap.size w wy ∧ Below v17.heap.size v17 wy) := fun wy hy => ⟨P0_17.out.drew.kept (by simp) hy, P1_17.out.drew.kept (by simp) hy, P2_17.out.drew.kept (by simp) hy, A_17.out.drew.trans (hy.mono A_17.out.size), (Below.refl _ _).drew.trans hy⟩
  refine wp_region_growV [90, 91, 92, 93, 94, 95, 96, 97, 17] (by kernel_rfl) (by kernel_rfl) ?_
  refine GChV.val (n := 0) (fun v => [IsV v]) (fun _ => rfl) rfl ?_
  apply Exists.intro
  refine And.intro ?_ ?_
  ·intro K' a wy ho hd hb hK
   rw [if_pos (wanted_none rfl)]
   have o4 := ho 4 (by decide)
   simp [slot] at o4
   clear hd ho
   obtain ⟨hq0, hq1, hq2, -, -⟩ := HCP.out wy hb
   have u0_0 := hq0.cell (j := 0) rfl
   have u0_1 := hq0.cell (j := 1) rfl
   have u0_2 := hq0.cell (j := 2) rfl
   have u0_3 := hq0.cell (j := 3) rfl
   have u0_4 := hq0.cell (j := 4) rfl
   have u0_5 := hq0.cell (j := 5) rfl
   have u0_6 := hq0.cell (j := 6) rfl
   have u0_7 := hq0.cell (j := 7) rfl
   have u0_8 := hq0.cell (j := 8) rfl
   have u0_9 := hq0.cell (j := 9) rfl
   have u1_0 := hq1.cell (j := 0) rfl
   have u1_1 := hq1.cell (j := 1) rfl
   have u2_0 := hq2.cell (j := 0) rfl
   have u2_1 := hq2.cell (j := 1) rfl
   have u2_2 := hq2.cell (j := 2) rfl
   have u2_3 := hq2.cell (j := 3) rfl
   have u2_4 := hq2.cell (j := 4) rfl
   have u2_5 := hq2.cell (j := 5) rfl
   have u2_6 := hq2.cell (j := 6) rfl
   go_simp
   try go_bits
   exact hK _ _ rfl (Below.refl _ _)
  refine GChV.rel (n := 1) (IsPl v17.drew.heap.size p0) (stable_isPl _ _) [_, IsPl v17.drew.heap.size p0] rfl rfl ?_ ?_
  ·intro K' a wy ho hd hb hK
   rw [if_pos (wanted_none rfl)]
   have q0 := hd ⟨0, .data⟩ (by simp) rfl
   simp [rAt, IsV, slot] at q0
   clear hd ho
   go_simp
   refine (toPool_any p0 a0 cap0 wy hpl (HX0.out.below (HCP.out wy hb).2.2.2.1)).mono ?_
   rintro e wz ⟨⟨gg, rfl, hg, hl⟩, hz⟩
   exact hK _ _ ⟨gg, rfl, Nat.le_trans hb.size hg, hl⟩ hz
  refine GChV.val (n := 2) (fun v => [_, _, IsV v]) (fun _ => rfl) rfl ?_
  apply Exists.intro
  refine And.intro ?_ ?_
  ·intro K' a wy ho hd hb hK
   rw [if_pos (wanted_none rfl)]
   have o5 := ho 5 (by decide)
   simp [slot] at o5
   clear hd ho
   obtain ⟨hq0, hq1, hq2, -, -⟩ := HCP.out wy hb
   have u0_0 := hq0.cell (j := 0) rfl
   have u0_1 := hq0.cell (j := 1) rfl
   have u0_2 := hq0.cell (j := 2) rfl
   have u0_3 := hq0.cell (j := 3) rfl
   have u0_4 := hq0.cell (j := 4) rfl
   have u0_5 := hq0.cell (j := 5) rfl
   have u0_6 := hq0.cell (j := 6) rfl
   have u0_7 := hq0.cell (j := 7) rfl
   have u0_8 := hq0.cell (j := 8) rfl
   have u0_9 := hq0.cell (j := 9) rfl
   have u1_0 := hq1.cell (j := 0) rfl
   have u1_1 := hq1.cell (j := 1) rfl
   have u2_0 := hq2.cell (j := 0) rfl
   have u2_1 := hq2.cell (j := 1) rfl
   have u2_2 := hq2.cell (j := 2) rfl
   have u2_3 := hq2.cell (j := 3) rfl
   have u2_4 := hq2.cell (j := 4) rfl
   have u2_5 := hq2.cell (j := 5) rfl
   have u2_6 := hq2.cell (j := 6) rfl
   go_simp
   try go_bits
   exact hK _ _ rfl (Below.refl _ _)
  refine GChV.rel (n := 3) (IsBb v17.drew.heap.size y1) (stable_isBb _ _) [_, _, _, IsBb v17.drew.heap.size y1] rfl rfl ?_ ?_
  ·intro K' a wy ho hd hb hK
   rw [if_pos (wanted_none rfl)]
   have q2 := hd ⟨2, .data⟩ (by simp) rfl
   simp [rAt, IsV, slot] at q2
   clear hd ho
   go_simp
   refine (toBib_any y1 a1 b1 ca1 cb1 wy hbl1 hbl2 (HX1.out.below (HCP.out wy hb).2.2.2.1)).mono ?_
   rintro e wz ⟨⟨xa, xb, xc, xd, rfl, hl⟩, hz⟩
   exact hK _ _ ⟨xa, xb, xc, xd, rfl, hl.low hb.size⟩ hz
  refine GChV.val (n := 4) (fun v => [_, _, _, _, IsV v]) (fun _ => rfl) rfl ?_
  apply Exists.intro
  refine And.intro ?_ ?_
  ·intro K' a wy ho hd hb hK
   rw [if_pos (wanted_none rfl)]
   have o6 := ho 6 (by decide)
   simp [slot] at o6
   clear hd ho
   obtain ⟨hq0, hq1, hq2, -, -⟩ := HCP.out wy hb
   have u0_0 := hq0.cell (j := 0) rfl
   have u0_1 := hq0.cell (j := 1) rfl
   have u0_2 := hq0.cell (j := 2) rfl
   have u0_3 := hq0.cell (j := 3) rfl
   have u0_4 := hq0.cell (j := 4) rfl
   have u0_5 := hq0.cell (j := 5) rfl
   have u0_6 := hq0.cell (j := 6) rfl
   have u0_7 := hq0.cell (j := 7) rfl
   have u0_8 := hq0.cell (j := 8) rfl
   have u0_9 := hq0.cell (j := 9) rfl
   have u1_0 := hq1.cell (j := 0) rfl
   have u1_1 := hq1.cell (j := 1) rfl
   have u2_0 := hq2.cell (j := 0) rfl
   have u2_1 := hq2.cell (j := 1) rfl
   have u2_2 := hq2.cell (j := 2) rfl
   have u2_3 := hq2.cell (j := 3) rfl
   have u2_4 := hq2.cell (j := 4) rfl
   have u2_5 := hq2.cell (j := 5) rfl
   have u2_6 := hq2.cell (j := 6) rfl
   go_simp
   try go_bits
   exact hK _ _ rfl (Below.refl _ _)
  refine GChV.val (n := 5) (fun v => [_, _, _, _, _, IsV v]) (fun _ => rfl) rfl ?_
  apply Exists.intro
  refine And.intro ?_ ?_
  ·intro K' a wy ho hd hb hK
   rw [if_pos (wanted_none rfl)]
   have q4 := hd ⟨4, .data⟩ (by simp) rfl
   simp [rAt, IsV, slot] at q4
   clear hd ho
   go_simp
   refine (toTouch_any p2 wy).mono ?_
   rintro e wz ⟨rfl, hz⟩
   exact hK _ _ rfl hz
  refine GChV.val (n := 6) (fun v => [_, _, _, _, _, _, IsV v]) (fun _ => rfl) rfl ?_
  apply Exists.intro
  refine And.intro ?_ ?_
  ·intro K' a wy ho hd hb hK
   rw [if_pos (wanted_none rfl)]
   have o3 := ho 3 (by decide)
   simp [slot] at o3
   clear hd ho
   go_simp
   try go_bits
   exact hK _ _ rfl (Below.refl _ _)
  refine GChV.rel (n := 7) (IsBo v17.drew.heap.size o) (stable_isBo _ _) [_, _, _, _, _, _, _, IsBo v17.drew.heap.size o] rfl rfl ?_ ?_
  ·intro K' a wy ho hd hb hK
   rw [if_pos (wanted_none rfl)]
   obtain ⟨g1, e1, b1, l1⟩ : IsPl v17.drew.heap.size p0 (slot a 91) wy := hd ⟨1, .data⟩ (by simp) rfl
   simp [slot] at e1
   obtain ⟨xa, xb, xc, xd, e3, l3⟩ : IsBb v17.drew.heap.size y1 (slot a 93) wy := hd ⟨3, .data⟩ (by simp) rfl
   simp [slot] at e3
   have q5 := hd ⟨5, .data⟩ (by simp) rfl
   simp [rAt, IsV, slot] at q5
   have q6 := hd ⟨6, .data⟩ (by simp) rfl
   simp [rAt, IsV, slot] at q6
   clear hd ho
   go_simp
   refine (HIP.out wy g1 xa xb xc xd (HCP.out wy hb).2.2.2.1 l1.is l3.is).mono ?_
   rintro e wz ⟨⟨oa, ob, oc, od, rfl, hl⟩, hz⟩
   exact hK _ _ ⟨oa, ob, oc, od, rfl, hl.low hb.size⟩ hz
  refine GChV.rel (n := 8) (IsZx v17.drew.heap.size [.slice none 0 0, .slice none 0 0, .int .i64 0, .string ⟨#[]⟩, .int .i64 0, .string ⟨#[]⟩, .int .i64 0, .int .i64 0]) (stable_isZx _ _ (by simp)) [_, _, _, _, _, _, _, _, IsZx v17.drew.heap.size [.slice none 0 0, .slice none 0 0, .int .i64 0, .string ⟨#[]⟩, .int .i64 0, .string ⟨#[]⟩, .int .i64 0, .int .i64 0]] rfl rfl ?_ ?_
  ·intro K' a wy ho hd hb hK
   rw [if_pos (wanted_none rfl)]
   clear hd ho
   go_simp
   exact hK _ _ ⟨wy.heap.size, rfl, hb.size, HoldsL.new wy [.slice none 0 0, .slice none 0 0, .int .i64 0, .string ⟨#[]⟩, .int .i64 0, .string ⟨#[]⟩, .int .i64 0, .int .i64 0] 43⟩ ((Below.refl _ _).alloc (Nat.le_refl _) _)
  intro X wz hR hz
  obtain ⟨x0, x1, x2, x3, x4, x5, x6, x7, x8, -⟩ := hR
  obtain ⟨oa, ob, oc, od, e7, o5⟩ := x7
  obtain ⟨g6, e6, b6, zz6⟩ := x8
  obtain ⟨g1, e1, -, -⟩ := x1
  obtain ⟨xa, xb, xc, xd, e3, -⟩ := x3
  simp only [IsV] at x0 x2 x4 x5 x6
  simp only [putsFrom, x0, e1, x2, e3, x4, x5, x6, e7, e6]
  clear x0 x2 x4 x5 x6
  have z0 := zz6.cell (j := 0) rfl
  have zf0 := zz6.free (j := 0) (by simp)
  have z1 := zz6.cell (j := 1) rfl
  have zf1 := zz6.free (j := 1) (by simp)
  have z2 := zz6.cell (j := 2) rfl
  have zf2 := zz6.free (j := 2) (by simp)
  have z3 := zz6.cell (j := 3) rfl
  have zf3 := zz6.free (j := 3) (by simp)
  have z4 := zz6.cell (j := 4) rfl
  have zf4 := zz6.free (j := 4) (by simp)
  have z5 := zz6.cell (j := 5) rfl
  have zf5 := zz6.free (j := 5) (by simp)
  have z6 := zz6.cell (j := 6) rfl
  have zf6 := zz6.free (j := 6) (by simp)
  have z7 := zz6.cell (j := 7) rfl
  have zf7 := zz6.free (j := 7) (by simp)
  have hz0 : Below v17.heap.size v17 wz := (Below.refl _ _).drew.trans hz
  have b6' : v17.heap.size ≤ g6 := b6
  have HH6 : Hid (HoldsL ((((((((wz.setCell ⟨g6, 0, none⟩ (.slice oa o.bib.binds.length oc)).setCell ⟨g6, 1, none⟩ (.slice ob o.bib.sess.length od)).setCell ⟨g6, 2, none⟩ (.int .i64 o.bind.proto)).setCell ⟨g6, 3, none⟩ (.string o.bind.inn)).setCell ⟨g6, 4, none⟩ (.int .i64 o.bind.inPort)).setCell ⟨g6, 5, none⟩ (.string o.bind.out)).setCell ⟨g6, 6, none⟩ (.int .i64 o.bind.outPort)).setCell ⟨g6, 7, none⟩ (.int .i64 o.code)) g6 [.slice oa o.bib.binds.length oc, .slice ob o.bib.sess.length od, .int .i64 o.bind.proto, .string o.bind.inn, .int .i64 o.bind.inPort, .string o.bind.out, .int .i64 o.bind.outPort, .int .i64 o.code]) := ((((((((zz6.set 0 _).set 1 _).set 2 _).set 3 _).set 4 _).set 5 _).set 6 _).set 7 _)
  have HO6 : Hid (BbOwn v17.heap.size ((((((((wz.setCell ⟨g6, 0, none⟩ (.slice oa o.bib.binds.length oc)).setCell ⟨g6, 1, none⟩ (.slice ob o.bib.sess.length od)).setCell ⟨g6, 2, none⟩ (.int .i64 o.bind.proto)).setCell ⟨g6, 3, none⟩ (.string o.bind.inn)).setCell ⟨g6, 4, none⟩ (.int .i64 o.bind.inPort)).setCell ⟨g6, 5, none⟩ (.string o.bind.out)).setCell ⟨g6, 6, none⟩ (.int .i64 o.bind.outPort)).setCell ⟨g6, 7, none⟩ (.int .i64 o.code)) oa ob o.bib) := BbOwn.grownNe o5 (grown_set (grown_set (grown_set (grown_set (grown_set (grown_set (grown_set (grown_set (World.grownBy.refl _ _) _) _) _) _) _) _) _) _) (o5.not_box zz6)
  have HB6 : Hid (Below v17.heap.size v17 ((((((((wz.setCell ⟨g6, 0, none⟩ (.slice oa o.bib.binds.length oc)).setCell ⟨g6, 1, none⟩ (.slice ob o.bib.sess.length od)).setCell ⟨g6, 2, none⟩ (.int .i64 o.bind.proto)).setCell ⟨g6, 3, none⟩ (.string o.bind.inn)).setCell ⟨g6, 4, none⟩ (.int .i64 o.bind.inPort)).setCell ⟨g6, 5, none⟩ (.string o.bind.out)).setCell ⟨g6, 6, none⟩ (.int .i64 o.bind.outPort)).setCell ⟨g6, 7, none⟩ (.int .i64 o.code))) := ((((((((hz0.setCell (p := ⟨g6, 0, none⟩) b6' _).setCell (p := ⟨g6, 1, none⟩) b6' _).setCell (p := ⟨g6, 2, none⟩) b6' _).setCell (p := ⟨g6, 3, none⟩) b6' _).setCell (p := ⟨g6, 4, none⟩) b6' _).setCell (p := ⟨g6, 5, none⟩) b6' _).setCell (p := ⟨g6, 6, none⟩) b6' _).setCell (p := ⟨g6, 7, none⟩) b6' _)
  clear o5 zz6 b6 hz hz0
  unfold boC
  intro K5 hK5
  go_simp
  refine hK5 _ _ ?_
  show Exit.then _ _ _ _ _
  refine hK2 _ _ (hJ _ _ ?_)
  (repeat apply Exists.intro)
  exact ⟨⟨g6, oa, ob, oc, od, rfl, b6', HH6.out, HO6.out, HB6.out⟩, rfl⟩
 case rest =>
 obtain ⟨g18, oa18, ob18, oc18, od18, rfl, hgl, hgh, hgo, q⟩ := hcut
 generalize wc = v18 at *
 have A_18 : Hid (Below w.heap.size w v18) := A_17.out.trans (q.mono A_17.out.size)
 have P0_18 : Hid _ := P0_17.out.kept (by simp) q
 have P1_18 : Hid _ := P1_17.out.kept (by simp) q
 have P2_18 : Hid _ := P2_17.out.kept (by simp) q
 have S_18 : Hid _ := S_17.out.kept (by simp) q
 have So_18 : Hid (BbIn v3.heap.size v4.heap.size v18 oa4 ob4 o.bib) := So_17.out.kept q
 have Z_18 : Hid _ := Z_17.out.kept (by simp) q
 have M_18 : Hid (BbMk v8.heap.size v18 oa9 ob9 1 o.bib.binds.length o.bib.sess.length) := M_17.out.kept q
 clear A_17 P0_17 P1_17 P2_17 S_17 So_17 Z_17 M_17
 have hz118 : v17.heap.size ≤ v18.heap.size := q.size
 clear q
 have H_18 : Hid (HoldsL v18 g18 [.slice oa18 o.bib.binds.length oc18, .slice ob18 o.bib.sess.length od18, .int .i64 o.bind.proto, .string o.bind.inn, .int .i64 o.bind.inPort, .string o.bind.out, .int .i64 o.bind.outPort, .int .i64 o.code]) := hgh
 have Ho_18 : Hid (BbIn v17.heap.size v18.heap.size v18 oa18 ob18 o.bib) := BbIn.of_own hgo (Nat.le_refl _)
 have hHl : g18 < v18.heap.size := hgh.lt (by simp)
 have hHg : v17.heap.size ≤ g18 := hgl
 clear hgh hgo hgl
 have cH0 := H_18.out.cell (j := 0) rfl
 have cH1 := H_18.out.cell (j := 1) rfl
 have cH2 := H_18.out.cell (j := 2) rfl
 have cH3 := H_18.out.cell (j := 3) rfl
 have cH4 := H_18.out.cell (j := 4) rfl
 have cH5 := H_18.out.cell (j := 5) rfl
 have cH6 := H_18.out.cell (j := 6) rfl
 have cH7 := H_18.out.cell (j := 7) rfl
 have cS0 := S_18.out.cell (j := 0) rfl
 have cS1 := S_18.out.cell (j := 1) rfl
 have cS2 := S_18.out.cell (j := 2) rfl
 have cS3 := S_18.out.cell (j := 3) rfl
 have cS4 := S_18.out.cell (j := 4) rfl
 have cS5 := S_18.out.cell (j := 5) rfl
 have cS6 := S_18.out.cell (j := 6) rfl
 have cS7 := S_18.out.cell (j := 7) rfl
 go_wp2_with fail
 refine (eqBibOut_same o _ _ _ _ _ _ _ _ _ hol1 hol2 Ho_18.out.is So_18.out.is).mono ?_
 rintro e v19 ⟨rfl, q⟩
 clear cH0 cH1 cH2 cH3 cH4 cH5 cH6 cH7 cS0 cS1 cS2 cS3 cS4 cS5 cS6 cS7
 have A_19 : Hid (Below w.heap.size w v19) := A_18.out.trans (q.mono A_18.out.size)
 have P0_19 : Hid _ := P0_18.out.kept (by simp) q
 have P1_19 : Hid _ := P1_18.out.kept (by simp) q
 have P2_19 : Hid _ := P2_18.out.kept (by simp) q
 have S_19 : Hid _ := S_18.out.kept (by simp) q
 have So_19 : Hid (BbIn v3.heap.size v4.heap.size v19 oa4 ob4 o.bib) := So_18.out.kept q
 have Z_19 : Hid _ := Z_18.out.kept (by simp) q
 have M_19 : Hid (BbMk v8.heap.size v19 oa9 ob9 1 o.bib.binds.length o.bib.sess.length) := M_18.out.kept q
 have H_19 : Hid _ := H_18.out.kept (by simp) q
 have Ho_19 : Hid (BbIn v17.heap.size v18.heap.size v19 oa18 ob18 o.bib) := Ho_18.out.kept q
 clear A_18 P0_18 P1_18 P2_18 S_18 So_18 Z_18 M_18 H_18 Ho_18
 have hz119 : v18.heap.size ≤ v19.heap.size := q.size
 clear q
 have cZ0 := Z_19.out.cell (j := 0) rfl
 have cZ1 := Z_19.out.cell (j := 1) rfl
 have cZ2 := Z_19.out.cell (j := 2) rfl
 have cZ3 := Z_19.out.cell (j := 3) rfl
 have cZ4 := Z_19.out.cell (j := 4) rfl
 have cZ5 := Z_19.out.cell (j := 5) rfl
 have cZ6 := Z_19.out.cell (j := 6) rfl
 have cZ7 := Z_19.out.cell (j := 7) rfl
 go_wp2_with fail
 refine (heldBibOut_own _ o oa9 ob9 oc9 od9 1 _ (by omega) (by omega) M_19.out).mono ?_
 rw [← HK3.out]
 rintro e v20 ⟨rfl, q⟩
 clear cZ0 cZ1 cZ2 cZ3 cZ4 cZ5 cZ6 cZ7
 have A_20 : Hid (Below w.heap.size w v20) := A_19.out.trans (q.mono A_19.out.size)
 have P0_20 : Hid _ := P0_19.out.kept (by simp) q
 have P1_20 : Hid _ := P1_19.out.kept (by simp) q
 have P2_20 : Hid _ := P2_19.out.kept (by simp) q
 have S_20 : Hid _ := S_19.out.kept (by simp) q
 have So_20 : Hid (BbIn v3.heap.size v4.heap.size v20 oa4 ob4 o.bib) := So_19.out.kept q
 have Z_20 : Hid _ := Z_19.out.kept (by simp) q
 have M_20 : Hid (BbMk v8.heap.size v20 oa9 ob9 1 o.bib.binds.length o.bib.sess.length) := M_19.out.kept q
 have H_20 : Hid _ := H_19.out.kept (by simp) q
 have Ho_20 : Hid (BbIn v17.heap.size v18.heap.size v20 oa18 ob18 o.bib) := Ho_19.out.kept q
 clear A_19 P0_19 P1_19 P2_19 S_19 So_19 Z_19 M_19 H_19 Ho_19
 have hz120 : v19.heap.size ≤ v20.heap.size := q.size
 clear q
 go_wp2_with fail
 go_ret
 exact ⟨rfl, A_20.out⟩

set_option maxRecDepth 100000 in
theorem lifted (os : Os) (started : os.Started) (H : Type) (enc : TypeId × Value → H) :
  ReturnsInHanded {} Tryz.checked os 3 .any (fun w args => (Rows.fnExactBibTouchSpec.pre enc Tryz.prog Tryz.f3 [] false w args ∧ laidMetH Tryz.prog Rows.fnExactBibTouchRow.laid w) ∧ sizedMet enc Tryz.prog Tryz.f3 (OpenSpec.ofChange Rows.fnExactBibTouchSpec) false w args)
   (Rows.fnExactBibTouchSpec.post enc Tryz.prog Tryz.f3 false true false false) := by
 refine returns_and_shaped (C := Tryz.checked) (X := fun w _ => laidMetH Tryz.prog Rows.fnExactBibTouchRow.laid w) (fun _ _ _ hh h => h.of_heap hh) own started (by kernel_rfl) Tryz.func3
  (ChangeSpec.witness_shaped (enc := enc) (C := Tryz.checked) (os := os) (X := fun w _ => laidMetH Tryz.prog Rows.fnExactBibTouchRow.laid w) false (World.laidAll Tryz.prog os Rows.fnExactBibTouchRow.laid) #[.agg #[.slice none 0 0, .int .i64 0, .int .i64 0, .int .i64 0, .int .i64 0, .int .i64 0, .int .i64 0, .int .i64 0, .int .i64 0, .int .i64 0], .agg #[.slice none 0 0, .slice none 0 0], .agg #[.int .i64 0, .bool false, .string ByteArray.empty, .int .i64 0, .string ByteArray.empty, .int .i64 0, .int .i64 0], .int .i64 0] 8 (World.laidAll_os _ _ _)
   (World.shaped_of_ZipB (by kernel_rfl) (by kernel_rfl)) (by kernel_rfl) (by kernel_rfl) (by kernel_rfl)
   (by rw [MakeChecks.laidMetH_plain _ _ _ (by kernel_rfl)]; exact laidMet_laidAll _ (by kernel_rfl) (by kernel_rfl))) ?_
 intro W base args ds gs before hval0 hW hL0 hsh
 have hval : ∀ (j : Nat) t v, Tryz.f3.params[j]? = some t → args[j]? = some v → Value.okWide Tryz.prog W .any base t v := hval0
 have hW' := hW
 obtain ⟨p, q, hA0, hV, rfl, hfz, hnd⟩ := hW
 have hA : DataW.TrodAll enc Tryz.prog W 0 (fun _ => true) true Tryz.f3.params.toList args.toList ds p := hA0
 rw [Tryz.params3] at hA hval
 obtain ⟨v0, vs0, d0, ds0, p0, q0, hargs, rfl, rfl, h0, r0⟩ := trodAll_cons hA
 obtain ⟨v1, vs1, d1, ds1, p1, q1, rfl, rfl, rfl, h1, r1⟩ := trodAll_cons r0
 obtain ⟨v2, vs2, d2, ds2, p2, q2, rfl, rfl, rfl, h2, r2⟩ := trodAll_cons r1
 obtain ⟨v3, vs3, d3, ds3, p3, q3, rfl, rfl, rfl, h3, r3⟩ := trodAll_cons r2
 obtain ⟨rfl, rfl, rfl⟩ := trodAll_nil r3
 obtain rfl : args = #[v0, v1, v2, v3] := by cases args; simp_all
 obtain ⟨d9, rfl⟩ : ∃ d, gs = [d] := by
  obtain ⟨_, _, _, _, d, _, e, _⟩ := trodVars_one hV
  exact ⟨d, e⟩
 have k0 := h0
 have lt0 : ∀ x ∈ p0, x.block < W.heap.size := by obtain ⟨m, hm⟩ := k0; exact DataW.trod_lt m _ _ _ hm
 obtain ⟨a0, cap0, pl0, rfl, w0, x0⟩ := open_Pool (hval 0 26 v0 rfl rfl) h0
 have k1 := h1
 have lt1 : ∀ x ∈ p1, x.block < W.heap.size := by obtain ⟨m, hm⟩ := k1; exact DataW.trod_lt m _ _ _ hm
 obtain ⟨a1, b1, ca1, cb1, y1, rfl, w1, x1⟩ := open_Bib (hval 1 30 v1 rfl rfl) h1
 have k2 := h2
 have lt2 : ∀ x ∈ p2, x.block < W.heap.size := by obtain ⟨m, hm⟩ := k2; exact DataW.trod_lt m _ _ _ hm
 obtain ⟨a2, rfl, w2⟩ := open_Touch (hval 2 32 v2 rfl rfl) h2
 obtain ⟨a3, rfl, rfl, rfl, w3⟩ := open_int Tryz.underlying2 (hval 3 2 v3 rfl rfl) h3
 clear hA0 hval0
 have hL : laidMet Tryz.prog Rows.fnExactBibTouchRow.laid W := by rw [MakeChecks.laidMetH_plain _ _ _ (by kernel_rfl)] at hL0; exact hL0
 have hE : TabB W := of_laid hL
 refine (walk a0 cap0 pl0 a1 b1 ca1 cb1 y1 a2 a3 W w0 x0 w1 x1 w2 w3 hE).mono fun e W' ⟨he, hg⟩ => ?_
 subst he
 exact ⟨_, rfl, _, _, _, [], _, _, hW', (trodAll_cons_mk (shut_bool Tryz.underlying4 _) trodAll_mk0), (trodAll_cons_mk (Below.trod laidOut (by kernel_rfl) (of_decide_eq_true (by kernel_rfl)) k0 hg lt0) (trodAll_cons_mk (Below.trod laidOut (by kernel_rfl) (of_decide_eq_true (by kernel_rfl)) k1 hg lt1) (trodAll_cons_mk (Below.trod laidOut (by kernel_rfl) (of_decide_eq_true (by kernel_rfl)) k2 hg lt2) (trodAll_cons_mk (shut_int Tryz.underlying2 w3) trodAll_mk0)))), Below.trodVars laidOut hg (by kernel_rfl) hV, hg.frame _, fun h => by cases h⟩

theorem over : Rows.fnExactBibTouchRow.holds Tryz.pinned (OpenSpec.ofChange Rows.fnExactBibTouchSpec) :=
 OpenClaim.holds_of_wide 3 Tryz.f3 rfl rfl rfl rfl rfl rfl rfl ⟨rfl, rfl, rfl, rfl, rfl⟩ rfl rfl rfl rfl rfl (by kernel_rfl) Tryz.func3 (by kernel_rfl)
  (of_decide_eq_true (by kernel_rfl)) (by unfold Func.isWrapper; first | (rw [if_pos (by decide +kernel)]; kernel_rfl) | (rw [if_neg (by decide +kernel)]; exact ⟨rfl, rfl⟩))
  (fun os started H enc _ => lifted os started H enc)

end Go.Proofs.YtilnnihongokealGreatDoor.fnExactBibTouch
namespace Go.Proofs.YtilnnihongokealGreatDoor
open Go
theorem fnExactBibTouch_holds : Rows.FnExactBibTouchCardSaid :=
 Claim7.holds_tied_plain_at .later [] [.wider] true (true, "6203ab79882dabc9c73e520a0b67fec6119c7ddd3d216a6b1afa7de3c0db7581") false
  fnExactBibTouch.over (fun _ h => by cases h) (by kernel_rfl) (fun _ h => by cases h) fnExactBibTouch_row_tie rfl ⟨rfl, rfl⟩ (by kernel_rfl) rfl
  (fun f fn hf hfn => by
   obtain rfl : f = 3 := Option.some.inj ((show Tryz.prog.funcNamed Rows.fnExactBibTouchRow.func = some 3 by kernel_rfl).symm.trans hf) |>.symm
   obtain rfl : fn = Tryz.f3 := (Option.some.inj (Tryz.func3.symm.trans hfn)).symm
   exact ⟨by kernel_rfl, fun j t ht => by
    rw [Tryz.params3] at ht
    have hm : t ∈ [26, 30, 32, 2] := by simpa using Array.mem_of_getElem? ht
    have hall : ([26, 30, 32, 2].all fun u => !Tryz.prog.wantsStandIn u) = true := by kernel_rfl
    exact (show Tryz.prog.wantsStandIn t = false by simpa using List.all_eq_true.1 hall t hm)⟩)
  (by kernel_rfl)
#print axioms fnExactBibTouch_holds
end Go.Proofs.YtilnnihongokealGreatDoor
