/- TurnW: the law FnTurn, walked. Printed by mkturnw.py. -/
import Derived.Test.YtofenlclefkgdaaTurnM
import Derived.Test.YtofenlclefkgdaaDrawX
import Derived.Test.YtofenlclefkgdaaSXlat2
import Derived.Test.YtofenlclefkgdaaIXlatU
import Derived.Test.YtofenlclefkgdaaPktSame
namespace Go.Proofs.Ytofenlclefkgdaa
open Go.RowKit Go.PlainAid
set_option linter.unusedVariables false
set_option linter.unusedSimpArgs false

theorem Bd4.smX {p : P4} (h : Bd4 p) : P4Sm p ∧ P4Wf p := by
 obtain ⟨h1, h2, h3, h4, h5, h6, h7, h8, h9⟩ := h; unfold P4Sm P4Wf maxLen; exact ⟨⟨by omega, by omega, by omega, by omega⟩, h1, h2, h3, h4, h5, by omega, by omega, by omega, by omega⟩
theorem Bd6.smX {p : P6} (h : Bd6 p) : P6Sm p ∧ P6Wf p := by
 obtain ⟨h1, h2, h3, h4, h5, h6, h7, h8, h9⟩ := h; unfold P6Sm P6Wf maxLen; exact ⟨⟨by omega, by omega, by omega⟩, h1, h2, h3, h4, by omega, by omega, h5, h6, by omega⟩
theorem bytes_atX {w W : World} {a : Option Addr} {len : Nat} (h : Bytes w a len w.heap.size) (hb : Below w.heap.size w W) : Bytes W a len W.heap.size := (h.kept (grown_of_below (r := none) hb) (by simp)).mono hb.size

set_option maxRecDepth 100000 in
set_option maxHeartbeats 8000000 in
theorem turnWalk (a0 : Option Addr) (len0 cap0 : Nat) (a1 : Option Addr) (len1 cap1 : Nat) (w : World) (h0 : len0 ≤ 1048576) (h1 : len1 ≤ 1048576) (b0 : Bytes w a0 len0 w.heap.size) (b1 : Bytes w a1 len1 w.heap.size) :
  Calls Try.prog 3 #[.slice a0 len0 cap0, .slice a1 len1 cap1] w fun e w' => e = .returned (.bool true) ∧ Below w.heap.size w w' := by
 have B1 : Hid (Bytes w a1 len1 w.heap.size) := b1
 have HD0 : Hid _ := drawToSix_any a0 len0 cap0 w h0 b0
 have HD1 : Hid (∀ W, Below w.heap.size w W → _) := fun W hW => drawToFour_any a1 len1 cap1 W h1 (bytes_atX B1.out hW)
 have l0 : ¬ (1048576 : Int) < len0 := by omega
 have l1 : ¬ (1048576 : Int) < len1 := by omega
 clear b0 b1 B1
 go_enter Try.func3, Try.ntmps3
 go_wp2_with fail
 refine Calls.mono (HD0.out) ?_
 rintro e w1 ⟨p, a, b, rfl, hp, ha, hb, qq⟩
 have S1 : Hid (Bxs w [] w1) := ⟨fun e he => (by cases he), qq, fun e he => (by cases he)⟩
 clear qq
 have HM : Hid (six4C p a b = 0 → p.proto ≠ 58 → four6C (six4V p a b) p.src p.dst = 0 ∧ four6V (six4V p a b) p.src p.dst = kept4 p) := turn46
 have HI : Hid (∀ W, Calls Try.prog 5 #[p4C p, .string a, .string b] W fun e w' => e = .returned (p6CO (six4V p a b) (six4C p a b)) ∧ Below W.heap.size W w') := fun W => implToSix_any p a b W hp.smX.1 hp.smX.2 (by omega) (by omega)
 have HSp : Hid (∀ W, Calls Try.prog 6 #[p4C p, .string a, .string b] W fun e w' => e = .returned (p6CO (six4V p a b) (six4C p a b)) ∧ Below W.heap.size W w') := fun W => specToSix_any p a b W hp.smX.1 hp.smX.2 (by omega) (by omega) hp.smX.1.2.2.2
 have HB4 : Hid (six4C p a b = 0 → p.proto ≠ 58 → ∀ W, Calls Try.prog 7 #[p6C (six4V p a b), .string p.src, .string p.dst] W fun e w' => e = .returned (p4CO (kept4 p) 0) ∧ Below W.heap.size W w') := fun hc hp2 W => by
  have hm := turn46 hc hp2
  have := implToFour_any (six4V p a b) p.src p.dst W (Bd_six hc).1 (Bd_six hc).2 hp.smX.1.1 hp.smX.1.2.1
  rw [hm.1, hm.2] at this
  exact this
 have HK : Hid (kept4 p = ⟨p.tos, if pcd p then p.id else 0, if pcd p then p.whole else true, p.more, p.off, p.ttl, p.proto, p.src, p.dst, ⟨#[]⟩, p.data⟩) := rfl
 have HPC : Hid (pcd p = (p.more || !decide (p.off = 0))) := rfl
 clear HM hp ha hb HD0
 generalize six4V p a b = x at *
 generalize six4C p a b = cdx at *
 generalize kept4 p = kp at *
 generalize pcd p = pc at *
 obtain ⟨tos, id, whole, more, off, ttl, proto, src, dst, opts, data⟩ := p
 obtain ⟨xcls, xflow, xnext, xhops, xsrc, xdst, xpiece, xmore, xoff, xid, xdata⟩ := x
 unfold p4C p6C p6CO p4CO at *
 dsimp only at *
 have S2 : Hid (Bxs w ((w1.heap.size, [.int .i64 tos, .int .i64 id, .bool whole, .bool more, .int .i64 off, .int .i64 ttl, .int .i64 proto, .string src, .string dst, .string opts, .string data]) :: []) (w1.alloc (.cells #[.int .i64 tos, .int .i64 id, .bool whole, .bool more, .int .i64 off, .int .i64 ttl, .int .i64 proto, .string src, .string dst, .string opts, .string data] 24))) := S1.out.push [.int .i64 tos, .int .i64 id, .bool whole, .bool more, .int .i64 off, .int .i64 ttl, .int .i64 proto, .string src, .string dst, .string opts, .string data] (by simp) 24
 have lop : w.heap.size ≤ w1.heap.size := S1.out.b.size
 clear S1
 go_upto_region 4 with fail
 generalize w1.alloc (.cells #[.int .i64 tos, .int .i64 id, .bool whole, .bool more, .int .i64 off, .int .i64 ttl, .int .i64 proto, .string src, .string dst, .string opts, .string data] 24) = W1 at *
 generalize w1.heap.size = Pb at *
 have HHk := S2.out.at (.head _)
 have k0 := HHk.cell (j := 0) rfl
 have k1 := HHk.cell (j := 1) rfl
 have k2 := HHk.cell (j := 2) rfl
 have k3 := HHk.cell (j := 3) rfl
 have k4 := HHk.cell (j := 4) rfl
 have k5 := HHk.cell (j := 5) rfl
 have k6 := HHk.cell (j := 6) rfl
 have k7 := HHk.cell (j := 7) rfl
 have k8 := HHk.cell (j := 8) rfl
 have k9 := HHk.cell (j := 9) rfl
 have k10 := HHk.cell (j := 10) rfl
 clear HHk
 go_wp2_with fail
 refine Calls.mono (HI.out _) ?_
 rintro e w2 ⟨rfl, qq⟩
 have S3 : Hid _ := S2.out.kept qq
 clear S2
 clear qq
 clear HI k0 k1 k2 k3 k4 k5 k6 k7 k8 k9 k10
 have S4 : Hid (Bxs w ((w2.heap.size, [.int .i64 xcls, .int .i64 xflow, .int .i64 xnext, .int .i64 xhops, .string xsrc, .string xdst, .bool xpiece, .bool xmore, .int .i64 xoff, .int .i64 xid, .string xdata, .int .i64 cdx]) :: [(Pb, [.int .i64 tos, .int .i64 id, .bool whole, .bool more, .int .i64 off, .int .i64 ttl, .int .i64 proto, .string src, .string dst, .string opts, .string data])]) (w2.alloc (.cells #[.int .i64 xcls, .int .i64 xflow, .int .i64 xnext, .int .i64 xhops, .string xsrc, .string xdst, .bool xpiece, .bool xmore, .int .i64 xoff, .int .i64 xid, .string xdata, .int .i64 cdx] 30))) := S3.out.push [.int .i64 xcls, .int .i64 xflow, .int .i64 xnext, .int .i64 xhops, .string xsrc, .string xdst, .bool xpiece, .bool xmore, .int .i64 xoff, .int .i64 xid, .string xdata, .int .i64 cdx] (by simp) 30
 have nexp : Pb < w2.heap.size := (S3.out.k _ (.head _)).lt (by simp)
 have lox : w.heap.size ≤ w2.heap.size := S3.out.b.size
 clear S3
 go_upto_region 5 with fail
 generalize w2.alloc (.cells #[.int .i64 xcls, .int .i64 xflow, .int .i64 xnext, .int .i64 xhops, .string xsrc, .string xdst, .bool xpiece, .bool xmore, .int .i64 xoff, .int .i64 xid, .string xdata, .int .i64 cdx] 30) = W2 at *
 generalize w2.heap.size = Xb at *
 go_cut [40] (fun v wx => v = .bool false ∧ Bxs w [(Xb, [.int .i64 xcls, .int .i64 xflow, .int .i64 xnext, .int .i64 xhops, .string xsrc, .string xdst, .bool xpiece, .bool xmore, .int .i64 xoff, .int .i64 xid, .string xdata, .int .i64 cdx]), (Pb, [.int .i64 tos, .int .i64 id, .bool whole, .bool more, .int .i64 off, .int .i64 ttl, .int .i64 proto, .string src, .string dst, .string opts, .string data])] wx)
 case first =>
  rename_i J K2 hJ hK2
  have HCP : Hid (∀ wy, Below W2.drew.heap.size W2.drew wy → _) := fun wy hy => S4.out.kept ((Below.refl _ _).drew.trans hy)
  refine wp_region_growH [35, 36, 37, 38, 39, 40] (by kernel_rfl) (by kernel_rfl) ?_
  refine GCh.val (n := 0) (fun v => [IsV v]) (fun _ => rfl) rfl ?_
  apply Exists.intro
  refine And.intro ?_ ?_
  ·intro K' a wy ho hd hb hK
   rw [if_pos (wanted_none rfl)]
   have o8 := ho 8 (by decide)
   simp [slot] at o8
   clear hd ho
   have hst := HCP.out wy hb
   have HHk := hst.at (.head _)
   have k0 := HHk.cell (j := 0) rfl
   have k1 := HHk.cell (j := 1) rfl
   have k2 := HHk.cell (j := 2) rfl
   have k3 := HHk.cell (j := 3) rfl
   have k4 := HHk.cell (j := 4) rfl
   have k5 := HHk.cell (j := 5) rfl
   have k6 := HHk.cell (j := 6) rfl
   have k7 := HHk.cell (j := 7) rfl
   have k8 := HHk.cell (j := 8) rfl
   have k9 := HHk.cell (j := 9) rfl
   have k10 := HHk.cell (j := 10) rfl
   have k11 := HHk.cell (j := 11) rfl
   clear HHk
   have HHl := hst.at (.tail _ (.head _))
   have l0 := HHl.cell (j := 0) rfl
   have l1 := HHl.cell (j := 1) rfl
   have l2 := HHl.cell (j := 2) rfl
   have l3 := HHl.cell (j := 3) rfl
   have l4 := HHl.cell (j := 4) rfl
   have l5 := HHl.cell (j := 5) rfl
   have l6 := HHl.cell (j := 6) rfl
   have l7 := HHl.cell (j := 7) rfl
   have l8 := HHl.cell (j := 8) rfl
   have l9 := HHl.cell (j := 9) rfl
   have l10 := HHl.cell (j := 10) rfl
   clear HHl
   clear hst
   go_simp
   try go_bits
   exact hK _ _ rfl (Below.refl _ _)
  refine GCh.val (n := 1) (fun v => [_, IsV v]) (fun _ => rfl) rfl ?_
  apply Exists.intro
  refine And.intro ?_ ?_
  ·intro K' a wy ho hd hb hK
   rw [if_pos (wanted_none rfl)]
   have o5 := ho 5 (by decide)
   simp [slot] at o5
   clear hd ho
   have hst := HCP.out wy hb
   have HHk := hst.at (.head _)
   have k0 := HHk.cell (j := 0) rfl
   have k1 := HHk.cell (j := 1) rfl
   have k2 := HHk.cell (j := 2) rfl
   have k3 := HHk.cell (j := 3) rfl
   have k4 := HHk.cell (j := 4) rfl
   have k5 := HHk.cell (j := 5) rfl
   have k6 := HHk.cell (j := 6) rfl
   have k7 := HHk.cell (j := 7) rfl
   have k8 := HHk.cell (j := 8) rfl
   have k9 := HHk.cell (j := 9) rfl
   have k10 := HHk.cell (j := 10) rfl
   have k11 := HHk.cell (j := 11) rfl
   clear HHk
   have HHl := hst.at (.tail _ (.head _))
   have l0 := HHl.cell (j := 0) rfl
   have l1 := HHl.cell (j := 1) rfl
   have l2 := HHl.cell (j := 2) rfl
   have l3 := HHl.cell (j := 3) rfl
   have l4 := HHl.cell (j := 4) rfl
   have l5 := HHl.cell (j := 5) rfl
   have l6 := HHl.cell (j := 6) rfl
   have l7 := HHl.cell (j := 7) rfl
   have l8 := HHl.cell (j := 8) rfl
   have l9 := HHl.cell (j := 9) rfl
   have l10 := HHl.cell (j := 10) rfl
   clear HHl
   clear hst
   go_simp
   try go_bits
   exact hK _ _ rfl (Below.refl _ _)
  refine GCh.val (n := 2) (fun v => [_, _, IsV v]) (fun _ => rfl) rfl ?_
  apply Exists.intro
  refine And.intro ?_ ?_
  ·intro K' a wy ho hd hb hK
   rw [if_pos (wanted_none rfl)]
   have o6 := ho 6 (by decide)
   simp [slot] at o6
   clear hd ho
   go_simp
   try go_bits
   exact hK _ _ rfl (Below.refl _ _)
  refine GCh.val (n := 3) (fun v => [_, _, _, IsV v]) (fun _ => rfl) rfl ?_
  apply Exists.intro
  refine And.intro ?_ ?_
  ·intro K' a wy ho hd hb hK
   rw [if_pos (wanted_none rfl)]
   have o7 := ho 7 (by decide)
   simp [slot] at o7
   clear hd ho
   go_simp
   try go_bits
   exact hK _ _ rfl (Below.refl _ _)
  refine GCh.val (n := 4) (fun v => [_, _, _, _, IsV v]) (fun _ => rfl) rfl ?_
  apply Exists.intro
  refine And.intro ?_ ?_
  ·intro K' a wy ho hd hb hK
   rw [if_pos (wanted_none rfl)]
   have q1 := hd ⟨1, .data⟩ (by simp) rfl
   simp [rAt, IsV, slot] at q1
   have q2 := hd ⟨2, .data⟩ (by simp) rfl
   simp [rAt, IsV, slot] at q2
   have q3 := hd ⟨3, .data⟩ (by simp) rfl
   simp [rAt, IsV, slot] at q3
   clear hd ho
   go_simp
   refine (HSp.out wy).mono ?_
   rintro e wz ⟨rfl, hz⟩
   exact hK _ _ rfl hz
  refine GCh.val (n := 5) (fun v => [_, _, _, _, _, IsV v]) (fun _ => rfl) rfl ?_
  apply Exists.intro
  refine And.intro ?_ ?_
  ·intro K' a wy ho hd hb hK
   rw [if_pos (wanted_none rfl)]
   have q0 := hd ⟨0, .data⟩ (by simp) rfl
   simp [rAt, IsV, slot] at q0
   have q4 := hd ⟨4, .data⟩ (by simp) rfl
   simp [rAt, IsV, slot] at q4
   clear hd ho
   have hne := neV6O_bin ⟨xcls, xflow, xnext, xhops, xsrc, xdst, xpiece, xmore, xoff, xid, xdata⟩ cdx wy
   go_simp
   try go_bits
   exact hK _ _ rfl (Below.refl _ _)
  intro X wz hR hz
  obtain ⟨x0, x1, x2, x3, x4, x5, -⟩ := hR
  simp only [IsV] at x0 x1 x2 x3 x4 x5
  simp only [putsFrom, x0, x1, x2, x3, x4, x5]
  clear x0 x1 x2 x3 x4 x5
  have HF : Hid (Bxs w [(Xb, [.int .i64 xcls, .int .i64 xflow, .int .i64 xnext, .int .i64 xhops, .string xsrc, .string xdst, .bool xpiece, .bool xmore, .int .i64 xoff, .int .i64 xid, .string xdata, .int .i64 cdx]), (Pb, [.int .i64 tos, .int .i64 id, .bool whole, .bool more, .int .i64 off, .int .i64 ttl, .int .i64 proto, .string src, .string dst, .string opts, .string data])] wz) := HCP.out wz hz
  clear HCP
  go_simp
  refine hK2 _ _ (hJ _ _ ?_)
  (repeat apply Exists.intro)
  exact ⟨⟨rfl, HF.out⟩, rfl⟩
 case rest =>
 obtain ⟨rfl, hS⟩ := hcut
 have S5 : Hid _ := hS
 clear hS S4
 generalize wc = W3 at *
 clear HSp
 go_upto_region 7 with fail
 obtain ⟨tst, htst⟩ : ∃ t, t = (decide (cdx = 0) && !decide (proto = 58)) := ⟨_, rfl⟩
 have HTS : Hid (tst = (decide (cdx = 0) && !decide (proto = 58))) := htst
 clear htst
 go_cut [48] (fun v wx => v = .bool tst ∧ Bxs w [(Xb, [.int .i64 xcls, .int .i64 xflow, .int .i64 xnext, .int .i64 xhops, .string xsrc, .string xdst, .bool xpiece, .bool xmore, .int .i64 xoff, .int .i64 xid, .string xdata, .int .i64 cdx]), (Pb, [.int .i64 tos, .int .i64 id, .bool whole, .bool more, .int .i64 off, .int .i64 ttl, .int .i64 proto, .string src, .string dst, .string opts, .string data])] wx)
 case first =>
  have HHk := S5.out.at (.tail _ (.head _))
  have k0 := HHk.cell (j := 0) rfl
  have k1 := HHk.cell (j := 1) rfl
  have k2 := HHk.cell (j := 2) rfl
  have k3 := HHk.cell (j := 3) rfl
  have k4 := HHk.cell (j := 4) rfl
  have k5 := HHk.cell (j := 5) rfl
  have k6 := HHk.cell (j := 6) rfl
  have k7 := HHk.cell (j := 7) rfl
  have k8 := HHk.cell (j := 8) rfl
  have k9 := HHk.cell (j := 9) rfl
  have k10 := HHk.cell (j := 10) rfl
  clear HHk
  have HHl := S5.out.at (.head _)
  have l0 := HHl.cell (j := 0) rfl
  have l1 := HHl.cell (j := 1) rfl
  have l2 := HHl.cell (j := 2) rfl
  have l3 := HHl.cell (j := 3) rfl
  have l4 := HHl.cell (j := 4) rfl
  have l5 := HHl.cell (j := 5) rfl
  have l6 := HHl.cell (j := 6) rfl
  have l7 := HHl.cell (j := 7) rfl
  have l8 := HHl.cell (j := 8) rfl
  have l9 := HHl.cell (j := 9) rfl
  have l10 := HHl.cell (j := 10) rfl
  have l11 := HHl.cell (j := 11) rfl
  clear HHl
  by_cases c1 : cdx = 0
  ·subst c1
   by_cases c2 : proto = 58
   ·subst c2
    have ht : tst = false := by rw [HTS.out]; rfl
    subst ht
    go_wp2_with fail
    go_meet
    exact ⟨rfl, S5.out⟩
   ·have d2 : (proto != 58) = true := by simpa using c2
    have ht : tst = true := by rw [HTS.out]; simp [c2]
    subst ht
    go_wp2_with fail
    go_meet
    exact ⟨rfl, S5.out⟩
  ·have d1 : (cdx == 0) = false := by simpa using c1
   have ht : tst = false := by rw [HTS.out]; simp [c1]
   subst ht
   go_wp2_with fail
   go_meet
   exact ⟨rfl, S5.out⟩
 case rest =>
 obtain ⟨rfl, hS⟩ := hcut
 have S6 : Hid _ := hS
 clear hS S5
 generalize wc = W4 at *
 go_upto_if 48 with fail
 go_cut [4] (fun v wx => v = .bool false ∧ Below w.heap.size w wx)
 case first =>
  cases tst with
  | false =>
   have HF : Hid (Below w.heap.size w W4) := S6.out.b
   clear S6
   go_wp2_with fail
   go_meet
   exact ⟨rfl, HF.out⟩
  | true =>
  have hcc : cdx = 0 ∧ proto ≠ 58 := by
   have h := HTS.out
   constructor
   ·by_cases c : cdx = 0
    ·exact c
    ·simp [c] at h
   ·intro c; simp [c] at h
  obtain ⟨rfl, hpr⟩ := hcc
  have H4 : Hid _ := HB4.out (by first | rfl | trivial) hpr
  clear HB4 HTS hpr HD1
  have S6' : Hid (Bxs w [(Xb, [.int .i64 xcls, .int .i64 xflow, .int .i64 xnext, .int .i64 xhops, .string xsrc, .string xdst, .bool xpiece, .bool xmore, .int .i64 xoff, .int .i64 xid, .string xdata, .int .i64 0]), (Pb, [.int .i64 tos, .int .i64 id, .bool whole, .bool more, .int .i64 off, .int .i64 ttl, .int .i64 proto, .string src, .string dst, .string opts, .string data])] W4) := S6.out
  clear S6
  go_upto_region 8 with fail
  have HHk := S6'.out.at (.tail _ (.head _))
  have k0 := HHk.cell (j := 0) rfl
  have k1 := HHk.cell (j := 1) rfl
  have k2 := HHk.cell (j := 2) rfl
  have k3 := HHk.cell (j := 3) rfl
  have k4 := HHk.cell (j := 4) rfl
  have k5 := HHk.cell (j := 5) rfl
  have k6 := HHk.cell (j := 6) rfl
  have k7 := HHk.cell (j := 7) rfl
  have k8 := HHk.cell (j := 8) rfl
  have k9 := HHk.cell (j := 9) rfl
  have k10 := HHk.cell (j := 10) rfl
  clear HHk
  have HHl := S6'.out.at (.head _)
  have l0 := HHl.cell (j := 0) rfl
  have l1 := HHl.cell (j := 1) rfl
  have l2 := HHl.cell (j := 2) rfl
  have l3 := HHl.cell (j := 3) rfl
  have l4 := HHl.cell (j := 4) rfl
  have l5 := HHl.cell (j := 5) rfl
  have l6 := HHl.cell (j := 6) rfl
  have l7 := HHl.cell (j := 7) rfl
  have l8 := HHl.cell (j := 8) rfl
  have l9 := HHl.cell (j := 9) rfl
  have l10 := HHl.cell (j := 10) rfl
  have l11 := HHl.cell (j := 11) rfl
  clear HHl
  obtain ⟨ytos, yid, ywhole, ymore, yoff, yttl, yproto, ysrc, ydst, yopts, ydata⟩ := kp
  dsimp only at *
  go_wp2_with fail
  refine Calls.mono (H4.out _) ?_
  rintro e w5 ⟨rfl, qq⟩
  have S7 : Hid (Bxs w [(Xb, [.int .i64 xcls, .int .i64 xflow, .int .i64 xnext, .int .i64 xhops, .string xsrc, .string xdst, .bool xpiece, .bool xmore, .int .i64 xoff, .int .i64 xid, .string xdata, .int .i64 0]), (Pb, [.int .i64 tos, .int .i64 id, .bool whole, .bool more, .int .i64 off, .int .i64 ttl, .int .i64 proto, .string src, .string dst, .string opts, .string data])] w5) := S6'.out.kept qq
  clear S6'
  clear qq
  clear H4 k0 k1 k2 k3 k4 k5 k6 k7 k8 k9 k10 l0 l1 l2 l3 l4 l5 l6 l7 l8 l9 l10 l11
  have S8 : Hid (Bxs w ((w5.heap.size, [.int .i64 ytos, .int .i64 yid, .bool ywhole, .bool ymore, .int .i64 yoff, .int .i64 yttl, .int .i64 yproto, .string ysrc, .string ydst, .string yopts, .string ydata, .int .i64 0]) :: [(Xb, [.int .i64 xcls, .int .i64 xflow, .int .i64 xnext, .int .i64 xhops, .string xsrc, .string xdst, .bool xpiece, .bool xmore, .int .i64 xoff, .int .i64 xid, .string xdata, .int .i64 0]), (Pb, [.int .i64 tos, .int .i64 id, .bool whole, .bool more, .int .i64 off, .int .i64 ttl, .int .i64 proto, .string src, .string dst, .string opts, .string data])]) (w5.alloc (.cells #[.int .i64 ytos, .int .i64 yid, .bool ywhole, .bool ymore, .int .i64 yoff, .int .i64 yttl, .int .i64 yproto, .string ysrc, .string ydst, .string yopts, .string ydata, .int .i64 0] 33))) := S7.out.push [.int .i64 ytos, .int .i64 yid, .bool ywhole, .bool ymore, .int .i64 yoff, .int .i64 yttl, .int .i64 yproto, .string ysrc, .string ydst, .string yopts, .string ydata, .int .i64 0] (by simp) 33
  have neyx : Xb < w5.heap.size := (S7.out.k _ (.head _)).lt (by simp)
  have neyp : Pb < w5.heap.size := (S7.out.k _ (.tail _ (.head _))).lt (by simp)
  have loy : w.heap.size ≤ w5.heap.size := S7.out.b.size
  clear S7
  go_upto_region 9 with fail
  generalize w5.alloc (.cells #[.int .i64 ytos, .int .i64 yid, .bool ywhole, .bool ymore, .int .i64 yoff, .int .i64 yttl, .int .i64 yproto, .string ysrc, .string ydst, .string yopts, .string ydata, .int .i64 0] 33) = W5 at *
  generalize w5.heap.size = Yb at *
  have HHk := S8.out.at (.tail _ (.tail _ (.head _)))
  have k0 := HHk.cell (j := 0) rfl
  have k1 := HHk.cell (j := 1) rfl
  have k2 := HHk.cell (j := 2) rfl
  have k3 := HHk.cell (j := 3) rfl
  have k4 := HHk.cell (j := 4) rfl
  have k5 := HHk.cell (j := 5) rfl
  have k6 := HHk.cell (j := 6) rfl
  have k7 := HHk.cell (j := 7) rfl
  have k8 := HHk.cell (j := 8) rfl
  have k9 := HHk.cell (j := 9) rfl
  have k10 := HHk.cell (j := 10) rfl
  clear HHk
  have S9 : Hid (Bxs w ((W5.heap.size, [.int .i64 tos, .int .i64 id, .bool whole, .bool more, .int .i64 off, .int .i64 ttl, .int .i64 proto, .string src, .string dst, .string opts, .string data]) :: [(Yb, [.int .i64 ytos, .int .i64 yid, .bool ywhole, .bool ymore, .int .i64 yoff, .int .i64 yttl, .int .i64 yproto, .string ysrc, .string ydst, .string yopts, .string ydata, .int .i64 0]), (Xb, [.int .i64 xcls, .int .i64 xflow, .int .i64 xnext, .int .i64 xhops, .string xsrc, .string xdst, .bool xpiece, .bool xmore, .int .i64 xoff, .int .i64 xid, .string xdata, .int .i64 0]), (Pb, [.int .i64 tos, .int .i64 id, .bool whole, .bool more, .int .i64 off, .int .i64 ttl, .int .i64 proto, .string src, .string dst, .string opts, .string data])]) (W5.alloc (.cells #[.int .i64 tos, .int .i64 id, .bool whole, .bool more, .int .i64 off, .int .i64 ttl, .int .i64 proto, .string src, .string dst, .string opts, .string data] 24))) := S8.out.push [.int .i64 tos, .int .i64 id, .bool whole, .bool more, .int .i64 off, .int .i64 ttl, .int .i64 proto, .string src, .string dst, .string opts, .string data] (by simp) 24
  have nevy : Yb < W5.heap.size := (S8.out.k _ (.head _)).lt (by simp)
  have nevx : Xb < W5.heap.size := (S8.out.k _ (.tail _ (.head _))).lt (by simp)
  have nevp : Pb < W5.heap.size := (S8.out.k _ (.tail _ (.tail _ (.head _)))).lt (by simp)
  have lov : w.heap.size ≤ W5.heap.size := S8.out.b.size
  clear S8
  go_upto_region 10 with fail
  clear k0 k1 k2 k3 k4 k5 k6 k7 k8 k9 k10
  generalize W5.alloc (.cells #[.int .i64 tos, .int .i64 id, .bool whole, .bool more, .int .i64 off, .int .i64 ttl, .int .i64 proto, .string src, .string dst, .string opts, .string data] 24) = W6 at *
  generalize W5.heap.size = Vb at *
  have navp : ¬ Pb = Vb := by omega
  have nbvp : ¬ Vb = Pb := by omega
  have navy : ¬ Yb = Vb := by omega
  have nbvy : ¬ Vb = Yb := by omega
  injection HK.out with t0 t1 t2 t3 t4 t5 t6 t7 t8 t9 t10
  have T0 : Hid _ := t0
  have T1 : Hid _ := t1
  have T2 : Hid _ := t2
  have T3 : Hid _ := t3
  have T4 : Hid _ := t4
  have T5 : Hid _ := t5
  have T6 : Hid _ := t6
  have T7 : Hid _ := t7
  have T8 : Hid _ := t8
  have T9 : Hid _ := t9
  have T10 : Hid _ := t10
  clear t0 t1 t2 t3 t4 t5 t6 t7 t8 t9 t10 HK
  have hVb : w.heap.size ≤ Vb := by omega
  cases more with
  | true =>
   have hpc : pc = true := by rw [HPC.out]; rfl
   subst hpc
   have S9' : Hid (Bxs w [(Vb, [.int .i64 tos, .int .i64 id, .bool whole, .bool true, .int .i64 off, .int .i64 ttl, .int .i64 proto, .string src, .string dst, .string opts, .string data]), (Yb, [.int .i64 ytos, .int .i64 yid, .bool ywhole, .bool ymore, .int .i64 yoff, .int .i64 yttl, .int .i64 yproto, .string ysrc, .string ydst, .string yopts, .string ydata, .int .i64 0]), (Xb, [.int .i64 xcls, .int .i64 xflow, .int .i64 xnext, .int .i64 xhops, .string xsrc, .string xdst, .bool xpiece, .bool xmore, .int .i64 xoff, .int .i64 xid, .string xdata, .int .i64 0]), (Pb, [.int .i64 tos, .int .i64 id, .bool whole, .bool true, .int .i64 off, .int .i64 ttl, .int .i64 proto, .string src, .string dst, .string opts, .string data])] W6) := S9.out
   have HHk := S9'.out.at (.tail _ (.tail _ (.tail _ (.head _))))
   have k0 := HHk.cell (j := 0) rfl
   have k1 := HHk.cell (j := 1) rfl
   have k2 := HHk.cell (j := 2) rfl
   have k3 := HHk.cell (j := 3) rfl
   have k4 := HHk.cell (j := 4) rfl
   have k5 := HHk.cell (j := 5) rfl
   have k6 := HHk.cell (j := 6) rfl
   have k7 := HHk.cell (j := 7) rfl
   have k8 := HHk.cell (j := 8) rfl
   have k9 := HHk.cell (j := 9) rfl
   have k10 := HHk.cell (j := 10) rfl
   clear HHk
   have HHm := S9'.out.at (.tail _ (.head _))
   have m0 := HHm.cell (j := 0) rfl
   have m1 := HHm.cell (j := 1) rfl
   have m2 := HHm.cell (j := 2) rfl
   have m3 := HHm.cell (j := 3) rfl
   have m4 := HHm.cell (j := 4) rfl
   have m5 := HHm.cell (j := 5) rfl
   have m6 := HHm.cell (j := 6) rfl
   have m7 := HHm.cell (j := 7) rfl
   have m8 := HHm.cell (j := 8) rfl
   have m9 := HHm.cell (j := 9) rfl
   have m10 := HHm.cell (j := 10) rfl
   have m11 := HHm.cell (j := 11) rfl
   clear HHm
   have HHn := S9'.out.at (.head _)
   have n0 := HHn.cell (j := 0) rfl
   have n1 := HHn.cell (j := 1) rfl
   have n2 := HHn.cell (j := 2) rfl
   have n3 := HHn.cell (j := 3) rfl
   have n4 := HHn.cell (j := 4) rfl
   have n5 := HHn.cell (j := 5) rfl
   have n6 := HHn.cell (j := 6) rfl
   have n7 := HHn.cell (j := 7) rfl
   have n8 := HHn.cell (j := 8) rfl
   have n9 := HHn.cell (j := 9) rfl
   have n10 := HHn.cell (j := 10) rfl
   have nf0 := HHn.free (j := 0) (by simp)
   have nf1 := HHn.free (j := 1) (by simp)
   have nf2 := HHn.free (j := 2) (by simp)
   have nf3 := HHn.free (j := 3) (by simp)
   have nf4 := HHn.free (j := 4) (by simp)
   have nf5 := HHn.free (j := 5) (by simp)
   have nf6 := HHn.free (j := 6) (by simp)
   have nf7 := HHn.free (j := 7) (by simp)
   have nf8 := HHn.free (j := 8) (by simp)
   have nf9 := HHn.free (j := 9) (by simp)
   have nf10 := HHn.free (j := 10) (by simp)
   have r0 : tos = ytos := by
    have := T0.out.symm
    simpa using this
   have r1 : id = yid := by
    have := T1.out.symm
    simpa using this
   have r2 : whole = ywhole := by
    have := T2.out.symm
    simpa using this
   have r3 : true = ymore := by
    have := T3.out.symm
    simpa using this
   have r4 : off = yoff := by
    have := T4.out.symm
    simpa using this
   have r5 : ttl = yttl := by
    have := T5.out.symm
    simpa using this
   have r6 : proto = yproto := by
    have := T6.out.symm
    simpa using this
   have r7 : src = ysrc := by
    have := T7.out.symm
    simpa using this
   have r8 : dst = ydst := by
    have := T8.out.symm
    simpa using this
   have r9 : ⟨#[]⟩ = yopts := by
    have := T9.out.symm
    simpa using this
   have r10 : data = ydata := by
    have := T10.out.symm
    simpa using this
   subst r0 r1 r2 r3 r4 r5 r6 r7 r8 r9 r10
   clear T0 T1 T2 T3 T4 T5 T6 T7 T8 T9 T10 HPC
   have hne := fun W => neV4O_bin (⟨tos, id, whole, true, off, ttl, proto, src, dst, ⟨#[]⟩, data⟩ : P4) 0 W
   dsimp only at hne
   have HFB : Hid (Below w.heap.size w (W6.setCell ⟨Vb, 9, none⟩ (.string ⟨#[]⟩))) := (S9'.out.b.setCell (p := ⟨Vb, 9, none⟩) hVb (.string ⟨#[]⟩))
   clear S9 S9'
   go_wp2_with fail
   go_meet
   exact ⟨rfl, HFB.out⟩
  | false =>
   by_cases c2 : off = 0
   ·subst c2
    have hpc : pc = false := by rw [HPC.out]; rfl
    subst hpc
    have S9' : Hid (Bxs w [(Vb, [.int .i64 tos, .int .i64 id, .bool whole, .bool false, .int .i64 0, .int .i64 ttl, .int .i64 proto, .string src, .string dst, .string opts, .string data]), (Yb, [.int .i64 ytos, .int .i64 yid, .bool ywhole, .bool ymore, .int .i64 yoff, .int .i64 yttl, .int .i64 yproto, .string ysrc, .string ydst, .string yopts, .string ydata, .int .i64 0]), (Xb, [.int .i64 xcls, .int .i64 xflow, .int .i64 xnext, .int .i64 xhops, .string xsrc, .string xdst, .bool xpiece, .bool xmore, .int .i64 xoff, .int .i64 xid, .string xdata, .int .i64 0]), (Pb, [.int .i64 tos, .int .i64 id, .bool whole, .bool false, .int .i64 0, .int .i64 ttl, .int .i64 proto, .string src, .string dst, .string opts, .string data])] W6) := S9.out
    have HHk := S9'.out.at (.tail _ (.tail _ (.tail _ (.head _))))
    have k0 := HHk.cell (j := 0) rfl
    have k1 := HHk.cell (j := 1) rfl
    have k2 := HHk.cell (j := 2) rfl
    have k3 := HHk.cell (j := 3) rfl
    have k4 := HHk.cell (j := 4) rfl
    have k5 := HHk.cell (j := 5) rfl
    have k6 := HHk.cell (j := 6) rfl
    have k7 := HHk.cell (j := 7) rfl
    have k8 := HHk.cell (j := 8) rfl
    have k9 := HHk.cell (j := 9) rfl
    have k10 := HHk.cell (j := 10) rfl
    clear HHk
    have HHm := S9'.out.at (.tail _ (.head _))
    have m0 := HHm.cell (j := 0) rfl
    have m1 := HHm.cell (j := 1) rfl
    have m2 := HHm.cell (j := 2) rfl
    have m3 := HHm.cell (j := 3) rfl
    have m4 := HHm.cell (j := 4) rfl
    have m5 := HHm.cell (j := 5) rfl
    have m6 := HHm.cell (j := 6) rfl
    have m7 := HHm.cell (j := 7) rfl
    have m8 := HHm.cell (j := 8) rfl
    have m9 := HHm.cell (j := 9) rfl
    have m10 := HHm.cell (j := 10) rfl
    have m11 := HHm.cell (j := 11) rfl
    clear HHm
    have HHn := S9'.out.at (.head _)
    have n0 := HHn.cell (j := 0) rfl
    have n1 := HHn.cell (j := 1) rfl
    have n2 := HHn.cell (j := 2) rfl
    have n3 := HHn.cell (j := 3) rfl
    have n4 := HHn.cell (j := 4) rfl
    have n5 := HHn.cell (j := 5) rfl
    have n6 := HHn.cell (j := 6) rfl
    have n7 := HHn.cell (j := 7) rfl
    have n8 := HHn.cell (j := 8) rfl
    have n9 := HHn.cell (j := 9) rfl
    have n10 := HHn.cell (j := 10) rfl
    have nf0 := HHn.free (j := 0) (by simp)
    have nf1 := HHn.free (j := 1) (by simp)
    have nf2 := HHn.free (j := 2) (by simp)
    have nf3 := HHn.free (j := 3) (by simp)
    have nf4 := HHn.free (j := 4) (by simp)
    have nf5 := HHn.free (j := 5) (by simp)
    have nf6 := HHn.free (j := 6) (by simp)
    have nf7 := HHn.free (j := 7) (by simp)
    have nf8 := HHn.free (j := 8) (by simp)
    have nf9 := HHn.free (j := 9) (by simp)
    have nf10 := HHn.free (j := 10) (by simp)
    have r0 : tos = ytos := by
     have := T0.out.symm
     simpa using this
    have r1 : 0 = yid := by
     have := T1.out.symm
     simpa using this
    have r2 : true = ywhole := by
     have := T2.out.symm
     simpa using this
    have r3 : false = ymore := by
     have := T3.out.symm
     simpa using this
    have r4 : 0 = yoff := by
     have := T4.out.symm
     simpa using this
    have r5 : ttl = yttl := by
     have := T5.out.symm
     simpa using this
    have r6 : proto = yproto := by
     have := T6.out.symm
     simpa using this
    have r7 : src = ysrc := by
     have := T7.out.symm
     simpa using this
    have r8 : dst = ydst := by
     have := T8.out.symm
     simpa using this
    have r9 : ⟨#[]⟩ = yopts := by
     have := T9.out.symm
     simpa using this
    have r10 : data = ydata := by
     have := T10.out.symm
     simpa using this
    subst r0 r1 r2 r3 r4 r5 r6 r7 r8 r9 r10
    clear T0 T1 T2 T3 T4 T5 T6 T7 T8 T9 T10 HPC
    have hne := fun W => neV4O_bin (⟨tos, 0, true, false, 0, ttl, proto, src, dst, ⟨#[]⟩, data⟩ : P4) 0 W
    dsimp only at hne
    have HFB : Hid (Below w.heap.size w (((W6.setCell ⟨Vb, 9, none⟩ (.string ⟨#[]⟩)).setCell ⟨Vb, 2, none⟩ (.bool true)).setCell ⟨Vb, 1, none⟩ (.int .i64 0))) := (((S9'.out.b.setCell (p := ⟨Vb, 9, none⟩) hVb (.string ⟨#[]⟩)).setCell (p := ⟨Vb, 2, none⟩) hVb (.bool true)).setCell (p := ⟨Vb, 1, none⟩) hVb (.int .i64 0))
    clear S9 S9'
    go_wp2_with fail
    go_meet
    exact ⟨rfl, HFB.out⟩
   ·have d2 : (off == 0) = false := by simpa using c2
    have hpc : pc = true := by rw [HPC.out]; simp [c2]
    subst hpc
    have S9' : Hid (Bxs w [(Vb, [.int .i64 tos, .int .i64 id, .bool whole, .bool false, .int .i64 off, .int .i64 ttl, .int .i64 proto, .string src, .string dst, .string opts, .string data]), (Yb, [.int .i64 ytos, .int .i64 yid, .bool ywhole, .bool ymore, .int .i64 yoff, .int .i64 yttl, .int .i64 yproto, .string ysrc, .string ydst, .string yopts, .string ydata, .int .i64 0]), (Xb, [.int .i64 xcls, .int .i64 xflow, .int .i64 xnext, .int .i64 xhops, .string xsrc, .string xdst, .bool xpiece, .bool xmore, .int .i64 xoff, .int .i64 xid, .string xdata, .int .i64 0]), (Pb, [.int .i64 tos, .int .i64 id, .bool whole, .bool false, .int .i64 off, .int .i64 ttl, .int .i64 proto, .string src, .string dst, .string opts, .string data])] W6) := S9.out
    have HHk := S9'.out.at (.tail _ (.tail _ (.tail _ (.head _))))
    have k0 := HHk.cell (j := 0) rfl
    have k1 := HHk.cell (j := 1) rfl
    have k2 := HHk.cell (j := 2) rfl
    have k3 := HHk.cell (j := 3) rfl
    have k4 := HHk.cell (j := 4) rfl
    have k5 := HHk.cell (j := 5) rfl
    have k6 := HHk.cell (j := 6) rfl
    have k7 := HHk.cell (j := 7) rfl
    have k8 := HHk.cell (j := 8) rfl
    have k9 := HHk.cell (j := 9) rfl
    have k10 := HHk.cell (j := 10) rfl
    clear HHk
    have HHm := S9'.out.at (.tail _ (.head _))
    have m0 := HHm.cell (j := 0) rfl
    have m1 := HHm.cell (j := 1) rfl
    have m2 := HHm.cell (j := 2) rfl
    have m3 := HHm.cell (j := 3) rfl
    have m4 := HHm.cell (j := 4) rfl
    have m5 := HHm.cell (j := 5) rfl
    have m6 := HHm.cell (j := 6) rfl
    have m7 := HHm.cell (j := 7) rfl
    have m8 := HHm.cell (j := 8) rfl
    have m9 := HHm.cell (j := 9) rfl
    have m10 := HHm.cell (j := 10) rfl
    have m11 := HHm.cell (j := 11) rfl
    clear HHm
    have HHn := S9'.out.at (.head _)
    have n0 := HHn.cell (j := 0) rfl
    have n1 := HHn.cell (j := 1) rfl
    have n2 := HHn.cell (j := 2) rfl
    have n3 := HHn.cell (j := 3) rfl
    have n4 := HHn.cell (j := 4) rfl
    have n5 := HHn.cell (j := 5) rfl
    have n6 := HHn.cell (j := 6) rfl
    have n7 := HHn.cell (j := 7) rfl
    have n8 := HHn.cell (j := 8) rfl
    have n9 := HHn.cell (j := 9) rfl
    have n10 := HHn.cell (j := 10) rfl
    have nf0 := HHn.free (j := 0) (by simp)
    have nf1 := HHn.free (j := 1) (by simp)
    have nf2 := HHn.free (j := 2) (by simp)
    have nf3 := HHn.free (j := 3) (by simp)
    have nf4 := HHn.free (j := 4) (by simp)
    have nf5 := HHn.free (j := 5) (by simp)
    have nf6 := HHn.free (j := 6) (by simp)
    have nf7 := HHn.free (j := 7) (by simp)
    have nf8 := HHn.free (j := 8) (by simp)
    have nf9 := HHn.free (j := 9) (by simp)
    have nf10 := HHn.free (j := 10) (by simp)
    have r0 : tos = ytos := by
     have := T0.out.symm
     simpa using this
    have r1 : id = yid := by
     have := T1.out.symm
     simpa using this
    have r2 : whole = ywhole := by
     have := T2.out.symm
     simpa using this
    have r3 : false = ymore := by
     have := T3.out.symm
     simpa using this
    have r4 : off = yoff := by
     have := T4.out.symm
     simpa using this
    have r5 : ttl = yttl := by
     have := T5.out.symm
     simpa using this
    have r6 : proto = yproto := by
     have := T6.out.symm
     simpa using this
    have r7 : src = ysrc := by
     have := T7.out.symm
     simpa using this
    have r8 : dst = ydst := by
     have := T8.out.symm
     simpa using this
    have r9 : ⟨#[]⟩ = yopts := by
     have := T9.out.symm
     simpa using this
    have r10 : data = ydata := by
     have := T10.out.symm
     simpa using this
    subst r0 r1 r2 r3 r4 r5 r6 r7 r8 r9 r10
    clear T0 T1 T2 T3 T4 T5 T6 T7 T8 T9 T10 HPC
    have hne := fun W => neV4O_bin (⟨tos, id, whole, false, off, ttl, proto, src, dst, ⟨#[]⟩, data⟩ : P4) 0 W
    dsimp only at hne
    have HFB : Hid (Below w.heap.size w (W6.setCell ⟨Vb, 9, none⟩ (.string ⟨#[]⟩))) := (S9'.out.b.setCell (p := ⟨Vb, 9, none⟩) hVb (.string ⟨#[]⟩))
    clear S9 S9'
    go_wp2_with fail
    go_meet
    exact ⟨rfl, HFB.out⟩
 case rest =>
 obtain ⟨rfl, hG⟩ := hcut
 have HG : Hid _ := hG
 clear hG S6 HB4 HTS HK HPC
 generalize wc = W7 at *
 have HD2 : Hid _ := HD1.out W7 HG.out
 clear HD1
 go_wp2_with fail
 refine Calls.mono HD2.out ?_
 rintro e w8 ⟨q, c, d, rfl, hq, hc, hd, qq⟩
 have R1 : Hid (Bxs w [] w8) := ⟨fun e he => (by cases he), HG.out.trans (qq.mono HG.out.size), fun e he => (by cases he)⟩
 clear qq HG HD2
 have HI : Hid (∀ W, Calls Try.prog 7 #[p6C q, .string c, .string d] W fun e w' => e = .returned (p4CO (four6V q c d) (four6C q c d)) ∧ Below W.heap.size W w') := fun W => implToFour_any q c d W hq.smX.1 hq.smX.2 (by omega) (by omega)
 have HSp : Hid (∀ W, Calls Try.prog 9 #[p6C q, .string c, .string d] W fun e w' => e = .returned (p4CO (four6V q c d) (four6C q c d)) ∧ Below W.heap.size W w') := fun W => specToFour_any q c d W hq.smX.1 hq.smX.2 (by omega) (by omega) hq.smX.1.2.2
 have HB6 : Hid (four6C q c d = 0 → q.next ≠ 1 → (0 ≤ q.id ∧ q.id ≤ 4294967295) ∧ (q.piece = false → q.id = 0) ∧ ∀ W, Calls Try.prog 5 #[p4C (four6V q c d), .string q.src, .string q.dst] W fun e w' => e = .returned (p6CO (kept6 q) 0) ∧ Below W.heap.size W w') := fun hcd hp2 => by
  have hB := v6B_parts (v6Ok_ab (four6_zero hcd).1).2
  refine ⟨hB.2.1, fun hh => (hB.2.2 hh).2.2, fun W => ?_⟩
  have hm := turn64 hcd hp2
  have := implToSix_any (four6V q c d) q.src q.dst W (Bd_four hcd).1 (Bd_four hcd).2 hq.smX.1.1 hq.smX.1.2.1
  rw [hm.1, hm.2] at this
  exact this
 have HK : Hid (kept6 q = ⟨q.cls, 0, q.next, q.hops, q.src, q.dst, if lone6 q then false else q.piece, q.more, q.off, if lone6 q then 0 else q.id % 65536, q.data⟩) := rfl
 have HPC : Hid (lone6 q = (q.piece && !q.more && decide (q.off = 0))) := rfl
 clear hq hc hd
 generalize four6V q c d = u at *
 generalize four6C q c d = cdu at *
 generalize kept6 q = kp at *
 generalize lone6 q = pc at *
 obtain ⟨cls, flow, next, hops, src, dst, piece, more, off, id, data⟩ := q
 obtain ⟨utos, uid, uwhole, umore, uoff, uttl, uproto, usrc, udst, uopts, udata⟩ := u
 unfold p4C p6C p6CO p4CO at *
 dsimp only at *
 have R2 : Hid (Bxs w ((w8.heap.size, [.int .i64 cls, .int .i64 flow, .int .i64 next, .int .i64 hops, .string src, .string dst, .bool piece, .bool more, .int .i64 off, .int .i64 id, .string data]) :: []) (w8.alloc (.cells #[.int .i64 cls, .int .i64 flow, .int .i64 next, .int .i64 hops, .string src, .string dst, .bool piece, .bool more, .int .i64 off, .int .i64 id, .string data] 28))) := R1.out.push [.int .i64 cls, .int .i64 flow, .int .i64 next, .int .i64 hops, .string src, .string dst, .bool piece, .bool more, .int .i64 off, .int .i64 id, .string data] (by simp) 28
 have loq : w.heap.size ≤ w8.heap.size := R1.out.b.size
 clear R1
 go_upto_region 17 with fail
 generalize w8.alloc (.cells #[.int .i64 cls, .int .i64 flow, .int .i64 next, .int .i64 hops, .string src, .string dst, .bool piece, .bool more, .int .i64 off, .int .i64 id, .string data] 28) = W8 at *
 generalize w8.heap.size = Qb at *
 have HHk := R2.out.at (.head _)
 have k0 := HHk.cell (j := 0) rfl
 have k1 := HHk.cell (j := 1) rfl
 have k2 := HHk.cell (j := 2) rfl
 have k3 := HHk.cell (j := 3) rfl
 have k4 := HHk.cell (j := 4) rfl
 have k5 := HHk.cell (j := 5) rfl
 have k6 := HHk.cell (j := 6) rfl
 have k7 := HHk.cell (j := 7) rfl
 have k8 := HHk.cell (j := 8) rfl
 have k9 := HHk.cell (j := 9) rfl
 have k10 := HHk.cell (j := 10) rfl
 clear HHk
 go_wp2_with fail
 refine Calls.mono (HI.out _) ?_
 rintro e w9 ⟨rfl, qq⟩
 have R3 : Hid _ := R2.out.kept qq
 clear R2
 clear qq
 clear HI k0 k1 k2 k3 k4 k5 k6 k7 k8 k9 k10
 have R4 : Hid (Bxs w ((w9.heap.size, [.int .i64 utos, .int .i64 uid, .bool uwhole, .bool umore, .int .i64 uoff, .int .i64 uttl, .int .i64 uproto, .string usrc, .string udst, .string uopts, .string udata, .int .i64 cdu]) :: [(Qb, [.int .i64 cls, .int .i64 flow, .int .i64 next, .int .i64 hops, .string src, .string dst, .bool piece, .bool more, .int .i64 off, .int .i64 id, .string data])]) (w9.alloc (.cells #[.int .i64 utos, .int .i64 uid, .bool uwhole, .bool umore, .int .i64 uoff, .int .i64 uttl, .int .i64 uproto, .string usrc, .string udst, .string uopts, .string udata, .int .i64 cdu] 33))) := R3.out.push [.int .i64 utos, .int .i64 uid, .bool uwhole, .bool umore, .int .i64 uoff, .int .i64 uttl, .int .i64 uproto, .string usrc, .string udst, .string uopts, .string udata, .int .i64 cdu] (by simp) 33
 have neuq : Qb < w9.heap.size := (R3.out.k _ (.head _)).lt (by simp)
 have lou : w.heap.size ≤ w9.heap.size := R3.out.b.size
 clear R3
 go_upto_region 18 with fail
 generalize w9.alloc (.cells #[.int .i64 utos, .int .i64 uid, .bool uwhole, .bool umore, .int .i64 uoff, .int .i64 uttl, .int .i64 uproto, .string usrc, .string udst, .string uopts, .string udata, .int .i64 cdu] 33) = W9 at *
 generalize w9.heap.size = Ub at *
 go_cut [87] (fun v wx => v = .bool false ∧ Bxs w [(Ub, [.int .i64 utos, .int .i64 uid, .bool uwhole, .bool umore, .int .i64 uoff, .int .i64 uttl, .int .i64 uproto, .string usrc, .string udst, .string uopts, .string udata, .int .i64 cdu]), (Qb, [.int .i64 cls, .int .i64 flow, .int .i64 next, .int .i64 hops, .string src, .string dst, .bool piece, .bool more, .int .i64 off, .int .i64 id, .string data])] wx)
 case first =>
  rename_i J K2 hJ hK2
  have HCP : Hid (∀ wy, Below W9.drew.heap.size W9.drew wy → _) := fun wy hy => R4.out.kept ((Below.refl _ _).drew.trans hy)
  refine wp_region_growH [82, 83, 84, 85, 86, 87] (by kernel_rfl) (by kernel_rfl) ?_
  refine GCh.val (n := 0) (fun v => [IsV v]) (fun _ => rfl) rfl ?_
  apply Exists.intro
  refine And.intro ?_ ?_
  ·intro K' a wy ho hd hb hK
   rw [if_pos (wanted_none rfl)]
   have o14 := ho 14 (by decide)
   simp [slot] at o14
   clear hd ho
   have hst := HCP.out wy hb
   have HHk := hst.at (.head _)
   have k0 := HHk.cell (j := 0) rfl
   have k1 := HHk.cell (j := 1) rfl
   have k2 := HHk.cell (j := 2) rfl
   have k3 := HHk.cell (j := 3) rfl
   have k4 := HHk.cell (j := 4) rfl
   have k5 := HHk.cell (j := 5) rfl
   have k6 := HHk.cell (j := 6) rfl
   have k7 := HHk.cell (j := 7) rfl
   have k8 := HHk.cell (j := 8) rfl
   have k9 := HHk.cell (j := 9) rfl
   have k10 := HHk.cell (j := 10) rfl
   have k11 := HHk.cell (j := 11) rfl
   clear HHk
   have HHl := hst.at (.tail _ (.head _))
   have l0 := HHl.cell (j := 0) rfl
   have l1 := HHl.cell (j := 1) rfl
   have l2 := HHl.cell (j := 2) rfl
   have l3 := HHl.cell (j := 3) rfl
   have l4 := HHl.cell (j := 4) rfl
   have l5 := HHl.cell (j := 5) rfl
   have l6 := HHl.cell (j := 6) rfl
   have l7 := HHl.cell (j := 7) rfl
   have l8 := HHl.cell (j := 8) rfl
   have l9 := HHl.cell (j := 9) rfl
   have l10 := HHl.cell (j := 10) rfl
   clear HHl
   clear hst
   go_simp
   try go_bits
   exact hK _ _ rfl (Below.refl _ _)
  refine GCh.val (n := 1) (fun v => [_, IsV v]) (fun _ => rfl) rfl ?_
  apply Exists.intro
  refine And.intro ?_ ?_
  ·intro K' a wy ho hd hb hK
   rw [if_pos (wanted_none rfl)]
   have o11 := ho 11 (by decide)
   simp [slot] at o11
   clear hd ho
   have hst := HCP.out wy hb
   have HHk := hst.at (.head _)
   have k0 := HHk.cell (j := 0) rfl
   have k1 := HHk.cell (j := 1) rfl
   have k2 := HHk.cell (j := 2) rfl
   have k3 := HHk.cell (j := 3) rfl
   have k4 := HHk.cell (j := 4) rfl
   have k5 := HHk.cell (j := 5) rfl
   have k6 := HHk.cell (j := 6) rfl
   have k7 := HHk.cell (j := 7) rfl
   have k8 := HHk.cell (j := 8) rfl
   have k9 := HHk.cell (j := 9) rfl
   have k10 := HHk.cell (j := 10) rfl
   have k11 := HHk.cell (j := 11) rfl
   clear HHk
   have HHl := hst.at (.tail _ (.head _))
   have l0 := HHl.cell (j := 0) rfl
   have l1 := HHl.cell (j := 1) rfl
   have l2 := HHl.cell (j := 2) rfl
   have l3 := HHl.cell (j := 3) rfl
   have l4 := HHl.cell (j := 4) rfl
   have l5 := HHl.cell (j := 5) rfl
   have l6 := HHl.cell (j := 6) rfl
   have l7 := HHl.cell (j := 7) rfl
   have l8 := HHl.cell (j := 8) rfl
   have l9 := HHl.cell (j := 9) rfl
   have l10 := HHl.cell (j := 10) rfl
   clear HHl
   clear hst
   go_simp
   try go_bits
   exact hK _ _ rfl (Below.refl _ _)
  refine GCh.val (n := 2) (fun v => [_, _, IsV v]) (fun _ => rfl) rfl ?_
  apply Exists.intro
  refine And.intro ?_ ?_
  ·intro K' a wy ho hd hb hK
   rw [if_pos (wanted_none rfl)]
   have o12 := ho 12 (by decide)
   simp [slot] at o12
   clear hd ho
   go_simp
   try go_bits
   exact hK _ _ rfl (Below.refl _ _)
  refine GCh.val (n := 3) (fun v => [_, _, _, IsV v]) (fun _ => rfl) rfl ?_
  apply Exists.intro
  refine And.intro ?_ ?_
  ·intro K' a wy ho hd hb hK
   rw [if_pos (wanted_none rfl)]
   have o13 := ho 13 (by decide)
   simp [slot] at o13
   clear hd ho
   go_simp
   try go_bits
   exact hK _ _ rfl (Below.refl _ _)
  refine GCh.val (n := 4) (fun v => [_, _, _, _, IsV v]) (fun _ => rfl) rfl ?_
  apply Exists.intro
  refine And.intro ?_ ?_
  ·intro K' a wy ho hd hb hK
   rw [if_pos (wanted_none rfl)]
   have q1 := hd ⟨1, .data⟩ (by simp) rfl
   simp [rAt, IsV, slot] at q1
   have q2 := hd ⟨2, .data⟩ (by simp) rfl
   simp [rAt, IsV, slot] at q2
   have q3 := hd ⟨3, .data⟩ (by simp) rfl
   simp [rAt, IsV, slot] at q3
   clear hd ho
   go_simp
   refine (HSp.out wy).mono ?_
   rintro e wz ⟨rfl, hz⟩
   exact hK _ _ rfl hz
  refine GCh.val (n := 5) (fun v => [_, _, _, _, _, IsV v]) (fun _ => rfl) rfl ?_
  apply Exists.intro
  refine And.intro ?_ ?_
  ·intro K' a wy ho hd hb hK
   rw [if_pos (wanted_none rfl)]
   have q0 := hd ⟨0, .data⟩ (by simp) rfl
   simp [rAt, IsV, slot] at q0
   have q4 := hd ⟨4, .data⟩ (by simp) rfl
   simp [rAt, IsV, slot] at q4
   clear hd ho
   have hne := neV4O_bin ⟨utos, uid, uwhole, umore, uoff, uttl, uproto, usrc, udst, uopts, udata⟩ cdu wy
   go_simp
   try go_bits
   exact hK _ _ rfl (Below.refl _ _)
  intro X wz hR hz
  obtain ⟨x0, x1, x2, x3, x4, x5, -⟩ := hR
  simp only [IsV] at x0 x1 x2 x3 x4 x5
  simp only [putsFrom, x0, x1, x2, x3, x4, x5]
  clear x0 x1 x2 x3 x4 x5
  have HF : Hid (Bxs w [(Ub, [.int .i64 utos, .int .i64 uid, .bool uwhole, .bool umore, .int .i64 uoff, .int .i64 uttl, .int .i64 uproto, .string usrc, .string udst, .string uopts, .string udata, .int .i64 cdu]), (Qb, [.int .i64 cls, .int .i64 flow, .int .i64 next, .int .i64 hops, .string src, .string dst, .bool piece, .bool more, .int .i64 off, .int .i64 id, .string data])] wz) := HCP.out wz hz
  clear HCP
  go_simp
  refine hK2 _ _ (hJ _ _ ?_)
  (repeat apply Exists.intro)
  exact ⟨⟨rfl, HF.out⟩, rfl⟩
 case rest =>
 obtain ⟨rfl, hS⟩ := hcut
 have R5 : Hid _ := hS
 clear hS R4
 generalize wc = W10 at *
 clear HSp
 go_upto_region 20 with fail
 have HHk := R5.out.at (.tail _ (.head _))
 have k0 := HHk.cell (j := 0) rfl
 have k1 := HHk.cell (j := 1) rfl
 have k2 := HHk.cell (j := 2) rfl
 have k3 := HHk.cell (j := 3) rfl
 have k4 := HHk.cell (j := 4) rfl
 have k5 := HHk.cell (j := 5) rfl
 have k6 := HHk.cell (j := 6) rfl
 have k7 := HHk.cell (j := 7) rfl
 have k8 := HHk.cell (j := 8) rfl
 have k9 := HHk.cell (j := 9) rfl
 have k10 := HHk.cell (j := 10) rfl
 clear HHk
 have HHl := R5.out.at (.head _)
 have l0 := HHl.cell (j := 0) rfl
 have l1 := HHl.cell (j := 1) rfl
 have l2 := HHl.cell (j := 2) rfl
 have l3 := HHl.cell (j := 3) rfl
 have l4 := HHl.cell (j := 4) rfl
 have l5 := HHl.cell (j := 5) rfl
 have l6 := HHl.cell (j := 6) rfl
 have l7 := HHl.cell (j := 7) rfl
 have l8 := HHl.cell (j := 8) rfl
 have l9 := HHl.cell (j := 9) rfl
 have l10 := HHl.cell (j := 10) rfl
 have l11 := HHl.cell (j := 11) rfl
 clear HHl
 by_cases c1 : cdu = 0
 case neg =>
  have d1 : (cdu != 0) = true := by simpa using c1
  have HF : Hid (Below w.heap.size w W10) := R5.out.b
  clear R5
  go_wp2_with fail
  go_ret
  exact ⟨rfl, HF.out⟩
 subst c1
 by_cases c2 : next = 1
 case pos =>
  subst c2
  have HF : Hid (Below w.heap.size w W10) := R5.out.b
  clear R5
  go_wp2_with fail
  go_ret
  exact ⟨rfl, HF.out⟩
 have d2 : (next == 1) = false := by simpa using c2
 obtain ⟨hid, hpz, H6⟩ := HB6.out (by first | rfl | trivial) c2
 have H6 : Hid _ := H6
 have HPZ : Hid _ := hpz
 clear HB6 c2 hpz
 have R5' : Hid (Bxs w [(Ub, [.int .i64 utos, .int .i64 uid, .bool uwhole, .bool umore, .int .i64 uoff, .int .i64 uttl, .int .i64 uproto, .string usrc, .string udst, .string uopts, .string udata, .int .i64 0]), (Qb, [.int .i64 cls, .int .i64 flow, .int .i64 next, .int .i64 hops, .string src, .string dst, .bool piece, .bool more, .int .i64 off, .int .i64 id, .string data])] W10) := R5.out
 clear R5
 go_upto_region 22 with fail
 obtain ⟨vcls, vflow, vnext, vhops, vsrc, vdst, vpiece, vmore, voff, vid, vdata⟩ := kp
 dsimp only at *
 go_wp2_with fail
 refine Calls.mono (H6.out _) ?_
 rintro e w11 ⟨rfl, qq⟩
 have R6 : Hid (Bxs w [(Ub, [.int .i64 utos, .int .i64 uid, .bool uwhole, .bool umore, .int .i64 uoff, .int .i64 uttl, .int .i64 uproto, .string usrc, .string udst, .string uopts, .string udata, .int .i64 0]), (Qb, [.int .i64 cls, .int .i64 flow, .int .i64 next, .int .i64 hops, .string src, .string dst, .bool piece, .bool more, .int .i64 off, .int .i64 id, .string data])] w11) := R5'.out.kept qq
 clear R5'
 clear qq
 clear H6 k0 k1 k2 k3 k4 k5 k6 k7 k8 k9 k10 l0 l1 l2 l3 l4 l5 l6 l7 l8 l9 l10 l11
 have R7 : Hid (Bxs w ((w11.heap.size, [.int .i64 vcls, .int .i64 vflow, .int .i64 vnext, .int .i64 vhops, .string vsrc, .string vdst, .bool vpiece, .bool vmore, .int .i64 voff, .int .i64 vid, .string vdata, .int .i64 0]) :: [(Ub, [.int .i64 utos, .int .i64 uid, .bool uwhole, .bool umore, .int .i64 uoff, .int .i64 uttl, .int .i64 uproto, .string usrc, .string udst, .string uopts, .string udata, .int .i64 0]), (Qb, [.int .i64 cls, .int .i64 flow, .int .i64 next, .int .i64 hops, .string src, .string dst, .bool piece, .bool more, .int .i64 off, .int .i64 id, .string data])]) (w11.alloc (.cells #[.int .i64 vcls, .int .i64 vflow, .int .i64 vnext, .int .i64 vhops, .string vsrc, .string vdst, .bool vpiece, .bool vmore, .int .i64 voff, .int .i64 vid, .string vdata, .int .i64 0] 30))) := R6.out.push [.int .i64 vcls, .int .i64 vflow, .int .i64 vnext, .int .i64 vhops, .string vsrc, .string vdst, .bool vpiece, .bool vmore, .int .i64 voff, .int .i64 vid, .string vdata, .int .i64 0] (by simp) 30
 have nevu : Ub < w11.heap.size := (R6.out.k _ (.head _)).lt (by simp)
 have nevq : Qb < w11.heap.size := (R6.out.k _ (.tail _ (.head _))).lt (by simp)
 have lov : w.heap.size ≤ w11.heap.size := R6.out.b.size
 clear R6
 go_upto_region 23 with fail
 generalize w11.alloc (.cells #[.int .i64 vcls, .int .i64 vflow, .int .i64 vnext, .int .i64 vhops, .string vsrc, .string vdst, .bool vpiece, .bool vmore, .int .i64 voff, .int .i64 vid, .string vdata, .int .i64 0] 30) = W11 at *
 generalize w11.heap.size = Vb at *
 have HHk := R7.out.at (.tail _ (.tail _ (.head _)))
 have k0 := HHk.cell (j := 0) rfl
 have k1 := HHk.cell (j := 1) rfl
 have k2 := HHk.cell (j := 2) rfl
 have k3 := HHk.cell (j := 3) rfl
 have k4 := HHk.cell (j := 4) rfl
 have k5 := HHk.cell (j := 5) rfl
 have k6 := HHk.cell (j := 6) rfl
 have k7 := HHk.cell (j := 7) rfl
 have k8 := HHk.cell (j := 8) rfl
 have k9 := HHk.cell (j := 9) rfl
 have k10 := HHk.cell (j := 10) rfl
 clear HHk
 have R8 : Hid (Bxs w ((W11.heap.size, [.int .i64 cls, .int .i64 flow, .int .i64 next, .int .i64 hops, .string src, .string dst, .bool piece, .bool more, .int .i64 off, .int .i64 id, .string data]) :: [(Vb, [.int .i64 vcls, .int .i64 vflow, .int .i64 vnext, .int .i64 vhops, .string vsrc, .string vdst, .bool vpiece, .bool vmore, .int .i64 voff, .int .i64 vid, .string vdata, .int .i64 0]), (Ub, [.int .i64 utos, .int .i64 uid, .bool uwhole, .bool umore, .int .i64 uoff, .int .i64 uttl, .int .i64 uproto, .string usrc, .string udst, .string uopts, .string udata, .int .i64 0]), (Qb, [.int .i64 cls, .int .i64 flow, .int .i64 next, .int .i64 hops, .string src, .string dst, .bool piece, .bool more, .int .i64 off, .int .i64 id, .string data])]) (W11.alloc (.cells #[.int .i64 cls, .int .i64 flow, .int .i64 next, .int .i64 hops, .string src, .string dst, .bool piece, .bool more, .int .i64 off, .int .i64 id, .string data] 28))) := R7.out.push [.int .i64 cls, .int .i64 flow, .int .i64 next, .int .i64 hops, .string src, .string dst, .bool piece, .bool more, .int .i64 off, .int .i64 id, .string data] (by simp) 28
 have neyv : Vb < W11.heap.size := (R7.out.k _ (.head _)).lt (by simp)
 have neyu : Ub < W11.heap.size := (R7.out.k _ (.tail _ (.head _))).lt (by simp)
 have neyq : Qb < W11.heap.size := (R7.out.k _ (.tail _ (.tail _ (.head _)))).lt (by simp)
 have loy : w.heap.size ≤ W11.heap.size := R7.out.b.size
 clear R7
 go_upto_region 24 with fail
 clear k0 k1 k2 k3 k4 k5 k6 k7 k8 k9 k10
 generalize W11.alloc (.cells #[.int .i64 cls, .int .i64 flow, .int .i64 next, .int .i64 hops, .string src, .string dst, .bool piece, .bool more, .int .i64 off, .int .i64 id, .string data] 28) = W12 at *
 generalize W11.heap.size = Yb at *
 have nayq : ¬ Qb = Yb := by omega
 have nbyq : ¬ Yb = Qb := by omega
 have nayv : ¬ Vb = Yb := by omega
 have nbyv : ¬ Yb = Vb := by omega
 injection HK.out with t0 t1 t2 t3 t4 t5 t6 t7 t8 t9 t10
 have T0 : Hid _ := t0
 have T1 : Hid _ := t1
 have T2 : Hid _ := t2
 have T3 : Hid _ := t3
 have T4 : Hid _ := t4
 have T5 : Hid _ := t5
 have T6 : Hid _ := t6
 have T7 : Hid _ := t7
 have T8 : Hid _ := t8
 have T9 : Hid _ := t9
 have T10 : Hid _ := t10
 clear t0 t1 t2 t3 t4 t5 t6 t7 t8 t9 t10 HK
 have hand := mask16 id hid.1 hid.2
 have hYb : w.heap.size ≤ Yb := by omega
 cases piece with
 | false =>
  have hpc : pc = false := by rw [HPC.out]; rfl
  subst hpc
  have R8' : Hid (Bxs w [(Yb, [.int .i64 cls, .int .i64 flow, .int .i64 next, .int .i64 hops, .string src, .string dst, .bool false, .bool more, .int .i64 off, .int .i64 id, .string data]), (Vb, [.int .i64 vcls, .int .i64 vflow, .int .i64 vnext, .int .i64 vhops, .string vsrc, .string vdst, .bool vpiece, .bool vmore, .int .i64 voff, .int .i64 vid, .string vdata, .int .i64 0]), (Ub, [.int .i64 utos, .int .i64 uid, .bool uwhole, .bool umore, .int .i64 uoff, .int .i64 uttl, .int .i64 uproto, .string usrc, .string udst, .string uopts, .string udata, .int .i64 0]), (Qb, [.int .i64 cls, .int .i64 flow, .int .i64 next, .int .i64 hops, .string src, .string dst, .bool false, .bool more, .int .i64 off, .int .i64 id, .string data])] W12) := R8.out
  have HHk := R8'.out.at (.tail _ (.tail _ (.tail _ (.head _))))
  have k0 := HHk.cell (j := 0) rfl
  have k1 := HHk.cell (j := 1) rfl
  have k2 := HHk.cell (j := 2) rfl
  have k3 := HHk.cell (j := 3) rfl
  have k4 := HHk.cell (j := 4) rfl
  have k5 := HHk.cell (j := 5) rfl
  have k6 := HHk.cell (j := 6) rfl
  have k7 := HHk.cell (j := 7) rfl
  have k8 := HHk.cell (j := 8) rfl
  have k9 := HHk.cell (j := 9) rfl
  have k10 := HHk.cell (j := 10) rfl
  clear HHk
  have HHm := R8'.out.at (.tail _ (.head _))
  have m0 := HHm.cell (j := 0) rfl
  have m1 := HHm.cell (j := 1) rfl
  have m2 := HHm.cell (j := 2) rfl
  have m3 := HHm.cell (j := 3) rfl
  have m4 := HHm.cell (j := 4) rfl
  have m5 := HHm.cell (j := 5) rfl
  have m6 := HHm.cell (j := 6) rfl
  have m7 := HHm.cell (j := 7) rfl
  have m8 := HHm.cell (j := 8) rfl
  have m9 := HHm.cell (j := 9) rfl
  have m10 := HHm.cell (j := 10) rfl
  have m11 := HHm.cell (j := 11) rfl
  clear HHm
  have HHn := R8'.out.at (.head _)
  have n0 := HHn.cell (j := 0) rfl
  have n1 := HHn.cell (j := 1) rfl
  have n2 := HHn.cell (j := 2) rfl
  have n3 := HHn.cell (j := 3) rfl
  have n4 := HHn.cell (j := 4) rfl
  have n5 := HHn.cell (j := 5) rfl
  have n6 := HHn.cell (j := 6) rfl
  have n7 := HHn.cell (j := 7) rfl
  have n8 := HHn.cell (j := 8) rfl
  have n9 := HHn.cell (j := 9) rfl
  have n10 := HHn.cell (j := 10) rfl
  have nf0 := HHn.free (j := 0) (by simp)
  have nf1 := HHn.free (j := 1) (by simp)
  have nf2 := HHn.free (j := 2) (by simp)
  have nf3 := HHn.free (j := 3) (by simp)
  have nf4 := HHn.free (j := 4) (by simp)
  have nf5 := HHn.free (j := 5) (by simp)
  have nf6 := HHn.free (j := 6) (by simp)
  have nf7 := HHn.free (j := 7) (by simp)
  have nf8 := HHn.free (j := 8) (by simp)
  have nf9 := HHn.free (j := 9) (by simp)
  have nf10 := HHn.free (j := 10) (by simp)
  have r0 : cls = vcls := by
   have := T0.out.symm
   simpa using this
  have r1 : 0 = vflow := by
   have := T1.out.symm
   simpa using this
  have r2 : next = vnext := by
   have := T2.out.symm
   simpa using this
  have r3 : hops = vhops := by
   have := T3.out.symm
   simpa using this
  have r4 : src = vsrc := by
   have := T4.out.symm
   simpa using this
  have r5 : dst = vdst := by
   have := T5.out.symm
   simpa using this
  have r6 : false = vpiece := by
   have := T6.out.symm
   simpa using this
  have r7 : more = vmore := by
   have := T7.out.symm
   simpa using this
  have r8 : off = voff := by
   have := T8.out.symm
   simpa using this
  have r9 : (id % 65536) = vid := by
   have := T9.out.symm
   simpa using this
  have r10 : data = vdata := by
   have := T10.out.symm
   simpa using this
  subst r0 r1 r2 r3 r4 r5 r6 r7 r8 r9 r10
  clear T0 T1 T2 T3 T4 T5 T6 T7 T8 T9 T10 HPC
  have hne := fun W => eqV6O_bin (⟨cls, 0, next, hops, src, dst, false, more, off, (id % 65536), data⟩ : P6) 0 W
  dsimp only at hne
  have HFB : Hid (Below w.heap.size w ((W12.setCell ⟨Yb, 1, none⟩ (.int .i64 0)).setCell ⟨Yb, 9, none⟩ (.int .i64 (id % 65536)))) := ((R8'.out.b.setCell (p := ⟨Yb, 1, none⟩) hYb (.int .i64 0)).setCell (p := ⟨Yb, 9, none⟩) hYb (.int .i64 (id % 65536)))
  clear R8 R8'
  go_wp2_with fail
  go_ret
  exact ⟨rfl, HFB.out⟩
 | true =>
  cases more with
  | true =>
   have hpc : pc = false := by rw [HPC.out]; rfl
   subst hpc
   have R8' : Hid (Bxs w [(Yb, [.int .i64 cls, .int .i64 flow, .int .i64 next, .int .i64 hops, .string src, .string dst, .bool true, .bool true, .int .i64 off, .int .i64 id, .string data]), (Vb, [.int .i64 vcls, .int .i64 vflow, .int .i64 vnext, .int .i64 vhops, .string vsrc, .string vdst, .bool vpiece, .bool vmore, .int .i64 voff, .int .i64 vid, .string vdata, .int .i64 0]), (Ub, [.int .i64 utos, .int .i64 uid, .bool uwhole, .bool umore, .int .i64 uoff, .int .i64 uttl, .int .i64 uproto, .string usrc, .string udst, .string uopts, .string udata, .int .i64 0]), (Qb, [.int .i64 cls, .int .i64 flow, .int .i64 next, .int .i64 hops, .string src, .string dst, .bool true, .bool true, .int .i64 off, .int .i64 id, .string data])] W12) := R8.out
   have HHk := R8'.out.at (.tail _ (.tail _ (.tail _ (.head _))))
   have k0 := HHk.cell (j := 0) rfl
   have k1 := HHk.cell (j := 1) rfl
   have k2 := HHk.cell (j := 2) rfl
   have k3 := HHk.cell (j := 3) rfl
   have k4 := HHk.cell (j := 4) rfl
   have k5 := HHk.cell (j := 5) rfl
   have k6 := HHk.cell (j := 6) rfl
   have k7 := HHk.cell (j := 7) rfl
   have k8 := HHk.cell (j := 8) rfl
   have k9 := HHk.cell (j := 9) rfl
   have k10 := HHk.cell (j := 10) rfl
   clear HHk
   have HHm := R8'.out.at (.tail _ (.head _))
   have m0 := HHm.cell (j := 0) rfl
   have m1 := HHm.cell (j := 1) rfl
   have m2 := HHm.cell (j := 2) rfl
   have m3 := HHm.cell (j := 3) rfl
   have m4 := HHm.cell (j := 4) rfl
   have m5 := HHm.cell (j := 5) rfl
   have m6 := HHm.cell (j := 6) rfl
   have m7 := HHm.cell (j := 7) rfl
   have m8 := HHm.cell (j := 8) rfl
   have m9 := HHm.cell (j := 9) rfl
   have m10 := HHm.cell (j := 10) rfl
   have m11 := HHm.cell (j := 11) rfl
   clear HHm
   have HHn := R8'.out.at (.head _)
   have n0 := HHn.cell (j := 0) rfl
   have n1 := HHn.cell (j := 1) rfl
   have n2 := HHn.cell (j := 2) rfl
   have n3 := HHn.cell (j := 3) rfl
   have n4 := HHn.cell (j := 4) rfl
   have n5 := HHn.cell (j := 5) rfl
   have n6 := HHn.cell (j := 6) rfl
   have n7 := HHn.cell (j := 7) rfl
   have n8 := HHn.cell (j := 8) rfl
   have n9 := HHn.cell (j := 9) rfl
   have n10 := HHn.cell (j := 10) rfl
   have nf0 := HHn.free (j := 0) (by simp)
   have nf1 := HHn.free (j := 1) (by simp)
   have nf2 := HHn.free (j := 2) (by simp)
   have nf3 := HHn.free (j := 3) (by simp)
   have nf4 := HHn.free (j := 4) (by simp)
   have nf5 := HHn.free (j := 5) (by simp)
   have nf6 := HHn.free (j := 6) (by simp)
   have nf7 := HHn.free (j := 7) (by simp)
   have nf8 := HHn.free (j := 8) (by simp)
   have nf9 := HHn.free (j := 9) (by simp)
   have nf10 := HHn.free (j := 10) (by simp)
   have r0 : cls = vcls := by
    have := T0.out.symm
    simpa using this
   have r1 : 0 = vflow := by
    have := T1.out.symm
    simpa using this
   have r2 : next = vnext := by
    have := T2.out.symm
    simpa using this
   have r3 : hops = vhops := by
    have := T3.out.symm
    simpa using this
   have r4 : src = vsrc := by
    have := T4.out.symm
    simpa using this
   have r5 : dst = vdst := by
    have := T5.out.symm
    simpa using this
   have r6 : true = vpiece := by
    have := T6.out.symm
    simpa using this
   have r7 : true = vmore := by
    have := T7.out.symm
    simpa using this
   have r8 : off = voff := by
    have := T8.out.symm
    simpa using this
   have r9 : (id % 65536) = vid := by
    have := T9.out.symm
    simpa using this
   have r10 : data = vdata := by
    have := T10.out.symm
    simpa using this
   subst r0 r1 r2 r3 r4 r5 r6 r7 r8 r9 r10
   clear T0 T1 T2 T3 T4 T5 T6 T7 T8 T9 T10 HPC
   have hne := fun W => eqV6O_bin (⟨cls, 0, next, hops, src, dst, true, true, off, (id % 65536), data⟩ : P6) 0 W
   dsimp only at hne
   have HFB : Hid (Below w.heap.size w ((W12.setCell ⟨Yb, 1, none⟩ (.int .i64 0)).setCell ⟨Yb, 9, none⟩ (.int .i64 (id % 65536)))) := ((R8'.out.b.setCell (p := ⟨Yb, 1, none⟩) hYb (.int .i64 0)).setCell (p := ⟨Yb, 9, none⟩) hYb (.int .i64 (id % 65536)))
   clear R8 R8'
   go_wp2_with fail
   go_ret
   exact ⟨rfl, HFB.out⟩
  | false =>
   by_cases c3 : off = 0
   ·subst c3
    have hpc : pc = true := by rw [HPC.out]; rfl
    subst hpc
    have R8' : Hid (Bxs w [(Yb, [.int .i64 cls, .int .i64 flow, .int .i64 next, .int .i64 hops, .string src, .string dst, .bool true, .bool false, .int .i64 0, .int .i64 id, .string data]), (Vb, [.int .i64 vcls, .int .i64 vflow, .int .i64 vnext, .int .i64 vhops, .string vsrc, .string vdst, .bool vpiece, .bool vmore, .int .i64 voff, .int .i64 vid, .string vdata, .int .i64 0]), (Ub, [.int .i64 utos, .int .i64 uid, .bool uwhole, .bool umore, .int .i64 uoff, .int .i64 uttl, .int .i64 uproto, .string usrc, .string udst, .string uopts, .string udata, .int .i64 0]), (Qb, [.int .i64 cls, .int .i64 flow, .int .i64 next, .int .i64 hops, .string src, .string dst, .bool true, .bool false, .int .i64 0, .int .i64 id, .string data])] W12) := R8.out
    have HHk := R8'.out.at (.tail _ (.tail _ (.tail _ (.head _))))
    have k0 := HHk.cell (j := 0) rfl
    have k1 := HHk.cell (j := 1) rfl
    have k2 := HHk.cell (j := 2) rfl
    have k3 := HHk.cell (j := 3) rfl
    have k4 := HHk.cell (j := 4) rfl
    have k5 := HHk.cell (j := 5) rfl
    have k6 := HHk.cell (j := 6) rfl
    have k7 := HHk.cell (j := 7) rfl
    have k8 := HHk.cell (j := 8) rfl
    have k9 := HHk.cell (j := 9) rfl
    have k10 := HHk.cell (j := 10) rfl
    clear HHk
    have HHm := R8'.out.at (.tail _ (.head _))
    have m0 := HHm.cell (j := 0) rfl
    have m1 := HHm.cell (j := 1) rfl
    have m2 := HHm.cell (j := 2) rfl
    have m3 := HHm.cell (j := 3) rfl
    have m4 := HHm.cell (j := 4) rfl
    have m5 := HHm.cell (j := 5) rfl
    have m6 := HHm.cell (j := 6) rfl
    have m7 := HHm.cell (j := 7) rfl
    have m8 := HHm.cell (j := 8) rfl
    have m9 := HHm.cell (j := 9) rfl
    have m10 := HHm.cell (j := 10) rfl
    have m11 := HHm.cell (j := 11) rfl
    clear HHm
    have HHn := R8'.out.at (.head _)
    have n0 := HHn.cell (j := 0) rfl
    have n1 := HHn.cell (j := 1) rfl
    have n2 := HHn.cell (j := 2) rfl
    have n3 := HHn.cell (j := 3) rfl
    have n4 := HHn.cell (j := 4) rfl
    have n5 := HHn.cell (j := 5) rfl
    have n6 := HHn.cell (j := 6) rfl
    have n7 := HHn.cell (j := 7) rfl
    have n8 := HHn.cell (j := 8) rfl
    have n9 := HHn.cell (j := 9) rfl
    have n10 := HHn.cell (j := 10) rfl
    have nf0 := HHn.free (j := 0) (by simp)
    have nf1 := HHn.free (j := 1) (by simp)
    have nf2 := HHn.free (j := 2) (by simp)
    have nf3 := HHn.free (j := 3) (by simp)
    have nf4 := HHn.free (j := 4) (by simp)
    have nf5 := HHn.free (j := 5) (by simp)
    have nf6 := HHn.free (j := 6) (by simp)
    have nf7 := HHn.free (j := 7) (by simp)
    have nf8 := HHn.free (j := 8) (by simp)
    have nf9 := HHn.free (j := 9) (by simp)
    have nf10 := HHn.free (j := 10) (by simp)
    have r0 : cls = vcls := by
     have := T0.out.symm
     simpa using this
    have r1 : 0 = vflow := by
     have := T1.out.symm
     simpa using this
    have r2 : next = vnext := by
     have := T2.out.symm
     simpa using this
    have r3 : hops = vhops := by
     have := T3.out.symm
     simpa using this
    have r4 : src = vsrc := by
     have := T4.out.symm
     simpa using this
    have r5 : dst = vdst := by
     have := T5.out.symm
     simpa using this
    have r6 : false = vpiece := by
     have := T6.out.symm
     simpa using this
    have r7 : false = vmore := by
     have := T7.out.symm
     simpa using this
    have r8 : 0 = voff := by
     have := T8.out.symm
     simpa using this
    have r9 : 0 = vid := by
     have := T9.out.symm
     simpa using this
    have r10 : data = vdata := by
     have := T10.out.symm
     simpa using this
    subst r0 r1 r2 r3 r4 r5 r6 r7 r8 r9 r10
    clear T0 T1 T2 T3 T4 T5 T6 T7 T8 T9 T10 HPC
    have hne := fun W => eqV6O_bin (⟨cls, 0, next, hops, src, dst, false, false, 0, 0, data⟩ : P6) 0 W
    dsimp only at hne
    have hc9 : ((((W12.setCell ⟨Yb, 1, none⟩ (.int .i64 0)).setCell ⟨Yb, 9, none⟩ (.int .i64 (id % 65536))).setCell ⟨Yb, 6, none⟩ (.bool false)).setCell ⟨Yb, 9, none⟩ (.int .i64 0)).cell? ⟨Yb, 9, none⟩ = some (.int .i64 0) := (((((HHn.set 1 (.int .i64 0)).set 9 (.int .i64 (id % 65536))).set 6 (.bool false)).set 9 (.int .i64 0))).cell rfl
    have HFB : Hid (Below w.heap.size w ((((W12.setCell ⟨Yb, 1, none⟩ (.int .i64 0)).setCell ⟨Yb, 9, none⟩ (.int .i64 (id % 65536))).setCell ⟨Yb, 6, none⟩ (.bool false)).setCell ⟨Yb, 9, none⟩ (.int .i64 0))) := ((((R8'.out.b.setCell (p := ⟨Yb, 1, none⟩) hYb (.int .i64 0)).setCell (p := ⟨Yb, 9, none⟩) hYb (.int .i64 (id % 65536))).setCell (p := ⟨Yb, 6, none⟩) hYb (.bool false)).setCell (p := ⟨Yb, 9, none⟩) hYb (.int .i64 0))
    clear R8 R8'
    go_wp2_with fail
    go_ret
    exact ⟨rfl, HFB.out⟩
   ·have d3 : (off == 0) = false := by simpa using c3
    have hpc : pc = false := by rw [HPC.out]; simp [c3]
    subst hpc
    have R8' : Hid (Bxs w [(Yb, [.int .i64 cls, .int .i64 flow, .int .i64 next, .int .i64 hops, .string src, .string dst, .bool true, .bool false, .int .i64 off, .int .i64 id, .string data]), (Vb, [.int .i64 vcls, .int .i64 vflow, .int .i64 vnext, .int .i64 vhops, .string vsrc, .string vdst, .bool vpiece, .bool vmore, .int .i64 voff, .int .i64 vid, .string vdata, .int .i64 0]), (Ub, [.int .i64 utos, .int .i64 uid, .bool uwhole, .bool umore, .int .i64 uoff, .int .i64 uttl, .int .i64 uproto, .string usrc, .string udst, .string uopts, .string udata, .int .i64 0]), (Qb, [.int .i64 cls, .int .i64 flow, .int .i64 next, .int .i64 hops, .string src, .string dst, .bool true, .bool false, .int .i64 off, .int .i64 id, .string data])] W12) := R8.out
    have HHk := R8'.out.at (.tail _ (.tail _ (.tail _ (.head _))))
    have k0 := HHk.cell (j := 0) rfl
    have k1 := HHk.cell (j := 1) rfl
    have k2 := HHk.cell (j := 2) rfl
    have k3 := HHk.cell (j := 3) rfl
    have k4 := HHk.cell (j := 4) rfl
    have k5 := HHk.cell (j := 5) rfl
    have k6 := HHk.cell (j := 6) rfl
    have k7 := HHk.cell (j := 7) rfl
    have k8 := HHk.cell (j := 8) rfl
    have k9 := HHk.cell (j := 9) rfl
    have k10 := HHk.cell (j := 10) rfl
    clear HHk
    have HHm := R8'.out.at (.tail _ (.head _))
    have m0 := HHm.cell (j := 0) rfl
    have m1 := HHm.cell (j := 1) rfl
    have m2 := HHm.cell (j := 2) rfl
    have m3 := HHm.cell (j := 3) rfl
    have m4 := HHm.cell (j := 4) rfl
    have m5 := HHm.cell (j := 5) rfl
    have m6 := HHm.cell (j := 6) rfl
    have m7 := HHm.cell (j := 7) rfl
    have m8 := HHm.cell (j := 8) rfl
    have m9 := HHm.cell (j := 9) rfl
    have m10 := HHm.cell (j := 10) rfl
    have m11 := HHm.cell (j := 11) rfl
    clear HHm
    have HHn := R8'.out.at (.head _)
    have n0 := HHn.cell (j := 0) rfl
    have n1 := HHn.cell (j := 1) rfl
    have n2 := HHn.cell (j := 2) rfl
    have n3 := HHn.cell (j := 3) rfl
    have n4 := HHn.cell (j := 4) rfl
    have n5 := HHn.cell (j := 5) rfl
    have n6 := HHn.cell (j := 6) rfl
    have n7 := HHn.cell (j := 7) rfl
    have n8 := HHn.cell (j := 8) rfl
    have n9 := HHn.cell (j := 9) rfl
    have n10 := HHn.cell (j := 10) rfl
    have nf0 := HHn.free (j := 0) (by simp)
    have nf1 := HHn.free (j := 1) (by simp)
    have nf2 := HHn.free (j := 2) (by simp)
    have nf3 := HHn.free (j := 3) (by simp)
    have nf4 := HHn.free (j := 4) (by simp)
    have nf5 := HHn.free (j := 5) (by simp)
    have nf6 := HHn.free (j := 6) (by simp)
    have nf7 := HHn.free (j := 7) (by simp)
    have nf8 := HHn.free (j := 8) (by simp)
    have nf9 := HHn.free (j := 9) (by simp)
    have nf10 := HHn.free (j := 10) (by simp)
    have r0 : cls = vcls := by
     have := T0.out.symm
     simpa using this
    have r1 : 0 = vflow := by
     have := T1.out.symm
     simpa using this
    have r2 : next = vnext := by
     have := T2.out.symm
     simpa using this
    have r3 : hops = vhops := by
     have := T3.out.symm
     simpa using this
    have r4 : src = vsrc := by
     have := T4.out.symm
     simpa using this
    have r5 : dst = vdst := by
     have := T5.out.symm
     simpa using this
    have r6 : true = vpiece := by
     have := T6.out.symm
     simpa using this
    have r7 : false = vmore := by
     have := T7.out.symm
     simpa using this
    have r8 : off = voff := by
     have := T8.out.symm
     simpa using this
    have r9 : (id % 65536) = vid := by
     have := T9.out.symm
     simpa using this
    have r10 : data = vdata := by
     have := T10.out.symm
     simpa using this
    subst r0 r1 r2 r3 r4 r5 r6 r7 r8 r9 r10
    clear T0 T1 T2 T3 T4 T5 T6 T7 T8 T9 T10 HPC
    have hne := fun W => eqV6O_bin (⟨cls, 0, next, hops, src, dst, true, false, off, (id % 65536), data⟩ : P6) 0 W
    dsimp only at hne
    have HFB : Hid (Below w.heap.size w ((W12.setCell ⟨Yb, 1, none⟩ (.int .i64 0)).setCell ⟨Yb, 9, none⟩ (.int .i64 (id % 65536)))) := ((R8'.out.b.setCell (p := ⟨Yb, 1, none⟩) hYb (.int .i64 0)).setCell (p := ⟨Yb, 9, none⟩) hYb (.int .i64 (id % 65536)))
    clear R8 R8'
    go_wp2_with fail
    go_ret
    exact ⟨rfl, HFB.out⟩
end Go.Proofs.Ytofenlclefkgdaa
