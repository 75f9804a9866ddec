/- LwSame: laws.lwSame of a bib and itself. Printed by mklwsame.py. -/
import Derived.Test.YtllagodlgipcpaaBdSame
import Derived.Test.YtllagodlgipcpaaMerged8
import Derived.Test.YtllagodlgipcpaaMerged6
namespace Go.Proofs.Ytllagodlgipcpaa
open Go.RowKit Go.PlainAid
set_option linter.unusedVariables false
set_option linter.unusedSimpArgs false
set_option maxRecDepth 100000 in
set_option maxHeartbeats 4000000 in
theorem lwSame_same (x : Bb) (a1 b1 a2 b2 : Option Addr) (ca1 cb1 ca2 cb2 : Nat) (w : World) (hl1 : x.binds.length ≤ 1048576) (hl2 : x.sess.length ≤ 1048576) (h1 : BbIs w a1 b1 x) (h2 : BbIs w a2 b2 x) :
  Calls Try.prog 13 #[bbC a1 b1 ca1 cb1 x, bbC a2 b2 ca2 cb2 x] w fun e w' => e = .returned (.bool true) ∧ Below w.heap.size w w' := by
 have HB : Hid (Below w.heap.size w ((w.alloc (.cells #[.slice a1 x.binds.length ca1, .slice b1 x.sess.length cb1] 31)).alloc (.cells #[.slice a2 x.binds.length ca2, .slice b2 x.sess.length cb2] 31))) := ((Below.refl _ _).alloc (Nat.le_refl _) _).alloc (by simp) _
 have H0 := (HoldsL.new w [.slice a1 x.binds.length ca1, .slice b1 x.sess.length cb1] 31).alloc (.cells #[.slice a2 x.binds.length ca2, .slice b2 x.sess.length cb2] 31)
 have H1 := HoldsL.new (w.alloc (.cells #[.slice a1 x.binds.length ca1, .slice b1 x.sess.length cb1] 31)) [.slice a2 x.binds.length ca2, .slice b2 x.sess.length cb2] 31
 rw [World.size_alloc] at H1
 have G0 : Hid _ := H0
 have G1 : Hid _ := H1
 have R1 : Hid (BbIs w a1 b1 x) := h1
 have R2 : Hid (BbIs w a2 b2 x) := h2
 unfold bbC
 clear h1 h2 H0 H1
 go_enter Try.func13, Try.ntmps13
 go_upto_region 1 with fail
 generalize (w.alloc (.cells #[.slice a1 x.binds.length ca1, .slice b1 x.sess.length cb1] 31)).alloc (.cells #[.slice a2 x.binds.length ca2, .slice b2 x.sess.length cb2] 31) = W2 at *
 have HCL : Hid (∀ wy, Below W2.heap.size W2 wy → wy.cell? ⟨w.heap.size, 0, none⟩ = some (.slice a1 x.binds.length ca1) ∧ wy.cell? ⟨w.heap.size, 1, none⟩ = some (.slice b1 x.sess.length cb1) ∧ wy.cell? ⟨w.heap.size + 1, 0, none⟩ = some (.slice a2 x.binds.length ca2) ∧ wy.cell? ⟨w.heap.size + 1, 1, none⟩ = some (.slice b2 x.sess.length cb2)) :=
  fun wy hy => ⟨(G0.out.kept (by simp) hy).cell rfl, (G0.out.kept (by simp) hy).cell rfl, (G1.out.kept (by simp) hy).cell rfl, (G1.out.kept (by simp) hy).cell rfl⟩
 obtain ⟨k0, k1, k2, k3⟩ := HCL.out W2 (Below.refl _ _)
 go_wp2_with fail
 go_loopw [5] (fun i wr => ∃ k : Nat, k ≤ x.binds.length ∧ i = .int .i64 k ∧ Below W2.heap.size W2 wr) (fun i _ => x.binds.length - (intOf i).toNat)
 case atStart => exact ⟨0, Nat.zero_le _, rfl, Below.refl _ _⟩
 case round =>
  obtain ⟨k, hk, rfl, hbel⟩ := hrel
  have HL : Hid (Below W2.heap.size W2 wr) := hbel
  clear hbel
  obtain ⟨k0, k1, k2, k3⟩ := HCL.out wr HL.out
  by_cases hlt : k < x.binds.length
  ·obtain ⟨c1, o1, rfl, hc1, hA⟩ := R1.out.bd.at hlt
   obtain ⟨c2, o2, rfl, hc2, hB⟩ := R2.out.bd.at hlt
   have HW : Hid (Below w.heap.size w wr) := HB.out.trans (HL.out.mono HB.out.size)
   obtain ⟨q, hq⟩ : ∃ q, q = x.binds[k] := ⟨_, rfl⟩
   have CA : Hid (∀ wy, Below wr.heap.size wr wy → wy.cell? ⟨c1, o1 + k * 5, none⟩ = some (.int .i64 q.proto) ∧ wy.cell? ⟨c1, o1 + k * 5 + 1, none⟩ = some (.string q.inn) ∧ wy.cell? ⟨c1, o1 + k * 5 + 2, none⟩ = some (.int .i64 q.inPort) ∧ wy.cell? ⟨c1, o1 + k * 5 + 3, none⟩ = some (.string q.out) ∧ wy.cell? ⟨c1, o1 + k * 5 + 4, none⟩ = some (.int .i64 q.outPort)) := fun wy hy => by
    have h3 := (hA.below hc1 (HW.out.trans (hy.mono HW.out.size))) k hlt
    rw [← hq] at h3
    exact ⟨h3 0 _ rfl, h3 1 _ rfl, h3 2 _ rfl, h3 3 _ rfl, h3 4 _ rfl⟩
   have CB : Hid (∀ wy, Below wr.heap.size wr wy → wy.cell? ⟨c2, o2 + k * 5, none⟩ = some (.int .i64 q.proto) ∧ wy.cell? ⟨c2, o2 + k * 5 + 1, none⟩ = some (.string q.inn) ∧ wy.cell? ⟨c2, o2 + k * 5 + 2, none⟩ = some (.int .i64 q.inPort) ∧ wy.cell? ⟨c2, o2 + k * 5 + 3, none⟩ = some (.string q.out) ∧ wy.cell? ⟨c2, o2 + k * 5 + 4, none⟩ = some (.int .i64 q.outPort)) := fun wy hy => by
    have h3 := (hB.below hc2 (HW.out.trans (hy.mono HW.out.size))) k hlt
    rw [← hq] at h3
    exact ⟨h3 0 _ rfl, h3 1 _ rfl, h3 2 _ rfl, h3 3 _ rfl, h3 4 _ rfl⟩
   have HNE : Hid (∀ W, (binOp .neq 35 (.agg #[.int .i64 q.proto, .string q.inn, .int .i64 q.inPort, .string q.out, .int .i64 q.outPort]) (.agg #[.int .i64 q.proto, .string q.inn, .int .i64 q.inPort, .string q.out, .int .i64 q.outPort])).run Try.prog W = .ok (.bool false) W) := fun W => by rw [neBdW_bin q q W, sameBd_self]; rfl
   clear hq hA hB
   have hk2 : ¬ (x.binds.length : Int) ≤ (k : Int) := by omega
   go_upto_region 6 with fail
   go_cut [40] (fun v wx => v = .bool false ∧ Below wr.heap.size wr wx)
   case first =>
    rename_i J K2 hJ hK2
    refine wp_region_growH [30, 31, 32, 33, 34, 35, 36, 37, 38, 39, 40] (by kernel_rfl) (by kernel_rfl) ?_
    refine GCh.val (n := 0) (fun v => [IsV v]) (fun _ => rfl) rfl ?_
    apply Exists.intro
    refine And.intro ?_ ?_
    ·intro K' a wy ho hd hb hK
     rw [if_pos (wanted_none rfl)]
     have o2 := ho 2 (by decide)
     simp [slot] at o2
     clear hd ho
     go_simp
     try go_bits
     exact hK _ _ rfl (Below.refl _ _)
    refine GCh.val (n := 1) (fun v => [_, IsV v]) (fun _ => rfl) rfl ?_
    apply Exists.intro
    refine And.intro ?_ ?_
    ·intro K' a wy ho hd hb hK
     rw [if_pos (wanted_none rfl)]
     have q0 := hd ⟨0, .data⟩ (by simp) rfl
     simp [rAt, IsV, slot] at q0
     clear hd ho
     have hb := (Below.refl _ wr).drew.trans hb
     have hld := HCL.out wy (HL.out.trans (hb.mono HL.out.size))
     obtain ⟨k0, k1, k2, k3⟩ := hld
     have hca := CA.out wy hb
     have hcb := CB.out wy hb
     obtain ⟨m0, m1, m2, m3, m4⟩ := hca
     obtain ⟨n0, n1, n2, n3, n4⟩ := hcb
     go_simp
     try go_bits
     exact hK _ _ rfl (Below.refl _ _)
    refine GCh.val (n := 2) (fun v => [_, _, IsV v]) (fun _ => rfl) rfl ?_
    apply Exists.intro
    refine And.intro ?_ ?_
    ·intro K' a wy ho hd hb hK
     rw [if_pos (wanted_none rfl)]
     have o5 := ho 5 (by decide)
     simp [slot] at o5
     clear hd ho
     go_simp
     try go_bits
     exact hK _ _ rfl (Below.refl _ _)
    refine GCh.val (n := 3) (fun v => [_, _, _, IsV v]) (fun _ => rfl) rfl ?_
    apply Exists.intro
    refine And.intro ?_ ?_
    ·intro K' a wy ho hd hb hK
     rw [if_pos (wanted_none rfl)]
     have q1 := hd ⟨1, .data⟩ (by simp) rfl
     simp [rAt, IsV, slot] at q1
     have q2 := hd ⟨2, .data⟩ (by simp) rfl
     simp [rAt, IsV, slot] at q2
     clear hd ho
     go_simp
     try go_bits
     exact hK _ _ rfl (Below.refl _ _)
    refine GCh.val (n := 4) (fun v => [_, _, _, _, IsV v]) (fun _ => rfl) rfl ?_
    apply Exists.intro
    refine And.intro ?_ ?_
    ·intro K' a wy ho hd hb hK
     rw [if_pos (wanted_none rfl)]
     have q3 := hd ⟨3, .data⟩ (by simp) rfl
     simp [rAt, IsV, slot] at q3
     clear hd ho
     have hb := (Below.refl _ wr).drew.trans hb
     have hld := HCL.out wy (HL.out.trans (hb.mono HL.out.size))
     obtain ⟨k0, k1, k2, k3⟩ := hld
     have hca := CA.out wy hb
     have hcb := CB.out wy hb
     obtain ⟨m0, m1, m2, m3, m4⟩ := hca
     obtain ⟨n0, n1, n2, n3, n4⟩ := hcb
     go_simp
     try go_bits
     exact hK _ _ rfl (Below.refl _ _)
    refine GCh.val (n := 5) (fun v => [_, _, _, _, _, IsV v]) (fun _ => rfl) rfl ?_
    apply Exists.intro
    refine And.intro ?_ ?_
    ·intro K' a wy ho hd hb hK
     rw [if_pos (wanted_none rfl)]
     have o3 := ho 3 (by decide)
     simp [slot] at o3
     clear hd ho
     go_simp
     try go_bits
     exact hK _ _ rfl (Below.refl _ _)
    refine GCh.val (n := 6) (fun v => [_, _, _, _, _, _, IsV v]) (fun _ => rfl) rfl ?_
    apply Exists.intro
    refine And.intro ?_ ?_
    ·intro K' a wy ho hd hb hK
     rw [if_pos (wanted_none rfl)]
     have q5 := hd ⟨5, .data⟩ (by simp) rfl
     simp [rAt, IsV, slot] at q5
     clear hd ho
     have hb := (Below.refl _ wr).drew.trans hb
     have hld := HCL.out wy (HL.out.trans (hb.mono HL.out.size))
     obtain ⟨k0, k1, k2, k3⟩ := hld
     have hca := CA.out wy hb
     have hcb := CB.out wy hb
     obtain ⟨m0, m1, m2, m3, m4⟩ := hca
     obtain ⟨n0, n1, n2, n3, n4⟩ := hcb
     go_simp
     try go_bits
     exact hK _ _ rfl (Below.refl _ _)
    refine GCh.val (n := 7) (fun v => [_, _, _, _, _, _, _, IsV v]) (fun _ => rfl) rfl ?_
    apply Exists.intro
    refine And.intro ?_ ?_
    ·intro K' a wy ho hd hb hK
     rw [if_pos (wanted_none rfl)]
     have o5 := ho 5 (by decide)
     simp [slot] at o5
     clear hd ho
     go_simp
     try go_bits
     exact hK _ _ rfl (Below.refl _ _)
    refine GCh.val (n := 8) (fun v => [_, _, _, _, _, _, _, _, IsV v]) (fun _ => rfl) rfl ?_
    apply Exists.intro
    refine And.intro ?_ ?_
    ·intro K' a wy ho hd hb hK
     rw [if_pos (wanted_none rfl)]
     have q6 := hd ⟨6, .data⟩ (by simp) rfl
     simp [rAt, IsV, slot] at q6
     have q7 := hd ⟨7, .data⟩ (by simp) rfl
     simp [rAt, IsV, slot] at q7
     clear hd ho
     go_simp
     try go_bits
     exact hK _ _ rfl (Below.refl _ _)
    refine GCh.val (n := 9) (fun v => [_, _, _, _, _, _, _, _, _, IsV v]) (fun _ => rfl) rfl ?_
    apply Exists.intro
    refine And.intro ?_ ?_
    ·intro K' a wy ho hd hb hK
     rw [if_pos (wanted_none rfl)]
     have q8 := hd ⟨8, .data⟩ (by simp) rfl
     simp [rAt, IsV, slot] at q8
     clear hd ho
     have hb := (Below.refl _ wr).drew.trans hb
     have hld := HCL.out wy (HL.out.trans (hb.mono HL.out.size))
     obtain ⟨k0, k1, k2, k3⟩ := hld
     have hca := CA.out wy hb
     have hcb := CB.out wy hb
     obtain ⟨m0, m1, m2, m3, m4⟩ := hca
     obtain ⟨n0, n1, n2, n3, n4⟩ := hcb
     go_simp
     try go_bits
     exact hK _ _ rfl (Below.refl _ _)
    refine GCh.val (n := 10) (fun v => [_, _, _, _, _, _, _, _, _, _, IsV v]) (fun _ => rfl) rfl ?_
    apply Exists.intro
    refine And.intro ?_ ?_
    ·intro K' a wy ho hd hb hK
     rw [if_pos (wanted_none rfl)]
     have q4 := hd ⟨4, .data⟩ (by simp) rfl
     simp [rAt, IsV, slot] at q4
     have q9 := hd ⟨9, .data⟩ (by simp) rfl
     simp [rAt, IsV, slot] at q9
     clear hd ho
     have hne := HNE.out wy
     go_simp
     try go_bits
     exact hK _ _ rfl (Below.refl _ _)
    intro X wz hR hz
    obtain ⟨x0, x1, x2, x3, x4, x5, x6, x7, x8, x9, x10, -⟩ := hR
    simp only [IsV] at x0 x1 x2 x3 x4 x5 x6 x7 x8 x9 x10
    simp only [putsFrom, x0, x1, x2, x3, x4, x5, x6, x7, x8, x9, x10]
    clear x0 x1 x2 x3 x4 x5 x6 x7 x8 x9 x10
    go_simp
    refine hK2 _ _ (hJ _ _ ?_)
    (repeat apply Exists.intro)
    refine ⟨⟨rfl, (Below.refl _ wr).drew.trans hz⟩, rfl⟩
   case rest =>
   obtain ⟨rfl, hbd⟩ := hcut
   have HL2 : Hid (Below W2.heap.size W2 wc) := HL.out.trans (hbd.mono HL.out.size)
   clear hbd
   go_wp2_with fail
   go_roundw
   case rel => exact ⟨k + 1, by omega, by go_num, HL2.out⟩
   case measure => simp [intOf]; omega
  ·have hk2 : (x.binds.length : Int) ≤ (k : Int) := by omega
   go_wp2_with fail
   go_loopw [6] (fun i wr => ∃ k : Nat, k ≤ x.sess.length ∧ i = .int .i64 k ∧ Below W2.heap.size W2 wr) (fun i _ => x.sess.length - (intOf i).toNat)
   case atStart => exact ⟨0, Nat.zero_le _, rfl, HL.out⟩
   case round =>
    obtain ⟨k, hk, rfl, hbel⟩ := hrel
    have HL : Hid (Below W2.heap.size W2 wr) := hbel
    clear hbel
    obtain ⟨k0, k1, k2, k3⟩ := HCL.out wr HL.out
    by_cases hlt : k < x.sess.length
    ·obtain ⟨c1, o1, rfl, hc1, hA⟩ := R1.out.ss.at hlt
     obtain ⟨c2, o2, rfl, hc2, hB⟩ := R2.out.ss.at hlt
     have HW : Hid (Below w.heap.size w wr) := HB.out.trans (HL.out.mono HB.out.size)
     obtain ⟨q, hq⟩ : ∃ q, q = x.sess[k] := ⟨_, rfl⟩
     have CA : Hid (∀ wy, Below wr.heap.size wr wy → wy.cell? ⟨c1, o1 + k * 7, none⟩ = some (.int .i64 q.proto) ∧ wy.cell? ⟨c1, o1 + k * 7 + 1, none⟩ = some (.string q.inn) ∧ wy.cell? ⟨c1, o1 + k * 7 + 2, none⟩ = some (.int .i64 q.inPort) ∧ wy.cell? ⟨c1, o1 + k * 7 + 3, none⟩ = some (.string q.peer) ∧ wy.cell? ⟨c1, o1 + k * 7 + 4, none⟩ = some (.int .i64 q.peerPort) ∧ wy.cell? ⟨c1, o1 + k * 7 + 5, none⟩ = some (.int .i64 q.state) ∧ wy.cell? ⟨c1, o1 + k * 7 + 6, none⟩ = some (.int .i64 q.untl)) := fun wy hy => by
      have h3 := (hA.below hc1 (HW.out.trans (hy.mono HW.out.size))) k hlt
      rw [← hq] at h3
      exact ⟨h3 0 _ rfl, h3 1 _ rfl, h3 2 _ rfl, h3 3 _ rfl, h3 4 _ rfl, h3 5 _ rfl, h3 6 _ rfl⟩
     have CB : Hid (∀ wy, Below wr.heap.size wr wy → wy.cell? ⟨c2, o2 + k * 7, none⟩ = some (.int .i64 q.proto) ∧ wy.cell? ⟨c2, o2 + k * 7 + 1, none⟩ = some (.string q.inn) ∧ wy.cell? ⟨c2, o2 + k * 7 + 2, none⟩ = some (.int .i64 q.inPort) ∧ wy.cell? ⟨c2, o2 + k * 7 + 3, none⟩ = some (.string q.peer) ∧ wy.cell? ⟨c2, o2 + k * 7 + 4, none⟩ = some (.int .i64 q.peerPort) ∧ wy.cell? ⟨c2, o2 + k * 7 + 5, none⟩ = some (.int .i64 q.state) ∧ wy.cell? ⟨c2, o2 + k * 7 + 6, none⟩ = some (.int .i64 q.untl)) := fun wy hy => by
      have h3 := (hB.below hc2 (HW.out.trans (hy.mono HW.out.size))) k hlt
      rw [← hq] at h3
      exact ⟨h3 0 _ rfl, h3 1 _ rfl, h3 2 _ rfl, h3 3 _ rfl, h3 4 _ rfl, h3 5 _ rfl, h3 6 _ rfl⟩
     have HNE : Hid (∀ W, (binOp .neq 48 (.agg #[.int .i64 q.proto, .string q.inn, .int .i64 q.inPort, .string q.peer, .int .i64 q.peerPort, .int .i64 q.state, .int .i64 q.untl]) (.agg #[.int .i64 q.proto, .string q.inn, .int .i64 q.inPort, .string q.peer, .int .i64 q.peerPort, .int .i64 q.state, .int .i64 q.untl])).run Try.prog W = .ok (.bool false) W) := fun W => by rw [neSsW_bin q q W, sameSs_self]; rfl
     clear hq hA hB
     have hk2 : ¬ (x.sess.length : Int) ≤ (k : Int) := by omega
     go_upto_region 11 with fail
     go_cut [58] (fun v wx => v = .bool false ∧ Below wr.heap.size wr wx)
     case first =>
      rename_i J K2 hJ hK2
      refine wp_region_growH [48, 49, 50, 51, 52, 53, 54, 55, 56, 57, 58] (by kernel_rfl) (by kernel_rfl) ?_
      refine GCh.val (n := 0) (fun v => [IsV v]) (fun _ => rfl) rfl ?_
      apply Exists.intro
      refine And.intro ?_ ?_
      ·intro K' a wy ho hd hb hK
       rw [if_pos (wanted_none rfl)]
       have o2 := ho 2 (by decide)
       simp [slot] at o2
       clear hd ho
       go_simp
       try go_bits
       exact hK _ _ rfl (Below.refl _ _)
      refine GCh.val (n := 1) (fun v => [_, IsV v]) (fun _ => rfl) rfl ?_
      apply Exists.intro
      refine And.intro ?_ ?_
      ·intro K' a wy ho hd hb hK
       rw [if_pos (wanted_none rfl)]
       have q0 := hd ⟨0, .data⟩ (by simp) rfl
       simp [rAt, IsV, slot] at q0
       clear hd ho
       have hb := (Below.refl _ wr).drew.trans hb
       have hld := HCL.out wy (HL.out.trans (hb.mono HL.out.size))
       obtain ⟨k0, k1, k2, k3⟩ := hld
       have hca := CA.out wy hb
       have hcb := CB.out wy hb
       obtain ⟨m0, m1, m2, m3, m4, m5, m6⟩ := hca
       obtain ⟨n0, n1, n2, n3, n4, n5, n6⟩ := hcb
       go_simp
       try go_bits
       exact hK _ _ rfl (Below.refl _ _)
      refine GCh.val (n := 2) (fun v => [_, _, IsV v]) (fun _ => rfl) rfl ?_
      apply Exists.intro
      refine And.intro ?_ ?_
      ·intro K' a wy ho hd hb hK
       rw [if_pos (wanted_none rfl)]
       have o6 := ho 6 (by decide)
       simp [slot] at o6
       clear hd ho
       go_simp
       try go_bits
       exact hK _ _ rfl (Below.refl _ _)
      refine GCh.val (n := 3) (fun v => [_, _, _, IsV v]) (fun _ => rfl) rfl ?_
      apply Exists.intro
      refine And.intro ?_ ?_
      ·intro K' a wy ho hd hb hK
       rw [if_pos (wanted_none rfl)]
       have q1 := hd ⟨1, .data⟩ (by simp) rfl
       simp [rAt, IsV, slot] at q1
       have q2 := hd ⟨2, .data⟩ (by simp) rfl
       simp [rAt, IsV, slot] at q2
       clear hd ho
       go_simp
       try go_bits
       exact hK _ _ rfl (Below.refl _ _)
      refine GCh.val (n := 4) (fun v => [_, _, _, _, IsV v]) (fun _ => rfl) rfl ?_
      apply Exists.intro
      refine And.intro ?_ ?_
      ·intro K' a wy ho hd hb hK
       rw [if_pos (wanted_none rfl)]
       have q3 := hd ⟨3, .data⟩ (by simp) rfl
       simp [rAt, IsV, slot] at q3
       clear hd ho
       have hb := (Below.refl _ wr).drew.trans hb
       have hld := HCL.out wy (HL.out.trans (hb.mono HL.out.size))
       obtain ⟨k0, k1, k2, k3⟩ := hld
       have hca := CA.out wy hb
       have hcb := CB.out wy hb
       obtain ⟨m0, m1, m2, m3, m4, m5, m6⟩ := hca
       obtain ⟨n0, n1, n2, n3, n4, n5, n6⟩ := hcb
       go_simp
       try go_bits
       exact hK _ _ rfl (Below.refl _ _)
      refine GCh.val (n := 5) (fun v => [_, _, _, _, _, IsV v]) (fun _ => rfl) rfl ?_
      apply Exists.intro
      refine And.intro ?_ ?_
      ·intro K' a wy ho hd hb hK
       rw [if_pos (wanted_none rfl)]
       have o3 := ho 3 (by decide)
       simp [slot] at o3
       clear hd ho
       go_simp
       try go_bits
       exact hK _ _ rfl (Below.refl _ _)
      refine GCh.val (n := 6) (fun v => [_, _, _, _, _, _, IsV v]) (fun _ => rfl) rfl ?_
      apply Exists.intro
      refine And.intro ?_ ?_
      ·intro K' a wy ho hd hb hK
       rw [if_pos (wanted_none rfl)]
       have q5 := hd ⟨5, .data⟩ (by simp) rfl
       simp [rAt, IsV, slot] at q5
       clear hd ho
       have hb := (Below.refl _ wr).drew.trans hb
       have hld := HCL.out wy (HL.out.trans (hb.mono HL.out.size))
       obtain ⟨k0, k1, k2, k3⟩ := hld
       have hca := CA.out wy hb
       have hcb := CB.out wy hb
       obtain ⟨m0, m1, m2, m3, m4, m5, m6⟩ := hca
       obtain ⟨n0, n1, n2, n3, n4, n5, n6⟩ := hcb
       go_simp
       try go_bits
       exact hK _ _ rfl (Below.refl _ _)
      refine GCh.val (n := 7) (fun v => [_, _, _, _, _, _, _, IsV v]) (fun _ => rfl) rfl ?_
      apply Exists.intro
      refine And.intro ?_ ?_
      ·intro K' a wy ho hd hb hK
       rw [if_pos (wanted_none rfl)]
       have o6 := ho 6 (by decide)
       simp [slot] at o6
       clear hd ho
       go_simp
       try go_bits
       exact hK _ _ rfl (Below.refl _ _)
      refine GCh.val (n := 8) (fun v => [_, _, _, _, _, _, _, _, IsV v]) (fun _ => rfl) rfl ?_
      apply Exists.intro
      refine And.intro ?_ ?_
      ·intro K' a wy ho hd hb hK
       rw [if_pos (wanted_none rfl)]
       have q6 := hd ⟨6, .data⟩ (by simp) rfl
       simp [rAt, IsV, slot] at q6
       have q7 := hd ⟨7, .data⟩ (by simp) rfl
       simp [rAt, IsV, slot] at q7
       clear hd ho
       go_simp
       try go_bits
       exact hK _ _ rfl (Below.refl _ _)
      refine GCh.val (n := 9) (fun v => [_, _, _, _, _, _, _, _, _, IsV v]) (fun _ => rfl) rfl ?_
      apply Exists.intro
      refine And.intro ?_ ?_
      ·intro K' a wy ho hd hb hK
       rw [if_pos (wanted_none rfl)]
       have q8 := hd ⟨8, .data⟩ (by simp) rfl
       simp [rAt, IsV, slot] at q8
       clear hd ho
       have hb := (Below.refl _ wr).drew.trans hb
       have hld := HCL.out wy (HL.out.trans (hb.mono HL.out.size))
       obtain ⟨k0, k1, k2, k3⟩ := hld
       have hca := CA.out wy hb
       have hcb := CB.out wy hb
       obtain ⟨m0, m1, m2, m3, m4, m5, m6⟩ := hca
       obtain ⟨n0, n1, n2, n3, n4, n5, n6⟩ := hcb
       go_simp
       try go_bits
       exact hK _ _ rfl (Below.refl _ _)
      refine GCh.val (n := 10) (fun v => [_, _, _, _, _, _, _, _, _, _, IsV v]) (fun _ => rfl) rfl ?_
      apply Exists.intro
      refine And.intro ?_ ?_
      ·intro K' a wy ho hd hb hK
       rw [if_pos (wanted_none rfl)]
       have q4 := hd ⟨4, .data⟩ (by simp) rfl
       simp [rAt, IsV, slot] at q4
       have q9 := hd ⟨9, .data⟩ (by simp) rfl
       simp [rAt, IsV, slot] at q9
       clear hd ho
       have hne := HNE.out wy
       go_simp
       try go_bits
       exact hK _ _ rfl (Below.refl _ _)
      intro X wz hR hz
      obtain ⟨x0, x1, x2, x3, x4, x5, x6, x7, x8, x9, x10, -⟩ := hR
      simp only [IsV] at x0 x1 x2 x3 x4 x5 x6 x7 x8 x9 x10
      simp only [putsFrom, x0, x1, x2, x3, x4, x5, x6, x7, x8, x9, x10]
      clear x0 x1 x2 x3 x4 x5 x6 x7 x8 x9 x10
      go_simp
      refine hK2 _ _ (hJ _ _ ?_)
      (repeat apply Exists.intro)
      refine ⟨⟨rfl, (Below.refl _ wr).drew.trans hz⟩, rfl⟩
     case rest =>
     obtain ⟨rfl, hbd⟩ := hcut
     have HL2 : Hid (Below W2.heap.size W2 wc) := HL.out.trans (hbd.mono HL.out.size)
     clear hbd
     go_wp2_with fail
     go_roundw
     case rel => exact ⟨k + 1, by omega, by go_num, HL2.out⟩
     case measure => simp [intOf]; omega
    ·have hk2 : (x.sess.length : Int) ≤ (k : Int) := by omega
     go_wp2_with fail
     go_ret
     exact ⟨rfl, HB.out.trans (HL.out.mono HB.out.size)⟩
end Go.Proofs.Ytllagodlgipcpaa
