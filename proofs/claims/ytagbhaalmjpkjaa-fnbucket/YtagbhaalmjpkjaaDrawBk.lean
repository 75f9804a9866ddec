/- DrawBk: what the draws of buckets answer. Printed by mkdbk.py. -/
import Derived.Test.YtagbhaalmjpkjaaDrState
import Derived.Test.YtagbhaalmjpkjaaHoldL
import Derived.Test.YtagbhaalmjpkjaaBuck
import Derived.Test.YtagbhaalmjpkjaaDrawFlow
import Derived.Test.YtagbhaalmjpkjaaGrowXV
import Derived.Test.YtagbhaalmjpkjaaGrowXH
import Derived.Deep.DeepCutAuto
import Derived.Great.BuildSlice
import Derived.RegionTactic
namespace Go.Proofs.Ytagbhaalmjpkjaa
open Go.RowKit Go.PlainAid
set_option linter.unusedVariables false
set_option linter.unusedSimpArgs false

def bkL (b : Bk) : List Value := [.int .i64 b.left, .int .i64 b.most, .int .i64 b.each, .int .i64 b.since]
def bkZ : List Value := [.int .i64 0, .int .i64 0, .int .i64 0, .int .i64 0]
/-- Within int64, with room. -/
def BkDr (b : Bk) : Prop := (-1 ≤ b.left ∧ b.left ≤ 2000000001) ∧ (0 ≤ b.most ∧ b.most ≤ 2000000000) ∧ (0 ≤ b.each ∧ b.each ≤ 2000000000) ∧ (-1 ≤ b.since ∧ b.since ≤ 2000000000)
theorem pickBk {w w1 : World} {B k : Nat} (xs : List Int) {t : TypeId} (hg : (w.alloc (.cells (xs.map (fun x => Value.int .i64 x)).toArray t)).grownBy w1 (some B)) (hB : B < w.heap.size) (hk : k < xs.length) : ∃ r, w1.cell? ⟨w.heap.size, k, none⟩ = some (.int .i64 r) ∧ r ∈ xs :=
  ⟨xs[k], hg.cell (cell_new (by simp [hk])) (by simp; omega), List.getElem_mem hk⟩
/-- The answer's box, the bucket's and the source. -/
structure BkS (w : World) (B : Nat) (sa : Option Addr) (len cap : Nat) (size : Int) (PX : Nat) (b : Bk) (wx : World) : Prop where
  dr : Dr w B sa len cap size wx
  out : HoldsL wx w.heap.size bkZ
  box : HoldsL wx PX (bkL b)
  hX : w.heap.size < PX
theorem BkS.below {w wx wy : World} {B len cap PX : Nat} {sa : Option Addr} {size : Int} {b : Bk} (h : BkS w B sa len cap size PX b wx) (hb : Below wx.heap.size wx wy) : BkS w B sa len cap size PX b wy :=
  ⟨h.dr.below hb, h.out.kept (by simp [bkZ]) hb, h.box.kept (by simp [bkL]) hb, h.hX⟩
theorem BkS.draw {w wx wy : World} {B len cap PX : Nat} {sa : Option Addr} {size : Int} {b : Bk} (h : BkS w B sa len cap size PX b wx) (hs : Src wy B sa len cap size) (hg : wx.grownBy wy (some B)) : BkS w B sa len cap size PX b wy := by
  have hB := h.dr.hB
  have hX := h.hX
  exact ⟨h.dr.draw hs hg, h.out.grown (by simp [bkZ]) hg (by simp; omega), h.box.grown (by simp [bkL]) hg (by simp; omega), h.hX⟩
theorem BkS.set {w wx : World} {B len cap PX : Nat} {sa : Option Addr} {size : Int} {b : Bk} (h : BkS w B sa len cap size PX b wx) (j : Nat) (v : Value) (b' : Bk) (hv : (bkL b).set j v = bkL b') : BkS w B sa len cap size PX b' (wx.setCell ⟨PX, j, none⟩ v) :=
  ⟨h.dr.set PX j v (by have := h.hX; omega), h.out.setOther (by have := h.hX; omega) _, by have := h.box.set j v; rwa [hv] at this, h.hX⟩

set_option maxRecDepth 100000 in
set_option maxHeartbeats 2000000 in
theorem drawBucket_any (B : Nat) (sa : Option Addr) (len cap : Nat) (size : Int) (w : World) (hl : len ≤ 1048576) (hs : Src w B sa len cap size) :
    Calls Try.prog 22 #[.pointer (some ⟨B, 0, none⟩)] w fun e w' => ∃ b, e = .returned (bkC b) ∧ BkDr b ∧ Src w' B sa len cap size ∧ w.grownBy w' (some B) := by
  have hBW : B < w.heap.size := (Dr.start hs).hB
  have O0 : Hid (HoldsL (w.alloc (.cells bkZ.toArray 24)) w.heap.size bkZ) := HoldsL.new w bkZ _
  have D0 : Hid (Dr w B sa len cap size (w.alloc (.cells bkZ.toArray 24))) := (Dr.start hs).alloc _
  rw [show bkZ.toArray = #[.int .i64 0, .int .i64 0, .int .i64 0, .int .i64 0] from rfl] at O0 D0
  clear hs
  unfold bkC
  go_enter Try.func22, Try.ntmps22
  go_wp2_with fail
  refine (drawN_more 5 B sa len cap size _ (by omega) (by omega) hl D0.out.src).mono ?_
  rintro e w1 ⟨r1, rfl, lo1, hi1, hs, hg⟩
  have D1 : Hid (Dr w B sa len cap size w1) := D0.out.draw hs hg
  have O1 : Hid (HoldsL w1 w.heap.size bkZ) := O0.out.grown (by simp [bkZ]) hg (by simp; omega)
  clear hs hg D0 O0
  go_wp2_with fail
  refine (drawN_more 5 B sa len cap size _ (by omega) (by omega) hl D1.out.src).mono ?_
  rintro e w2 ⟨r2, rfl, lo2, hi2, hs, hg⟩
  have D2 : Hid (Dr w B sa len cap size w2) := D1.out.draw hs hg
  have O2 : Hid (HoldsL w2 w.heap.size bkZ) := O1.out.grown (by simp [bkZ]) hg (by simp; omega)
  clear hs hg D1 O1
  go_wp2_with fail
  refine (drawN_more 20 B sa len cap size _ (by omega) (by omega) hl D2.out.src).mono ?_
  rintro e w3 ⟨r3, rfl, lo3, hi3, hs, hg⟩
  have D3 : Hid (Dr w B sa len cap size w3) := D2.out.draw hs hg
  have O3 : Hid (HoldsL w3 w.heap.size bkZ) := O2.out.grown (by simp [bkZ]) hg (by simp; omega)
  clear hs hg D2 O2
  have hX : w.heap.size < w3.heap.size := O3.out.lt (by simp [bkZ])
  have S4 : Hid (BkS w B sa len cap size w3.heap.size ⟨0, 1 + r1, 1 + r2, r3⟩ (w3.alloc (.cells #[.int .i64 0, .int .i64 (1 + r1), .int .i64 (1 + r2), .int .i64 r3] 24))) := ⟨D3.out.alloc _, O3.out.alloc _, HoldsL.new w3 [.int .i64 0, .int .i64 (1 + r1), .int .i64 (1 + r2), .int .i64 r3] _, hX⟩
  clear D3 O3
  go_upto_region 2 with fail
  generalize w3.alloc (.cells #[.int .i64 0, .int .i64 (1 + r1), .int .i64 (1 + r2), .int .i64 r3] 24) = W4 at *
  generalize w3.heap.size = PX at *
  have HH : HoldsL W4 PX (bkL ⟨0, 1 + r1, 1 + r2, r3⟩) := S4.out.box
  have k0 : W4.cell? ⟨PX, 0, none⟩ = some (.int .i64 (0)) := HH.cell rfl
  have k1 : W4.cell? ⟨PX, 1, none⟩ = some (.int .i64 (1 + r1)) := HH.cell rfl
  have k2 : W4.cell? ⟨PX, 2, none⟩ = some (.int .i64 (1 + r2)) := HH.cell rfl
  have k3 : W4.cell? ⟨PX, 3, none⟩ = some (.int .i64 (r3)) := HH.cell rfl
  clear HH
  have wm : IntKind.i64.wrap (1 + r1 + 1) = 1 + r1 + 1 := by rw [IntKind.wrap_i64]; omega
  go_wp2_with fail
  refine (drawN_more (1 + r1 + 1) B sa len cap size _ (by omega) (by omega) hl S4.out.dr.src).mono ?_
  rintro e W5 ⟨r4, rfl, lo4, hi4, hs, hg⟩
  have S5 : Hid (BkS w B sa len cap size PX ⟨0, 1 + r1, 1 + r2, r3⟩ W5) := S4.out.draw hs hg
  clear hs hg S4 k0 k1 k2 k3
  have HH : HoldsL W5 PX (bkL ⟨0, 1 + r1, 1 + r2, r3⟩) := S5.out.box
  have k0 : W5.cell? ⟨PX, 0, none⟩ = some (.int .i64 (0)) := HH.cell rfl
  have k1 : W5.cell? ⟨PX, 1, none⟩ = some (.int .i64 (1 + r1)) := HH.cell rfl
  have k2 : W5.cell? ⟨PX, 2, none⟩ = some (.int .i64 (1 + r2)) := HH.cell rfl
  have k3 : W5.cell? ⟨PX, 3, none⟩ = some (.int .i64 (r3)) := HH.cell rfl
  have kf0 := HH.free (j := 0) (by simp [bkL])
  clear HH
  have S6 : Hid (BkS w B sa len cap size PX ⟨r4, 1 + r1, 1 + r2, r3⟩ (W5.setCell ⟨PX, 0, none⟩ (.int .i64 r4))) := S5.out.set 0 (.int .i64 r4) ⟨r4, 1 + r1, 1 + r2, r3⟩ rfl
  clear S5
  go_upto_region 3 with fail
  generalize W5.setCell ⟨PX, 0, none⟩ (.int .i64 r4) = W6 at *
  clear k0 k1 k2 k3 kf0
  obtain ⟨b0, hb0⟩ : ∃ b : Bk, b = ⟨r4, 1 + r1, 1 + r2, r3⟩ := ⟨_, rfl⟩
  rw [← hb0] at S6
  have K0 : Hid (BkDr b0) := by unfold Hid BkDr; rw [hb0]; dsimp only; omega
  clear hb0 lo1 lo2 lo3 lo4 hi1 hi2 hi3 hi4 wm
  go_wp2_with fail
  refine (drawOne_any 12 B sa len cap size _ (by omega) hl S6.out.dr.src).mono ?_
  rintro e W7 ⟨c7, rfl, hs, hg⟩
  have S7 : Hid (BkS w B sa len cap size PX b0 W7) := S6.out.draw hs hg
  clear hs hg S6
  have hXB : PX ≠ B := by have := S7.out.hX; omega
  go_upto_if 20 with fail
  go_cut [] (fun wx => ∃ b, BkDr b ∧ BkS w B sa len cap size PX b wx)
  case first =>
    cases c7 with
    | false =>
      go_wp2_with fail
      go_meet
      exact ⟨b0, K0.out, S7.out⟩
    | true =>
    go_wp2_with fail
    refine (drawN_more 4 B sa len cap size _ (by omega) (by omega) hl S7.out.dr.src).mono ?_
    rintro e W8 ⟨r6, rfl, lo6, hi6, hs, hg⟩
    have S8 : Hid (BkS w B sa len cap size PX b0 W8) := S7.out.draw hs hg
    clear hs hg S7
    obtain ⟨left, most, each, since⟩ := b0
    by_cases d0 : r6 = 0
    case pos =>
      subst d0
      clear lo6 hi6
      obtain ⟨m0, m1, m2, m3⟩ := K0.out
      dsimp only at m0 m1 m2 m3
      have wm : IntKind.i64.wrap (most + 1) = most + 1 := by rw [IntKind.wrap_i64]; omega
      go_upto_region 7 with fail
      refine wp_region_growXV (EB B) (fun wx => BkS w B sa len cap size PX ⟨left, most, each, since⟩ wx ∧ W8.heap.size ≤ wx.heap.size) [31, 32, 33, 34, 35, 36, 37, 38, 39, 40, 41] (by kernel_rfl) (by kernel_rfl) (⟨S8.out.below (Below.refl _ _).drew, Nat.le_refl _⟩) ?_
      refine XChV.val (n := 0) (fun v => [IsV v]) (fun _ => rfl) rfl ?_
      apply Exists.intro
      refine And.intro ?_ ?_
      · intro K' a wy ho hd hI hK
        rw [if_pos (wanted_none rfl)]
        have o3 := ho 3 (by decide)
        simp [slot] at o3
        clear hd ho
        go_simp
        try go_bits
        exact hK _ _ rfl (EB.of (Below.refl _ _)) hI
      refine XChV.val (n := 1) (fun v => [_, IsV v]) (fun _ => rfl) rfl ?_
      apply Exists.intro
      refine And.intro ?_ ?_
      · intro K' a wy ho hd hI hK
        rw [if_pos (wanted_none rfl)]
        have q0 := hd ⟨0, .data⟩ (by simp) rfl
        simp [rAt, IsV, slot] at q0
        clear hd ho
        have HH : HoldsL wy PX (bkL ⟨left, most, each, since⟩) := hI.1.box
        have k0 : wy.cell? ⟨PX, 0, none⟩ = some (.int .i64 left) := HH.cell rfl
        have k1 : wy.cell? ⟨PX, 1, none⟩ = some (.int .i64 most) := HH.cell rfl
        have k2 : wy.cell? ⟨PX, 2, none⟩ = some (.int .i64 each) := HH.cell rfl
        have k3 : wy.cell? ⟨PX, 3, none⟩ = some (.int .i64 since) := HH.cell rfl
        clear HH
        go_simp
        try go_bits
        exact hK _ _ rfl (EB.of (Below.refl _ _)) hI
      refine XChV.val (n := 2) (fun v => [_, _, IsV v]) (fun _ => rfl) rfl ?_
      apply Exists.intro
      refine And.intro ?_ ?_
      · intro K' a wy ho hd hI hK
        rw [if_pos (wanted_none rfl)]
        have o3 := ho 3 (by decide)
        simp [slot] at o3
        clear hd ho
        go_simp
        try go_bits
        exact hK _ _ rfl (EB.of (Below.refl _ _)) hI
      refine XChV.val (n := 3) (fun v => [_, _, _, IsV v]) (fun _ => rfl) rfl ?_
      apply Exists.intro
      refine And.intro ?_ ?_
      · intro K' a wy ho hd hI hK
        rw [if_pos (wanted_none rfl)]
        have q2 := hd ⟨2, .data⟩ (by simp) rfl
        simp [rAt, IsV, slot] at q2
        clear hd ho
        have HH : HoldsL wy PX (bkL ⟨left, most, each, since⟩) := hI.1.box
        have k0 : wy.cell? ⟨PX, 0, none⟩ = some (.int .i64 left) := HH.cell rfl
        have k1 : wy.cell? ⟨PX, 1, none⟩ = some (.int .i64 most) := HH.cell rfl
        have k2 : wy.cell? ⟨PX, 2, none⟩ = some (.int .i64 each) := HH.cell rfl
        have k3 : wy.cell? ⟨PX, 3, none⟩ = some (.int .i64 since) := HH.cell rfl
        clear HH
        go_simp
        try go_bits
        exact hK _ _ rfl (EB.of (Below.refl _ _)) hI
      refine XChV.val (n := 4) (fun v => [_, _, _, _, IsV v]) (fun _ => rfl) rfl ?_
      apply Exists.intro
      refine And.intro ?_ ?_
      · intro K' a wy ho hd hI hK
        rw [if_pos (wanted_none rfl)]
        have q3 := hd ⟨3, .data⟩ (by simp) rfl
        simp [rAt, IsV, slot] at q3
        clear hd ho
        go_simp
        try go_bits
        exact hK _ _ rfl (EB.of (Below.refl _ _)) hI
      refine XChV.rel (n := 5) (XInts B 3 (-1) 2000000001) (st_XInts _ _ _ _) [_, _, _, _, _, XInts B 3 (-1) 2000000001] rfl rfl ?_ ?_
      · intro K' a wy ho hd hI hK
        rw [if_pos (wanted_none rfl)]
        have q1 := hd ⟨1, .data⟩ (by simp) rfl
        simp [rAt, IsV, slot] at q1
        have q4 := hd ⟨4, .data⟩ (by simp) rfl
        simp [rAt, IsV, slot] at q4
        clear hd ho
        go_simp
        exact hK _ _ ⟨wy.heap.size, rfl, by have := hI.1.dr.le; have := hI.1.dr.hB; omega, fun j hj => by
          match j, hj with
          | 0, _ => exact ⟨_, cell_new rfl, by omega, by omega⟩
          | 1, _ => exact ⟨_, cell_new rfl, by omega, by omega⟩
          | 2, _ => exact ⟨_, cell_new rfl, by omega, by omega⟩⟩ (EB.of ((Below.refl _ _).alloc (Nat.le_refl _) _)) ⟨hI.1.below ((Below.refl _ _).alloc (Nat.le_refl _) _), by simp; omega⟩
      refine XChV.val (n := 6) (fun v => [_, _, _, _, _, _, IsV v]) (fun _ => rfl) rfl ?_
      apply Exists.intro
      refine And.intro ?_ ?_
      · intro K' a wy ho hd hI hK
        rw [if_pos (wanted_none rfl)]
        have o0 := ho 0 (by decide)
        simp [slot] at o0
        clear hd ho
        go_simp
        try go_bits
        exact hK _ _ rfl (EB.of (Below.refl _ _)) hI
      refine XChV.rel (n := 7) (XR 0 2) (st_XR _ _ _) [_, _, _, _, _, _, _, XR 0 2] rfl rfl ?_ ?_
      · intro K' a wy ho hd hI hK
        rw [if_pos (wanted_none rfl)]
        have q6 := hd ⟨6, .data⟩ (by simp) rfl
        simp [rAt, IsV, slot] at q6
        clear hd ho
        go_simp
        refine (drawN_more 3 B sa len cap size wy (by omega) (by omega) hl hI.1.dr.src).mono ?_
        rintro e wz ⟨r, rfl, h0, h1, hsz, hgz⟩
        exact hK _ _ ⟨r, rfl, by omega, by omega⟩ hgz ⟨hI.1.draw hsz hgz, Nat.le_trans hI.2 hgz.size⟩
      refine XChV.rel (n := 8) (XCell B (-1) 2000000001) (st_XCell _ _ _) [_, _, _, _, _, _, _, _, XCell B (-1) 2000000001] rfl rfl ?_ ?_
      · intro K' a wy ho hd hI hK
        rw [if_pos (wanted_none rfl)]
        obtain ⟨b3, e5, nb3, g3⟩ : XInts B 3 (-1) 2000000001 (slot a 36) wy := hd ⟨5, .data⟩ (by simp) rfl
        simp [slot] at e5
        obtain ⟨r5, e7, l5, u5⟩ : XR 0 2 (slot a 38) wy := hd ⟨7, .data⟩ (by simp) rfl
        simp [slot] at e7
        clear hd ho
        obtain ⟨kk, hkk⟩ := Int.eq_ofNat_of_zero_le (a := r5) (by omega)
        subst hkk
        obtain ⟨yy, hyy, ly, uy⟩ := g3 kk (by omega)
        have i0 : (kk : Int) < 3 := by omega
        go_simp
        exact hK _ _ ⟨b3, kk, yy, rfl, nb3, hyy, ly, uy⟩ (EB.of (Below.refl _ _)) hI
      refine XChV.rel (n := 9) (XR (-1) 2000000001) (st_XR _ _ _) [_, _, _, _, _, _, _, _, _, XR (-1) 2000000001] rfl rfl ?_ ?_
      · intro K' a wy ho hd hI hK
        rw [if_pos (wanted_none rfl)]
        obtain ⟨b6, k6, y6, e8, nb6, c6, l6, u6⟩ : XCell B (-1) 2000000001 (slot a 39) wy := hd ⟨8, .data⟩ (by simp) rfl
        simp [slot] at e8
        clear hd ho
        have HH : HoldsL wy PX (bkL ⟨left, most, each, since⟩) := hI.1.box
        have k0 : wy.cell? ⟨PX, 0, none⟩ = some (.int .i64 left) := HH.cell rfl
        have k1 : wy.cell? ⟨PX, 1, none⟩ = some (.int .i64 most) := HH.cell rfl
        have k2 : wy.cell? ⟨PX, 2, none⟩ = some (.int .i64 each) := HH.cell rfl
        have k3 : wy.cell? ⟨PX, 3, none⟩ = some (.int .i64 since) := HH.cell rfl
        clear HH
        go_simp
        exact hK _ _ ⟨y6, rfl, l6, u6⟩ (EB.of (Below.refl _ _)) hI
      refine XChV.val (n := 10) (fun v => [_, _, _, _, _, _, _, _, _, _, IsV v]) (fun _ => rfl) rfl ?_
      apply Exists.intro
      refine And.intro ?_ ?_
      · intro K' a wy ho hd hI hK
        rw [if_pos (wanted_none rfl)]
        have o3 := ho 3 (by decide)
        simp [slot] at o3
        clear hd ho
        go_simp
        try go_bits
        exact hK _ _ rfl (EB.of (Below.refl _ _)) hI
      intro X wz hR hI
      obtain ⟨x0, x1, x2, x3, x4, x5, x6, x7, x8, x9, x10, -⟩ := hR
      have hq9 := x5
      clear hq9
      have hq9 := x7
      clear hq9
      have hq9 := x8
      clear hq9
      obtain ⟨r9, e9, l9, u9⟩ := x9
      simp only [IsV] at x0 x1 x2 x3 x4 x6 x10
      simp only [putsFrom, x0, x1, x2, x3, x4, putsFrom, x6, putsFrom, putsFrom, e9, x10]
      clear x0 x1 x2 x3 x4 x6 x10
      have HH : HoldsL wz PX (bkL ⟨left, most, each, since⟩) := hI.1.box
      have k0 : wz.cell? ⟨PX, 0, none⟩ = some (.int .i64 left) := HH.cell rfl
      have kf0 := HH.free (j := 0) (by simp [bkL])
      have S9 : Hid (BkS w B sa len cap size PX ⟨r9, most, each, since⟩ (wz.setCell ⟨PX, 0, none⟩ (.int .i64 r9))) := hI.1.set 0 (.int .i64 r9) ⟨r9, most, each, since⟩ rfl
      clear hI HH
      intro K5 hK5
      go_simp
      refine hK5 _ _ ?_
      simp only [wpSeq]
      go_wp2_with fail
      go_meet
      exact ⟨⟨r9, most, each, since⟩, ⟨⟨by dsimp only; omega, by dsimp only; omega⟩, m1, m2, m3⟩, S9.out⟩
    have b0 : (r6 == 0) = false := by simp [d0]
    by_cases d1 : r6 = 1
    case pos =>
      have b1 : (r6 == 1) = true := by simp [d1]
      have A8 : Hid (BkS w B sa len cap size PX ⟨left, most, each, since⟩ (W8.alloc (.cells #[.int .i64 (0), .int .i64 (100), .int .i64 (101)] 2))) := S8.out.below ((Below.refl _ _).alloc (Nat.le_refl _) _)
      have hB8 : B < W8.heap.size := Nat.lt_of_lt_of_le S8.out.dr.hB S8.out.dr.le
      go_wp2_with fail
      refine (drawN_more 3 B sa len cap size _ (by omega) (by omega) hl A8.out.dr.src).mono ?_
      rintro e W9 ⟨r, rfl, q0, q1, hs2, hg2⟩
      obtain ⟨kk, rfl⟩ := Int.eq_ofNat_of_zero_le q0
      obtain ⟨x, hcell, hx⟩ := pickBk (k := kk) [0, 100, 101] hg2 hB8 (by simp; omega)
      have q1' : (kk : Int) < 3 := by omega
      have S9 : Hid (BkS w B sa len cap size PX ⟨left, most, each, since⟩ W9) := A8.out.draw hs2 hg2
      have K9 : Hid (BkDr ⟨left, x, each, since⟩) := by obtain ⟨m0, m1, m2, m3⟩ := K0.out; dsimp only at m0 m1 m2 m3; simp at hx; unfold Hid BkDr; dsimp only; omega
      have HH : HoldsL W9 PX (bkL ⟨left, most, each, since⟩) := S9.out.box
      have k0 : W9.cell? ⟨PX, 0, none⟩ = some (.int .i64 (left)) := HH.cell rfl
      have k1 : W9.cell? ⟨PX, 1, none⟩ = some (.int .i64 (most)) := HH.cell rfl
      have k2 : W9.cell? ⟨PX, 2, none⟩ = some (.int .i64 (each)) := HH.cell rfl
      have k3 : W9.cell? ⟨PX, 3, none⟩ = some (.int .i64 (since)) := HH.cell rfl
      have kf1 := HH.free (j := 1) (by simp [bkL])
      clear HH
      have SA : Hid (BkS w B sa len cap size PX ⟨left, x, each, since⟩ (W9.setCell ⟨PX, 1, none⟩ (.int .i64 x))) := S9.out.set 1 (.int .i64 x) ⟨left, x, each, since⟩ rfl
      clear hs2 hg2 q0 q1 A8 S8 S9 hx K0 lo6 hi6 d1
      go_wp2_with fail
      go_meet
      exact ⟨_, K9.out, SA.out⟩
    have b1 : (r6 == 1) = false := by simp [d1]
    by_cases d2 : r6 = 2
    case pos =>
      have b2 : (r6 == 2) = true := by simp [d2]
      have A8 : Hid (BkS w B sa len cap size PX ⟨left, most, each, since⟩ (W8.alloc (.cells #[.int .i64 (0), .int .i64 (1000), .int .i64 (1001)] 2))) := S8.out.below ((Below.refl _ _).alloc (Nat.le_refl _) _)
      have hB8 : B < W8.heap.size := Nat.lt_of_lt_of_le S8.out.dr.hB S8.out.dr.le
      go_wp2_with fail
      refine (drawN_more 3 B sa len cap size _ (by omega) (by omega) hl A8.out.dr.src).mono ?_
      rintro e W9 ⟨r, rfl, q0, q1, hs2, hg2⟩
      obtain ⟨kk, rfl⟩ := Int.eq_ofNat_of_zero_le q0
      obtain ⟨x, hcell, hx⟩ := pickBk (k := kk) [0, 1000, 1001] hg2 hB8 (by simp; omega)
      have q1' : (kk : Int) < 3 := by omega
      have S9 : Hid (BkS w B sa len cap size PX ⟨left, most, each, since⟩ W9) := A8.out.draw hs2 hg2
      have K9 : Hid (BkDr ⟨left, most, x, since⟩) := by obtain ⟨m0, m1, m2, m3⟩ := K0.out; dsimp only at m0 m1 m2 m3; simp at hx; unfold Hid BkDr; dsimp only; omega
      have HH : HoldsL W9 PX (bkL ⟨left, most, each, since⟩) := S9.out.box
      have k0 : W9.cell? ⟨PX, 0, none⟩ = some (.int .i64 (left)) := HH.cell rfl
      have k1 : W9.cell? ⟨PX, 1, none⟩ = some (.int .i64 (most)) := HH.cell rfl
      have k2 : W9.cell? ⟨PX, 2, none⟩ = some (.int .i64 (each)) := HH.cell rfl
      have k3 : W9.cell? ⟨PX, 3, none⟩ = some (.int .i64 (since)) := HH.cell rfl
      have kf2 := HH.free (j := 2) (by simp [bkL])
      clear HH
      have SA : Hid (BkS w B sa len cap size PX ⟨left, most, x, since⟩ (W9.setCell ⟨PX, 2, none⟩ (.int .i64 x))) := S9.out.set 2 (.int .i64 x) ⟨left, most, x, since⟩ rfl
      clear hs2 hg2 q0 q1 A8 S8 S9 hx K0 lo6 hi6 d2
      go_wp2_with fail
      go_meet
      exact ⟨_, K9.out, SA.out⟩
    have b2 : (r6 == 2) = false := by simp [d2]
    have A8 : Hid (BkS w B sa len cap size PX ⟨left, most, each, since⟩ (W8.alloc (.cells #[.int .i64 (-1), .int .i64 (1000000000), .int .i64 (1000000001)] 2))) := S8.out.below ((Below.refl _ _).alloc (Nat.le_refl _) _)
    have hB8 : B < W8.heap.size := Nat.lt_of_lt_of_le S8.out.dr.hB S8.out.dr.le
    go_wp2_with fail
    refine (drawN_more 3 B sa len cap size _ (by omega) (by omega) hl A8.out.dr.src).mono ?_
    rintro e W9 ⟨r, rfl, q0, q1, hs2, hg2⟩
    obtain ⟨kk, rfl⟩ := Int.eq_ofNat_of_zero_le q0
    obtain ⟨x, hcell, hx⟩ := pickBk (k := kk) [-1, 1000000000, 1000000001] hg2 hB8 (by simp; omega)
    have q1' : (kk : Int) < 3 := by omega
    have S9 : Hid (BkS w B sa len cap size PX ⟨left, most, each, since⟩ W9) := A8.out.draw hs2 hg2
    have K9 : Hid (BkDr ⟨left, most, each, x⟩) := by obtain ⟨m0, m1, m2, m3⟩ := K0.out; dsimp only at m0 m1 m2 m3; simp at hx; unfold Hid BkDr; dsimp only; omega
    have HH : HoldsL W9 PX (bkL ⟨left, most, each, since⟩) := S9.out.box
    have k0 : W9.cell? ⟨PX, 0, none⟩ = some (.int .i64 (left)) := HH.cell rfl
    have k1 : W9.cell? ⟨PX, 1, none⟩ = some (.int .i64 (most)) := HH.cell rfl
    have k2 : W9.cell? ⟨PX, 2, none⟩ = some (.int .i64 (each)) := HH.cell rfl
    have k3 : W9.cell? ⟨PX, 3, none⟩ = some (.int .i64 (since)) := HH.cell rfl
    have kf3 := HH.free (j := 3) (by simp [bkL])
    clear HH
    have SA : Hid (BkS w B sa len cap size PX ⟨left, most, each, x⟩ (W9.setCell ⟨PX, 3, none⟩ (.int .i64 x))) := S9.out.set 3 (.int .i64 x) ⟨left, most, each, x⟩ rfl
    clear hs2 hg2 q0 q1 A8 S8 S9 hx K0 lo6 hi6 
    go_wp2_with fail
    go_meet
    exact ⟨_, K9.out, SA.out⟩
  case rest =>
  obtain ⟨b, hK, hS⟩ := hcut
  have K8 : Hid (BkDr b) := hK
  obtain ⟨k0, k1, k2, k3⟩ := hS.box.c4
  obtain ⟨z0, z1, z2, z3⟩ := hS.out.c4
  have zf0 := hS.out.free (j := 0) (by simp [bkZ])
  have zf1 := hS.out.free (j := 1) (by simp [bkZ])
  have zf2 := hS.out.free (j := 2) (by simp [bkZ])
  have zf3 := hS.out.free (j := 3) (by simp [bkZ])
  have PF : Hid (∀ v0 v1 v2 v3, Dr w B sa len cap size ((((wc.setCell ⟨w.heap.size, 0, none⟩ v0).setCell ⟨w.heap.size, 1, none⟩ v1).setCell ⟨w.heap.size, 2, none⟩ v2).setCell ⟨w.heap.size, 3, none⟩ v3)) := fun v0 v1 v2 v3 => (((hS.dr.set _ 0 v0 (Nat.le_refl _)).set _ 1 v1 (Nat.le_refl _)).set _ 2 v2 (Nat.le_refl _)).set _ 3 v3 (Nat.le_refl _)
  clear hK hS S7 K0
  go_wp2_with fail
  refine bodyPost_ret (v := .agg #[.int .i64 b.left, .int .i64 b.most, .int .i64 b.each, .int .i64 b.since]) (by simp [results, Try.results22, go_sem, z0, z1, z2, z3]) rfl ⟨b, rfl, K8.out, (PF.out _ _ _ _).src, (PF.out _ _ _ _).grown⟩
end Go.Proofs.Ytagbhaalmjpkjaa
