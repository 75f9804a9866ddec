/- ICopy: what the program's copyPiece answers. -/
import Derived.Test.YtofhcplnnamcdakShelf
import Derived.Test.YtofhcplnnamcdakIGather
import Derived.Test.YtofhcplnnamcdakGrowV
import Derived.Deep.DeepCutAuto
namespace Go.Proofs.Ytofhcplnnamcdak
open Go.RowKit Go.PlainAid
set_option linter.unusedVariables false
set_option linter.unusedSimpArgs false

theorem clone_any (s : ByteArray) (w : World) (h : s.size ≤ 1048576) :
    Calls Try.prog 40 #[.string s] w fun e w' => e = .returned (.string s) ∧ Below w.heap.size w w' := by
  have HC : Hid (∀ W, Calls Try.prog 54 #[.string s] W fun e w' => e = .returned (.string s) ∧ Below W.heap.size W w') := fun W => Try.stringslite_Clone s W (by omega)
  go_enter Try.func40, Try.ntmps40
  go_wp2_with fail
  refine (HC.out _).mono ?_
  rintro e w1 ⟨rfl, b1⟩
  go_wp2_with fail
  go_ret
  exact ⟨rfl, b1⟩

theorem set8 {w W : World} {v0 v1 v2 v3 v4 v5 v6 v7 : Value} (h : Below w.heap.size w W) : Below w.heap.size w ((((((((W.setCell ⟨w.heap.size + 1, 0, none⟩ v0).setCell ⟨w.heap.size + 1, 1, none⟩ v1).setCell ⟨w.heap.size + 1, 2, none⟩ v2).setCell ⟨w.heap.size + 1, 3, none⟩ v3).setCell ⟨w.heap.size + 1, 4, none⟩ v4).setCell ⟨w.heap.size + 1, 5, none⟩ v5).setCell ⟨w.heap.size + 1, 6, none⟩ v6).setCell ⟨w.heap.size + 1, 7, none⟩ v7) := by
  have hs : w.heap.size ≤ w.heap.size + 1 := by omega
  exact (((((((h.setCell (p := ⟨w.heap.size + 1, 0, none⟩) hs _).setCell (p := ⟨w.heap.size + 1, 1, none⟩) hs _).setCell (p := ⟨w.heap.size + 1, 2, none⟩) hs _).setCell (p := ⟨w.heap.size + 1, 3, none⟩) hs _).setCell (p := ⟨w.heap.size + 1, 4, none⟩) hs _).setCell (p := ⟨w.heap.size + 1, 5, none⟩) hs _).setCell (p := ⟨w.heap.size + 1, 6, none⟩) hs _).setCell (p := ⟨w.heap.size + 1, 7, none⟩) hs _
def pcZ : List Value := [.string ⟨#[]⟩, .string ⟨#[]⟩, .int .i64 0, .int .i64 0, .int .i64 0, .bool false, .string ⟨#[]⟩, .int .i64 0]
set_option maxRecDepth 100000 in
set_option maxHeartbeats 2000000 in
theorem implCopy_any (p : Pc) (w : World) (hs : PcSm p) :
    Calls Try.prog 25 #[pcC p] w fun e w' => e = .returned (pcC p) ∧ Below w.heap.size w w' := by
  obtain ⟨s1, s2, s3⟩ := hs
  have H1 : Hid (∀ W, Calls Try.prog 40 #[.string p.src] W fun e w' => e = .returned (.string p.src) ∧ Below W.heap.size W w') := fun W => clone_any _ W s1
  have H2 : Hid (∀ W, Calls Try.prog 40 #[.string p.dst] W fun e w' => e = .returned (.string p.dst) ∧ Below W.heap.size W w') := fun W => clone_any _ W s2
  have H3 : Hid (∀ W, Calls Try.prog 40 #[.string p.data] W fun e w' => e = .returned (.string p.data) ∧ Below W.heap.size W w') := fun W => clone_any _ W s3
  have hun : undef = Value.tuple #[] := rfl
  clear s1 s2 s3
  have HP : Hid (HoldsL ((w.alloc (.cells (pcL p).toArray 45)).alloc (.cells pcZ.toArray 45)) w.heap.size (pcL p)) := (HoldsL.new w (pcL p) _).alloc _
  have HO : Hid (HoldsL ((w.alloc (.cells (pcL p).toArray 45)).alloc (.cells pcZ.toArray 45)) (w.heap.size + 1) pcZ) := by
    have h := HoldsL.new (w.alloc (.cells (pcL p).toArray 45)) pcZ 45
    rwa [World.size_alloc] at h
  have HZ : Hid (Below w.heap.size w ((w.alloc (.cells (pcL p).toArray 45)).alloc (.cells pcZ.toArray 45))) := two_pieces w
  rw [show (pcL p).toArray = #[.string p.src, .string p.dst, .int .i64 p.proto, .int .i64 p.id, .int .i64 p.off, .bool p.more, .string p.data, .int .i64 p.since] from rfl, show pcZ.toArray = #[.string ⟨#[]⟩, .string ⟨#[]⟩, .int .i64 0, .int .i64 0, .int .i64 0, .bool false, .string ⟨#[]⟩, .int .i64 0] from rfl] at HP HO HZ
  unfold pcC
  go_enter Try.func25, Try.ntmps25
  go_upto_region 1 with fail
  generalize (w.alloc (.cells #[.string p.src, .string p.dst, .int .i64 p.proto, .int .i64 p.id, .int .i64 p.off, .bool p.more, .string p.data, .int .i64 p.since] 45)).alloc (.cells #[.string ⟨#[]⟩, .string ⟨#[]⟩, .int .i64 0, .int .i64 0, .int .i64 0, .bool false, .string ⟨#[]⟩, .int .i64 0] 45) = W at *
  go_cut [3] (fun v wx => HoldsL wx w.heap.size (pcL p) ∧ HoldsL wx (w.heap.size + 1) pcZ ∧ Below w.heap.size w wx)
  case first =>
    rename_i J K2 hJ hK2
    clear hun
    have HCP : Hid (∀ wy, Below W.drew.heap.size W.drew wy → HoldsL wy w.heap.size (pcL p) ∧ HoldsL wy (w.heap.size + 1) pcZ) := fun wy hy => ⟨HP.out.drew.kept (by simp [pcL]) hy, HO.out.drew.kept (by simp [pcZ]) hy⟩
    refine wp_region_growV [3, 4, 5, 6, 7, 8, 9, 10, 11, 12] (by kernel_rfl) (by kernel_rfl) ?_
    refine GChV.val (n := 0) (fun v => [IsV v]) (fun _ => rfl) rfl ?_
    apply Exists.intro
    refine And.intro ?_ ?_
    · intro K' a wy ho hd hb hK
      rw [if_pos (wanted_none rfl)]
      have o1 := ho 1 (by decide)
      simp [slot] at o1
      clear hd ho
      go_simp
      try go_bits
      exact hK _ _ rfl (Below.refl _ _)
    refine GChV.val (n := 1) (fun v => [_, IsV v]) (fun _ => rfl) rfl ?_
    apply Exists.intro
    refine And.intro ?_ ?_
    · intro K' a wy ho hd hb hK
      rw [if_pos (wanted_none rfl)]
      have q0 := hd ⟨0, .data⟩ (by simp) rfl
      simp [rAt, IsV, slot] at q0
      clear hd ho
      obtain ⟨k0, k1, k2, k3, k4, k5, k6, k7⟩ := cells8 (HCP.out wy hb).1
      go_simp
      try go_bits
      exact hK _ _ rfl (Below.refl _ _)
    refine GChV.val (n := 2) (fun v => [_, _, IsV v]) (fun _ => rfl) rfl ?_
    apply Exists.intro
    refine And.intro ?_ ?_
    · intro K' a wy ho hd hb hK
      rw [if_pos (wanted_none rfl)]
      have q1 := hd ⟨1, .data⟩ (by simp) rfl
      simp [rAt, IsV, slot] at q1
      clear hd ho
      go_simp
      refine (H1.out wy).mono ?_
      rintro e wz ⟨rfl, hz⟩
      exact hK _ _ rfl hz
    refine GChV.val (n := 3) (fun v => [_, _, _, IsV v]) (fun _ => rfl) rfl ?_
    apply Exists.intro
    refine And.intro ?_ ?_
    · intro K' a wy ho hd hb hK
      rw [if_pos (wanted_none rfl)]
      have o1 := ho 1 (by decide)
      simp [slot] at o1
      clear hd ho
      go_simp
      try go_bits
      exact hK _ _ rfl (Below.refl _ _)
    refine GChV.val (n := 4) (fun v => [_, _, _, _, IsV v]) (fun _ => rfl) rfl ?_
    apply Exists.intro
    refine And.intro ?_ ?_
    · intro K' a wy ho hd hb hK
      rw [if_pos (wanted_none rfl)]
      have q3 := hd ⟨3, .data⟩ (by simp) rfl
      simp [rAt, IsV, slot] at q3
      clear hd ho
      obtain ⟨k0, k1, k2, k3, k4, k5, k6, k7⟩ := cells8 (HCP.out wy hb).1
      go_simp
      try go_bits
      exact hK _ _ rfl (Below.refl _ _)
    refine GChV.val (n := 5) (fun v => [_, _, _, _, _, IsV v]) (fun _ => rfl) rfl ?_
    apply Exists.intro
    refine And.intro ?_ ?_
    · intro K' a wy ho hd hb hK
      rw [if_pos (wanted_none rfl)]
      have q4 := hd ⟨4, .data⟩ (by simp) rfl
      simp [rAt, IsV, slot] at q4
      clear hd ho
      go_simp
      refine (H2.out wy).mono ?_
      rintro e wz ⟨rfl, hz⟩
      exact hK _ _ rfl hz
    refine GChV.val (n := 6) (fun v => [_, _, _, _, _, _, IsV v]) (fun _ => rfl) rfl ?_
    apply Exists.intro
    refine And.intro ?_ ?_
    · intro K' a wy ho hd hb hK
      rw [if_pos (wanted_none rfl)]
      have o1 := ho 1 (by decide)
      simp [slot] at o1
      clear hd ho
      go_simp
      try go_bits
      exact hK _ _ rfl (Below.refl _ _)
    refine GChV.val (n := 7) (fun v => [_, _, _, _, _, _, _, IsV v]) (fun _ => rfl) rfl ?_
    apply Exists.intro
    refine And.intro ?_ ?_
    · intro K' a wy ho hd hb hK
      rw [if_pos (wanted_none rfl)]
      have q6 := hd ⟨6, .data⟩ (by simp) rfl
      simp [rAt, IsV, slot] at q6
      clear hd ho
      obtain ⟨k0, k1, k2, k3, k4, k5, k6, k7⟩ := cells8 (HCP.out wy hb).1
      go_simp
      try go_bits
      exact hK _ _ rfl (Below.refl _ _)
    refine GChV.val (n := 8) (fun v => [_, _, _, _, _, _, _, _, IsV v]) (fun _ => rfl) rfl ?_
    apply Exists.intro
    refine And.intro ?_ ?_
    · intro K' a wy ho hd hb hK
      rw [if_pos (wanted_none rfl)]
      have q7 := hd ⟨7, .data⟩ (by simp) rfl
      simp [rAt, IsV, slot] at q7
      clear hd ho
      go_simp
      refine (H3.out wy).mono ?_
      rintro e wz ⟨rfl, hz⟩
      exact hK _ _ rfl hz
    refine GChV.val (n := 9) (fun v => [_, _, _, _, _, _, _, _, _, IsV v]) (fun _ => rfl) rfl ?_
    apply Exists.intro
    refine And.intro ?_ ?_
    · intro K' a wy ho hd hb hK
      rw [if_pos (wanted_none rfl)]
      have o1 := ho 1 (by decide)
      simp [slot] at o1
      clear hd ho
      go_simp
      try go_bits
      exact hK _ _ rfl (Below.refl _ _)
    intro X wz hR hz
    obtain ⟨x0, x1, x2, x3, x4, x5, x6, x7, x8, x9, -⟩ := hR
    simp only [IsV] at x0 x1 x2 x3 x4 x5 x6 x7 x8 x9
    simp only [putsFrom, x0, x1, x2, x3, x4, x5, x6, x7, x8, x9]
    clear x0 x1 x2 x3 x4 x5 x6 x7 x8 x9
    obtain ⟨hh, hz0⟩ := HCP.out wz hz
    have HB : Hid (Below w.heap.size w wz) := HZ.out.drew.trans (hz.mono HZ.out.size)
    have f0 : wz.frozen? ⟨w.heap.size, 0, none⟩ = false := hh.free (j := 0) (by simp [pcL])
    have f1 : wz.frozen? ⟨w.heap.size, 1, none⟩ = false := hh.free (j := 1) (by simp [pcL])
    have f6 : wz.frozen? ⟨w.heap.size, 6, none⟩ = false := hh.free (j := 6) (by simp [pcL])
    obtain ⟨k0, k1, k2, k3, k4, k5, k6, k7⟩ := cells8 hh
    have HH : Hid (HoldsL wz w.heap.size (pcL p)) := hh
    have HH0 : Hid (HoldsL wz (w.heap.size + 1) pcZ) := hz0
    clear hh hz0
    intro K10 hK10
    go_simp
    refine hK10 _ _ ?_
    intro K11 hK11
    go_simp
    refine hK11 _ _ ?_
    intro K12 hK12
    go_simp
    refine hK12 _ _ ?_
    intro K13 hK13
    go_simp
    refine hK13 _ _ ?_
    intro K14 hK14
    go_simp
    refine hK14 _ _ ?_
    show Exit.then _ _ _ _ _
    refine hK2 _ _ (hJ _ _ ?_)
    (repeat apply Exists.intro)
    refine ⟨⟨((HH.out.set 0 _).set 1 _).set 6 _, ((HH0.out.setOther (by omega) _).setOther (by omega) _).setOther (by omega) _, ?_⟩, rfl⟩
    exact ((HB.out.setCell (p := ⟨w.heap.size, 0, none⟩) (Nat.le_refl _) _).setCell (p := ⟨w.heap.size, 1, none⟩) (Nat.le_refl _) _).setCell (p := ⟨w.heap.size, 6, none⟩) (Nat.le_refl _) _
  case rest =>
    obtain ⟨hh, h0, hb⟩ := hcut
    obtain ⟨k0, k1, k2, k3, k4, k5, k6, k7⟩ := cells8 hh
    have HB : Hid (Below w.heap.size w wc) := hb
    have y0 : wc.frozen? ⟨w.heap.size + 1, 0, none⟩ = false := h0.free (j := 0) (by simp [pcZ])
    have y1 : wc.frozen? ⟨w.heap.size + 1, 1, none⟩ = false := h0.free (j := 1) (by simp [pcZ])
    have y2 : wc.frozen? ⟨w.heap.size + 1, 2, none⟩ = false := h0.free (j := 2) (by simp [pcZ])
    have y3 : wc.frozen? ⟨w.heap.size + 1, 3, none⟩ = false := h0.free (j := 3) (by simp [pcZ])
    have y4 : wc.frozen? ⟨w.heap.size + 1, 4, none⟩ = false := h0.free (j := 4) (by simp [pcZ])
    have y5 : wc.frozen? ⟨w.heap.size + 1, 5, none⟩ = false := h0.free (j := 5) (by simp [pcZ])
    have y6 : wc.frozen? ⟨w.heap.size + 1, 6, none⟩ = false := h0.free (j := 6) (by simp [pcZ])
    have y7 : wc.frozen? ⟨w.heap.size + 1, 7, none⟩ = false := h0.free (j := 7) (by simp [pcZ])
    have z0 : wc.cell? ⟨w.heap.size + 1, 0, none⟩ = some (.string ⟨#[]⟩) := h0.cell rfl
    have z1 : wc.cell? ⟨w.heap.size + 1, 1, none⟩ = some (.string ⟨#[]⟩) := h0.cell rfl
    have z2 : wc.cell? ⟨w.heap.size + 1, 2, none⟩ = some (.int .i64 0) := h0.cell rfl
    have z3 : wc.cell? ⟨w.heap.size + 1, 3, none⟩ = some (.int .i64 0) := h0.cell rfl
    have z4 : wc.cell? ⟨w.heap.size + 1, 4, none⟩ = some (.int .i64 0) := h0.cell rfl
    have z5 : wc.cell? ⟨w.heap.size + 1, 5, none⟩ = some (.bool false) := h0.cell rfl
    have z6 : wc.cell? ⟨w.heap.size + 1, 6, none⟩ = some (.string ⟨#[]⟩) := h0.cell rfl
    have z7 : wc.cell? ⟨w.heap.size + 1, 7, none⟩ = some (.int .i64 0) := h0.cell rfl
    clear hh h0 hb
    go_wp2_with fail
    refine bodyPost_ret (v := .agg #[.string p.src, .string p.dst, .int .i64 p.proto, .int .i64 p.id, .int .i64 p.off, .bool p.more, .string p.data, .int .i64 p.since]) (by simp [results, Try.results25, go_sem, z0, z1, z2, z3, z4, z5, z6, z7]) rfl ⟨rfl, ?_⟩
    exact set8 HB.out
end Go.Proofs.Ytofhcplnnamcdak
