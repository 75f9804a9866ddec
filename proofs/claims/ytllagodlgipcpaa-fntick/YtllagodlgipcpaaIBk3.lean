/- IBk3: what the program's copyBind, copySession, firstBind, BindOf, BindAt, sessionAt, hasSession, outOf answer. Printed by mkibk3.py. -/
import Derived.Test.YtllagodlgipcpaaIBk2
namespace Go.Proofs.Ytllagodlgipcpaa
open Go.RowKit Go.PlainAid
set_option linter.unusedVariables false
set_option linter.unusedSimpArgs false

theorem cloneS_any (s : ByteArray) (w : World) (h : s.size ≤ 1048576) :
  Calls Try.prog 64 #[.string s] w fun e w' => e = .returned (.string s) ∧ Below w.heap.size w w' := by
 have HC : Hid (∀ W, Calls Try.prog 94 #[.string s] W fun e w' => e = .returned (.string s) ∧ Below W.heap.size W w') := fun W => Try.stringslite_Clone s W (by omega)
 go_enter Try.func64, Try.ntmps64
 go_wp2_with fail
 refine (HC.out _).mono ?_
 rintro e w1 ⟨rfl, b1⟩
 go_wp2_with fail
 go_ret
 exact ⟨rfl, b1⟩
set_option maxRecDepth 100000 in
set_option maxHeartbeats 2000000 in
theorem copyBind_any (p : Bd) (w : World) (h1 : p.inn.size ≤ 1048576) (h2 : p.out.size ≤ 1048576) :
  Calls Try.prog 26 #[bdC p] w fun e w' => e = .returned (bdC p) ∧ Below w.heap.size w w' := by
 have H1 : Hid (∀ W, Calls Try.prog 64 #[.string p.inn] W fun e w' => e = .returned (.string p.inn) ∧ Below W.heap.size W w') := fun W => cloneS_any _ W h1
 have H2 : Hid (∀ W, Calls Try.prog 64 #[.string p.out] W fun e w' => e = .returned (.string p.out) ∧ Below W.heap.size W w') := fun W => cloneS_any _ W h2
 have hun : undef = Value.tuple #[] := rfl
 clear h1 h2
 have HP : Hid (HoldsL ((w.alloc (.cells #[.int .i64 p.proto, .string p.inn, .int .i64 p.inPort, .string p.out, .int .i64 p.outPort] 35)).alloc (.cells #[.int .i64 0, .string ⟨#[]⟩, .int .i64 0, .string ⟨#[]⟩, .int .i64 0] 35)) w.heap.size (bdL p)) := (HoldsL.new w (bdL p) _).alloc _
 have HO : Hid (HoldsL ((w.alloc (.cells #[.int .i64 p.proto, .string p.inn, .int .i64 p.inPort, .string p.out, .int .i64 p.outPort] 35)).alloc (.cells #[.int .i64 0, .string ⟨#[]⟩, .int .i64 0, .string ⟨#[]⟩, .int .i64 0] 35)) (w.heap.size + 1) [.int .i64 0, .string ⟨#[]⟩, .int .i64 0, .string ⟨#[]⟩, .int .i64 0]) := by
  have h := HoldsL.new (w.alloc (.cells #[.int .i64 p.proto, .string p.inn, .int .i64 p.inPort, .string p.out, .int .i64 p.outPort] 35)) [.int .i64 0, .string ⟨#[]⟩, .int .i64 0, .string ⟨#[]⟩, .int .i64 0] 35
  rwa [World.size_alloc] at h
 have HZ : Hid (Below w.heap.size w ((w.alloc (.cells #[.int .i64 p.proto, .string p.inn, .int .i64 p.inPort, .string p.out, .int .i64 p.outPort] 35)).alloc (.cells #[.int .i64 0, .string ⟨#[]⟩, .int .i64 0, .string ⟨#[]⟩, .int .i64 0] 35))) := ((Below.refl _ _).alloc (Nat.le_refl _) _).alloc (by simp) _
 unfold bdC
 go_enter Try.func26, Try.ntmps26
 go_upto_region 1 with fail
 generalize (w.alloc (.cells #[.int .i64 p.proto, .string p.inn, .int .i64 p.inPort, .string p.out, .int .i64 p.outPort] 35)).alloc (.cells #[.int .i64 0, .string ⟨#[]⟩, .int .i64 0, .string ⟨#[]⟩, .int .i64 0] 35) = W at *
 go_cut [3] (fun v wx => HoldsL wx w.heap.size (bdL p) ∧ HoldsL wx (w.heap.size + 1) [.int .i64 0, .string ⟨#[]⟩, .int .i64 0, .string ⟨#[]⟩, .int .i64 0] ∧ Below w.heap.size w wx)
 case first =>
  rename_i J K2 hJ hK2
  clear hun
  have HCP : Hid (∀ wy, Below W.drew.heap.size W.drew wy → HoldsL wy w.heap.size (bdL p) ∧ HoldsL wy (w.heap.size + 1) [.int .i64 0, .string ⟨#[]⟩, .int .i64 0, .string ⟨#[]⟩, .int .i64 0]) := fun wy hy => ⟨HP.out.drew.kept (by simp [bdL]) hy, HO.out.drew.kept (by simp) hy⟩
  refine wp_region_growV [3, 4, 5, 6, 7, 8, 9] (by kernel_rfl) (by kernel_rfl) ?_
  refine GChV.val (n := 0) (fun v => [IsV v]) (fun _ => rfl) rfl ?_
  apply Exists.intro
  refine And.intro ?_ ?_
  ·intro K' a wy ho hd hb hK
   rw [if_pos (wanted_none rfl)]
   have o1 := ho 1 (by decide)
   simp [slot] at o1
   clear hd ho
   go_simp
   try go_bits
   exact hK _ _ rfl (Below.refl _ _)
  refine GChV.val (n := 1) (fun v => [_, IsV v]) (fun _ => rfl) rfl ?_
  apply Exists.intro
  refine And.intro ?_ ?_
  ·intro K' a wy ho hd hb hK
   rw [if_pos (wanted_none rfl)]
   have q0 := hd ⟨0, .data⟩ (by simp) rfl
   simp [rAt, IsV, slot] at q0
   clear hd ho
   have hld := (HCP.out wy hb).1
   have k0 := hld.cell (j := 0) rfl
   have k1 := hld.cell (j := 1) rfl
   have k2 := hld.cell (j := 2) rfl
   have k3 := hld.cell (j := 3) rfl
   have k4 := hld.cell (j := 4) rfl
   go_simp
   try go_bits
   exact hK _ _ rfl (Below.refl _ _)
  refine GChV.val (n := 2) (fun v => [_, _, IsV v]) (fun _ => rfl) rfl ?_
  apply Exists.intro
  refine And.intro ?_ ?_
  ·intro K' a wy ho hd hb hK
   rw [if_pos (wanted_none rfl)]
   have q1 := hd ⟨1, .data⟩ (by simp) rfl
   simp [rAt, IsV, slot] at q1
   clear hd ho
   go_simp
   refine (H1.out wy).mono ?_
   rintro e wz ⟨rfl, hz⟩
   exact hK _ _ rfl hz
  refine GChV.val (n := 3) (fun v => [_, _, _, IsV v]) (fun _ => rfl) rfl ?_
  apply Exists.intro
  refine And.intro ?_ ?_
  ·intro K' a wy ho hd hb hK
   rw [if_pos (wanted_none rfl)]
   have o1 := ho 1 (by decide)
   simp [slot] at o1
   clear hd ho
   go_simp
   try go_bits
   exact hK _ _ rfl (Below.refl _ _)
  refine GChV.val (n := 4) (fun v => [_, _, _, _, IsV v]) (fun _ => rfl) rfl ?_
  apply Exists.intro
  refine And.intro ?_ ?_
  ·intro K' a wy ho hd hb hK
   rw [if_pos (wanted_none rfl)]
   have q3 := hd ⟨3, .data⟩ (by simp) rfl
   simp [rAt, IsV, slot] at q3
   clear hd ho
   have hld := (HCP.out wy hb).1
   have k0 := hld.cell (j := 0) rfl
   have k1 := hld.cell (j := 1) rfl
   have k2 := hld.cell (j := 2) rfl
   have k3 := hld.cell (j := 3) rfl
   have k4 := hld.cell (j := 4) rfl
   go_simp
   try go_bits
   exact hK _ _ rfl (Below.refl _ _)
  refine GChV.val (n := 5) (fun v => [_, _, _, _, _, IsV v]) (fun _ => rfl) rfl ?_
  apply Exists.intro
  refine And.intro ?_ ?_
  ·intro K' a wy ho hd hb hK
   rw [if_pos (wanted_none rfl)]
   have q4 := hd ⟨4, .data⟩ (by simp) rfl
   simp [rAt, IsV, slot] at q4
   clear hd ho
   go_simp
   refine (H2.out wy).mono ?_
   rintro e wz ⟨rfl, hz⟩
   exact hK _ _ rfl hz
  refine GChV.val (n := 6) (fun v => [_, _, _, _, _, _, IsV v]) (fun _ => rfl) rfl ?_
  apply Exists.intro
  refine And.intro ?_ ?_
  ·intro K' a wy ho hd hb hK
   rw [if_pos (wanted_none rfl)]
   have o1 := ho 1 (by decide)
   simp [slot] at o1
   clear hd ho
   go_simp
   try go_bits
   exact hK _ _ rfl (Below.refl _ _)
  intro X wz hR hz
  obtain ⟨x0, x1, x2, x3, x4, x5, x6, -⟩ := hR
  simp only [IsV] at x0 x1 x2 x3 x4 x5 x6
  simp only [putsFrom, x0, x1, x2, x3, x4, x5, x6]
  clear x0 x1 x2 x3 x4 x5 x6
  obtain ⟨hh, hz0⟩ := HCP.out wz hz
  have HB : Hid (Below w.heap.size w wz) := HZ.out.drew.trans (hz.mono HZ.out.size)
  have f1 : wz.frozen? ⟨w.heap.size, 1, none⟩ = false := hh.free (j := 1) (by simp [bdL])
  have f3 : wz.frozen? ⟨w.heap.size, 3, none⟩ = false := hh.free (j := 3) (by simp [bdL])
  have k0 := hh.cell (j := 0) rfl
  have k1 := hh.cell (j := 1) rfl
  have k2 := hh.cell (j := 2) rfl
  have k3 := hh.cell (j := 3) rfl
  have k4 := hh.cell (j := 4) rfl
  have HH : Hid (HoldsL wz w.heap.size (bdL p)) := hh
  have HH0 : Hid (HoldsL wz (w.heap.size + 1) [.int .i64 0, .string ⟨#[]⟩, .int .i64 0, .string ⟨#[]⟩, .int .i64 0]) := hz0
  clear hh hz0
  intro K10 hK10
  go_simp
  refine hK10 _ _ ?_
  intro K11 hK11
  go_simp
  refine hK11 _ _ ?_
  intro K12 hK12
  go_simp
  refine hK12 _ _ ?_
  show Exit.then _ _ _ _ _
  refine hK2 _ _ (hJ _ _ ?_)
  (repeat apply Exists.intro)
  refine ⟨⟨(HH.out.set 1 _).set 3 _, (HH0.out.setOther (by omega) _).setOther (by omega) _, ?_⟩, rfl⟩
  exact (HB.out.setCell (p := ⟨w.heap.size, 1, none⟩) (Nat.le_refl _) _).setCell (p := ⟨w.heap.size, 3, none⟩) (Nat.le_refl _) _
 case rest =>
  obtain ⟨hh, h0, hb⟩ := hcut
  have HB : Hid (Below w.heap.size w wc) := hb
  have k0 := hh.cell (j := 0) rfl
  have k1 := hh.cell (j := 1) rfl
  have k2 := hh.cell (j := 2) rfl
  have k3 := hh.cell (j := 3) rfl
  have k4 := hh.cell (j := 4) rfl
  have y0 := h0.free (j := 0) (by simp)
  have z0 := h0.cell (j := 0) rfl
  have y1 := h0.free (j := 1) (by simp)
  have z1 := h0.cell (j := 1) rfl
  have y2 := h0.free (j := 2) (by simp)
  have z2 := h0.cell (j := 2) rfl
  have y3 := h0.free (j := 3) (by simp)
  have z3 := h0.cell (j := 3) rfl
  have y4 := h0.free (j := 4) (by simp)
  have z4 := h0.cell (j := 4) rfl
  clear hh h0 hb
  go_wp2_with fail
  refine bodyPost_ret (v := .agg #[.int .i64 p.proto, .string p.inn, .int .i64 p.inPort, .string p.out, .int .i64 p.outPort]) (by simp [results, Try.results26, go_sem, z0, z1, z2, z3, z4]) rfl ⟨rfl, ?_⟩
  have hsz : w.heap.size ≤ w.heap.size + 1 := Nat.le_succ _
  exact (((((HB.out.setCell (p := ⟨w.heap.size + 1, 0, none⟩) hsz _).setCell (p := ⟨w.heap.size + 1, 1, none⟩) hsz _).setCell (p := ⟨w.heap.size + 1, 2, none⟩) hsz _).setCell (p := ⟨w.heap.size + 1, 3, none⟩) hsz _).setCell (p := ⟨w.heap.size + 1, 4, none⟩) hsz _)
set_option maxRecDepth 100000 in
set_option maxHeartbeats 2000000 in
theorem copySession_any (p : Ss) (w : World) (h1 : p.inn.size ≤ 1048576) (h2 : p.peer.size ≤ 1048576) :
  Calls Try.prog 38 #[ssC p] w fun e w' => e = .returned (ssC p) ∧ Below w.heap.size w w' := by
 have H1 : Hid (∀ W, Calls Try.prog 64 #[.string p.inn] W fun e w' => e = .returned (.string p.inn) ∧ Below W.heap.size W w') := fun W => cloneS_any _ W h1
 have H2 : Hid (∀ W, Calls Try.prog 64 #[.string p.peer] W fun e w' => e = .returned (.string p.peer) ∧ Below W.heap.size W w') := fun W => cloneS_any _ W h2
 have hun : undef = Value.tuple #[] := rfl
 clear h1 h2
 have HP : Hid (HoldsL ((w.alloc (.cells #[.int .i64 p.proto, .string p.inn, .int .i64 p.inPort, .string p.peer, .int .i64 p.peerPort, .int .i64 p.state, .int .i64 p.untl] 48)).alloc (.cells #[.int .i64 0, .string ⟨#[]⟩, .int .i64 0, .string ⟨#[]⟩, .int .i64 0, .int .i64 0, .int .i64 0] 48)) w.heap.size (ssL p)) := (HoldsL.new w (ssL p) _).alloc _
 have HO : Hid (HoldsL ((w.alloc (.cells #[.int .i64 p.proto, .string p.inn, .int .i64 p.inPort, .string p.peer, .int .i64 p.peerPort, .int .i64 p.state, .int .i64 p.untl] 48)).alloc (.cells #[.int .i64 0, .string ⟨#[]⟩, .int .i64 0, .string ⟨#[]⟩, .int .i64 0, .int .i64 0, .int .i64 0] 48)) (w.heap.size + 1) [.int .i64 0, .string ⟨#[]⟩, .int .i64 0, .string ⟨#[]⟩, .int .i64 0, .int .i64 0, .int .i64 0]) := by
  have h := HoldsL.new (w.alloc (.cells #[.int .i64 p.proto, .string p.inn, .int .i64 p.inPort, .string p.peer, .int .i64 p.peerPort, .int .i64 p.state, .int .i64 p.untl] 48)) [.int .i64 0, .string ⟨#[]⟩, .int .i64 0, .string ⟨#[]⟩, .int .i64 0, .int .i64 0, .int .i64 0] 48
  rwa [World.size_alloc] at h
 have HZ : Hid (Below w.heap.size w ((w.alloc (.cells #[.int .i64 p.proto, .string p.inn, .int .i64 p.inPort, .string p.peer, .int .i64 p.peerPort, .int .i64 p.state, .int .i64 p.untl] 48)).alloc (.cells #[.int .i64 0, .string ⟨#[]⟩, .int .i64 0, .string ⟨#[]⟩, .int .i64 0, .int .i64 0, .int .i64 0] 48))) := ((Below.refl _ _).alloc (Nat.le_refl _) _).alloc (by simp) _
 unfold ssC
 go_enter Try.func38, Try.ntmps38
 go_upto_region 1 with fail
 generalize (w.alloc (.cells #[.int .i64 p.proto, .string p.inn, .int .i64 p.inPort, .string p.peer, .int .i64 p.peerPort, .int .i64 p.state, .int .i64 p.untl] 48)).alloc (.cells #[.int .i64 0, .string ⟨#[]⟩, .int .i64 0, .string ⟨#[]⟩, .int .i64 0, .int .i64 0, .int .i64 0] 48) = W at *
 go_cut [3] (fun v wx => HoldsL wx w.heap.size (ssL p) ∧ HoldsL wx (w.heap.size + 1) [.int .i64 0, .string ⟨#[]⟩, .int .i64 0, .string ⟨#[]⟩, .int .i64 0, .int .i64 0, .int .i64 0] ∧ Below w.heap.size w wx)
 case first =>
  rename_i J K2 hJ hK2
  clear hun
  have HCP : Hid (∀ wy, Below W.drew.heap.size W.drew wy → HoldsL wy w.heap.size (ssL p) ∧ HoldsL wy (w.heap.size + 1) [.int .i64 0, .string ⟨#[]⟩, .int .i64 0, .string ⟨#[]⟩, .int .i64 0, .int .i64 0, .int .i64 0]) := fun wy hy => ⟨HP.out.drew.kept (by simp [ssL]) hy, HO.out.drew.kept (by simp) hy⟩
  refine wp_region_growV [3, 4, 5, 6, 7, 8, 9] (by kernel_rfl) (by kernel_rfl) ?_
  refine GChV.val (n := 0) (fun v => [IsV v]) (fun _ => rfl) rfl ?_
  apply Exists.intro
  refine And.intro ?_ ?_
  ·intro K' a wy ho hd hb hK
   rw [if_pos (wanted_none rfl)]
   have o1 := ho 1 (by decide)
   simp [slot] at o1
   clear hd ho
   go_simp
   try go_bits
   exact hK _ _ rfl (Below.refl _ _)
  refine GChV.val (n := 1) (fun v => [_, IsV v]) (fun _ => rfl) rfl ?_
  apply Exists.intro
  refine And.intro ?_ ?_
  ·intro K' a wy ho hd hb hK
   rw [if_pos (wanted_none rfl)]
   have q0 := hd ⟨0, .data⟩ (by simp) rfl
   simp [rAt, IsV, slot] at q0
   clear hd ho
   have hld := (HCP.out wy hb).1
   have k0 := hld.cell (j := 0) rfl
   have k1 := hld.cell (j := 1) rfl
   have k2 := hld.cell (j := 2) rfl
   have k3 := hld.cell (j := 3) rfl
   have k4 := hld.cell (j := 4) rfl
   have k5 := hld.cell (j := 5) rfl
   have k6 := hld.cell (j := 6) rfl
   go_simp
   try go_bits
   exact hK _ _ rfl (Below.refl _ _)
  refine GChV.val (n := 2) (fun v => [_, _, IsV v]) (fun _ => rfl) rfl ?_
  apply Exists.intro
  refine And.intro ?_ ?_
  ·intro K' a wy ho hd hb hK
   rw [if_pos (wanted_none rfl)]
   have q1 := hd ⟨1, .data⟩ (by simp) rfl
   simp [rAt, IsV, slot] at q1
   clear hd ho
   go_simp
   refine (H1.out wy).mono ?_
   rintro e wz ⟨rfl, hz⟩
   exact hK _ _ rfl hz
  refine GChV.val (n := 3) (fun v => [_, _, _, IsV v]) (fun _ => rfl) rfl ?_
  apply Exists.intro
  refine And.intro ?_ ?_
  ·intro K' a wy ho hd hb hK
   rw [if_pos (wanted_none rfl)]
   have o1 := ho 1 (by decide)
   simp [slot] at o1
   clear hd ho
   go_simp
   try go_bits
   exact hK _ _ rfl (Below.refl _ _)
  refine GChV.val (n := 4) (fun v => [_, _, _, _, IsV v]) (fun _ => rfl) rfl ?_
  apply Exists.intro
  refine And.intro ?_ ?_
  ·intro K' a wy ho hd hb hK
   rw [if_pos (wanted_none rfl)]
   have q3 := hd ⟨3, .data⟩ (by simp) rfl
   simp [rAt, IsV, slot] at q3
   clear hd ho
   have hld := (HCP.out wy hb).1
   have k0 := hld.cell (j := 0) rfl
   have k1 := hld.cell (j := 1) rfl
   have k2 := hld.cell (j := 2) rfl
   have k3 := hld.cell (j := 3) rfl
   have k4 := hld.cell (j := 4) rfl
   have k5 := hld.cell (j := 5) rfl
   have k6 := hld.cell (j := 6) rfl
   go_simp
   try go_bits
   exact hK _ _ rfl (Below.refl _ _)
  refine GChV.val (n := 5) (fun v => [_, _, _, _, _, IsV v]) (fun _ => rfl) rfl ?_
  apply Exists.intro
  refine And.intro ?_ ?_
  ·intro K' a wy ho hd hb hK
   rw [if_pos (wanted_none rfl)]
   have q4 := hd ⟨4, .data⟩ (by simp) rfl
   simp [rAt, IsV, slot] at q4
   clear hd ho
   go_simp
   refine (H2.out wy).mono ?_
   rintro e wz ⟨rfl, hz⟩
   exact hK _ _ rfl hz
  refine GChV.val (n := 6) (fun v => [_, _, _, _, _, _, IsV v]) (fun _ => rfl) rfl ?_
  apply Exists.intro
  refine And.intro ?_ ?_
  ·intro K' a wy ho hd hb hK
   rw [if_pos (wanted_none rfl)]
   have o1 := ho 1 (by decide)
   simp [slot] at o1
   clear hd ho
   go_simp
   try go_bits
   exact hK _ _ rfl (Below.refl _ _)
  intro X wz hR hz
  obtain ⟨x0, x1, x2, x3, x4, x5, x6, -⟩ := hR
  simp only [IsV] at x0 x1 x2 x3 x4 x5 x6
  simp only [putsFrom, x0, x1, x2, x3, x4, x5, x6]
  clear x0 x1 x2 x3 x4 x5 x6
  obtain ⟨hh, hz0⟩ := HCP.out wz hz
  have HB : Hid (Below w.heap.size w wz) := HZ.out.drew.trans (hz.mono HZ.out.size)
  have f1 : wz.frozen? ⟨w.heap.size, 1, none⟩ = false := hh.free (j := 1) (by simp [ssL])
  have f3 : wz.frozen? ⟨w.heap.size, 3, none⟩ = false := hh.free (j := 3) (by simp [ssL])
  have k0 := hh.cell (j := 0) rfl
  have k1 := hh.cell (j := 1) rfl
  have k2 := hh.cell (j := 2) rfl
  have k3 := hh.cell (j := 3) rfl
  have k4 := hh.cell (j := 4) rfl
  have k5 := hh.cell (j := 5) rfl
  have k6 := hh.cell (j := 6) rfl
  have HH : Hid (HoldsL wz w.heap.size (ssL p)) := hh
  have HH0 : Hid (HoldsL wz (w.heap.size + 1) [.int .i64 0, .string ⟨#[]⟩, .int .i64 0, .string ⟨#[]⟩, .int .i64 0, .int .i64 0, .int .i64 0]) := hz0
  clear hh hz0
  intro K10 hK10
  go_simp
  refine hK10 _ _ ?_
  intro K11 hK11
  go_simp
  refine hK11 _ _ ?_
  intro K12 hK12
  go_simp
  refine hK12 _ _ ?_
  show Exit.then _ _ _ _ _
  refine hK2 _ _ (hJ _ _ ?_)
  (repeat apply Exists.intro)
  refine ⟨⟨(HH.out.set 1 _).set 3 _, (HH0.out.setOther (by omega) _).setOther (by omega) _, ?_⟩, rfl⟩
  exact (HB.out.setCell (p := ⟨w.heap.size, 1, none⟩) (Nat.le_refl _) _).setCell (p := ⟨w.heap.size, 3, none⟩) (Nat.le_refl _) _
 case rest =>
  obtain ⟨hh, h0, hb⟩ := hcut
  have HB : Hid (Below w.heap.size w wc) := hb
  have k0 := hh.cell (j := 0) rfl
  have k1 := hh.cell (j := 1) rfl
  have k2 := hh.cell (j := 2) rfl
  have k3 := hh.cell (j := 3) rfl
  have k4 := hh.cell (j := 4) rfl
  have k5 := hh.cell (j := 5) rfl
  have k6 := hh.cell (j := 6) rfl
  have y0 := h0.free (j := 0) (by simp)
  have z0 := h0.cell (j := 0) rfl
  have y1 := h0.free (j := 1) (by simp)
  have z1 := h0.cell (j := 1) rfl
  have y2 := h0.free (j := 2) (by simp)
  have z2 := h0.cell (j := 2) rfl
  have y3 := h0.free (j := 3) (by simp)
  have z3 := h0.cell (j := 3) rfl
  have y4 := h0.free (j := 4) (by simp)
  have z4 := h0.cell (j := 4) rfl
  have y5 := h0.free (j := 5) (by simp)
  have z5 := h0.cell (j := 5) rfl
  have y6 := h0.free (j := 6) (by simp)
  have z6 := h0.cell (j := 6) rfl
  clear hh h0 hb
  go_wp2_with fail
  refine bodyPost_ret (v := .agg #[.int .i64 p.proto, .string p.inn, .int .i64 p.inPort, .string p.peer, .int .i64 p.peerPort, .int .i64 p.state, .int .i64 p.untl]) (by simp [results, Try.results38, go_sem, z0, z1, z2, z3, z4, z5, z6]) rfl ⟨rfl, ?_⟩
  have hsz : w.heap.size ≤ w.heap.size + 1 := Nat.le_succ _
  exact (((((((HB.out.setCell (p := ⟨w.heap.size + 1, 0, none⟩) hsz _).setCell (p := ⟨w.heap.size + 1, 1, none⟩) hsz _).setCell (p := ⟨w.heap.size + 1, 2, none⟩) hsz _).setCell (p := ⟨w.heap.size + 1, 3, none⟩) hsz _).setCell (p := ⟨w.heap.size + 1, 4, none⟩) hsz _).setCell (p := ⟨w.heap.size + 1, 5, none⟩) hsz _).setCell (p := ⟨w.heap.size + 1, 6, none⟩) hsz _)

end Go.Proofs.Ytllagodlgipcpaa
