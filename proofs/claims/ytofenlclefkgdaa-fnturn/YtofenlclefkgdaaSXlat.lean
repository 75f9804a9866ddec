/- SXlat: what the specification's l09Proto, l10Four, l10Six, ToFour and ToSix answer. Printed by mkxlat.py. -/
import Derived.Test.YtofenlclefkgdaaMerged6
import Derived.Test.YtofenlclefkgdaaMerged9
import Derived.Test.YtofenlclefkgdaaGrowV
import Derived.Test.YtofenlclefkgdaaMerged8
import Derived.Test.YtofenlclefkgdaaMerged3
import Derived.Deep.DeepCutAuto
import Derived.RegionTactic
namespace Go.Proofs.Ytofenlclefkgdaa
open Go.RowKit Go.PlainAid
set_option linter.unusedVariables false
set_option linter.unusedSimpArgs false

theorem spProto9_any (n : Int) (w : World) :
  Calls Try.prog 48 #[.int .i64 n] w fun e w' => e = .returned (.int .i64 (if n = 58 then 1 else n)) ∧ w' = w := by
 by_cases h : n = 58
 ·subst h
  go_enter Try.func48, Try.ntmps48
  go_wp2_with fail
  go_ret
  exact ⟨rfl, rfl⟩
 ·have HV : Hid ((if n = 58 then (1 : Int) else n) = n) := if_neg h
  go_enter Try.func48, Try.ntmps48
  go_wp2_with fail
  go_ret
  exact ⟨ret_int (by first | rfl | rw [HV.out]), rfl⟩

set_option maxRecDepth 100000 in
set_option maxHeartbeats 4000000 in
theorem spFour_any (p : P6) (src dst : ByteArray) (w : World) (h0 : 0 ≤ p.id) (h1 : p.id ≤ 4294967295) :
  Calls Try.prog 25 #[p6C p, .string src, .string dst] w fun e w' => e = .returned (p4C (four6 p src dst)) ∧ Below w.heap.size w w' := by
 have HPR : Hid (∀ W, Calls Try.prog 48 #[.int .i64 p.next] W fun e w' => e = .returned (.int .i64 (if p.next = 58 then 1 else p.next)) ∧ Below W.heap.size W w') := fun W => (spProto9_any p.next W).mono fun e w h => ⟨h.1, by rw [h.2]; exact Below.refl _ _⟩
 have hand := mask16 p.id h0 h1
 have HV : Hid (four6 p src dst = ⟨p.cls, if p.piece then p.id % 65536 else 0, !p.piece, p.more, p.off, p.hops, if p.next = 58 then 1 else p.next, src, dst, ⟨#[]⟩, p.data⟩) := rfl
 obtain ⟨cls, flow, next, hops, src6, dst6, piece, more, off, id, data⟩ := p
 dsimp only at *
 generalize (if next = 58 then (1 : Int) else next) = nx at *
 generalize four6 ⟨cls, flow, next, hops, src6, dst6, piece, more, off, id, data⟩ src dst = ans at *
 unfold p6C
 dsimp only
 have e0 : HoldsL ((w.alloc (.cells #[.int .i64 cls, .int .i64 flow, .int .i64 next, .int .i64 hops, .string src6, .string dst6, .bool piece, .bool more, .int .i64 off, .int .i64 id, .string data] 28)).alloc (.cells #[.int .i64 0, .int .i64 0, .bool false, .bool false, .int .i64 0, .int .i64 0, .int .i64 0, .string ⟨#[]⟩, .string ⟨#[]⟩, .string ⟨#[]⟩, .string ⟨#[]⟩] 24)) (w.heap.size) [.int .i64 cls, .int .i64 flow, .int .i64 next, .int .i64 hops, .string src6, .string dst6, .bool piece, .bool more, .int .i64 off, .int .i64 id, .string data] := by
  have h := HoldsL.new w [.int .i64 cls, .int .i64 flow, .int .i64 next, .int .i64 hops, .string src6, .string dst6, .bool piece, .bool more, .int .i64 off, .int .i64 id, .string data] 28
  try simp only [World.size_alloc] at h
  exact (h.alloc _)
 have e1 : HoldsL ((w.alloc (.cells #[.int .i64 cls, .int .i64 flow, .int .i64 next, .int .i64 hops, .string src6, .string dst6, .bool piece, .bool more, .int .i64 off, .int .i64 id, .string data] 28)).alloc (.cells #[.int .i64 0, .int .i64 0, .bool false, .bool false, .int .i64 0, .int .i64 0, .int .i64 0, .string ⟨#[]⟩, .string ⟨#[]⟩, .string ⟨#[]⟩, .string ⟨#[]⟩] 24)) (w.heap.size + 1) [.int .i64 0, .int .i64 0, .bool false, .bool false, .int .i64 0, .int .i64 0, .int .i64 0, .string ⟨#[]⟩, .string ⟨#[]⟩, .string ⟨#[]⟩, .string ⟨#[]⟩] := by
  have h := HoldsL.new (w.alloc (.cells #[.int .i64 cls, .int .i64 flow, .int .i64 next, .int .i64 hops, .string src6, .string dst6, .bool piece, .bool more, .int .i64 off, .int .i64 id, .string data] 28)) [.int .i64 0, .int .i64 0, .bool false, .bool false, .int .i64 0, .int .i64 0, .int .i64 0, .string ⟨#[]⟩, .string ⟨#[]⟩, .string ⟨#[]⟩, .string ⟨#[]⟩] 24
  try simp only [World.size_alloc] at h
  exact h
 have HS0 : Hid (Bxs w [(w.heap.size, [.int .i64 cls, .int .i64 flow, .int .i64 next, .int .i64 hops, .string src6, .string dst6, .bool piece, .bool more, .int .i64 off, .int .i64 id, .string data]), (w.heap.size + 1, [.int .i64 0, .int .i64 0, .bool false, .bool false, .int .i64 0, .int .i64 0, .int .i64 0, .string ⟨#[]⟩, .string ⟨#[]⟩, .string ⟨#[]⟩, .string ⟨#[]⟩])] ((w.alloc (.cells #[.int .i64 cls, .int .i64 flow, .int .i64 next, .int .i64 hops, .string src6, .string dst6, .bool piece, .bool more, .int .i64 off, .int .i64 id, .string data] 28)).alloc (.cells #[.int .i64 0, .int .i64 0, .bool false, .bool false, .int .i64 0, .int .i64 0, .int .i64 0, .string ⟨#[]⟩, .string ⟨#[]⟩, .string ⟨#[]⟩, .string ⟨#[]⟩] 24))) := by
  refine ⟨fun e he => ?_, (((Below.refl _ _).alloc (by (try simp only [World.size_alloc]); omega) _).alloc (by (try simp only [World.size_alloc]); omega) _), fun e he => ?_⟩
  ·simp only [List.mem_cons, List.not_mem_nil, or_false] at he
   rcases he with rfl | rfl
   ·exact e0
   ·exact e1
  ·simp only [List.mem_cons, List.not_mem_nil, or_false] at he
   rcases he with rfl | rfl <;> simp
 clear e0 e1
 go_enter Try.func25, Try.ntmps25
 go_upto_region 1 with fail
 generalize ((w.alloc (.cells #[.int .i64 cls, .int .i64 flow, .int .i64 next, .int .i64 hops, .string src6, .string dst6, .bool piece, .bool more, .int .i64 off, .int .i64 id, .string data] 28)).alloc (.cells #[.int .i64 0, .int .i64 0, .bool false, .bool false, .int .i64 0, .int .i64 0, .int .i64 0, .string ⟨#[]⟩, .string ⟨#[]⟩, .string ⟨#[]⟩, .string ⟨#[]⟩] 24)) = W0 at *
 go_cut [7] (fun v wx => ∃ g, v = .pointer (some ⟨g, 0, none⟩) ∧ W0.heap.size ≤ g ∧ HoldsL wx g [.int .i64 cls, .int .i64 0, .bool (!piece), .bool more, .int .i64 off, .int .i64 hops, .int .i64 nx, .string src, .string dst, .string ⟨#[]⟩, .string data] ∧ Bxs w [(w.heap.size, [.int .i64 cls, .int .i64 flow, .int .i64 next, .int .i64 hops, .string src6, .string dst6, .bool piece, .bool more, .int .i64 off, .int .i64 id, .string data]), (w.heap.size + 1, [.int .i64 0, .int .i64 0, .bool false, .bool false, .int .i64 0, .int .i64 0, .int .i64 0, .string ⟨#[]⟩, .string ⟨#[]⟩, .string ⟨#[]⟩, .string ⟨#[]⟩])] wx)
 case first =>
  rename_i J K2 hJ hK2
  have HCP : Hid (∀ wy, Below W0.drew.heap.size W0.drew wy → _) := fun wy hy => HS0.out.kept ((Below.refl _ _).drew.trans hy)
  clear HV
  refine wp_region_growV [8, 9, 10, 11, 12, 13, 14, 15, 16, 17, 18, 19, 20, 21, 22, 23, 24, 25, 26, 7] (by kernel_rfl) (by kernel_rfl) ?_
  refine GChV.val (n := 0) (fun v => [IsV v]) (fun _ => rfl) rfl ?_
  apply Exists.intro
  refine And.intro ?_ ?_
  ·intro K' a wy ho hd hb hK
   rw [if_pos (wanted_none rfl)]
   have o3 := ho 3 (by decide)
   simp [slot] at o3
   clear hd ho
   go_simp
   try go_bits
   exact hK _ _ rfl (Below.refl _ _)
  refine GChV.val (n := 1) (fun v => [_, IsV v]) (fun _ => rfl) rfl ?_
  apply Exists.intro
  refine And.intro ?_ ?_
  ·intro K' a wy ho hd hb hK
   rw [if_pos (wanted_none rfl)]
   have q0 := hd ⟨0, .data⟩ (by simp) rfl
   simp [rAt, IsV, slot] at q0
   clear hd ho
   have hst := HCP.out wy hb
   have HHk := hst.at (.head _)
   have k0 := HHk.cell (j := 0) rfl
   have k1 := HHk.cell (j := 1) rfl
   have k2 := HHk.cell (j := 2) rfl
   have k3 := HHk.cell (j := 3) rfl
   have k4 := HHk.cell (j := 4) rfl
   have k5 := HHk.cell (j := 5) rfl
   have k6 := HHk.cell (j := 6) rfl
   have k7 := HHk.cell (j := 7) rfl
   have k8 := HHk.cell (j := 8) rfl
   have k9 := HHk.cell (j := 9) rfl
   have k10 := HHk.cell (j := 10) rfl
   clear HHk
   clear hst
   go_simp
   try go_bits
   exact hK _ _ rfl (Below.refl _ _)
  refine GChV.val (n := 2) (fun v => [_, _, IsV v]) (fun _ => rfl) rfl ?_
  apply Exists.intro
  refine And.intro ?_ ?_
  ·intro K' a wy ho hd hb hK
   rw [if_pos (wanted_none rfl)]
   have o3 := ho 3 (by decide)
   simp [slot] at o3
   clear hd ho
   go_simp
   try go_bits
   exact hK _ _ rfl (Below.refl _ _)
  refine GChV.val (n := 3) (fun v => [_, _, _, IsV v]) (fun _ => rfl) rfl ?_
  apply Exists.intro
  refine And.intro ?_ ?_
  ·intro K' a wy ho hd hb hK
   rw [if_pos (wanted_none rfl)]
   have q2 := hd ⟨2, .data⟩ (by simp) rfl
   simp [rAt, IsV, slot] at q2
   clear hd ho
   have hst := HCP.out wy hb
   have HHk := hst.at (.head _)
   have k0 := HHk.cell (j := 0) rfl
   have k1 := HHk.cell (j := 1) rfl
   have k2 := HHk.cell (j := 2) rfl
   have k3 := HHk.cell (j := 3) rfl
   have k4 := HHk.cell (j := 4) rfl
   have k5 := HHk.cell (j := 5) rfl
   have k6 := HHk.cell (j := 6) rfl
   have k7 := HHk.cell (j := 7) rfl
   have k8 := HHk.cell (j := 8) rfl
   have k9 := HHk.cell (j := 9) rfl
   have k10 := HHk.cell (j := 10) rfl
   clear HHk
   clear hst
   go_simp
   try go_bits
   exact hK _ _ rfl (Below.refl _ _)
  refine GChV.val (n := 4) (fun v => [_, _, _, _, IsV v]) (fun _ => rfl) rfl ?_
  apply Exists.intro
  refine And.intro ?_ ?_
  ·intro K' a wy ho hd hb hK
   rw [if_pos (wanted_none rfl)]
   have q3 := hd ⟨3, .data⟩ (by simp) rfl
   simp [rAt, IsV, slot] at q3
   clear hd ho
   go_simp
   try go_bits
   exact hK _ _ rfl (Below.refl _ _)
  refine GChV.val (n := 5) (fun v => [_, _, _, _, _, IsV v]) (fun _ => rfl) rfl ?_
  apply Exists.intro
  refine And.intro ?_ ?_
  ·intro K' a wy ho hd hb hK
   rw [if_pos (wanted_none rfl)]
   have o3 := ho 3 (by decide)
   simp [slot] at o3
   clear hd ho
   go_simp
   try go_bits
   exact hK _ _ rfl (Below.refl _ _)
  refine GChV.val (n := 6) (fun v => [_, _, _, _, _, _, IsV v]) (fun _ => rfl) rfl ?_
  apply Exists.intro
  refine And.intro ?_ ?_
  ·intro K' a wy ho hd hb hK
   rw [if_pos (wanted_none rfl)]
   have q5 := hd ⟨5, .data⟩ (by simp) rfl
   simp [rAt, IsV, slot] at q5
   clear hd ho
   have hst := HCP.out wy hb
   have HHk := hst.at (.head _)
   have k0 := HHk.cell (j := 0) rfl
   have k1 := HHk.cell (j := 1) rfl
   have k2 := HHk.cell (j := 2) rfl
   have k3 := HHk.cell (j := 3) rfl
   have k4 := HHk.cell (j := 4) rfl
   have k5 := HHk.cell (j := 5) rfl
   have k6 := HHk.cell (j := 6) rfl
   have k7 := HHk.cell (j := 7) rfl
   have k8 := HHk.cell (j := 8) rfl
   have k9 := HHk.cell (j := 9) rfl
   have k10 := HHk.cell (j := 10) rfl
   clear HHk
   clear hst
   go_simp
   try go_bits
   exact hK _ _ rfl (Below.refl _ _)
  refine GChV.val (n := 7) (fun v => [_, _, _, _, _, _, _, IsV v]) (fun _ => rfl) rfl ?_
  apply Exists.intro
  refine And.intro ?_ ?_
  ·intro K' a wy ho hd hb hK
   rw [if_pos (wanted_none rfl)]
   have o3 := ho 3 (by decide)
   simp [slot] at o3
   clear hd ho
   go_simp
   try go_bits
   exact hK _ _ rfl (Below.refl _ _)
  refine GChV.val (n := 8) (fun v => [_, _, _, _, _, _, _, _, IsV v]) (fun _ => rfl) rfl ?_
  apply Exists.intro
  refine And.intro ?_ ?_
  ·intro K' a wy ho hd hb hK
   rw [if_pos (wanted_none rfl)]
   have q7 := hd ⟨7, .data⟩ (by simp) rfl
   simp [rAt, IsV, slot] at q7
   clear hd ho
   have hst := HCP.out wy hb
   have HHk := hst.at (.head _)
   have k0 := HHk.cell (j := 0) rfl
   have k1 := HHk.cell (j := 1) rfl
   have k2 := HHk.cell (j := 2) rfl
   have k3 := HHk.cell (j := 3) rfl
   have k4 := HHk.cell (j := 4) rfl
   have k5 := HHk.cell (j := 5) rfl
   have k6 := HHk.cell (j := 6) rfl
   have k7 := HHk.cell (j := 7) rfl
   have k8 := HHk.cell (j := 8) rfl
   have k9 := HHk.cell (j := 9) rfl
   have k10 := HHk.cell (j := 10) rfl
   clear HHk
   clear hst
   go_simp
   try go_bits
   exact hK _ _ rfl (Below.refl _ _)
  refine GChV.val (n := 9) (fun v => [_, _, _, _, _, _, _, _, _, IsV v]) (fun _ => rfl) rfl ?_
  apply Exists.intro
  refine And.intro ?_ ?_
  ·intro K' a wy ho hd hb hK
   rw [if_pos (wanted_none rfl)]
   have o3 := ho 3 (by decide)
   simp [slot] at o3
   clear hd ho
   go_simp
   try go_bits
   exact hK _ _ rfl (Below.refl _ _)
  refine GChV.val (n := 10) (fun v => [_, _, _, _, _, _, _, _, _, _, IsV v]) (fun _ => rfl) rfl ?_
  apply Exists.intro
  refine And.intro ?_ ?_
  ·intro K' a wy ho hd hb hK
   rw [if_pos (wanted_none rfl)]
   have q9 := hd ⟨9, .data⟩ (by simp) rfl
   simp [rAt, IsV, slot] at q9
   clear hd ho
   have hst := HCP.out wy hb
   have HHk := hst.at (.head _)
   have k0 := HHk.cell (j := 0) rfl
   have k1 := HHk.cell (j := 1) rfl
   have k2 := HHk.cell (j := 2) rfl
   have k3 := HHk.cell (j := 3) rfl
   have k4 := HHk.cell (j := 4) rfl
   have k5 := HHk.cell (j := 5) rfl
   have k6 := HHk.cell (j := 6) rfl
   have k7 := HHk.cell (j := 7) rfl
   have k8 := HHk.cell (j := 8) rfl
   have k9 := HHk.cell (j := 9) rfl
   have k10 := HHk.cell (j := 10) rfl
   clear HHk
   clear hst
   go_simp
   try go_bits
   exact hK _ _ rfl (Below.refl _ _)
  refine GChV.val (n := 11) (fun v => [_, _, _, _, _, _, _, _, _, _, _, IsV v]) (fun _ => rfl) rfl ?_
  apply Exists.intro
  refine And.intro ?_ ?_
  ·intro K' a wy ho hd hb hK
   rw [if_pos (wanted_none rfl)]
   have o3 := ho 3 (by decide)
   simp [slot] at o3
   clear hd ho
   go_simp
   try go_bits
   exact hK _ _ rfl (Below.refl _ _)
  refine GChV.val (n := 12) (fun v => [_, _, _, _, _, _, _, _, _, _, _, _, IsV v]) (fun _ => rfl) rfl ?_
  apply Exists.intro
  refine And.intro ?_ ?_
  ·intro K' a wy ho hd hb hK
   rw [if_pos (wanted_none rfl)]
   have q11 := hd ⟨11, .data⟩ (by simp) rfl
   simp [rAt, IsV, slot] at q11
   clear hd ho
   have hst := HCP.out wy hb
   have HHk := hst.at (.head _)
   have k0 := HHk.cell (j := 0) rfl
   have k1 := HHk.cell (j := 1) rfl
   have k2 := HHk.cell (j := 2) rfl
   have k3 := HHk.cell (j := 3) rfl
   have k4 := HHk.cell (j := 4) rfl
   have k5 := HHk.cell (j := 5) rfl
   have k6 := HHk.cell (j := 6) rfl
   have k7 := HHk.cell (j := 7) rfl
   have k8 := HHk.cell (j := 8) rfl
   have k9 := HHk.cell (j := 9) rfl
   have k10 := HHk.cell (j := 10) rfl
   clear HHk
   clear hst
   go_simp
   try go_bits
   exact hK _ _ rfl (Below.refl _ _)
  refine GChV.val (n := 13) (fun v => [_, _, _, _, _, _, _, _, _, _, _, _, _, IsV v]) (fun _ => rfl) rfl ?_
  apply Exists.intro
  refine And.intro ?_ ?_
  ·intro K' a wy ho hd hb hK
   rw [if_pos (wanted_none rfl)]
   have q12 := hd ⟨12, .data⟩ (by simp) rfl
   simp [rAt, IsV, slot] at q12
   clear hd ho
   go_simp
   refine (HPR.out wy).mono ?_
   rintro e wz ⟨rfl, hz⟩
   exact hK _ _ rfl hz
  refine GChV.val (n := 14) (fun v => [_, _, _, _, _, _, _, _, _, _, _, _, _, _, IsV v]) (fun _ => rfl) rfl ?_
  apply Exists.intro
  refine And.intro ?_ ?_
  ·intro K' a wy ho hd hb hK
   rw [if_pos (wanted_none rfl)]
   have o1 := ho 1 (by decide)
   simp [slot] at o1
   clear hd ho
   go_simp
   try go_bits
   exact hK _ _ rfl (Below.refl _ _)
  refine GChV.val (n := 15) (fun v => [_, _, _, _, _, _, _, _, _, _, _, _, _, _, _, IsV v]) (fun _ => rfl) rfl ?_
  apply Exists.intro
  refine And.intro ?_ ?_
  ·intro K' a wy ho hd hb hK
   rw [if_pos (wanted_none rfl)]
   have o2 := ho 2 (by decide)
   simp [slot] at o2
   clear hd ho
   go_simp
   try go_bits
   exact hK _ _ rfl (Below.refl _ _)
  refine GChV.val (n := 16) (fun v => [_, _, _, _, _, _, _, _, _, _, _, _, _, _, _, _, IsV v]) (fun _ => rfl) rfl ?_
  apply Exists.intro
  refine And.intro ?_ ?_
  ·intro K' a wy ho hd hb hK
   rw [if_pos (wanted_none rfl)]
   have o3 := ho 3 (by decide)
   simp [slot] at o3
   clear hd ho
   go_simp
   try go_bits
   exact hK _ _ rfl (Below.refl _ _)
  refine GChV.val (n := 17) (fun v => [_, _, _, _, _, _, _, _, _, _, _, _, _, _, _, _, _, IsV v]) (fun _ => rfl) rfl ?_
  apply Exists.intro
  refine And.intro ?_ ?_
  ·intro K' a wy ho hd hb hK
   rw [if_pos (wanted_none rfl)]
   have q16 := hd ⟨16, .data⟩ (by simp) rfl
   simp [rAt, IsV, slot] at q16
   clear hd ho
   have hst := HCP.out wy hb
   have HHk := hst.at (.head _)
   have k0 := HHk.cell (j := 0) rfl
   have k1 := HHk.cell (j := 1) rfl
   have k2 := HHk.cell (j := 2) rfl
   have k3 := HHk.cell (j := 3) rfl
   have k4 := HHk.cell (j := 4) rfl
   have k5 := HHk.cell (j := 5) rfl
   have k6 := HHk.cell (j := 6) rfl
   have k7 := HHk.cell (j := 7) rfl
   have k8 := HHk.cell (j := 8) rfl
   have k9 := HHk.cell (j := 9) rfl
   have k10 := HHk.cell (j := 10) rfl
   clear HHk
   clear hst
   go_simp
   try go_bits
   exact hK _ _ rfl (Below.refl _ _)
  refine GChV.val (n := 18) (fun v => [_, _, _, _, _, _, _, _, _, _, _, _, _, _, _, _, _, _, IsV v]) (fun _ => rfl) rfl ?_
  apply Exists.intro
  refine And.intro ?_ ?_
  ·intro K' a wy ho hd hb hK
   rw [if_pos (wanted_none rfl)]
   have q1 := hd ⟨1, .data⟩ (by simp) rfl
   simp [rAt, IsV, slot] at q1
   have q4 := hd ⟨4, .data⟩ (by simp) rfl
   simp [rAt, IsV, slot] at q4
   have q6 := hd ⟨6, .data⟩ (by simp) rfl
   simp [rAt, IsV, slot] at q6
   have q8 := hd ⟨8, .data⟩ (by simp) rfl
   simp [rAt, IsV, slot] at q8
   have q10 := hd ⟨10, .data⟩ (by simp) rfl
   simp [rAt, IsV, slot] at q10
   have q13 := hd ⟨13, .data⟩ (by simp) rfl
   simp [rAt, IsV, slot] at q13
   have q14 := hd ⟨14, .data⟩ (by simp) rfl
   simp [rAt, IsV, slot] at q14
   have q15 := hd ⟨15, .data⟩ (by simp) rfl
   simp [rAt, IsV, slot] at q15
   have q17 := hd ⟨17, .data⟩ (by simp) rfl
   simp [rAt, IsV, slot] at q17
   clear hd ho
   go_simp
   try go_bits
   exact hK _ _ rfl (Below.refl _ _)
  refine GChV.rel (n := 19) (IsZy W0.drew.heap.size [.int .i64 0, .int .i64 0, .bool false, .bool false, .int .i64 0, .int .i64 0, .int .i64 0, .string ⟨#[]⟩, .string ⟨#[]⟩, .string ⟨#[]⟩, .string ⟨#[]⟩]) (stable_isZy _ _ (by simp)) [_, _, _, _, _, _, _, _, _, _, _, _, _, _, _, _, _, _, _, IsZy W0.drew.heap.size [.int .i64 0, .int .i64 0, .bool false, .bool false, .int .i64 0, .int .i64 0, .int .i64 0, .string ⟨#[]⟩, .string ⟨#[]⟩, .string ⟨#[]⟩, .string ⟨#[]⟩]] rfl rfl ?_ ?_
  ·intro K' a wy ho hd hb hK
   rw [if_pos (wanted_none rfl)]
   clear hd ho
   go_simp
   exact hK _ _ ⟨wy.heap.size, rfl, hb.size, HoldsL.new wy [.int .i64 0, .int .i64 0, .bool false, .bool false, .int .i64 0, .int .i64 0, .int .i64 0, .string ⟨#[]⟩, .string ⟨#[]⟩, .string ⟨#[]⟩, .string ⟨#[]⟩] 24⟩ ((Below.refl _ _).alloc (Nat.le_refl _) _)
  intro X wz hR hz
  obtain ⟨x0, x1, x2, x3, x4, x5, x6, x7, x8, x9, x10, x11, x12, x13, x14, x15, x16, x17, x18, x19, -⟩ := hR
  obtain ⟨g8, e8, b8, y8⟩ := x19
  simp only [IsV] at x0 x1 x2 x3 x4 x5 x6 x7 x8 x9 x10 x11 x12 x13 x14 x15 x16 x17 x18
  simp only [putsFrom, x0, x1, x2, x3, x4, x5, x6, x7, x8, x9, x10, x11, x12, x13, x14, x15, x16, x17, x18, e8]
  clear x0 x1 x2 x3 x4 x5 x6 x7 x8 x9 x10 x11 x12 x13 x14 x15 x16 x17 x18
  have z0 := y8.cell (j := 0) rfl
  have zf0 := y8.free (j := 0) (by simp)
  have z1 := y8.cell (j := 1) rfl
  have zf1 := y8.free (j := 1) (by simp)
  have z2 := y8.cell (j := 2) rfl
  have zf2 := y8.free (j := 2) (by simp)
  have z3 := y8.cell (j := 3) rfl
  have zf3 := y8.free (j := 3) (by simp)
  have z4 := y8.cell (j := 4) rfl
  have zf4 := y8.free (j := 4) (by simp)
  have z5 := y8.cell (j := 5) rfl
  have zf5 := y8.free (j := 5) (by simp)
  have z6 := y8.cell (j := 6) rfl
  have zf6 := y8.free (j := 6) (by simp)
  have z7 := y8.cell (j := 7) rfl
  have zf7 := y8.free (j := 7) (by simp)
  have z8 := y8.cell (j := 8) rfl
  have zf8 := y8.free (j := 8) (by simp)
  have z9 := y8.cell (j := 9) rfl
  have zf9 := y8.free (j := 9) (by simp)
  have z10 := y8.cell (j := 10) rfl
  have zf10 := y8.free (j := 10) (by simp)
  have b8' : W0.heap.size ≤ g8 := b8
  have HB6 : Hid (Below W0.heap.size W0 (((((((((((wz.setCell ⟨g8, 0, none⟩ (.int .i64 cls)).setCell ⟨g8, 1, none⟩ (.int .i64 0)).setCell ⟨g8, 2, none⟩ (.bool (!piece))).setCell ⟨g8, 3, none⟩ (.bool more)).setCell ⟨g8, 4, none⟩ (.int .i64 off)).setCell ⟨g8, 5, none⟩ (.int .i64 hops)).setCell ⟨g8, 6, none⟩ (.int .i64 nx)).setCell ⟨g8, 7, none⟩ (.string src)).setCell ⟨g8, 8, none⟩ (.string dst)).setCell ⟨g8, 9, none⟩ (.string ⟨#[]⟩)).setCell ⟨g8, 10, none⟩ (.string data))) := (((((((((((((Below.refl _ _).drew.trans hz).setCell (p := ⟨g8, 0, none⟩) b8' (.int .i64 cls)).setCell (p := ⟨g8, 1, none⟩) b8' (.int .i64 0)).setCell (p := ⟨g8, 2, none⟩) b8' (.bool (!piece))).setCell (p := ⟨g8, 3, none⟩) b8' (.bool more)).setCell (p := ⟨g8, 4, none⟩) b8' (.int .i64 off)).setCell (p := ⟨g8, 5, none⟩) b8' (.int .i64 hops)).setCell (p := ⟨g8, 6, none⟩) b8' (.int .i64 nx)).setCell (p := ⟨g8, 7, none⟩) b8' (.string src)).setCell (p := ⟨g8, 8, none⟩) b8' (.string dst)).setCell (p := ⟨g8, 9, none⟩) b8' (.string ⟨#[]⟩)).setCell (p := ⟨g8, 10, none⟩) b8' (.string data))
  have HQ6 : Hid (HoldsL (((((((((((wz.setCell ⟨g8, 0, none⟩ (.int .i64 cls)).setCell ⟨g8, 1, none⟩ (.int .i64 0)).setCell ⟨g8, 2, none⟩ (.bool (!piece))).setCell ⟨g8, 3, none⟩ (.bool more)).setCell ⟨g8, 4, none⟩ (.int .i64 off)).setCell ⟨g8, 5, none⟩ (.int .i64 hops)).setCell ⟨g8, 6, none⟩ (.int .i64 nx)).setCell ⟨g8, 7, none⟩ (.string src)).setCell ⟨g8, 8, none⟩ (.string dst)).setCell ⟨g8, 9, none⟩ (.string ⟨#[]⟩)).setCell ⟨g8, 10, none⟩ (.string data)) g8 [.int .i64 cls, .int .i64 0, .bool (!piece), .bool more, .int .i64 off, .int .i64 hops, .int .i64 nx, .string src, .string dst, .string ⟨#[]⟩, .string data]) := (((((((((((y8.set 0 (.int .i64 cls)).set 1 (.int .i64 0)).set 2 (.bool (!piece))).set 3 (.bool more)).set 4 (.int .i64 off)).set 5 (.int .i64 hops)).set 6 (.int .i64 nx)).set 7 (.string src)).set 8 (.string dst)).set 9 (.string ⟨#[]⟩)).set 10 (.string data))
  have B8 : Hid _ := b8'
  clear y8 b8 b8' hz HCP
  intro K10 hK10
  go_simp
  refine hK10 _ _ ?_
  show Exit.then _ _ _ _ _
  refine hK2 _ _ (hJ _ _ ?_)
  (repeat apply Exists.intro)
  exact ⟨⟨g8, rfl, B8.out, HQ6.out, HS0.out.kept HB6.out⟩, rfl⟩
 case rest =>
 obtain ⟨g, rfl, hg0, hG, hS⟩ := hcut
 generalize wc = W1 at *
 have hW0 : w.heap.size + 1 < W0.heap.size := (HS0.out.k _ (.tail _ (.head _))).lt (by simp)
 have hn1 : ¬ g = w.heap.size := by omega
 have hn2 : ¬ g = w.heap.size + 1 := by omega
 have hn3 : ¬ w.heap.size = g := by omega
 have hn4 : ¬ w.heap.size + 1 = g := by omega
 have hlo : w.heap.size ≤ g := by omega
 have hlr : w.heap.size ≤ w.heap.size + 1 := by omega
 have HG : Hid _ := hG
 have HS1 : Hid _ := hS
 clear hG hS HS0 hg0 hW0
 cases piece
 case false =>
  have HHk := HS1.out.at (.head _)
  have k0 := HHk.cell (j := 0) rfl
  have k1 := HHk.cell (j := 1) rfl
  have k2 := HHk.cell (j := 2) rfl
  have k3 := HHk.cell (j := 3) rfl
  have k4 := HHk.cell (j := 4) rfl
  have k5 := HHk.cell (j := 5) rfl
  have k6 := HHk.cell (j := 6) rfl
  have k7 := HHk.cell (j := 7) rfl
  have k8 := HHk.cell (j := 8) rfl
  have k9 := HHk.cell (j := 9) rfl
  have k10 := HHk.cell (j := 10) rfl
  clear HHk
  have j0 := HG.out.cell (j := 0) rfl
  have j1 := HG.out.cell (j := 1) rfl
  have j2 := HG.out.cell (j := 2) rfl
  have j3 := HG.out.cell (j := 3) rfl
  have j4 := HG.out.cell (j := 4) rfl
  have j5 := HG.out.cell (j := 5) rfl
  have j6 := HG.out.cell (j := 6) rfl
  have j7 := HG.out.cell (j := 7) rfl
  have j8 := HG.out.cell (j := 8) rfl
  have j9 := HG.out.cell (j := 9) rfl
  have j10 := HG.out.cell (j := 10) rfl
  have HHz0 := HS1.out.at (.tail _ (.head _))
  have HHz : HoldsL W1 (w.heap.size + 1) [.int .i64 0, .int .i64 0, .bool false, .bool false, .int .i64 0, .int .i64 0, .int .i64 0, .string ⟨#[]⟩, .string ⟨#[]⟩, .string ⟨#[]⟩, .string ⟨#[]⟩] := HHz0
  have zf0 := HHz0.free (j := 0) (by simp)
  have zf1 := HHz0.free (j := 1) (by simp)
  have zf2 := HHz0.free (j := 2) (by simp)
  have zf3 := HHz0.free (j := 3) (by simp)
  have zf4 := HHz0.free (j := 4) (by simp)
  have zf5 := HHz0.free (j := 5) (by simp)
  have zf6 := HHz0.free (j := 6) (by simp)
  have zf7 := HHz0.free (j := 7) (by simp)
  have zf8 := HHz0.free (j := 8) (by simp)
  have zf9 := HHz0.free (j := 9) (by simp)
  have zf10 := HHz0.free (j := 10) (by simp)
  have z0 := HHz0.cell (j := 0) rfl
  have z1 := HHz0.cell (j := 1) rfl
  have z2 := HHz0.cell (j := 2) rfl
  have z3 := HHz0.cell (j := 3) rfl
  have z4 := HHz0.cell (j := 4) rfl
  have z5 := HHz0.cell (j := 5) rfl
  have z6 := HHz0.cell (j := 6) rfl
  have z7 := HHz0.cell (j := 7) rfl
  have z8 := HHz0.cell (j := 8) rfl
  have z9 := HHz0.cell (j := 9) rfl
  have z10 := HHz0.cell (j := 10) rfl
  have RB : Hid _ := (((((((((((HS1.out.b.setCell (p := ⟨w.heap.size + 1, 0, none⟩) hlr (.int .i64 cls)).setCell (p := ⟨w.heap.size + 1, 1, none⟩) hlr (.int .i64 0)).setCell (p := ⟨w.heap.size + 1, 2, none⟩) hlr (.bool true)).setCell (p := ⟨w.heap.size + 1, 3, none⟩) hlr (.bool more)).setCell (p := ⟨w.heap.size + 1, 4, none⟩) hlr (.int .i64 off)).setCell (p := ⟨w.heap.size + 1, 5, none⟩) hlr (.int .i64 hops)).setCell (p := ⟨w.heap.size + 1, 6, none⟩) hlr (.int .i64 nx)).setCell (p := ⟨w.heap.size + 1, 7, none⟩) hlr (.string src)).setCell (p := ⟨w.heap.size + 1, 8, none⟩) hlr (.string dst)).setCell (p := ⟨w.heap.size + 1, 9, none⟩) hlr (.string ⟨#[]⟩)).setCell (p := ⟨w.heap.size + 1, 10, none⟩) hlr (.string data))
  have HRR : Hid (HoldsL (((((((((((W1.setCell ⟨w.heap.size + 1, 0, none⟩ (.int .i64 cls)).setCell ⟨w.heap.size + 1, 1, none⟩ (.int .i64 0)).setCell ⟨w.heap.size + 1, 2, none⟩ (.bool true)).setCell ⟨w.heap.size + 1, 3, none⟩ (.bool more)).setCell ⟨w.heap.size + 1, 4, none⟩ (.int .i64 off)).setCell ⟨w.heap.size + 1, 5, none⟩ (.int .i64 hops)).setCell ⟨w.heap.size + 1, 6, none⟩ (.int .i64 nx)).setCell ⟨w.heap.size + 1, 7, none⟩ (.string src)).setCell ⟨w.heap.size + 1, 8, none⟩ (.string dst)).setCell ⟨w.heap.size + 1, 9, none⟩ (.string ⟨#[]⟩)).setCell ⟨w.heap.size + 1, 10, none⟩ (.string data)) (w.heap.size + 1) [.int .i64 cls, .int .i64 0, .bool true, .bool more, .int .i64 off, .int .i64 hops, .int .i64 nx, .string src, .string dst, .string ⟨#[]⟩, .string data]) := (((((((((((HHz.set 0 (.int .i64 cls)).set 1 (.int .i64 0)).set 2 (.bool true)).set 3 (.bool more)).set 4 (.int .i64 off)).set 5 (.int .i64 hops)).set 6 (.int .i64 nx)).set 7 (.string src)).set 8 (.string dst)).set 9 (.string ⟨#[]⟩)).set 10 (.string data))
  have HX : Hid (ans = ⟨cls, 0, true, more, off, hops, nx, src, dst, ⟨#[]⟩, data⟩) := HV.out
  clear HV HHz HHz0 HG HS1 HPR
  go_wp2_with fail
  exact bodyPost_ret (results_mid Try.results25 _ _ (w.heap.size + 1) [.int .i64 cls, .int .i64 0, .bool true, .bool more, .int .i64 off, .int .i64 hops, .int .i64 nx, .string src, .string dst, .string ⟨#[]⟩, .string data] _ rfl HRR.out Try.underlying24 rfl (show (Try.prog.info? 24).map (·.size) = some 11 by kernel_rfl)) rfl (And.intro (by rw [HX.out]; rfl) RB.out)
 case true =>
  have HHk := HS1.out.at (.head _)
  have k0 := HHk.cell (j := 0) rfl
  have k1 := HHk.cell (j := 1) rfl
  have k2 := HHk.cell (j := 2) rfl
  have k3 := HHk.cell (j := 3) rfl
  have k4 := HHk.cell (j := 4) rfl
  have k5 := HHk.cell (j := 5) rfl
  have k6 := HHk.cell (j := 6) rfl
  have k7 := HHk.cell (j := 7) rfl
  have k8 := HHk.cell (j := 8) rfl
  have k9 := HHk.cell (j := 9) rfl
  have k10 := HHk.cell (j := 10) rfl
  clear HHk
  have j0 := HG.out.cell (j := 0) rfl
  have j1 := HG.out.cell (j := 1) rfl
  have j2 := HG.out.cell (j := 2) rfl
  have j3 := HG.out.cell (j := 3) rfl
  have j4 := HG.out.cell (j := 4) rfl
  have j5 := HG.out.cell (j := 5) rfl
  have j6 := HG.out.cell (j := 6) rfl
  have j7 := HG.out.cell (j := 7) rfl
  have j8 := HG.out.cell (j := 8) rfl
  have j9 := HG.out.cell (j := 9) rfl
  have j10 := HG.out.cell (j := 10) rfl
  have jf1 := HG.out.free (j := 1) (by simp)
  have HHz0 := HS1.out.at (.tail _ (.head _))
  have HHz : HoldsL (W1.setCell ⟨g, 1, none⟩ (.int .i64 (id % 65536))) (w.heap.size + 1) [.int .i64 0, .int .i64 0, .bool false, .bool false, .int .i64 0, .int .i64 0, .int .i64 0, .string ⟨#[]⟩, .string ⟨#[]⟩, .string ⟨#[]⟩, .string ⟨#[]⟩] := HHz0.setOther hn4 _
  have zf0 := HHz0.free (j := 0) (by simp)
  have zf1 := HHz0.free (j := 1) (by simp)
  have zf2 := HHz0.free (j := 2) (by simp)
  have zf3 := HHz0.free (j := 3) (by simp)
  have zf4 := HHz0.free (j := 4) (by simp)
  have zf5 := HHz0.free (j := 5) (by simp)
  have zf6 := HHz0.free (j := 6) (by simp)
  have zf7 := HHz0.free (j := 7) (by simp)
  have zf8 := HHz0.free (j := 8) (by simp)
  have zf9 := HHz0.free (j := 9) (by simp)
  have zf10 := HHz0.free (j := 10) (by simp)
  have z0 := HHz0.cell (j := 0) rfl
  have z1 := HHz0.cell (j := 1) rfl
  have z2 := HHz0.cell (j := 2) rfl
  have z3 := HHz0.cell (j := 3) rfl
  have z4 := HHz0.cell (j := 4) rfl
  have z5 := HHz0.cell (j := 5) rfl
  have z6 := HHz0.cell (j := 6) rfl
  have z7 := HHz0.cell (j := 7) rfl
  have z8 := HHz0.cell (j := 8) rfl
  have z9 := HHz0.cell (j := 9) rfl
  have z10 := HHz0.cell (j := 10) rfl
  have RB : Hid _ := ((((((((((((HS1.out.b.setCell (p := ⟨g, 1, none⟩) hlo (.int .i64 (id % 65536))).setCell (p := ⟨w.heap.size + 1, 0, none⟩) hlr (.int .i64 cls)).setCell (p := ⟨w.heap.size + 1, 1, none⟩) hlr (.int .i64 (id % 65536))).setCell (p := ⟨w.heap.size + 1, 2, none⟩) hlr (.bool false)).setCell (p := ⟨w.heap.size + 1, 3, none⟩) hlr (.bool more)).setCell (p := ⟨w.heap.size + 1, 4, none⟩) hlr (.int .i64 off)).setCell (p := ⟨w.heap.size + 1, 5, none⟩) hlr (.int .i64 hops)).setCell (p := ⟨w.heap.size + 1, 6, none⟩) hlr (.int .i64 nx)).setCell (p := ⟨w.heap.size + 1, 7, none⟩) hlr (.string src)).setCell (p := ⟨w.heap.size + 1, 8, none⟩) hlr (.string dst)).setCell (p := ⟨w.heap.size + 1, 9, none⟩) hlr (.string ⟨#[]⟩)).setCell (p := ⟨w.heap.size + 1, 10, none⟩) hlr (.string data))
  have HRR : Hid (HoldsL ((((((((((((W1.setCell ⟨g, 1, none⟩ (.int .i64 (id % 65536))).setCell ⟨w.heap.size + 1, 0, none⟩ (.int .i64 cls)).setCell ⟨w.heap.size + 1, 1, none⟩ (.int .i64 (id % 65536))).setCell ⟨w.heap.size + 1, 2, none⟩ (.bool false)).setCell ⟨w.heap.size + 1, 3, none⟩ (.bool more)).setCell ⟨w.heap.size + 1, 4, none⟩ (.int .i64 off)).setCell ⟨w.heap.size + 1, 5, none⟩ (.int .i64 hops)).setCell ⟨w.heap.size + 1, 6, none⟩ (.int .i64 nx)).setCell ⟨w.heap.size + 1, 7, none⟩ (.string src)).setCell ⟨w.heap.size + 1, 8, none⟩ (.string dst)).setCell ⟨w.heap.size + 1, 9, none⟩ (.string ⟨#[]⟩)).setCell ⟨w.heap.size + 1, 10, none⟩ (.string data)) (w.heap.size + 1) [.int .i64 cls, .int .i64 (id % 65536), .bool false, .bool more, .int .i64 off, .int .i64 hops, .int .i64 nx, .string src, .string dst, .string ⟨#[]⟩, .string data]) := (((((((((((HHz.set 0 (.int .i64 cls)).set 1 (.int .i64 (id % 65536))).set 2 (.bool false)).set 3 (.bool more)).set 4 (.int .i64 off)).set 5 (.int .i64 hops)).set 6 (.int .i64 nx)).set 7 (.string src)).set 8 (.string dst)).set 9 (.string ⟨#[]⟩)).set 10 (.string data))
  have HX : Hid (ans = ⟨cls, id % 65536, false, more, off, hops, nx, src, dst, ⟨#[]⟩, data⟩) := HV.out
  clear HV HHz HHz0 HG HS1 HPR
  go_wp2_with fail
  exact bodyPost_ret (results_mid Try.results25 _ _ (w.heap.size + 1) [.int .i64 cls, .int .i64 (id % 65536), .bool false, .bool more, .int .i64 off, .int .i64 hops, .int .i64 nx, .string src, .string dst, .string ⟨#[]⟩, .string data] _ rfl HRR.out Try.underlying24 rfl (show (Try.prog.info? 24).map (·.size) = some 11 by kernel_rfl)) rfl (And.intro (by rw [HX.out]; rfl) RB.out)

set_option maxRecDepth 100000 in
set_option maxHeartbeats 4000000 in
theorem spSix_any (p : P4) (src dst : ByteArray) (w : World) :
  Calls Try.prog 19 #[p4C p, .string src, .string dst] w fun e w' => e = .returned (p6C (six4 p src dst)) ∧ Below w.heap.size w w' := by
 have HV : Hid (six4 p src dst = ⟨p.tos, 0, if p.proto = 1 then 58 else p.proto, p.ttl, src, dst, pcd p, p.more && pcd p, if pcd p then p.off else 0, if pcd p then p.id else 0, p.data⟩) := rfl
 have HC : Hid (pcd p = (p.more || !decide (p.off = 0))) := rfl
 obtain ⟨tos, id, whole, more, off, ttl, proto, src4, dst4, opts, data⟩ := p
 dsimp only at *
 generalize six4 ⟨tos, id, whole, more, off, ttl, proto, src4, dst4, opts, data⟩ src dst = ans at *
 generalize pcd ⟨tos, id, whole, more, off, ttl, proto, src4, dst4, opts, data⟩ = pc at *
 unfold p4C
 dsimp only
 have e0 : HoldsL ((w.alloc (.cells #[.int .i64 tos, .int .i64 id, .bool whole, .bool more, .int .i64 off, .int .i64 ttl, .int .i64 proto, .string src4, .string dst4, .string opts, .string data] 24)).alloc (.cells #[.int .i64 0, .int .i64 0, .int .i64 0, .int .i64 0, .string ⟨#[]⟩, .string ⟨#[]⟩, .bool false, .bool false, .int .i64 0, .int .i64 0, .string ⟨#[]⟩] 28)) (w.heap.size) [.int .i64 tos, .int .i64 id, .bool whole, .bool more, .int .i64 off, .int .i64 ttl, .int .i64 proto, .string src4, .string dst4, .string opts, .string data] := by
  have h := HoldsL.new w [.int .i64 tos, .int .i64 id, .bool whole, .bool more, .int .i64 off, .int .i64 ttl, .int .i64 proto, .string src4, .string dst4, .string opts, .string data] 24
  try simp only [World.size_alloc] at h
  exact (h.alloc _)
 have e1 : HoldsL ((w.alloc (.cells #[.int .i64 tos, .int .i64 id, .bool whole, .bool more, .int .i64 off, .int .i64 ttl, .int .i64 proto, .string src4, .string dst4, .string opts, .string data] 24)).alloc (.cells #[.int .i64 0, .int .i64 0, .int .i64 0, .int .i64 0, .string ⟨#[]⟩, .string ⟨#[]⟩, .bool false, .bool false, .int .i64 0, .int .i64 0, .string ⟨#[]⟩] 28)) (w.heap.size + 1) [.int .i64 0, .int .i64 0, .int .i64 0, .int .i64 0, .string ⟨#[]⟩, .string ⟨#[]⟩, .bool false, .bool false, .int .i64 0, .int .i64 0, .string ⟨#[]⟩] := by
  have h := HoldsL.new (w.alloc (.cells #[.int .i64 tos, .int .i64 id, .bool whole, .bool more, .int .i64 off, .int .i64 ttl, .int .i64 proto, .string src4, .string dst4, .string opts, .string data] 24)) [.int .i64 0, .int .i64 0, .int .i64 0, .int .i64 0, .string ⟨#[]⟩, .string ⟨#[]⟩, .bool false, .bool false, .int .i64 0, .int .i64 0, .string ⟨#[]⟩] 28
  try simp only [World.size_alloc] at h
  exact h
 have HS0 : Hid (Bxs w [(w.heap.size, [.int .i64 tos, .int .i64 id, .bool whole, .bool more, .int .i64 off, .int .i64 ttl, .int .i64 proto, .string src4, .string dst4, .string opts, .string data]), (w.heap.size + 1, [.int .i64 0, .int .i64 0, .int .i64 0, .int .i64 0, .string ⟨#[]⟩, .string ⟨#[]⟩, .bool false, .bool false, .int .i64 0, .int .i64 0, .string ⟨#[]⟩])] ((w.alloc (.cells #[.int .i64 tos, .int .i64 id, .bool whole, .bool more, .int .i64 off, .int .i64 ttl, .int .i64 proto, .string src4, .string dst4, .string opts, .string data] 24)).alloc (.cells #[.int .i64 0, .int .i64 0, .int .i64 0, .int .i64 0, .string ⟨#[]⟩, .string ⟨#[]⟩, .bool false, .bool false, .int .i64 0, .int .i64 0, .string ⟨#[]⟩] 28))) := by
  refine ⟨fun e he => ?_, (((Below.refl _ _).alloc (by (try simp only [World.size_alloc]); omega) _).alloc (by (try simp only [World.size_alloc]); omega) _), fun e he => ?_⟩
  ·simp only [List.mem_cons, List.not_mem_nil, or_false] at he
   rcases he with rfl | rfl
   ·exact e0
   ·exact e1
  ·simp only [List.mem_cons, List.not_mem_nil, or_false] at he
   rcases he with rfl | rfl <;> simp
 clear e0 e1
 have HSG : Hid (HoldsL (((w.alloc (.cells #[.int .i64 tos, .int .i64 id, .bool whole, .bool more, .int .i64 off, .int .i64 ttl, .int .i64 proto, .string src4, .string dst4, .string opts, .string data] 24)).alloc (.cells #[.int .i64 0, .int .i64 0, .int .i64 0, .int .i64 0, .string ⟨#[]⟩, .string ⟨#[]⟩, .bool false, .bool false, .int .i64 0, .int .i64 0, .string ⟨#[]⟩] 28)).alloc (.cells #[.int .i64 tos, .int .i64 0, .int .i64 proto, .int .i64 ttl, .string src, .string dst, .bool false, .bool false, .int .i64 0, .int .i64 0, .string data] 28)) (w.heap.size + 1 + 1) [.int .i64 tos, .int .i64 0, .int .i64 proto, .int .i64 ttl, .string src, .string dst, .bool false, .bool false, .int .i64 0, .int .i64 0, .string data]) := by
  have h := HoldsL.new ((w.alloc (.cells #[.int .i64 tos, .int .i64 id, .bool whole, .bool more, .int .i64 off, .int .i64 ttl, .int .i64 proto, .string src4, .string dst4, .string opts, .string data] 24)).alloc (.cells #[.int .i64 0, .int .i64 0, .int .i64 0, .int .i64 0, .string ⟨#[]⟩, .string ⟨#[]⟩, .bool false, .bool false, .int .i64 0, .int .i64 0, .string ⟨#[]⟩] 28)) [.int .i64 tos, .int .i64 0, .int .i64 proto, .int .i64 ttl, .string src, .string dst, .bool false, .bool false, .int .i64 0, .int .i64 0, .string data] 28
  simp only [World.size_alloc] at h
  exact h
 have HS1 : Hid (Bxs w [(w.heap.size, [.int .i64 tos, .int .i64 id, .bool whole, .bool more, .int .i64 off, .int .i64 ttl, .int .i64 proto, .string src4, .string dst4, .string opts, .string data]), (w.heap.size + 1, [.int .i64 0, .int .i64 0, .int .i64 0, .int .i64 0, .string ⟨#[]⟩, .string ⟨#[]⟩, .bool false, .bool false, .int .i64 0, .int .i64 0, .string ⟨#[]⟩])] (((w.alloc (.cells #[.int .i64 tos, .int .i64 id, .bool whole, .bool more, .int .i64 off, .int .i64 ttl, .int .i64 proto, .string src4, .string dst4, .string opts, .string data] 24)).alloc (.cells #[.int .i64 0, .int .i64 0, .int .i64 0, .int .i64 0, .string ⟨#[]⟩, .string ⟨#[]⟩, .bool false, .bool false, .int .i64 0, .int .i64 0, .string ⟨#[]⟩] 28)).alloc (.cells #[.int .i64 tos, .int .i64 0, .int .i64 proto, .int .i64 ttl, .string src, .string dst, .bool false, .bool false, .int .i64 0, .int .i64 0, .string data] 28))) := HS0.out.kept ((Below.refl _ _).alloc (Nat.le_refl _) _)
 have hn1 : ¬ w.heap.size + 1 + 1 = w.heap.size := by omega
 have hn2 : ¬ w.heap.size + 1 + 1 = w.heap.size + 1 := by omega
 have hn3 : ¬ w.heap.size = w.heap.size + 1 + 1 := by omega
 have hn4 : ¬ w.heap.size + 1 = w.heap.size + 1 + 1 := by omega
 have hlo : w.heap.size ≤ w.heap.size + 1 + 1 := by omega
 have hlr : w.heap.size ≤ w.heap.size + 1 := by omega
 go_enter Try.func19, Try.ntmps19
 go_upto_region 2 with fail
 generalize ((w.alloc (.cells #[.int .i64 tos, .int .i64 id, .bool whole, .bool more, .int .i64 off, .int .i64 ttl, .int .i64 proto, .string src4, .string dst4, .string opts, .string data] 24)).alloc (.cells #[.int .i64 0, .int .i64 0, .int .i64 0, .int .i64 0, .string ⟨#[]⟩, .string ⟨#[]⟩, .bool false, .bool false, .int .i64 0, .int .i64 0, .string ⟨#[]⟩] 28)).alloc (.cells #[.int .i64 tos, .int .i64 0, .int .i64 proto, .int .i64 ttl, .string src, .string dst, .bool false, .bool false, .int .i64 0, .int .i64 0, .string data] 28) = W1 at *
 clear HS0
 by_cases c1 : proto = 1
 ·subst c1
  cases more with
  | true =>
   have hpc : pc = true := by rw [HC.out]; rfl
   subst hpc
   have HHk := HS1.out.at (.head _)
   have k0 := HHk.cell (j := 0) rfl
   have k1 := HHk.cell (j := 1) rfl
   have k2 := HHk.cell (j := 2) rfl
   have k3 := HHk.cell (j := 3) rfl
   have k4 := HHk.cell (j := 4) rfl
   have k5 := HHk.cell (j := 5) rfl
   have k6 := HHk.cell (j := 6) rfl
   have k7 := HHk.cell (j := 7) rfl
   have k8 := HHk.cell (j := 8) rfl
   have k9 := HHk.cell (j := 9) rfl
   have k10 := HHk.cell (j := 10) rfl
   clear HHk
   have j0 := HSG.out.cell (j := 0) rfl
   have j1 := HSG.out.cell (j := 1) rfl
   have j2 := HSG.out.cell (j := 2) rfl
   have j3 := HSG.out.cell (j := 3) rfl
   have j4 := HSG.out.cell (j := 4) rfl
   have j5 := HSG.out.cell (j := 5) rfl
   have j6 := HSG.out.cell (j := 6) rfl
   have j7 := HSG.out.cell (j := 7) rfl
   have j8 := HSG.out.cell (j := 8) rfl
   have j9 := HSG.out.cell (j := 9) rfl
   have j10 := HSG.out.cell (j := 10) rfl
   have jf2 := HSG.out.free (j := 2) (by simp)
   have jf6 := HSG.out.free (j := 6) (by simp)
   have jf7 := HSG.out.free (j := 7) (by simp)
   have jf8 := HSG.out.free (j := 8) (by simp)
   have jf9 := HSG.out.free (j := 9) (by simp)
   have HHz0 := HS1.out.at (.tail _ (.head _))
   have HHz : HoldsL (((((W1.setCell ⟨w.heap.size + 1 + 1, 2, none⟩ (.int .i64 58)).setCell ⟨w.heap.size + 1 + 1, 6, none⟩ (.bool true)).setCell ⟨w.heap.size + 1 + 1, 7, none⟩ (.bool true)).setCell ⟨w.heap.size + 1 + 1, 8, none⟩ (.int .i64 off)).setCell ⟨w.heap.size + 1 + 1, 9, none⟩ (.int .i64 id)) (w.heap.size + 1) [.int .i64 0, .int .i64 0, .int .i64 0, .int .i64 0, .string ⟨#[]⟩, .string ⟨#[]⟩, .bool false, .bool false, .int .i64 0, .int .i64 0, .string ⟨#[]⟩] := (((((HHz0.setOther hn4 _).setOther hn4 _).setOther hn4 _).setOther hn4 _).setOther hn4 _)
   have zf0 := HHz0.free (j := 0) (by simp)
   have zf1 := HHz0.free (j := 1) (by simp)
   have zf2 := HHz0.free (j := 2) (by simp)
   have zf3 := HHz0.free (j := 3) (by simp)
   have zf4 := HHz0.free (j := 4) (by simp)
   have zf5 := HHz0.free (j := 5) (by simp)
   have zf6 := HHz0.free (j := 6) (by simp)
   have zf7 := HHz0.free (j := 7) (by simp)
   have zf8 := HHz0.free (j := 8) (by simp)
   have zf9 := HHz0.free (j := 9) (by simp)
   have zf10 := HHz0.free (j := 10) (by simp)
   have z0 := HHz0.cell (j := 0) rfl
   have z1 := HHz0.cell (j := 1) rfl
   have z2 := HHz0.cell (j := 2) rfl
   have z3 := HHz0.cell (j := 3) rfl
   have z4 := HHz0.cell (j := 4) rfl
   have z5 := HHz0.cell (j := 5) rfl
   have z6 := HHz0.cell (j := 6) rfl
   have z7 := HHz0.cell (j := 7) rfl
   have z8 := HHz0.cell (j := 8) rfl
   have z9 := HHz0.cell (j := 9) rfl
   have z10 := HHz0.cell (j := 10) rfl
   have RB : Hid _ := ((((((((((((((((HS1.out.b.setCell (p := ⟨w.heap.size + 1 + 1, 2, none⟩) hlo (.int .i64 58)).setCell (p := ⟨w.heap.size + 1 + 1, 6, none⟩) hlo (.bool true)).setCell (p := ⟨w.heap.size + 1 + 1, 7, none⟩) hlo (.bool true)).setCell (p := ⟨w.heap.size + 1 + 1, 8, none⟩) hlo (.int .i64 off)).setCell (p := ⟨w.heap.size + 1 + 1, 9, none⟩) hlo (.int .i64 id)).setCell (p := ⟨w.heap.size + 1, 0, none⟩) hlr (.int .i64 tos)).setCell (p := ⟨w.heap.size + 1, 1, none⟩) hlr (.int .i64 0)).setCell (p := ⟨w.heap.size + 1, 2, none⟩) hlr (.int .i64 58)).setCell (p := ⟨w.heap.size + 1, 3, none⟩) hlr (.int .i64 ttl)).setCell (p := ⟨w.heap.size + 1, 4, none⟩) hlr (.string src)).setCell (p := ⟨w.heap.size + 1, 5, none⟩) hlr (.string dst)).setCell (p := ⟨w.heap.size + 1, 6, none⟩) hlr (.bool true)).setCell (p := ⟨w.heap.size + 1, 7, none⟩) hlr (.bool true)).setCell (p := ⟨w.heap.size + 1, 8, none⟩) hlr (.int .i64 off)).setCell (p := ⟨w.heap.size + 1, 9, none⟩) hlr (.int .i64 id)).setCell (p := ⟨w.heap.size + 1, 10, none⟩) hlr (.string data))
   have HRR : Hid (HoldsL ((((((((((((((((W1.setCell ⟨w.heap.size + 1 + 1, 2, none⟩ (.int .i64 58)).setCell ⟨w.heap.size + 1 + 1, 6, none⟩ (.bool true)).setCell ⟨w.heap.size + 1 + 1, 7, none⟩ (.bool true)).setCell ⟨w.heap.size + 1 + 1, 8, none⟩ (.int .i64 off)).setCell ⟨w.heap.size + 1 + 1, 9, none⟩ (.int .i64 id)).setCell ⟨w.heap.size + 1, 0, none⟩ (.int .i64 tos)).setCell ⟨w.heap.size + 1, 1, none⟩ (.int .i64 0)).setCell ⟨w.heap.size + 1, 2, none⟩ (.int .i64 58)).setCell ⟨w.heap.size + 1, 3, none⟩ (.int .i64 ttl)).setCell ⟨w.heap.size + 1, 4, none⟩ (.string src)).setCell ⟨w.heap.size + 1, 5, none⟩ (.string dst)).setCell ⟨w.heap.size + 1, 6, none⟩ (.bool true)).setCell ⟨w.heap.size + 1, 7, none⟩ (.bool true)).setCell ⟨w.heap.size + 1, 8, none⟩ (.int .i64 off)).setCell ⟨w.heap.size + 1, 9, none⟩ (.int .i64 id)).setCell ⟨w.heap.size + 1, 10, none⟩ (.string data)) (w.heap.size + 1) [.int .i64 tos, .int .i64 0, .int .i64 58, .int .i64 ttl, .string src, .string dst, .bool true, .bool true, .int .i64 off, .int .i64 id, .string data]) := (((((((((((HHz.set 0 (.int .i64 tos)).set 1 (.int .i64 0)).set 2 (.int .i64 58)).set 3 (.int .i64 ttl)).set 4 (.string src)).set 5 (.string dst)).set 6 (.bool true)).set 7 (.bool true)).set 8 (.int .i64 off)).set 9 (.int .i64 id)).set 10 (.string data))
   have HX : Hid (ans = ⟨tos, 0, 58, ttl, src, dst, true, true, off, id, data⟩) := by
    unfold Hid; rw [HV.out]
    simp []
   clear HV HC HHz HHz0 HSG HS1
   go_wp2_with fail
   exact bodyPost_ret (results_mid Try.results19 _ _ (w.heap.size + 1) [.int .i64 tos, .int .i64 0, .int .i64 58, .int .i64 ttl, .string src, .string dst, .bool true, .bool true, .int .i64 off, .int .i64 id, .string data] _ rfl HRR.out Try.underlying28 rfl (show (Try.prog.info? 28).map (·.size) = some 11 by kernel_rfl)) rfl (And.intro (by rw [HX.out]; rfl) RB.out)
  | false =>
   by_cases c2 : off = 0
   ·subst c2
    have hpc : pc = false := by rw [HC.out]; rfl
    subst hpc
    have HHk := HS1.out.at (.head _)
    have k0 := HHk.cell (j := 0) rfl
    have k1 := HHk.cell (j := 1) rfl
    have k2 := HHk.cell (j := 2) rfl
    have k3 := HHk.cell (j := 3) rfl
    have k4 := HHk.cell (j := 4) rfl
    have k5 := HHk.cell (j := 5) rfl
    have k6 := HHk.cell (j := 6) rfl
    have k7 := HHk.cell (j := 7) rfl
    have k8 := HHk.cell (j := 8) rfl
    have k9 := HHk.cell (j := 9) rfl
    have k10 := HHk.cell (j := 10) rfl
    clear HHk
    have j0 := HSG.out.cell (j := 0) rfl
    have j1 := HSG.out.cell (j := 1) rfl
    have j2 := HSG.out.cell (j := 2) rfl
    have j3 := HSG.out.cell (j := 3) rfl
    have j4 := HSG.out.cell (j := 4) rfl
    have j5 := HSG.out.cell (j := 5) rfl
    have j6 := HSG.out.cell (j := 6) rfl
    have j7 := HSG.out.cell (j := 7) rfl
    have j8 := HSG.out.cell (j := 8) rfl
    have j9 := HSG.out.cell (j := 9) rfl
    have j10 := HSG.out.cell (j := 10) rfl
    have jf2 := HSG.out.free (j := 2) (by simp)
    have HHz0 := HS1.out.at (.tail _ (.head _))
    have HHz : HoldsL (W1.setCell ⟨w.heap.size + 1 + 1, 2, none⟩ (.int .i64 58)) (w.heap.size + 1) [.int .i64 0, .int .i64 0, .int .i64 0, .int .i64 0, .string ⟨#[]⟩, .string ⟨#[]⟩, .bool false, .bool false, .int .i64 0, .int .i64 0, .string ⟨#[]⟩] := (HHz0.setOther hn4 _)
    have zf0 := HHz0.free (j := 0) (by simp)
    have zf1 := HHz0.free (j := 1) (by simp)
    have zf2 := HHz0.free (j := 2) (by simp)
    have zf3 := HHz0.free (j := 3) (by simp)
    have zf4 := HHz0.free (j := 4) (by simp)
    have zf5 := HHz0.free (j := 5) (by simp)
    have zf6 := HHz0.free (j := 6) (by simp)
    have zf7 := HHz0.free (j := 7) (by simp)
    have zf8 := HHz0.free (j := 8) (by simp)
    have zf9 := HHz0.free (j := 9) (by simp)
    have zf10 := HHz0.free (j := 10) (by simp)
    have z0 := HHz0.cell (j := 0) rfl
    have z1 := HHz0.cell (j := 1) rfl
    have z2 := HHz0.cell (j := 2) rfl
    have z3 := HHz0.cell (j := 3) rfl
    have z4 := HHz0.cell (j := 4) rfl
    have z5 := HHz0.cell (j := 5) rfl
    have z6 := HHz0.cell (j := 6) rfl
    have z7 := HHz0.cell (j := 7) rfl
    have z8 := HHz0.cell (j := 8) rfl
    have z9 := HHz0.cell (j := 9) rfl
    have z10 := HHz0.cell (j := 10) rfl
    have RB : Hid _ := ((((((((((((HS1.out.b.setCell (p := ⟨w.heap.size + 1 + 1, 2, none⟩) hlo (.int .i64 58)).setCell (p := ⟨w.heap.size + 1, 0, none⟩) hlr (.int .i64 tos)).setCell (p := ⟨w.heap.size + 1, 1, none⟩) hlr (.int .i64 0)).setCell (p := ⟨w.heap.size + 1, 2, none⟩) hlr (.int .i64 58)).setCell (p := ⟨w.heap.size + 1, 3, none⟩) hlr (.int .i64 ttl)).setCell (p := ⟨w.heap.size + 1, 4, none⟩) hlr (.string src)).setCell (p := ⟨w.heap.size + 1, 5, none⟩) hlr (.string dst)).setCell (p := ⟨w.heap.size + 1, 6, none⟩) hlr (.bool false)).setCell (p := ⟨w.heap.size + 1, 7, none⟩) hlr (.bool false)).setCell (p := ⟨w.heap.size + 1, 8, none⟩) hlr (.int .i64 0)).setCell (p := ⟨w.heap.size + 1, 9, none⟩) hlr (.int .i64 0)).setCell (p := ⟨w.heap.size + 1, 10, none⟩) hlr (.string data))
    have HRR : Hid (HoldsL ((((((((((((W1.setCell ⟨w.heap.size + 1 + 1, 2, none⟩ (.int .i64 58)).setCell ⟨w.heap.size + 1, 0, none⟩ (.int .i64 tos)).setCell ⟨w.heap.size + 1, 1, none⟩ (.int .i64 0)).setCell ⟨w.heap.size + 1, 2, none⟩ (.int .i64 58)).setCell ⟨w.heap.size + 1, 3, none⟩ (.int .i64 ttl)).setCell ⟨w.heap.size + 1, 4, none⟩ (.string src)).setCell ⟨w.heap.size + 1, 5, none⟩ (.string dst)).setCell ⟨w.heap.size + 1, 6, none⟩ (.bool false)).setCell ⟨w.heap.size + 1, 7, none⟩ (.bool false)).setCell ⟨w.heap.size + 1, 8, none⟩ (.int .i64 0)).setCell ⟨w.heap.size + 1, 9, none⟩ (.int .i64 0)).setCell ⟨w.heap.size + 1, 10, none⟩ (.string data)) (w.heap.size + 1) [.int .i64 tos, .int .i64 0, .int .i64 58, .int .i64 ttl, .string src, .string dst, .bool false, .bool false, .int .i64 0, .int .i64 0, .string data]) := (((((((((((HHz.set 0 (.int .i64 tos)).set 1 (.int .i64 0)).set 2 (.int .i64 58)).set 3 (.int .i64 ttl)).set 4 (.string src)).set 5 (.string dst)).set 6 (.bool false)).set 7 (.bool false)).set 8 (.int .i64 0)).set 9 (.int .i64 0)).set 10 (.string data))
    have HX : Hid (ans = ⟨tos, 0, 58, ttl, src, dst, false, false, 0, 0, data⟩) := by
     unfold Hid; rw [HV.out]
     simp []
    clear HV HC HHz HHz0 HSG HS1
    go_wp2_with fail
    exact bodyPost_ret (results_mid Try.results19 _ _ (w.heap.size + 1) [.int .i64 tos, .int .i64 0, .int .i64 58, .int .i64 ttl, .string src, .string dst, .bool false, .bool false, .int .i64 0, .int .i64 0, .string data] _ rfl HRR.out Try.underlying28 rfl (show (Try.prog.info? 28).map (·.size) = some 11 by kernel_rfl)) rfl (And.intro (by rw [HX.out]; rfl) RB.out)
   ·have d2 : (off != 0) = true := by simpa using c2
    have hpc : pc = true := by rw [HC.out]; simp [c2]
    subst hpc
    have HHk := HS1.out.at (.head _)
    have k0 := HHk.cell (j := 0) rfl
    have k1 := HHk.cell (j := 1) rfl
    have k2 := HHk.cell (j := 2) rfl
    have k3 := HHk.cell (j := 3) rfl
    have k4 := HHk.cell (j := 4) rfl
    have k5 := HHk.cell (j := 5) rfl
    have k6 := HHk.cell (j := 6) rfl
    have k7 := HHk.cell (j := 7) rfl
    have k8 := HHk.cell (j := 8) rfl
    have k9 := HHk.cell (j := 9) rfl
    have k10 := HHk.cell (j := 10) rfl
    clear HHk
    have j0 := HSG.out.cell (j := 0) rfl
    have j1 := HSG.out.cell (j := 1) rfl
    have j2 := HSG.out.cell (j := 2) rfl
    have j3 := HSG.out.cell (j := 3) rfl
    have j4 := HSG.out.cell (j := 4) rfl
    have j5 := HSG.out.cell (j := 5) rfl
    have j6 := HSG.out.cell (j := 6) rfl
    have j7 := HSG.out.cell (j := 7) rfl
    have j8 := HSG.out.cell (j := 8) rfl
    have j9 := HSG.out.cell (j := 9) rfl
    have j10 := HSG.out.cell (j := 10) rfl
    have jf2 := HSG.out.free (j := 2) (by simp)
    have jf6 := HSG.out.free (j := 6) (by simp)
    have jf7 := HSG.out.free (j := 7) (by simp)
    have jf8 := HSG.out.free (j := 8) (by simp)
    have jf9 := HSG.out.free (j := 9) (by simp)
    have HHz0 := HS1.out.at (.tail _ (.head _))
    have HHz : HoldsL (((((W1.setCell ⟨w.heap.size + 1 + 1, 2, none⟩ (.int .i64 58)).setCell ⟨w.heap.size + 1 + 1, 6, none⟩ (.bool true)).setCell ⟨w.heap.size + 1 + 1, 7, none⟩ (.bool false)).setCell ⟨w.heap.size + 1 + 1, 8, none⟩ (.int .i64 off)).setCell ⟨w.heap.size + 1 + 1, 9, none⟩ (.int .i64 id)) (w.heap.size + 1) [.int .i64 0, .int .i64 0, .int .i64 0, .int .i64 0, .string ⟨#[]⟩, .string ⟨#[]⟩, .bool false, .bool false, .int .i64 0, .int .i64 0, .string ⟨#[]⟩] := (((((HHz0.setOther hn4 _).setOther hn4 _).setOther hn4 _).setOther hn4 _).setOther hn4 _)
    have zf0 := HHz0.free (j := 0) (by simp)
    have zf1 := HHz0.free (j := 1) (by simp)
    have zf2 := HHz0.free (j := 2) (by simp)
    have zf3 := HHz0.free (j := 3) (by simp)
    have zf4 := HHz0.free (j := 4) (by simp)
    have zf5 := HHz0.free (j := 5) (by simp)
    have zf6 := HHz0.free (j := 6) (by simp)
    have zf7 := HHz0.free (j := 7) (by simp)
    have zf8 := HHz0.free (j := 8) (by simp)
    have zf9 := HHz0.free (j := 9) (by simp)
    have zf10 := HHz0.free (j := 10) (by simp)
    have z0 := HHz0.cell (j := 0) rfl
    have z1 := HHz0.cell (j := 1) rfl
    have z2 := HHz0.cell (j := 2) rfl
    have z3 := HHz0.cell (j := 3) rfl
    have z4 := HHz0.cell (j := 4) rfl
    have z5 := HHz0.cell (j := 5) rfl
    have z6 := HHz0.cell (j := 6) rfl
    have z7 := HHz0.cell (j := 7) rfl
    have z8 := HHz0.cell (j := 8) rfl
    have z9 := HHz0.cell (j := 9) rfl
    have z10 := HHz0.cell (j := 10) rfl
    have RB : Hid _ := ((((((((((((((((HS1.out.b.setCell (p := ⟨w.heap.size + 1 + 1, 2, none⟩) hlo (.int .i64 58)).setCell (p := ⟨w.heap.size + 1 + 1, 6, none⟩) hlo (.bool true)).setCell (p := ⟨w.heap.size + 1 + 1, 7, none⟩) hlo (.bool false)).setCell (p := ⟨w.heap.size + 1 + 1, 8, none⟩) hlo (.int .i64 off)).setCell (p := ⟨w.heap.size + 1 + 1, 9, none⟩) hlo (.int .i64 id)).setCell (p := ⟨w.heap.size + 1, 0, none⟩) hlr (.int .i64 tos)).setCell (p := ⟨w.heap.size + 1, 1, none⟩) hlr (.int .i64 0)).setCell (p := ⟨w.heap.size + 1, 2, none⟩) hlr (.int .i64 58)).setCell (p := ⟨w.heap.size + 1, 3, none⟩) hlr (.int .i64 ttl)).setCell (p := ⟨w.heap.size + 1, 4, none⟩) hlr (.string src)).setCell (p := ⟨w.heap.size + 1, 5, none⟩) hlr (.string dst)).setCell (p := ⟨w.heap.size + 1, 6, none⟩) hlr (.bool true)).setCell (p := ⟨w.heap.size + 1, 7, none⟩) hlr (.bool false)).setCell (p := ⟨w.heap.size + 1, 8, none⟩) hlr (.int .i64 off)).setCell (p := ⟨w.heap.size + 1, 9, none⟩) hlr (.int .i64 id)).setCell (p := ⟨w.heap.size + 1, 10, none⟩) hlr (.string data))
    have HRR : Hid (HoldsL ((((((((((((((((W1.setCell ⟨w.heap.size + 1 + 1, 2, none⟩ (.int .i64 58)).setCell ⟨w.heap.size + 1 + 1, 6, none⟩ (.bool true)).setCell ⟨w.heap.size + 1 + 1, 7, none⟩ (.bool false)).setCell ⟨w.heap.size + 1 + 1, 8, none⟩ (.int .i64 off)).setCell ⟨w.heap.size + 1 + 1, 9, none⟩ (.int .i64 id)).setCell ⟨w.heap.size + 1, 0, none⟩ (.int .i64 tos)).setCell ⟨w.heap.size + 1, 1, none⟩ (.int .i64 0)).setCell ⟨w.heap.size + 1, 2, none⟩ (.int .i64 58)).setCell ⟨w.heap.size + 1, 3, none⟩ (.int .i64 ttl)).setCell ⟨w.heap.size + 1, 4, none⟩ (.string src)).setCell ⟨w.heap.size + 1, 5, none⟩ (.string dst)).setCell ⟨w.heap.size + 1, 6, none⟩ (.bool true)).setCell ⟨w.heap.size + 1, 7, none⟩ (.bool false)).setCell ⟨w.heap.size + 1, 8, none⟩ (.int .i64 off)).setCell ⟨w.heap.size + 1, 9, none⟩ (.int .i64 id)).setCell ⟨w.heap.size + 1, 10, none⟩ (.string data)) (w.heap.size + 1) [.int .i64 tos, .int .i64 0, .int .i64 58, .int .i64 ttl, .string src, .string dst, .bool true, .bool false, .int .i64 off, .int .i64 id, .string data]) := (((((((((((HHz.set 0 (.int .i64 tos)).set 1 (.int .i64 0)).set 2 (.int .i64 58)).set 3 (.int .i64 ttl)).set 4 (.string src)).set 5 (.string dst)).set 6 (.bool true)).set 7 (.bool false)).set 8 (.int .i64 off)).set 9 (.int .i64 id)).set 10 (.string data))
    have HX : Hid (ans = ⟨tos, 0, 58, ttl, src, dst, true, false, off, id, data⟩) := by
     unfold Hid; rw [HV.out]
     simp []
    clear HV HC HHz HHz0 HSG HS1
    go_wp2_with fail
    exact bodyPost_ret (results_mid Try.results19 _ _ (w.heap.size + 1) [.int .i64 tos, .int .i64 0, .int .i64 58, .int .i64 ttl, .string src, .string dst, .bool true, .bool false, .int .i64 off, .int .i64 id, .string data] _ rfl HRR.out Try.underlying28 rfl (show (Try.prog.info? 28).map (·.size) = some 11 by kernel_rfl)) rfl (And.intro (by rw [HX.out]; rfl) RB.out)
 ·have d1 : (proto == 1) = false := by simpa using c1
  cases more with
  | true =>
   have hpc : pc = true := by rw [HC.out]; rfl
   subst hpc
   have HHk := HS1.out.at (.head _)
   have k0 := HHk.cell (j := 0) rfl
   have k1 := HHk.cell (j := 1) rfl
   have k2 := HHk.cell (j := 2) rfl
   have k3 := HHk.cell (j := 3) rfl
   have k4 := HHk.cell (j := 4) rfl
   have k5 := HHk.cell (j := 5) rfl
   have k6 := HHk.cell (j := 6) rfl
   have k7 := HHk.cell (j := 7) rfl
   have k8 := HHk.cell (j := 8) rfl
   have k9 := HHk.cell (j := 9) rfl
   have k10 := HHk.cell (j := 10) rfl
   clear HHk
   have j0 := HSG.out.cell (j := 0) rfl
   have j1 := HSG.out.cell (j := 1) rfl
   have j2 := HSG.out.cell (j := 2) rfl
   have j3 := HSG.out.cell (j := 3) rfl
   have j4 := HSG.out.cell (j := 4) rfl
   have j5 := HSG.out.cell (j := 5) rfl
   have j6 := HSG.out.cell (j := 6) rfl
   have j7 := HSG.out.cell (j := 7) rfl
   have j8 := HSG.out.cell (j := 8) rfl
   have j9 := HSG.out.cell (j := 9) rfl
   have j10 := HSG.out.cell (j := 10) rfl
   have jf6 := HSG.out.free (j := 6) (by simp)
   have jf7 := HSG.out.free (j := 7) (by simp)
   have jf8 := HSG.out.free (j := 8) (by simp)
   have jf9 := HSG.out.free (j := 9) (by simp)
   have HHz0 := HS1.out.at (.tail _ (.head _))
   have HHz : HoldsL ((((W1.setCell ⟨w.heap.size + 1 + 1, 6, none⟩ (.bool true)).setCell ⟨w.heap.size + 1 + 1, 7, none⟩ (.bool true)).setCell ⟨w.heap.size + 1 + 1, 8, none⟩ (.int .i64 off)).setCell ⟨w.heap.size + 1 + 1, 9, none⟩ (.int .i64 id)) (w.heap.size + 1) [.int .i64 0, .int .i64 0, .int .i64 0, .int .i64 0, .string ⟨#[]⟩, .string ⟨#[]⟩, .bool false, .bool false, .int .i64 0, .int .i64 0, .string ⟨#[]⟩] := ((((HHz0.setOther hn4 _).setOther hn4 _).setOther hn4 _).setOther hn4 _)
   have zf0 := HHz0.free (j := 0) (by simp)
   have zf1 := HHz0.free (j := 1) (by simp)
   have zf2 := HHz0.free (j := 2) (by simp)
   have zf3 := HHz0.free (j := 3) (by simp)
   have zf4 := HHz0.free (j := 4) (by simp)
   have zf5 := HHz0.free (j := 5) (by simp)
   have zf6 := HHz0.free (j := 6) (by simp)
   have zf7 := HHz0.free (j := 7) (by simp)
   have zf8 := HHz0.free (j := 8) (by simp)
   have zf9 := HHz0.free (j := 9) (by simp)
   have zf10 := HHz0.free (j := 10) (by simp)
   have z0 := HHz0.cell (j := 0) rfl
   have z1 := HHz0.cell (j := 1) rfl
   have z2 := HHz0.cell (j := 2) rfl
   have z3 := HHz0.cell (j := 3) rfl
   have z4 := HHz0.cell (j := 4) rfl
   have z5 := HHz0.cell (j := 5) rfl
   have z6 := HHz0.cell (j := 6) rfl
   have z7 := HHz0.cell (j := 7) rfl
   have z8 := HHz0.cell (j := 8) rfl
   have z9 := HHz0.cell (j := 9) rfl
   have z10 := HHz0.cell (j := 10) rfl
   have RB : Hid _ := (((((((((((((((HS1.out.b.setCell (p := ⟨w.heap.size + 1 + 1, 6, none⟩) hlo (.bool true)).setCell (p := ⟨w.heap.size + 1 + 1, 7, none⟩) hlo (.bool true)).setCell (p := ⟨w.heap.size + 1 + 1, 8, none⟩) hlo (.int .i64 off)).setCell (p := ⟨w.heap.size + 1 + 1, 9, none⟩) hlo (.int .i64 id)).setCell (p := ⟨w.heap.size + 1, 0, none⟩) hlr (.int .i64 tos)).setCell (p := ⟨w.heap.size + 1, 1, none⟩) hlr (.int .i64 0)).setCell (p := ⟨w.heap.size + 1, 2, none⟩) hlr (.int .i64 proto)).setCell (p := ⟨w.heap.size + 1, 3, none⟩) hlr (.int .i64 ttl)).setCell (p := ⟨w.heap.size + 1, 4, none⟩) hlr (.string src)).setCell (p := ⟨w.heap.size + 1, 5, none⟩) hlr (.string dst)).setCell (p := ⟨w.heap.size + 1, 6, none⟩) hlr (.bool true)).setCell (p := ⟨w.heap.size + 1, 7, none⟩) hlr (.bool true)).setCell (p := ⟨w.heap.size + 1, 8, none⟩) hlr (.int .i64 off)).setCell (p := ⟨w.heap.size + 1, 9, none⟩) hlr (.int .i64 id)).setCell (p := ⟨w.heap.size + 1, 10, none⟩) hlr (.string data))
   have HRR : Hid (HoldsL (((((((((((((((W1.setCell ⟨w.heap.size + 1 + 1, 6, none⟩ (.bool true)).setCell ⟨w.heap.size + 1 + 1, 7, none⟩ (.bool true)).setCell ⟨w.heap.size + 1 + 1, 8, none⟩ (.int .i64 off)).setCell ⟨w.heap.size + 1 + 1, 9, none⟩ (.int .i64 id)).setCell ⟨w.heap.size + 1, 0, none⟩ (.int .i64 tos)).setCell ⟨w.heap.size + 1, 1, none⟩ (.int .i64 0)).setCell ⟨w.heap.size + 1, 2, none⟩ (.int .i64 proto)).setCell ⟨w.heap.size + 1, 3, none⟩ (.int .i64 ttl)).setCell ⟨w.heap.size + 1, 4, none⟩ (.string src)).setCell ⟨w.heap.size + 1, 5, none⟩ (.string dst)).setCell ⟨w.heap.size + 1, 6, none⟩ (.bool true)).setCell ⟨w.heap.size + 1, 7, none⟩ (.bool true)).setCell ⟨w.heap.size + 1, 8, none⟩ (.int .i64 off)).setCell ⟨w.heap.size + 1, 9, none⟩ (.int .i64 id)).setCell ⟨w.heap.size + 1, 10, none⟩ (.string data)) (w.heap.size + 1) [.int .i64 tos, .int .i64 0, .int .i64 proto, .int .i64 ttl, .string src, .string dst, .bool true, .bool true, .int .i64 off, .int .i64 id, .string data]) := (((((((((((HHz.set 0 (.int .i64 tos)).set 1 (.int .i64 0)).set 2 (.int .i64 proto)).set 3 (.int .i64 ttl)).set 4 (.string src)).set 5 (.string dst)).set 6 (.bool true)).set 7 (.bool true)).set 8 (.int .i64 off)).set 9 (.int .i64 id)).set 10 (.string data))
   have HX : Hid (ans = ⟨tos, 0, proto, ttl, src, dst, true, true, off, id, data⟩) := by
    unfold Hid; rw [HV.out]
    simp [c1]
   clear HV HC HHz HHz0 HSG HS1
   go_wp2_with fail
   exact bodyPost_ret (results_mid Try.results19 _ _ (w.heap.size + 1) [.int .i64 tos, .int .i64 0, .int .i64 proto, .int .i64 ttl, .string src, .string dst, .bool true, .bool true, .int .i64 off, .int .i64 id, .string data] _ rfl HRR.out Try.underlying28 rfl (show (Try.prog.info? 28).map (·.size) = some 11 by kernel_rfl)) rfl (And.intro (by rw [HX.out]; rfl) RB.out)
  | false =>
   by_cases c2 : off = 0
   ·subst c2
    have hpc : pc = false := by rw [HC.out]; rfl
    subst hpc
    have HHk := HS1.out.at (.head _)
    have k0 := HHk.cell (j := 0) rfl
    have k1 := HHk.cell (j := 1) rfl
    have k2 := HHk.cell (j := 2) rfl
    have k3 := HHk.cell (j := 3) rfl
    have k4 := HHk.cell (j := 4) rfl
    have k5 := HHk.cell (j := 5) rfl
    have k6 := HHk.cell (j := 6) rfl
    have k7 := HHk.cell (j := 7) rfl
    have k8 := HHk.cell (j := 8) rfl
    have k9 := HHk.cell (j := 9) rfl
    have k10 := HHk.cell (j := 10) rfl
    clear HHk
    have j0 := HSG.out.cell (j := 0) rfl
    have j1 := HSG.out.cell (j := 1) rfl
    have j2 := HSG.out.cell (j := 2) rfl
    have j3 := HSG.out.cell (j := 3) rfl
    have j4 := HSG.out.cell (j := 4) rfl
    have j5 := HSG.out.cell (j := 5) rfl
    have j6 := HSG.out.cell (j := 6) rfl
    have j7 := HSG.out.cell (j := 7) rfl
    have j8 := HSG.out.cell (j := 8) rfl
    have j9 := HSG.out.cell (j := 9) rfl
    have j10 := HSG.out.cell (j := 10) rfl
    have HHz0 := HS1.out.at (.tail _ (.head _))
    have HHz : HoldsL W1 (w.heap.size + 1) [.int .i64 0, .int .i64 0, .int .i64 0, .int .i64 0, .string ⟨#[]⟩, .string ⟨#[]⟩, .bool false, .bool false, .int .i64 0, .int .i64 0, .string ⟨#[]⟩] := HHz0
    have zf0 := HHz0.free (j := 0) (by simp)
    have zf1 := HHz0.free (j := 1) (by simp)
    have zf2 := HHz0.free (j := 2) (by simp)
    have zf3 := HHz0.free (j := 3) (by simp)
    have zf4 := HHz0.free (j := 4) (by simp)
    have zf5 := HHz0.free (j := 5) (by simp)
    have zf6 := HHz0.free (j := 6) (by simp)
    have zf7 := HHz0.free (j := 7) (by simp)
    have zf8 := HHz0.free (j := 8) (by simp)
    have zf9 := HHz0.free (j := 9) (by simp)
    have zf10 := HHz0.free (j := 10) (by simp)
    have z0 := HHz0.cell (j := 0) rfl
    have z1 := HHz0.cell (j := 1) rfl
    have z2 := HHz0.cell (j := 2) rfl
    have z3 := HHz0.cell (j := 3) rfl
    have z4 := HHz0.cell (j := 4) rfl
    have z5 := HHz0.cell (j := 5) rfl
    have z6 := HHz0.cell (j := 6) rfl
    have z7 := HHz0.cell (j := 7) rfl
    have z8 := HHz0.cell (j := 8) rfl
    have z9 := HHz0.cell (j := 9) rfl
    have z10 := HHz0.cell (j := 10) rfl
    have RB : Hid _ := (((((((((((HS1.out.b.setCell (p := ⟨w.heap.size + 1, 0, none⟩) hlr (.int .i64 tos)).setCell (p := ⟨w.heap.size + 1, 1, none⟩) hlr (.int .i64 0)).setCell (p := ⟨w.heap.size + 1, 2, none⟩) hlr (.int .i64 proto)).setCell (p := ⟨w.heap.size + 1, 3, none⟩) hlr (.int .i64 ttl)).setCell (p := ⟨w.heap.size + 1, 4, none⟩) hlr (.string src)).setCell (p := ⟨w.heap.size + 1, 5, none⟩) hlr (.string dst)).setCell (p := ⟨w.heap.size + 1, 6, none⟩) hlr (.bool false)).setCell (p := ⟨w.heap.size + 1, 7, none⟩) hlr (.bool false)).setCell (p := ⟨w.heap.size + 1, 8, none⟩) hlr (.int .i64 0)).setCell (p := ⟨w.heap.size + 1, 9, none⟩) hlr (.int .i64 0)).setCell (p := ⟨w.heap.size + 1, 10, none⟩) hlr (.string data))
    have HRR : Hid (HoldsL (((((((((((W1.setCell ⟨w.heap.size + 1, 0, none⟩ (.int .i64 tos)).setCell ⟨w.heap.size + 1, 1, none⟩ (.int .i64 0)).setCell ⟨w.heap.size + 1, 2, none⟩ (.int .i64 proto)).setCell ⟨w.heap.size + 1, 3, none⟩ (.int .i64 ttl)).setCell ⟨w.heap.size + 1, 4, none⟩ (.string src)).setCell ⟨w.heap.size + 1, 5, none⟩ (.string dst)).setCell ⟨w.heap.size + 1, 6, none⟩ (.bool false)).setCell ⟨w.heap.size + 1, 7, none⟩ (.bool false)).setCell ⟨w.heap.size + 1, 8, none⟩ (.int .i64 0)).setCell ⟨w.heap.size + 1, 9, none⟩ (.int .i64 0)).setCell ⟨w.heap.size + 1, 10, none⟩ (.string data)) (w.heap.size + 1) [.int .i64 tos, .int .i64 0, .int .i64 proto, .int .i64 ttl, .string src, .string dst, .bool false, .bool false, .int .i64 0, .int .i64 0, .string data]) := (((((((((((HHz.set 0 (.int .i64 tos)).set 1 (.int .i64 0)).set 2 (.int .i64 proto)).set 3 (.int .i64 ttl)).set 4 (.string src)).set 5 (.string dst)).set 6 (.bool false)).set 7 (.bool false)).set 8 (.int .i64 0)).set 9 (.int .i64 0)).set 10 (.string data))
    have HX : Hid (ans = ⟨tos, 0, proto, ttl, src, dst, false, false, 0, 0, data⟩) := by
     unfold Hid; rw [HV.out]
     simp [c1]
    clear HV HC HHz HHz0 HSG HS1
    go_wp2_with fail
    exact bodyPost_ret (results_mid Try.results19 _ _ (w.heap.size + 1) [.int .i64 tos, .int .i64 0, .int .i64 proto, .int .i64 ttl, .string src, .string dst, .bool false, .bool false, .int .i64 0, .int .i64 0, .string data] _ rfl HRR.out Try.underlying28 rfl (show (Try.prog.info? 28).map (·.size) = some 11 by kernel_rfl)) rfl (And.intro (by rw [HX.out]; rfl) RB.out)
   ·have d2 : (off != 0) = true := by simpa using c2
    have hpc : pc = true := by rw [HC.out]; simp [c2]
    subst hpc
    have HHk := HS1.out.at (.head _)
    have k0 := HHk.cell (j := 0) rfl
    have k1 := HHk.cell (j := 1) rfl
    have k2 := HHk.cell (j := 2) rfl
    have k3 := HHk.cell (j := 3) rfl
    have k4 := HHk.cell (j := 4) rfl
    have k5 := HHk.cell (j := 5) rfl
    have k6 := HHk.cell (j := 6) rfl
    have k7 := HHk.cell (j := 7) rfl
    have k8 := HHk.cell (j := 8) rfl
    have k9 := HHk.cell (j := 9) rfl
    have k10 := HHk.cell (j := 10) rfl
    clear HHk
    have j0 := HSG.out.cell (j := 0) rfl
    have j1 := HSG.out.cell (j := 1) rfl
    have j2 := HSG.out.cell (j := 2) rfl
    have j3 := HSG.out.cell (j := 3) rfl
    have j4 := HSG.out.cell (j := 4) rfl
    have j5 := HSG.out.cell (j := 5) rfl
    have j6 := HSG.out.cell (j := 6) rfl
    have j7 := HSG.out.cell (j := 7) rfl
    have j8 := HSG.out.cell (j := 8) rfl
    have j9 := HSG.out.cell (j := 9) rfl
    have j10 := HSG.out.cell (j := 10) rfl
    have jf6 := HSG.out.free (j := 6) (by simp)
    have jf7 := HSG.out.free (j := 7) (by simp)
    have jf8 := HSG.out.free (j := 8) (by simp)
    have jf9 := HSG.out.free (j := 9) (by simp)
    have HHz0 := HS1.out.at (.tail _ (.head _))
    have HHz : HoldsL ((((W1.setCell ⟨w.heap.size + 1 + 1, 6, none⟩ (.bool true)).setCell ⟨w.heap.size + 1 + 1, 7, none⟩ (.bool false)).setCell ⟨w.heap.size + 1 + 1, 8, none⟩ (.int .i64 off)).setCell ⟨w.heap.size + 1 + 1, 9, none⟩ (.int .i64 id)) (w.heap.size + 1) [.int .i64 0, .int .i64 0, .int .i64 0, .int .i64 0, .string ⟨#[]⟩, .string ⟨#[]⟩, .bool false, .bool false, .int .i64 0, .int .i64 0, .string ⟨#[]⟩] := ((((HHz0.setOther hn4 _).setOther hn4 _).setOther hn4 _).setOther hn4 _)
    have zf0 := HHz0.free (j := 0) (by simp)
    have zf1 := HHz0.free (j := 1) (by simp)
    have zf2 := HHz0.free (j := 2) (by simp)
    have zf3 := HHz0.free (j := 3) (by simp)
    have zf4 := HHz0.free (j := 4) (by simp)
    have zf5 := HHz0.free (j := 5) (by simp)
    have zf6 := HHz0.free (j := 6) (by simp)
    have zf7 := HHz0.free (j := 7) (by simp)
    have zf8 := HHz0.free (j := 8) (by simp)
    have zf9 := HHz0.free (j := 9) (by simp)
    have zf10 := HHz0.free (j := 10) (by simp)
    have z0 := HHz0.cell (j := 0) rfl
    have z1 := HHz0.cell (j := 1) rfl
    have z2 := HHz0.cell (j := 2) rfl
    have z3 := HHz0.cell (j := 3) rfl
    have z4 := HHz0.cell (j := 4) rfl
    have z5 := HHz0.cell (j := 5) rfl
    have z6 := HHz0.cell (j := 6) rfl
    have z7 := HHz0.cell (j := 7) rfl
    have z8 := HHz0.cell (j := 8) rfl
    have z9 := HHz0.cell (j := 9) rfl
    have z10 := HHz0.cell (j := 10) rfl
    have RB : Hid _ := (((((((((((((((HS1.out.b.setCell (p := ⟨w.heap.size + 1 + 1, 6, none⟩) hlo (.bool true)).setCell (p := ⟨w.heap.size + 1 + 1, 7, none⟩) hlo (.bool false)).setCell (p := ⟨w.heap.size + 1 + 1, 8, none⟩) hlo (.int .i64 off)).setCell (p := ⟨w.heap.size + 1 + 1, 9, none⟩) hlo (.int .i64 id)).setCell (p := ⟨w.heap.size + 1, 0, none⟩) hlr (.int .i64 tos)).setCell (p := ⟨w.heap.size + 1, 1, none⟩) hlr (.int .i64 0)).setCell (p := ⟨w.heap.size + 1, 2, none⟩) hlr (.int .i64 proto)).setCell (p := ⟨w.heap.size + 1, 3, none⟩) hlr (.int .i64 ttl)).setCell (p := ⟨w.heap.size + 1, 4, none⟩) hlr (.string src)).setCell (p := ⟨w.heap.size + 1, 5, none⟩) hlr (.string dst)).setCell (p := ⟨w.heap.size + 1, 6, none⟩) hlr (.bool true)).setCell (p := ⟨w.heap.size + 1, 7, none⟩) hlr (.bool false)).setCell (p := ⟨w.heap.size + 1, 8, none⟩) hlr (.int .i64 off)).setCell (p := ⟨w.heap.size + 1, 9, none⟩) hlr (.int .i64 id)).setCell (p := ⟨w.heap.size + 1, 10, none⟩) hlr (.string data))
    have HRR : Hid (HoldsL (((((((((((((((W1.setCell ⟨w.heap.size + 1 + 1, 6, none⟩ (.bool true)).setCell ⟨w.heap.size + 1 + 1, 7, none⟩ (.bool false)).setCell ⟨w.heap.size + 1 + 1, 8, none⟩ (.int .i64 off)).setCell ⟨w.heap.size + 1 + 1, 9, none⟩ (.int .i64 id)).setCell ⟨w.heap.size + 1, 0, none⟩ (.int .i64 tos)).setCell ⟨w.heap.size + 1, 1, none⟩ (.int .i64 0)).setCell ⟨w.heap.size + 1, 2, none⟩ (.int .i64 proto)).setCell ⟨w.heap.size + 1, 3, none⟩ (.int .i64 ttl)).setCell ⟨w.heap.size + 1, 4, none⟩ (.string src)).setCell ⟨w.heap.size + 1, 5, none⟩ (.string dst)).setCell ⟨w.heap.size + 1, 6, none⟩ (.bool true)).setCell ⟨w.heap.size + 1, 7, none⟩ (.bool false)).setCell ⟨w.heap.size + 1, 8, none⟩ (.int .i64 off)).setCell ⟨w.heap.size + 1, 9, none⟩ (.int .i64 id)).setCell ⟨w.heap.size + 1, 10, none⟩ (.string data)) (w.heap.size + 1) [.int .i64 tos, .int .i64 0, .int .i64 proto, .int .i64 ttl, .string src, .string dst, .bool true, .bool false, .int .i64 off, .int .i64 id, .string data]) := (((((((((((HHz.set 0 (.int .i64 tos)).set 1 (.int .i64 0)).set 2 (.int .i64 proto)).set 3 (.int .i64 ttl)).set 4 (.string src)).set 5 (.string dst)).set 6 (.bool true)).set 7 (.bool false)).set 8 (.int .i64 off)).set 9 (.int .i64 id)).set 10 (.string data))
    have HX : Hid (ans = ⟨tos, 0, proto, ttl, src, dst, true, false, off, id, data⟩) := by
     unfold Hid; rw [HV.out]
     simp [c1]
    clear HV HC HHz HHz0 HSG HS1
    go_wp2_with fail
    exact bodyPost_ret (results_mid Try.results19 _ _ (w.heap.size + 1) [.int .i64 tos, .int .i64 0, .int .i64 proto, .int .i64 ttl, .string src, .string dst, .bool true, .bool false, .int .i64 off, .int .i64 id, .string data] _ rfl HRR.out Try.underlying28 rfl (show (Try.prog.info? 28).map (·.size) = some 11 by kernel_rfl)) rfl (And.intro (by rw [HX.out]; rfl) RB.out)
end Go.Proofs.Ytofenlclefkgdaa
