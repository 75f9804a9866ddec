/- IXlat: what the program's fourProto, sixNext and layAsFour answer. Printed by mkixlat.py. -/
import Derived.Test.YtofenlclefkgdaaMerged6
import Derived.Test.YtofenlclefkgdaaMerged9
import Derived.Test.YtofenlclefkgdaaMerged10
import Derived.Test.YtofenlclefkgdaaGrowV
import Derived.Test.YtofenlclefkgdaaMerged11
import Derived.Deep.DeepCutAuto
import Derived.RegionTactic
namespace Go.Proofs.Ytofenlclefkgdaa
open Go.RowKit Go.PlainAid Go.Lib
set_option linter.unusedVariables false
set_option linter.unusedSimpArgs false

theorem fourProto_any (n : Int) (w : World) :
  Calls Try.prog 46 #[.int .i64 n] w fun e w' => e = .returned (.int .i64 (if n = 58 then 1 else n)) ∧ w' = w := by
 by_cases h : n = 58
 ·subst h
  go_enter Try.func46, Try.ntmps46
  go_wp2_with fail
  go_ret
  exact ⟨rfl, rfl⟩
 ·have HV : Hid ((if n = 58 then (1 : Int) else n) = n) := if_neg h
  go_enter Try.func46, Try.ntmps46
  go_wp2_with fail
  go_ret
  exact ⟨ret_int (by first | rfl | rw [HV.out]), rfl⟩

theorem sixNext_any (n : Int) (w : World) :
  Calls Try.prog 37 #[.int .i64 n] w fun e w' => e = .returned (.int .i64 (if n = 1 then 58 else n)) ∧ w' = w := by
 by_cases h : n = 1
 ·subst h
  go_enter Try.func37, Try.ntmps37
  go_wp2_with fail
  go_ret
  exact ⟨rfl, rfl⟩
 ·have HV : Hid ((if n = 1 then (58 : Int) else n) = n) := if_neg h
  go_enter Try.func37, Try.ntmps37
  go_wp2_with fail
  go_ret
  exact ⟨ret_int (by first | rfl | rw [HV.out]), rfl⟩

theorem four_words (x1 x2 x3 x4 x5 x6 : Int) (h1 : 0 ≤ x1 ∧ x1 ≤ 255) (h2 : 0 ≤ x2 ∧ x2 ≤ 65535) (h3 : 0 ≤ x3 ∧ x3 ≤ 65535) (h4 : 0 ≤ x4 ∧ x4 ≤ 65535) (h5 : 0 ≤ x5 ∧ x5 ≤ 255) (h6 : 0 ≤ x6 ∧ x6 ≤ 255) :
  (layL [17664 + x1, x2, x3, x4, x5 * 256 + x6]).map (Value.int .u8) = strCells (pairV 69 x1 ++ twoV x2 ++ twoV x3 ++ twoV x4 ++ pairV x5 x6) := by
 simp only [strCells_append]
 rw [strCells_pair 69 x1 (by omega) h1, strCells_two x2 h2.1 h2.2, strCells_two x3 h3.1 h3.2, strCells_two x4 h4.1 h4.2, strCells_pair x5 x6 h5 h6]
 simp only [layL, List.map_cons, List.map_nil, List.cons_append, List.nil_append]
 rw [show (17664 + x1) / 256 = 69 by omega, show (17664 + x1) % 256 = x1 by omega, show (x5 * 256 + x6) / 256 = x5 by omega, show (x5 * 256 + x6) % 256 = x6 by omega]
/-- The header's bytes. -/
def headT (q : P4) : ByteArray := headA q ++ twoV (65535 - sumV (headA q ++ headB q)) ++ headB q
theorem raw_head (q : P4) : v4Raw q = headT q ++ q.data := rfl

set_option maxRecDepth 100000 in
set_option maxHeartbeats 4000000 in
theorem layAsFour_any (p : P6) (src dst : ByteArray) (w : World) (h : v6Ok p = true) (hs : src.size = 4) (hd : dst.size = 4) :
  Calls Try.prog 23 #[p6C p, .string src, .string dst] w fun e w' => ∃ g, e = .returned (.slice (some ⟨g, 0, none⟩) 20 20) ∧ w.heap.size ≤ g ∧ HoldsL w' g (strCells (headT (four6 p src dst))) ∧ Below w.heap.size w w' := by
 obtain ⟨hA6, hB6⟩ := v6Ok_ab h
 obtain ⟨a1, a2, a3, -, -, -, a7, -⟩ := v6A_parts hA6
 obtain ⟨b1, b2, b3⟩ := v6B_parts hB6
 have hidq : (if p.piece then p.id % 65536 else 0) = p.id % 65536 := by
  cases hp : p.piece with
  | true => rfl
  | false => rw [(b3 hp).2.2]; rfl
 have HA : Hid (headA (four6 p src dst) = pairV 69 p.cls ++ twoV (20 + p.data.size) ++ twoV (p.id % 65536) ++ twoV (offV (four6 p src dst)) ++ pairV p.hops (if p.next = 58 then 1 else p.next)) := by
  unfold Hid headA
  rw [show hlen (four6 p src dst) = 20 from rfl, show (four6 p src dst).id = p.id % 65536 from hidq]; rfl
 have HB : Hid (headB (four6 p src dst) = src ++ dst) := by
  unfold Hid headB
  show src ++ dst ++ ⟨#[]⟩ = _
  exact ByteArray.append_empty
 have HOW : Hid (∀ W, Calls Try.prog 45 #[p4C ⟨0, 0, !p.piece, p.more, p.off, 0, 0, ⟨#[]⟩, ⟨#[]⟩, ⟨#[]⟩, ⟨#[]⟩⟩] W fun e w' => e = .returned (.int .i64 (offV (four6 p src dst))) ∧ Below W.heap.size W w') := fun W => offWord_any ⟨0, 0, !p.piece, p.more, p.off, 0, 0, ⟨#[]⟩, ⟨#[]⟩, ⟨#[]⟩, ⟨#[]⟩⟩ W b1.1 b1.2
 have o0 : 0 ≤ offV (four6 p src dst) ∧ offV (four6 p src dst) ≤ 65535 := by
  unfold offV four6
  simp only
  split <;> split <;> omega
 have HPR : Hid (∀ W, Calls Try.prog 46 #[.int .i64 p.next] W fun e w' => e = .returned (.int .i64 (if p.next = 58 then 1 else p.next)) ∧ Below W.heap.size W w') := fun W => (fourProto_any p.next W).mono fun e w h => ⟨h.1, by rw [h.2]; exact Below.refl _ _⟩
 have a2' : 0 ≤ (if p.next = 58 then (1 : Int) else p.next) ∧ (if p.next = 58 then (1 : Int) else p.next) ≤ 255 := by split <;> omega
 have HT : Hid (headT (four6 p src dst) = headA (four6 p src dst) ++ twoV (65535 - sumV (headA (four6 p src dst) ++ headB (four6 p src dst))) ++ headB (four6 p src dst)) := rfl
 obtain ⟨i0, hi, hz0, hz1, hz2⟩ := info_parts Try.info5
 generalize headT (four6 p src dst) = ans at *
 generalize headA (four6 p src dst) = hdA at *
 generalize headB (four6 p src dst) = hdB at *
 generalize offV (four6 p src dst) = offv at *
 generalize (if p.next = 58 then (1 : Int) else p.next) = nx at *
 clear h hA6 hB6 a2 b3 hidq
 unfold p4C at HOW
 obtain ⟨cls, flow, next, hops, src6, dst6, piece, more, off, id, data⟩ := p
 unfold p6C
 dsimp only at *
 have hinfo : (Try.prog.info? 5).map (·.size) = some 1 := by rw [hi]; simp [hz1]
 have hsz : ∀ w, (Go.sizeOf 5).run Try.prog w = .ok 1 w := fun w => by simp [Go.sizeOf, typeInfo, hi, hz1]
 have hsA : hdA.size = 10 := by rw [HA.out]; simp only [ByteArray.size_append, pairV_size, twoV_size]
 have j1 : bits .or .i64 17664 cls = 17664 + cls := by have := join_word 69 cls (by omega) (by omega) a1.1 a1.2; simpa using this
 have j2 := join_word hops nx a3.1 a3.2 a2'.1 a2'.2
 have hm : id.tmod 65536 = id % 65536 := Int.tmod_eq_emod_of_nonneg b2.1
 have hir : 0 ≤ id % 65536 ∧ id % 65536 ≤ 65535 := by omega
 have HX : Hid ((layL [17664 + cls, 20 + data.size, id % 65536, offv, hops * 256 + nx]).map (Value.int .u8) = strCells hdA) := by
  unfold Hid; rw [HA.out]; exact four_words _ _ _ _ _ _ a1 (by omega) hir o0 a3 a2'
 clear HA
 have e0 : HoldsL (w.alloc (.cells #[.int .i64 cls, .int .i64 flow, .int .i64 next, .int .i64 hops, .string src6, .string dst6, .bool piece, .bool more, .int .i64 off, .int .i64 id, .string data] 28)) (w.heap.size) [.int .i64 cls, .int .i64 flow, .int .i64 next, .int .i64 hops, .string src6, .string dst6, .bool piece, .bool more, .int .i64 off, .int .i64 id, .string data] := by
  have h := HoldsL.new w [.int .i64 cls, .int .i64 flow, .int .i64 next, .int .i64 hops, .string src6, .string dst6, .bool piece, .bool more, .int .i64 off, .int .i64 id, .string data] 28
  try simp only [World.size_alloc] at h
  exact h
 have HS0 : Hid (Bxs w [(w.heap.size, [.int .i64 cls, .int .i64 flow, .int .i64 next, .int .i64 hops, .string src6, .string dst6, .bool piece, .bool more, .int .i64 off, .int .i64 id, .string data])] (w.alloc (.cells #[.int .i64 cls, .int .i64 flow, .int .i64 next, .int .i64 hops, .string src6, .string dst6, .bool piece, .bool more, .int .i64 off, .int .i64 id, .string data] 28))) := by
  refine ⟨fun e he => ?_, ((Below.refl _ _).alloc (by (try simp only [World.size_alloc]); omega) _), fun e he => ?_⟩
  ·simp only [List.mem_cons, List.not_mem_nil, or_false] at he
   rcases he with rfl
   ·exact e0
  ·simp only [List.mem_cons, List.not_mem_nil, or_false] at he
   rcases he with rfl <;> simp
 clear e0
 go_enter Try.func23, Try.ntmps23
 go_upto_region 1 with fail
 generalize (w.alloc (.cells #[.int .i64 cls, .int .i64 flow, .int .i64 next, .int .i64 hops, .string src6, .string dst6, .bool piece, .bool more, .int .i64 off, .int .i64 id, .string data] 28)) = W0 at *
 go_wp2_with (at_make; refine wpList_make_full _ rfl _ _ 22 rfl W0.heap.size 5 i0 (.int .u8 0) 1 Try.underlying22 hi hz0 hz1 .i64 .i64 _ _ 20 rfl rfl rfl rfl (by rw [hz2]; omega) (by unfold maxLen; omega) (Nat.le_refl _) ?_; intro W1 hown hgrow)
 have hbel : Below W0.heap.size W0 W1 := (Below.refl _ _).grown hgrow (Nat.le_refl _) (by simp)
 have hb1 := hold_of_own hown
 have hW0 := HS0.out.b.size
 have HH1 : Hid (HoldsL W1 W0.heap.size (strCells (zs 10 ++ twoV 0 ++ (zs 4 ++ zs 4)))) := by
  unfold Hid
  rw [show zs 10 ++ twoV 0 ++ (zs 4 ++ zs 4) = zs 20 by rw [← zs_two, ← zs_add, ← zs_add, ← zs_add], ← made_zs]
  exact hb1
 have HS1 : Hid _ := HS0.out.kept hbel
 have hgw : w.heap.size ≤ W0.heap.size := hW0
 have hg1 : ∀ e ∈ ([(w.heap.size, [.int .i64 cls, .int .i64 flow, .int .i64 next, .int .i64 hops, .string src6, .string dst6, .bool piece, .bool more, .int .i64 off, .int .i64 id, .string data])] : List (Nat × List Value)), e.1 ≠ W0.heap.size := fun e he => Nat.ne_of_lt ((HS0.out.lts e he).1)
 generalize W0.heap.size = g at *
 clear hown hgrow hb1 hbel HS0
 go_upto_region 2 with fail
 go_cut [39] (fun v wx => HoldsL wx g (strCells (hdA ++ twoV 0 ++ (zs 4 ++ zs 4))) ∧ Bxs w [(w.heap.size, [.int .i64 cls, .int .i64 flow, .int .i64 next, .int .i64 hops, .string src6, .string dst6, .bool piece, .bool more, .int .i64 off, .int .i64 id, .string data])] wx)
 case first =>
  rename_i J K2 hJ hK2
  have HCP : Hid (∀ wy, Below W1.drew.heap.size W1.drew wy → _) := fun wy hy => HS1.out.kept ((Below.refl _ _).drew.trans hy)
  have HGP : Hid (∀ wy, Below W1.drew.heap.size W1.drew wy → HoldsL wy g (strCells (zs 10 ++ twoV 0 ++ (zs 4 ++ zs 4)))) := fun wy hy => HH1.out.kept (by rw [strCells_length]; simp only [ByteArray.size_append, twoV_size]; omega) ((Below.refl _ _).drew.trans hy)
  have hlw : w.heap.size ≤ W1.heap.size := HS1.out.b.size
  clear HH1 HS1 HB HT
  refine wp_region_growV [9, 10, 11, 12, 13, 14, 15, 16, 17, 18, 19, 20, 21, 22, 23, 24, 25, 26, 27, 28, 29, 30, 31, 32, 33, 34, 35, 36, 37, 38] (by kernel_rfl) (by kernel_rfl) ?_
  refine GChV.val (n := 0) (fun v => [IsV v]) (fun _ => rfl) rfl ?_
  apply Exists.intro
  refine And.intro ?_ ?_
  ·intro K' a wy ho hd hb hK
   rw [if_pos (wanted_none rfl)]
   have o7 := ho 7 (by decide)
   simp [slot] at o7
   clear hd ho
   go_simp
   try go_bits
   exact hK _ _ rfl (Below.refl _ _)
  refine GChV.val (n := 1) (fun v => [_, IsV v]) (fun _ => rfl) rfl ?_
  apply Exists.intro
  refine And.intro ?_ ?_
  ·intro K' a wy ho hd hb hK
   rw [if_pos (wanted_none rfl)]
   have q0 := hd ⟨0, .data⟩ (by simp) rfl
   simp [rAt, IsV, slot] at q0
   clear hd ho
   go_simp
   try go_bits
   exact hK _ _ rfl (Below.refl _ _)
  refine GChV.val (n := 2) (fun v => [_, _, IsV v]) (fun _ => rfl) rfl ?_
  apply Exists.intro
  refine And.intro ?_ ?_
  ·intro K' a wy ho hd hb hK
   rw [if_pos (wanted_none rfl)]
   have o3 := ho 3 (by decide)
   simp [slot] at o3
   clear hd ho
   go_simp
   try go_bits
   exact hK _ _ rfl (Below.refl _ _)
  refine GChV.val (n := 3) (fun v => [_, _, _, IsV v]) (fun _ => rfl) rfl ?_
  apply Exists.intro
  refine And.intro ?_ ?_
  ·intro K' a wy ho hd hb hK
   rw [if_pos (wanted_none rfl)]
   have q2 := hd ⟨2, .data⟩ (by simp) rfl
   simp [rAt, IsV, slot] at q2
   clear hd ho
   have hst := HCP.out wy hb
   have HHk := hst.at (.head _)
   have k0 := HHk.cell (j := 0) rfl
   have k1 := HHk.cell (j := 1) rfl
   have k2 := HHk.cell (j := 2) rfl
   have k3 := HHk.cell (j := 3) rfl
   have k4 := HHk.cell (j := 4) rfl
   have k5 := HHk.cell (j := 5) rfl
   have k6 := HHk.cell (j := 6) rfl
   have k7 := HHk.cell (j := 7) rfl
   have k8 := HHk.cell (j := 8) rfl
   have k9 := HHk.cell (j := 9) rfl
   have k10 := HHk.cell (j := 10) rfl
   clear HHk
   clear hst
   go_simp
   try go_bits
   exact hK _ _ rfl (Below.refl _ _)
  refine GChV.val (n := 4) (fun v => [_, _, _, _, IsV v]) (fun _ => rfl) rfl ?_
  apply Exists.intro
  refine And.intro ?_ ?_
  ·intro K' a wy ho hd hb hK
   rw [if_pos (wanted_none rfl)]
   have q3 := hd ⟨3, .data⟩ (by simp) rfl
   simp [rAt, IsV, slot] at q3
   clear hd ho
   go_simp
   try go_bits
   exact hK _ _ rfl (Below.refl _ _)
  refine GChV.val (n := 5) (fun v => [_, _, _, _, _, IsV v]) (fun _ => rfl) rfl ?_
  apply Exists.intro
  refine And.intro ?_ ?_
  ·intro K' a wy ho hd hb hK
   rw [if_pos (wanted_none rfl)]
   have o3 := ho 3 (by decide)
   simp [slot] at o3
   clear hd ho
   go_simp
   try go_bits
   exact hK _ _ rfl (Below.refl _ _)
  refine GChV.val (n := 6) (fun v => [_, _, _, _, _, _, IsV v]) (fun _ => rfl) rfl ?_
  apply Exists.intro
  refine And.intro ?_ ?_
  ·intro K' a wy ho hd hb hK
   rw [if_pos (wanted_none rfl)]
   have q5 := hd ⟨5, .data⟩ (by simp) rfl
   simp [rAt, IsV, slot] at q5
   clear hd ho
   have hst := HCP.out wy hb
   have HHk := hst.at (.head _)
   have k0 := HHk.cell (j := 0) rfl
   have k1 := HHk.cell (j := 1) rfl
   have k2 := HHk.cell (j := 2) rfl
   have k3 := HHk.cell (j := 3) rfl
   have k4 := HHk.cell (j := 4) rfl
   have k5 := HHk.cell (j := 5) rfl
   have k6 := HHk.cell (j := 6) rfl
   have k7 := HHk.cell (j := 7) rfl
   have k8 := HHk.cell (j := 8) rfl
   have k9 := HHk.cell (j := 9) rfl
   have k10 := HHk.cell (j := 10) rfl
   clear HHk
   clear hst
   go_simp
   try go_bits
   exact hK _ _ rfl (Below.refl _ _)
  refine GChV.val (n := 7) (fun v => [_, _, _, _, _, _, _, IsV v]) (fun _ => rfl) rfl ?_
  apply Exists.intro
  refine And.intro ?_ ?_
  ·intro K' a wy ho hd hb hK
   rw [if_pos (wanted_none rfl)]
   have q6 := hd ⟨6, .data⟩ (by simp) rfl
   simp [rAt, IsV, slot] at q6
   clear hd ho
   go_simp
   try go_bits
   exact hK _ _ rfl (Below.refl _ _)
  refine GChV.val (n := 8) (fun v => [_, _, _, _, _, _, _, _, IsV v]) (fun _ => rfl) rfl ?_
  apply Exists.intro
  refine And.intro ?_ ?_
  ·intro K' a wy ho hd hb hK
   rw [if_pos (wanted_none rfl)]
   have q7 := hd ⟨7, .data⟩ (by simp) rfl
   simp [rAt, IsV, slot] at q7
   clear hd ho
   go_simp
   try go_bits
   exact hK _ _ rfl (Below.refl _ _)
  refine GChV.val (n := 9) (fun v => [_, _, _, _, _, _, _, _, _, IsV v]) (fun _ => rfl) rfl ?_
  apply Exists.intro
  refine And.intro ?_ ?_
  ·intro K' a wy ho hd hb hK
   rw [if_pos (wanted_none rfl)]
   have o3 := ho 3 (by decide)
   simp [slot] at o3
   clear hd ho
   go_simp
   try go_bits
   exact hK _ _ rfl (Below.refl _ _)
  refine GChV.val (n := 10) (fun v => [_, _, _, _, _, _, _, _, _, _, IsV v]) (fun _ => rfl) rfl ?_
  apply Exists.intro
  refine And.intro ?_ ?_
  ·intro K' a wy ho hd hb hK
   rw [if_pos (wanted_none rfl)]
   have q9 := hd ⟨9, .data⟩ (by simp) rfl
   simp [rAt, IsV, slot] at q9
   clear hd ho
   have hst := HCP.out wy hb
   have HHk := hst.at (.head _)
   have k0 := HHk.cell (j := 0) rfl
   have k1 := HHk.cell (j := 1) rfl
   have k2 := HHk.cell (j := 2) rfl
   have k3 := HHk.cell (j := 3) rfl
   have k4 := HHk.cell (j := 4) rfl
   have k5 := HHk.cell (j := 5) rfl
   have k6 := HHk.cell (j := 6) rfl
   have k7 := HHk.cell (j := 7) rfl
   have k8 := HHk.cell (j := 8) rfl
   have k9 := HHk.cell (j := 9) rfl
   have k10 := HHk.cell (j := 10) rfl
   clear HHk
   clear hst
   go_simp
   try go_bits
   exact hK _ _ rfl (Below.refl _ _)
  refine GChV.val (n := 11) (fun v => [_, _, _, _, _, _, _, _, _, _, _, IsV v]) (fun _ => rfl) rfl ?_
  apply Exists.intro
  refine And.intro ?_ ?_
  ·intro K' a wy ho hd hb hK
   rw [if_pos (wanted_none rfl)]
   have q10 := hd ⟨10, .data⟩ (by simp) rfl
   simp [rAt, IsV, slot] at q10
   clear hd ho
   go_simp
   try go_bits
   exact hK _ _ rfl (Below.refl _ _)
  refine GChV.val (n := 12) (fun v => [_, _, _, _, _, _, _, _, _, _, _, _, IsV v]) (fun _ => rfl) rfl ?_
  apply Exists.intro
  refine And.intro ?_ ?_
  ·intro K' a wy ho hd hb hK
   rw [if_pos (wanted_none rfl)]
   have o3 := ho 3 (by decide)
   simp [slot] at o3
   clear hd ho
   go_simp
   try go_bits
   exact hK _ _ rfl (Below.refl _ _)
  refine GChV.val (n := 13) (fun v => [_, _, _, _, _, _, _, _, _, _, _, _, _, IsV v]) (fun _ => rfl) rfl ?_
  apply Exists.intro
  refine And.intro ?_ ?_
  ·intro K' a wy ho hd hb hK
   rw [if_pos (wanted_none rfl)]
   have q12 := hd ⟨12, .data⟩ (by simp) rfl
   simp [rAt, IsV, slot] at q12
   clear hd ho
   have hst := HCP.out wy hb
   have HHk := hst.at (.head _)
   have k0 := HHk.cell (j := 0) rfl
   have k1 := HHk.cell (j := 1) rfl
   have k2 := HHk.cell (j := 2) rfl
   have k3 := HHk.cell (j := 3) rfl
   have k4 := HHk.cell (j := 4) rfl
   have k5 := HHk.cell (j := 5) rfl
   have k6 := HHk.cell (j := 6) rfl
   have k7 := HHk.cell (j := 7) rfl
   have k8 := HHk.cell (j := 8) rfl
   have k9 := HHk.cell (j := 9) rfl
   have k10 := HHk.cell (j := 10) rfl
   clear HHk
   clear hst
   go_simp
   try go_bits
   exact hK _ _ rfl (Below.refl _ _)
  refine GChV.val (n := 14) (fun v => [_, _, _, _, _, _, _, _, _, _, _, _, _, _, IsV v]) (fun _ => rfl) rfl ?_
  apply Exists.intro
  refine And.intro ?_ ?_
  ·intro K' a wy ho hd hb hK
   rw [if_pos (wanted_none rfl)]
   have q13 := hd ⟨13, .data⟩ (by simp) rfl
   simp [rAt, IsV, slot] at q13
   clear hd ho
   go_simp
   try go_bits
   exact hK _ _ rfl (Below.refl _ _)
  refine GChV.val (n := 15) (fun v => [_, _, _, _, _, _, _, _, _, _, _, _, _, _, _, IsV v]) (fun _ => rfl) rfl ?_
  apply Exists.intro
  refine And.intro ?_ ?_
  ·intro K' a wy ho hd hb hK
   rw [if_pos (wanted_none rfl)]
   have o3 := ho 3 (by decide)
   simp [slot] at o3
   clear hd ho
   go_simp
   try go_bits
   exact hK _ _ rfl (Below.refl _ _)
  refine GChV.val (n := 16) (fun v => [_, _, _, _, _, _, _, _, _, _, _, _, _, _, _, _, IsV v]) (fun _ => rfl) rfl ?_
  apply Exists.intro
  refine And.intro ?_ ?_
  ·intro K' a wy ho hd hb hK
   rw [if_pos (wanted_none rfl)]
   have q15 := hd ⟨15, .data⟩ (by simp) rfl
   simp [rAt, IsV, slot] at q15
   clear hd ho
   have hst := HCP.out wy hb
   have HHk := hst.at (.head _)
   have k0 := HHk.cell (j := 0) rfl
   have k1 := HHk.cell (j := 1) rfl
   have k2 := HHk.cell (j := 2) rfl
   have k3 := HHk.cell (j := 3) rfl
   have k4 := HHk.cell (j := 4) rfl
   have k5 := HHk.cell (j := 5) rfl
   have k6 := HHk.cell (j := 6) rfl
   have k7 := HHk.cell (j := 7) rfl
   have k8 := HHk.cell (j := 8) rfl
   have k9 := HHk.cell (j := 9) rfl
   have k10 := HHk.cell (j := 10) rfl
   clear HHk
   clear hst
   go_simp
   try go_bits
   exact hK _ _ rfl (Below.refl _ _)
  refine GChV.val (n := 17) (fun v => [_, _, _, _, _, _, _, _, _, _, _, _, _, _, _, _, _, IsV v]) (fun _ => rfl) rfl ?_
  apply Exists.intro
  refine And.intro ?_ ?_
  ·intro K' a wy ho hd hb hK
   rw [if_pos (wanted_none rfl)]
   have o3 := ho 3 (by decide)
   simp [slot] at o3
   clear hd ho
   go_simp
   try go_bits
   exact hK _ _ rfl (Below.refl _ _)
  refine GChV.val (n := 18) (fun v => [_, _, _, _, _, _, _, _, _, _, _, _, _, _, _, _, _, _, IsV v]) (fun _ => rfl) rfl ?_
  apply Exists.intro
  refine And.intro ?_ ?_
  ·intro K' a wy ho hd hb hK
   rw [if_pos (wanted_none rfl)]
   have q17 := hd ⟨17, .data⟩ (by simp) rfl
   simp [rAt, IsV, slot] at q17
   clear hd ho
   have hst := HCP.out wy hb
   have HHk := hst.at (.head _)
   have k0 := HHk.cell (j := 0) rfl
   have k1 := HHk.cell (j := 1) rfl
   have k2 := HHk.cell (j := 2) rfl
   have k3 := HHk.cell (j := 3) rfl
   have k4 := HHk.cell (j := 4) rfl
   have k5 := HHk.cell (j := 5) rfl
   have k6 := HHk.cell (j := 6) rfl
   have k7 := HHk.cell (j := 7) rfl
   have k8 := HHk.cell (j := 8) rfl
   have k9 := HHk.cell (j := 9) rfl
   have k10 := HHk.cell (j := 10) rfl
   clear HHk
   clear hst
   go_simp
   try go_bits
   exact hK _ _ rfl (Below.refl _ _)
  refine GChV.val (n := 19) (fun v => [_, _, _, _, _, _, _, _, _, _, _, _, _, _, _, _, _, _, _, IsV v]) (fun _ => rfl) rfl ?_
  apply Exists.intro
  refine And.intro ?_ ?_
  ·intro K' a wy ho hd hb hK
   rw [if_pos (wanted_none rfl)]
   have q14 := hd ⟨14, .data⟩ (by simp) rfl
   simp [rAt, IsV, slot] at q14
   have q16 := hd ⟨16, .data⟩ (by simp) rfl
   simp [rAt, IsV, slot] at q16
   have q18 := hd ⟨18, .data⟩ (by simp) rfl
   simp [rAt, IsV, slot] at q18
   clear hd ho
   go_simp
   try go_bits
   exact hK _ _ rfl (Below.refl _ _)
  refine GChV.val (n := 20) (fun v => [_, _, _, _, _, _, _, _, _, _, _, _, _, _, _, _, _, _, _, _, IsV v]) (fun _ => rfl) rfl ?_
  apply Exists.intro
  refine And.intro ?_ ?_
  ·intro K' a wy ho hd hb hK
   rw [if_pos (wanted_none rfl)]
   have q19 := hd ⟨19, .data⟩ (by simp) rfl
   simp [rAt, IsV, slot] at q19
   clear hd ho
   go_simp
   refine (HOW.out wy).mono ?_
   rintro e wz ⟨rfl, hz⟩
   exact hK _ _ rfl hz
  refine GChV.val (n := 21) (fun v => [_, _, _, _, _, _, _, _, _, _, _, _, _, _, _, _, _, _, _, _, _, IsV v]) (fun _ => rfl) rfl ?_
  apply Exists.intro
  refine And.intro ?_ ?_
  ·intro K' a wy ho hd hb hK
   rw [if_pos (wanted_none rfl)]
   have o3 := ho 3 (by decide)
   simp [slot] at o3
   clear hd ho
   go_simp
   try go_bits
   exact hK _ _ rfl (Below.refl _ _)
  refine GChV.val (n := 22) (fun v => [_, _, _, _, _, _, _, _, _, _, _, _, _, _, _, _, _, _, _, _, _, _, IsV v]) (fun _ => rfl) rfl ?_
  apply Exists.intro
  refine And.intro ?_ ?_
  ·intro K' a wy ho hd hb hK
   rw [if_pos (wanted_none rfl)]
   have q21 := hd ⟨21, .data⟩ (by simp) rfl
   simp [rAt, IsV, slot] at q21
   clear hd ho
   have hst := HCP.out wy hb
   have HHk := hst.at (.head _)
   have k0 := HHk.cell (j := 0) rfl
   have k1 := HHk.cell (j := 1) rfl
   have k2 := HHk.cell (j := 2) rfl
   have k3 := HHk.cell (j := 3) rfl
   have k4 := HHk.cell (j := 4) rfl
   have k5 := HHk.cell (j := 5) rfl
   have k6 := HHk.cell (j := 6) rfl
   have k7 := HHk.cell (j := 7) rfl
   have k8 := HHk.cell (j := 8) rfl
   have k9 := HHk.cell (j := 9) rfl
   have k10 := HHk.cell (j := 10) rfl
   clear HHk
   clear hst
   go_simp
   try go_bits
   exact hK _ _ rfl (Below.refl _ _)
  refine GChV.val (n := 23) (fun v => [_, _, _, _, _, _, _, _, _, _, _, _, _, _, _, _, _, _, _, _, _, _, _, IsV v]) (fun _ => rfl) rfl ?_
  apply Exists.intro
  refine And.intro ?_ ?_
  ·intro K' a wy ho hd hb hK
   rw [if_pos (wanted_none rfl)]
   have q22 := hd ⟨22, .data⟩ (by simp) rfl
   simp [rAt, IsV, slot] at q22
   clear hd ho
   go_simp
   try go_bits
   exact hK _ _ rfl (Below.refl _ _)
  refine GChV.val (n := 24) (fun v => [_, _, _, _, _, _, _, _, _, _, _, _, _, _, _, _, _, _, _, _, _, _, _, _, IsV v]) (fun _ => rfl) rfl ?_
  apply Exists.intro
  refine And.intro ?_ ?_
  ·intro K' a wy ho hd hb hK
   rw [if_pos (wanted_none rfl)]
   have o3 := ho 3 (by decide)
   simp [slot] at o3
   clear hd ho
   go_simp
   try go_bits
   exact hK _ _ rfl (Below.refl _ _)
  refine GChV.val (n := 25) (fun v => [_, _, _, _, _, _, _, _, _, _, _, _, _, _, _, _, _, _, _, _, _, _, _, _, _, IsV v]) (fun _ => rfl) rfl ?_
  apply Exists.intro
  refine And.intro ?_ ?_
  ·intro K' a wy ho hd hb hK
   rw [if_pos (wanted_none rfl)]
   have q24 := hd ⟨24, .data⟩ (by simp) rfl
   simp [rAt, IsV, slot] at q24
   clear hd ho
   have hst := HCP.out wy hb
   have HHk := hst.at (.head _)
   have k0 := HHk.cell (j := 0) rfl
   have k1 := HHk.cell (j := 1) rfl
   have k2 := HHk.cell (j := 2) rfl
   have k3 := HHk.cell (j := 3) rfl
   have k4 := HHk.cell (j := 4) rfl
   have k5 := HHk.cell (j := 5) rfl
   have k6 := HHk.cell (j := 6) rfl
   have k7 := HHk.cell (j := 7) rfl
   have k8 := HHk.cell (j := 8) rfl
   have k9 := HHk.cell (j := 9) rfl
   have k10 := HHk.cell (j := 10) rfl
   clear HHk
   clear hst
   go_simp
   try go_bits
   exact hK _ _ rfl (Below.refl _ _)
  refine GChV.val (n := 26) (fun v => [_, _, _, _, _, _, _, _, _, _, _, _, _, _, _, _, _, _, _, _, _, _, _, _, _, _, IsV v]) (fun _ => rfl) rfl ?_
  apply Exists.intro
  refine And.intro ?_ ?_
  ·intro K' a wy ho hd hb hK
   rw [if_pos (wanted_none rfl)]
   have q25 := hd ⟨25, .data⟩ (by simp) rfl
   simp [rAt, IsV, slot] at q25
   clear hd ho
   go_simp
   refine (HPR.out wy).mono ?_
   rintro e wz ⟨rfl, hz⟩
   exact hK _ _ rfl hz
  refine GChV.val (n := 27) (fun v => [_, _, _, _, _, _, _, _, _, _, _, _, _, _, _, _, _, _, _, _, _, _, _, _, _, _, _, IsV v]) (fun _ => rfl) rfl ?_
  apply Exists.intro
  refine And.intro ?_ ?_
  ·intro K' a wy ho hd hb hK
   rw [if_pos (wanted_none rfl)]
   have q23 := hd ⟨23, .data⟩ (by simp) rfl
   simp [rAt, IsV, slot] at q23
   have q26 := hd ⟨26, .data⟩ (by simp) rfl
   simp [rAt, IsV, slot] at q26
   clear hd ho
   go_simp
   try go_bits
   exact hK _ _ rfl (Below.refl _ _)
  refine GChV.rel (n := 28) (IsWords [17664 + cls, 20 + (data.size : Int), id % 65536, offv, hops * 256 + nx]) (stable_isWords _) [_, _, _, _, _, _, _, _, _, _, _, _, _, _, _, _, _, _, _, _, _, _, _, _, _, _, _, _, IsWords [17664 + cls, 20 + (data.size : Int), id % 65536, offv, hops * 256 + nx]] rfl rfl ?_ ?_
  ·intro K' a wy ho hd hb hK
   rw [if_pos (wanted_none rfl)]
   have q4 := hd ⟨4, .data⟩ (by simp) rfl
   simp [rAt, IsV, slot] at q4
   have q8 := hd ⟨8, .data⟩ (by simp) rfl
   simp [rAt, IsV, slot] at q8
   have q11 := hd ⟨11, .data⟩ (by simp) rfl
   simp [rAt, IsV, slot] at q11
   have q20 := hd ⟨20, .data⟩ (by simp) rfl
   simp [rAt, IsV, slot] at q20
   have q27 := hd ⟨27, .data⟩ (by simp) rfl
   simp [rAt, IsV, slot] at q27
   clear hd ho
   go_simp
   exact hK _ _ ⟨wy.heap.size, rfl, by simp, fun k hk => by
    simp only [List.length_cons, List.length_nil] at hk
    match k, hk with
    | 0, _ => simp
    | 1, _ => simp
    | 2, _ => simp
    | 3, _ => simp
    | 4, _ => simp⟩ ((Below.refl _ _).alloc (Nat.le_refl _) _)
  refine GChV.rel (n := 29) (IsOwn w.heap.size 5 10 (strCells hdA)) (stable_isOwn _ _ _ _) [_, _, _, _, _, _, _, _, _, _, _, _, _, _, _, _, _, _, _, _, _, _, _, _, _, _, _, _, _, IsOwn w.heap.size 5 10 (strCells hdA)] rfl rfl ?_ ?_
  ·intro K' a wy ho hd hb hK
   rw [if_pos (wanted_none rfl)]
   have hr : IsWords [17664 + cls, 20 + (data.size : Int), id % 65536, offv, hops * 256 + nx] (slot a 37) wy := hd ⟨28, .data⟩ (by simp) rfl
   obtain ⟨b28, e1, e2, e3⟩ := hr
   simp [slot] at e1
   clear hd ho
   go_simp
   refine (layWords_any [17664 + cls, 20 + (data.size : Int), id % 65536, offv, hops * 256 + nx] b28 5 5 wy (by decide) e2 rfl (getD_word _ (by simp only [List.forall_mem_cons, List.not_mem_nil, false_imp_iff, implies_true, and_true]; omega)) e3).mono ?_
   rintro e wz ⟨rfl, hown, hz⟩
   exact hK _ _ ⟨_, rfl, owns_base (by rw [← HX.out]; exact hown) (Nat.le_trans hlw hb.size)⟩ hz
  intro X wz hR hz
  obtain ⟨x0, x1, x2, x3, x4, x5, x6, x7, x8, x9, x10, x11, x12, x13, x14, x15, x16, x17, x18, x19, x20, x21, x22, x23, x24, x25, x26, x27, x28, x29, -⟩ := hR
  obtain ⟨b28, e28, -, -⟩ := x28
  obtain ⟨g29, e29, own29⟩ := x29
  simp only [IsV] at x0 x1 x2 x3 x4 x5 x6 x7 x8 x9 x10 x11 x12 x13 x14 x15 x16 x17 x18 x19 x20 x21 x22 x23 x24 x25 x26 x27
  simp only [putsFrom, x0, x1, x2, x3, x4, x5, x6, x7, x8, x9, x10, x11, x12, x13, x14, x15, x16, x17, x18, x19, x20, x21, x22, x23, x24, x25, x26, x27, e28, e29]
  clear x0 x1 x2 x3 x4 x5 x6 x7 x8 x9 x10 x11 x12 x13 x14 x15 x16 x17 x18 x19 x20 x21 x22 x23 x24 x25 x26 x27
  rw [e29] at own29
  have hgz : HoldsL wz g (strCells ((⟨#[]⟩ : ByteArray) ++ zs 10 ++ (twoV 0 ++ (zs 4 ++ zs 4)))) := by
   have h := HGP.out wz hz
   rw [ByteArray.append_assoc] at h
   rw [ByteArray.empty_append']
   exact h
  have hrun := run_lay_row (P := Try.prog) (dCap := 10) 22 22 3 5 Try.underlying22 hinfo hgz (o := 0) rfl (by rw [zs_size, hsA]) hsA.symm hsA.symm own29
  have hn2 : HoldsL (wz.setCells g 0 (strCells hdA)) g (strCells (hdA ++ twoV 0 ++ (zs 4 ++ zs 4))) := by
   have h := lay_at (s := hdA) hgz (o := 0) rfl (by rw [zs_size, hsA])
   rw [ByteArray.empty_append', ← ByteArray.append_assoc] at h
   exact h
  have HN2 : Hid _ := hn2
  have HB2 : Hid (Bxs w [(w.heap.size, [.int .i64 cls, .int .i64 flow, .int .i64 next, .int .i64 hops, .string src6, .string dst6, .bool piece, .bool more, .int .i64 off, .int .i64 id, .string data])] (wz.setCells g 0 (strCells hdA))) := (HCP.out wz hz).cells hg1 hgw
  clear hn2 hgz own29 hz HCP HGP
  rw [hsA] at hrun
  intro K10 hK10
  go_simp
  refine hK10 _ _ ?_
  show Exit.then _ _ _ _ _
  refine hK2 _ _ (hJ _ _ ?_)
  (repeat apply Exists.intro)
  exact ⟨⟨HN2.out, HB2.out⟩, rfl⟩
 case rest =>
 obtain ⟨hG, hS⟩ := hcut
 generalize wc = W2 at *
 clear HH1 HS1 HOW HPR j1 j2 hm HX
 have hG2 : HoldsL W2 g (strCells (hdA ++ twoV 0 ++ zs 4 ++ zs 4)) := by
  rw [ByteArray.append_assoc (a := hdA ++ twoV 0)]; exact hG
 have hrun2 := run_lay_string (P := Try.prog) (s := src) (dCap := 4) 22 9 3 5 Try.underlying22 hsz hG2 (o := 12) (by rw [ByteArray.size_append, hsA]; rfl) (by rw [zs_size, hs]) hs.symm
 have hG3 := lay_at (s := src) hG2 (o := 12) (by rw [ByteArray.size_append, hsA]; rfl) (by rw [zs_size, hs])
 have hS3 : Bxs w [(w.heap.size, [.int .i64 cls, .int .i64 flow, .int .i64 next, .int .i64 hops, .string src6, .string dst6, .bool piece, .bool more, .int .i64 off, .int .i64 id, .string data])] (W2.setCells g 12 (strCells src)) := hS.cells hg1 hgw
 go_upto_region 4 with fail
 generalize W2.setCells g 12 (strCells src) = W3 at *
 have hG3' : HoldsL W3 g (strCells (hdA ++ twoV 0 ++ src ++ zs 4 ++ ⟨#[]⟩)) := by
  rw [ByteArray.append_empty']; exact hG3
 have hrun3 := run_lay_string (P := Try.prog) (s := dst) (dCap := 4) 22 9 3 5 Try.underlying22 hsz hG3' (o := 16) (by simp only [ByteArray.size_append, hsA, hs, twoV_size]) (by rw [zs_size, hd]) hd.symm
 have hG4 := lay_at (s := dst) hG3' (o := 16) (by simp only [ByteArray.size_append, hsA, hs, twoV_size]) (by rw [zs_size, hd])
 have hS4 : Bxs w [(w.heap.size, [.int .i64 cls, .int .i64 flow, .int .i64 next, .int .i64 hops, .string src6, .string dst6, .bool piece, .bool more, .int .i64 off, .int .i64 id, .string data])] (W3.setCells g 16 (strCells dst)) := hS3.cells hg1 hgw
 clear hrun2
 go_upto_region 5 with fail
 generalize W3.setCells g 16 (strCells dst) = W4 at *
 have HG : Hid (HoldsL W4 g (strCells (hdA ++ twoV 0 ++ hdB))) := by
  unfold Hid; rw [HB.out, ← ByteArray.append_assoc, ← ByteArray.append_empty' (hdA ++ twoV 0 ++ src ++ dst)]; exact hG4
 have HS4 : Hid _ := hS4
 clear hG hG2 hG3 hG3' hG4 hS hS3 hS4 hrun3
 have hsB : hdB.size = 8 := by rw [HB.out, ByteArray.size_append]; omega
 clear HB
 obtain ⟨S, hS⟩ : ∃ S, S = sumV (hdA ++ hdB) := ⟨_, rfl⟩
 have hSr : 0 ≤ S ∧ S ≤ 65535 := by rw [hS]; exact sumV_range _
 have HGP : Hid (∀ wy, Below W4.drew.heap.size W4.drew wy → HoldsL wy g (strCells (hdA ++ twoV 0 ++ hdB))) := fun wy hy => HG.out.kept (by rw [strCells_length]; simp only [ByteArray.size_append, twoV_size]; omega) ((Below.refl _ _).drew.trans hy)
 have HSum : Hid (∀ wy, Below W4.drew.heap.size W4.drew wy → Calls Try.prog 47 #[.slice (some ⟨g, 0, none⟩) 20 20] wy fun e w' => e = .returned (.int .i64 S) ∧ Below wy.heap.size wy w') := fun wy hy => by
  have hh := HGP.out wy hy
  have hsz2 : (hdA ++ twoV 0 ++ hdB).size = 20 := by simp only [ByteArray.size_append, twoV_size]; omega
  refine (sumOfB_any (bt (hdA ++ twoV 0 ++ hdB)) g 20 20 wy (bt_isByte _) (fun i hi => bt_out (by omega)) (by omega) (fun i hi => hold_bt hh i (by omega))).mono ?_
  rintro e w' ⟨rfl, rfl⟩
  refine ⟨ret_int ?_, Below.refl _ _⟩
  rw [hS, ← sumV_zero hdA hdB 5 hsA]
  unfold sumV; rw [hsz2]
 rw [← hS] at HT
 clear hS
 go_cut [55] (fun v wx => HoldsL wx g (strCells (hdA ++ twoV (65535 - S) ++ hdB)) ∧ Bxs w [(w.heap.size, [.int .i64 cls, .int .i64 flow, .int .i64 next, .int .i64 hops, .string src6, .string dst6, .bool piece, .bool more, .int .i64 off, .int .i64 id, .string data])] wx)
 case first =>
  rename_i J K2 hJ hK2
  have hlw : w.heap.size ≤ W4.heap.size := HS4.out.b.size
  have HCP : Hid (∀ wy, Below W4.drew.heap.size W4.drew wy → _) := fun wy hy => HS4.out.kept ((Below.refl _ _).drew.trans hy)
  clear HT HG HS4
  refine wp_region_growV [48, 49, 50, 51, 52, 53, 54] (by kernel_rfl) (by kernel_rfl) ?_
  refine GChV.val (n := 0) (fun v => [IsV v]) (fun _ => rfl) rfl ?_
  apply Exists.intro
  refine And.intro ?_ ?_
  ·intro K' a wy ho hd hb hK
   rw [if_pos (wanted_none rfl)]
   have o7 := ho 7 (by decide)
   simp [slot] at o7
   clear hd ho
   go_simp
   try go_bits
   exact hK _ _ rfl (Below.refl _ _)
  refine GChV.val (n := 1) (fun v => [_, IsV v]) (fun _ => rfl) rfl ?_
  apply Exists.intro
  refine And.intro ?_ ?_
  ·intro K' a wy ho hd hb hK
   rw [if_pos (wanted_none rfl)]
   have q0 := hd ⟨0, .data⟩ (by simp) rfl
   simp [rAt, IsV, slot] at q0
   clear hd ho
   go_simp
   try go_bits
   exact hK _ _ rfl (Below.refl _ _)
  refine GChV.val (n := 2) (fun v => [_, _, IsV v]) (fun _ => rfl) rfl ?_
  apply Exists.intro
  refine And.intro ?_ ?_
  ·intro K' a wy ho hd hb hK
   rw [if_pos (wanted_none rfl)]
   have o7 := ho 7 (by decide)
   simp [slot] at o7
   clear hd ho
   go_simp
   try go_bits
   exact hK _ _ rfl (Below.refl _ _)
  refine GChV.val (n := 3) (fun v => [_, _, _, IsV v]) (fun _ => rfl) rfl ?_
  apply Exists.intro
  refine And.intro ?_ ?_
  ·intro K' a wy ho hd hb hK
   rw [if_pos (wanted_none rfl)]
   have q2 := hd ⟨2, .data⟩ (by simp) rfl
   simp [rAt, IsV, slot] at q2
   clear hd ho
   go_simp
   refine (HSum.out wy hb).mono ?_
   rintro e wz ⟨rfl, hz⟩
   exact hK _ _ rfl hz
  refine GChV.val (n := 4) (fun v => [_, _, _, _, IsV v]) (fun _ => rfl) rfl ?_
  apply Exists.intro
  refine And.intro ?_ ?_
  ·intro K' a wy ho hd hb hK
   rw [if_pos (wanted_none rfl)]
   have q3 := hd ⟨3, .data⟩ (by simp) rfl
   simp [rAt, IsV, slot] at q3
   clear hd ho
   go_simp
   try go_bits
   exact hK _ _ rfl (Below.refl _ _)
  refine GChV.rel (n := 5) (IsWords [65535 - S]) (stable_isWords _) [_, _, _, _, _, IsWords [65535 - S]] rfl rfl ?_ ?_
  ·intro K' a wy ho hd hb hK
   rw [if_pos (wanted_none rfl)]
   have q4 := hd ⟨4, .data⟩ (by simp) rfl
   simp [rAt, IsV, slot] at q4
   clear hd ho
   go_simp
   exact hK _ _ ⟨wy.heap.size, rfl, by simp, fun k hk => by
    simp only [List.length_cons, List.length_nil] at hk
    match k, hk with
    | 0, _ => simp⟩ ((Below.refl _ _).alloc (Nat.le_refl _) _)
  refine GChV.rel (n := 6) (IsOwn w.heap.size 5 2 (strCells (twoV (65535 - S)))) (stable_isOwn _ _ _ _) [_, _, _, _, _, _, IsOwn w.heap.size 5 2 (strCells (twoV (65535 - S)))] rfl rfl ?_ ?_
  ·intro K' a wy ho hd hb hK
   rw [if_pos (wanted_none rfl)]
   have hr : IsWords [65535 - S] (slot a 53) wy := hd ⟨5, .data⟩ (by simp) rfl
   obtain ⟨b28, e1, e2, e3⟩ := hr
   simp [slot] at e1
   clear hd ho
   go_simp
   refine (layWords_any [65535 - S] b28 1 1 wy (by decide) e2 rfl (getD_word _ (by simp only [List.forall_mem_cons, List.not_mem_nil, false_imp_iff, implies_true, and_true]; omega)) e3).mono ?_
   rintro e wz ⟨rfl, hown, hz⟩
   exact hK _ _ ⟨_, rfl, owns_base (by rw [strCells_two _ (by omega) (by omega)]; exact hown) (Nat.le_trans hlw hb.size)⟩ hz
  intro X wz hR hz
  obtain ⟨x0, x1, x2, x3, x4, x5, x6, -⟩ := hR
  obtain ⟨b28, e28, -, -⟩ := x5
  obtain ⟨g29, e29, own29⟩ := x6
  simp only [IsV] at x0 x1 x2 x3 x4
  simp only [putsFrom, x0, x1, x2, x3, x4, e28, e29]
  clear x0 x1 x2 x3 x4
  rw [e29] at own29
  have hgz := HGP.out wz hz
  have hrun := run_lay_row (P := Try.prog) (s := twoV (65535 - S)) (dCap := 2) 22 22 3 5 Try.underlying22 hinfo hgz hsA rfl (dLen := 2) (sLen := 2) rfl rfl own29
  have HN2 : Hid _ := lay_at (s := twoV (65535 - S)) hgz hsA rfl
  have HB2 : Hid (Bxs w [(w.heap.size, [.int .i64 cls, .int .i64 flow, .int .i64 next, .int .i64 hops, .string src6, .string dst6, .bool piece, .bool more, .int .i64 off, .int .i64 id, .string data])] (wz.setCells g 10 (strCells (twoV (65535 - S))))) := (HCP.out wz hz).cells hg1 hgw
  clear hgz own29 hz HCP HGP HSum
  rw [show (twoV (65535 - S)).size = 2 from rfl] at hrun
  intro K10 hK10
  go_simp
  refine hK10 _ _ ?_
  show Exit.then _ _ _ _ _
  refine hK2 _ _ (hJ _ _ ?_)
  (repeat apply Exists.intro)
  exact ⟨⟨HN2.out, HB2.out⟩, rfl⟩
 case rest =>
 obtain ⟨hG, hS⟩ := hcut
 rw [← HT.out] at hG
 have HG2 : Hid _ := hG
 have HB2 : Hid _ := hS.b
 have HL : Hid _ := hgw
 clear hG hS HG HS4 HT HGP HSum
 go_wp2_with fail
 go_ret
 exact ⟨g, rfl, HL.out, HG2.out, HB2.out⟩
end Go.Proofs.Ytofenlclefkgdaa
