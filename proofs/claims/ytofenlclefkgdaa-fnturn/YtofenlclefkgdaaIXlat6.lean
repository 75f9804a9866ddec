/- IXlat6: what the program's layAsSix answers. Printed by mkixlat6.py. -/
import Derived.Test.YtofenlclefkgdaaIXlat
import Derived.Test.YtofenlclefkgdaaIV6B
namespace Go.Proofs.Ytofenlclefkgdaa
open Go.RowKit Go.PlainAid Go.Lib
set_option linter.unusedVariables false
set_option linter.unusedSimpArgs false

/-- The header's bytes, a piece's among them. -/
def head6T (q : P6) : ByteArray := twoV (firstN q / 65536) ++ twoV (firstN q % 65536) ++ twoV (restV q).size ++ pairV (if q.piece then 44 else q.next) q.hops ++ q.src ++ q.dst ++ (if q.piece then pieceH q else ⟨#[]⟩)
theorem raw_head6 (q : P6) : v6Raw q = head6T q ++ q.data := by
 unfold v6Raw head6T restV pieceH
 cases q.piece with
 | true => simp only [if_true, ByteArray.append_assoc]
 | false => simp only [Bool.false_eq_true, if_false, ByteArray.append_assoc]; rw [ByteArray.empty_append']
theorem first_or (n : Int) (h0 : 0 ≤ n) (h1 : n ≤ 255) : bits .or .i64 1610612736 (n * 1048576) = 1610612736 + n * 1048576 :=
 bits_join .i64 63 (by decide) wraps_i64 28 1610612736 (n * 1048576) (by omega) (by omega) (by omega) (by omega) (by omega) (by omega)
theorem getD_long (ws : List Int) (h : ∀ n ∈ ws, 0 ≤ n ∧ n ≤ 4294967295) (k : Nat) : 0 ≤ ws.getD k 0 ∧ ws.getD k 0 ≤ 4294967295 := by
 by_cases hk : k < ws.length
 ·simp only [List.getD, List.getElem?_eq_getElem hk, Option.getD_some]; exact h _ (List.getElem_mem hk)
 ·simp [List.getD, List.getElem?_eq_none (show ws.length ≤ k by omega)]
theorem pieceH_size (q : P6) : (pieceH q).size = 8 := by unfold pieceH; simp only [ByteArray.size_append, pairV_size, twoV_size]

set_option maxRecDepth 100000 in
set_option maxHeartbeats 4000000 in
theorem layAsSix_any (p : P4) (src dst : ByteArray) (w : World) (h : v4Ok p = true) (hs : src.size = 16) (hd : dst.size = 16) :
  Calls Try.prog 17 #[p4C p, .string src, .string dst] w fun e w' => ∃ g n, e = .returned (.slice (some ⟨g, 0, none⟩) n n) ∧ n = (head6T (six4 p src dst)).size ∧ w.heap.size ≤ g ∧ HoldsL w' g (strCells (head6T (six4 p src dst))) ∧ Below w.heap.size w w' := by
 have hA4 : v4A p = true := by unfold v4Ok at h; simp only [Bool.and_eq_true] at h; exact h.1.1
 have hB4 : v4B p = true := by unfold v4Ok at h; simp only [Bool.and_eq_true] at h; exact h.1.2
 obtain ⟨a1, a2, a3, a4, a5, a6, a7⟩ := v4A_parts hA4
 obtain ⟨-, -, b3, b4, b5⟩ := v4B_parts hB4
 have HSN : Hid (∀ W, Calls Try.prog 37 #[.int .i64 p.proto] W fun e w' => e = .returned (.int .i64 (if p.proto = 1 then 58 else p.proto)) ∧ Below W.heap.size W w') := fun W => (sixNext_any p.proto W).mono fun e w h => ⟨h.1, by rw [h.2]; exact Below.refl _ _⟩
 have a3' : 0 ≤ (if p.proto = 1 then (58 : Int) else p.proto) ∧ (if p.proto = 1 then (58 : Int) else p.proto) ≤ 255 := by split <;> omega
 have HLP : Hid (∀ W, Calls Try.prog 38 #[p6C ⟨0, 0, if p.proto = 1 then 58 else p.proto, 0, ⟨#[]⟩, ⟨#[]⟩, false, p.more, p.off, p.id, ⟨#[]⟩⟩] W fun e w' => e = .returned (.string (pieceH ⟨0, 0, if p.proto = 1 then 58 else p.proto, 0, ⟨#[]⟩, ⟨#[]⟩, false, p.more, p.off, p.id, ⟨#[]⟩⟩)) ∧ Below W.heap.size W w') := fun W => layPiece_any ⟨0, 0, if p.proto = 1 then 58 else p.proto, 0, ⟨#[]⟩, ⟨#[]⟩, false, p.more, p.off, p.id, ⟨#[]⟩⟩ W a3' a5 ⟨a4.1, by show p.id ≤ _; omega⟩
 have hf := first_or p.tos a1.1 a1.2
 have HN : Hid (pcd p = false → head6T (six4 p src dst) = twoV ((1610612736 + p.tos * 1048576) / 65536) ++ twoV ((1610612736 + p.tos * 1048576) % 65536) ++ twoV (p.data.size : Int) ++ pairV (if p.proto = 1 then 58 else p.proto) p.ttl ++ src ++ dst ++ ⟨#[]⟩) := fun hc => by
  unfold head6T restV six4 firstN
  simp only [hc, Bool.false_eq_true, if_false, Int.add_zero]
  rfl
 have HY : Hid (pcd p = true → head6T (six4 p src dst) = twoV ((1610612736 + p.tos * 1048576) / 65536) ++ twoV ((1610612736 + p.tos * 1048576) % 65536) ++ twoV (8 + (p.data.size : Int)) ++ pairV 44 p.ttl ++ src ++ dst ++ pieceH ⟨0, 0, if p.proto = 1 then 58 else p.proto, 0, ⟨#[]⟩, ⟨#[]⟩, false, p.more, p.off, p.id, ⟨#[]⟩⟩) := fun hc => by
  have hr : ((restV (six4 p src dst)).size : Int) = 8 + p.data.size := by
   unfold restV six4
   simp only [hc, if_true, ByteArray.size_append, pairV_size, twoV_size]
   omega
  unfold head6T
  rw [hr]
  unfold six4 firstN pieceH
  simp only [hc, if_true, Bool.and_true, Int.add_zero]
  rfl
 have hbz : (pieceH ⟨0, 0, if p.proto = 1 then 58 else p.proto, 0, ⟨#[]⟩, ⟨#[]⟩, false, p.more, p.off, p.id, ⟨#[]⟩⟩).size = 8 := pieceH_size _
 have HC : Hid (pcd p = (p.more || !decide (p.off = 0))) := rfl
 obtain ⟨i0, hi, hz0, hz1, hz2⟩ := info_parts Try.info5
 generalize pieceH ⟨0, 0, if p.proto = 1 then 58 else p.proto, 0, ⟨#[]⟩, ⟨#[]⟩, false, p.more, p.off, p.id, ⟨#[]⟩⟩ = bh at *
 generalize head6T (six4 p src dst) = ans at *
 generalize (if p.proto = 1 then (58 : Int) else p.proto) = nx at *
 generalize pcd p = pc at *
 clear h hA4 hB4 a3
 unfold p6C at HLP
 obtain ⟨tos, id, whole, more, off, ttl, proto, src4, dst4, opts, data⟩ := p
 unfold p4C
 dsimp only at *
 have hinfo : (Try.prog.info? 5).map (·.size) = some 1 := by rw [hi]; simp [hz1]
 have hsz : ∀ w, (Go.sizeOf 5).run Try.prog w = .ok 1 w := fun w => by simp [Go.sizeOf, typeInfo, hi, hz1]
 have hfr : 0 ≤ 1610612736 + tos * 1048576 ∧ 1610612736 + tos * 1048576 ≤ 4294967295 := by omega
 have e0 : HoldsL (w.alloc (.cells #[.int .i64 tos, .int .i64 id, .bool whole, .bool more, .int .i64 off, .int .i64 ttl, .int .i64 proto, .string src4, .string dst4, .string opts, .string data] 24)) (w.heap.size) [.int .i64 tos, .int .i64 id, .bool whole, .bool more, .int .i64 off, .int .i64 ttl, .int .i64 proto, .string src4, .string dst4, .string opts, .string data] := by
  have h := HoldsL.new w [.int .i64 tos, .int .i64 id, .bool whole, .bool more, .int .i64 off, .int .i64 ttl, .int .i64 proto, .string src4, .string dst4, .string opts, .string data] 24
  try simp only [World.size_alloc] at h
  exact h
 have HS0 : Hid (Bxs w [(w.heap.size, [.int .i64 tos, .int .i64 id, .bool whole, .bool more, .int .i64 off, .int .i64 ttl, .int .i64 proto, .string src4, .string dst4, .string opts, .string data])] (w.alloc (.cells #[.int .i64 tos, .int .i64 id, .bool whole, .bool more, .int .i64 off, .int .i64 ttl, .int .i64 proto, .string src4, .string dst4, .string opts, .string data] 24))) := by
  refine ⟨fun e he => ?_, ((Below.refl _ _).alloc (by (try simp only [World.size_alloc]); omega) _), fun e he => ?_⟩
  ·simp only [List.mem_cons, List.not_mem_nil, or_false] at he
   rcases he with rfl
   ·exact e0
  ·simp only [List.mem_cons, List.not_mem_nil, or_false] at he
   rcases he with rfl <;> simp
 clear e0
 cases more with
 | true =>
  have HA : Hid _ := HY.out (by rw [HC.out]; rfl)
  clear HY HN HC
  go_enter Try.func17, Try.ntmps17
  go_upto_region 1 with fail
  generalize (w.alloc (.cells #[.int .i64 tos, .int .i64 id, .bool whole, .bool true, .int .i64 off, .int .i64 ttl, .int .i64 proto, .string src4, .string dst4, .string opts, .string data] 24)) = W0 at *
  have HHk := HS0.out.at (.head _)
  have k0 := HHk.cell (j := 0) rfl
  have k1 := HHk.cell (j := 1) rfl
  have k2 := HHk.cell (j := 2) rfl
  have k3 := HHk.cell (j := 3) rfl
  have k4 := HHk.cell (j := 4) rfl
  have k5 := HHk.cell (j := 5) rfl
  have k6 := HHk.cell (j := 6) rfl
  have k7 := HHk.cell (j := 7) rfl
  have k8 := HHk.cell (j := 8) rfl
  have k9 := HHk.cell (j := 9) rfl
  have k10 := HHk.cell (j := 10) rfl
  clear HHk
  go_wp2_with fail
  refine (HSN.out _).mono ?_
  rintro e W1 ⟨rfl, q1⟩
  have HS1 : Hid _ := HS0.out.kept q1
  clear q1 HS0 HSN k0 k1 k2 k3 k4 k5 k6 k7 k8 k9 k10
  have HHk := HS1.out.at (.head _)
  have k0 := HHk.cell (j := 0) rfl
  have k1 := HHk.cell (j := 1) rfl
  have k2 := HHk.cell (j := 2) rfl
  have k3 := HHk.cell (j := 3) rfl
  have k4 := HHk.cell (j := 4) rfl
  have k5 := HHk.cell (j := 5) rfl
  have k6 := HHk.cell (j := 6) rfl
  have k7 := HHk.cell (j := 7) rfl
  have k8 := HHk.cell (j := 8) rfl
  have k9 := HHk.cell (j := 9) rfl
  have k10 := HHk.cell (j := 10) rfl
  clear HHk
  go_upto_region 3 with fail
  go_wp2_with fail
  refine (HLP.out _).mono ?_
  rintro e W2 ⟨rfl, q1⟩
  have HS2 : Hid _ := HS1.out.kept q1
  clear q1 HS1 HLP k0 k1 k2 k3 k4 k5 k6 k7 k8 k9 k10
  have HBZ : Hid (bh.size = 8) := hbz
  have hbz' : bh.size ≤ 8 := by omega
  clear hbz
  go_upto_region 7 with (at_make; refine wpList_make_full _ rfl _ _ 22 rfl W2.heap.size 5 i0 (.int .u8 0) 1 Try.underlying22 hi hz0 hz1 .i64 .i64 _ _ 48 rfl rfl (by have := HBZ.out; omega) (by have := HBZ.out; omega) (by rw [hz2]; omega) (by unfold maxLen; omega) (Nat.le_refl _) ?_; intro W3 hown hgrow)
  have hbel : Below W2.heap.size W2 W3 := (Below.refl _ _).grown hgrow (Nat.le_refl _) (by simp)
  have hb1 := hold_of_own hown
  have hgw : w.heap.size ≤ W2.heap.size := HS2.out.b.size
  have hg1 : ∀ e ∈ ([(w.heap.size, [.int .i64 tos, .int .i64 id, .bool whole, .bool true, .int .i64 off, .int .i64 ttl, .int .i64 proto, .string src4, .string dst4, .string opts, .string data])] : List (Nat × List Value)), e.1 ≠ W2.heap.size := fun e he => Nat.ne_of_lt ((HS2.out.lts e he).1)
  have HH1 : Hid (HoldsL W3 W2.heap.size (strCells (zs 8 ++ zs 16 ++ zs 16 ++ zs 8))) := by
   unfold Hid
   rw [show zs 8 ++ zs 16 ++ zs 16 ++ zs 8 = zs 48 by simp only [← zs_add], ← made_zs]
   exact hb1
  have HS3 : Hid _ := HS2.out.kept hbel
  generalize W2.heap.size = g at *
  clear hown hgrow hb1 hbel HS2
  have HHk := HS3.out.at (.head _)
  have k0 := HHk.cell (j := 0) rfl
  have k1 := HHk.cell (j := 1) rfl
  have k2 := HHk.cell (j := 2) rfl
  have k3 := HHk.cell (j := 3) rfl
  have k4 := HHk.cell (j := 4) rfl
  have k5 := HHk.cell (j := 5) rfl
  have k6 := HHk.cell (j := 6) rfl
  have k7 := HHk.cell (j := 7) rfl
  have k8 := HHk.cell (j := 8) rfl
  have k9 := HHk.cell (j := 9) rfl
  have k10 := HHk.cell (j := 10) rfl
  clear HHk
  go_upto_region 8 with fail
  clear k0 k1 k2 k3 k4 k5 k6 k7 k8 k9 k10 hf
  generalize 1610612736 + tos * 1048576 = first at *
  have j2 : bits .or .i64 11264 ttl = 11264 + ttl := by have := join_word 44 ttl (by omega) (by omega) a2.1 a2.2; simpa using this
  have HX : Hid ((layL (([first / 65536, first, 8 + (data.size : Int), 44 * 256 + ttl] : List Int).map (· % 65536))).map (Value.int .u8) = strCells (twoV (first / 65536) ++ twoV (first % 65536) ++ twoV (8 + (data.size : Int)) ++ pairV 44 ttl)) := six_words _ _ _ _ hfr (by omega) (by omega) a2
  have hsA : (twoV (first / 65536) ++ twoV (first % 65536) ++ twoV (8 + (data.size : Int)) ++ pairV 44 ttl).size = 8 := by simp only [ByteArray.size_append, pairV_size, twoV_size]
  generalize twoV (first / 65536) ++ twoV (first % 65536) ++ twoV (8 + (data.size : Int)) ++ pairV 44 ttl = hdA at *
  replace HX : Hid ((layL (([first / 65536, first, ((bh.size : Int) + (data.size : Int)), 44 * 256 + ttl] : List Int).map (· % 65536))).map (Value.int .u8) = strCells hdA) := by
   unfold Hid; rw [← HX.out, HBZ.out]; rfl
  go_cut [58] (fun v wx => HoldsL wx g (strCells (hdA ++ zs 16 ++ zs 16 ++ zs 8)) ∧ Bxs w [(w.heap.size, [.int .i64 tos, .int .i64 id, .bool whole, .bool true, .int .i64 off, .int .i64 ttl, .int .i64 proto, .string src4, .string dst4, .string opts, .string data])] wx)
  case first =>
   rename_i J K2 hJ hK2
   have HCP : Hid (∀ wy, Below W3.drew.heap.size W3.drew wy → _) := fun wy hy => HS3.out.kept ((Below.refl _ _).drew.trans hy)
   have HGP : Hid (∀ wy, Below W3.drew.heap.size W3.drew wy → HoldsL wy g (strCells (zs 8 ++ zs 16 ++ zs 16 ++ zs 8))) := fun wy hy => HH1.out.kept (by rw [strCells_length]; simp only [ByteArray.size_append, zs_size]; omega) ((Below.refl _ _).drew.trans hy)
   have hlw : w.heap.size ≤ W3.heap.size := HS3.out.b.size
   clear HH1 HS3 HA
   refine wp_region_growV [40, 41, 42, 43, 44, 45, 46, 47, 48, 49, 50, 51, 52, 53, 54, 55, 56, 57] (by kernel_rfl) (by kernel_rfl) ?_
   refine GChV.val (n := 0) (fun v => [IsV v]) (fun _ => rfl) rfl ?_
   apply Exists.intro
   refine And.intro ?_ ?_
   ·intro K' a wy ho hd hb hK
    rw [if_pos (wanted_none rfl)]
    have o10 := ho 10 (by decide)
    simp [slot] at o10
    clear hd ho
    go_simp
    try go_bits
    exact hK _ _ rfl (Below.refl _ _)
   refine GChV.val (n := 1) (fun v => [_, IsV v]) (fun _ => rfl) rfl ?_
   apply Exists.intro
   refine And.intro ?_ ?_
   ·intro K' a wy ho hd hb hK
    rw [if_pos (wanted_none rfl)]
    have q0 := hd ⟨0, .data⟩ (by simp) rfl
    simp [rAt, IsV, slot] at q0
    clear hd ho
    go_simp
    try go_bits
    exact hK _ _ rfl (Below.refl _ _)
   refine GChV.val (n := 2) (fun v => [_, _, IsV v]) (fun _ => rfl) rfl ?_
   apply Exists.intro
   refine And.intro ?_ ?_
   ·intro K' a wy ho hd hb hK
    rw [if_pos (wanted_none rfl)]
    have o11 := ho 11 (by decide)
    simp [slot] at o11
    clear hd ho
    go_simp
    try go_bits
    exact hK _ _ rfl (Below.refl _ _)
   refine GChV.val (n := 3) (fun v => [_, _, _, IsV v]) (fun _ => rfl) rfl ?_
   apply Exists.intro
   refine And.intro ?_ ?_
   ·intro K' a wy ho hd hb hK
    rw [if_pos (wanted_none rfl)]
    have q2 := hd ⟨2, .data⟩ (by simp) rfl
    simp [rAt, IsV, slot] at q2
    clear hd ho
    go_simp
    try go_bits
    exact hK _ _ rfl (Below.refl _ _)
   refine GChV.val (n := 4) (fun v => [_, _, _, _, IsV v]) (fun _ => rfl) rfl ?_
   apply Exists.intro
   refine And.intro ?_ ?_
   ·intro K' a wy ho hd hb hK
    rw [if_pos (wanted_none rfl)]
    have o11 := ho 11 (by decide)
    simp [slot] at o11
    clear hd ho
    go_simp
    try go_bits
    exact hK _ _ rfl (Below.refl _ _)
   refine GChV.val (n := 5) (fun v => [_, _, _, _, _, IsV v]) (fun _ => rfl) rfl ?_
   apply Exists.intro
   refine And.intro ?_ ?_
   ·intro K' a wy ho hd hb hK
    rw [if_pos (wanted_none rfl)]
    have o8 := ho 8 (by decide)
    simp [slot] at o8
    clear hd ho
    go_simp
    try go_bits
    exact hK _ _ rfl (Below.refl _ _)
   refine GChV.val (n := 6) (fun v => [_, _, _, _, _, _, IsV v]) (fun _ => rfl) rfl ?_
   apply Exists.intro
   refine And.intro ?_ ?_
   ·intro K' a wy ho hd hb hK
    rw [if_pos (wanted_none rfl)]
    have q5 := hd ⟨5, .data⟩ (by simp) rfl
    simp [rAt, IsV, slot] at q5
    clear hd ho
    go_simp
    try go_bits
    exact hK _ _ rfl (Below.refl _ _)
   refine GChV.val (n := 7) (fun v => [_, _, _, _, _, _, _, IsV v]) (fun _ => rfl) rfl ?_
   apply Exists.intro
   refine And.intro ?_ ?_
   ·intro K' a wy ho hd hb hK
    rw [if_pos (wanted_none rfl)]
    have o3 := ho 3 (by decide)
    simp [slot] at o3
    clear hd ho
    go_simp
    try go_bits
    exact hK _ _ rfl (Below.refl _ _)
   refine GChV.val (n := 8) (fun v => [_, _, _, _, _, _, _, _, IsV v]) (fun _ => rfl) rfl ?_
   apply Exists.intro
   refine And.intro ?_ ?_
   ·intro K' a wy ho hd hb hK
    rw [if_pos (wanted_none rfl)]
    have q7 := hd ⟨7, .data⟩ (by simp) rfl
    simp [rAt, IsV, slot] at q7
    clear hd ho
    have hst := HCP.out wy hb
    have HHk := hst.at (.head _)
    have k0 := HHk.cell (j := 0) rfl
    have k1 := HHk.cell (j := 1) rfl
    have k2 := HHk.cell (j := 2) rfl
    have k3 := HHk.cell (j := 3) rfl
    have k4 := HHk.cell (j := 4) rfl
    have k5 := HHk.cell (j := 5) rfl
    have k6 := HHk.cell (j := 6) rfl
    have k7 := HHk.cell (j := 7) rfl
    have k8 := HHk.cell (j := 8) rfl
    have k9 := HHk.cell (j := 9) rfl
    have k10 := HHk.cell (j := 10) rfl
    clear HHk
    clear hst
    go_simp
    try go_bits
    exact hK _ _ rfl (Below.refl _ _)
   refine GChV.val (n := 9) (fun v => [_, _, _, _, _, _, _, _, _, IsV v]) (fun _ => rfl) rfl ?_
   apply Exists.intro
   refine And.intro ?_ ?_
   ·intro K' a wy ho hd hb hK
    rw [if_pos (wanted_none rfl)]
    have q8 := hd ⟨8, .data⟩ (by simp) rfl
    simp [rAt, IsV, slot] at q8
    clear hd ho
    go_simp
    try go_bits
    exact hK _ _ rfl (Below.refl _ _)
   refine GChV.val (n := 10) (fun v => [_, _, _, _, _, _, _, _, _, _, IsV v]) (fun _ => rfl) rfl ?_
   apply Exists.intro
   refine And.intro ?_ ?_
   ·intro K' a wy ho hd hb hK
    rw [if_pos (wanted_none rfl)]
    have q6 := hd ⟨6, .data⟩ (by simp) rfl
    simp [rAt, IsV, slot] at q6
    have q9 := hd ⟨9, .data⟩ (by simp) rfl
    simp [rAt, IsV, slot] at q9
    clear hd ho
    go_simp
    try go_bits
    exact hK _ _ rfl (Below.refl _ _)
   refine GChV.val (n := 11) (fun v => [_, _, _, _, _, _, _, _, _, _, _, IsV v]) (fun _ => rfl) rfl ?_
   apply Exists.intro
   refine And.intro ?_ ?_
   ·intro K' a wy ho hd hb hK
    rw [if_pos (wanted_none rfl)]
    have o7 := ho 7 (by decide)
    simp [slot] at o7
    clear hd ho
    go_simp
    try go_bits
    exact hK _ _ rfl (Below.refl _ _)
   refine GChV.val (n := 12) (fun v => [_, _, _, _, _, _, _, _, _, _, _, _, IsV v]) (fun _ => rfl) rfl ?_
   apply Exists.intro
   refine And.intro ?_ ?_
   ·intro K' a wy ho hd hb hK
    rw [if_pos (wanted_none rfl)]
    have q11 := hd ⟨11, .data⟩ (by simp) rfl
    simp [rAt, IsV, slot] at q11
    clear hd ho
    go_simp
    try go_bits
    exact hK _ _ rfl (Below.refl _ _)
   refine GChV.val (n := 13) (fun v => [_, _, _, _, _, _, _, _, _, _, _, _, _, IsV v]) (fun _ => rfl) rfl ?_
   apply Exists.intro
   refine And.intro ?_ ?_
   ·intro K' a wy ho hd hb hK
    rw [if_pos (wanted_none rfl)]
    have o3 := ho 3 (by decide)
    simp [slot] at o3
    clear hd ho
    go_simp
    try go_bits
    exact hK _ _ rfl (Below.refl _ _)
   refine GChV.val (n := 14) (fun v => [_, _, _, _, _, _, _, _, _, _, _, _, _, _, IsV v]) (fun _ => rfl) rfl ?_
   apply Exists.intro
   refine And.intro ?_ ?_
   ·intro K' a wy ho hd hb hK
    rw [if_pos (wanted_none rfl)]
    have q13 := hd ⟨13, .data⟩ (by simp) rfl
    simp [rAt, IsV, slot] at q13
    clear hd ho
    have hst := HCP.out wy hb
    have HHk := hst.at (.head _)
    have k0 := HHk.cell (j := 0) rfl
    have k1 := HHk.cell (j := 1) rfl
    have k2 := HHk.cell (j := 2) rfl
    have k3 := HHk.cell (j := 3) rfl
    have k4 := HHk.cell (j := 4) rfl
    have k5 := HHk.cell (j := 5) rfl
    have k6 := HHk.cell (j := 6) rfl
    have k7 := HHk.cell (j := 7) rfl
    have k8 := HHk.cell (j := 8) rfl
    have k9 := HHk.cell (j := 9) rfl
    have k10 := HHk.cell (j := 10) rfl
    clear HHk
    clear hst
    go_simp
    try go_bits
    exact hK _ _ rfl (Below.refl _ _)
   refine GChV.val (n := 15) (fun v => [_, _, _, _, _, _, _, _, _, _, _, _, _, _, _, IsV v]) (fun _ => rfl) rfl ?_
   apply Exists.intro
   refine And.intro ?_ ?_
   ·intro K' a wy ho hd hb hK
    rw [if_pos (wanted_none rfl)]
    have q12 := hd ⟨12, .data⟩ (by simp) rfl
    simp [rAt, IsV, slot] at q12
    have q14 := hd ⟨14, .data⟩ (by simp) rfl
    simp [rAt, IsV, slot] at q14
    clear hd ho
    go_simp
    try go_bits
    exact hK _ _ rfl (Below.refl _ _)
   refine GChV.rel (n := 16) (IsWords [first / 65536, first, ((bh.size : Int) + (data.size : Int)), 44 * 256 + ttl]) (stable_isWords _) [_, _, _, _, _, _, _, _, _, _, _, _, _, _, _, _, IsWords [first / 65536, first, ((bh.size : Int) + (data.size : Int)), 44 * 256 + ttl]] rfl rfl ?_ ?_
   ·intro K' a wy ho hd hb hK
    rw [if_pos (wanted_none rfl)]
    have q3 := hd ⟨3, .data⟩ (by simp) rfl
    simp [rAt, IsV, slot] at q3
    have q4 := hd ⟨4, .data⟩ (by simp) rfl
    simp [rAt, IsV, slot] at q4
    have q10 := hd ⟨10, .data⟩ (by simp) rfl
    simp [rAt, IsV, slot] at q10
    have q15 := hd ⟨15, .data⟩ (by simp) rfl
    simp [rAt, IsV, slot] at q15
    clear hd ho
    go_simp
    exact hK _ _ ⟨wy.heap.size, rfl, by simp, fun k hk => by
     simp only [List.length_cons, List.length_nil] at hk
     match k, hk with
     | 0, _ => simp
     | 1, _ => simp
     | 2, _ => simp
     | 3, _ => simp⟩ ((Below.refl _ _).alloc (Nat.le_refl _) _)
   refine GChV.rel (n := 17) (IsOwn w.heap.size 5 8 (strCells hdA)) (stable_isOwn _ _ _ _) [_, _, _, _, _, _, _, _, _, _, _, _, _, _, _, _, _, IsOwn w.heap.size 5 8 (strCells hdA)] rfl rfl ?_ ?_
   ·intro K' a wy ho hd hb hK
    rw [if_pos (wanted_none rfl)]
    have hr : IsWords [first / 65536, first, ((bh.size : Int) + (data.size : Int)), 44 * 256 + ttl] (slot a 56) wy := hd ⟨16, .data⟩ (by simp) rfl
    obtain ⟨b28, e1, e2, e3⟩ := hr
    simp [slot] at e1
    clear hd ho
    go_simp
    refine (layWordsM_any [first / 65536, first, ((bh.size : Int) + (data.size : Int)), 44 * 256 + ttl] b28 4 4 wy (by decide) e2 rfl (getD_long _ (by simp only [List.forall_mem_cons, List.not_mem_nil, false_imp_iff, implies_true, and_true]; omega)) e3).mono ?_
    rintro e wz ⟨rfl, hown, hz⟩
    exact hK _ _ ⟨_, rfl, owns_base (by rw [← HX.out]; exact hown) (Nat.le_trans hlw hb.size)⟩ hz
   intro X wz hR hz
   obtain ⟨x0, x1, x2, x3, x4, x5, x6, x7, x8, x9, x10, x11, x12, x13, x14, x15, x16, x17, -⟩ := hR
   obtain ⟨b28, e28, -, -⟩ := x16
   obtain ⟨g29, e29, own29⟩ := x17
   simp only [IsV] at x0 x1 x2 x3 x4 x5 x6 x7 x8 x9 x10 x11 x12 x13 x14 x15
   simp only [putsFrom, x0, x1, x2, x3, x4, x5, x6, x7, x8, x9, x10, x11, x12, x13, x14, x15, e28, e29]
   clear x0 x1 x2 x3 x4 x5 x6 x7 x8 x9 x10 x11 x12 x13 x14 x15
   rw [e29] at own29
   have hgz : HoldsL wz g (strCells ((⟨#[]⟩ : ByteArray) ++ zs 8 ++ (zs 16 ++ zs 16 ++ zs 8))) := by
    have h := HGP.out wz hz
    simp only [ByteArray.append_assoc] at h ⊢
    rw [ByteArray.empty_append']
    exact h
   have hrun := run_lay_row (P := Try.prog) (dCap := 8) 22 22 3 5 Try.underlying22 hinfo hgz (o := 0) rfl (by rw [zs_size, hsA]) hsA.symm hsA.symm own29
   have HN2 : Hid (HoldsL (wz.setCells g 0 (strCells hdA)) g (strCells (hdA ++ zs 16 ++ zs 16 ++ zs 8))) := by
    have h := lay_at (s := hdA) hgz (o := 0) rfl (by rw [zs_size, hsA])
    rw [ByteArray.empty_append'] at h
    unfold Hid
    simp only [ByteArray.append_assoc] at h ⊢
    exact h
   have HB2 : Hid (Bxs w [(w.heap.size, [.int .i64 tos, .int .i64 id, .bool whole, .bool true, .int .i64 off, .int .i64 ttl, .int .i64 proto, .string src4, .string dst4, .string opts, .string data])] (wz.setCells g 0 (strCells hdA))) := (HCP.out wz hz).cells hg1 hgw
   clear hgz own29 hz HCP HGP
   rw [hsA] at hrun
   intro K10 hK10
   go_simp
   refine hK10 _ _ ?_
   show Exit.then _ _ _ _ _
   refine hK2 _ _ (hJ _ _ ?_)
   (repeat apply Exists.intro)
   exact ⟨⟨HN2.out, HB2.out⟩, rfl⟩
  case rest =>
  obtain ⟨hG, hS⟩ := hcut
  generalize wc = W4 at *
  clear HH1 HS3 j2 HX
  have hG4 : HoldsL W4 g (strCells (hdA ++ zs 16 ++ (zs 16 ++ zs 8))) := by
   have h := hG
   simp only [ByteArray.append_assoc, ByteArray.append_empty', ByteArray.empty_append'] at h ⊢
   exact h
  have ho4 : (hdA).size = 8 := by simp only [ByteArray.size_append, hsA, hs, hd]
  have hrun4 := run_lay_string (P := Try.prog) (s := src) (dCap := 16) 22 9 3 5 Try.underlying22 hsz hG4 ho4 (by rw [zs_size, hs]) (dLen := 16) (hs.symm)
  have hL5 := lay_at (s := src) hG4 ho4 (by rw [zs_size, hs])
  have hS5 : Bxs w [(w.heap.size, [.int .i64 tos, .int .i64 id, .bool whole, .bool true, .int .i64 off, .int .i64 ttl, .int .i64 proto, .string src4, .string dst4, .string opts, .string data])] (W4.setCells g 8 (strCells src)) := hS.cells hg1 hgw
  clear hG4 ho4
  rw [hs] at hrun4
  go_upto_region 10 with fail
  generalize W4.setCells g 8 (strCells src) = W5 at *
  clear hrun4
  have hG5 : HoldsL W5 g (strCells (hdA ++ src ++ zs 16 ++ (zs 8))) := by
   have h := hL5
   simp only [ByteArray.append_assoc, ByteArray.append_empty', ByteArray.empty_append'] at h ⊢
   exact h
  have ho5 : (hdA ++ src).size = 24 := by simp only [ByteArray.size_append, hsA, hs, hd]
  have hrun5 := run_lay_string (P := Try.prog) (s := dst) (dCap := 16) 22 9 3 5 Try.underlying22 hsz hG5 ho5 (by rw [zs_size, hd]) (dLen := 16) (hd.symm)
  have hL6 := lay_at (s := dst) hG5 ho5 (by rw [zs_size, hd])
  have hS6 : Bxs w [(w.heap.size, [.int .i64 tos, .int .i64 id, .bool whole, .bool true, .int .i64 off, .int .i64 ttl, .int .i64 proto, .string src4, .string dst4, .string opts, .string data])] (W5.setCells g 24 (strCells dst)) := hS5.cells hg1 hgw
  clear hG5 ho5
  rw [hd] at hrun5
  go_upto_region 11 with fail
  generalize W5.setCells g 24 (strCells dst) = W6 at *
  clear hrun5
  have HB8 : bh.size = 8 := HBZ.out
  have hG6 : HoldsL W6 g (strCells (hdA ++ src ++ dst ++ zs 8 ++ (⟨#[]⟩))) := by
   have h := hL6
   simp only [ByteArray.append_assoc, ByteArray.append_empty', ByteArray.empty_append'] at h ⊢
   exact h
  have ho6 : (hdA ++ src ++ dst).size = 40 := by simp only [ByteArray.size_append, hsA, hs, hd]
  have hrun6 := run_lay_string (P := Try.prog) (s := bh) (dCap := 8) 22 9 3 5 Try.underlying22 hsz hG6 ho6 (by rw [zs_size, HB8]) (dLen := 8) (HB8.symm)
  have hL7 := lay_at (s := bh) hG6 ho6 (by rw [zs_size, HB8])
  have hS7 : Bxs w [(w.heap.size, [.int .i64 tos, .int .i64 id, .bool whole, .bool true, .int .i64 off, .int .i64 ttl, .int .i64 proto, .string src4, .string dst4, .string opts, .string data])] (W6.setCells g 40 (strCells bh)) := hS6.cells hg1 hgw
  clear hG6 ho6
  rw [HB8] at hrun6
  go_upto_region 12 with fail
  generalize W6.setCells g 40 (strCells bh) = W7 at *
  clear hrun6
  have HG2 : Hid (HoldsL W7 g (strCells ans)) := by
   unfold Hid; rw [HA.out]
   have h := hL7
   simp only [ByteArray.append_assoc, ByteArray.append_empty', ByteArray.empty_append'] at h ⊢
   exact h
  have HL : Hid _ := hgw
  have HB2 : Hid _ := hS7.b
  have HZ : Hid (48 = ans.size) := by
   unfold Hid; rw [HA.out]
   simp only [ByteArray.size_append, hsA, hs, hd, HB8]
  clear hL7 hS7 HA
  go_wp2_with fail
  go_ret
  exact ⟨g, 48, rfl, HZ.out, HL.out, HG2.out, HB2.out⟩
 | false =>
  by_cases c2 : off = 0
  ·subst c2
   have HA : Hid _ := HN.out (by rw [HC.out]; rfl)
   clear HY HN HC
   go_enter Try.func17, Try.ntmps17
   go_upto_region 1 with fail
   generalize (w.alloc (.cells #[.int .i64 tos, .int .i64 id, .bool whole, .bool false, .int .i64 0, .int .i64 ttl, .int .i64 proto, .string src4, .string dst4, .string opts, .string data] 24)) = W0 at *
   have HHk := HS0.out.at (.head _)
   have k0 := HHk.cell (j := 0) rfl
   have k1 := HHk.cell (j := 1) rfl
   have k2 := HHk.cell (j := 2) rfl
   have k3 := HHk.cell (j := 3) rfl
   have k4 := HHk.cell (j := 4) rfl
   have k5 := HHk.cell (j := 5) rfl
   have k6 := HHk.cell (j := 6) rfl
   have k7 := HHk.cell (j := 7) rfl
   have k8 := HHk.cell (j := 8) rfl
   have k9 := HHk.cell (j := 9) rfl
   have k10 := HHk.cell (j := 10) rfl
   clear HHk
   go_wp2_with fail
   refine (HSN.out _).mono ?_
   rintro e W1 ⟨rfl, q1⟩
   have HS1 : Hid _ := HS0.out.kept q1
   clear q1 HS0 HSN k0 k1 k2 k3 k4 k5 k6 k7 k8 k9 k10
   have HHk := HS1.out.at (.head _)
   have k0 := HHk.cell (j := 0) rfl
   have k1 := HHk.cell (j := 1) rfl
   have k2 := HHk.cell (j := 2) rfl
   have k3 := HHk.cell (j := 3) rfl
   have k4 := HHk.cell (j := 4) rfl
   have k5 := HHk.cell (j := 5) rfl
   have k6 := HHk.cell (j := 6) rfl
   have k7 := HHk.cell (j := 7) rfl
   have k8 := HHk.cell (j := 8) rfl
   have k9 := HHk.cell (j := 9) rfl
   have k10 := HHk.cell (j := 10) rfl
   clear HHk
   go_upto_region 5 with fail
   clear HLP hbz k0 k1 k2 k3 k4 k5 k6 k7 k8 k9 k10
   go_upto_region 7 with (at_make; refine wpList_make_full _ rfl _ _ 22 rfl W1.heap.size 5 i0 (.int .u8 0) 1 Try.underlying22 hi hz0 hz1 .i64 .i64 _ _ 40 rfl rfl rfl rfl (by rw [hz2]; omega) (by unfold maxLen; omega) (Nat.le_refl _) ?_; intro W3 hown hgrow)
   have hbel : Below W1.heap.size W1 W3 := (Below.refl _ _).grown hgrow (Nat.le_refl _) (by simp)
   have hb1 := hold_of_own hown
   have hgw : w.heap.size ≤ W1.heap.size := HS1.out.b.size
   have hg1 : ∀ e ∈ ([(w.heap.size, [.int .i64 tos, .int .i64 id, .bool whole, .bool false, .int .i64 0, .int .i64 ttl, .int .i64 proto, .string src4, .string dst4, .string opts, .string data])] : List (Nat × List Value)), e.1 ≠ W1.heap.size := fun e he => Nat.ne_of_lt ((HS1.out.lts e he).1)
   have HH1 : Hid (HoldsL W3 W1.heap.size (strCells (zs 8 ++ zs 16 ++ zs 16))) := by
    unfold Hid
    rw [show zs 8 ++ zs 16 ++ zs 16 = zs 40 by simp only [← zs_add], ← made_zs]
    exact hb1
   have HS3 : Hid _ := HS1.out.kept hbel
   generalize W1.heap.size = g at *
   clear hown hgrow hb1 hbel HS1
   have HHk := HS3.out.at (.head _)
   have k0 := HHk.cell (j := 0) rfl
   have k1 := HHk.cell (j := 1) rfl
   have k2 := HHk.cell (j := 2) rfl
   have k3 := HHk.cell (j := 3) rfl
   have k4 := HHk.cell (j := 4) rfl
   have k5 := HHk.cell (j := 5) rfl
   have k6 := HHk.cell (j := 6) rfl
   have k7 := HHk.cell (j := 7) rfl
   have k8 := HHk.cell (j := 8) rfl
   have k9 := HHk.cell (j := 9) rfl
   have k10 := HHk.cell (j := 10) rfl
   clear HHk
   go_upto_region 8 with fail
   clear k0 k1 k2 k3 k4 k5 k6 k7 k8 k9 k10 hf
   generalize 1610612736 + tos * 1048576 = first at *
   have j2 := join_word nx ttl (by omega) (by omega) a2.1 a2.2
   have HX : Hid ((layL (([first / 65536, first, (data.size : Int), nx * 256 + ttl] : List Int).map (· % 65536))).map (Value.int .u8) = strCells (twoV (first / 65536) ++ twoV (first % 65536) ++ twoV ((data.size : Int)) ++ pairV nx ttl)) := six_words _ _ _ _ hfr (by omega) (by omega) a2
   have hsA : (twoV (first / 65536) ++ twoV (first % 65536) ++ twoV ((data.size : Int)) ++ pairV nx ttl).size = 8 := by simp only [ByteArray.size_append, pairV_size, twoV_size]
   generalize twoV (first / 65536) ++ twoV (first % 65536) ++ twoV ((data.size : Int)) ++ pairV nx ttl = hdA at *
   go_cut [58] (fun v wx => HoldsL wx g (strCells (hdA ++ zs 16 ++ zs 16)) ∧ Bxs w [(w.heap.size, [.int .i64 tos, .int .i64 id, .bool whole, .bool false, .int .i64 0, .int .i64 ttl, .int .i64 proto, .string src4, .string dst4, .string opts, .string data])] wx)
   case first =>
    rename_i J K2 hJ hK2
    have HCP : Hid (∀ wy, Below W3.drew.heap.size W3.drew wy → _) := fun wy hy => HS3.out.kept ((Below.refl _ _).drew.trans hy)
    have HGP : Hid (∀ wy, Below W3.drew.heap.size W3.drew wy → HoldsL wy g (strCells (zs 8 ++ zs 16 ++ zs 16))) := fun wy hy => HH1.out.kept (by rw [strCells_length]; simp only [ByteArray.size_append, zs_size]; omega) ((Below.refl _ _).drew.trans hy)
    have hlw : w.heap.size ≤ W3.heap.size := HS3.out.b.size
    clear HH1 HS3 HA
    refine wp_region_growV [40, 41, 42, 43, 44, 45, 46, 47, 48, 49, 50, 51, 52, 53, 54, 55, 56, 57] (by kernel_rfl) (by kernel_rfl) ?_
    refine GChV.val (n := 0) (fun v => [IsV v]) (fun _ => rfl) rfl ?_
    apply Exists.intro
    refine And.intro ?_ ?_
    ·intro K' a wy ho hd hb hK
     rw [if_pos (wanted_none rfl)]
     have o10 := ho 10 (by decide)
     simp [slot] at o10
     clear hd ho
     go_simp
     try go_bits
     exact hK _ _ rfl (Below.refl _ _)
    refine GChV.val (n := 1) (fun v => [_, IsV v]) (fun _ => rfl) rfl ?_
    apply Exists.intro
    refine And.intro ?_ ?_
    ·intro K' a wy ho hd hb hK
     rw [if_pos (wanted_none rfl)]
     have q0 := hd ⟨0, .data⟩ (by simp) rfl
     simp [rAt, IsV, slot] at q0
     clear hd ho
     go_simp
     try go_bits
     exact hK _ _ rfl (Below.refl _ _)
    refine GChV.val (n := 2) (fun v => [_, _, IsV v]) (fun _ => rfl) rfl ?_
    apply Exists.intro
    refine And.intro ?_ ?_
    ·intro K' a wy ho hd hb hK
     rw [if_pos (wanted_none rfl)]
     have o11 := ho 11 (by decide)
     simp [slot] at o11
     clear hd ho
     go_simp
     try go_bits
     exact hK _ _ rfl (Below.refl _ _)
    refine GChV.val (n := 3) (fun v => [_, _, _, IsV v]) (fun _ => rfl) rfl ?_
    apply Exists.intro
    refine And.intro ?_ ?_
    ·intro K' a wy ho hd hb hK
     rw [if_pos (wanted_none rfl)]
     have q2 := hd ⟨2, .data⟩ (by simp) rfl
     simp [rAt, IsV, slot] at q2
     clear hd ho
     go_simp
     try go_bits
     exact hK _ _ rfl (Below.refl _ _)
    refine GChV.val (n := 4) (fun v => [_, _, _, _, IsV v]) (fun _ => rfl) rfl ?_
    apply Exists.intro
    refine And.intro ?_ ?_
    ·intro K' a wy ho hd hb hK
     rw [if_pos (wanted_none rfl)]
     have o11 := ho 11 (by decide)
     simp [slot] at o11
     clear hd ho
     go_simp
     try go_bits
     exact hK _ _ rfl (Below.refl _ _)
    refine GChV.val (n := 5) (fun v => [_, _, _, _, _, IsV v]) (fun _ => rfl) rfl ?_
    apply Exists.intro
    refine And.intro ?_ ?_
    ·intro K' a wy ho hd hb hK
     rw [if_pos (wanted_none rfl)]
     have o8 := ho 8 (by decide)
     simp [slot] at o8
     clear hd ho
     go_simp
     try go_bits
     exact hK _ _ rfl (Below.refl _ _)
    refine GChV.val (n := 6) (fun v => [_, _, _, _, _, _, IsV v]) (fun _ => rfl) rfl ?_
    apply Exists.intro
    refine And.intro ?_ ?_
    ·intro K' a wy ho hd hb hK
     rw [if_pos (wanted_none rfl)]
     have q5 := hd ⟨5, .data⟩ (by simp) rfl
     simp [rAt, IsV, slot] at q5
     clear hd ho
     go_simp
     try go_bits
     exact hK _ _ rfl (Below.refl _ _)
    refine GChV.val (n := 7) (fun v => [_, _, _, _, _, _, _, IsV v]) (fun _ => rfl) rfl ?_
    apply Exists.intro
    refine And.intro ?_ ?_
    ·intro K' a wy ho hd hb hK
     rw [if_pos (wanted_none rfl)]
     have o3 := ho 3 (by decide)
     simp [slot] at o3
     clear hd ho
     go_simp
     try go_bits
     exact hK _ _ rfl (Below.refl _ _)
    refine GChV.val (n := 8) (fun v => [_, _, _, _, _, _, _, _, IsV v]) (fun _ => rfl) rfl ?_
    apply Exists.intro
    refine And.intro ?_ ?_
    ·intro K' a wy ho hd hb hK
     rw [if_pos (wanted_none rfl)]
     have q7 := hd ⟨7, .data⟩ (by simp) rfl
     simp [rAt, IsV, slot] at q7
     clear hd ho
     have hst := HCP.out wy hb
     have HHk := hst.at (.head _)
     have k0 := HHk.cell (j := 0) rfl
     have k1 := HHk.cell (j := 1) rfl
     have k2 := HHk.cell (j := 2) rfl
     have k3 := HHk.cell (j := 3) rfl
     have k4 := HHk.cell (j := 4) rfl
     have k5 := HHk.cell (j := 5) rfl
     have k6 := HHk.cell (j := 6) rfl
     have k7 := HHk.cell (j := 7) rfl
     have k8 := HHk.cell (j := 8) rfl
     have k9 := HHk.cell (j := 9) rfl
     have k10 := HHk.cell (j := 10) rfl
     clear HHk
     clear hst
     go_simp
     try go_bits
     exact hK _ _ rfl (Below.refl _ _)
    refine GChV.val (n := 9) (fun v => [_, _, _, _, _, _, _, _, _, IsV v]) (fun _ => rfl) rfl ?_
    apply Exists.intro
    refine And.intro ?_ ?_
    ·intro K' a wy ho hd hb hK
     rw [if_pos (wanted_none rfl)]
     have q8 := hd ⟨8, .data⟩ (by simp) rfl
     simp [rAt, IsV, slot] at q8
     clear hd ho
     go_simp
     try go_bits
     exact hK _ _ rfl (Below.refl _ _)
    refine GChV.val (n := 10) (fun v => [_, _, _, _, _, _, _, _, _, _, IsV v]) (fun _ => rfl) rfl ?_
    apply Exists.intro
    refine And.intro ?_ ?_
    ·intro K' a wy ho hd hb hK
     rw [if_pos (wanted_none rfl)]
     have q6 := hd ⟨6, .data⟩ (by simp) rfl
     simp [rAt, IsV, slot] at q6
     have q9 := hd ⟨9, .data⟩ (by simp) rfl
     simp [rAt, IsV, slot] at q9
     clear hd ho
     go_simp
     try go_bits
     exact hK _ _ rfl (Below.refl _ _)
    refine GChV.val (n := 11) (fun v => [_, _, _, _, _, _, _, _, _, _, _, IsV v]) (fun _ => rfl) rfl ?_
    apply Exists.intro
    refine And.intro ?_ ?_
    ·intro K' a wy ho hd hb hK
     rw [if_pos (wanted_none rfl)]
     have o7 := ho 7 (by decide)
     simp [slot] at o7
     clear hd ho
     go_simp
     try go_bits
     exact hK _ _ rfl (Below.refl _ _)
    refine GChV.val (n := 12) (fun v => [_, _, _, _, _, _, _, _, _, _, _, _, IsV v]) (fun _ => rfl) rfl ?_
    apply Exists.intro
    refine And.intro ?_ ?_
    ·intro K' a wy ho hd hb hK
     rw [if_pos (wanted_none rfl)]
     have q11 := hd ⟨11, .data⟩ (by simp) rfl
     simp [rAt, IsV, slot] at q11
     clear hd ho
     go_simp
     try go_bits
     exact hK _ _ rfl (Below.refl _ _)
    refine GChV.val (n := 13) (fun v => [_, _, _, _, _, _, _, _, _, _, _, _, _, IsV v]) (fun _ => rfl) rfl ?_
    apply Exists.intro
    refine And.intro ?_ ?_
    ·intro K' a wy ho hd hb hK
     rw [if_pos (wanted_none rfl)]
     have o3 := ho 3 (by decide)
     simp [slot] at o3
     clear hd ho
     go_simp
     try go_bits
     exact hK _ _ rfl (Below.refl _ _)
    refine GChV.val (n := 14) (fun v => [_, _, _, _, _, _, _, _, _, _, _, _, _, _, IsV v]) (fun _ => rfl) rfl ?_
    apply Exists.intro
    refine And.intro ?_ ?_
    ·intro K' a wy ho hd hb hK
     rw [if_pos (wanted_none rfl)]
     have q13 := hd ⟨13, .data⟩ (by simp) rfl
     simp [rAt, IsV, slot] at q13
     clear hd ho
     have hst := HCP.out wy hb
     have HHk := hst.at (.head _)
     have k0 := HHk.cell (j := 0) rfl
     have k1 := HHk.cell (j := 1) rfl
     have k2 := HHk.cell (j := 2) rfl
     have k3 := HHk.cell (j := 3) rfl
     have k4 := HHk.cell (j := 4) rfl
     have k5 := HHk.cell (j := 5) rfl
     have k6 := HHk.cell (j := 6) rfl
     have k7 := HHk.cell (j := 7) rfl
     have k8 := HHk.cell (j := 8) rfl
     have k9 := HHk.cell (j := 9) rfl
     have k10 := HHk.cell (j := 10) rfl
     clear HHk
     clear hst
     go_simp
     try go_bits
     exact hK _ _ rfl (Below.refl _ _)
    refine GChV.val (n := 15) (fun v => [_, _, _, _, _, _, _, _, _, _, _, _, _, _, _, IsV v]) (fun _ => rfl) rfl ?_
    apply Exists.intro
    refine And.intro ?_ ?_
    ·intro K' a wy ho hd hb hK
     rw [if_pos (wanted_none rfl)]
     have q12 := hd ⟨12, .data⟩ (by simp) rfl
     simp [rAt, IsV, slot] at q12
     have q14 := hd ⟨14, .data⟩ (by simp) rfl
     simp [rAt, IsV, slot] at q14
     clear hd ho
     go_simp
     try go_bits
     exact hK _ _ rfl (Below.refl _ _)
    refine GChV.rel (n := 16) (IsWords [first / 65536, first, (data.size : Int), nx * 256 + ttl]) (stable_isWords _) [_, _, _, _, _, _, _, _, _, _, _, _, _, _, _, _, IsWords [first / 65536, first, (data.size : Int), nx * 256 + ttl]] rfl rfl ?_ ?_
    ·intro K' a wy ho hd hb hK
     rw [if_pos (wanted_none rfl)]
     have q3 := hd ⟨3, .data⟩ (by simp) rfl
     simp [rAt, IsV, slot] at q3
     have q4 := hd ⟨4, .data⟩ (by simp) rfl
     simp [rAt, IsV, slot] at q4
     have q10 := hd ⟨10, .data⟩ (by simp) rfl
     simp [rAt, IsV, slot] at q10
     have q15 := hd ⟨15, .data⟩ (by simp) rfl
     simp [rAt, IsV, slot] at q15
     clear hd ho
     go_simp
     exact hK _ _ ⟨wy.heap.size, rfl, by simp, fun k hk => by
      simp only [List.length_cons, List.length_nil] at hk
      match k, hk with
      | 0, _ => simp
      | 1, _ => simp
      | 2, _ => simp
      | 3, _ => simp⟩ ((Below.refl _ _).alloc (Nat.le_refl _) _)
    refine GChV.rel (n := 17) (IsOwn w.heap.size 5 8 (strCells hdA)) (stable_isOwn _ _ _ _) [_, _, _, _, _, _, _, _, _, _, _, _, _, _, _, _, _, IsOwn w.heap.size 5 8 (strCells hdA)] rfl rfl ?_ ?_
    ·intro K' a wy ho hd hb hK
     rw [if_pos (wanted_none rfl)]
     have hr : IsWords [first / 65536, first, (data.size : Int), nx * 256 + ttl] (slot a 56) wy := hd ⟨16, .data⟩ (by simp) rfl
     obtain ⟨b28, e1, e2, e3⟩ := hr
     simp [slot] at e1
     clear hd ho
     go_simp
     refine (layWordsM_any [first / 65536, first, (data.size : Int), nx * 256 + ttl] b28 4 4 wy (by decide) e2 rfl (getD_long _ (by simp only [List.forall_mem_cons, List.not_mem_nil, false_imp_iff, implies_true, and_true]; omega)) e3).mono ?_
     rintro e wz ⟨rfl, hown, hz⟩
     exact hK _ _ ⟨_, rfl, owns_base (by rw [← HX.out]; exact hown) (Nat.le_trans hlw hb.size)⟩ hz
    intro X wz hR hz
    obtain ⟨x0, x1, x2, x3, x4, x5, x6, x7, x8, x9, x10, x11, x12, x13, x14, x15, x16, x17, -⟩ := hR
    obtain ⟨b28, e28, -, -⟩ := x16
    obtain ⟨g29, e29, own29⟩ := x17
    simp only [IsV] at x0 x1 x2 x3 x4 x5 x6 x7 x8 x9 x10 x11 x12 x13 x14 x15
    simp only [putsFrom, x0, x1, x2, x3, x4, x5, x6, x7, x8, x9, x10, x11, x12, x13, x14, x15, e28, e29]
    clear x0 x1 x2 x3 x4 x5 x6 x7 x8 x9 x10 x11 x12 x13 x14 x15
    rw [e29] at own29
    have hgz : HoldsL wz g (strCells ((⟨#[]⟩ : ByteArray) ++ zs 8 ++ (zs 16 ++ zs 16))) := by
     have h := HGP.out wz hz
     simp only [ByteArray.append_assoc] at h ⊢
     rw [ByteArray.empty_append']
     exact h
    have hrun := run_lay_row (P := Try.prog) (dCap := 8) 22 22 3 5 Try.underlying22 hinfo hgz (o := 0) rfl (by rw [zs_size, hsA]) hsA.symm hsA.symm own29
    have HN2 : Hid (HoldsL (wz.setCells g 0 (strCells hdA)) g (strCells (hdA ++ zs 16 ++ zs 16))) := by
     have h := lay_at (s := hdA) hgz (o := 0) rfl (by rw [zs_size, hsA])
     rw [ByteArray.empty_append'] at h
     unfold Hid
     simp only [ByteArray.append_assoc] at h ⊢
     exact h
    have HB2 : Hid (Bxs w [(w.heap.size, [.int .i64 tos, .int .i64 id, .bool whole, .bool false, .int .i64 0, .int .i64 ttl, .int .i64 proto, .string src4, .string dst4, .string opts, .string data])] (wz.setCells g 0 (strCells hdA))) := (HCP.out wz hz).cells hg1 hgw
    clear hgz own29 hz HCP HGP
    rw [hsA] at hrun
    intro K10 hK10
    go_simp
    refine hK10 _ _ ?_
    show Exit.then _ _ _ _ _
    refine hK2 _ _ (hJ _ _ ?_)
    (repeat apply Exists.intro)
    exact ⟨⟨HN2.out, HB2.out⟩, rfl⟩
   case rest =>
   obtain ⟨hG, hS⟩ := hcut
   generalize wc = W4 at *
   clear HH1 HS3 j2 HX
   have hG4 : HoldsL W4 g (strCells (hdA ++ zs 16 ++ (zs 16))) := by
    have h := hG
    simp only [ByteArray.append_assoc, ByteArray.append_empty', ByteArray.empty_append'] at h ⊢
    exact h
   have ho4 : (hdA).size = 8 := by simp only [ByteArray.size_append, hsA, hs, hd]
   have hrun4 := run_lay_string (P := Try.prog) (s := src) (dCap := 16) 22 9 3 5 Try.underlying22 hsz hG4 ho4 (by rw [zs_size, hs]) (dLen := 16) (hs.symm)
   have hL5 := lay_at (s := src) hG4 ho4 (by rw [zs_size, hs])
   have hS5 : Bxs w [(w.heap.size, [.int .i64 tos, .int .i64 id, .bool whole, .bool false, .int .i64 0, .int .i64 ttl, .int .i64 proto, .string src4, .string dst4, .string opts, .string data])] (W4.setCells g 8 (strCells src)) := hS.cells hg1 hgw
   clear hG4 ho4
   rw [hs] at hrun4
   go_upto_region 10 with fail
   generalize W4.setCells g 8 (strCells src) = W5 at *
   clear hrun4
   have hG5 : HoldsL W5 g (strCells (hdA ++ src ++ zs 16 ++ (⟨#[]⟩))) := by
    have h := hL5
    simp only [ByteArray.append_assoc, ByteArray.append_empty', ByteArray.empty_append'] at h ⊢
    exact h
   have ho5 : (hdA ++ src).size = 24 := by simp only [ByteArray.size_append, hsA, hs, hd]
   have hrun5 := run_lay_string (P := Try.prog) (s := dst) (dCap := 16) 22 9 3 5 Try.underlying22 hsz hG5 ho5 (by rw [zs_size, hd]) (dLen := 16) (hd.symm)
   have hL6 := lay_at (s := dst) hG5 ho5 (by rw [zs_size, hd])
   have hS6 : Bxs w [(w.heap.size, [.int .i64 tos, .int .i64 id, .bool whole, .bool false, .int .i64 0, .int .i64 ttl, .int .i64 proto, .string src4, .string dst4, .string opts, .string data])] (W5.setCells g 24 (strCells dst)) := hS5.cells hg1 hgw
   clear hG5 ho5
   rw [hd] at hrun5
   go_upto_region 11 with fail
   generalize W5.setCells g 24 (strCells dst) = W6 at *
   clear hrun5
   have hrun6 : ∀ d, (Builtin.copy_ #[22, 9] 3 #[.slice d 0 0, .string ⟨#[]⟩]).run Try.prog W6 = .ok (goInt 0) W6 := fun d => run_copy_empty_string W6 _ _ _ 5 d 0 0 _ Try.underlying22 (by rw [hinfo]; rfl) rfl
   go_upto_region 12 with fail
   have HG2 : Hid (HoldsL W6 g (strCells ans)) := by
    unfold Hid; rw [HA.out]
    have h := hL6
    simp only [ByteArray.append_assoc, ByteArray.append_empty', ByteArray.empty_append'] at h ⊢
    exact h
   have HL : Hid _ := hgw
   have HB2 : Hid _ := hS6.b
   have HZ : Hid (40 = ans.size) := by
    unfold Hid; rw [HA.out]
    simp only [ByteArray.size_append, hsA, hs, hd, show (⟨#[]⟩ : ByteArray).size = 0 from rfl]
   clear hL6 hS6 HA
   go_wp2_with fail
   go_ret
   exact ⟨g, 40, rfl, HZ.out, HL.out, HG2.out, HB2.out⟩
  ·have d2 : (off != 0) = true := by simpa using c2
   have HA : Hid _ := HY.out (by rw [HC.out]; simp [c2])
   clear HY HN HC
   go_enter Try.func17, Try.ntmps17
   go_upto_region 1 with fail
   generalize (w.alloc (.cells #[.int .i64 tos, .int .i64 id, .bool whole, .bool false, .int .i64 off, .int .i64 ttl, .int .i64 proto, .string src4, .string dst4, .string opts, .string data] 24)) = W0 at *
   have HHk := HS0.out.at (.head _)
   have k0 := HHk.cell (j := 0) rfl
   have k1 := HHk.cell (j := 1) rfl
   have k2 := HHk.cell (j := 2) rfl
   have k3 := HHk.cell (j := 3) rfl
   have k4 := HHk.cell (j := 4) rfl
   have k5 := HHk.cell (j := 5) rfl
   have k6 := HHk.cell (j := 6) rfl
   have k7 := HHk.cell (j := 7) rfl
   have k8 := HHk.cell (j := 8) rfl
   have k9 := HHk.cell (j := 9) rfl
   have k10 := HHk.cell (j := 10) rfl
   clear HHk
   go_wp2_with fail
   refine (HSN.out _).mono ?_
   rintro e W1 ⟨rfl, q1⟩
   have HS1 : Hid _ := HS0.out.kept q1
   clear q1 HS0 HSN k0 k1 k2 k3 k4 k5 k6 k7 k8 k9 k10
   have HHk := HS1.out.at (.head _)
   have k0 := HHk.cell (j := 0) rfl
   have k1 := HHk.cell (j := 1) rfl
   have k2 := HHk.cell (j := 2) rfl
   have k3 := HHk.cell (j := 3) rfl
   have k4 := HHk.cell (j := 4) rfl
   have k5 := HHk.cell (j := 5) rfl
   have k6 := HHk.cell (j := 6) rfl
   have k7 := HHk.cell (j := 7) rfl
   have k8 := HHk.cell (j := 8) rfl
   have k9 := HHk.cell (j := 9) rfl
   have k10 := HHk.cell (j := 10) rfl
   clear HHk
   go_upto_region 3 with fail
   go_wp2_with fail
   refine (HLP.out _).mono ?_
   rintro e W2 ⟨rfl, q1⟩
   have HS2 : Hid _ := HS1.out.kept q1
   clear q1 HS1 HLP k0 k1 k2 k3 k4 k5 k6 k7 k8 k9 k10
   have HBZ : Hid (bh.size = 8) := hbz
   have hbz' : bh.size ≤ 8 := by omega
   clear hbz
   go_upto_region 7 with (at_make; refine wpList_make_full _ rfl _ _ 22 rfl W2.heap.size 5 i0 (.int .u8 0) 1 Try.underlying22 hi hz0 hz1 .i64 .i64 _ _ 48 rfl rfl (by have := HBZ.out; omega) (by have := HBZ.out; omega) (by rw [hz2]; omega) (by unfold maxLen; omega) (Nat.le_refl _) ?_; intro W3 hown hgrow)
   have hbel : Below W2.heap.size W2 W3 := (Below.refl _ _).grown hgrow (Nat.le_refl _) (by simp)
   have hb1 := hold_of_own hown
   have hgw : w.heap.size ≤ W2.heap.size := HS2.out.b.size
   have hg1 : ∀ e ∈ ([(w.heap.size, [.int .i64 tos, .int .i64 id, .bool whole, .bool false, .int .i64 off, .int .i64 ttl, .int .i64 proto, .string src4, .string dst4, .string opts, .string data])] : List (Nat × List Value)), e.1 ≠ W2.heap.size := fun e he => Nat.ne_of_lt ((HS2.out.lts e he).1)
   have HH1 : Hid (HoldsL W3 W2.heap.size (strCells (zs 8 ++ zs 16 ++ zs 16 ++ zs 8))) := by
    unfold Hid
    rw [show zs 8 ++ zs 16 ++ zs 16 ++ zs 8 = zs 48 by simp only [← zs_add], ← made_zs]
    exact hb1
   have HS3 : Hid _ := HS2.out.kept hbel
   generalize W2.heap.size = g at *
   clear hown hgrow hb1 hbel HS2
   have HHk := HS3.out.at (.head _)
   have k0 := HHk.cell (j := 0) rfl
   have k1 := HHk.cell (j := 1) rfl
   have k2 := HHk.cell (j := 2) rfl
   have k3 := HHk.cell (j := 3) rfl
   have k4 := HHk.cell (j := 4) rfl
   have k5 := HHk.cell (j := 5) rfl
   have k6 := HHk.cell (j := 6) rfl
   have k7 := HHk.cell (j := 7) rfl
   have k8 := HHk.cell (j := 8) rfl
   have k9 := HHk.cell (j := 9) rfl
   have k10 := HHk.cell (j := 10) rfl
   clear HHk
   go_upto_region 8 with fail
   clear k0 k1 k2 k3 k4 k5 k6 k7 k8 k9 k10 hf
   generalize 1610612736 + tos * 1048576 = first at *
   have j2 : bits .or .i64 11264 ttl = 11264 + ttl := by have := join_word 44 ttl (by omega) (by omega) a2.1 a2.2; simpa using this
   have HX : Hid ((layL (([first / 65536, first, 8 + (data.size : Int), 44 * 256 + ttl] : List Int).map (· % 65536))).map (Value.int .u8) = strCells (twoV (first / 65536) ++ twoV (first % 65536) ++ twoV (8 + (data.size : Int)) ++ pairV 44 ttl)) := six_words _ _ _ _ hfr (by omega) (by omega) a2
   have hsA : (twoV (first / 65536) ++ twoV (first % 65536) ++ twoV (8 + (data.size : Int)) ++ pairV 44 ttl).size = 8 := by simp only [ByteArray.size_append, pairV_size, twoV_size]
   generalize twoV (first / 65536) ++ twoV (first % 65536) ++ twoV (8 + (data.size : Int)) ++ pairV 44 ttl = hdA at *
   replace HX : Hid ((layL (([first / 65536, first, ((bh.size : Int) + (data.size : Int)), 44 * 256 + ttl] : List Int).map (· % 65536))).map (Value.int .u8) = strCells hdA) := by
    unfold Hid; rw [← HX.out, HBZ.out]; rfl
   go_cut [58] (fun v wx => HoldsL wx g (strCells (hdA ++ zs 16 ++ zs 16 ++ zs 8)) ∧ Bxs w [(w.heap.size, [.int .i64 tos, .int .i64 id, .bool whole, .bool false, .int .i64 off, .int .i64 ttl, .int .i64 proto, .string src4, .string dst4, .string opts, .string data])] wx)
   case first =>
    rename_i J K2 hJ hK2
    have HCP : Hid (∀ wy, Below W3.drew.heap.size W3.drew wy → _) := fun wy hy => HS3.out.kept ((Below.refl _ _).drew.trans hy)
    have HGP : Hid (∀ wy, Below W3.drew.heap.size W3.drew wy → HoldsL wy g (strCells (zs 8 ++ zs 16 ++ zs 16 ++ zs 8))) := fun wy hy => HH1.out.kept (by rw [strCells_length]; simp only [ByteArray.size_append, zs_size]; omega) ((Below.refl _ _).drew.trans hy)
    have hlw : w.heap.size ≤ W3.heap.size := HS3.out.b.size
    clear HH1 HS3 HA
    refine wp_region_growV [40, 41, 42, 43, 44, 45, 46, 47, 48, 49, 50, 51, 52, 53, 54, 55, 56, 57] (by kernel_rfl) (by kernel_rfl) ?_
    refine GChV.val (n := 0) (fun v => [IsV v]) (fun _ => rfl) rfl ?_
    apply Exists.intro
    refine And.intro ?_ ?_
    ·intro K' a wy ho hd hb hK
     rw [if_pos (wanted_none rfl)]
     have o10 := ho 10 (by decide)
     simp [slot] at o10
     clear hd ho
     go_simp
     try go_bits
     exact hK _ _ rfl (Below.refl _ _)
    refine GChV.val (n := 1) (fun v => [_, IsV v]) (fun _ => rfl) rfl ?_
    apply Exists.intro
    refine And.intro ?_ ?_
    ·intro K' a wy ho hd hb hK
     rw [if_pos (wanted_none rfl)]
     have q0 := hd ⟨0, .data⟩ (by simp) rfl
     simp [rAt, IsV, slot] at q0
     clear hd ho
     go_simp
     try go_bits
     exact hK _ _ rfl (Below.refl _ _)
    refine GChV.val (n := 2) (fun v => [_, _, IsV v]) (fun _ => rfl) rfl ?_
    apply Exists.intro
    refine And.intro ?_ ?_
    ·intro K' a wy ho hd hb hK
     rw [if_pos (wanted_none rfl)]
     have o11 := ho 11 (by decide)
     simp [slot] at o11
     clear hd ho
     go_simp
     try go_bits
     exact hK _ _ rfl (Below.refl _ _)
    refine GChV.val (n := 3) (fun v => [_, _, _, IsV v]) (fun _ => rfl) rfl ?_
    apply Exists.intro
    refine And.intro ?_ ?_
    ·intro K' a wy ho hd hb hK
     rw [if_pos (wanted_none rfl)]
     have q2 := hd ⟨2, .data⟩ (by simp) rfl
     simp [rAt, IsV, slot] at q2
     clear hd ho
     go_simp
     try go_bits
     exact hK _ _ rfl (Below.refl _ _)
    refine GChV.val (n := 4) (fun v => [_, _, _, _, IsV v]) (fun _ => rfl) rfl ?_
    apply Exists.intro
    refine And.intro ?_ ?_
    ·intro K' a wy ho hd hb hK
     rw [if_pos (wanted_none rfl)]
     have o11 := ho 11 (by decide)
     simp [slot] at o11
     clear hd ho
     go_simp
     try go_bits
     exact hK _ _ rfl (Below.refl _ _)
    refine GChV.val (n := 5) (fun v => [_, _, _, _, _, IsV v]) (fun _ => rfl) rfl ?_
    apply Exists.intro
    refine And.intro ?_ ?_
    ·intro K' a wy ho hd hb hK
     rw [if_pos (wanted_none rfl)]
     have o8 := ho 8 (by decide)
     simp [slot] at o8
     clear hd ho
     go_simp
     try go_bits
     exact hK _ _ rfl (Below.refl _ _)
    refine GChV.val (n := 6) (fun v => [_, _, _, _, _, _, IsV v]) (fun _ => rfl) rfl ?_
    apply Exists.intro
    refine And.intro ?_ ?_
    ·intro K' a wy ho hd hb hK
     rw [if_pos (wanted_none rfl)]
     have q5 := hd ⟨5, .data⟩ (by simp) rfl
     simp [rAt, IsV, slot] at q5
     clear hd ho
     go_simp
     try go_bits
     exact hK _ _ rfl (Below.refl _ _)
    refine GChV.val (n := 7) (fun v => [_, _, _, _, _, _, _, IsV v]) (fun _ => rfl) rfl ?_
    apply Exists.intro
    refine And.intro ?_ ?_
    ·intro K' a wy ho hd hb hK
     rw [if_pos (wanted_none rfl)]
     have o3 := ho 3 (by decide)
     simp [slot] at o3
     clear hd ho
     go_simp
     try go_bits
     exact hK _ _ rfl (Below.refl _ _)
    refine GChV.val (n := 8) (fun v => [_, _, _, _, _, _, _, _, IsV v]) (fun _ => rfl) rfl ?_
    apply Exists.intro
    refine And.intro ?_ ?_
    ·intro K' a wy ho hd hb hK
     rw [if_pos (wanted_none rfl)]
     have q7 := hd ⟨7, .data⟩ (by simp) rfl
     simp [rAt, IsV, slot] at q7
     clear hd ho
     have hst := HCP.out wy hb
     have HHk := hst.at (.head _)
     have k0 := HHk.cell (j := 0) rfl
     have k1 := HHk.cell (j := 1) rfl
     have k2 := HHk.cell (j := 2) rfl
     have k3 := HHk.cell (j := 3) rfl
     have k4 := HHk.cell (j := 4) rfl
     have k5 := HHk.cell (j := 5) rfl
     have k6 := HHk.cell (j := 6) rfl
     have k7 := HHk.cell (j := 7) rfl
     have k8 := HHk.cell (j := 8) rfl
     have k9 := HHk.cell (j := 9) rfl
     have k10 := HHk.cell (j := 10) rfl
     clear HHk
     clear hst
     go_simp
     try go_bits
     exact hK _ _ rfl (Below.refl _ _)
    refine GChV.val (n := 9) (fun v => [_, _, _, _, _, _, _, _, _, IsV v]) (fun _ => rfl) rfl ?_
    apply Exists.intro
    refine And.intro ?_ ?_
    ·intro K' a wy ho hd hb hK
     rw [if_pos (wanted_none rfl)]
     have q8 := hd ⟨8, .data⟩ (by simp) rfl
     simp [rAt, IsV, slot] at q8
     clear hd ho
     go_simp
     try go_bits
     exact hK _ _ rfl (Below.refl _ _)
    refine GChV.val (n := 10) (fun v => [_, _, _, _, _, _, _, _, _, _, IsV v]) (fun _ => rfl) rfl ?_
    apply Exists.intro
    refine And.intro ?_ ?_
    ·intro K' a wy ho hd hb hK
     rw [if_pos (wanted_none rfl)]
     have q6 := hd ⟨6, .data⟩ (by simp) rfl
     simp [rAt, IsV, slot] at q6
     have q9 := hd ⟨9, .data⟩ (by simp) rfl
     simp [rAt, IsV, slot] at q9
     clear hd ho
     go_simp
     try go_bits
     exact hK _ _ rfl (Below.refl _ _)
    refine GChV.val (n := 11) (fun v => [_, _, _, _, _, _, _, _, _, _, _, IsV v]) (fun _ => rfl) rfl ?_
    apply Exists.intro
    refine And.intro ?_ ?_
    ·intro K' a wy ho hd hb hK
     rw [if_pos (wanted_none rfl)]
     have o7 := ho 7 (by decide)
     simp [slot] at o7
     clear hd ho
     go_simp
     try go_bits
     exact hK _ _ rfl (Below.refl _ _)
    refine GChV.val (n := 12) (fun v => [_, _, _, _, _, _, _, _, _, _, _, _, IsV v]) (fun _ => rfl) rfl ?_
    apply Exists.intro
    refine And.intro ?_ ?_
    ·intro K' a wy ho hd hb hK
     rw [if_pos (wanted_none rfl)]
     have q11 := hd ⟨11, .data⟩ (by simp) rfl
     simp [rAt, IsV, slot] at q11
     clear hd ho
     go_simp
     try go_bits
     exact hK _ _ rfl (Below.refl _ _)
    refine GChV.val (n := 13) (fun v => [_, _, _, _, _, _, _, _, _, _, _, _, _, IsV v]) (fun _ => rfl) rfl ?_
    apply Exists.intro
    refine And.intro ?_ ?_
    ·intro K' a wy ho hd hb hK
     rw [if_pos (wanted_none rfl)]
     have o3 := ho 3 (by decide)
     simp [slot] at o3
     clear hd ho
     go_simp
     try go_bits
     exact hK _ _ rfl (Below.refl _ _)
    refine GChV.val (n := 14) (fun v => [_, _, _, _, _, _, _, _, _, _, _, _, _, _, IsV v]) (fun _ => rfl) rfl ?_
    apply Exists.intro
    refine And.intro ?_ ?_
    ·intro K' a wy ho hd hb hK
     rw [if_pos (wanted_none rfl)]
     have q13 := hd ⟨13, .data⟩ (by simp) rfl
     simp [rAt, IsV, slot] at q13
     clear hd ho
     have hst := HCP.out wy hb
     have HHk := hst.at (.head _)
     have k0 := HHk.cell (j := 0) rfl
     have k1 := HHk.cell (j := 1) rfl
     have k2 := HHk.cell (j := 2) rfl
     have k3 := HHk.cell (j := 3) rfl
     have k4 := HHk.cell (j := 4) rfl
     have k5 := HHk.cell (j := 5) rfl
     have k6 := HHk.cell (j := 6) rfl
     have k7 := HHk.cell (j := 7) rfl
     have k8 := HHk.cell (j := 8) rfl
     have k9 := HHk.cell (j := 9) rfl
     have k10 := HHk.cell (j := 10) rfl
     clear HHk
     clear hst
     go_simp
     try go_bits
     exact hK _ _ rfl (Below.refl _ _)
    refine GChV.val (n := 15) (fun v => [_, _, _, _, _, _, _, _, _, _, _, _, _, _, _, IsV v]) (fun _ => rfl) rfl ?_
    apply Exists.intro
    refine And.intro ?_ ?_
    ·intro K' a wy ho hd hb hK
     rw [if_pos (wanted_none rfl)]
     have q12 := hd ⟨12, .data⟩ (by simp) rfl
     simp [rAt, IsV, slot] at q12
     have q14 := hd ⟨14, .data⟩ (by simp) rfl
     simp [rAt, IsV, slot] at q14
     clear hd ho
     go_simp
     try go_bits
     exact hK _ _ rfl (Below.refl _ _)
    refine GChV.rel (n := 16) (IsWords [first / 65536, first, ((bh.size : Int) + (data.size : Int)), 44 * 256 + ttl]) (stable_isWords _) [_, _, _, _, _, _, _, _, _, _, _, _, _, _, _, _, IsWords [first / 65536, first, ((bh.size : Int) + (data.size : Int)), 44 * 256 + ttl]] rfl rfl ?_ ?_
    ·intro K' a wy ho hd hb hK
     rw [if_pos (wanted_none rfl)]
     have q3 := hd ⟨3, .data⟩ (by simp) rfl
     simp [rAt, IsV, slot] at q3
     have q4 := hd ⟨4, .data⟩ (by simp) rfl
     simp [rAt, IsV, slot] at q4
     have q10 := hd ⟨10, .data⟩ (by simp) rfl
     simp [rAt, IsV, slot] at q10
     have q15 := hd ⟨15, .data⟩ (by simp) rfl
     simp [rAt, IsV, slot] at q15
     clear hd ho
     go_simp
     exact hK _ _ ⟨wy.heap.size, rfl, by simp, fun k hk => by
      simp only [List.length_cons, List.length_nil] at hk
      match k, hk with
      | 0, _ => simp
      | 1, _ => simp
      | 2, _ => simp
      | 3, _ => simp⟩ ((Below.refl _ _).alloc (Nat.le_refl _) _)
    refine GChV.rel (n := 17) (IsOwn w.heap.size 5 8 (strCells hdA)) (stable_isOwn _ _ _ _) [_, _, _, _, _, _, _, _, _, _, _, _, _, _, _, _, _, IsOwn w.heap.size 5 8 (strCells hdA)] rfl rfl ?_ ?_
    ·intro K' a wy ho hd hb hK
     rw [if_pos (wanted_none rfl)]
     have hr : IsWords [first / 65536, first, ((bh.size : Int) + (data.size : Int)), 44 * 256 + ttl] (slot a 56) wy := hd ⟨16, .data⟩ (by simp) rfl
     obtain ⟨b28, e1, e2, e3⟩ := hr
     simp [slot] at e1
     clear hd ho
     go_simp
     refine (layWordsM_any [first / 65536, first, ((bh.size : Int) + (data.size : Int)), 44 * 256 + ttl] b28 4 4 wy (by decide) e2 rfl (getD_long _ (by simp only [List.forall_mem_cons, List.not_mem_nil, false_imp_iff, implies_true, and_true]; omega)) e3).mono ?_
     rintro e wz ⟨rfl, hown, hz⟩
     exact hK _ _ ⟨_, rfl, owns_base (by rw [← HX.out]; exact hown) (Nat.le_trans hlw hb.size)⟩ hz
    intro X wz hR hz
    obtain ⟨x0, x1, x2, x3, x4, x5, x6, x7, x8, x9, x10, x11, x12, x13, x14, x15, x16, x17, -⟩ := hR
    obtain ⟨b28, e28, -, -⟩ := x16
    obtain ⟨g29, e29, own29⟩ := x17
    simp only [IsV] at x0 x1 x2 x3 x4 x5 x6 x7 x8 x9 x10 x11 x12 x13 x14 x15
    simp only [putsFrom, x0, x1, x2, x3, x4, x5, x6, x7, x8, x9, x10, x11, x12, x13, x14, x15, e28, e29]
    clear x0 x1 x2 x3 x4 x5 x6 x7 x8 x9 x10 x11 x12 x13 x14 x15
    rw [e29] at own29
    have hgz : HoldsL wz g (strCells ((⟨#[]⟩ : ByteArray) ++ zs 8 ++ (zs 16 ++ zs 16 ++ zs 8))) := by
     have h := HGP.out wz hz
     simp only [ByteArray.append_assoc] at h ⊢
     rw [ByteArray.empty_append']
     exact h
    have hrun := run_lay_row (P := Try.prog) (dCap := 8) 22 22 3 5 Try.underlying22 hinfo hgz (o := 0) rfl (by rw [zs_size, hsA]) hsA.symm hsA.symm own29
    have HN2 : Hid (HoldsL (wz.setCells g 0 (strCells hdA)) g (strCells (hdA ++ zs 16 ++ zs 16 ++ zs 8))) := by
     have h := lay_at (s := hdA) hgz (o := 0) rfl (by rw [zs_size, hsA])
     rw [ByteArray.empty_append'] at h
     unfold Hid
     simp only [ByteArray.append_assoc] at h ⊢
     exact h
    have HB2 : Hid (Bxs w [(w.heap.size, [.int .i64 tos, .int .i64 id, .bool whole, .bool false, .int .i64 off, .int .i64 ttl, .int .i64 proto, .string src4, .string dst4, .string opts, .string data])] (wz.setCells g 0 (strCells hdA))) := (HCP.out wz hz).cells hg1 hgw
    clear hgz own29 hz HCP HGP
    rw [hsA] at hrun
    intro K10 hK10
    go_simp
    refine hK10 _ _ ?_
    show Exit.then _ _ _ _ _
    refine hK2 _ _ (hJ _ _ ?_)
    (repeat apply Exists.intro)
    exact ⟨⟨HN2.out, HB2.out⟩, rfl⟩
   case rest =>
   obtain ⟨hG, hS⟩ := hcut
   generalize wc = W4 at *
   clear HH1 HS3 j2 HX
   have hG4 : HoldsL W4 g (strCells (hdA ++ zs 16 ++ (zs 16 ++ zs 8))) := by
    have h := hG
    simp only [ByteArray.append_assoc, ByteArray.append_empty', ByteArray.empty_append'] at h ⊢
    exact h
   have ho4 : (hdA).size = 8 := by simp only [ByteArray.size_append, hsA, hs, hd]
   have hrun4 := run_lay_string (P := Try.prog) (s := src) (dCap := 16) 22 9 3 5 Try.underlying22 hsz hG4 ho4 (by rw [zs_size, hs]) (dLen := 16) (hs.symm)
   have hL5 := lay_at (s := src) hG4 ho4 (by rw [zs_size, hs])
   have hS5 : Bxs w [(w.heap.size, [.int .i64 tos, .int .i64 id, .bool whole, .bool false, .int .i64 off, .int .i64 ttl, .int .i64 proto, .string src4, .string dst4, .string opts, .string data])] (W4.setCells g 8 (strCells src)) := hS.cells hg1 hgw
   clear hG4 ho4
   rw [hs] at hrun4
   go_upto_region 10 with fail
   generalize W4.setCells g 8 (strCells src) = W5 at *
   clear hrun4
   have hG5 : HoldsL W5 g (strCells (hdA ++ src ++ zs 16 ++ (zs 8))) := by
    have h := hL5
    simp only [ByteArray.append_assoc, ByteArray.append_empty', ByteArray.empty_append'] at h ⊢
    exact h
   have ho5 : (hdA ++ src).size = 24 := by simp only [ByteArray.size_append, hsA, hs, hd]
   have hrun5 := run_lay_string (P := Try.prog) (s := dst) (dCap := 16) 22 9 3 5 Try.underlying22 hsz hG5 ho5 (by rw [zs_size, hd]) (dLen := 16) (hd.symm)
   have hL6 := lay_at (s := dst) hG5 ho5 (by rw [zs_size, hd])
   have hS6 : Bxs w [(w.heap.size, [.int .i64 tos, .int .i64 id, .bool whole, .bool false, .int .i64 off, .int .i64 ttl, .int .i64 proto, .string src4, .string dst4, .string opts, .string data])] (W5.setCells g 24 (strCells dst)) := hS5.cells hg1 hgw
   clear hG5 ho5
   rw [hd] at hrun5
   go_upto_region 11 with fail
   generalize W5.setCells g 24 (strCells dst) = W6 at *
   clear hrun5
   have HB8 : bh.size = 8 := HBZ.out
   have hG6 : HoldsL W6 g (strCells (hdA ++ src ++ dst ++ zs 8 ++ (⟨#[]⟩))) := by
    have h := hL6
    simp only [ByteArray.append_assoc, ByteArray.append_empty', ByteArray.empty_append'] at h ⊢
    exact h
   have ho6 : (hdA ++ src ++ dst).size = 40 := by simp only [ByteArray.size_append, hsA, hs, hd]
   have hrun6 := run_lay_string (P := Try.prog) (s := bh) (dCap := 8) 22 9 3 5 Try.underlying22 hsz hG6 ho6 (by rw [zs_size, HB8]) (dLen := 8) (HB8.symm)
   have hL7 := lay_at (s := bh) hG6 ho6 (by rw [zs_size, HB8])
   have hS7 : Bxs w [(w.heap.size, [.int .i64 tos, .int .i64 id, .bool whole, .bool false, .int .i64 off, .int .i64 ttl, .int .i64 proto, .string src4, .string dst4, .string opts, .string data])] (W6.setCells g 40 (strCells bh)) := hS6.cells hg1 hgw
   clear hG6 ho6
   rw [HB8] at hrun6
   go_upto_region 12 with fail
   generalize W6.setCells g 40 (strCells bh) = W7 at *
   clear hrun6
   have HG2 : Hid (HoldsL W7 g (strCells ans)) := by
    unfold Hid; rw [HA.out]
    have h := hL7
    simp only [ByteArray.append_assoc, ByteArray.append_empty', ByteArray.empty_append'] at h ⊢
    exact h
   have HL : Hid _ := hgw
   have HB2 : Hid _ := hS7.b
   have HZ : Hid (48 = ans.size) := by
    unfold Hid; rw [HA.out]
    simp only [ByteArray.size_append, hsA, hs, hd, HB8]
   clear hL7 hS7 HA
   go_wp2_with fail
   go_ret
   exact ⟨g, 48, rfl, HZ.out, HL.out, HG2.out, HB2.out⟩
end Go.Proofs.Ytofenlclefkgdaa
