/- SWhole: what the specification's l06Whole answers. Printed by mkspwhole.py. -/
import Derived.Test.YtofhcplnnamcdabSTick
import Derived.Test.YtofhcplnnamcdabHoldL
import Derived.Maps.AppendAt
import Derived.RegionTactic
import Derived.Deep.DeepCutAuto
namespace Go.Proofs.Ytofhcplnnamcdab
open Go.RowKit Go.PlainAid
set_option linter.unusedVariables false
set_option linter.unusedSimpArgs false

theorem pieceOk_data {p : Pc} (h : pieceOk p = true) : 1 ≤ p.data.size ∧ p.data.size ≤ 1400 := by
  unfold pieceOk at h
  simp only [Bool.and_eq_true, decide_eq_true_eq] at h
  omega
def optS (o : Option ByteArray) : ByteArray := o.getD ⟨#[]⟩

set_option maxRecDepth 100000 in
set_option maxHeartbeats 2000000 in
theorem spWhole_any (xs : List Pc) (p : Pc) (a : Option Addr) (cap : Nat) (w : World) (hlen : xs.length ≤ 1048576) (hok : ∀ q ∈ xs, pieceOk q = true) (hr : SlIs pcL 8 w a xs) :
    Calls Try.prog 51 #[.slice a xs.length cap, pcC p] w fun e w' => e = .returned (.tuple #[.string (optS (wholePc xs p)), .bool (wholePc xs p).isSome]) ∧ Below w.heap.size w w' := by
  have HR : Hid (SlIs pcL 8 w a xs) := hr
  have HOK : Hid (∀ q ∈ xs, pieceOk q = true) := hok
  have HV : Hid (wholePc xs p = wholeF xs p 70000 ⟨#[]⟩) := rfl
  generalize wholePc xs p = ans at *
  have KP : Hid (BoxPiece (w.alloc (.cells (pcL p).toArray 37)) w.heap.size p) := BoxPiece.new w p (t := 37)
  have HB0 : Hid (Below w.heap.size w (w.alloc (.cells (pcL p).toArray 37))) := (Below.refl _ _).alloc (Nat.le_refl _) _
  rw [show (pcL p).toArray = #[.string p.src, .string p.dst, .int .i64 p.proto, .int .i64 p.id, .int .i64 p.off, .bool p.more, .string p.data, .int .i64 p.since] from rfl] at KP HB0
  unfold pcC
  clear hr hok
  go_enter Try.func51, Try.ntmps51
  go_wp2_with fail
  generalize w.alloc (.cells #[.string p.src, .string p.dst, .int .i64 p.proto, .int .i64 p.id, .int .i64 p.off, .bool p.more, .string p.data, .int .i64 p.since] 37) = W at *
  go_loopw [6] (fun tv wr => ∃ (t : ByteArray) (f : Nat), tv = .string t ∧ t.size ≤ 67000 ∧ ans = wholeF xs p f t ∧ 70000 ≤ f + t.size ∧ Below W.heap.size W wr) (fun tv _ => 70000 - strOf tv)
  case atStart => exact ⟨⟨#[]⟩, 70000, rfl, by simp [ByteArray.size], HV.out, by omega, Below.refl _ _⟩
  case round =>
    obtain ⟨t, f, rfl, ht, hans, hf, hbel⟩ := hrel
    have HA : Hid (ans = wholeF xs p f t) := hans
    have H1 : Hid (Below W.heap.size W wr) := hbel
    clear hans hbel HV
    go_wp2_with fail
    generalize wr = wr0 at *
    go_loopw [6, 7, 8] (fun tv fv iv wr => ∃ i : Nat, i ≤ xs.length ∧ tv = .string t ∧ fv = .bool false ∧ iv = .int .i64 i ∧ (xs.take i).find? (fun q => onePk q p && decide (8 * q.off = (t.size : Int))) = none ∧ Below W.heap.size W wr) (fun _ _ iv _ => xs.length - (intOf iv).toNat)
    case atStart => exact ⟨0, Nat.zero_le _, rfl, rfl, rfl, rfl, H1.out⟩
    case round =>
      obtain ⟨i, hil, rfl, rfl, rfl, hn, hbel⟩ := hrel
      have HN : Hid ((xs.take i).find? (fun q => onePk q p && decide (8 * q.off = (t.size : Int))) = none) := hn
      have HL : Hid (Below W.heap.size W wr) := hbel
      clear hn hbel H1
      by_cases hlt : i < xs.length
      · obtain ⟨b, off, rfl, hb, hat⟩ := HR.out.at hlt
        have hWb : w.heap.size < W.heap.size := World.block_lt_of_cell? W _ KP.out.c0
        have HBL : Below w.heap.size w wr := HB0.out.trans (HL.out.mono (by omega))
        have hA := (hat.below hb HBL) i hlt
        have hbr : b < wr.heap.size := Nat.lt_of_lt_of_le hb HBL.size
        have hok := HOK.out xs[i] (List.getElem_mem hlt)
        obtain ⟨q, hq⟩ : ∃ q, q = xs[i] := ⟨_, rfl⟩
        have HQ : Hid (q = xs[i]) := hq
        rw [← hq] at hA hok
        have ho := pieceOk_off hok
        have hdt := pieceOk_data hok
        have HAI : Hid (wr.rangeAt b (off + i * 8) (pcL q)) := hA
        have HCI : Hid (∀ wy, Below wr.heap.size wr wy → wy.cell? ⟨b, off + i * 8, none⟩ = some (.string q.src) ∧ wy.cell? ⟨b, off + i * 8 + 1, none⟩ = some (.string q.dst) ∧ wy.cell? ⟨b, off + i * 8 + 2, none⟩ = some (.int .i64 q.proto) ∧ wy.cell? ⟨b, off + i * 8 + 3, none⟩ = some (.int .i64 q.id) ∧ wy.cell? ⟨b, off + i * 8 + 4, none⟩ = some (.int .i64 q.off) ∧ wy.cell? ⟨b, off + i * 8 + 5, none⟩ = some (.bool q.more) ∧ wy.cell? ⟨b, off + i * 8 + 6, none⟩ = some (.string q.data) ∧ wy.cell? ⟨b, off + i * 8 + 7, none⟩ = some (.int .i64 q.since)) := fun wy hy => by
          have h2 : wy.rangeAt b (off + i * 8) (pcL q) := fun j v hv => ((bcell hy).1 b _ hbr).trans (hA j v hv)
          exact ⟨h2 0 _ rfl, h2 1 _ rfl, h2 2 _ rfl, h2 3 _ rfl, h2 4 _ rfl, h2 5 _ rfl, h2 6 _ rfl, h2 7 _ rfl⟩
        have HCP : Hid (∀ wy, Below wr.heap.size wr wy → wy.cell? ⟨w.heap.size, 0, none⟩ = some (.string p.src) ∧ wy.cell? ⟨w.heap.size, 1, none⟩ = some (.string p.dst) ∧ wy.cell? ⟨w.heap.size, 2, none⟩ = some (.int .i64 p.proto) ∧ wy.cell? ⟨w.heap.size, 3, none⟩ = some (.int .i64 p.id) ∧ wy.cell? ⟨w.heap.size, 4, none⟩ = some (.int .i64 p.off) ∧ wy.cell? ⟨w.heap.size, 5, none⟩ = some (.bool p.more) ∧ wy.cell? ⟨w.heap.size, 6, none⟩ = some (.string p.data) ∧ wy.cell? ⟨w.heap.size, 7, none⟩ = some (.int .i64 p.since)) := fun wy hy => by
          obtain ⟨k0, k1, k2, k3, k4, k5, k6, k7⟩ := KP.out
          have h1 : ∀ o, wy.cell? ⟨w.heap.size, o, none⟩ = W.cell? ⟨w.heap.size, o, none⟩ := fun o => ((bcell hy).1 _ _ (Nat.lt_of_lt_of_le hWb HL.out.size)).trans (HL.out.cell (p := ⟨w.heap.size, o, none⟩) hWb)
          simp only [h1]
          exact ⟨k0, k1, k2, k3, k4, k5, k6, k7⟩
        have HO : Hid (∀ W, Calls Try.prog 48 #[pcC q, pcC p] W fun e w' => e = .returned (.bool (onePk q p)) ∧ Below W.heap.size W w') := fun W => spOne_any q p W
        have HPV : Hid ((fun q : Pc => onePk q p && decide (8 * q.off = (t.size : Int))) q = (onePk q p && decide (8 * q.off = (t.size : Int)))) := rfl
        unfold pcC at HO
        clear hq hA hat HBL hok
        generalize hb1 : (onePk q p && decide (8 * q.off = (t.size : Int))) = hit
        have HB1 : Hid ((onePk q p && decide (8 * q.off = (t.size : Int))) = hit) := hb1
        clear hb1
        go_upto_region 6 with fail
        go_cut [31] (fun v wx => v = .bool hit ∧ Below wr.heap.size wr wx)
        case first =>
          rename_i J K2 hJ hK2
          rw [← HB1.out] at hJ
          clear HB1 HPV
          have dq : (8 * q.off == (t.size : Int)) = decide (8 * q.off = (t.size : Int)) := rfl
          generalize decide (8 * q.off = (t.size : Int)) = e1 at *
          cases ho1 : onePk q p with
          | true =>
            rw [ho1] at HO hJ
            rw [Bool.true_and] at hJ
            clear ho1
            refine wp_region_growH [15, 16, 17, 18, 19, 20, 21, 22, 23, 24, 25, 26, 27, 28, 29, 30, 31] (by kernel_rfl) (by kernel_rfl) ?_
            refine GCh.val (n := 0) (fun v => [IsV v]) (fun _ => rfl) rfl ?_
            apply Exists.intro
            refine And.intro ?_ ?_
            · intro K' a wy ho hd hb hK
              rw [if_pos (wanted_none rfl)]
              have o0 := ho 0 (by decide)
              simp [slot] at o0
              clear hd ho
              go_simp
              try go_bits
              exact hK _ _ rfl (Below.refl _ _)
            refine GCh.val (n := 1) (fun v => [_, IsV v]) (fun _ => rfl) rfl ?_
            apply Exists.intro
            refine And.intro ?_ ?_
            · intro K' a wy ho hd hb hK
              rw [if_pos (wanted_none rfl)]
              have o8 := ho 8 (by decide)
              simp [slot] at o8
              clear hd ho
              go_simp
              try go_bits
              exact hK _ _ rfl (Below.refl _ _)
            refine GCh.val (n := 2) (fun v => [_, _, IsV v]) (fun _ => rfl) rfl ?_
            apply Exists.intro
            refine And.intro ?_ ?_
            · intro K' a wy ho hd hb hK
              rw [if_pos (wanted_none rfl)]
              have q0 := hd ⟨0, .data⟩ (by simp) rfl
              simp [rAt, IsV, slot] at q0
              have q1 := hd ⟨1, .data⟩ (by simp) rfl
              simp [rAt, IsV, slot] at q1
              clear hd ho
              go_simp
              try go_bits
              exact hK _ _ rfl (Below.refl _ _)
            refine GCh.val (n := 3) (fun v => [_, _, _, IsV v]) (fun _ => rfl) rfl ?_
            apply Exists.intro
            refine And.intro ?_ ?_
            · intro K' a wy ho hd hb hK
              rw [if_pos (wanted_none rfl)]
              have q2 := hd ⟨2, .data⟩ (by simp) rfl
              simp [rAt, IsV, slot] at q2
              clear hd ho
              obtain ⟨c0, c1, c2, c3, c4, c5, c6, c7⟩ := HCI.out wy ((Below.refl _ _).drew.trans hb); obtain ⟨d0, d1, d2, d3, d4, d5, d6, d7⟩ := HCP.out wy ((Below.refl _ _).drew.trans hb)
              go_simp
              try go_bits
              exact hK _ _ rfl (Below.refl _ _)
            refine GCh.val (n := 4) (fun v => [_, _, _, _, IsV v]) (fun _ => rfl) rfl ?_
            apply Exists.intro
            refine And.intro ?_ ?_
            · intro K' a wy ho hd hb hK
              rw [if_pos (wanted_none rfl)]
              have o3 := ho 3 (by decide)
              simp [slot] at o3
              clear hd ho
              obtain ⟨c0, c1, c2, c3, c4, c5, c6, c7⟩ := HCI.out wy ((Below.refl _ _).drew.trans hb); obtain ⟨d0, d1, d2, d3, d4, d5, d6, d7⟩ := HCP.out wy ((Below.refl _ _).drew.trans hb)
              go_simp
              try go_bits
              exact hK _ _ rfl (Below.refl _ _)
            refine GCh.val (n := 5) (fun v => [_, _, _, _, _, IsV v]) (fun _ => rfl) rfl ?_
            apply Exists.intro
            refine And.intro ?_ ?_
            · intro K' a wy ho hd hb hK
              rw [if_pos (wanted_none rfl)]
              have q3 := hd ⟨3, .data⟩ (by simp) rfl
              simp [rAt, IsV, slot] at q3
              have q4 := hd ⟨4, .data⟩ (by simp) rfl
              simp [rAt, IsV, slot] at q4
              clear hd ho
              go_simp
              refine (HO.out wy).mono ?_
              rintro e wz ⟨rfl, hz⟩
              exact hK _ _ rfl hz
            refine GCh.val (n := 6) (fun v => [_, _, _, _, _, _, IsV v]) (fun _ => rfl) rfl ?_
            apply Exists.intro
            refine And.intro ?_ ?_
            · intro K' a wy ho hd hb hK
              rw [if_pos (wanted_none rfl)]
              have q5 := hd ⟨5, .data⟩ (by simp) rfl
              simp [rAt, IsV, slot] at q5
              clear hd ho
              go_simp
              try go_bits
              exact hK _ _ rfl (Below.refl _ _)
            refine GCh.val (n := 7) (fun v => [_, _, _, _, _, _, _, IsV v]) (fun _ => rfl) rfl ?_
            apply Exists.intro
            refine And.intro ?_ ?_
            · intro K' a wy ho hd hb hK
              have hgs : IsV (.bool true) (slot a 21) wy := hd ⟨6, .guard⟩ (by simp) rfl
              rw [wanted_of (j := 6) (d := 21) (b := true) (want := true) (hg := rfl) (ho := rfl) (hd := rfl) (hs := hgs)]
              rw [if_pos (by decide)]
              clear hgs
              have o0 := ho 0 (by decide)
              simp [slot] at o0
              clear hd ho
              go_simp
              try go_bits
              exact hK _ _ rfl (Below.refl _ _)
            refine GCh.val (n := 8) (fun v => [_, _, _, _, _, _, _, _, IsV v]) (fun _ => rfl) rfl ?_
            apply Exists.intro
            refine And.intro ?_ ?_
            · intro K' a wy ho hd hb hK
              have hgs : IsV (.bool true) (slot a 21) wy := hd ⟨6, .guard⟩ (by simp) rfl
              rw [wanted_of (j := 6) (d := 21) (b := true) (want := true) (hg := rfl) (ho := rfl) (hd := rfl) (hs := hgs)]
              rw [if_pos (by decide)]
              clear hgs
              have o8 := ho 8 (by decide)
              simp [slot] at o8
              clear hd ho
              go_simp
              try go_bits
              exact hK _ _ rfl (Below.refl _ _)
            refine GCh.val (n := 9) (fun v => [_, _, _, _, _, _, _, _, _, IsV v]) (fun _ => rfl) rfl ?_
            apply Exists.intro
            refine And.intro ?_ ?_
            · intro K' a wy ho hd hb hK
              have hgs : IsV (.bool true) (slot a 21) wy := hd ⟨6, .guard⟩ (by simp) rfl
              rw [wanted_of (j := 6) (d := 21) (b := true) (want := true) (hg := rfl) (ho := rfl) (hd := rfl) (hs := hgs)]
              rw [if_pos (by decide)]
              clear hgs
              have q7 := hd ⟨7, .data⟩ (by simp) rfl
              simp [rAt, IsV, slot] at q7
              have q8 := hd ⟨8, .data⟩ (by simp) rfl
              simp [rAt, IsV, slot] at q8
              clear hd ho
              go_simp
              try go_bits
              exact hK _ _ rfl (Below.refl _ _)
            refine GCh.val (n := 10) (fun v => [_, _, _, _, _, _, _, _, _, _, IsV v]) (fun _ => rfl) rfl ?_
            apply Exists.intro
            refine And.intro ?_ ?_
            · intro K' a wy ho hd hb hK
              have hgs : IsV (.bool true) (slot a 21) wy := hd ⟨6, .guard⟩ (by simp) rfl
              rw [wanted_of (j := 6) (d := 21) (b := true) (want := true) (hg := rfl) (ho := rfl) (hd := rfl) (hs := hgs)]
              rw [if_pos (by decide)]
              clear hgs
              have q9 := hd ⟨9, .data⟩ (by simp) rfl
              simp [rAt, IsV, slot] at q9
              clear hd ho
              go_simp
              try go_bits
              exact hK _ _ rfl (Below.refl _ _)
            refine GCh.val (n := 11) (fun v => [_, _, _, _, _, _, _, _, _, _, _, IsV v]) (fun _ => rfl) rfl ?_
            apply Exists.intro
            refine And.intro ?_ ?_
            · intro K' a wy ho hd hb hK
              have hgs : IsV (.bool true) (slot a 21) wy := hd ⟨6, .guard⟩ (by simp) rfl
              rw [wanted_of (j := 6) (d := 21) (b := true) (want := true) (hg := rfl) (ho := rfl) (hd := rfl) (hs := hgs)]
              rw [if_pos (by decide)]
              clear hgs
              have q10 := hd ⟨10, .data⟩ (by simp) rfl
              simp [rAt, IsV, slot] at q10
              clear hd ho
              obtain ⟨c0, c1, c2, c3, c4, c5, c6, c7⟩ := HCI.out wy ((Below.refl _ _).drew.trans hb); obtain ⟨d0, d1, d2, d3, d4, d5, d6, d7⟩ := HCP.out wy ((Below.refl _ _).drew.trans hb)
              go_simp
              try go_bits
              exact hK _ _ rfl (Below.refl _ _)
            refine GCh.val (n := 12) (fun v => [_, _, _, _, _, _, _, _, _, _, _, _, IsV v]) (fun _ => rfl) rfl ?_
            apply Exists.intro
            refine And.intro ?_ ?_
            · intro K' a wy ho hd hb hK
              have hgs : IsV (.bool true) (slot a 21) wy := hd ⟨6, .guard⟩ (by simp) rfl
              rw [wanted_of (j := 6) (d := 21) (b := true) (want := true) (hg := rfl) (ho := rfl) (hd := rfl) (hs := hgs)]
              rw [if_pos (by decide)]
              clear hgs
              have q11 := hd ⟨11, .data⟩ (by simp) rfl
              simp [rAt, IsV, slot] at q11
              clear hd ho
              go_simp
              try go_bits
              exact hK _ _ rfl (Below.refl _ _)
            refine GCh.val (n := 13) (fun v => [_, _, _, _, _, _, _, _, _, _, _, _, _, IsV v]) (fun _ => rfl) rfl ?_
            apply Exists.intro
            refine And.intro ?_ ?_
            · intro K' a wy ho hd hb hK
              have hgs : IsV (.bool true) (slot a 21) wy := hd ⟨6, .guard⟩ (by simp) rfl
              rw [wanted_of (j := 6) (d := 21) (b := true) (want := true) (hg := rfl) (ho := rfl) (hd := rfl) (hs := hgs)]
              rw [if_pos (by decide)]
              clear hgs
              have o6 := ho 6 (by decide)
              simp [slot] at o6
              clear hd ho
              go_simp
              try go_bits
              exact hK _ _ rfl (Below.refl _ _)
            refine GCh.val (n := 14) (fun v => [_, _, _, _, _, _, _, _, _, _, _, _, _, _, IsV v]) (fun _ => rfl) rfl ?_
            apply Exists.intro
            refine And.intro ?_ ?_
            · intro K' a wy ho hd hb hK
              have hgs : IsV (.bool true) (slot a 21) wy := hd ⟨6, .guard⟩ (by simp) rfl
              rw [wanted_of (j := 6) (d := 21) (b := true) (want := true) (hg := rfl) (ho := rfl) (hd := rfl) (hs := hgs)]
              rw [if_pos (by decide)]
              clear hgs
              have q13 := hd ⟨13, .data⟩ (by simp) rfl
              simp [rAt, IsV, slot] at q13
              clear hd ho
              go_simp
              try go_bits
              exact hK _ _ rfl (Below.refl _ _)
            refine GCh.val (n := 15) (fun v => [_, _, _, _, _, _, _, _, _, _, _, _, _, _, _, IsV v]) (fun _ => rfl) rfl ?_
            apply Exists.intro
            refine And.intro ?_ ?_
            · intro K' a wy ho hd hb hK
              have hgs : IsV (.bool true) (slot a 21) wy := hd ⟨6, .guard⟩ (by simp) rfl
              rw [wanted_of (j := 6) (d := 21) (b := true) (want := true) (hg := rfl) (ho := rfl) (hd := rfl) (hs := hgs)]
              rw [if_pos (by decide)]
              clear hgs
              have q12 := hd ⟨12, .data⟩ (by simp) rfl
              simp [rAt, IsV, slot] at q12
              have q14 := hd ⟨14, .data⟩ (by simp) rfl
              simp [rAt, IsV, slot] at q14
              clear hd ho
              go_simp
              try go_bits
              exact hK _ _ rfl (Below.refl _ _)
            refine GCh.val (n := 16) (fun v => [_, _, _, _, _, _, _, _, _, _, _, _, _, _, _, _, IsV v]) (fun _ => rfl) rfl ?_
            apply Exists.intro
            refine And.intro ?_ ?_
            · intro K' a wy ho hd hb hK
              rw [if_pos (wanted_none rfl)]
              have q6 := hd ⟨6, .data⟩ (by simp) rfl
              simp [rAt, IsV, slot] at q6
              have q15 := hd ⟨15, .data⟩ (by simp) rfl
              simp [rAt, IsV, slot] at q15
              clear hd ho
              go_simp
              try go_bits
              exact hK _ _ rfl (Below.refl _ _)
            intro X wz hR hz
            obtain ⟨x0, x1, x2, x3, x4, x5, x6, x7, x8, x9, x10, x11, x12, x13, x14, x15, x16, -⟩ := hR
            simp only [IsV] at x0 x1 x2 x3 x4 x5 x6 x7 x8 x9 x10 x11 x12 x13 x14 x15 x16
            simp only [putsFrom, x0, x1, x2, x3, x4, x5, x6, x7, x8, x9, x10, x11, x12, x13, x14, x15, x16]
            clear x0 x1 x2 x3 x4 x5 x6 x7 x8 x9 x10 x11 x12 x13 x14 x15 x16
            go_simp
            refine hK2 _ _ (hJ _ _ ?_)
            (repeat apply Exists.intro)
            refine ⟨⟨rfl, (Below.refl _ wr).drew.trans hz⟩, rfl⟩
          | false =>
            rw [ho1] at HO hJ
            rw [Bool.false_and] at hJ
            clear ho1
            refine wp_region_growH [15, 16, 17, 18, 19, 20, 21, 22, 23, 24, 25, 26, 27, 28, 29, 30, 31] (by kernel_rfl) (by kernel_rfl) ?_
            refine GCh.val (n := 0) (fun v => [IsV v]) (fun _ => rfl) rfl ?_
            apply Exists.intro
            refine And.intro ?_ ?_
            · intro K' a wy ho hd hb hK
              rw [if_pos (wanted_none rfl)]
              have o0 := ho 0 (by decide)
              simp [slot] at o0
              clear hd ho
              go_simp
              try go_bits
              exact hK _ _ rfl (Below.refl _ _)
            refine GCh.val (n := 1) (fun v => [_, IsV v]) (fun _ => rfl) rfl ?_
            apply Exists.intro
            refine And.intro ?_ ?_
            · intro K' a wy ho hd hb hK
              rw [if_pos (wanted_none rfl)]
              have o8 := ho 8 (by decide)
              simp [slot] at o8
              clear hd ho
              go_simp
              try go_bits
              exact hK _ _ rfl (Below.refl _ _)
            refine GCh.val (n := 2) (fun v => [_, _, IsV v]) (fun _ => rfl) rfl ?_
            apply Exists.intro
            refine And.intro ?_ ?_
            · intro K' a wy ho hd hb hK
              rw [if_pos (wanted_none rfl)]
              have q0 := hd ⟨0, .data⟩ (by simp) rfl
              simp [rAt, IsV, slot] at q0
              have q1 := hd ⟨1, .data⟩ (by simp) rfl
              simp [rAt, IsV, slot] at q1
              clear hd ho
              go_simp
              try go_bits
              exact hK _ _ rfl (Below.refl _ _)
            refine GCh.val (n := 3) (fun v => [_, _, _, IsV v]) (fun _ => rfl) rfl ?_
            apply Exists.intro
            refine And.intro ?_ ?_
            · intro K' a wy ho hd hb hK
              rw [if_pos (wanted_none rfl)]
              have q2 := hd ⟨2, .data⟩ (by simp) rfl
              simp [rAt, IsV, slot] at q2
              clear hd ho
              obtain ⟨c0, c1, c2, c3, c4, c5, c6, c7⟩ := HCI.out wy ((Below.refl _ _).drew.trans hb); obtain ⟨d0, d1, d2, d3, d4, d5, d6, d7⟩ := HCP.out wy ((Below.refl _ _).drew.trans hb)
              go_simp
              try go_bits
              exact hK _ _ rfl (Below.refl _ _)
            refine GCh.val (n := 4) (fun v => [_, _, _, _, IsV v]) (fun _ => rfl) rfl ?_
            apply Exists.intro
            refine And.intro ?_ ?_
            · intro K' a wy ho hd hb hK
              rw [if_pos (wanted_none rfl)]
              have o3 := ho 3 (by decide)
              simp [slot] at o3
              clear hd ho
              obtain ⟨c0, c1, c2, c3, c4, c5, c6, c7⟩ := HCI.out wy ((Below.refl _ _).drew.trans hb); obtain ⟨d0, d1, d2, d3, d4, d5, d6, d7⟩ := HCP.out wy ((Below.refl _ _).drew.trans hb)
              go_simp
              try go_bits
              exact hK _ _ rfl (Below.refl _ _)
            refine GCh.val (n := 5) (fun v => [_, _, _, _, _, IsV v]) (fun _ => rfl) rfl ?_
            apply Exists.intro
            refine And.intro ?_ ?_
            · intro K' a wy ho hd hb hK
              rw [if_pos (wanted_none rfl)]
              have q3 := hd ⟨3, .data⟩ (by simp) rfl
              simp [rAt, IsV, slot] at q3
              have q4 := hd ⟨4, .data⟩ (by simp) rfl
              simp [rAt, IsV, slot] at q4
              clear hd ho
              go_simp
              refine (HO.out wy).mono ?_
              rintro e wz ⟨rfl, hz⟩
              exact hK _ _ rfl hz
            refine GCh.val (n := 6) (fun v => [_, _, _, _, _, _, IsV v]) (fun _ => rfl) rfl ?_
            apply Exists.intro
            refine And.intro ?_ ?_
            · intro K' a wy ho hd hb hK
              rw [if_pos (wanted_none rfl)]
              have q5 := hd ⟨5, .data⟩ (by simp) rfl
              simp [rAt, IsV, slot] at q5
              clear hd ho
              go_simp
              try go_bits
              exact hK _ _ rfl (Below.refl _ _)
            refine GCh.val (n := 7) (fun v => [_, _, _, _, _, _, _, IsV v]) (fun _ => rfl) rfl ?_
            apply Exists.intro
            refine And.intro ?_ ?_
            · intro K' a wy ho hd hb hK
              have hgs : IsV (.bool false) (slot a 21) wy := hd ⟨6, .guard⟩ (by simp) rfl
              rw [wanted_of (j := 6) (d := 21) (b := false) (want := true) (hg := rfl) (ho := rfl) (hd := rfl) (hs := hgs)]
              rw [if_neg (by decide)]
              exact hK undef _ rfl (Below.refl _ _)
            refine GCh.val (n := 8) (fun v => [_, _, _, _, _, _, _, _, IsV v]) (fun _ => rfl) rfl ?_
            apply Exists.intro
            refine And.intro ?_ ?_
            · intro K' a wy ho hd hb hK
              have hgs : IsV (.bool false) (slot a 21) wy := hd ⟨6, .guard⟩ (by simp) rfl
              rw [wanted_of (j := 6) (d := 21) (b := false) (want := true) (hg := rfl) (ho := rfl) (hd := rfl) (hs := hgs)]
              rw [if_neg (by decide)]
              exact hK undef _ rfl (Below.refl _ _)
            refine GCh.val (n := 9) (fun v => [_, _, _, _, _, _, _, _, _, IsV v]) (fun _ => rfl) rfl ?_
            apply Exists.intro
            refine And.intro ?_ ?_
            · intro K' a wy ho hd hb hK
              have hgs : IsV (.bool false) (slot a 21) wy := hd ⟨6, .guard⟩ (by simp) rfl
              rw [wanted_of (j := 6) (d := 21) (b := false) (want := true) (hg := rfl) (ho := rfl) (hd := rfl) (hs := hgs)]
              rw [if_neg (by decide)]
              exact hK undef _ rfl (Below.refl _ _)
            refine GCh.val (n := 10) (fun v => [_, _, _, _, _, _, _, _, _, _, IsV v]) (fun _ => rfl) rfl ?_
            apply Exists.intro
            refine And.intro ?_ ?_
            · intro K' a wy ho hd hb hK
              have hgs : IsV (.bool false) (slot a 21) wy := hd ⟨6, .guard⟩ (by simp) rfl
              rw [wanted_of (j := 6) (d := 21) (b := false) (want := true) (hg := rfl) (ho := rfl) (hd := rfl) (hs := hgs)]
              rw [if_neg (by decide)]
              exact hK undef _ rfl (Below.refl _ _)
            refine GCh.val (n := 11) (fun v => [_, _, _, _, _, _, _, _, _, _, _, IsV v]) (fun _ => rfl) rfl ?_
            apply Exists.intro
            refine And.intro ?_ ?_
            · intro K' a wy ho hd hb hK
              have hgs : IsV (.bool false) (slot a 21) wy := hd ⟨6, .guard⟩ (by simp) rfl
              rw [wanted_of (j := 6) (d := 21) (b := false) (want := true) (hg := rfl) (ho := rfl) (hd := rfl) (hs := hgs)]
              rw [if_neg (by decide)]
              exact hK undef _ rfl (Below.refl _ _)
            refine GCh.val (n := 12) (fun v => [_, _, _, _, _, _, _, _, _, _, _, _, IsV v]) (fun _ => rfl) rfl ?_
            apply Exists.intro
            refine And.intro ?_ ?_
            · intro K' a wy ho hd hb hK
              have hgs : IsV (.bool false) (slot a 21) wy := hd ⟨6, .guard⟩ (by simp) rfl
              rw [wanted_of (j := 6) (d := 21) (b := false) (want := true) (hg := rfl) (ho := rfl) (hd := rfl) (hs := hgs)]
              rw [if_neg (by decide)]
              exact hK undef _ rfl (Below.refl _ _)
            refine GCh.val (n := 13) (fun v => [_, _, _, _, _, _, _, _, _, _, _, _, _, IsV v]) (fun _ => rfl) rfl ?_
            apply Exists.intro
            refine And.intro ?_ ?_
            · intro K' a wy ho hd hb hK
              have hgs : IsV (.bool false) (slot a 21) wy := hd ⟨6, .guard⟩ (by simp) rfl
              rw [wanted_of (j := 6) (d := 21) (b := false) (want := true) (hg := rfl) (ho := rfl) (hd := rfl) (hs := hgs)]
              rw [if_neg (by decide)]
              exact hK undef _ rfl (Below.refl _ _)
            refine GCh.val (n := 14) (fun v => [_, _, _, _, _, _, _, _, _, _, _, _, _, _, IsV v]) (fun _ => rfl) rfl ?_
            apply Exists.intro
            refine And.intro ?_ ?_
            · intro K' a wy ho hd hb hK
              have hgs : IsV (.bool false) (slot a 21) wy := hd ⟨6, .guard⟩ (by simp) rfl
              rw [wanted_of (j := 6) (d := 21) (b := false) (want := true) (hg := rfl) (ho := rfl) (hd := rfl) (hs := hgs)]
              rw [if_neg (by decide)]
              exact hK undef _ rfl (Below.refl _ _)
            refine GCh.val (n := 15) (fun v => [_, _, _, _, _, _, _, _, _, _, _, _, _, _, _, IsV v]) (fun _ => rfl) rfl ?_
            apply Exists.intro
            refine And.intro ?_ ?_
            · intro K' a wy ho hd hb hK
              have hgs : IsV (.bool false) (slot a 21) wy := hd ⟨6, .guard⟩ (by simp) rfl
              rw [wanted_of (j := 6) (d := 21) (b := false) (want := true) (hg := rfl) (ho := rfl) (hd := rfl) (hs := hgs)]
              rw [if_neg (by decide)]
              exact hK undef _ rfl (Below.refl _ _)
            refine GCh.val (n := 16) (fun v => [_, _, _, _, _, _, _, _, _, _, _, _, _, _, _, _, IsV v]) (fun _ => rfl) rfl ?_
            apply Exists.intro
            refine And.intro ?_ ?_
            · intro K' a wy ho hd hb hK
              rw [if_pos (wanted_none rfl)]
              have q6 := hd ⟨6, .data⟩ (by simp) rfl
              simp [rAt, IsV, slot] at q6
              have q15 := hd ⟨15, .data⟩ (by simp) rfl
              simp [rAt, IsV, slot] at q15
              clear hd ho
              go_simp
              try go_bits
              exact hK _ _ rfl (Below.refl _ _)
            intro X wz hR hz
            obtain ⟨x0, x1, x2, x3, x4, x5, x6, x7, x8, x9, x10, x11, x12, x13, x14, x15, x16, -⟩ := hR
            simp only [IsV] at x0 x1 x2 x3 x4 x5 x6 x7 x8 x9 x10 x11 x12 x13 x14 x15 x16
            simp only [putsFrom, x0, x1, x2, x3, x4, x5, x6, x7, x8, x9, x10, x11, x12, x13, x14, x15, x16]
            clear x0 x1 x2 x3 x4 x5 x6 x7 x8 x9 x10 x11 x12 x13 x14 x15 x16
            go_simp
            refine hK2 _ _ (hJ _ _ ?_)
            (repeat apply Exists.intro)
            refine ⟨⟨rfl, (Below.refl _ wr).drew.trans hz⟩, rfl⟩
        case rest =>
        obtain ⟨rfl, hbc⟩ := hcut
        have HL2 : Hid (Below W.heap.size W wc) := HL.out.trans (hbc.mono HL.out.size)
        have hA2 : wc.rangeAt b (off + i * 8) (pcL q) := fun j v hv => ((bcell hbc).1 b _ hbr).trans (HAI.out j v hv)
        have c5 : wc.cell? ⟨b, off + i * 8 + 5, none⟩ = some (.bool q.more) := hA2 5 _ rfl
        have c6 : wc.cell? ⟨b, off + i * 8 + 6, none⟩ = some (.string q.data) := hA2 6 _ rfl
        clear hA2 hbc HAI HCI HCP HO
        cases hit with
        | false =>
          have HN2 : Hid ((xs.take (i + 1)).find? (fun q => onePk q p && decide (8 * q.off = (t.size : Int))) = none) := find_on hlt HN.out (by rw [← HQ.out]; exact HPV.out.trans HB1.out)
          go_wp2_with fail
          go_roundw
          case rel => exact ⟨i + 1, by omega, rfl, rfl, by go_num, HN2.out, HL2.out⟩
          case measure => simp [intOf]; omega
        | true =>
          have HNX : Hid (nextPc xs p t.size = some q) := by
            unfold Hid nextPc
            rw [HQ.out]
            exact find_at hlt HN.out (by rw [← HQ.out]; exact HPV.out.trans HB1.out)
          have hoff : 8 * q.off = (t.size : Int) := by
            have := HB1.out
            rw [Bool.and_eq_true, decide_eq_true_iff] at this
            exact this.2
          obtain ⟨f', rfl⟩ : ∃ f', f = f' + 1 := ⟨f - 1, by omega⟩
          have HST : Hid (ans = if q.more = true then wholeF xs p f' (t ++ q.data) else some (t ++ q.data)) := HA.out.trans (wholeF_some HNX.out)
          have hts : (t ++ q.data).size = t.size + q.data.size := ByteArray.size_append
          have n1 : ¬ 9223372036854775807 < t.size + q.data.size := by omega
          have htz : t.size ≤ 65528 := by omega
          clear HA HN HB1 HNX hoff
          cases hm : q.more with
          | false =>
            rw [hm] at c5
            have HX : Hid (ans = some (t ++ q.data)) := by unfold Hid; rw [HST.out, hm]; rfl
            clear HST
            have HB9 : Hid (Below w.heap.size w wc) := HB0.out.trans (HL2.out.mono HB0.out.size)
            go_wp2_with fail
            go_ret2
            exact ⟨by rw [HX.out]; rfl, HB9.out⟩
          | true =>
            rw [hm] at c5
            have HX : Hid (ans = wholeF xs p f' (t ++ q.data)) := by unfold Hid; rw [HST.out, hm]; rfl
            clear HST
            go_wp2_with fail
            go_roundw
            case rel => exact ⟨t ++ q.data, f', rfl, by omega, HX.out, by omega, HL2.out⟩
            case measure => simp [strOf]; omega
      · have hie : i = xs.length := by omega
        have HX : Hid (ans = none) := by
          have h := HN.out
          rw [hie, List.take_of_length_le (Nat.le_refl _)] at h
          exact HA.out.trans (wholeF_none h)
        have HB9 : Hid (Below w.heap.size w wr) := HB0.out.trans (HL.out.mono HB0.out.size)
        go_wp2_with fail
        go_ret2
        exact ⟨by rw [HX.out]; rfl, HB9.out⟩
end Go.Proofs.Ytofhcplnnamcdab
