/- HeldStr: marks of a slice of texts are held. Out of LawGwM's text (mkgwm.py), for seats without gateways' marks. -/
import Derived.Test.YtmmojboagplopaaGreatDoorLawStrS
import Derived.Test.YtmmojboagplopaaGreatDoorGrowH
namespace Go.Proofs.YtmmojboagplopaaGreatDoor
open Go.RowKit Go.PlainAid Go.ChangeShapes Go.WideShapes
set_option linter.unusedVariables false
set_option linter.unusedSimpArgs false
set_option maxRecDepth 100000 in
set_option maxHeartbeats 2000000 in
theorem heldStringS_any (B L cap k : Nat) (w : World) (hk : 0 < k) (hL : k + 1 * L ≤ 1073741824) (hs : SlLaid strM 1 w B (marksOf 1 k L) L L) :
    Calls Tryz.prog 8 #[.slice (some ⟨B, 0, none⟩) L cap, .int .i64 k] w fun e w' => e = .returned (.int .i64 ((k + 1 * L : Nat) : Int)) ∧ Below w.heap.size w w' := by
  have hblk := hs.blk
  have HS : Hid _ := hs
  clear hs
  go_enter Tryz.func8, Tryz.ntmps8
  go_wp2_with fail
  go_loopw [1, 5] (fun kv i wr => ∃ m : Nat, m ≤ L ∧ i = .int .i64 m ∧ kv = .int .i64 ((k + 1 * m : Nat) : Int) ∧ Below w.heap.size w wr) (fun _ i _ => L - (intOf i).toNat)
  case atStart => exact ⟨0, Nat.zero_le _, rfl, rfl, Below.refl _ _⟩
  case round =>
    obtain ⟨m, hm, rfl, rfl, hbel⟩ := hrel
    have HL : Hid (Below w.heap.size w wr) := hbel
    clear hbel
    by_cases hlt : m < L
    · have hR := (HS.out.kept HL.out).at0 m (by rw [marksOf_length]; exact hlt) hlt
      rw [marksOf_get] at hR
      have hbr : B < wr.heap.size := Nat.lt_of_lt_of_le hblk HL.out.size
      obtain ⟨kk, hkk⟩ : ∃ kk, kk = k + 1 * m := ⟨_, rfl⟩
      have HKK : Hid (kk = k + 1 * m) := hkk
      rw [← hkk] at hR ⊢
      have hk1 : 0 < kk := by omega
      have hk2 : kk + 1 ≤ 1073741824 := by omega
      clear hkk
      have c0 : wr.cell? ⟨B, m * 1, none⟩ = some (.string (markV (kk))) := hR 0 _ rfl
      rw [Nat.mul_one] at c0
      clear hR
      go_upto_region 4 with fail
      go_cut [18] (fun v wx => v = .bool false ∧ Below wr.heap.size wr wx)
      case first =>
        rename_i J K2 hJ hK2
        refine wp_region_growH [12, 13, 14, 15, 16, 17, 18] (by kernel_rfl) (by kernel_rfl) ?_
        refine GCh.val (n := 0) (fun v => [IsV v]) (fun _ => rfl) rfl ?_
        apply Exists.intro
        refine And.intro ?_ ?_
        · intro K' a wy ho hd hb hK
          rw [if_pos (wanted_none rfl)]
          have o0 := ho 0 (by decide)
          simp [slot] at o0
          clear hd ho
          go_simp
          try go_bits
          exact hK _ _ rfl (Below.refl _ _)
        refine GCh.val (n := 1) (fun v => [_, IsV v]) (fun _ => rfl) rfl ?_
        apply Exists.intro
        refine And.intro ?_ ?_
        · intro K' a wy ho hd hb hK
          rw [if_pos (wanted_none rfl)]
          have o5 := ho 5 (by decide)
          simp [slot] at o5
          clear hd ho
          go_simp
          try go_bits
          exact hK _ _ rfl (Below.refl _ _)
        refine GCh.val (n := 2) (fun v => [_, _, IsV v]) (fun _ => rfl) rfl ?_
        apply Exists.intro
        refine And.intro ?_ ?_
        · intro K' a wy ho hd hb hK
          rw [if_pos (wanted_none rfl)]
          have q0 := hd ⟨0, .data⟩ (by simp) rfl
          simp [rAt, IsV, slot] at q0
          have q1 := hd ⟨1, .data⟩ (by simp) rfl
          simp [rAt, IsV, slot] at q1
          clear hd ho
          go_simp
          try go_bits
          exact hK _ _ rfl (Below.refl _ _)
        refine GCh.val (n := 3) (fun v => [_, _, _, IsV v]) (fun _ => rfl) rfl ?_
        apply Exists.intro
        refine And.intro ?_ ?_
        · intro K' a wy ho hd hb hK
          rw [if_pos (wanted_none rfl)]
          have q2 := hd ⟨2, .data⟩ (by simp) rfl
          simp [rAt, IsV, slot] at q2
          clear hd ho
          have hcx := ((bcell (Below.trans (Below.refl _ _).drew hb)).1 B _ hbr).trans c0
          go_simp
          try go_bits
          exact hK _ _ rfl (Below.refl _ _)
        refine GCh.val (n := 4) (fun v => [_, _, _, _, IsV v]) (fun _ => rfl) rfl ?_
        apply Exists.intro
        refine And.intro ?_ ?_
        · intro K' a wy ho hd hb hK
          rw [if_pos (wanted_none rfl)]
          have o1 := ho 1 (by decide)
          simp [slot] at o1
          clear hd ho
          go_simp
          try go_bits
          exact hK _ _ rfl (Below.refl _ _)
        refine GCh.val (n := 5) (fun v => [_, _, _, _, _, IsV v]) (fun _ => rfl) rfl ?_
        apply Exists.intro
        refine And.intro ?_ ?_
        · intro K' a wy ho hd hb hK
          rw [if_pos (wanted_none rfl)]
          have q4 := hd ⟨4, .data⟩ (by simp) rfl
          simp [rAt, IsV, slot] at q4
          clear hd ho
          go_simp
          refine (markText_at _ kk wy (by omega) (by omega) (by omega)).mono ?_
          rintro e wz ⟨rfl, hz⟩
          exact hK _ _ rfl hz
        refine GCh.val (n := 6) (fun v => [_, _, _, _, _, _, IsV v]) (fun _ => rfl) rfl ?_
        apply Exists.intro
        refine And.intro ?_ ?_
        · intro K' a wy ho hd hb hK
          rw [if_pos (wanted_none rfl)]
          have q3 := hd ⟨3, .data⟩ (by simp) rfl
          simp [rAt, IsV, slot] at q3
          have q5 := hd ⟨5, .data⟩ (by simp) rfl
          simp [rAt, IsV, slot] at q5
          clear hd ho
          go_simp
          try go_bits
          exact hK _ _ rfl (Below.refl _ _)
        intro X wz hR hz
        obtain ⟨x0, x1, x2, x3, x4, x5, x6, -⟩ := hR
        simp only [IsV] at x0 x1 x2 x3 x4 x5 x6
        simp only [putsFrom, x0, x1, x2, x3, x4, x5, x6]
        clear x0 x1 x2 x3 x4 x5 x6
        go_simp
        refine hK2 _ _ (hJ _ _ ?_)
        (repeat apply Exists.intro)
        refine ⟨⟨rfl, (Below.refl _ wr).drew.trans hz⟩, rfl⟩
      case rest =>
      obtain ⟨rfl, hb0⟩ := hcut
      generalize wc = wx0 at *
      have HL0 : Hid (Below w.heap.size w wx0) := HL.out.trans (hb0.mono HL.out.size)
      clear hb0 c0
      go_wp2_with fail
      go_roundw
      case rel => exact ⟨m + 1, by omega, by go_num, by have := HKK.out; congr 1; omega, HL0.out⟩
      case measure => simp [intOf]; omega
    · have hml : m = L := by omega
      go_wp2_with fail
      go_ret
      exact ⟨ret_int (by rw [hml]), HL.out⟩
theorem heldStringS_nil (a : Option Addr) (cap k : Nat) (w : World) (hL : k ≤ 1073741824) :
    Calls Tryz.prog 8 #[.slice a 0 cap, .int .i64 k] w fun e w' => e = .returned (.int .i64 (k : Int)) ∧ w' = w := by
  go_enter Tryz.func8, Tryz.ntmps8
  go_wp2_with fail
  go_loopw [1, 5] (fun kv i wr => kv = .int .i64 k ∧ i = .int .i64 0 ∧ wr = w) (fun _ _ _ => 0)
  case atStart => exact ⟨rfl, rfl, rfl⟩
  case round =>
    obtain ⟨rfl, rfl, rfl⟩ := hrel
    go_wp2_with fail
    go_ret
    exact ⟨rfl, rfl⟩
theorem heldStringS_own (base L : Nat) (a : Option Addr) (cap k : Nat) (w : World) (hk : 0 < k) (hL : k + 1 * L ≤ 1073741824) (hs : MkOwn 1 strM base w a k L) :
    Calls Tryz.prog 8 #[.slice a L cap, .int .i64 k] w fun e w' => e = .returned (.int .i64 ((k + 1 * L : Nat) : Int)) ∧ Below w.heap.size w w' := by
  rcases hs with rfl | ⟨g, rfl, hb, hl⟩
  · refine (heldStringS_nil a cap k w (by omega)).mono ?_
    rintro e w' ⟨rfl, rfl⟩
    exact ⟨rfl, Below.refl _ _⟩
  · exact heldStringS_any g L cap k w hk hL hl
end Go.Proofs.YtmmojboagplopaaGreatDoor
