/- PkDb: DrawCarry, DrawFlow, DrawData, DrawV, DrawV4, DrawV6, DrawPk, in one text. -/
import Derived.Test.YtofhcplnnamcdaaPkDa
import Derived.Test.YtofhcplnnamcdaaBits
import Derived.Test.YtofhcplnnamcdaaTwo
import Derived.Test.YtofhcplnnamcdaaSums
import Derived.Test.YtofhcplnnamcdaaSumMath
import Derived.Test.YtofhcplnnamcdaaFlat
import Derived.Test.YtofhcplnnamcdaaGrowX
import Derived.Test.YtofhcplnnamcdaaSV4B
import Derived.RegionTactic
import Derived.Deep.RegionWith
import Derived.Deep.DeepCutAuto
import Derived.Test.YtofhcplnnamcdaaIBox
import Derived.Test.YtofhcplnnamcdaaSV6B
import Derived.Test.YtofhcplnnamcdaaText

/- DrawCarry: what the specification's l05Pair, l05Check, l05Put, l05Pseudo, l05Sum and l05Flow answer, as far as the draws need it. Printed by mkdraw5.py. -/
namespace Go.Proofs.Ytofhcplnnamcdaa
open Go.RowKit Go.PlainAid
set_option linter.unusedVariables false
set_option linter.unusedSimpArgs false

theorem specPair_any (s d : ByteArray) (w : World) (hs : s.size ≤ 1000) (hd : d.size ≤ 1000) :
    Calls Try.prog 138 #[.string s, .string d] w fun e w' => e = .returned (.bool (addrOk s && decide (s.size = d.size))) ∧ w' = w := by
  have HA : Hid (∀ W, Calls Try.prog 31 #[.string s] W fun e w' => e = .returned (.bool (addrOk s)) ∧ w' = W) := fun W => specAddrRight_any s W
  have hun : undef = Value.tuple #[] := rfl
  generalize addrOk s = b at *
  by_cases h : s.size = d.size
  · have dh : ((s.size : Int) == (d.size : Int)) = true := by simp; omega
    rw [decide_eq_true h]
    clear h
    cases b
    all_goals go_enter Try.func138, Try.ntmps138
    all_goals go_wp2_with fail
    all_goals refine (HA.out _).mono ?_
    all_goals rintro e w2 ⟨rfl, rfl⟩
    all_goals go_wp2_with fail
    all_goals go_ret
    all_goals exact ⟨rfl, rfl⟩
  · have dh : ((s.size : Int) == (d.size : Int)) = false := by simp; omega
    rw [decide_eq_false h]
    cases b
    all_goals go_enter Try.func138, Try.ntmps138
    all_goals go_wp2_with fail
    all_goals refine (HA.out _).mono ?_
    all_goals rintro e w2 ⟨rfl, rfl⟩
    all_goals go_wp2_with fail
    all_goals go_ret
    all_goals exact ⟨rfl, rfl⟩

def checkAt (p : Int) : Nat := if p = 6 then 16 else if p = 17 then 6 else 2
theorem specCheck_any (p : Int) (w : World) :
    Calls Try.prog 141 #[.int .i64 p] w fun e w' => e = .returned (.int .i64 (checkAt p : Nat)) ∧ w' = w := by
  by_cases h1 : p = 6
  · subst h1
    go_enter Try.func141, Try.ntmps141
    go_wp2_with fail
    go_ret
    exact ⟨rfl, rfl⟩
  · have d1 : (p == 6) = false := by simp [h1]
    by_cases h2 : p = 17
    · subst h2
      go_enter Try.func141, Try.ntmps141
      go_wp2_with fail
      go_ret
      exact ⟨rfl, rfl⟩
    · have d2 : (p == 17) = false := by simp [h2]
      have HV : Hid (checkAt p = 2) := by unfold Hid checkAt; rw [if_neg h1, if_neg h2]
      generalize checkAt p = ans at *
      go_enter Try.func141, Try.ntmps141
      go_wp2_with fail
      go_ret
      exact ⟨ret_int (by rw [HV.out]; rfl), rfl⟩

set_option maxHeartbeats 1000000 in
theorem specPut_any (s : ByteArray) (k : Nat) (t : ByteArray) (w : World) (h : k + t.size ≤ s.size) (hs : s.size ≤ 100000) :
    Calls Try.prog 140 #[.string s, .int .i64 k, .string t] w fun e w' => ∃ u : ByteArray, e = .returned (.string u) ∧ u.size = s.size ∧ Below w.heap.size w w' := by
  have L1 : ∀ W, (Instr.slice 9 (.string s) none (some (.int .i64 k)) none).run Try.prog W = .ok (.string (s.extract 0 k)) W := fun W => by
    rw [run_slice_string_h (P := Try.prog) (t := 9) (s := s) (w := W) (ht := Try.underlying9) .i64 (k : Int) (by omega) (by omega), show ((k : Int)).toNat = k by omega]
  have L2 : ∀ W, (Instr.slice 9 (.string s) (some (.int .i64 ((k : Int) + t.size))) none none).run Try.prog W = .ok (.string (s.extract (k + t.size) s.size)) W := fun W => by
    rw [run_slice_string_l (P := Try.prog) (t := 9) (s := s) (w := W) (ht := Try.underlying9) .i64 ((k : Int) + t.size) (by omega) (by omega), show ((k : Int) + t.size).toNat = k + t.size by omega]
  have z1 : (s.extract 0 k).size = k := by rw [ByteArray.size_extract]; omega
  have z2 : (s.extract (k + t.size) s.size).size = s.size - (k + t.size) := by rw [ByteArray.size_extract]; omega
  have HZ : Hid ((s.extract 0 k ++ t ++ s.extract (k + t.size) s.size).size = s.size) := by unfold Hid; simp only [ByteArray.size_append]; omega
  generalize s.extract 0 k = u1 at *
  generalize s.extract (k + t.size) s.size = u2 at *
  have n1 : ¬ 9223372036854775807 < u1.size + t.size := by omega
  have n2 : ¬ 9223372036854775807 < u1.size + t.size + u2.size := by omega
  have hw : IntKind.i64.wrap ((k : Int) + t.size) = (k : Int) + t.size := by rw [IntKind.wrap_i64]; omega
  have HZ1 : Hid (u1.size = k) := z1
  have HZ2 : Hid (u2.size = s.size - (k + t.size)) := z2
  clear z1 z2
  go_enter Try.func140, Try.ntmps140
  go_wp2_with fail
  go_region
  all_goals go_wp2_with fail
  all_goals go_ret
  all_goals exact ⟨_, rfl, HZ.out, (Below.refl _ _).drew⟩

/-- Four bytes, the two in the middle 0. -/
def quadV (x y : Int) : ByteArray := ⟨#[UInt8.ofNat x.toNat, 0, 0, UInt8.ofNat y.toNat]⟩
theorem quadV_size (x y : Int) : (quadV x y).size = 4 := rfl
def IsQuad (x y : Int) : Value → World → Prop := fun v w => ∃ b, v = .slice (some ⟨b, 0, none⟩) 4 4 ∧ w.cell? ⟨b, 0, none⟩ = some (.int .u8 x) ∧ w.cell? ⟨b, 1, none⟩ = some (.int .u8 0) ∧ w.cell? ⟨b, 2, none⟩ = some (.int .u8 0) ∧ w.cell? ⟨b, 3, none⟩ = some (.int .u8 y)
theorem stable_isQuad (x y : Int) : Stable (IsQuad x y) := fun v w w' ⟨b, h1, h2, h3, h4, h5⟩ hb => by
  have hlt := World.block_lt_of_cell? w _ h2
  exact ⟨b, h1, ((bcell hb).1 b 0 hlt).trans h2, ((bcell hb).1 b 1 hlt).trans h3, ((bcell hb).1 b 2 hlt).trans h4, ((bcell hb).1 b 3 hlt).trans h5⟩
theorem quad_conv {w : World} {b cap : Nat} {x y : Int} (hx : 0 ≤ x ∧ x ≤ 255) (hy : 0 ≤ y ∧ y ≤ 255) (h0 : w.cell? ⟨b, 0, none⟩ = some (.int .u8 x)) (h1 : w.cell? ⟨b, 1, none⟩ = some (.int .u8 0)) (h2 : w.cell? ⟨b, 2, none⟩ = some (.int .u8 0)) (h3 : w.cell? ⟨b, 3, none⟩ = some (.int .u8 y)) :
    (convert 22 9 (.slice (some ⟨b, 0, none⟩) 4 cap)).run Try.prog w = .ok (.string (quadV x y)) w :=
  run_convert_bytes_back (P := Try.prog) w 22 9 5 ⟨b, 0, none⟩ cap [UInt8.ofNat x.toNat, 0, 0, UInt8.ofNat y.toNat] Try.underlying22 Try.underlying5 Try.underlying9 (by
    intro j hj
    match j, hj with
    | 0, _ => simp only [Addr.add, Nat.add_zero, List.getElem_cons_zero]; rw [u8_ofNat _ hx.1 hx.2]; exact h0
    | 1, _ => simp only [Addr.add, Nat.zero_add, List.getElem_cons_succ, List.getElem_cons_zero]; exact h1
    | 2, _ => simp only [Addr.add, Nat.zero_add, List.getElem_cons_succ, List.getElem_cons_zero]; exact h2
    | 3, _ => simp only [Addr.add, Nat.zero_add, List.getElem_cons_succ, List.getElem_cons_zero]; rw [u8_ofNat _ hy.1 hy.2]; exact h3)

set_option maxRecDepth 100000 in
set_option maxHeartbeats 1000000 in
theorem specPseudo_any (s d : ByteArray) (p : Int) (n : Nat) (w : World) (hs : s.size ≤ 16) (hd : d.size ≤ 16) (hp : 0 ≤ p ∧ p ≤ 255) (hn : n ≤ 65535) :
    Calls Try.prog 154 #[.string s, .string d, .int .i64 p, .int .i64 n] w fun e w' => ∃ u : ByteArray, e = .returned (.string u) ∧ u.size ≤ 60 ∧ Below w.heap.size w w' := by
  have hun : undef = Value.tuple #[] := rfl
  have n1 : ¬ 9223372036854775807 < s.size + d.size := by omega
  have z1 := pairV_size 0 p
  have z2 := twoV_size (n : Int)
  by_cases h1 : p = 1 ∧ s.size = 4
  · obtain ⟨rfl, h4⟩ := h1
    have d4 : ((s.size : Int) == 4) = true := by simp; omega
    clear h4
    go_enter Try.func154, Try.ntmps154
    go_wp2_with fail
    go_ret
    exact ⟨_, rfl, by decide, Below.refl _ _⟩
  by_cases h4 : s.size = 4
  · have d4 : ((s.size : Int) == 4) = true := by simp; omega
    have d1 : (p == 1) = false := by simp; exact fun e => h1 ⟨e, h4⟩
    clear h1 h4
    have n2 : ¬ 9223372036854775807 < s.size + d.size + (pairV 0 p).size := by omega
    have n3 : ¬ 9223372036854775807 < s.size + d.size + (pairV 0 p).size + (twoV (n : Int)).size := by omega
    have n2b : ¬ 9223372036854775807 < s.size + d.size + 2 := by omega
    have n3b : ¬ 9223372036854775807 < s.size + d.size + 2 + 2 := by omega
    have HZ : Hid ((s ++ d ++ pairV 0 p ++ twoV (n : Int)).size ≤ 60) := by unfold Hid; simp only [ByteArray.size_append]; omega
    go_enter Try.func154, Try.ntmps154
    go_upto_region 4 with fail
    go_cut [8] (fun v wx => (∃ u : ByteArray, v = .string u ∧ u.size ≤ 60) ∧ Below w.heap.size w wx)
    case first =>
      rename_i J K2 hJ hK2
      clear hun
      refine wp_region_growL (Rs := [IsV (.string s), IsV (.string d), IsV (.string (s ++ d)), IsV (.int .i64 p), IsV (.int .u8 p), IsRow (0) (p), IsV (.string (pairV 0 p)), IsV (.string (s ++ d ++ pairV 0 p)), IsV (.int .i64 (n : Int)), IsV (.string (twoV (n : Int))), IsV (.string (s ++ d ++ pairV 0 p ++ twoV (n : Int))), IsV (.string (s ++ d ++ pairV 0 p ++ twoV (n : Int)))]) [19, 20, 21, 22, 23, 24, 25, 26, 27, 28, 29, 8] (by kernel_rfl) (by kernel_rfl) rfl ?st ?steps ?done
      case st => simp [stable_isV, stable_isRow]
      case steps =>
        refine ⟨?s0, ?s1, ?s2, ?s3, ?s4, ?s5, ?s6, ?s7, ?s8, ?s9, ?s10, ?s11, trivial⟩
        case s0 =>
          intro K' a wy ho hd hb hK
          have h3 := ho 0 (by decide)
          simp [slot] at h3
          clear hd
          go_simp
          try go_bits
          exact hK _ _ rfl (Below.refl _ _)
        case s1 =>
          intro K' a wy ho hd hb hK
          have h3 := ho 1 (by decide)
          simp [slot] at h3
          clear hd
          go_simp
          try go_bits
          exact hK _ _ rfl (Below.refl _ _)
        case s2 =>
          intro K' a wy ho hd hb hK
          simp [Region.binds, rAt, IsV, slot] at hd
          go_simp
          try go_bits
          exact hK _ _ rfl (Below.refl _ _)
        case s3 =>
          intro K' a wy ho hd hb hK
          have h3 := ho 2 (by decide)
          simp [slot] at h3
          clear hd
          go_simp
          try go_bits
          exact hK _ _ rfl (Below.refl _ _)
        case s4 =>
          intro K' a wy ho hd hb hK
          simp [Region.binds, rAt, IsV, slot] at hd
          go_simp
          try go_bits
          exact hK _ _ rfl (Below.refl _ _)
        case s5 =>
          intro K' a wy ho hd hb hK
          simp [Region.binds, rAt, IsV, slot] at hd
          go_simp
          exact hK _ _ ⟨wy.heap.size, rfl, by simp, by simp⟩ ((Below.refl _ _).alloc (Nat.le_refl _) _)
        case s6 =>
          intro K' a wy ho hd hb hK
          simp only [List.forall_mem_singleton, Array.mem_def, List.mem_singleton, forall_eq] at hd
          obtain ⟨b, hd1, hd2, hd3⟩ : IsRow (0) (p) (slot a 24) wy := hd rfl
          have hcv := pair_conv (cap := 2) (by omega) (by omega) hd2 hd3
          simp [slot] at hd1
          go_simp
          try go_bits
          exact hK _ _ rfl (Below.refl _ _)
        case s7 =>
          intro K' a wy ho hd hb hK
          simp [Region.binds, rAt, IsV, slot] at hd
          go_simp
          try go_bits
          exact hK _ _ rfl (Below.refl _ _)
        case s8 =>
          intro K' a wy ho hd hb hK
          have h3 := ho 3 (by decide)
          simp [slot] at h3
          clear hd
          go_simp
          try go_bits
          exact hK _ _ rfl (Below.refl _ _)
        case s9 =>
          intro K' a wy ho hd hb hK
          simp [Region.binds, rAt, IsV, slot] at hd
          go_simp
          refine (specTwo_any (n : Int) wy (by omega) (by omega)).mono ?_
          rintro e wz ⟨rfl, hz⟩
          exact hK _ _ rfl hz
        case s10 =>
          intro K' a wy ho hd hb hK
          simp [Region.binds, rAt, IsV, slot] at hd
          go_simp
          try go_bits
          exact hK _ _ rfl (Below.refl _ _)
        case s11 =>
          intro K' a wy ho hd hb hK
          simp [Region.binds, rAt, IsV, slot] at hd
          go_simp
          try go_bits
          exact hK _ _ rfl (Below.refl _ _)
      case done =>
        intro X wz hR hz
        obtain ⟨x0, x1, x2, x3, x4, ⟨b5, x5, -, -⟩, x6, x7, x8, x9, x10, x11, -⟩ := hR
        simp only [IsV] at x0 x1 x2 x3 x4 x6 x7 x8 x9 x10 x11
        simp only [putsFrom, x0, x1, x2, x3, x4, x5, x6, x7, x8, x9, x10, x11]
        clear x0 x1 x2 x3 x4 x5 x6 x7 x8 x9 x10 x11
        go_simp
        refine hK2 _ _ (hJ _ _ ?_)
        (repeat apply Exists.intro)
        refine ⟨⟨⟨_, rfl, HZ.out⟩, (Below.refl _ w).drew.trans hz⟩, rfl⟩
    case rest =>
    obtain ⟨⟨u, rfl, hu⟩, hb⟩ := hcut
    go_wp2_with fail
    go_ret
    exact ⟨u, rfl, hu, hb⟩
  · have d4 : ((s.size : Int) == 4) = false := by simp; omega
    clear h1
    have a1 := and_65535 (n : Int)
    have n2 : ¬ 9223372036854775807 < s.size + d.size + (twoV ((n : Int) / 65536)).size := by rw [twoV_size]; omega
    have n3 : ¬ 9223372036854775807 < s.size + d.size + (twoV ((n : Int) / 65536)).size + (twoV ((n : Int) % 65536)).size := by rw [twoV_size, twoV_size]; omega
    have n4 : ¬ 9223372036854775807 < s.size + d.size + (twoV ((n : Int) / 65536)).size + (twoV ((n : Int) % 65536)).size + (quadV 0 p).size := by rw [twoV_size, twoV_size, quadV_size]; omega
    have HZ : Hid ((s ++ d ++ twoV ((n : Int) / 65536) ++ twoV ((n : Int) % 65536) ++ quadV 0 p).size ≤ 60) := by unfold Hid; simp only [ByteArray.size_append, twoV_size, quadV_size]; omega
    by_cases dp : p = 1
    · have d1 : (p == 1) = true := by simp [dp]
      clear dp
      go_enter Try.func154, Try.ntmps154
      go_upto_region 5 with fail
      go_cut [8] (fun v wx => (∃ u : ByteArray, v = .string u ∧ u.size ≤ 60) ∧ Below w.heap.size w wx)
      case first =>
        rename_i J K2 hJ hK2
        clear hun
        refine wp_region_growL (Rs := [IsV (.string s), IsV (.string d), IsV (.string (s ++ d)), IsV (.int .i64 (n : Int)), IsV (.int .i64 ((n : Int) / 65536)), IsV (.string (twoV ((n : Int) / 65536))), IsV (.string (s ++ d ++ twoV ((n : Int) / 65536))), IsV (.int .i64 (n : Int)), IsV (.int .i64 ((n : Int) % 65536)), IsV (.string (twoV ((n : Int) % 65536))), IsV (.string (s ++ d ++ twoV ((n : Int) / 65536) ++ twoV ((n : Int) % 65536))), IsV (.int .i64 p), IsV (.int .u8 p), IsQuad (0) (p), IsV (.string (quadV 0 p)), IsV (.string (s ++ d ++ twoV ((n : Int) / 65536) ++ twoV ((n : Int) % 65536) ++ quadV 0 p)), IsV (.string (s ++ d ++ twoV ((n : Int) / 65536) ++ twoV ((n : Int) % 65536) ++ quadV 0 p))]) [30, 31, 32, 33, 34, 35, 36, 37, 38, 39, 40, 41, 42, 43, 44, 45, 8] (by kernel_rfl) (by kernel_rfl) rfl ?st ?steps ?done
        case st => simp [stable_isV, stable_isQuad]
        case steps =>
          refine ⟨?s0, ?s1, ?s2, ?s3, ?s4, ?s5, ?s6, ?s7, ?s8, ?s9, ?s10, ?s11, ?s12, ?s13, ?s14, ?s15, ?s16, trivial⟩
          case s0 =>
            intro K' a wy ho hd hb hK
            have h3 := ho 0 (by decide)
            simp [slot] at h3
            clear hd
            go_simp
            try go_bits
            exact hK _ _ rfl (Below.refl _ _)
          case s1 =>
            intro K' a wy ho hd hb hK
            have h3 := ho 1 (by decide)
            simp [slot] at h3
            clear hd
            go_simp
            try go_bits
            exact hK _ _ rfl (Below.refl _ _)
          case s2 =>
            intro K' a wy ho hd hb hK
            simp [Region.binds, rAt, IsV, slot] at hd
            go_simp
            try go_bits
            exact hK _ _ rfl (Below.refl _ _)
          case s3 =>
            intro K' a wy ho hd hb hK
            have h3 := ho 3 (by decide)
            simp [slot] at h3
            clear hd
            go_simp
            try go_bits
            exact hK _ _ rfl (Below.refl _ _)
          case s4 =>
            intro K' a wy ho hd hb hK
            simp [Region.binds, rAt, IsV, slot] at hd
            go_simp
            try go_bits
            exact hK _ _ rfl (Below.refl _ _)
          case s5 =>
            intro K' a wy ho hd hb hK
            simp [Region.binds, rAt, IsV, slot] at hd
            go_simp
            refine (specTwo_any ((n : Int) / 65536) wy (by omega) (by omega)).mono ?_
            rintro e wz ⟨rfl, hz⟩
            exact hK _ _ rfl hz
          case s6 =>
            intro K' a wy ho hd hb hK
            simp [Region.binds, rAt, IsV, slot] at hd
            go_simp
            try go_bits
            exact hK _ _ rfl (Below.refl _ _)
          case s7 =>
            intro K' a wy ho hd hb hK
            have h3 := ho 3 (by decide)
            simp [slot] at h3
            clear hd
            go_simp
            try go_bits
            exact hK _ _ rfl (Below.refl _ _)
          case s8 =>
            intro K' a wy ho hd hb hK
            simp [Region.binds, rAt, IsV, slot] at hd
            go_simp
            try go_bits
            exact hK _ _ rfl (Below.refl _ _)
          case s9 =>
            intro K' a wy ho hd hb hK
            simp [Region.binds, rAt, IsV, slot] at hd
            go_simp
            refine (specTwo_any ((n : Int) % 65536) wy (by omega) (by omega)).mono ?_
            rintro e wz ⟨rfl, hz⟩
            exact hK _ _ rfl hz
          case s10 =>
            intro K' a wy ho hd hb hK
            simp [Region.binds, rAt, IsV, slot] at hd
            go_simp
            try go_bits
            exact hK _ _ rfl (Below.refl _ _)
          case s11 =>
            intro K' a wy ho hd hb hK
            have h3 := ho 2 (by decide)
            simp [slot] at h3
            clear hd
            go_simp
            try go_bits
            exact hK _ _ rfl (Below.refl _ _)
          case s12 =>
            intro K' a wy ho hd hb hK
            simp [Region.binds, rAt, IsV, slot] at hd
            go_simp
            try go_bits
            exact hK _ _ rfl (Below.refl _ _)
          case s13 =>
            intro K' a wy ho hd hb hK
            simp [Region.binds, rAt, IsV, slot] at hd
            go_simp
            exact hK _ _ ⟨wy.heap.size, rfl, by simp, by simp, by simp, by simp⟩ ((Below.refl _ _).alloc (Nat.le_refl _) _)
          case s14 =>
            intro K' a wy ho hd hb hK
            simp only [List.forall_mem_singleton, Array.mem_def, List.mem_singleton, forall_eq] at hd
            obtain ⟨b, hd1, hd2, hd3, hd4, hd5⟩ : IsQuad (0) (p) (slot a 43) wy := hd rfl
            have hcv := quad_conv (cap := 4) (by omega) (by omega) hd2 hd3 hd4 hd5
            simp [slot] at hd1
            go_simp
            try go_bits
            exact hK _ _ rfl (Below.refl _ _)
          case s15 =>
            intro K' a wy ho hd hb hK
            simp [Region.binds, rAt, IsV, slot] at hd
            go_simp
            try go_bits
            exact hK _ _ rfl (Below.refl _ _)
          case s16 =>
            intro K' a wy ho hd hb hK
            simp [Region.binds, rAt, IsV, slot] at hd
            go_simp
            try go_bits
            exact hK _ _ rfl (Below.refl _ _)
        case done =>
          intro X wz hR hz
          obtain ⟨x0, x1, x2, x3, x4, x5, x6, x7, x8, x9, x10, x11, x12, ⟨b13, x13, -, -, -, -⟩, x14, x15, x16, -⟩ := hR
          simp only [IsV] at x0 x1 x2 x3 x4 x5 x6 x7 x8 x9 x10 x11 x12 x14 x15 x16
          simp only [putsFrom, x0, x1, x2, x3, x4, x5, x6, x7, x8, x9, x10, x11, x12, x13, x14, x15, x16]
          clear x0 x1 x2 x3 x4 x5 x6 x7 x8 x9 x10 x11 x12 x13 x14 x15 x16
          go_simp
          refine hK2 _ _ (hJ _ _ ?_)
          (repeat apply Exists.intro)
          refine ⟨⟨⟨_, rfl, HZ.out⟩, (Below.refl _ w).drew.trans hz⟩, rfl⟩
      case rest =>
      obtain ⟨⟨u, rfl, hu⟩, hb⟩ := hcut
      go_wp2_with fail
      go_ret
      exact ⟨u, rfl, hu, hb⟩
    · have d1 : (p == 1) = false := by simp [dp]
      go_enter Try.func154, Try.ntmps154
      go_upto_region 5 with fail
      go_cut [8] (fun v wx => (∃ u : ByteArray, v = .string u ∧ u.size ≤ 60) ∧ Below w.heap.size w wx)
      case first =>
        rename_i J K2 hJ hK2
        clear hun
        refine wp_region_growL (Rs := [IsV (.string s), IsV (.string d), IsV (.string (s ++ d)), IsV (.int .i64 (n : Int)), IsV (.int .i64 ((n : Int) / 65536)), IsV (.string (twoV ((n : Int) / 65536))), IsV (.string (s ++ d ++ twoV ((n : Int) / 65536))), IsV (.int .i64 (n : Int)), IsV (.int .i64 ((n : Int) % 65536)), IsV (.string (twoV ((n : Int) % 65536))), IsV (.string (s ++ d ++ twoV ((n : Int) / 65536) ++ twoV ((n : Int) % 65536))), IsV (.int .i64 p), IsV (.int .u8 p), IsQuad (0) (p), IsV (.string (quadV 0 p)), IsV (.string (s ++ d ++ twoV ((n : Int) / 65536) ++ twoV ((n : Int) % 65536) ++ quadV 0 p)), IsV (.string (s ++ d ++ twoV ((n : Int) / 65536) ++ twoV ((n : Int) % 65536) ++ quadV 0 p))]) [30, 31, 32, 33, 34, 35, 36, 37, 38, 39, 40, 41, 42, 43, 44, 45, 8] (by kernel_rfl) (by kernel_rfl) rfl ?st ?steps ?done
        case st => simp [stable_isV, stable_isQuad]
        case steps =>
          refine ⟨?s0, ?s1, ?s2, ?s3, ?s4, ?s5, ?s6, ?s7, ?s8, ?s9, ?s10, ?s11, ?s12, ?s13, ?s14, ?s15, ?s16, trivial⟩
          case s0 =>
            intro K' a wy ho hd hb hK
            have h3 := ho 0 (by decide)
            simp [slot] at h3
            clear hd
            go_simp
            try go_bits
            exact hK _ _ rfl (Below.refl _ _)
          case s1 =>
            intro K' a wy ho hd hb hK
            have h3 := ho 1 (by decide)
            simp [slot] at h3
            clear hd
            go_simp
            try go_bits
            exact hK _ _ rfl (Below.refl _ _)
          case s2 =>
            intro K' a wy ho hd hb hK
            simp [Region.binds, rAt, IsV, slot] at hd
            go_simp
            try go_bits
            exact hK _ _ rfl (Below.refl _ _)
          case s3 =>
            intro K' a wy ho hd hb hK
            have h3 := ho 3 (by decide)
            simp [slot] at h3
            clear hd
            go_simp
            try go_bits
            exact hK _ _ rfl (Below.refl _ _)
          case s4 =>
            intro K' a wy ho hd hb hK
            simp [Region.binds, rAt, IsV, slot] at hd
            go_simp
            try go_bits
            exact hK _ _ rfl (Below.refl _ _)
          case s5 =>
            intro K' a wy ho hd hb hK
            simp [Region.binds, rAt, IsV, slot] at hd
            go_simp
            refine (specTwo_any ((n : Int) / 65536) wy (by omega) (by omega)).mono ?_
            rintro e wz ⟨rfl, hz⟩
            exact hK _ _ rfl hz
          case s6 =>
            intro K' a wy ho hd hb hK
            simp [Region.binds, rAt, IsV, slot] at hd
            go_simp
            try go_bits
            exact hK _ _ rfl (Below.refl _ _)
          case s7 =>
            intro K' a wy ho hd hb hK
            have h3 := ho 3 (by decide)
            simp [slot] at h3
            clear hd
            go_simp
            try go_bits
            exact hK _ _ rfl (Below.refl _ _)
          case s8 =>
            intro K' a wy ho hd hb hK
            simp [Region.binds, rAt, IsV, slot] at hd
            go_simp
            try go_bits
            exact hK _ _ rfl (Below.refl _ _)
          case s9 =>
            intro K' a wy ho hd hb hK
            simp [Region.binds, rAt, IsV, slot] at hd
            go_simp
            refine (specTwo_any ((n : Int) % 65536) wy (by omega) (by omega)).mono ?_
            rintro e wz ⟨rfl, hz⟩
            exact hK _ _ rfl hz
          case s10 =>
            intro K' a wy ho hd hb hK
            simp [Region.binds, rAt, IsV, slot] at hd
            go_simp
            try go_bits
            exact hK _ _ rfl (Below.refl _ _)
          case s11 =>
            intro K' a wy ho hd hb hK
            have h3 := ho 2 (by decide)
            simp [slot] at h3
            clear hd
            go_simp
            try go_bits
            exact hK _ _ rfl (Below.refl _ _)
          case s12 =>
            intro K' a wy ho hd hb hK
            simp [Region.binds, rAt, IsV, slot] at hd
            go_simp
            try go_bits
            exact hK _ _ rfl (Below.refl _ _)
          case s13 =>
            intro K' a wy ho hd hb hK
            simp [Region.binds, rAt, IsV, slot] at hd
            go_simp
            exact hK _ _ ⟨wy.heap.size, rfl, by simp, by simp, by simp, by simp⟩ ((Below.refl _ _).alloc (Nat.le_refl _) _)
          case s14 =>
            intro K' a wy ho hd hb hK
            simp only [List.forall_mem_singleton, Array.mem_def, List.mem_singleton, forall_eq] at hd
            obtain ⟨b, hd1, hd2, hd3, hd4, hd5⟩ : IsQuad (0) (p) (slot a 43) wy := hd rfl
            have hcv := quad_conv (cap := 4) (by omega) (by omega) hd2 hd3 hd4 hd5
            simp [slot] at hd1
            go_simp
            try go_bits
            exact hK _ _ rfl (Below.refl _ _)
          case s15 =>
            intro K' a wy ho hd hb hK
            simp [Region.binds, rAt, IsV, slot] at hd
            go_simp
            try go_bits
            exact hK _ _ rfl (Below.refl _ _)
          case s16 =>
            intro K' a wy ho hd hb hK
            simp [Region.binds, rAt, IsV, slot] at hd
            go_simp
            try go_bits
            exact hK _ _ rfl (Below.refl _ _)
        case done =>
          intro X wz hR hz
          obtain ⟨x0, x1, x2, x3, x4, x5, x6, x7, x8, x9, x10, x11, x12, ⟨b13, x13, -, -, -, -⟩, x14, x15, x16, -⟩ := hR
          simp only [IsV] at x0 x1 x2 x3 x4 x5 x6 x7 x8 x9 x10 x11 x12 x14 x15 x16
          simp only [putsFrom, x0, x1, x2, x3, x4, x5, x6, x7, x8, x9, x10, x11, x12, x13, x14, x15, x16]
          clear x0 x1 x2 x3 x4 x5 x6 x7 x8 x9 x10 x11 x12 x13 x14 x15 x16
          go_simp
          refine hK2 _ _ (hJ _ _ ?_)
          (repeat apply Exists.intro)
          refine ⟨⟨⟨_, rfl, HZ.out⟩, (Below.refl _ w).drew.trans hz⟩, rfl⟩
      case rest =>
      obtain ⟨⟨u, rfl, hu⟩, hb⟩ := hcut
      go_wp2_with fail
      go_ret
      exact ⟨u, rfl, hu, hb⟩

set_option maxHeartbeats 1000000 in
theorem specCSum_any (s d : ByteArray) (p : Int) (t : ByteArray) (w : World) (hs : s.size ≤ 16) (hd : d.size ≤ 16) (hp : 0 ≤ p ∧ p ≤ 255) (ht : t.size ≤ 65535) :
    Calls Try.prog 139 #[.string s, .string d, .int .i64 p, .string t] w fun e w' => ∃ r, e = .returned (.int .i64 r) ∧ 0 ≤ r ∧ r ≤ 65535 ∧ Below w.heap.size w w' := by
  have HP : Hid (∀ W, Calls Try.prog 154 #[.string s, .string d, .int .i64 p, .int .i64 t.size] W fun e w' => ∃ u : ByteArray, e = .returned (.string u) ∧ u.size ≤ 60 ∧ Below W.heap.size W w') := fun W => specPseudo_any s d p t.size W hs hd hp ht
  go_enter Try.func139, Try.ntmps139
  go_wp2_with fail
  refine (HP.out _).mono ?_
  rintro e w1 ⟨u, rfl, hu, hb⟩
  have n1 : ¬ 9223372036854775807 < u.size + t.size := by omega
  have HB : Hid (Below w.heap.size w w1) := hb
  clear hb
  go_wp2_with fail
  refine (specSum1_any (u ++ t) _ (by rw [ByteArray.size_append]; omega)).mono ?_
  rintro e w2 ⟨rfl, rfl⟩
  have hr := sumV_range (u ++ t)
  go_wp2_with fail
  go_ret
  exact ⟨_, rfl, hr.1, hr.2, HB.out⟩
end Go.Proofs.Ytofhcplnnamcdaa

/- DrawFlow: what the specification's l05Flow answers, as far as the draws need it. Printed by mkdrawflow.py. -/
namespace Go.Proofs.Ytofhcplnnamcdaa
open Go.RowKit Go.PlainAid
set_option linter.unusedVariables false
set_option linter.unusedSimpArgs false

/-- What a draw keeps. -/
def EB (B : Nat) (w w' : World) : Prop := w.grownBy w' (some B)
theorem EB.cell {B : Nat} {w w' : World} (h : EB B w w') {b o : Nat} {v : Value} (hc : w.cell? ⟨b, o, none⟩ = some v) (hb : b ≠ B) : w'.cell? ⟨b, o, none⟩ = some v := World.grownBy.cell h hc (by simp; exact hb)
theorem EB.of {B : Nat} {w w' : World} (h : Below w.heap.size w w') : EB B w w' := grown_of_below h
theorem pick_cell {w w1 : World} {B k : Nat} {cs : List Value} {t : TypeId} {p : Value → Prop} (hg : (w.alloc (.cells cs.toArray t)).grownBy w1 (some B)) (hB : B < w.heap.size) (hk : k < cs.length) (hp : ∀ v ∈ cs, p v) : ∃ v, w1.cell? ⟨w.heap.size, k, none⟩ = some v ∧ p v :=
  ⟨cs[k], hg.cell (cell_new (by simp [hk])) (by simp; omega), hp _ (List.getElem_mem hk)⟩

def XV (x : Value) : Value → World → Prop := fun v _ => v = x
def XR (lo hi : Int) : Value → World → Prop := fun v _ => ∃ r, v = .int .i64 r ∧ lo ≤ r ∧ r ≤ hi
def XInts (B n : Nat) (lo hi : Int) : Value → World → Prop := fun v w => ∃ b, v = .slice (some ⟨b, 0, none⟩) n n ∧ b ≠ B ∧ ∀ k, k < n → ∃ x, w.cell? ⟨b, k, none⟩ = some (.int .i64 x) ∧ lo ≤ x ∧ x ≤ hi
def XCell (B : Nat) (lo hi : Int) : Value → World → Prop := fun v w => ∃ b k x, v = .pointer (some ⟨b, k, none⟩) ∧ b ≠ B ∧ w.cell? ⟨b, k, none⟩ = some (.int .i64 x) ∧ lo ≤ x ∧ x ≤ hi
theorem st_XV (B : Nat) (x : Value) : StableX (EB B) (XV x) := fun _ _ _ h _ => h
theorem st_XR (B : Nat) (lo hi : Int) : StableX (EB B) (XR lo hi) := fun _ _ _ h _ => h
theorem st_XInts (B n : Nat) (lo hi : Int) : StableX (EB B) (XInts B n lo hi) := fun v w w' ⟨b, h1, h2, h3⟩ he => ⟨b, h1, h2, fun k hk => by obtain ⟨x, hx, hr⟩ := h3 k hk; exact ⟨x, he.cell hx h2, hr⟩⟩
theorem st_XCell (B : Nat) (lo hi : Int) : StableX (EB B) (XCell B lo hi) := fun v w w' ⟨b, k, x, h1, h2, h3, h4⟩ he => ⟨b, k, x, h1, h2, he.cell h3 h2, h4⟩

/-- A flow's value. -/
def flC (p : Int) (s d : ByteArray) (x y : Int) : Value := .agg #[.int .i64 p, .string s, .string d, .int .i64 x, .int .i64 y]
def XFlow (s d : ByteArray) : Value → World → Prop := fun v _ => ∃ p x y, v = flC p s d x y ∧ (0 ≤ p ∧ p ≤ 255) ∧ (0 ≤ x ∧ x ≤ 65535) ∧ (0 ≤ y ∧ y ≤ 65535)
theorem st_XFlow (B : Nat) (s d : ByteArray) : StableX (EB B) (XFlow s d) := fun _ _ _ h _ => h
/-- A flow's box. -/
structure BoxF (w : World) (X : Nat) (p : Int) (s d : ByteArray) (x y : Int) : Prop where
  c0 : w.cell? ⟨X, 0, none⟩ = some (.int .i64 p)
  f0 : w.frozen? ⟨X, 0, none⟩ = false
  c1 : w.cell? ⟨X, 1, none⟩ = some (.string s)
  f1 : w.frozen? ⟨X, 1, none⟩ = false
  c2 : w.cell? ⟨X, 2, none⟩ = some (.string d)
  f2 : w.frozen? ⟨X, 2, none⟩ = false
  c3 : w.cell? ⟨X, 3, none⟩ = some (.int .i64 x)
  f3 : w.frozen? ⟨X, 3, none⟩ = false
  c4 : w.cell? ⟨X, 4, none⟩ = some (.int .i64 y)
  f4 : w.frozen? ⟨X, 4, none⟩ = false
section
variable {w w' : World} {X B : Nat} {p x y : Int} {s d : ByteArray}
theorem BoxF.new (w : World) {t : TypeId} : BoxF (w.alloc (.cells #[.int .i64 p, .string s, .string d, .int .i64 x, .int .i64 y] t)) w.heap.size p s d x y := ⟨cell_new rfl, by simp, cell_new rfl, by simp, cell_new rfl, by simp, cell_new rfl, by simp, cell_new rfl, by simp⟩
theorem BoxF.drawn (h : BoxF w X p s d x y) (he : EB B w w') (hX : X ≠ B) : BoxF w' X p s d x y := by
  have hb := World.block_lt_of_cell? w _ h.c0
  have hk : w'.heap[X]? = w.heap[X]? := World.grownBy.block he X hb (by simp; exact hX)
  have hc : ∀ j, w'.cell? ⟨X, j, none⟩ = w.cell? ⟨X, j, none⟩ := fun j => World.cell?_of_block hk
  have hf : ∀ j, w'.frozen? ⟨X, j, none⟩ = w.frozen? ⟨X, j, none⟩ := fun j => World.frozen?_of_block hk
  exact ⟨(hc 0).trans h.c0, (hf 0).trans h.f0, (hc 1).trans h.c1, (hf 1).trans h.f1, (hc 2).trans h.c2, (hf 2).trans h.f2, (hc 3).trans h.c3, (hf 3).trans h.f3, (hc 4).trans h.c4, (hf 4).trans h.f4⟩
theorem BoxF.other (h : BoxF w X p s d x y) {C o : Nat} (v : Value) (hC : C ≠ X) : BoxF (w.setCell ⟨C, o, none⟩ v) X p s d x y := by
  have hc : ∀ j, (w.setCell ⟨C, o, none⟩ v).cell? ⟨X, j, none⟩ = w.cell? ⟨X, j, none⟩ := fun j => World.cell?_setCell_other w _ _ v (fun e => hC (congrArg Addr.block e))
  have hf : ∀ j, (w.setCell ⟨C, o, none⟩ v).frozen? ⟨X, j, none⟩ = w.frozen? ⟨X, j, none⟩ := fun j => by simp
  exact ⟨(hc 0).trans h.c0, (hf 0).trans h.f0, (hc 1).trans h.c1, (hf 1).trans h.f1, (hc 2).trans h.c2, (hf 2).trans h.f2, (hc 3).trans h.c3, (hf 3).trans h.f3, (hc 4).trans h.c4, (hf 4).trans h.f4⟩
theorem BoxF.set0 (h : BoxF w X p s d x y) (q : Int) : BoxF (w.setCell ⟨X, 0, none⟩ (.int .i64 q)) X q s d x y := by
  obtain ⟨c0, f0, c1, f1, c2, f2, c3, f3, c4, f4⟩ := h
  constructor <;> simp [go_sem, c0, f0, c1, f1, c2, f2, c3, f3, c4, f4]
theorem BoxF.set4 (h : BoxF w X p s d x y) (q : Int) : BoxF (w.setCell ⟨X, 4, none⟩ (.int .i64 q)) X p s d x q := by
  obtain ⟨c0, f0, c1, f1, c2, f2, c3, f3, c4, f4⟩ := h
  constructor <;> simp [go_sem, c0, f0, c1, f1, c2, f2, c3, f3, c4, f4]
end
def XBareF (n B : Nat) : Value → World → Prop := fun v w => ∃ b, v = .pointer (some ⟨b, 0, none⟩) ∧ n ≤ b ∧ b ≠ B ∧ BoxF w b 0 ⟨#[]⟩ ⟨#[]⟩ 0 0
theorem st_XBareF (n B : Nat) : StableX (EB B) (XBareF n B) := fun v w w' ⟨b, h1, h2, h3, h4⟩ he => ⟨b, h1, h2, h3, h4.drawn he h3⟩

set_option maxRecDepth 100000 in
set_option maxHeartbeats 2000000 in
theorem drawFlow_any (s d : ByteArray) (B : Nat) (a : Option Addr) (len cap : Nat) (size : Int) (w : World) (hs0 : s.size ≤ 1000) (hd0 : d.size ≤ 1000) (hl : len ≤ 1048576) (hs : Src w B a len cap size) :
    Calls Try.prog 115 #[.pointer (some ⟨B, 0, none⟩), .string s, .string d] w fun e w' => (∃ p x y, e = .returned (flC p s d x y) ∧ (0 ≤ p ∧ p ≤ 255) ∧ (0 ≤ x ∧ x ≤ 65535) ∧ (0 ≤ y ∧ y ≤ 65535)) ∧ Src w' B a len cap size ∧ w.grownBy w' (some B) := by
  have D0 : Hid (Dr w B a len cap size (w.alloc (.cells #[.int .i64 0, .string ⟨#[]⟩, .string ⟨#[]⟩, .int .i64 0, .int .i64 0] 147))) := (Dr.start hs).alloc _
  have K0 : Hid (BoxF (w.alloc (.cells #[.int .i64 0, .string ⟨#[]⟩, .string ⟨#[]⟩, .int .i64 0, .int .i64 0] 147)) w.heap.size 0 ⟨#[]⟩ ⟨#[]⟩ 0 0) := BoxF.new w
  have hz : Hid ((w.alloc (.cells #[.int .i64 0, .string ⟨#[]⟩, .string ⟨#[]⟩, .int .i64 0, .int .i64 0] 147)).heap.size = w.heap.size + 1) := by unfold Hid; simp
  have hB : B < w.heap.size := (Dr.start hs).hB
  have hOB : w.heap.size ≠ B := by omega
  clear hs
  go_enter Try.func115, Try.ntmps115
  go_upto_region 1 with fail
  generalize w.alloc (.cells #[.int .i64 0, .string ⟨#[]⟩, .string ⟨#[]⟩, .int .i64 0, .int .i64 0] 147) = W at *
  go_cut [7] (fun v wx => ∃ X p x y, v = .pointer (some ⟨X, 0, none⟩) ∧ w.heap.size < X ∧ BoxF wx X p s d x y ∧ (0 ≤ p ∧ p ≤ 255) ∧ (0 ≤ x ∧ x ≤ 65535) ∧ (0 ≤ y ∧ y ≤ 65535) ∧ Dr w B a len cap size wx ∧ BoxF wx w.heap.size 0 ⟨#[]⟩ ⟨#[]⟩ 0 0)
  case first =>
    rename_i J K2 hJ hK2
    refine wp_region_growXU (EB B) (fun wx => Dr w B a len cap size wx ∧ BoxF wx w.heap.size 0 ⟨#[]⟩ ⟨#[]⟩ 0 0 ∧ W.heap.size ≤ wx.heap.size) (Rs := [XInts B 4 1 17, XV (.pointer (some ⟨B, 0, none⟩)), XR 0 3, XCell B 1 17, XR 1 17, XV (.string s), XV (.string d), XV (.pointer (some ⟨B, 0, none⟩)), XR 0 5, XR 1000 1005, XV (.pointer (some ⟨B, 0, none⟩)), XR 0 5, XR 1000 1005, XInts B 5 0 65535, XV (.pointer (some ⟨B, 0, none⟩)), XR 0 4, XCell B 0 65535, XR 0 65535, XFlow s d, XBareF W.heap.size B]) [8, 9, 10, 11, 12, 13, 14, 15, 16, 17, 18, 19, 20, 21, 22, 23, 24, 25, 26, 7] _ (by kernel_rfl) rfl (by kernel_rfl) rfl ⟨D0.out.below (Below.refl _ _).drew, K0.out.drawn (EB.of (Below.refl _ _).drew) hOB, Nat.le_refl _⟩ ?st ?steps ?lst
    case st => simp [st_XV, st_XR, st_XInts, st_XCell, st_XFlow, st_XBareF]
    case steps =>
      refine ⟨?s0, ?s1, ?s2, ?s3, ?s4, ?s5, ?s6, ?s7, ?s8, ?s9, ?s10, ?s11, ?s12, ?s13, ?s14, ?s15, ?s16, ?s17, ?s18, ?s19, trivial⟩
      case s0 =>
        intro K' act wy ho hd ⟨hI1, hI2, hI3⟩ hK
        clear hd
        go_simp
        exact hK _ _ ⟨wy.heap.size, rfl, by have := hI1.le; omega, fun k hk => by
          match k, hk with
          | 0, _ => exact ⟨_, cell_new rfl, by omega, by omega⟩
          | 1, _ => exact ⟨_, cell_new rfl, by omega, by omega⟩
          | 2, _ => exact ⟨_, cell_new rfl, by omega, by omega⟩
          | 3, _ => exact ⟨_, cell_new rfl, by omega, by omega⟩
        ⟩ (EB.of ((Below.refl _ _).alloc (Nat.le_refl _) _)) ⟨hI1.alloc _, hI2.drawn (EB.of ((Below.refl _ _).alloc (Nat.le_refl _) _)) hOB, by simp; omega⟩
      case s1 =>
        intro K' act wy ho hd ⟨hI1, hI2, hI3⟩ hK
        have h3 := ho 0 (by decide)
        simp [slot] at h3
        clear hd
        go_simp
        exact hK _ _ rfl (EB.of (Below.refl _ _)) ⟨hI1, hI2, hI3⟩
      case s2 =>
        intro K' act wy ho hd ⟨hI1, hI2, hI3⟩ hK
        have q1 : XV (.pointer (some ⟨B, 0, none⟩)) (slot act 9) wy := hd ⟨1, .data⟩ (by simp) rfl
        clear hd
        unfold XV at q1
        simp [slot] at q1
        go_simp
        refine (drawN_any 4 B a len cap size wy (by omega) hl hI1.src).mono ?_
        rintro e wz ⟨r, rfl, h0, h1, hsz, hgz⟩
        exact hK _ _ ⟨r, rfl, by omega, by omega⟩ hgz ⟨hI1.draw hsz hgz, hI2.drawn hgz hOB, Nat.le_trans hI3 hgz.size⟩
      case s3 =>
        intro K' act wy ho hd ⟨hI1, hI2, hI3⟩ hK
        have q0 : XInts B 4 1 17 (slot act 8) wy := hd ⟨0, .data⟩ (by simp) rfl
        have q2 : XR 0 3 (slot act 10) wy := hd ⟨2, .data⟩ (by simp) rfl
        clear hd
        obtain ⟨b0, q0, nb0, g0⟩ := q0
        simp [slot] at q0
        obtain ⟨r2, q2, l2, u2⟩ := q2
        simp [slot] at q2
        obtain ⟨kk, hkk⟩ := Int.eq_ofNat_of_zero_le l2
        subst hkk
        obtain ⟨x, hx, lx, ux⟩ := g0 kk (by omega)
        have i0 : (kk : Int) < 4 := by omega
        go_simp
        exact hK _ _ ⟨b0, kk, x, rfl, nb0, hx, lx, ux⟩ (EB.of (Below.refl _ _)) ⟨hI1, hI2, hI3⟩
      case s4 =>
        intro K' act wy ho hd ⟨hI1, hI2, hI3⟩ hK
        have q3 : XCell B 1 17 (slot act 11) wy := hd ⟨3, .data⟩ (by simp) rfl
        clear hd
        obtain ⟨b3, k3, x3, q3, nb3, c3, l3, u3⟩ := q3
        simp [slot] at q3
        go_simp
        exact hK _ _ ⟨x3, rfl, l3, u3⟩ (EB.of (Below.refl _ _)) ⟨hI1, hI2, hI3⟩
      case s5 =>
        intro K' act wy ho hd ⟨hI1, hI2, hI3⟩ hK
        have h3 := ho 1 (by decide)
        simp [slot] at h3
        clear hd
        go_simp
        exact hK _ _ rfl (EB.of (Below.refl _ _)) ⟨hI1, hI2, hI3⟩
      case s6 =>
        intro K' act wy ho hd ⟨hI1, hI2, hI3⟩ hK
        have h3 := ho 2 (by decide)
        simp [slot] at h3
        clear hd
        go_simp
        exact hK _ _ rfl (EB.of (Below.refl _ _)) ⟨hI1, hI2, hI3⟩
      case s7 =>
        intro K' act wy ho hd ⟨hI1, hI2, hI3⟩ hK
        have h3 := ho 0 (by decide)
        simp [slot] at h3
        clear hd
        go_simp
        exact hK _ _ rfl (EB.of (Below.refl _ _)) ⟨hI1, hI2, hI3⟩
      case s8 =>
        intro K' act wy ho hd ⟨hI1, hI2, hI3⟩ hK
        have q7 : XV (.pointer (some ⟨B, 0, none⟩)) (slot act 15) wy := hd ⟨7, .data⟩ (by simp) rfl
        clear hd
        unfold XV at q7
        simp [slot] at q7
        go_simp
        refine (drawN_any 6 B a len cap size wy (by omega) hl hI1.src).mono ?_
        rintro e wz ⟨r, rfl, h0, h1, hsz, hgz⟩
        exact hK _ _ ⟨r, rfl, by omega, by omega⟩ hgz ⟨hI1.draw hsz hgz, hI2.drawn hgz hOB, Nat.le_trans hI3 hgz.size⟩
      case s9 =>
        intro K' act wy ho hd ⟨hI1, hI2, hI3⟩ hK
        have q8 : XR 0 5 (slot act 16) wy := hd ⟨8, .data⟩ (by simp) rfl
        clear hd
        obtain ⟨r8, q8, l8, u8⟩ := q8
        simp [slot] at q8
        have hw : IntKind.i64.wrap (1000 + r8) = 1000 + r8 := by rw [IntKind.wrap_i64]; omega
        go_simp
        exact hK _ _ ⟨1000 + r8, rfl, by omega, by omega⟩ (EB.of (Below.refl _ _)) ⟨hI1, hI2, hI3⟩
      case s10 =>
        intro K' act wy ho hd ⟨hI1, hI2, hI3⟩ hK
        have h3 := ho 0 (by decide)
        simp [slot] at h3
        clear hd
        go_simp
        exact hK _ _ rfl (EB.of (Below.refl _ _)) ⟨hI1, hI2, hI3⟩
      case s11 =>
        intro K' act wy ho hd ⟨hI1, hI2, hI3⟩ hK
        have q10 : XV (.pointer (some ⟨B, 0, none⟩)) (slot act 18) wy := hd ⟨10, .data⟩ (by simp) rfl
        clear hd
        unfold XV at q10
        simp [slot] at q10
        go_simp
        refine (drawN_any 6 B a len cap size wy (by omega) hl hI1.src).mono ?_
        rintro e wz ⟨r, rfl, h0, h1, hsz, hgz⟩
        exact hK _ _ ⟨r, rfl, by omega, by omega⟩ hgz ⟨hI1.draw hsz hgz, hI2.drawn hgz hOB, Nat.le_trans hI3 hgz.size⟩
      case s12 =>
        intro K' act wy ho hd ⟨hI1, hI2, hI3⟩ hK
        have q11 : XR 0 5 (slot act 19) wy := hd ⟨11, .data⟩ (by simp) rfl
        clear hd
        obtain ⟨r11, q11, l11, u11⟩ := q11
        simp [slot] at q11
        have hw : IntKind.i64.wrap (1000 + r11) = 1000 + r11 := by rw [IntKind.wrap_i64]; omega
        go_simp
        exact hK _ _ ⟨1000 + r11, rfl, by omega, by omega⟩ (EB.of (Below.refl _ _)) ⟨hI1, hI2, hI3⟩
      case s13 =>
        intro K' act wy ho hd ⟨hI1, hI2, hI3⟩ hK
        have q12 : XR 1000 1005 (slot act 20) wy := hd ⟨12, .data⟩ (by simp) rfl
        clear hd
        obtain ⟨r12, q12, l12, u12⟩ := q12
        simp [slot] at q12
        go_simp
        exact hK _ _ ⟨wy.heap.size, rfl, by have := hI1.le; omega, fun k hk => by
          match k, hk with
          | 0, _ => exact ⟨_, cell_new rfl, by omega, by omega⟩
          | 1, _ => exact ⟨_, cell_new rfl, by omega, by omega⟩
          | 2, _ => exact ⟨_, cell_new rfl, by omega, by omega⟩
          | 3, _ => exact ⟨_, cell_new rfl, by omega, by omega⟩
          | 4, _ => exact ⟨_, cell_new rfl, by omega, by omega⟩
        ⟩ (EB.of ((Below.refl _ _).alloc (Nat.le_refl _) _)) ⟨hI1.alloc _, hI2.drawn (EB.of ((Below.refl _ _).alloc (Nat.le_refl _) _)) hOB, by simp; omega⟩
      case s14 =>
        intro K' act wy ho hd ⟨hI1, hI2, hI3⟩ hK
        have h3 := ho 0 (by decide)
        simp [slot] at h3
        clear hd
        go_simp
        exact hK _ _ rfl (EB.of (Below.refl _ _)) ⟨hI1, hI2, hI3⟩
      case s15 =>
        intro K' act wy ho hd ⟨hI1, hI2, hI3⟩ hK
        have q14 : XV (.pointer (some ⟨B, 0, none⟩)) (slot act 22) wy := hd ⟨14, .data⟩ (by simp) rfl
        clear hd
        unfold XV at q14
        simp [slot] at q14
        go_simp
        refine (drawN_any 5 B a len cap size wy (by omega) hl hI1.src).mono ?_
        rintro e wz ⟨r, rfl, h0, h1, hsz, hgz⟩
        exact hK _ _ ⟨r, rfl, by omega, by omega⟩ hgz ⟨hI1.draw hsz hgz, hI2.drawn hgz hOB, Nat.le_trans hI3 hgz.size⟩
      case s16 =>
        intro K' act wy ho hd ⟨hI1, hI2, hI3⟩ hK
        have q13 : XInts B 5 0 65535 (slot act 21) wy := hd ⟨13, .data⟩ (by simp) rfl
        have q15 : XR 0 4 (slot act 23) wy := hd ⟨15, .data⟩ (by simp) rfl
        clear hd
        obtain ⟨b13, q13, nb13, g13⟩ := q13
        simp [slot] at q13
        obtain ⟨r15, q15, l15, u15⟩ := q15
        simp [slot] at q15
        obtain ⟨kk, hkk⟩ := Int.eq_ofNat_of_zero_le l15
        subst hkk
        obtain ⟨x, hx, lx, ux⟩ := g13 kk (by omega)
        have i0 : (kk : Int) < 5 := by omega
        go_simp
        exact hK _ _ ⟨b13, kk, x, rfl, nb13, hx, lx, ux⟩ (EB.of (Below.refl _ _)) ⟨hI1, hI2, hI3⟩
      case s17 =>
        intro K' act wy ho hd ⟨hI1, hI2, hI3⟩ hK
        have q16 : XCell B 0 65535 (slot act 24) wy := hd ⟨16, .data⟩ (by simp) rfl
        clear hd
        obtain ⟨b16, k16, x16, q16, nb16, c16, l16, u16⟩ := q16
        simp [slot] at q16
        go_simp
        exact hK _ _ ⟨x16, rfl, l16, u16⟩ (EB.of (Below.refl _ _)) ⟨hI1, hI2, hI3⟩
      case s18 =>
        intro K' act wy ho hd ⟨hI1, hI2, hI3⟩ hK
        have q4 : XR 1 17 (slot act 12) wy := hd ⟨4, .data⟩ (by simp) rfl
        have q5 : XV (.string s) (slot act 13) wy := hd ⟨5, .data⟩ (by simp) rfl
        have q6 : XV (.string d) (slot act 14) wy := hd ⟨6, .data⟩ (by simp) rfl
        have q9 : XR 1000 1005 (slot act 17) wy := hd ⟨9, .data⟩ (by simp) rfl
        have q17 : XR 0 65535 (slot act 25) wy := hd ⟨17, .data⟩ (by simp) rfl
        clear hd
        obtain ⟨r4, q4, l4, u4⟩ := q4
        simp [slot] at q4
        unfold XV at q5
        simp [slot] at q5
        unfold XV at q6
        simp [slot] at q6
        obtain ⟨r9, q9, l9, u9⟩ := q9
        simp [slot] at q9
        obtain ⟨r17, q17, l17, u17⟩ := q17
        simp [slot] at q17
        go_simp
        exact hK _ _ ⟨r4, r9, r17, rfl, by omega, by omega, by omega⟩ (EB.of (Below.refl _ _)) ⟨hI1, hI2, hI3⟩
      case s19 =>
        intro K' act wy ho hd ⟨hI1, hI2, hI3⟩ hK
        clear hd
        go_simp
        exact hK _ _ ⟨wy.heap.size, rfl, hI3, by have := hI1.le; omega, BoxF.new wy⟩ (EB.of ((Below.refl _ _).alloc (Nat.le_refl _) _)) ⟨hI1.alloc _, hI2.drawn (EB.of ((Below.refl _ _).alloc (Nat.le_refl _) _)) hOB, by simp; omega⟩
    case lst =>
      intro X act K' wz ha hsl hR ⟨hI1, hI2, hI3⟩ hK
      have HAct : Hid (act = _) := ha
      clear ha
      obtain ⟨z0, z1, z2, z3, z4, z5, z6, z7, z8, z9, z10, z11, z12, z13, z14, z15, z16, z17, ⟨p, x, y, z18, hp, hx, hy⟩, ⟨Xb, z19, hXn, hXB, hbx⟩, -⟩ := hR
      have s7 := hsl 19 (by decide)
      have s26 := hsl 18 (by decide)
      rw [z19] at s7
      rw [z18] at s26
      simp [slot, flC] at s7 s26
      have hz' := hz.out
      have hne : Xb ≠ w.heap.size := by omega
      obtain ⟨c0, f0, c1, f1, c2, f2, c3, f3, c4, f4⟩ := hbx
      have HF : Hid (BoxF (((((wz.setCell ⟨Xb, 0, none⟩ (.int .i64 p)).setCell ⟨Xb, 1, none⟩ (.string s)).setCell ⟨Xb, 2, none⟩ (.string d)).setCell ⟨Xb, 3, none⟩ (.int .i64 x)).setCell ⟨Xb, 4, none⟩ (.int .i64 y)) Xb p s d x y) := by
        constructor <;> simp [go_sem, c0, f0, c1, f1, c2, f2, c3, f3, c4, f4]
      have HO : Hid (BoxF (((((wz.setCell ⟨Xb, 0, none⟩ (.int .i64 p)).setCell ⟨Xb, 1, none⟩ (.string s)).setCell ⟨Xb, 2, none⟩ (.string d)).setCell ⟨Xb, 3, none⟩ (.int .i64 x)).setCell ⟨Xb, 4, none⟩ (.int .i64 y)) w.heap.size 0 ⟨#[]⟩ ⟨#[]⟩ 0 0) := ((((hI2.other _ hne).other _ hne).other _ hne).other _ hne).other _ hne
      have HD : Hid (Dr w B a len cap size (((((wz.setCell ⟨Xb, 0, none⟩ (.int .i64 p)).setCell ⟨Xb, 1, none⟩ (.string s)).setCell ⟨Xb, 2, none⟩ (.string d)).setCell ⟨Xb, 3, none⟩ (.int .i64 x)).setCell ⟨Xb, 4, none⟩ (.int .i64 y))) := ((((hI1.set Xb 0 _ (by omega)).set Xb 1 _ (by omega)).set Xb 2 _ (by omega)).set Xb 3 _ (by omega)).set Xb 4 _ (by omega)
      have hXw : w.heap.size < Xb := by omega
      clear hsl hz' hI1 hI2
      go_simp
      refine hK _ _ ?_
      rw [HAct.out]
      simp only [putsFrom, z18, z19]
      go_simp
      refine hK2 _ _ (hJ _ _ ?_)
      (repeat apply Exists.intro)
      refine ⟨⟨Xb, p, x, y, rfl, hXw, HF.out, hp, hx, hy, HD.out, HO.out⟩, rfl⟩
  case rest =>
  obtain ⟨X, p, x, y, rfl, hX, hbx, hp, hx, hy, hD, hO⟩ := hcut
  have HF : Hid _ := hbx
  have HO : Hid _ := hO
  have HD : Hid _ := hD
  have hne : X ≠ w.heap.size := by omega
  have hXw : w.heap.size ≤ X := by omega
  have c0' := hbx.c0
  clear hbx hO hD hX
  by_cases h1 : p = 1
  rotate_left
  · have d1 : (p == 1) = false := by simp [h1]
    obtain ⟨c0, f0, c1, f1, c2, f2, c3, f3, c4, f4⟩ := HF.out
    obtain ⟨o0, y0, o1, y1, o2, y2, o3, y3, o4, y4⟩ := HO.out
    go_wp2_with fail
    exact bodyPost_ret (v := .agg #[.int .i64 p, .string s, .string d, .int .i64 x, .int .i64 y]) (by simp [results, Try.results115, go_sem, o0, o1, o2, o3, o4]) rfl (by
      have D2 := ((((HD.out.set w.heap.size 0 (.int .i64 p) (Nat.le_refl _)).set w.heap.size 1 (.string s) (Nat.le_refl _)).set w.heap.size 2 (.string d) (Nat.le_refl _)).set w.heap.size 3 (.int .i64 x) (Nat.le_refl _)).set w.heap.size 4 (.int .i64 y) (Nat.le_refl _)
      exact ⟨⟨p, x, y, rfl, by omega, by omega, by omega⟩, D2.src, D2.grown⟩)
  have d1 : (p == 1) = true := by simp [h1]
  clear h1
  by_cases h16 : s.size = 16
  · have d16 : ((s.size : Int) == 16) = true := by simp; omega
    clear h16
    have f0' := HF.out.f0
    have HF2 : Hid _ := HF.out.set0 58
    have HO2 : Hid _ := HO.out.other (o := 0) (.int .i64 58) hne
    have HD2 : Hid _ := HD.out.set X 0 (.int .i64 58) hXw
    go_upto_region 5 with fail
    generalize wc.setCell ⟨X, 0, none⟩ (.int .i64 58) = W2 at *
    clear c0' f0' HF HO HD
    have c3' := HF2.out.c3
    have c4' := HF2.out.c4
    have f4' := HF2.out.f4
    have HF3 : Hid _ := HF2.out.set4 x
    have HO3 : Hid _ := HO2.out.other (o := 4) (.int .i64 x) hne
    have HD3 : Hid _ := HD2.out.set X 4 (.int .i64 x) hXw
    go_upto_region 6 with fail
    generalize W2.setCell ⟨X, 4, none⟩ (.int .i64 x) = W3 at *
    clear c3' c4' f4' HF2 HO2 HD2
    obtain ⟨c0, f0, c1, f1, c2, f2, c3, f3, c4, f4⟩ := HF3.out
    obtain ⟨o0, y0, o1, y1, o2, y2, o3, y3, o4, y4⟩ := HO3.out
    go_wp2_with fail
    exact bodyPost_ret (v := .agg #[.int .i64 58, .string s, .string d, .int .i64 x, .int .i64 x]) (by simp [results, Try.results115, go_sem, o0, o1, o2, o3, o4]) rfl (by
      have D2 := ((((HD3.out.set w.heap.size 0 (.int .i64 58) (Nat.le_refl _)).set w.heap.size 1 (.string s) (Nat.le_refl _)).set w.heap.size 2 (.string d) (Nat.le_refl _)).set w.heap.size 3 (.int .i64 x) (Nat.le_refl _)).set w.heap.size 4 (.int .i64 x) (Nat.le_refl _)
      exact ⟨⟨58, x, x, rfl, by omega, by omega, by omega⟩, D2.src, D2.grown⟩)
  · have d16 : ((s.size : Int) == 16) = false := by simp; omega
    have c3' := HF.out.c3
    have c4' := HF.out.c4
    have f4' := HF.out.f4
    have HF3 : Hid _ := HF.out.set4 x
    have HO3 : Hid _ := HO.out.other (o := 4) (.int .i64 x) hne
    have HD3 : Hid _ := HD.out.set X 4 (.int .i64 x) hXw
    go_upto_region 6 with fail
    generalize wc.setCell ⟨X, 4, none⟩ (.int .i64 x) = W3 at *
    clear c0' c3' c4' f4' HF HO HD
    obtain ⟨c0, f0, c1, f1, c2, f2, c3, f3, c4, f4⟩ := HF3.out
    obtain ⟨o0, y0, o1, y1, o2, y2, o3, y3, o4, y4⟩ := HO3.out
    go_wp2_with fail
    exact bodyPost_ret (v := .agg #[.int .i64 p, .string s, .string d, .int .i64 x, .int .i64 x]) (by simp [results, Try.results115, go_sem, o0, o1, o2, o3, o4]) rfl (by
      have D2 := ((((HD3.out.set w.heap.size 0 (.int .i64 p) (Nat.le_refl _)).set w.heap.size 1 (.string s) (Nat.le_refl _)).set w.heap.size 2 (.string d) (Nat.le_refl _)).set w.heap.size 3 (.int .i64 x) (Nat.le_refl _)).set w.heap.size 4 (.int .i64 x) (Nat.le_refl _)
      exact ⟨⟨p, x, x, rfl, by omega, by omega, by omega⟩, D2.src, D2.grown⟩)

end Go.Proofs.Ytofhcplnnamcdaa

/- DrawData: what the specification's l05Data answers, as far as the draws need it. Printed by mkdrawdata.py. -/
namespace Go.Proofs.Ytofhcplnnamcdaa
open Go.RowKit Go.PlainAid
set_option linter.unusedVariables false
set_option linter.unusedSimpArgs false

def XS (n : Nat) : Value → World → Prop := fun v _ => ∃ u : ByteArray, v = .string u ∧ u.size = n
def XRow2 (B : Nat) (x y : Int) : Value → World → Prop := fun v w => ∃ b, v = .slice (some ⟨b, 0, none⟩) 2 2 ∧ b ≠ B ∧ w.cell? ⟨b, 0, none⟩ = some (.int .u8 x) ∧ w.cell? ⟨b, 1, none⟩ = some (.int .u8 y)
theorem st_XS (B n : Nat) : StableX (EB B) (XS n) := fun _ _ _ h _ => h
theorem st_XRow2 (B : Nat) (x y : Int) : StableX (EB B) (XRow2 B x y) := fun v w w' ⟨b, h1, h2, h3, h4⟩ he => ⟨b, h1, h2, he.cell h3 h2, he.cell h4 h2⟩
theorem isU8 {cs : List Value} (h : ∀ v ∈ cs, ∃ x, v = .int .u8 x ∧ (0 ≤ x ∧ x ≤ 255)) : ∀ v ∈ cs, ∃ x, v = .int .u8 x ∧ (0 ≤ x ∧ x ≤ 255) := h

set_option maxRecDepth 100000 in
set_option maxHeartbeats 4000000 in
theorem drawData_any (p : Int) (s d : ByteArray) (x y : Int) (B : Nat) (a : Option Addr) (len cap : Nat) (size : Int) (w : World) (hp : 0 ≤ p ∧ p ≤ 255) (hs0 : s.size ≤ 16) (hd0 : d.size ≤ 16) (hx : 0 ≤ x ∧ x ≤ 65535) (hy : 0 ≤ y ∧ y ≤ 65535) (hl : len ≤ 1048576) (hs : Src w B a len cap size) :
    Calls Try.prog 116 #[.pointer (some ⟨B, 0, none⟩), flC p s d x y] w fun e w' => (∃ u : ByteArray, e = .returned (.string u) ∧ u.size ≤ 100) ∧ Src w' B a len cap size ∧ w.grownBy w' (some B) := by
  unfold flC
  have hB : B < w.heap.size := (Dr.start hs).hB
  have D0 : Hid (Dr w B a len cap size (w.alloc (.cells #[.int .i64 p, .string s, .string d, .int .i64 x, .int .i64 y] 147))) := (Dr.start hs).alloc _
  have F0 : Hid (BoxF (w.alloc (.cells #[.int .i64 p, .string s, .string d, .int .i64 x, .int .i64 y] 147)) w.heap.size p s d x y) := BoxF.new w
  have hXB : w.heap.size ≠ B := by omega
  have hz : Hid ((w.alloc (.cells #[.int .i64 p, .string s, .string d, .int .i64 x, .int .i64 y] 147)).heap.size = w.heap.size + 1) := by unfold Hid; simp
  clear hs
  go_enter Try.func116, Try.ntmps116
  go_upto_region 1 with fail
  generalize w.alloc (.cells #[.int .i64 p, .string s, .string d, .int .i64 x, .int .i64 y] 147) = W0 at *
  have hW0 : B < W0.heap.size := by have := hz.out; omega
  clear hz
  go_wp2_with fail
  refine (drawN_more 7 B a len cap size _ (by omega) (by omega) hl (D0.out.alloc _).src).mono ?_
  rintro e W1 ⟨r, rfl, r0, r1, hs1, hg1⟩
  obtain ⟨k, rfl⟩ := Int.eq_ofNat_of_zero_le r0
  obtain ⟨v, hcell, fl, rfl, hfl⟩ := pick_cell (k := k) (p := fun v => ∃ x, v = .int .u8 x ∧ (0 ≤ x ∧ x ≤ 255)) (cs := [.int .u8 2, .int .u8 18, .int .u8 16, .int .u8 24, .int .u8 17, .int .u8 4, .int .u8 25]) hg1 hW0 (by simp; omega) (by simp)
  have D1 : Hid (Dr w B a len cap size W1) := (D0.out.alloc _).draw hs1 hg1
  have F1 : Hid (BoxF W1 w.heap.size p s d x y) := (F0.out.drawn (EB.of ((Below.refl _ _).alloc (Nat.le_refl _) _)) hXB).drawn hg1 hXB
  have r1' : (k : Int) < 7 := by omega
  clear hs1 hg1 D0 F0 r0 r1
  go_upto_region 2 with fail
  clear hcell r1'
  go_wp2_with fail
  refine (drawN_any 12 B a len cap size _ (by omega) hl D1.out.src).mono ?_
  rintro e W2 ⟨r, rfl, r0, r1, hs1, hg1⟩
  obtain ⟨m, rfl⟩ := Int.eq_ofNat_of_zero_le r0
  have hm : m ≤ 11 := by omega
  have D2 : Hid (Dr w B a len cap size W2) := D1.out.draw hs1 hg1
  have F2 : Hid (BoxF W2 w.heap.size p s d x y) := F1.out.drawn hg1 hXB
  clear hs1 hg1 D1 F1 r0 r1
  go_wp2_with fail
  refine (drawBytes_any m B a len cap size _ (by omega) hl D2.out.src).mono ?_
  rintro e W3 ⟨rest, rfl, hrest, hs1, hg1⟩
  have D3 : Hid (Dr w B a len cap size W3) := D2.out.draw hs1 hg1
  have F3 : Hid (BoxF W3 w.heap.size p s d x y) := F2.out.drawn hg1 hXB
  have hr11 : rest.size ≤ 11 := by omega
  clear hs1 hg1 D2 F2 hrest hm
  go_upto_region 3 with fail
  have zx := twoV_size x
  have zy := twoV_size y
  have n0 : ¬ 9223372036854775807 < (twoV x).size + (twoV y).size := by omega
  have HK : Hid (∀ wy, Below W3.drew.heap.size W3.drew wy → BoxF wy w.heap.size p s d x y) := fun wy hy => F3.out.drawn (EB.of ((Below.refl _ W3).drew.trans hy)) hXB
  go_cut [7] (fun v wx => v = .string (twoV x ++ twoV y) ∧ Below W3.heap.size W3 wx)
  case first =>
    rename_i J K2 hJ hK2
    refine wp_region_growL (Rs := [IsV (.pointer (some ⟨w.heap.size, 3, none⟩)), IsV (.int .i64 x), IsV (.string (twoV x)), IsV (.pointer (some ⟨w.heap.size, 4, none⟩)), IsV (.int .i64 y), IsV (.string (twoV y)), IsV (.string (twoV x ++ twoV y)), IsV (.string (twoV x ++ twoV y))]) [19, 20, 21, 22, 23, 24, 25, 7] (by kernel_rfl) (by kernel_rfl) rfl ?st ?steps ?done
    case st => simp [stable_isV, stable_isRow]
    case steps =>
      refine ⟨?s0, ?s1, ?s2, ?s3, ?s4, ?s5, ?s6, ?s7, trivial⟩
      case s0 =>
        intro K' a wy ho hd hb hK
        have h3 := ho 3 (by decide)
        simp [slot] at h3
        clear hd
        go_simp
        try go_bits
        exact hK _ _ rfl (Below.refl _ _)
      case s1 =>
        intro K' a wy ho hd hb hK
        simp [Region.binds, rAt, IsV, slot] at hd
        obtain ⟨c0, f0, c1, f1, c2, f2, c3, f3, c4, f4⟩ := HK.out wy hb
        go_simp
        try go_bits
        exact hK _ _ rfl (Below.refl _ _)
      case s2 =>
        intro K' a wy ho hd hb hK
        simp [Region.binds, rAt, IsV, slot] at hd
        go_simp
        refine (specTwo_any x wy (by omega) (by omega)).mono ?_
        rintro e wz ⟨rfl, hz⟩
        exact hK _ _ rfl hz
      case s3 =>
        intro K' a wy ho hd hb hK
        have h3 := ho 3 (by decide)
        simp [slot] at h3
        clear hd
        go_simp
        try go_bits
        exact hK _ _ rfl (Below.refl _ _)
      case s4 =>
        intro K' a wy ho hd hb hK
        simp [Region.binds, rAt, IsV, slot] at hd
        obtain ⟨c0, f0, c1, f1, c2, f2, c3, f3, c4, f4⟩ := HK.out wy hb
        go_simp
        try go_bits
        exact hK _ _ rfl (Below.refl _ _)
      case s5 =>
        intro K' a wy ho hd hb hK
        simp [Region.binds, rAt, IsV, slot] at hd
        go_simp
        refine (specTwo_any y wy (by omega) (by omega)).mono ?_
        rintro e wz ⟨rfl, hz⟩
        exact hK _ _ rfl hz
      case s6 =>
        intro K' a wy ho hd hb hK
        simp [Region.binds, rAt, IsV, slot] at hd
        go_simp
        try go_bits
        exact hK _ _ rfl (Below.refl _ _)
      case s7 =>
        intro K' a wy ho hd hb hK
        simp [Region.binds, rAt, IsV, slot] at hd
        go_simp
        try go_bits
        exact hK _ _ rfl (Below.refl _ _)
    case done =>
      intro X wz hR hz
      obtain ⟨x0, x1, x2, x3, x4, x5, x6, x7, -⟩ := hR
      simp only [IsV] at x0 x1 x2 x3 x4 x5 x6 x7
      simp only [putsFrom, x0, x1, x2, x3, x4, x5, x6, x7]
      clear x0 x1 x2 x3 x4 x5 x6 x7
      go_simp
      refine hK2 _ _ (hJ _ _ ?_)
      (repeat apply Exists.intro)
      refine ⟨⟨rfl, (Below.refl _ W3).drew.trans hz⟩, rfl⟩
  case rest =>
  obtain ⟨rfl, hb4⟩ := hcut
  have D4 : Hid (Dr w B a len cap size wc) := D3.out.below hb4
  have F4 : Hid (BoxF wc w.heap.size p s d x y) := F3.out.drawn (EB.of hb4) hXB
  have hd4 : (twoV x ++ twoV y).size = 4 := by rw [ByteArray.size_append, zx, zy]
  have hX4 : w.heap.size < wc.heap.size := World.block_lt_of_cell? wc _ F4.out.c0
  clear hb4 D3 F3 HK n0 zx zy
  generalize twoV x ++ twoV y = d4 at *
  have c0 := F4.out.c0
  have HPr : Hid (∀ W, Calls Try.prog 138 #[.string s, .string d] W fun e w' => e = .returned (.bool (addrOk s && decide (s.size = d.size))) ∧ w' = W) := fun W => specPair_any s d W (by omega) (by omega)
  have HCk : Hid (∀ W, Calls Try.prog 141 #[.int .i64 p] W fun e w' => e = .returned (.int .i64 (checkAt p : Nat)) ∧ w' = W) := fun W => specCheck_any p W
  generalize (addrOk s && decide (s.size = d.size)) = bp at *
  by_cases h17 : p = 17
  · have hck : checkAt p = 6 := by rw [h17]; rfl
    have d6 : (p == 6) = false := by simp [h17]
    have d17 : (p == 17) = true := by simp [h17]
    have HCK : Hid (checkAt p = 6) := hck
    clear h17 hck
    have t8 := twoV_size (8 + (rest.size : Int))
    have n1 : ¬ 9223372036854775807 < d4.size + (twoV (8 + (rest.size : Int))).size := by omega
    have n2 : ¬ 9223372036854775807 < d4.size + (twoV (8 + (rest.size : Int))).size + (ByteArray.mk #[0, 0]).size := by have : (ByteArray.mk #[0, 0]).size = 2 := rfl; omega
    have n3 : ¬ 9223372036854775807 < d4.size + (twoV (8 + (rest.size : Int))).size + (ByteArray.mk #[0, 0]).size + rest.size := by have : (ByteArray.mk #[0, 0]).size = 2 := rfl; omega
    have n4 : ¬ 9223372036854775807 < 4 + 2 + 2 + rest.size := by omega
    have n5 : ¬ 9223372036854775807 < 8 + rest.size := by omega
    go_wp2_with fail
    refine (specTwo_any (8 + (rest.size : Int)) _ (by omega) (by omega)).mono ?_
    rintro e W5 ⟨rfl, hb5⟩
    have D5 : Hid _ := D4.out.below hb5
    have F5 : Hid _ := F4.out.drawn (EB.of hb5) hXB
    clear hb5 D4 F4
    have hdz : (d4 ++ twoV (8 + (rest.size : Int)) ++ ByteArray.mk #[0, 0] ++ rest).size = 8 + rest.size := by simp only [ByteArray.size_append]; have : (ByteArray.mk #[0, 0]).size = 2 := rfl; omega
    go_upto_region 13 with fail
    clear n1 n2 n3 n4 n5 t8 c0
    obtain ⟨dd, hdd⟩ : ∃ dd, dd = d4 ++ twoV (8 + (rest.size : Int)) ++ ByteArray.mk #[0, 0] ++ rest := ⟨_, rfl⟩
    rw [← hdd] at hdz ⊢
    have HDD : Hid (checkAt p + 2 ≤ dd.size ∧ dd.size ≤ 60) := by have := HCK.out; unfold Hid; omega
    clear hdd hdz
    obtain ⟨c0, f0, c1, f1, c2, f2, c3, f3, c4, f4⟩ := F5.out
    have hun : undef = Value.tuple #[] := rfl
    go_wp2_with fail
    refine (drawOne_any 6 B a len cap size _ (by omega) hl D5.out.src).mono ?_
    rintro e V23 ⟨b6, rfl, hs1, hg1⟩
    have D23 : Hid _ := D5.out.draw hs1 hg1
    have F23 : Hid _ := F5.out.drawn hg1 hXB
    clear hs1 hg1 c0 f0 c1 f1 c2 f2 c3 f3 c4 f4
    obtain ⟨c0, f0, c1, f1, c2, f2, c3, f3, c4, f4⟩ := F23.out
    cases b6 with
    | true =>
      go_wp2_with fail
      go_ret
      exact ⟨⟨dd, rfl, by have := HDD.out.2; omega⟩, D23.out.src, D23.out.grown⟩
    | false =>
      go_wp2_with fail
      refine (HPr.out _).mono ?_
      rintro e V24 ⟨rfl, rfl⟩
      cases bp with
      | false =>
        go_wp2_with fail
        go_ret
        exact ⟨⟨dd, rfl, by have := HDD.out.2; omega⟩, D23.out.src, D23.out.grown⟩
      | true =>
        go_wp2_with fail
        refine (specCSum_any s d p dd _ hs0 hd0 hp (by have := HDD.out.2; omega)).mono ?_
        rintro e V25 ⟨sm, rfl, sm0, sm1, hb⟩
        have D25 : Hid _ := D23.out.below hb
        have F25 : Hid _ := F23.out.drawn (EB.of hb) hXB
        clear hb c0 f0 c1 f1 c2 f2 c3 f3 c4 f4
        go_wp2_with fail
        refine (drawOne_any 15 B a len cap size _ (by omega) hl D25.out.src).mono ?_
        rintro e V26 ⟨b15, rfl, hs1, hg1⟩
        have D26 : Hid _ := D25.out.draw hs1 hg1
        have F26 : Hid _ := F25.out.drawn hg1 hXB
        clear hs1 hg1 D25 F25
        cases b15 with
        | false =>
          obtain ⟨c0, f0, c1, f1, c2, f2, c3, f3, c4, f4⟩ := F26.out
          go_upto_region 18 with fail
          go_wp2_with fail
          refine (HCk.out _).mono ?_
          rintro e V27 ⟨rfl, rfl⟩
          go_wp2_with fail
          refine (specTwo_any (65535 - sm) _ (by omega) (by omega)).mono ?_
          rintro e Y27 ⟨rfl, hb27⟩
          have D27 : Hid _ := D26.out.below hb27
          clear hb27 c0 f0 c1 f1 c2 f2 c3 f3 c4 f4
          go_wp2_with fail
          refine (specPut_any dd (checkAt p) (twoV (65535 - sm)) _ (by rw [twoV_size]; exact HDD.out.1) (by have := HDD.out.2; omega)).mono ?_
          rintro e Z27 ⟨u, rfl, hu, hb⟩
          have E27 : Hid _ := D27.out.below hb
          clear hb
          go_wp2_with fail
          go_ret
          exact ⟨⟨u, rfl, by have := HDD.out.2; omega⟩, E27.out.src, E27.out.grown⟩
        | true =>
          go_wp2_with fail
          refine (drawN_any 65536 B a len cap size _ (by omega) hl D26.out.src).mono ?_
          rintro e V28 ⟨rn, rfl, rn0, rn1, hs1, hg1⟩
          have D28 : Hid _ := D26.out.draw hs1 hg1
          have F28 : Hid _ := F26.out.drawn hg1 hXB
          have rn2 : rn ≤ 65535 := by omega
          clear hs1 hg1 D26 F26 rn1
          obtain ⟨c0, f0, c1, f1, c2, f2, c3, f3, c4, f4⟩ := F28.out
          go_upto_region 18 with fail
          go_wp2_with fail
          refine (HCk.out _).mono ?_
          rintro e V29 ⟨rfl, rfl⟩
          go_wp2_with fail
          refine (specTwo_any rn _ (by omega) (by omega)).mono ?_
          rintro e Y29 ⟨rfl, hb29⟩
          have D29 : Hid _ := D28.out.below hb29
          clear hb29 c0 f0 c1 f1 c2 f2 c3 f3 c4 f4
          go_wp2_with fail
          refine (specPut_any dd (checkAt p) (twoV rn) _ (by rw [twoV_size]; exact HDD.out.1) (by have := HDD.out.2; omega)).mono ?_
          rintro e Z29 ⟨u, rfl, hu, hb⟩
          have E29 : Hid _ := D29.out.below hb
          clear hb
          go_wp2_with fail
          go_ret
          exact ⟨⟨u, rfl, by have := HDD.out.2; omega⟩, E29.out.src, E29.out.grown⟩
  have d17 : (p == 17) = false := by simp [h17]
  by_cases h6 : p = 6
  · have d6 : (p == 6) = true := by simp [h6]
    have HCK : Hid (checkAt p = 16) := by rw [h6]; rfl
    clear h6 h17
    go_upto_region 10 with fail
    have n1 : ¬ 9223372036854775807 < 20 + rest.size := by omega
    refine wp_region_growXU (EB B) (fun wx => Dr w B a len cap size wx ∧ BoxF wx w.heap.size p s d x y) (Rs := [XV (.string d4), XV (.pointer (some ⟨B, 0, none⟩)), XS 8, XS 12, XV (.int .u8 fl), XRow2 B 80 fl, XS 2, XS 14, XS 20, XV (.string rest), XS (20 + rest.size)]) [53, 54, 55, 56, 57, 58, 59, 60, 61, 62, 63] _ (by kernel_rfl) rfl (by kernel_rfl) rfl ⟨D4.out.below (Below.refl _ _).drew, F4.out.drawn (EB.of (Below.refl _ _).drew) hXB⟩ ?st ?steps ?lst
    case st => simp [st_XV, st_XS, st_XRow2]
    case steps =>
      refine ⟨?s0, ?s1, ?s2, ?s3, ?s4, ?s5, ?s6, ?s7, ?s8, ?s9, ?s10, trivial⟩
      case s0 =>
        intro K' act wy ho hd ⟨hI1, hI2⟩ hK
        have h3 := ho 7 (by decide)
        simp [slot] at h3
        clear hd
        go_simp
        exact hK _ _ rfl (EB.of (Below.refl _ _)) ⟨hI1, hI2⟩
      case s1 =>
        intro K' act wy ho hd ⟨hI1, hI2⟩ hK
        have h3 := ho 0 (by decide)
        simp [slot] at h3
        clear hd
        go_simp
        exact hK _ _ rfl (EB.of (Below.refl _ _)) ⟨hI1, hI2⟩
      case s2 =>
        intro K' act wy ho hd ⟨hI1, hI2⟩ hK
        have q1 : XV (.pointer (some ⟨B, 0, none⟩)) (slot act 54) wy := hd ⟨1, .data⟩ (by simp) rfl
        clear hd
        unfold XV at q1
        simp [slot] at q1
        go_simp
        refine (drawBytes_any 8 B a len cap size wy (by omega) hl hI1.src).mono ?_
        rintro e wz ⟨u, rfl, hu, hsz, hgz⟩
        exact hK _ _ ⟨u, rfl, hu⟩ hgz ⟨hI1.draw hsz hgz, hI2.drawn hgz hXB⟩
      case s3 =>
        intro K' act wy ho hd ⟨hI1, hI2⟩ hK
        have q0 : XV (.string d4) (slot act 53) wy := hd ⟨0, .data⟩ (by simp) rfl
        have q2 : XS 8 (slot act 55) wy := hd ⟨2, .data⟩ (by simp) rfl
        clear hd
        unfold XV at q0
        simp [slot] at q0
        obtain ⟨u2, q2, z2⟩ := q2
        simp [slot] at q2
        go_simp
        exact hK _ _ ⟨d4 ++ u2, rfl, by rw [ByteArray.size_append]; omega⟩ (EB.of (Below.refl _ _)) ⟨hI1, hI2⟩
      case s4 =>
        intro K' act wy ho hd ⟨hI1, hI2⟩ hK
        have h3 := ho 5 (by decide)
        simp [slot] at h3
        clear hd
        go_simp
        exact hK _ _ rfl (EB.of (Below.refl _ _)) ⟨hI1, hI2⟩
      case s5 =>
        intro K' act wy ho hd ⟨hI1, hI2⟩ hK
        have q4 : XV (.int .u8 fl) (slot act 57) wy := hd ⟨4, .data⟩ (by simp) rfl
        clear hd
        unfold XV at q4
        simp [slot] at q4
        go_simp
        exact hK _ _ ⟨wy.heap.size, rfl, by have := hI1.le; omega, cell_new rfl, cell_new rfl⟩ (EB.of ((Below.refl _ _).alloc (Nat.le_refl _) _)) ⟨hI1.alloc _, hI2.drawn (EB.of ((Below.refl _ _).alloc (Nat.le_refl _) _)) hXB⟩
      case s6 =>
        intro K' act wy ho hd ⟨hI1, hI2⟩ hK
        have q5 : XRow2 B 80 fl (slot act 58) wy := hd ⟨5, .data⟩ (by simp) rfl
        clear hd
        obtain ⟨b5, q5, nb5, g5, h5⟩ := q5
        simp [slot] at q5
        have hcv := pair_conv (cap := 2) (by omega) hfl g5 h5
        go_simp
        exact hK _ _ ⟨_, rfl, rfl⟩ (EB.of (Below.refl _ _)) ⟨hI1, hI2⟩
      case s7 =>
        intro K' act wy ho hd ⟨hI1, hI2⟩ hK
        have q3 : XS 12 (slot act 56) wy := hd ⟨3, .data⟩ (by simp) rfl
        have q6 : XS 2 (slot act 59) wy := hd ⟨6, .data⟩ (by simp) rfl
        clear hd
        obtain ⟨u3, q3, z3⟩ := q3
        simp [slot] at q3
        obtain ⟨u6, q6, z6⟩ := q6
        simp [slot] at q6
        go_simp
        exact hK _ _ ⟨u3 ++ u6, rfl, by rw [ByteArray.size_append]; omega⟩ (EB.of (Below.refl _ _)) ⟨hI1, hI2⟩
      case s8 =>
        intro K' act wy ho hd ⟨hI1, hI2⟩ hK
        have q7 : XS 14 (slot act 60) wy := hd ⟨7, .data⟩ (by simp) rfl
        clear hd
        obtain ⟨u7, q7, z7⟩ := q7
        simp [slot] at q7
        go_simp
        exact hK _ _ ⟨_, rfl, by rw [ByteArray.size_append]; have : (ByteArray.mk #[16, 0, 0, 0, 0, 0]).size = 6 := rfl; omega⟩ (EB.of (Below.refl _ _)) ⟨hI1, hI2⟩
      case s9 =>
        intro K' act wy ho hd ⟨hI1, hI2⟩ hK
        have h3 := ho 6 (by decide)
        simp [slot] at h3
        clear hd
        go_simp
        exact hK _ _ rfl (EB.of (Below.refl _ _)) ⟨hI1, hI2⟩
      case s10 =>
        intro K' act wy ho hd ⟨hI1, hI2⟩ hK
        have q8 : XS 20 (slot act 61) wy := hd ⟨8, .data⟩ (by simp) rfl
        have q9 : XV (.string rest) (slot act 62) wy := hd ⟨9, .data⟩ (by simp) rfl
        clear hd
        obtain ⟨u8, q8, z8⟩ := q8
        simp [slot] at q8
        unfold XV at q9
        simp [slot] at q9
        go_simp
        exact hK _ _ ⟨u8 ++ rest, rfl, by rw [ByteArray.size_append]; omega⟩ (EB.of (Below.refl _ _)) ⟨hI1, hI2⟩
    case lst =>
      intro X act K' wz ha hsl hR ⟨hI1, hI2⟩ hK
      have HAct : Hid (act = _) := ha
      clear ha
      obtain ⟨z0, z1, z2, z3, z4, z5, z6, z7, z8, z9, ⟨dd, z10, hdz⟩, -⟩ := hR
      have s63 := hsl 10 (by decide)
      rw [z10] at s63
      simp [slot] at s63
      clear hsl
      go_simp
      refine hK _ _ ?_
      rw [HAct.out]
      simp only [putsFrom, z10]
      clear s63 HAct hK z0 z1 z2 z3 z4 z5 z6 z7 z8 z9 z10
      go_simp
      have D5 : Hid _ := hI1
      have F5 : Hid _ := hI2
      have HDD : Hid (checkAt p + 2 ≤ dd.size ∧ dd.size ≤ 60) := by have := HCK.out; unfold Hid; omega
      clear hI1 hI2 hdz D4 F4 c0 n1
      obtain ⟨c0, f0, c1, f1, c2, f2, c3, f3, c4, f4⟩ := F5.out
      go_upto_region 13 with fail
      have hun : undef = Value.tuple #[] := rfl
      go_wp2_with fail
      refine (HPr.out _).mono ?_
      rintro e V11 ⟨rfl, rfl⟩
      cases bp with
      | false =>
        go_wp2_with fail
        go_ret
        exact ⟨⟨dd, rfl, by have := HDD.out.2; omega⟩, D5.out.src, D5.out.grown⟩
      | true =>
        go_wp2_with fail
        refine (specCSum_any s d p dd _ hs0 hd0 hp (by have := HDD.out.2; omega)).mono ?_
        rintro e V12 ⟨sm, rfl, sm0, sm1, hb⟩
        have D12 : Hid _ := D5.out.below hb
        have F12 : Hid _ := F5.out.drawn (EB.of hb) hXB
        clear hb c0 f0 c1 f1 c2 f2 c3 f3 c4 f4
        go_wp2_with fail
        refine (drawOne_any 15 B a len cap size _ (by omega) hl D12.out.src).mono ?_
        rintro e V13 ⟨b15, rfl, hs1, hg1⟩
        have D13 : Hid _ := D12.out.draw hs1 hg1
        have F13 : Hid _ := F12.out.drawn hg1 hXB
        clear hs1 hg1 D12 F12
        cases b15 with
        | false =>
          obtain ⟨c0, f0, c1, f1, c2, f2, c3, f3, c4, f4⟩ := F13.out
          go_upto_region 18 with fail
          go_wp2_with fail
          refine (HCk.out _).mono ?_
          rintro e V14 ⟨rfl, rfl⟩
          go_wp2_with fail
          refine (specTwo_any (65535 - sm) _ (by omega) (by omega)).mono ?_
          rintro e Y14 ⟨rfl, hb14⟩
          have D14 : Hid _ := D13.out.below hb14
          clear hb14 c0 f0 c1 f1 c2 f2 c3 f3 c4 f4
          go_wp2_with fail
          refine (specPut_any dd (checkAt p) (twoV (65535 - sm)) _ (by rw [twoV_size]; exact HDD.out.1) (by have := HDD.out.2; omega)).mono ?_
          rintro e Z14 ⟨u, rfl, hu, hb⟩
          have E14 : Hid _ := D14.out.below hb
          clear hb
          go_wp2_with fail
          go_ret
          exact ⟨⟨u, rfl, by have := HDD.out.2; omega⟩, E14.out.src, E14.out.grown⟩
        | true =>
          go_wp2_with fail
          refine (drawN_any 65536 B a len cap size _ (by omega) hl D13.out.src).mono ?_
          rintro e V15 ⟨rn, rfl, rn0, rn1, hs1, hg1⟩
          have D15 : Hid _ := D13.out.draw hs1 hg1
          have F15 : Hid _ := F13.out.drawn hg1 hXB
          have rn2 : rn ≤ 65535 := by omega
          clear hs1 hg1 D13 F13 rn1
          obtain ⟨c0, f0, c1, f1, c2, f2, c3, f3, c4, f4⟩ := F15.out
          go_upto_region 18 with fail
          go_wp2_with fail
          refine (HCk.out _).mono ?_
          rintro e V16 ⟨rfl, rfl⟩
          go_wp2_with fail
          refine (specTwo_any rn _ (by omega) (by omega)).mono ?_
          rintro e Y16 ⟨rfl, hb16⟩
          have D16 : Hid _ := D15.out.below hb16
          clear hb16 c0 f0 c1 f1 c2 f2 c3 f3 c4 f4
          go_wp2_with fail
          refine (specPut_any dd (checkAt p) (twoV rn) _ (by rw [twoV_size]; exact HDD.out.1) (by have := HDD.out.2; omega)).mono ?_
          rintro e Z16 ⟨u, rfl, hu, hb⟩
          have E16 : Hid _ := D16.out.below hb
          clear hb
          go_wp2_with fail
          go_ret
          exact ⟨⟨u, rfl, by have := HDD.out.2; omega⟩, E16.out.src, E16.out.grown⟩
  have d6 : (p == 6) = false := by simp [h6]
  have HCK : Hid (checkAt p = 2) := by unfold Hid checkAt; rw [if_neg h6, if_neg h17]
  clear h6 h17
  have hW4 : B < wc.heap.size := by omega
  go_wp2_with fail
  refine (drawN_more 2 B a len cap size _ (by omega) (by omega) hl (D4.out.alloc _).src).mono ?_
  rintro e W5 ⟨r, rfl, r0, r1, hs1, hg1⟩
  obtain ⟨k, rfl⟩ := Int.eq_ofNat_of_zero_le r0
  obtain ⟨v, hcell, f8, rfl, hf8⟩ := pick_cell (k := k) (p := fun v => ∃ x, v = .int .u8 x ∧ (0 ≤ x ∧ x ≤ 255)) (cs := [.int .u8 8, .int .u8 0]) hg1 hW4 (by simp; omega) (by simp)
  have D5 : Hid (Dr w B a len cap size W5) := (D4.out.alloc _).draw hs1 hg1
  have F5 : Hid (BoxF W5 w.heap.size p s d x y) := (F4.out.drawn (EB.of ((Below.refl _ _).alloc (Nat.le_refl _) _)) hXB).drawn hg1 hXB
  have r1' : (k : Int) < 2 := by omega
  clear hs1 hg1 D4 F4 r0 r1 c0
  go_upto_region 6 with fail
  clear hcell r1'
  have c0 := F5.out.c0
  go_upto_if 35 with fail
  go_cut [8] (fun v wx => ∃ f, v = .int .u8 f ∧ (0 ≤ f ∧ f ≤ 255) ∧ Dr w B a len cap size wx ∧ BoxF wx w.heap.size p s d x y)
  case first =>
    by_cases h58 : p = 58
    · have d58 : (p == 58) = true := by simp [h58]
      have hW5 : B < W5.heap.size := by have := D5.out.le; omega
      clear h58
      go_wp2_with fail
      refine (drawN_more 2 B a len cap size _ (by omega) (by omega) hl (D5.out.alloc _).src).mono ?_
      rintro e W6 ⟨r, rfl, r0, r1, hs1, hg1⟩
      obtain ⟨k2, rfl⟩ := Int.eq_ofNat_of_zero_le r0
      obtain ⟨v, hcell, f9, rfl, hf9⟩ := pick_cell (k := k2) (p := fun v => ∃ x, v = .int .u8 x ∧ (0 ≤ x ∧ x ≤ 255)) (cs := [.int .u8 128, .int .u8 129]) hg1 hW5 (by simp; omega) (by simp)
      have D6 : Hid (Dr w B a len cap size W6) := (D5.out.alloc _).draw hs1 hg1
      have F6 : Hid (BoxF W6 w.heap.size p s d x y) := (F5.out.drawn (EB.of ((Below.refl _ _).alloc (Nat.le_refl _) _)) hXB).drawn hg1 hXB
      have r1' : (k2 : Int) < 2 := by omega
      clear hs1 hg1 r0 r1
      go_wp2_with fail
      go_meet
      exact ⟨f9, rfl, hf9, D6.out, F6.out⟩
    · have d58 : (p == 58) = false := by simp [h58]
      go_wp2_with fail
      go_meet
      exact ⟨f8, rfl, hf8, D5.out, F5.out⟩
  case rest =>
  obtain ⟨f, rfl, hf, hD, hF⟩ := hcut
  have D6 : Hid _ := hD
  have F6 : Hid _ := hF
  clear hD hF D5 F5 c0 hf8 d17 d6
  go_upto_region 8 with fail
  have zx := twoV_size x
  have zq := quadV_size f 0
  have n0 : ¬ 9223372036854775807 < (quadV f 0).size + (twoV x).size := by omega
  have n1 : ¬ 9223372036854775807 < (quadV f 0).size + (twoV x).size + rest.size := by omega
  have n2 : ¬ 9223372036854775807 < (quadV f 0).size + (twoV x).size + rest.size + (ByteArray.mk #[97, 98]).size := by have : (ByteArray.mk #[97, 98]).size = 2 := rfl; omega
  have n3 : ¬ 9223372036854775807 < 4 + 2 + rest.size := by omega
  have n4 : ¬ 9223372036854775807 < 4 + 2 + rest.size + 2 := by omega
  have n5 : ¬ 9223372036854775807 < 6 + rest.size := by omega
  have n6 : ¬ 9223372036854775807 < 6 + rest.size + 2 := by omega
  have hdz : (quadV f 0 ++ twoV x ++ rest ++ ByteArray.mk #[97, 98]).size = 8 + rest.size := by simp only [ByteArray.size_append]; have : (ByteArray.mk #[97, 98]).size = 2 := rfl; omega
  obtain ⟨WC, hWC⟩ : ∃ W, W = wc := ⟨_, rfl⟩
  subst hWC
  have HK : Hid (∀ wy, Below WC.drew.heap.size WC.drew wy → BoxF wy w.heap.size p s d x y) := fun wy hy => F6.out.drawn (EB.of ((Below.refl _ WC).drew.trans hy)) hXB
  have HDZ : Hid _ := hdz
  clear hdz
  refine wp_region_growL (Rs := [IsV (.int .u8 f), IsQuad (f) (0), IsV (.string (quadV f 0)), IsV (.pointer (some ⟨w.heap.size, 3, none⟩)), IsV (.int .i64 x), IsV (.string (twoV x)), IsV (.string (quadV f 0 ++ twoV x)), IsV (.string rest), IsV (.string (quadV f 0 ++ twoV x ++ rest)), IsV (.string (quadV f 0 ++ twoV x ++ rest ++ ByteArray.mk #[97, 98])), IsV (.string (quadV f 0 ++ twoV x ++ rest ++ ByteArray.mk #[97, 98]))]) [41, 42, 43, 44, 45, 46, 47, 48, 49, 50, 7] (by kernel_rfl) (by kernel_rfl) rfl ?st ?steps ?done
  case st => simp [stable_isV, stable_isQuad]
  case steps =>
    refine ⟨?s0, ?s1, ?s2, ?s3, ?s4, ?s5, ?s6, ?s7, ?s8, ?s9, ?s10, trivial⟩
    case s0 =>
      intro K' a wy ho hd hb hK
      have h3 := ho 8 (by decide)
      simp [slot] at h3
      clear hd
      go_simp
      try go_bits
      exact hK _ _ rfl (Below.refl _ _)
    case s1 =>
      intro K' a wy ho hd hb hK
      simp [Region.binds, rAt, IsV, slot] at hd
      go_simp
      exact hK _ _ ⟨wy.heap.size, rfl, by simp, by simp, by simp, by simp⟩ ((Below.refl _ _).alloc (Nat.le_refl _) _)
    case s2 =>
      intro K' a wy ho hd hb hK
      simp only [List.forall_mem_singleton, Array.mem_def, List.mem_singleton, forall_eq] at hd
      obtain ⟨b, hd1, hd2, hd3, hd4', hd5⟩ : IsQuad (f) (0) (slot a 42) wy := hd rfl
      have hcv := quad_conv (cap := 4) hf (by omega) hd2 hd3 hd4' hd5
      simp [slot] at hd1
      go_simp
      try go_bits
      exact hK _ _ rfl (Below.refl _ _)
    case s3 =>
      intro K' a wy ho hd hb hK
      have h3 := ho 3 (by decide)
      simp [slot] at h3
      clear hd
      go_simp
      try go_bits
      exact hK _ _ rfl (Below.refl _ _)
    case s4 =>
      intro K' a wy ho hd hb hK
      simp [Region.binds, rAt, IsV, slot] at hd
      obtain ⟨c0, f0, c1, f1, c2, f2, c3, f3, c4, f4⟩ := HK.out wy hb
      go_simp
      try go_bits
      exact hK _ _ rfl (Below.refl _ _)
    case s5 =>
      intro K' a wy ho hd hb hK
      simp [Region.binds, rAt, IsV, slot] at hd
      go_simp
      refine (specTwo_any x wy (by omega) (by omega)).mono ?_
      rintro e wz ⟨rfl, hz⟩
      exact hK _ _ rfl hz
    case s6 =>
      intro K' a wy ho hd hb hK
      simp [Region.binds, rAt, IsV, slot] at hd
      go_simp
      try go_bits
      exact hK _ _ rfl (Below.refl _ _)
    case s7 =>
      intro K' a wy ho hd hb hK
      have h3 := ho 6 (by decide)
      simp [slot] at h3
      clear hd
      go_simp
      try go_bits
      exact hK _ _ rfl (Below.refl _ _)
    case s8 =>
      intro K' a wy ho hd hb hK
      simp [Region.binds, rAt, IsV, slot] at hd
      go_simp
      try go_bits
      exact hK _ _ rfl (Below.refl _ _)
    case s9 =>
      intro K' a wy ho hd hb hK
      simp [Region.binds, rAt, IsV, slot] at hd
      go_simp
      try go_bits
      exact hK _ _ rfl (Below.refl _ _)
    case s10 =>
      intro K' a wy ho hd hb hK
      simp [Region.binds, rAt, IsV, slot] at hd
      go_simp
      try go_bits
      exact hK _ _ rfl (Below.refl _ _)
  case done =>
    intro X wz hR hz
    obtain ⟨x0, ⟨b1, x1, -, -, -, -⟩, x2, x3, x4, x5, x6, x7, x8, x9, x10, -⟩ := hR
    simp only [IsV] at x0 x2 x3 x4 x5 x6 x7 x8 x9 x10
    simp only [putsFrom, x0, x1, x2, x3, x4, x5, x6, x7, x8, x9, x10]
    clear x0 x1 x2 x3 x4 x5 x6 x7 x8 x9 x10
    go_simp
    obtain ⟨dd, hdd⟩ : ∃ dd, dd = quadV f 0 ++ twoV x ++ rest ++ ByteArray.mk #[97, 98] := ⟨_, rfl⟩
    rw [← hdd] at HDZ ⊢
    have hdz := HDZ.out
    have D7 : Hid _ := D6.out.below ((Below.refl _ WC).drew.trans hz)
    have F7 : Hid _ := F6.out.drawn (EB.of ((Below.refl _ WC).drew.trans hz)) hXB
    have HDD : Hid (checkAt p + 2 ≤ dd.size ∧ dd.size ≤ 60) := by have := HCK.out; unfold Hid; omega
    clear hz hdz hdd D6 F6 HK HDZ n0 n1 n2 n3 n4 n5 n6 zx zq
    by_cases h17 : p = 17
    · have := HCK.out; rw [h17] at this; exact absurd this (by decide)
    have d17 : (p == 17) = false := by simp [h17]
    clear h17
    obtain ⟨c0, f0, c1, f1, c2, f2, c3, f3, c4, f4⟩ := F7.out
    go_upto_region 13 with fail
    have hun : undef = Value.tuple #[] := rfl
    go_wp2_with fail
    refine (HPr.out _).mono ?_
    rintro e V17 ⟨rfl, rfl⟩
    cases bp with
    | false =>
      go_wp2_with fail
      go_ret
      exact ⟨⟨dd, rfl, by have := HDD.out.2; omega⟩, D7.out.src, D7.out.grown⟩
    | true =>
      go_wp2_with fail
      refine (specCSum_any s d p dd _ hs0 hd0 hp (by have := HDD.out.2; omega)).mono ?_
      rintro e V18 ⟨sm, rfl, sm0, sm1, hb⟩
      have D18 : Hid _ := D7.out.below hb
      have F18 : Hid _ := F7.out.drawn (EB.of hb) hXB
      clear hb c0 f0 c1 f1 c2 f2 c3 f3 c4 f4
      go_wp2_with fail
      refine (drawOne_any 15 B a len cap size _ (by omega) hl D18.out.src).mono ?_
      rintro e V19 ⟨b15, rfl, hs1, hg1⟩
      have D19 : Hid _ := D18.out.draw hs1 hg1
      have F19 : Hid _ := F18.out.drawn hg1 hXB
      clear hs1 hg1 D18 F18
      cases b15 with
      | false =>
        obtain ⟨c0, f0, c1, f1, c2, f2, c3, f3, c4, f4⟩ := F19.out
        go_upto_region 18 with fail
        go_wp2_with fail
        refine (HCk.out _).mono ?_
        rintro e V20 ⟨rfl, rfl⟩
        go_wp2_with fail
        refine (specTwo_any (65535 - sm) _ (by omega) (by omega)).mono ?_
        rintro e Y20 ⟨rfl, hb20⟩
        have D20 : Hid _ := D19.out.below hb20
        clear hb20 c0 f0 c1 f1 c2 f2 c3 f3 c4 f4
        go_wp2_with fail
        refine (specPut_any dd (checkAt p) (twoV (65535 - sm)) _ (by rw [twoV_size]; exact HDD.out.1) (by have := HDD.out.2; omega)).mono ?_
        rintro e Z20 ⟨u, rfl, hu, hb⟩
        have E20 : Hid _ := D20.out.below hb
        clear hb
        go_wp2_with fail
        go_ret
        exact ⟨⟨u, rfl, by have := HDD.out.2; omega⟩, E20.out.src, E20.out.grown⟩
      | true =>
        go_wp2_with fail
        refine (drawN_any 65536 B a len cap size _ (by omega) hl D19.out.src).mono ?_
        rintro e V21 ⟨rn, rfl, rn0, rn1, hs1, hg1⟩
        have D21 : Hid _ := D19.out.draw hs1 hg1
        have F21 : Hid _ := F19.out.drawn hg1 hXB
        have rn2 : rn ≤ 65535 := by omega
        clear hs1 hg1 D19 F19 rn1
        obtain ⟨c0, f0, c1, f1, c2, f2, c3, f3, c4, f4⟩ := F21.out
        go_upto_region 18 with fail
        go_wp2_with fail
        refine (HCk.out _).mono ?_
        rintro e V22 ⟨rfl, rfl⟩
        go_wp2_with fail
        refine (specTwo_any rn _ (by omega) (by omega)).mono ?_
        rintro e Y22 ⟨rfl, hb22⟩
        have D22 : Hid _ := D21.out.below hb22
        clear hb22 c0 f0 c1 f1 c2 f2 c3 f3 c4 f4
        go_wp2_with fail
        refine (specPut_any dd (checkAt p) (twoV rn) _ (by rw [twoV_size]; exact HDD.out.1) (by have := HDD.out.2; omega)).mono ?_
        rintro e Z22 ⟨u, rfl, hu, hb⟩
        have E22 : Hid _ := D22.out.below hb
        clear hb
        go_wp2_with fail
        go_ret
        exact ⟨⟨u, rfl, by have := HDD.out.2; omega⟩, E22.out.src, E22.out.grown⟩

end Go.Proofs.Ytofhcplnnamcdaa

/- DrawV: boxes of packets that are drawn. Printed by mkdrawv.py. -/
namespace Go.Proofs.Ytofhcplnnamcdaa
open Go.RowKit Go.PlainAid
set_option linter.unusedVariables false
set_option linter.unusedSimpArgs false

theorem drawBytesI (m : Nat) (mi : Int) (hmi : mi = m) (B : Nat) (a : Option Addr) (len cap : Nat) (size : Int) (w : World) (hm : m ≤ 100000) (hl : len ≤ 1048576) (hs : Src w B a len cap size) :
    Calls Try.prog 49 #[.pointer (some ⟨B, 0, none⟩), .int .i64 mi] w fun e w' => ∃ s : ByteArray, e = .returned (.string s) ∧ s.size = m ∧ Src w' B a len cap size ∧ w.grownBy w' (some B) := by
  subst hmi; exact drawBytes_any m B a len cap size w hm hl hs

theorem BoxW4.drawn {w w' : World} {X B : Nat} {p : P4} (h : BoxW4 w X p) (he : EB B w w') (hX : X ≠ B) : BoxW4 w' X p := by
  have hb := World.block_lt_of_cell? w _ h.c0
  have hk : w'.heap[X]? = w.heap[X]? := World.grownBy.block he X hb (by simp; exact hX)
  have hc : ∀ j, w'.cell? ⟨X, j, none⟩ = w.cell? ⟨X, j, none⟩ := fun j => World.cell?_of_block hk
  have hf : ∀ j, w'.frozen? ⟨X, j, none⟩ = w.frozen? ⟨X, j, none⟩ := fun j => World.frozen?_of_block hk
  exact ⟨(hc 0).trans h.c0, (hf 0).trans h.f0, (hc 1).trans h.c1, (hf 1).trans h.f1, (hc 2).trans h.c2, (hf 2).trans h.f2, (hc 3).trans h.c3, (hf 3).trans h.f3, (hc 4).trans h.c4, (hf 4).trans h.f4, (hc 5).trans h.c5, (hf 5).trans h.f5, (hc 6).trans h.c6, (hf 6).trans h.f6, (hc 7).trans h.c7, (hf 7).trans h.f7, (hc 8).trans h.c8, (hf 8).trans h.f8, (hc 9).trans h.c9, (hf 9).trans h.f9, (hc 10).trans h.c10, (hf 10).trans h.f10⟩
theorem BoxW4.made (w : World) (p : P4) {t : TypeId} : BoxW4 (w.alloc (.cells #[.int .i64 p.tos, .int .i64 p.id, .bool p.whole, .bool p.more, .int .i64 p.off, .int .i64 p.ttl, .int .i64 p.proto, .string p.src, .string p.dst, .string p.opts, .string p.data] t)) w.heap.size p := ⟨cell_new rfl, by simp, cell_new rfl, by simp, cell_new rfl, by simp, cell_new rfl, by simp, cell_new rfl, by simp, cell_new rfl, by simp, cell_new rfl, by simp, cell_new rfl, by simp, cell_new rfl, by simp, cell_new rfl, by simp, cell_new rfl, by simp⟩
/-- What is known of a drawn packet. -/
def Bd4 (p : P4) : Prop := In64t p.tos ∧ In64t p.id ∧ In64t p.off ∧ In64t p.ttl ∧ In64t p.proto ∧ p.src.size ≤ 1500 ∧ p.dst.size ≤ 1500 ∧ p.opts.size ≤ 1500 ∧ p.data.size ≤ 1500
/-- Where a draw of a packet stands. -/
structure DS4 (w : World) (B : Nat) (a : Option Addr) (len cap : Nat) (size : Int) (O Pb : Nat) (wx : World) (p : P4) : Prop where
  dr : Dr w B a len cap size wx
  out : BoxW4 wx O p4Zero
  box : BoxW4 wx Pb p
  hO : w.heap.size ≤ O
  hP : w.heap.size ≤ Pb
  OP : O ≠ Pb
  bd : Bd4 p
section
variable {w wx wy : World} {B len cap : Nat} {a : Option Addr} {size : Int} {O Pb : Nat} {p : P4}
theorem DS4.draw (h : DS4 w B a len cap size O Pb wx p) (hs : Src wy B a len cap size) (hg : wx.grownBy wy (some B)) : DS4 w B a len cap size O Pb wy p := by
  have := h.dr.hB; have := h.hO; have := h.hP
  exact ⟨h.dr.draw hs hg, h.out.drawn hg (by omega), h.box.drawn hg (by omega), h.hO, h.hP, h.OP, h.bd⟩
theorem DS4.below (h : DS4 w B a len cap size O Pb wx p) (hb : Below wx.heap.size wx wy) : DS4 w B a len cap size O Pb wy p := ⟨h.dr.below hb, h.out.kept hb, h.box.kept hb, h.hO, h.hP, h.OP, h.bd⟩
theorem DS4.set0 (h : DS4 w B a len cap size O Pb wx p) (x : Int) (hb : Bd4 { p with tos := x }) : DS4 w B a len cap size O Pb (wx.setCell ⟨Pb, 0, none⟩ (.int .i64 x)) { p with tos := x } :=
  ⟨h.dr.set _ _ _ h.hP, h.out.other _ h.OP.symm, h.box.set0 x, h.hO, h.hP, h.OP, hb⟩
theorem DS4.set1 (h : DS4 w B a len cap size O Pb wx p) (x : Int) (hb : Bd4 { p with id := x }) : DS4 w B a len cap size O Pb (wx.setCell ⟨Pb, 1, none⟩ (.int .i64 x)) { p with id := x } :=
  ⟨h.dr.set _ _ _ h.hP, h.out.other _ h.OP.symm, h.box.set1 x, h.hO, h.hP, h.OP, hb⟩
theorem DS4.set2 (h : DS4 w B a len cap size O Pb wx p) (x : Bool) (hb : Bd4 { p with whole := x }) : DS4 w B a len cap size O Pb (wx.setCell ⟨Pb, 2, none⟩ (.bool x)) { p with whole := x } :=
  ⟨h.dr.set _ _ _ h.hP, h.out.other _ h.OP.symm, h.box.set2 x, h.hO, h.hP, h.OP, hb⟩
theorem DS4.set3 (h : DS4 w B a len cap size O Pb wx p) (x : Bool) (hb : Bd4 { p with more := x }) : DS4 w B a len cap size O Pb (wx.setCell ⟨Pb, 3, none⟩ (.bool x)) { p with more := x } :=
  ⟨h.dr.set _ _ _ h.hP, h.out.other _ h.OP.symm, h.box.set3 x, h.hO, h.hP, h.OP, hb⟩
theorem DS4.set4 (h : DS4 w B a len cap size O Pb wx p) (x : Int) (hb : Bd4 { p with off := x }) : DS4 w B a len cap size O Pb (wx.setCell ⟨Pb, 4, none⟩ (.int .i64 x)) { p with off := x } :=
  ⟨h.dr.set _ _ _ h.hP, h.out.other _ h.OP.symm, h.box.set4 x, h.hO, h.hP, h.OP, hb⟩
theorem DS4.set5 (h : DS4 w B a len cap size O Pb wx p) (x : Int) (hb : Bd4 { p with ttl := x }) : DS4 w B a len cap size O Pb (wx.setCell ⟨Pb, 5, none⟩ (.int .i64 x)) { p with ttl := x } :=
  ⟨h.dr.set _ _ _ h.hP, h.out.other _ h.OP.symm, h.box.set5 x, h.hO, h.hP, h.OP, hb⟩
theorem DS4.set6 (h : DS4 w B a len cap size O Pb wx p) (x : Int) (hb : Bd4 { p with proto := x }) : DS4 w B a len cap size O Pb (wx.setCell ⟨Pb, 6, none⟩ (.int .i64 x)) { p with proto := x } :=
  ⟨h.dr.set _ _ _ h.hP, h.out.other _ h.OP.symm, h.box.set6 x, h.hO, h.hP, h.OP, hb⟩
theorem DS4.set7 (h : DS4 w B a len cap size O Pb wx p) (x : ByteArray) (hb : Bd4 { p with src := x }) : DS4 w B a len cap size O Pb (wx.setCell ⟨Pb, 7, none⟩ (.string x)) { p with src := x } :=
  ⟨h.dr.set _ _ _ h.hP, h.out.other _ h.OP.symm, h.box.set7 x, h.hO, h.hP, h.OP, hb⟩
theorem DS4.set8 (h : DS4 w B a len cap size O Pb wx p) (x : ByteArray) (hb : Bd4 { p with dst := x }) : DS4 w B a len cap size O Pb (wx.setCell ⟨Pb, 8, none⟩ (.string x)) { p with dst := x } :=
  ⟨h.dr.set _ _ _ h.hP, h.out.other _ h.OP.symm, h.box.set8 x, h.hO, h.hP, h.OP, hb⟩
theorem DS4.set9 (h : DS4 w B a len cap size O Pb wx p) (x : ByteArray) (hb : Bd4 { p with opts := x }) : DS4 w B a len cap size O Pb (wx.setCell ⟨Pb, 9, none⟩ (.string x)) { p with opts := x } :=
  ⟨h.dr.set _ _ _ h.hP, h.out.other _ h.OP.symm, h.box.set9 x, h.hO, h.hP, h.OP, hb⟩
theorem DS4.set10 (h : DS4 w B a len cap size O Pb wx p) (x : ByteArray) (hb : Bd4 { p with data := x }) : DS4 w B a len cap size O Pb (wx.setCell ⟨Pb, 10, none⟩ (.string x)) { p with data := x } :=
  ⟨h.dr.set _ _ _ h.hP, h.out.other _ h.OP.symm, h.box.set10 x, h.hO, h.hP, h.OP, hb⟩
end
theorem BoxW6.drawn {w w' : World} {X B : Nat} {p : P6} (h : BoxW6 w X p) (he : EB B w w') (hX : X ≠ B) : BoxW6 w' X p := by
  have hb := World.block_lt_of_cell? w _ h.c0
  have hk : w'.heap[X]? = w.heap[X]? := World.grownBy.block he X hb (by simp; exact hX)
  have hc : ∀ j, w'.cell? ⟨X, j, none⟩ = w.cell? ⟨X, j, none⟩ := fun j => World.cell?_of_block hk
  have hf : ∀ j, w'.frozen? ⟨X, j, none⟩ = w.frozen? ⟨X, j, none⟩ := fun j => World.frozen?_of_block hk
  exact ⟨(hc 0).trans h.c0, (hf 0).trans h.f0, (hc 1).trans h.c1, (hf 1).trans h.f1, (hc 2).trans h.c2, (hf 2).trans h.f2, (hc 3).trans h.c3, (hf 3).trans h.f3, (hc 4).trans h.c4, (hf 4).trans h.f4, (hc 5).trans h.c5, (hf 5).trans h.f5, (hc 6).trans h.c6, (hf 6).trans h.f6, (hc 7).trans h.c7, (hf 7).trans h.f7, (hc 8).trans h.c8, (hf 8).trans h.f8, (hc 9).trans h.c9, (hf 9).trans h.f9, (hc 10).trans h.c10, (hf 10).trans h.f10⟩
theorem BoxW6.made (w : World) (p : P6) {t : TypeId} : BoxW6 (w.alloc (.cells #[.int .i64 p.cls, .int .i64 p.flow, .int .i64 p.next, .int .i64 p.hops, .string p.src, .string p.dst, .bool p.piece, .bool p.more, .int .i64 p.off, .int .i64 p.id, .string p.data] t)) w.heap.size p := ⟨cell_new rfl, by simp, cell_new rfl, by simp, cell_new rfl, by simp, cell_new rfl, by simp, cell_new rfl, by simp, cell_new rfl, by simp, cell_new rfl, by simp, cell_new rfl, by simp, cell_new rfl, by simp, cell_new rfl, by simp, cell_new rfl, by simp⟩
/-- What is known of a drawn packet. -/
def Bd6 (p : P6) : Prop := In64t p.cls ∧ In64t p.flow ∧ In64t p.next ∧ In64t p.hops ∧ In64t p.off ∧ In64t p.id ∧ p.src.size ≤ 1500 ∧ p.dst.size ≤ 1500 ∧ p.data.size ≤ 1500
/-- Where a draw of a packet stands. -/
structure DS6 (w : World) (B : Nat) (a : Option Addr) (len cap : Nat) (size : Int) (O Pb : Nat) (wx : World) (p : P6) : Prop where
  dr : Dr w B a len cap size wx
  out : BoxW6 wx O p6Zero
  box : BoxW6 wx Pb p
  hO : w.heap.size ≤ O
  hP : w.heap.size ≤ Pb
  OP : O ≠ Pb
  bd : Bd6 p
section
variable {w wx wy : World} {B len cap : Nat} {a : Option Addr} {size : Int} {O Pb : Nat} {p : P6}
theorem DS6.draw (h : DS6 w B a len cap size O Pb wx p) (hs : Src wy B a len cap size) (hg : wx.grownBy wy (some B)) : DS6 w B a len cap size O Pb wy p := by
  have := h.dr.hB; have := h.hO; have := h.hP
  exact ⟨h.dr.draw hs hg, h.out.drawn hg (by omega), h.box.drawn hg (by omega), h.hO, h.hP, h.OP, h.bd⟩
theorem DS6.below (h : DS6 w B a len cap size O Pb wx p) (hb : Below wx.heap.size wx wy) : DS6 w B a len cap size O Pb wy p := ⟨h.dr.below hb, h.out.kept hb, h.box.kept hb, h.hO, h.hP, h.OP, h.bd⟩
theorem DS6.set0 (h : DS6 w B a len cap size O Pb wx p) (x : Int) (hb : Bd6 { p with cls := x }) : DS6 w B a len cap size O Pb (wx.setCell ⟨Pb, 0, none⟩ (.int .i64 x)) { p with cls := x } :=
  ⟨h.dr.set _ _ _ h.hP, h.out.other _ h.OP.symm, h.box.set0 x, h.hO, h.hP, h.OP, hb⟩
theorem DS6.set1 (h : DS6 w B a len cap size O Pb wx p) (x : Int) (hb : Bd6 { p with flow := x }) : DS6 w B a len cap size O Pb (wx.setCell ⟨Pb, 1, none⟩ (.int .i64 x)) { p with flow := x } :=
  ⟨h.dr.set _ _ _ h.hP, h.out.other _ h.OP.symm, h.box.set1 x, h.hO, h.hP, h.OP, hb⟩
theorem DS6.set2 (h : DS6 w B a len cap size O Pb wx p) (x : Int) (hb : Bd6 { p with next := x }) : DS6 w B a len cap size O Pb (wx.setCell ⟨Pb, 2, none⟩ (.int .i64 x)) { p with next := x } :=
  ⟨h.dr.set _ _ _ h.hP, h.out.other _ h.OP.symm, h.box.set2 x, h.hO, h.hP, h.OP, hb⟩
theorem DS6.set3 (h : DS6 w B a len cap size O Pb wx p) (x : Int) (hb : Bd6 { p with hops := x }) : DS6 w B a len cap size O Pb (wx.setCell ⟨Pb, 3, none⟩ (.int .i64 x)) { p with hops := x } :=
  ⟨h.dr.set _ _ _ h.hP, h.out.other _ h.OP.symm, h.box.set3 x, h.hO, h.hP, h.OP, hb⟩
theorem DS6.set4 (h : DS6 w B a len cap size O Pb wx p) (x : ByteArray) (hb : Bd6 { p with src := x }) : DS6 w B a len cap size O Pb (wx.setCell ⟨Pb, 4, none⟩ (.string x)) { p with src := x } :=
  ⟨h.dr.set _ _ _ h.hP, h.out.other _ h.OP.symm, h.box.set4 x, h.hO, h.hP, h.OP, hb⟩
theorem DS6.set5 (h : DS6 w B a len cap size O Pb wx p) (x : ByteArray) (hb : Bd6 { p with dst := x }) : DS6 w B a len cap size O Pb (wx.setCell ⟨Pb, 5, none⟩ (.string x)) { p with dst := x } :=
  ⟨h.dr.set _ _ _ h.hP, h.out.other _ h.OP.symm, h.box.set5 x, h.hO, h.hP, h.OP, hb⟩
theorem DS6.set6 (h : DS6 w B a len cap size O Pb wx p) (x : Bool) (hb : Bd6 { p with piece := x }) : DS6 w B a len cap size O Pb (wx.setCell ⟨Pb, 6, none⟩ (.bool x)) { p with piece := x } :=
  ⟨h.dr.set _ _ _ h.hP, h.out.other _ h.OP.symm, h.box.set6 x, h.hO, h.hP, h.OP, hb⟩
theorem DS6.set7 (h : DS6 w B a len cap size O Pb wx p) (x : Bool) (hb : Bd6 { p with more := x }) : DS6 w B a len cap size O Pb (wx.setCell ⟨Pb, 7, none⟩ (.bool x)) { p with more := x } :=
  ⟨h.dr.set _ _ _ h.hP, h.out.other _ h.OP.symm, h.box.set7 x, h.hO, h.hP, h.OP, hb⟩
theorem DS6.set8 (h : DS6 w B a len cap size O Pb wx p) (x : Int) (hb : Bd6 { p with off := x }) : DS6 w B a len cap size O Pb (wx.setCell ⟨Pb, 8, none⟩ (.int .i64 x)) { p with off := x } :=
  ⟨h.dr.set _ _ _ h.hP, h.out.other _ h.OP.symm, h.box.set8 x, h.hO, h.hP, h.OP, hb⟩
theorem DS6.set9 (h : DS6 w B a len cap size O Pb wx p) (x : Int) (hb : Bd6 { p with id := x }) : DS6 w B a len cap size O Pb (wx.setCell ⟨Pb, 9, none⟩ (.int .i64 x)) { p with id := x } :=
  ⟨h.dr.set _ _ _ h.hP, h.out.other _ h.OP.symm, h.box.set9 x, h.hO, h.hP, h.OP, hb⟩
theorem DS6.set10 (h : DS6 w B a len cap size O Pb wx p) (x : ByteArray) (hb : Bd6 { p with data := x }) : DS6 w B a len cap size O Pb (wx.setCell ⟨Pb, 10, none⟩ (.string x)) { p with data := x } :=
  ⟨h.dr.set _ _ _ h.hP, h.out.other _ h.OP.symm, h.box.set10 x, h.hO, h.hP, h.OP, hb⟩
end
theorem grown_belowD {w wx : World} (hg : w.grownBy wx none) : Below w.heap.size w wx := ⟨hg.os, hg.tape, hg.output, hg.size, fun k hk => hg.block k hk (by simp)⟩
/-- A new row of n bytes, all 0, and its text. -/
theorem mkz (n : Nat) (w : World) (hn : n ≤ 3000) : ∃ (u : ByteArray) (W : World), (Instr.makeSlice 22 (.int .i64 n) (.int .i64 n)).run Try.prog w = .ok (.slice (some ⟨w.heap.size, 0, none⟩) n n) W ∧ (convert 22 9 (.slice (some ⟨w.heap.size, 0, none⟩) n n)).run Try.prog W = .ok (.string u) W ∧ u.size = n ∧ Below w.heap.size w W ∧ ∀ i, bt u i = 0 := by
  obtain ⟨i0, hi, hz0, hz1, hz2⟩ := info_parts Try.infoB
  obtain ⟨W, h1, h2, h3⟩ := run_make_full (P := Try.prog) w w.heap.size 22 5 i0 (.int .u8 0) 1 Try.underlying22 hi hz0 hz1 .i64 .i64 n (by rw [hz2]; omega) (by unfold maxLen; omega) (Nat.le_refl _)
  have hx : ∀ j, j < n → W.cell? ⟨w.heap.size, j, none⟩ = some (.int .u8 0) := fun j hj => by
    rw [h2.cellAt j (by omega)]
    simp [madeCells, Value.cells, hj, Nat.mod_one]
  have hcv := run_convert_bytes_back (P := Try.prog) W 22 9 5 ⟨w.heap.size, 0, none⟩ n (List.replicate n 0) Try.underlying22 Try.underlying5 Try.underlying9 (fun j hj => by
    have hj' : j < n := by simpa using hj
    have ha : Addr.add ⟨w.heap.size, 0, none⟩ j = ⟨w.heap.size, j, none⟩ := by simp only [Addr.add, Nat.zero_add]; split <;> simp_all
    rw [ha, hx j hj']; simp)
  rw [List.length_replicate] at hcv
  refine ⟨_, W, h1, hcv, by simp [ByteArray.size], grown_belowD h3, fun i => ?_⟩
  unfold bt
  split
  · simp [ByteArray.getElem_eq_getElem_data]
  · rfl

end Go.Proofs.Ytofhcplnnamcdaa

/- DrawV4: what the specification's l04V4 answers. Printed by mkdrawv.py. -/
namespace Go.Proofs.Ytofhcplnnamcdaa
open Go.RowKit Go.PlainAid
set_option linter.unusedVariables false
set_option linter.unusedSimpArgs false

set_option maxRecDepth 100000 in
set_option maxHeartbeats 4000000 in
theorem drawV4_any (B : Nat) (a : Option Addr) (len cap : Nat) (size : Int) (w : World) (hl : len ≤ 1048576) (hs : Src w B a len cap size) :
    Calls Try.prog 85 #[.pointer (some ⟨B, 0, none⟩)] w fun e w' => (∃ p : P4, e = .returned (p4C p) ∧ Bd4 p) ∧ Src w' B a len cap size ∧ w.grownBy w' (some B) := by
  have hB : B < w.heap.size := (Dr.start hs).hB
  have hOB : w.heap.size ≠ B := by omega
  have D0 : Hid (Dr w B a len cap size (w.alloc (.cells #[.int .i64 0, .int .i64 0, .bool false, .bool false, .int .i64 0, .int .i64 0, .int .i64 0, .string ⟨#[]⟩, .string ⟨#[]⟩, .string ⟨#[]⟩, .string ⟨#[]⟩] 56))) := (Dr.start hs).alloc _
  have K0 : Hid (BoxW4 (w.alloc (.cells #[.int .i64 0, .int .i64 0, .bool false, .bool false, .int .i64 0, .int .i64 0, .int .i64 0, .string ⟨#[]⟩, .string ⟨#[]⟩, .string ⟨#[]⟩, .string ⟨#[]⟩] 56)) w.heap.size p4Zero) := BoxW4.new w
  clear hs
  go_enter Try.func85, Try.ntmps85
  go_wp2_with fail
  refine (drawN_any 256 B a len cap size _ (by omega) hl D0.out.src).mono ?_
  rintro e U1 ⟨r1, rfl, r10, r11, hs1, hg1⟩
  have D1 : Hid (Dr w B a len cap size U1) := D0.out.draw hs1 hg1
  have K1 : Hid (BoxW4 U1 w.heap.size p4Zero) := K0.out.drawn hg1 hOB
  clear hs1 hg1 D0 K0
  have r12 : r1 ≤ 255 := by omega
  clear r11
  go_wp2_with fail
  refine (drawN_any 65536 B a len cap size _ (by omega) hl D1.out.src).mono ?_
  rintro e U2 ⟨r2, rfl, r20, r21, hs1, hg1⟩
  have D2 : Hid (Dr w B a len cap size U2) := D1.out.draw hs1 hg1
  have K2 : Hid (BoxW4 U2 w.heap.size p4Zero) := K1.out.drawn hg1 hOB
  clear hs1 hg1 D1 K1
  have r22 : r2 ≤ 65535 := by omega
  clear r21
  go_wp2_with fail
  refine (drawOne_any 3 B a len cap size _ (by omega) hl D2.out.src).mono ?_
  rintro e U3 ⟨b1, rfl, hs1, hg1⟩
  have D3 : Hid (Dr w B a len cap size U3) := D2.out.draw hs1 hg1
  have K3 : Hid (BoxW4 U3 w.heap.size p4Zero) := K2.out.drawn hg1 hOB
  clear hs1 hg1 D2 K2
  go_wp2_with fail
  refine (drawN_any 64 B a len cap size _ (by omega) hl D3.out.src).mono ?_
  rintro e U4 ⟨r3, rfl, r30, r31, hs1, hg1⟩
  have D4 : Hid (Dr w B a len cap size U4) := D3.out.draw hs1 hg1
  have K4 : Hid (BoxW4 U4 w.heap.size p4Zero) := K3.out.drawn hg1 hOB
  clear hs1 hg1 D3 K3
  have r32 : r3 ≤ 63 := by omega
  clear r31
  go_wp2_with fail
  refine (drawAddr_any false B a len cap size _ hl D4.out.src).mono ?_
  rintro e U5 ⟨s1, rfl, s1z, hs1, hg1⟩
  have D5 : Hid (Dr w B a len cap size U5) := D4.out.draw hs1 hg1
  have K5 : Hid (BoxW4 U5 w.heap.size p4Zero) := K4.out.drawn hg1 hOB
  clear hs1 hg1 D4 K4
  simp only [Bool.false_eq_true, if_false, if_true] at s1z
  go_wp2_with fail
  refine (drawAddr_any false B a len cap size _ hl D5.out.src).mono ?_
  rintro e U6 ⟨s2, rfl, s2z, hs1, hg1⟩
  have D6 : Hid (Dr w B a len cap size U6) := D5.out.draw hs1 hg1
  have K6 : Hid (BoxW4 U6 w.heap.size p4Zero) := K5.out.drawn hg1 hOB
  clear hs1 hg1 D5 K5
  simp only [Bool.false_eq_true, if_false, if_true] at s2z
  have q7 : Below U6.heap.size U6 (U6.alloc (.cells #[.int .i64 r1, .int .i64 r2, .bool b1, .bool false, .int .i64 0, .int .i64 (1 + r3), .int .i64 0, .string s1, .string s2, .string ⟨#[]⟩, .string ⟨#[]⟩] 56)) := (Below.refl _ _).alloc (Nat.le_refl _) _
  have hUL : w.heap.size < U6.heap.size := World.block_lt_of_cell? U6 _ K6.out.c0
  have S0 : Hid (DS4 w B a len cap size w.heap.size U6.heap.size (U6.alloc (.cells #[.int .i64 r1, .int .i64 r2, .bool b1, .bool false, .int .i64 0, .int .i64 (1 + r3), .int .i64 0, .string s1, .string s2, .string ⟨#[]⟩, .string ⟨#[]⟩] 56)) ⟨r1, r2, b1, false, 0, 1 + r3, 0, s1, s2, ⟨#[]⟩, ⟨#[]⟩⟩) := ⟨D6.out.below q7, K6.out.kept q7, BoxW4.made U6 ⟨r1, r2, b1, false, 0, 1 + r3, 0, s1, s2, ⟨#[]⟩, ⟨#[]⟩⟩, Nat.le_refl _, by omega, by omega, by unfold Bd4 In64t; dsimp only; have hz0 : (ByteArray.mk #[]).size = 0 := rfl; omega⟩
  clear q7 D6 K6
  go_upto_region 2 with fail
  generalize U6.alloc (.cells #[.int .i64 r1, .int .i64 r2, .bool b1, .bool false, .int .i64 0, .int .i64 (1 + r3), .int .i64 0, .string s1, .string s2, .string ⟨#[]⟩, .string ⟨#[]⟩] 56) = W7 at *
  generalize U6.heap.size = Pb at *
  have c7 := S0.out.box.c7
  have c8 := S0.out.box.c8
  go_wp2_with fail
  refine (drawFlow_any s1 s2 B a len cap size _ (by omega) (by omega) hl S0.out.dr.src).mono ?_
  rintro e W8 ⟨⟨fp, fx, fy, rfl, hfp, hfx, hfy⟩, hs1, hg1⟩
  have S8 : Hid (DS4 w B a len cap size w.heap.size Pb W8 _) := S0.out.draw hs1 hg1
  have q8 : Below W8.heap.size W8 (W8.alloc (.cells #[.int .i64 fp, .string s1, .string s2, .int .i64 fx, .int .i64 fy] 147)) := (Below.refl _ _).alloc (Nat.le_refl _) _
  have S9 : Hid (DS4 w B a len cap size w.heap.size Pb (W8.alloc (.cells #[.int .i64 fp, .string s1, .string s2, .int .i64 fx, .int .i64 fy] 147)) _) := S8.out.below q8
  have FB : Hid (BoxF (W8.alloc (.cells #[.int .i64 fp, .string s1, .string s2, .int .i64 fx, .int .i64 fy] 147)) W8.heap.size fp s1 s2 fx fy) := BoxF.new W8
  have hPf : Pb < W8.heap.size := World.block_lt_of_cell? W8 _ S8.out.box.c0
  clear hs1 hg1 q8 S8 S0 c7 c8
  unfold flC
  go_upto_region 3 with fail
  generalize W8.alloc (.cells #[.int .i64 fp, .string s1, .string s2, .int .i64 fx, .int .i64 fy] 147) = W9 at *
  generalize W8.heap.size = Fb at *
  have hPF : Pb ≠ Fb := by omega
  have fc0 := FB.out.c0
  have FB2 : Hid _ := FB.out.other (o := 6) (.int .i64 fp) hPF
  have c6 := S9.out.box.c6
  have f6 := S9.out.box.f6
  have S1 : Hid _ := S9.out.set6 (fp) (by have hbd := S9.out.bd; unfold Bd4 In64t at *; dsimp only at *; omega)
  go_upto_region 4 with fail
  clear c6 f6 S9
  generalize W9.setCell ⟨Pb, 6, none⟩ (.int .i64 fp) = W10 at *
  clear fc0 FB
  obtain ⟨fc0, ff0, fc1, ff1, fc2, ff2, fc3, ff3, fc4, ff4⟩ := FB2.out
  go_wp2_with fail
  refine (drawData_any fp s1 s2 fx fy B a len cap size _ hfp (by omega) (by omega) hfx hfy hl S1.out.dr.src).mono ?_
  rintro e V2 ⟨⟨dt, rfl, dtz⟩, hs1, hg1⟩
  have S2 : Hid (DS4 w B a len cap size w.heap.size Pb V2 _) := S1.out.draw hs1 hg1
  clear hs1 hg1 S1 FB2 fc0 ff0 fc1 ff1 fc2 ff2 fc3 ff3 fc4 ff4
  have c10 := S2.out.box.c10
  have f10 := S2.out.box.f10
  have S3 : Hid _ := S2.out.set10 (dt) (by have hbd := S2.out.bd; unfold Bd4 In64t at *; dsimp only at *; omega)
  go_upto_region 5 with fail
  clear c10 f10 S2
  generalize V2.setCell ⟨Pb, 10, none⟩ (.string dt) = W11 at *
  go_wp2_with fail
  refine (drawOne_any 6 B a len cap size _ (by omega) hl S3.out.dr.src).mono ?_
  rintro e V4 ⟨b6, rfl, hs1, hg1⟩
  have S4 : Hid (DS4 w B a len cap size w.heap.size Pb V4 _) := S3.out.draw hs1 hg1
  clear hs1 hg1 S3
  obtain ⟨pk, SP5⟩ : ∃ pk, Hid (DS4 w B a len cap size w.heap.size Pb _ pk) := ⟨_, S4⟩
  clear S4
  go_upto_if 33 with fail
  go_cut [3] (fun v wx => v = .pointer (some ⟨Pb, 0, none⟩) ∧ ∃ pq, DS4 w B a len cap size w.heap.size Pb wx pq)
  case first =>
    cases b6 with
    | false =>
      go_wp2_with fail
      go_meet
      exact ⟨rfl, _, SP5.out⟩
    | true =>
    have c2 := SP5.out.box.c2
    have f2 := SP5.out.box.f2
    have S6 : Hid _ := SP5.out.set2 (false) (by have hbd := SP5.out.bd; unfold Bd4 In64t at *; dsimp only at *; omega)
    go_wp2_with fail
    clear c2 f2 SP5
    refine (drawN_any 3 B a len cap size _ (by omega) hl S6.out.dr.src).mono ?_
    rintro e V7 ⟨ra, rfl, ra0, ra1, hs1, hg1⟩
    have S7 : Hid (DS4 w B a len cap size w.heap.size Pb V7 _) := S6.out.draw hs1 hg1
    clear hs1 hg1 S6
    have ra2 : ra ≤ 2 := by omega
    clear ra1
    have c4 := S7.out.box.c4
    have f4 := S7.out.box.f4
    have S8 : Hid _ := S7.out.set4 (ra * 100) (by have hbd := S7.out.bd; unfold Bd4 In64t at *; dsimp only at *; omega)
    go_wp2_with fail
    clear c4 f4 S7
    refine (drawOne_any 2 B a len cap size _ (by omega) hl S8.out.dr.src).mono ?_
    rintro e V9 ⟨bb, rfl, hs1, hg1⟩
    have S9 : Hid (DS4 w B a len cap size w.heap.size Pb V9 _) := S8.out.draw hs1 hg1
    clear hs1 hg1 S8
    have c3 := S9.out.box.c3
    have f3 := S9.out.box.f3
    have S10 : Hid _ := S9.out.set3 (bb) (by have hbd := S9.out.bd; unfold Bd4 In64t at *; dsimp only at *; omega)
    go_wp2_with fail
    clear c3 f3 S9
    refine (drawN_any 4 B a len cap size _ (by omega) hl S10.out.dr.src).mono ?_
    rintro e V11 ⟨rb, rfl, rb0, rb1, hs1, hg1⟩
    have S11 : Hid (DS4 w B a len cap size w.heap.size Pb V11 _) := S10.out.draw hs1 hg1
    clear hs1 hg1 S10
    have rb2 : rb ≤ 3 := by omega
    clear rb1
    obtain ⟨kb, rfl⟩ := Int.eq_ofNat_of_zero_le rb0
    go_wp2_with fail
    refine (drawBytesI (8 * kb) _ (by omega) B a len cap size _ (by omega) hl S11.out.dr.src).mono ?_
    rintro e V12 ⟨db, rfl, dbz, hs1, hg1⟩
    have S12 : Hid (DS4 w B a len cap size w.heap.size Pb V12 _) := S11.out.draw hs1 hg1
    clear hs1 hg1 S11
    have c10 := S12.out.box.c10
    have f10 := S12.out.box.f10
    have S13 : Hid _ := S12.out.set10 (db) (by have hbd := S12.out.bd; unfold Bd4 In64t at *; dsimp only at *; omega)
    go_wp2_with fail
    clear c10 f10 S12
    go_meet
    exact ⟨rfl, _, S13.out⟩
  case rest =>
  obtain ⟨rfl, pk, hSP⟩ := hcut
  have SP14 : Hid _ := hSP
  clear hSP SP5
  go_wp2_with fail
  refine (drawOne_any 8 B a len cap size _ (by omega) hl SP14.out.dr.src).mono ?_
  rintro e V15 ⟨b8, rfl, hs1, hg1⟩
  have S15 : Hid (DS4 w B a len cap size w.heap.size Pb V15 _) := SP14.out.draw hs1 hg1
  clear hs1 hg1 SP14
  go_upto_if 49 with fail
  go_cut [3] (fun v wx => v = .pointer (some ⟨Pb, 0, none⟩) ∧ ∃ pq, DS4 w B a len cap size w.heap.size Pb wx pq)
  case first =>
    cases b8 with
    | false =>
      go_wp2_with fail
      go_meet
      exact ⟨rfl, _, S15.out⟩
    | true =>
    go_wp2_with fail
    refine (drawN_any 4 B a len cap size _ (by omega) hl S15.out.dr.src).mono ?_
    rintro e V16 ⟨rc, rfl, rc0, rc1, hs1, hg1⟩
    have S16 : Hid (DS4 w B a len cap size w.heap.size Pb V16 _) := S15.out.draw hs1 hg1
    clear hs1 hg1 S15
    have rc2 : rc ≤ 3 := by omega
    clear rc1
    obtain ⟨kc, rfl⟩ := Int.eq_ofNat_of_zero_le rc0
    go_wp2_with fail
    refine (drawBytesI (4 * kc) _ (by omega) B a len cap size _ (by omega) hl S16.out.dr.src).mono ?_
    rintro e V17 ⟨dc, rfl, dcz, hs1, hg1⟩
    have S17 : Hid (DS4 w B a len cap size w.heap.size Pb V17 _) := S16.out.draw hs1 hg1
    clear hs1 hg1 S16
    have c9 := S17.out.box.c9
    have f9 := S17.out.box.f9
    have S18 : Hid _ := S17.out.set9 (dc) (by have hbd := S17.out.bd; unfold Bd4 In64t at *; dsimp only at *; omega)
    go_wp2_with fail
    clear c9 f9 S17
    go_meet
    exact ⟨rfl, _, S18.out⟩
  case rest =>
  obtain ⟨rfl, pk, hSP⟩ := hcut
  have SP19 : Hid _ := hSP
  clear hSP S15
  go_wp2_with fail
  refine (drawOne_any 25 B a len cap size _ (by omega) hl SP19.out.dr.src).mono ?_
  rintro e V20 ⟨b25, rfl, hs1, hg1⟩
  have S20 : Hid (DS4 w B a len cap size w.heap.size Pb V20 _) := SP19.out.draw hs1 hg1
  clear hs1 hg1 SP19
  go_upto_if 57 with fail
  go_cut [3] (fun v wx => v = .pointer (some ⟨Pb, 0, none⟩) ∧ ∃ pq, DS4 w B a len cap size w.heap.size Pb wx pq)
  case first =>
    cases b25 with
    | false =>
      go_wp2_with fail
      go_meet
      exact ⟨rfl, _, S20.out⟩
    | true =>
    go_wp2_with fail
    refine (drawN_any 5 B a len cap size _ (by omega) hl S20.out.dr.src).mono ?_
    rintro e V21 ⟨rs, rfl, rs0, rs1, hs1, hg1⟩
    have S21 : Hid (DS4 w B a len cap size w.heap.size Pb V21 _) := S20.out.draw hs1 hg1
    clear hs1 hg1 S20
    have rs2 : rs ≤ 4 := by omega
    clear rs1
    have hrs : rs = 0 ∨ rs = 1 ∨ rs = 2 ∨ rs = 3 ∨ rs = 4 := by omega
    rcases hrs with rfl | rfl | rfl | rfl | rfl
    · go_wp2_with fail
      refine (drawN_more 3 B a len cap size _ (by omega) (by omega) hl (S21.out.dr.alloc _).src).mono ?_
      rintro e V22 ⟨r, rfl, q0, q1, hs1, hg1⟩
      obtain ⟨kk, rfl⟩ := Int.eq_ofNat_of_zero_le q0
      obtain ⟨v, hcell, xv, rfl, hxv⟩ := pick_cell (k := kk) (p := fun v => ∃ x, v = .int .i64 x ∧ (-1 ≤ x ∧ x ≤ 4294967296)) (cs := [.int .i64 (-1), .int .i64 8191, .int .i64 8192]) hg1 (by have := S21.out.dr.le; omega) (by simp; omega) (by simp)
      have S22 : Hid (DS4 w B a len cap size w.heap.size Pb V22 _) := (S21.out.below ((Below.refl _ _).alloc (Nat.le_refl _) _)).draw hs1 hg1
      have q1' : (kk : Int) < 3 := by omega
      clear hs1 hg1 q0 q1 S21
      have c4 := S22.out.box.c4
      have f4 := S22.out.box.f4
      have S23 : Hid _ := S22.out.set4 (xv) (by have hbd := S22.out.bd; unfold Bd4 In64t at *; dsimp only at *; omega)
      go_wp2_with fail
      clear c4 f4 S22
      go_meet
      exact ⟨rfl, _, S23.out⟩
    · go_wp2_with fail
      refine (drawN_more 4 B a len cap size _ (by omega) (by omega) hl (S21.out.dr.alloc _).src).mono ?_
      rintro e V24 ⟨r, rfl, q0, q1, hs1, hg1⟩
      obtain ⟨kk, rfl⟩ := Int.eq_ofNat_of_zero_le q0
      obtain ⟨v, hcell, xv, rfl, hxv⟩ := pick_cell (k := kk) (p := fun v => ∃ x, v = .int .i64 x ∧ (-1 ≤ x ∧ x ≤ 4294967296)) (cs := [.int .i64 (-1), .int .i64 0, .int .i64 255, .int .i64 256]) hg1 (by have := S21.out.dr.le; omega) (by simp; omega) (by simp)
      have S24 : Hid (DS4 w B a len cap size w.heap.size Pb V24 _) := (S21.out.below ((Below.refl _ _).alloc (Nat.le_refl _) _)).draw hs1 hg1
      have q1' : (kk : Int) < 4 := by omega
      clear hs1 hg1 q0 q1 S21
      have c5 := S24.out.box.c5
      have f5 := S24.out.box.f5
      have S25 : Hid _ := S24.out.set5 (xv) (by have hbd := S24.out.bd; unfold Bd4 In64t at *; dsimp only at *; omega)
      go_wp2_with fail
      clear c5 f5 S24
      go_meet
      exact ⟨rfl, _, S25.out⟩
    · go_wp2_with fail
      refine (drawN_any 50 B a len cap size _ (by omega) hl S21.out.dr.src).mono ?_
      rintro e V26 ⟨rd, rfl, rd0, rd1, hs1, hg1⟩
      have S26 : Hid (DS4 w B a len cap size w.heap.size Pb V26 _) := S21.out.draw hs1 hg1
      clear hs1 hg1 S21
      have rd2 : rd ≤ 49 := by omega
      clear rd1
      obtain ⟨kd, rfl⟩ := Int.eq_ofNat_of_zero_le rd0
      go_wp2_with fail
      refine (drawBytesI (kd) _ (by omega) B a len cap size _ (by omega) hl S26.out.dr.src).mono ?_
      rintro e V27 ⟨dd, rfl, ddz, hs1, hg1⟩
      have S27 : Hid (DS4 w B a len cap size w.heap.size Pb V27 _) := S26.out.draw hs1 hg1
      clear hs1 hg1 S26
      have c9 := S27.out.box.c9
      have f9 := S27.out.box.f9
      have S28 : Hid _ := S27.out.set9 (dd) (by have hbd := S27.out.bd; unfold Bd4 In64t at *; dsimp only at *; omega)
      go_wp2_with fail
      clear c9 f9 S27
      go_meet
      exact ⟨rfl, _, S28.out⟩
    · go_wp2_with fail
      refine (drawN_any 3 B a len cap size _ (by omega) hl S21.out.dr.src).mono ?_
      rintro e V29 ⟨rz, rfl, rz0, rz1, hs1, hg1⟩
      have S29 : Hid (DS4 w B a len cap size w.heap.size Pb V29 _) := S21.out.draw hs1 hg1
      clear hs1 hg1 S21
      have rz2 : rz ≤ 2 := by omega
      clear rz1
      obtain ⟨kz, rfl⟩ := Int.eq_ofNat_of_zero_le rz0
      obtain ⟨uz, Wz, hmk, hcv, hzz, hbz, -⟩ := mkz (1399 + kz) V29 (by omega)
      rw [show ((1399 + kz : Nat) : Int) = 1399 + (kz : Int) by omega] at hmk
      have S30 : Hid (DS4 w B a len cap size w.heap.size Pb Wz _) := S29.out.below hbz
      clear hbz S29
      have c10 := S30.out.box.c10
      have f10 := S30.out.box.f10
      have S31 : Hid _ := S30.out.set10 (uz) (by have hbd := S30.out.bd; unfold Bd4 In64t at *; dsimp only at *; omega)
      go_wp2_with fail
      clear c10 f10 S30
      go_meet
      exact ⟨rfl, _, S31.out⟩
    · go_wp2_with fail
      refine (drawAny_any B a len cap size _ hl S21.out.dr.src).mono ?_
      rintro e V32 ⟨ua, rfl, uaz, hs1, hg1⟩
      have S32 : Hid (DS4 w B a len cap size w.heap.size Pb V32 _) := S21.out.draw hs1 hg1
      clear hs1 hg1 S21
      have c7 := S32.out.box.c7
      have f7 := S32.out.box.f7
      have S33 : Hid _ := S32.out.set7 (ua) (by have hbd := S32.out.bd; unfold Bd4 In64t at *; dsimp only at *; omega)
      go_wp2_with fail
      clear c7 f7 S32
      go_meet
      exact ⟨rfl, _, S33.out⟩
  case rest =>
  obtain ⟨rfl, pk, hSP⟩ := hcut
  have SP34 : Hid _ := hSP
  clear hSP S20
  obtain ⟨tos, id, whole, more, off, ttl, proto, src, dst, opts, data⟩ := pk
  obtain ⟨c0, f0, c1, f1, c2, f2, c3, f3, c4, f4, c5, f5, c6, f6, c7, f7, c8, f8, c9, f9, c10, f10⟩ := SP34.out.box
  obtain ⟨o0, y0, o1, y1, o2, y2, o3, y3, o4, y4, o5, y5, o6, y6, o7, y7, o8, y8, o9, y9, o10, y10⟩ := SP34.out.out
  dsimp only [p4Zero] at c0 o0 c1 o1 c2 o2 c3 o3 c4 o4 c5 o5 c6 o6 c7 o7 c8 o8 c9 o9 c10 o10
  go_wp2_with fail
  exact bodyPost_ret (v := .agg #[.int .i64 tos, .int .i64 id, .bool whole, .bool more, .int .i64 off, .int .i64 ttl, .int .i64 proto, .string src, .string dst, .string opts, .string data]) (by simp [results, Try.results85, go_sem, o0, o1, o2, o3, o4, o5, o6, o7, o8, o9, o10]) rfl (by
    have D2 := (((((((((((SP34.out.dr.set w.heap.size 0 (.int .i64 tos) (Nat.le_refl _)).set w.heap.size 1 (.int .i64 id) (Nat.le_refl _)).set w.heap.size 2 (.bool whole) (Nat.le_refl _)).set w.heap.size 3 (.bool more) (Nat.le_refl _)).set w.heap.size 4 (.int .i64 off) (Nat.le_refl _)).set w.heap.size 5 (.int .i64 ttl) (Nat.le_refl _)).set w.heap.size 6 (.int .i64 proto) (Nat.le_refl _)).set w.heap.size 7 (.string src) (Nat.le_refl _)).set w.heap.size 8 (.string dst) (Nat.le_refl _)).set w.heap.size 9 (.string opts) (Nat.le_refl _)).set w.heap.size 10 (.string data) (Nat.le_refl _))
    exact ⟨⟨⟨tos, id, whole, more, off, ttl, proto, src, dst, opts, data⟩, rfl, SP34.out.bd⟩, D2.src, D2.grown⟩)

end Go.Proofs.Ytofhcplnnamcdaa

/- DrawV6: what the specification's l04V6 answers. Printed by mkdrawv.py. -/
namespace Go.Proofs.Ytofhcplnnamcdaa
open Go.RowKit Go.PlainAid
set_option linter.unusedVariables false
set_option linter.unusedSimpArgs false

set_option maxRecDepth 100000 in
set_option maxHeartbeats 4000000 in
theorem drawV6_any (B : Nat) (a : Option Addr) (len cap : Nat) (size : Int) (w : World) (hl : len ≤ 1048576) (hs : Src w B a len cap size) :
    Calls Try.prog 86 #[.pointer (some ⟨B, 0, none⟩)] w fun e w' => (∃ p : P6, e = .returned (p6C p) ∧ Bd6 p) ∧ Src w' B a len cap size ∧ w.grownBy w' (some B) := by
  have hB : B < w.heap.size := (Dr.start hs).hB
  have hOB : w.heap.size ≠ B := by omega
  have D0 : Hid (Dr w B a len cap size (w.alloc (.cells #[.int .i64 0, .int .i64 0, .int .i64 0, .int .i64 0, .string ⟨#[]⟩, .string ⟨#[]⟩, .bool false, .bool false, .int .i64 0, .int .i64 0, .string ⟨#[]⟩] 59))) := (Dr.start hs).alloc _
  have K0 : Hid (BoxW6 (w.alloc (.cells #[.int .i64 0, .int .i64 0, .int .i64 0, .int .i64 0, .string ⟨#[]⟩, .string ⟨#[]⟩, .bool false, .bool false, .int .i64 0, .int .i64 0, .string ⟨#[]⟩] 59)) w.heap.size p6Zero) := BoxW6.new w
  clear hs
  go_enter Try.func86, Try.ntmps86
  go_wp2_with fail
  refine (drawN_any 256 B a len cap size _ (by omega) hl D0.out.src).mono ?_
  rintro e U1 ⟨r1, rfl, r10, r11, hs1, hg1⟩
  have D1 : Hid (Dr w B a len cap size U1) := D0.out.draw hs1 hg1
  have K1 : Hid (BoxW6 U1 w.heap.size p6Zero) := K0.out.drawn hg1 hOB
  clear hs1 hg1 D0 K0
  have r12 : r1 ≤ 255 := by omega
  clear r11
  go_wp2_with fail
  refine (drawN_any 1048576 B a len cap size _ (by omega) hl D1.out.src).mono ?_
  rintro e U2 ⟨r2, rfl, r20, r21, hs1, hg1⟩
  have D2 : Hid (Dr w B a len cap size U2) := D1.out.draw hs1 hg1
  have K2 : Hid (BoxW6 U2 w.heap.size p6Zero) := K1.out.drawn hg1 hOB
  clear hs1 hg1 D1 K1
  have r22 : r2 ≤ 1048575 := by omega
  clear r21
  go_wp2_with fail
  refine (drawN_any 64 B a len cap size _ (by omega) hl D2.out.src).mono ?_
  rintro e U3 ⟨r3, rfl, r30, r31, hs1, hg1⟩
  have D3 : Hid (Dr w B a len cap size U3) := D2.out.draw hs1 hg1
  have K3 : Hid (BoxW6 U3 w.heap.size p6Zero) := K2.out.drawn hg1 hOB
  clear hs1 hg1 D2 K2
  have r32 : r3 ≤ 63 := by omega
  clear r31
  go_wp2_with fail
  refine (drawAddr_any true B a len cap size _ hl D3.out.src).mono ?_
  rintro e U4 ⟨s1, rfl, s1z, hs1, hg1⟩
  have D4 : Hid (Dr w B a len cap size U4) := D3.out.draw hs1 hg1
  have K4 : Hid (BoxW6 U4 w.heap.size p6Zero) := K3.out.drawn hg1 hOB
  clear hs1 hg1 D3 K3
  simp only [Bool.false_eq_true, if_false, if_true] at s1z
  go_wp2_with fail
  refine (drawAddr_any true B a len cap size _ hl D4.out.src).mono ?_
  rintro e U5 ⟨s2, rfl, s2z, hs1, hg1⟩
  have D5 : Hid (Dr w B a len cap size U5) := D4.out.draw hs1 hg1
  have K5 : Hid (BoxW6 U5 w.heap.size p6Zero) := K4.out.drawn hg1 hOB
  clear hs1 hg1 D4 K4
  simp only [Bool.false_eq_true, if_false, if_true] at s2z
  have q7 : Below U5.heap.size U5 (U5.alloc (.cells #[.int .i64 r1, .int .i64 r2, .int .i64 0, .int .i64 (1 + r3), .string s1, .string s2, .bool false, .bool false, .int .i64 0, .int .i64 0, .string ⟨#[]⟩] 59)) := (Below.refl _ _).alloc (Nat.le_refl _) _
  have hUL : w.heap.size < U5.heap.size := World.block_lt_of_cell? U5 _ K5.out.c0
  have S0 : Hid (DS6 w B a len cap size w.heap.size U5.heap.size (U5.alloc (.cells #[.int .i64 r1, .int .i64 r2, .int .i64 0, .int .i64 (1 + r3), .string s1, .string s2, .bool false, .bool false, .int .i64 0, .int .i64 0, .string ⟨#[]⟩] 59)) ⟨r1, r2, 0, 1 + r3, s1, s2, false, false, 0, 0, ⟨#[]⟩⟩) := ⟨D5.out.below q7, K5.out.kept q7, BoxW6.made U5 ⟨r1, r2, 0, 1 + r3, s1, s2, false, false, 0, 0, ⟨#[]⟩⟩, Nat.le_refl _, by omega, by omega, by unfold Bd6 In64t; dsimp only; have hz0 : (ByteArray.mk #[]).size = 0 := rfl; omega⟩
  clear q7 D5 K5
  go_upto_region 2 with fail
  generalize U5.alloc (.cells #[.int .i64 r1, .int .i64 r2, .int .i64 0, .int .i64 (1 + r3), .string s1, .string s2, .bool false, .bool false, .int .i64 0, .int .i64 0, .string ⟨#[]⟩] 59) = W7 at *
  generalize U5.heap.size = Pb at *
  have c4 := S0.out.box.c4
  have c5 := S0.out.box.c5
  go_wp2_with fail
  refine (drawFlow_any s1 s2 B a len cap size _ (by omega) (by omega) hl S0.out.dr.src).mono ?_
  rintro e W8 ⟨⟨fp, fx, fy, rfl, hfp, hfx, hfy⟩, hs1, hg1⟩
  have S8 : Hid (DS6 w B a len cap size w.heap.size Pb W8 _) := S0.out.draw hs1 hg1
  have q8 : Below W8.heap.size W8 (W8.alloc (.cells #[.int .i64 fp, .string s1, .string s2, .int .i64 fx, .int .i64 fy] 147)) := (Below.refl _ _).alloc (Nat.le_refl _) _
  have S9 : Hid (DS6 w B a len cap size w.heap.size Pb (W8.alloc (.cells #[.int .i64 fp, .string s1, .string s2, .int .i64 fx, .int .i64 fy] 147)) _) := S8.out.below q8
  have FB : Hid (BoxF (W8.alloc (.cells #[.int .i64 fp, .string s1, .string s2, .int .i64 fx, .int .i64 fy] 147)) W8.heap.size fp s1 s2 fx fy) := BoxF.new W8
  have hPf : Pb < W8.heap.size := World.block_lt_of_cell? W8 _ S8.out.box.c0
  clear hs1 hg1 q8 S8 S0 c4 c5
  unfold flC
  go_upto_region 3 with fail
  generalize W8.alloc (.cells #[.int .i64 fp, .string s1, .string s2, .int .i64 fx, .int .i64 fy] 147) = W9 at *
  generalize W8.heap.size = Fb at *
  have hPF : Pb ≠ Fb := by omega
  have fc0 := FB.out.c0
  have FB2 : Hid _ := FB.out.other (o := 2) (.int .i64 fp) hPF
  have c2 := S9.out.box.c2
  have f2 := S9.out.box.f2
  have S35 : Hid _ := S9.out.set2 (fp) (by have hbd := S9.out.bd; unfold Bd6 In64t at *; dsimp only at *; omega)
  go_upto_region 4 with fail
  clear c2 f2 S9
  generalize W9.setCell ⟨Pb, 2, none⟩ (.int .i64 fp) = W10 at *
  clear fc0 FB
  obtain ⟨fc0, ff0, fc1, ff1, fc2, ff2, fc3, ff3, fc4, ff4⟩ := FB2.out
  go_wp2_with fail
  refine (drawData_any fp s1 s2 fx fy B a len cap size _ hfp (by omega) (by omega) hfx hfy hl S35.out.dr.src).mono ?_
  rintro e V36 ⟨⟨dt, rfl, dtz⟩, hs1, hg1⟩
  have S36 : Hid (DS6 w B a len cap size w.heap.size Pb V36 _) := S35.out.draw hs1 hg1
  clear hs1 hg1 S35 FB2 fc0 ff0 fc1 ff1 fc2 ff2 fc3 ff3 fc4 ff4
  have c10 := S36.out.box.c10
  have f10 := S36.out.box.f10
  have S37 : Hid _ := S36.out.set10 (dt) (by have hbd := S36.out.bd; unfold Bd6 In64t at *; dsimp only at *; omega)
  go_upto_region 5 with fail
  clear c10 f10 S36
  generalize V36.setCell ⟨Pb, 10, none⟩ (.string dt) = W11 at *
  go_wp2_with fail
  refine (drawOne_any 6 B a len cap size _ (by omega) hl S37.out.dr.src).mono ?_
  rintro e V38 ⟨b6, rfl, hs1, hg1⟩
  have S38 : Hid (DS6 w B a len cap size w.heap.size Pb V38 _) := S37.out.draw hs1 hg1
  clear hs1 hg1 S37
  obtain ⟨pk, SP39⟩ : ∃ pk, Hid (DS6 w B a len cap size w.heap.size Pb _ pk) := ⟨_, S38⟩
  clear S38
  go_upto_if 31 with fail
  go_cut [3] (fun v wx => v = .pointer (some ⟨Pb, 0, none⟩) ∧ ∃ pq, DS6 w B a len cap size w.heap.size Pb wx pq)
  case first =>
    cases b6 with
    | false =>
      go_wp2_with fail
      go_meet
      exact ⟨rfl, _, SP39.out⟩
    | true =>
    have c6 := SP39.out.box.c6
    have f6 := SP39.out.box.f6
    have S40 : Hid _ := SP39.out.set6 (true) (by have hbd := SP39.out.bd; unfold Bd6 In64t at *; dsimp only at *; omega)
    go_wp2_with fail
    clear c6 f6 SP39
    refine (drawN_any 3 B a len cap size _ (by omega) hl S40.out.dr.src).mono ?_
    rintro e V41 ⟨ra, rfl, ra0, ra1, hs1, hg1⟩
    have S41 : Hid (DS6 w B a len cap size w.heap.size Pb V41 _) := S40.out.draw hs1 hg1
    clear hs1 hg1 S40
    have ra2 : ra ≤ 2 := by omega
    clear ra1
    have c8 := S41.out.box.c8
    have f8 := S41.out.box.f8
    have S42 : Hid _ := S41.out.set8 (ra * 100) (by have hbd := S41.out.bd; unfold Bd6 In64t at *; dsimp only at *; omega)
    go_wp2_with fail
    clear c8 f8 S41
    refine (drawOne_any 2 B a len cap size _ (by omega) hl S42.out.dr.src).mono ?_
    rintro e V43 ⟨bb, rfl, hs1, hg1⟩
    have S43 : Hid (DS6 w B a len cap size w.heap.size Pb V43 _) := S42.out.draw hs1 hg1
    clear hs1 hg1 S42
    have c7 := S43.out.box.c7
    have f7 := S43.out.box.f7
    have S44 : Hid _ := S43.out.set7 (bb) (by have hbd := S43.out.bd; unfold Bd6 In64t at *; dsimp only at *; omega)
    go_wp2_with fail
    clear c7 f7 S43
    refine (drawN_any 1048576 B a len cap size _ (by omega) hl S44.out.dr.src).mono ?_
    rintro e V45 ⟨rid, rfl, rid0, rid1, hs1, hg1⟩
    have S45 : Hid (DS6 w B a len cap size w.heap.size Pb V45 _) := S44.out.draw hs1 hg1
    clear hs1 hg1 S44
    have rid2 : rid ≤ 1048575 := by omega
    clear rid1
    have c9 := S45.out.box.c9
    have f9 := S45.out.box.f9
    have S46 : Hid _ := S45.out.set9 (rid) (by have hbd := S45.out.bd; unfold Bd6 In64t at *; dsimp only at *; omega)
    go_wp2_with fail
    clear c9 f9 S45
    refine (drawN_any 4 B a len cap size _ (by omega) hl S46.out.dr.src).mono ?_
    rintro e V47 ⟨rb, rfl, rb0, rb1, hs1, hg1⟩
    have S47 : Hid (DS6 w B a len cap size w.heap.size Pb V47 _) := S46.out.draw hs1 hg1
    clear hs1 hg1 S46
    have rb2 : rb ≤ 3 := by omega
    clear rb1
    obtain ⟨kb, rfl⟩ := Int.eq_ofNat_of_zero_le rb0
    go_wp2_with fail
    refine (drawBytesI (8 * kb) _ (by omega) B a len cap size _ (by omega) hl S47.out.dr.src).mono ?_
    rintro e V48 ⟨db, rfl, dbz, hs1, hg1⟩
    have S48 : Hid (DS6 w B a len cap size w.heap.size Pb V48 _) := S47.out.draw hs1 hg1
    clear hs1 hg1 S47
    have c10 := S48.out.box.c10
    have f10 := S48.out.box.f10
    have S49 : Hid _ := S48.out.set10 (db) (by have hbd := S48.out.bd; unfold Bd6 In64t at *; dsimp only at *; omega)
    go_wp2_with fail
    clear c10 f10 S48
    go_meet
    exact ⟨rfl, _, S49.out⟩
  case rest =>
  obtain ⟨rfl, pk, hSP⟩ := hcut
  have SP50 : Hid _ := hSP
  clear hSP SP39
  go_wp2_with fail
  refine (drawOne_any 25 B a len cap size _ (by omega) hl SP50.out.dr.src).mono ?_
  rintro e V51 ⟨b25, rfl, hs1, hg1⟩
  have S51 : Hid (DS6 w B a len cap size w.heap.size Pb V51 _) := SP50.out.draw hs1 hg1
  clear hs1 hg1 SP50
  go_upto_if 50 with fail
  go_cut [3] (fun v wx => v = .pointer (some ⟨Pb, 0, none⟩) ∧ ∃ pq, DS6 w B a len cap size w.heap.size Pb wx pq)
  case first =>
    cases b25 with
    | false =>
      go_wp2_with fail
      go_meet
      exact ⟨rfl, _, S51.out⟩
    | true =>
    go_wp2_with fail
    refine (drawN_any 5 B a len cap size _ (by omega) hl S51.out.dr.src).mono ?_
    rintro e V52 ⟨rs, rfl, rs0, rs1, hs1, hg1⟩
    have S52 : Hid (DS6 w B a len cap size w.heap.size Pb V52 _) := S51.out.draw hs1 hg1
    clear hs1 hg1 S51
    have rs2 : rs ≤ 4 := by omega
    clear rs1
    have hrs : rs = 0 ∨ rs = 1 ∨ rs = 2 ∨ rs = 3 ∨ rs = 4 := by omega
    rcases hrs with rfl | rfl | rfl | rfl | rfl
    · go_wp2_with fail
      refine (drawN_more 3 B a len cap size _ (by omega) (by omega) hl (S52.out.dr.alloc _).src).mono ?_
      rintro e V53 ⟨r, rfl, q0, q1, hs1, hg1⟩
      obtain ⟨kk, rfl⟩ := Int.eq_ofNat_of_zero_le q0
      obtain ⟨v, hcell, xv, rfl, hxv⟩ := pick_cell (k := kk) (p := fun v => ∃ x, v = .int .i64 x ∧ (-1 ≤ x ∧ x ≤ 4294967296)) (cs := [.int .i64 (-1), .int .i64 8191, .int .i64 8192]) hg1 (by have := S52.out.dr.le; omega) (by simp; omega) (by simp)
      have S53 : Hid (DS6 w B a len cap size w.heap.size Pb V53 _) := (S52.out.below ((Below.refl _ _).alloc (Nat.le_refl _) _)).draw hs1 hg1
      have q1' : (kk : Int) < 3 := by omega
      clear hs1 hg1 q0 q1 S52
      have c8 := S53.out.box.c8
      have f8 := S53.out.box.f8
      have S54 : Hid _ := S53.out.set8 (xv) (by have hbd := S53.out.bd; unfold Bd6 In64t at *; dsimp only at *; omega)
      go_wp2_with fail
      clear c8 f8 S53
      go_meet
      exact ⟨rfl, _, S54.out⟩
    · go_wp2_with fail
      refine (drawN_more 3 B a len cap size _ (by omega) (by omega) hl (S52.out.dr.alloc _).src).mono ?_
      rintro e V55 ⟨r, rfl, q0, q1, hs1, hg1⟩
      obtain ⟨kk, rfl⟩ := Int.eq_ofNat_of_zero_le q0
      obtain ⟨v, hcell, xv, rfl, hxv⟩ := pick_cell (k := kk) (p := fun v => ∃ x, v = .int .i64 x ∧ (-1 ≤ x ∧ x ≤ 4294967296)) (cs := [.int .i64 (-1), .int .i64 1048575, .int .i64 1048576]) hg1 (by have := S52.out.dr.le; omega) (by simp; omega) (by simp)
      have S55 : Hid (DS6 w B a len cap size w.heap.size Pb V55 _) := (S52.out.below ((Below.refl _ _).alloc (Nat.le_refl _) _)).draw hs1 hg1
      have q1' : (kk : Int) < 3 := by omega
      clear hs1 hg1 q0 q1 S52
      have c1 := S55.out.box.c1
      have f1 := S55.out.box.f1
      have S56 : Hid _ := S55.out.set1 (xv) (by have hbd := S55.out.bd; unfold Bd6 In64t at *; dsimp only at *; omega)
      go_wp2_with fail
      clear c1 f1 S55
      go_meet
      exact ⟨rfl, _, S56.out⟩
    · go_wp2_with fail
      refine (drawN_more 3 B a len cap size _ (by omega) (by omega) hl (S52.out.dr.alloc _).src).mono ?_
      rintro e V57 ⟨r, rfl, q0, q1, hs1, hg1⟩
      obtain ⟨kk, rfl⟩ := Int.eq_ofNat_of_zero_le q0
      obtain ⟨v, hcell, xv, rfl, hxv⟩ := pick_cell (k := kk) (p := fun v => ∃ x, v = .int .i64 x ∧ (-1 ≤ x ∧ x ≤ 4294967296)) (cs := [.int .i64 44, .int .i64 256, .int .i64 59]) hg1 (by have := S52.out.dr.le; omega) (by simp; omega) (by simp)
      have S57 : Hid (DS6 w B a len cap size w.heap.size Pb V57 _) := (S52.out.below ((Below.refl _ _).alloc (Nat.le_refl _) _)).draw hs1 hg1
      have q1' : (kk : Int) < 3 := by omega
      clear hs1 hg1 q0 q1 S52
      have c2 := S57.out.box.c2
      have f2 := S57.out.box.f2
      have S58 : Hid _ := S57.out.set2 (xv) (by have hbd := S57.out.bd; unfold Bd6 In64t at *; dsimp only at *; omega)
      go_wp2_with fail
      clear c2 f2 S57
      go_meet
      exact ⟨rfl, _, S58.out⟩
    · go_wp2_with fail
      refine (drawN_more 4 B a len cap size _ (by omega) (by omega) hl (S52.out.dr.alloc _).src).mono ?_
      rintro e V59 ⟨r, rfl, q0, q1, hs1, hg1⟩
      obtain ⟨kk, rfl⟩ := Int.eq_ofNat_of_zero_le q0
      obtain ⟨v, hcell, xv, rfl, hxv⟩ := pick_cell (k := kk) (p := fun v => ∃ x, v = .int .i64 x ∧ (-1 ≤ x ∧ x ≤ 4294967296)) (cs := [.int .i64 (-1), .int .i64 4294967295, .int .i64 4294967296, .int .i64 1]) hg1 (by have := S52.out.dr.le; omega) (by simp; omega) (by simp)
      have S59 : Hid (DS6 w B a len cap size w.heap.size Pb V59 _) := (S52.out.below ((Below.refl _ _).alloc (Nat.le_refl _) _)).draw hs1 hg1
      have q1' : (kk : Int) < 4 := by omega
      clear hs1 hg1 q0 q1 S52
      have c9 := S59.out.box.c9
      have f9 := S59.out.box.f9
      have S60 : Hid _ := S59.out.set9 (xv) (by have hbd := S59.out.bd; unfold Bd6 In64t at *; dsimp only at *; omega)
      go_wp2_with fail
      clear c9 f9 S59
      go_meet
      exact ⟨rfl, _, S60.out⟩
    · go_wp2_with fail
      refine (drawAny_any B a len cap size _ hl S52.out.dr.src).mono ?_
      rintro e V61 ⟨ua, rfl, uaz, hs1, hg1⟩
      have S61 : Hid (DS6 w B a len cap size w.heap.size Pb V61 _) := S52.out.draw hs1 hg1
      clear hs1 hg1 S52
      have c5 := S61.out.box.c5
      have f5 := S61.out.box.f5
      have S62 : Hid _ := S61.out.set5 (ua) (by have hbd := S61.out.bd; unfold Bd6 In64t at *; dsimp only at *; omega)
      go_wp2_with fail
      clear c5 f5 S61
      go_meet
      exact ⟨rfl, _, S62.out⟩
  case rest =>
  obtain ⟨rfl, pk, hSP⟩ := hcut
  have SP63 : Hid _ := hSP
  clear hSP S51
  obtain ⟨cls, flow, next, hops, src, dst, piece, more, off, id, data⟩ := pk
  obtain ⟨c0, f0, c1, f1, c2, f2, c3, f3, c4, f4, c5, f5, c6, f6, c7, f7, c8, f8, c9, f9, c10, f10⟩ := SP63.out.box
  obtain ⟨o0, y0, o1, y1, o2, y2, o3, y3, o4, y4, o5, y5, o6, y6, o7, y7, o8, y8, o9, y9, o10, y10⟩ := SP63.out.out
  dsimp only [p6Zero] at c0 o0 c1 o1 c2 o2 c3 o3 c4 o4 c5 o5 c6 o6 c7 o7 c8 o8 c9 o9 c10 o10
  go_wp2_with fail
  exact bodyPost_ret (v := .agg #[.int .i64 cls, .int .i64 flow, .int .i64 next, .int .i64 hops, .string src, .string dst, .bool piece, .bool more, .int .i64 off, .int .i64 id, .string data]) (by simp [results, Try.results86, go_sem, o0, o1, o2, o3, o4, o5, o6, o7, o8, o9, o10]) rfl (by
    have D2 := (((((((((((SP63.out.dr.set w.heap.size 0 (.int .i64 cls) (Nat.le_refl _)).set w.heap.size 1 (.int .i64 flow) (Nat.le_refl _)).set w.heap.size 2 (.int .i64 next) (Nat.le_refl _)).set w.heap.size 3 (.int .i64 hops) (Nat.le_refl _)).set w.heap.size 4 (.string src) (Nat.le_refl _)).set w.heap.size 5 (.string dst) (Nat.le_refl _)).set w.heap.size 6 (.bool piece) (Nat.le_refl _)).set w.heap.size 7 (.bool more) (Nat.le_refl _)).set w.heap.size 8 (.int .i64 off) (Nat.le_refl _)).set w.heap.size 9 (.int .i64 id) (Nat.le_refl _)).set w.heap.size 10 (.string data) (Nat.le_refl _))
    exact ⟨⟨⟨cls, flow, next, hops, src, dst, piece, more, off, id, data⟩, rfl, SP63.out.bd⟩, D2.src, D2.grown⟩)

end Go.Proofs.Ytofhcplnnamcdaa

/- DrawPk: packets drawn, their bytes, spoilt. -/
namespace Go.Proofs.Ytofhcplnnamcdaa
open Go.RowKit Go.PlainAid
set_option linter.unusedVariables false
set_option linter.unusedSimpArgs false

theorem grown_belowP {w wx : World} {B : Nat} (hg : w.grownBy wx (some B)) {n : Nat} (hn : n ≤ w.heap.size) (hB : n ≤ B) : Below n w wx := ⟨hg.os, hg.tape, hg.output, hg.size, fun k hk => hg.block k (by omega) (by simp; omega)⟩
theorem Bd4.sm {p : P4} (h : Bd4 p) : P4Sm p ∧ P4Wf p := by
  unfold Bd4 In64t at h; unfold P4Sm P4Wf In64t maxLen; omega
theorem Bd6.sm {p : P6} (h : Bd6 p) : P6Sm p ∧ P6Wf p := by
  unfold Bd6 In64t at h; unfold P6Sm P6Wf In64t maxLen; omega
theorem v4Bytes_size {p : P4} (h : Bd4 p) : (v4BytesV p).size ≤ 7000 := by
  unfold Bd4 In64t at h
  unfold v4BytesV
  split
  · unfold v4Raw headA headB; simp only [ByteArray.size_append, pairV_size, twoV_size]; omega
  · exact Nat.zero_le _
theorem v6Bytes_size {p : P6} (h : Bd6 p) : (v6BytesV p).size ≤ 7000 := by
  unfold Bd6 In64t at h
  unfold v6BytesV
  split
  · unfold v6Raw restV; split <;> simp only [ByteArray.size_append, pairV_size, twoV_size] <;> omega
  · exact Nat.zero_le _

set_option maxRecDepth 100000 in
set_option maxHeartbeats 1000000 in
theorem drawSpoil7_any (t : ByteArray) (B : Nat) (a : Option Addr) (len cap : Nat) (size : Int) (w : World) (ht : t.size ≤ 7000) (hl : len ≤ 1048576) (hs : Src w B a len cap size) :
    Calls Try.prog 123 #[.pointer (some ⟨B, 0, none⟩), .string t] w fun e w' => ∃ s : ByteArray, e = .returned (.string s) ∧ s.size ≤ 7001 ∧ Src w' B a len cap size ∧ w.grownBy w' (some B) := by
  have D0 : Hid (Dr w B a len cap size w) := Dr.start hs
  clear hs
  go_enter Try.func123, Try.ntmps123
  go_wp2_with fail
  refine (drawN_any ((t.size : Int) + 1) B a len cap size _ (by omega) hl D0.out.src).mono ?_
  rintro e w1 ⟨r, rfl, r0, r1, hs1, hg1⟩
  obtain ⟨k, rfl⟩ := Int.eq_ofNat_of_zero_le r0
  have hk : k ≤ t.size := by omega
  have D1 : Hid (Dr w B a len cap size w1) := D0.out.draw hs1 hg1
  clear hs1 hg1 r0 r1 D0
  go_wp2_with fail
  refine (drawN_more 17 B a len cap size _ (by omega) (by omega) hl D1.out.src).mono ?_
  rintro e w2 ⟨r, rfl, r0, r1, hs2, hg2⟩
  obtain ⟨m, rfl⟩ := Int.eq_ofNat_of_zero_le r0
  have D2 : Hid (Dr w B a len cap size w2) := D1.out.draw hs2 hg2
  have D3 : Hid (∀ x : Int, Dr w B a len cap size (w2.alloc (.cells #[.int .u8 x] 5))) := fun x => D2.out.alloc _
  have hgb := get_bt (ByteArray.mk #[32, 10, 48, 97, 45, 110, 44, 58, 93, 255, 40, 120, 126, 49, 128, 225, 59])
  have hb0 := bt_nonneg (ByteArray.mk #[32, 10, 48, 97, 45, 110, 44, 58, 93, 255, 40, 120, 126, 49, 128, 225, 59]) m
  have hb1 := bt_le (ByteArray.mk #[32, 10, 48, 97, 45, 110, 44, 58, 93, 255, 40, 120, 126, 49, 128, 225, 59]) m
  have hcv := one_conv (w := w2.alloc (.cells #[.int .u8 (bt (ByteArray.mk #[32, 10, 48, 97, 45, 110, 44, 58, 93, 255, 40, 120, 126, 49, 128, 225, 59]) m)] 5)) (b := w2.heap.size) hb0 hb1 (by simp)
  obtain ⟨x, hx⟩ : ∃ x, bt (ByteArray.mk #[32, 10, 48, 97, 45, 110, 44, 58, 93, 255, 40, 120, 126, 49, 128, 225, 59]) m = x := ⟨_, rfl⟩
  rw [hx] at hb0 hb1 hcv
  obtain ⟨C, hC⟩ : ∃ C, C = ofL [UInt8.ofNat x.toNat] := ⟨_, rfl⟩
  have hCs : C.size = 1 := by rw [hC]; rfl
  rw [← hC] at hcv
  have hX : (t.extract 0 k).size = k := by rw [ByteArray.size_extract]; omega
  have hY : (t.extract k t.size).size = t.size - k := by rw [ByteArray.size_extract]; omega
  have hZ : (t.extract (k + 1) t.size).size = t.size - (k + 1) := by rw [ByteArray.size_extract]; omega
  obtain ⟨X, hXX⟩ : ∃ X, X = t.extract 0 k := ⟨_, rfl⟩
  obtain ⟨Y, hYY⟩ : ∃ Y, Y = t.extract k t.size := ⟨_, rfl⟩
  obtain ⟨Z, hZZ⟩ : ∃ Z, Z = t.extract (k + 1) t.size := ⟨_, rfl⟩
  rw [← hXX] at hX
  rw [← hYY] at hY
  rw [← hZZ] at hZ
  have eX := hXX.symm
  have eY := hYY.symm
  have eZ := hZZ.symm
  have ha1 : ∀ W, (Op.stringOp .add X C).run Try.prog W = .ok (.string (X ++ C)) W := fun W => run_string_add_sum W _ _ (by omega)
  have ha2 : ∀ W, (Op.stringOp .add (X ++ C) Y).run Try.prog W = .ok (.string (X ++ C ++ Y)) W := fun W => run_string_add_sum W _ _ (by rw [ByteArray.size_append]; omega)
  have ha3 : ∀ W, (Op.stringOp .add X Z).run Try.prog W = .ok (.string (X ++ Z)) W := fun W => run_string_add_sum W _ _ (by omega)
  have ha4 : ∀ W, (Op.stringOp .add (X ++ C) Z).run Try.prog W = .ok (.string (X ++ C ++ Z)) W := fun W => run_string_add_sum W _ _ (by rw [ByteArray.size_append]; omega)
  have S2 : Hid ((X ++ C ++ Y).size ≤ 7001) := by unfold Hid; rw [ByteArray.size_append, ByteArray.size_append]; omega
  have S3 : Hid (k < t.size → (X ++ Z).size ≤ 7001) := fun h => by rw [ByteArray.size_append]; omega
  have S4 : Hid (k < t.size → (X ++ C ++ Z).size ≤ 7001) := fun h => by rw [ByteArray.size_append, ByteArray.size_append]; omega
  generalize X ++ C ++ Y = R2 at ha2 S2
  generalize X ++ Z = R3 at ha3 S3
  generalize X ++ C ++ Z = R4 at ha4 S4
  generalize X ++ C = XC at ha1 ha2 ha4
  have hk' : (k : Int) ≤ (t.size : Int) := by omega
  clear hs2 hg2 D1 hC hCs hX hY hZ hXX hYY hZZ
  by_cases hke : k = t.size
  · have e1 : ((k : Int) == (t.size : Int)) = true := by simp [hke]
    clear hke S3 S4
    go_wp2_with fail
    go_region
    all_goals
      go_wp2_with fail
      go_ret
      exact ⟨R2, rfl, S2.out, (D3.out _).src.kept (grown_drew (World.grownBy.refl _ none)) (by simp), grown_drew (D3.out _).grown⟩
  · have e1 : ((k : Int) == (t.size : Int)) = false := by simp; omega
    have hkl : k < t.size := by omega
    have hkl' : (k : Int) + 1 ≤ (t.size : Int) := by omega
    clear hke
    go_wp2_with fail
    refine (drawOne_any 3 B a len cap size _ (by omega) hl (D3.out _).src).mono ?_
    rintro e w4 ⟨b, rfl, hs4, hg4⟩
    have D4 : Hid (Dr w B a len cap size w4) := (D3.out _).draw hs4 hg4
    clear hs4 hg4 D3 D2
    cases b with
    | true =>
      go_wp2_with fail
      go_region
      all_goals
        go_wp2_with fail
        go_ret
        exact ⟨R2, rfl, S2.out, D4.out.src.kept (grown_drew (World.grownBy.refl _ none)) (by simp), grown_drew D4.out.grown⟩
    | false =>
      go_wp2_with fail
      refine (drawOne_any 2 B a len cap size _ (by omega) hl D4.out.src).mono ?_
      rintro e w5 ⟨b, rfl, hs5, hg5⟩
      have D5 : Hid (Dr w B a len cap size w5) := D4.out.draw hs5 hg5
      clear hs5 hg5 D4
      cases b with
      | true =>
        go_wp2_with fail
        go_region
        all_goals
          go_wp2_with fail
          go_ret
          exact ⟨R3, rfl, S3.out hkl, D5.out.src.kept (grown_drew (World.grownBy.refl _ none)) (by simp), grown_drew D5.out.grown⟩
      | false =>
        go_wp2_with fail
        go_region
        all_goals
          go_wp2_with fail
          go_ret
          exact ⟨R4, rfl, S4.out hkl, D5.out.src.kept (grown_drew (World.grownBy.refl _ none)) (by simp), grown_drew D5.out.grown⟩

set_option maxHeartbeats 1000000 in
theorem drawPSpoil_any (t : ByteArray) (B : Nat) (a : Option Addr) (len cap : Nat) (size : Int) (w : World) (ht : t.size ≤ 7000) (hl : len ≤ 1048576) (hs : Src w B a len cap size) :
    Calls Try.prog 99 #[.pointer (some ⟨B, 0, none⟩), .string t] w fun e w' => ∃ s : ByteArray, e = .returned (.string s) ∧ s.size ≤ 7100 ∧ Src w' B a len cap size ∧ w.grownBy w' (some B) := by
  have D0 : Hid (Dr w B a len cap size w) := Dr.start hs
  clear hs
  go_enter Try.func99, Try.ntmps99
  go_wp2_with fail
  refine (drawN_any 6 B a len cap size _ (by omega) hl D0.out.src).mono ?_
  rintro e w1 ⟨r, rfl, r0, r1, hs1, hg1⟩
  have D1 : Hid (Dr w B a len cap size w1) := D0.out.draw hs1 hg1
  clear hs1 hg1 D0
  by_cases h0 : r = 0
  · subst h0
    go_wp2_with fail
    refine (drawSpoil7_any t B a len cap size _ ht hl D1.out.src).mono ?_
    rintro e w2 ⟨s, rfl, hsz, hs2, hg2⟩
    have D2 : Hid (Dr w B a len cap size w2) := D1.out.draw hs2 hg2
    clear hs2 hg2
    go_wp2_with fail
    go_ret
    exact ⟨s, rfl, by omega, D2.out.src, D2.out.grown⟩
  have d0 : (r == 0) = false := by simp [h0]
  by_cases h1 : r = 1
  · subst h1
    clear d0
    have hw1 : IntKind.i64.wrap ((t.size : Int) + 1) = (t.size : Int) + 1 := by rw [IntKind.wrap_i64]; omega
    go_wp2_with fail
    refine (drawN_any ((t.size : Int) + 1) B a len cap size _ (by omega) hl D1.out.src).mono ?_
    rintro e w2 ⟨q, rfl, q0, q1, hs2, hg2⟩
    obtain ⟨k, rfl⟩ := Int.eq_ofNat_of_zero_le q0
    have hk : k ≤ t.size := by omega
    have D2 : Hid (Dr w B a len cap size w2) := D1.out.draw hs2 hg2
    have L1 : ∀ W, (Instr.slice 9 (.string t) none (some (.int .i64 k)) none).run Try.prog W = .ok (.string (t.extract 0 k)) W := fun W => by
      rw [run_slice_string_h (P := Try.prog) (t := 9) (s := t) (w := W) (ht := Try.underlying9) .i64 (k : Int) (by omega) (by omega), show ((k : Int)).toNat = k by omega]
    have hz : (t.extract 0 k).size ≤ 7100 := by rw [ByteArray.size_extract]; omega
    clear hs2 hg2 q0 q1
    go_wp2_with fail
    go_ret
    exact ⟨_, rfl, hz, D2.out.src, D2.out.grown⟩
  have d1 : (r == 1) = false := by simp [h1]
  by_cases h2 : r = 2
  · subst h2
    clear d0 d1
    go_wp2_with fail
    refine (drawN_any 6 B a len cap size _ (by omega) hl D1.out.src).mono ?_
    rintro e w2 ⟨q, rfl, q0, q1, hs2, hg2⟩
    obtain ⟨k, rfl⟩ := Int.eq_ofNat_of_zero_le q0
    have hk : k ≤ 6 := by omega
    have D2 : Hid (Dr w B a len cap size w2) := D1.out.draw hs2 hg2
    clear hs2 hg2 q0 q1
    go_wp2_with fail
    refine (drawBytesI k _ rfl B a len cap size _ (by omega) hl D2.out.src).mono ?_
    rintro e w3 ⟨u, rfl, hu, hs3, hg3⟩
    have D3 : Hid (Dr w B a len cap size w3) := D2.out.draw hs3 hg3
    have n1 : ¬ 9223372036854775807 < t.size + u.size := by omega
    have n2 : ¬ 9223372036854775807 < t.size + k := by omega
    have HZ : Hid ((t ++ u).size ≤ 7100) := by unfold Hid; rw [ByteArray.size_append]; omega
    clear hs3 hg3
    go_wp2_with fail
    go_ret
    exact ⟨_, rfl, HZ.out, D3.out.src, D3.out.grown⟩
  have d2 : (r == 2) = false := by simp [h2]
  go_wp2_with fail
  go_ret
  exact ⟨t, rfl, by omega, D1.out.src, D1.out.grown⟩

set_option maxRecDepth 100000 in
set_option maxHeartbeats 1000000 in
theorem drawV4Bytes_any (a : Option Addr) (len cap : Nat) (w : World) (hl : len ≤ 1048576) (hb : Bytes w a len w.heap.size) :
    Calls Try.prog 34 #[.slice a len cap] w fun e w' => ∃ p : P4, e = .returned (p4C p) ∧ Bd4 p ∧ Below w.heap.size w w' := by
  have HB : Hid (Bytes (w.alloc (.cells #[.int .i64 0, .int .i64 0, .bool false, .bool false, .int .i64 0, .int .i64 0, .int .i64 0, .string ⟨#[]⟩, .string ⟨#[]⟩, .string ⟨#[]⟩, .string ⟨#[]⟩] 56)) a len (w.alloc (.cells #[.int .i64 0, .int .i64 0, .bool false, .bool false, .int .i64 0, .int .i64 0, .int .i64 0, .string ⟨#[]⟩, .string ⟨#[]⟩, .string ⟨#[]⟩, .string ⟨#[]⟩] 56)).heap.size) := (hb.kept (World.grownBy_alloc _ _ none) (by simp)).mono (by simp)
  have K0 : Hid (BoxW4 (w.alloc (.cells #[.int .i64 0, .int .i64 0, .bool false, .bool false, .int .i64 0, .int .i64 0, .int .i64 0, .string ⟨#[]⟩, .string ⟨#[]⟩, .string ⟨#[]⟩, .string ⟨#[]⟩] 56)) w.heap.size p4Zero) := BoxW4.new w
  have G0 : Hid (Below w.heap.size w (w.alloc (.cells #[.int .i64 0, .int .i64 0, .bool false, .bool false, .int .i64 0, .int .i64 0, .int .i64 0, .string ⟨#[]⟩, .string ⟨#[]⟩, .string ⟨#[]⟩, .string ⟨#[]⟩] 56))) := (Below.refl _ _).alloc (Nat.le_refl _) _
  clear hb
  go_enter Try.func34, Try.ntmps34
  go_wp2_with fail
  generalize w.alloc (.cells #[.int .i64 0, .int .i64 0, .bool false, .bool false, .int .i64 0, .int .i64 0, .int .i64 0, .string ⟨#[]⟩, .string ⟨#[]⟩, .string ⟨#[]⟩, .string ⟨#[]⟩] 56) = W0 at *
  have hO : w.heap.size < W0.heap.size := World.block_lt_of_cell? W0 _ K0.out.c0
  refine (source_any a len cap _ hl HB.out).mono ?_
  rintro e w1 ⟨rfl, q1, size, -, -, hs1⟩
  have K1 : Hid (BoxW4 w1 w.heap.size p4Zero) := K0.out.kept q1
  have G1 : Hid (Below w.heap.size w w1) := G0.out.trans (q1.mono (by omega))
  have hB1 := q1.size
  have HS : Hid (Src w1 W0.heap.size a len cap size) := hs1
  clear q1 hs1 K0 G0 HB
  generalize W0.heap.size = B at *
  go_wp2_with fail
  refine (drawV4_any B a len cap size _ hl HS.out).mono ?_
  rintro e w2 ⟨⟨p, rfl, hp⟩, hs2, hg2⟩
  have K2 : Hid (BoxW4 w2 w.heap.size p4Zero) := K1.out.drawn hg2 (by omega)
  have G2 : Hid (Below w.heap.size w w2) := G1.out.trans (grown_belowP hg2 (by omega) (by omega))
  clear hs2 hg2 K1 G1 HS
  obtain ⟨tos, id, whole, more, off, ttl, proto, src, dst, opts, data⟩ := p
  unfold p4C
  dsimp only
  obtain ⟨o0, y0, o1, y1, o2, y2, o3, y3, o4, y4, o5, y5, o6, y6, o7, y7, o8, y8, o9, y9, o10, y10⟩ := K2.out
  dsimp only [p4Zero] at o0 o1 o2 o3 o4 o5 o6 o7 o8 o9 o10
  have hfin := (((((((((((G2.out.setCell (p := ⟨w.heap.size, 0, none⟩) (Nat.le_refl _) (.int .i64 tos)).setCell (p := ⟨w.heap.size, 1, none⟩) (Nat.le_refl _) (.int .i64 id)).setCell (p := ⟨w.heap.size, 2, none⟩) (Nat.le_refl _) (.bool whole)).setCell (p := ⟨w.heap.size, 3, none⟩) (Nat.le_refl _) (.bool more)).setCell (p := ⟨w.heap.size, 4, none⟩) (Nat.le_refl _) (.int .i64 off)).setCell (p := ⟨w.heap.size, 5, none⟩) (Nat.le_refl _) (.int .i64 ttl)).setCell (p := ⟨w.heap.size, 6, none⟩) (Nat.le_refl _) (.int .i64 proto)).setCell (p := ⟨w.heap.size, 7, none⟩) (Nat.le_refl _) (.string src)).setCell (p := ⟨w.heap.size, 8, none⟩) (Nat.le_refl _) (.string dst)).setCell (p := ⟨w.heap.size, 9, none⟩) (Nat.le_refl _) (.string opts)).setCell (p := ⟨w.heap.size, 10, none⟩) (Nat.le_refl _) (.string data))
  have HFin : Hid _ := hfin
  clear hfin
  go_wp2_with fail
  exact bodyPost_ret (v := .agg #[.int .i64 tos, .int .i64 id, .bool whole, .bool more, .int .i64 off, .int .i64 ttl, .int .i64 proto, .string src, .string dst, .string opts, .string data]) (by simp [results, Try.results34, go_sem, o0, o1, o2, o3, o4, o5, o6, o7, o8, o9, o10]) rfl ⟨⟨tos, id, whole, more, off, ttl, proto, src, dst, opts, data⟩, rfl, hp, HFin.out⟩

set_option maxHeartbeats 1000000 in
theorem drawV4Read_any (a : Option Addr) (len cap : Nat) (w : World) (hl : len ≤ 1048576) (hb : Bytes w a len w.heap.size) :
    Calls Try.prog 44 #[.slice a len cap] w fun e w' => ∃ t : ByteArray, e = .returned (.string t) ∧ t.size ≤ 7100 ∧ Below w.heap.size w w' := by
  have HB : Hid (Bytes w a len w.heap.size) := hb
  clear hb
  go_enter Try.func44, Try.ntmps44
  go_wp2_with fail
  refine (source_any a len cap _ hl HB.out).mono ?_
  rintro e w1 ⟨rfl, q1, size, -, -, hs1⟩
  have G1 : Hid (Below w.heap.size w w1) := q1
  have HS : Hid (Src w1 w.heap.size a len cap size) := hs1
  clear q1 hs1 HB
  go_wp2_with fail
  refine (drawV4_any w.heap.size a len cap size _ hl HS.out).mono ?_
  rintro e w2 ⟨⟨p, rfl, hp⟩, hs2, hg2⟩
  have G2 : Hid (Below w.heap.size w w2) := G1.out.trans (grown_belowP hg2 G1.out.size (Nat.le_refl _))
  have HS2 : Hid (Src w2 w.heap.size a len cap size) := hs2
  clear hs2 hg2 HS G1
  go_wp2_with fail
  refine (specV4Bytes_sm p _ hp.sm.1 hp.sm.2).mono ?_
  rintro e w3 ⟨rfl, q3⟩
  have G3 : Hid (Below w.heap.size w w3) := G2.out.trans (q3.mono G2.out.size)
  have HS3 : Hid (Src w3 w.heap.size a len cap size) := HS2.out.kept (grown_of_below (r := none) q3) (by simp)
  have hz := v4Bytes_size hp
  clear q3 HS2 G2
  go_wp2_with fail
  refine (drawPSpoil_any _ w.heap.size a len cap size _ hz hl HS3.out).mono ?_
  rintro e w4 ⟨s, rfl, hsz, -, hg4⟩
  have G4 : Hid (Below w.heap.size w w4) := G3.out.trans (grown_belowP hg4 G3.out.size (Nat.le_refl _))
  clear hg4
  go_wp2_with fail
  go_ret
  exact ⟨s, rfl, hsz, G4.out⟩

set_option maxRecDepth 100000 in
set_option maxHeartbeats 1000000 in
theorem drawV6Bytes_any (a : Option Addr) (len cap : Nat) (w : World) (hl : len ≤ 1048576) (hb : Bytes w a len w.heap.size) :
    Calls Try.prog 35 #[.slice a len cap] w fun e w' => ∃ p : P6, e = .returned (p6C p) ∧ Bd6 p ∧ Below w.heap.size w w' := by
  have HB : Hid (Bytes (w.alloc (.cells #[.int .i64 0, .int .i64 0, .int .i64 0, .int .i64 0, .string ⟨#[]⟩, .string ⟨#[]⟩, .bool false, .bool false, .int .i64 0, .int .i64 0, .string ⟨#[]⟩] 59)) a len (w.alloc (.cells #[.int .i64 0, .int .i64 0, .int .i64 0, .int .i64 0, .string ⟨#[]⟩, .string ⟨#[]⟩, .bool false, .bool false, .int .i64 0, .int .i64 0, .string ⟨#[]⟩] 59)).heap.size) := (hb.kept (World.grownBy_alloc _ _ none) (by simp)).mono (by simp)
  have K0 : Hid (BoxW6 (w.alloc (.cells #[.int .i64 0, .int .i64 0, .int .i64 0, .int .i64 0, .string ⟨#[]⟩, .string ⟨#[]⟩, .bool false, .bool false, .int .i64 0, .int .i64 0, .string ⟨#[]⟩] 59)) w.heap.size p6Zero) := BoxW6.new w
  have G0 : Hid (Below w.heap.size w (w.alloc (.cells #[.int .i64 0, .int .i64 0, .int .i64 0, .int .i64 0, .string ⟨#[]⟩, .string ⟨#[]⟩, .bool false, .bool false, .int .i64 0, .int .i64 0, .string ⟨#[]⟩] 59))) := (Below.refl _ _).alloc (Nat.le_refl _) _
  clear hb
  go_enter Try.func35, Try.ntmps35
  go_wp2_with fail
  generalize w.alloc (.cells #[.int .i64 0, .int .i64 0, .int .i64 0, .int .i64 0, .string ⟨#[]⟩, .string ⟨#[]⟩, .bool false, .bool false, .int .i64 0, .int .i64 0, .string ⟨#[]⟩] 59) = W0 at *
  have hO : w.heap.size < W0.heap.size := World.block_lt_of_cell? W0 _ K0.out.c0
  refine (source_any a len cap _ hl HB.out).mono ?_
  rintro e w1 ⟨rfl, q1, size, -, -, hs1⟩
  have K1 : Hid (BoxW6 w1 w.heap.size p6Zero) := K0.out.kept q1
  have G1 : Hid (Below w.heap.size w w1) := G0.out.trans (q1.mono (by omega))
  have hB1 := q1.size
  have HS : Hid (Src w1 W0.heap.size a len cap size) := hs1
  clear q1 hs1 K0 G0 HB
  generalize W0.heap.size = B at *
  go_wp2_with fail
  refine (drawV6_any B a len cap size _ hl HS.out).mono ?_
  rintro e w2 ⟨⟨p, rfl, hp⟩, hs2, hg2⟩
  have K2 : Hid (BoxW6 w2 w.heap.size p6Zero) := K1.out.drawn hg2 (by omega)
  have G2 : Hid (Below w.heap.size w w2) := G1.out.trans (grown_belowP hg2 (by omega) (by omega))
  clear hs2 hg2 K1 G1 HS
  obtain ⟨cls, flow, next, hops, src, dst, piece, more, off, id, data⟩ := p
  unfold p6C
  dsimp only
  obtain ⟨o0, y0, o1, y1, o2, y2, o3, y3, o4, y4, o5, y5, o6, y6, o7, y7, o8, y8, o9, y9, o10, y10⟩ := K2.out
  dsimp only [p6Zero] at o0 o1 o2 o3 o4 o5 o6 o7 o8 o9 o10
  have hfin := (((((((((((G2.out.setCell (p := ⟨w.heap.size, 0, none⟩) (Nat.le_refl _) (.int .i64 cls)).setCell (p := ⟨w.heap.size, 1, none⟩) (Nat.le_refl _) (.int .i64 flow)).setCell (p := ⟨w.heap.size, 2, none⟩) (Nat.le_refl _) (.int .i64 next)).setCell (p := ⟨w.heap.size, 3, none⟩) (Nat.le_refl _) (.int .i64 hops)).setCell (p := ⟨w.heap.size, 4, none⟩) (Nat.le_refl _) (.string src)).setCell (p := ⟨w.heap.size, 5, none⟩) (Nat.le_refl _) (.string dst)).setCell (p := ⟨w.heap.size, 6, none⟩) (Nat.le_refl _) (.bool piece)).setCell (p := ⟨w.heap.size, 7, none⟩) (Nat.le_refl _) (.bool more)).setCell (p := ⟨w.heap.size, 8, none⟩) (Nat.le_refl _) (.int .i64 off)).setCell (p := ⟨w.heap.size, 9, none⟩) (Nat.le_refl _) (.int .i64 id)).setCell (p := ⟨w.heap.size, 10, none⟩) (Nat.le_refl _) (.string data))
  have HFin : Hid _ := hfin
  clear hfin
  go_wp2_with fail
  exact bodyPost_ret (v := .agg #[.int .i64 cls, .int .i64 flow, .int .i64 next, .int .i64 hops, .string src, .string dst, .bool piece, .bool more, .int .i64 off, .int .i64 id, .string data]) (by simp [results, Try.results35, go_sem, o0, o1, o2, o3, o4, o5, o6, o7, o8, o9, o10]) rfl ⟨⟨cls, flow, next, hops, src, dst, piece, more, off, id, data⟩, rfl, hp, HFin.out⟩

set_option maxHeartbeats 1000000 in
theorem drawV6Read_any (a : Option Addr) (len cap : Nat) (w : World) (hl : len ≤ 1048576) (hb : Bytes w a len w.heap.size) :
    Calls Try.prog 45 #[.slice a len cap] w fun e w' => ∃ t : ByteArray, e = .returned (.string t) ∧ t.size ≤ 7100 ∧ Below w.heap.size w w' := by
  have HB : Hid (Bytes w a len w.heap.size) := hb
  clear hb
  go_enter Try.func45, Try.ntmps45
  go_wp2_with fail
  refine (source_any a len cap _ hl HB.out).mono ?_
  rintro e w1 ⟨rfl, q1, size, -, -, hs1⟩
  have G1 : Hid (Below w.heap.size w w1) := q1
  have HS : Hid (Src w1 w.heap.size a len cap size) := hs1
  clear q1 hs1 HB
  go_wp2_with fail
  refine (drawV6_any w.heap.size a len cap size _ hl HS.out).mono ?_
  rintro e w2 ⟨⟨p, rfl, hp⟩, hs2, hg2⟩
  have G2 : Hid (Below w.heap.size w w2) := G1.out.trans (grown_belowP hg2 G1.out.size (Nat.le_refl _))
  have HS2 : Hid (Src w2 w.heap.size a len cap size) := hs2
  clear hs2 hg2 HS G1
  go_wp2_with fail
  refine (specV6Bytes_sm p _ hp.sm.1 hp.sm.2).mono ?_
  rintro e w3 ⟨rfl, q3⟩
  have G3 : Hid (Below w.heap.size w w3) := G2.out.trans (q3.mono G2.out.size)
  have HS3 : Hid (Src w3 w.heap.size a len cap size) := HS2.out.kept (grown_of_below (r := none) q3) (by simp)
  have hz := v6Bytes_size hp
  clear q3 HS2 G2
  go_wp2_with fail
  refine (drawPSpoil_any _ w.heap.size a len cap size _ hz hl HS3.out).mono ?_
  rintro e w4 ⟨s, rfl, hsz, -, hg4⟩
  have G4 : Hid (Below w.heap.size w w4) := G3.out.trans (grown_belowP hg4 G3.out.size (Nat.le_refl _))
  clear hg4
  go_wp2_with fail
  go_ret
  exact ⟨s, rfl, hsz, G4.out⟩
end Go.Proofs.Ytofhcplnnamcdaa
