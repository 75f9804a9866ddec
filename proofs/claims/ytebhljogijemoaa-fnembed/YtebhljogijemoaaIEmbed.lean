/- Addresses of IPv4 in prefixes: what the program's takesFour, fourPlaces and Embed answer. -/
import Derived.Test.YtebhljogijemoaaIHas
import Derived.Deep.RegionHeldLaw
namespace Go.Proofs.Ytebhljogijemoaa
open Go.RowKit Go.PlainAid
set_option linter.unusedVariables false
set_option linter.unusedSimpArgs false

set_option maxRecDepth 100000 in
set_option maxHeartbeats 1000000 in
theorem implNat_any (s : ByteArray) (b : Int) (w : World) (hs : s.size ≤ 1048576) :
    Calls Try.prog 37 #[.agg #[.string s, .int .i64 b]] w fun e w' => e = .returned (.bool (natOk s b)) ∧ Below w.heap.size w w' := by
  have hB : Hid (Below w.heap.size w (w.alloc (.cells #[.string s, .int .i64 b] 33))) := (Below.refl _ _).alloc (Nat.le_refl _) _
  by_cases h16 : s.size = 16
  · have e16 : ((s.size : Int) != 16) = false := by simp; omega
    by_cases hp : prefixOk s b = true
    · have hcall : Hid (∀ W, Calls Try.prog 41 #[.agg #[.string s, .int .i64 b]] W fun e w' => e = .returned (.bool true) ∧ Below W.heap.size W w') := fun W => by rw [← hp]; exact implPrefixRight_any s b W hs
      have HV : Hid (natOk s b = natBits b) := by unfold Hid natOk; simp [hp, h16]
      clear h16 hp
      by_cases hb : b = 32 ∨ b = 40 ∨ b = 48 ∨ b = 56 ∨ b = 64 ∨ b = 96
      · have HN : Hid (natBits b = true) := by unfold Hid natBits; rcases hb with h | h | h | h | h | h <;> subst h <;> rfl
        rcases hb with h | h | h | h | h | h <;> subst h
        all_goals
          go_enter Try.func37, Try.ntmps37
          go_wp2_with fail
          refine (hcall.out _).mono ?_
          rintro e w1 ⟨rfl, hb1⟩
          obtain ⟨hc, hf⟩ := bcell hb1
          have HB1 : Hid _ := hB.out.trans (hb1.mono (by simp))
          clear hf hb1
          go_wp2
          go_ret
          exact ⟨ret_bool (by rw [HV.out, HN.out]), HB1.out⟩
      · have HN : Hid (natBits b = false) := by
          unfold Hid natBits
          have h1 : (b == 96) = false := by simp; omega
          rw [h1, Bool.false_or, Bool.eq_false_iff]
          intro hh
          simp at hh
          omega
        have e1 : (b == 32) = false := by simp; omega
        have e2 : (b == 40) = false := by simp; omega
        have e3 : (b == 48) = false := by simp; omega
        have e4 : (b == 56) = false := by simp; omega
        have e5 : (b == 64) = false := by simp; omega
        have e6 : (b == 96) = false := by simp; omega
        clear hb
        go_enter Try.func37, Try.ntmps37
        go_wp2_with fail
        refine (hcall.out _).mono ?_
        rintro e w1 ⟨rfl, hb1⟩
        obtain ⟨hc, hf⟩ := bcell hb1
        have HB1 : Hid _ := hB.out.trans (hb1.mono (by simp))
        clear hf hb1
        go_wp2
        go_ret
        exact ⟨ret_bool (by rw [HV.out, HN.out]), HB1.out⟩
    · have hp' : prefixOk s b = false := by simpa using hp
      have hcall : Hid (∀ W, Calls Try.prog 41 #[.agg #[.string s, .int .i64 b]] W fun e w' => e = .returned (.bool false) ∧ Below W.heap.size W w') := fun W => by rw [← hp']; exact implPrefixRight_any s b W hs
      have HV : Hid (natOk s b = false) := by unfold Hid natOk; simp [hp']
      clear h16 hp hp'
      go_enter Try.func37, Try.ntmps37
      go_wp2_with fail
      refine (hcall.out _).mono ?_
      rintro e w1 ⟨rfl, hb1⟩
      have HB1 : Hid _ := hB.out.trans (hb1.mono (by simp))
      clear hb1
      go_wp2
      go_ret
      exact ⟨ret_bool HV.out.symm, HB1.out⟩
  · have e16 : ((s.size : Int) != 16) = true := by simp; omega
    have HV : Hid (natOk s b = false) := by unfold Hid natOk; simp [h16]
    clear h16
    go_enter Try.func37, Try.ntmps37
    go_wp2
    go_ret
    exact ⟨ret_bool HV.out.symm, hB.out⟩

/-- The places of the four bytes. -/
def placesV (at1 : Nat) : Array Value := #[.int .i64 (posE at1 0 : Nat), .int .i64 (posE at1 1 : Nat), .int .i64 (posE at1 2 : Nat), .int .i64 (posE at1 3 : Nat)]

/-- A row of four numbers in block B, of which the first k are laid. -/
structure HoldsP (w : World) (B at1 k : Nat) : Prop where
  get : ∀ i, i < 4 → w.cell? ⟨B, i, none⟩ = some (.int .i64 (if i < k then (posE at1 i : Nat) else 0)) ∧ w.frozen? ⟨B, i, none⟩ = false

theorem HoldsP.set {w : World} {B at1 k : Nat} (h : HoldsP w B at1 k) (hk : k < 4) : HoldsP (w.setCell ⟨B, k, none⟩ (.int .i64 (posE at1 k : Nat))) B at1 (k + 1) := by
  refine ⟨fun i hi => ⟨?_, by rw [World.frozen?_setCell]; exact (h.get i hi).2⟩⟩
  by_cases e : i = k
  · subst e; rw [if_pos (by omega)]; exact World.cell?_setCell_same _ _ _ (h.get i hi).1
  · rw [World.cell?_setCell_other _ _ _ _ (fun e2 => e (by injection e2 with _ h2; exact h2.symm)), (h.get i hi).1]
    by_cases h2 : i < k
    · rw [if_pos h2, if_pos (by omega)]
    · rw [if_neg h2, if_neg (by omega)]

set_option maxRecDepth 100000 in
set_option maxHeartbeats 400000 in
theorem implPlaces_any (b : Int) (at1 : Nat) (w : World) (hb : b / 8 = (at1 : Int)) (hb0 : 0 ≤ b) (ha : at1 ≤ 12) (ha8 : at1 ≤ 8 ∨ at1 = 12) :
    Calls Try.prog 38 #[.int .i64 b] w fun e w' => e = .returned (.agg (placesV at1)) ∧ Below w.heap.size w w' := by
  have HP0 : Hid (HoldsP ((w.alloc (.cells #[.int .i64 0, .int .i64 0, .int .i64 0, .int .i64 0] 51)).alloc (.cells #[.int .i64 0, .int .i64 0, .int .i64 0, .int .i64 0] 51)) (w.heap.size + 1) at1 0) := ⟨fun i hi => by
    rw [if_neg (by omega)]
    have : i = 0 ∨ i = 1 ∨ i = 2 ∨ i = 3 := by omega
    rcases this with h | h | h | h <;> subst h <;> simp⟩
  have HR0 : Hid (HoldsP ((w.alloc (.cells #[.int .i64 0, .int .i64 0, .int .i64 0, .int .i64 0] 51)).alloc (.cells #[.int .i64 0, .int .i64 0, .int .i64 0, .int .i64 0] 51)) w.heap.size at1 0) := ⟨fun i hi => by
    rw [if_neg (by omega)]
    have : i = 0 ∨ i = 1 ∨ i = 2 ∨ i = 3 := by omega
    rcases this with h | h | h | h <;> subst h <;> simp⟩
  have HB0 : Hid (Below w.heap.size w ((w.alloc (.cells #[.int .i64 0, .int .i64 0, .int .i64 0, .int .i64 0] 51)).alloc (.cells #[.int .i64 0, .int .i64 0, .int .i64 0, .int .i64 0] 51))) := ((Below.refl _ _).alloc (Nat.le_refl _) _).alloc (by simp) _
  go_enter Try.func38, Try.ntmps38
  go_wp2_with fail
  go_loopw [4, 8] (fun a i wr => ∃ k : Nat, k ≤ 4 ∧ i = .int .i64 k ∧ a = .int .i64 (nextE at1 k : Nat) ∧ HoldsP wr (w.heap.size + 1) at1 k ∧ HoldsP wr w.heap.size at1 0 ∧ Below w.heap.size w wr) (fun _ i _ => 4 - (intOf i).toNat)
  case atStart => exact ⟨0, Nat.zero_le _, rfl, by rw [nextE_zero, ← hb], HP0.out, HR0.out, HB0.out⟩
  case round =>
    obtain ⟨k, hk, rfl, rfl, hh, hres, hbel⟩ := hrel
    have HH : Hid (HoldsP wr (w.heap.size + 1) at1 k) := hh
    have HR : Hid (HoldsP wr w.heap.size at1 0) := hres
    have HL : Hid (Below w.heap.size w wr) := hbel
    clear hh hbel hres HP0 HR0 HB0
    by_cases hlt : k < 4
    · have E := embE at1 k ha8 hlt
      have hq := HH.out.get k hlt
      have HN : Hid _ := E.2.1
      obtain ⟨hq1, hq2⟩ := hq
      have HR2 : Hid (HoldsP (wr.setCell ⟨w.heap.size + 1, k, none⟩ (.int .i64 (posE at1 k : Nat))) w.heap.size at1 0) := ⟨fun i hi => by
        rw [World.frozen?_setCell, World.cell?_setCell_other _ _ _ _ (fun e2 => by injection e2 with h1 _; omega)]
        exact HR.out.get i hi⟩
      by_cases h8 : nextE at1 k = 8
      · have h9 : posE at1 k = 9 := by have := E.2.2; rw [if_pos h8] at this; exact this
        have H9 : Hid (posE at1 k = 9) := h9
        clear h9 E
        rw [h8]
        have H8 : Hid (nextE at1 k = 8) := h8
        clear h8
        go_wp2
        go_roundw
        case rel => exact ⟨k + 1, by omega, by go_num, by rw [HN.out, H9.out]; rfl, by have := HH.out.set hlt; rwa [H9.out] at this, by have := HR2.out; rwa [H9.out] at this, HL.out.setCell (by simp) _⟩
        case measure => simp [intOf]; omega
      · have h9 : posE at1 k = nextE at1 k := by have := E.2.2; rw [if_neg h8] at this; exact this
        have hq0 := E.1
        rw [h9] at hq0
        have H9 : Hid (posE at1 k = nextE at1 k) := h9
        clear h9 E
        obtain ⟨q, hqq⟩ : ∃ q, q = nextE at1 k := ⟨_, rfl⟩
        rw [← hqq] at hq0 h8 ⊢
        have h8' : ((q : Int) == 8) = false := by simp; omega
        have HQ : Hid (q = nextE at1 k) := hqq
        clear hqq
        go_wp2
        go_roundw
        case rel => exact ⟨k + 1, by omega, by go_num, by rw [HN.out, H9.out, ← HQ.out]; rfl, by have := HH.out.set hlt; rwa [H9.out, ← HQ.out] at this, by have := HR2.out; rwa [H9.out, ← HQ.out] at this, HL.out.setCell (by simp) _⟩
        case measure => simp [intOf]; omega
    · have hk4 : k = 4 := by omega
      subst hk4
      have p0 := HH.out.get 0 (by omega); have p1 := HH.out.get 1 (by omega); have p2 := HH.out.get 2 (by omega); have p3 := HH.out.get 3 (by omega)
      have r0 := HR.out.get 0 (by omega); have r1 := HR.out.get 1 (by omega); have r2 := HR.out.get 2 (by omega); have r3 := HR.out.get 3 (by omega)
      simp only [Nat.reduceLT, if_true] at p0 p1 p2 p3
      simp only [Nat.not_lt_zero, if_false] at r0 r1 r2 r3
      obtain ⟨p0, _⟩ := p0; obtain ⟨p1, _⟩ := p1; obtain ⟨p2, _⟩ := p2; obtain ⟨p3, _⟩ := p3
      obtain ⟨r0, s0⟩ := r0; obtain ⟨r1, s1⟩ := r1; obtain ⟨r2, s2⟩ := r2; obtain ⟨r3, s3⟩ := r3
      go_wp2
      exact bodyPost_ret (v := .agg (placesV at1)) (by simp [results, Try.results38, go_sem, r0, r1, r2, r3, s0, s1, s2, s3, placesV]) rfl ⟨rfl, (((HL.out.setCell (by simp) _).setCell (by simp) _).setCell (by simp) _).setCell (by simp) _⟩

/-- Behind its bits a right prefix is 0. -/
theorem nat_zero {p : ByteArray} {b : Int} {at1 : Nat} (hn : natOk p b = true) (hb : b = 8 * (at1 : Int)) {i : Nat} (h1 : at1 ≤ i) (h2 : i < 16) : bt p i = 0 := by
  obtain ⟨hp, h16, hb0, hb1, _⟩ := natOk_parts hn
  unfold prefixOk at hp
  simp at hp
  have hz := (zerosN_iff _ _).1 hp.2
  refine byte_bits (bt_isByte p i).1 (bt_isByte p i).2 (Int.le_refl _) (by decide) (fun m hm => ?_)
  have := hz (8 * i + m) (by omega) (by omega)
  unfold bitN at this
  rw [show (8 * i + m) / 8 = i by omega, show (8 * i + m) % 8 = m by omega] at this
  rw [this]; simp

theorem Holds.below {w w3 : World} {B n : Nat} {f : Nat → Int} (h : Holds w B n f) (hB : B < w.heap.size) (hb : Below w.heap.size w w3) : Holds w3 B n f :=
  ⟨fun i hi => ⟨((bcell hb).1 B i hB).trans (h.get i hi).1, ((bcell hb).2 B i hB).trans (h.get i hi).2⟩⟩

theorem embed_back {w wx : World} {o1 o2 : Obj} (h : Below (w.heap.size + 2) ((w.alloc o1).alloc o2) wx) : Below w.heap.size w wx :=
  (((Below.refl _ w).alloc (Nat.le_refl _) o1).alloc (by simp) o2).trans (h.mono (by omega))

theorem box_setCells {W : World} {H G : Nat} {v0 v1 : Value} (h : W.cell? ⟨H, 0, none⟩ = some v0 ∧ W.cell? ⟨H, 1, none⟩ = some v1) (hne : H ≠ G) (vs : List Value) : (W.drew.setCells G 0 vs).cell? ⟨H, 0, none⟩ = some v0 ∧ (W.drew.setCells G 0 vs).cell? ⟨H, 1, none⟩ = some v1 :=
  ⟨(World.cell?_setCells_out G vs 0 W.drew _ (fun e _ => absurd e hne)).trans h.1, (World.cell?_setCells_out G vs 0 W.drew _ (fun e _ => absurd e hne)).trans h.2⟩

theorem four_index (a b c d : Value) (W : World) :
    (Instr.index 51 (.agg #[a, b, c, d]) (.int .i64 0)).run Try.prog W = .ok a W ∧ (Instr.index 51 (.agg #[a, b, c, d]) (.int .i64 1)).run Try.prog W = .ok b W ∧
    (Instr.index 51 (.agg #[a, b, c, d]) (.int .i64 2)).run Try.prog W = .ok c W ∧ (Instr.index 51 (.agg #[a, b, c, d]) (.int .i64 3)).run Try.prog W = .ok d W := ⟨by kernel_rfl, by kernel_rfl, by kernel_rfl, by kernel_rfl⟩

set_option maxRecDepth 100000 in
set_option maxHeartbeats 400000 in
theorem implEmbed_any (p : ByteArray) (b : Int) (four : ByteArray) (w : World) (hp : p.size ≤ 1048576) (hf : four.size ≤ 1048576) :
    Calls Try.prog 16 #[.agg #[.string p, .int .i64 b], .string four] w fun e w' => e = .returned (.agg #[.string (embedV p b four).1, .int .i64 (embedV p b four).2]) ∧ Below w.heap.size w w' := by
  have hB : Hid (Below w.heap.size w ((w.alloc (.cells #[.string p, .int .i64 b] 33)).alloc (.cells #[.string ⟨#[]⟩, .int .i64 0] 37))) := ((Below.refl _ _).alloc (Nat.le_refl _) _).alloc (by simp) _
  by_cases hn : natOk p b = true
  · have hcall : Hid (∀ W, Calls Try.prog 37 #[.agg #[.string p, .int .i64 b]] W fun e w' => e = .returned (.bool true) ∧ Below W.heap.size W w') := fun W => by rw [← hn]; exact implNat_any p b W hp
    obtain ⟨_, hp16, hb0, hb1, at1, hat, hb8, ha, ha8⟩ := natOk_parts hn
    by_cases h4 : four.size = 4
    · have HV : Hid (embedV p b four = (embV p at1 four, 0)) := by unfold Hid embedV; rw [if_pos ⟨hn, h4⟩, hat]; rfl
      have HZ : Hid (∀ i, at1 ≤ i → i < 16 → bt p i = 0) := fun i h1 h2 => nat_zero hn hb8 h1 h2
      have e4 : ((four.size : Int) != 4) = false := by simp; omega
      have HP : Hid (∀ W, Calls Try.prog 38 #[.int .i64 b] W fun e w' => e = .returned (.agg (placesV at1)) ∧ Below W.heap.size W w') := fun W => implPlaces_any b at1 W hat hb0 ha ha8
      have hgb := get_bt four
      have HF : Hid (four.size = 4) := h4
      have h4' : (four.size : Int) = 4 := by omega
      have hpl : (at1 : Int) ≤ (p.size : Int) := by omega
      have HS : Hid (p.size = 16) := hp16
      clear hb8 hp16 h4
      go_enter Try.func16, Try.ntmps16
      go_wp2_with fail
      refine (hcall.out _).mono ?_
      rintro e w1 ⟨rfl, hb1⟩
      have HX1 := box_keep hb1
      obtain ⟨k0, k1, k2, k3, k4, k5⟩ := box_cells HX1
      have HB1 : Hid (Below w.heap.size w w1) := hB.out.trans (HX1.mono (by omega))
      have hsz1 := box_size HX1
      clear hb1 hcall hn
      have HX : Hid _ := HX1
      clear HX1 hB
      go_wp2_with fail
      rw [show w1.alloc (.cells #[.int .u8 0, .int .u8 0, .int .u8 0, .int .u8 0, .int .u8 0, .int .u8 0, .int .u8 0, .int .u8 0, .int .u8 0, .int .u8 0, .int .u8 0, .int .u8 0, .int .u8 0, .int .u8 0, .int .u8 0, .int .u8 0] 50) = w1.alloc (.cells (Array.replicate 16 (.int .u8 0)) 50) from rfl]
      have hh0 := holds_zeros w1 16 50
      have HX2 := HX.out.alloc hsz1 (.cells (Array.replicate 16 (.int .u8 0)) 50)
      have hG2 : w1.heap.size < (w1.alloc (.cells (Array.replicate 16 (.int .u8 0)) 50)).heap.size := by simp
      generalize w1.alloc (.cells (Array.replicate 16 (.int .u8 0)) 50) = W at hh0 HX2 hG2 ⊢
      clear k0 k1 k2 k3 k4 k5 HX HB1
      obtain ⟨k0, k1, k2, k3, k4, k5⟩ := box_cells HX2
      have hts := extract_size p at1 (by have := HS.out; omega)
      have H0 : Hid (Holds W w1.heap.size 16 (fun _ => 0)) := hh0
      have HX : Hid _ := HX2
      clear hh0 HX2
      have hwr : IntKind.i64.wrap (b.tdiv 8) = (at1 : Int) := by rw [Int.tdiv_eq_ediv_of_nonneg hb0, hat, IntWalk.i64_in _ ⟨by omega, by omega⟩]
      have hne : w.heap.size ≠ w1.heap.size := by omega
      go_region_held_law (fun w' => w'.cell? ⟨w.heap.size, 0, none⟩ = some (.string p) ∧ w'.cell? ⟨w.heap.size, 1, none⟩ = some (.int .i64 b)) (first | (exact box_setCells ⟨k0, k1⟩ hne _) | go_keep) (refine step_copy_string rfl (.tmp 17) (.tmp 23) 22 9 rfl 5 Try.underlying22 Try.size8 w1.heap.size 0 16 16 (by simp [Act.eval, Act.put]) (p.extract 0 at1) (by simp [Act.eval, Act.put]) (by omega) (fun j hj => by rw [Nat.zero_add, (H0.out.drew.get j (by omega)).1]; rfl) (fun j hj => by rw [Nat.zero_add]; exact (H0.out.drew.get j (by omega)).2) ?_)
      have hh1 := H0.out.drew.setCells (p.extract 0 at1) (by omega)
      have HX3 : Below (w.heap.size + 2) ((w.alloc (.cells #[.string p, .int .i64 b] 33)).alloc (.cells #[.string ⟨#[]⟩, .int .i64 0] 37)) (W.drew.setCells w1.heap.size 0 ((p.extract 0 at1).data.toList.map fun x => Value.int .u8 (x.toNat : Int))) := below_setCells hsz1 _ _ _ HX.out.drew
      rw [extract_map] at hh1 HX3
      try rw [extract_map]
      replace hh1 := hh1.congr (g := embF p at1 four 0) (fun i hi => by
        show _ = bt p i
        rw [hts]
        by_cases h : i < at1
        · rw [if_pos h, extract_bt p _ i (by have := HS.out; omega) h]
        · rw [if_neg h, HZ.out i (by omega) hi])
      have hG3 : w1.heap.size < (W.drew.setCells w1.heap.size 0 (List.take at1 (List.map (fun x : UInt8 => Value.int .u8 (x.toNat : Int)) p.data.toList))).heap.size := World.block_lt_of_cell? _ _ (hh1.get 0 (by omega)).1
      generalize W.drew.setCells w1.heap.size 0 (List.take at1 (List.map (fun x : UInt8 => Value.int .u8 (x.toNat : Int)) p.data.toList)) = W2 at hh1 HX3 hG3 ⊢
      clear H0 HX hts hwr k0 k1 k2 k3 k4 k5 hG2
      obtain ⟨k0, k1, k2, k3, k4, k5⟩ := box_cells HX3
      have H1 : Hid (Holds W2 w1.heap.size 16 (embF p at1 four 0)) := hh1
      have HX : Hid _ := HX3
      clear hh1 HX3
      go_wp2_with fail
      refine (HP.out _).mono ?_
      rintro e w3 ⟨rfl, q3⟩
      have H3 : Hid (Holds w3 w1.heap.size 16 (embF p at1 four 0)) := H1.out.below hG3 q3
      have HX3 : Hid (Below (w.heap.size + 2) ((w.alloc (.cells #[.string p, .int .i64 b] 33)).alloc (.cells #[.string ⟨#[]⟩, .int .i64 0] 37)) w3) := HX.out.trans (q3.mono (box_size HX.out))
      clear k0 k1 k2 k3 k4 k5 q3 H1 HX hG3 HP HZ
      unfold placesV
      go_wp2_with fail
      go_loopw [28] (fun i wr => ∃ k : Nat, k ≤ 4 ∧ i = .int .i64 k ∧ Holds wr w1.heap.size 16 (embF p at1 four k) ∧ Below (w.heap.size + 2) ((w.alloc (.cells #[.string p, .int .i64 b] 33)).alloc (.cells #[.string ⟨#[]⟩, .int .i64 0] 37)) wr) (fun i _ => 4 - (intOf i).toNat)
      case atStart => exact ⟨0, Nat.zero_le _, rfl, H3.out, HX3.out⟩
      case round =>
        obtain ⟨k, hk, rfl, hh, hbel⟩ := hrel
        have HH : Hid (Holds wr w1.heap.size 16 (embF p at1 four k)) := hh
        have HL : Hid (Below (w.heap.size + 2) ((w.alloc (.cells #[.string p, .int .i64 b] 33)).alloc (.cells #[.string ⟨#[]⟩, .int .i64 0] 37)) wr) := hbel
        clear hh hbel H3 HX3
        by_cases hlt : k < 4
        · have E := embE at1 k ha8 hlt
          have hq := HH.out.get (posE at1 k) E.1
          have hq0 := E.1
          have HPk : Hid (embF p at1 four (k + 1) = fun i => if i = posE at1 k then bt four k else embF p at1 four k i) := rfl
          obtain ⟨hq1, hq2⟩ := hq
          clear E
          have hk4 : k = 0 ∨ k = 1 ∨ k = 2 ∨ k = 3 := by omega
          have hi0 := fun W => (four_index (.int .i64 (posE at1 0 : Nat)) (.int .i64 (posE at1 1 : Nat)) (.int .i64 (posE at1 2 : Nat)) (.int .i64 (posE at1 3 : Nat)) W).1
          have hi1 := fun W => (four_index (.int .i64 (posE at1 0 : Nat)) (.int .i64 (posE at1 1 : Nat)) (.int .i64 (posE at1 2 : Nat)) (.int .i64 (posE at1 3 : Nat)) W).2.1
          have hi2 := fun W => (four_index (.int .i64 (posE at1 0 : Nat)) (.int .i64 (posE at1 1 : Nat)) (.int .i64 (posE at1 2 : Nat)) (.int .i64 (posE at1 3 : Nat)) W).2.2.1
          have hi3 := fun W => (four_index (.int .i64 (posE at1 0 : Nat)) (.int .i64 (posE at1 1 : Nat)) (.int .i64 (posE at1 2 : Nat)) (.int .i64 (posE at1 3 : Nat)) W).2.2.2
          rcases hk4 with h | h | h | h <;> subst h
          · go_wp2
            go_roundw
            case rel => exact ⟨1, by omega, by go_num, by have := HPk.out; rw [show (1 : Nat) = 0 + 1 from rfl, this]; exact HH.out.set _ hq0 _, HL.out.setCell hsz1 _⟩
            case measure => simp [intOf]
          · go_wp2
            go_roundw
            case rel => exact ⟨2, by omega, by go_num, by have := HPk.out; rw [show (2 : Nat) = 1 + 1 from rfl, this]; exact HH.out.set _ hq0 _, HL.out.setCell hsz1 _⟩
            case measure => simp [intOf]
          · go_wp2
            go_roundw
            case rel => exact ⟨3, by omega, by go_num, by have := HPk.out; rw [show (3 : Nat) = 2 + 1 from rfl, this]; exact HH.out.set _ hq0 _, HL.out.setCell hsz1 _⟩
            case measure => simp [intOf]
          · go_wp2
            go_roundw
            case rel => exact ⟨4, by omega, by go_num, by have := HPk.out; rw [show (4 : Nat) = 3 + 1 from rfl, this]; exact HH.out.set _ hq0 _, HL.out.setCell hsz1 _⟩
            case measure => simp [intOf]
        · have hk4 : k = 4 := by omega
          subst hk4
          have hcv2 := HH.out.conv (cap := 16) (embF_byte p at1 four 4)
          obtain ⟨k0, k1, k2, k3, k4, k5⟩ := box_cells HL.out
          go_wp2
          exact bodyPost_ret (v := .agg #[.string (embV p at1 four), .int .i64 0]) (by simp [results, Try.results16, go_sem, k0, k1, k2, k3, k4, k5]; rfl) rfl ⟨by rw [HV.out], ((embed_back HL.out).setCell (by simp) _).setCell (by simp) _⟩
    · have HV : Hid (embedV p b four = (⟨#[]⟩, 1)) := if_neg (fun h => h4 h.2)
      have e4 : ((four.size : Int) != 4) = true := by simp; omega
      clear h4 hp16 hat hb8
      go_enter Try.func16, Try.ntmps16
      go_wp2_with fail
      refine (hcall.out _).mono ?_
      rintro e w1 ⟨rfl, hb1⟩
      have HX1 := box_keep hb1
      obtain ⟨k0, k1, k2, k3, k4, k5⟩ := box_cells HX1
      have HB1 : Hid (Below w.heap.size w w1) := hB.out.trans (HX1.mono (by omega))
      clear HX1 hb1 hB
      go_wp2
      exact bodyPost_ret (v := .agg #[.string ⟨#[]⟩, .int .i64 1]) (by simp [results, Try.results16, go_sem, k0, k1, k2, k3, k4, k5]) rfl ⟨by rw [HV.out], (HB1.out.setCell (by simp) _).setCell (by simp) _⟩
  · have HV : Hid (embedV p b four = (⟨#[]⟩, 1)) := if_neg (fun h => hn h.1)
    have hn' : natOk p b = false := by simpa using hn
    have hcall : Hid (∀ W, Calls Try.prog 37 #[.agg #[.string p, .int .i64 b]] W fun e w' => e = .returned (.bool false) ∧ Below W.heap.size W w') := fun W => by rw [← hn']; exact implNat_any p b W hp
    clear hn hn'
    go_enter Try.func16, Try.ntmps16
    go_wp2_with fail
    refine (hcall.out _).mono ?_
    rintro e w1 ⟨rfl, hb1⟩
    have HX1 := box_keep hb1
    obtain ⟨k0, k1, k2, k3, k4, k5⟩ := box_cells HX1
    have HB1 : Hid (Below w.heap.size w w1) := hB.out.trans (HX1.mono (by omega))
    clear HX1 hb1 hB
    go_wp2
    exact bodyPost_ret (v := .agg #[.string ⟨#[]⟩, .int .i64 1]) (by simp [results, Try.results16, go_sem, k0, k1, k2, k3, k4, k5]) rfl ⟨by rw [HV.out], (HB1.out.setCell (by simp) _).setCell (by simp) _⟩

end Go.Proofs.Ytebhljogijemoaa
