/- Addresses of IPv4 in prefixes: what the program's Extract answers. -/
import Derived.Test.YtebhljogijemoaaIEmbed
import Derived.Test.YtebhljogijemoaaExtract
namespace Go.Proofs.Ytebhljogijemoaa
open Go.RowKit Go.PlainAid
set_option linter.unusedVariables false
set_option linter.unusedSimpArgs false

/-- The bytes of which the first k have been taken out. -/
def outF (six : ByteArray) (at1 k : Nat) (i : Nat) : Int := if i < k then extF six at1 i else 0

theorem outF_byte (six : ByteArray) (at1 k : Nat) : isByte (outF six at1 k) := fun i => by
  unfold outF; split
  · exact extF_byte six at1 i
  · omega

theorem out_set {w : World} {B k : Nat} {six : ByteArray} {at1 : Nat} (h : Holds w B 4 (outF six at1 k)) (hk : k < 4) : Holds (w.setCell ⟨B, k, none⟩ (.int .u8 (bt six (posE at1 k)))) B 4 (outF six at1 (k + 1)) :=
  (h.set k hk (bt six (posE at1 k))).congr (fun i _ => by
    unfold outF
    by_cases e : i = k
    · rw [if_pos e, if_pos (by omega), e]; rfl
    · rw [if_neg e]
      by_cases h2 : i < k
      · rw [if_pos h2, if_pos (by omega)]
      · rw [if_neg h2, if_neg (by omega)])

theorem out_all (six : ByteArray) (at1 : Nat) : bytesOf 4 (outF six at1 4) = extV six at1 :=
  ba_ext (by rw [bytesOf_size]; exact (bytesOf_size _ _).symm) (fun i hi => by
    rw [bytesOf_size] at hi
    have h1 := outF_byte six at1 4 i
    have h2 := extF_byte six at1 i
    show _ = bt (bytesOf 4 (extF six at1)) i
    rw [bytesOf_bt hi h1.1 h1.2, bytesOf_bt hi h2.1 h2.2]
    unfold outF; rw [if_pos hi])

theorem Holds.regrown {w : World} {B n : Nat} {f : Nat → Int} (h : Holds w B n f) (hB : B < w.heap.size) (d : Nat) (os : Array Obj) : Holds (Sort.grow (redrawn w d) os) B n f := h.below hB (below_regrown w d os)

theorem out_field (u : ByteArray) (c : Int) (W : World) : (Instr.field 37 (.agg #[.string u, .int .i64 c]) 0).run Try.prog W = .ok (.string u) W := by kernel_rfl

set_option maxRecDepth 100000 in
set_option maxHeartbeats 600000 in
theorem implExtract_any (p : ByteArray) (b : Int) (six : ByteArray) (w : World) (hp : p.size ≤ 1048576) (hs : six.size ≤ 1048576) :
    Calls Try.prog 18 #[.agg #[.string p, .int .i64 b], .string six] w fun e w' => e = .returned (.agg #[.string (extractV p b six).1, .int .i64 (extractV p b six).2]) ∧ Below w.heap.size w w' := by
  have hB : Hid (Below w.heap.size w ((w.alloc (.cells #[.string p, .int .i64 b] 33)).alloc (.cells #[.string ⟨#[]⟩, .int .i64 0] 37))) := ((Below.refl _ _).alloc (Nat.le_refl _) _).alloc (by simp) _
  by_cases hn : natOk p b = true
  · have hcall : Hid (∀ W, Calls Try.prog 37 #[.agg #[.string p, .int .i64 b]] W fun e w' => e = .returned (.bool true) ∧ Below W.heap.size W w') := fun W => by rw [← hn]; exact implNat_any p b W hp
    obtain ⟨hpo, hp16, hb0, hb1, at1, hat, hb8, ha, ha8⟩ := natOk_parts hn
    by_cases h16 : six.size = 16
    · have e16 : ((six.size : Int) != 16) = false := by simp; omega
      have hph : prefixHasV p b six = hasV p b six := by unfold prefixHasV; rw [hpo, addrOk_yes (.inr h16)]; rfl
      by_cases hh : hasV p b six = true
      · have hhas : Hid (∀ W, Calls Try.prog 19 #[.agg #[.string p, .int .i64 b], .string six] W fun e w' => e = .returned (.bool true) ∧ Below W.heap.size W w') := fun W => by rw [← hh, ← hph]; exact implPrefixHas_any p b six W hp hs
        have HE : Hid (∀ W, Calls Try.prog 16 #[.agg #[.string p, .int .i64 b], .string (extV six at1)] W fun e w' => e = .returned (.agg #[.string (embV p at1 (extV six at1)), .int .i64 0]) ∧ Below W.heap.size W w') := fun W => by
          have := implEmbed_any p b (extV six at1) W hp (by rw [show (extV six at1).size = 4 from bytesOf_size _ _]; omega)
          rwa [show embedV p b (extV six at1) = (embV p at1 (extV six at1), 0) by unfold embedV; rw [if_pos ⟨hn, bytesOf_size _ _⟩, hat]; rfl] at this
        have HV : Hid (extractV p b six = if embV p at1 (extV six at1) = six then (extV six at1, 0) else (⟨#[]⟩, 3)) := by
          unfold Hid extractV
          rw [if_pos ⟨hn, h16⟩, if_pos hh, hat, toList_beq]
          by_cases h : embV p at1 (extV six at1) = six
          · rw [if_pos h, if_pos (by simpa using h)]; rfl
          · rw [if_neg h, if_neg (by simpa using h)]
        have HP : Hid (∀ W, Calls Try.prog 38 #[.int .i64 b] W fun e w' => e = .returned (.agg (placesV at1)) ∧ Below W.heap.size W w') := fun W => implPlaces_any b at1 W hat hb0 ha ha8
        have hgb := get_bt six
        have h16' : (six.size : Int) = 16 := by omega
        clear hb8 hp16 h16 hn hpo hph hh
        go_enter Try.func18, Try.ntmps18
        go_wp2_with fail
        refine (hcall.out _).mono ?_
        rintro e w1 ⟨rfl, hb1⟩
        have HX1 := box_keep hb1
        obtain ⟨k0, k1, k2, k3, k4, k5⟩ := box_cells HX1
        have hsz1 := box_size HX1
        clear hb1 hcall
        have HX : Hid _ := HX1
        clear HX1 hB
        go_wp2_with fail
        refine (hhas.out _).mono ?_
        rintro e w2 ⟨rfl, q2⟩
        have HX2 : Hid (Below (w.heap.size + 2) ((w.alloc (.cells #[.string p, .int .i64 b] 33)).alloc (.cells #[.string ⟨#[]⟩, .int .i64 0] 37)) w2) := HX.out.trans (q2.mono hsz1)
        clear k0 k1 k2 k3 k4 k5 q2 HX hsz1 hhas
        obtain ⟨k0, k1, k2, k3, k4, k5⟩ := box_cells HX2.out
        have hsz2 := box_size HX2.out
        have hne : w.heap.size ≠ w2.heap.size := by omega
        have hh0 : Hid (Holds (w2.alloc (.cells #[.int .u8 0, .int .u8 0, .int .u8 0, .int .u8 0] 54)) w2.heap.size 4 (outF six at1 0)) := holds_zeros w2 4 54
        have HX3 : Hid (Below (w.heap.size + 2) ((w.alloc (.cells #[.string p, .int .i64 b] 33)).alloc (.cells #[.string ⟨#[]⟩, .int .i64 0] 37)) (w2.alloc (.cells #[.int .u8 0, .int .u8 0, .int .u8 0, .int .u8 0] 54))) := HX2.out.alloc hsz2 _
        have hG3 : w2.heap.size < (w2.alloc (.cells #[.int .u8 0, .int .u8 0, .int .u8 0, .int .u8 0] 54)).heap.size := by simp
        obtain ⟨m0, m1, m2, m3, m4, m5⟩ := box_cells HX3.out
        go_wp2_with fail
        generalize w2.alloc (.cells #[.int .u8 0, .int .u8 0, .int .u8 0, .int .u8 0] 54) = W3 at *
        refine (HP.out _).mono ?_
        rintro e w3 ⟨rfl, q3⟩
        have H3 : Hid (Holds w3 w2.heap.size 4 (outF six at1 0)) := hh0.out.below hG3 q3
        have HX4 : Hid (Below (w.heap.size + 2) ((w.alloc (.cells #[.string p, .int .i64 b] 33)).alloc (.cells #[.string ⟨#[]⟩, .int .i64 0] 37)) w3) := HX3.out.trans (q3.mono (box_size HX3.out))
        clear k0 k1 k2 k3 k4 k5 m0 m1 m2 m3 m4 m5 q3 HX3 hh0 hG3 HP
        unfold placesV
        go_wp2_with fail
        go_loopw [25] (fun i wr => ∃ k : Nat, k ≤ 4 ∧ i = .int .i64 k ∧ Holds wr w2.heap.size 4 (outF six at1 k) ∧ Below (w.heap.size + 2) ((w.alloc (.cells #[.string p, .int .i64 b] 33)).alloc (.cells #[.string ⟨#[]⟩, .int .i64 0] 37)) wr) (fun i _ => 4 - (intOf i).toNat)
        case atStart => exact ⟨0, Nat.zero_le _, rfl, H3.out, HX4.out⟩
        case round =>
          obtain ⟨k, hk, rfl, hh, hbel⟩ := hrel
          have HH : Hid (Holds wr w2.heap.size 4 (outF six at1 k)) := hh
          have HL : Hid (Below (w.heap.size + 2) ((w.alloc (.cells #[.string p, .int .i64 b] 33)).alloc (.cells #[.string ⟨#[]⟩, .int .i64 0] 37)) wr) := hbel
          clear hh hbel H3 HX4
          by_cases hlt : k < 4
          · have E := embE at1 k ha8 hlt
            have hq := HH.out.get k hlt
            have hq0 := E.1
            obtain ⟨hq1, hq2⟩ := hq
            clear E
            have hk4 : k = 0 ∨ k = 1 ∨ k = 2 ∨ k = 3 := by omega
            have hi0 := fun W => (four_index (.int .i64 (posE at1 0 : Nat)) (.int .i64 (posE at1 1 : Nat)) (.int .i64 (posE at1 2 : Nat)) (.int .i64 (posE at1 3 : Nat)) W).1
            have hi1 := fun W => (four_index (.int .i64 (posE at1 0 : Nat)) (.int .i64 (posE at1 1 : Nat)) (.int .i64 (posE at1 2 : Nat)) (.int .i64 (posE at1 3 : Nat)) W).2.1
            have hi2 := fun W => (four_index (.int .i64 (posE at1 0 : Nat)) (.int .i64 (posE at1 1 : Nat)) (.int .i64 (posE at1 2 : Nat)) (.int .i64 (posE at1 3 : Nat)) W).2.2.1
            have hi3 := fun W => (four_index (.int .i64 (posE at1 0 : Nat)) (.int .i64 (posE at1 1 : Nat)) (.int .i64 (posE at1 2 : Nat)) (.int .i64 (posE at1 3 : Nat)) W).2.2.2
            rcases hk4 with h | h | h | h <;> subst h
            · go_wp2
              go_roundw
              case rel => exact ⟨1, by omega, by go_num, out_set HH.out (by omega), HL.out.setCell hsz2 _⟩
              case measure => simp [intOf]
            · go_wp2
              go_roundw
              case rel => exact ⟨2, by omega, by go_num, out_set HH.out (by omega), HL.out.setCell hsz2 _⟩
              case measure => simp [intOf]
            · go_wp2
              go_roundw
              case rel => exact ⟨3, by omega, by go_num, out_set HH.out (by omega), HL.out.setCell hsz2 _⟩
              case measure => simp [intOf]
            · go_wp2
              go_roundw
              case rel => exact ⟨4, by omega, by go_num, out_set HH.out (by omega), HL.out.setCell hsz2 _⟩
              case measure => simp [intOf]
          · have hk4 : k = 4 := by omega
            subst hk4
            have hGr : w2.heap.size < wr.heap.size := World.block_lt_of_cell? _ _ (HH.out.get 0 (by omega)).1
            have hcv : ∀ d os, (convert 22 9 (.slice (some ⟨w2.heap.size, 0, none⟩) 4 4)).run Try.prog (Sort.grow (redrawn wr d) os) = .ok (.string (extV six at1)) (Sort.grow (redrawn wr d) os) := fun d os => by
              rw [← out_all]; exact (HH.out.regrown hGr d os).conv (cap := 4) (outF_byte six at1 4)
            obtain ⟨k0, k1, k2, k3, k4, k5⟩ := box_cells HL.out
            have c0 := cell_regrown k0
            have c1 := cell_regrown k1
            have hfl := out_field (embV p at1 (extV six at1)) 0
            by_cases heq : embV p at1 (extV six at1) = six
            · have HV2 : Hid (extractV p b six = (extV six at1, 0)) := by unfold Hid; rw [HV.out, if_pos heq]
              have hne2 : ((embV p at1 (extV six at1)).toList == six.toList) = true := by rw [heq]; simp
              clear heq HV
              go_wp2_with fail
              refine wp_region_quiet_below (by kernel_rfl) (by kernel_rfl) ?_
              repeat (go_big_quiet_step ((go_at_call 16; exact Calls.regrown_of (HE.out _))))
              refine wpQuiet_nil ?_
              rintro w4 ⟨⟨dq, osq⟩, rfl⟩
              have HX5 : Below (w.heap.size + 2) ((w.alloc (.cells #[.string p, .int .i64 b] 33)).alloc (.cells #[.string ⟨#[]⟩, .int .i64 0] 37)) (Sort.grow (redrawn wr dq) osq) := HL.out.trans ((below_regrown wr dq osq).mono (box_size HL.out))
              have hcv2 := hcv dq osq
              clear hcv c0 c1 k0 k1 k2 k3 k4 k5
              obtain ⟨k0, k1, k2, k3, k4, k5⟩ := box_cells HX5
              have HB5 : Hid (Below w.heap.size w (Sort.grow (redrawn wr dq) osq)) := embed_back HX5
              clear HX5
              generalize Sort.grow (redrawn wr dq) osq = W5 at *
              go_wp2
              exact bodyPost_ret (v := .agg #[.string (extV six at1), .int .i64 0]) (by simp [results, Try.results18, go_sem, k0, k1, k2, k3, k4, k5]) rfl ⟨by rw [HV2.out], (HB5.out.setCell (by simp) _).setCell (by simp) _⟩
            · have HV2 : Hid (extractV p b six = (⟨#[]⟩, 3)) := by unfold Hid; rw [HV.out, if_neg heq]
              have hne2 : ((embV p at1 (extV six at1)).toList == six.toList) = false := by
                rw [toList_beq]; simp [heq]
              clear heq HV
              go_wp2_with fail
              refine wp_region_quiet_below (by kernel_rfl) (by kernel_rfl) ?_
              repeat (go_big_quiet_step ((go_at_call 16; exact Calls.regrown_of (HE.out _))))
              refine wpQuiet_nil ?_
              rintro w4 ⟨⟨dq, osq⟩, rfl⟩
              have HX5 : Below (w.heap.size + 2) ((w.alloc (.cells #[.string p, .int .i64 b] 33)).alloc (.cells #[.string ⟨#[]⟩, .int .i64 0] 37)) (Sort.grow (redrawn wr dq) osq) := HL.out.trans ((below_regrown wr dq osq).mono (box_size HL.out))
              have hcv2 := hcv dq osq
              clear hcv c0 c1 k0 k1 k2 k3 k4 k5
              obtain ⟨k0, k1, k2, k3, k4, k5⟩ := box_cells HX5
              have HB5 : Hid (Below w.heap.size w (Sort.grow (redrawn wr dq) osq)) := embed_back HX5
              clear HX5
              generalize Sort.grow (redrawn wr dq) osq = W5 at *
              go_wp2
              exact bodyPost_ret (v := .agg #[.string ⟨#[]⟩, .int .i64 3]) (by simp [results, Try.results18, go_sem, k0, k1, k2, k3, k4, k5]) rfl ⟨by rw [HV2.out], (HB5.out.setCell (by simp) _).setCell (by simp) _⟩
      · have hh' : hasV p b six = false := by simpa using hh
        have hhas : Hid (∀ W, Calls Try.prog 19 #[.agg #[.string p, .int .i64 b], .string six] W fun e w' => e = .returned (.bool false) ∧ Below W.heap.size W w') := fun W => by rw [← hh', ← hph]; exact implPrefixHas_any p b six W hp hs
        have HV : Hid (extractV p b six = (⟨#[]⟩, 6)) := by
          unfold Hid extractV
          rw [if_pos ⟨hn, h16⟩, if_neg hh]
        clear hb8 hp16 h16 hn hpo hph hh hh'
        go_enter Try.func18, Try.ntmps18
        go_wp2_with fail
        refine (hcall.out _).mono ?_
        rintro e w1 ⟨rfl, hb1⟩
        have HX1 := box_keep hb1
        obtain ⟨k0, k1, k2, k3, k4, k5⟩ := box_cells HX1
        have hsz1 := box_size HX1
        clear hb1 hcall
        have HX : Hid _ := HX1
        clear HX1 hB
        go_wp2_with fail
        refine (hhas.out _).mono ?_
        rintro e w2 ⟨rfl, q2⟩
        have HX2 : Hid (Below (w.heap.size + 2) ((w.alloc (.cells #[.string p, .int .i64 b] 33)).alloc (.cells #[.string ⟨#[]⟩, .int .i64 0] 37)) w2) := HX.out.trans (q2.mono hsz1)
        clear k0 k1 k2 k3 k4 k5 q2 HX hsz1 hhas
        obtain ⟨k0, k1, k2, k3, k4, k5⟩ := box_cells HX2.out
        have HB2 : Hid (Below w.heap.size w w2) := embed_back HX2.out
        clear HX2
        go_wp2
        exact bodyPost_ret (v := .agg #[.string ⟨#[]⟩, .int .i64 6]) (by simp [results, Try.results18, go_sem, k0, k1, k2, k3, k4, k5]) rfl ⟨by rw [HV.out], (HB2.out.setCell (by simp) _).setCell (by simp) _⟩
    · have e16 : ((six.size : Int) != 16) = true := by simp; omega
      have HV : Hid (extractV p b six = (⟨#[]⟩, 1)) := if_neg (fun h => h16 h.2)
      clear hb8 hp16 h16 hn hpo hat
      go_enter Try.func18, Try.ntmps18
      go_wp2_with fail
      refine (hcall.out _).mono ?_
      rintro e w1 ⟨rfl, hb1⟩
      have HX1 := box_keep hb1
      obtain ⟨k0, k1, k2, k3, k4, k5⟩ := box_cells HX1
      have HB1 : Hid (Below w.heap.size w w1) := hB.out.trans (HX1.mono (by omega))
      clear HX1 hb1 hB
      go_wp2
      exact bodyPost_ret (v := .agg #[.string ⟨#[]⟩, .int .i64 1]) (by simp [results, Try.results18, go_sem, k0, k1, k2, k3, k4, k5]) rfl ⟨by rw [HV.out], (HB1.out.setCell (by simp) _).setCell (by simp) _⟩
  · have hn' : natOk p b = false := by simpa using hn
    have hcall : Hid (∀ W, Calls Try.prog 37 #[.agg #[.string p, .int .i64 b]] W fun e w' => e = .returned (.bool false) ∧ Below W.heap.size W w') := fun W => by rw [← hn']; exact implNat_any p b W hp
    have HV : Hid (extractV p b six = (⟨#[]⟩, 1)) := if_neg (fun h => hn h.1)
    clear hn hn'
    go_enter Try.func18, Try.ntmps18
    go_wp2_with fail
    refine (hcall.out _).mono ?_
    rintro e w1 ⟨rfl, hb1⟩
    have HX1 := box_keep hb1
    obtain ⟨k0, k1, k2, k3, k4, k5⟩ := box_cells HX1
    have HB1 : Hid (Below w.heap.size w w1) := hB.out.trans (HX1.mono (by omega))
    clear HX1 hb1 hB
    go_wp2
    exact bodyPost_ret (v := .agg #[.string ⟨#[]⟩, .int .i64 1]) (by simp [results, Try.results18, go_sem, k0, k1, k2, k3, k4, k5]) rfl ⟨by rw [HV.out], (HB1.out.setCell (by simp) _).setCell (by simp) _⟩

end Go.Proofs.Ytebhljogijemoaa
