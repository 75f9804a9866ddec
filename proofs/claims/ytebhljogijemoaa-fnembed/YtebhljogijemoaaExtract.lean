/- What the specification's Extract answers. -/
import Derived.Test.YtebhljogijemoaaEmbed
import Derived.Deep.RegionWith
namespace Go.Proofs.Ytebhljogijemoaa
open Go.RowKit Go.PlainAid
set_option linter.unusedVariables false
set_option linter.unusedSimpArgs false


/-- The four bytes that lie in an address behind a prefix. -/
def extF (six : ByteArray) (at1 : Nat) (k : Nat) : Int := bt six (posE at1 k)
def extV (six : ByteArray) (at1 : Nat) : ByteArray := bytesOf 4 (extF six at1)

theorem extF_byte (six : ByteArray) (at1 : Nat) : isByte (extF six at1) := fun k => bt_isByte six _

/-- The first k of them as a list. -/
def extL (six : ByteArray) (at1 k : Nat) : List Int := (List.range k).map (extF six at1)

theorem extL_succ (six : ByteArray) (at1 k : Nat) : extL six at1 (k + 1) = extL six at1 k ++ [extF six at1 k] := by
  simp [extL, List.range_succ]

theorem Try.infoC : (Try.prog.info? 5).map (fun i => (i.zero, i.size, i.bytes)) = some (some (.int .u8 0), 1, 1) := by kernel_rfl

theorem own_conv {w : World} {base : Nat} {g cap n : Nat} {f : Nat → Int} (hf : isByte f)
    (h : w.ownsRow base 5 1 (.slice (some ⟨g, 0, none⟩) n cap) n (((List.range n).map f).map (Value.int .u8))) :
    (convert 22 9 (.slice (some ⟨g, 0, none⟩) n cap)).run Try.prog w = .ok (.string (bytesOf n f)) w :=
  Holds.conv ⟨fun i hi => ⟨by rw [h.cellAt i (by omega)]; simp [hi], h.frozenAt i⟩⟩ hf


theorem ext_step {w0 wr w2 : World} {B e k q at1 : Nat} {six : ByteArray} {v v' : Value} {o : Obj} (hq : q = posE at1 k) (hown : wr.ownsRow B e 1 v k ((extL six at1 k).map (Value.int .u8))) (hb : Below B w0 wr) (hsz : B ≤ wr.heap.size)
    (hown2 : w2.ownsRow B e 1 v' (k + 1) ((extL six at1 k).map (Value.int .u8) ++ [Value.int .u8 (bt six q)])) (hgrow : (wr.alloc o).grownBy w2 v.ownBlock) :
    w2.ownsRow B e 1 v' (k + 1) ((extL six at1 (k + 1)).map (Value.int .u8)) ∧ Below B w0 w2 := by
  refine ⟨?_, (hb.alloc hsz o).grown hgrow (by simp; omega) (fun j hj => (hown.lt j hj).1)⟩
  rw [extL_succ, List.map_append]
  subst hq
  exact hown2

theorem ext_below {w wr w4 : World} {o : Obj} (hB : Below w.heap.size w (w.alloc o)) (hL : Below (w.heap.size + 1) (w.alloc o) wr) (hsz : w.heap.size + 1 ≤ wr.heap.size) (h4 : Below wr.heap.size wr.drew w4) : Below w.heap.size w w4 :=
  (hB.trans (hL.mono (by omega))).drew.trans (h4.mono (by omega))


set_option maxRecDepth 100000 in
set_option maxHeartbeats 2000000 in
theorem specExtract1_any (p : ByteArray) (b : Int) (at1 : Nat) (six : ByteArray) (w : World) (hp : p.size = 16) (hs : six.size = 16) (hb : b / 8 = (at1 : Int)) (hb0 : 0 ≤ b) (ha : at1 ≤ 12) (ha8 : at1 ≤ 8 ∨ at1 = 12) :
    Calls Try.prog 45 #[.agg #[.string p, .int .i64 b], .string six] w fun e w' => e = .returned (.tuple #[.string (extV six at1), .bool ((embV p at1 (extV six at1)).toList == six.toList)]) ∧ Below w.heap.size w w' := by
  obtain ⟨i0, hi, hz0, hz1, hz2⟩ := info_parts Try.infoC
  have hB : Hid (Below w.heap.size w (w.alloc (.cells #[.string p, .int .i64 b] 33))) := (Below.refl _ _).alloc (Nat.le_refl _) _
  have HC : Hid (∀ W, Calls Try.prog 40 #[.agg #[.string p, .int .i64 b], .string (extV six at1)] W fun e w' => e = .returned (.string (embV p at1 (extV six at1))) ∧ Below W.heap.size W w') := fun W => specEmbed1_any p b at1 (extV six at1) W hp (bytesOf_size _ _) hb hb0 ha ha8
  have hgb := get_bt six
  have hs' : (16 : Int) ≤ six.size := by omega
  have HSZ : Hid (six.size = 16) := hs
  have HBB : Hid (b / 8 = (at1 : Int)) := hb
  have hbx : b ≤ 128 := by omega
  clear hp hs hb
  go_enter Try.func45, Try.ntmps45
  go_wp2_with fail
  go_loopw [6, 7, 8] (fun v a i wr => ∃ k : Nat, k ≤ 4 ∧ i = .int .i64 k ∧ a = .int .i64 (nextE at1 k : Nat) ∧ wr.ownsRow (w.heap.size + 1) 5 1 v k ((extL six at1 k).map (Value.int .u8)) ∧ v ≠ .slice none 0 0 ∧ Below (w.heap.size + 1) (w.alloc (.cells #[.string p, .int .i64 b] 33)) wr) (fun _ _ i _ => 4 - (intOf i).toNat)
  case atStart =>
    refine ⟨0, Nat.zero_le _, rfl, by rw [nextE_zero, ← HBB.out], ?_, by simp, ?_⟩
    · have := World.ownsRow_made (base := w.heap.size + 1) (e := 5) (size := 1) (w.alloc (.cells #[.string p, .int .i64 b] 33)) #[] 0 (by simp) (by unfold maxLen; omega) rfl
      simpa [extL] using this
    · exact (Below.refl _ _).alloc (by simp) _
  case round =>
    obtain ⟨k, hk, rfl, rfl, hown, hnn, hbel⟩ := hrel
    have HL : Hid (Below (w.heap.size + 1) (w.alloc (.cells #[.string p, .int .i64 b] 33)) wr) := hbel
    have HN : Hid (u6 ≠ .slice none 0 0) := hnn
    have hsz : w.heap.size + 1 ≤ wr.heap.size := Nat.le_trans (by simp) hbel.size
    clear hbel hnn
    by_cases hlt : k < 4
    · have E := embE at1 k ha8 hlt
      have hq0 := E.1
      have HE : Hid _ := E.2.1
      have HP : Hid _ := E.2.2
      clear E
      obtain ⟨q, hqq⟩ : ∃ q, q = posE at1 k := ⟨_, rfl⟩
      rw [← hqq] at hq0
      have HQ : Hid (q = posE at1 k) := hqq
      clear hqq
      by_cases h8 : nextE at1 k = 8
      · have h9 : q = 9 := by have := HP.out; rw [if_pos h8] at this; exact HQ.out.trans this
        subst h9
        rw [h8]
        have H8 : Hid (nextE at1 k = 8) := h8
        clear h8
        go_wp2_with (at_builtin; refine wpList_append_own _ rfl (.tmp 19) (.tmp 23) 22 rfl (w.heap.size + 1) 5 i0 (.int .u8 0) 1 1 Try.underlying22 hi hz0 hz1 hz2 rfl (by decide) _ _ _ rfl (hown.alloc _) ⟨wr.heap.size, 0, none⟩ 1 1 [.int .u8 (bt six 9)] rfl rfl ?c1 ?c2 ?c3 ?c4 ?c5 ?_)
        case c1 =>
          intro j u hj
          match j, hj with
          | 0, hj => simp at hj; subst hj; simp [Addr.add]
        case c2 => intro u hu; simp at hu; subst hu; rfl
        case c3 => unfold maxLen; omega
        case c4 => omega
        case c5 => simp; omega
        · intro v' w2 hown2 hgrow hnil
          have R := ext_step HQ.out hown HL.out hsz hown2 hgrow
          clear hown2 hgrow hown
          go_wp2
          go_roundw
          case rel => exact ⟨k + 1, by omega, by go_num, by rw [HE.out, ← HQ.out]; rfl, R.1, hnil, R.2⟩
          case measure => simp [intOf]; omega
      · have h9 : q = nextE at1 k := by have := HP.out; rw [if_neg h8] at this; exact HQ.out.trans this
        rw [← h9] at h8 ⊢
        have h8' : ((q : Int) == 8) = false := by simp; omega
        have H9 : Hid (q = nextE at1 k) := h9
        clear h9
        go_wp2_with (at_builtin; refine wpList_append_own _ rfl (.tmp 19) (.tmp 23) 22 rfl (w.heap.size + 1) 5 i0 (.int .u8 0) 1 1 Try.underlying22 hi hz0 hz1 hz2 rfl (by decide) _ _ _ rfl (hown.alloc _) ⟨wr.heap.size, 0, none⟩ 1 1 [.int .u8 (bt six q)] rfl rfl ?d1 ?d2 ?d3 ?d4 ?d5 ?_)
        case d1 =>
          intro j u hj
          match j, hj with
          | 0, hj => simp at hj; subst hj; simp [Addr.add]
        case d2 => intro u hu; simp at hu; subst hu; rfl
        case d3 => unfold maxLen; omega
        case d4 => omega
        case d5 => simp; omega
        · intro v' w2 hown2 hgrow hnil
          have R := ext_step HQ.out hown HL.out hsz hown2 hgrow
          clear hown2 hgrow hown
          go_wp2
          go_roundw
          case rel => exact ⟨k + 1, by omega, by go_num, by rw [HE.out, ← HQ.out]; rfl, R.1, hnil, R.2⟩
          case measure => simp [intOf]; omega
    · have hk4 : k = 4 := by omega
      subst hk4
      obtain ⟨g, cp, hv, hown'⟩ := own_shape hown HN.out
      subst hv
      have HA : Hid (∀ W, Below wr.heap.size wr W → (convert 22 9 (.slice (some ⟨g, 0, none⟩) 4 cp)).run Try.prog W = .ok (.string (extV six at1)) W) := fun W hW => own_conv (extF_byte six at1) (hown'.kept (grown_of_below (r := none) hW) (.inr (by simp [Value.ownBlock])))
      have hcv0 := HA.out wr.drew (Below.refl _ _).drew
      have b0 : wr.cell? ⟨w.heap.size, 0, none⟩ = some (.string p) := (HL.out.cell (p := ⟨w.heap.size, 0, none⟩) (Nat.lt_succ_self _)).trans (by simp)
      have b1 : wr.cell? ⟨w.heap.size, 1, none⟩ = some (.int .i64 b) := (HL.out.cell (p := ⟨w.heap.size, 1, none⟩) (Nat.lt_succ_self _)).trans (by simp)
      clear hown hown'
      go_upto_region 10 with fail
      go_cut [4, 5] (fun a ok wx => a = .string (extV six at1) ∧ ok = .bool ((embV p at1 (extV six at1)).toList == six.toList) ∧ Below w.heap.size w wx)
      case first =>
        go_region_with (go_at_call 40; refine (HC.out _).mono ?_; rintro e w4 ⟨rfl, hb4⟩; have hcv4 := HA.out w4 (below_undrew hb4))
        all_goals go_wp2_with fail
        all_goals go_meet
        all_goals exact ⟨rfl, rfl, ext_below hB.out HL.out hsz hb4⟩
      case rest =>
      obtain ⟨rfl, rfl, hbel⟩ := hcut
      go_wp2
      go_ret2
      exact ⟨rfl, hbel⟩

/-- What Extract answers: the text, and the code. -/
def extractV (p : ByteArray) (b : Int) (six : ByteArray) : ByteArray × Int :=
  if natOk p b = true ∧ six.size = 16 then
    if hasV p b six = true then
      if ((embV p (b / 8).toNat (extV six (b / 8).toNat)).toList == six.toList) = true then (extV six (b / 8).toNat, 0) else (⟨#[]⟩, 3)
    else (⟨#[]⟩, 6)
  else (⟨#[]⟩, 1)

set_option maxHeartbeats 1000000 in
theorem specExtract_any (p : ByteArray) (b : Int) (six : ByteArray) (w : World) (hp : p.size ≤ 1048576) (hs : six.size ≤ 1048576) :
    Calls Try.prog 21 #[.agg #[.string p, .int .i64 b], .string six] w fun e w' => e = .returned (.agg #[.string (extractV p b six).1, .int .i64 (extractV p b six).2]) ∧ Below w.heap.size w w' := by
  have hB : Hid (Below w.heap.size w ((w.alloc (.cells #[.string p, .int .i64 b] 33)).alloc (.cells #[.string ⟨#[]⟩, .int .i64 0] 37))) := ((Below.refl _ _).alloc (Nat.le_refl _) _).alloc (by simp) _
  by_cases hn : natOk p b = true
  · obtain ⟨-, hp16, hb0, hb128, at1, ha, -, ha12, ha8⟩ := natOk_parts hn
    by_cases h16 : six.size = 16
    · have e16 : ((six.size : Int) != 16) = false := by simp; omega
      have HC : Hid (∀ W, Calls Try.prog 45 #[.agg #[.string p, .int .i64 b], .string six] W fun e w' => e = .returned (.tuple #[.string (extV six at1), .bool ((embV p at1 (extV six at1)).toList == six.toList)]) ∧ Below W.heap.size W w') := fun W => specExtract1_any p b at1 six W hp16 h16 ha hb0 ha12 ha8
      have HH : Hid (∀ W, Calls Try.prog 44 #[.string p, .int .i64 b, .string six] W fun e w' => e = .returned (.bool (hasV p b six)) ∧ w' = W) := fun W => specHas_any p b six W hp hs (by omega)
      have HV : Hid (extractV p b six = if hasV p b six = true then if ((embV p at1 (extV six at1)).toList == six.toList) = true then (extV six at1, 0) else (⟨#[]⟩, 3) else (⟨#[]⟩, 6)) := by
        unfold Hid extractV; rw [if_pos ⟨hn, h16⟩, ha]; rfl
      clear h16 hp16 ha
      go_enter Try.func21, Try.ntmps21
      go_wp2_with fail
      refine (specNat_any p b _ hp).mono ?_
      rw [hn]
      rintro e w1 ⟨rfl, hb1⟩
      have HX1 := box_keep hb1
      obtain ⟨k0, k1, k2, k3, k4, k5⟩ := box_cells HX1
      clear hb1 hn
      have HX : Hid _ := HX1
      clear HX1
      go_wp2_with fail
      refine (HH.out _).mono ?_
      by_cases hhas : hasV p b six = true
      · rw [hhas]
        rintro e w1 ⟨rfl, rfl⟩
        go_wp2_with fail
        refine (HC.out _).mono ?_
        by_cases hok : ((embV p at1 (extV six at1)).toList == six.toList) = true
        · have HV2 : Hid (extractV p b six = (extV six at1, 0)) := by unfold Hid; rw [HV.out, if_pos hhas, if_pos hok]
          rw [hok]
          rintro e w2 ⟨rfl, hb2⟩
          have HX2 := HX.out.trans (hb2.mono (box_size HX.out))
          clear hb2 HX k0 k1 k2 k3 k4 k5 hok hhas
          obtain ⟨k0, k1, k2, k3, k4, k5⟩ := box_cells HX2
          have HB2 : Hid (Below w.heap.size w w2) := hB.out.trans (HX2.mono (by omega))
          clear HX2 hB
          go_wp2
          exact bodyPost_ret (v := .agg #[.string (extV six at1), .int .i64 0]) (by simp [results, Try.results21, go_sem, k0, k1, k2, k3, k4, k5]) rfl ⟨by rw [HV2.out], (HB2.out.setCell (by simp) _).setCell (by simp) _⟩
        · have HV2 : Hid (extractV p b six = (⟨#[]⟩, 3)) := by unfold Hid; rw [HV.out, if_pos hhas, if_neg hok]
          have hok' : ((embV p at1 (extV six at1)).toList == six.toList) = false := by simpa using hok
          rw [hok']
          rintro e w2 ⟨rfl, hb2⟩
          have HX2 := HX.out.trans (hb2.mono (box_size HX.out))
          clear hb2 HX k0 k1 k2 k3 k4 k5 hok hok' hhas
          obtain ⟨k0, k1, k2, k3, k4, k5⟩ := box_cells HX2
          have HB2 : Hid (Below w.heap.size w w2) := hB.out.trans (HX2.mono (by omega))
          clear HX2 hB
          go_wp2
          exact bodyPost_ret (v := .agg #[.string ⟨#[]⟩, .int .i64 3]) (by simp [results, Try.results21, go_sem, k0, k1, k2, k3, k4, k5]) rfl ⟨by rw [HV2.out], (HB2.out.setCell (by simp) _).setCell (by simp) _⟩
      · have HV2 : Hid (extractV p b six = (⟨#[]⟩, 6)) := by unfold Hid; rw [HV.out, if_neg hhas]
        have hhas' : hasV p b six = false := by simpa using hhas
        rw [hhas']
        rintro e w1 ⟨rfl, rfl⟩
        have HB1 : Hid (Below w.heap.size w w1) := hB.out.trans (HX.out.mono (by omega))
        clear hhas hhas' hB HX
        go_wp2
        exact bodyPost_ret (v := .agg #[.string ⟨#[]⟩, .int .i64 6]) (by simp [results, Try.results21, go_sem, k0, k1, k2, k3, k4, k5]) rfl ⟨by rw [HV2.out], (HB1.out.setCell (by simp) _).setCell (by simp) _⟩
    · have HV : Hid (extractV p b six = (⟨#[]⟩, 1)) := if_neg (fun h => h16 h.2)
      have e16 : ((six.size : Int) != 16) = true := by simp; omega
      clear h16 hp16 ha
      go_enter Try.func21, Try.ntmps21
      go_wp2_with fail
      refine (specNat_any p b _ hp).mono ?_
      rw [hn]
      rintro e w1 ⟨rfl, hb1⟩
      have HX1 := box_keep hb1
      obtain ⟨k0, k1, k2, k3, k4, k5⟩ := box_cells HX1
      have HB1 : Hid (Below w.heap.size w w1) := hB.out.trans (HX1.mono (by omega))
      clear HX1 hb1 hB
      go_wp2
      exact bodyPost_ret (v := .agg #[.string ⟨#[]⟩, .int .i64 1]) (by simp [results, Try.results21, go_sem, k0, k1, k2, k3, k4, k5]) rfl ⟨by rw [HV.out], (HB1.out.setCell (by simp) _).setCell (by simp) _⟩
  · have HV : Hid (extractV p b six = (⟨#[]⟩, 1)) := if_neg (fun h => hn h.1)
    have hn' : natOk p b = false := by simpa using hn
    go_enter Try.func21, Try.ntmps21
    go_wp2_with fail
    refine (specNat_any p b _ hp).mono ?_
    rw [hn']
    rintro e w1 ⟨rfl, hb1⟩
    have HX1 := box_keep hb1
    obtain ⟨k0, k1, k2, k3, k4, k5⟩ := box_cells HX1
    have HB1 : Hid (Below w.heap.size w w1) := hB.out.trans (HX1.mono (by omega))
    clear HX1 hb1 hB
    go_wp2
    exact bodyPost_ret (v := .agg #[.string ⟨#[]⟩, .int .i64 1]) (by simp [results, Try.results21, go_sem, k0, k1, k2, k3, k4, k5]) rfl ⟨by rw [HV.out], (HB1.out.setCell (by simp) _).setCell (by simp) _⟩

end Go.Proofs.Ytebhljogijemoaa
