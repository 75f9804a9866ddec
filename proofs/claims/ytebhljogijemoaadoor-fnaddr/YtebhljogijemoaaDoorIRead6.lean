/- Addresses of IPv6 read: what the program's readSix answers. -/
import Derived.Test.YtebhljogijemoaaDoorILay
import Derived.Test.YtebhljogijemoaaDoorLabels
import Derived.WalkMore
namespace Go.Proofs.YtebhljogijemoaaDoor
open Go.RowKit Go.PlainAid
set_option linter.unusedVariables false
set_option linter.unusedSimpArgs false

/-- The groups as a row's cells. -/
def intsOf (gs : List Nat) : List Value := gs.map fun n : Nat => .int .i64 (n : Int)

/-- What is told of the groups and the gap. -/
def layO (r : Option (List Nat × Option Nat)) : Option (List UInt8) := match r with
  | none => none
  | some (gs, gap) => layV gs gap

def sliceLen : Value → Nat
  | .slice _ n _ => n
  | _ => 0

/-- Where the reader stands: what is left of the text, the groups so far, the gap. -/
structure SixFacts (W : World) (rest : List UInt8) (gs : List Nat) (gap : Option Nat) (v : Value) (w : World) : Prop where
  len : gs.length ≤ 8
  words : ∀ n ∈ gs, n ≤ 65535
  gap_le : ∀ g, gap = some g → g ≤ gs.length
  rest_le : rest.length ≤ 20000
  own : w.ownsRow W.heap.size 2 1 v gs.length (intsOf gs)
  below : Below W.heap.size W w

def SixAt (L : List UInt8) (W : World) (rest : List UInt8) (gs : List Nat) (gap : Option Nat) (a : Act) (w : World) : Prop := ∃ (vo : Option Addr) (vc : Nat) (u2 u3 u5 u6 u9 u10 u11 u12 u13 u14 u15 u16 u17 u18 u19 u20 u21 u22 u23 u24 u25 u26 u27 u28 u29 u30 u31 u32 u33 u34 u35 u36 u37 u38 u39 u40 u41 u42 u43 u44 u45 u46 u47 u48 u49 u50 u51 u52 u53 u54 u55 u56 u57 : Value), a = { tmps := #[.string (ofL L), undef, u2, u3, .slice vo gs.length vc, u5, u6, .string (ofL rest), .int .i64 (gapI gap), u9, u10, u11, u12, u13, u14, u15, u16, u17, u18, u19, u20, u21, u22, u23, u24, u25, u26, u27, u28, u29, u30, u31, u32, u33, u34, u35, u36, u37, u38, u39, u40, u41, u42, u43, u44, u45, u46, u47, u48, u49, u50, u51, u52, u53, u54, u55, u56, u57], defers := [] } ∧ SixFacts W rest gs gap (.slice vo gs.length vc) w

def SixJ (L : List UInt8) (W : World) : Nat → Act → World → Prop
  | 0, a, w => ∃ rest gs gap, SixAt L W rest gs gap a w ∧ rest ≠ [] ∧ sixI L = layO (colonK (mach (9 - gs.length)) rest gs gap)
  | 1, a, w => ∃ rest gs gap, SixAt L W rest gs gap a w ∧ sixI L = layO (mach (9 - gs.length) rest gs gap)
  | 2, a, w => ∃ rest gs gap, SixAt L W rest gs gap a w ∧ sixI L = layV gs gap
  | _, _, _ => False

def sixMu : Nat → Act → World → Nat
  | 0, a, _ => 2 * (9 - sliceLen (a.tmps.getD 4 undef)) + 1
  | 1, a, _ => 2 * (9 - sliceLen (a.tmps.getD 4 undef))
  | _, _, _ => 0

theorem sixJ_lt (L : List UInt8) (W : World) (l : Nat) (a : Act) (w : World) (h : SixJ L W l a w) : l < 3 := by
  match l, h with
  | 0, _ => omega
  | 1, _ => omega
  | 2, _ => omega

theorem sixI_start_cc {L : List UInt8} (h : Lib.hasPrefix L [58, 58] = true) : L ≠ [] ∧ sixI L = layO (colonK (mach 9) L [] none) := by
  match L, h with
  | [], h => simp [Lib.hasPrefix] at h
  | [x], h => simp [Lib.hasPrefix] at h
  | x :: y :: r, h =>
    have h2 : x = 58 ∧ y = 58 := by simp [Lib.hasPrefix] at h; exact ⟨h.1.symm, h.2.symm⟩
    refine ⟨by simp, ?_⟩
    have e : groupsI (x :: y :: r) = colonK (mach 9) (x :: y :: r) [] none := by unfold groupsI; rw [if_pos (by simp [h2])]
    unfold sixI; rw [e]; rfl
theorem sixI_start {L : List UInt8} (h : Lib.hasPrefix L [58, 58] = false) : sixI L = layO (mach 9 L [] none) := by
  have e : groupsI L = mach 9 L [] none := by
    unfold groupsI
    rw [if_neg]
    intro h2
    match L, h, h2 with
    | [], h, h2 => simp at h2
    | [x], h, h2 => simp at h2
    | x :: y :: r, h, h2 => simp at h2; simp [Lib.hasPrefix, h2.1, h2.2] at h
  unfold sixI; rw [e]; rfl

theorem ext_tail (b : UInt8) (r : List UInt8) : (ofL (b :: r)).extract 1 (r.length + 1) = ofL r := by
  rw [ext_ofL]; simp [ofL]
theorem ext_drop (l : List UInt8) (n : Nat) : (ofL l).extract n l.length = ofL (l.drop n) := by
  rw [ext_ofL, show (ofL l).data.toList = l by simp [ofL], List.take_of_length_le (by simp)]
theorem bt_head (b : UInt8) (r : List UInt8) : bt (ofL (b :: r)) 0 = (b.toNat : Int) := by
  rw [toL_get _ 0 (by rw [ofL_size]; simp)]; simp [ofL]
theorem u8_eq58 {b : UInt8} : ((b.toNat : Int) != 58) = true ↔ b ≠ 58 := by
  rw [bne_iff_ne]
  exact ⟨fun h e => h (by rw [e]; rfl), fun h e => h (UInt8.toNat.inj (Int.ofNat.inj e))⟩

theorem leadF_bounds : ∀ (l : List UInt8) (f w n : Nat), w < 16 ^ n → n + f ≤ 4 → (leadF f w n l).1 < 16 ^ (leadF f w n l).2 ∧ (leadF f w n l).2 ≤ n + f ∧ (leadF f w n l).2 ≤ n + l.length
  | [], f, w, n, h, hf => by
    have e : leadF f w n [] = (w, n) := by cases f <;> rfl
    rw [e]; exact ⟨h, by simp, by simp⟩
  | c :: r, 0, w, n, h, hf => ⟨h, by simp [leadF], by simp [leadF]⟩
  | c :: r, f + 1, w, n, h, hf => by
    unfold leadF
    cases hc : hexV c with
    | none => exact ⟨h, by simp, by simp⟩
    | some d =>
      have hd := hexV_lt hc
      have ih := leadF_bounds r f (16 * w + d) (n + 1) (by rw [Nat.pow_succ]; omega) (by omega)
      simp only []
      refine ⟨ih.1, by omega, ?_⟩
      have := ih.2.2
      simp; omega
theorem lead_bounds (l : List UInt8) : (lead l).1 ≤ 65535 ∧ (lead l).2 ≤ 4 ∧ (lead l).2 ≤ l.length := by
  have h := leadF_bounds l 4 0 0 (by simp) (by omega)
  have h2 : (lead l).1 < 16 ^ (lead l).2 := h.1
  have h3 : (lead l).2 ≤ 4 := by have := h.2.1; unfold lead; simpa using this
  have h4 : 16 ^ (lead l).2 ≤ 16 ^ 4 := Nat.pow_le_pow_right (by omega) h3
  exact ⟨by omega, h3, by have := h.2.2; unfold lead; simpa using this⟩
theorem mach_stop {f : Nat} {l : List UInt8} {gs : List Nat} {gap : Option Nat} (h : (lead l).2 = 0 ∨ gs.length = 8) : mach f l gs gap = none := by
  cases f with
  | zero => rfl
  | succ f => unfold mach; rw [if_pos h]
theorem mach_end {f : Nat} {l : List UInt8} {gs : List Nat} {gap : Option Nat} (h : ¬ ((lead l).2 = 0 ∨ gs.length = 8)) (h2 : l.drop (lead l).2 = []) : mach (f + 1) l gs gap = some (gs ++ [(lead l).1], gap) := by
  unfold mach; rw [if_neg h, if_pos h2]
theorem mach_go {f : Nat} {l : List UInt8} {gs : List Nat} {gap : Option Nat} (h : ¬ ((lead l).2 = 0 ∨ gs.length = 8)) (h2 : ¬ l.drop (lead l).2 = []) : mach (f + 1) l gs gap = colonK (mach f) (l.drop (lead l).2) (gs ++ [(lead l).1]) gap := by
  conv => lhs; unfold mach
  rw [if_neg h, if_neg h2]
theorem Tryd.infoI : (Tryd.prog.info? 2).map (fun i => (i.zero, i.size, i.bytes)) = some (some (.int .i64 0), 1, 8) := by kernel_rfl
theorem intsOf_append (a b : List Nat) : intsOf (a ++ b) = intsOf a ++ intsOf b := by simp [intsOf]

theorem SixFacts.next {W w : World} {rest rest2 : List UInt8} {gs : List Nat} {gap gap2 : Option Nat} {v : Value} (h : SixFacts W rest gs gap v w) (hr : rest2.length ≤ 20000) (hg : ∀ g, gap2 = some g → g ≤ gs.length) : SixFacts W rest2 gs gap2 v w := ⟨h.len, h.words, hg, hr, h.own, h.below⟩

set_option maxRecDepth 100000 in
set_option maxHeartbeats 1000000 in
theorem implSix_any (L : List UInt8) (w : World) (hl : L.length ≤ 20000) :
    Calls Tryd.prog 21 #[.string (ofL L)] w fun e w' => ReadsAs (sixI L) e ∧ Below w.heap.size w w' := by
  have HP : Hid (∀ W, Calls Tryd.prog 36 #[.string (ofL L), .string ⟨#[58, 58]⟩] W fun e w' => e = .returned (.bool (Lib.hasPrefix L [58, 58])) ∧ w' = W) := fun W => by
    have := Tryd.strings_HasPrefix (ofL L) ⟨#[58, 58]⟩ W
    rw [show (ofL L).data.toList = L by simp [ofL], show (⟨#[58, 58]⟩ : ByteArray).data.toList = [58, 58] from rfl] at this
    exact this
  go_enter Tryd.func21, Tryd.ntmps21
  go_wp2_with fail
  refine wp_scope_three (SixJ L w) sixMu rfl rfl rfl (sixJ_lt L w) ?_ ?_ ?_ ?_
  · rintro M a w2 ⟨rest, gs, gap, ⟨vo, vc, u2, u3, u5, u6, u9, u10, u11, u12, u13, u14, u15, u16, u17, u18, u19, u20, u21, u22, u23, u24, u25, u26, u27, u28, u29, u30, u31, u32, u33, u34, u35, u36, u37, u38, u39, u40, u41, u42, u43, u44, u45, u46, u47, u48, u49, u50, u51, u52, u53, u54, u55, u56, u57, rfl, hF⟩, hV⟩ hM
    have HC : Hid _ := implLaySix_any gs gap (.slice vo gs.length vc) w2 hF.len hF.gap_le hF.words w.heap.size hF.own
    have HB : Hid (Below w.heap.size w w2) := hF.below
    have HV : Hid _ := hV
    clear hF hM hV
    go_wp2_with fail
    refine Calls.mono HC.out ?_
    rintro e w3 ⟨⟨r, b, rfl, hr⟩, hb⟩
    have HR : Hid _ := hr
    have HB3 : Hid (Below w.heap.size w w3) := HB.out.trans (hb.mono HB.out.size)
    clear hb hr HB
    go_wp2_with fail
    simp only [jumpN]
    go_ret2
    exact ⟨⟨r, b, rfl, by rw [HV.out, HR.out]⟩, HB3.out⟩
  · rintro hend M a w2 ⟨rest, gs, gap, ⟨vo, vc, u2, u3, u5, u6, u9, u10, u11, u12, u13, u14, u15, u16, u17, u18, u19, u20, u21, u22, u23, u24, u25, u26, u27, u28, u29, u30, u31, u32, u33, u34, u35, u36, u37, u38, u39, u40, u41, u42, u43, u44, u45, u46, u47, u48, u49, u50, u51, u52, u53, u54, u55, u56, u57, rfl, hF⟩, hne, hV⟩ hM
    have hM' : 2 * (9 - gs.length) + 1 ≤ M := by simpa [sixMu, sliceLen] using hM
    have hlen := hF.len
    have hrl := hF.rest_le
    obtain ⟨b, r, rfl⟩ : ∃ b r, rest = b :: r := by
      cases rest with
      | nil => exact absurd rfl hne
      | cons b r => exact ⟨b, r, rfl⟩
    have HF : Hid (SixFacts w (b :: r) gs gap (.slice vo gs.length vc) w2) := hF
    have HV : Hid _ := hV
    have HE : Hid _ := hend
    have hsz : (ofL (b :: r)).size = r.length + 1 := by rw [ofL_size]; rfl
    have hgb := get_bt (ofL (b :: r))
    have hb0 := bt_head b r
    have hx := ext_tail b r
    rw [List.length_cons] at hrl
    clear hM hF hV hne hend
    by_cases c58 : b = 58
    · have e1 : ((b.toNat : Int) != 58) = false := by rw [c58]; rfl
      cases r with
      | nil =>
        have gg : (ofL []).toList = [] := ofL_toList []
        have gb : (ofL []).toList.isEmpty = true := by rw [gg]; rfl
        have HN : Hid (sixI L = layO (mach (9 - gs.length) [] gs gap)) := by unfold Hid; rw [HV.out, c58, colonK_one _ _ _ _ (by simp)]
        clear c58
        go_wp2_with fail
        go_step3
        refine (show SixJ L w 1 _ _ ∧ sixMu 1 _ _ < M from ?_)
        exact ⟨⟨[], gs, gap, ⟨vo, vc, _, _, _, _, _, _, _, _, _, _, _, _, _, _, _, _, _, _, _, _, _, _, _, _, _, _, _, _, _, _, _, _, _, _, _, _, _, _, _, _, _, _, _, _, _, _, _, _, _, _, _, _, _, rfl, HF.out.next (by simp) HF.out.gap_le⟩, HN.out⟩, by simp [sixMu, sliceLen]; omega⟩
      | cons c r2 =>
        have gg : ¬ (ofL (c :: r2)).toList = [] := by rw [ofL_toList]; simp
        have gb : (ofL (c :: r2)).toList.isEmpty = false := by simpa using gg
        have hsz2 : (ofL (c :: r2)).size = r2.length + 1 := by rw [ofL_size]; rfl
        have hgb2 := get_bt (ofL (c :: r2))
        have hb2 := bt_head c r2
        have hx2 := ext_tail c r2
        rw [List.length_cons] at hrl hsz hx
        by_cases d58 : c = 58
        · have e2 : ((c.toNat : Int) != 58) = false := by rw [d58]; rfl
          cases gap with
          | some g =>
            have HN : Hid (sixI L = none) := by unfold Hid; rw [HV.out, c58, d58]; simp [colonK, layO]
            have hgi : gapI (some g) = (g : Int) := rfl
            clear c58 d58
            go_wp2_with fail
            simp only [jumpN]
            go_ret2
            exact ⟨readsAs_no rfl HN.out, HF.out.below⟩
          | none =>
            have hgi : gapI none = -1 := rfl
            have HK : Hid (sixI L = layO (if r2 = [] then some (gs, some gs.length) else mach (9 - gs.length) r2 gs (some gs.length))) := by unfold Hid; rw [HV.out, c58, d58, colonK_two]
            by_cases hr2 : r2 = []
            · have HN : Hid (sixI L = layV gs (some gs.length)) := by unfold Hid; rw [HK.out, if_pos hr2]; rfl
              have gg2 : (ofL r2).toList = [] := by rw [ofL_toList]; exact hr2
              have gb2 : (ofL r2).toList.isEmpty = true := by rw [gg2]; rfl
              clear c58 d58 HK hr2
              go_wp2_with fail
              go_step3
              simp only [Exit.then]
              rename_i hK
              exact hK _ _ (HE.out M _ _ ⟨r2, gs, some gs.length, ⟨vo, vc, _, _, _, _, _, _, _, _, _, _, _, _, _, _, _, _, _, _, _, _, _, _, _, _, _, _, _, _, _, _, _, _, _, _, _, _, _, _, _, _, _, _, _, _, _, _, _, _, _, _, _, _, _, rfl, HF.out.next (by omega) (fun g hg => by injection hg with hg; omega)⟩, HN.out⟩ (by simp [sixMu]))
            · have HN : Hid (sixI L = layO (mach (9 - gs.length) r2 gs (some gs.length))) := by unfold Hid; rw [HK.out, if_neg hr2]
              have gg2 : ¬ (ofL r2).toList = [] := by rw [ofL_toList]; exact hr2
              have gb2 : (ofL r2).toList.isEmpty = false := by simpa using gg2
              clear c58 d58 HK hr2
              go_wp2_with fail
              go_step3
              refine (show SixJ L w 1 _ _ ∧ sixMu 1 _ _ < M from ?_)
              exact ⟨⟨r2, gs, some gs.length, ⟨vo, vc, _, _, _, _, _, _, _, _, _, _, _, _, _, _, _, _, _, _, _, _, _, _, _, _, _, _, _, _, _, _, _, _, _, _, _, _, _, _, _, _, _, _, _, _, _, _, _, _, _, _, _, _, _, rfl, HF.out.next (by omega) (fun g hg => by injection hg with hg; omega)⟩, HN.out⟩, by simp [sixMu, sliceLen]; omega⟩
        · have e2 : ((c.toNat : Int) != 58) = true := u8_eq58.2 d58
          have HN : Hid (sixI L = layO (mach (9 - gs.length) (c :: r2) gs gap)) := by unfold Hid; rw [HV.out, c58, colonK_one _ _ _ _ (by simp [d58])]
          clear c58 d58
          go_wp2_with fail
          go_step3
          refine (show SixJ L w 1 _ _ ∧ sixMu 1 _ _ < M from ?_)
          exact ⟨⟨c :: r2, gs, gap, ⟨vo, vc, _, _, _, _, _, _, _, _, _, _, _, _, _, _, _, _, _, _, _, _, _, _, _, _, _, _, _, _, _, _, _, _, _, _, _, _, _, _, _, _, _, _, _, _, _, _, _, _, _, _, _, _, _, rfl, HF.out.next (by simp; omega) HF.out.gap_le⟩, HN.out⟩, by simp [sixMu, sliceLen]; omega⟩
    · have e1 : ((b.toNat : Int) != 58) = true := u8_eq58.2 c58
      have HN : Hid (sixI L = none) := by unfold Hid; rw [HV.out]; unfold colonK; simp only []; rw [if_neg c58]; rfl
      clear c58
      go_wp2_with fail
      simp only [jumpN]
      go_ret2
      exact ⟨readsAs_no rfl HN.out, HF.out.below⟩
  · rintro hcol M a w2 ⟨rest, gs, gap, ⟨vo, vc, u2, u3, u5, u6, u9, u10, u11, u12, u13, u14, u15, u16, u17, u18, u19, u20, u21, u22, u23, u24, u25, u26, u27, u28, u29, u30, u31, u32, u33, u34, u35, u36, u37, u38, u39, u40, u41, u42, u43, u44, u45, u46, u47, u48, u49, u50, u51, u52, u53, u54, u55, u56, u57, rfl, hF⟩, hV⟩ hM
    have hM' : 2 * (9 - gs.length) ≤ M := by simpa [sixMu, sliceLen] using hM
    obtain ⟨i0, hi, hz0, hz1, hz2⟩ := info_parts Tryd.infoI
    have hlen := hF.len
    have hrl := hF.rest_le
    have HF : Hid (SixFacts w rest gs gap (.slice vo gs.length vc) w2) := hF
    have HV : Hid _ := hV
    have HCOL : Hid _ := hcol
    have HLD : Hid _ := implLead_any rest w2 hrl
    obtain ⟨hx1, hn4, hnl⟩ := lead_bounds rest
    have hsz : (ofL rest).size = rest.length := ofL_size rest
    obtain ⟨f, hf⟩ : ∃ f, 9 - gs.length = f + 1 := ⟨8 - gs.length, by omega⟩
    have HMS : Hid ((lead rest).2 = 0 ∨ gs.length = 8 → sixI L = none) := fun h => by rw [HV.out, mach_stop h]; rfl
    have HME : Hid (¬ ((lead rest).2 = 0 ∨ gs.length = 8) → rest.drop (lead rest).2 = [] → sixI L = layV (gs ++ [(lead rest).1]) gap) := fun h h2 => by rw [HV.out, hf, mach_end h h2]; rfl
    have HMG : Hid (¬ ((lead rest).2 = 0 ∨ gs.length = 8) → ¬ rest.drop (lead rest).2 = [] → sixI L = layO (colonK (mach f) (rest.drop (lead rest).2) (gs ++ [(lead rest).1]) gap)) := fun h h2 => by rw [HV.out, hf, mach_go h h2]
    have hxd := ext_drop rest (lead rest).2
    generalize (lead rest).1 = x at *
    generalize (lead rest).2 = n at *
    clear hM hF hV hcol HV
    go_wp2_with fail
    refine Calls.mono HLD.out ?_
    rintro e w2 ⟨rfl, rfl⟩
    clear HLD
    by_cases n0 : n = 0
    · have HN : Hid _ := HMS.out (.inl n0)
      have e0 : ((n : Int) == 0) = true := by simp [n0]
      clear n0 HMS HME HMG hxd
      go_wp2_with fail
      simp only [jumpN]
      go_ret2
      exact ⟨readsAs_no rfl HN.out, HF.out.below⟩
    · have e0 : ((n : Int) == 0) = false := by simp [n0]
      by_cases g8 : gs.length = 8
      · have HN : Hid _ := HMS.out (.inr g8)
        have e8 : ((gs.length : Int) == 8) = true := by simp [g8]
        clear n0 HMS HME HMG hxd g8
        go_wp2_with fail
        simp only [jumpN]
        go_ret2
        exact ⟨readsAs_no rfl HN.out, HF.out.below⟩
      · have e8 : ((gs.length : Int) == 8) = false := by simp; omega
        have hnot : ¬ (n = 0 ∨ gs.length = 8) := by omega
        have hown := HF.out.own
        have hbel := HF.out.below
        have hsw := hbel.size
        obtain ⟨gs2, hgs2⟩ : ∃ gs2, gs2 = gs ++ [x] := ⟨_, rfl⟩
        have hl2 : gs2.length = gs.length + 1 := by rw [hgs2]; simp
        have HL2 : Hid (gs2.length = gs.length + 1) := hl2
        have HLE : Hid (gs2.length ≤ 8) := by unfold Hid; omega
        have HG2 : Hid (gs2 = gs ++ [x]) := hgs2
        obtain ⟨rr, hrr⟩ : ∃ rr, rr = rest.drop n := ⟨_, rfl⟩
        have HRL : Hid (rr.length ≤ 20000) := by unfold Hid; rw [hrr, List.length_drop]; omega
        rw [← hrr] at hxd HME HMG
        rw [← hgs2] at HME HMG
        have HWD : Hid (∀ m ∈ gs2, m ≤ 65535) := fun m hm => by
          rw [hgs2] at hm
          rcases List.mem_append.1 hm with hm | hm
          · exact HF.out.words m hm
          · simp at hm; omega
        have HGL : Hid (∀ g, gap = some g → g ≤ gs2.length) := fun g hg => by have := HF.out.gap_le g hg; omega
        have hnl' : (n : Int) ≤ (rest.length : Int) := by omega
        clear hgs2 hrr hl2
        by_cases re : rr = []
        · have HN : Hid _ := HME.out hnot re
          have gg : (ofL rr).toList = [] := by rw [ofL_toList]; exact re
          have gb : (ofL rr).toList.isEmpty = true := by rw [gg]; rfl
          clear HMS HME HMG re hnot n0 g8
          go_wp2_with (at_builtin; refine wpList_append_own _ rfl (.tmp 24) (.tmp 26) 53 rfl w.heap.size 2 i0 (.int .i64 0) 1 8 Tryd.underlying53 hi hz0 hz1 hz2 rfl (by decide) _ _ _ rfl (hown.alloc _) ⟨w2.heap.size, 0, none⟩ 1 1 [.int .i64 (x : Int)] rfl rfl ?c1 ?c2 ?c3 ?c4 ?c5 ?_)
          case c1 =>
            intro j u hj
            match j, hj with
            | 0, hj => simp at hj; subst hj; simp [Addr.add]
          case c2 => first | rfl | (intro u hu; simp at hu; subst hu; rfl)
          case c3 => unfold maxLen; omega
          case c4 => omega
          case c5 => first | omega | (simp; omega)
          · intro v' w4 hown2 hgrow hnil
            have hown3 : w4.ownsRow w.heap.size 2 1 v' gs2.length (intsOf gs2) := by rw [HG2.out, intsOf_append, List.length_append]; exact hown2
            have HB2 : Hid (Below w.heap.size w w4) := (hbel.alloc hsw _).grown hgrow (by simp; omega) (fun j hj => (hown.lt j hj).1)
            have hnn : v' ≠ .slice none 0 0 := by first | exact hnil | exact fun e => absurd (hnil.1 e).2 (by omega)
            obtain ⟨g1, cp, hv, hown4⟩ := own_shape hown3 hnn
            subst hv
            have HFC : Hid (SixFacts w rr gs2 gap (.slice (some ⟨g1, 0, none⟩) gs2.length cp) w4) := ⟨HLE.out, HWD.out, HGL.out, HRL.out, hown4, HB2.out⟩
            clear hown2 hgrow hown hnil hown3 hown4 hnn hbel
            go_wp2_with fail
            go_step3
            refine (show SixJ L w 2 _ _ ∧ sixMu 2 _ _ < M from ?_)
            exact ⟨⟨rr, gs2, gap, ⟨some ⟨g1, 0, none⟩, cp, _, _, _, _, _, _, _, _, _, _, _, _, _, _, _, _, _, _, _, _, _, _, _, _, _, _, _, _, _, _, _, _, _, _, _, _, _, _, _, _, _, _, _, _, _, _, _, _, _, _, _, _, _, rfl, HFC.out⟩, HN.out⟩, by simp [sixMu]; omega⟩
        · have HN : Hid (sixI L = layO (colonK (mach (9 - gs2.length)) rr gs2 gap)) := by unfold Hid; rw [show 9 - gs2.length = f by have := HL2.out; omega]; exact HMG.out hnot re
          have HRN : Hid (rr ≠ []) := re
          have gg : ¬ (ofL rr).toList = [] := by rw [ofL_toList]; exact re
          have gb : (ofL rr).toList.isEmpty = false := by simpa using gg
          clear HMS HME HMG re hnot n0 g8 hf
          go_wp2_with (at_builtin; refine wpList_append_own _ rfl (.tmp 24) (.tmp 26) 53 rfl w.heap.size 2 i0 (.int .i64 0) 1 8 Tryd.underlying53 hi hz0 hz1 hz2 rfl (by decide) _ _ _ rfl (hown.alloc _) ⟨w2.heap.size, 0, none⟩ 1 1 [.int .i64 (x : Int)] rfl rfl ?c1x ?c2x ?c3x ?c4x ?c5x ?_)
          case c1x =>
            intro j u hj
            match j, hj with
            | 0, hj => simp at hj; subst hj; simp [Addr.add]
          case c2x => first | rfl | (intro u hu; simp at hu; subst hu; rfl)
          case c3x => unfold maxLen; omega
          case c4x => omega
          case c5x => first | omega | (simp; omega)
          · intro v' w4 hown2 hgrow hnil
            have hown3 : w4.ownsRow w.heap.size 2 1 v' gs2.length (intsOf gs2) := by rw [HG2.out, intsOf_append, List.length_append]; exact hown2
            have HB2 : Hid (Below w.heap.size w w4) := (hbel.alloc hsw _).grown hgrow (by simp; omega) (fun j hj => (hown.lt j hj).1)
            have hnn : v' ≠ .slice none 0 0 := by first | exact hnil | exact fun e => absurd (hnil.1 e).2 (by omega)
            obtain ⟨g1, cp, hv, hown4⟩ := own_shape hown3 hnn
            subst hv
            have HFC : Hid (SixFacts w rr gs2 gap (.slice (some ⟨g1, 0, none⟩) gs2.length cp) w4) := ⟨HLE.out, HWD.out, HGL.out, HRL.out, hown4, HB2.out⟩
            clear hown2 hgrow hown hnil hown3 hown4 hnn hbel
            go_wp2_with fail
            go_step3
            simp only [Exit.then]
            rename_i hK
            exact hK _ _ (HCOL.out M _ _ ⟨rr, gs2, gap, ⟨some ⟨g1, 0, none⟩, cp, _, _, _, _, _, _, _, _, _, _, _, _, _, _, _, _, _, _, _, _, _, _, _, _, _, _, _, _, _, _, _, _, _, _, _, _, _, _, _, _, _, _, _, _, _, _, _, _, _, _, _, _, _, rfl, HFC.out⟩, HRN.out, HN.out⟩ (by have := HL2.out; simp [sixMu, sliceLen]; omega))
  · intro hgrp
    go_wp2_with fail
    refine (HP.out _).mono ?_
    rintro e w1 ⟨rfl, rfl⟩
    have HB0 : Hid (∀ g : Option Nat, g = none → SixFacts w1 L [] g (.slice none 0 0) w1) := fun g hg => ⟨by simp, by simp, by simp [hg], hl, World.ownsRow_nil .., Below.refl _ _⟩
    cases hp : Lib.hasPrefix L [58, 58] with
    | true =>
      have HS : Hid _ := sixI_start_cc hp
      clear hp
      go_wp2_with fail
      go_step3
      refine (show SixJ L w1 0 _ _ from ?_)
      exact ⟨L, [], none, ⟨none, 0, _, _, _, _, _, _, _, _, _, _, _, _, _, _, _, _, _, _, _, _, _, _, _, _, _, _, _, _, _, _, _, _, _, _, _, _, _, _, _, _, _, _, _, _, _, _, _, _, _, _, _, _, _, rfl, HB0.out none rfl⟩, HS.out.1, HS.out.2⟩
    | false =>
      have HS : Hid _ := sixI_start hp
      clear hp
      go_wp2_with fail
      go_step3
      simp only [Exit.then]
      rename_i hK
      exact hK _ _ (hgrp _ _ ⟨L, [], none, ⟨none, 0, _, _, _, _, _, _, _, _, _, _, _, _, _, _, _, _, _, _, _, _, _, _, _, _, _, _, _, _, _, _, _, _, _, _, _, _, _, _, _, _, _, _, _, _, _, _, _, _, _, _, _, _, _, rfl, HB0.out none rfl⟩, HS.out⟩)

end Go.Proofs.YtebhljogijemoaaDoor
