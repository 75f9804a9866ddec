/- Addresses of IPv4 read: what the program's readFour answers. -/
import Derived.Test.YtebhljogijemoaaDoorIRead6
import Derived.Lib.AtoiErrMem
namespace Go.Proofs.YtebhljogijemoaaDoor
open Go.RowKit Go.PlainAid
set_option linter.unusedVariables false
set_option linter.unusedSimpArgs false

/-- What the library's own variables hold. -/
structure Env (w : World) : Prop where
  tab : Lib.TabIs Tryd.prog w "internal/strconv.uint64pow10" .u64 Lib.pow10Tab
  tz : w.cell? ⟨5, 15, none⟩ = some (.int .u8 4)
  ml : ∃ m, w.cell? ⟨3, 0, none⟩ = some (.int .i64 m)
  es : ∃ te pe, w.cell? ⟨1, 0, none⟩ = some (.iface te pe)
  er : ∃ te pe, w.cell? ⟨2, 0, none⟩ = some (.iface te pe)

theorem cell_below {w W : World} {b o : Nat} {v : Value} (h : w.cell? ⟨b, o, none⟩ = some v) (hb : Below w.heap.size w W) : W.cell? ⟨b, o, none⟩ = some v :=
  ((bcell hb).1 b o (World.block_lt_of_cell? w ⟨b, o, none⟩ h)).trans h

theorem Env.below {w W : World} (h : Env w) (hb : Below w.heap.size w W) : Env W :=
  ⟨Lib.tabBelow_of_tabIs h.tab W hb, cell_below h.tz hb, by obtain ⟨m, hm⟩ := h.ml; exact ⟨m, cell_below hm hb⟩, by obtain ⟨t, p, hm⟩ := h.es; exact ⟨t, p, cell_below hm hb⟩, by obtain ⟨t, p, hm⟩ := h.er; exact ⟨t, p, cell_below hm hb⟩⟩

theorem parse_ok (p : List UInt8) (u : Nat) (W : World) (hp : p.length ≤ 20000) (h : numI p = some u) :
    Calls Tryd.prog 40 #[.string (ofL p), .int .i64 10, .int .i64 8] W fun e w' => e = .returned (.tuple #[.int .u64 u, .nilIface]) ∧ Below W.heap.size W w' := by
  have hd : (ofL p).data.toList = p := by simp [ofL]
  have h2 : Lib.parseUintB 8 (ofL p).data.toList = .ok u := by
    rw [hd]; unfold numI at h
    cases hq : Lib.parseUintB 8 p with
    | ok n => simp [hq] at h; rw [h]
    | «syntax» => simp [hq] at h
    | range => simp [hq] at h
  refine (Tryd.strconv_ParseUint_10_at8_ok (ofL p) (by rw [ofL_size]; omega) u h2 W).mono ?_
  rintro e w' ⟨rfl, hw⟩
  refine ⟨rfl, ?_⟩
  rcases hw with rfl | rfl
  · exact Below.refl _ _
  · exact Lib.bytesWorld_below _ _ _

theorem parse_no (p : List UInt8) (W : World) (hE : Env W) (hp : p.length ≤ 20000) (h : numI p = none) :
    Calls Tryd.prog 40 #[.string (ofL p), .int .i64 10, .int .i64 8] W fun e w' => (∃ z N, e = .returned (.tuple #[.int .u64 z, .iface 87 (.pointer (some ⟨N, 0, none⟩))])) ∧ Below W.heap.size W w' := by
  have hd : (ofL p).data.toList = p := by simp [ofL]
  cases hq : Lib.parseUintB 8 p with
  | ok n => unfold numI at h; simp [hq] at h
  | «syntax» =>
    obtain ⟨t, pe, hv⟩ := hE.es
    refine (Tryd.strconv_ParseUint_10_at8_syntax (ofL p) (by rw [ofL_size]; omega) (by rw [hd]; exact hq) _ W hv (.inr ⟨t, pe, rfl⟩)).mono ?_
    rintro e w' ⟨N, rfl, _, _, hb⟩
    exact ⟨⟨_, N, rfl⟩, hb⟩
  | range =>
    obtain ⟨t, pe, hv⟩ := hE.er
    refine (Tryd.strconv_ParseUint_10_at8_range (ofL p) (by rw [ofL_size]; omega) (by rw [hd]; exact hq) _ W hv (.inr ⟨t, pe, rfl⟩)).mono ?_
    rintro e w' ⟨N, rfl, _, _, hb⟩
    exact ⟨⟨_, N, rfl⟩, hb⟩

theorem numI_le {p : List UInt8} {u : Nat} (h : numI p = some u) : u ≤ 255 := by
  unfold numI at h
  cases hq : Lib.parseUintB 8 p with
  | ok n => simp [hq] at h; have := Lib.parseUintB_le hq; simp at this; omega
  | «syntax» => simp [hq] at h
  | range => simp [hq] at h

theorem split46_any (l : List UInt8) (W : World) (hE : Env W) (hl : l.length ≤ 20000) :
    Calls Tryd.prog 39 #[.string (ofL l), .string ⟨#[46]⟩] W fun e w' => e = .returned (.slice (some ⟨W.heap.size, 0, none⟩) (cutL 46 l).length (cutL 46 l).length) ∧ (∀ j (hj : j < (cutL 46 l).length), w'.cell? ⟨W.heap.size, j, none⟩ = some (.string (ofL (cutL 46 l)[j]))) ∧ W.heap.size < w'.heap.size ∧ Below W.heap.size W w' := by
  obtain ⟨m, hm⟩ := hE.ml
  have hd : (ofL l).data.toList = l := by simp [ofL]
  have hs : (⟨#[46]⟩ : ByteArray).data.toList = [46] := rfl
  have hcut : (Lib.splitB ⟨#[46]⟩ 0 (Lib.countB (ofL l) ⟨#[46]⟩) (ofL l)).map (·.data.toList) = cutL 46 l := by
    rw [Lib.splitB_data, hd, hs, ← split_cut]
    show Lib.splitK [46] 0 (Lib.count (ofL l).data.toList [46]) l = _
    rw [hd]; rfl
  have hlen : Lib.countB (ofL l) ⟨#[46]⟩ + 1 = (cutL 46 l).length := by
    rw [← hcut, List.length_map]
    exact (Lib.splitB_all ⟨#[46]⟩ (by decide) 0 _ (ofL l) rfl).symm
  refine (Tryd.strings_Split (ofL l) ⟨#[46]⟩ m W (by rw [ofL_size]; omega) hm (by decide)).mono ?_
  rintro e w' ⟨rfl, rfl⟩
  refine ⟨by rw [hlen], fun j hj => ?_, by simp, (Below.refl _ _).alloc (Nat.le_refl _) _⟩
  have hj2 : j < (Lib.splitB ⟨#[46]⟩ 0 (Lib.countB (ofL l) ⟨#[46]⟩) (ofL l)).length := by
    have := congrArg List.length hcut; rw [List.length_map] at this; omega
  have hg : (cutL 46 l)[j] = (Lib.splitB ⟨#[46]⟩ 0 (Lib.countB (ofL l) ⟨#[46]⟩) (ofL l))[j].data.toList := by
    simp only [← hcut, List.getElem_map]
  rw [hg, ofL_data]
  simp [hj2]

theorem zeros4 (w : World) (t : TypeId) : HoldsB (w.alloc (.cells #[.int .u8 0, .int .u8 0, .int .u8 0, .int .u8 0] t)) w.heap.size 4 (fun _ => 0) := by
  rw [show w.alloc (.cells #[.int .u8 0, .int .u8 0, .int .u8 0, .int .u8 0] t) = w.alloc (.cells (Array.replicate 4 (.int .u8 0)) t) from rfl]
  exact ⟨fun i hi => ⟨by simp [hi], by simp⟩⟩

theorem HoldsB.set {w : World} {B n : Nat} {f : Nat → Nat} (h : HoldsB w B n f) (j : Nat) (hj : j < n) (x : Nat) : HoldsB (w.setCell ⟨B, j, none⟩ (.int .u8 (x : Int))) B n (fun i => if i = j then x else f i) := by
  refine ⟨fun i hi => ⟨?_, by rw [World.frozen?_setCell]; exact (h.get i hi).2⟩⟩
  by_cases e : i = j
  · subst e; show _ = some (Value.int .u8 ((if i = i then x else f i : Nat) : Int)); rw [if_pos rfl]; exact World.cell?_setCell_same _ _ _ (h.get i hi).1
  · show _ = some (Value.int .u8 ((if i = j then x else f i : Nat) : Int)); rw [if_neg e, World.cell?_setCell_other _ _ _ _ (fun e2 => e (by injection e2 with _ h2; exact h2.symm))]; exact (h.get i hi).1

theorem HoldsB.congr {w : World} {B n : Nat} {f g : Nat → Nat} (h : HoldsB w B n f) (e : ∀ i, i < n → f i = g i) : HoldsB w B n g := ⟨fun i hi => by rw [← e i hi]; exact h.get i hi⟩

theorem cut_le (c : UInt8) : ∀ (l : List UInt8) (j : Nat) (h : j < (cutL c l).length), ((cutL c l)[j]).length ≤ l.length := by
  intro l
  induction l with
  | nil => intro j h; simp [cutL] at h; subst h; simp [cutL]
  | cons b r ih =>
    intro j h
    by_cases e : b = c
    · have e2 : cutL c (b :: r) = [] :: cutL c r := by simp [cutL, e]
      simp only [e2] at h ⊢
      cases j with
      | zero => simp
      | succ j => have := ih j (by simpa using h); simp; omega
    · cases hc : cutL c r with
      | nil => exact absurd hc (cutL_ne c r)
      | cons x t =>
        have e2 : cutL c (b :: r) = (b :: x) :: t := by simp [cutL, e, hc]
        simp only [e2] at h ⊢
        cases j with
        | zero =>
          have := ih 0 (by rw [hc]; simp)
          simp only [hc] at this
          simp at this ⊢; omega
        | succ j =>
          have := ih (j + 1) (by rw [hc]; simpa using h)
          simp only [hc] at this
          simp at this ⊢; omega

theorem fourI_len {l : List UInt8} (h : ¬ (cutL 46 l).length = 4) : fourI l = none := by unfold fourI; rw [if_neg h]
theorem fourI_none {l : List UInt8} (h : allSome numI (cutL 46 l) = none) : fourI l = none := by unfold fourI; split <;> simp [h]
theorem fourI_some {l : List UInt8} {ns : List Nat} (h4 : (cutL 46 l).length = 4) (h : allSome numI (cutL 46 l) = some ns) : fourI l = some (ns.map UInt8.ofNat) := by unfold fourI; rw [if_pos h4, h]

set_option maxRecDepth 100000 in
set_option maxHeartbeats 1000000 in
theorem implFour_any (l : List UInt8) (w : World) (hE : Env w) (hl : l.length ≤ 20000) :
    Calls Tryd.prog 22 #[.string (ofL l)] w fun e w' => ReadsAs (fourI l) e ∧ Below w.heap.size w w' := by
  have HE : Hid (Env w) := hE
  have HSP : Hid _ := split46_any l w hE hl
  have HPL : Hid (∀ j (h : j < (cutL 46 l).length), ((cutL 46 l)[j]).length ≤ 20000) := fun j h => Nat.le_trans (cut_le 46 l j h) hl
  have HF0 : Hid (¬ (cutL 46 l).length = 4 → fourI l = none) := fun h => fourI_len h
  have HF1 : Hid (allSome numI (cutL 46 l) = none → fourI l = none) := fun h => fourI_none h
  have HF2 : Hid (∀ ns, (cutL 46 l).length = 4 → allSome numI (cutL 46 l) = some ns → fourI l = some (ns.map UInt8.ofNat)) := fun ns h4 h => fourI_some h4 h
  have hPb : (cutL 46 l).length ≤ 20001 := Nat.le_trans (cutL_length 46 l) (by omega)
  generalize cutL 46 l = P at *
  clear hE
  go_enter Tryd.func22, Tryd.ntmps22
  go_wp2_with fail
  refine Calls.mono HSP.out ?_
  rintro e w1 ⟨rfl, hcl, hsz, hb⟩
  have HCL : Hid _ := hcl
  have HB1 : Hid (Below w.heap.size w w1) := hb
  have hz1 := hb.size
  clear hcl hb HSP
  by_cases h4 : P.length = 4
  · have e4 : ((P.length : Int) != 4) = false := by simp; omega
    have HH0 : Hid (HoldsB (w1.alloc (.cells #[.int .u8 0, .int .u8 0, .int .u8 0, .int .u8 0] 59)) w1.heap.size 4 (fun _ => 0)) := zeros4 w1 _
    have HB0 : Hid (Below w1.heap.size w1 (w1.alloc (.cells #[.int .u8 0, .int .u8 0, .int .u8 0, .int .u8 0] 59))) := (Below.refl _ _).alloc (Nat.le_refl _) _
    have H4 : Hid (P.length = 4) := h4
    clear h4
    go_wp2_with fail
    go_loopw [17] (fun i wr => ∃ (k : Nat) (ns : List Nat), k ≤ P.length ∧ i = .int .i64 k ∧ ns.length = k ∧ (∀ n ∈ ns, n ≤ 255) ∧ restOf numI P k ns ∧ HoldsB wr w1.heap.size 4 (fun i => ns.getD i 0) ∧ Below w1.heap.size w1 wr) (fun i _ => P.length - (intOf i).toNat)
    case atStart => exact ⟨0, [], Nat.zero_le _, rfl, rfl, by simp, restOf_zero _ _, HH0.out, HB0.out⟩
    case round =>
      obtain ⟨k, ns, hk, rfl, hnl, hns, hrest, hh, hbel⟩ := hrel
      have HR : Hid (restOf numI P k ns) := hrest
      have HNS : Hid (∀ n ∈ ns, n ≤ 255) := hns
      have HNL : Hid (ns.length = k) := hnl
      have HL : Hid (Below w1.heap.size w1 wr) := hbel
      have HH : Hid (HoldsB wr w1.heap.size 4 (fun i => ns.getD i 0)) := hh
      clear hrest hns hnl hbel hh HH0 HB0
      by_cases hlt : k < P.length
      · have hcell : wr.cell? ⟨w.heap.size, k, none⟩ = some (.string (ofL P[k])) := (HL.out.cell (p := ⟨w.heap.size, k, none⟩) hsz).trans (HCL.out k hlt)
        have hpl := HPL.out k hlt
        obtain ⟨p, hp⟩ : ∃ p, p = P[k] := ⟨_, rfl⟩
        rw [← hp] at hcell hpl
        have HP : Hid (p = P[k]) := hp
        clear hp
        have HBW : Hid (Below w.heap.size w wr) := HB1.out.trans (HL.out.mono hz1)
        cases hnum : numI p with
        | none =>
          have HN : Hid _ := parse_no p wr (HE.out.below HBW.out) hpl hnum
          have HV : Hid _ := HF1.out (restOf_none HR.out hlt (by rw [← HP.out]; exact hnum))
          clear hnum
          go_wp2_with fail
          refine Calls.mono HN.out ?_
          rintro e w3 ⟨⟨z, N, rfl⟩, hb3⟩
          have HB3 : Hid (Below w.heap.size w w3) := HBW.out.trans (hb3.mono HBW.out.size)
          clear hb3 HN
          go_wp2_with fail
          go_ret2
          exact ⟨readsAs_no rfl HV.out, HB3.out⟩
        | some u =>
          have hu := numI_le hnum
          have HN : Hid _ := parse_ok p u wr hpl hnum
          have HR2 : Hid (restOf numI P (k + 1) (ns ++ [u])) := restOf_step HR.out hlt (by rw [← HP.out]; exact hnum)
          have hk4 : k < 4 := by have := H4.out; omega
          have hk4' : (k : Int) < 4 := by omega
          have hGr : w1.heap.size < wr.heap.size := World.block_lt_of_cell? _ _ (HH.out.get 0 (by omega)).1
          have hw8 : IntKind.u8.wrap (u : Int) = (u : Int) := by rw [IntKind.wrap_u8]; omega
          clear hnum
          go_wp2_with fail
          refine Calls.mono HN.out ?_
          rintro e w3 ⟨rfl, hb3⟩
          have H3 := HH.out.below hGr hb3
          have HB3 : Hid (Below w1.heap.size w1 w3) := HL.out.trans (hb3.mono HL.out.size)
          obtain ⟨hc1, hc2⟩ := H3.get k hk4
          have HS : Hid (HoldsB (w3.setCell ⟨w1.heap.size, k, none⟩ (.int .u8 (u : Int))) w1.heap.size 4 (fun i => (ns ++ [u]).getD i 0)) := (H3.set k hk4 u).congr (fun i hi => by
            have hn := HNL.out
            simp only [List.getD_eq_getElem?_getD]
            by_cases e : i = k
            · rw [if_pos e, e, List.getElem?_append_right (by omega), show k - ns.length = 0 by omega]; rfl
            · rw [if_neg e]
              by_cases h2 : i < k
              · rw [List.getElem?_append_left (by omega)]
              · rw [List.getElem?_append_right (by omega), List.getElem?_eq_none (by omega), List.getElem?_eq_none (by simp; omega)])
          clear H3 hb3 HN
          go_wp2_with fail
          go_roundw
          case rel => exact ⟨k + 1, ns ++ [u], by omega, by go_num, by simp [HNL.out], by intro n hn; rcases List.mem_append.1 hn with hn | hn; exact HNS.out n hn; simp at hn; omega, HR2.out, HS.out, HB3.out.setCell (by simp) _⟩
          case measure => simp [intOf]; omega
      · have hkP : k = P.length := by omega
        subst hkP
        have HV : Hid _ := HF2.out ns H4.out (restOf_end HR.out)
        have hcv := HH.out.conv (cap := 4) (l := ns) (by rw [HNL.out, H4.out]) (fun i _ => rfl) HNS.out
        have HB3 : Hid (Below w.heap.size w wr) := HB1.out.trans (HL.out.mono hz1)
        go_wp2_with fail
        go_ret2
        exact ⟨readsAs_yes _ rfl HV.out, HB3.out⟩
  · have e4 : ((P.length : Int) != 4) = true := by simp; omega
    have HV : Hid _ := HF0.out h4
    clear h4
    go_wp2_with fail
    go_ret2
    exact ⟨readsAs_no rfl HV.out, HB1.out⟩

end Go.Proofs.YtebhljogijemoaaDoor
