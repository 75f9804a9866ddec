import Derived.Test.YtdkepkaflielhaaGreatDoorSz
import Derived.Test.YtdkepkaflielhaaGreatDoorAb
import Derived.Test.YtdkepkaflielhaaGreatDoorGrowV
set_option linter.unusedVariables false
set_option linter.unusedSimpArgs false
set_option maxRecDepth 100000
set_option maxHeartbeats 8000000
/- GrowW: as GrowV, for regions whose last two operations wait for one another, the first of them for all the others but one, which may be late: the last one waits for it. -/
namespace Go.Proofs.YtdkepkaflielhaaGreatDoor
open Go.RowKit Go.ChangeShapes
set_option linter.unusedVariables false
set_option linter.unusedSimpArgs false

section
variable {P : Program} {ops : Array Oper} {Q : Exit → Act → World → Prop} {ds : List Tmp} {R : Nat → Value → World → Prop} {a0 : Act} {w0 : World} {f : Nat} {fo s0 s1 : Oper}

structure GFormW (ops : Array Oper) (ds : List Tmp) (n f : Nat) : Prop where
 le : ops.size = ds.length + 2
 fl : f < ds.length
 dst : ∀ i o, i < ds.length → ops[i]? = some o → o.dst = some (ds.getD i 0)
 nodup : ds.Nodup
 fits : ∀ d ∈ ds, d < n
 topo : ∀ i o, ops[i]? = some o → ∀ e ∈ o.after, Region.binds .any e = true → e.on < i
 nof : ∀ i o, i ≤ ds.length → ops[i]? = some o → ∀ e ∈ o.after, Region.binds .any e = true → e.on ≠ f
 sguard : ∀ i o, (ds.length ≤ i ∨ i = f) → ops[i]? = some o → o.guard = none
 all0 : ∀ o, ops[ds.length]? = some o → ∀ j, j < ds.length → j ≠ f → ∃ e ∈ o.after, Region.binds .any e = true ∧ e.on = j
 all1 : ∀ o, ops[ds.length + 1]? = some o → (∃ e ∈ o.after, Region.binds .any e = true ∧ e.on = f) ∧ ∃ e ∈ o.after, Region.binds .any e = true ∧ e.on = ds.length

def gformW (ops : Array Oper) (ds : List Tmp) (n f : Nat) : Bool :=
 decide (ops.size = ds.length + 2) && decide (f < ds.length) && (List.range ops.size).all (fun i => match ops[i]? with
  | some o => o.after.all (fun e => !Region.binds .any e || decide (e.on < i)) && (if i < ds.length then (match o.dst with | some d => d == ds.getD i 0 | none => false) else true) && (if ds.length ≤ i ∨ i = f then o.guard.isNone else true) && (if i ≤ ds.length then o.after.all (fun e => !Region.binds .any e || decide (e.on ≠ f)) else true)
  | none => true) && decide ds.Nodup && ds.all (fun d => decide (d < n)) &&
 (match ops[ds.length]? with | some o => (List.range ds.length).all (fun j => decide (j = f) || o.after.any (fun e => Region.binds .any e && e.on == j)) | none => true) &&
 (match ops[ds.length + 1]? with | some o => o.after.any (fun e => Region.binds .any e && e.on == f) && o.after.any (fun e => Region.binds .any e && e.on == ds.length) | none => true)
theorem GFormW.of {n : Nat} (h : gformW ops ds n f = true) : GFormW ops ds n f := by
 unfold gformW at h
 simp only [Bool.and_eq_true, decide_eq_true_iff, List.all_eq_true, List.mem_range] at h
 obtain ⟨⟨⟨⟨⟨⟨h1, h2⟩, h3⟩, h4⟩, h5⟩, h6⟩, h7⟩ := h
 have hb : ∀ i o, ops[i]? = some o → i < ops.size := fun i o ho => (Array.getElem?_eq_some_iff.1 ho).1
 have h3' : ∀ i o, ops[i]? = some o → (o.after.all (fun e => !Region.binds .any e || decide (e.on < i)) = true ∧ (if i < ds.length then (match o.dst with | some d => d == ds.getD i 0 | none => false) else true) = true ∧ (if ds.length ≤ i ∨ i = f then o.guard.isNone else true) = true ∧ (if i ≤ ds.length then o.after.all (fun e => !Region.binds .any e || decide (e.on ≠ f)) else true) = true) := fun i o ho => by
  have := h3 i (hb i o ho)
  rw [ho] at this
  simp only [Bool.and_eq_true] at this
  exact ⟨this.1.1.1, this.1.1.2, this.1.2, this.2⟩
 refine ⟨h1, h2, fun i o hi ho => ?_, h4, h5, fun i o ho e he hbd => ?_, fun i o hi ho e he hbd => ?_, fun i o hi ho => ?_, fun o ho j hj hjf => ?_, fun o ho => ?_⟩
 ·have t1 := (h3' i o ho).2.1
  rw [if_pos hi] at t1
  cases hd : o.dst with
  | none => rw [hd] at t1; simp at t1
  | some d => rw [hd] at t1; simp at t1; rw [t1]; simp
 ·have := Array.all_eq_true_iff_forall_mem.1 (h3' i o ho).1 e he
  simp [hbd] at this
  exact this
 ·have t1 := (h3' i o ho).2.2.2
  rw [if_pos hi] at t1
  have := Array.all_eq_true_iff_forall_mem.1 t1 e he
  simp [hbd] at this
  exact this
 ·have t1 := (h3' i o ho).2.2.1
  rw [if_pos hi] at t1
  simpa using t1
 ·rw [ho] at h6
  simp only [List.all_eq_true, List.mem_range] at h6
  have := h6 j hj
  simp only [Bool.or_eq_true, decide_eq_true_iff] at this
  rcases this with this | this
  ·exact absurd this hjf
  ·obtain ⟨e, he, hbd⟩ := Array.any_eq_true'.1 this
   simp only [Bool.and_eq_true, beq_iff_eq] at hbd
   exact ⟨e, he, hbd.1, hbd.2⟩
 ·rw [ho] at h7
  simp only [Bool.and_eq_true] at h7
  obtain ⟨e, he, hbd⟩ := Array.any_eq_true'.1 h7.1
  obtain ⟨e2, he2, hbd2⟩ := Array.any_eq_true'.1 h7.2
  simp only [Bool.and_eq_true, beq_iff_eq] at hbd hbd2
  exact ⟨⟨e, he, hbd.1, hbd.2⟩, ⟨e2, he2, hbd2.1, hbd2.2⟩⟩

/-- All but those of us are listed, the first of which alone is ready: they go one behind the other. -/
theorem wpAny_forced : ∀ (us : List Nat) (fuel : Nat) (listed : Array Bool) (a : Act) (w : World) (os : List Oper), listed.size = ops.size → us.length = os.length → us.length ≤ fuel → us.Nodup →
  (∀ (k u : Nat) (o : Oper), us[k]? = some u → os[k]? = some o → ops[u]? = some o ∧ o.guard = none) →
  (∀ j, j < ops.size → (listed.getD j false = false ↔ j ∈ us)) →
  (∀ (k u : Nat) (o : Oper), us[k]? = some u → ops[u]? = some o → ∀ e ∈ o.after, Region.binds .any e = true → e.on < ops.size ∧ e.on ∉ us.drop k) →
  (∀ (k u : Nat) (o : Oper), us[k + 1]? = some u → ops[u]? = some o → ∃ e ∈ o.after, Region.binds .any e = true ∧ ∃ k', us[k]? = some k' ∧ e.on = k') →
  wpSeq P Q os a w → wpAny P .any ops Q fuel listed a w
 | [], fuel, listed, a, w, os, hsz, hl, hf, hnd, ho, hu, hd, hw, hq => by
  have : os = [] := List.length_eq_zero_iff.1 (by simpa using hl.symm)
  subst this
  refine wpAny_done ?_ hq fuel
  rw [List.eq_nil_iff_forall_not_mem]
  intro i hi
  rw [mem_ready] at hi
  obtain ⟨h0, o, ho, _⟩ := hi
  have hio := (Array.getElem?_eq_some_iff.1 ho).1
  have hs : i < listed.size := by omega
  have := (hu i hio).1 (by simpa [hs] using h0)
  simp at this
 | u :: us, 0, listed, a, w, os, hsz, hl, hf, _, _, _, _, _, _ => by simp at hf
 | u :: us, fuel + 1, listed, a, w, os, hsz, hl, hf, hnd, ho, hu, hd, hw, hq => by
  obtain ⟨o, os', rfl⟩ : ∃ o os', os = o :: os' := by
   cases os with
   | nil => simp at hl
   | cons o os' => exact ⟨o, os', rfl⟩
  obtain ⟨hou, hog⟩ := ho 0 u o rfl rfl
  have huo : u < ops.size := (Array.getElem?_eq_some_iff.1 hou).1
  have ft : ∀ j, j < ops.size → listed.getD j true = listed.getD j false := fun j hj => by simp [show j < listed.size by omega]
  refine ⟨fun hr => ?_, fun i hi => ?_⟩
  ·exfalso
   have hmem : u ∈ Region.ready .any ops listed := by
    rw [mem_ready]
    refine ⟨by rw [ft u huo]; exact (hu u huo).2 (by simp), o, hou, fun e he hb => ?_⟩
    obtain ⟨h1, h2⟩ := hd 0 u o rfl hou e he hb
    have : ¬ listed.getD e.on false = false := fun h => h2 (by simpa using (hu _ h1).1 h)
    simpa using this
   rw [hr] at hmem
   simp at hmem
  ·rw [mem_ready] at hi
   obtain ⟨h0, oi, hoi, hdeps⟩ := hi
   have hio := (Array.getElem?_eq_some_iff.1 hoi).1
   have hin : i ∈ u :: us := (hu i hio).1 (by rw [← ft i hio]; exact h0)
   have hiu : i = u := by
    obtain ⟨k, hk⟩ := List.getElem?_of_mem hin
    cases k with
    | zero => simp at hk; exact hk.symm
    | succ k =>
     exfalso
     obtain ⟨e, he, hb, k', hk', hon⟩ := hw k i oi hk hoi
     have h1 := hdeps e he hb
     have h2 : e.on ∈ u :: us := by rw [hon]; exact List.mem_of_getElem? hk'
     have h3 := (hu e.on (hd (k + 1) i oi hk hoi e he hb).1).2 h2
     rw [h3] at h1; simp at h1
   subst hiu
   obtain rfl : o = oi := by rw [hou] at hoi; exact Option.some.inj hoi
   refine wpOp_step hou (fun K' hK => ?_)
   rw [if_pos (by unfold Region.wanted; rw [hog])]
   refine hq K' (fun a' w' h' => hK _ _ ?_)
   refine wpAny_forced us fuel _ a' w' os' (by simp [hsz]) (by simpa using hl) (by simpa using hf) (List.nodup_cons.1 hnd).2 (fun k u' o' h1 h2 => ho (k + 1) u' o' (by simpa using h1) (by simpa using h2)) (fun j hj => ?_) (fun k u' o' h1 h2 e he hb => by have := hd (k + 1) u' o' (by simpa using h1) h2 e he hb; simpa using this) (fun k u' o' h1 h2 => by
    obtain ⟨e, he, hb, k', hk', hon⟩ := hw (k + 1) u' o' (by simpa using h1) h2
    exact ⟨e, he, hb, k', by simpa using hk', hon⟩) h'
   by_cases e : i = j
   ·subst e
    have hs : i < listed.size := by omega
    simp [hs]
    exact (List.nodup_cons.1 hnd).1
   ·rw [getD_set_ne false e, hu j hj]
    simp [Ne.symm e]

theorem wpAny_growW (hF : GFormW ops ds a0.tmps.size f) (hof : ops[f]? = some fo) (h0 : ops[ds.length]? = some s0) (h1 : ops[ds.length + 1]? = some s1) (hst : ∀ i v w w', R i v w → Below w.heap.size w w' → R i v w')
  (hstep : ∀ i o, i < ds.length → ops[i]? = some o → GStepG P ops Q ds R a0 w0 i o)
  (hdone : ∀ a w, a.tmps.size = a0.tmps.size → a.defers = a0.defers → (∀ t, t ∉ ds → slot a t = slot a0 t) → (∀ i, i < ds.length → R i (slot a (ds.getD i 0)) w) → Below w0.heap.size w0 w → wpSeq P Q [s0, s1] a w)
  (hlate : ∀ a w, a.tmps.size = a0.tmps.size → a.defers = a0.defers → (∀ t, t ∉ ds → slot a t = slot a0 t) → (∀ i, i < ds.length → i ≠ f → R i (slot a (ds.getD i 0)) w) → slot a (ds.getD f 0) = slot a0 (ds.getD f 0) → Below w0.heap.size w0 w → wpSeq P Q [s0, fo, s1] a w) :
  ∀ (fuel : Nat) (listed : Array Bool) (a : Act) (w : World), unl listed ops.size ≤ fuel → GInv ops ds R a0 w0 listed a w → (∀ j, j < ops.size → ds.length ≤ j → listed.getD j false = false) → (listed.getD f false = false → slot a (ds.getD f 0) = slot a0 (ds.getD f 0)) → wpAny P .any ops Q fuel listed a w := by
 have ft : ∀ (listed : Array Bool) (j : Nat), j < listed.size → (listed.getD j true = listed.getD j false) := fun listed j hj => by simp [hj]
 have hle := hF.le
 have hfl := hF.fl
 have cnt : ∀ (listed : Array Bool) (us : List Nat), listed.size = ops.size → us.Nodup → (∀ u ∈ us, u < ops.size ∧ listed.getD u false = false) → us.length ≤ unl listed ops.size := by
  intro listed us hsz hnd hu
  have key : ∀ n (us : List Nat), n ≤ ops.size → us.Nodup → (∀ u ∈ us, u < n ∧ listed.getD u false = false) → us.length ≤ unl listed n := by
   intro n
   induction n with
   | zero => intro us _ _ h; cases us with | nil => simp | cons u us => have := (h u (by simp)).1; omega
   | succ n ihn =>
    intro us hn hnd h
    unfold unl
    by_cases hm : n ∈ us
    ·have e1 := ihn (us.erase n) (by omega) (hnd.erase n) (fun u hu => by
      have h2 := List.mem_of_mem_erase hu
      have h3 : u ≠ n := fun e => by subst e; exact (List.Nodup.not_mem_erase hnd) hu
      have := h u h2
      exact ⟨by omega, this.2⟩)
     rw [List.length_erase_of_mem hm] at e1
     rw [if_neg (by rw [ft listed n (by omega), (h n hm).2]; simp)]
     omega
    ·have e1 := ihn us (by omega) hnd (fun u hu => by
      have := h u hu
      have h3 : u ≠ n := fun e => by subst e; exact hm hu
      exact ⟨by omega, this.2⟩)
     split <;> omega
  exact key _ us lR hnd hu
 intro fuel
 induction fuel with
 | zero =>
  intro listed a w hu hI hs hlt
  exfalso
  have := cnt listed [ds.length] hI.size (by simp) (fun u hu => by simp at hu; subst hu; exact ⟨by omega, hs _ (by omega) lR⟩)
  simp at this; omega
 | succ fuel ih =>
  intro listed a w hu hI hs hlt
  have late : (∀ j, j < ds.length → j ≠ f → listed.getD j false = true) → wpAny P .any ops Q (fuel + 1) listed a w ∨ listed.getD f false = false := fun hall => by
   cases hff : listed.getD f false with
   | false => exact .inr rfl
   | true =>
    refine .inl ?_
    refine wpAny_forced [ds.length, ds.length + 1] (fuel + 1) listed a w [s0, s1] hI.size rfl ?_ (by simp) ?_ ?_ ?_ ?_ (hdone a w hI.tsize hI.defers hI.outer (fun j hj => hI.inner j (if e : j = f then (by rw [e]; exact hff) else hall j hj e)) hI.below)
    ·exact Nat.le_trans (cnt listed [ds.length, ds.length + 1] hI.size (by simp) (fun u hu => by simp at hu; rcases hu with rfl | rfl <;> exact ⟨by omega, hs _ (by omega) (by omega)⟩)) hu
    ·intro k u o hk ho
     match k, hk, ho with
     | 0, hk, ho => simp at hk ho; subst hk ho; exact ⟨h0, hF.sguard _ _ (.inl lR) h0⟩
     | 1, hk, ho => simp at hk ho; subst hk ho; exact ⟨h1, hF.sguard _ _ (.inl (by omega)) h1⟩
     | k + 2, hk, ho => simp at hk
    ·intro j hj
     constructor
     ·intro h
      by_cases e : j < ds.length
      ·exfalso
       by_cases e2 : j = f
       ·subst e2; rw [hff] at h; simp at h
       ·rw [hall j e e2] at h; simp at h
      ·simp; omega
     ·intro h; simp at h; exact hs j hj (by omega)
    ·intro k u o hk ho e he hb
     match k, hk with
     | 0, hk => simp at hk; subst hk; have := hF.topo _ o ho e he hb; exact ⟨by omega, by simp; omega⟩
     | 1, hk => simp at hk; subst hk; have := hF.topo _ o ho e he hb; exact ⟨by omega, by simp; omega⟩
     | k + 2, hk => simp at hk
    ·intro k u o hk ho
     match k, hk with
     | 0, hk => simp at hk; subst hk; obtain ⟨_, e, he, hb, hon⟩ := hF.all1 o ho; exact ⟨e, he, hb, ds.length, rfl, hon⟩
     | k + 1, hk => simp at hk
  by_cases hall : ∀ j, j < ds.length → listed.getD j false = true
  ·rcases late (fun j hj _ => hall j hj) with h | h
   ·exact h
   ·rw [hall f hfl] at h; simp at h
  ·refine ⟨fun hr => ?_, fun i hi => ?_⟩
   ·exfalso
    refine hall (fun i => ?_)
    induction i using Nat.strongRecOn with
    | ind i ih2 =>
     intro hil
     have hio : i < ops.size := by omega
     by_cases hh : listed.getD i true = true
     ·rw [ft listed i (by rw [hI.size]; exact hio)] at hh; exact hh
     ·exfalso
      have hmem : i ∈ Region.ready .any ops listed := by
       rw [mem_ready]
       refine ⟨by simpa using hh, ops[i], by simp [hio], fun e he hb => ?_⟩
       have hlt := hF.topo i ops[i] (by simp [hio]) e he hb
       exact ih2 _ hlt (by omega)
      rw [hr] at hmem
      simp at hmem
   ·rw [mem_ready] at hi
    obtain ⟨hi0, o, ho, hdeps⟩ := hi
    have hio : i < ops.size := (Array.getElem?_eq_some_iff.1 ho).1
    by_cases hil : i < ds.length
    ·have hd := hF.dst i o hil ho
     have hmem : ds.getD i 0 ∈ ds := by rw [getD_at hil]; exact List.getElem_mem hil
     refine wpOp_step ho (fun K' hK => ?_)
     refine hstep i o hil ho K' a w hI.outer (fun e he hb => hI.inner _ (hdeps e he hb)) hI.below (fun v w' hR hB => hK _ _ ?_)
     refine ih _ _ _ (by have := unl_set hi0 ops.size hio; omega) ⟨by simp [hI.size], ?_, ?_, fun t ht => ?_, fun j hj => ?_, hI.below.trans (hB.mono hI.below.size)⟩ (fun j hj hn => by rw [getD_set_ne false (by omega)]; exact hs j hj hn) ?_
     ·rw [hd]; simp [Act.put, hI.tsize]
     ·rw [hd]; simp [Act.put, hI.defers]
     ·rw [hd, slot_put_ne (show ds.getD i 0 ≠ t from fun e => ht (e ▸ hmem))]; exact hI.outer t ht
     ·rw [hd]
      by_cases e : i = j
      ·subst e
       rw [slot_put_eq (by rw [hI.tsize]; exact hF.fits _ hmem)]
       exact hR
      ·rw [getD_set_ne false e] at hj
       have hjo : j < ops.size := by
        rw [← hI.size]
        rcases Nat.lt_or_ge j listed.size with h' | h'
        ·exact h'
        ·simp [Array.getElem?_eq_none h'] at hj
       have hjl : j < ds.length := by
        by_cases e2 : j < ds.length
        ·exact e2
        ·rw [hs j hjo (by omega)] at hj; simp at hj
       rw [slot_put_ne (nodup_ne hF.nodup hil hjl e)]
       exact hst _ _ _ _ (hI.inner j hj) hB
     ·intro hff
      by_cases e : i = f
      ·subst e
       have hsz : i < listed.size := by rw [hI.size]; exact hio
       simp [hsz] at hff
      ·rw [getD_set_ne false e] at hff
       rw [hd, slot_put_ne (nodup_ne hF.nodup hil hfl e)]
       exact hlt hff
    ·have hin : i = ds.length := by
      by_cases e2 : i = ds.length
      ·exact e2
      ·exfalso
       have e3 : i = ds.length + 1 := by omega
       subst e3
       obtain ⟨_, e, he, hb, hon⟩ := hF.all1 o ho
       have h2 := hdeps e he hb
       rw [hon, hs _ (by omega) lR] at h2
       simp at h2
     subst hin
     obtain rfl : s0 = o := by rw [ho] at h0; exact (Option.some.inj h0).symm
     have hoth : ∀ j, j < ds.length → j ≠ f → listed.getD j false = true := fun j hj hjf => by
      obtain ⟨e, he, hb, hon⟩ := hF.all0 s0 ho j hj hjf
      rw [← hon]; exact hdeps e he hb
     have hff : listed.getD f false = false := by
      cases hff : listed.getD f false with
      | false => rfl
      | true => exact absurd (fun j hj => if e : j = f then (by rw [e]; exact hff) else hoth j hj e) hall
     have hq := hlate a w hI.tsize hI.defers hI.outer (fun j hj hjf => hI.inner j (hoth j hj hjf)) (hlt hff) hI.below
     refine wpOp_step ho (fun K' hK => ?_)
     rw [if_pos (by unfold Region.wanted; rw [hF.sguard _ _ (.inl lR) ho])]
     refine hq K' (fun a' w' h' => hK _ _ ?_)
     have hls : ∀ j, j ≠ ds.length → (listed.setIfInBounds ds.length true).getD j false = listed.getD j false := fun j hj => getD_set_ne false (Ne.symm hj)
     have hle2 : ds.length < listed.size := by rw [hI.size]; omega
     have hsd : (listed.setIfInBounds ds.length true).getD ds.length false = true := by simp [hle2]
     refine wpAny_forced [f, ds.length + 1] fuel _ a' w' [fo, s1] (by simp [hI.size]) rfl ?_ (by simp; omega) ?_ ?_ ?_ ?_ h'
     ·have h3 := cnt listed [ds.length, f, ds.length + 1] hI.size (by simp; omega) (fun u hu => by simp at hu; rcases hu with rfl | rfl | rfl <;> first | exact ⟨by omega, hff⟩ | exact ⟨by omega, hs _ (by omega) (by omega)⟩)
      simp at h3 ⊢; omega
     ·intro k u o hk ho'
      match k, hk, ho' with
      | 0, hk, ho' => simp at hk ho'; subst hk ho'; exact ⟨hof, hF.sguard _ _ (.inr rfl) hof⟩
      | 1, hk, ho' => simp at hk ho'; subst hk ho'; exact ⟨h1, hF.sguard _ _ (.inl (by omega)) h1⟩
      | k + 2, hk, ho' => simp at hk
     ·intro j hj
      constructor
      ·intro h
       by_cases e0 : j = ds.length
       ·subst e0; rw [hsd] at h; simp at h
       ·rw [hls j e0] at h
        by_cases e : j < ds.length
        ·by_cases e2 : j = f
         ·simp [e2]
         ·exfalso; rw [hoth j e e2] at h; simp at h
        ·simp; omega
      ·intro h
       simp at h
       rcases h with h | h
       ·subst h; rw [hls _ (by omega)]; exact hff
       ·rw [hls j (by omega)]; exact hs j hj (by omega)
     ·intro k u o hk ho' e he hb
      match k, hk with
      | 0, hk => simp at hk; subst hk; have := hF.topo _ o ho' e he hb; exact ⟨by omega, by simp; omega⟩
      | 1, hk => simp at hk; subst hk; have := hF.topo _ o ho' e he hb; exact ⟨by omega, by simp; omega⟩
      | k + 2, hk => simp at hk
     ·intro k u o hk ho'
      match k, hk with
      | 0, hk => simp at hk; subst hk; obtain ⟨⟨e, he, hb, hon⟩, _⟩ := hF.all1 o ho'; exact ⟨e, he, hb, f, rfl, hon⟩
      | k + 1, hk => simp at hk

/-- The operations, one by one, each with what it yields; then the last two, the late one ahead of them or between them. -/
def GChW (P : Program) (ops : Array Oper) (Q : Exit → Act → World → Prop) (ds : List Tmp) (a0 : Act) (w0 : World) (f : Nat) (fo s0 s1 : Oper) : List (Value → World → Prop) → List Oper → Prop
 | Rs, [] => (∀ (X : Nat → Value) w, RAll X w 0 Rs → Below w0.heap.size w0 w → wpSeq P Q [s0, s1] (putsFrom X a0 0 ds) w) ∧ (∀ (X : Nat → Value) w, RAll X w 0 (Rs.set f (IsV (slot a0 (ds.getD f 0)))) → Below w0.heap.size w0 w → wpSeq P Q [s0, fo, s1] (putsFrom X a0 0 ds) w)
 | Rs, o :: l => ∃ r, Stable r ∧ GStepG P ops Q ds (rAt (Rs ++ [r])) a0 w0 Rs.length o ∧ GChW P ops Q ds a0 w0 f fo s0 s1 (Rs ++ [r]) l

theorem GChW.all : ∀ (l : List Oper) (Rs : List (Value → World → Prop)), (∀ i o, l[i]? = some o → ∀ e ∈ o.after, Region.binds .any e = true → e.on < Rs.length + i) → (∀ r ∈ Rs, Stable r) → GChW P ops Q ds a0 w0 f fo s0 s1 Rs l →
  ∃ Ss, (Rs ++ Ss).length = Rs.length + l.length ∧ (∀ r ∈ Rs ++ Ss, Stable r) ∧ (∀ i o, l[i]? = some o → GStepG P ops Q ds (rAt (Rs ++ Ss)) a0 w0 (Rs.length + i) o) ∧ GChW P ops Q ds a0 w0 f fo s0 s1 (Rs ++ Ss) []
 | [], Rs, _, hst, h => ⟨[], by simp, by simpa using hst, fun i o ho => by simp at ho, by rw [List.append_nil]; exact h⟩
 | o :: l, Rs, ht, hst, ⟨r, hr, hs, hc⟩ => by
  obtain ⟨Ss, h1, h2, h3, h4⟩ := GChW.all l (Rs ++ [r]) (fun i o' ho e he hb => by
   have := ht (i + 1) o' (by simpa using ho) e he hb
   simp; omega) (fun x hx => by
   rcases List.mem_append.1 hx with hx | hx
   ·exact hst x hx
   ·simp at hx; subst hx; exact hr) hc
  refine ⟨r :: Ss, by simp at h1 ⊢; omega, by simpa using h2, fun i o' ho => ?_, by simpa using h4⟩
  have e : Rs ++ r :: Ss = Rs ++ [r] ++ Ss := by simp
  rw [e]
  cases i with
  | zero =>
   simp at ho
   subst ho
   refine GStepG.congr (ht 0 o rfl) (fun j hj => ?_) hs
   exact (rAt_left (by simp; omega)).symm
  | succ i =>
   have := h3 i o' (by simpa using ho)
   rwa [show (Rs ++ [r]).length + i = Rs.length + (i + 1) by simp; omega] at this

theorem wp_region_growW {id : Nat} (ds : List Tmp) (f : Nat) (fo s0 s1 : Oper) (hm : P.follows .mixedOrders = true) (hF : gformW ops ds a0.tmps.size f = true) (hof : ops[f]? = some fo) (hs0 : ops[ds.length]? = some s0) (hs1 : ops[ds.length + 1]? = some s1) (h : GChW P ops Q ds a0 w0.drew f fo s0 s1 [] (ops.toList.take ds.length)) :
  (Code.region id ops true).wp P Q a0 w0 := by
 have hG := GFormW.of hF
 have hle := hG.le
 obtain ⟨Ss, h1, h2, h3, h4, h5⟩ := GChW.all (ops.toList.take ds.length) [] (fun i o ho e he hb => by
  have hi : i < ds.length := by
   by_cases e2 : i < ds.length
   ·exact e2
   ·rw [List.getElem?_eq_none (by simp; omega)] at ho; simp at ho
  rw [List.getElem?_take, if_pos hi] at ho
  have := hG.topo i o (by simpa using ho) e he hb
  simpa using this) (fun r hr => by simp at hr) h
 simp only [List.nil_append, List.length_nil, Nat.zero_add] at h1 h2 h3 h4 h5
 have hlen : Ss.length = ds.length := by rw [h1]; simp; omega
 have hput : ∀ (a : Act), a.tmps.size = a0.tmps.size → a.defers = a0.defers → (∀ t, t ∉ ds → slot a t = slot a0 t) → putsFrom (fun i => slot a (ds.getD i 0)) a0 0 ds = a := fun a g1 g2 g3 => puts_eq ds a0 0 g1.symm g2.symm (fun i _ => by rw [Nat.zero_add]) (fun t ht => (g3 t ht).symm) (fun d hd => by rw [g1]; exact hG.fits d hd)
 refine wp_region_any hm (wpAny_growW (w0 := w0.drew) (R := rAt Ss) hG hof hs0 hs1 (fun i v w w' h hb => ?_) (fun i o hi ho => ?_) (fun a w g1 g2 g3 g4 g5 => ?_) (fun a w g1 g2 g3 g4 g6 g5 => ?_) ops.size _ a0 w0.drew (unl_le _ _) ⟨by simp, rfl, rfl, fun _ _ => rfl, fun i hi => ?_, Below.refl _ _⟩ (fun j hj _ => by simp [hj]) (fun _ => rfl))
 ·unfold rAt at *
  by_cases hi : i < Ss.length
  ·have e : Ss.getD i (fun _ _ => True) = Ss[i] := by simp [hi]
   rw [e] at h ⊢
   exact h2 _ (List.getElem_mem hi) v w w' h hb
  ·have e : Ss.getD i (fun _ _ => True) = fun _ _ => True := by simp [Nat.le_of_not_lt hi]
   rw [e]; trivial
 ·exact h3 i o (by rw [List.getElem?_take, if_pos hi]; simpa using ho)
 ·rw [← hput a g1 g2 g3]
  exact h4 (fun i => slot a (ds.getD i 0)) w (RAll.mk Ss 0 (fun i hi => by rw [Nat.zero_add]; exact g4 i (by omega))) g5
 ·rw [← hput a g1 g2 g3]
  refine h5 (fun i => slot a (ds.getD i 0)) w (RAll.mk (Ss.set f (IsV (slot a0 (ds.getD f 0)))) 0 (fun i hi => ?_)) g5
  rw [Nat.zero_add]
  have hi' : i < Ss.length := by simpa using hi
  unfold rAt
  by_cases e : i = f
  ·subst e
   have e2 : (Ss.set i (IsV (slot a0 (ds.getD i 0)))).getD i (fun _ _ => True) = IsV (slot a0 (ds.getD i 0)) := by simp [hi']
   rw [e2]
   exact g6
  ·have e2 : (Ss.set f (IsV (slot a0 (ds.getD f 0)))).getD i (fun _ _ => True) = Ss.getD i (fun _ _ => True) := by simp [List.getElem?_set_ne (Ne.symm e)]
   rw [e2]
   exact g4 i (by omega) e
 ·exfalso
  by_cases h : i < ops.size
  ·simp [h] at hi
  ·simp [h] at hi

theorem GChW.val {Rs : List (Value → World → Prop)} {n : Nat} {o : Oper} {l : List Oper} (Rs' : Value → List (Value → World → Prop)) (hR : ∀ v, Rs' v = Rs ++ [IsV v]) (hn : Rs.length = n) (h : ∃ v, GStepG P ops Q ds (rAt (Rs' v)) a0 w0 n o ∧ GChW P ops Q ds a0 w0 f fo s0 s1 (Rs' v) l) : GChW P ops Q ds a0 w0 f fo s0 s1 Rs (o :: l) := by
 obtain ⟨v, h1, h2⟩ := h
 rw [hR] at h1 h2
 subst hn
 exact ⟨IsV v, stable_isV v, h1, h2⟩
theorem GChW.rel {Rs : List (Value → World → Prop)} {n : Nat} {o : Oper} {l : List Oper} (r : Value → World → Prop) (hr : Stable r) (Rs' : List (Value → World → Prop)) (hR : Rs' = Rs ++ [r]) (hn : Rs.length = n) (h1 : GStepG P ops Q ds (rAt Rs') a0 w0 n o) (h2 : GChW P ops Q ds a0 w0 f fo s0 s1 Rs' l) : GChW P ops Q ds a0 w0 f fo s0 s1 Rs (o :: l) := by
 subst hR hn
 exact ⟨r, hr, h1, h2⟩
end
end Go.Proofs.YtdkepkaflielhaaGreatDoor
