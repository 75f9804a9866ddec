/- Groups laid: what the program's laySix answers. -/
import Derived.Test.YtebhljogijemoaaDoorILead
import Derived.Lib.LazyBuf
import Derived.Deep.DeepCutAuto
namespace Go.Proofs.YtebhljogijemoaaDoor
open Go.RowKit Go.PlainAid
set_option linter.unusedVariables false
set_option linter.unusedSimpArgs false

theorem layL_twoN (gs : List Nat) : (layL (gs.map fun n : Nat => (n : Int))).map (Value.int .u8) = byts (twoN gs) := by
  induction gs with
  | nil => rfl
  | cons n r ih =>
    simp only [List.map_cons, layL]
    rw [ih]
    simp [byts, twoN]

/-- A row of n bytes in block B that may be written. -/
structure HoldsB (w : World) (B n : Nat) (f : Nat → Nat) : Prop where
  get : ∀ i, i < n → w.cell? ⟨B, i, none⟩ = some (.int .u8 (f i : Int)) ∧ w.frozen? ⟨B, i, none⟩ = false

theorem HoldsB.drew {w : World} {B n : Nat} {f : Nat → Nat} (h : HoldsB w B n f) : HoldsB w.drew B n f := ⟨h.get⟩

theorem HoldsB.put {w : World} {B n : Nat} {f : Nat → Nat} (h : HoldsB w B n f) (ns : List Nat) (o : Nat) (ho : o + ns.length ≤ n) : HoldsB (w.setCells B o (byts ns)) B n (fun i => if o ≤ i ∧ i < o + ns.length then ns.getD (i - o) 0 else f i) := by
  have hl : (byts ns).length = ns.length := by simp [byts]
  refine ⟨fun i hi => ⟨?_, by rw [World.frozen?_setCells]; exact (h.get i hi).2⟩⟩
  by_cases e : o ≤ i ∧ i < o + ns.length
  · have := World.cell?_setCells_in B (byts ns) o w (fun j hj => by rw [(h.get (o + j) (by rw [hl] at hj; omega)).1]; rfl) (i - o) (by rw [hl]; omega)
    rw [show o + (i - o) = i by omega] at this
    show _ = some (Value.int .u8 ((if o ≤ i ∧ i < o + ns.length then ns.getD (i - o) 0 else f i : Nat) : Int))
    rw [if_pos e, this]
    have h2 : i - o < ns.length := by omega
    simp [byts, h2]
  · show _ = some (Value.int .u8 ((if o ≤ i ∧ i < o + ns.length then ns.getD (i - o) 0 else f i : Nat) : Int))
    rw [if_neg e, World.cell?_setCells_out B _ o w _ (fun _ _ => by show i < o ∨ o + (byts ns).length ≤ i; rw [hl]; omega)]
    exact (h.get i hi).1

theorem HoldsB.conv {w : World} {B n cap : Nat} {f : Nat → Nat} {l : List Nat} (h : HoldsB w B n f) (hl : l.length = n) (hf : ∀ i, i < n → f i = l.getD i 0) (hb : ∀ m ∈ l, m ≤ 255) :
    (convert 22 9 (.slice (some ⟨B, 0, none⟩) n cap)).run Tryd.prog w = .ok (.string (ofL (l.map UInt8.ofNat))) w := by
  have := run_convert_bytes_back (P := Tryd.prog) w 22 9 5 ⟨B, 0, none⟩ cap (l.map UInt8.ofNat) Tryd.underlying22 Tryd.underlying5 Tryd.underlying9 (by
    intro j hj
    have hj' : j < l.length := by simpa using hj
    have ha : Addr.add ⟨B, 0, none⟩ j = ⟨B, j, none⟩ := by simp only [Addr.add, Nat.zero_add]; split <;> simp_all
    have hb' := hb _ (List.getElem_mem hj')
    rw [ha, (h.get j (by omega)).1, hf j (by omega)]
    simp [hj']
    omega)
  rw [List.length_map, hl] at this
  exact this

/-- 'copy(dst, src)' as one step of a region that draws. -/
theorem step_copy_cells {P : Program} {ops : Array Oper} {o : Oper} {a : Act} {w : World} {K : Act → World → Prop} {Q : Exit → Act → World → Prop} {E : Prop}
    (hg : o.guard = none) (d x : Operand) (dT sT : TypeId) (hop : o.op = Op.call { callee := Callee.builtin Builtin.copy, args := #[d, x], argTypes := #[dT, sT] })
    (elem : TypeId) (hu : P.underlying dT = some (.slice elem)) (hz : (P.info? elem).map (·.size) = some 1)
    (b off dLen dCap : Nat) (hd : a.eval d = .slice (some ⟨b, off, none⟩) dLen dCap) (ad : Addr) (sLen sCap : Nat) (hx : a.eval x = .slice (some ad) sLen sCap) (cs : List Value) (hn : cs.length = Nat.min sLen dLen)
    (hsrc : ∀ j v, cs[j]? = some v → w.cell? (ad.add j) = some v) (hc : ∀ j, j < cs.length → (w.cell? ⟨b, off + j, none⟩).isSome = true) (hf : ∀ j, j < cs.length → w.frozen? ⟨b, off + j, none⟩ = false) (h1 : ∀ v ∈ cs, v.oneCell' = true)
    (hK : K (a.put o.dst (goInt cs.length)) (w.setCells b off cs)) :
    if Region.wanted o (yielded ops a.tmps) = true then Oper.wp P o a w K Q else E := by
  have hw : Region.wanted o (yielded ops a.tmps) = true := by simp [Region.wanted, hg]
  rw [if_pos hw]
  have hrun := run_copy_cells (P := P) w dT sT o.type elem b off dLen dCap ad sLen sCap cs hu hz hn hsrc hc hf h1
  unfold Oper.wp
  simp [execOp, hop, resolve, invoke, builtin, hd, hx, hrun, Result.andThen]
  exact hK

theorem layWords_nil (w : World) :
    Calls Tryd.prog 50 #[.slice none 0 0] w fun e w' => e = .returned (.slice (some ⟨w.heap.size, 0, none⟩) 0 0) ∧ Below w.heap.size w w' := by
  obtain ⟨i0, hi, hz0, hz1, hz2⟩ := info_parts Tryd.infoU
  go_enter Tryd.func50, Tryd.ntmps50
  go_wp2_with (at_make; refine wpList_make_own _ rfl _ _ 22 rfl w.heap.size 5 i0 (.int .u8 0) 1 Tryd.underlying22 hi hz0 hz1 .i64 .i64 _ 0 rfl rfl (by omega) (by rw [hz2]; omega) (by unfold maxLen; omega) (Nat.le_refl _) ?_; intro w1 hown hgrow)
  have HB : Hid (Below w.heap.size w w1) := (Below.refl _ _).grown hgrow (Nat.le_refl _) (by simp)
  clear hgrow hown
  go_loop [3, 12] (fun v i => i = .int .i64 0 ∧ v = .slice (some ⟨w.heap.size, 0, none⟩) 0 0) (fun _ _ => 0)
  case atStart => exact ⟨rfl, rfl⟩
  case round =>
    obtain ⟨rfl, rfl⟩ := hrel
    go_wp2_with fail
    go_ret
    exact ⟨rfl, HB.out⟩

/-- The words' bytes, whatever groups there are. -/
theorem layGroups_any (gs : List Nat) (v : Value) (w : World) (hl : gs.length ≤ 8) (hgs : ∀ n ∈ gs, n ≤ 65535) (base : Nat) (hown : w.ownsRow base 2 1 v gs.length (gs.map fun n : Nat => .int .i64 (n : Int))) :
    Calls Tryd.prog 50 #[v] w fun e w' => e = .returned (.slice (some ⟨w.heap.size, 0, none⟩) (2 * gs.length) (2 * gs.length)) ∧ (∀ j, j < 2 * gs.length → w'.cell? ⟨w.heap.size, j, none⟩ = some (.int .u8 ((twoN gs).getD j 0 : Nat))) ∧ Below w.heap.size w w' := by
  by_cases hv : v = .slice none 0 0
  · have h0 : gs.length = 0 := by
      rcases hown.2 with ⟨_, h⟩ | ⟨g, c, cur, h, _⟩
      · exact h
      · rw [hv] at h; simp at h
    rw [hv]
    refine (layWords_nil w).mono ?_
    rintro e w' ⟨rfl, hb⟩
    exact ⟨by rw [h0], fun j hj => by omega, hb⟩
  · obtain ⟨g, cap, rfl, hown'⟩ := own_shape hown hv
    have hlt := (hown'.lt g (by simp [Value.ownBlock])).2
    refine (layWords_any (gs.map fun n : Nat => (n : Int)) g gs.length cap w (by omega) hlt (by simp) (fun k => ?_) (fun k hk => ?_)).mono ?_
    · by_cases hk : k < gs.length
      · have := hgs _ (List.getElem_mem hk)
        simp [List.getD, hk]; omega
      · simp [List.getD, List.getElem?_eq_none (show gs.length ≤ k by omega)]
    · rw [hown'.cellAt k (by omega)]; simp [hk, List.getD]
    · rintro e w' ⟨rfl, ho, hb⟩
      refine ⟨rfl, fun j hj => ?_, hb⟩
      have hj2 : j < (twoN gs).length := by rw [twoN_length]; exact hj
      rw [ho.cellAt j (by omega), layL_twoN]
      simp [byts, hj2, List.getD]

theorem lay_get (A B : List Nat) (z i : Nat) : (A ++ List.replicate z 0 ++ B).getD i 0 = if A.length + z ≤ i ∧ i < A.length + z + B.length then B.getD (i - (A.length + z)) 0 else if i < A.length then A.getD i 0 else 0 := by
  simp only [List.getD_eq_getElem?_getD]
  by_cases h1 : A.length + z ≤ i
  · rw [List.getElem?_append_right (by simp; omega)]
    have e : i - (A ++ List.replicate z 0).length = i - (A.length + z) := by simp
    rw [e]
    by_cases h2 : i < A.length + z + B.length
    · rw [if_pos ⟨h1, h2⟩]
    · rw [if_neg (fun h => h2 h.2), if_neg (by omega), List.getElem?_eq_none (by omega)]; rfl
  · rw [if_neg (fun h => h1 h.1), List.getElem?_append_left (by simp; omega)]
    by_cases h2 : i < A.length
    · rw [if_pos h2, List.getElem?_append_left h2]
    · rw [if_neg h2, List.getElem?_append_right (by omega), List.getElem?_replicate]
      split <;> rfl

theorem twoN_take (gs : List Nat) : ∀ g : Nat, twoN (gs.take g) = (twoN gs).take (2 * g) := by
  induction gs with
  | nil => intro g; simp [twoN]
  | cons x r ih =>
    intro g
    cases g with
    | zero => simp [twoN]
    | succ g =>
      have := ih g
      simp only [twoN] at this ⊢
      rw [List.take_succ_cons, List.flatMap_cons, List.flatMap_cons, this, show 2 * (g + 1) = 2 * g + 1 + 1 by omega]
      rfl
theorem twoN_drop (gs : List Nat) : ∀ g : Nat, twoN (gs.drop g) = (twoN gs).drop (2 * g) := by
  induction gs with
  | nil => intro g; simp [twoN]
  | cons x r ih =>
    intro g
    cases g with
    | zero => simp [twoN]
    | succ g =>
      have := ih g
      simp only [twoN] at this ⊢
      rw [List.drop_succ_cons, List.flatMap_cons, this, show 2 * (g + 1) = 2 * g + 1 + 1 by omega]
      rfl

theorem Tryd.size8l (w : World) : (Go.sizeOf 5).run Tryd.prog w = .ok 1 w := by
  have h : (Tryd.prog.info? 5).map (fun i => i.size) = some 1 := by kernel_rfl
  cases hq : Tryd.prog.info? 5 with
  | none => simp [hq] at h
  | some i => simp [hq] at h; simp [sizeOf, typeInfo, hq, h]

theorem slice16_from (G q : Nat) (hq : q ≤ 16) (W : World) : (Instr.sliceAt 72 (.pointer (some ⟨G, 0, none⟩)) (some (.int .i64 (q : Int))) none none).run Tryd.prog W = .ok (.slice (some ⟨G, if q = 16 then 0 else q, none⟩) (16 - q) (16 - q)) W := by
  have h1 : Tryd.prog.arrayLen 72 = 16 := by kernel_rfl
  have h2 : Tryd.prog.elem 72 = 5 := by kernel_rfl
  have h3 : Tryd.prog.underlying 72 = some (.array (Tryd.prog.arrayLen 72) (Tryd.prog.elem 72)) := by kernel_rfl
  rw [run_sliceAt_array_l W 72 ⟨G, 0, none⟩ h3 .i64 (q : Int) (by omega) (by rw [h1]; omega), h1, h2, Tryd.size8l]
  show Result.ok (slicedAt ⟨G, 0, none⟩ (q : Int).toNat 16 16 1) W = _
  unfold slicedAt
  have ha0 : Addr.add ⟨G, 0, none⟩ q = ⟨G, q, none⟩ := by simp only [Addr.add, Nat.zero_add]; split <;> simp_all
  rw [Int.toNat_natCast, Nat.mul_one]
  by_cases h : q = 16
  · rw [if_pos h.symm, if_pos h]
  · rw [if_neg (fun e => h e.symm), if_neg h, ha0]

theorem zeros16 (w : World) (t : TypeId) : HoldsB (w.alloc (.cells #[.int .u8 0, .int .u8 0, .int .u8 0, .int .u8 0, .int .u8 0, .int .u8 0, .int .u8 0, .int .u8 0, .int .u8 0, .int .u8 0, .int .u8 0, .int .u8 0, .int .u8 0, .int .u8 0, .int .u8 0, .int .u8 0] t)) w.heap.size 16 (fun _ => 0) := by
  rw [show w.alloc (.cells #[.int .u8 0, .int .u8 0, .int .u8 0, .int .u8 0, .int .u8 0, .int .u8 0, .int .u8 0, .int .u8 0, .int .u8 0, .int .u8 0, .int .u8 0, .int .u8 0, .int .u8 0, .int .u8 0, .int .u8 0, .int .u8 0] t) = w.alloc (.cells (Array.replicate 16 (.int .u8 0)) t) from rfl]
  exact ⟨fun i hi => ⟨by simp [hi], by simp⟩⟩

theorem HoldsB.below {w w3 : World} {B n : Nat} {f : Nat → Nat} (h : HoldsB w B n f) (hB : B < w.heap.size) (hb : Below w.heap.size w w3) : HoldsB w3 B n f :=
  ⟨fun i hi => ⟨((bcell hb).1 B i hB).trans (h.get i hi).1, ((bcell hb).2 B i hB).trans (h.get i hi).2⟩⟩

set_option maxRecDepth 100000 in
set_option maxHeartbeats 1000000 in
theorem implLay1_any (gs : List Nat) (v : Value) (g : Nat) (gi : Int) (w : World) (hl : gs.length ≤ 8) (hg : g ≤ gs.length) (hgi : gi = (g : Int) ∨ (gi < 0 ∧ gs.length = 8 ∧ g = 8)) (hgs : ∀ n ∈ gs, n ≤ 65535) (base : Nat) (hown : w.ownsRow base 2 1 v gs.length (gs.map fun n : Nat => .int .i64 (n : Int))) :
    Calls Tryd.prog 38 #[v, .int .i64 gi] w fun e w' => ReadsAs (layV gs (some g)) e ∧ Below w.heap.size w w' := by
  have H0 : Hid (HoldsB (w.alloc (.cells #[.int .u8 0, .int .u8 0, .int .u8 0, .int .u8 0, .int .u8 0, .int .u8 0, .int .u8 0, .int .u8 0, .int .u8 0, .int .u8 0, .int .u8 0, .int .u8 0, .int .u8 0, .int .u8 0, .int .u8 0, .int .u8 0] 72)) w.heap.size 16 (fun _ => 0)) := zeros16 w _
  have HB0 : Hid (Below w.heap.size w (w.alloc (.cells #[.int .u8 0, .int .u8 0, .int .u8 0, .int .u8 0, .int .u8 0, .int .u8 0, .int .u8 0, .int .u8 0, .int .u8 0, .int .u8 0, .int .u8 0, .int .u8 0, .int .u8 0, .int .u8 0, .int .u8 0, .int .u8 0] 72))) := (Below.refl _ _).alloc (Nat.le_refl _) _
  have HC : Hid _ := layGroups_any gs v (w.alloc (.cells #[.int .u8 0, .int .u8 0, .int .u8 0, .int .u8 0, .int .u8 0, .int .u8 0, .int .u8 0, .int .u8 0, .int .u8 0, .int .u8 0, .int .u8 0, .int .u8 0, .int .u8 0, .int .u8 0, .int .u8 0, .int .u8 0] 72)) hl hgs base (hown.alloc _)
  have hn : ∃ o cap, v = .slice o gs.length cap := by
    rcases hown.2 with ⟨rfl, h⟩ | ⟨b, c, cur, rfl, _⟩
    · exact ⟨none, 0, by rw [h]⟩
    · exact ⟨_, _, rfl⟩
  obtain ⟨vo, vc, rfl⟩ := hn
  have HGS : Hid (∀ n ∈ gs, n ≤ 65535) := hgs
  have hz0 : (w.alloc (.cells #[.int .u8 0, .int .u8 0, .int .u8 0, .int .u8 0, .int .u8 0, .int .u8 0, .int .u8 0, .int .u8 0, .int .u8 0, .int .u8 0, .int .u8 0, .int .u8 0, .int .u8 0, .int .u8 0, .int .u8 0, .int .u8 0] 72)).heap.size = w.heap.size + 1 := by simp
  rw [hz0] at HC
  have HZ0 : Hid _ := hz0
  clear hown hgs hz0
  obtain ⟨n, hnn⟩ : ∃ n, n = gs.length := ⟨_, rfl⟩
  rw [← hnn] at hl hg hgi HC ⊢
  have HN : Hid (n = gs.length) := hnn
  clear hnn
  go_enter Tryd.func38, Tryd.ntmps38
  go_upto_if 9 with fail
  go_cut [1] (fun x wx => x = .int .i64 (g : Int) ∧ wx = w)
  case first =>
    rcases hgi with hgi | ⟨hneg, h8, hg8⟩
    · have hpos : ¬ gi < 0 := by omega
      subst hgi
      go_wp2_with fail
      go_meet
      exact ⟨rfl, rfl⟩
    · subst hg8 h8
      go_wp2_with fail
      go_meet
      exact ⟨rfl, rfl⟩
  case rest =>
  obtain ⟨rfl, rfl⟩ := hcut
  go_wp2_with fail
  refine Calls.mono HC.out ?_
  rintro e w1 ⟨rfl, hcl, hb1⟩
  have HCL : Hid (∀ j, j < 2 * n → w1.cell? ⟨wc.heap.size + 1, j, none⟩ = some (.int .u8 ((twoN gs).getD j 0 : Nat))) := hcl
  have HH1 : Hid (HoldsB w1 wc.heap.size 16 (fun _ => 0)) := H0.out.below (by rw [HZ0.out]; omega) (by rw [HZ0.out]; exact hb1)
  have HB1 : Hid (Below wc.heap.size wc w1) := HB0.out.trans (hb1.mono (by omega))
  clear hcl hb1 H0 HB0 HC HZ0
  go_wp2_with fail
  obtain ⟨A, hA⟩ : ∃ A, A = (twoN gs).take (2 * g) := ⟨_, rfl⟩
  have hAl : A.length = 2 * g := by rw [hA, List.length_take, twoN_length, ← HN.out]; omega
  have HAJ : Hid (∀ j (hj : j < A.length), w1.cell? ⟨wc.heap.size + 1, j, none⟩ = some (.int .u8 (A[j] : Nat))) := fun j hj => by
    rw [HCL.out j (by omega)]; congr 3; subst hA; rw [List.getElem_take]; simp [List.getD, show j < (twoN gs).length by rw [twoN_length, ← HN.out]; omega]
  have HA : Hid (A = (twoN gs).take (2 * g)) := hA
  clear hA
  have hwr : IntKind.i64.wrap (2 * (g : Int)) = 2 * (g : Int) := by rw [IntKind.wrap_i64]; omega
  have h2g : 2 * (g : Int) ≤ 2 * (n : Int) := by omega
  have h2g0 : (0 : Int) ≤ 2 * (g : Int) := by omega
  have htn : (2 * (g : Int)).toNat = 2 * g := by omega
  have hbl : (byts A).length = 2 * g := by simp [byts, hAl]
  have hadd : ∀ j, Addr.add ⟨wc.heap.size + 1, 0, none⟩ j = ⟨wc.heap.size + 1, j, none⟩ := fun j => by simp only [Addr.add, Nat.zero_add]; split <;> simp_all
  have hcp : (Builtin.copy_ #[22, 22] 3 #[.slice (some ⟨wc.heap.size, 0, none⟩) 16 16, .slice (some ⟨wc.heap.size + 1, 0, none⟩) (2 * g) (2 * n)]).run Tryd.prog w1.drew = .ok (goInt (byts A).length) (w1.drew.setCells wc.heap.size 0 (byts A)) :=
    run_copy_cells (P := Tryd.prog) w1.drew 22 22 3 5 wc.heap.size 0 16 16 ⟨wc.heap.size + 1, 0, none⟩ (2 * g) (2 * n) (byts A) Tryd.underlying22 (by kernel_rfl) (by rw [hbl]; exact (Nat.min_eq_left (by omega)).symm)
      (fun j v hv => by
        have hj : j < A.length := by
          by_cases h : j < A.length
          · exact h
          · rw [List.getElem?_eq_none (by rw [hbl]; omega)] at hv; simp at hv
        rw [hadd]
        refine (HAJ.out j hj).trans ?_
        simpa [byts, hj] using hv)
      (fun j hj => by rw [Nat.zero_add, (HH1.out.drew.get j (by omega)).1]; rfl) (fun j hj => by rw [Nat.zero_add]; exact (HH1.out.drew.get j (by omega)).2) (by intro v hv; simp [byts] at hv; obtain ⟨x, _, rfl⟩ := hv; rfl)
  have HH2 : Hid _ := HH1.out.drew.put A 0 (by omega)
  have HB2 : Hid (Below wc.heap.size wc (w1.drew.setCells wc.heap.size 0 (byts A))) := below_setCells (Nat.le_refl _) _ _ _ HB1.out.drew
  have HCL2 : Hid (∀ j, j < 2 * n → (w1.drew.setCells wc.heap.size 0 (byts A)).cell? ⟨wc.heap.size + 1, j, none⟩ = some (.int .u8 ((twoN gs).getD j 0 : Nat))) := fun j hj => by
    rw [World.cell?_setCells_out wc.heap.size _ 0 _ _ (fun e _ => by simp at e)]
    exact HCL.out j hj
  generalize w1.drew.setCells wc.heap.size 0 (byts A) = W2 at hcp HH2 HB2 HCL2
  rw [hbl] at hcp
  clear HCL HH1 HB1 HAJ hbl hadd
  go_region
  go_wp2_with fail
  clear hcp
  have hl16 : (16 : Int) - 2 * (n : Int) = 16 - 2 * (n : Int) := rfl
  have hw1 : IntKind.i64.wrap (16 - 2 * (n : Int)) = 16 - 2 * (n : Int) := by rw [IntKind.wrap_i64]; omega
  have hw2 : IntKind.i64.wrap (16 - 2 * (n : Int) + 2 * (g : Int)) = 16 - 2 * (n : Int) + 2 * (g : Int) := by rw [IntKind.wrap_i64]; omega
  obtain ⟨d, hd⟩ : ∃ d : Nat, d = 16 - 2 * n + 2 * g := ⟨_, rfl⟩
  have hs6 := slice16_from wc.heap.size d (by omega)
  rw [show (d : Int) = 16 - 2 * (n : Int) + 2 * (g : Int) by omega] at hs6
  obtain ⟨B, hB⟩ : ∃ B, B = (twoN gs).drop (2 * g) := ⟨_, rfl⟩
  have hBl : B.length = 2 * n - 2 * g := by rw [hB, List.length_drop, twoN_length, ← HN.out]
  have HBJ : Hid (∀ j (hj : j < B.length), W2.cell? ⟨wc.heap.size + 1, 2 * g + j, none⟩ = some (.int .u8 (B[j] : Nat))) := fun j hj => by
    rw [HCL2.out (2 * g + j) (by omega)]; congr 3; subst hB; rw [List.getElem_drop]; simp [List.getD, show 2 * g + j < (twoN gs).length by rw [twoN_length, ← HN.out]; omega]
  have HFL : Hid ((gs.take g).flatMap two ++ List.replicate (16 - 2 * gs.length) 0 ++ (gs.drop g).flatMap two = (A ++ List.replicate (16 - 2 * n) 0 ++ B).map UInt8.ofNat) := by
    unfold Hid
    rw [List.map_append, List.map_append, List.map_replicate, HA.out, hB, ← twoN_map, ← twoN_map, ← twoN_take, ← twoN_drop, ← HN.out]; rfl
  have HBY : Hid (∀ m ∈ A ++ List.replicate (16 - 2 * n) 0 ++ B, m ≤ 255) := fun m hm => by
    have h2 := twoN_le HGS.out
    rcases List.mem_append.1 hm with hm | hm
    · rcases List.mem_append.1 hm with hm | hm
      · rw [HA.out] at hm; exact h2 m (List.mem_of_mem_take hm)
      · rw [List.eq_of_mem_replicate hm]; omega
    · rw [hB] at hm; exact h2 m (List.mem_of_mem_drop hm)
  have HLEN : Hid ((A ++ List.replicate (16 - 2 * n) 0 ++ B).length = 16) := by unfold Hid; rw [List.length_append, List.length_append, List.length_replicate, hAl, hBl]; omega
  have HV : Hid (layV gs (some g) = some ((A ++ List.replicate (16 - 2 * n) 0 ++ B).map UInt8.ofNat)) := by unfold Hid; rw [← HFL.out]; rfl
  have HD : Hid (d = 16 - 2 * n + 2 * g) := hd
  obtain ⟨R, hR⟩ : ∃ R, R = (A ++ List.replicate (16 - 2 * n) 0 ++ B).map UInt8.ofNat := ⟨_, rfl⟩
  rw [← hR] at HV
  by_cases hgn : g = n
  · have hnn : 2 * n - 2 * g = 0 := by omega
    rw [if_pos (show d = 16 by omega), show 16 - d = 0 by omega] at hs6
    have hcp : (Builtin.copy_ #[22, 22] 3 #[.slice (some ⟨wc.heap.size, 0, none⟩) 0 0, .slice (some ⟨wc.heap.size + 1, 0, none⟩) 0 0]).run Tryd.prog W2.drew = .ok (goInt 0) W2.drew :=
      run_copy_none (P := Tryd.prog) W2.drew 22 22 3 5 _ _ 0 0 0 0 Tryd.underlying22 (by kernel_rfl) rfl
    have hcv := HH2.out.drew.conv (cap := 16) (l := A ++ List.replicate (16 - 2 * n) 0 ++ B) HLEN.out (fun i hi => by
      rw [lay_get]
      by_cases h : i < A.length
      · rw [if_pos (by omega), if_neg (by omega), if_pos h]; rfl
      · rw [if_neg (by omega), if_neg (by omega), if_neg h]) HBY.out
    rw [← hR] at hcv
    have HB3 : Hid (Below wc.heap.size wc W2.drew) := HB2.out.drew
    subst hgn
    clear hB HH2 HB2 HCL2 HBJ hd hnn hR HFL HBY HLEN
    go_region
    go_wp2_with fail
    go_ret2
    exact ⟨readsAs_yes R rfl HV.out, HB3.out⟩
  · rw [if_neg (show ¬ d = 16 by omega), show 16 - d = 2 * n - 2 * g by omega] at hs6
    have hbl : (byts B).length = 2 * n - 2 * g := by simp [byts, hBl]
    have hadd : ∀ j, Addr.add ⟨wc.heap.size + 1, 2 * g, none⟩ j = ⟨wc.heap.size + 1, 2 * g + j, none⟩ := fun j => by simp only [Addr.add]; split <;> simp_all
    have hcp : (Builtin.copy_ #[22, 22] 3 #[.slice (some ⟨wc.heap.size, d, none⟩) (2 * n - 2 * g) (2 * n - 2 * g), .slice (some ⟨wc.heap.size + 1, 2 * g, none⟩) (2 * n - 2 * g) (2 * n - 2 * g)]).run Tryd.prog W2.drew = .ok (goInt (byts B).length) (W2.drew.setCells wc.heap.size d (byts B)) :=
      run_copy_cells (P := Tryd.prog) W2.drew 22 22 3 5 wc.heap.size d (2 * n - 2 * g) (2 * n - 2 * g) ⟨wc.heap.size + 1, 2 * g, none⟩ (2 * n - 2 * g) (2 * n - 2 * g) (byts B) Tryd.underlying22 (by kernel_rfl) (by rw [hbl]; exact (Nat.min_self _).symm)
        (fun j v hv => by
          have hj : j < B.length := by
            by_cases h : j < B.length
            · exact h
            · rw [List.getElem?_eq_none (by rw [hbl]; omega)] at hv; simp at hv
          rw [hadd]
          refine (HBJ.out j hj).trans ?_
          simpa [byts, hj] using hv)
        (fun j hj => by rw [(HH2.out.drew.get (d + j) (by omega)).1]; rfl) (fun j hj => (HH2.out.drew.get (d + j) (by omega)).2) (by intro v hv; simp [byts] at hv; obtain ⟨x, _, rfl⟩ := hv; rfl)
    have HH3 := HH2.out.drew.put B d (by omega)
    have HB3 : Hid (Below wc.heap.size wc (W2.drew.setCells wc.heap.size d (byts B))) := below_setCells (Nat.le_refl _) _ _ _ HB2.out.drew
    have hcv := HH3.conv (cap := 16) (l := A ++ List.replicate (16 - 2 * n) 0 ++ B) HLEN.out (fun i hi => by
      rw [lay_get]
      by_cases h : d ≤ i ∧ i < d + B.length
      · rw [if_pos h, if_pos (by omega), show A.length + (16 - 2 * n) = d by omega]
      · rw [if_neg h]
        by_cases h2 : i < A.length
        · rw [if_pos (by omega), if_neg (by omega), if_pos h2]; rfl
        · rw [if_neg (by omega), if_neg (by omega), if_neg h2]) HBY.out
    rw [← hR] at hcv
    generalize W2.drew.setCells wc.heap.size d (byts B) = W3 at hcp hcv HB3
    rw [hbl] at hcp
    have hne : ¬ 2 * n = 2 * g := by omega
    have hne2 : ¬ n = g := by omega
    clear hB HH3 HH2 HB2 HCL2 HBJ hR HFL HBY HLEN hbl hadd hd
    go_region
    go_wp2_with fail
    go_ret2
    exact ⟨readsAs_yes R rfl HV.out, HB3.out⟩
theorem layV_eight {gs : List Nat} (h : gs.length = 8) : layV gs none = layV gs (some 8) := by
  unfold layV
  simp only []
  rw [if_pos h, List.take_of_length_le (by omega), List.drop_eq_nil_of_le (by omega), h]
  simp

/-- The number of a gap, -1 of none. -/
def gapI : Option Nat → Int
  | none => -1
  | some g => g

theorem implLaySix_any (gs : List Nat) (gap : Option Nat) (v : Value) (w : World) (hl : gs.length ≤ 8) (hg : ∀ g, gap = some g → g ≤ gs.length) (hgs : ∀ n ∈ gs, n ≤ 65535) (base : Nat) (hown : w.ownsRow base 2 1 v gs.length (gs.map fun n : Nat => .int .i64 (n : Int))) :
    Calls Tryd.prog 38 #[v, .int .i64 (gapI gap)] w fun e w' => ReadsAs (layV gs gap) e ∧ Below w.heap.size w w' := by
  cases gap with
  | some g => exact implLay1_any gs v g (g : Int) w hl (hg g rfl) (.inl rfl) hgs base hown
  | none =>
    by_cases h8 : gs.length = 8
    · rw [layV_eight h8]
      exact implLay1_any gs v 8 (-1) w hl (by omega) (.inr ⟨by omega, h8, rfl⟩) hgs base hown
    · have HV : Hid (layV gs none = none) := by unfold Hid layV; simp only []; rw [if_neg h8]
      have hn : ∃ o cap, v = .slice o gs.length cap := by
        rcases hown.2 with ⟨rfl, h⟩ | ⟨b, c, cur, rfl, _⟩
        · exact ⟨none, 0, by rw [h]⟩
        · exact ⟨_, _, rfl⟩
      obtain ⟨vo, vc, rfl⟩ := hn
      have hne : ((gs.length : Int) != 8) = true := by simp; omega
      clear hown hgs h8
      show Calls Tryd.prog 38 #[.slice vo gs.length vc, .int .i64 (-1)] w _
      go_enter Tryd.func38, Tryd.ntmps38
      go_wp2_with fail
      go_ret2
      exact ⟨readsAs_no rfl HV.out, Below.refl _ _⟩

end Go.Proofs.YtebhljogijemoaaDoor
