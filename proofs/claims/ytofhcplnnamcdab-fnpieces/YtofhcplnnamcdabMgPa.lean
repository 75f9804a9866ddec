/- MgPa: IPieceB, IPieceA, IPieces, RowBytes, in one text. -/
import Derived.Test.YtofhcplnnamcdabMgCp
import Derived.Test.YtofhcplnnamcdabMgTo
import Derived.Test.YtofhcplnnamcdabSAdd
import Derived.Maps.OwnSet
import Derived.Deep.DeepCutAuto
import Derived.Great.BuildSlice
import Derived.Deep.AppendLies
import Derived.Test.YtofhcplnnamcdabMgDr

/- IPieceB: what the program's PieceAdd wants: its state, what is left behind a delete. -/
namespace Go.Proofs.Ytofhcplnnamcdab
open Go.RowKit Go.PlainAid
set_option linter.unusedVariables false
set_option linter.unusedSimpArgs false

theorem wpList_delete_run {P : Program} {ops : Array Oper} {rest : List Oper} {o : Oper} {a : Act} {w w' : World} {v1 v2 : Value} {Q : Exit → Act → World → Prop} (hg : o.guard = none) (m x : Operand) (t kt : TypeId) (hop : o.op = Op.call { callee := Callee.builtin Builtin.delete, args := #[m, x], argTypes := #[t, kt] })
    (hs : a.eval m = v1) (hx : a.eval x = v2) (hrun : (Builtin.delete_ #[t, kt] o.type #[v1, v2]).run P w = .ok (.tuple #[]) w') (hK : wpList P ops Q rest (a.put o.dst (.tuple #[])) w') : wpList P ops Q (o :: rest) a w :=
  wpList_plain hg fun K hK' => by
    unfold Oper.wp
    simp [execOp, hop, resolve, invoke, builtin, hs, hx, hrun, Result.andThen]
    exact hK' _ _ hK

theorem hitN_app (xs ys : List Pc) (p : Pc) : ∀ k, k ≤ xs.length → hitN (xs ++ ys) p k = hitN xs p k
  | 0, _ => rfl
  | k + 1, h => by rw [hitN, hitN, hitN_app xs ys p k (by omega), List.getElem?_append_left h]
theorem allN_app (xs ys : List Pc) : ∀ k, k ≤ xs.length → allN (xs ++ ys) k = allN xs k
  | 0, _ => rfl
  | k + 1, h => by
    rw [allN, allN, allN_app xs ys k (by omega), List.getElem?_append_left h, List.getElem?_eq_getElem h]
    show (_ && (pieceOk xs[k] && !hitN (xs ++ ys) xs[k] k)) = _
    rw [hitN_app xs ys _ k (by omega)]
theorem allPc_ok {xs : List Pc} (h : allPc xs = true) : ∀ q ∈ xs, pieceOk q = true := fun q hq => by
  have := allN_take_ok xs.length (Nat.le_refl _) h q
  rw [List.take_of_length_le (Nat.le_refl _)] at this
  exact this hq
theorem allPc_snoc {xs : List Pc} {q : Pc} (h : allPc xs = true) (hq : pieceOk q = true) : allPc (xs ++ [q]) = !(grpPc xs q).any (fun x => clashPc q x) := by
  have hl : (xs ++ [q]).length = xs.length + 1 := by simp
  have hlt : xs.length < (xs ++ [q]).length := by rw [hl]; omega
  have hget : (xs ++ [q])[xs.length] = q := by simp
  have htk : (xs ++ [q]).take xs.length = xs := by simp
  unfold allPc
  rw [hl, allN_grp hlt (by rw [htk]; exact allPc_ok h) (by rw [hget]; exact hq), hget, htk, allN_app xs [q] _ (Nat.le_refl _)]
  rw [show allN xs xs.length = true from h, Bool.true_and]
theorem pieceOk_withS {p : Pc} {s : Int} (h : pieceOk p = true) (hs : isTime s = true) : pieceOk (withS p s) = true := by
  unfold pieceOk at h ⊢
  simp only [Bool.and_eq_true] at h ⊢
  exact ⟨h.1, hs⟩
theorem sincePc_time {xs : List Pc} {p : Pc} {now : Int} (hx : ∀ q ∈ xs, pieceOk q = true) (hn : isTime now = true) : isTime (sincePc xs p now) = true := by
  unfold sincePc
  cases hf : xs.find? (fun q => onePk q p) with
  | none => exact hn
  | some q =>
    have h := hx q (List.mem_of_find?_eq_some hf)
    unfold pieceOk at h
    simp only [Bool.and_eq_true] at h
    exact h.2
theorem grp_withS (xs : List Pc) (p : Pc) (s : Int) : grpPc xs (withS p s) = grpPc xs p := rfl
theorem keyC_withS (p : Pc) (s : Int) : keyC (withS p s) = keyC p := rfl
theorem but_snoc (xs : List Pc) (q : Pc) : butPc (xs ++ [q]) q = butPc xs q := by
  unfold butPc
  rw [List.filter_append]
  simp [onePk_refl]
theorem grp_pair {xs : List Pc} {p : Pc} (h : allPc xs = true) : (grpPc xs p).Pairwise (fun a b => clashPc a b = false) := by
  have h1 := allN_pair xs.length (Nat.le_refl _) h
  rw [List.take_of_length_le (Nat.le_refl _)] at h1
  unfold grpPc
  rw [List.pairwise_filter]
  refine h1.imp ?_
  intro a b hab ha hb
  exact hab (onePk_trans ha ((onePk_comm p b).trans hb))
theorem grp_snoc_ne (xs : List Pc) (q : Pc) : grpPc (xs ++ [q]) q ≠ [] := by
  rw [grp_snoc, if_pos (onePk_refl q)]; simp
theorem piecesOk_all {xs : List Pc} (h : piecesOk xs = true) : allPc xs = true ∧ xs.length ≤ 40 := by
  unfold piecesOk at h; rw [Bool.and_eq_true, decide_eq_true_iff] at h; exact ⟨h.2, h.1⟩
def addW (xs : List Pc) (q : Pc) : Option ByteArray → PcOut
  | some t => ⟨butPc (xs ++ [q]) q, t, true, 0⟩
  | none => ⟨xs ++ [q], ⟨#[]⟩, false, 0⟩
theorem pcSm_ok {p : Pc} (hs : PcSm p) (s : Int) : PcSm (withS p s) := hs

/-- The key's box. -/
def KeyAt (w : World) (B : Nat) (p : Pc) : Prop := w.heap[B]? = some (.cells (keyL p).toArray 68 (0, 0))
section
variable {w W : World} {B : Nat} {p : Pc}
theorem KeyAt.lt (h : KeyAt w B p) : B < w.heap.size := (Array.getElem?_eq_some_iff.1 h).1
theorem KeyAt.cell (h : KeyAt w B p) {j : Nat} {v : Value} (hv : (keyL p)[j]? = some v) : w.cell? ⟨B, j, none⟩ = some v := by
  rw [cell_of_row _ B j (keyL p).toArray _ (0, 0) h]; simpa using hv
theorem KeyAt.below (h : KeyAt w B p) (hb : Below w.heap.size w W) : KeyAt W B p := (hb.block B h.lt).trans h
theorem KeyAt.grown (h : KeyAt w B p) {row : Option Nat} (hg : w.grownBy W row) (hr : some B ≠ row) : KeyAt W B p := (hg.block B h.lt hr).trans h
theorem KeyAt.frm (h : KeyAt w B p) {b base : Nat} (hf : Frm b base 37 w W) (hb : B ≠ b) : KeyAt W B p :=
  (hf.block B h.lt hb (fun _ cs e => by
    rw [show w.heap[B]? = _ from h] at e
    injection e with e
    injection e with _ e2 _
    exact absurd e2 (by decide))).trans h
theorem KeyAt.new (w : World) (p : Pc) : KeyAt (w.alloc (.cells (keyL p).toArray 68)) w.heap.size p := heap_alloc_new w _
end
theorem AddSt.frm {w wr W : World} {q : Pc} {b base : Nat} (h : AddSt w q wr) (hf : Frm b base 37 wr W) (hb : w.heap.size + 1 < b) (hbb : b < base) : AddSt w q W := by
  have hlt := h.lt
  refine ⟨h.p.of_block (hf.block _ (by omega) (by omega) (fun hk => by omega)), h.r.of_block (hf.block _ (by omega) (by omega) (fun hk => by omega)), h.bel.trans (hf.below hbb (m := w.heap.size) (by omega) (by omega))⟩
theorem AddSt.grown {w wr W : World} {q : Pc} {r : Nat} (h : AddSt w q wr) (hg : wr.grownBy W (some r)) (hr : w.heap.size + 1 < r) : AddSt w q W := by
  have hlt := h.lt
  exact ⟨h.p.of_block (hg.block _ (by omega) (by simp; omega)), h.r.of_block (hg.block _ (by omega) (by simp; omega)), below_grown h.bel hg (by omega) h.bel.size⟩
section
variable {base b : Nat} {w W : World} {xs : List Pc}
theorem GrpAt.grown (h : GrpAt base w b xs) {r : Nat} (hg : w.grownBy W (some r)) (hr : r < base) (hb : r ≠ b) : GrpAt base W b xs := by
  obtain ⟨M, V, h⟩ := h
  refine ⟨M, V, h.map.grown hg (by simp; exact fun e => hb e.symm), h.lo, fun q hq => ⟨(h.there q hq).1, (h.there q hq).2.kept hg (.inr (fun e => ?_))⟩, h.no, h.apart⟩
  have := ((h.there q hq).2.lt r e).1
  omega
theorem there_shape {M : Value → Option Value} {V : Pc → Value} (h : GrpOf base w b xs M V) {q : Pc} (hq : grpPc xs q ≠ []) : ∃ a n c, V q = .slice a n c := by
  rcases (h.there q hq).2.2 with ⟨h1, _⟩ | ⟨g, c, cur, h1, _⟩
  · exact ⟨_, _, _, h1⟩
  · exact ⟨_, _, _, h1⟩
theorem grp_of_mem {ys : List Pc} {x : Pc} (h : x ∈ ys) : grpPc ys x ≠ [] := fun e => by
  have : x ∈ grpPc ys x := by simp only [grpPc, List.mem_filter]; exact ⟨h, onePk_refl x⟩
  rw [e] at this; simp at this
/-- All of a list are in the map. -/
theorem left_all {ys : List Pc} (h : GrpAt base w b ys) (hx : ∀ x ∈ xs, x ∈ ys) : ∃ M, MapAt Try.prog 68 w b M ∧ (∀ x ∈ xs, (M (keyC x)).isSome = (fun _ => true) x) ∧ (∀ x ∈ xs, ∀ v, M (keyC x) = some v → ∃ a n c, v = .agg #[.slice a n c]) := by
  obtain ⟨M, V, h⟩ := h
  refine ⟨M, h.map, fun x hm => by rw [(h.there x (grp_of_mem (hx x hm))).1]; rfl, fun x hm v hv => ?_⟩
  have hg := grp_of_mem (hx x hm)
  rw [(h.there x hg).1] at hv
  obtain ⟨a, n, c, e⟩ := there_shape h hg
  exact ⟨a, n, c, by rw [← e]; exact (Option.some.inj hv).symm⟩
/-- All but those of one packet are, once its key is deleted. -/
theorem left_but {ys : List Pc} {q : Pc} (h : GrpAt base w b ys) (hk : KeyIn q) (hx : ∀ x ∈ xs, x ∈ ys) (ty : TypeId) : ∃ W M', (Builtin.delete_ #[63, 68] ty #[.map (some b), keyC q]).run Try.prog w = .ok (.tuple #[]) W ∧ w.grownBy W (some b) ∧ MapAt Try.prog 68 W b M' ∧ (∀ x ∈ xs, (M' (keyC x)).isSome = (fun x => !onePk x q) x) ∧ (∀ x ∈ xs, ∀ v, M' (keyC x) = some v → ∃ a n c, v = .agg #[.slice a n c]) := by
  obtain ⟨M, V, h⟩ := h
  obtain ⟨l, hl⟩ := keyOf_pk q hk
  obtain ⟨W, M', hrun, hm, hn, ho, hg, _⟩ := h.map.del (ty := ty) keyed_pk Try.underlying63 hl
  refine ⟨W, M', hrun, hg, hm, fun x hxm => ?_, fun x hxm v hv => ?_⟩
  · by_cases hq : onePk x q = true
    · rw [keyC_eq.2 hq, hn]; simp [hq]
    · rw [ho (keyC x) (fun e => hq (keyC_eq.1 e)), (h.there x (grp_of_mem (hx x hxm))).1]
      simp [hq]
  · by_cases hq : onePk x q = true
    · rw [keyC_eq.2 hq, hn] at hv; simp at hv
    · have hgx := grp_of_mem (hx x hxm)
      rw [ho (keyC x) (fun e => hq (keyC_eq.1 e)), (h.there x hgx).1] at hv
      obtain ⟨a, n, c, e⟩ := there_shape h hgx
      exact ⟨a, n, c, by rw [← e]; exact (Option.some.inj hv).symm⟩
/-- What lies at a piece's key. -/
theorem look_grp {ys : List Pc} (h : GrpAt base w b ys) {q : Pc} (hk : KeyIn q) : ∃ a c, (Instr.lookup 63 (.map (some b)) (keyC q) false).run Try.prog w = .ok (.agg #[.slice a (grpPc ys q).length c]) w ∧ SlIs pcL 8 w a (grpPc ys q) := by
  obtain ⟨M, V, h⟩ := h
  have hRow : Row pcL 8 base 37 (thereV ys V q) (grpPc ys q) w w := ⟨h.own q, Below.refl _ _⟩
  obtain ⟨a, c, hv, _, hso⟩ := hRow.shape pcL_length
  have h1 := (h.look hk).1
  rw [hv] at h1
  exact ⟨a, c, h1, hso.is⟩
end
end Go.Proofs.Ytofhcplnnamcdab

/- IPieceA: what the program's PieceAdd answers. -/
namespace Go.Proofs.Ytofhcplnnamcdab
open Go.RowKit Go.PlainAid
set_option linter.unusedVariables false
set_option linter.unusedSimpArgs false

set_option maxRecDepth 100000 in
set_option maxHeartbeats 1500000 in
theorem implPieceAdd_any (xs : List Pc) (p : Pc) (now : Int) (b off cap : Nat) (w : World) (hin : PcsIn xs) (hp : PcSm p) (hb : b < w.heap.size) (hr : SlAt pcL 8 w b off xs) :
    Calls Try.prog 11 #[.slice (some ⟨b, off, none⟩) xs.length cap, pcC p, .int .i64 now] w (AddRet w (addPc xs p now)) := by
  have hlen := hin.1
  have HAT : Hid (SlAt pcL 8 w b off xs) := hr
  have HIN : Hid (PcsIn xs) := hin
  have HSM : Hid (PcSm p) := hp
  have HIS : Hid (∀ W, Below w.heap.size w W → SlIs pcL 8 W (some ⟨b, off, none⟩) xs) := fun W hW => .inr ⟨b, off, rfl, Nat.lt_of_lt_of_le hb hW.size, hr.below hb hW⟩
  have H0 : Hid (AddSt w p ((w.alloc (.cells (pcL p).toArray 37)).alloc (.cells outZ.toArray 34))) := AddSt.new w p
  have hun : undef = Value.tuple #[] := rfl
  rw [show (pcL p).toArray = #[.string p.src, .string p.dst, .int .i64 p.proto, .int .i64 p.id, .int .i64 p.off, .bool p.more, .string p.data, .int .i64 p.since] from rfl, show outZ.toArray = #[.slice none 0 0, .string ⟨#[]⟩, .bool false, .int .i64 0] from rfl] at H0
  clear hin hp hr
  unfold pcC
  by_cases h4 : 400 < xs.length
  · have HX : Hid (addPc xs p now = ⟨[], ⟨#[]⟩, false, 2⟩) := by unfold Hid addPc; rw [if_pos h4]
    rw [HX.out]
    clear HX
    go_enter Try.func11, Try.ntmps11
    go_wp2_with fail
    refine bodyPost_ret (v := .agg #[.slice none 0 0, .string ⟨#[]⟩, .bool false, .int .i64 2]) (by simp [results, Try.results11, go_sem]) rfl ⟨none, 0, rfl, Nat.le_refl _, .inl rfl, ?_⟩
    exact ((Below.refl _ _).alloc (Nat.le_refl _) _).alloc (by simp) _
  · have HD : Hid (addPc xs p now = if addIn xs p now = false then ⟨[], ⟨#[]⟩, false, 1⟩ else addV xs (withS p (sincePc xs p now))) := by unfold Hid addPc; rw [if_neg h4]
    have HAI : Hid (addIn xs p now = (piecesOk xs && pieceOk p && isTime now)) := rfl
    have HGA : Hid (∀ W, Below w.heap.size w W → Calls Try.prog 35 #[.slice (some ⟨b, off, none⟩) xs.length cap] W (GatherPost W xs)) := fun W hW => implGather_any xs _ cap W HIN.out (HIS.out W hW)
    have HA2 : Hid (∀ W, Calls Try.prog 36 #[pcC p] W fun e w' => e = .returned (.bool (pieceOk p)) ∧ Below W.heap.size W w') := fun W => implPieceRight_any p W HSM.out.1 HSM.out.2.1 HSM.out.2.2
    have HA3 : Hid (∀ W, Calls Try.prog 37 #[.int .i64 now] W fun e w' => e = .returned (.bool (isTime now)) ∧ w' = W) := fun W => implTime_any now W
    generalize hans : addPc xs p now = ans
    have HD2 : Hid (ans = if addIn xs p now = false then ⟨[], ⟨#[]⟩, false, 1⟩ else addV xs (withS p (sincePc xs p now))) := by unfold Hid; rw [← hans]; exact HD.out
    clear hans HD
    unfold pcC at HA2
    go_enter Try.func11, Try.ntmps11
    go_upto_region 3 with fail
    have hW1 := H0.out.lt
    have hWe : ((w.alloc (.cells #[.string p.src, .string p.dst, .int .i64 p.proto, .int .i64 p.id, .int .i64 p.off, .bool p.more, .string p.data, .int .i64 p.since] 37)).alloc (.cells #[.slice none 0 0, .string ⟨#[]⟩, .bool false, .int .i64 0] 34)).heap.size = w.heap.size + 2 := by simp
    generalize (w.alloc (.cells #[.string p.src, .string p.dst, .int .i64 p.proto, .int .i64 p.id, .int .i64 p.off, .bool p.more, .string p.data, .int .i64 p.since] 37)).alloc (.cells #[.slice none 0 0, .string ⟨#[]⟩, .bool false, .int .i64 0] 34) = W0 at *
    have HWE : Hid (W0.heap.size = w.heap.size + 2) := hWe
    clear hWe
    go_wp2_with fail
    refine (HGA.out _ H0.out.bel).mono ?_
    rintro e w1 ⟨b1, ⟨hok, rfl⟩ | ⟨hok, rfl, hga, hsz⟩⟩
    · have HX : Hid (ans = ⟨[], ⟨#[]⟩, false, 1⟩) := by unfold Hid; rw [HD2.out, HAI.out, hok]; rfl
      have S1 : Hid (AddSt w p w1) := H0.out.kept b1
      clear b1 hok HD2 HAI HA2 HA3 HGA
      have z0 : w1.cell? ⟨w.heap.size + 1, 0, none⟩ = some (.slice none 0 0) := S1.out.r.cell rfl
      have zf0 := S1.out.r.free (j := 0) (by simp [outZ])
      have z1 : w1.cell? ⟨w.heap.size + 1, 1, none⟩ = some (.string ⟨#[]⟩) := S1.out.r.cell rfl
      have zf1 := S1.out.r.free (j := 1) (by simp [outZ])
      have z2 : w1.cell? ⟨w.heap.size + 1, 2, none⟩ = some (.bool false) := S1.out.r.cell rfl
      have zf2 := S1.out.r.free (j := 2) (by simp [outZ])
      have z3 : w1.cell? ⟨w.heap.size + 1, 3, none⟩ = some (.int .i64 0) := S1.out.r.cell rfl
      have zf3 := S1.out.r.free (j := 3) (by simp [outZ])
      go_wp2_with fail
      refine bodyPost_ret (v := .agg #[.slice none 0 0, .string ⟨#[]⟩, .bool false, .int .i64 1]) (by simp [results, Try.results11, go_sem, z0, z1, z2, z3]) rfl ?_
      rw [HX.out]
      have hst := S1.out.store (base := w1.heap.size) (a := none) (o := ⟨[], ⟨#[]⟩, false, 1⟩) (by have := S1.out.lt; omega) (.inl rfl) (.slice none 0 0) (.string ⟨#[]⟩) (.bool false) (.int .i64 1)
      exact ⟨none, 0, rfl, Nat.le_refl _, hst.1, hst.2⟩
    · have S1 : Hid (AddSt w p w1) := H0.out.kept b1
      have HG1 : Hid (GrpAt (W0.heap.size + 1) w1 W0.heap.size xs) := hga
      have HOK : Hid (piecesOk xs = true) := hok
      clear b1 hok hga H0 HGA
      generalize hbm : W0.heap.size = bm at *
      have HBM : Hid (bm = w.heap.size + 2) := HWE.out
      clear hbm HWE
      -- BEGIN
      have hbm2 : w.heap.size + 1 < bm := by have := HBM.out; omega
      obtain ⟨k0, k1, k2, k3, k4, k5, k6, k7⟩ := cells8 S1.out.p
      go_wp2_with fail
      refine (HA2.out _).mono ?_
      rintro e w2 ⟨rfl, b2⟩
      have S2 : Hid (AddSt w p w2) := S1.out.kept b2
      have HG2 : Hid (GrpAt (bm + 1) w2 bm xs) := HG1.out.kept b2
      have hsz2 : bm + 1 ≤ w2.heap.size := Nat.le_trans hsz b2.size
      clear b2 k0 k1 k2 k3 k4 k5 k6 k7 S1 HG1 HA2
      generalize hpk : pieceOk p = pk at *
      have HPK : Hid (pieceOk p = pk) := hpk
      clear hpk
      cases pk with
      | false =>
        have HX : Hid (ans = ⟨[], ⟨#[]⟩, false, 1⟩) := by unfold Hid; rw [HD2.out, HAI.out]; simp
        clear HD2 HAI HA3
        have z0 : w2.cell? ⟨w.heap.size + 1, 0, none⟩ = some (.slice none 0 0) := S2.out.r.cell rfl
        have zf0 := S2.out.r.free (j := 0) (by simp [outZ])
        have z1 : w2.cell? ⟨w.heap.size + 1, 1, none⟩ = some (.string ⟨#[]⟩) := S2.out.r.cell rfl
        have zf1 := S2.out.r.free (j := 1) (by simp [outZ])
        have z2 : w2.cell? ⟨w.heap.size + 1, 2, none⟩ = some (.bool false) := S2.out.r.cell rfl
        have zf2 := S2.out.r.free (j := 2) (by simp [outZ])
        have z3 : w2.cell? ⟨w.heap.size + 1, 3, none⟩ = some (.int .i64 0) := S2.out.r.cell rfl
        have zf3 := S2.out.r.free (j := 3) (by simp [outZ])
        go_wp2_with fail
        refine bodyPost_ret (v := .agg #[.slice none 0 0, .string ⟨#[]⟩, .bool false, .int .i64 1]) (by simp [results, Try.results11, go_sem, z0, z1, z2, z3]) rfl ?_
        rw [HX.out]
        have hst := S2.out.store (base := w2.heap.size) (a := none) (o := ⟨[], ⟨#[]⟩, false, 1⟩) (by have := S2.out.lt; omega) (.inl rfl) (.slice none 0 0) (.string ⟨#[]⟩) (.bool false) (.int .i64 1)
        exact ⟨none, 0, rfl, Nat.le_refl _, hst.1, hst.2⟩
      | true =>
      generalize htm : isTime now = tm at *
      have HTM : Hid (isTime now = tm) := htm
      clear htm
      cases tm with
      | false =>
        have HX : Hid (ans = ⟨[], ⟨#[]⟩, false, 1⟩) := by unfold Hid; rw [HD2.out, HAI.out]; simp
        clear HD2 HAI
        go_wp2_with fail
        refine (HA3.out _).mono ?_
        rintro e w3 ⟨rfl, hw3⟩
        rw [hw3]
        clear hw3
        have z0 : w2.cell? ⟨w.heap.size + 1, 0, none⟩ = some (.slice none 0 0) := S2.out.r.cell rfl
        have zf0 := S2.out.r.free (j := 0) (by simp [outZ])
        have z1 : w2.cell? ⟨w.heap.size + 1, 1, none⟩ = some (.string ⟨#[]⟩) := S2.out.r.cell rfl
        have zf1 := S2.out.r.free (j := 1) (by simp [outZ])
        have z2 : w2.cell? ⟨w.heap.size + 1, 2, none⟩ = some (.bool false) := S2.out.r.cell rfl
        have zf2 := S2.out.r.free (j := 2) (by simp [outZ])
        have z3 : w2.cell? ⟨w.heap.size + 1, 3, none⟩ = some (.int .i64 0) := S2.out.r.cell rfl
        have zf3 := S2.out.r.free (j := 3) (by simp [outZ])
        go_wp2_with fail
        refine bodyPost_ret (v := .agg #[.slice none 0 0, .string ⟨#[]⟩, .bool false, .int .i64 1]) (by simp [results, Try.results11, go_sem, z0, z1, z2, z3]) rfl ?_
        rw [HX.out]
        have hst := S2.out.store (base := w2.heap.size) (a := none) (o := ⟨[], ⟨#[]⟩, false, 1⟩) (by have := S2.out.lt; omega) (.inl rfl) (.slice none 0 0) (.string ⟨#[]⟩) (.bool false) (.int .i64 1)
        exact ⟨none, 0, rfl, Nat.le_refl _, hst.1, hst.2⟩
      | true =>
      have HD3 : Hid (ans = addV xs (withS p (sincePc xs p now))) := by unfold Hid; rw [HD2.out, HAI.out, HOK.out]; rfl
      have HALL : Hid (allPc xs = true ∧ xs.length ≤ 40) := piecesOk_all HOK.out
      have h40 : xs.length ≤ 40 := HALL.out.2
      have HXO : Hid (∀ x ∈ xs, pieceOk x = true) := allPc_ok HALL.out.1
      have HKI : Hid (KeyIn p) := keyIn_ok HSM.out HPK.out
      have HKX : Hid (∀ x ∈ xs, KeyIn x) := fun x hx => keyIn_ok (HIN.out.2 x hx) (HXO.out x hx)
      have HQO : Hid (pieceOk (withS p (sincePc xs p now)) = true) := pieceOk_withS HPK.out (sincePc_time HXO.out HTM.out)
      have HKO : Hid (∀ W, Calls Try.prog 38 #[pcC p] W fun e w' => e = .returned (keyC p) ∧ Below W.heap.size W w') := fun W => implKey_any p W
      have HSI : Hid (∀ W a7 c7, SlIs pcL 8 W a7 (grpPc xs p) → Calls Try.prog 39 #[.agg #[.slice a7 (grpPc xs p).length c7], .int .i64 now] W fun e w' => e = .returned (.int .i64 (sincePc xs p now)) ∧ Below W.heap.size W w') := fun W a7 c7 h => by rw [← since_grp]; exact implSince_any (grpPc xs p) a7 c7 now W (by have := grp_len xs p; omega) h
      obtain ⟨s, hs⟩ : ∃ s, s = sincePc xs p now := ⟨_, rfl⟩
      rw [← hs] at HD3 HQO HSI
      clear hs HD2 HAI HTM HPK HOK
      unfold pcC at HKO
      go_wp2_with fail
      refine (HA3.out _).mono ?_
      rintro e w3 ⟨rfl, hw3⟩
      rw [hw3]
      clear hw3 HA3
      obtain ⟨k0, k1, k2, k3, k4, k5, k6, k7⟩ := cells8 S2.out.p
      go_wp2_with fail
      refine (HKO.out _).mono ?_
      rintro e w4 ⟨rfl, b4⟩
      have S4 : Hid (AddSt w p w4) := S2.out.kept b4
      have HG4 : Hid (GrpAt (bm + 1) w4 bm xs) := HG2.out.kept b4
      have hsz4 : bm + 1 ≤ w4.heap.size := Nat.le_trans hsz2 b4.size
      clear b4 k0 k1 k2 k3 k4 k5 k6 k7 S2 HG2 HKO hsz2
      unfold keyC
      go_upto_region 7 with fail
      have K5 : KeyAt (w4.alloc (.cells (keyL p).toArray 68)) w4.heap.size p := KeyAt.new w4 p
      have B5 : Below w4.heap.size w4 (w4.alloc (.cells (keyL p).toArray 68)) := (Below.refl _ _).alloc (Nat.le_refl _) _
      rw [show (keyL p).toArray = #[.string p.src, .string p.dst, .int .i64 p.proto, .int .i64 p.id] from rfl] at K5 B5
      generalize w4.alloc (.cells #[.string p.src, .string p.dst, .int .i64 p.proto, .int .i64 p.id] 68) = W5 at *
      have S5 : Hid (AddSt w p W5) := S4.out.kept B5
      have HG5 : Hid (GrpAt (bm + 1) W5 bm xs) := HG4.out.kept B5
      have HK5 : Hid (KeyAt W5 w4.heap.size p) := K5
      have hsz5 : bm + 1 ≤ W5.heap.size := Nat.le_trans hsz4 B5.size
      have hB9 : bm < w4.heap.size := by omega
      generalize w4.heap.size = B9 at *
      clear K5 B5 S4 HG4 hsz4
      obtain ⟨a7, c7, LK, hsl⟩ := look_grp HG5.out HKI.out
      have HSI2 : Hid _ := HSI.out W5 a7 c7 hsl
      unfold keyC at LK
      generalize (grpPc xs p).length = n7 at *
      have n0 : W5.cell? ⟨B9, 0, none⟩ = some (.string p.src) := HK5.out.cell rfl
      have n1 : W5.cell? ⟨B9, 1, none⟩ = some (.string p.dst) := HK5.out.cell rfl
      have n2 : W5.cell? ⟨B9, 2, none⟩ = some (.int .i64 p.proto) := HK5.out.cell rfl
      have n3 : W5.cell? ⟨B9, 3, none⟩ = some (.int .i64 p.id) := HK5.out.cell rfl
      clear hsl HSI
      go_wp2_with (at_lookup; refine wpList_lookup_run rfl _ _ _ _ rfl rfl rfl LK ?_)
      refine Calls.mono HSI2.out ?_
      rintro e w6 ⟨rfl, b6⟩
      have S6 : Hid (AddSt w p w6) := S5.out.kept b6
      have HG6 : Hid (GrpAt (bm + 1) w6 bm xs) := HG5.out.kept b6
      have HK6 : Hid (KeyAt w6 B9 p) := HK5.out.below b6
      have hsz6 : bm + 1 ≤ w6.heap.size := Nat.le_trans hsz5 b6.size
      clear b6 n0 n1 n2 n3 LK HSI2 S5 HG5 HK5 hsz5
      have y7 : w6.frozen? ⟨w.heap.size, 7, none⟩ = false := S6.out.p.free (j := 7) (by simp [pcL])
      have c7' : w6.cell? ⟨w.heap.size, 7, none⟩ = some (.int .i64 p.since) := S6.out.p.cell rfl
      go_upto_region 8 with fail
      have hgs : w6.grownBy (w6.setCell ⟨w.heap.size, 7, none⟩ (.int .i64 s)) (some w.heap.size) := grown_set (World.grownBy.refl _ _) _
      have S7 : Hid (AddSt w (withS p s) (w6.setCell ⟨w.heap.size, 7, none⟩ (.int .i64 s))) := S6.out.set s
      have HG7 : Hid (GrpAt (bm + 1) (w6.setCell ⟨w.heap.size, 7, none⟩ (.int .i64 s)) bm xs) := HG6.out.grown hgs (by omega) (by omega)
      have HK7 : Hid (KeyAt (w6.setCell ⟨w.heap.size, 7, none⟩ (.int .i64 s)) B9 p) := HK6.out.grown hgs (by simp; omega)
      have hsz7 : bm + 1 ≤ (w6.setCell ⟨w.heap.size, 7, none⟩ (.int .i64 s)).heap.size := Nat.le_trans hsz6 hgs.size
      generalize w6.setCell ⟨w.heap.size, 7, none⟩ (.int .i64 s) = W7 at *
      clear hgs y7 c7' S6 HG6 HK6 hsz6
      have HQS : Hid (PcSm (withS p s)) := HSM.out
      have HAD : Hid (Calls Try.prog 40 #[.map (some bm), pcC (withS p s)] W7 (AddPost (bm + 1) bm W7 xs (withS p s))) := implAdd_any xs (withS p s) bm (bm + 1) W7 HG7.out hsz7 (by omega) HQO.out HQS.out HXO.out
      have HSN : Hid (allPc (xs ++ [withS p s]) = !(grpPc xs (withS p s)).any (fun x => clashPc (withS p s) x)) := allPc_snoc HALL.out.1 HQO.out
      have HKC : Hid (keyC (withS p s) = keyC p) := rfl
      have HBU : Hid (xs.filter (fun x => !onePk x p) = butPc xs (withS p s)) := rfl
      have HQK : Hid (KeyIn (withS p s)) := HKI.out
      obtain ⟨q, hq⟩ : ∃ q, q = withS p s := ⟨_, rfl⟩
      rw [← hq] at HD3 HQO S7 HQS HAD HSN HKC HBU HQK
      clear hq
      have HBE : Hid (∀ W, AddSt w q W → SlIs pcL 8 W (some ⟨b, off, none⟩) xs) := fun W h => HIS.out W h.bel
      have HAV : Hid (addV xs q = if allPc (xs ++ [q]) = false then ⟨butPc xs q, ⟨#[]⟩, false, 10⟩ else if 40 ≤ xs.length then ⟨xs, ⟨#[]⟩, false, 9⟩ else addW xs q (wholePc (xs ++ [q]) q)) := by unfold Hid addV addW; cases wholePc (xs ++ [q]) q <;> rfl
      obtain ⟨k0, k1, k2, k3, k4, k5, k6, k7⟩ := cells8 S7.out.p
      unfold pcC at HAD
      go_wp2_with fail
      refine Calls.mono HAD.out ?_
      rintro e w8 ⟨rfl, hga8, hfr8⟩
      have S8 : Hid (AddSt w q w8) := S7.out.frm hfr8 hbm2 (by omega)
      have HK8 : Hid (KeyAt w8 B9 p) := HK7.out.frm hfr8 (by omega)
      have HG8 : Hid _ := hga8
      have hsz8 : bm + 1 ≤ w8.heap.size := Nat.le_trans hsz7 hfr8.size
      clear hga8 hfr8 k0 k1 k2 k3 k4 k5 k6 k7 S7 HG7 HK7 HAD hsz7
      generalize (grpPc xs q).any (fun x => clashPc q x) = cl at *
      have n0 : w8.cell? ⟨B9, 0, none⟩ = some (.string p.src) := HK8.out.cell rfl
      have n1 : w8.cell? ⟨B9, 1, none⟩ = some (.string p.dst) := HK8.out.cell rfl
      have n2 : w8.cell? ⟨B9, 2, none⟩ = some (.int .i64 p.proto) := HK8.out.cell rfl
      have n3 : w8.cell? ⟨B9, 3, none⟩ = some (.int .i64 p.id) := HK8.out.cell rfl
      cases cl with
      | true =>
        have HX : Hid (ans = ⟨butPc xs q, ⟨#[]⟩, false, 10⟩) := by unfold Hid; rw [HD3.out, HAV.out, HSN.out]; rfl
        have HG9 : GrpAt (bm + 1) w8 bm xs := by have := HG8.out; rwa [if_pos rfl] at this
        obtain ⟨W9, M9, hdel, hg9, hm9, hD9, hsh9⟩ := left_but (xs := xs) HG9 HKI.out (fun x h => h) 0
        have S9 : Hid (AddSt w q W9) := S8.out.grown hg9 hbm2
        have HLE : Hid _ := implLeft_any xs _ cap bm M9 _ W9 HIN.out (HBE.out W9 S9.out) hm9 HKX.out hD9 hsh9
        unfold keyC at hdel
        clear HG9 hg9 hm9 hD9 hsh9 HD3 HAV HSN HG8
        go_wp2_with (at_delete; refine wpList_delete_run rfl _ _ _ _ rfl rfl rfl hdel ?_)
        refine Calls.mono HLE.out ?_
        rintro e w10 ⟨v, rfl, hrow⟩
        obtain ⟨a3, cap3, rfl, hc3, ho3⟩ := hrow.shape pcL_length
        have S10 : Hid (AddSt w q w10) := S9.out.kept hrow.bel
        rw [HBU.out] at ho3 hc3 ⊢
        have HO3 : Hid (SlOwn pcL 8 W9.heap.size w10 a3 (butPc xs q)) := ho3
        have hs9 : w.heap.size + 2 ≤ W9.heap.size := by have := S9.out.lt; omega
        clear hrow ho3 HLE hdel n0 n1 n2 n3
        have z0 : w10.cell? ⟨w.heap.size + 1, 0, none⟩ = some (.slice none 0 0) := S10.out.r.cell rfl
        have zf0 := S10.out.r.free (j := 0) (by simp [outZ])
        have z1 : w10.cell? ⟨w.heap.size + 1, 1, none⟩ = some (.string ⟨#[]⟩) := S10.out.r.cell rfl
        have zf1 := S10.out.r.free (j := 1) (by simp [outZ])
        have z2 : w10.cell? ⟨w.heap.size + 1, 2, none⟩ = some (.bool false) := S10.out.r.cell rfl
        have zf2 := S10.out.r.free (j := 2) (by simp [outZ])
        have z3 : w10.cell? ⟨w.heap.size + 1, 3, none⟩ = some (.int .i64 0) := S10.out.r.cell rfl
        have zf3 := S10.out.r.free (j := 3) (by simp [outZ])
        go_wp2_with fail
        refine bodyPost_ret (v := .agg #[.slice a3 (butPc xs q).length cap3, .string ⟨#[]⟩, .bool false, .int .i64 10]) (by simp [results, Try.results11, go_sem, z0, z1, z2, z3]) rfl ?_
        rw [HX.out]
        have hst := S10.out.store (base := W9.heap.size) (a := a3) (o := ⟨butPc xs q, ⟨#[]⟩, false, 10⟩) (hs9) (HO3.out) (.slice a3 (butPc xs q).length cap3) (.string ⟨#[]⟩) (.bool false) (.int .i64 10)
        exact ⟨a3, cap3, rfl, hc3, hst.1, hst.2⟩
      | false =>
        have HG9 : Hid (GrpAt (bm + 1) w8 bm (xs ++ [q])) := by have := HG8.out; rw [if_neg (by simp)] at this; exact this
        have HAL : Hid (allPc (xs ++ [q]) = true) := by unfold Hid; rw [HSN.out]; rfl
        have HAV2 : Hid (addV xs q = if 40 ≤ xs.length then ⟨xs, ⟨#[]⟩, false, 9⟩ else addW xs q (wholePc (xs ++ [q]) q)) := by unfold Hid; rw [HAV.out, HAL.out]; rfl
        clear HG8 HSN HAV
        obtain ⟨M11, hm11, hD11, hsh11⟩ := left_all (xs := xs) HG9.out (fun x h => by simp [h])
        have HLA : Hid (∀ W, Below w8.heap.size w8 W → Calls Try.prog 41 #[.map (some bm), .slice (some ⟨b, off, none⟩) xs.length cap] W (RowRet W xs)) := fun W hW => by
          have h := implLeft_any xs (some ⟨b, off, none⟩) cap bm M11 _ W HIN.out (HBE.out W (S8.out.kept hW)) (hm11.below hW) HKX.out hD11 hsh11
          rwa [show xs.filter (fun _ => true) = xs by simp] at h
        clear hm11 hD11 hsh11
        by_cases he : xs.length = 40
        · have d40 : ((xs.length : Int) == 40) = true := by simp; omega
          have HX : Hid (ans = ⟨xs, ⟨#[]⟩, false, 9⟩) := by unfold Hid; rw [HD3.out, HAV2.out, if_pos (by omega)]
          clear HD3 HAV2 HAL HG9 n0 n1 n2 n3 he
          go_wp2_with fail
          refine (HLA.out _ (Below.refl _ _)).mono ?_
          rintro e w10 ⟨v, rfl, hrow⟩
          obtain ⟨a3, cap3, rfl, hc3, ho3⟩ := hrow.shape pcL_length
          have S10 : Hid (AddSt w q w10) := S8.out.kept hrow.bel
          have HO3 : Hid (SlOwn pcL 8 w8.heap.size w10 a3 xs) := ho3
          have hs9 : w.heap.size + 2 ≤ w8.heap.size := by have := S8.out.lt; omega
          clear hrow ho3 HLA
          have z0 : w10.cell? ⟨w.heap.size + 1, 0, none⟩ = some (.slice none 0 0) := S10.out.r.cell rfl
          have zf0 := S10.out.r.free (j := 0) (by simp [outZ])
          have z1 : w10.cell? ⟨w.heap.size + 1, 1, none⟩ = some (.string ⟨#[]⟩) := S10.out.r.cell rfl
          have zf1 := S10.out.r.free (j := 1) (by simp [outZ])
          have z2 : w10.cell? ⟨w.heap.size + 1, 2, none⟩ = some (.bool false) := S10.out.r.cell rfl
          have zf2 := S10.out.r.free (j := 2) (by simp [outZ])
          have z3 : w10.cell? ⟨w.heap.size + 1, 3, none⟩ = some (.int .i64 0) := S10.out.r.cell rfl
          have zf3 := S10.out.r.free (j := 3) (by simp [outZ])
          go_wp2_with fail
          refine bodyPost_ret (v := .agg #[.slice a3 xs.length cap3, .string ⟨#[]⟩, .bool false, .int .i64 9]) (by simp [results, Try.results11, go_sem, z0, z1, z2, z3]) rfl ?_
          rw [HX.out]
          have hst := S10.out.store (base := w8.heap.size) (a := a3) (o := ⟨xs, ⟨#[]⟩, false, 9⟩) (hs9) (HO3.out) (.slice a3 xs.length cap3) (.string ⟨#[]⟩) (.bool false) (.int .i64 9)
          exact ⟨a3, cap3, rfl, hc3, hst.1, hst.2⟩
        · have d40 : ((xs.length : Int) == 40) = false := by simp; omega
          obtain ⟨a13, c13, LK, hsl⟩ := look_grp HG9.out HQK.out
          rw [HKC.out] at LK
          unfold keyC at LK
          have HTG : Hid (Calls Try.prog 42 #[.agg #[.slice a13 (grpPc (xs ++ [q]) q).length c13]] w8 (TogRet w8 (wholePc (xs ++ [q]) q))) := by
            have hgl := grp_len (xs ++ [q]) q
            have hxl : (xs ++ [q]).length = xs.length + 1 := by simp
            have hok2 : ∀ x ∈ xs ++ [q], pieceOk x = true := allPc_ok HAL.out
            refine (implTog_any (grpPc (xs ++ [q]) q) a13 c13 w8 (by omega) (grp_snoc_ne xs q) hsl (fun x hx => hok2 x (grp_mem hx).1) (grp_pair HAL.out)).mono ?_
            rintro e w' ⟨ss, hpm, hir, hret⟩
            rw [whole_tog hpm hir (fun x hx => ?_) (by rw [hpm.length_eq]; omega)]
            · exact hret
            · have := pcOk_in (hok2 x (grp_mem (hpm.mem_iff.1 hx)).1)
              omega
          have HB1 : Hid (butPc (xs ++ [q]) q = butPc xs q) := but_snoc xs q
          generalize (grpPc (xs ++ [q]) q).length = n13 at *
          generalize hwo : wholePc (xs ++ [q]) q = wo at *
          have HD4 : Hid (ans = addW xs q wo) := by unfold Hid; rw [HD3.out, HAV2.out, if_neg (by omega)]
          clear hwo hsl HD3 HAV2 HAL he
          go_wp2_with (at_lookup; refine wpList_lookup_run rfl _ _ _ _ rfl rfl rfl LK ?_)
          refine Calls.mono HTG.out ?_
          rintro e w13 ⟨rfl, b13⟩
          have S13 : Hid (AddSt w q w13) := S8.out.kept b13
          have HK13 : Hid (KeyAt w13 B9 p) := HK8.out.below b13
          have HG13 : Hid (GrpAt (bm + 1) w13 bm (xs ++ [q])) := HG9.out.kept b13
          have hsz13 : bm + 1 ≤ w13.heap.size := Nat.le_trans hsz8 b13.size
          have HLA13 : Hid (∀ W, Below w13.heap.size w13 W → Calls Try.prog 41 #[.map (some bm), .slice (some ⟨b, off, none⟩) xs.length cap] W (RowRet W xs)) := fun W hW => HLA.out W (b13.trans (hW.mono b13.size))
          clear b13 LK HTG n0 n1 n2 n3 S8 HK8 HG9 HLA hsz8
          have n0 : w13.cell? ⟨B9, 0, none⟩ = some (.string p.src) := HK13.out.cell rfl
          have n1 : w13.cell? ⟨B9, 1, none⟩ = some (.string p.dst) := HK13.out.cell rfl
          have n2 : w13.cell? ⟨B9, 2, none⟩ = some (.int .i64 p.proto) := HK13.out.cell rfl
          have n3 : w13.cell? ⟨B9, 3, none⟩ = some (.int .i64 p.id) := HK13.out.cell rfl
          cases wo with
          | some t =>
            have HX : Hid (ans = ⟨butPc xs q, t, true, 0⟩) := by unfold Hid; rw [HD4.out, ← HB1.out]; rfl
            rw [show (some t).getD ⟨#[]⟩ = t from rfl, show (some t).isSome = true from rfl]
            obtain ⟨W9, M9, hdel, hg9, hm9, hD9, hsh9⟩ := left_but (xs := xs) HG13.out HKI.out (fun x h => by simp [h]) 0
            have S9 : Hid (AddSt w q W9) := S13.out.grown hg9 hbm2
            have HLE : Hid _ := implLeft_any xs _ cap bm M9 _ W9 HIN.out (HBE.out W9 S9.out) hm9 HKX.out hD9 hsh9
            unfold keyC at hdel
            clear hg9 hm9 hD9 hsh9 HD4
            go_wp2_with (at_delete; refine wpList_delete_run rfl _ _ _ _ rfl rfl rfl hdel ?_)
            refine Calls.mono HLE.out ?_
            rintro e w10 ⟨v, rfl, hrow⟩
            obtain ⟨a3, cap3, rfl, hc3, ho3⟩ := hrow.shape pcL_length
            have S10 : Hid (AddSt w q w10) := S9.out.kept hrow.bel
            rw [HBU.out] at ho3 hc3 ⊢
            have HO3 : Hid (SlOwn pcL 8 W9.heap.size w10 a3 (butPc xs q)) := ho3
            have hs9 : w.heap.size + 2 ≤ W9.heap.size := by have := S9.out.lt; omega
            clear hrow ho3 HLE hdel n0 n1 n2 n3
            have z0 : w10.cell? ⟨w.heap.size + 1, 0, none⟩ = some (.slice none 0 0) := S10.out.r.cell rfl
            have zf0 := S10.out.r.free (j := 0) (by simp [outZ])
            have z1 : w10.cell? ⟨w.heap.size + 1, 1, none⟩ = some (.string ⟨#[]⟩) := S10.out.r.cell rfl
            have zf1 := S10.out.r.free (j := 1) (by simp [outZ])
            have z2 : w10.cell? ⟨w.heap.size + 1, 2, none⟩ = some (.bool false) := S10.out.r.cell rfl
            have zf2 := S10.out.r.free (j := 2) (by simp [outZ])
            have z3 : w10.cell? ⟨w.heap.size + 1, 3, none⟩ = some (.int .i64 0) := S10.out.r.cell rfl
            have zf3 := S10.out.r.free (j := 3) (by simp [outZ])
            go_wp2_with fail
            refine bodyPost_ret (v := .agg #[.slice a3 (butPc xs q).length cap3, .string t, .bool true, .int .i64 0]) (by simp [results, Try.results11, go_sem, z0, z1, z2, z3]) rfl ?_
            rw [HX.out]
            have hst := S10.out.store (base := W9.heap.size) (a := a3) (o := ⟨butPc xs q, t, true, 0⟩) (hs9) (HO3.out) (.slice a3 (butPc xs q).length cap3) (.string t) (.bool true) (.int .i64 0)
            exact ⟨a3, cap3, rfl, hc3, hst.1, hst.2⟩
          | none =>
            have HX : Hid (ans = ⟨xs ++ [q], ⟨#[]⟩, false, 0⟩) := by unfold Hid; rw [HD4.out]; rfl
            rw [show (none : Option ByteArray).getD ⟨#[]⟩ = ⟨#[]⟩ from rfl, show (none : Option ByteArray).isSome = false from rfl]
            have HCP : Hid (∀ W, Calls Try.prog 43 #[pcC q] W fun e w' => e = .returned (pcC q) ∧ Below W.heap.size W w') := fun W => implCopy_any q W HQS.out
            obtain ⟨i0, hi, hz0, hz1, hz2⟩ := info_parts Try.infoPt
            clear n0 n1 n2 n3 HD4
            unfold pcC at HCP
            go_upto_region 17 with fail
            go_cut [80] (fun v wx => ∃ a3 cap3, HoldsL wx (w.heap.size + 1) [.slice a3 (xs ++ [q]).length cap3, .string ⟨#[]⟩, .bool false, .int .i64 0] ∧ (xs ++ [q]).length ≤ cap3 ∧ SlOwn pcL 8 w.heap.size wx a3 (xs ++ [q]) ∧ Below w.heap.size w wx)
            case first =>
              rename_i J K2 hJ hK2
              clear hun
              refine wp_region_growV [74, 75, 76, 77, 78, 79] (by kernel_rfl) (by kernel_rfl) ?_
              refine GChV.val (n := 0) (fun v => [IsV v]) (fun _ => rfl) rfl ?_
              apply Exists.intro
              refine And.intro ?_ ?_
              · intro K' a wy ho hd hb hK
                rw [if_pos (wanted_none rfl)]
                have o7 := ho 7 (by decide)
                simp [slot] at o7
                clear hd ho
                go_simp
                try go_bits
                exact hK _ _ rfl (Below.refl _ _)
              refine GChV.val (n := 1) (fun v => [_, IsV v]) (fun _ => rfl) rfl ?_
              apply Exists.intro
              refine And.intro ?_ ?_
              · intro K' a wy ho hd hb hK
                rw [if_pos (wanted_none rfl)]
                have o0 := ho 0 (by decide)
                simp [slot] at o0
                clear hd ho
                go_simp
                try go_bits
                exact hK _ _ rfl (Below.refl _ _)
              refine GChV.rel (n := 2) (IsRws w13.drew.heap.size 37 xs) (stable_isRws _ _ _) [_, _, IsRws w13.drew.heap.size 37 xs] rfl rfl ?_ ?_
              · intro K' a wy ho hd hb hK
                rw [if_pos (wanted_none rfl)]
                have q0 := hd ⟨0, .data⟩ (by simp) rfl
                simp [rAt, IsV, slot] at q0
                have q1 := hd ⟨1, .data⟩ (by simp) rfl
                simp [rAt, IsV, slot] at q1
                clear hd ho
                go_simp
                refine (HLA13.out wy ((Below.refl _ w13).drew.trans hb)).mono ?_
                rintro e wz ⟨v, rfl, hrow⟩
                exact hK _ _ (hrow.down (w0 := wy) (Below.refl _ _) hb.size).own (hrow.bel.mono (Nat.le_refl _))
              refine GChV.val (n := 3) (fun v => [_, _, _, IsV v]) (fun _ => rfl) rfl ?_
              apply Exists.intro
              refine And.intro ?_ ?_
              · intro K' a wy ho hd hb hK
                rw [if_pos (wanted_none rfl)]
                have o4 := ho 4 (by decide)
                simp [slot] at o4
                clear hd ho
                obtain ⟨k0, k1, k2, k3, k4, k5, k6, k7⟩ := cells8 ((S13.out.kept ((Below.refl _ w13).drew.trans hb)).p)
                go_simp
                try go_bits
                exact hK _ _ rfl (Below.refl _ _)
              refine GChV.val (n := 4) (fun v => [_, _, _, _, IsV v]) (fun _ => rfl) rfl ?_
              apply Exists.intro
              refine And.intro ?_ ?_
              · intro K' a wy ho hd hb hK
                rw [if_pos (wanted_none rfl)]
                have q3 := hd ⟨3, .data⟩ (by simp) rfl
                simp [rAt, IsV, slot] at q3
                clear hd ho
                go_simp
                refine (HCP.out wy).mono ?_
                rintro e wz ⟨rfl, hz⟩
                exact hK _ _ rfl hz
              refine GChV.rel (n := 5) (IsOneP q) (stable_isOneP _) [_, _, _, _, _, IsOneP q] rfl rfl ?_ ?_
              · intro K' a wy ho hd hb hK
                rw [if_pos (wanted_none rfl)]
                have q4 := hd ⟨4, .data⟩ (by simp) rfl
                simp [rAt, IsV, slot] at q4
                clear hd ho
                go_simp
                exact hK _ _ ⟨wy.heap.size, rfl, news8 wy q _⟩ ((Below.refl _ _).alloc (Nat.le_refl _) _)
              intro X wz hR hz
              obtain ⟨x0, x1, x2, x3, x4, x5, -⟩ := hR
              have hk2 := x2
              clear hk2
              have hk5 := x5
              clear hk5
              simp only [IsV] at x0 x1 x3 x4
              simp only [putsFrom, x0, x1, putsFrom, x3, x4, putsFrom]
              clear x0 x1 x3 x4
              obtain ⟨g5, e5, r5⟩ := x5
              have S14 : Hid (AddSt w q wz) := S13.out.kept ((Below.refl _ w13).drew.trans hz)
              obtain ⟨v6, w6, hrun, h62, h63, h64, h65⟩ := run_append_own_at (P := Try.prog) wz w13.drew.heap.size 30 30 37 i0 _ 8 88 Try.underlying30 hi hz0 hz1 hz2 rfl (by decide) (X 2) xs.length (flatS pcL xs) x2 ⟨g5, 0, none⟩ 1 1 (pcL q) rfl r5 (pcL_one q) (by unfold maxLen; omega) (by omega) hz.size
              have hrow : Row pcL 8 w13.heap.size 37 v6 (xs ++ [q]) w13 w6 := row_last hz x2 h62 h63
              obtain ⟨a3, cap3, rfl, hc3, ho3⟩ := hrow.shape pcL_length
              have S15 : Hid (AddSt w q w6) := S13.out.kept hrow.bel
              have HO3 : Hid (SlOwn pcL 8 w13.heap.size w6 a3 (xs ++ [q])) := ho3
              have hs13 : w.heap.size + 2 ≤ w13.heap.size := by have := S13.out.lt; omega
              simp only [e5]
              generalize X 2 = v2 at *
              clear e5 x2 r5 h62 h63 h64 h65 hrow ho3
              have z0 : w6.cell? ⟨w.heap.size + 1, 0, none⟩ = some (.slice none 0 0) := S15.out.r.cell rfl
              have zf0 := S15.out.r.free (j := 0) (by simp [outZ])
              have z1 : w6.cell? ⟨w.heap.size + 1, 1, none⟩ = some (.string ⟨#[]⟩) := S15.out.r.cell rfl
              have zf1 := S15.out.r.free (j := 1) (by simp [outZ])
              have z2 : w6.cell? ⟨w.heap.size + 1, 2, none⟩ = some (.bool false) := S15.out.r.cell rfl
              have zf2 := S15.out.r.free (j := 2) (by simp [outZ])
              have z3 : w6.cell? ⟨w.heap.size + 1, 3, none⟩ = some (.int .i64 0) := S15.out.r.cell rfl
              have zf3 := S15.out.r.free (j := 3) (by simp [outZ])
              intro K5 hK5
              refine wp_append_run (.tmp 76) (.tmp 79) _ rfl ?_ ?_ hrun (hK5 _ _ ?_)
              · simp [Act.eval, putsFrom, Act.put]
              · simp [Act.eval, putsFrom, Act.put]
              intro K6 hK6
              go_simp
              refine hK6 _ _ ?_
              intro K7 hK7
              go_simp
              refine hK7 _ _ ?_
              show Exit.then _ _ _ _ _
              refine hK2 _ _ (hJ _ _ ?_)
              (repeat apply Exists.intro)
              refine ⟨⟨a3, cap3, ?_, hc3, ?_⟩, rfl⟩
              · rw [show (xs ++ [q]).length = xs.length + 1 by simp]
                exact (((S15.out.r.set 0 _).set 1 _).set 2 _).set 3 _
              exact S15.out.store (base := w13.heap.size) (a := a3) (o := ⟨xs ++ [q], ⟨#[]⟩, false, 0⟩) hs13 HO3.out _ _ _ _
            case rest =>
              obtain ⟨a3, cap3, hH, hc3, ho3, hbl⟩ := hcut
              have z0 : wc.cell? ⟨w.heap.size + 1, 0, none⟩ = some (.slice a3 (xs ++ [q]).length cap3) := hH.cell rfl
              have z1 : wc.cell? ⟨w.heap.size + 1, 1, none⟩ = some (.string ⟨#[]⟩) := hH.cell rfl
              have z2 : wc.cell? ⟨w.heap.size + 1, 2, none⟩ = some (.bool false) := hH.cell rfl
              have z3 : wc.cell? ⟨w.heap.size + 1, 3, none⟩ = some (.int .i64 0) := hH.cell rfl
              have HO3 : Hid (SlOwn pcL 8 w.heap.size wc a3 (xs ++ [q])) := ho3
              have HBL : Hid (Below w.heap.size w wc) := hbl
              clear hH ho3 hbl
              go_wp2_with fail
              refine bodyPost_ret (v := .agg #[.slice a3 (xs ++ [q]).length cap3, .string ⟨#[]⟩, .bool false, .int .i64 0]) (by simp [results, Try.results11, go_sem, z0, z1, z2, z3]) rfl ?_
              rw [HX.out]
              exact ⟨a3, cap3, rfl, hc3, HO3.out, HBL.out⟩
end Go.Proofs.Ytofhcplnnamcdab

/- IPieces: what the program's PieceTick answers (and, by IGather, PiecesRight). -/
namespace Go.Proofs.Ytofhcplnnamcdab
open Go.RowKit Go.PlainAid
set_option linter.unusedVariables false
set_option linter.unusedSimpArgs false

theorem tick_400 (xs : List Pc) (now : Int) : tickPc xs now = if (piecesOk xs && isTime now) = true then xs.filter (fun q => decide (now < q.since + 30)) else [] := by
  unfold tickPc
  cases h : piecesOk xs with
  | false => simp
  | true =>
    have h4 : xs.length ≤ 400 := by
      unfold piecesOk at h
      rw [Bool.and_eq_true, decide_eq_true_iff] at h; omega
    rw [decide_eq_true h4]; rfl
theorem box_one (w : World) (q : Pc) {t : TypeId} : Below w.heap.size w (w.alloc (.cells #[.string q.src, .string q.dst, .int .i64 q.proto, .int .i64 q.id, .int .i64 q.off, .bool q.more, .string q.data, .int .i64 q.since] t)) := (Below.refl _ _).alloc (Nat.le_refl _) _

set_option maxRecDepth 100000 in
set_option maxHeartbeats 1000000 in
theorem implPieceTick_any (xs : List Pc) (a : Option Addr) (cap : Nat) (now : Int) (w : World) (hin : PcsIn xs) (hr : SlIs pcL 8 w a xs) :
    Calls Try.prog 17 #[.slice a xs.length cap, .int .i64 now] w (SlRet pcL 8 w (tickPc xs now)) := by
  have hlen := hin.1
  have HIN : Hid (PcsIn xs) := hin
  have HA : Hid (∀ W, Below w.heap.size w W → Calls Try.prog 14 #[.slice a xs.length cap] W fun e w' => e = .returned (.bool (piecesOk xs)) ∧ Below W.heap.size W w') := fun W hW => implPiecesRight_any xs a cap W hin (hr.below hW)
  have HT : Hid (∀ W, Calls Try.prog 37 #[.int .i64 now] W fun e w' => e = .returned (.bool (isTime now)) ∧ w' = W) := fun W => implTime_any now W
  have HR : Hid (SlIs pcL 8 w a xs) := hr
  have HOK : Hid (piecesOk xs = true → ∀ i (h : i < xs.length), pieceOk xs[i] = true) := fun h i hi => by
    unfold piecesOk at h
    rw [Bool.and_eq_true] at h
    exact allN_ok h.2 i hi hi
  have HV : Hid (tickPc xs now = if (piecesOk xs && isTime now) = true then xs.filter (fun q => decide (now < q.since + 30)) else []) := tick_400 xs now
  have HTM : Hid (isTime now = true → 0 ≤ now ∧ now ≤ 1000000000) := fun h => isIn_parts h
  generalize tickPc xs now = ys at *
  generalize piecesOk xs = ok at *
  generalize isTime now = tm at *
  have hun : undef = Value.tuple #[] := rfl
  obtain ⟨i0, hi, hz0, hz1, hz2⟩ := info_parts Try.infoPt
  clear hin hr
  cases ok with
  | false =>
    have HY : Hid (ys = []) := by unfold Hid; rw [HV.out]; simp
    rw [HY.out]
    go_enter Try.func17, Try.ntmps17
    go_wp2_with fail
    refine (HA.out _ (Below.refl _ _)).mono ?_
    rintro e w1 ⟨rfl, q1⟩
    have HQ : Hid (Below w.heap.size w w1) := q1
    clear q1
    go_wp2_with fail
    go_ret
    exact SlRet.nil rfl HQ.out
  | true =>
  cases tm with
  | false =>
    have HY : Hid (ys = []) := by unfold Hid; rw [HV.out]; simp
    rw [HY.out]
    go_enter Try.func17, Try.ntmps17
    go_wp2_with fail
    refine (HA.out _ (Below.refl _ _)).mono ?_
    rintro e w1 ⟨rfl, q1⟩
    have HQ : Hid (Below w.heap.size w w1) := q1
    clear q1
    go_wp2_with fail
    refine (HT.out _).mono ?_
    rintro e w2 ⟨rfl, rfl⟩
    go_wp2_with fail
    go_ret
    exact SlRet.nil rfl HQ.out
  | true =>
    have HY : Hid (ys = xs.filter (fun q => decide (now < q.since + 30))) := by unfold Hid; rw [HV.out]; rfl
    have htm := HTM.out rfl
    have HOK2 : Hid (∀ i (h : i < xs.length), pieceOk xs[i] = true) := HOK.out rfl
    clear HV HOK HTM
    go_enter Try.func17, Try.ntmps17
    go_wp2_with fail
    refine (HA.out _ (Below.refl _ _)).mono ?_
    rintro e w1 ⟨rfl, q1⟩
    have H1 : Hid (Row pcL 8 w.heap.size 37 (.slice none 0 0) [] w w1) := ⟨World.ownsRow_nil _ _ _ _, q1⟩
    clear q1
    go_wp2_with fail
    refine (HT.out _).mono ?_
    rintro e w2 ⟨rfl, rfl⟩
    go_wp2_with fail
    go_loopw [5, 18] (fun v iv wr => ∃ i : Nat, i ≤ xs.length ∧ iv = .int .i64 i ∧ Row pcL 8 w.heap.size 37 v ((xs.take i).filter (fun q => decide (now < q.since + 30))) w wr) (fun _ iv _ => xs.length - (intOf iv).toNat)
    case atStart => exact ⟨0, Nat.zero_le _, rfl, by simpa using H1.out⟩
    case round =>
      obtain ⟨i, hil, rfl, hrow⟩ := hrel
      have HW : Hid (Row pcL 8 w.heap.size 37 u5 ((xs.take i).filter (fun q => decide (now < q.since + 30))) w wr) := hrow
      have hsz : w.heap.size ≤ wr.heap.size := hrow.bel.size
      clear hrow H1
      by_cases hlt : i < xs.length
      · obtain ⟨b, off, rfl, hb, hat⟩ := HR.out.at hlt
        have hA := (hat.below hb HW.out.bel) i hlt
        have hok := HOK2.out i hlt
        have hft := filter_take (fun q : Pc => decide (now < q.since + 30)) xs i hlt
        have hfl := filter_le (fun q : Pc => decide (now < q.since + 30)) xs i
        have HCP : Hid (∀ W, Calls Try.prog 43 #[pcC xs[i]] W fun e w' => e = .returned (pcC xs[i]) ∧ Below W.heap.size W w') := fun W => implCopy_any xs[i] W (HIN.out.2 _ (List.getElem_mem hlt))
        obtain ⟨q, hq⟩ : ∃ q, q = xs[i] := ⟨_, rfl⟩
        rw [← hq] at hA hok hft HCP
        have HFT : Hid _ := hft
        have hsn : 0 ≤ q.since ∧ q.since ≤ 1000000000 := by have := pcOk_in hok; omega
        have c0 : wr.cell? ⟨b, off + i * 8, none⟩ = some (.string q.src) := hA 0 _ rfl
        have c1 : wr.cell? ⟨b, off + i * 8 + 1, none⟩ = some (.string q.dst) := hA 1 _ rfl
        have c2 : wr.cell? ⟨b, off + i * 8 + 2, none⟩ = some (.int .i64 q.proto) := hA 2 _ rfl
        have c3 : wr.cell? ⟨b, off + i * 8 + 3, none⟩ = some (.int .i64 q.id) := hA 3 _ rfl
        have c4 : wr.cell? ⟨b, off + i * 8 + 4, none⟩ = some (.int .i64 q.off) := hA 4 _ rfl
        have c5 : wr.cell? ⟨b, off + i * 8 + 5, none⟩ = some (.bool q.more) := hA 5 _ rfl
        have c6 : wr.cell? ⟨b, off + i * 8 + 6, none⟩ = some (.string q.data) := hA 6 _ rfl
        have c7 : wr.cell? ⟨b, off + i * 8 + 7, none⟩ = some (.int .i64 q.since) := hA 7 _ rfl
        clear hq hA hat hok hft
        have HBX : Hid (Below wr.heap.size wr (wr.alloc (.cells #[.string q.src, .string q.dst, .int .i64 q.proto, .int .i64 q.id, .int .i64 q.off, .bool q.more, .string q.data, .int .i64 q.since] 37))) := box_one wr q
        unfold pcC at HCP
        by_cases hp : now < q.since + 30
        · have HF2 : Hid ((xs.take (i + 1)).filter (fun q => decide (now < q.since + 30)) = (xs.take i).filter (fun q => decide (now < q.since + 30)) ++ [q]) := by unfold Hid; rw [HFT.out, if_pos (by simpa using hp)]
          generalize (xs.take i).filter (fun q => decide (now < q.since + 30)) = zs at *
          go_wp2_with fail
          refine (HCP.out _).mono ?_
          rintro e w3 ⟨rfl, b3⟩
          have HW3 : Hid (Row pcL 8 w.heap.size 37 u5 zs w w3) := HW.out.kept (HBX.out.trans (b3.mono (by simp))) hsz
          have hown := HW3.out.own
          have hsz3 : w.heap.size ≤ w3.heap.size := HW3.out.bel.size
          clear b3 c0 c1 c2 c3 c4 c5 c6 c7 HBX
          go_wp2_with (at_builtin; refine wpList_append_own _ rfl (.tmp 27) (.tmp 30) 30 rfl w.heap.size 37 i0 (.agg #[.string ⟨#[]⟩, .string ⟨#[]⟩, .int .i64 0, .int .i64 0, .int .i64 0, .bool false, .string ⟨#[]⟩, .int .i64 0]) 8 88 Try.underlying30 hi hz0 hz1 hz2 rfl (by decide) _ _ _ rfl (hown.alloc _) ⟨w3.heap.size, 0, none⟩ 1 1 (pcL q) rfl rfl (news8 w3 q _) (pcL_one q) (by unfold maxLen; omega) (by omega) (by simp; omega) ?_)
          intro v' w12 hown2 hgrow hnil
          have R : Hid (Row pcL 8 w.heap.size 37 v' (zs ++ [q]) w w12) := HW3.out.append hsz3 hown2 hgrow
          clear hown2 hgrow hnil hown
          go_wp2_with fail
          go_roundw
          case rel => exact ⟨i + 1, by omega, by go_num, by rw [HF2.out]; exact R.out⟩
          case measure => simp [intOf]; omega
        · have HF2 : Hid ((xs.take (i + 1)).filter (fun q => decide (now < q.since + 30)) = (xs.take i).filter (fun q => decide (now < q.since + 30))) := by unfold Hid; rw [HFT.out, if_neg (by simpa using hp)]
          generalize (xs.take i).filter (fun q => decide (now < q.since + 30)) = zs at *
          have HW3 : Hid _ := HW.out.kept HBX.out hsz
          go_wp2_with fail
          go_roundw
          case rel => exact ⟨i + 1, by omega, by go_num, by rw [HF2.out]; exact HW3.out⟩
          case measure => simp [intOf]; omega
      · have hie : i = xs.length := by omega
        have HE : Hid (Row pcL 8 w.heap.size 37 u5 ys w wr) := by
          have h := HW.out
          rw [hie, List.take_of_length_le (Nat.le_refl _), ← HY.out] at h
          exact h
        go_wp2_with fail
        go_ret
        exact SlRet.row pcL_length HE.out
end Go.Proofs.Ytofhcplnnamcdab

/- A slice of bytes that came in, as the form's reading gives it. -/
namespace Go.Proofs.Ytofhcplnnamcdab
open Go.RowKit

/-- A slice of bytes that came in, as the form's reading gives it. -/
theorem bytes_of_row {w : World} {a : Option Addr} {len cap : Nat} {zs : List Int}
    (h : (a = none ∧ len = 0 ∧ cap = 0 ∧ zs = []) ∨ ∃ x, a = some x ∧ len ≤ cap ∧ cap ≤ maxLen ∧ zs.length = cap ∧ (∀ i, i < zs.length → w.cell? (x.add i) = some (.int .u8 (zs.getD i 0))) ∧ ∀ n ∈ zs, (Lit.int .u8 n).wf = true) :
    Bytes w a len w.heap.size := by
  refine ⟨fun i hi => ?_⟩
  rcases h with ⟨_, h0, _⟩ | ⟨⟨b, off, spot⟩, rfl, hl, _, hz, hc, hw⟩
  · omega
  · have hci := hc i (by omega)
    have hsp : spot = none := by
      have := hc 0 (by omega)
      simpa [Addr.add] using World.cell?_spot this
    subst hsp
    have hwf := hw (zs.getD i 0) (by rw [List.getD, List.getElem?_eq_getElem (by omega)]; exact List.getElem_mem _)
    have hbd : 0 ≤ zs.getD i 0 ∧ zs.getD i 0 ≤ 255 := by simpa [Lit.wf, IntKind.min, IntKind.max, IntKind.signed, IntKind.bits] using hwf
    have hci' : w.cell? ⟨b, off + i, none⟩ = some (.int .u8 (zs.getD i 0)) := by
      have e : Addr.add ⟨b, off, none⟩ i = ⟨b, off + i, none⟩ := by simp only [Addr.add]; split <;> simp_all
      rw [← e]; exact hci
    exact ⟨b, off, rfl, World.block_lt_of_cell? w _ hci', zs.getD i 0, hbd.1, hbd.2, hci'⟩

end Go.Proofs.Ytofhcplnnamcdab
