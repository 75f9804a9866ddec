/- MgPc: PcSame, PcMath, PcRight, in one text. -/
import Derived.Test.YtofhcplnnamcdabPieces
import Derived.Test.YtofhcplnnamcdabChecked
import Derived.Laws.StructEq

/- PcSame: pieces compared as wholes. Printed by mksame7.py. -/
namespace Go.Proofs.Ytofhcplnnamcdab
open Go.RowKit
set_option linter.unusedVariables false
set_option linter.unusedSimpArgs false

theorem tl_eq7 (a b : ByteArray) : (a.toList == b.toList) = decide (a = b) := by
  by_cases h : a = b
  · subst h; simp
  · rw [decide_eq_false h]
    have : a.toList ≠ b.toList := fun e => h (by
      rw [ByteArray.toList_eq, ByteArray.toList_eq] at e
      apply ByteArray.ext
      exact Array.toList_inj.1 e)
    simpa using this


def samePc (q p : Pc) : Bool := (q.src.toList == p.src.toList) && ((q.dst.toList == p.dst.toList) && ((q.proto == p.proto) && ((q.id == p.id) && ((q.off == p.off) && ((q.more == p.more) && ((q.data.toList == p.data.toList) && ((q.since == p.since))))))))
theorem samePc_iff (q p : Pc) : samePc q p = true ↔ q = p := by
  unfold samePc
  simp only [tl_eq7, Bool.and_eq_true, beq_iff_eq, decide_eq_true_iff]
  constructor
  · intro h
    obtain ⟨h0, h1, h2, h3, h4, h5, h6, h7⟩ := h
    cases q; cases p; simp_all
  · rintro rfl; simp
set_option maxRecDepth 10000 in
set_option maxHeartbeats 1000000 in
theorem eqPcB_run (D : Nat) (q p : Pc) (W : World) : (Op.equalIn (D + 2) 37 (.agg #[.string q.src, .string q.dst, .int .i64 q.proto, .int .i64 q.id, .int .i64 q.off, .bool q.more, .string q.data, .int .i64 q.since]) (.agg #[.string p.src, .string p.dst, .int .i64 p.proto, .int .i64 p.id, .int .i64 p.off, .bool p.more, .string p.data, .int .i64 p.since])).run Try.prog W = .ok (samePc q p) W := by
  have h1 : Try.prog.underlying 37 = some (.struct (Try.prog.fieldsOf 37)) := by kernel_rfl
  have h2 : Try.prog.stoodInHeld 37 = false := by kernel_rfl
  rw [run_equalIn_agg _ _ _ _ _ h1 h2]
  have h3 : (Try.prog.fieldsOf 37).toList.length = 8 := by kernel_rfl
  have h4 : ((Try.prog.fieldsOf 37).toList.map fun f => (f.type, f.offset, f.name == "_")) = [(9, 0, false), (9, 1, false), (2, 2, false), (2, 3, false), (2, 4, false), (4, 5, false), (9, 6, false), (2, 7, false)] := by kernel_rfl
  generalize (Try.prog.fieldsOf 37).toList = fs at *
  match fs, h3 with
  | [f0, f1, f2, f3, f4, f5, f6, f7], _ =>
    simp only [List.map_cons, List.map_nil, List.cons.injEq, Prod.mk.injEq, and_true] at h4
    obtain ⟨⟨a0, b0, c0⟩, ⟨a1, b1, c1⟩, ⟨a2, b2, c2⟩, ⟨a3, b3, c3⟩, ⟨a4, b4, c4⟩, ⟨a5, b5, c5⟩, ⟨a6, b6, c6⟩, ⟨a7, b7, c7⟩⟩ := h4

    have d0 : (f0.name ≠ "_") = True := by simpa using c0

    have q0 : ∀ W, (part 9 #[.string q.src, .string q.dst, .int .i64 q.proto, .int .i64 q.id, .int .i64 q.off, .bool q.more, .string q.data, .int .i64 q.since] 0).run Try.prog W = .ok (.string q.src) W := fun W => by kernel_rfl

    have p0 : ∀ W, (part 9 #[.string p.src, .string p.dst, .int .i64 p.proto, .int .i64 p.id, .int .i64 p.off, .bool p.more, .string p.data, .int .i64 p.since] 0).run Try.prog W = .ok (.string p.src) W := fun W => by kernel_rfl

    have d1 : (f1.name ≠ "_") = True := by simpa using c1

    have q1 : ∀ W, (part 9 #[.string q.src, .string q.dst, .int .i64 q.proto, .int .i64 q.id, .int .i64 q.off, .bool q.more, .string q.data, .int .i64 q.since] 1).run Try.prog W = .ok (.string q.dst) W := fun W => by kernel_rfl

    have p1 : ∀ W, (part 9 #[.string p.src, .string p.dst, .int .i64 p.proto, .int .i64 p.id, .int .i64 p.off, .bool p.more, .string p.data, .int .i64 p.since] 1).run Try.prog W = .ok (.string p.dst) W := fun W => by kernel_rfl

    have d2 : (f2.name ≠ "_") = True := by simpa using c2

    have q2 : ∀ W, (part 2 #[.string q.src, .string q.dst, .int .i64 q.proto, .int .i64 q.id, .int .i64 q.off, .bool q.more, .string q.data, .int .i64 q.since] 2).run Try.prog W = .ok (.int .i64 q.proto) W := fun W => by kernel_rfl

    have p2 : ∀ W, (part 2 #[.string p.src, .string p.dst, .int .i64 p.proto, .int .i64 p.id, .int .i64 p.off, .bool p.more, .string p.data, .int .i64 p.since] 2).run Try.prog W = .ok (.int .i64 p.proto) W := fun W => by kernel_rfl

    have d3 : (f3.name ≠ "_") = True := by simpa using c3

    have q3 : ∀ W, (part 2 #[.string q.src, .string q.dst, .int .i64 q.proto, .int .i64 q.id, .int .i64 q.off, .bool q.more, .string q.data, .int .i64 q.since] 3).run Try.prog W = .ok (.int .i64 q.id) W := fun W => by kernel_rfl

    have p3 : ∀ W, (part 2 #[.string p.src, .string p.dst, .int .i64 p.proto, .int .i64 p.id, .int .i64 p.off, .bool p.more, .string p.data, .int .i64 p.since] 3).run Try.prog W = .ok (.int .i64 p.id) W := fun W => by kernel_rfl

    have d4 : (f4.name ≠ "_") = True := by simpa using c4

    have q4 : ∀ W, (part 2 #[.string q.src, .string q.dst, .int .i64 q.proto, .int .i64 q.id, .int .i64 q.off, .bool q.more, .string q.data, .int .i64 q.since] 4).run Try.prog W = .ok (.int .i64 q.off) W := fun W => by kernel_rfl

    have p4 : ∀ W, (part 2 #[.string p.src, .string p.dst, .int .i64 p.proto, .int .i64 p.id, .int .i64 p.off, .bool p.more, .string p.data, .int .i64 p.since] 4).run Try.prog W = .ok (.int .i64 p.off) W := fun W => by kernel_rfl

    have d5 : (f5.name ≠ "_") = True := by simpa using c5

    have q5 : ∀ W, (part 4 #[.string q.src, .string q.dst, .int .i64 q.proto, .int .i64 q.id, .int .i64 q.off, .bool q.more, .string q.data, .int .i64 q.since] 5).run Try.prog W = .ok (.bool q.more) W := fun W => by kernel_rfl

    have p5 : ∀ W, (part 4 #[.string p.src, .string p.dst, .int .i64 p.proto, .int .i64 p.id, .int .i64 p.off, .bool p.more, .string p.data, .int .i64 p.since] 5).run Try.prog W = .ok (.bool p.more) W := fun W => by kernel_rfl

    have d6 : (f6.name ≠ "_") = True := by simpa using c6

    have q6 : ∀ W, (part 9 #[.string q.src, .string q.dst, .int .i64 q.proto, .int .i64 q.id, .int .i64 q.off, .bool q.more, .string q.data, .int .i64 q.since] 6).run Try.prog W = .ok (.string q.data) W := fun W => by kernel_rfl

    have p6 : ∀ W, (part 9 #[.string p.src, .string p.dst, .int .i64 p.proto, .int .i64 p.id, .int .i64 p.off, .bool p.more, .string p.data, .int .i64 p.since] 6).run Try.prog W = .ok (.string p.data) W := fun W => by kernel_rfl

    have d7 : (f7.name ≠ "_") = True := by simpa using c7

    have q7 : ∀ W, (part 2 #[.string q.src, .string q.dst, .int .i64 q.proto, .int .i64 q.id, .int .i64 q.off, .bool q.more, .string q.data, .int .i64 q.since] 7).run Try.prog W = .ok (.int .i64 q.since) W := fun W => by kernel_rfl

    have p7 : ∀ W, (part 2 #[.string p.src, .string p.dst, .int .i64 p.proto, .int .i64 p.id, .int .i64 p.off, .bool p.more, .string p.data, .int .i64 p.since] 7).run Try.prog W = .ok (.int .i64 p.since) W := fun W => by kernel_rfl

    unfold samePc
    simp only [Op.eqFields, a0, b0, d0, q0, p0, a1, b1, d1, q1, p1, a2, b2, d2, q2, p2, a3, b3, d3, q3, p3, a4, b4, d4, q4, p4, a5, b5, d5, q5, p5, a6, b6, d6, q6, p6, a7, b7, d7, q7, p7, if_true, Sem.run_bind, Sem.run_ite, Sem.run_pure, Result.andThen_ok, run_equalIn_string _ _ _ _ _ Try.underlying9, run_equalIn_int _ _ _ _ _ _ _ Try.underlying2, run_equalIn_bool' _ _ _ _ _ Try.underlying4]

    generalize (q.src.toList == p.src.toList) = g0

    generalize (q.dst.toList == p.dst.toList) = g1

    generalize (q.proto == p.proto) = g2

    generalize (q.id == p.id) = g3

    generalize (q.off == p.off) = g4

    generalize (q.more == p.more) = g5

    generalize (q.data.toList == p.data.toList) = g6

    generalize (q.since == p.since) = g7

    cases g0
    · simp
    simp only [Bool.not_true, Bool.false_eq_true, if_false, Bool.true_and]

    cases g1
    · simp
    simp only [Bool.not_true, Bool.false_eq_true, if_false, Bool.true_and]

    cases g2
    · simp
    simp only [Bool.not_true, Bool.false_eq_true, if_false, Bool.true_and]

    cases g3
    · simp
    simp only [Bool.not_true, Bool.false_eq_true, if_false, Bool.true_and]

    cases g4
    · simp
    simp only [Bool.not_true, Bool.false_eq_true, if_false, Bool.true_and]

    cases g5
    · simp
    simp only [Bool.not_true, Bool.false_eq_true, if_false, Bool.true_and]

    cases g6
    · simp
    simp only [Bool.not_true, Bool.false_eq_true, if_false, Bool.true_and]

    cases g7 <;> simp


theorem eqPcB_bin (q p : Pc) (W : World) : (binOp .eql 37 (.agg #[.string q.src, .string q.dst, .int .i64 q.proto, .int .i64 q.id, .int .i64 q.off, .bool q.more, .string q.data, .int .i64 q.since]) (.agg #[.string p.src, .string p.dst, .int .i64 p.proto, .int .i64 p.id, .int .i64 p.off, .bool p.more, .string p.data, .int .i64 p.since])).run Try.prog W = .ok (.bool (samePc q p)) W := by
  rw [run_eql_struct, eqPcB_run 9998 q p W]; rfl
theorem nePc_bin (q p : Pc) (W : World) : (binOp .neq 37 (.agg #[.string q.src, .string q.dst, .int .i64 q.proto, .int .i64 q.id, .int .i64 q.off, .bool q.more, .string q.data, .int .i64 q.since]) (.agg #[.string p.src, .string p.dst, .int .i64 p.proto, .int .i64 p.id, .int .i64 p.off, .bool p.more, .string p.data, .int .i64 p.since])).run Try.prog W = .ok (.bool (!samePc q p)) W := by
  rw [run_neq_struct, eqPcB_run 9998 q p W]; rfl
end Go.Proofs.Ytofhcplnnamcdab

/- PcMath: clashes, groups and wholes of pieces; nothing of the program. -/
namespace Go.Proofs.Ytofhcplnnamcdab
open Go.RowKit Go.PlainAid
set_option linter.unusedVariables false
set_option linter.unusedSimpArgs false

/-- One goes ahead of the other. -/
def aheadPc (p q : Pc) : Bool := p.more && decide (endPc p ≤ 8 * q.off)
def clashPc (p q : Pc) : Bool := !aheadPc p q && !aheadPc q p
theorem clash_meet {p q : Pc} (hp : 1 ≤ p.data.size) (hq : 1 ≤ q.data.size) : clashPc p q = meetPc p q := by
  unfold clashPc aheadPc meetPc endPc
  by_cases h1 : 8 * p.off + (p.data.size : Int) ≤ 8 * q.off
  · have h2 : ¬ (8 * q.off + (q.data.size : Int) ≤ 8 * p.off) := by omega
    have h3 : ¬ (8 * q.off < 8 * p.off + (p.data.size : Int)) := by omega
    cases p.more <;> cases q.more <;> simp [h1, h2, h3]
  · by_cases h2 : 8 * q.off + (q.data.size : Int) ≤ 8 * p.off
    · have h3 : ¬ (8 * p.off < 8 * q.off + (q.data.size : Int)) := by omega
      cases p.more <;> cases q.more <;> simp [h1, h2, h3]
    · have h3 : 8 * p.off < 8 * q.off + (q.data.size : Int) := by omega
      have h4 : 8 * q.off < 8 * p.off + (p.data.size : Int) := by omega
      cases p.more <;> cases q.more <;> simp [h1, h2, h3, h4]
theorem clash_comm (p q : Pc) : clashPc p q = clashPc q p := by unfold clashPc; exact Bool.and_comm _ _
theorem onePk_comm (p q : Pc) : onePk p q = onePk q p := by
  unfold onePk
  rw [Bool.eq_iff_iff]; simp only [Bool.and_eq_true, decide_eq_true_eq]
  constructor <;> (rintro ⟨⟨⟨h1, h2⟩, h3⟩, h4⟩; exact ⟨⟨⟨h1.symm, h2.symm⟩, h3.symm⟩, h4.symm⟩)
theorem onePk_eq {p q : Pc} (h : onePk p q = true) : p.src = q.src ∧ p.dst = q.dst ∧ p.proto = q.proto ∧ p.id = q.id := by
  unfold onePk at h; simp only [Bool.and_eq_true, decide_eq_true_eq] at h; exact ⟨h.1.1.1, h.1.1.2, h.1.2, h.2⟩
theorem onePk_of {p q : Pc} (h1 : p.src = q.src) (h2 : p.dst = q.dst) (h3 : p.proto = q.proto) (h4 : p.id = q.id) : onePk p q = true := by
  unfold onePk; simp [h1, h2, h3, h4]
theorem onePk_refl (p : Pc) : onePk p p = true := onePk_of rfl rfl rfl rfl
theorem onePk_trans {p q r : Pc} (h1 : onePk p q = true) (h2 : onePk q r = true) : onePk p r = true := by
  obtain ⟨a, b, c, d⟩ := onePk_eq h1
  obtain ⟨a', b', c', d'⟩ := onePk_eq h2
  exact onePk_of (a.trans a') (b.trans b') (c.trans c') (d.trans d')
theorem onePk_same {p q : Pc} (h : onePk p q = true) (r : Pc) : onePk r p = onePk r q := by
  obtain ⟨a, b, c, d⟩ := onePk_eq h
  unfold onePk; rw [a, b, c, d]

/-- The pieces of p's packet. -/
def grpPc (xs : List Pc) (p : Pc) : List Pc := xs.filter (fun q => onePk q p)
theorem grp_same {p q : Pc} (h : onePk p q = true) (xs : List Pc) : grpPc xs p = grpPc xs q := by
  unfold grpPc; congr 1; funext r; exact onePk_same h r
theorem grp_snoc (xs : List Pc) (x p : Pc) : grpPc (xs ++ [x]) p = if onePk x p = true then grpPc xs p ++ [x] else grpPc xs p := by
  unfold grpPc
  rw [List.filter_append]
  by_cases h : onePk x p = true
  · rw [if_pos h]; simp [h]
  · rw [if_neg h]; simp [h]
theorem grp_len (xs : List Pc) (p : Pc) : (grpPc xs p).length ≤ xs.length := List.length_filter_le _ _
theorem grp_mem {xs : List Pc} {p q : Pc} (h : q ∈ grpPc xs p) : q ∈ xs ∧ onePk q p = true := by simpa [grpPc] using h

theorem pcOk_in {p : Pc} (h : pieceOk p = true) : 1 ≤ p.data.size ∧ p.data.size ≤ 1400 ∧ 0 ≤ p.off ∧ p.off ≤ 8191 ∧ 0 ≤ p.since ∧ p.since ≤ 1000000000 := by
  unfold pieceOk at h
  simp only [Bool.and_eq_true, decide_eq_true_eq] at h
  have h1 := isIn_parts h.1.1.1.1.1.2
  have h2 := isIn_parts h.2
  omega

theorem hitN_grp (xs : List Pc) (p : Pc) : ∀ k, k ≤ xs.length → hitN xs p k = (grpPc (xs.take k) p).any (fun q => meetPc p q)
  | 0, _ => by simp [hitN, grpPc]
  | k + 1, h => by
    have ih := hitN_grp xs p k (by omega)
    rw [hitN, ih, List.take_succ_eq_append_getElem h, grp_snoc, List.getElem?_eq_getElem h]
    show (_ || hitPc p xs[k]) = _
    unfold hitPc
    rw [onePk_comm p]
    by_cases h1 : onePk xs[k] p = true
    · rw [if_pos h1, h1]; simp
    · have h2 : onePk xs[k] p = false := by simpa using h1
      rw [if_neg h1, h2]; simp
theorem any_clash {ys : List Pc} {p : Pc} (hp : 1 ≤ p.data.size) (hy : ∀ q ∈ ys, 1 ≤ q.data.size) : ys.any (fun q => clashPc p q) = ys.any (fun q => meetPc p q) := by
  rw [Bool.eq_iff_iff]; simp only [List.any_eq_true]
  constructor
  · rintro ⟨q, hq, h⟩; exact ⟨q, hq, by rw [← clash_meet hp (hy q hq)]; exact h⟩
  · rintro ⟨q, hq, h⟩; exact ⟨q, hq, by rw [clash_meet hp (hy q hq)]; exact h⟩

theorem allN_succ {xs : List Pc} {k : Nat} (h : k < xs.length) : allN xs (k + 1) = (allN xs k && (pieceOk xs[k] && !hitN xs xs[k] k)) := by
  rw [allN, List.getElem?_eq_getElem h]
theorem allN_grp {xs : List Pc} {k : Nat} (h : k < xs.length) (hk : ∀ q ∈ xs.take k, pieceOk q = true) (hp : pieceOk xs[k] = true) : allN xs (k + 1) = (allN xs k && !(grpPc (xs.take k) xs[k]).any (fun q => clashPc xs[k] q)) := by
  rw [allN_succ h, hp, hitN_grp xs _ k (by omega), any_clash (pcOk_in hp).1 (fun q hq => (pcOk_in (hk q (grp_mem hq).1)).1)]
  simp
theorem allN_take_ok {xs : List Pc} : ∀ k, k ≤ xs.length → allN xs k = true → ∀ q ∈ xs.take k, pieceOk q = true
  | 0, _, _, q, hq => by simp at hq
  | k + 1, h, ha, q, hq => by
    rw [allN_succ h, Bool.and_eq_true, Bool.and_eq_true] at ha
    rw [List.take_succ_eq_append_getElem h, List.mem_append, List.mem_singleton] at hq
    rcases hq with hq | rfl
    · exact allN_take_ok k (by omega) ha.1 q hq
    · exact ha.2.1
theorem allN_down {xs : List Pc} : ∀ k, k ≤ xs.length → allN xs k = false → allPc xs = false := fun k hk h => by
  unfold allPc
  obtain ⟨d, hd⟩ : ∃ d, xs.length = k + d := ⟨xs.length - k, by omega⟩
  have : ∀ d, k + d ≤ xs.length → allN xs (k + d) = false := fun d => by
    induction d with
    | zero => intro _; exact h
    | succ d ih =>
      intro hle
      rw [show k + (d + 1) = (k + d) + 1 by omega, allN_succ (by omega), ih (by omega)]; rfl
  rw [hd]; exact this d (by omega)
/-- Right ones: each is right, no two of one packet clash. -/
theorem allN_pair {xs : List Pc} : ∀ k, k ≤ xs.length → allN xs k = true → (xs.take k).Pairwise (fun a b => onePk a b = true → clashPc a b = false)
  | 0, _, _ => by simp
  | k + 1, h, ha => by
    have hok := allN_take_ok (k + 1) h ha
    have ha' := ha
    rw [allN_succ h, Bool.and_eq_true, Bool.and_eq_true] at ha
    rw [List.take_succ_eq_append_getElem h]
    refine List.pairwise_append.2 ⟨allN_pair k (by omega) ha.1, by simp, fun a ha1 b hb => ?_⟩
    obtain rfl : b = xs[k] := by simpa using hb
    intro hab
    have hn : hitN xs xs[k] k = false := by simpa using ha.2.2
    rw [hitN_grp xs _ k (by omega)] at hn
    have hm : a ∈ grpPc (xs.take k) xs[k] := by simp only [grpPc, List.mem_filter]; exact ⟨ha1, hab⟩
    have h1 : meetPc xs[k] a = false := by
      have := List.any_eq_false.1 hn a hm
      simpa using this
    have ha1' : pieceOk a = true := hok a (List.mem_of_mem_take (l := xs.take (k + 1)) (i := k) (by rw [List.take_take, Nat.min_eq_left (by omega)]; exact ha1))
    rw [clash_comm, clash_meet (pcOk_in ha.2.1).1 (pcOk_in ha1').1]
    exact h1

/-- Brought together, as they rise. -/
def walkPc : List Pc → ByteArray → Option ByteArray
  | [], t => some t
  | q :: r, t => if 8 * q.off = (t.size : Int) then walkPc r (t ++ q.data) else none
def togPc (ss : List Pc) : Option ByteArray := match ss.getLast? with
  | none => none
  | some l => if l.more = true then none else walkPc ss ⟨#[]⟩
def InRow (a b : Pc) : Prop := a.more = true ∧ endPc a ≤ 8 * b.off

theorem next_of {xs : List Pc} {p : Pc} {a r : List Pc} {t : Nat} (hp : (a ++ r).Perm (grpPc xs p)) (hS : (a ++ r).Pairwise InRow) (hd : ∀ q ∈ a ++ r, 1 ≤ q.data.size ∧ 0 ≤ q.off)
    (h1 : ∀ q ∈ a, endPc q ≤ (t : Int)) (h2 : t = 0 ∨ ∃ q ∈ a, endPc q = (t : Int)) :
    nextPc xs p t = match r with | [] => none | q :: _ => if 8 * q.off = (t : Int) then some q else none := by
  have hmem : ∀ q, q ∈ xs → onePk q p = true → q ∈ a ++ r := fun q hq ho => hp.mem_iff.2 (by simp only [grpPc, List.mem_filter]; exact ⟨hq, ho⟩)
  have hna : ∀ q ∈ a, ¬ (8 * q.off = (t : Int)) := fun q hq e => by
    have h3 := h1 q hq
    have h4 := (hd q (by simp [hq])).1
    unfold endPc at h3; omega
  obtain ⟨pa, pr, pc⟩ := List.pairwise_append.1 hS
  have hlow : ∀ q ∈ r, (t : Int) ≤ 8 * q.off := fun q hq => by
    rcases h2 with h2 | ⟨x, hx, h2⟩
    · have := (hd q (by simp [hq])).2; omega
    · have := (pc x hx q hq).2; omega
  unfold nextPc
  cases r with
  | nil =>
    rw [List.find?_eq_none]
    intro q hq h
    simp only [Bool.and_eq_true, decide_eq_true_eq] at h
    have := hmem q hq h.1
    rw [List.append_nil] at this
    exact hna q this h.2
  | cons q0 r =>
    obtain ⟨h5, h6⟩ := List.pairwise_cons.1 pr
    have hq0 := hd q0 (by simp)
    have htail : ∀ q ∈ r, ¬ (8 * q.off = (t : Int)) ∨ (8 * q0.off < (t : Int)) := fun q hq => by
      have := (h5 q hq).2
      unfold endPc at this; left; have := hlow q0 (by simp); omega
    by_cases e : 8 * q0.off = (t : Int)
    · simp only [e, if_true]
      cases hf : xs.find? (fun q => onePk q p && decide (8 * q.off = (t : Int))) with
      | none =>
        exfalso
        rw [List.find?_eq_none] at hf
        have hm : q0 ∈ grpPc xs p := hp.mem_iff.1 (by simp)
        obtain ⟨hm1, hm2⟩ := grp_mem hm
        exact hf q0 hm1 (by simp [hm2, e])
      | some x =>
        have hx := List.find?_some hf
        have hxm := List.mem_of_find?_eq_some hf
        simp only [Bool.and_eq_true, decide_eq_true_eq] at hx
        have := hmem x hxm hx.1
        rw [List.mem_append, List.mem_cons] at this
        rcases this with h | rfl | h
        · exact absurd hx.2 (hna x h)
        · rfl
        · rcases htail x h with h' | h'
          · exact absurd hx.2 h'
          · omega
    · simp only [e, if_false]
      rw [List.find?_eq_none]
      intro q hq h
      simp only [Bool.and_eq_true, decide_eq_true_eq] at h
      have := hmem q hq h.1
      rw [List.mem_append, List.mem_cons] at this
      rcases this with h' | rfl | h'
      · exact hna q h' h.2
      · exact e h.2
      · rcases htail q h' with h'' | h''
        · exact h'' h.2
        · have := hlow q0 (by simp); omega

theorem ba_size_append (a b : ByteArray) : (a ++ b).size = a.size + b.size := ByteArray.size_append
theorem whole_walk {xs : List Pc} {p : Pc} : ∀ (r a : List Pc) (f : Nat) (t : ByteArray), r.length < f → (a ++ r).Perm (grpPc xs p) → (a ++ r).Pairwise InRow → (∀ q ∈ a ++ r, 1 ≤ q.data.size ∧ 0 ≤ q.off) →
    (∀ q ∈ a, endPc q ≤ (t.size : Int)) → (t.size = 0 ∨ ∃ q ∈ a, endPc q = (t.size : Int)) →
    wholeF xs p f t = match r.getLast? with | none => none | some l => if l.more = true then none else walkPc r t
  | [], a, f, t, hf, hp, hS, hd, h1, h2 => by
    have hn := next_of hp hS hd h1 h2
    exact wholeF_none hn
  | q :: r, a, f, t, hf, hp, hS, hd, h1, h2 => by
    have hn := next_of hp hS hd h1 h2
    obtain ⟨f, rfl⟩ : ∃ g, f = g + 1 := ⟨f - 1, by simp at hf; omega⟩
    dsimp only at hn
    by_cases e : 8 * q.off = (t.size : Int)
    · rw [if_pos e] at hn
      rw [wholeF_some hn]
      have hq : endPc q = ((t ++ q.data).size : Int) := by rw [ba_size_append]; unfold endPc; omega
      have hle : (t.size : Int) ≤ ((t ++ q.data).size : Int) := by rw [ba_size_append]; omega
      have hrec := whole_walk r (a ++ [q]) f (t ++ q.data) (by simpa using hf) (by simpa using hp) (by simpa using hS) (by simpa using hd)
        (fun x hx => by
          rw [List.mem_append, List.mem_singleton] at hx
          rcases hx with hx | rfl
          · have := h1 x hx; omega
          · omega) (Or.inr ⟨q, by simp, hq⟩)
      cases r with
      | nil =>
        by_cases hm : q.more = true
        · rw [if_pos hm, hrec]; simp [hm]
        · rw [if_neg hm]; simp [hm, walkPc, e]
      | cons q2 r =>
        have hm : q.more = true := by
          obtain ⟨_, pr, _⟩ := List.pairwise_append.1 hS
          exact ((List.pairwise_cons.1 pr).1 q2 (by simp)).1
        rw [if_pos hm, hrec, List.getLast?_cons_cons]
        cases hl : (q2 :: r).getLast? with
        | none => rfl
        | some l =>
          dsimp only
          by_cases hlm : l.more = true
          · rw [if_pos hlm, if_pos hlm]
          · rw [if_neg hlm, if_neg hlm]; conv => rhs; rw [walkPc, if_pos e]
    · rw [if_neg e] at hn
      rw [wholeF_none hn]
      cases hl : (q :: r).getLast? with
      | none => rfl
      | some l =>
        dsimp only
        by_cases hlm : l.more = true
        · rw [if_pos hlm]
        · rw [if_neg hlm]; rw [walkPc, if_neg e]

/-- What is brought together of the rising pieces of p's packet is the whole. -/
theorem whole_tog {xs : List Pc} {p : Pc} {ss : List Pc} (hp : ss.Perm (grpPc xs p)) (hS : ss.Pairwise InRow) (hd : ∀ q ∈ ss, 1 ≤ q.data.size ∧ 0 ≤ q.off) (hl : ss.length < 70000) : wholePc xs p = togPc ss := by
  unfold wholePc togPc
  exact whole_walk ss [] 70000 ⟨#[]⟩ hl (by simpa using hp) (by simpa using hS) (by simpa using hd) (fun q hq => by simp at hq) (Or.inl rfl)
theorem inRow_of {ss : List Pc} (hs : ss.Pairwise (fun a b => a.off ≤ b.off)) (hc : ss.Pairwise (fun a b => clashPc a b = false)) (hd : ∀ q ∈ ss, 1 ≤ q.data.size) : ss.Pairwise InRow := by
  have h := List.Pairwise.and hs hc
  refine List.Pairwise.imp_of_mem ?_ h
  intro a b ha hb ⟨h1, h2⟩
  unfold clashPc at h2
  have ha' := hd a ha
  have hb' := hd b hb
  by_cases h3 : aheadPc a b = true
  · unfold aheadPc at h3; simpa [InRow] using h3
  · exfalso
    have h4 : aheadPc b a = true := by
      cases hx : aheadPc b a with
      | true => rfl
      | false => simp [hx] at h2; exact absurd h2 h3
    unfold aheadPc endPc at h4
    simp only [Bool.and_eq_true, decide_eq_true_eq] at h4
    omega
end Go.Proofs.Ytofhcplnnamcdab

/- PcRight: what PieceAdd leaves of right pieces is right; nothing of the program. -/
namespace Go.Proofs.Ytofhcplnnamcdab
open Go.RowKit Go.PlainAid
set_option linter.unusedVariables false
set_option linter.unusedSimpArgs false

def RightL (xs : List Pc) : Prop := (∀ q ∈ xs, pieceOk q = true) ∧ xs.Pairwise (fun a b => onePk a b = true → clashPc a b = false)
theorem right_all {xs : List Pc} (h : allPc xs = true) : RightL xs := by
  have h1 := allN_pair xs.length (Nat.le_refl _) h
  have h2 := allN_take_ok xs.length (Nat.le_refl _) h
  rw [List.take_of_length_le (Nat.le_refl _)] at h1 h2
  exact ⟨h2, h1⟩
theorem all_right {xs : List Pc} (h : RightL xs) : allPc xs = true := by
  have key : ∀ k, k ≤ xs.length → allN xs k = true := by
    intro k
    induction k with
    | zero => intro _; rfl
    | succ k ih =>
      intro hk
      have hok : ∀ q ∈ xs.take k, pieceOk q = true := fun q hq => h.1 q (List.mem_of_mem_take hq)
      rw [allN_grp hk hok (h.1 _ (List.getElem_mem hk)), ih (by omega), Bool.true_and, Bool.not_eq_true']
      rw [List.any_eq_false]
      intro q hq
      obtain ⟨hq1, hq2⟩ := grp_mem hq
      obtain ⟨i, hi, rfl⟩ := List.getElem_of_mem hq1
      rw [List.length_take] at hi
      rw [List.getElem_take] at hq2 ⊢
      have := (List.pairwise_iff_getElem.1 h.2) i k (by omega) hk (by omega) hq2
      rw [clash_comm, this]; simp
  exact key xs.length (Nat.le_refl _)
theorem right_filter {xs : List Pc} (h : RightL xs) (f : Pc → Bool) : RightL (xs.filter f) := ⟨fun q hq => h.1 q (List.mem_filter.1 hq).1, h.2.filter f⟩
theorem piecesOk_of {xs : List Pc} (h : RightL xs) (hl : xs.length ≤ 40) : piecesOk xs = true := by
  unfold piecesOk; rw [decide_eq_true hl, all_right h]; rfl
theorem ok_pieces {xs : List Pc} (h : piecesOk xs = true) : RightL xs ∧ xs.length ≤ 40 := by
  unfold piecesOk at h; rw [Bool.and_eq_true, decide_eq_true_iff] at h; exact ⟨right_all h.2, h.1⟩
/-- What PieceAdd tells beside any code but ErrForm is right; of a packet that is gone none is left. -/
theorem addPc_right (xs : List Pc) (p : Pc) (now : Int) : ((addPc xs p now).code ≠ 1 → piecesOk (addPc xs p now).pieces = true) ∧ ((addPc xs p now).code = 10 ∨ (addPc xs p now).done = true → ∀ y ∈ (addPc xs p now).pieces, onePk y p = false) := by
  unfold addPc
  split
  · exact ⟨fun _ => by rfl, fun _ y hy => by simp at hy⟩
  · split
    · exact ⟨fun h => absurd rfl h, fun _ y hy => by simp at hy⟩
    · next hin =>
      have hin' : addIn xs p now = true := by simpa using hin
      unfold addIn at hin'
      rw [Bool.and_eq_true, Bool.and_eq_true] at hin'
      obtain ⟨hr, h40⟩ := ok_pieces hin'.1.1
      have hone : ∀ y, onePk y (withS p (sincePc xs p now)) = onePk y p := fun y => rfl
      generalize withS p (sincePc xs p now) = q at *
      have hlf : ∀ ys : List Pc, (butPc ys q).length ≤ ys.length := fun ys => List.length_filter_le _ _
      have hnb : ∀ (ys : List Pc) y, y ∈ butPc ys q → onePk y p = false := fun ys y hy => by
        have := (List.mem_filter.1 hy).2
        rw [hone] at this
        simpa using this
      unfold addV
      split
      · exact ⟨fun _ => piecesOk_of (right_filter hr _) (Nat.le_trans (hlf xs) h40), fun _ y hy => hnb xs y hy⟩
      · next hall =>
        have hall' : allPc (xs ++ [q]) = true := by simpa using hall
        split
        · exact ⟨fun _ => hin'.1.1, fun h => by rcases h with h | h <;> simp at h⟩
        · next hlt =>
          cases wholePc (xs ++ [q]) q with
          | none => exact ⟨fun _ => piecesOk_of (right_all hall') (by simp; omega), fun h => by rcases h with h | h <;> simp at h⟩
          | some t =>
            refine ⟨fun _ => piecesOk_of (right_filter (right_all hall') _) ?_, fun _ y hy => hnb _ y hy⟩
            have := hlf (xs ++ [q])
            show (butPc (xs ++ [q]) q).length ≤ 40
            simp at this; omega
end Go.Proofs.Ytofhcplnnamcdab
