/- At every text the program's V6Read answers as the specification's, field by field: the law FnExactV6Read returns true, and writes nothing that was there. No condition. -/
import Derived.Test.YtofhcplnnamcdaiRows
import Derived.Test.YtofhcplnnamcdaiLawV6
import Derived.Test.YtofhcplnnamcdaiSV6R
import Derived.Test.YtofhcplnnamcdaiIV6D
import Derived.Test.YtofhcplnnamcdaiIOut
import Derived.WalkKit
import Derived.ProofKit
import Derived.OpenShut
import Derived.ShutString
import Derived.ChangeOld
import Derived.Below
import Derived.Lib.SmallJoins
namespace Go.Proofs.Ytofhcplnnamcdai.fnExactV6Read
open Go.ChangeShapes Go.WideShapes Go.ChangeAt Go.RowKit Go.Joins
open Go.ChangeMaps (open_string shut_string)
set_option linter.unusedVariables false

theorem own : ownKnob Try.prog.godebug = none := by kernel_rfl
theorem laidOut : laidOutB Try.prog = true := by kernel_rfl

theorem walk (a0 : ByteArray) (w : World) (w0 : a0.size ≤ maxLen) :
    Calls Try.prog 5 #[.string a0] w fun e w' => e = .returned (.bool true) ∧ Below w.heap.size w w' := by
  unfold maxLen at w0
  by_cases h : a0.size ≤ 1048576
  · have HP : Hid (∀ W, Calls Try.prog 15 #[.string a0] W fun e w' => e = .returned (p6CO (v6ReadV a0) (v6CodeV a0)) ∧ Below W.heap.size W w') := fun W => specV6Read_any a0 W h
    have HI : Hid (∀ W, Calls Try.prog 16 #[.string a0] W fun e w' => e = .returned (p6CO (v6ReadV a0) (v6CodeV a0)) ∧ Below W.heap.size W w') := fun W => implV6Read_any a0 W h
    have HE : Hid (∀ W, Calls Try.prog 17 #[p6CO (v6ReadV a0) (v6CodeV a0), p6CO (v6ReadV a0) (v6CodeV a0)] W fun e w' => e = .returned (.bool true) ∧ Below W.heap.size W w') := fun W => eqV6Out_same _ _ W
    have h' : ¬ (1048576 : Int) < a0.size := by omega
    generalize v6ReadV a0 = p at *
    generalize v6CodeV a0 = code at *
    obtain ⟨cls, flow, next, hops, src, dst, piece, more, off, id, data⟩ := p
    unfold p6CO at *
    dsimp only at *
    go_enter Try.func5, Try.ntmps5
    go_wp2_with fail
    refine (HP.out _).mono ?_
    rintro e v1 ⟨rfl, q1⟩
    have K1 : Hid (BoxC6 (v1.alloc (.cells #[.int .i64 cls, .int .i64 flow, .int .i64 next, .int .i64 hops, .string src, .string dst, .bool piece, .bool more, .int .i64 off, .int .i64 id, .string data, .int .i64 code] 31)) v1.heap.size ⟨cls, flow, next, hops, src, dst, piece, more, off, id, data⟩ code) := BoxC6.new v1 ⟨cls, flow, next, hops, src, dst, piece, more, off, id, data⟩ code
    have G1 : Hid (Below w.heap.size w (v1.alloc (.cells #[.int .i64 cls, .int .i64 flow, .int .i64 next, .int .i64 hops, .string src, .string dst, .bool piece, .bool more, .int .i64 off, .int .i64 id, .string data, .int .i64 code] 31))) := q1.alloc q1.size _
    clear q1
    go_wp2_with fail
    generalize v1.alloc (.cells #[.int .i64 cls, .int .i64 flow, .int .i64 next, .int .i64 hops, .string src, .string dst, .bool piece, .bool more, .int .i64 off, .int .i64 id, .string data, .int .i64 code] 31) = W1 at *
    generalize v1.heap.size = B1 at *
    refine (HI.out _).mono ?_
    rintro e v2 ⟨rfl, q2⟩
    have q3 : Below v2.heap.size v2 (v2.alloc (.cells #[.int .i64 cls, .int .i64 flow, .int .i64 next, .int .i64 hops, .string src, .string dst, .bool piece, .bool more, .int .i64 off, .int .i64 id, .string data, .int .i64 code] 31)) := (Below.refl _ _).alloc (Nat.le_refl _) _
    have K2 : Hid (BoxC6 (v2.alloc (.cells #[.int .i64 cls, .int .i64 flow, .int .i64 next, .int .i64 hops, .string src, .string dst, .bool piece, .bool more, .int .i64 off, .int .i64 id, .string data, .int .i64 code] 31)) v2.heap.size ⟨cls, flow, next, hops, src, dst, piece, more, off, id, data⟩ code) := BoxC6.new v2 ⟨cls, flow, next, hops, src, dst, piece, more, off, id, data⟩ code
    have K1' : Hid (BoxC6 (v2.alloc (.cells #[.int .i64 cls, .int .i64 flow, .int .i64 next, .int .i64 hops, .string src, .string dst, .bool piece, .bool more, .int .i64 off, .int .i64 id, .string data, .int .i64 code] 31)) B1 ⟨cls, flow, next, hops, src, dst, piece, more, off, id, data⟩ code) := (K1.out.kept q2).kept q3
    have G2 : Hid (Below w.heap.size w (v2.alloc (.cells #[.int .i64 cls, .int .i64 flow, .int .i64 next, .int .i64 hops, .string src, .string dst, .bool piece, .bool more, .int .i64 off, .int .i64 id, .string data, .int .i64 code] 31))) := (G1.out.trans (q2.mono G1.out.size)).trans (q3.mono (Nat.le_trans G1.out.size q2.size))
    clear q2 q3 K1 G1
    go_upto_region 5 with fail
    generalize v2.alloc (.cells #[.int .i64 cls, .int .i64 flow, .int .i64 next, .int .i64 hops, .string src, .string dst, .bool piece, .bool more, .int .i64 off, .int .i64 id, .string data, .int .i64 code] 31) = W2 at *
    generalize v2.heap.size = B2 at *
    obtain ⟨k0, k1, k2, k3, k4, k5, k6, k7, k8, k9, k10, k11⟩ := K1'.out
    obtain ⟨j0, j1, j2, j3, j4, j5, j6, j7, j8, j9, j10, j11⟩ := K2.out
    dsimp only at k0 k1 k2 k3 k4 k5 k6 k7 k8 k9 k10 k11 j0 j1 j2 j3 j4 j5 j6 j7 j8 j9 j10 j11
    go_wp2_with fail
    refine (HE.out _).mono ?_
    rintro e v3 ⟨rfl, q4⟩
    have G3 : Hid (Below w.heap.size w v3) := G2.out.trans (q4.mono G2.out.size)
    clear k0  k1  k2  k3  k4  k5  k6  k7  k8  k9  k10  k11 j0  j1  j2  j3  j4  j5  j6  j7  j8  j9  j10  j11
    go_wp2_with fail
    go_ret
    exact ⟨rfl, G3.out⟩
  · have h' : (1048576 : Int) < a0.size := by omega
    go_enter Try.func5, Try.ntmps5
    go_wp2
    go_ret
    exact ⟨rfl, Below.refl _ _⟩

set_option maxRecDepth 100000 in
theorem lifted (os : Os) (started : os.Started) (H : Type) (enc : TypeId × Value → H) :
    ReturnsInHanded {} Try.checked os 5 .any (Rows.fnExactV6ReadSpec.pre6 enc Try.prog Try.f5 Rows.fnExactV6ReadRow.domain false) (Rows.fnExactV6ReadSpec.post enc Try.prog Try.f5 false true false false) := by
  refine returnsInHanded_of_change (C := Try.checked) own started (by kernel_rfl) Try.func5
    (ChangeSpec.witness6 (enc := enc) (C := Try.checked) false ⟨#[], #[.string ByteArray.empty], []⟩ 8 (by kernel_rfl) (by kernel_rfl) (by kernel_rfl) (by kernel_rfl)) ?_
  intro W base args ds gs before hval0 hW hcnd _
  have hval : ∀ (j : Nat) t v, Try.f5.params[j]? = some t → args[j]? = some v → Value.okWide Try.prog W .any base t v := hval0
  have hW' := hW
  obtain ⟨p, q, hA0, hV, rfl, hfz, hnd⟩ := hW
  have hA : DataW.TrodAll enc Try.prog W 0 (fun _ => true) true Try.f5.params.toList args.toList ds p := hA0
  rw [Try.params5] at hA hval
  obtain ⟨v0, vs0, d0, ds0, p0, q0, hargs, rfl, rfl, h0, r0⟩ := trodAll_cons hA
  obtain ⟨rfl, rfl, rfl⟩ := trodAll_nil r0
  obtain rfl : args = #[v0] := by cases args; simp_all
  obtain ⟨rfl, rfl⟩ := trodVars_none hV
  obtain ⟨a0, rfl, rfl, rfl, w0⟩ := open_string Try.underlying9 (hval 0 9 v0 rfl rfl) h0
  clear hA0 hval0
  refine (walk a0 W w0).mono fun e W' ⟨he, hg⟩ => ?_
  subst he
  exact ⟨_, rfl, _, _, _, [], _, [], hW', (trodAll_cons_mk (shut_bool Try.underlying4 _) trodAll_mk0), (trodAll_cons_mk (shut_string Try.underlying9 w0) trodAll_mk0), rfl, hg.frame _, fun h => by cases h⟩

theorem over : Rows.fnExactV6ReadRow.holds Try.pinned (OpenSpec.ofChange Rows.fnExactV6ReadSpec) :=
  OpenClaim.holds_of_wide 5 Try.f5 rfl rfl rfl rfl rfl rfl rfl ⟨rfl, rfl, rfl, rfl, rfl⟩ rfl rfl rfl rfl rfl (by kernel_rfl) Try.func5 (by kernel_rfl)
    (of_decide_eq_true (by kernel_rfl)) (by unfold Func.isWrapper; first | (rw [if_pos (by decide +kernel)]; kernel_rfl) | (rw [if_neg (by decide +kernel)]; exact ⟨rfl, rfl⟩))
    (fun os started H enc _ => lifted os started H enc)

end Go.Proofs.Ytofhcplnnamcdai.fnExactV6Read
namespace Go.Proofs.Ytofhcplnnamcdai
theorem fnExactV6Read_holds : Rows.FnExactV6ReadSaid := fnExactV6Read.over
#print axioms fnExactV6Read_holds
end Go.Proofs.Ytofhcplnnamcdai
