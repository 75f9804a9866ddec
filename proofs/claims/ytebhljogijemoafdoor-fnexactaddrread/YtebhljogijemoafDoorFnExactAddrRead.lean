/- At every text the program's AddrRead answers as the specification's AddrRead: the law FnExactAddrRead returns true, and writes nothing that was there. The library's tables and errors start as the program's text lays them (the card ties them). No other condition. -/
import Derived.Test.YtebhljogijemoafDoorRows
import Derived.Test.YtebhljogijemoafDoorCards
import Derived.Test.YtebhljogijemoafDoorTie
import Derived.Test.YtebhljogijemoafDoorWrap
import Derived.Test.YtebhljogijemoafDoorIRead
import Derived.Test.YtebhljogijemoafDoorLawAid
import Derived.Stop.LaidErr
import Derived.WalkKit
import Derived.ProofKit
import Derived.OpenShut
import Derived.ShutString
import Derived.ChangeOld
import Derived.Below
import Derived.Lib.SmallJoins
import Derived.Lib.LaidTab
import Derived.Lay
import Derived.SevenTiedAt
namespace Go.Proofs.YtebhljogijemoafDoor.fnExactAddrRead
open Go.ChangeShapes Go.WideShapes Go.ChangeAt Go.RowKit Go.Joins
open Go.ChangeMaps (open_string shut_string)
set_option linter.unusedVariables false

theorem own : ownKnob Tryd.prog.godebug = none := by kernel_rfl
theorem laidOut : laidOutB Tryd.prog = true := by kernel_rfl

theorem star : "*" ++ "errors.errorString" = "*errors.errorString" := by decide
theorem rowE (u : TypeId) (h : Tryd.prog.typeName? 3 u = some "*errors.errorString") : u = 98 :=
  typeName_ptr_named (nm := "errors.errorString") (by rw [star]; kernel_rfl) (by kernel_rfl) (by decide) u (by rw [star]; exact h)

theorem of_laid {W : World} (h : laidMet Tryd.prog Rows.fnExactAddrReadRow.laid W) (hsh : W.ShapedOpen Tryd.prog) : Env W := by
  have h64 := Lib.tabIs_of_head (P := Tryd.prog) (k := .u8) (zs := [0, 1, 56, 2, 57, 49, 28, 3, 61, 58, 42, 50, 38, 29, 17, 4, 62, 47, 59, 36, 45, 43, 51, 22, 53, 39, 33, 30, 24, 18, 12, 5, 63, 55, 48, 27, 60, 41, 37, 16, 46, 35, 44, 21, 52, 32, 23, 11, 54, 26, 40, 15, 34, 20, 31, 10, 25, 14, 19, 9, 13, 8, 7, 6]) (g := 5) (by kernel_rfl) (by kernel_rfl) Tryd.underlying102 Tryd.underlying5 (by kernel_rfl) (by kernel_rfl) h.tail
  have h10 := Lib.tabIs_of_head (P := Tryd.prog) (k := .u64) (zs := Lib.pow10Tab) (g := 0) (by kernel_rfl) (by kernel_rfl) Tryd.underlying86 Tryd.underlying50 (by kernel_rfl) (by kernel_rfl) h.tail.tail
  obtain ⟨a1, s1, hv1, _⟩ := laid_sentinel h.tail.tail.tail.tail (g := 2) (tp := 98) (te := 100) (ts := 9) (by kernel_rfl) (by kernel_rfl) Tryd.underlying52 rowE Tryd.underlying98 Tryd.underlying100 rfl rfl Tryd.underlying9 (by kernel_rfl) (by kernel_rfl)
  obtain ⟨a2, s2, hv2, _⟩ := laid_sentinel h.tail.tail.tail.tail.tail (g := 1) (tp := 98) (te := 100) (ts := 9) (by kernel_rfl) (by kernel_rfl) Tryd.underlying52 rowE Tryd.underlying98 Tryd.underlying100 rfl rfl Tryd.underlying9 (by kernel_rfl) (by kernel_rfl)
  refine ⟨h10, h64.cell (by kernel_rfl) 15 (by decide), Tryd.laysM146.s1_3 W hsh, ⟨98, .pointer (some a2), ?_⟩, ⟨98, .pointer (some a1), ?_⟩⟩
  · have := World.var?_cell (show Tryd.prog.globalNamed "strconv.ErrSyntax" = some 1 by kernel_rfl) hv2 0
    simpa using this
  · have := World.var?_cell (show Tryd.prog.globalNamed "strconv.ErrRange" = some 2 by kernel_rfl) hv1 0
    simpa using this

theorem walk (a0 : ByteArray) (w0 : a0.size ≤ maxLen) (w : World) (hE : Env w) :
    Calls Tryd.prog 4 #[.string a0] w fun e w' => e = .returned (.bool true) ∧ Below w.heap.size w w' := by
  by_cases hs : a0.size ≤ 1048576
  · obtain ⟨l, rfl⟩ : ∃ l, a0 = ofL l := ⟨a0.data.toList, (ofL_data a0).symm⟩
    have HI : Hid (∀ W, Below w.heap.size w W → Calls Tryd.prog 8 #[.string (ofL l)] W fun e w' => e = .returned (.agg #[.string (addrReadV l).1, .int .i64 (addrReadV l).2]) ∧ Below W.heap.size W w') := fun W hW => implAddrReadL_any l W (hE.below hW) w0
    have HS : Hid _ := specAddrReadL_any l w w0
    have hsz := ofL_size l
    rw [hsz] at hs
    clear hE w0
    go_enter Tryd.func4, Tryd.ntmps4
    go_wp2_with fail
    refine Calls.mono HS.out ?_
    rintro e w1 ⟨rfl, q1⟩
    have H1 : Hid (Below w.heap.size w w1) := q1
    clear q1 HS
    generalize addrReadV l = o at *
    go_wp2_with fail
    refine (HI.out _ (H1.out.alloc H1.out.size _)).mono ?_
    rintro e w5 ⟨rfl, q5⟩
    have H5 : Hid _ := one_keep q5
    obtain ⟨k0, k1⟩ := one_box H5.out
    have hz1 : w.heap.size ≤ w1.heap.size := H1.out.size
    have hz5 : w1.heap.size < w5.heap.size := one_size H5.out
    clear q5 HI
    go_wp2_with fail
    refine (eqAddrOut_same o.1 o.2 _).mono ?_
    rintro e w6 ⟨rfl, q6⟩
    have H6 : Hid (Below w.heap.size w w6) := (H1.out.trans ((one_back H5.out).mono hz1)).trans ((((Below.refl _ _).alloc (Nat.le_refl _) _).trans (q6.mono (by simp))).mono (by omega))
    clear q6
    go_wp2_with fail
    go_ret
    exact ⟨rfl, H6.out⟩
  · unfold maxLen at w0
    have hb : (1048576 : Int) < (a0.size : Int) := by omega
    clear hE
    go_enter Tryd.func4, Tryd.ntmps4
    go_wp2_with fail
    go_ret
    exact ⟨rfl, Below.refl _ _⟩

set_option maxRecDepth 100000 in
theorem lifted (os : Os) (started : os.Started) (H : Type) (enc : TypeId × Value → H) :
    ReturnsInHanded {} Tryd.checked os 4 .any (fun w args => (Rows.fnExactAddrReadSpec.pre enc Tryd.prog Tryd.f4 [] false w args ∧ laidMetH Tryd.prog Rows.fnExactAddrReadRow.laid w) ∧ sizedMet enc Tryd.prog Tryd.f4 (OpenSpec.ofChange Rows.fnExactAddrReadSpec) false w args)
      (Rows.fnExactAddrReadSpec.post enc Tryd.prog Tryd.f4 false true false false) := by
  refine returns_and_shaped (C := Tryd.checked) (X := fun w _ => laidMetH Tryd.prog Rows.fnExactAddrReadRow.laid w) (fun _ _ _ hh h => h.of_heap hh) own started (by kernel_rfl) Tryd.func4
    (ChangeSpec.witness_shaped (enc := enc) (C := Tryd.checked) (os := os) (X := fun w _ => laidMetH Tryd.prog Rows.fnExactAddrReadRow.laid w) false (World.laidAll Tryd.prog os Rows.fnExactAddrReadRow.laid) #[.string ByteArray.empty] 8 (World.laidAll_os _ _ _)
      (World.shaped_of_ZipB (by kernel_rfl) (by kernel_rfl)) (by kernel_rfl) (by kernel_rfl) (by kernel_rfl)
      (by rw [MakeChecks.laidMetH_plain _ _ _ (by kernel_rfl)]; exact laidMet_laidAll _ (by kernel_rfl) (by kernel_rfl))) ?_
  intro W base args ds gs before hval0 hW hL0 hsh
  have hval : ∀ (j : Nat) t v, Tryd.f4.params[j]? = some t → args[j]? = some v → Value.okWide Tryd.prog W .any base t v := hval0
  have hW' := hW
  obtain ⟨p, q, hA0, hV, rfl, hfz, hnd⟩ := hW
  have hA : DataW.TrodAll enc Tryd.prog W 0 (fun _ => true) true Tryd.f4.params.toList args.toList ds p := hA0
  rw [Tryd.params4] at hA hval
  obtain ⟨v0, vs0, d0, ds0, p0, q0, hargs, rfl, rfl, h0, r0⟩ := trodAll_cons hA
  obtain ⟨rfl, rfl, rfl⟩ := trodAll_nil r0
  obtain rfl : args = #[v0] := by cases args; simp_all
  obtain ⟨rfl, rfl⟩ := trodVars_none hV
  obtain ⟨a0, rfl, rfl, rfl, w0⟩ := open_string Tryd.underlying9 (hval 0 9 v0 rfl rfl) h0
  clear hA0 hval0
  have hL : laidMet Tryd.prog Rows.fnExactAddrReadRow.laid W := by rw [MakeChecks.laidMetH_plain _ _ _ (by kernel_rfl)] at hL0; exact hL0
  have hE : Env W := of_laid hL hsh
  refine (walk a0 w0 W hE).mono fun e W' ⟨he, hg⟩ => ?_
  subst he
  exact ⟨_, rfl, _, _, _, [], _, [], hW', (trodAll_cons_mk (shut_bool Tryd.underlying4 _) trodAll_mk0), (trodAll_cons_mk (shut_string Tryd.underlying9 w0) trodAll_mk0), rfl, hg.frame _, fun h => by cases h⟩

theorem over : Rows.fnExactAddrReadRow.holds Tryd.pinned (OpenSpec.ofChange Rows.fnExactAddrReadSpec) :=
  OpenClaim.holds_of_wide 4 Tryd.f4 rfl rfl rfl rfl rfl rfl rfl ⟨rfl, rfl, rfl, rfl, rfl⟩ rfl rfl rfl rfl rfl (by kernel_rfl) Tryd.func4 (by kernel_rfl)
    (of_decide_eq_true (by kernel_rfl)) (by unfold Func.isWrapper; first | (rw [if_pos (by decide +kernel)]; kernel_rfl) | (rw [if_neg (by decide +kernel)]; exact ⟨rfl, rfl⟩))
    (fun os started H enc _ => lifted os started H enc)

end Go.Proofs.YtebhljogijemoafDoor.fnExactAddrRead
namespace Go.Proofs.YtebhljogijemoafDoor
open Go
theorem fnExactAddrRead_holds : Rows.FnExactAddrReadCardSaid :=
  Claim7.holds_tied_plain_at .later [] [.data, .data, .data, .data, .sentinel, .sentinel, .pinned] true (true, "d7404befbb793389f6b5e3216f284088feb001c588b5d5dc11a76cf604e16856") true
    fnExactAddrRead.over (fun _ h => by cases h) (by kernel_rfl) (fun _ h => by cases h) fnExactAddrRead_row_tie rfl ⟨rfl, rfl⟩ (by kernel_rfl) rfl
    (fun f fn hf hfn => by
      obtain rfl : f = 4 := Option.some.inj ((show Tryd.prog.funcNamed Rows.fnExactAddrReadRow.func = some 4 by kernel_rfl).symm.trans hf) |>.symm
      obtain rfl : fn = Tryd.f4 := (Option.some.inj (Tryd.func4.symm.trans hfn)).symm
      exact ⟨by kernel_rfl, fun j t ht => by
        rw [Tryd.params4] at ht
        have hm : t ∈ [9] := by simpa using Array.mem_of_getElem? ht
        have hall : ([9].all fun u => !Tryd.prog.wantsStandIn u) = true := by kernel_rfl
        exact (show Tryd.prog.wantsStandIn t = false by simpa using List.all_eq_true.1 hall t hm)⟩)
    (by kernel_rfl)
#print axioms fnExactAddrRead_holds
end Go.Proofs.YtebhljogijemoafDoor
