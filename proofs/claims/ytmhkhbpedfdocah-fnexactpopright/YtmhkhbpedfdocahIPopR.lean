/- IPopR: what the program's PopRight answers. -/
import Derived.Test.YtmhkhbpedfdocahIPop
namespace Go.Proofs.Ytmhkhbpedfdocah
open Go.RowKit Go.PlainAid
set_option linter.unusedVariables false
set_option linter.unusedSimpArgs false

/-- A node in a box of its own, read alone. -/
structure BoxM (w : World) (X : Nat) (x : Pn) : Prop where
  c0 : w.cell? ⟨X, 0, none⟩ = some (.int .i64 x.kids)
  c1 : w.cell? ⟨X, 1, none⟩ = some (.int .i64 x.leaf)
  c2 : w.cell? ⟨X, 2, none⟩ = some (.int .i64 x.base)
  c3 : w.cell? ⟨X, 3, none⟩ = some (.int .i64 x.leafs)
theorem BoxM.kept {w W : World} {B : Nat} {q : Pn} (h : BoxM w B q) (hB : Below w.heap.size w W) : BoxM W B q := by
  have hb := World.block_lt_of_cell? w _ h.c0
  exact ⟨((bcell hB).1 B 0 hb).trans h.c0, ((bcell hB).1 B 1 hb).trans h.c1, ((bcell hB).1 B 2 hb).trans h.c2, ((bcell hB).1 B 3 hb).trans h.c3⟩

/-- The two slices of a table in a box of its own. -/
structure BoxP (w : World) (X : Nat) (v1 v2 : Value) : Prop where
  c0 : w.cell? ⟨X, 0, none⟩ = some v1
  c1 : w.cell? ⟨X, 1, none⟩ = some v2
theorem BoxP.kept {w W : World} {B : Nat} {v1 v2 : Value} (h : BoxP w B v1 v2) (hB : Below w.heap.size w W) : BoxP W B v1 v2 := by
  have hb := World.block_lt_of_cell? w _ h.c0
  exact ⟨((bcell hB).1 B 0 hb).trans h.c0, ((bcell hB).1 B 1 hb).trans h.c1⟩

theorem boxes_kept {w W : World} {B C : Nat} {v0 v1 u0 u1 : Value} (hS : w.cell? ⟨B, 0, none⟩ = some v0 ∧ w.cell? ⟨B, 1, none⟩ = some v1 ∧ w.cell? ⟨C, 0, none⟩ = some u0 ∧ w.cell? ⟨C, 1, none⟩ = some u1) (h : Below w.heap.size w W) : W.cell? ⟨B, 0, none⟩ = some v0 ∧ W.cell? ⟨B, 1, none⟩ = some v1 ∧ W.cell? ⟨C, 0, none⟩ = some u0 ∧ W.cell? ⟨C, 1, none⟩ = some u1 :=
  ⟨((bcell h).1 B 0 (World.block_lt_of_cell? w _ hS.1)).trans hS.1, ((bcell h).1 B 1 (World.block_lt_of_cell? w _ hS.1)).trans hS.2.1, ((bcell h).1 C 0 (World.block_lt_of_cell? w _ hS.2.2.1)).trans hS.2.2.1, ((bcell h).1 C 1 (World.block_lt_of_cell? w _ hS.2.2.1)).trans hS.2.2.2⟩

theorem BoxM.new (w : World) (x : Pn) : BoxM (w.alloc (.cells #[.int .i64 x.kids, .int .i64 x.leaf, .int .i64 x.base, .int .i64 x.leafs] 64)) w.heap.size x := ⟨by simp, by simp, by simp, by simp⟩
theorem BoxP.new (w : World) (v1 v2 : Value) {t : TypeId} : BoxP (w.alloc (.cells #[v1, v2] t)) w.heap.size v1 v2 := ⟨by simp, by simp⟩

set_option maxRecDepth 100000 in
set_option maxHeartbeats 1000000 in
theorem implPopRight_any (ns : List Pn) (ls : List Int) (a1 a2 : Option Addr) (cap1 cap2 : Nat) (w : World) (hl1 : ns.length ≤ 1048576) (hl2 : ls.length ≤ 1048576) (hin : PnsIn ns) (hil : IntsIn ls) (h1 : PnsIs w a1 ns) (h2 : IntsIs w a2 ls) :
    Calls Try.prog 22 #[.agg #[.slice a1 ns.length cap1, .slice a2 ls.length cap2]] w fun e w' => e = .returned (.bool (popOk ns ls)) ∧ Below w.heap.size w w' := by
  have H1 : Hid (PnsIs w a1 ns) := h1
  have H2 : Hid (IntsIs w a2 ls) := h2
  have HI : Hid (PnsIn ns) := hin
  have HJ : Hid (IntsIn ls) := hil
  have hB0 : Hid (Below w.heap.size w (w.alloc (.cells #[.slice a1 ns.length cap1, .slice a2 ls.length cap2] 27))) := (Below.refl _ _).alloc (Nat.le_refl _) _
  have hP0 : Hid (BoxP (w.alloc (.cells #[.slice a1 ns.length cap1, .slice a2 ls.length cap2] 27)) w.heap.size (.slice a1 ns.length cap1) (.slice a2 ls.length cap2)) := BoxP.new w _ _
  clear h1 h2 hin hil
  by_cases g1 : (ns.length : Int) < 1
  · have HV : Hid (popOk ns ls = false) := by unfold Hid popOk; rw [decide_eq_false (show ¬ 1 ≤ ns.length by omega)]; rfl
    go_enter Try.func22, Try.ntmps22
    go_wp2_with fail
    go_ret
    exact ⟨ret_bool HV.out.symm, hB0.out⟩
  · by_cases g2 : (3300 : Int) < (ns.length : Int)
    · have HV : Hid (popOk ns ls = false) := by unfold Hid popOk; rw [decide_eq_false (show ¬ ns.length ≤ 3300 by omega), Bool.and_false]; rfl
      go_enter Try.func22, Try.ntmps22
      go_wp2_with fail
      go_ret
      exact ⟨ret_bool HV.out.symm, hB0.out⟩
    · have HV : Hid (popOk ns ls = (nodesOkN ns ls.length ns.length && ls.all leafOk)) := by unfold Hid popOk; rw [decide_eq_true (show 1 ≤ ns.length by omega), decide_eq_true (show ns.length ≤ 3300 by omega)]; rfl
      go_enter Try.func22, Try.ntmps22
      go_wp2_with fail
      go_loopw [20] (fun i wr => ∃ k : Nat, k ≤ ns.length ∧ i = .int .i64 k ∧ nodesOkN ns ls.length k = true ∧ BoxP wr w.heap.size (.slice a1 ns.length cap1) (.slice a2 ls.length cap2) ∧ Below w.heap.size w wr) (fun i _ => ns.length - (intOf i).toNat)
      case atStart => exact ⟨0, Nat.zero_le _, rfl, rfl, hP0.out, hB0.out⟩
      case round =>
        obtain ⟨k, hk, rfl, hok, hbox, hbel⟩ := hrel
        have k0 := hbox.c0
        have k1 := hbox.c1
        have HK : Hid (nodesOkN ns ls.length k = true) := hok
        have HP : Hid (BoxP wr w.heap.size (.slice a1 ns.length cap1) (.slice a2 ls.length cap2)) := hbox
        have HM : Hid (Below w.heap.size w wr) := hbel
        clear hok hbel hbox
        by_cases hlt : k < ns.length
        · obtain ⟨b, off, rfl, hb, hat⟩ : ∃ b off, a1 = some ⟨b, off, none⟩ ∧ b < wr.heap.size ∧ PnsAt wr b off ns := by
            rcases H1.out.below HM.out with h | h
            · rw [h] at hlt; simp at hlt
            · exact h
          have c0 := hat.c0 k hlt
          have c1 := hat.c1 k hlt
          have c2 := hat.c2 k hlt
          have c3 := hat.c3 k hlt
          have hI := HI.out ns[k] (List.getElem_mem hlt)
          have hst := nodesOkN_step (L := ls.length) hlt
          obtain ⟨⟨xk, xl, xb, xf⟩, hx⟩ : ∃ x, x = ns[k] := ⟨_, rfl⟩
          rw [← hx] at c0 c1 c2 c3 hI hst
          dsimp only at c0 c1 c2 c3 hI
          rw [HK.out, Bool.true_and, nodeOk_parts] at hst
          have HST : Hid _ := hst
          have HFIN : Hid (nodesOkN ns ls.length (k + 1) = false → popOk ns ls = false) := fun h => by rw [HV.out, nodesOkN_mono h ns.length (by omega)]; rfl
          clear hst hx hat
          obtain ⟨i1, i2, i3, i4⟩ := hI
          have HPL : Hid (∀ W, Calls Try.prog 57 #[.agg #[.int .i64 xk, .int .i64 xl, .int .i64 xb, .int .i64 xf]] W fun e w' => e = .returned (.bool (placesV ⟨xk, xl, xb, xf⟩)) ∧ Below W.heap.size W w') := fun W => implPlaces_any xk xl xb xf W i1 i2
          have HMX : Hid (Below w.heap.size w (wr.alloc (.cells #[.int .i64 xk, .int .i64 xl, .int .i64 xb, .int .i64 xf] 64))) := HM.out.alloc HM.out.size _
          have HBX : Hid (BoxM (wr.alloc (.cells #[.int .i64 xk, .int .i64 xl, .int .i64 xb, .int .i64 xf] 64)) wr.heap.size ⟨xk, xl, xb, xf⟩) := BoxM.new wr ⟨xk, xl, xb, xf⟩
          have HPX : Hid (BoxP (wr.alloc (.cells #[.int .i64 xk, .int .i64 xl, .int .i64 xb, .int .i64 xf] 64)) w.heap.size (.slice (some ⟨b, off, none⟩) ns.length cap1) (.slice a2 ls.length cap2)) := HP.out.kept ((Below.refl _ _).alloc (Nat.le_refl _) _)
          unfold In64s at i1 i2 i3 i4
          go_wp2_with fail
          refine (HPL.out _).mono ?_
          rintro e w2 ⟨rfl, q2⟩
          have HM2 : Hid (Below w.heap.size w w2) := HMX.out.trans (q2.mono HMX.out.size)
          have HP2 := HPX.out.kept q2
          have HB2 := HBX.out.kept q2
          have HP3 : Hid (BoxP w2 w.heap.size (.slice (some ⟨b, off, none⟩) ns.length cap1) (.slice a2 ls.length cap2)) := HP2
          obtain ⟨y0, y1⟩ := HP2
          obtain ⟨x0, x1, x2, x3⟩ := HB2
          dsimp only at x0 x1 x2 x3
          clear q2 c0 c1 c2 c3 k0 k1 HPL HMX HBX HPX HP
          generalize wr.heap.size = X at *
          clear HM
          cases hpl : placesV ⟨xk, xl, xb, xf⟩ with
          | false =>
            have HX : Hid (popOk ns ls = false) := HFIN.out (by rw [HST.out, hpl]; rfl)
            clear hpl
            go_wp2_with fail
            go_ret
            exact ⟨ret_bool HX.out.symm, HM2.out⟩
          | true =>
            have hw : isW xk = true ∧ isW xl = true := by
              unfold placesV at hpl
              simp only [Bool.and_eq_true] at hpl
              exact ⟨hpl.1.1.1, hpl.1.1.2⟩
            obtain ⟨p0, p1⟩ := isW_parts hw.1
            obtain ⟨s0, s1⟩ := isW_parts hw.2
            obtain ⟨m, rfl⟩ := Int.eq_ofNat_of_zero_le p0
            obtain ⟨l, rfl⟩ := Int.eq_ofNat_of_zero_le s0
            have HST2 : Hid (nodesOkN ns ls.length (k + 1) = (rowV m xb ((k : Int) + 1) ns.length && rowV l xf 0 ls.length)) := by unfold Hid; rw [HST.out, hpl, nodeBase_row, nodeLeafs_row]; rfl
            have HR1 : Hid (∀ W, Calls Try.prog 58 #[.int .i64 m, .int .i64 xb, .int .i64 ((k : Int) + 1), .int .i64 ns.length] W fun e w' => e = .returned (.bool (rowV m xb ((k : Int) + 1) ns.length)) ∧ w' = W) := fun W => implRowLies_any m xb _ _ W (by omega) (by omega) (by omega)
            have HR2 : Hid (∀ W, Calls Try.prog 58 #[.int .i64 l, .int .i64 xf, .int .i64 0, .int .i64 ls.length] W fun e w' => e = .returned (.bool (rowV l xf 0 ls.length)) ∧ w' = W) := fun W => implRowLies_any l xf _ _ W (by omega) (by omega) (by omega)
            clear hw hpl HST
            cases hr1 : rowV m xb ((k : Int) + 1) ns.length with
            | false =>
              have HX : Hid (popOk ns ls = false) := HFIN.out (by rw [HST2.out, hr1]; rfl)
              rw [hr1] at HR1
              clear hr1
              go_wp2_with fail
              refine (HR1.out _).mono ?_
              rintro e w2 ⟨rfl, rfl⟩
              go_wp2_with fail
              go_ret
              exact ⟨ret_bool HX.out.symm, HM2.out⟩
            | true =>
              rw [hr1] at HR1 HST2
              clear hr1
              cases hr2 : rowV l xf 0 ls.length with
              | false =>
                have HX : Hid (popOk ns ls = false) := HFIN.out (by rw [HST2.out, hr2]; rfl)
                rw [hr2] at HR2
                clear hr2
                go_wp2_with fail
                refine (HR1.out _).mono ?_
                rintro e w2 ⟨rfl, rfl⟩
                go_wp2_with fail
                refine (HR2.out _).mono ?_
                rintro e w2 ⟨rfl, rfl⟩
                go_wp2_with fail
                go_ret
                exact ⟨ret_bool HX.out.symm, HM2.out⟩
              | true =>
                have HX : Hid (nodesOkN ns ls.length (k + 1) = true) := by unfold Hid; rw [HST2.out, hr2]; rfl
                rw [hr2] at HR2
                clear hr2
                go_wp2_with fail
                refine (HR1.out _).mono ?_
                rintro e w2 ⟨rfl, rfl⟩
                go_wp2_with fail
                refine (HR2.out _).mono ?_
                rintro e w2 ⟨rfl, rfl⟩
                go_wp2_with fail
                go_roundw
                case rel => exact ⟨k + 1, by omega, by go_num, HX.out, HP3.out, HM2.out⟩
                case measure => simp [intOf]; omega
        · have hkl : k = ns.length := by omega
          have HV2 : Hid (popOk ns ls = ls.all leafOk) := by unfold Hid; rw [HV.out, ← hkl, HK.out]; rfl
          clear HV HK hkl
          go_wp2_with fail
          generalize hwo : wr = wo at *
          go_loopw [56] (fun i wi => ∃ j : Nat, j ≤ ls.length ∧ i = .int .i64 j ∧ ls.all leafOk = (ls.drop j).all leafOk ∧ wi = wo) (fun i _ => ls.length - (intOf i).toNat)
          case atStart => exact ⟨0, Nat.zero_le _, rfl, rfl, rfl⟩
          case round =>
            obtain ⟨j, hj, rfl, hall, rfl⟩ := hrel
            have HA : Hid (ls.all leafOk = (ls.drop j).all leafOk) := hall
            clear hall
            by_cases hlj : j < ls.length
            · obtain ⟨b2, o2, rfl, hb2, hat⟩ : ∃ b off, a2 = some ⟨b, off, none⟩ ∧ b < wr.heap.size ∧ IntsAt wr b off ls := by
                rcases H2.out.below HM.out with h | h
                · rw [h] at hlj; simp at hlj
                · exact h
              have c := hat j hlj
              have hv := HJ.out ls[j] (List.getElem_mem hlj)
              have HS : Hid ((ls.drop j).all leafOk = (leafOk ls[j] && (ls.drop (j + 1)).all leafOk)) := by unfold Hid; rw [List.drop_eq_getElem_cons hlj]; rfl
              generalize ls[j] = v at *
              unfold In64s at hv
              clear hat
              by_cases v0 : v < 0
              · have HX : Hid (popOk ns ls = false) := by unfold Hid; rw [HV2.out, HA.out, HS.out]; unfold leafOk; rw [decide_eq_false (show ¬ 0 ≤ v by omega)]; rfl
                have hd : decide (v < 0) = true := by simpa using v0
                go_wp2_with fail
                go_ret
                exact ⟨ret_bool HX.out.symm, HM.out⟩
              · have hd : decide (v < 0) = false := by simpa using v0
                by_cases v1 : 1000 < v
                · have HX : Hid (popOk ns ls = false) := by unfold Hid; rw [HV2.out, HA.out, HS.out]; unfold leafOk; rw [decide_eq_false (show ¬ v ≤ 1000 by omega), Bool.and_false]; rfl
                  have hd1 : decide (1000 < v) = true := by simpa using v1
                  go_wp2_with fail
                  go_ret
                  exact ⟨ret_bool HX.out.symm, HM.out⟩
                · have HX : Hid (ls.all leafOk = (ls.drop (j + 1)).all leafOk) := by unfold Hid; rw [HA.out, HS.out]; unfold leafOk; rw [decide_eq_true (show 0 ≤ v by omega), decide_eq_true (show v ≤ 1000 by omega)]; rfl
                  have hd1 : decide (1000 < v) = false := by simpa using v1
                  go_wp2_with fail
                  go_roundw
                  case rel => exact ⟨j + 1, by omega, by go_num, HX.out, by first | trivial | rfl⟩
                  case measure => simp [intOf]; omega
            · have HX : Hid (popOk ns ls = true) := by unfold Hid; rw [HV2.out, HA.out, List.drop_eq_nil_of_le (by omega)]; rfl
              go_wp2_with fail
              go_ret
              exact ⟨ret_bool HX.out.symm, HM.out⟩

end Go.Proofs.Ytmhkhbpedfdocah
