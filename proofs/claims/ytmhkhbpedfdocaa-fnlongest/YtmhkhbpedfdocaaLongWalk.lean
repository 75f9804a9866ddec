/- The law FnLongest, walked: whatever is drawn, it returns true. -/
import Derived.Test.YtmhkhbpedfdocaaDrawRFind
import Derived.Test.YtmhkhbpedfdocaaRowBytes
import Derived.Test.YtmhkhbpedfdocaaIRoutes
namespace Go.Proofs.Ytmhkhbpedfdocaa
open Go.RowKit Go.PlainAid
set_option linter.unusedVariables false
set_option linter.unusedSimpArgs false

theorem rtsIn_drawn {rs : List Rt} (h : ∀ q ∈ rs, RtD q) : RtsIn rs := fun q hq => ⟨by have := (h q hq).1; omega, (h q hq).2.1, (h q hq).2.2⟩

set_option maxRecDepth 100000 in
set_option maxHeartbeats 1000000 in
theorem longWalk (a0 : Option Addr) (len0 cap0 : Nat) (w : World) (h0 : len0 ≤ 1048576) (b0 : Bytes w a0 len0 w.heap.size) :
    Calls Try.prog 6 #[.slice a0 len0 cap0] w fun e w' => e = .returned (.bool true) ∧ Below w.heap.size w w' := by
  have B0 : Hid (Bytes w a0 len0 w.heap.size) := b0
  clear b0
  go_enter Try.func6, Try.ntmps6
  go_wp2_with fail
  refine (drawRFind_any a0 len0 cap0 _ h0 B0.out).mono ?_
  rintro e w1 ⟨g, c, rs, s, rfl, hc, h14, hall, hsz, hg, hat, hbel⟩
  have hin := rtsIn_drawn hall
  have HI : Hid (RtsIn rs) := hin
  have H1 : Hid (Below w.heap.size w w1) := hbel
  have HT : Hid (RtsAt w1 g 0 rs) := hat
  have hs2 : s.size ≤ 1048576 := by omega
  have HC : Hid (∀ W, Below w1.heap.size w1 W → Calls Try.prog 27 #[.slice (some ⟨g, 0, none⟩) rs.length c] W fun e w' => e = .returned (.bool (routesOk rs)) ∧ Below W.heap.size W w') := fun W hW => specRoutesRight_any rs g 0 c W (Nat.lt_of_lt_of_le hg hW.size) HI.out (HT.out.below hg hW)
  have HD : Hid (∀ W, Calls Try.prog 30 #[.string s] W fun e w' => e = .returned (.bool (addrOk s)) ∧ w' = W) := fun W => specAddrRight_any s W
  clear hbel hat hall hin B0
  go_wp2_with fail
  refine (implRoutesFind_any rs s g 0 c _ hc hg HI.out hs2 HT.out).mono ?_
  rintro e w2 ⟨rfl, q2⟩
  have H2 : Hid (Below w1.heap.size w1 w2) := q2
  clear q2
  cases hok : routesOk rs with
  | false =>
    have HV : Hid (routesFindV rs s = 0) := by unfold Hid routesFindV; rw [hok]; rfl
    rw [hok] at HC
    clear hok
    rw [HV.out]
    go_wp2_with fail
    refine (HC.out _ H2.out).mono ?_
    rintro e w3 ⟨rfl, q3⟩
    have H3 : Hid (Below w.heap.size w w3) := (H1.out.trans (H2.out.mono H1.out.size)).trans (q3.mono (Nat.le_trans H1.out.size H2.out.size))
    clear q3
    go_wp2_with fail
    go_ret
    exact ⟨rfl, H3.out⟩
  | true =>
    have HF : Hid ((bestV (fun q => prefixHasV q.addr q.bits s) rs (0, -1)).1 = routesFindV rs s) := find_has rs s hok
    cases hao : addrOk s with
    | false =>
      have HV : Hid (routesFindV rs s = 0) := by unfold Hid routesFindV; rw [hao, Bool.and_false]; rfl
      rw [hok] at HC
      rw [hao] at HD
      clear hok hao
      rw [HV.out]
      go_wp2_with fail
      refine (HC.out _ H2.out).mono ?_
      rintro e w3 ⟨rfl, q3⟩
      have H3 : Hid (Below w.heap.size w w3) := (H1.out.trans (H2.out.mono H1.out.size)).trans (q3.mono (Nat.le_trans H1.out.size H2.out.size))
      clear q3
      go_wp2_with fail
      refine (HD.out _).mono ?_
      rintro e w4 ⟨rfl, rfl⟩
      go_wp2_with fail
      go_ret
      exact ⟨rfl, H3.out⟩
    | true =>
      rw [hok] at HC
      rw [hao] at HD
      clear hok hao
      generalize routesFindV rs s = hop0 at *
      go_wp2_with fail
      refine (HC.out _ H2.out).mono ?_
      rintro e w3 ⟨rfl, q3⟩
      have H3 : Hid (Below w1.heap.size w1 w3) := H2.out.trans (q3.mono H2.out.size)
      clear q3
      go_wp2_with fail
      refine (HD.out _).mono ?_
      rintro e w4 ⟨rfl, rfl⟩
      clear HC HD H2
      go_wp2_with fail
      go_loopw [6, 7, 8] (fun m h i wr => ∃ (k : Nat) (hop most : Int), k ≤ rs.length ∧ i = .int .i64 k ∧ h = .int .i64 hop ∧ m = .int .i64 most ∧ bestV (fun q => prefixHasV q.addr q.bits s) rs (0, -1) = bestV (fun q => prefixHasV q.addr q.bits s) (rs.drop k) (hop, most) ∧ Below w1.heap.size w1 wr) (fun _ _ i _ => rs.length - (intOf i).toNat)
      case atStart => exact ⟨0, 0, -1, Nat.zero_le _, rfl, rfl, rfl, rfl, H3.out⟩
      case round =>
        obtain ⟨k, hop, most, hk, rfl, rfl, rfl, hbest, hbel⟩ := hrel
        have HK : Hid _ := hbest
        have HL : Hid (Below w1.heap.size w1 wr) := hbel
        clear hbest hbel
        by_cases hlt : k < rs.length
        · have hlt' : (k : Int) < (rs.length : Int) := by omega
          have HA := HT.out.below hg HL.out
          have c0 := HA.c0 k hlt
          have c1 := HA.c1 k hlt
          have hI := HI.out rs[k] (List.getElem_mem hlt)
          have hst := bestV_drop (p := fun q => prefixHasV q.addr q.bits s) hlt (hop, most)
          have HQ : Hid (∀ W, Below w1.heap.size w1 W → W.cell? ⟨g, 0 + k * 3, none⟩ = some (.string rs[k].addr) ∧ W.cell? ⟨g, 0 + k * 3 + 1, none⟩ = some (.int .i64 rs[k].bits) ∧ W.cell? ⟨g, 0 + k * 3 + 2, none⟩ = some (.int .i64 rs[k].hop)) := fun W hW => by
            have := HT.out.below hg hW
            exact ⟨this.c0 k hlt, this.c1 k hlt, this.c2 k hlt⟩
          generalize rs[k] = q at *
          rw [Nat.zero_add] at c0 c1 HQ
          have HST : Hid _ := hst
          obtain ⟨hI1, hI2, hI3⟩ := hI
          clear HA hst
          have HS : Hid (∀ W, Calls Try.prog 32 #[.agg #[.string q.addr, .int .i64 q.bits], .string s] W fun e w' => e = .returned (.bool (prefixHasV q.addr q.bits s)) ∧ Below W.heap.size W w') := fun W => specPrefixHas_any q.addr q.bits s W hI1 hs2
          have HM : Hid (∀ W, Calls Try.prog 21 #[.agg #[.string q.addr, .int .i64 q.bits], .string s] W fun e w' => e = .returned (.bool (prefixHasV q.addr q.bits s)) ∧ Below W.heap.size W w') := fun W => implPrefixHas_any q.addr q.bits s W hI1 hs2
          cases hh : prefixHasV q.addr q.bits s with
          | false =>
            have HX : Hid (bestV (fun q => prefixHasV q.addr q.bits s) (rs.drop k) (hop, most) = bestV (fun q => prefixHasV q.addr q.bits s) (rs.drop (k + 1)) (hop, most)) := by unfold Hid; rw [HST.out]; simp [hh]
            rw [hh] at HS HM
            clear hh HST
            go_wp2_with fail
            refine (HS.out _).mono ?_
            rintro e w5 ⟨rfl, q5⟩
            have H5 : Hid (Below w1.heap.size w1 w5) := HL.out.trans (q5.mono HL.out.size)
            clear q5 c0 c1
            obtain ⟨c0, c1, c2⟩ := HQ.out _ H5.out
            go_wp2_with fail
            refine (HM.out _).mono ?_
            rintro e w6 ⟨rfl, q6⟩
            have H6 : Hid (Below w1.heap.size w1 w6) := H5.out.trans (q6.mono H5.out.size)
            clear q6 c0 c1 c2
            go_wp2_with fail
            go_roundw
            case rel => exact ⟨k + 1, hop, most, by omega, by go_num, rfl, rfl, by rw [HK.out, HX.out], H6.out⟩
            case measure => simp [intOf]; omega
          | true =>
            rw [hh] at HS HM
            by_cases hm : most < q.bits
            · have HX : Hid (bestV (fun q => prefixHasV q.addr q.bits s) (rs.drop k) (hop, most) = bestV (fun q => prefixHasV q.addr q.bits s) (rs.drop (k + 1)) (q.hop, q.bits)) := by unfold Hid; rw [HST.out]; simp [hm, hh]
              clear hh HST
              go_wp2_with fail
              refine (HS.out _).mono ?_
              rintro e w5 ⟨rfl, q5⟩
              have H5 : Hid (Below w1.heap.size w1 w5) := HL.out.trans (q5.mono HL.out.size)
              clear q5 c0 c1
              obtain ⟨c0, c1, c2⟩ := HQ.out _ H5.out
              go_wp2_with fail
              refine (HM.out _).mono ?_
              rintro e w6 ⟨rfl, q6⟩
              have H6 : Hid (Below w1.heap.size w1 w6) := H5.out.trans (q6.mono H5.out.size)
              clear q6 c0 c1 c2
              obtain ⟨c0, c1, c2⟩ := HQ.out _ H6.out
              go_wp2_with fail
              go_roundw
              case rel => exact ⟨k + 1, q.hop, q.bits, by omega, by go_num, rfl, rfl, by rw [HK.out, HX.out], H6.out⟩
              case measure => simp [intOf]; omega
            · have HX : Hid (bestV (fun q => prefixHasV q.addr q.bits s) (rs.drop k) (hop, most) = bestV (fun q => prefixHasV q.addr q.bits s) (rs.drop (k + 1)) (hop, most)) := by unfold Hid; rw [HST.out]; simp [hm]
              have hd : decide (most < q.bits) = false := by simpa using hm
              clear hh HST
              go_wp2_with fail
              refine (HS.out _).mono ?_
              rintro e w5 ⟨rfl, q5⟩
              have H5 : Hid (Below w1.heap.size w1 w5) := HL.out.trans (q5.mono HL.out.size)
              clear q5 c0 c1
              obtain ⟨c0, c1, c2⟩ := HQ.out _ H5.out
              go_wp2_with fail
              refine (HM.out _).mono ?_
              rintro e w6 ⟨rfl, q6⟩
              have H6 : Hid (Below w1.heap.size w1 w6) := H5.out.trans (q6.mono H5.out.size)
              clear q6 c0 c1 c2
              obtain ⟨c0, c1, c2⟩ := HQ.out _ H6.out
              go_wp2_with fail
              go_roundw
              case rel => exact ⟨k + 1, hop, most, by omega, by go_num, rfl, rfl, by rw [HK.out, HX.out], H6.out⟩
              case measure => simp [intOf]; omega
        · have hlt' : ¬ (k : Int) < (rs.length : Int) := by omega
          have HX : Hid (hop0 = hop) := by unfold Hid; rw [← HF.out, HK.out, bestV_end (by omega)]
          have HZ : Hid (Below w.heap.size w wr) := H1.out.trans (HL.out.mono H1.out.size)
          have hx := HX.out
          subst hx
          go_wp2_with fail
          go_ret
          exact ⟨rfl, HZ.out⟩

end Go.Proofs.Ytmhkhbpedfdocaa
