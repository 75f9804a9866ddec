/- Find: what the specification's l03Find and RoutesFind answer. -/
import Derived.Test.YtmhkhbpedfdocaaRoutes
import Derived.Deep.RegionWith
namespace Go.Proofs.Ytmhkhbpedfdocaa
open Go.RowKit Go.PlainAid
set_option linter.unusedVariables false
set_option linter.unusedSimpArgs false

theorem bestV_drop {p : Rt → Bool} {rs : List Rt} {k : Nat} (h : k < rs.length) (s : Int × Int) : bestV p (rs.drop k) s = bestV p (rs.drop (k + 1)) (if decide (s.2 < rs[k].bits) && p rs[k] then (rs[k].hop, rs[k].bits) else s) := by
  rw [List.drop_eq_getElem_cons h]; rfl
theorem bestV_end {p : Rt → Bool} {rs : List Rt} {k : Nat} (h : rs.length ≤ k) (s : Int × Int) : bestV p (rs.drop k) s = s := by
  rw [List.drop_eq_nil_of_le h]; rfl

set_option maxRecDepth 100000 in
set_option maxHeartbeats 1000000 in
theorem spec03Find_any (rs : List Rt) (a : ByteArray) (b off cap : Nat) (w : World) (hb : b < w.heap.size) (hin : RtsIn rs) (hlen : rs.length ≤ 1048576) (hbits : ∀ q ∈ rs, q.bits ≤ 8 * (q.addr.size : Int)) (ha : a.size ≤ 1048576) (hr : RtsAt w b off rs) :
    Calls Try.prog 60 #[.slice (some ⟨b, off, none⟩) rs.length cap, .string a] w fun e w' => e = .returned (.int .i64 (findV rs a)) ∧ Below w.heap.size w w' := by
  have HR : Hid (RtsAt w b off rs) := hr
  have HI : Hid (RtsIn rs) := hin
  have HB : Hid (∀ q ∈ rs, q.bits ≤ 8 * (q.addr.size : Int)) := hbits
  clear hr hin hbits
  go_enter Try.func60, Try.ntmps60
  go_wp2_with fail
  go_loopw [5, 6, 7] (fun h m i wr => ∃ (k : Nat) (hop most : Int), k ≤ rs.length ∧ i = .int .i64 k ∧ h = .int .i64 hop ∧ m = .int .i64 most ∧ bestV (fun q => hasV q.addr q.bits a) rs (0, -1) = bestV (fun q => hasV q.addr q.bits a) (rs.drop k) (hop, most) ∧ Below w.heap.size w wr) (fun _ _ i _ => rs.length - (intOf i).toNat)
  case atStart => exact ⟨0, 0, -1, Nat.zero_le _, rfl, rfl, rfl, rfl, Below.refl _ _⟩
  case round =>
    obtain ⟨k, hop, most, hk, rfl, rfl, rfl, hbest, hbel⟩ := hrel
    have HK : Hid _ := hbest
    have HL : Hid (Below w.heap.size w wr) := hbel
    clear hbest hbel
    by_cases hlt : k < rs.length
    · have HA := HR.out.below hb HL.out
      have c0 := HA.c0 k hlt
      have c1 := HA.c1 k hlt
      have c2 := HA.c2 k hlt
      have hI := HI.out rs[k] (List.getElem_mem hlt)
      have hB := HB.out rs[k] (List.getElem_mem hlt)
      have hst := bestV_drop (p := fun q => hasV q.addr q.bits a) hlt (hop, most)
      obtain ⟨q, hq⟩ : ∃ q, q = rs[k] := ⟨_, rfl⟩
      rw [← hq] at c0 c1 c2 hI hB hst
      have HST : Hid _ := hst
      obtain ⟨hI1, hI2, hI3⟩ := hI
      clear hq HA hst
      have HH : Hid (∀ W, Calls Try.prog 55 #[.string q.addr, .int .i64 q.bits, .string a] W fun e w' => e = .returned (.bool (hasV q.addr q.bits a)) ∧ w' = W) := fun W => specHas_any q.addr q.bits a W hI1 ha hB
      by_cases hm : most < q.bits
      · cases hh : hasV q.addr q.bits a with
        | true =>
          have HX : Hid (bestV (fun q => hasV q.addr q.bits a) (rs.drop k) (hop, most) = bestV (fun q => hasV q.addr q.bits a) (rs.drop (k + 1)) (q.hop, q.bits)) := by unfold Hid; rw [HST.out]; simp [hm, hh]
          rw [hh] at HH
          clear hh HST
          go_wp2_with fail
          go_quiet ((go_at_call 55; exact Calls.quiet_of_same (HH.out _)))
          all_goals
            go_wp2_with fail
            go_roundw
            case rel => exact ⟨k + 1, q.hop, q.bits, by omega, by go_num, rfl, rfl, by rw [HK.out, HX.out], HL.out.trans ⟨rfl, rfl, rfl, Nat.le_refl _, fun _ _ => rfl⟩⟩
            case measure => simp [intOf]; omega
        | false =>
          have HX : Hid (bestV (fun q => hasV q.addr q.bits a) (rs.drop k) (hop, most) = bestV (fun q => hasV q.addr q.bits a) (rs.drop (k + 1)) (hop, most)) := by unfold Hid; rw [HST.out]; simp [hh]
          rw [hh] at HH
          clear hh HST
          go_wp2_with fail
          go_quiet ((go_at_call 55; exact Calls.quiet_of_same (HH.out _)))
          all_goals
            go_wp2_with fail
            go_roundw
            case rel => exact ⟨k + 1, hop, most, by omega, by go_num, rfl, rfl, by rw [HK.out, HX.out], HL.out.trans ⟨rfl, rfl, rfl, Nat.le_refl _, fun _ _ => rfl⟩⟩
            case measure => simp [intOf]; omega
      · have HX : Hid (bestV (fun q => hasV q.addr q.bits a) (rs.drop k) (hop, most) = bestV (fun q => hasV q.addr q.bits a) (rs.drop (k + 1)) (hop, most)) := by unfold Hid; rw [HST.out]; simp [hm]
        have hd : decide (most < q.bits) = false := by simpa using hm
        clear HST hm
        go_wp2_with fail
        go_quiet ((go_at_call 55; exact Calls.quiet_of_same (HH.out _)))
        all_goals
          go_wp2_with fail
          go_roundw
          case rel => exact ⟨k + 1, hop, most, by omega, by go_num, rfl, rfl, by rw [HK.out, HX.out], HL.out.trans ⟨rfl, rfl, rfl, Nat.le_refl _, fun _ _ => rfl⟩⟩
          case measure => simp [intOf]; omega
    · have HX : Hid (findV rs a = hop) := by unfold Hid findV; rw [HK.out, bestV_end (by omega)]
      go_wp2_with fail
      go_ret
      exact ⟨ret_int HX.out.symm, HL.out⟩

/-- What RoutesFind answers. -/
def routesFindV (rs : List Rt) (a : ByteArray) : Int := if routesOk rs && addrOk a then findV rs a else 0

set_option maxRecDepth 100000 in
set_option maxHeartbeats 1000000 in
theorem specRoutesFind_any (rs : List Rt) (a : ByteArray) (b off cap : Nat) (w : World) (hb : b < w.heap.size) (hin : RtsIn rs) (ha : a.size ≤ 1048576) (hr : RtsAt w b off rs) :
    Calls Try.prog 26 #[.slice (some ⟨b, off, none⟩) rs.length cap, .string a] w fun e w' => e = .returned (.int .i64 (routesFindV rs a)) ∧ Below w.heap.size w w' := by
  have HR : Hid (RtsAt w b off rs) := hr
  clear hr
  by_cases hlong : (400 : Int) < (rs.length : Int)
  · have HV : Hid (routesFindV rs a = 0) := by unfold Hid routesFindV routesOk; rw [decide_eq_false (show ¬ rs.length ≤ 100 by omega)]; rfl
    go_enter Try.func26, Try.ntmps26
    go_wp2_with fail
    go_ret
    exact ⟨ret_int HV.out.symm, Below.refl _ _⟩
  · have HC : Hid (∀ W, Below w.heap.size w W → Calls Try.prog 27 #[.slice (some ⟨b, off, none⟩) rs.length cap] W fun e w' => e = .returned (.bool (routesOk rs)) ∧ Below W.heap.size W w') := fun W hW => specRoutesRight_any rs b off cap W (Nat.lt_of_lt_of_le hb hW.size) hin (HR.out.below hb hW)
    have HD : Hid (∀ W, Calls Try.prog 30 #[.string a] W fun e w' => e = .returned (.bool (addrOk a)) ∧ w' = W) := fun W => specAddrRight_any a W
    cases hok : routesOk rs with
    | false =>
      have HV : Hid (routesFindV rs a = 0) := by unfold Hid routesFindV; rw [hok]; rfl
      rw [hok] at HC
      clear hok
      go_enter Try.func26, Try.ntmps26
      go_wp2_with fail
      refine (HC.out _ (Below.refl _ _)).mono ?_
      rintro e w1 ⟨rfl, hb1⟩
      go_wp2_with fail
      go_ret
      exact ⟨ret_int HV.out.symm, hb1⟩
    | true =>
      have hall := routesOk_all hok
      have HBI : Hid (∀ q ∈ rs, q.bits ≤ 8 * (q.addr.size : Int)) := fun q hq => by
        have h1 := hall.2 q hq
        simp only [routeOk, Bool.and_eq_true] at h1
        exact (prefixOk_le h1.1.1).2.1
      rw [hok] at HC
      cases hao : addrOk a with
      | false =>
        have HV : Hid (routesFindV rs a = 0) := by unfold Hid routesFindV; rw [hao, Bool.and_false]; rfl
        rw [hao] at HD
        clear hok hao
        go_enter Try.func26, Try.ntmps26
        go_wp2_with fail
        refine (HC.out _ (Below.refl _ _)).mono ?_
        rintro e w1 ⟨rfl, hb1⟩
        go_wp2_with fail
        refine (HD.out _).mono ?_
        rintro e w1 ⟨rfl, rfl⟩
        go_wp2_with fail
        go_ret
        exact ⟨ret_int HV.out.symm, hb1⟩
      | true =>
        have HV : Hid (routesFindV rs a = findV rs a) := by unfold Hid routesFindV; rw [hok, hao]; rfl
        rw [hao] at HD
        clear hok hao
        have hlen : rs.length ≤ 1048576 := by omega
        go_enter Try.func26, Try.ntmps26
        go_wp2_with fail
        refine (HC.out _ (Below.refl _ _)).mono ?_
        rintro e w1 ⟨rfl, hb1⟩
        have HB1 : Hid (Below w.heap.size w w1) := hb1
        go_wp2_with fail
        refine (HD.out _).mono ?_
        rintro e w1 ⟨rfl, rfl⟩
        go_wp2_with fail
        refine (spec03Find_any rs a b off cap _ (Nat.lt_of_lt_of_le hb HB1.out.size) hin hlen HBI.out ha (HR.out.below hb HB1.out)).mono ?_
        rintro e w2 ⟨rfl, hb2⟩
        go_wp2_with fail
        go_ret
        exact ⟨ret_int HV.out.symm, HB1.out.trans (hb2.mono HB1.out.size)⟩

end Go.Proofs.Ytmhkhbpedfdocaa
