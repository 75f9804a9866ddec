/- Routes: what the program's RoutesRight and RoutesFind answer. -/
import Derived.Test.YtmhkhbpedfdocaaFind
import Derived.Test.YtmhkhbpedfdocaaIHas
namespace Go.Proofs.Ytmhkhbpedfdocaa
open Go.RowKit Go.PlainAid
set_option linter.unusedVariables false
set_option linter.unusedSimpArgs false

/-- A route in a box of its own. -/
structure BoxR (w : World) (B : Nat) (q : Rt) : Prop where
  c0 : w.cell? ⟨B, 0, none⟩ = some (.string q.addr)
  c1 : w.cell? ⟨B, 1, none⟩ = some (.int .i64 q.bits)
  c2 : w.cell? ⟨B, 2, none⟩ = some (.int .i64 q.hop)

theorem BoxR.kept {w W : World} {B : Nat} {q : Rt} (h : BoxR w B q) (hB : Below w.heap.size w W) : BoxR W B q := by
  have hb := World.block_lt_of_cell? w _ h.c0
  exact ⟨((bcell hB).1 B 0 hb).trans h.c0, ((bcell hB).1 B 1 hb).trans h.c1, ((bcell hB).1 B 2 hb).trans h.c2⟩

theorem BoxR.new (w : World) (q : Rt) : BoxR (w.alloc (.cells #[.string q.addr, .int .i64 q.bits, .int .i64 q.hop] 54)) w.heap.size q := ⟨by simp, by simp, by simp⟩

set_option maxRecDepth 100000 in
set_option maxHeartbeats 1000000 in
theorem implRoutesRight_any (rs : List Rt) (b off cap : Nat) (w : World) (hcap : rs.length ≤ cap) (hb : b < w.heap.size) (hin : RtsIn rs) (hr : RtsAt w b off rs) :
    Calls Try.prog 59 #[.slice (some ⟨b, off, none⟩) rs.length cap] w fun e w' => e = .returned (.bool (routesOk rs)) ∧ Below w.heap.size w w' := by
  have HR : Hid (RtsAt w b off rs) := hr
  have HI : Hid (RtsIn rs) := hin
  clear hr hin
  by_cases h100 : rs.length ≤ 100
  · have HV : Hid (routesOk rs = rightN rs rs.length) := by unfold Hid routesOk; rw [decide_eq_true h100]; rfl
    have h100' : ¬ (100 : Int) < (rs.length : Int) := by omega
    go_enter Try.func59, Try.ntmps59
    go_wp2_with fail
    go_loopw [12] (fun i wr => ∃ k : Nat, k ≤ rs.length ∧ i = .int .i64 k ∧ rightN rs k = true ∧ Below w.heap.size w wr) (fun i _ => rs.length - (intOf i).toNat)
    case atStart => exact ⟨0, Nat.zero_le _, rfl, rfl, Below.refl _ _⟩
    case round =>
      obtain ⟨k, hk, rfl, hrk, hbel⟩ := hrel
      have HK : Hid (rightN rs k = true) := hrk
      have HL : Hid (Below w.heap.size w wr) := hbel
      clear hrk hbel
      by_cases hlt : k < rs.length
      · have HA := HR.out.below hb HL.out
        have c0 := HA.c0 k hlt
        have c1 := HA.c1 k hlt
        have c2 := HA.c2 k hlt
        have hI := HI.out rs[k] (List.getElem_mem hlt)
        obtain ⟨q, hq⟩ : ∃ q, q = rs[k] := ⟨_, rfl⟩
        rw [← hq] at c0 c1 c2 hI
        have HQ : Hid (q = rs[k]) := hq
        obtain ⟨hI1, hI2, hI3⟩ := hI
        have HP : Hid (∀ W, Calls Try.prog 52 #[.agg #[.string q.addr, .int .i64 q.bits]] W fun e w' => e = .returned (.bool (prefixOk q.addr q.bits)) ∧ Below W.heap.size W w') := fun W => implPrefixRight_any q.addr q.bits W hI1
        have HST : Hid (rightN rs (k + 1) = (routeOk q && !dupV rs q k)) := by unfold Hid; rw [rightN_step hlt, HK.out, ← HQ.out]; rfl
        have HRO : Hid (routeOk q = (prefixOk q.addr q.bits && decide (1 ≤ q.hop) && decide (q.hop ≤ 1000))) := rfl
        have HFIN : Hid (rightN rs (k + 1) = false → routesOk rs = false) := fun h => by rw [HV.out]; exact rightN_mono h _ (by omega)
        have HBX : Hid (BoxR (wr.alloc (.cells #[.string q.addr, .int .i64 q.bits, .int .i64 q.hop] 54)) wr.heap.size q) := BoxR.new wr q
        have HLA : Hid (Below w.heap.size w (wr.alloc (.cells #[.string q.addr, .int .i64 q.bits, .int .i64 q.hop] 54))) := HL.out.alloc HL.out.size _
        clear hq HA
        go_wp2_with fail
        refine (HP.out _).mono ?_
        rintro e w2 ⟨rfl, q2⟩
        have HL2 : Hid (Below w.heap.size w w2) := HLA.out.trans (q2.mono HLA.out.size)
        have HA2 : Hid (RtsAt w2 b off rs) := HR.out.below hb HL2.out
        have HB2 : Hid (BoxR w2 wr.heap.size q) := HBX.out.kept q2
        have x2 := HB2.out.c2
        clear q2 c0 c1 c2 HP HBX HLA
        generalize wr.heap.size = B at *
        clear HL
        cases hok : prefixOk q.addr q.bits with
        | false =>
          have HX : Hid (routesOk rs = false) := HFIN.out (by rw [HST.out, HRO.out, hok]; rfl)
          clear hok
          go_wp2_with fail
          go_ret
          exact ⟨ret_bool HX.out.symm, HL2.out⟩
        | true =>
          by_cases p1 : q.hop < 1
          · have HX : Hid (routesOk rs = false) := HFIN.out (by rw [HST.out, HRO.out, hok, decide_eq_false (show ¬ 1 ≤ q.hop by omega)]; rfl)
            clear hok
            go_wp2_with fail
            go_ret
            exact ⟨ret_bool HX.out.symm, HL2.out⟩
          · by_cases p2 : 1000 < q.hop
            · have HX : Hid (routesOk rs = false) := HFIN.out (by rw [HST.out, HRO.out, hok, decide_eq_false (show ¬ q.hop ≤ 1000 by omega), Bool.and_false]; rfl)
              clear hok
              go_wp2_with fail
              go_ret
              exact ⟨ret_bool HX.out.symm, HL2.out⟩
            · have HST2 : Hid (rightN rs (k + 1) = !dupV rs q k) := by unfold Hid; rw [HST.out, HRO.out, hok, decide_eq_true (show 1 ≤ q.hop by omega), decide_eq_true (show q.hop ≤ 1000 by omega)]; rfl
              have hcd : decide ((k : Int) < (rs.length : Int)) = true := by simp; omega
              have hkc : (k : Int) ≤ (cap : Int) := by omega
              clear hok HST HRO
              go_wp2_with fail
              go_loopw [35] (fun j wi => ∃ m : Nat, m ≤ k ∧ j = .int .i64 m ∧ dupV rs q m = false ∧ Below w2.heap.size w2 wi) (fun j _ => k - (intOf j).toNat)
              case atStart => exact ⟨0, Nat.zero_le _, rfl, rfl, Below.refl _ _⟩
              case round =>
                obtain ⟨m, hm, rfl, hdm, hbel⟩ := hrel
                have HD : Hid (dupV rs q m = false) := hdm
                have HL3 : Hid (Below w2.heap.size w2 wr) := hbel
                have HW3 : Hid (Below w.heap.size w wr) := HL2.out.trans (hbel.mono HL2.out.size)
                clear hdm hbel
                by_cases hmk : m < k
                · have hml : m < rs.length := by omega
                  have HA3 := HR.out.below hb HW3.out
                  have HB3 := HB2.out.kept HL3.out
                  have d0 := HB3.c0
                  have d1 := HB3.c1
                  have f0 := HA3.c0 m hml
                  have f1 := HA3.c1 m hml
                  have f2 := HA3.c2 m hml
                  have hBlt : B < wr.heap.size := World.block_lt_of_cell? wr _ HB3.c0
                  obtain ⟨p, hp⟩ : ∃ p, p = rs[m] := ⟨_, rfl⟩
                  rw [← hp] at f0 f1 f2
                  have heq := eqp_any p.addr q.addr p.bits q.bits
                  have HDS : Hid (dupV rs q (m + 1) = samePfx p q) := by unfold Hid; rw [dupV_step hml, HD.out, hp]; rfl
                  have HSM : Hid (samePfx p q = (decide (p.addr.toList = q.addr.toList) && decide (p.bits = q.bits))) := rfl
                  have HE3 : Hid (Below w2.heap.size w2 (wr.alloc (.cells #[.string p.addr, .int .i64 p.bits, .int .i64 p.hop] 54))) := HL3.out.alloc HL3.out.size _
                  have HF3 : Hid (Below w.heap.size w (wr.alloc (.cells #[.string p.addr, .int .i64 p.bits, .int .i64 p.hop] 54))) := HW3.out.alloc HW3.out.size _
                  cases hs : (decide (p.addr.toList = q.addr.toList) && decide (p.bits = q.bits)) with
                  | true =>
                    rw [hs] at heq
                    have HX : Hid (routesOk rs = false) := HFIN.out (by rw [HST2.out, dupV_mono (by rw [HDS.out, HSM.out]; exact hs) k (by omega)]; rfl)
                    clear hs hp HA3 HB3
                    go_wp2_with fail
                    go_ret
                    exact ⟨ret_bool HX.out.symm, HF3.out⟩
                  | false =>
                    rw [hs] at heq
                    have HX : Hid (dupV rs q (m + 1) = false) := by unfold Hid; rw [HDS.out, HSM.out]; exact hs
                    clear hs hp HA3 HB3
                    go_wp2_with fail
                    go_roundw
                    case rel => exact ⟨m + 1, by omega, by go_num, HX.out, HE3.out⟩
                    case measure => simp [intOf]; omega
                · have hmk' : m = k := by omega
                  subst hmk'
                  have HX : Hid (rightN rs (m + 1) = true) := by unfold Hid; rw [HST2.out, HD.out]; rfl
                  go_wp2_with fail
                  go_roundw
                  case rel => exact ⟨m + 1, by omega, by go_num, HX.out, HW3.out⟩
                  case measure => simp [intOf]; omega
      · have hkl : k = rs.length := by omega
        subst hkl
        go_wp2_with fail
        go_ret
        exact ⟨ret_bool (by rw [HV.out, HK.out]), HL.out⟩
  · have HV : Hid (routesOk rs = false) := by unfold Hid routesOk; rw [decide_eq_false h100]; rfl
    have h100' : (100 : Int) < (rs.length : Int) := by omega
    go_enter Try.func59, Try.ntmps59
    go_wp2_with fail
    go_ret
    exact ⟨ret_bool HV.out.symm, Below.refl _ _⟩

theorem bestV_none {p : Rt → Bool} : ∀ (l : List Rt) (s : Int × Int), (∀ q ∈ l, p q = false) → bestV p l s = s
  | [], s, _ => rfl
  | q :: l, s, h => by unfold bestV; rw [h q (by simp), Bool.and_false]; exact bestV_none l s (fun x hx => h x (by simp [hx]))

theorem find_has (rs : List Rt) (a : ByteArray) (hok : routesOk rs = true) : (bestV (fun q => prefixHasV q.addr q.bits a) rs (0, -1)).1 = routesFindV rs a := by
  unfold routesFindV
  rw [hok, Bool.true_and]
  cases hao : addrOk a with
  | true =>
    rw [if_pos rfl]
    unfold findV
    congr 1
    refine bestV_congr rs _ (fun q hq => ?_)
    have h1 := (routesOk_all hok).2 q hq
    simp only [routeOk, Bool.and_eq_true] at h1
    show prefixHasV q.addr q.bits a = hasV q.addr q.bits a
    unfold prefixHasV
    rw [h1.1.1, hao]; rfl
  | false =>
    rw [if_neg (by simp), bestV_none rs _ (fun q hq => by show prefixHasV q.addr q.bits a = false; unfold prefixHasV; rw [hao, Bool.and_false]; rfl)]

set_option maxRecDepth 100000 in
set_option maxHeartbeats 1000000 in
theorem implRoutesFind_any (rs : List Rt) (a : ByteArray) (b off cap : Nat) (w : World) (hcap : rs.length ≤ cap) (hb : b < w.heap.size) (hin : RtsIn rs) (ha : a.size ≤ 1048576) (hr : RtsAt w b off rs) :
    Calls Try.prog 25 #[.slice (some ⟨b, off, none⟩) rs.length cap, .string a] w fun e w' => e = .returned (.int .i64 (routesFindV rs a)) ∧ Below w.heap.size w w' := by
  have HR : Hid (RtsAt w b off rs) := hr
  have HI : Hid (RtsIn rs) := hin
  have HC : Hid (∀ W, Below w.heap.size w W → Calls Try.prog 59 #[.slice (some ⟨b, off, none⟩) rs.length cap] W fun e w' => e = .returned (.bool (routesOk rs)) ∧ Below W.heap.size W w') := fun W hW => implRoutesRight_any rs b off cap W hcap (Nat.lt_of_lt_of_le hb hW.size) hin (hr.below hb hW)
  clear hr hin
  cases hok : routesOk rs with
  | false =>
    have HV : Hid (routesFindV rs a = 0) := by unfold Hid routesFindV; rw [hok]; rfl
    rw [hok] at HC
    clear hok
    go_enter Try.func25, Try.ntmps25
    go_wp2_with fail
    refine (HC.out _ (Below.refl _ _)).mono ?_
    rintro e w1 ⟨rfl, hb1⟩
    go_wp2_with fail
    go_ret
    exact ⟨ret_int HV.out.symm, hb1⟩
  | true =>
    have HV : Hid ((bestV (fun q => prefixHasV q.addr q.bits a) rs (0, -1)).1 = routesFindV rs a) := find_has rs a hok
    have hlen : rs.length ≤ 100 := (routesOk_all hok).1
    rw [hok] at HC
    clear hok
    go_enter Try.func25, Try.ntmps25
    go_wp2_with fail
    refine (HC.out _ (Below.refl _ _)).mono ?_
    rintro e w1 ⟨rfl, hb1⟩
    have HB1 : Hid (Below w.heap.size w w1) := hb1
    clear hb1 HC
    go_wp2_with fail
    go_loopw [5, 6, 14] (fun h m i wr => ∃ (k : Nat) (hop most : Int), k ≤ rs.length ∧ i = .int .i64 k ∧ h = .int .i64 hop ∧ m = .int .i64 most ∧ bestV (fun q => prefixHasV q.addr q.bits a) rs (0, -1) = bestV (fun q => prefixHasV q.addr q.bits a) (rs.drop k) (hop, most) ∧ Below w.heap.size w wr) (fun _ _ i _ => rs.length - (intOf i).toNat)
    case atStart => exact ⟨0, 0, -1, Nat.zero_le _, rfl, rfl, rfl, rfl, HB1.out⟩
    case round =>
      obtain ⟨k, hop, most, hk, rfl, rfl, rfl, hbest, hbel⟩ := hrel
      have HK : Hid _ := hbest
      have HL : Hid (Below w.heap.size w wr) := hbel
      clear hbest hbel
      by_cases hlt : k < rs.length
      · have HA := HR.out.below hb HL.out
        have c0 := HA.c0 k hlt
        have c1 := HA.c1 k hlt
        have c2 := HA.c2 k hlt
        have hI := HI.out rs[k] (List.getElem_mem hlt)
        have hst := bestV_drop (p := fun q => prefixHasV q.addr q.bits a) hlt (hop, most)
        obtain ⟨q, hq⟩ : ∃ q, q = rs[k] := ⟨_, rfl⟩
        rw [← hq] at c0 c1 c2 hI hst
        have HST : Hid _ := hst
        obtain ⟨hI1, hI2, hI3⟩ := hI
        clear hq HA hst
        have HH : Hid (∀ W, Calls Try.prog 21 #[.agg #[.string q.addr, .int .i64 q.bits], .string a] W fun e w' => e = .returned (.bool (prefixHasV q.addr q.bits a)) ∧ Below W.heap.size W w') := fun W => implPrefixHas_any q.addr q.bits a W hI1 ha
        have HBX : Hid (BoxR (wr.alloc (.cells #[.string q.addr, .int .i64 q.bits, .int .i64 q.hop] 54)) wr.heap.size q) := BoxR.new wr q
        have HLA : Hid (Below w.heap.size w (wr.alloc (.cells #[.string q.addr, .int .i64 q.bits, .int .i64 q.hop] 54))) := HL.out.alloc HL.out.size _
        by_cases hm : most < q.bits
        · cases hh : prefixHasV q.addr q.bits a with
          | true =>
            have HX : Hid (bestV (fun q => prefixHasV q.addr q.bits a) (rs.drop k) (hop, most) = bestV (fun q => prefixHasV q.addr q.bits a) (rs.drop (k + 1)) (q.hop, q.bits)) := by unfold Hid; rw [HST.out]; simp [hm, hh]
            rw [hh] at HH
            clear hh HST
            go_wp2_with fail
            refine (HH.out _).mono ?_
            rintro e w2 ⟨rfl, q2⟩
            have HL2 : Hid (Below w.heap.size w w2) := HLA.out.trans (q2.mono HLA.out.size)
            have HB2 := HBX.out.kept q2
            obtain ⟨x0, x1, x2⟩ := HB2
            clear q2 c0 c1 c2 HH HBX HLA
            generalize wr.heap.size = B at *
            go_wp2_with fail
            go_quiet (fail)
            all_goals
              go_wp2_with fail
              go_roundw
              case rel => exact ⟨k + 1, q.hop, q.bits, by omega, by go_num, rfl, rfl, by rw [HK.out, HX.out], HL2.out.trans ⟨rfl, rfl, rfl, Nat.le_refl _, fun _ _ => rfl⟩⟩
              case measure => simp [intOf]; omega
          | false =>
            have HX : Hid (bestV (fun q => prefixHasV q.addr q.bits a) (rs.drop k) (hop, most) = bestV (fun q => prefixHasV q.addr q.bits a) (rs.drop (k + 1)) (hop, most)) := by unfold Hid; rw [HST.out]; simp [hh]
            rw [hh] at HH
            clear hh HST
            go_wp2_with fail
            refine (HH.out _).mono ?_
            rintro e w2 ⟨rfl, q2⟩
            have HL2 : Hid (Below w.heap.size w w2) := HLA.out.trans (q2.mono HLA.out.size)
            clear q2 c0 c1 c2 HH HBX HLA
            go_wp2_with fail
            go_roundw
            case rel => exact ⟨k + 1, hop, most, by omega, by go_num, rfl, rfl, by rw [HK.out, HX.out], HL2.out⟩
            case measure => simp [intOf]; omega
        · have HX : Hid (bestV (fun q => prefixHasV q.addr q.bits a) (rs.drop k) (hop, most) = bestV (fun q => prefixHasV q.addr q.bits a) (rs.drop (k + 1)) (hop, most)) := by unfold Hid; rw [HST.out]; simp [hm]
          have hd : decide (most < q.bits) = false := by simpa using hm
          clear HST
          go_wp2_with fail
          go_roundw
          case rel => exact ⟨k + 1, hop, most, by omega, by go_num, rfl, rfl, by rw [HK.out, HX.out], HLA.out⟩
          case measure => simp [intOf]; omega
      · have HX : Hid (routesFindV rs a = hop) := by unfold Hid; rw [← HV.out, HK.out, bestV_end (by omega)]
        go_wp2_with fail
        go_ret
        exact ⟨ret_int HX.out.symm, HL.out⟩

end Go.Proofs.Ytmhkhbpedfdocaa
