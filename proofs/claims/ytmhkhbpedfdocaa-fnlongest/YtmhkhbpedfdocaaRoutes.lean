/- Routes: what the specification's RoutesRight, l03Find and RoutesFind answer. -/
import Derived.Test.YtmhkhbpedfdocaaPopRoutes
import Derived.Laws.StructEq
import Derived.BigQuiet
import Derived.Lib.QuietBelow
import Derived.Deep.DeepCutAuto
namespace Go.Proofs.Ytmhkhbpedfdocaa
open Go.RowKit Go.PlainAid
set_option linter.unusedVariables false
set_option linter.unusedSimpArgs false

/-- A row of routes from a place of a block on. -/
structure RtsAt (w : World) (b off : Nat) (rs : List Rt) : Prop where
  c0 : ∀ i (h : i < rs.length), w.cell? ⟨b, off + i * 3, none⟩ = some (.string rs[i].addr)
  c1 : ∀ i (h : i < rs.length), w.cell? ⟨b, off + i * 3 + 1, none⟩ = some (.int .i64 rs[i].bits)
  c2 : ∀ i (h : i < rs.length), w.cell? ⟨b, off + i * 3 + 2, none⟩ = some (.int .i64 rs[i].hop)

/-- Routes that numbers of 64 bits and texts that are not too long may be. -/
def RtsIn (rs : List Rt) : Prop := ∀ q ∈ rs, q.addr.size ≤ 1048576 ∧ (-9223372036854775808 ≤ q.bits ∧ q.bits ≤ 9223372036854775807) ∧ (-9223372036854775808 ≤ q.hop ∧ q.hop ≤ 9223372036854775807)

theorem RtsAt.below {w W : World} {b off : Nat} {rs : List Rt} (h : RtsAt w b off rs) (hb : b < w.heap.size) (hB : Below w.heap.size w W) : RtsAt W b off rs :=
  ⟨fun i hi => ((bcell hB).1 b _ hb).trans (h.c0 i hi), fun i hi => ((bcell hB).1 b _ hb).trans (h.c1 i hi), fun i hi => ((bcell hB).1 b _ hb).trans (h.c2 i hi)⟩

/-- Have two routes one prefix? -/
def samePfx (p q : Rt) : Bool := decide (p.addr.toList = q.addr.toList) && decide (p.bits = q.bits)
/-- Has one of the first k routes the prefix of the i-th? -/
def dupV (rs : List Rt) (q : Rt) : Nat → Bool
  | 0 => false
  | k + 1 => dupV rs q k || (match rs[k]? with
    | some p => samePfx p q
    | none => false)
def rightN (rs : List Rt) : Nat → Bool
  | 0 => true
  | i + 1 => rightN rs i && (match rs[i]? with
    | some q => routeOk q && !dupV rs q i
    | none => true)
/-- Are routes right? -/
def routesOk (rs : List Rt) : Bool := decide (rs.length ≤ 100) && rightN rs rs.length

theorem dupV_step {rs : List Rt} {q : Rt} {k : Nat} (h : k < rs.length) : dupV rs q (k + 1) = (dupV rs q k || samePfx rs[k] q) := by
  show (dupV rs q k || _) = _; rw [List.getElem?_eq_getElem h]
theorem rightN_step {rs : List Rt} {i : Nat} (h : i < rs.length) : rightN rs (i + 1) = (rightN rs i && (routeOk rs[i] && !dupV rs rs[i] i)) := by
  show (rightN rs i && _) = _; rw [List.getElem?_eq_getElem h]
theorem rightN_mono {rs : List Rt} {i : Nat} (h : rightN rs i = false) : ∀ j, i ≤ j → rightN rs j = false := by
  intro j hj
  induction j with
  | zero => rw [show i = 0 by omega] at h; exact h
  | succ j ih =>
    by_cases e : i = j + 1
    · rw [← e]; exact h
    · show (rightN rs j && _) = false; rw [ih (by omega)]; rfl
theorem dupV_mono {rs : List Rt} {q : Rt} {i : Nat} (h : dupV rs q i = true) : ∀ j, i ≤ j → dupV rs q j = true := by
  intro j hj
  induction j with
  | zero => rw [show i = 0 by omega] at h; exact h
  | succ j ih =>
    by_cases e : i = j + 1
    · rw [← e]; exact h
    · show (dupV rs q j || _) = true; rw [ih (by omega)]; rfl

theorem rightN_all {rs : List Rt} : ∀ n, n ≤ rs.length → rightN rs n = true → ∀ i (h : i < n), ∀ q, rs[i]? = some q → routeOk q = true
  | 0, _, _, i, h, _, _ => by omega
  | n + 1, hn, hr, i, h, q, hq => by
    rw [rightN_step (by omega)] at hr
    simp only [Bool.and_eq_true] at hr
    by_cases e : i = n
    · subst e; rw [List.getElem?_eq_getElem (by omega)] at hq; injection hq with hq; rw [← hq]; exact hr.2.1
    · exact rightN_all n (by omega) hr.1 i (by omega) q hq
theorem routesOk_all {rs : List Rt} (h : routesOk rs = true) : rs.length ≤ 100 ∧ ∀ q ∈ rs, routeOk q = true := by
  unfold routesOk at h
  rw [Bool.and_eq_true, decide_eq_true_iff] at h
  refine ⟨h.1, fun q hq => ?_⟩
  obtain ⟨i, hi, rfl⟩ := List.getElem_of_mem hq
  exact rightN_all rs.length (Nat.le_refl _) h.2 i hi _ (List.getElem?_eq_getElem hi)

theorem eqp_any (u v : ByteArray) (c d : Int) (W : World) : (binOp .eql 33 (.agg #[.string u, .int .i64 c]) (.agg #[.string v, .int .i64 d])).run Try.prog W = .ok (.bool (decide (u.toList = v.toList) && decide (c = d))) W := by
  have h1 : Try.prog.underlying 33 = some (.struct (Try.prog.fieldsOf 33)) := by kernel_rfl
  have h2 : Try.prog.stoodInHeld 33 = false := by kernel_rfl
  rw [run_eql_struct, run_equalIn_agg _ _ _ _ _ h1 h2]
  have h3 : (Try.prog.fieldsOf 33).toList.length = 2 := by kernel_rfl
  have h4 : ((Try.prog.fieldsOf 33).toList.map fun f => (f.type, f.offset, f.name == "_")) = [(9, 0, false), (2, 1, false)] := by kernel_rfl
  generalize (Try.prog.fieldsOf 33).toList = fs at *
  match fs, h3 with
  | [f, g], _ =>
    simp at h4
    obtain ⟨⟨a1, a2, a3⟩, b1, b2, b3⟩ := h4
    have p0 : ∀ (u : ByteArray) (c : Int) W, (part 9 #[.string u, .int .i64 c] 0).run Try.prog W = .ok (.string u) W := fun u c W => by kernel_rfl
    have p1 : ∀ (u : ByteArray) (c : Int) W, (part 2 #[.string u, .int .i64 c] 1).run Try.prog W = .ok (.int .i64 c) W := fun u c W => by kernel_rfl
    simp [Op.eqFields, a1, a2, a3, b1, b2, b3, p0, p1, run_equalIn_string _ _ _ _ _ Try.underlying9, run_equalIn_int _ _ _ _ _ _ _ Try.underlying2]
    by_cases h : u.toList = v.toList <;> by_cases h' : c = d <;> simp [h, h']

set_option maxRecDepth 100000 in
set_option maxHeartbeats 1000000 in
theorem specRoutesRight_any (rs : List Rt) (b off cap : Nat) (w : World) (hb : b < w.heap.size) (hin : RtsIn rs) (hr : RtsAt w b off rs) :
    Calls Try.prog 27 #[.slice (some ⟨b, off, none⟩) rs.length cap] w fun e w' => e = .returned (.bool (routesOk rs)) ∧ Below w.heap.size w w' := by
  have HR : Hid (RtsAt w b off rs) := hr
  have HI : Hid (RtsIn rs) := hin
  clear hr hin
  by_cases h100 : rs.length ≤ 100
  · have HV : Hid (routesOk rs = rightN rs rs.length) := by unfold Hid routesOk; rw [decide_eq_true h100]; rfl
    have h100' : ¬ (100 : Int) < (rs.length : Int) := by omega
    go_enter Try.func27, Try.ntmps27
    go_wp2_with fail
    go_loopw [3] (fun i wr => ∃ k : Nat, k ≤ rs.length ∧ i = .int .i64 k ∧ rightN rs k = true ∧ Below w.heap.size w wr) (fun i _ => rs.length - (intOf i).toNat)
    case atStart => exact ⟨0, Nat.zero_le _, rfl, rfl, Below.refl _ _⟩
    case round =>
      obtain ⟨k, hk, rfl, hrk, hbel⟩ := hrel
      have HK : Hid (rightN rs k = true) := hrk
      have HL : Hid (Below w.heap.size w wr) := hbel
      clear hrk hbel
      by_cases hlt : k < rs.length
      · have HA := HR.out.below hb HL.out
        have c0 := HA.c0 k hlt
        have c1 := HA.c1 k hlt
        have c2 := HA.c2 k hlt
        have hI := HI.out rs[k] (List.getElem_mem hlt)
        obtain ⟨q, hq⟩ : ∃ q, q = rs[k] := ⟨_, rfl⟩
        rw [← hq] at c0 c1 c2 hI
        have HQ : Hid (q = rs[k]) := hq
        obtain ⟨hI1, hI2, hI3⟩ := hI
        have HP : Hid (∀ W, Calls Try.prog 61 #[.agg #[.string q.addr, .int .i64 q.bits]] W fun e w' => e = .returned (.bool (prefixOk q.addr q.bits)) ∧ Below W.heap.size W w') := fun W => specPrefixRight_any q.addr q.bits W hI1
        have HST : Hid (rightN rs (k + 1) = (routeOk q && !dupV rs q k)) := by unfold Hid; rw [rightN_step hlt, HK.out, ← HQ.out]; rfl
        have HRO : Hid (routeOk q = (prefixOk q.addr q.bits && decide (1 ≤ q.hop) && decide (q.hop ≤ 1000))) := rfl
        have HFIN : Hid (rightN rs (k + 1) = false → routesOk rs = false) := fun h => by rw [HV.out]; exact rightN_mono h _ (by omega)
        clear hq HA
        go_wp2_with fail
        refine (HP.out _).mono ?_
        rintro e w2 ⟨rfl, q2⟩
        have HL2 : Hid (Below w.heap.size w w2) := HL.out.trans (q2.mono HL.out.size)
        have HA2 : Hid (RtsAt w2 b off rs) := HR.out.below hb HL2.out
        clear q2 c0 c1 c2 HP
        have c2 := HA2.out.c2 k hlt
        rw [← HQ.out] at c2
        cases hok : prefixOk q.addr q.bits with
        | false =>
          have HX : Hid (routesOk rs = false) := HFIN.out (by rw [HST.out, HRO.out, hok]; rfl)
          clear hok
          go_wp2_with fail
          go_ret
          exact ⟨ret_bool HX.out.symm, HL2.out⟩
        | true =>
          by_cases p1 : q.hop < 1
          · have HX : Hid (routesOk rs = false) := HFIN.out (by rw [HST.out, HRO.out, hok, decide_eq_false (show ¬ 1 ≤ q.hop by omega)]; rfl)
            clear hok
            go_wp2_with fail
            go_ret
            exact ⟨ret_bool HX.out.symm, HL2.out⟩
          · by_cases p2 : 1000 < q.hop
            · have HX : Hid (routesOk rs = false) := HFIN.out (by rw [HST.out, HRO.out, hok, decide_eq_false (show ¬ q.hop ≤ 1000 by omega), Bool.and_false]; rfl)
              clear hok
              go_wp2_with fail
              go_ret
              exact ⟨ret_bool HX.out.symm, HL2.out⟩
            · have HST2 : Hid (rightN rs (k + 1) = !dupV rs q k) := by unfold Hid; rw [HST.out, HRO.out, hok, decide_eq_true (show 1 ≤ q.hop by omega), decide_eq_true (show q.hop ≤ 1000 by omega)]; rfl
              have hcd : decide ((k : Int) < (rs.length : Int)) = true := by simp; omega
              clear hok HST HRO
              go_wp2_with fail
              go_loopw [4] (fun j wi => ∃ m : Nat, m ≤ k ∧ j = .int .i64 m ∧ dupV rs q m = false ∧ Below w.heap.size w wi) (fun j _ => k - (intOf j).toNat)
              case atStart => exact ⟨0, Nat.zero_le _, rfl, rfl, HL2.out⟩
              case round =>
                obtain ⟨m, hm, rfl, hdm, hbel⟩ := hrel
                have HD : Hid (dupV rs q m = false) := hdm
                have HL3 : Hid (Below w.heap.size w wr) := hbel
                clear hdm hbel
                by_cases hmk : m < k
                · have hml : m < rs.length := by omega
                  have HA3 := HR.out.below hb HL3.out
                  have d0 := HA3.c0 k hlt
                  have d1 := HA3.c1 k hlt
                  rw [← HQ.out] at d0 d1
                  have f0 := HA3.c0 m hml
                  have f1 := HA3.c1 m hml
                  obtain ⟨p, hp⟩ : ∃ p, p = rs[m] := ⟨_, rfl⟩
                  rw [← hp] at f0 f1
                  have heq := eqp_any p.addr q.addr p.bits q.bits
                  have HDS : Hid (dupV rs q (m + 1) = samePfx p q) := by unfold Hid; rw [dupV_step hml, HD.out, hp]; rfl
                  have HSM : Hid (samePfx p q = (decide (p.addr.toList = q.addr.toList) && decide (p.bits = q.bits))) := rfl
                  cases hs : (decide (p.addr.toList = q.addr.toList) && decide (p.bits = q.bits)) with
                  | true =>
                    rw [hs] at heq
                    have HX : Hid (routesOk rs = false) := HFIN.out (by rw [HST2.out, dupV_mono (by rw [HDS.out, HSM.out]; exact hs) k (by omega)]; rfl)
                    clear hs hp HA3
                    go_wp2_with fail
                    go_region
                    all_goals
                      go_wp2_with fail
                      go_ret
                      exact ⟨ret_bool HX.out.symm, HL3.out.drew⟩
                  | false =>
                    rw [hs] at heq
                    have HX : Hid (dupV rs q (m + 1) = false) := by unfold Hid; rw [HDS.out, HSM.out]; exact hs
                    clear hs hp HA3
                    go_wp2_with fail
                    go_region
                    all_goals
                      go_wp2_with fail
                      go_roundw
                      case rel => exact ⟨m + 1, by omega, by go_num, HX.out, HL3.out.drew⟩
                      case measure => simp [intOf]; omega
                · have hmk' : m = k := by omega
                  subst hmk'
                  have HX : Hid (rightN rs (m + 1) = true) := by unfold Hid; rw [HST2.out, HD.out]; rfl
                  go_wp2_with fail
                  go_roundw
                  case rel => exact ⟨m + 1, by omega, by go_num, HX.out, HL3.out⟩
                  case measure => simp [intOf]; omega
      · have hkl : k = rs.length := by omega
        subst hkl
        go_wp2_with fail
        go_ret
        exact ⟨ret_bool (by rw [HV.out, HK.out]), HL.out⟩
  · have HV : Hid (routesOk rs = false) := by unfold Hid routesOk; rw [decide_eq_false h100]; rfl
    have h100' : (100 : Int) < (rs.length : Int) := by omega
    go_enter Try.func27, Try.ntmps27
    go_wp2_with fail
    go_ret
    exact ⟨ret_bool HV.out.symm, Below.refl _ _⟩

end Go.Proofs.Ytmhkhbpedfdocaa
