/- PopRight: what the specification's PopRight answers. -/
import Derived.Test.YtmhkhbpedfdocahCount
import Derived.Test.YtmhkhbpedfdocahAdd
import Derived.BigQuiet
import Derived.Lib.QuietBelow
import Derived.Deep.DeepCutAuto
import Derived.Deep.RegionWith
namespace Go.Proofs.Ytmhkhbpedfdocah
open Go.RowKit Go.PlainAid
set_option linter.unusedVariables false
set_option linter.unusedSimpArgs false

/-- A node of a table as it lies in memory. -/
structure Pn where
  kids : Int
  leaf : Int
  base : Int
  leafs : Int

instance : Inhabited Pn := ⟨⟨0, 0, 0, 0⟩⟩

structure PnsAt (w : World) (b off : Nat) (ns : List Pn) : Prop where
  c0 : ∀ i (h : i < ns.length), w.cell? ⟨b, off + i * 4, none⟩ = some (.int .i64 ns[i].kids)
  c1 : ∀ i (h : i < ns.length), w.cell? ⟨b, off + i * 4 + 1, none⟩ = some (.int .i64 ns[i].leaf)
  c2 : ∀ i (h : i < ns.length), w.cell? ⟨b, off + i * 4 + 2, none⟩ = some (.int .i64 ns[i].base)
  c3 : ∀ i (h : i < ns.length), w.cell? ⟨b, off + i * 4 + 3, none⟩ = some (.int .i64 ns[i].leafs)
def IntsAt (w : World) (b off : Nat) (ls : List Int) : Prop := ∀ i (h : i < ls.length), w.cell? ⟨b, off + i, none⟩ = some (.int .i64 ls[i])
def PnsIs (w : World) (a : Option Addr) (ns : List Pn) : Prop := ns = [] ∨ ∃ b off, a = some ⟨b, off, none⟩ ∧ b < w.heap.size ∧ PnsAt w b off ns
def IntsIs (w : World) (a : Option Addr) (ls : List Int) : Prop := ls = [] ∨ ∃ b off, a = some ⟨b, off, none⟩ ∧ b < w.heap.size ∧ IntsAt w b off ls
def In64s (n : Int) : Prop := -9223372036854775808 ≤ n ∧ n ≤ 9223372036854775807
def PnsIn (ns : List Pn) : Prop := ∀ x ∈ ns, In64s x.kids ∧ In64s x.leaf ∧ In64s x.base ∧ In64s x.leafs
def IntsIn (ls : List Int) : Prop := ∀ x ∈ ls, In64s x

theorem PnsIs.below {w W : World} {a : Option Addr} {ns : List Pn} (h : PnsIs w a ns) (hB : Below w.heap.size w W) : PnsIs W a ns := by
  rcases h with h | ⟨b, off, ha, hb, hr⟩
  · exact .inl h
  · have hc := fun o => (bcell hB).1 b o hb
    exact .inr ⟨b, off, ha, Nat.lt_of_lt_of_le hb hB.size, ⟨fun i hi => (hc _).trans (hr.c0 i hi), fun i hi => (hc _).trans (hr.c1 i hi), fun i hi => (hc _).trans (hr.c2 i hi), fun i hi => (hc _).trans (hr.c3 i hi)⟩⟩
theorem IntsIs.below {w W : World} {a : Option Addr} {ls : List Int} (h : IntsIs w a ls) (hB : Below w.heap.size w W) : IntsIs W a ls := by
  rcases h with h | ⟨b, off, ha, hb, hr⟩
  · exact .inl h
  · exact .inr ⟨b, off, ha, Nat.lt_of_lt_of_le hb hB.size, fun i hi => ((bcell hB).1 b _ hb).trans (hr i hi)⟩

/-- How many bits from the lowest on are 1, up to 16. -/
def onesN (m : Nat) : Nat → Nat → Nat
  | 0, k => k
  | f + 1, k => if m / 2 ^ k % 2 = 1 then onesN m f (k + 1) else k
def firstZ (m : Nat) : Nat := onesN m 16 0

def nodeBase (n i : Nat) (x : Pn) : Bool := (!decide (x.kids = 0) && (decide (x.base ≤ i) || decide ((n : Int) - cntMask x.kids.toNat 16 < x.base))) || (decide (x.kids = 0) && !decide (x.base = 0))
def nodeLeafs (L : Nat) (x : Pn) : Bool := (!decide (x.leaf = 0) && (decide (x.leafs < 0) || decide ((L : Int) - cntMask x.leaf.toNat 16 < x.leafs))) || (decide (x.leaf = 0) && !decide (x.leafs = 0))
def nodeOk (n L i : Nat) (x : Pn) : Bool :=
  isW x.kids && isW x.leaf && decide (bits .and .i64 x.kids x.leaf = 0) && !nodeBase n i x && !nodeLeafs L x && !(decide (firstZ x.kids.toNat < 16) && decide (x.leaf.toNat / 2 ^ firstZ x.kids.toNat % 2 = 0))
def nodesOkN (ns : List Pn) (L : Nat) : Nat → Bool
  | 0 => true
  | i + 1 => nodesOkN ns L i && (match ns[i]? with
    | some x => nodeOk ns.length L i x
    | none => true)
def leafOk (n : Int) : Bool := decide (0 ≤ n) && decide (n ≤ 1000)
/-- Is a table right? -/
def popOk (ns : List Pn) (ls : List Int) : Bool := decide (1 ≤ ns.length) && decide (ns.length ≤ 3300) && nodesOkN ns ls.length ns.length && ls.all leafOk

theorem nodesOkN_step {ns : List Pn} {L i : Nat} (h : i < ns.length) : nodesOkN ns L (i + 1) = (nodesOkN ns L i && nodeOk ns.length L i ns[i]) := by
  show (nodesOkN ns L i && _) = _; rw [List.getElem?_eq_getElem h]
theorem nodesOkN_mono {ns : List Pn} {L i : Nat} (h : nodesOkN ns L i = false) : ∀ j, i ≤ j → nodesOkN ns L j = false := by
  intro j hj
  induction j with
  | zero => rw [show i = 0 by omega] at h; exact h
  | succ j ih =>
    by_cases e : i = j + 1
    · rw [← e]; exact h
    · show (nodesOkN ns L j && _) = false; rw [ih (by omega)]; rfl

theorem isW_parts {n : Int} (h : isW n = true) : 0 ≤ n ∧ n ≤ 65535 := by simpa [isW] using h

theorem ones_step (m f : Nat) (h : f < 16) : onesN m (16 - f) f = if m / 2 ^ f % 2 = 1 then onesN m (16 - (f + 1)) (f + 1) else f := by
  obtain ⟨g, hg⟩ : ∃ g, 16 - f = g + 1 := ⟨15 - f, by omega⟩
  rw [hg, show 16 - (f + 1) = g by omega]; rfl

set_option maxRecDepth 100000 in
set_option maxHeartbeats 1000000 in
theorem specPopRight_any (ns : List Pn) (ls : List Int) (a1 a2 : Option Addr) (cap1 cap2 : Nat) (w : World) (hl1 : ns.length ≤ 1048576) (hl2 : ls.length ≤ 1048576) (hin : PnsIn ns) (hil : IntsIn ls) (h1 : PnsIs w a1 ns) (h2 : IntsIs w a2 ls) :
    Calls Try.prog 21 #[.agg #[.slice a1 ns.length cap1, .slice a2 ls.length cap2]] w fun e w' => e = .returned (.bool (popOk ns ls)) ∧ Below w.heap.size w w' := by
  have H1 : Hid (PnsIs w a1 ns) := h1
  have H2 : Hid (IntsIs w a2 ls) := h2
  have HI : Hid (PnsIn ns) := hin
  have HJ : Hid (IntsIn ls) := hil
  have hB0 : Hid (Below w.heap.size w (w.alloc (.cells #[.slice a1 ns.length cap1, .slice a2 ls.length cap2] 27))) := (Below.refl _ _).alloc (Nat.le_refl _) _
  clear h1 h2 hin hil
  by_cases g1 : (ns.length : Int) < 1
  · have HV : Hid (popOk ns ls = false) := by unfold Hid popOk; rw [decide_eq_false (show ¬ 1 ≤ ns.length by omega)]; rfl
    go_enter Try.func21, Try.ntmps21
    go_wp2_with fail
    go_ret
    exact ⟨ret_bool HV.out.symm, hB0.out⟩
  · by_cases g2 : (3300 : Int) < (ns.length : Int)
    · have HV : Hid (popOk ns ls = false) := by unfold Hid popOk; rw [decide_eq_false (show ¬ ns.length ≤ 3300 by omega), Bool.and_false]; rfl
      go_enter Try.func21, Try.ntmps21
      go_wp2_with fail
      go_ret
      exact ⟨ret_bool HV.out.symm, hB0.out⟩
    · have HV : Hid (popOk ns ls = (nodesOkN ns ls.length ns.length && ls.all leafOk)) := by unfold Hid popOk; rw [decide_eq_true (show 1 ≤ ns.length by omega), decide_eq_true (show ns.length ≤ 3300 by omega)]; rfl
      go_enter Try.func21, Try.ntmps21
      go_wp2_with fail
      go_loopw [4] (fun i wr => ∃ k : Nat, k ≤ ns.length ∧ i = .int .i64 k ∧ nodesOkN ns ls.length k = true ∧ Below (w.heap.size + 1) (w.alloc (.cells #[.slice a1 ns.length cap1, .slice a2 ls.length cap2] 27)) wr) (fun i _ => ns.length - (intOf i).toNat)
      case atStart => exact ⟨0, Nat.zero_le _, rfl, rfl, Below.refl _ _⟩
      case round =>
        obtain ⟨k, hk, rfl, hok, hbel⟩ := hrel
        have k0 : wr.cell? ⟨w.heap.size, 0, none⟩ = some (.slice a1 ns.length cap1) := by rw [hbel.cell (p := ⟨w.heap.size, 0, none⟩) (show w.heap.size < w.heap.size + 1 by omega)]; simp
        have k1 : wr.cell? ⟨w.heap.size, 1, none⟩ = some (.slice a2 ls.length cap2) := by rw [hbel.cell (p := ⟨w.heap.size, 1, none⟩) (show w.heap.size < w.heap.size + 1 by omega)]; simp
        have HK : Hid (nodesOkN ns ls.length k = true) := hok
        have HL : Hid (Below (w.heap.size + 1) (w.alloc (.cells #[.slice a1 ns.length cap1, .slice a2 ls.length cap2] 27)) wr) := hbel
        have HM : Hid (Below w.heap.size w wr) := hB0.out.trans (hbel.mono (by omega))
        clear hok hbel
        by_cases hlt : k < ns.length
        · obtain ⟨b, off, rfl, hb, hat⟩ : ∃ b off, a1 = some ⟨b, off, none⟩ ∧ b < wr.heap.size ∧ PnsAt wr b off ns := by
            rcases H1.out.below HM.out with h | h
            · rw [h] at hlt; simp at hlt
            · exact h
          have c0 := hat.c0 k hlt
          have c1 := hat.c1 k hlt
          have c2 := hat.c2 k hlt
          have c3 := hat.c3 k hlt
          have hI := HI.out ns[k] (List.getElem_mem hlt)
          have hst := nodesOkN_step (L := ls.length) hlt
          obtain ⟨⟨xk, xl, xb, xf⟩, hx⟩ : ∃ x, x = ns[k] := ⟨_, rfl⟩
          rw [← hx] at c0 c1 c2 c3 hI hst
          dsimp only at c0 c1 c2 c3 hI
          rw [HK.out, Bool.true_and] at hst
          have HST : Hid _ := hst
          have HFIN : Hid (nodeOk ns.length ls.length k ⟨xk, xl, xb, xf⟩ = false → popOk ns ls = false) := fun h => by rw [HV.out, nodesOkN_mono (by rw [HST.out]; exact h) ns.length (by omega)]; rfl
          clear hst hx hat
          unfold In64s at hI
          obtain ⟨⟨i1, i2⟩, ⟨i3, i4⟩, ⟨i5, i6⟩, i7, i8⟩ := hI
          have HWK : Hid (∀ W, Calls Try.prog 55 #[.int .i64 xk] W fun e w' => e = .returned (.bool (isW xk)) ∧ w' = W) := fun W => specWordIs_any xk W
          have HWL : Hid (∀ W, Calls Try.prog 55 #[.int .i64 xl] W fun e w' => e = .returned (.bool (isW xl)) ∧ w' = W) := fun W => specWordIs_any xl W
          have HMX : Hid (Below w.heap.size w (wr.alloc (.cells #[.int .i64 xk, .int .i64 xl, .int .i64 xb, .int .i64 xf] 64))) := HM.out.alloc HM.out.size _
          cases hwk : isW xk with
          | false =>
            have HX : Hid (popOk ns ls = false) := HFIN.out (by unfold nodeOk; dsimp only; rw [hwk]; rfl)
            rw [hwk] at HWK
            clear hwk
            go_wp2_with fail
            refine (HWK.out _).mono ?_
            rintro e w2 ⟨rfl, rfl⟩
            go_wp2_with fail
            go_ret
            exact ⟨ret_bool HX.out.symm, HMX.out⟩
          | true =>
            cases hwl : isW xl with
            | false =>
              have HX : Hid (popOk ns ls = false) := HFIN.out (by unfold nodeOk; dsimp only; rw [hwl, Bool.and_false]; rfl)
              rw [hwk] at HWK
              rw [hwl] at HWL
              clear hwk hwl
              go_wp2_with fail
              refine (HWK.out _).mono ?_
              rintro e w2 ⟨rfl, rfl⟩
              go_wp2_with fail
              refine (HWL.out _).mono ?_
              rintro e w2 ⟨rfl, rfl⟩
              go_wp2_with fail
              go_ret
              exact ⟨ret_bool HX.out.symm, HMX.out⟩
            | true =>
              by_cases hand : bits .and .i64 xk xl = 0
              · have HN : Hid (nodeOk ns.length ls.length k ⟨xk, xl, xb, xf⟩ = (!nodeBase ns.length k ⟨xk, xl, xb, xf⟩ && !nodeLeafs ls.length ⟨xk, xl, xb, xf⟩ && !(decide (firstZ xk.toNat < 16) && decide (xl.toNat / 2 ^ firstZ xk.toNat % 2 = 0)))) := by unfold Hid nodeOk; dsimp only; rw [hwk, hwl, decide_eq_true hand]; rfl
                have HKN := isW_parts hwk
                have HLN := isW_parts hwl
                rw [hwk] at HWK
                rw [hwl] at HWL
                clear hwk hwl
                have hne : (bits .and .i64 xk xl != 0) = false := by simpa using hand
                go_wp2_with fail
                refine (HWK.out _).mono ?_
                rintro e w2 ⟨rfl, rfl⟩
                go_wp2_with fail
                refine (HWL.out _).mono ?_
                rintro e w2 ⟨rfl, rfl⟩
                have HCK : Hid (∀ W, Calls Try.prog 56 #[.int .i64 xk, .int .i64 16] W fun e w' => e = .returned (.int .i64 (cntMask xk.toNat 16 : Nat)) ∧ w' = W) := fun W => by
                  have := specCount_any xk.toNat 16 W (by omega) (Nat.le_refl _)
                  rwa [Int.toNat_of_nonneg HKN.1] at this
                have HCL : Hid (∀ W, Calls Try.prog 56 #[.int .i64 xl, .int .i64 16] W fun e w' => e = .returned (.int .i64 (cntMask xl.toNat 16 : Nat)) ∧ w' = W) := fun W => by
                  have := specCount_any xl.toNat 16 W (by omega) (Nat.le_refl _)
                  rwa [Int.toNat_of_nonneg HLN.1] at this
                have hck := cntMask_le xk.toNat 16
                have hcl := cntMask_le xl.toNat 16
                have e0 : (wr.alloc (.cells #[.int .i64 xk, .int .i64 xl, .int .i64 xb, .int .i64 xf] 64)).cell? ⟨wr.heap.size, 0, none⟩ = some (.int .i64 xk) := by simp
                have e1 : (wr.alloc (.cells #[.int .i64 xk, .int .i64 xl, .int .i64 xb, .int .i64 xf] 64)).cell? ⟨wr.heap.size, 1, none⟩ = some (.int .i64 xl) := by simp
                have e2 : (wr.alloc (.cells #[.int .i64 xk, .int .i64 xl, .int .i64 xb, .int .i64 xf] 64)).cell? ⟨wr.heap.size, 2, none⟩ = some (.int .i64 xb) := by simp
                have e3 : (wr.alloc (.cells #[.int .i64 xk, .int .i64 xl, .int .i64 xb, .int .i64 xf] 64)).cell? ⟨wr.heap.size, 3, none⟩ = some (.int .i64 xf) := by simp
                have HLX : Hid (Below (w.heap.size + 1) (w.alloc (.cells #[.slice (some ⟨b, off, none⟩) ns.length cap1, .slice a2 ls.length cap2] 27)) (wr.alloc (.cells #[.int .i64 xk, .int .i64 xl, .int .i64 xb, .int .i64 xf] 64))) := HL.out.alloc (Nat.le_trans (by simp) HL.out.size) _
                have x1 : (wr.alloc (.cells #[.int .i64 xk, .int .i64 xl, .int .i64 xb, .int .i64 xf] 64)).cell? ⟨w.heap.size, 1, none⟩ = some (.slice a2 ls.length cap2) := by rw [HLX.out.cell (p := ⟨w.heap.size, 1, none⟩) (show w.heap.size < w.heap.size + 1 by omega)]; simp
                go_upto_region 10 with fail
                generalize wr.alloc (.cells #[.int .i64 xk, .int .i64 xl, .int .i64 xb, .int .i64 xf] 64) = W at *
                clear HWK HWL c0 c1 c2 c3 k0 k1
                go_cut [73] (fun c wx => c = .bool (nodeBase ns.length k ⟨xk, xl, xb, xf⟩) ∧ ∃ nq, wx = W.drewN nq)
                case first =>
                  by_cases hk0 : xk = 0
                  · subst hk0
                    by_cases hb0 : xb = 0
                    · subst hb0
                      have HV1 : Hid (nodeBase ns.length k ⟨0, xl, 0, xf⟩ = false) := rfl
                      go_quiet ((go_at_call 56; exact Calls.quiet_of_same (HCK.out _)))
                      all_goals
                        go_wp2_with fail
                        go_meet
                        exact ⟨by rw [HV1.out], _, rfl⟩
                    · have HV1 : Hid (nodeBase ns.length k ⟨0, xl, xb, xf⟩ = true) := by unfold Hid nodeBase; simp [hb0]
                      have hd : (xb != 0) = true := by simpa using hb0
                      go_quiet ((go_at_call 56; exact Calls.quiet_of_same (HCK.out _)))
                      all_goals
                        go_wp2_with fail
                        go_meet
                        exact ⟨by rw [HV1.out], _, rfl⟩
                  · have hd0 : (xk != 0) = true := by simpa using hk0
                    have hd0' : (xk == 0) = false := by simpa using hk0
                    by_cases hbk : xb ≤ (k : Int)
                    · have HV1 : Hid (nodeBase ns.length k ⟨xk, xl, xb, xf⟩ = true) := by unfold Hid nodeBase; simp [hk0, hbk]
                      have hd : decide (xb ≤ (k : Int)) = true := by simpa using hbk
                      clear hk0
                      go_quiet ((go_at_call 56; exact Calls.quiet_of_same (HCK.out _)))
                      all_goals
                        go_wp2_with fail
                        go_meet
                        exact ⟨by rw [HV1.out], _, rfl⟩
                    · have hd : decide (xb ≤ (k : Int)) = false := by simpa using hbk
                      by_cases hnc : (ns.length : Int) - (cntMask xk.toNat 16 : Nat) < xb
                      · have HV1 : Hid (nodeBase ns.length k ⟨xk, xl, xb, xf⟩ = true) := by unfold Hid nodeBase; simp [hk0, hnc]
                        have hd2 : decide ((ns.length : Int) - (cntMask xk.toNat 16 : Nat) < xb) = true := by simpa using hnc
                        clear hk0 hbk
                        go_quiet ((go_at_call 56; exact Calls.quiet_of_same (HCK.out _)))
                        all_goals
                          go_wp2_with fail
                          go_meet
                          exact ⟨by rw [HV1.out], _, rfl⟩
                      · have HV1 : Hid (nodeBase ns.length k ⟨xk, xl, xb, xf⟩ = false) := by unfold Hid nodeBase; simp [hk0, hnc, hbk]
                        have hd2 : decide ((ns.length : Int) - (cntMask xk.toNat 16 : Nat) < xb) = false := by simpa using hnc
                        clear hk0 hbk hnc
                        go_quiet ((go_at_call 56; exact Calls.quiet_of_same (HCK.out _)))
                        all_goals
                          go_wp2_with fail
                          go_meet
                          exact ⟨by rw [HV1.out], _, rfl⟩
                case rest =>
                obtain ⟨rfl, nq, rfl⟩ := hcut
                have E0 : (W.drewN nq).cell? ⟨wr.heap.size, 0, none⟩ = some (.int .i64 xk) := e0
                have E1 : (W.drewN nq).cell? ⟨wr.heap.size, 1, none⟩ = some (.int .i64 xl) := e1
                have E3 : (W.drewN nq).cell? ⟨wr.heap.size, 3, none⟩ = some (.int .i64 xf) := e3
                have X1 : (W.drewN nq).cell? ⟨w.heap.size, 1, none⟩ = some (.slice a2 ls.length cap2) := x1
                have HLY : Hid (Below (w.heap.size + 1) (w.alloc (.cells #[.slice (some ⟨b, off, none⟩) ns.length cap1, .slice a2 ls.length cap2] 27)) (W.drewN nq)) := HLX.out.trans ⟨rfl, rfl, rfl, Nat.le_refl _, fun _ _ => rfl⟩
                have HMY : Hid (Below w.heap.size w (W.drewN nq)) := HMX.out.trans ⟨rfl, rfl, rfl, Nat.le_refl _, fun _ _ => rfl⟩
                clear e0 e1 e2 e3 x1 HLX HMX
                generalize W.drewN nq = W2 at *
                cases hnb : nodeBase ns.length k ⟨xk, xl, xb, xf⟩ with
                | true =>
                  have HX : Hid (popOk ns ls = false) := HFIN.out (by rw [HN.out, hnb]; rfl)
                  clear hnb HN
                  go_wp2_with fail
                  go_ret
                  exact ⟨ret_bool HX.out.symm, HMY.out⟩
                | false =>
                  rw [hnb] at HN
                  clear hnb
                  go_wp2_with fail
                  go_cut [103] (fun c wx => c = .bool (nodeLeafs ls.length ⟨xk, xl, xb, xf⟩) ∧ ∃ nq, wx = W2.drewN nq)
                  case first =>
                    by_cases hk0 : xl = 0
                    · subst hk0
                      by_cases hb0 : xf = 0
                      · subst hb0
                        have HV1 : Hid (nodeLeafs ls.length ⟨xk, 0, xb, 0⟩ = false) := rfl
                        go_quiet ((go_at_call 56; exact Calls.quiet_of_same (HCL.out _)))
                        all_goals
                          go_wp2_with fail
                          go_meet
                          exact ⟨by rw [HV1.out], _, rfl⟩
                      · have HV1 : Hid (nodeLeafs ls.length ⟨xk, 0, xb, xf⟩ = true) := by unfold Hid nodeLeafs; simp [hb0]
                        have hd : (xf != 0) = true := by simpa using hb0
                        go_quiet ((go_at_call 56; exact Calls.quiet_of_same (HCL.out _)))
                        all_goals
                          go_wp2_with fail
                          go_meet
                          exact ⟨by rw [HV1.out], _, rfl⟩
                    · have hd0 : (xl != 0) = true := by simpa using hk0
                      have hd0' : (xl == 0) = false := by simpa using hk0
                      by_cases hbk : xf < 0
                      · have HV1 : Hid (nodeLeafs ls.length ⟨xk, xl, xb, xf⟩ = true) := by unfold Hid nodeLeafs; simp [hk0, hbk]
                        have hd : decide (xf < 0) = true := by simpa using hbk
                        clear hk0
                        go_quiet ((go_at_call 56; exact Calls.quiet_of_same (HCL.out _)))
                        all_goals
                          go_wp2_with fail
                          go_meet
                          exact ⟨by rw [HV1.out], _, rfl⟩
                      · have hd : decide (xf < 0) = false := by simpa using hbk
                        by_cases hnc : (ls.length : Int) - (cntMask xl.toNat 16 : Nat) < xf
                        · have HV1 : Hid (nodeLeafs ls.length ⟨xk, xl, xb, xf⟩ = true) := by unfold Hid nodeLeafs; simp [hk0, hnc]
                          have hd2 : decide ((ls.length : Int) - (cntMask xl.toNat 16 : Nat) < xf) = true := by simpa using hnc
                          clear hk0 hbk
                          go_quiet ((go_at_call 56; exact Calls.quiet_of_same (HCL.out _)))
                          all_goals
                            go_wp2_with fail
                            go_meet
                            exact ⟨by rw [HV1.out], _, rfl⟩
                        · have HV1 : Hid (nodeLeafs ls.length ⟨xk, xl, xb, xf⟩ = false) := by unfold Hid nodeLeafs; simp [hk0, hnc, hbk]
                          have hd2 : decide ((ls.length : Int) - (cntMask xl.toNat 16 : Nat) < xf) = false := by simpa using hnc
                          clear hk0 hbk hnc
                          go_quiet ((go_at_call 56; exact Calls.quiet_of_same (HCL.out _)))
                          all_goals
                            go_wp2_with fail
                            go_meet
                            exact ⟨by rw [HV1.out], _, rfl⟩
                  case rest =>
                  obtain ⟨rfl, nq, rfl⟩ := hcut
                  have F0 : (W2.drewN nq).cell? ⟨wr.heap.size, 0, none⟩ = some (.int .i64 xk) := E0
                  have F1 : (W2.drewN nq).cell? ⟨wr.heap.size, 1, none⟩ = some (.int .i64 xl) := E1
                  have HLZ : Hid (Below (w.heap.size + 1) (w.alloc (.cells #[.slice (some ⟨b, off, none⟩) ns.length cap1, .slice a2 ls.length cap2] 27)) (W2.drewN nq)) := HLY.out.trans ⟨rfl, rfl, rfl, Nat.le_refl _, fun _ _ => rfl⟩
                  have HMZ : Hid (Below w.heap.size w (W2.drewN nq)) := HMY.out.trans ⟨rfl, rfl, rfl, Nat.le_refl _, fun _ _ => rfl⟩
                  clear E0 E1 E3 X1 HLY HMY
                  generalize W2.drewN nq = W3 at *
                  cases hnl : nodeLeafs ls.length ⟨xk, xl, xb, xf⟩ with
                  | true =>
                    have HX : Hid (popOk ns ls = false) := HFIN.out (by rw [HN.out, hnl]; rfl)
                    clear hnl HN
                    go_wp2_with fail
                    go_ret
                    exact ⟨ret_bool HX.out.symm, HMZ.out⟩
                  | false =>
                    rw [hnl] at HN
                    clear hnl
                    obtain ⟨m, rfl⟩ := Int.eq_ofNat_of_zero_le HKN.1
                    obtain ⟨l, rfl⟩ := Int.eq_ofNat_of_zero_le HLN.1
                    have HN2 : Hid (nodeOk ns.length ls.length k ⟨(m : Int), (l : Int), xb, xf⟩ = !(decide (firstZ m < 16) && decide (l / 2 ^ firstZ m % 2 = 0))) := HN.out
                    clear HN HCK HCL hck hcl
                    generalize wr.heap.size = X at *
                    go_wp2_with fail
                    go_loop [6] (fun v => ∃ f : Nat, f ≤ 16 ∧ v = .int .i64 f ∧ onesN m (16 - f) f = firstZ m) (fun v => 16 - (intOf v).toNat)
                    case atStart => exact ⟨0, Nat.zero_le _, rfl, rfl⟩
                    case round =>
                      obtain ⟨f, hf, rfl, hon⟩ := hrel
                      have HO : Hid (onesN m (16 - f) f = firstZ m) := hon
                      clear hon
                      have hab := and_bit m f
                      have hbl : m / 2 ^ f % 2 = 0 ∨ m / 2 ^ f % 2 = 1 := by have : m / 2 ^ f % 2 < 2 := Nat.mod_lt _ (by omega); omega
                      by_cases hf16 : f < 16
                      · have HOS : Hid (onesN m (16 - f) f = if m / 2 ^ f % 2 = 1 then onesN m (16 - (f + 1)) (f + 1) else f) := ones_step m f hf16
                        have hfI : (f : Int) < 16 := by omega
                        rcases hbl with hb0 | hb1
                        · rw [hb0] at hab
                          have HF : Hid (f = firstZ m) := by unfold Hid; rw [← HO.out, HOS.out, hb0]; rfl
                          have hlb := and_bit l f
                          clear hb0
                          by_cases hl0 : l / 2 ^ f % 2 = 0
                          · have HX : Hid (popOk ns ls = false) := HFIN.out (by rw [HN2.out, ← HF.out, hl0, decide_eq_true hf16]; rfl)
                            rw [hl0] at hlb
                            clear hl0
                            go_wp2_with fail
                            go_ret
                            exact ⟨ret_bool HX.out.symm, HMZ.out⟩
                          · have hl1 : l / 2 ^ f % 2 = 1 := by have : l / 2 ^ f % 2 < 2 := Nat.mod_lt _ (by omega); omega
                            have HX : Hid (nodesOkN ns ls.length (k + 1) = true) := by unfold Hid; rw [HST.out, HN2.out, ← HF.out, hl1]; simp
                            rw [hl1] at hlb
                            clear hl0 hl1
                            go_wp2_with fail
                            go_roundw
                            case rel => exact ⟨k + 1, by omega, by go_num, HX.out, HLZ.out⟩
                            case measure => simp [intOf]; omega
                        · rw [hb1] at hab
                          have HX : Hid (onesN m (16 - (f + 1)) (f + 1) = firstZ m) := by unfold Hid; rw [← HO.out, HOS.out, hb1]; rfl
                          clear hb1
                          go_wp2_with fail
                          go_round
                          case rel => exact ⟨f + 1, by omega, by go_num, HX.out⟩
                          case measure => simp [intOf]; omega
                      · have hfe : f = 16 := by omega
                        subst hfe
                        have HF : Hid (firstZ m = 16) := HO.out.symm
                        have HX : Hid (nodesOkN ns ls.length (k + 1) = true) := by unfold Hid; rw [HST.out, HN2.out, HF.out]; rfl
                        go_wp2_with fail
                        go_roundw
                        case rel => exact ⟨k + 1, by omega, by go_num, HX.out, HLZ.out⟩
                        case measure => simp [intOf]; omega
              · have HX : Hid (popOk ns ls = false) := HFIN.out (by unfold nodeOk; dsimp only; rw [decide_eq_false hand, Bool.and_false]; rfl)
                rw [hwk] at HWK
                rw [hwl] at HWL
                have hne : (bits .and .i64 xk xl != 0) = true := by simpa using hand
                clear hwk hwl
                go_wp2_with fail
                refine (HWK.out _).mono ?_
                rintro e w2 ⟨rfl, rfl⟩
                go_wp2_with fail
                refine (HWL.out _).mono ?_
                rintro e w2 ⟨rfl, rfl⟩
                go_wp2_with fail
                go_ret
                exact ⟨ret_bool HX.out.symm, HMX.out⟩
        · have hkl : k = ns.length := by omega
          have HV2 : Hid (popOk ns ls = ls.all leafOk) := by unfold Hid; rw [HV.out, ← hkl, HK.out]; rfl
          clear HV HK hkl
          go_wp2_with fail
          generalize hwo : wr = wo at *
          go_loopw [7] (fun i wi => ∃ j : Nat, j ≤ ls.length ∧ i = .int .i64 j ∧ ls.all leafOk = (ls.drop j).all leafOk ∧ Below (w.heap.size + 1) (w.alloc (.cells #[.slice a1 ns.length cap1, .slice a2 ls.length cap2] 27)) wi) (fun i _ => ls.length - (intOf i).toNat)
          case atStart => exact ⟨0, Nat.zero_le _, rfl, rfl, HL.out⟩
          case round =>
            obtain ⟨j, hj, rfl, hall, hbel⟩ := hrel
            have HA : Hid (ls.all leafOk = (ls.drop j).all leafOk) := hall
            have HLj : Hid (Below (w.heap.size + 1) (w.alloc (.cells #[.slice a1 ns.length cap1, .slice a2 ls.length cap2] 27)) wr) := hbel
            have HMj : Hid (Below w.heap.size w wr) := hB0.out.trans (hbel.mono (by omega))
            have y1 : wr.cell? ⟨w.heap.size, 1, none⟩ = some (.slice a2 ls.length cap2) := by rw [hbel.cell (p := ⟨w.heap.size, 1, none⟩) (show w.heap.size < w.heap.size + 1 by omega)]; simp
            clear hall hbel
            by_cases hlj : j < ls.length
            · obtain ⟨b2, o2, rfl, hb2, hat⟩ : ∃ b off, a2 = some ⟨b, off, none⟩ ∧ b < wr.heap.size ∧ IntsAt wr b off ls := by
                rcases H2.out.below HMj.out with h | h
                · rw [h] at hlj; simp at hlj
                · exact h
              have c := hat j hlj
              have hv := HJ.out ls[j] (List.getElem_mem hlj)
              have HS : Hid ((ls.drop j).all leafOk = (leafOk ls[j] && (ls.drop (j + 1)).all leafOk)) := by unfold Hid; rw [List.drop_eq_getElem_cons hlj]; rfl
              generalize ls[j] = v at *
              unfold In64s at hv
              clear hat
              by_cases v0 : v < 0
              · have HX : Hid (popOk ns ls = false) := by unfold Hid; rw [HV2.out, HA.out, HS.out]; unfold leafOk; rw [decide_eq_false (show ¬ 0 ≤ v by omega)]; rfl
                have hd : decide (v < 0) = true := by simpa using v0
                go_wp2_with fail
                go_ret
                exact ⟨ret_bool HX.out.symm, HMj.out⟩
              · have hd : decide (v < 0) = false := by simpa using v0
                by_cases v1 : 1000 < v
                · have HX : Hid (popOk ns ls = false) := by unfold Hid; rw [HV2.out, HA.out, HS.out]; unfold leafOk; rw [decide_eq_false (show ¬ v ≤ 1000 by omega), Bool.and_false]; rfl
                  have hd1 : decide (1000 < v) = true := by simpa using v1
                  go_wp2_with fail
                  go_ret
                  exact ⟨ret_bool HX.out.symm, HMj.out⟩
                · have HX : Hid (ls.all leafOk = (ls.drop (j + 1)).all leafOk) := by unfold Hid; rw [HA.out, HS.out]; unfold leafOk; rw [decide_eq_true (show 0 ≤ v by omega), decide_eq_true (show v ≤ 1000 by omega)]; rfl
                  have hd1 : decide (1000 < v) = false := by simpa using v1
                  go_wp2_with fail
                  go_roundw
                  case rel => exact ⟨j + 1, by omega, by go_num, HX.out, HLj.out⟩
                  case measure => simp [intOf]; omega
            · have HX : Hid (popOk ns ls = true) := by unfold Hid; rw [HV2.out, HA.out, List.drop_eq_nil_of_le (by omega)]; rfl
              go_wp2_with fail
              go_ret
              exact ⟨ret_bool HX.out.symm, HMj.out⟩

end Go.Proofs.Ytmhkhbpedfdocah
