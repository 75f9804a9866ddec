/- SBib2: what the specification's BindOf, BindAt, l08Has answer. Printed by mksbib2.py. -/
import Derived.Test.YtkakehchiadpbalSBib
import Derived.Test.YtkakehchiadpbalLawSession
import Derived.Deep.DeepCutAuto
namespace Go.Proofs.Ytkakehchiadpbal
open Go.RowKit Go.PlainAid
set_option linter.unusedVariables false
set_option linter.unusedSimpArgs false

def bdZ : Bd := ⟨0, ⟨#[]⟩, 0, ⟨#[]⟩, 0⟩
/-- The first bind of an end, or the zero one. -/
def bindV (f : Bd → Bool) (xs : List Bd) (s : ByteArray) : Bd := if 20000 < s.size then bdZ else (xs.find? f).getD bdZ
theorem findBd_at (f : Bd → Bool) (xs : List Bd) (h : ¬ findI f xs < 0) : ∃ i : Nat, ∃ hi : i < xs.length, findI f xs = i ∧ xs.find? f = some xs[i] := by
  unfold findI at *
  cases hf : xs.findIdx? f with
  | none => rw [hf] at h; exact absurd (by decide) h
  | some i =>
    obtain ⟨hi, hfi, hn⟩ := List.findIdx?_eq_some_iff_getElem.1 hf
    exact ⟨i, hi, rfl, List.find?_eq_some_iff_getElem.2 ⟨hfi, i, hi, rfl, fun j hj => by simpa using hn j hj⟩⟩
theorem find_no (f : Bd → Bool) (xs : List Bd) (h : findI f xs < 0) : xs.find? f = none := by
  unfold findI at h
  cases hf : xs.findIdx? f with
  | none => exact List.find?_eq_none.2 (fun x hx => by have := List.findIdx?_eq_none_iff.1 hf x hx; simp [this])
  | some i => rw [hf] at h; simp only at h; omega

set_option maxRecDepth 100000 in
set_option maxHeartbeats 1000000 in
theorem specBindOf_any (xs : List Bd) (proto : Int) (s : ByteArray) (port : Int) (a : Option Addr) (cap : Nat) (sv : Value) (w : World) (hlen : xs.length ≤ 1048576) (hr : SlIs bdL 5 w a xs) :
    Calls Try.prog 18 #[.agg #[.slice a xs.length cap, sv], .int .i64 proto, .string s, .int .i64 port] w fun e w' => e = .returned (bdC (bindV (ofIn proto s port) xs s)) ∧ Below w.heap.size w w' := by
  have HB0 : Hid (HoldsL (w.alloc (.cells [.slice a xs.length cap, sv].toArray 44)) w.heap.size [.slice a xs.length cap, sv]) := HoldsL.new w _ _
  rw [show [.slice a xs.length cap, sv].toArray = #[.slice a xs.length cap, sv] from rfl] at HB0
  have HZ0 : Hid (Below w.heap.size w (w.alloc (.cells #[.slice a xs.length cap, sv] 44))) := (Below.refl _ _).alloc (Nat.le_refl _) _
  have HRB : Hid (HoldsL ((w.alloc (.cells #[.slice a xs.length cap, sv] 44)).alloc (.cells (bdL bdZ).toArray 49)) (w.alloc (.cells #[.slice a xs.length cap, sv] 44)).heap.size (bdL bdZ)) := HoldsL.new _ _ _
  rw [show (bdL bdZ).toArray = #[.int .i64 0, .string ⟨#[]⟩, .int .i64 0, .string ⟨#[]⟩, .int .i64 0] from rfl] at HRB
  have HB1 : Hid (HoldsL ((w.alloc (.cells #[.slice a xs.length cap, sv] 44)).alloc (.cells #[.int .i64 0, .string ⟨#[]⟩, .int .i64 0, .string ⟨#[]⟩, .int .i64 0] 49)) w.heap.size [.slice a xs.length cap, sv]) := HB0.out.alloc _
  have HZ : Hid (Below w.heap.size w ((w.alloc (.cells #[.slice a xs.length cap, sv] 44)).alloc (.cells #[.int .i64 0, .string ⟨#[]⟩, .int .i64 0, .string ⟨#[]⟩, .int .i64 0] 49))) := HZ0.out.alloc HZ0.out.size _
  rw [World.size_alloc] at HRB
  have hRw : w.heap.size ≤ w.heap.size + 1 := Nat.le_succ _
  have HSI : Hid (SlIs bdL 5 ((w.alloc (.cells #[.slice a xs.length cap, sv] 44)).alloc (.cells #[.int .i64 0, .string ⟨#[]⟩, .int .i64 0, .string ⟨#[]⟩, .int .i64 0] 49)) a xs) := hr.below HZ.out
  have HC : Hid (∀ W, SlIs bdL 5 W a xs → Calls Try.prog 50 #[.agg #[.slice a xs.length cap, sv], .int .i64 proto, .string s, .int .i64 port] W fun e w' => e = .returned (.int .i64 (findI (ofIn proto s port) xs)) ∧ Below W.heap.size W w') := fun W hW => spBind_any xs proto s port a cap sv W hlen hW
  have HV : Hid (bindV (ofIn proto s port) xs s = if 20000 < s.size then bdZ else (xs.find? (ofIn proto s port)).getD bdZ) := rfl
  generalize bindV (ofIn proto s port) xs s = ans at *
  generalize ofIn proto s port = f at *
  clear hr HB0 HZ0
  obtain ⟨b0, b1⟩ : _ ∧ _ := ⟨HB1.out.cell (j := 0) rfl, HB1.out.cell (j := 1) rfl⟩
  go_enter Try.func18, Try.ntmps18
  go_wp2_with fail
  generalize (w.alloc (.cells #[.slice a xs.length cap, sv] 44)).alloc (.cells #[.int .i64 0, .string ⟨#[]⟩, .int .i64 0, .string ⟨#[]⟩, .int .i64 0] 49) = W0 at *
  refine (HC.out W0 HSI.out).mono ?_
  rintro e w1 ⟨rfl, q1⟩
  have HW : Hid (Below w.heap.size w w1) := HZ.out.trans (q1.mono HZ.out.size)
  have HB2 := HB1.out.kept (by simp) q1
  have HR2 := HRB.out.kept (by simp [bdL]) q1
  have HS2 : Hid (SlIs bdL 5 w1 a xs) := HSI.out.below q1
  clear b0 b1 HZ HC HSI q1
  have b0 : w1.cell? ⟨w.heap.size, 0, none⟩ = some (.slice a xs.length cap) := HB2.cell rfl
  have z0 : w1.cell? ⟨w.heap.size + 1, 0, none⟩ = some (.int .i64 0) := HR2.cell rfl
  have zf0 := HR2.free (j := 0) (by simp [bdL])
  have z1 : w1.cell? ⟨w.heap.size + 1, 1, none⟩ = some (.string ⟨#[]⟩) := HR2.cell rfl
  have zf1 := HR2.free (j := 1) (by simp [bdL])
  have z2 : w1.cell? ⟨w.heap.size + 1, 2, none⟩ = some (.int .i64 0) := HR2.cell rfl
  have zf2 := HR2.free (j := 2) (by simp [bdL])
  have z3 : w1.cell? ⟨w.heap.size + 1, 3, none⟩ = some (.string ⟨#[]⟩) := HR2.cell rfl
  have zf3 := HR2.free (j := 3) (by simp [bdL])
  have z4 : w1.cell? ⟨w.heap.size + 1, 4, none⟩ = some (.int .i64 0) := HR2.cell rfl
  have zf4 := HR2.free (j := 4) (by simp [bdL])
  have PF : Hid (∀ v0 v1 v2 v3 v4, Below w.heap.size w (((((w1.setCell ⟨w.heap.size + 1, 0, none⟩ v0).setCell ⟨w.heap.size + 1, 1, none⟩ v1).setCell ⟨w.heap.size + 1, 2, none⟩ v2).setCell ⟨w.heap.size + 1, 3, none⟩ v3).setCell ⟨w.heap.size + 1, 4, none⟩ v4)) := fun v0 v1 v2 v3 v4 => (((((HW.out.setCell (p := ⟨w.heap.size + 1, 0, none⟩) hRw v0).setCell (p := ⟨w.heap.size + 1, 1, none⟩) hRw v1).setCell (p := ⟨w.heap.size + 1, 2, none⟩) hRw v2).setCell (p := ⟨w.heap.size + 1, 3, none⟩) hRw v3).setCell (p := ⟨w.heap.size + 1, 4, none⟩) hRw v4)
  clear HB1 HRB HB2 HR2
  by_cases hk : findI f xs < 0
  · have HX : Hid (ans = bdZ) := by unfold Hid; rw [HV.out, find_no f xs hk]; split <;> rfl
    generalize findI f xs = k at *
    go_wp2_with fail
    refine bodyPost_ret (v := .agg #[.int .i64 0, .string ⟨#[]⟩, .int .i64 0, .string ⟨#[]⟩, .int .i64 0]) (by simp [results, Try.results18, go_sem, z0, z1, z2, z3, z4]) rfl (And.intro (congrArg (fun x => Ending.returned (bdC x)) HX.out.symm) (PF.out _ _ _ _ _))
  · obtain ⟨i, hi, hfi, hfd⟩ := findBd_at f xs hk
    rw [hfi]
    clear hk hfi
    by_cases hs : 20000 < s.size
    · have HX : Hid (ans = bdZ) := by unfold Hid; rw [HV.out, if_pos hs]
      have hs' : (20000 : Int) < (s.size : Int) := by omega
      go_wp2_with fail
      refine bodyPost_ret (v := .agg #[.int .i64 0, .string ⟨#[]⟩, .int .i64 0, .string ⟨#[]⟩, .int .i64 0]) (by simp [results, Try.results18, go_sem, z0, z1, z2, z3, z4]) rfl (And.intro (congrArg (fun x => Ending.returned (bdC x)) HX.out.symm) (PF.out _ _ _ _ _))
    · obtain ⟨b, off, rfl, hb, hat⟩ := HS2.out.at hi
      have hA := hat i hi
      obtain ⟨q, hq⟩ : ∃ q, xs[i] = q := ⟨_, rfl⟩
      rw [hq] at hA hfd
      have HX : Hid (ans = q) := by unfold Hid; rw [HV.out, if_neg hs, hfd]; rfl
      have c0 : w1.cell? ⟨b, off + i * 5, none⟩ = some (.int .i64 q.proto) := hA 0 _ rfl
      have c1 : w1.cell? ⟨b, off + i * 5 + 1, none⟩ = some (.string q.inn) := hA 1 _ rfl
      have c2 : w1.cell? ⟨b, off + i * 5 + 2, none⟩ = some (.int .i64 q.inPort) := hA 2 _ rfl
      have c3 : w1.cell? ⟨b, off + i * 5 + 3, none⟩ = some (.string q.out) := hA 3 _ rfl
      have c4 : w1.cell? ⟨b, off + i * 5 + 4, none⟩ = some (.int .i64 q.outPort) := hA 4 _ rfl
      have hs' : ¬ (20000 : Int) < (s.size : Int) := by omega
      clear hA hat hq hfd
      go_wp2_with fail
      refine bodyPost_ret (v := .agg #[.int .i64 q.proto, .string q.inn, .int .i64 q.inPort, .string q.out, .int .i64 q.outPort]) (by simp [results, Try.results18, go_sem, z0, z1, z2, z3, z4]) rfl (And.intro (congrArg (fun x => Ending.returned (bdC x)) HX.out.symm) (PF.out _ _ _ _ _))
set_option maxRecDepth 100000 in
set_option maxHeartbeats 1000000 in
theorem specBindAt_any (xs : List Bd) (proto : Int) (s : ByteArray) (port : Int) (a : Option Addr) (cap : Nat) (sv : Value) (w : World) (hlen : xs.length ≤ 1048576) (hr : SlIs bdL 5 w a xs) :
    Calls Try.prog 21 #[.agg #[.slice a xs.length cap, sv], .int .i64 proto, .string s, .int .i64 port] w fun e w' => e = .returned (bdC (bindV (ofOut proto s port) xs s)) ∧ Below w.heap.size w w' := by
  have HB0 : Hid (HoldsL (w.alloc (.cells [.slice a xs.length cap, sv].toArray 44)) w.heap.size [.slice a xs.length cap, sv]) := HoldsL.new w _ _
  rw [show [.slice a xs.length cap, sv].toArray = #[.slice a xs.length cap, sv] from rfl] at HB0
  have HZ0 : Hid (Below w.heap.size w (w.alloc (.cells #[.slice a xs.length cap, sv] 44))) := (Below.refl _ _).alloc (Nat.le_refl _) _
  have HRB : Hid (HoldsL ((w.alloc (.cells #[.slice a xs.length cap, sv] 44)).alloc (.cells (bdL bdZ).toArray 49)) (w.alloc (.cells #[.slice a xs.length cap, sv] 44)).heap.size (bdL bdZ)) := HoldsL.new _ _ _
  rw [show (bdL bdZ).toArray = #[.int .i64 0, .string ⟨#[]⟩, .int .i64 0, .string ⟨#[]⟩, .int .i64 0] from rfl] at HRB
  have HB1 : Hid (HoldsL ((w.alloc (.cells #[.slice a xs.length cap, sv] 44)).alloc (.cells #[.int .i64 0, .string ⟨#[]⟩, .int .i64 0, .string ⟨#[]⟩, .int .i64 0] 49)) w.heap.size [.slice a xs.length cap, sv]) := HB0.out.alloc _
  have HZ : Hid (Below w.heap.size w ((w.alloc (.cells #[.slice a xs.length cap, sv] 44)).alloc (.cells #[.int .i64 0, .string ⟨#[]⟩, .int .i64 0, .string ⟨#[]⟩, .int .i64 0] 49))) := HZ0.out.alloc HZ0.out.size _
  rw [World.size_alloc] at HRB
  have hRw : w.heap.size ≤ w.heap.size + 1 := Nat.le_succ _
  have HSI : Hid (SlIs bdL 5 ((w.alloc (.cells #[.slice a xs.length cap, sv] 44)).alloc (.cells #[.int .i64 0, .string ⟨#[]⟩, .int .i64 0, .string ⟨#[]⟩, .int .i64 0] 49)) a xs) := hr.below HZ.out
  have HC : Hid (∀ W, SlIs bdL 5 W a xs → Calls Try.prog 53 #[.agg #[.slice a xs.length cap, sv], .int .i64 proto, .string s, .int .i64 port] W fun e w' => e = .returned (.int .i64 (findI (ofOut proto s port) xs)) ∧ Below W.heap.size W w') := fun W hW => spAt_any xs proto s port a cap sv W hlen hW
  have HV : Hid (bindV (ofOut proto s port) xs s = if 20000 < s.size then bdZ else (xs.find? (ofOut proto s port)).getD bdZ) := rfl
  generalize bindV (ofOut proto s port) xs s = ans at *
  generalize ofOut proto s port = f at *
  clear hr HB0 HZ0
  obtain ⟨b0, b1⟩ : _ ∧ _ := ⟨HB1.out.cell (j := 0) rfl, HB1.out.cell (j := 1) rfl⟩
  go_enter Try.func21, Try.ntmps21
  go_wp2_with fail
  generalize (w.alloc (.cells #[.slice a xs.length cap, sv] 44)).alloc (.cells #[.int .i64 0, .string ⟨#[]⟩, .int .i64 0, .string ⟨#[]⟩, .int .i64 0] 49) = W0 at *
  refine (HC.out W0 HSI.out).mono ?_
  rintro e w1 ⟨rfl, q1⟩
  have HW : Hid (Below w.heap.size w w1) := HZ.out.trans (q1.mono HZ.out.size)
  have HB2 := HB1.out.kept (by simp) q1
  have HR2 := HRB.out.kept (by simp [bdL]) q1
  have HS2 : Hid (SlIs bdL 5 w1 a xs) := HSI.out.below q1
  clear b0 b1 HZ HC HSI q1
  have b0 : w1.cell? ⟨w.heap.size, 0, none⟩ = some (.slice a xs.length cap) := HB2.cell rfl
  have z0 : w1.cell? ⟨w.heap.size + 1, 0, none⟩ = some (.int .i64 0) := HR2.cell rfl
  have zf0 := HR2.free (j := 0) (by simp [bdL])
  have z1 : w1.cell? ⟨w.heap.size + 1, 1, none⟩ = some (.string ⟨#[]⟩) := HR2.cell rfl
  have zf1 := HR2.free (j := 1) (by simp [bdL])
  have z2 : w1.cell? ⟨w.heap.size + 1, 2, none⟩ = some (.int .i64 0) := HR2.cell rfl
  have zf2 := HR2.free (j := 2) (by simp [bdL])
  have z3 : w1.cell? ⟨w.heap.size + 1, 3, none⟩ = some (.string ⟨#[]⟩) := HR2.cell rfl
  have zf3 := HR2.free (j := 3) (by simp [bdL])
  have z4 : w1.cell? ⟨w.heap.size + 1, 4, none⟩ = some (.int .i64 0) := HR2.cell rfl
  have zf4 := HR2.free (j := 4) (by simp [bdL])
  have PF : Hid (∀ v0 v1 v2 v3 v4, Below w.heap.size w (((((w1.setCell ⟨w.heap.size + 1, 0, none⟩ v0).setCell ⟨w.heap.size + 1, 1, none⟩ v1).setCell ⟨w.heap.size + 1, 2, none⟩ v2).setCell ⟨w.heap.size + 1, 3, none⟩ v3).setCell ⟨w.heap.size + 1, 4, none⟩ v4)) := fun v0 v1 v2 v3 v4 => (((((HW.out.setCell (p := ⟨w.heap.size + 1, 0, none⟩) hRw v0).setCell (p := ⟨w.heap.size + 1, 1, none⟩) hRw v1).setCell (p := ⟨w.heap.size + 1, 2, none⟩) hRw v2).setCell (p := ⟨w.heap.size + 1, 3, none⟩) hRw v3).setCell (p := ⟨w.heap.size + 1, 4, none⟩) hRw v4)
  clear HB1 HRB HB2 HR2
  by_cases hk : findI f xs < 0
  · have HX : Hid (ans = bdZ) := by unfold Hid; rw [HV.out, find_no f xs hk]; split <;> rfl
    generalize findI f xs = k at *
    go_wp2_with fail
    refine bodyPost_ret (v := .agg #[.int .i64 0, .string ⟨#[]⟩, .int .i64 0, .string ⟨#[]⟩, .int .i64 0]) (by simp [results, Try.results21, go_sem, z0, z1, z2, z3, z4]) rfl (And.intro (congrArg (fun x => Ending.returned (bdC x)) HX.out.symm) (PF.out _ _ _ _ _))
  · obtain ⟨i, hi, hfi, hfd⟩ := findBd_at f xs hk
    rw [hfi]
    clear hk hfi
    by_cases hs : 20000 < s.size
    · have HX : Hid (ans = bdZ) := by unfold Hid; rw [HV.out, if_pos hs]
      have hs' : (20000 : Int) < (s.size : Int) := by omega
      go_wp2_with fail
      refine bodyPost_ret (v := .agg #[.int .i64 0, .string ⟨#[]⟩, .int .i64 0, .string ⟨#[]⟩, .int .i64 0]) (by simp [results, Try.results21, go_sem, z0, z1, z2, z3, z4]) rfl (And.intro (congrArg (fun x => Ending.returned (bdC x)) HX.out.symm) (PF.out _ _ _ _ _))
    · obtain ⟨b, off, rfl, hb, hat⟩ := HS2.out.at hi
      have hA := hat i hi
      obtain ⟨q, hq⟩ : ∃ q, xs[i] = q := ⟨_, rfl⟩
      rw [hq] at hA hfd
      have HX : Hid (ans = q) := by unfold Hid; rw [HV.out, if_neg hs, hfd]; rfl
      have c0 : w1.cell? ⟨b, off + i * 5, none⟩ = some (.int .i64 q.proto) := hA 0 _ rfl
      have c1 : w1.cell? ⟨b, off + i * 5 + 1, none⟩ = some (.string q.inn) := hA 1 _ rfl
      have c2 : w1.cell? ⟨b, off + i * 5 + 2, none⟩ = some (.int .i64 q.inPort) := hA 2 _ rfl
      have c3 : w1.cell? ⟨b, off + i * 5 + 3, none⟩ = some (.string q.out) := hA 3 _ rfl
      have c4 : w1.cell? ⟨b, off + i * 5 + 4, none⟩ = some (.int .i64 q.outPort) := hA 4 _ rfl
      have hs' : ¬ (20000 : Int) < (s.size : Int) := by omega
      clear hA hat hq hfd
      go_wp2_with fail
      refine bodyPost_ret (v := .agg #[.int .i64 q.proto, .string q.inn, .int .i64 q.inPort, .string q.out, .int .i64 q.outPort]) (by simp [results, Try.results21, go_sem, z0, z1, z2, z3, z4]) rfl (And.intro (congrArg (fun x => Ending.returned (bdC x)) HX.out.symm) (PF.out _ _ _ _ _))
set_option maxRecDepth 100000 in
set_option maxHeartbeats 1000000 in
theorem spHas_any (p : Bd) (q : Ss) (w : World) :
    Calls Try.prog 44 #[bdC p, ssC q] w fun e w' => e = .returned (.bool (hasS p q)) ∧ Below w.heap.size w w' := by
  have HV : Hid (hasS p q = (decide (p.proto = q.proto) && decide (p.inn.toList = q.inn.toList) && decide (p.inPort = q.inPort))) := rfl
  generalize hasS p q = ans at *
  obtain ⟨proto, inn, inPort, out, outPort⟩ := p
  obtain ⟨proto', inn', inPort', peer', peerPort', state', untl'⟩ := q
  unfold bdC ssC
  dsimp only at *
  have HZ : Hid (∀ o1 o2, Below w.heap.size w ((w.alloc o1).alloc o2)) := fun o1 o2 => ((Below.refl _ _).alloc (Nat.le_refl _) _).alloc (by simp) _
  go_enter Try.func44, Try.ntmps44
  go_wp2_with fail
  all_goals go_ret
  all_goals exact ⟨ret_bool (by rw [HV.out]; simp_all; try rfl), HZ.out _ _⟩
end Go.Proofs.Ytkakehchiadpbal
