/- SBib2: what the specification's BindOf, BindAt, l08Has answer. Printed by mksbib2.py. -/
import Derived.Test.YtkakehchiadpbamSBib
import Derived.Test.YtkakehchiadpbamLawSession
import Derived.Deep.DeepCutAuto
namespace Go.Proofs.Ytkakehchiadpbam
open Go.RowKit Go.PlainAid
set_option linter.unusedVariables false
set_option linter.unusedSimpArgs false

def bdZ : Bd := ⟨0, ⟨#[]⟩, 0, ⟨#[]⟩, 0⟩
/-- The first bind of an end, or the zero one. -/
def bindV (f : Bd → Bool) (xs : List Bd) (s : ByteArray) : Bd := if 20000 < s.size then bdZ else (xs.find? f).getD bdZ
theorem findBd_at (f : Bd → Bool) (xs : List Bd) (h : ¬ findI f xs < 0) : ∃ i : Nat, ∃ hi : i < xs.length, findI f xs = i ∧ xs.find? f = some xs[i] := by
  unfold findI at *
  cases hf : xs.findIdx? f with
  | none => rw [hf] at h; exact absurd (by decide) h
  | some i =>
    obtain ⟨hi, hfi, hn⟩ := List.findIdx?_eq_some_iff_getElem.1 hf
    exact ⟨i, hi, rfl, List.find?_eq_some_iff_getElem.2 ⟨hfi, i, hi, rfl, fun j hj => by simpa using hn j hj⟩⟩
theorem find_no (f : Bd → Bool) (xs : List Bd) (h : findI f xs < 0) : xs.find? f = none := by
  unfold findI at h
  cases hf : xs.findIdx? f with
  | none => exact List.find?_eq_none.2 (fun x hx => by have := List.findIdx?_eq_none_iff.1 hf x hx; simp [this])
  | some i => rw [hf] at h; simp only at h; omega

set_option maxRecDepth 100000 in
set_option maxHeartbeats 1000000 in
theorem spHas_any (p : Bd) (q : Ss) (w : World) :
    Calls Try.prog 44 #[bdC p, ssC q] w fun e w' => e = .returned (.bool (hasS p q)) ∧ Below w.heap.size w w' := by
  have HV : Hid (hasS p q = (decide (p.proto = q.proto) && decide (p.inn.toList = q.inn.toList) && decide (p.inPort = q.inPort))) := rfl
  generalize hasS p q = ans at *
  obtain ⟨proto, inn, inPort, out, outPort⟩ := p
  obtain ⟨proto', inn', inPort', peer', peerPort', state', untl'⟩ := q
  unfold bdC ssC
  dsimp only at *
  have HZ : Hid (∀ o1 o2, Below w.heap.size w ((w.alloc o1).alloc o2)) := fun o1 o2 => ((Below.refl _ _).alloc (Nat.le_refl _) _).alloc (by simp) _
  go_enter Try.func44, Try.ntmps44
  go_wp2_with fail
  all_goals go_ret
  all_goals exact ⟨ret_bool (by rw [HV.out]; simp_all; try rfl), HZ.out _ _⟩
end Go.Proofs.Ytkakehchiadpbam
