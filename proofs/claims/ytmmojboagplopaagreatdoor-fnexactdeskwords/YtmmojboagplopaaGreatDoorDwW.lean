/- DwW: what DeskWords of both sides answers: the five words, rising, in a row of their own. -/
import Derived.Test.YtmmojboagplopaaGreatDoorDwO
import Derived.Test.YtmmojboagplopaaGreatDoorOwnS
namespace Go.Proofs.YtmmojboagplopaaGreatDoor
open Go.RowKit Go.Maps
set_option linter.unusedVariables false
set_option linter.unusedSimpArgs false
/-- The words with which a line may begin, rising. -/
def wsD : List ByteArray := [⟨#[98, 105, 110, 100, 115]⟩, ⟨#[114, 111, 117, 116, 101]⟩, ⟨#[116, 99, 112]⟩, ⟨#[116, 105, 99, 107]⟩, ⟨#[117, 100, 112]⟩]
set_option maxRecDepth 100000 in
theorem specWords_any (w : World) :
    Calls Tryz.prog 4 #[] w fun e w' => (∃ a cap, e = .returned (.slice a wsD.length cap) ∧ SlOwn strL1 1 w.heap.size w' a wsD) ∧ Below w.heap.size w w' := by
  have ho : (w.alloc (.cells #[.string ⟨#[98, 105, 110, 100, 115]⟩, .string ⟨#[114, 111, 117, 116, 101]⟩, .string ⟨#[116, 99, 112]⟩, .string ⟨#[116, 105, 99, 107]⟩, .string ⟨#[117, 100, 112]⟩] 9)).ownsRow w.heap.size 9 1 (.slice (some ⟨w.heap.size, 0, none⟩) 5 5) wsD.length (flatS strL1 wsD) :=
    ⟨by simp [flatS, wsD, strL1], .inr ⟨w.heap.size, 5, _, rfl, Nat.le_refl _, heap_alloc_new w _, Nat.le_refl _, by unfold maxLen; omega, rfl, by simp [flatS, wsD, strL1]⟩⟩
  obtain ⟨a, cap, e1, _, h1⟩ := Row.shape (en := strL1) (n := 1) (fun _ => rfl) (w0 := w) ⟨ho, (Below.refl _ _).alloc (Nat.le_refl _) _⟩
  have HO : Hid _ := h1
  have HE : Hid _ := e1
  clear ho h1 e1
  go_enter Tryz.func4, Tryz.ntmps4
  go_wp2_with fail
  go_ret
  exact ⟨⟨a, cap, congrArg Ending.returned HE.out, HO.out⟩, (Below.refl _ _).alloc (Nat.le_refl _) _⟩
end Go.Proofs.YtmmojboagplopaaGreatDoor
