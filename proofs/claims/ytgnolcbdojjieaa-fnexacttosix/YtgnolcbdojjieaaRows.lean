/-
  No cell of these rows narrows 'for every input' (looked for: loops, veiled, ifaces, maps, wideKeys, modest, calm, conditions, laid).
  DERIVED. THE GIVEN ROWS OF THIS SEAT. 3 by the template 'for every input the law returns true; each argument reads behind the call as it read before'; 0 by the template 'total and deterministic' (their statements: YtgnolcbdojjieaaTotals.lean).
  GIVEN WITH THE SEED: the statements are not yours to turn. If you find one false, say at which input.
  Laid BY PROGRAM, IN A SANDBOX (cutbox-rows.mjs): the forced cells as the released guide's own fill.sh prints them over the translation 482abac512810732… (all of the seat's roots in one cut). By AI agents, Wed Nov 11 2026. No macro, syntax, notation, axiom, sorry.
-/
import Derived.Test.YtgnolcbdojjieaaChecked
import GoSem.Claim
import GoSem.ClaimJoined
import GoSem.ClaimMapViews
import Derived.JoinedTies
import Derived.KernelRfl
namespace Go.Proofs.Ytgnolcbdojjieaa
/- THE CELL 'sum', in the pinned program and in every row, IS THE sha256 OF THE DUMP (.gsa) THAT YtgnolcbdojjieaaProg.lean LOADS. Nothing in Lean hashes anything: it is a label: what it is worth is what the hold of that sum in a sandbox is worth. -/
noncomputable def Try.pinned : Pinned := { name := "ytgnolcbdojjieaa", sum := "482abac512810732378af6c53bf27b3f9e045c0821a8715be5bbe8c86cf8d140", checked := Try.checked }
namespace Rows
def none {H : Type} : Left H := { results := [], args := [] }

/-- 'laws.FnTurn': WHATEVER THE INPUT: true; the input reads as it did. -/
def fnTurnSpec : ChangeSpec := { name := "fnTurn", fn := fun _ => fun
  | [d1, d2] => { results := [.lit (.bool true)], args := [d1, d2] }
  | _ => none }
def fnTurnRow : OpenClaim := { program := "ytgnolcbdojjieaa", sum := "482abac512810732378af6c53bf27b3f9e045c0821a8715be5bbe8c86cf8d140", func := "loop.example/g00314/laws.FnTurn", spec := "fnTurn", unfollowed := true, recurses := true, apart := false }
def FnTurnSaid : Prop := fnTurnRow.holds Try.pinned (OpenSpec.ofChange fnTurnSpec)

/-- ITS FALSE NEIGHBOUR: 'it returns false'. Refute it at one input. -/
def fnTurnWrong : ChangeSpec := { name := "fnTurn", fn := fun _ => fun
  | [d1, d2] => { results := [.lit (.bool false)], args := [d1, d2] }
  | _ => none }
def FnTurnWrongFalsely : Prop := fnTurnRow.holds Try.pinned (OpenSpec.ofChange fnTurnWrong)

/-- 'laws.FnExactToFour': WHATEVER THE INPUT: true; the input reads as it did. -/
def fnExactToFourSpec : ChangeSpec := { name := "fnExactToFour", fn := fun _ => fun
  | [d1, d2, d3] => { results := [.lit (.bool true)], args := [d1, d2, d3] }
  | _ => none }
def fnExactToFourRow : OpenClaim := { program := "ytgnolcbdojjieaa", sum := "482abac512810732378af6c53bf27b3f9e045c0821a8715be5bbe8c86cf8d140", func := "loop.example/g00314/laws.FnExactToFour", spec := "fnExactToFour", unfollowed := true, recurses := true, apart := false }
def FnExactToFourSaid : Prop := fnExactToFourRow.holds Try.pinned (OpenSpec.ofChange fnExactToFourSpec)

/-- ITS FALSE NEIGHBOUR: 'it returns false'. Refute it at one input. -/
def fnExactToFourWrong : ChangeSpec := { name := "fnExactToFour", fn := fun _ => fun
  | [d1, d2, d3] => { results := [.lit (.bool false)], args := [d1, d2, d3] }
  | _ => none }
def FnExactToFourWrongFalsely : Prop := fnExactToFourRow.holds Try.pinned (OpenSpec.ofChange fnExactToFourWrong)

/-- 'laws.FnExactToSix': WHATEVER THE INPUT: true; the input reads as it did. -/
def fnExactToSixSpec : ChangeSpec := { name := "fnExactToSix", fn := fun _ => fun
  | [d1, d2, d3] => { results := [.lit (.bool true)], args := [d1, d2, d3] }
  | _ => none }
def fnExactToSixRow : OpenClaim := { program := "ytgnolcbdojjieaa", sum := "482abac512810732378af6c53bf27b3f9e045c0821a8715be5bbe8c86cf8d140", func := "loop.example/g00314/laws.FnExactToSix", spec := "fnExactToSix", unfollowed := true, recurses := true, apart := false }
def FnExactToSixSaid : Prop := fnExactToSixRow.holds Try.pinned (OpenSpec.ofChange fnExactToSixSpec)

/-- ITS FALSE NEIGHBOUR: 'it returns false'. Refute it at one input. -/
def fnExactToSixWrong : ChangeSpec := { name := "fnExactToSix", fn := fun _ => fun
  | [d1, d2, d3] => { results := [.lit (.bool false)], args := [d1, d2, d3] }
  | _ => none }
def FnExactToSixWrongFalsely : Prop := fnExactToSixRow.holds Try.pinned (OpenSpec.ofChange fnExactToSixWrong)

/- THE SECOND FORM. 'bulk': how many values and letters a reading holds, each counted each time it is reached (what is shared counts as often as it is met; a slice's spare places count too). A statement '..UptoSaid' is the law's where the arguments, and the package variables that the reading takes, are together of bulk at most 1048576: NARROWER than '..Said'. Prove '..Said' where nothing that the law and all that it calls make is longer than what came in: it says more and counts as full. Else prove '..UptoSaid'. A law counts once. -/
mutual
def uptoBulk {H : Type} : DataW H → Nat
  | .lit (.string bytes) => bytes.length + 1
  | .lit _ => 1
  | .nil => 1
  | .ptr d => uptoBulk d + 1
  | .slice elems spare => uptoBulkAll elems + uptoBulkAll spare + 1
  | .agg parts => uptoBulkAll parts + 1
  | .iface _ d => uptoBulk d + 1
  | .map entries => uptoBulkEntries entries + 1
  | .held _ => 1
def uptoBulkAll {H : Type} : List (DataW H) → Nat
  | [] => 0
  | d :: r => uptoBulk d + uptoBulkAll r
def uptoBulkEntries {H : Type} : List (Lit × DataW H) → Nat
  | [] => 0
  | x :: r => uptoBulkEntry x + uptoBulkEntries r
def uptoBulkEntry {H : Type} : Lit × DataW H → Nat
  | (.string bytes, d) => bytes.length + uptoBulk d + 1
  | (_, d) => uptoBulk d + 1
 end
def uptoSmall : (H : Type) → List (DataW H) → Bool := fun _ ds => decide (uptoBulkAll ds ≤ 1048576)
def OpenSpec.upto (s : _root_.Go.ChangeSpec) : _root_.Go.OpenSpec := { _root_.Go.OpenSpec.ofChange s with cond := some uptoSmall }

/-- 'laws.FnTurn', WHERE WHAT IT READS IS OF BULK AT MOST 1048576: true; the input reads as it did. -/
def fnTurnUptoRow : OpenClaim := { program := "ytgnolcbdojjieaa", sum := "482abac512810732378af6c53bf27b3f9e045c0821a8715be5bbe8c86cf8d140", func := "loop.example/g00314/laws.FnTurn", spec := "fnTurn", unfollowed := true, recurses := true, apart := false, narrowed := true }
def FnTurnUptoSaid : Prop := fnTurnUptoRow.holds Try.pinned (OpenSpec.upto fnTurnSpec)

/-- 'laws.FnExactToFour', WHERE WHAT IT READS IS OF BULK AT MOST 1048576: true; the input reads as it did. -/
def fnExactToFourUptoRow : OpenClaim := { program := "ytgnolcbdojjieaa", sum := "482abac512810732378af6c53bf27b3f9e045c0821a8715be5bbe8c86cf8d140", func := "loop.example/g00314/laws.FnExactToFour", spec := "fnExactToFour", unfollowed := true, recurses := true, apart := false, narrowed := true }
def FnExactToFourUptoSaid : Prop := fnExactToFourUptoRow.holds Try.pinned (OpenSpec.upto fnExactToFourSpec)

/-- 'laws.FnExactToSix', WHERE WHAT IT READS IS OF BULK AT MOST 1048576: true; the input reads as it did. -/
def fnExactToSixUptoRow : OpenClaim := { program := "ytgnolcbdojjieaa", sum := "482abac512810732378af6c53bf27b3f9e045c0821a8715be5bbe8c86cf8d140", func := "loop.example/g00314/laws.FnExactToSix", spec := "fnExactToSix", unfollowed := true, recurses := true, apart := false, narrowed := true }
def FnExactToSixUptoSaid : Prop := fnExactToSixUptoRow.holds Try.pinned (OpenSpec.upto fnExactToSixSpec)

end Rows
end Go.Proofs.Ytgnolcbdojjieaa
