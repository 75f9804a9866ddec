/-
  No cell of these rows narrows 'for every input' (looked for: loops, veiled, ifaces, maps, wideKeys, modest, calm, conditions, laid).
  DERIVED. THE GIVEN ROWS OF THIS SEAT. 6 by the template 'for every input the law returns true; each argument reads behind the call as it read before'; 0 by the template 'total and deterministic' (their statements: YtellgkeakiikkaaTotals.lean).
  GIVEN WITH THE SEED: the statements are not yours to turn. If you find one false, say at which input.
  Laid BY PROGRAM, IN A SANDBOX (cutbox-rows.mjs): the forced cells as the released guide's own fill.sh prints them over the translation 2f9cff7c6f1e61ae… (all of the seat's roots in one cut). By AI agents, Wed Nov 11 2026. No macro, syntax, notation, axiom, sorry.
-/
import Derived.Test.YtellgkeakiikkaaChecked
import GoSem.Claim
import GoSem.ClaimJoined
import GoSem.ClaimMapViews
import Derived.JoinedTies
import Derived.KernelRfl
namespace Go.Proofs.Ytellgkeakiikkaa
/- THE CELL 'sum', in the pinned program and in every row, IS THE sha256 OF THE DUMP (.gsa) THAT YtellgkeakiikkaaProg.lean LOADS. Nothing in Lean hashes anything: it is a label: what it is worth is what the hold of that sum in a sandbox is worth. -/
noncomputable def Try.pinned : Pinned := { name := "ytellgkeakiikkaa", sum := "2f9cff7c6f1e61ae93f26286d88d5523912316cc2d855c9262722664b7776cad", checked := Try.checked }
namespace Rows
def none {H : Type} : Left H := { results := [], args := [] }

/-- 'laws.FnBucket': WHATEVER THE INPUT: true; the input reads as it did. -/
def fnBucketSpec : ChangeSpec := { name := "fnBucket", fn := fun _ => fun
  | [d1, d2] => { results := [.lit (.bool true)], args := [d1, d2] }
  | _ => none }
def fnBucketRow : OpenClaim := { program := "ytellgkeakiikkaa", sum := "2f9cff7c6f1e61ae93f26286d88d5523912316cc2d855c9262722664b7776cad", func := "loop.example/g00314/laws.FnBucket", spec := "fnBucket", apart := false }
def FnBucketSaid : Prop := fnBucketRow.holds Try.pinned (OpenSpec.ofChange fnBucketSpec)

/-- ITS FALSE NEIGHBOUR: 'it returns false'. Refute it at one input. -/
def fnBucketWrong : ChangeSpec := { name := "fnBucket", fn := fun _ => fun
  | [d1, d2] => { results := [.lit (.bool false)], args := [d1, d2] }
  | _ => none }
def FnBucketWrongFalsely : Prop := fnBucketRow.holds Try.pinned (OpenSpec.ofChange fnBucketWrong)

/-- 'laws.FnTell': WHATEVER THE INPUT: true; the input reads as it did. -/
def fnTellSpec : ChangeSpec := { name := "fnTell", fn := fun _ => fun
  | [d1, d2] => { results := [.lit (.bool true)], args := [d1, d2] }
  | _ => none }
def fnTellRow : OpenClaim := { program := "ytellgkeakiikkaa", sum := "2f9cff7c6f1e61ae93f26286d88d5523912316cc2d855c9262722664b7776cad", func := "loop.example/g00314/laws.FnTell", spec := "fnTell", apart := false }
def FnTellSaid : Prop := fnTellRow.holds Try.pinned (OpenSpec.ofChange fnTellSpec)

/-- ITS FALSE NEIGHBOUR: 'it returns false'. Refute it at one input. -/
def fnTellWrong : ChangeSpec := { name := "fnTell", fn := fun _ => fun
  | [d1, d2] => { results := [.lit (.bool false)], args := [d1, d2] }
  | _ => none }
def FnTellWrongFalsely : Prop := fnTellRow.holds Try.pinned (OpenSpec.ofChange fnTellWrong)

/-- 'laws.FnExactBucketRight': WHATEVER THE INPUT: true; the input reads as it did. -/
def fnExactBucketRightSpec : ChangeSpec := { name := "fnExactBucketRight", fn := fun _ => fun
  | [d] => { results := [.lit (.bool true)], args := [d] }
  | _ => none }
def fnExactBucketRightRow : OpenClaim := { program := "ytellgkeakiikkaa", sum := "2f9cff7c6f1e61ae93f26286d88d5523912316cc2d855c9262722664b7776cad", func := "loop.example/g00314/laws.FnExactBucketRight", spec := "fnExactBucketRight", apart := false }
def FnExactBucketRightSaid : Prop := fnExactBucketRightRow.holds Try.pinned (OpenSpec.ofChange fnExactBucketRightSpec)

/-- ITS FALSE NEIGHBOUR: 'it returns false'. Refute it at one input. -/
def fnExactBucketRightWrong : ChangeSpec := { name := "fnExactBucketRight", fn := fun _ => fun
  | [d] => { results := [.lit (.bool false)], args := [d] }
  | _ => none }
def FnExactBucketRightWrongFalsely : Prop := fnExactBucketRightRow.holds Try.pinned (OpenSpec.ofChange fnExactBucketRightWrong)

/-- 'laws.FnExactBucketTake': WHATEVER THE INPUT: true; the input reads as it did. -/
def fnExactBucketTakeSpec : ChangeSpec := { name := "fnExactBucketTake", fn := fun _ => fun
  | [d1, d2] => { results := [.lit (.bool true)], args := [d1, d2] }
  | _ => none }
def fnExactBucketTakeRow : OpenClaim := { program := "ytellgkeakiikkaa", sum := "2f9cff7c6f1e61ae93f26286d88d5523912316cc2d855c9262722664b7776cad", func := "loop.example/g00314/laws.FnExactBucketTake", spec := "fnExactBucketTake", apart := false }
def FnExactBucketTakeSaid : Prop := fnExactBucketTakeRow.holds Try.pinned (OpenSpec.ofChange fnExactBucketTakeSpec)

/-- ITS FALSE NEIGHBOUR: 'it returns false'. Refute it at one input. -/
def fnExactBucketTakeWrong : ChangeSpec := { name := "fnExactBucketTake", fn := fun _ => fun
  | [d1, d2] => { results := [.lit (.bool false)], args := [d1, d2] }
  | _ => none }
def FnExactBucketTakeWrongFalsely : Prop := fnExactBucketTakeRow.holds Try.pinned (OpenSpec.ofChange fnExactBucketTakeWrong)

/-- 'laws.FnExactTellFour': WHATEVER THE INPUT: true; the input reads as it did. -/
def fnExactTellFourSpec : ChangeSpec := { name := "fnExactTellFour", fn := fun _ => fun
  | [d1, d2, d3, d4, d5] => { results := [.lit (.bool true)], args := [d1, d2, d3, d4, d5] }
  | _ => none }
def fnExactTellFourRow : OpenClaim := { program := "ytellgkeakiikkaa", sum := "2f9cff7c6f1e61ae93f26286d88d5523912316cc2d855c9262722664b7776cad", func := "loop.example/g00314/laws.FnExactTellFour", spec := "fnExactTellFour", apart := false }
def FnExactTellFourSaid : Prop := fnExactTellFourRow.holds Try.pinned (OpenSpec.ofChange fnExactTellFourSpec)

/-- ITS FALSE NEIGHBOUR: 'it returns false'. Refute it at one input. -/
def fnExactTellFourWrong : ChangeSpec := { name := "fnExactTellFour", fn := fun _ => fun
  | [d1, d2, d3, d4, d5] => { results := [.lit (.bool false)], args := [d1, d2, d3, d4, d5] }
  | _ => none }
def FnExactTellFourWrongFalsely : Prop := fnExactTellFourRow.holds Try.pinned (OpenSpec.ofChange fnExactTellFourWrong)

/-- 'laws.FnExactTellSix': WHATEVER THE INPUT: true; the input reads as it did. -/
def fnExactTellSixSpec : ChangeSpec := { name := "fnExactTellSix", fn := fun _ => fun
  | [d1, d2, d3, d4, d5] => { results := [.lit (.bool true)], args := [d1, d2, d3, d4, d5] }
  | _ => none }
def fnExactTellSixRow : OpenClaim := { program := "ytellgkeakiikkaa", sum := "2f9cff7c6f1e61ae93f26286d88d5523912316cc2d855c9262722664b7776cad", func := "loop.example/g00314/laws.FnExactTellSix", spec := "fnExactTellSix", apart := false }
def FnExactTellSixSaid : Prop := fnExactTellSixRow.holds Try.pinned (OpenSpec.ofChange fnExactTellSixSpec)

/-- ITS FALSE NEIGHBOUR: 'it returns false'. Refute it at one input. -/
def fnExactTellSixWrong : ChangeSpec := { name := "fnExactTellSix", fn := fun _ => fun
  | [d1, d2, d3, d4, d5] => { results := [.lit (.bool false)], args := [d1, d2, d3, d4, d5] }
  | _ => none }
def FnExactTellSixWrongFalsely : Prop := fnExactTellSixRow.holds Try.pinned (OpenSpec.ofChange fnExactTellSixWrong)

/- THE SECOND FORM. 'bulk': how many values and letters a reading holds, each counted each time it is reached (what is shared counts as often as it is met; a slice's spare places count too). A statement '..UptoSaid' is the law's where the arguments, and the package variables that the reading takes, are together of bulk at most 1048576: NARROWER than '..Said'. Prove '..Said' where nothing that the law and all that it calls make is longer than what came in: it says more and counts as full. Else prove '..UptoSaid'. A law counts once. -/
mutual
def uptoBulk {H : Type} : DataW H → Nat
  | .lit (.string bytes) => bytes.length + 1
  | .lit _ => 1
  | .nil => 1
  | .ptr d => uptoBulk d + 1
  | .slice elems spare => uptoBulkAll elems + uptoBulkAll spare + 1
  | .agg parts => uptoBulkAll parts + 1
  | .iface _ d => uptoBulk d + 1
  | .map entries => uptoBulkEntries entries + 1
  | .held _ => 1
def uptoBulkAll {H : Type} : List (DataW H) → Nat
  | [] => 0
  | d :: r => uptoBulk d + uptoBulkAll r
def uptoBulkEntries {H : Type} : List (Lit × DataW H) → Nat
  | [] => 0
  | x :: r => uptoBulkEntry x + uptoBulkEntries r
def uptoBulkEntry {H : Type} : Lit × DataW H → Nat
  | (.string bytes, d) => bytes.length + uptoBulk d + 1
  | (_, d) => uptoBulk d + 1
 end
def uptoSmall : (H : Type) → List (DataW H) → Bool := fun _ ds => decide (uptoBulkAll ds ≤ 1048576)
def OpenSpec.upto (s : _root_.Go.ChangeSpec) : _root_.Go.OpenSpec := { _root_.Go.OpenSpec.ofChange s with cond := some uptoSmall }

/-- 'laws.FnBucket', WHERE WHAT IT READS IS OF BULK AT MOST 1048576: true; the input reads as it did. -/
def fnBucketUptoRow : OpenClaim := { program := "ytellgkeakiikkaa", sum := "2f9cff7c6f1e61ae93f26286d88d5523912316cc2d855c9262722664b7776cad", func := "loop.example/g00314/laws.FnBucket", spec := "fnBucket", apart := false, narrowed := true }
def FnBucketUptoSaid : Prop := fnBucketUptoRow.holds Try.pinned (OpenSpec.upto fnBucketSpec)

/-- 'laws.FnTell', WHERE WHAT IT READS IS OF BULK AT MOST 1048576: true; the input reads as it did. -/
def fnTellUptoRow : OpenClaim := { program := "ytellgkeakiikkaa", sum := "2f9cff7c6f1e61ae93f26286d88d5523912316cc2d855c9262722664b7776cad", func := "loop.example/g00314/laws.FnTell", spec := "fnTell", apart := false, narrowed := true }
def FnTellUptoSaid : Prop := fnTellUptoRow.holds Try.pinned (OpenSpec.upto fnTellSpec)

/-- 'laws.FnExactBucketRight', WHERE WHAT IT READS IS OF BULK AT MOST 1048576: true; the input reads as it did. -/
def fnExactBucketRightUptoRow : OpenClaim := { program := "ytellgkeakiikkaa", sum := "2f9cff7c6f1e61ae93f26286d88d5523912316cc2d855c9262722664b7776cad", func := "loop.example/g00314/laws.FnExactBucketRight", spec := "fnExactBucketRight", apart := false, narrowed := true }
def FnExactBucketRightUptoSaid : Prop := fnExactBucketRightUptoRow.holds Try.pinned (OpenSpec.upto fnExactBucketRightSpec)

/-- 'laws.FnExactBucketTake', WHERE WHAT IT READS IS OF BULK AT MOST 1048576: true; the input reads as it did. -/
def fnExactBucketTakeUptoRow : OpenClaim := { program := "ytellgkeakiikkaa", sum := "2f9cff7c6f1e61ae93f26286d88d5523912316cc2d855c9262722664b7776cad", func := "loop.example/g00314/laws.FnExactBucketTake", spec := "fnExactBucketTake", apart := false, narrowed := true }
def FnExactBucketTakeUptoSaid : Prop := fnExactBucketTakeUptoRow.holds Try.pinned (OpenSpec.upto fnExactBucketTakeSpec)

/-- 'laws.FnExactTellFour', WHERE WHAT IT READS IS OF BULK AT MOST 1048576: true; the input reads as it did. -/
def fnExactTellFourUptoRow : OpenClaim := { program := "ytellgkeakiikkaa", sum := "2f9cff7c6f1e61ae93f26286d88d5523912316cc2d855c9262722664b7776cad", func := "loop.example/g00314/laws.FnExactTellFour", spec := "fnExactTellFour", apart := false, narrowed := true }
def FnExactTellFourUptoSaid : Prop := fnExactTellFourUptoRow.holds Try.pinned (OpenSpec.upto fnExactTellFourSpec)

/-- 'laws.FnExactTellSix', WHERE WHAT IT READS IS OF BULK AT MOST 1048576: true; the input reads as it did. -/
def fnExactTellSixUptoRow : OpenClaim := { program := "ytellgkeakiikkaa", sum := "2f9cff7c6f1e61ae93f26286d88d5523912316cc2d855c9262722664b7776cad", func := "loop.example/g00314/laws.FnExactTellSix", spec := "fnExactTellSix", apart := false, narrowed := true }
def FnExactTellSixUptoSaid : Prop := fnExactTellSixUptoRow.holds Try.pinned (OpenSpec.upto fnExactTellSixSpec)

end Rows
end Go.Proofs.Ytellgkeakiikkaa
