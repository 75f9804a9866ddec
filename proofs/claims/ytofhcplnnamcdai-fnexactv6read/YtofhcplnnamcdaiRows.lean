/-
  No cell of these rows narrows 'for every input' (looked for: loops, veiled, ifaces, maps, wideKeys, modest, calm, conditions, laid).
  DERIVED. THE GIVEN ROWS OF THIS SEAT. 6 by the template 'for every input the law returns true; each argument reads behind the call as it read before'; 0 by the template 'total and deterministic' (their statements: YtofhcplnnamcdaiTotals.lean).
  GIVEN WITH THE SEED: the statements are not yours to turn. If you find one false, say at which input.
  Laid BY PROGRAM, IN A SANDBOX (cutbox-rows.mjs): the forced cells as the released guide's own fill.sh prints them over the translation 94c1a9f083487484… (all of the seat's roots in one cut). By AI agents, Wed Nov 11 2026. No macro, syntax, notation, axiom, sorry.
-/
import Derived.Test.YtofhcplnnamcdaiChecked
import GoSem.Claim
import GoSem.ClaimJoined
import GoSem.ClaimMapViews
import Derived.JoinedTies
import Derived.KernelRfl
namespace Go.Proofs.Ytofhcplnnamcdai
/- THE CELL 'sum', in the pinned program and in every row, IS THE sha256 OF THE DUMP (.gsa) THAT YtofhcplnnamcdaiProg.lean LOADS. Nothing in Lean hashes anything: it is a label: what it is worth is what the hold of that sum in a sandbox is worth. -/
noncomputable def Try.pinned : Pinned := { name := "ytofhcplnnamcdai", sum := "94c1a9f083487484fb8b60c87f9e9ac56ea6f11cb0a6cde2f82dd97c12301d56", checked := Try.checked }
namespace Rows
def none {H : Type} : Left H := { results := [], args := [] }

/-- 'laws.FnExactV6Right': WHATEVER THE INPUT: true; the input reads as it did. -/
def fnExactV6RightSpec : ChangeSpec := { name := "fnExactV6Right", fn := fun _ => fun
  | [d] => { results := [.lit (.bool true)], args := [d] }
  | _ => none }
def fnExactV6RightRow : OpenClaim := { program := "ytofhcplnnamcdai", sum := "94c1a9f083487484fb8b60c87f9e9ac56ea6f11cb0a6cde2f82dd97c12301d56", func := "loop.example/g00314/laws.FnExactV6Right", spec := "fnExactV6Right", apart := false }
def FnExactV6RightSaid : Prop := fnExactV6RightRow.holds Try.pinned (OpenSpec.ofChange fnExactV6RightSpec)

/-- ITS FALSE NEIGHBOUR: 'it returns false'. Refute it at one input. -/
def fnExactV6RightWrong : ChangeSpec := { name := "fnExactV6Right", fn := fun _ => fun
  | [d] => { results := [.lit (.bool false)], args := [d] }
  | _ => none }
def FnExactV6RightWrongFalsely : Prop := fnExactV6RightRow.holds Try.pinned (OpenSpec.ofChange fnExactV6RightWrong)

/-- 'laws.FnExactV6Bytes': WHATEVER THE INPUT: true; the input reads as it did. -/
def fnExactV6BytesSpec : ChangeSpec := { name := "fnExactV6Bytes", fn := fun _ => fun
  | [d] => { results := [.lit (.bool true)], args := [d] }
  | _ => none }
def fnExactV6BytesRow : OpenClaim := { program := "ytofhcplnnamcdai", sum := "94c1a9f083487484fb8b60c87f9e9ac56ea6f11cb0a6cde2f82dd97c12301d56", func := "loop.example/g00314/laws.FnExactV6Bytes", spec := "fnExactV6Bytes", apart := false }
def FnExactV6BytesSaid : Prop := fnExactV6BytesRow.holds Try.pinned (OpenSpec.ofChange fnExactV6BytesSpec)

/-- ITS FALSE NEIGHBOUR: 'it returns false'. Refute it at one input. -/
def fnExactV6BytesWrong : ChangeSpec := { name := "fnExactV6Bytes", fn := fun _ => fun
  | [d] => { results := [.lit (.bool false)], args := [d] }
  | _ => none }
def FnExactV6BytesWrongFalsely : Prop := fnExactV6BytesRow.holds Try.pinned (OpenSpec.ofChange fnExactV6BytesWrong)

/-- 'laws.FnExactV6Read': WHATEVER THE INPUT: true; the input reads as it did. -/
def fnExactV6ReadSpec : ChangeSpec := { name := "fnExactV6Read", fn := fun _ => fun
  | [d] => { results := [.lit (.bool true)], args := [d] }
  | _ => none }
def fnExactV6ReadRow : OpenClaim := { program := "ytofhcplnnamcdai", sum := "94c1a9f083487484fb8b60c87f9e9ac56ea6f11cb0a6cde2f82dd97c12301d56", func := "loop.example/g00314/laws.FnExactV6Read", spec := "fnExactV6Read", unfollowed := true, recurses := true, apart := false }
def FnExactV6ReadSaid : Prop := fnExactV6ReadRow.holds Try.pinned (OpenSpec.ofChange fnExactV6ReadSpec)

/-- ITS FALSE NEIGHBOUR: 'it returns false'. Refute it at one input. -/
def fnExactV6ReadWrong : ChangeSpec := { name := "fnExactV6Read", fn := fun _ => fun
  | [d] => { results := [.lit (.bool false)], args := [d] }
  | _ => none }
def FnExactV6ReadWrongFalsely : Prop := fnExactV6ReadRow.holds Try.pinned (OpenSpec.ofChange fnExactV6ReadWrong)

/-- 'laws.FnExactFlowRight': WHATEVER THE INPUT: true; the input reads as it did. -/
def fnExactFlowRightSpec : ChangeSpec := { name := "fnExactFlowRight", fn := fun _ => fun
  | [d] => { results := [.lit (.bool true)], args := [d] }
  | _ => none }
def fnExactFlowRightRow : OpenClaim := { program := "ytofhcplnnamcdai", sum := "94c1a9f083487484fb8b60c87f9e9ac56ea6f11cb0a6cde2f82dd97c12301d56", func := "loop.example/g00314/laws.FnExactFlowRight", spec := "fnExactFlowRight", apart := false }
def FnExactFlowRightSaid : Prop := fnExactFlowRightRow.holds Try.pinned (OpenSpec.ofChange fnExactFlowRightSpec)

/-- ITS FALSE NEIGHBOUR: 'it returns false'. Refute it at one input. -/
def fnExactFlowRightWrong : ChangeSpec := { name := "fnExactFlowRight", fn := fun _ => fun
  | [d] => { results := [.lit (.bool false)], args := [d] }
  | _ => none }
def FnExactFlowRightWrongFalsely : Prop := fnExactFlowRightRow.holds Try.pinned (OpenSpec.ofChange fnExactFlowRightWrong)

/-- 'laws.FnExactFlowOf': WHATEVER THE INPUT: true; the input reads as it did. -/
def fnExactFlowOfSpec : ChangeSpec := { name := "fnExactFlowOf", fn := fun _ => fun
  | [d1, d2, d3, d4] => { results := [.lit (.bool true)], args := [d1, d2, d3, d4] }
  | _ => none }
def fnExactFlowOfRow : OpenClaim := { program := "ytofhcplnnamcdai", sum := "94c1a9f083487484fb8b60c87f9e9ac56ea6f11cb0a6cde2f82dd97c12301d56", func := "loop.example/g00314/laws.FnExactFlowOf", spec := "fnExactFlowOf", apart := false }
def FnExactFlowOfSaid : Prop := fnExactFlowOfRow.holds Try.pinned (OpenSpec.ofChange fnExactFlowOfSpec)

/-- ITS FALSE NEIGHBOUR: 'it returns false'. Refute it at one input. -/
def fnExactFlowOfWrong : ChangeSpec := { name := "fnExactFlowOf", fn := fun _ => fun
  | [d1, d2, d3, d4] => { results := [.lit (.bool false)], args := [d1, d2, d3, d4] }
  | _ => none }
def FnExactFlowOfWrongFalsely : Prop := fnExactFlowOfRow.holds Try.pinned (OpenSpec.ofChange fnExactFlowOfWrong)

/-- 'laws.FnExactCarrySum': WHATEVER THE INPUT: true; the input reads as it did. -/
def fnExactCarrySumSpec : ChangeSpec := { name := "fnExactCarrySum", fn := fun _ => fun
  | [d1, d2, d3, d4] => { results := [.lit (.bool true)], args := [d1, d2, d3, d4] }
  | _ => none }
def fnExactCarrySumRow : OpenClaim := { program := "ytofhcplnnamcdai", sum := "94c1a9f083487484fb8b60c87f9e9ac56ea6f11cb0a6cde2f82dd97c12301d56", func := "loop.example/g00314/laws.FnExactCarrySum", spec := "fnExactCarrySum", apart := false }
def FnExactCarrySumSaid : Prop := fnExactCarrySumRow.holds Try.pinned (OpenSpec.ofChange fnExactCarrySumSpec)

/-- ITS FALSE NEIGHBOUR: 'it returns false'. Refute it at one input. -/
def fnExactCarrySumWrong : ChangeSpec := { name := "fnExactCarrySum", fn := fun _ => fun
  | [d1, d2, d3, d4] => { results := [.lit (.bool false)], args := [d1, d2, d3, d4] }
  | _ => none }
def FnExactCarrySumWrongFalsely : Prop := fnExactCarrySumRow.holds Try.pinned (OpenSpec.ofChange fnExactCarrySumWrong)

/- THE SECOND FORM. 'bulk': how many values and letters a reading holds, each counted each time it is reached (what is shared counts as often as it is met; a slice's spare places count too). A statement '..UptoSaid' is the law's where the arguments, and the package variables that the reading takes, are together of bulk at most 1048576: NARROWER than '..Said'. Prove '..Said' where nothing that the law and all that it calls make is longer than what came in: it says more and counts as full. Else prove '..UptoSaid'. A law counts once. -/
mutual
def uptoBulk {H : Type} : DataW H → Nat
  | .lit (.string bytes) => bytes.length + 1
  | .lit _ => 1
  | .nil => 1
  | .ptr d => uptoBulk d + 1
  | .slice elems spare => uptoBulkAll elems + uptoBulkAll spare + 1
  | .agg parts => uptoBulkAll parts + 1
  | .iface _ d => uptoBulk d + 1
  | .map entries => uptoBulkEntries entries + 1
  | .held _ => 1
def uptoBulkAll {H : Type} : List (DataW H) → Nat
  | [] => 0
  | d :: r => uptoBulk d + uptoBulkAll r
def uptoBulkEntries {H : Type} : List (Lit × DataW H) → Nat
  | [] => 0
  | x :: r => uptoBulkEntry x + uptoBulkEntries r
def uptoBulkEntry {H : Type} : Lit × DataW H → Nat
  | (.string bytes, d) => bytes.length + uptoBulk d + 1
  | (_, d) => uptoBulk d + 1
 end
def uptoSmall : (H : Type) → List (DataW H) → Bool := fun _ ds => decide (uptoBulkAll ds ≤ 1048576)
def OpenSpec.upto (s : _root_.Go.ChangeSpec) : _root_.Go.OpenSpec := { _root_.Go.OpenSpec.ofChange s with cond := some uptoSmall }

/-- 'laws.FnExactV6Right', WHERE WHAT IT READS IS OF BULK AT MOST 1048576: true; the input reads as it did. -/
def fnExactV6RightUptoRow : OpenClaim := { program := "ytofhcplnnamcdai", sum := "94c1a9f083487484fb8b60c87f9e9ac56ea6f11cb0a6cde2f82dd97c12301d56", func := "loop.example/g00314/laws.FnExactV6Right", spec := "fnExactV6Right", apart := false, narrowed := true }
def FnExactV6RightUptoSaid : Prop := fnExactV6RightUptoRow.holds Try.pinned (OpenSpec.upto fnExactV6RightSpec)

/-- 'laws.FnExactV6Bytes', WHERE WHAT IT READS IS OF BULK AT MOST 1048576: true; the input reads as it did. -/
def fnExactV6BytesUptoRow : OpenClaim := { program := "ytofhcplnnamcdai", sum := "94c1a9f083487484fb8b60c87f9e9ac56ea6f11cb0a6cde2f82dd97c12301d56", func := "loop.example/g00314/laws.FnExactV6Bytes", spec := "fnExactV6Bytes", apart := false, narrowed := true }
def FnExactV6BytesUptoSaid : Prop := fnExactV6BytesUptoRow.holds Try.pinned (OpenSpec.upto fnExactV6BytesSpec)

/-- 'laws.FnExactV6Read', WHERE WHAT IT READS IS OF BULK AT MOST 1048576: true; the input reads as it did. -/
def fnExactV6ReadUptoRow : OpenClaim := { program := "ytofhcplnnamcdai", sum := "94c1a9f083487484fb8b60c87f9e9ac56ea6f11cb0a6cde2f82dd97c12301d56", func := "loop.example/g00314/laws.FnExactV6Read", spec := "fnExactV6Read", unfollowed := true, recurses := true, apart := false, narrowed := true }
def FnExactV6ReadUptoSaid : Prop := fnExactV6ReadUptoRow.holds Try.pinned (OpenSpec.upto fnExactV6ReadSpec)

/-- 'laws.FnExactFlowRight', WHERE WHAT IT READS IS OF BULK AT MOST 1048576: true; the input reads as it did. -/
def fnExactFlowRightUptoRow : OpenClaim := { program := "ytofhcplnnamcdai", sum := "94c1a9f083487484fb8b60c87f9e9ac56ea6f11cb0a6cde2f82dd97c12301d56", func := "loop.example/g00314/laws.FnExactFlowRight", spec := "fnExactFlowRight", apart := false, narrowed := true }
def FnExactFlowRightUptoSaid : Prop := fnExactFlowRightUptoRow.holds Try.pinned (OpenSpec.upto fnExactFlowRightSpec)

/-- 'laws.FnExactFlowOf', WHERE WHAT IT READS IS OF BULK AT MOST 1048576: true; the input reads as it did. -/
def fnExactFlowOfUptoRow : OpenClaim := { program := "ytofhcplnnamcdai", sum := "94c1a9f083487484fb8b60c87f9e9ac56ea6f11cb0a6cde2f82dd97c12301d56", func := "loop.example/g00314/laws.FnExactFlowOf", spec := "fnExactFlowOf", apart := false, narrowed := true }
def FnExactFlowOfUptoSaid : Prop := fnExactFlowOfUptoRow.holds Try.pinned (OpenSpec.upto fnExactFlowOfSpec)

/-- 'laws.FnExactCarrySum', WHERE WHAT IT READS IS OF BULK AT MOST 1048576: true; the input reads as it did. -/
def fnExactCarrySumUptoRow : OpenClaim := { program := "ytofhcplnnamcdai", sum := "94c1a9f083487484fb8b60c87f9e9ac56ea6f11cb0a6cde2f82dd97c12301d56", func := "loop.example/g00314/laws.FnExactCarrySum", spec := "fnExactCarrySum", apart := false, narrowed := true }
def FnExactCarrySumUptoSaid : Prop := fnExactCarrySumUptoRow.holds Try.pinned (OpenSpec.upto fnExactCarrySumSpec)

end Rows
end Go.Proofs.Ytofhcplnnamcdai
