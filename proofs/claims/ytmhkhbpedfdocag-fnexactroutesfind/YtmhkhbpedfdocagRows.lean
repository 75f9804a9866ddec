/-
  No cell of these rows narrows 'for every input' (looked for: loops, veiled, ifaces, maps, wideKeys, modest, calm, conditions, laid).
  DERIVED. THE GIVEN ROWS OF THIS SEAT. 6 by the template 'for every input the law returns true; each argument reads behind the call as it read before'; 0 by the template 'total and deterministic' (their statements: YtmhkhbpedfdocagTotals.lean).
  GIVEN WITH THE SEED: the statements are not yours to turn. If you find one false, say at which input.
  Laid BY PROGRAM, IN A SANDBOX (cutbox-rows.mjs): the forced cells as the released guide's own fill.sh prints them over the translation 7881de4d3dc524af… (all of the seat's roots in one cut). By AI agents, Wed Nov 11 2026. No macro, syntax, notation, axiom, sorry.
-/
import Derived.Test.YtmhkhbpedfdocagChecked
import GoSem.Claim
import GoSem.ClaimJoined
import GoSem.ClaimMapViews
import Derived.JoinedTies
import Derived.KernelRfl
namespace Go.Proofs.Ytmhkhbpedfdocag
/- THE CELL 'sum', in the pinned program and in every row, IS THE sha256 OF THE DUMP (.gsa) THAT YtmhkhbpedfdocagProg.lean LOADS. Nothing in Lean hashes anything: it is a label: what it is worth is what the hold of that sum in a sandbox is worth. -/
noncomputable def Try.pinned : Pinned := { name := "ytmhkhbpedfdocag", sum := "7881de4d3dc524af4541c283db463583694c014455a7f9d3c74baa774592c08b", checked := Try.checked }
namespace Rows
def none {H : Type} : Left H := { results := [], args := [] }

/-- 'laws.FnExactPrefixRight': WHATEVER THE INPUT: true; the input reads as it did. -/
def fnExactPrefixRightSpec : ChangeSpec := { name := "fnExactPrefixRight", fn := fun _ => fun
  | [d] => { results := [.lit (.bool true)], args := [d] }
  | _ => none }
def fnExactPrefixRightRow : OpenClaim := { program := "ytmhkhbpedfdocag", sum := "7881de4d3dc524af4541c283db463583694c014455a7f9d3c74baa774592c08b", func := "loop.example/g00314/laws.FnExactPrefixRight", spec := "fnExactPrefixRight", apart := false }
def FnExactPrefixRightSaid : Prop := fnExactPrefixRightRow.holds Try.pinned (OpenSpec.ofChange fnExactPrefixRightSpec)

/-- ITS FALSE NEIGHBOUR: 'it returns false'. Refute it at one input. -/
def fnExactPrefixRightWrong : ChangeSpec := { name := "fnExactPrefixRight", fn := fun _ => fun
  | [d] => { results := [.lit (.bool false)], args := [d] }
  | _ => none }
def FnExactPrefixRightWrongFalsely : Prop := fnExactPrefixRightRow.holds Try.pinned (OpenSpec.ofChange fnExactPrefixRightWrong)

/-- 'laws.FnExactPrefixHas': WHATEVER THE INPUT: true; the input reads as it did. -/
def fnExactPrefixHasSpec : ChangeSpec := { name := "fnExactPrefixHas", fn := fun _ => fun
  | [d1, d2] => { results := [.lit (.bool true)], args := [d1, d2] }
  | _ => none }
def fnExactPrefixHasRow : OpenClaim := { program := "ytmhkhbpedfdocag", sum := "7881de4d3dc524af4541c283db463583694c014455a7f9d3c74baa774592c08b", func := "loop.example/g00314/laws.FnExactPrefixHas", spec := "fnExactPrefixHas", apart := false }
def FnExactPrefixHasSaid : Prop := fnExactPrefixHasRow.holds Try.pinned (OpenSpec.ofChange fnExactPrefixHasSpec)

/-- ITS FALSE NEIGHBOUR: 'it returns false'. Refute it at one input. -/
def fnExactPrefixHasWrong : ChangeSpec := { name := "fnExactPrefixHas", fn := fun _ => fun
  | [d1, d2] => { results := [.lit (.bool false)], args := [d1, d2] }
  | _ => none }
def FnExactPrefixHasWrongFalsely : Prop := fnExactPrefixHasRow.holds Try.pinned (OpenSpec.ofChange fnExactPrefixHasWrong)

/-- 'laws.FnExactEmbed': WHATEVER THE INPUT: true; the input reads as it did. -/
def fnExactEmbedSpec : ChangeSpec := { name := "fnExactEmbed", fn := fun _ => fun
  | [d1, d2] => { results := [.lit (.bool true)], args := [d1, d2] }
  | _ => none }
def fnExactEmbedRow : OpenClaim := { program := "ytmhkhbpedfdocag", sum := "7881de4d3dc524af4541c283db463583694c014455a7f9d3c74baa774592c08b", func := "loop.example/g00314/laws.FnExactEmbed", spec := "fnExactEmbed", apart := false }
def FnExactEmbedSaid : Prop := fnExactEmbedRow.holds Try.pinned (OpenSpec.ofChange fnExactEmbedSpec)

/-- ITS FALSE NEIGHBOUR: 'it returns false'. Refute it at one input. -/
def fnExactEmbedWrong : ChangeSpec := { name := "fnExactEmbed", fn := fun _ => fun
  | [d1, d2] => { results := [.lit (.bool false)], args := [d1, d2] }
  | _ => none }
def FnExactEmbedWrongFalsely : Prop := fnExactEmbedRow.holds Try.pinned (OpenSpec.ofChange fnExactEmbedWrong)

/-- 'laws.FnExactExtract': WHATEVER THE INPUT: true; the input reads as it did. -/
def fnExactExtractSpec : ChangeSpec := { name := "fnExactExtract", fn := fun _ => fun
  | [d1, d2] => { results := [.lit (.bool true)], args := [d1, d2] }
  | _ => none }
def fnExactExtractRow : OpenClaim := { program := "ytmhkhbpedfdocag", sum := "7881de4d3dc524af4541c283db463583694c014455a7f9d3c74baa774592c08b", func := "loop.example/g00314/laws.FnExactExtract", spec := "fnExactExtract", apart := false }
def FnExactExtractSaid : Prop := fnExactExtractRow.holds Try.pinned (OpenSpec.ofChange fnExactExtractSpec)

/-- ITS FALSE NEIGHBOUR: 'it returns false'. Refute it at one input. -/
def fnExactExtractWrong : ChangeSpec := { name := "fnExactExtract", fn := fun _ => fun
  | [d1, d2] => { results := [.lit (.bool false)], args := [d1, d2] }
  | _ => none }
def FnExactExtractWrongFalsely : Prop := fnExactExtractRow.holds Try.pinned (OpenSpec.ofChange fnExactExtractWrong)

/-- 'laws.FnExactRoutesRight': WHATEVER THE INPUT: true; the input reads as it did. -/
def fnExactRoutesRightSpec : ChangeSpec := { name := "fnExactRoutesRight", fn := fun _ => fun
  | [d] => { results := [.lit (.bool true)], args := [d] }
  | _ => none }
def fnExactRoutesRightRow : OpenClaim := { program := "ytmhkhbpedfdocag", sum := "7881de4d3dc524af4541c283db463583694c014455a7f9d3c74baa774592c08b", func := "loop.example/g00314/laws.FnExactRoutesRight", spec := "fnExactRoutesRight", apart := false }
def FnExactRoutesRightSaid : Prop := fnExactRoutesRightRow.holds Try.pinned (OpenSpec.ofChange fnExactRoutesRightSpec)

/-- ITS FALSE NEIGHBOUR: 'it returns false'. Refute it at one input. -/
def fnExactRoutesRightWrong : ChangeSpec := { name := "fnExactRoutesRight", fn := fun _ => fun
  | [d] => { results := [.lit (.bool false)], args := [d] }
  | _ => none }
def FnExactRoutesRightWrongFalsely : Prop := fnExactRoutesRightRow.holds Try.pinned (OpenSpec.ofChange fnExactRoutesRightWrong)

/-- 'laws.FnExactRoutesFind': WHATEVER THE INPUT: true; the input reads as it did. -/
def fnExactRoutesFindSpec : ChangeSpec := { name := "fnExactRoutesFind", fn := fun _ => fun
  | [d1, d2] => { results := [.lit (.bool true)], args := [d1, d2] }
  | _ => none }
def fnExactRoutesFindRow : OpenClaim := { program := "ytmhkhbpedfdocag", sum := "7881de4d3dc524af4541c283db463583694c014455a7f9d3c74baa774592c08b", func := "loop.example/g00314/laws.FnExactRoutesFind", spec := "fnExactRoutesFind", apart := false }
def FnExactRoutesFindSaid : Prop := fnExactRoutesFindRow.holds Try.pinned (OpenSpec.ofChange fnExactRoutesFindSpec)

/-- ITS FALSE NEIGHBOUR: 'it returns false'. Refute it at one input. -/
def fnExactRoutesFindWrong : ChangeSpec := { name := "fnExactRoutesFind", fn := fun _ => fun
  | [d1, d2] => { results := [.lit (.bool false)], args := [d1, d2] }
  | _ => none }
def FnExactRoutesFindWrongFalsely : Prop := fnExactRoutesFindRow.holds Try.pinned (OpenSpec.ofChange fnExactRoutesFindWrong)

/- THE SECOND FORM. 'bulk': how many values and letters a reading holds, each counted each time it is reached (what is shared counts as often as it is met; a slice's spare places count too). A statement '..UptoSaid' is the law's where the arguments, and the package variables that the reading takes, are together of bulk at most 1048576: NARROWER than '..Said'. Prove '..Said' where nothing that the law and all that it calls make is longer than what came in: it says more and counts as full. Else prove '..UptoSaid'. A law counts once. -/
mutual
def uptoBulk {H : Type} : DataW H → Nat
  | .lit (.string bytes) => bytes.length + 1
  | .lit _ => 1
  | .nil => 1
  | .ptr d => uptoBulk d + 1
  | .slice elems spare => uptoBulkAll elems + uptoBulkAll spare + 1
  | .agg parts => uptoBulkAll parts + 1
  | .iface _ d => uptoBulk d + 1
  | .map entries => uptoBulkEntries entries + 1
  | .held _ => 1
def uptoBulkAll {H : Type} : List (DataW H) → Nat
  | [] => 0
  | d :: r => uptoBulk d + uptoBulkAll r
def uptoBulkEntries {H : Type} : List (Lit × DataW H) → Nat
  | [] => 0
  | x :: r => uptoBulkEntry x + uptoBulkEntries r
def uptoBulkEntry {H : Type} : Lit × DataW H → Nat
  | (.string bytes, d) => bytes.length + uptoBulk d + 1
  | (_, d) => uptoBulk d + 1
 end
def uptoSmall : (H : Type) → List (DataW H) → Bool := fun _ ds => decide (uptoBulkAll ds ≤ 1048576)
def OpenSpec.upto (s : _root_.Go.ChangeSpec) : _root_.Go.OpenSpec := { _root_.Go.OpenSpec.ofChange s with cond := some uptoSmall }

/-- 'laws.FnExactPrefixRight', WHERE WHAT IT READS IS OF BULK AT MOST 1048576: true; the input reads as it did. -/
def fnExactPrefixRightUptoRow : OpenClaim := { program := "ytmhkhbpedfdocag", sum := "7881de4d3dc524af4541c283db463583694c014455a7f9d3c74baa774592c08b", func := "loop.example/g00314/laws.FnExactPrefixRight", spec := "fnExactPrefixRight", apart := false, narrowed := true }
def FnExactPrefixRightUptoSaid : Prop := fnExactPrefixRightUptoRow.holds Try.pinned (OpenSpec.upto fnExactPrefixRightSpec)

/-- 'laws.FnExactPrefixHas', WHERE WHAT IT READS IS OF BULK AT MOST 1048576: true; the input reads as it did. -/
def fnExactPrefixHasUptoRow : OpenClaim := { program := "ytmhkhbpedfdocag", sum := "7881de4d3dc524af4541c283db463583694c014455a7f9d3c74baa774592c08b", func := "loop.example/g00314/laws.FnExactPrefixHas", spec := "fnExactPrefixHas", apart := false, narrowed := true }
def FnExactPrefixHasUptoSaid : Prop := fnExactPrefixHasUptoRow.holds Try.pinned (OpenSpec.upto fnExactPrefixHasSpec)

/-- 'laws.FnExactEmbed', WHERE WHAT IT READS IS OF BULK AT MOST 1048576: true; the input reads as it did. -/
def fnExactEmbedUptoRow : OpenClaim := { program := "ytmhkhbpedfdocag", sum := "7881de4d3dc524af4541c283db463583694c014455a7f9d3c74baa774592c08b", func := "loop.example/g00314/laws.FnExactEmbed", spec := "fnExactEmbed", apart := false, narrowed := true }
def FnExactEmbedUptoSaid : Prop := fnExactEmbedUptoRow.holds Try.pinned (OpenSpec.upto fnExactEmbedSpec)

/-- 'laws.FnExactExtract', WHERE WHAT IT READS IS OF BULK AT MOST 1048576: true; the input reads as it did. -/
def fnExactExtractUptoRow : OpenClaim := { program := "ytmhkhbpedfdocag", sum := "7881de4d3dc524af4541c283db463583694c014455a7f9d3c74baa774592c08b", func := "loop.example/g00314/laws.FnExactExtract", spec := "fnExactExtract", apart := false, narrowed := true }
def FnExactExtractUptoSaid : Prop := fnExactExtractUptoRow.holds Try.pinned (OpenSpec.upto fnExactExtractSpec)

/-- 'laws.FnExactRoutesRight', WHERE WHAT IT READS IS OF BULK AT MOST 1048576: true; the input reads as it did. -/
def fnExactRoutesRightUptoRow : OpenClaim := { program := "ytmhkhbpedfdocag", sum := "7881de4d3dc524af4541c283db463583694c014455a7f9d3c74baa774592c08b", func := "loop.example/g00314/laws.FnExactRoutesRight", spec := "fnExactRoutesRight", apart := false, narrowed := true }
def FnExactRoutesRightUptoSaid : Prop := fnExactRoutesRightUptoRow.holds Try.pinned (OpenSpec.upto fnExactRoutesRightSpec)

/-- 'laws.FnExactRoutesFind', WHERE WHAT IT READS IS OF BULK AT MOST 1048576: true; the input reads as it did. -/
def fnExactRoutesFindUptoRow : OpenClaim := { program := "ytmhkhbpedfdocag", sum := "7881de4d3dc524af4541c283db463583694c014455a7f9d3c74baa774592c08b", func := "loop.example/g00314/laws.FnExactRoutesFind", spec := "fnExactRoutesFind", apart := false, narrowed := true }
def FnExactRoutesFindUptoSaid : Prop := fnExactRoutesFindUptoRow.holds Try.pinned (OpenSpec.upto fnExactRoutesFindSpec)

end Rows
end Go.Proofs.Ytmhkhbpedfdocag
