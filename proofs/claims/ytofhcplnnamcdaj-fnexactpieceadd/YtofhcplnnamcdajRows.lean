/-
  No cell of these rows narrows 'for every input' (looked for: loops, veiled, ifaces, maps, wideKeys, modest, calm, conditions, laid).
  DERIVED. THE GIVEN ROWS OF THIS SEAT. 6 by the template 'for every input the law returns true; each argument reads behind the call as it read before'; 0 by the template 'total and deterministic' (their statements: YtofhcplnnamcdajTotals.lean).
  GIVEN WITH THE SEED: the statements are not yours to turn. If you find one false, say at which input.
  Laid BY PROGRAM, IN A SANDBOX (cutbox-rows.mjs): the forced cells as the released guide's own fill.sh prints them over the translation 717047e5731be461… (all of the seat's roots in one cut). By AI agents, Wed Nov 11 2026. No macro, syntax, notation, axiom, sorry.
-/
import Derived.Test.YtofhcplnnamcdajChecked
import GoSem.Claim
import GoSem.ClaimJoined
import GoSem.ClaimMapViews
import Derived.JoinedTies
import Derived.KernelRfl
namespace Go.Proofs.Ytofhcplnnamcdaj
/- THE CELL 'sum', in the pinned program and in every row, IS THE sha256 OF THE DUMP (.gsa) THAT YtofhcplnnamcdajProg.lean LOADS. Nothing in Lean hashes anything: it is a label: what it is worth is what the hold of that sum in a sandbox is worth. -/
noncomputable def Try.pinned : Pinned := { name := "ytofhcplnnamcdaj", sum := "717047e5731be4616e19288888942cd7b37074b080f0b6ed2583a12527c037c0", checked := Try.checked }
namespace Rows
def none {H : Type} : Left H := { results := [], args := [] }

/-- 'laws.FnExactCarryRight': WHATEVER THE INPUT: true; the input reads as it did. -/
def fnExactCarryRightSpec : ChangeSpec := { name := "fnExactCarryRight", fn := fun _ => fun
  | [d1, d2, d3, d4] => { results := [.lit (.bool true)], args := [d1, d2, d3, d4] }
  | _ => none }
def fnExactCarryRightRow : OpenClaim := { program := "ytofhcplnnamcdaj", sum := "717047e5731be4616e19288888942cd7b37074b080f0b6ed2583a12527c037c0", func := "loop.example/g00314/laws.FnExactCarryRight", spec := "fnExactCarryRight", plainKeys := false, apart := false }
def FnExactCarryRightSaid : Prop := fnExactCarryRightRow.holds Try.pinned (OpenSpec.ofChange fnExactCarryRightSpec)

/-- ITS FALSE NEIGHBOUR: 'it returns false'. Refute it at one input. -/
def fnExactCarryRightWrong : ChangeSpec := { name := "fnExactCarryRight", fn := fun _ => fun
  | [d1, d2, d3, d4] => { results := [.lit (.bool false)], args := [d1, d2, d3, d4] }
  | _ => none }
def FnExactCarryRightWrongFalsely : Prop := fnExactCarryRightRow.holds Try.pinned (OpenSpec.ofChange fnExactCarryRightWrong)

/-- 'laws.FnExactCarrySet': WHATEVER THE INPUT: true; the input reads as it did. -/
def fnExactCarrySetSpec : ChangeSpec := { name := "fnExactCarrySet", fn := fun _ => fun
  | [d1, d2, d3] => { results := [.lit (.bool true)], args := [d1, d2, d3] }
  | _ => none }
def fnExactCarrySetRow : OpenClaim := { program := "ytofhcplnnamcdaj", sum := "717047e5731be4616e19288888942cd7b37074b080f0b6ed2583a12527c037c0", func := "loop.example/g00314/laws.FnExactCarrySet", spec := "fnExactCarrySet", unfollowed := true, recurses := true, plainKeys := false, apart := false }
def FnExactCarrySetSaid : Prop := fnExactCarrySetRow.holds Try.pinned (OpenSpec.ofChange fnExactCarrySetSpec)

/-- ITS FALSE NEIGHBOUR: 'it returns false'. Refute it at one input. -/
def fnExactCarrySetWrong : ChangeSpec := { name := "fnExactCarrySet", fn := fun _ => fun
  | [d1, d2, d3] => { results := [.lit (.bool false)], args := [d1, d2, d3] }
  | _ => none }
def FnExactCarrySetWrongFalsely : Prop := fnExactCarrySetRow.holds Try.pinned (OpenSpec.ofChange fnExactCarrySetWrong)

/-- 'laws.FnExactTcpFlags': WHATEVER THE INPUT: true; the input reads as it did. -/
def fnExactTcpFlagsSpec : ChangeSpec := { name := "fnExactTcpFlags", fn := fun _ => fun
  | [d] => { results := [.lit (.bool true)], args := [d] }
  | _ => none }
def fnExactTcpFlagsRow : OpenClaim := { program := "ytofhcplnnamcdaj", sum := "717047e5731be4616e19288888942cd7b37074b080f0b6ed2583a12527c037c0", func := "loop.example/g00314/laws.FnExactTcpFlags", spec := "fnExactTcpFlags", plainKeys := false, apart := false }
def FnExactTcpFlagsSaid : Prop := fnExactTcpFlagsRow.holds Try.pinned (OpenSpec.ofChange fnExactTcpFlagsSpec)

/-- ITS FALSE NEIGHBOUR: 'it returns false'. Refute it at one input. -/
def fnExactTcpFlagsWrong : ChangeSpec := { name := "fnExactTcpFlags", fn := fun _ => fun
  | [d] => { results := [.lit (.bool false)], args := [d] }
  | _ => none }
def FnExactTcpFlagsWrongFalsely : Prop := fnExactTcpFlagsRow.holds Try.pinned (OpenSpec.ofChange fnExactTcpFlagsWrong)

/-- 'laws.FnExactPieceRight': WHATEVER THE INPUT: true; the input reads as it did. -/
def fnExactPieceRightSpec : ChangeSpec := { name := "fnExactPieceRight", fn := fun _ => fun
  | [d] => { results := [.lit (.bool true)], args := [d] }
  | _ => none }
def fnExactPieceRightRow : OpenClaim := { program := "ytofhcplnnamcdaj", sum := "717047e5731be4616e19288888942cd7b37074b080f0b6ed2583a12527c037c0", func := "loop.example/g00314/laws.FnExactPieceRight", spec := "fnExactPieceRight", plainKeys := false, apart := false }
def FnExactPieceRightSaid : Prop := fnExactPieceRightRow.holds Try.pinned (OpenSpec.ofChange fnExactPieceRightSpec)

/-- ITS FALSE NEIGHBOUR: 'it returns false'. Refute it at one input. -/
def fnExactPieceRightWrong : ChangeSpec := { name := "fnExactPieceRight", fn := fun _ => fun
  | [d] => { results := [.lit (.bool false)], args := [d] }
  | _ => none }
def FnExactPieceRightWrongFalsely : Prop := fnExactPieceRightRow.holds Try.pinned (OpenSpec.ofChange fnExactPieceRightWrong)

/-- 'laws.FnExactPiecesRight': WHATEVER THE INPUT: true; the input reads as it did. -/
def fnExactPiecesRightSpec : ChangeSpec := { name := "fnExactPiecesRight", fn := fun _ => fun
  | [d] => { results := [.lit (.bool true)], args := [d] }
  | _ => none }
def fnExactPiecesRightRow : OpenClaim := { program := "ytofhcplnnamcdaj", sum := "717047e5731be4616e19288888942cd7b37074b080f0b6ed2583a12527c037c0", func := "loop.example/g00314/laws.FnExactPiecesRight", spec := "fnExactPiecesRight", unfollowed := true, recurses := true, plainKeys := false, apart := false }
def FnExactPiecesRightSaid : Prop := fnExactPiecesRightRow.holds Try.pinned (OpenSpec.ofChange fnExactPiecesRightSpec)

/-- ITS FALSE NEIGHBOUR: 'it returns false'. Refute it at one input. -/
def fnExactPiecesRightWrong : ChangeSpec := { name := "fnExactPiecesRight", fn := fun _ => fun
  | [d] => { results := [.lit (.bool false)], args := [d] }
  | _ => none }
def FnExactPiecesRightWrongFalsely : Prop := fnExactPiecesRightRow.holds Try.pinned (OpenSpec.ofChange fnExactPiecesRightWrong)

/-- 'laws.FnExactPieceAdd': WHATEVER THE INPUT: true; the input reads as it did. -/
def fnExactPieceAddSpec : ChangeSpec := { name := "fnExactPieceAdd", fn := fun _ => fun
  | [d1, d2, d3] => { results := [.lit (.bool true)], args := [d1, d2, d3] }
  | _ => none }
def fnExactPieceAddRow : OpenClaim := { program := "ytofhcplnnamcdaj", sum := "717047e5731be4616e19288888942cd7b37074b080f0b6ed2583a12527c037c0", func := "loop.example/g00314/laws.FnExactPieceAdd", spec := "fnExactPieceAdd", inPlace := ["internal/abi.NoEscape"], unfollowed := true, recurses := true, plainKeys := false, apart := false }
def FnExactPieceAddSaid : Prop := fnExactPieceAddRow.holds Try.pinned (OpenSpec.ofChange fnExactPieceAddSpec)

/-- ITS FALSE NEIGHBOUR: 'it returns false'. Refute it at one input. -/
def fnExactPieceAddWrong : ChangeSpec := { name := "fnExactPieceAdd", fn := fun _ => fun
  | [d1, d2, d3] => { results := [.lit (.bool false)], args := [d1, d2, d3] }
  | _ => none }
def FnExactPieceAddWrongFalsely : Prop := fnExactPieceAddRow.holds Try.pinned (OpenSpec.ofChange fnExactPieceAddWrong)

/- THE SECOND FORM. 'bulk': how many values and letters a reading holds, each counted each time it is reached (what is shared counts as often as it is met; a slice's spare places count too). A statement '..UptoSaid' is the law's where the arguments, and the package variables that the reading takes, are together of bulk at most 1048576: NARROWER than '..Said'. Prove '..Said' where nothing that the law and all that it calls make is longer than what came in: it says more and counts as full. Else prove '..UptoSaid'. A law counts once. -/
mutual
def uptoBulk {H : Type} : DataW H → Nat
  | .lit (.string bytes) => bytes.length + 1
  | .lit _ => 1
  | .nil => 1
  | .ptr d => uptoBulk d + 1
  | .slice elems spare => uptoBulkAll elems + uptoBulkAll spare + 1
  | .agg parts => uptoBulkAll parts + 1
  | .iface _ d => uptoBulk d + 1
  | .map entries => uptoBulkEntries entries + 1
  | .held _ => 1
def uptoBulkAll {H : Type} : List (DataW H) → Nat
  | [] => 0
  | d :: r => uptoBulk d + uptoBulkAll r
def uptoBulkEntries {H : Type} : List (Lit × DataW H) → Nat
  | [] => 0
  | x :: r => uptoBulkEntry x + uptoBulkEntries r
def uptoBulkEntry {H : Type} : Lit × DataW H → Nat
  | (.string bytes, d) => bytes.length + uptoBulk d + 1
  | (_, d) => uptoBulk d + 1
 end
def uptoSmall : (H : Type) → List (DataW H) → Bool := fun _ ds => decide (uptoBulkAll ds ≤ 1048576)
def OpenSpec.upto (s : _root_.Go.ChangeSpec) : _root_.Go.OpenSpec := { _root_.Go.OpenSpec.ofChange s with cond := some uptoSmall }

/-- 'laws.FnExactCarryRight', WHERE WHAT IT READS IS OF BULK AT MOST 1048576: true; the input reads as it did. -/
def fnExactCarryRightUptoRow : OpenClaim := { program := "ytofhcplnnamcdaj", sum := "717047e5731be4616e19288888942cd7b37074b080f0b6ed2583a12527c037c0", func := "loop.example/g00314/laws.FnExactCarryRight", spec := "fnExactCarryRight", plainKeys := false, apart := false, narrowed := true }
def FnExactCarryRightUptoSaid : Prop := fnExactCarryRightUptoRow.holds Try.pinned (OpenSpec.upto fnExactCarryRightSpec)

/-- 'laws.FnExactCarrySet', WHERE WHAT IT READS IS OF BULK AT MOST 1048576: true; the input reads as it did. -/
def fnExactCarrySetUptoRow : OpenClaim := { program := "ytofhcplnnamcdaj", sum := "717047e5731be4616e19288888942cd7b37074b080f0b6ed2583a12527c037c0", func := "loop.example/g00314/laws.FnExactCarrySet", spec := "fnExactCarrySet", unfollowed := true, recurses := true, plainKeys := false, apart := false, narrowed := true }
def FnExactCarrySetUptoSaid : Prop := fnExactCarrySetUptoRow.holds Try.pinned (OpenSpec.upto fnExactCarrySetSpec)

/-- 'laws.FnExactTcpFlags', WHERE WHAT IT READS IS OF BULK AT MOST 1048576: true; the input reads as it did. -/
def fnExactTcpFlagsUptoRow : OpenClaim := { program := "ytofhcplnnamcdaj", sum := "717047e5731be4616e19288888942cd7b37074b080f0b6ed2583a12527c037c0", func := "loop.example/g00314/laws.FnExactTcpFlags", spec := "fnExactTcpFlags", plainKeys := false, apart := false, narrowed := true }
def FnExactTcpFlagsUptoSaid : Prop := fnExactTcpFlagsUptoRow.holds Try.pinned (OpenSpec.upto fnExactTcpFlagsSpec)

/-- 'laws.FnExactPieceRight', WHERE WHAT IT READS IS OF BULK AT MOST 1048576: true; the input reads as it did. -/
def fnExactPieceRightUptoRow : OpenClaim := { program := "ytofhcplnnamcdaj", sum := "717047e5731be4616e19288888942cd7b37074b080f0b6ed2583a12527c037c0", func := "loop.example/g00314/laws.FnExactPieceRight", spec := "fnExactPieceRight", plainKeys := false, apart := false, narrowed := true }
def FnExactPieceRightUptoSaid : Prop := fnExactPieceRightUptoRow.holds Try.pinned (OpenSpec.upto fnExactPieceRightSpec)

/-- 'laws.FnExactPiecesRight', WHERE WHAT IT READS IS OF BULK AT MOST 1048576: true; the input reads as it did. -/
def fnExactPiecesRightUptoRow : OpenClaim := { program := "ytofhcplnnamcdaj", sum := "717047e5731be4616e19288888942cd7b37074b080f0b6ed2583a12527c037c0", func := "loop.example/g00314/laws.FnExactPiecesRight", spec := "fnExactPiecesRight", unfollowed := true, recurses := true, plainKeys := false, apart := false, narrowed := true }
def FnExactPiecesRightUptoSaid : Prop := fnExactPiecesRightUptoRow.holds Try.pinned (OpenSpec.upto fnExactPiecesRightSpec)

/-- 'laws.FnExactPieceAdd', WHERE WHAT IT READS IS OF BULK AT MOST 1048576: true; the input reads as it did. -/
def fnExactPieceAddUptoRow : OpenClaim := { program := "ytofhcplnnamcdaj", sum := "717047e5731be4616e19288888942cd7b37074b080f0b6ed2583a12527c037c0", func := "loop.example/g00314/laws.FnExactPieceAdd", spec := "fnExactPieceAdd", inPlace := ["internal/abi.NoEscape"], unfollowed := true, recurses := true, plainKeys := false, apart := false, narrowed := true }
def FnExactPieceAddUptoSaid : Prop := fnExactPieceAddUptoRow.holds Try.pinned (OpenSpec.upto fnExactPieceAddSpec)

end Rows
end Go.Proofs.Ytofhcplnnamcdaj
