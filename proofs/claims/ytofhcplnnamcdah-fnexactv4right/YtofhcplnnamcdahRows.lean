/-
  No cell of these rows narrows 'for every input' (looked for: loops, veiled, ifaces, maps, wideKeys, modest, calm, conditions, laid).
  DERIVED. THE GIVEN ROWS OF THIS SEAT. 6 by the template 'for every input the law returns true; each argument reads behind the call as it read before'; 0 by the template 'total and deterministic' (their statements: YtofhcplnnamcdahTotals.lean).
  GIVEN WITH THE SEED: the statements are not yours to turn. If you find one false, say at which input.
  Laid BY PROGRAM, IN A SANDBOX (cutbox-rows.mjs): the forced cells as the released guide's own fill.sh prints them over the translation 5cdb626374b1c523… (all of the seat's roots in one cut). By AI agents, Wed Nov 11 2026. No macro, syntax, notation, axiom, sorry.
-/
import Derived.Test.YtofhcplnnamcdahChecked
import GoSem.Claim
import GoSem.ClaimJoined
import GoSem.ClaimMapViews
import Derived.JoinedTies
import Derived.KernelRfl
namespace Go.Proofs.Ytofhcplnnamcdah
/- THE CELL 'sum', in the pinned program and in every row, IS THE sha256 OF THE DUMP (.gsa) THAT YtofhcplnnamcdahProg.lean LOADS. Nothing in Lean hashes anything: it is a label: what it is worth is what the hold of that sum in a sandbox is worth. -/
noncomputable def Try.pinned : Pinned := { name := "ytofhcplnnamcdah", sum := "5cdb626374b1c5233dea5be84e63ef810062229aef576b589dedd250d43f51f7", checked := Try.checked }
namespace Rows
def none {H : Type} : Left H := { results := [], args := [] }

/-- 'laws.FnExactPopBuild': WHATEVER THE INPUT: true; the input reads as it did. -/
def fnExactPopBuildSpec : ChangeSpec := { name := "fnExactPopBuild", fn := fun _ => fun
  | [d1, d2] => { results := [.lit (.bool true)], args := [d1, d2] }
  | _ => none }
def fnExactPopBuildRow : OpenClaim := { program := "ytofhcplnnamcdah", sum := "5cdb626374b1c5233dea5be84e63ef810062229aef576b589dedd250d43f51f7", func := "loop.example/g00314/laws.FnExactPopBuild", spec := "fnExactPopBuild", unfollowed := true, recurses := true, apart := false }
def FnExactPopBuildSaid : Prop := fnExactPopBuildRow.holds Try.pinned (OpenSpec.ofChange fnExactPopBuildSpec)

/-- ITS FALSE NEIGHBOUR: 'it returns false'. Refute it at one input. -/
def fnExactPopBuildWrong : ChangeSpec := { name := "fnExactPopBuild", fn := fun _ => fun
  | [d1, d2] => { results := [.lit (.bool false)], args := [d1, d2] }
  | _ => none }
def FnExactPopBuildWrongFalsely : Prop := fnExactPopBuildRow.holds Try.pinned (OpenSpec.ofChange fnExactPopBuildWrong)

/-- 'laws.FnExactPopFind': WHATEVER THE INPUT: true; the input reads as it did. -/
def fnExactPopFindSpec : ChangeSpec := { name := "fnExactPopFind", fn := fun _ => fun
  | [d1, d2] => { results := [.lit (.bool true)], args := [d1, d2] }
  | _ => none }
def fnExactPopFindRow : OpenClaim := { program := "ytofhcplnnamcdah", sum := "5cdb626374b1c5233dea5be84e63ef810062229aef576b589dedd250d43f51f7", func := "loop.example/g00314/laws.FnExactPopFind", spec := "fnExactPopFind", apart := false }
def FnExactPopFindSaid : Prop := fnExactPopFindRow.holds Try.pinned (OpenSpec.ofChange fnExactPopFindSpec)

/-- ITS FALSE NEIGHBOUR: 'it returns false'. Refute it at one input. -/
def fnExactPopFindWrong : ChangeSpec := { name := "fnExactPopFind", fn := fun _ => fun
  | [d1, d2] => { results := [.lit (.bool false)], args := [d1, d2] }
  | _ => none }
def FnExactPopFindWrongFalsely : Prop := fnExactPopFindRow.holds Try.pinned (OpenSpec.ofChange fnExactPopFindWrong)

/-- 'laws.FnExactPopRight': WHATEVER THE INPUT: true; the input reads as it did. -/
def fnExactPopRightSpec : ChangeSpec := { name := "fnExactPopRight", fn := fun _ => fun
  | [d] => { results := [.lit (.bool true)], args := [d] }
  | _ => none }
def fnExactPopRightRow : OpenClaim := { program := "ytofhcplnnamcdah", sum := "5cdb626374b1c5233dea5be84e63ef810062229aef576b589dedd250d43f51f7", func := "loop.example/g00314/laws.FnExactPopRight", spec := "fnExactPopRight", apart := false }
def FnExactPopRightSaid : Prop := fnExactPopRightRow.holds Try.pinned (OpenSpec.ofChange fnExactPopRightSpec)

/-- ITS FALSE NEIGHBOUR: 'it returns false'. Refute it at one input. -/
def fnExactPopRightWrong : ChangeSpec := { name := "fnExactPopRight", fn := fun _ => fun
  | [d] => { results := [.lit (.bool false)], args := [d] }
  | _ => none }
def FnExactPopRightWrongFalsely : Prop := fnExactPopRightRow.holds Try.pinned (OpenSpec.ofChange fnExactPopRightWrong)

/-- 'laws.FnExactV4Right': WHATEVER THE INPUT: true; the input reads as it did. -/
def fnExactV4RightSpec : ChangeSpec := { name := "fnExactV4Right", fn := fun _ => fun
  | [d] => { results := [.lit (.bool true)], args := [d] }
  | _ => none }
def fnExactV4RightRow : OpenClaim := { program := "ytofhcplnnamcdah", sum := "5cdb626374b1c5233dea5be84e63ef810062229aef576b589dedd250d43f51f7", func := "loop.example/g00314/laws.FnExactV4Right", spec := "fnExactV4Right", apart := false }
def FnExactV4RightSaid : Prop := fnExactV4RightRow.holds Try.pinned (OpenSpec.ofChange fnExactV4RightSpec)

/-- ITS FALSE NEIGHBOUR: 'it returns false'. Refute it at one input. -/
def fnExactV4RightWrong : ChangeSpec := { name := "fnExactV4Right", fn := fun _ => fun
  | [d] => { results := [.lit (.bool false)], args := [d] }
  | _ => none }
def FnExactV4RightWrongFalsely : Prop := fnExactV4RightRow.holds Try.pinned (OpenSpec.ofChange fnExactV4RightWrong)

/-- 'laws.FnExactV4Bytes': WHATEVER THE INPUT: true; the input reads as it did. -/
def fnExactV4BytesSpec : ChangeSpec := { name := "fnExactV4Bytes", fn := fun _ => fun
  | [d] => { results := [.lit (.bool true)], args := [d] }
  | _ => none }
def fnExactV4BytesRow : OpenClaim := { program := "ytofhcplnnamcdah", sum := "5cdb626374b1c5233dea5be84e63ef810062229aef576b589dedd250d43f51f7", func := "loop.example/g00314/laws.FnExactV4Bytes", spec := "fnExactV4Bytes", apart := false }
def FnExactV4BytesSaid : Prop := fnExactV4BytesRow.holds Try.pinned (OpenSpec.ofChange fnExactV4BytesSpec)

/-- ITS FALSE NEIGHBOUR: 'it returns false'. Refute it at one input. -/
def fnExactV4BytesWrong : ChangeSpec := { name := "fnExactV4Bytes", fn := fun _ => fun
  | [d] => { results := [.lit (.bool false)], args := [d] }
  | _ => none }
def FnExactV4BytesWrongFalsely : Prop := fnExactV4BytesRow.holds Try.pinned (OpenSpec.ofChange fnExactV4BytesWrong)

/-- 'laws.FnExactV4Read': WHATEVER THE INPUT: true; the input reads as it did. -/
def fnExactV4ReadSpec : ChangeSpec := { name := "fnExactV4Read", fn := fun _ => fun
  | [d] => { results := [.lit (.bool true)], args := [d] }
  | _ => none }
def fnExactV4ReadRow : OpenClaim := { program := "ytofhcplnnamcdah", sum := "5cdb626374b1c5233dea5be84e63ef810062229aef576b589dedd250d43f51f7", func := "loop.example/g00314/laws.FnExactV4Read", spec := "fnExactV4Read", unfollowed := true, recurses := true, apart := false }
def FnExactV4ReadSaid : Prop := fnExactV4ReadRow.holds Try.pinned (OpenSpec.ofChange fnExactV4ReadSpec)

/-- ITS FALSE NEIGHBOUR: 'it returns false'. Refute it at one input. -/
def fnExactV4ReadWrong : ChangeSpec := { name := "fnExactV4Read", fn := fun _ => fun
  | [d] => { results := [.lit (.bool false)], args := [d] }
  | _ => none }
def FnExactV4ReadWrongFalsely : Prop := fnExactV4ReadRow.holds Try.pinned (OpenSpec.ofChange fnExactV4ReadWrong)

/- THE SECOND FORM. 'bulk': how many values and letters a reading holds, each counted each time it is reached (what is shared counts as often as it is met; a slice's spare places count too). A statement '..UptoSaid' is the law's where the arguments, and the package variables that the reading takes, are together of bulk at most 1048576: NARROWER than '..Said'. Prove '..Said' where nothing that the law and all that it calls make is longer than what came in: it says more and counts as full. Else prove '..UptoSaid'. A law counts once. -/
mutual
def uptoBulk {H : Type} : DataW H → Nat
  | .lit (.string bytes) => bytes.length + 1
  | .lit _ => 1
  | .nil => 1
  | .ptr d => uptoBulk d + 1
  | .slice elems spare => uptoBulkAll elems + uptoBulkAll spare + 1
  | .agg parts => uptoBulkAll parts + 1
  | .iface _ d => uptoBulk d + 1
  | .map entries => uptoBulkEntries entries + 1
  | .held _ => 1
def uptoBulkAll {H : Type} : List (DataW H) → Nat
  | [] => 0
  | d :: r => uptoBulk d + uptoBulkAll r
def uptoBulkEntries {H : Type} : List (Lit × DataW H) → Nat
  | [] => 0
  | x :: r => uptoBulkEntry x + uptoBulkEntries r
def uptoBulkEntry {H : Type} : Lit × DataW H → Nat
  | (.string bytes, d) => bytes.length + uptoBulk d + 1
  | (_, d) => uptoBulk d + 1
 end
def uptoSmall : (H : Type) → List (DataW H) → Bool := fun _ ds => decide (uptoBulkAll ds ≤ 1048576)
def OpenSpec.upto (s : _root_.Go.ChangeSpec) : _root_.Go.OpenSpec := { _root_.Go.OpenSpec.ofChange s with cond := some uptoSmall }

/-- 'laws.FnExactPopBuild', WHERE WHAT IT READS IS OF BULK AT MOST 1048576: true; the input reads as it did. -/
def fnExactPopBuildUptoRow : OpenClaim := { program := "ytofhcplnnamcdah", sum := "5cdb626374b1c5233dea5be84e63ef810062229aef576b589dedd250d43f51f7", func := "loop.example/g00314/laws.FnExactPopBuild", spec := "fnExactPopBuild", unfollowed := true, recurses := true, apart := false, narrowed := true }
def FnExactPopBuildUptoSaid : Prop := fnExactPopBuildUptoRow.holds Try.pinned (OpenSpec.upto fnExactPopBuildSpec)

/-- 'laws.FnExactPopFind', WHERE WHAT IT READS IS OF BULK AT MOST 1048576: true; the input reads as it did. -/
def fnExactPopFindUptoRow : OpenClaim := { program := "ytofhcplnnamcdah", sum := "5cdb626374b1c5233dea5be84e63ef810062229aef576b589dedd250d43f51f7", func := "loop.example/g00314/laws.FnExactPopFind", spec := "fnExactPopFind", apart := false, narrowed := true }
def FnExactPopFindUptoSaid : Prop := fnExactPopFindUptoRow.holds Try.pinned (OpenSpec.upto fnExactPopFindSpec)

/-- 'laws.FnExactPopRight', WHERE WHAT IT READS IS OF BULK AT MOST 1048576: true; the input reads as it did. -/
def fnExactPopRightUptoRow : OpenClaim := { program := "ytofhcplnnamcdah", sum := "5cdb626374b1c5233dea5be84e63ef810062229aef576b589dedd250d43f51f7", func := "loop.example/g00314/laws.FnExactPopRight", spec := "fnExactPopRight", apart := false, narrowed := true }
def FnExactPopRightUptoSaid : Prop := fnExactPopRightUptoRow.holds Try.pinned (OpenSpec.upto fnExactPopRightSpec)

/-- 'laws.FnExactV4Right', WHERE WHAT IT READS IS OF BULK AT MOST 1048576: true; the input reads as it did. -/
def fnExactV4RightUptoRow : OpenClaim := { program := "ytofhcplnnamcdah", sum := "5cdb626374b1c5233dea5be84e63ef810062229aef576b589dedd250d43f51f7", func := "loop.example/g00314/laws.FnExactV4Right", spec := "fnExactV4Right", apart := false, narrowed := true }
def FnExactV4RightUptoSaid : Prop := fnExactV4RightUptoRow.holds Try.pinned (OpenSpec.upto fnExactV4RightSpec)

/-- 'laws.FnExactV4Bytes', WHERE WHAT IT READS IS OF BULK AT MOST 1048576: true; the input reads as it did. -/
def fnExactV4BytesUptoRow : OpenClaim := { program := "ytofhcplnnamcdah", sum := "5cdb626374b1c5233dea5be84e63ef810062229aef576b589dedd250d43f51f7", func := "loop.example/g00314/laws.FnExactV4Bytes", spec := "fnExactV4Bytes", apart := false, narrowed := true }
def FnExactV4BytesUptoSaid : Prop := fnExactV4BytesUptoRow.holds Try.pinned (OpenSpec.upto fnExactV4BytesSpec)

/-- 'laws.FnExactV4Read', WHERE WHAT IT READS IS OF BULK AT MOST 1048576: true; the input reads as it did. -/
def fnExactV4ReadUptoRow : OpenClaim := { program := "ytofhcplnnamcdah", sum := "5cdb626374b1c5233dea5be84e63ef810062229aef576b589dedd250d43f51f7", func := "loop.example/g00314/laws.FnExactV4Read", spec := "fnExactV4Read", unfollowed := true, recurses := true, apart := false, narrowed := true }
def FnExactV4ReadUptoSaid : Prop := fnExactV4ReadUptoRow.holds Try.pinned (OpenSpec.upto fnExactV4ReadSpec)

end Rows
end Go.Proofs.Ytofhcplnnamcdah
