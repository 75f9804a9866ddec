/-
  No cell of these rows narrows 'for every input' (looked for: loops, veiled, ifaces, maps, wideKeys, modest, calm, conditions, laid).
  DERIVED. THE GIVEN ROWS OF THIS SEAT. 4 by the template 'for every input the law returns true; each argument reads behind the call as it read before'; 0 by the template 'total and deterministic' (their statements: YtkfheijbppmjcakTotals.lean).
  GIVEN WITH THE SEED: the statements are not yours to turn. If you find one false, say at which input.
  Laid BY PROGRAM, IN A SANDBOX (cutbox-rows.mjs): the forced cells as the released guide's own fill.sh prints them over the translation e1789d7db040f7a6… (all of the seat's roots in one cut). By AI agents, Wed Nov 11 2026. No macro, syntax, notation, axiom, sorry.
-/
import Derived.Test.YtkfheijbppmjcakChecked
import GoSem.Claim
import GoSem.ClaimJoined
import GoSem.ClaimMapViews
import Derived.JoinedTies
import Derived.KernelRfl
namespace Go.Proofs.Ytkfheijbppmjcak
/- THE CELL 'sum', in the pinned program and in every row, IS THE sha256 OF THE DUMP (.gsa) THAT YtkfheijbppmjcakProg.lean LOADS. Nothing in Lean hashes anything: it is a label: what it is worth is what the hold of that sum in a sandbox is worth. -/
noncomputable def Try.pinned : Pinned := { name := "ytkfheijbppmjcak", sum := "e1789d7db040f7a69e46d672feff007b4773cfee73c5a43d74bb308136a8f238", checked := Try.checked }
namespace Rows
def none {H : Type} : Left H := { results := [], args := [] }

/-- 'laws.FnExactPieceTick': WHATEVER THE INPUT: true; the input reads as it did. -/
def fnExactPieceTickSpec : ChangeSpec := { name := "fnExactPieceTick", fn := fun _ => fun
  | [d1, d2] => { results := [.lit (.bool true)], args := [d1, d2] }
  | _ => none }
def fnExactPieceTickRow : OpenClaim := { program := "ytkfheijbppmjcak", sum := "e1789d7db040f7a69e46d672feff007b4773cfee73c5a43d74bb308136a8f238", func := "loop.example/g00314/laws.FnExactPieceTick", spec := "fnExactPieceTick", unfollowed := true, recurses := true, plainKeys := false, apart := false }
def FnExactPieceTickSaid : Prop := fnExactPieceTickRow.holds Try.pinned (OpenSpec.ofChange fnExactPieceTickSpec)

/-- ITS FALSE NEIGHBOUR: 'it returns false'. Refute it at one input. -/
def fnExactPieceTickWrong : ChangeSpec := { name := "fnExactPieceTick", fn := fun _ => fun
  | [d1, d2] => { results := [.lit (.bool false)], args := [d1, d2] }
  | _ => none }
def FnExactPieceTickWrongFalsely : Prop := fnExactPieceTickRow.holds Try.pinned (OpenSpec.ofChange fnExactPieceTickWrong)

/-- 'laws.FnExactCut': WHATEVER THE INPUT: true; the input reads as it did. -/
def fnExactCutSpec : ChangeSpec := { name := "fnExactCut", fn := fun _ => fun
  | [d1, d2] => { results := [.lit (.bool true)], args := [d1, d2] }
  | _ => none }
def fnExactCutRow : OpenClaim := { program := "ytkfheijbppmjcak", sum := "e1789d7db040f7a69e46d672feff007b4773cfee73c5a43d74bb308136a8f238", func := "loop.example/g00314/laws.FnExactCut", spec := "fnExactCut", plainKeys := false, apart := false }
def FnExactCutSaid : Prop := fnExactCutRow.holds Try.pinned (OpenSpec.ofChange fnExactCutSpec)

/-- ITS FALSE NEIGHBOUR: 'it returns false'. Refute it at one input. -/
def fnExactCutWrong : ChangeSpec := { name := "fnExactCut", fn := fun _ => fun
  | [d1, d2] => { results := [.lit (.bool false)], args := [d1, d2] }
  | _ => none }
def FnExactCutWrongFalsely : Prop := fnExactCutRow.holds Try.pinned (OpenSpec.ofChange fnExactCutWrong)

/-- 'laws.FnExactLivesRight': WHATEVER THE INPUT: true; the input reads as it did. -/
def fnExactLivesRightSpec : ChangeSpec := { name := "fnExactLivesRight", fn := fun _ => fun
  | [d] => { results := [.lit (.bool true)], args := [d] }
  | _ => none }
def fnExactLivesRightRow : OpenClaim := { program := "ytkfheijbppmjcak", sum := "e1789d7db040f7a69e46d672feff007b4773cfee73c5a43d74bb308136a8f238", func := "loop.example/g00314/laws.FnExactLivesRight", spec := "fnExactLivesRight", plainKeys := false, apart := false }
def FnExactLivesRightSaid : Prop := fnExactLivesRightRow.holds Try.pinned (OpenSpec.ofChange fnExactLivesRightSpec)

/-- ITS FALSE NEIGHBOUR: 'it returns false'. Refute it at one input. -/
def fnExactLivesRightWrong : ChangeSpec := { name := "fnExactLivesRight", fn := fun _ => fun
  | [d] => { results := [.lit (.bool false)], args := [d] }
  | _ => none }
def FnExactLivesRightWrongFalsely : Prop := fnExactLivesRightRow.holds Try.pinned (OpenSpec.ofChange fnExactLivesRightWrong)

/-- 'laws.FnExactTrackLife': WHATEVER THE INPUT: true; the input reads as it did. -/
def fnExactTrackLifeSpec : ChangeSpec := { name := "fnExactTrackLife", fn := fun _ => fun
  | [d1, d2, d3] => { results := [.lit (.bool true)], args := [d1, d2, d3] }
  | _ => none }
def fnExactTrackLifeRow : OpenClaim := { program := "ytkfheijbppmjcak", sum := "e1789d7db040f7a69e46d672feff007b4773cfee73c5a43d74bb308136a8f238", func := "loop.example/g00314/laws.FnExactTrackLife", spec := "fnExactTrackLife", plainKeys := false, apart := false }
def FnExactTrackLifeSaid : Prop := fnExactTrackLifeRow.holds Try.pinned (OpenSpec.ofChange fnExactTrackLifeSpec)

/-- ITS FALSE NEIGHBOUR: 'it returns false'. Refute it at one input. -/
def fnExactTrackLifeWrong : ChangeSpec := { name := "fnExactTrackLife", fn := fun _ => fun
  | [d1, d2, d3] => { results := [.lit (.bool false)], args := [d1, d2, d3] }
  | _ => none }
def FnExactTrackLifeWrongFalsely : Prop := fnExactTrackLifeRow.holds Try.pinned (OpenSpec.ofChange fnExactTrackLifeWrong)

/- THE SECOND FORM. 'bulk': how many values and letters a reading holds, each counted each time it is reached (what is shared counts as often as it is met; a slice's spare places count too). A statement '..UptoSaid' is the law's where the arguments, and the package variables that the reading takes, are together of bulk at most 1048576: NARROWER than '..Said'. Prove '..Said' where nothing that the law and all that it calls make is longer than what came in: it says more and counts as full. Else prove '..UptoSaid'. A law counts once. -/
mutual
def uptoBulk {H : Type} : DataW H → Nat
  | .lit (.string bytes) => bytes.length + 1
  | .lit _ => 1
  | .nil => 1
  | .ptr d => uptoBulk d + 1
  | .slice elems spare => uptoBulkAll elems + uptoBulkAll spare + 1
  | .agg parts => uptoBulkAll parts + 1
  | .iface _ d => uptoBulk d + 1
  | .map entries => uptoBulkEntries entries + 1
  | .held _ => 1
def uptoBulkAll {H : Type} : List (DataW H) → Nat
  | [] => 0
  | d :: r => uptoBulk d + uptoBulkAll r
def uptoBulkEntries {H : Type} : List (Lit × DataW H) → Nat
  | [] => 0
  | x :: r => uptoBulkEntry x + uptoBulkEntries r
def uptoBulkEntry {H : Type} : Lit × DataW H → Nat
  | (.string bytes, d) => bytes.length + uptoBulk d + 1
  | (_, d) => uptoBulk d + 1
 end
def uptoSmall : (H : Type) → List (DataW H) → Bool := fun _ ds => decide (uptoBulkAll ds ≤ 1048576)
def OpenSpec.upto (s : _root_.Go.ChangeSpec) : _root_.Go.OpenSpec := { _root_.Go.OpenSpec.ofChange s with cond := some uptoSmall }

/-- 'laws.FnExactPieceTick', WHERE WHAT IT READS IS OF BULK AT MOST 1048576: true; the input reads as it did. -/
def fnExactPieceTickUptoRow : OpenClaim := { program := "ytkfheijbppmjcak", sum := "e1789d7db040f7a69e46d672feff007b4773cfee73c5a43d74bb308136a8f238", func := "loop.example/g00314/laws.FnExactPieceTick", spec := "fnExactPieceTick", unfollowed := true, recurses := true, plainKeys := false, apart := false, narrowed := true }
def FnExactPieceTickUptoSaid : Prop := fnExactPieceTickUptoRow.holds Try.pinned (OpenSpec.upto fnExactPieceTickSpec)

/-- 'laws.FnExactCut', WHERE WHAT IT READS IS OF BULK AT MOST 1048576: true; the input reads as it did. -/
def fnExactCutUptoRow : OpenClaim := { program := "ytkfheijbppmjcak", sum := "e1789d7db040f7a69e46d672feff007b4773cfee73c5a43d74bb308136a8f238", func := "loop.example/g00314/laws.FnExactCut", spec := "fnExactCut", plainKeys := false, apart := false, narrowed := true }
def FnExactCutUptoSaid : Prop := fnExactCutUptoRow.holds Try.pinned (OpenSpec.upto fnExactCutSpec)

/-- 'laws.FnExactLivesRight', WHERE WHAT IT READS IS OF BULK AT MOST 1048576: true; the input reads as it did. -/
def fnExactLivesRightUptoRow : OpenClaim := { program := "ytkfheijbppmjcak", sum := "e1789d7db040f7a69e46d672feff007b4773cfee73c5a43d74bb308136a8f238", func := "loop.example/g00314/laws.FnExactLivesRight", spec := "fnExactLivesRight", plainKeys := false, apart := false, narrowed := true }
def FnExactLivesRightUptoSaid : Prop := fnExactLivesRightUptoRow.holds Try.pinned (OpenSpec.upto fnExactLivesRightSpec)

/-- 'laws.FnExactTrackLife', WHERE WHAT IT READS IS OF BULK AT MOST 1048576: true; the input reads as it did. -/
def fnExactTrackLifeUptoRow : OpenClaim := { program := "ytkfheijbppmjcak", sum := "e1789d7db040f7a69e46d672feff007b4773cfee73c5a43d74bb308136a8f238", func := "loop.example/g00314/laws.FnExactTrackLife", spec := "fnExactTrackLife", plainKeys := false, apart := false, narrowed := true }
def FnExactTrackLifeUptoSaid : Prop := fnExactTrackLifeUptoRow.holds Try.pinned (OpenSpec.upto fnExactTrackLifeSpec)

end Rows
end Go.Proofs.Ytkfheijbppmjcak
