/-
  No cell of these rows narrows 'for every input' (looked for: loops, veiled, ifaces, maps, wideKeys, modest, calm, conditions, laid).
  DERIVED. THE GIVEN ROWS OF THIS SEAT. 4 by the template 'for every input the law returns true; each argument reads behind the call as it read before'; 0 by the template 'total and deterministic' (their statements: YtebhljogijemoafTotals.lean).
  GIVEN WITH THE SEED: the statements are not yours to turn. If you find one false, say at which input.
  Laid BY PROGRAM, IN A SANDBOX (cutbox-rows.mjs): the forced cells as the released guide's own fill.sh prints them over the translation b55ca2efcc0e4c72… (all of the seat's roots in one cut). By AI agents, Wed Nov 11 2026. No macro, syntax, notation, axiom, sorry.
-/
import Derived.Test.YtebhljogijemoafChecked
import GoSem.Claim
import GoSem.ClaimJoined
import GoSem.ClaimMapViews
import Derived.JoinedTies
import Derived.KernelRfl
namespace Go.Proofs.Ytebhljogijemoaf
/- THE CELL 'sum', in the pinned program and in every row, IS THE sha256 OF THE DUMP (.gsa) THAT YtebhljogijemoafProg.lean LOADS. Nothing in Lean hashes anything: it is a label: what it is worth is what the hold of that sum in a sandbox is worth. -/
noncomputable def Try.pinned : Pinned := { name := "ytebhljogijemoaf", sum := "b55ca2efcc0e4c72fbfeaef2aaed3d9190346e7f20fe537aaf073cf839718938", checked := Try.checked }
namespace Rows
def none {H : Type} : Left H := { results := [], args := [] }

/-- 'laws.FnExactSumRight': WHATEVER THE INPUT: true; the input reads as it did. -/
def fnExactSumRightSpec : ChangeSpec := { name := "fnExactSumRight", fn := fun _ => fun
  | [d] => { results := [.lit (.bool true)], args := [d] }
  | _ => none }
def fnExactSumRightRow : OpenClaim := { program := "ytebhljogijemoaf", sum := "b55ca2efcc0e4c72fbfeaef2aaed3d9190346e7f20fe537aaf073cf839718938", func := "loop.example/g00314/laws.FnExactSumRight", spec := "fnExactSumRight", apart := false }
def FnExactSumRightSaid : Prop := fnExactSumRightRow.holds Try.pinned (OpenSpec.ofChange fnExactSumRightSpec)

/-- ITS FALSE NEIGHBOUR: 'it returns false'. Refute it at one input. -/
def fnExactSumRightWrong : ChangeSpec := { name := "fnExactSumRight", fn := fun _ => fun
  | [d] => { results := [.lit (.bool false)], args := [d] }
  | _ => none }
def FnExactSumRightWrongFalsely : Prop := fnExactSumRightRow.holds Try.pinned (OpenSpec.ofChange fnExactSumRightWrong)

/-- 'laws.FnExactSumTurn': WHATEVER THE INPUT: true; the input reads as it did. -/
def fnExactSumTurnSpec : ChangeSpec := { name := "fnExactSumTurn", fn := fun _ => fun
  | [d1, d2, d3] => { results := [.lit (.bool true)], args := [d1, d2, d3] }
  | _ => none }
def fnExactSumTurnRow : OpenClaim := { program := "ytebhljogijemoaf", sum := "b55ca2efcc0e4c72fbfeaef2aaed3d9190346e7f20fe537aaf073cf839718938", func := "loop.example/g00314/laws.FnExactSumTurn", spec := "fnExactSumTurn", apart := false }
def FnExactSumTurnSaid : Prop := fnExactSumTurnRow.holds Try.pinned (OpenSpec.ofChange fnExactSumTurnSpec)

/-- ITS FALSE NEIGHBOUR: 'it returns false'. Refute it at one input. -/
def fnExactSumTurnWrong : ChangeSpec := { name := "fnExactSumTurn", fn := fun _ => fun
  | [d1, d2, d3] => { results := [.lit (.bool false)], args := [d1, d2, d3] }
  | _ => none }
def FnExactSumTurnWrongFalsely : Prop := fnExactSumTurnRow.holds Try.pinned (OpenSpec.ofChange fnExactSumTurnWrong)

/-- 'laws.FnExactAddrRight': WHATEVER THE INPUT: true; the input reads as it did. -/
def fnExactAddrRightSpec : ChangeSpec := { name := "fnExactAddrRight", fn := fun _ => fun
  | [d] => { results := [.lit (.bool true)], args := [d] }
  | _ => none }
def fnExactAddrRightRow : OpenClaim := { program := "ytebhljogijemoaf", sum := "b55ca2efcc0e4c72fbfeaef2aaed3d9190346e7f20fe537aaf073cf839718938", func := "loop.example/g00314/laws.FnExactAddrRight", spec := "fnExactAddrRight", apart := false }
def FnExactAddrRightSaid : Prop := fnExactAddrRightRow.holds Try.pinned (OpenSpec.ofChange fnExactAddrRightSpec)

/-- ITS FALSE NEIGHBOUR: 'it returns false'. Refute it at one input. -/
def fnExactAddrRightWrong : ChangeSpec := { name := "fnExactAddrRight", fn := fun _ => fun
  | [d] => { results := [.lit (.bool false)], args := [d] }
  | _ => none }
def FnExactAddrRightWrongFalsely : Prop := fnExactAddrRightRow.holds Try.pinned (OpenSpec.ofChange fnExactAddrRightWrong)

/-- 'laws.FnExactAddrBit': WHATEVER THE INPUT: true; the input reads as it did. -/
def fnExactAddrBitSpec : ChangeSpec := { name := "fnExactAddrBit", fn := fun _ => fun
  | [d1, d2] => { results := [.lit (.bool true)], args := [d1, d2] }
  | _ => none }
def fnExactAddrBitRow : OpenClaim := { program := "ytebhljogijemoaf", sum := "b55ca2efcc0e4c72fbfeaef2aaed3d9190346e7f20fe537aaf073cf839718938", func := "loop.example/g00314/laws.FnExactAddrBit", spec := "fnExactAddrBit", apart := false }
def FnExactAddrBitSaid : Prop := fnExactAddrBitRow.holds Try.pinned (OpenSpec.ofChange fnExactAddrBitSpec)

/-- ITS FALSE NEIGHBOUR: 'it returns false'. Refute it at one input. -/
def fnExactAddrBitWrong : ChangeSpec := { name := "fnExactAddrBit", fn := fun _ => fun
  | [d1, d2] => { results := [.lit (.bool false)], args := [d1, d2] }
  | _ => none }
def FnExactAddrBitWrongFalsely : Prop := fnExactAddrBitRow.holds Try.pinned (OpenSpec.ofChange fnExactAddrBitWrong)

/- THE SECOND FORM. 'bulk': how many values and letters a reading holds, each counted each time it is reached (what is shared counts as often as it is met; a slice's spare places count too). A statement '..UptoSaid' is the law's where the arguments, and the package variables that the reading takes, are together of bulk at most 1048576: NARROWER than '..Said'. Prove '..Said' where nothing that the law and all that it calls make is longer than what came in: it says more and counts as full. Else prove '..UptoSaid'. A law counts once. -/
mutual
def uptoBulk {H : Type} : DataW H → Nat
  | .lit (.string bytes) => bytes.length + 1
  | .lit _ => 1
  | .nil => 1
  | .ptr d => uptoBulk d + 1
  | .slice elems spare => uptoBulkAll elems + uptoBulkAll spare + 1
  | .agg parts => uptoBulkAll parts + 1
  | .iface _ d => uptoBulk d + 1
  | .map entries => uptoBulkEntries entries + 1
  | .held _ => 1
def uptoBulkAll {H : Type} : List (DataW H) → Nat
  | [] => 0
  | d :: r => uptoBulk d + uptoBulkAll r
def uptoBulkEntries {H : Type} : List (Lit × DataW H) → Nat
  | [] => 0
  | x :: r => uptoBulkEntry x + uptoBulkEntries r
def uptoBulkEntry {H : Type} : Lit × DataW H → Nat
  | (.string bytes, d) => bytes.length + uptoBulk d + 1
  | (_, d) => uptoBulk d + 1
 end
def uptoSmall : (H : Type) → List (DataW H) → Bool := fun _ ds => decide (uptoBulkAll ds ≤ 1048576)
def OpenSpec.upto (s : _root_.Go.ChangeSpec) : _root_.Go.OpenSpec := { _root_.Go.OpenSpec.ofChange s with cond := some uptoSmall }

/-- 'laws.FnExactSumRight', WHERE WHAT IT READS IS OF BULK AT MOST 1048576: true; the input reads as it did. -/
def fnExactSumRightUptoRow : OpenClaim := { program := "ytebhljogijemoaf", sum := "b55ca2efcc0e4c72fbfeaef2aaed3d9190346e7f20fe537aaf073cf839718938", func := "loop.example/g00314/laws.FnExactSumRight", spec := "fnExactSumRight", apart := false, narrowed := true }
def FnExactSumRightUptoSaid : Prop := fnExactSumRightUptoRow.holds Try.pinned (OpenSpec.upto fnExactSumRightSpec)

/-- 'laws.FnExactSumTurn', WHERE WHAT IT READS IS OF BULK AT MOST 1048576: true; the input reads as it did. -/
def fnExactSumTurnUptoRow : OpenClaim := { program := "ytebhljogijemoaf", sum := "b55ca2efcc0e4c72fbfeaef2aaed3d9190346e7f20fe537aaf073cf839718938", func := "loop.example/g00314/laws.FnExactSumTurn", spec := "fnExactSumTurn", apart := false, narrowed := true }
def FnExactSumTurnUptoSaid : Prop := fnExactSumTurnUptoRow.holds Try.pinned (OpenSpec.upto fnExactSumTurnSpec)

/-- 'laws.FnExactAddrRight', WHERE WHAT IT READS IS OF BULK AT MOST 1048576: true; the input reads as it did. -/
def fnExactAddrRightUptoRow : OpenClaim := { program := "ytebhljogijemoaf", sum := "b55ca2efcc0e4c72fbfeaef2aaed3d9190346e7f20fe537aaf073cf839718938", func := "loop.example/g00314/laws.FnExactAddrRight", spec := "fnExactAddrRight", apart := false, narrowed := true }
def FnExactAddrRightUptoSaid : Prop := fnExactAddrRightUptoRow.holds Try.pinned (OpenSpec.upto fnExactAddrRightSpec)

/-- 'laws.FnExactAddrBit', WHERE WHAT IT READS IS OF BULK AT MOST 1048576: true; the input reads as it did. -/
def fnExactAddrBitUptoRow : OpenClaim := { program := "ytebhljogijemoaf", sum := "b55ca2efcc0e4c72fbfeaef2aaed3d9190346e7f20fe537aaf073cf839718938", func := "loop.example/g00314/laws.FnExactAddrBit", spec := "fnExactAddrBit", apart := false, narrowed := true }
def FnExactAddrBitUptoSaid : Prop := fnExactAddrBitUptoRow.holds Try.pinned (OpenSpec.upto fnExactAddrBitSpec)

end Rows
end Go.Proofs.Ytebhljogijemoaf
