/-
  No cell of these rows narrows 'for every input' (looked for: loops, veiled, ifaces, maps, wideKeys, modest, calm, conditions, laid).
  DERIVED. THE GIVEN ROWS OF THIS SEAT. 3 by the template 'for every input the law returns true; each argument reads behind the call as it read before'; 0 by the template 'total and deterministic' (their statements: YthagnjokdnnmpaaGreatTotals.lean).
  GIVEN WITH THE SEED: the statements are not yours to turn. If you find one false, say at which input.
  Laid BY PROGRAM, IN A SANDBOX (cutbox-rows.mjs): the forced cells as the released guide's own fill.sh prints them over the translation e3316fee0b6d94be… (all of the seat's roots in one cut). By AI agents, Wed Nov 11 2026. No macro, syntax, notation, axiom, sorry.
-/
import Derived.Test.YthagnjokdnnmpaaGreatChecked
import GoSem.Claim
import GoSem.ClaimJoined
import GoSem.ClaimMapViews
import Derived.JoinedTies
import Derived.KernelRfl
namespace Go.Proofs.YthagnjokdnnmpaaGreat
/- THE CELL 'sum', in the pinned program and in every row, IS THE sha256 OF THE DUMP (.gsa) THAT YthagnjokdnnmpaaGreatProg.lean LOADS. Nothing in Lean hashes anything: it is a label: what it is worth is what the hold of that sum in a sandbox is worth. -/
noncomputable def Tryz.pinned : Pinned := { name := "ythagnjokdnnmpaagreat", sum := "e3316fee0b6d94be1bd57c1008ada58e29b530f8b79cf5a12f8c0041f052a1ad", checked := Tryz.checked }
namespace Rows
def none {H : Type} : Left H := { results := [], args := [] }

/-- 'laws.FnNew': WHATEVER THE INPUT: true; the input reads as it did. -/
def fnNewSpec : ChangeSpec := { name := "fnNew", fn := fun _ => fun
  | [d] => { results := [.lit (.bool true)], args := [d] }
  | _ => none }
def fnNewRow : OpenClaim := { program := "ythagnjokdnnmpaagreat", sum := "e3316fee0b6d94be1bd57c1008ada58e29b530f8b79cf5a12f8c0041f052a1ad", func := "loop.example/g00314/laws.FnNew", spec := "fnNew", unfollowed := true, recurses := true, plainKeys := false, apart := false }
def FnNewSaid : Prop := fnNewRow.holds Tryz.pinned (OpenSpec.ofChange fnNewSpec)

/-- ITS FALSE NEIGHBOUR: 'it returns false'. Refute it at one input. -/
def fnNewWrong : ChangeSpec := { name := "fnNew", fn := fun _ => fun
  | [d] => { results := [.lit (.bool false)], args := [d] }
  | _ => none }
def FnNewWrongFalsely : Prop := fnNewRow.holds Tryz.pinned (OpenSpec.ofChange fnNewWrong)

/-- 'laws.FnExactGwNew': WHATEVER THE INPUT: true; the input reads as it did. -/
def fnExactGwNewSpec : ChangeSpec := { name := "fnExactGwNew", fn := fun _ => fun
  | [d1, d2, d3, d4] => { results := [.lit (.bool true)], args := [d1, d2, d3, d4] }
  | _ => none }
def fnExactGwNewRow : OpenClaim := { program := "ythagnjokdnnmpaagreat", sum := "e3316fee0b6d94be1bd57c1008ada58e29b530f8b79cf5a12f8c0041f052a1ad", func := "loop.example/g00314/laws.FnExactGwNew", spec := "fnExactGwNew", unfollowed := true, recurses := true, plainKeys := false, apart := false }
def FnExactGwNewSaid : Prop := fnExactGwNewRow.holds Tryz.pinned (OpenSpec.ofChange fnExactGwNewSpec)

/-- ITS FALSE NEIGHBOUR: 'it returns false'. Refute it at one input. -/
def fnExactGwNewWrong : ChangeSpec := { name := "fnExactGwNew", fn := fun _ => fun
  | [d1, d2, d3, d4] => { results := [.lit (.bool false)], args := [d1, d2, d3, d4] }
  | _ => none }
def FnExactGwNewWrongFalsely : Prop := fnExactGwNewRow.holds Tryz.pinned (OpenSpec.ofChange fnExactGwNewWrong)

/-- 'laws.FnExactGwTick': WHATEVER THE INPUT: true; the input reads as it did. -/
def fnExactGwTickSpec : ChangeSpec := { name := "fnExactGwTick", fn := fun _ => fun
  | [d1, d2] => { results := [.lit (.bool true)], args := [d1, d2] }
  | _ => none }
def fnExactGwTickRow : OpenClaim := { program := "ythagnjokdnnmpaagreat", sum := "e3316fee0b6d94be1bd57c1008ada58e29b530f8b79cf5a12f8c0041f052a1ad", func := "loop.example/g00314/laws.FnExactGwTick", spec := "fnExactGwTick", unfollowed := true, recurses := true, plainKeys := false, apart := false }
def FnExactGwTickSaid : Prop := fnExactGwTickRow.holds Tryz.pinned (OpenSpec.ofChange fnExactGwTickSpec)

/-- ITS FALSE NEIGHBOUR: 'it returns false'. Refute it at one input. -/
def fnExactGwTickWrong : ChangeSpec := { name := "fnExactGwTick", fn := fun _ => fun
  | [d1, d2] => { results := [.lit (.bool false)], args := [d1, d2] }
  | _ => none }
def FnExactGwTickWrongFalsely : Prop := fnExactGwTickRow.holds Tryz.pinned (OpenSpec.ofChange fnExactGwTickWrong)

/- THE SECOND FORM. 'bulk': how many values and letters a reading holds, each counted each time it is reached (what is shared counts as often as it is met; a slice's spare places count too). A statement '..UptoSaid' is the law's where the arguments, and the package variables that the reading takes, are together of bulk at most 1048576: NARROWER than '..Said'. Prove '..Said' where nothing that the law and all that it calls make is longer than what came in: it says more and counts as full. Else prove '..UptoSaid'. A law counts once. -/
mutual
def uptoBulk {H : Type} : DataW H → Nat
  | .lit (.string bytes) => bytes.length + 1
  | .lit _ => 1
  | .nil => 1
  | .ptr d => uptoBulk d + 1
  | .slice elems spare => uptoBulkAll elems + uptoBulkAll spare + 1
  | .agg parts => uptoBulkAll parts + 1
  | .iface _ d => uptoBulk d + 1
  | .map entries => uptoBulkEntries entries + 1
  | .held _ => 1
def uptoBulkAll {H : Type} : List (DataW H) → Nat
  | [] => 0
  | d :: r => uptoBulk d + uptoBulkAll r
def uptoBulkEntries {H : Type} : List (Lit × DataW H) → Nat
  | [] => 0
  | x :: r => uptoBulkEntry x + uptoBulkEntries r
def uptoBulkEntry {H : Type} : Lit × DataW H → Nat
  | (.string bytes, d) => bytes.length + uptoBulk d + 1
  | (_, d) => uptoBulk d + 1
 end
def uptoSmall : (H : Type) → List (DataW H) → Bool := fun _ ds => decide (uptoBulkAll ds ≤ 1048576)
def OpenSpec.upto (s : _root_.Go.ChangeSpec) : _root_.Go.OpenSpec := { _root_.Go.OpenSpec.ofChange s with cond := some uptoSmall }

/-- 'laws.FnNew', WHERE WHAT IT READS IS OF BULK AT MOST 1048576: true; the input reads as it did. -/
def fnNewUptoRow : OpenClaim := { program := "ythagnjokdnnmpaagreat", sum := "e3316fee0b6d94be1bd57c1008ada58e29b530f8b79cf5a12f8c0041f052a1ad", func := "loop.example/g00314/laws.FnNew", spec := "fnNew", unfollowed := true, recurses := true, plainKeys := false, apart := false, narrowed := true }
def FnNewUptoSaid : Prop := fnNewUptoRow.holds Tryz.pinned (OpenSpec.upto fnNewSpec)

/-- 'laws.FnExactGwNew', WHERE WHAT IT READS IS OF BULK AT MOST 1048576: true; the input reads as it did. -/
def fnExactGwNewUptoRow : OpenClaim := { program := "ythagnjokdnnmpaagreat", sum := "e3316fee0b6d94be1bd57c1008ada58e29b530f8b79cf5a12f8c0041f052a1ad", func := "loop.example/g00314/laws.FnExactGwNew", spec := "fnExactGwNew", unfollowed := true, recurses := true, plainKeys := false, apart := false, narrowed := true }
def FnExactGwNewUptoSaid : Prop := fnExactGwNewUptoRow.holds Tryz.pinned (OpenSpec.upto fnExactGwNewSpec)

/-- 'laws.FnExactGwTick', WHERE WHAT IT READS IS OF BULK AT MOST 1048576: true; the input reads as it did. -/
def fnExactGwTickUptoRow : OpenClaim := { program := "ythagnjokdnnmpaagreat", sum := "e3316fee0b6d94be1bd57c1008ada58e29b530f8b79cf5a12f8c0041f052a1ad", func := "loop.example/g00314/laws.FnExactGwTick", spec := "fnExactGwTick", unfollowed := true, recurses := true, plainKeys := false, apart := false, narrowed := true }
def FnExactGwTickUptoSaid : Prop := fnExactGwTickUptoRow.holds Tryz.pinned (OpenSpec.upto fnExactGwTickSpec)

end Rows
end Go.Proofs.YthagnjokdnnmpaaGreat
