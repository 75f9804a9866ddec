/-
  No cell of these rows narrows 'for every input' (looked for: loops, veiled, ifaces, maps, wideKeys, modest, calm, conditions, laid).
  DERIVED. THE GIVEN ROWS OF THIS SEAT. 5 by the template 'for every input the law returns true; each argument reads behind the call as it read before'; 0 by the template 'total and deterministic' (their statements: YtkakehchiadpbalTotals.lean).
  GIVEN WITH THE SEED: the statements are not yours to turn. If you find one false, say at which input.
  Laid BY PROGRAM, IN A SANDBOX (cutbox-rows.mjs): the forced cells as the released guide's own fill.sh prints them over the translation 3e753522c86752b2… (all of the seat's roots in one cut). By AI agents, Wed Nov 11 2026. No macro, syntax, notation, axiom, sorry.
-/
import Derived.Test.YtkakehchiadpbalChecked
import GoSem.Claim
import GoSem.ClaimJoined
import GoSem.ClaimMapViews
import Derived.JoinedTies
import Derived.KernelRfl
namespace Go.Proofs.Ytkakehchiadpbal
/- THE CELL 'sum', in the pinned program and in every row, IS THE sha256 OF THE DUMP (.gsa) THAT YtkakehchiadpbalProg.lean LOADS. Nothing in Lean hashes anything: it is a label: what it is worth is what the hold of that sum in a sandbox is worth. -/
noncomputable def Try.pinned : Pinned := { name := "ytkakehchiadpbal", sum := "3e753522c86752b2a76264295c0db9fad7e06497fe7b1789b5cb2aa98696d7e9", checked := Try.checked }
namespace Rows
def none {H : Type} : Left H := { results := [], args := [] }

/-- 'laws.FnExactPoolRight': WHATEVER THE INPUT: true; the input reads as it did. -/
def fnExactPoolRightSpec : ChangeSpec := { name := "fnExactPoolRight", fn := fun _ => fun
  | [d] => { results := [.lit (.bool true)], args := [d] }
  | _ => none }
def fnExactPoolRightRow : OpenClaim := { program := "ytkakehchiadpbal", sum := "3e753522c86752b2a76264295c0db9fad7e06497fe7b1789b5cb2aa98696d7e9", func := "loop.example/g00314/laws.FnExactPoolRight", spec := "fnExactPoolRight", plainKeys := false, apart := false }
def FnExactPoolRightSaid : Prop := fnExactPoolRightRow.holds Try.pinned (OpenSpec.ofChange fnExactPoolRightSpec)

/-- ITS FALSE NEIGHBOUR: 'it returns false'. Refute it at one input. -/
def fnExactPoolRightWrong : ChangeSpec := { name := "fnExactPoolRight", fn := fun _ => fun
  | [d] => { results := [.lit (.bool false)], args := [d] }
  | _ => none }
def FnExactPoolRightWrongFalsely : Prop := fnExactPoolRightRow.holds Try.pinned (OpenSpec.ofChange fnExactPoolRightWrong)

/-- 'laws.FnExactBibRight': WHATEVER THE INPUT: true; the input reads as it did. -/
def fnExactBibRightSpec : ChangeSpec := { name := "fnExactBibRight", fn := fun _ => fun
  | [d1, d2] => { results := [.lit (.bool true)], args := [d1, d2] }
  | _ => none }
def fnExactBibRightRow : OpenClaim := { program := "ytkakehchiadpbal", sum := "3e753522c86752b2a76264295c0db9fad7e06497fe7b1789b5cb2aa98696d7e9", func := "loop.example/g00314/laws.FnExactBibRight", spec := "fnExactBibRight", unfollowed := true, recurses := true, plainKeys := false, apart := false }
def FnExactBibRightSaid : Prop := fnExactBibRightRow.holds Try.pinned (OpenSpec.ofChange fnExactBibRightSpec)

/-- ITS FALSE NEIGHBOUR: 'it returns false'. Refute it at one input. -/
def fnExactBibRightWrong : ChangeSpec := { name := "fnExactBibRight", fn := fun _ => fun
  | [d1, d2] => { results := [.lit (.bool false)], args := [d1, d2] }
  | _ => none }
def FnExactBibRightWrongFalsely : Prop := fnExactBibRightRow.holds Try.pinned (OpenSpec.ofChange fnExactBibRightWrong)

/-- 'laws.FnExactBindOf': WHATEVER THE INPUT: true; the input reads as it did. -/
def fnExactBindOfSpec : ChangeSpec := { name := "fnExactBindOf", fn := fun _ => fun
  | [d1, d2, d3, d4] => { results := [.lit (.bool true)], args := [d1, d2, d3, d4] }
  | _ => none }
def fnExactBindOfRow : OpenClaim := { program := "ytkakehchiadpbal", sum := "3e753522c86752b2a76264295c0db9fad7e06497fe7b1789b5cb2aa98696d7e9", func := "loop.example/g00314/laws.FnExactBindOf", spec := "fnExactBindOf", unfollowed := true, recurses := true, plainKeys := false, apart := false }
def FnExactBindOfSaid : Prop := fnExactBindOfRow.holds Try.pinned (OpenSpec.ofChange fnExactBindOfSpec)

/-- ITS FALSE NEIGHBOUR: 'it returns false'. Refute it at one input. -/
def fnExactBindOfWrong : ChangeSpec := { name := "fnExactBindOf", fn := fun _ => fun
  | [d1, d2, d3, d4] => { results := [.lit (.bool false)], args := [d1, d2, d3, d4] }
  | _ => none }
def FnExactBindOfWrongFalsely : Prop := fnExactBindOfRow.holds Try.pinned (OpenSpec.ofChange fnExactBindOfWrong)

/-- 'laws.FnExactBindAt': WHATEVER THE INPUT: true; the input reads as it did. -/
def fnExactBindAtSpec : ChangeSpec := { name := "fnExactBindAt", fn := fun _ => fun
  | [d1, d2, d3, d4] => { results := [.lit (.bool true)], args := [d1, d2, d3, d4] }
  | _ => none }
def fnExactBindAtRow : OpenClaim := { program := "ytkakehchiadpbal", sum := "3e753522c86752b2a76264295c0db9fad7e06497fe7b1789b5cb2aa98696d7e9", func := "loop.example/g00314/laws.FnExactBindAt", spec := "fnExactBindAt", unfollowed := true, recurses := true, plainKeys := false, apart := false }
def FnExactBindAtSaid : Prop := fnExactBindAtRow.holds Try.pinned (OpenSpec.ofChange fnExactBindAtSpec)

/-- ITS FALSE NEIGHBOUR: 'it returns false'. Refute it at one input. -/
def fnExactBindAtWrong : ChangeSpec := { name := "fnExactBindAt", fn := fun _ => fun
  | [d1, d2, d3, d4] => { results := [.lit (.bool false)], args := [d1, d2, d3, d4] }
  | _ => none }
def FnExactBindAtWrongFalsely : Prop := fnExactBindAtRow.holds Try.pinned (OpenSpec.ofChange fnExactBindAtWrong)

/-- 'laws.FnExactPortFor': WHATEVER THE INPUT: true; the input reads as it did. -/
def fnExactPortForSpec : ChangeSpec := { name := "fnExactPortFor", fn := fun _ => fun
  | [d1, d2, d3, d4, d5] => { results := [.lit (.bool true)], args := [d1, d2, d3, d4, d5] }
  | _ => none }
def fnExactPortForRow : OpenClaim := { program := "ytkakehchiadpbal", sum := "3e753522c86752b2a76264295c0db9fad7e06497fe7b1789b5cb2aa98696d7e9", func := "loop.example/g00314/laws.FnExactPortFor", spec := "fnExactPortFor", unfollowed := true, recurses := true, plainKeys := false, apart := false }
def FnExactPortForSaid : Prop := fnExactPortForRow.holds Try.pinned (OpenSpec.ofChange fnExactPortForSpec)

/-- ITS FALSE NEIGHBOUR: 'it returns false'. Refute it at one input. -/
def fnExactPortForWrong : ChangeSpec := { name := "fnExactPortFor", fn := fun _ => fun
  | [d1, d2, d3, d4, d5] => { results := [.lit (.bool false)], args := [d1, d2, d3, d4, d5] }
  | _ => none }
def FnExactPortForWrongFalsely : Prop := fnExactPortForRow.holds Try.pinned (OpenSpec.ofChange fnExactPortForWrong)

/- THE SECOND FORM. 'bulk': how many values and letters a reading holds, each counted each time it is reached (what is shared counts as often as it is met; a slice's spare places count too). A statement '..UptoSaid' is the law's where the arguments, and the package variables that the reading takes, are together of bulk at most 1048576: NARROWER than '..Said'. Prove '..Said' where nothing that the law and all that it calls make is longer than what came in: it says more and counts as full. Else prove '..UptoSaid'. A law counts once. -/
mutual
def uptoBulk {H : Type} : DataW H → Nat
  | .lit (.string bytes) => bytes.length + 1
  | .lit _ => 1
  | .nil => 1
  | .ptr d => uptoBulk d + 1
  | .slice elems spare => uptoBulkAll elems + uptoBulkAll spare + 1
  | .agg parts => uptoBulkAll parts + 1
  | .iface _ d => uptoBulk d + 1
  | .map entries => uptoBulkEntries entries + 1
  | .held _ => 1
def uptoBulkAll {H : Type} : List (DataW H) → Nat
  | [] => 0
  | d :: r => uptoBulk d + uptoBulkAll r
def uptoBulkEntries {H : Type} : List (Lit × DataW H) → Nat
  | [] => 0
  | x :: r => uptoBulkEntry x + uptoBulkEntries r
def uptoBulkEntry {H : Type} : Lit × DataW H → Nat
  | (.string bytes, d) => bytes.length + uptoBulk d + 1
  | (_, d) => uptoBulk d + 1
 end
def uptoSmall : (H : Type) → List (DataW H) → Bool := fun _ ds => decide (uptoBulkAll ds ≤ 1048576)
def OpenSpec.upto (s : _root_.Go.ChangeSpec) : _root_.Go.OpenSpec := { _root_.Go.OpenSpec.ofChange s with cond := some uptoSmall }

/-- 'laws.FnExactPoolRight', WHERE WHAT IT READS IS OF BULK AT MOST 1048576: true; the input reads as it did. -/
def fnExactPoolRightUptoRow : OpenClaim := { program := "ytkakehchiadpbal", sum := "3e753522c86752b2a76264295c0db9fad7e06497fe7b1789b5cb2aa98696d7e9", func := "loop.example/g00314/laws.FnExactPoolRight", spec := "fnExactPoolRight", plainKeys := false, apart := false, narrowed := true }
def FnExactPoolRightUptoSaid : Prop := fnExactPoolRightUptoRow.holds Try.pinned (OpenSpec.upto fnExactPoolRightSpec)

/-- 'laws.FnExactBibRight', WHERE WHAT IT READS IS OF BULK AT MOST 1048576: true; the input reads as it did. -/
def fnExactBibRightUptoRow : OpenClaim := { program := "ytkakehchiadpbal", sum := "3e753522c86752b2a76264295c0db9fad7e06497fe7b1789b5cb2aa98696d7e9", func := "loop.example/g00314/laws.FnExactBibRight", spec := "fnExactBibRight", unfollowed := true, recurses := true, plainKeys := false, apart := false, narrowed := true }
def FnExactBibRightUptoSaid : Prop := fnExactBibRightUptoRow.holds Try.pinned (OpenSpec.upto fnExactBibRightSpec)

/-- 'laws.FnExactBindOf', WHERE WHAT IT READS IS OF BULK AT MOST 1048576: true; the input reads as it did. -/
def fnExactBindOfUptoRow : OpenClaim := { program := "ytkakehchiadpbal", sum := "3e753522c86752b2a76264295c0db9fad7e06497fe7b1789b5cb2aa98696d7e9", func := "loop.example/g00314/laws.FnExactBindOf", spec := "fnExactBindOf", unfollowed := true, recurses := true, plainKeys := false, apart := false, narrowed := true }
def FnExactBindOfUptoSaid : Prop := fnExactBindOfUptoRow.holds Try.pinned (OpenSpec.upto fnExactBindOfSpec)

/-- 'laws.FnExactBindAt', WHERE WHAT IT READS IS OF BULK AT MOST 1048576: true; the input reads as it did. -/
def fnExactBindAtUptoRow : OpenClaim := { program := "ytkakehchiadpbal", sum := "3e753522c86752b2a76264295c0db9fad7e06497fe7b1789b5cb2aa98696d7e9", func := "loop.example/g00314/laws.FnExactBindAt", spec := "fnExactBindAt", unfollowed := true, recurses := true, plainKeys := false, apart := false, narrowed := true }
def FnExactBindAtUptoSaid : Prop := fnExactBindAtUptoRow.holds Try.pinned (OpenSpec.upto fnExactBindAtSpec)

/-- 'laws.FnExactPortFor', WHERE WHAT IT READS IS OF BULK AT MOST 1048576: true; the input reads as it did. -/
def fnExactPortForUptoRow : OpenClaim := { program := "ytkakehchiadpbal", sum := "3e753522c86752b2a76264295c0db9fad7e06497fe7b1789b5cb2aa98696d7e9", func := "loop.example/g00314/laws.FnExactPortFor", spec := "fnExactPortFor", unfollowed := true, recurses := true, plainKeys := false, apart := false, narrowed := true }
def FnExactPortForUptoSaid : Prop := fnExactPortForUptoRow.holds Try.pinned (OpenSpec.upto fnExactPortForSpec)

end Rows
end Go.Proofs.Ytkakehchiadpbal
