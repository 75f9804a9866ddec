/-
  NARROWER THAN 'FOR EVERY INPUT', by the rows' own cells (each row's printed sentence says how): FnGo: laid · FnCome: laid · FnBack: laid.
  DERIVED. THE GIVEN ROWS OF THIS SEAT. 3 by the template 'for every input the law returns true; each argument reads behind the call as it read before'; 0 by the template 'total and deterministic' (their statements: YtdkepkaflielhaaGreatDoorTotals.lean).
  GIVEN WITH THE SEED: the statements are not yours to turn. If you find one false, say at which input.
  Laid BY PROGRAM, IN A SANDBOX (cutbox-rows.mjs): the forced cells as the released guide's own fill.sh prints them over the translation bb2ea69347c7f6cb… (all of the seat's roots in one cut). By AI agents, Wed Nov 11 2026. No macro, syntax, notation, axiom, sorry.
-/
import Derived.Test.YtdkepkaflielhaaGreatDoorChecked
import GoSem.Claim
import GoSem.ClaimJoined
import GoSem.ClaimMapViews
import Derived.JoinedTies
import Derived.KernelRfl
namespace Go.Proofs.YtdkepkaflielhaaGreatDoor
/- THE CELL 'sum', in the pinned program and in every row, IS THE sha256 OF THE DUMP (.gsa) THAT YtdkepkaflielhaaGreatDoorProg.lean LOADS. Nothing in Lean hashes anything: it is a label: what it is worth is what the hold of that sum in a sandbox is worth. -/
noncomputable def Tryz.pinned : Pinned := { name := "ytdkepkaflielhaagreatdoor", sum := "bb2ea69347c7f6cbaf6245a97c61a4b6c8b1c445697b81b078d87e1ff6786d04", checked := Tryz.checked }
namespace Rows
def none {H : Type} : Left H := { results := [], args := [] }

/- WHAT THE LISTED PACKAGE-LEVEL VARIABLES READ AS WHEN THE CALL BEGINS. Each datum BY PROGRAM (the guide's laid-datum.mjs) off the statement by which the dump's own 'gosem.cut.vars' lays the variable. In a bare row this is a premise. The card (YtdkepkaflielhaaGreatDoorCards.lean) ties it to the program's text. -/
def laid_loop_example_g00314_impl_becomes {H : Type} : DataW H := .agg [.agg [.lit (.int .i64 0), .lit (.int .i64 0)], .agg [.lit (.int .i64 0), .lit (.int .i64 3)], .agg [.lit (.int .i64 3), .lit (.int .i64 0)], .agg [.lit (.int .i64 4), .lit (.int .i64 5)], .agg [.lit (.int .i64 0), .lit (.int .i64 6)], .agg [.lit (.int .i64 6), .lit (.int .i64 0)], .agg [.lit (.int .i64 0), .lit (.int .i64 0)], .agg [.lit (.int .i64 3), .lit (.int .i64 3)]]

/-- 'laws.FnGo': WHATEVER THE INPUT: true; the input reads as it did. -/
def fnGoSpec : ChangeSpec := { name := "fnGo", vars := ["loop.example/g00314/impl.becomes"], fn := fun _ => fun
  | [d, g1] => { results := [.lit (.bool true)], args := [d], vars := [g1] }
  | _ => none }
def fnGoRow : OpenClaim := { program := "ytdkepkaflielhaagreatdoor", sum := "bb2ea69347c7f6cbaf6245a97c61a4b6c8b1c445697b81b078d87e1ff6786d04", func := "loop.example/g00314/laws.FnGo", spec := "fnGo", unfollowed := true, recurses := true, named := ["loop.example/g00314/impl.becomes"], plainKeys := false, apart := false, laid := [("loop.example/g00314/impl.becomes", laid_loop_example_g00314_impl_becomes)] }
def FnGoSaid : Prop := fnGoRow.holds Tryz.pinned (OpenSpec.ofChange fnGoSpec)

/-- ITS FALSE NEIGHBOUR: 'it returns false'. Refute it at one input. -/
def fnGoWrong : ChangeSpec := { name := "fnGo", vars := ["loop.example/g00314/impl.becomes"], fn := fun _ => fun
  | [d, g1] => { results := [.lit (.bool false)], args := [d], vars := [g1] }
  | _ => none }
def FnGoWrongFalsely : Prop := fnGoRow.holds Tryz.pinned (OpenSpec.ofChange fnGoWrong)

/-- 'laws.FnCome': WHATEVER THE INPUT: true; the input reads as it did. -/
def fnComeSpec : ChangeSpec := { name := "fnCome", vars := ["loop.example/g00314/impl.becomes"], fn := fun _ => fun
  | [d, g1] => { results := [.lit (.bool true)], args := [d], vars := [g1] }
  | _ => none }
def fnComeRow : OpenClaim := { program := "ytdkepkaflielhaagreatdoor", sum := "bb2ea69347c7f6cbaf6245a97c61a4b6c8b1c445697b81b078d87e1ff6786d04", func := "loop.example/g00314/laws.FnCome", spec := "fnCome", unfollowed := true, recurses := true, named := ["loop.example/g00314/impl.becomes"], plainKeys := false, apart := false, laid := [("loop.example/g00314/impl.becomes", laid_loop_example_g00314_impl_becomes)] }
def FnComeSaid : Prop := fnComeRow.holds Tryz.pinned (OpenSpec.ofChange fnComeSpec)

/-- ITS FALSE NEIGHBOUR: 'it returns false'. Refute it at one input. -/
def fnComeWrong : ChangeSpec := { name := "fnCome", vars := ["loop.example/g00314/impl.becomes"], fn := fun _ => fun
  | [d, g1] => { results := [.lit (.bool false)], args := [d], vars := [g1] }
  | _ => none }
def FnComeWrongFalsely : Prop := fnComeRow.holds Tryz.pinned (OpenSpec.ofChange fnComeWrong)

/-- 'laws.FnBack': WHATEVER THE INPUT: true; the input reads as it did. -/
def fnBackSpec : ChangeSpec := { name := "fnBack", vars := ["loop.example/g00314/impl.becomes"], fn := fun _ => fun
  | [d, g1] => { results := [.lit (.bool true)], args := [d], vars := [g1] }
  | _ => none }
def fnBackRow : OpenClaim := { program := "ytdkepkaflielhaagreatdoor", sum := "bb2ea69347c7f6cbaf6245a97c61a4b6c8b1c445697b81b078d87e1ff6786d04", func := "loop.example/g00314/laws.FnBack", spec := "fnBack", unfollowed := true, recurses := true, named := ["loop.example/g00314/impl.becomes"], plainKeys := false, apart := false, laid := [("loop.example/g00314/impl.becomes", laid_loop_example_g00314_impl_becomes)] }
def FnBackSaid : Prop := fnBackRow.holds Tryz.pinned (OpenSpec.ofChange fnBackSpec)

/-- ITS FALSE NEIGHBOUR: 'it returns false'. Refute it at one input. -/
def fnBackWrong : ChangeSpec := { name := "fnBack", vars := ["loop.example/g00314/impl.becomes"], fn := fun _ => fun
  | [d, g1] => { results := [.lit (.bool false)], args := [d], vars := [g1] }
  | _ => none }
def FnBackWrongFalsely : Prop := fnBackRow.holds Tryz.pinned (OpenSpec.ofChange fnBackWrong)

/- THE SECOND FORM. 'bulk': how many values and letters a reading holds, each counted each time it is reached (what is shared counts as often as it is met; a slice's spare places count too). A statement '..UptoSaid' is the law's where the arguments, and the package variables that the reading takes, are together of bulk at most 1048576: NARROWER than '..Said'. Prove '..Said' where nothing that the law and all that it calls make is longer than what came in: it says more and counts as full. Else prove '..UptoSaid'. A law counts once. -/
mutual
def uptoBulk {H : Type} : DataW H → Nat
  | .lit (.string bytes) => bytes.length + 1
  | .lit _ => 1
  | .nil => 1
  | .ptr d => uptoBulk d + 1
  | .slice elems spare => uptoBulkAll elems + uptoBulkAll spare + 1
  | .agg parts => uptoBulkAll parts + 1
  | .iface _ d => uptoBulk d + 1
  | .map entries => uptoBulkEntries entries + 1
  | .held _ => 1
def uptoBulkAll {H : Type} : List (DataW H) → Nat
  | [] => 0
  | d :: r => uptoBulk d + uptoBulkAll r
def uptoBulkEntries {H : Type} : List (Lit × DataW H) → Nat
  | [] => 0
  | x :: r => uptoBulkEntry x + uptoBulkEntries r
def uptoBulkEntry {H : Type} : Lit × DataW H → Nat
  | (.string bytes, d) => bytes.length + uptoBulk d + 1
  | (_, d) => uptoBulk d + 1
 end
def uptoSmall : (H : Type) → List (DataW H) → Bool := fun _ ds => decide (uptoBulkAll ds ≤ 1048576)
def OpenSpec.upto (s : _root_.Go.ChangeSpec) : _root_.Go.OpenSpec := { _root_.Go.OpenSpec.ofChange s with cond := some uptoSmall }

/-- 'laws.FnGo', WHERE WHAT IT READS IS OF BULK AT MOST 1048576: true; the input reads as it did. -/
def fnGoUptoRow : OpenClaim := { program := "ytdkepkaflielhaagreatdoor", sum := "bb2ea69347c7f6cbaf6245a97c61a4b6c8b1c445697b81b078d87e1ff6786d04", func := "loop.example/g00314/laws.FnGo", spec := "fnGo", unfollowed := true, recurses := true, named := ["loop.example/g00314/impl.becomes"], plainKeys := false, apart := false, laid := [("loop.example/g00314/impl.becomes", laid_loop_example_g00314_impl_becomes)], narrowed := true }
def FnGoUptoSaid : Prop := fnGoUptoRow.holds Tryz.pinned (OpenSpec.upto fnGoSpec)

/-- 'laws.FnCome', WHERE WHAT IT READS IS OF BULK AT MOST 1048576: true; the input reads as it did. -/
def fnComeUptoRow : OpenClaim := { program := "ytdkepkaflielhaagreatdoor", sum := "bb2ea69347c7f6cbaf6245a97c61a4b6c8b1c445697b81b078d87e1ff6786d04", func := "loop.example/g00314/laws.FnCome", spec := "fnCome", unfollowed := true, recurses := true, named := ["loop.example/g00314/impl.becomes"], plainKeys := false, apart := false, laid := [("loop.example/g00314/impl.becomes", laid_loop_example_g00314_impl_becomes)], narrowed := true }
def FnComeUptoSaid : Prop := fnComeUptoRow.holds Tryz.pinned (OpenSpec.upto fnComeSpec)

/-- 'laws.FnBack', WHERE WHAT IT READS IS OF BULK AT MOST 1048576: true; the input reads as it did. -/
def fnBackUptoRow : OpenClaim := { program := "ytdkepkaflielhaagreatdoor", sum := "bb2ea69347c7f6cbaf6245a97c61a4b6c8b1c445697b81b078d87e1ff6786d04", func := "loop.example/g00314/laws.FnBack", spec := "fnBack", unfollowed := true, recurses := true, named := ["loop.example/g00314/impl.becomes"], plainKeys := false, apart := false, laid := [("loop.example/g00314/impl.becomes", laid_loop_example_g00314_impl_becomes)], narrowed := true }
def FnBackUptoSaid : Prop := fnBackUptoRow.holds Tryz.pinned (OpenSpec.upto fnBackSpec)

end Rows
end Go.Proofs.YtdkepkaflielhaaGreatDoor
