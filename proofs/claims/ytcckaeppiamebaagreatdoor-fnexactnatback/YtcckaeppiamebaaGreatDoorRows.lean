/-
  NARROWER THAN 'FOR EVERY INPUT', by the rows' own cells (each row's printed sentence says how): FnExactNatGo: laid · FnExactNatCome: laid · FnExactNatBack: laid.
  DERIVED. THE GIVEN ROWS OF THIS SEAT. 3 by the template 'for every input the law returns true; each argument reads behind the call as it read before'; 0 by the template 'total and deterministic' (their statements: YtcckaeppiamebaaGreatDoorTotals.lean).
  GIVEN WITH THE SEED: the statements are not yours to turn. If you find one false, say at which input.
  Laid BY PROGRAM, IN A SANDBOX (cutbox-rows.mjs): the forced cells as the released guide's own fill.sh prints them over the translation 73e0d8fea5cc2efe… (all of the seat's roots in one cut). By AI agents, Wed Nov 11 2026. No macro, syntax, notation, axiom, sorry.
-/
import Derived.Test.YtcckaeppiamebaaGreatDoorChecked
import GoSem.Claim
import GoSem.ClaimJoined
import GoSem.ClaimMapViews
import Derived.JoinedTies
import Derived.KernelRfl
namespace Go.Proofs.YtcckaeppiamebaaGreatDoor
/- THE CELL 'sum', in the pinned program and in every row, IS THE sha256 OF THE DUMP (.gsa) THAT YtcckaeppiamebaaGreatDoorProg.lean LOADS. Nothing in Lean hashes anything: it is a label: what it is worth is what the hold of that sum in a sandbox is worth. -/
noncomputable def Tryz.pinned : Pinned := { name := "ytcckaeppiamebaagreatdoor", sum := "73e0d8fea5cc2efe7119c6231ed6412fe539868ef0976f93346c813c220d909c", checked := Tryz.checked }
namespace Rows
def none {H : Type} : Left H := { results := [], args := [] }

/- WHAT THE LISTED PACKAGE-LEVEL VARIABLES READ AS WHEN THE CALL BEGINS. Each datum BY PROGRAM (the guide's laid-datum.mjs) off the statement by which the dump's own 'gosem.cut.vars' lays the variable. In a bare row this is a premise. The card (YtcckaeppiamebaaGreatDoorCards.lean) ties it to the program's text. -/
def laid_loop_example_g00314_impl_becomes {H : Type} : DataW H := .agg [.agg [.lit (.int .i64 0), .lit (.int .i64 0)], .agg [.lit (.int .i64 0), .lit (.int .i64 3)], .agg [.lit (.int .i64 3), .lit (.int .i64 0)], .agg [.lit (.int .i64 4), .lit (.int .i64 5)], .agg [.lit (.int .i64 0), .lit (.int .i64 6)], .agg [.lit (.int .i64 6), .lit (.int .i64 0)], .agg [.lit (.int .i64 0), .lit (.int .i64 0)], .agg [.lit (.int .i64 3), .lit (.int .i64 3)]]

/-- 'laws.FnExactNatGo': WHATEVER THE INPUT: true; the input reads as it did. -/
def fnExactNatGoSpec : ChangeSpec := { name := "fnExactNatGo", vars := ["loop.example/g00314/impl.becomes"], fn := fun _ => fun
  | [d1, d2, d3, d4, g1] => { results := [.lit (.bool true)], args := [d1, d2, d3, d4], vars := [g1] }
  | _ => none }
def fnExactNatGoRow : OpenClaim := { program := "ytcckaeppiamebaagreatdoor", sum := "73e0d8fea5cc2efe7119c6231ed6412fe539868ef0976f93346c813c220d909c", func := "loop.example/g00314/laws.FnExactNatGo", spec := "fnExactNatGo", unfollowed := true, recurses := true, named := ["loop.example/g00314/impl.becomes"], plainKeys := false, apart := false, laid := [("loop.example/g00314/impl.becomes", laid_loop_example_g00314_impl_becomes)] }
def FnExactNatGoSaid : Prop := fnExactNatGoRow.holds Tryz.pinned (OpenSpec.ofChange fnExactNatGoSpec)

/-- ITS FALSE NEIGHBOUR: 'it returns false'. Refute it at one input. -/
def fnExactNatGoWrong : ChangeSpec := { name := "fnExactNatGo", vars := ["loop.example/g00314/impl.becomes"], fn := fun _ => fun
  | [d1, d2, d3, d4, g1] => { results := [.lit (.bool false)], args := [d1, d2, d3, d4], vars := [g1] }
  | _ => none }
def FnExactNatGoWrongFalsely : Prop := fnExactNatGoRow.holds Tryz.pinned (OpenSpec.ofChange fnExactNatGoWrong)

/-- 'laws.FnExactNatCome': WHATEVER THE INPUT: true; the input reads as it did. -/
def fnExactNatComeSpec : ChangeSpec := { name := "fnExactNatCome", vars := ["loop.example/g00314/impl.becomes"], fn := fun _ => fun
  | [d1, d2, d3, d4, g1] => { results := [.lit (.bool true)], args := [d1, d2, d3, d4], vars := [g1] }
  | _ => none }
def fnExactNatComeRow : OpenClaim := { program := "ytcckaeppiamebaagreatdoor", sum := "73e0d8fea5cc2efe7119c6231ed6412fe539868ef0976f93346c813c220d909c", func := "loop.example/g00314/laws.FnExactNatCome", spec := "fnExactNatCome", unfollowed := true, recurses := true, named := ["loop.example/g00314/impl.becomes"], plainKeys := false, apart := false, laid := [("loop.example/g00314/impl.becomes", laid_loop_example_g00314_impl_becomes)] }
def FnExactNatComeSaid : Prop := fnExactNatComeRow.holds Tryz.pinned (OpenSpec.ofChange fnExactNatComeSpec)

/-- ITS FALSE NEIGHBOUR: 'it returns false'. Refute it at one input. -/
def fnExactNatComeWrong : ChangeSpec := { name := "fnExactNatCome", vars := ["loop.example/g00314/impl.becomes"], fn := fun _ => fun
  | [d1, d2, d3, d4, g1] => { results := [.lit (.bool false)], args := [d1, d2, d3, d4], vars := [g1] }
  | _ => none }
def FnExactNatComeWrongFalsely : Prop := fnExactNatComeRow.holds Tryz.pinned (OpenSpec.ofChange fnExactNatComeWrong)

/-- 'laws.FnExactNatBack': WHATEVER THE INPUT: true; the input reads as it did. -/
def fnExactNatBackSpec : ChangeSpec := { name := "fnExactNatBack", vars := ["loop.example/g00314/impl.becomes"], fn := fun _ => fun
  | [d1, d2, d3, d4, g1] => { results := [.lit (.bool true)], args := [d1, d2, d3, d4], vars := [g1] }
  | _ => none }
def fnExactNatBackRow : OpenClaim := { program := "ytcckaeppiamebaagreatdoor", sum := "73e0d8fea5cc2efe7119c6231ed6412fe539868ef0976f93346c813c220d909c", func := "loop.example/g00314/laws.FnExactNatBack", spec := "fnExactNatBack", unfollowed := true, recurses := true, named := ["loop.example/g00314/impl.becomes"], plainKeys := false, apart := false, laid := [("loop.example/g00314/impl.becomes", laid_loop_example_g00314_impl_becomes)] }
def FnExactNatBackSaid : Prop := fnExactNatBackRow.holds Tryz.pinned (OpenSpec.ofChange fnExactNatBackSpec)

/-- ITS FALSE NEIGHBOUR: 'it returns false'. Refute it at one input. -/
def fnExactNatBackWrong : ChangeSpec := { name := "fnExactNatBack", vars := ["loop.example/g00314/impl.becomes"], fn := fun _ => fun
  | [d1, d2, d3, d4, g1] => { results := [.lit (.bool false)], args := [d1, d2, d3, d4], vars := [g1] }
  | _ => none }
def FnExactNatBackWrongFalsely : Prop := fnExactNatBackRow.holds Tryz.pinned (OpenSpec.ofChange fnExactNatBackWrong)

/- THE SECOND FORM. 'bulk': how many values and letters a reading holds, each counted each time it is reached (what is shared counts as often as it is met; a slice's spare places count too). A statement '..UptoSaid' is the law's where the arguments, and the package variables that the reading takes, are together of bulk at most 1048576: NARROWER than '..Said'. Prove '..Said' where nothing that the law and all that it calls make is longer than what came in: it says more and counts as full. Else prove '..UptoSaid'. A law counts once. -/
mutual
def uptoBulk {H : Type} : DataW H → Nat
  | .lit (.string bytes) => bytes.length + 1
  | .lit _ => 1
  | .nil => 1
  | .ptr d => uptoBulk d + 1
  | .slice elems spare => uptoBulkAll elems + uptoBulkAll spare + 1
  | .agg parts => uptoBulkAll parts + 1
  | .iface _ d => uptoBulk d + 1
  | .map entries => uptoBulkEntries entries + 1
  | .held _ => 1
def uptoBulkAll {H : Type} : List (DataW H) → Nat
  | [] => 0
  | d :: r => uptoBulk d + uptoBulkAll r
def uptoBulkEntries {H : Type} : List (Lit × DataW H) → Nat
  | [] => 0
  | x :: r => uptoBulkEntry x + uptoBulkEntries r
def uptoBulkEntry {H : Type} : Lit × DataW H → Nat
  | (.string bytes, d) => bytes.length + uptoBulk d + 1
  | (_, d) => uptoBulk d + 1
 end
def uptoSmall : (H : Type) → List (DataW H) → Bool := fun _ ds => decide (uptoBulkAll ds ≤ 1048576)
def OpenSpec.upto (s : _root_.Go.ChangeSpec) : _root_.Go.OpenSpec := { _root_.Go.OpenSpec.ofChange s with cond := some uptoSmall }

/-- 'laws.FnExactNatGo', WHERE WHAT IT READS IS OF BULK AT MOST 1048576: true; the input reads as it did. -/
def fnExactNatGoUptoRow : OpenClaim := { program := "ytcckaeppiamebaagreatdoor", sum := "73e0d8fea5cc2efe7119c6231ed6412fe539868ef0976f93346c813c220d909c", func := "loop.example/g00314/laws.FnExactNatGo", spec := "fnExactNatGo", unfollowed := true, recurses := true, named := ["loop.example/g00314/impl.becomes"], plainKeys := false, apart := false, laid := [("loop.example/g00314/impl.becomes", laid_loop_example_g00314_impl_becomes)], narrowed := true }
def FnExactNatGoUptoSaid : Prop := fnExactNatGoUptoRow.holds Tryz.pinned (OpenSpec.upto fnExactNatGoSpec)

/-- 'laws.FnExactNatCome', WHERE WHAT IT READS IS OF BULK AT MOST 1048576: true; the input reads as it did. -/
def fnExactNatComeUptoRow : OpenClaim := { program := "ytcckaeppiamebaagreatdoor", sum := "73e0d8fea5cc2efe7119c6231ed6412fe539868ef0976f93346c813c220d909c", func := "loop.example/g00314/laws.FnExactNatCome", spec := "fnExactNatCome", unfollowed := true, recurses := true, named := ["loop.example/g00314/impl.becomes"], plainKeys := false, apart := false, laid := [("loop.example/g00314/impl.becomes", laid_loop_example_g00314_impl_becomes)], narrowed := true }
def FnExactNatComeUptoSaid : Prop := fnExactNatComeUptoRow.holds Tryz.pinned (OpenSpec.upto fnExactNatComeSpec)

/-- 'laws.FnExactNatBack', WHERE WHAT IT READS IS OF BULK AT MOST 1048576: true; the input reads as it did. -/
def fnExactNatBackUptoRow : OpenClaim := { program := "ytcckaeppiamebaagreatdoor", sum := "73e0d8fea5cc2efe7119c6231ed6412fe539868ef0976f93346c813c220d909c", func := "loop.example/g00314/laws.FnExactNatBack", spec := "fnExactNatBack", unfollowed := true, recurses := true, named := ["loop.example/g00314/impl.becomes"], plainKeys := false, apart := false, laid := [("loop.example/g00314/impl.becomes", laid_loop_example_g00314_impl_becomes)], narrowed := true }
def FnExactNatBackUptoSaid : Prop := fnExactNatBackUptoRow.holds Tryz.pinned (OpenSpec.upto fnExactNatBackSpec)

end Rows
end Go.Proofs.YtcckaeppiamebaaGreatDoor
