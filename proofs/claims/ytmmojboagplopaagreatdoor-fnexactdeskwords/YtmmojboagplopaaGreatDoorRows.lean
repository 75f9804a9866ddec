/-
  NARROWER THAN 'FOR EVERY INPUT', by the rows' own cells (each row's printed sentence says how): FnExactDeskWords: ifaces, laid.
  DERIVED. THE GIVEN ROWS OF THIS SEAT. 1 by the template 'for every input the law returns true; each argument reads behind the call as it read before'; 0 by the template 'total and deterministic' (their statements: YtmmojboagplopaaGreatDoorTotals.lean).
  GIVEN WITH THE SEED: the statements are not yours to turn. If you find one false, say at which input.
  Laid BY PROGRAM, IN A SANDBOX (cutbox-rows.mjs): the forced cells as the released guide's own fill.sh prints them over the translation 7ff699cc63f66e81… (all of the seat's roots in one cut). By AI agents, Wed Nov 11 2026. No macro, syntax, notation, axiom, sorry.
-/
import Derived.Test.YtmmojboagplopaaGreatDoorChecked
import GoSem.Claim
import GoSem.ClaimJoined
import GoSem.ClaimMapViews
import Derived.JoinedTies
import Derived.KernelRfl
namespace Go.Proofs.YtmmojboagplopaaGreatDoor
/- THE CELL 'sum', in the pinned program and in every row, IS THE sha256 OF THE DUMP (.gsa) THAT YtmmojboagplopaaGreatDoorProg.lean LOADS. Nothing in Lean hashes anything: it is a label: what it is worth is what the hold of that sum in a sandbox is worth. -/
noncomputable def Tryz.pinned : Pinned := { name := "ytmmojboagplopaagreatdoor", sum := "7ff699cc63f66e81e92b9cd0d934de63e7000412a1bd9b00c01cc7f31657b548", checked := Tryz.checked }
namespace Rows
def none {H : Type} : Left H := { results := [], args := [] }

/- WHAT THE LISTED PACKAGE-LEVEL VARIABLES READ AS WHEN THE CALL BEGINS. Each datum BY PROGRAM (the guide's laid-datum.mjs) off the statement by which the dump's own 'gosem.cut.vars' lays the variable. In a bare row this is a premise. The card (YtmmojboagplopaaGreatDoorCards.lean) ties it to the program's text. -/
def laid_math_bits_deBruijn32tab {H : Type} : DataW H := .agg [.lit (.int .u8 0), .lit (.int .u8 1), .lit (.int .u8 28), .lit (.int .u8 2), .lit (.int .u8 29), .lit (.int .u8 14), .lit (.int .u8 24), .lit (.int .u8 3), .lit (.int .u8 30), .lit (.int .u8 22), .lit (.int .u8 20), .lit (.int .u8 15), .lit (.int .u8 25), .lit (.int .u8 17), .lit (.int .u8 4), .lit (.int .u8 8), .lit (.int .u8 31), .lit (.int .u8 27), .lit (.int .u8 13), .lit (.int .u8 23), .lit (.int .u8 21), .lit (.int .u8 19), .lit (.int .u8 16), .lit (.int .u8 7), .lit (.int .u8 26), .lit (.int .u8 12), .lit (.int .u8 18), .lit (.int .u8 6), .lit (.int .u8 11), .lit (.int .u8 5), .lit (.int .u8 10), .lit (.int .u8 9)]
def laid_math_bits_deBruijn64tab {H : Type} : DataW H := .agg [.lit (.int .u8 0), .lit (.int .u8 1), .lit (.int .u8 56), .lit (.int .u8 2), .lit (.int .u8 57), .lit (.int .u8 49), .lit (.int .u8 28), .lit (.int .u8 3), .lit (.int .u8 61), .lit (.int .u8 58), .lit (.int .u8 42), .lit (.int .u8 50), .lit (.int .u8 38), .lit (.int .u8 29), .lit (.int .u8 17), .lit (.int .u8 4), .lit (.int .u8 62), .lit (.int .u8 47), .lit (.int .u8 59), .lit (.int .u8 36), .lit (.int .u8 45), .lit (.int .u8 43), .lit (.int .u8 51), .lit (.int .u8 22), .lit (.int .u8 53), .lit (.int .u8 39), .lit (.int .u8 33), .lit (.int .u8 30), .lit (.int .u8 24), .lit (.int .u8 18), .lit (.int .u8 12), .lit (.int .u8 5), .lit (.int .u8 63), .lit (.int .u8 55), .lit (.int .u8 48), .lit (.int .u8 27), .lit (.int .u8 60), .lit (.int .u8 41), .lit (.int .u8 37), .lit (.int .u8 16), .lit (.int .u8 46), .lit (.int .u8 35), .lit (.int .u8 44), .lit (.int .u8 21), .lit (.int .u8 52), .lit (.int .u8 32), .lit (.int .u8 23), .lit (.int .u8 11), .lit (.int .u8 54), .lit (.int .u8 26), .lit (.int .u8 40), .lit (.int .u8 15), .lit (.int .u8 34), .lit (.int .u8 20), .lit (.int .u8 31), .lit (.int .u8 10), .lit (.int .u8 25), .lit (.int .u8 14), .lit (.int .u8 19), .lit (.int .u8 9), .lit (.int .u8 13), .lit (.int .u8 8), .lit (.int .u8 7), .lit (.int .u8 6)]
def laid_internal_strconv_uint64pow10 {H : Type} : DataW H := .agg [.lit (.int .u64 1), .lit (.int .u64 10), .lit (.int .u64 100), .lit (.int .u64 1000), .lit (.int .u64 10000), .lit (.int .u64 100000), .lit (.int .u64 1000000), .lit (.int .u64 10000000), .lit (.int .u64 100000000), .lit (.int .u64 1000000000), .lit (.int .u64 10000000000), .lit (.int .u64 100000000000), .lit (.int .u64 1000000000000), .lit (.int .u64 10000000000000), .lit (.int .u64 100000000000000), .lit (.int .u64 1000000000000000), .lit (.int .u64 10000000000000000), .lit (.int .u64 100000000000000000), .lit (.int .u64 1000000000000000000), .lit (.int .u64 10000000000000000000)]
def laid_errors_errorType {H : Type} : DataW H := .iface "internal/reflectlite.rtype" (.agg [.ptr (.lit (.string [101, 114, 114, 111, 114]))])
def laid_loop_example_g00314_impl_becomes {H : Type} : DataW H := .agg [.agg [.lit (.int .i64 0), .lit (.int .i64 0)], .agg [.lit (.int .i64 0), .lit (.int .i64 3)], .agg [.lit (.int .i64 3), .lit (.int .i64 0)], .agg [.lit (.int .i64 4), .lit (.int .i64 5)], .agg [.lit (.int .i64 0), .lit (.int .i64 6)], .agg [.lit (.int .i64 6), .lit (.int .i64 0)], .agg [.lit (.int .i64 0), .lit (.int .i64 0)], .agg [.lit (.int .i64 3), .lit (.int .i64 3)]]
def laid_loop_example_g00314_impl_errWrong {H : Type} : DataW H := .iface "*errors.errorString" (.ptr (.agg [.lit (.string [115, 111, 109, 101, 116, 104, 105, 110, 103, 32, 116, 104, 97, 116, 32, 105, 115, 32, 104, 97, 110, 100, 101, 100, 32, 105, 110, 32, 105, 115, 32, 110, 111, 116, 32, 114, 105, 103, 104, 116])]))
def laid_loop_example_g00314_impl_errNotLaid {H : Type} : DataW H := .iface "*errors.errorString" (.ptr (.agg [.lit (.string [110, 111, 32, 102, 111, 117, 114, 32, 98, 121, 116, 101, 115, 32, 97, 114, 101, 32, 112, 117, 116, 32, 105, 110, 116, 111, 32, 116, 104, 101, 32, 112, 114, 101, 102, 105, 120, 32, 115, 111])]))
def laid_loop_example_g00314_impl_errTooShort {H : Type} : DataW H := .iface "*errors.errorString" (.ptr (.agg [.lit (.string [116, 104, 101, 32, 100, 97, 116, 97, 32, 101, 110, 100, 32, 97, 104, 101, 97, 100, 32, 111, 102, 32, 116, 104, 101, 105, 114, 32, 104, 101, 97, 100, 101, 114, 39, 115, 32, 101, 110, 100])]))
def laid_loop_example_g00314_impl_errNoCheck {H : Type} : DataW H := .iface "*errors.errorString" (.ptr (.agg [.lit (.string [98, 101, 116, 119, 101, 101, 110, 32, 115, 105, 120, 101, 115, 32, 116, 104, 101, 114, 101, 32, 105, 115, 32, 110, 111, 32, 112, 97, 99, 107, 101, 116, 32, 111, 102, 32, 85, 68, 80, 32, 119, 105, 116, 104, 111, 117, 116, 32, 97, 32, 99, 104, 101, 99, 107])]))
def laid_loop_example_g00314_impl_errNobody {H : Type} : DataW H := .iface "*errors.errorString" (.ptr (.agg [.lit (.string [110, 111, 98, 111, 100, 121, 32, 105, 115, 32, 116, 104, 101, 114, 101])]))
def laid_loop_example_g00314_impl_errNoRoom {H : Type} : DataW H := .iface "*errors.errorString" (.ptr (.agg [.lit (.string [110, 111, 32, 115, 101, 115, 115, 105, 111, 110, 32, 111, 114, 32, 110, 111, 32, 112, 111, 114, 116, 32, 105, 115, 32, 108, 101, 102, 116])]))
def laid_loop_example_g00314_impl_errPiece {H : Type} : DataW H := .iface "*errors.errorString" (.ptr (.agg [.lit (.string [97, 32, 112, 105, 101, 99, 101, 32, 100, 111, 101, 115, 32, 110, 111, 116, 32, 116, 101, 108, 108, 32, 105, 116, 115, 32, 112, 111, 114, 116, 115])]))
def laid_loop_example_g00314_impl_errOtherKind {H : Type} : DataW H := .iface "*errors.errorString" (.ptr (.agg [.lit (.string [119, 104, 97, 116, 32, 105, 115, 32, 111, 102, 32, 116, 104, 105, 115, 32, 107, 105, 110, 100, 32, 100, 111, 101, 115, 32, 110, 111, 116, 32, 103, 111, 32, 116, 104, 105, 115, 32, 119, 97, 121])]))

/-- 'laws.FnExactDeskWords': WHATEVER THE INPUT: true; the input reads as it did. -/
def fnExactDeskWordsSpec : ChangeSpec := { name := "fnExactDeskWords", vars := ["loop.example/g00314/impl.becomes", "loop.example/g00314/impl.errWrong", "loop.example/g00314/impl.errNobody", "loop.example/g00314/impl.errNotLaid", "loop.example/g00314/impl.errTooShort", "loop.example/g00314/impl.errNoCheck", "loop.example/g00314/impl.errNoRoom", "loop.example/g00314/impl.errPiece", "loop.example/g00314/impl.errOtherKind"], fn := fun _ => fun
  | [g1, g2, g3, g4, g5, g6, g7, g8, g9] => { results := [.lit (.bool true)], args := [], vars := [g1, g2, g3, g4, g5, g6, g7, g8, g9] }
  | _ => none }
def fnExactDeskWordsRow : OpenClaim := { program := "ytmmojboagplopaagreatdoor", sum := "7ff699cc63f66e81e92b9cd0d934de63e7000412a1bd9b00c01cc7f31657b548", func := "loop.example/g00314/laws.FnExactDeskWords", spec := "fnExactDeskWords", inPlace := ["internal/abi.NoEscape", "internal/reflectlite.ValueOf", "(internal/reflectlite.Value).Type", "(internal/reflectlite.Value).IsNil", "internal/reflectlite.TypeOf", "(internal/reflectlite.Value).Elem", "(internal/reflectlite.Value).Set", "internal/bytealg.MakeNoZero"], unfollowed := true, recurses := true, named := ["internal/strconv.uint64pow10", "math/bits.deBruijn32tab", "math/bits.deBruijn64tab", "loop.example/g00314/impl.becomes", "errors.errorType", "loop.example/g00314/impl.errWrong", "loop.example/g00314/impl.errNobody", "loop.example/g00314/impl.errNotLaid", "loop.example/g00314/impl.errTooShort", "loop.example/g00314/impl.errNoCheck", "loop.example/g00314/impl.errNoRoom", "loop.example/g00314/impl.errPiece", "loop.example/g00314/impl.errOtherKind"], ifaces := true, plainKeys := false, apart := false, laid := [("math/bits.deBruijn32tab", laid_math_bits_deBruijn32tab), ("math/bits.deBruijn64tab", laid_math_bits_deBruijn64tab), ("internal/strconv.uint64pow10", laid_internal_strconv_uint64pow10), ("errors.errorType", laid_errors_errorType), ("loop.example/g00314/impl.becomes", laid_loop_example_g00314_impl_becomes), ("loop.example/g00314/impl.errWrong", laid_loop_example_g00314_impl_errWrong), ("loop.example/g00314/impl.errNotLaid", laid_loop_example_g00314_impl_errNotLaid), ("loop.example/g00314/impl.errTooShort", laid_loop_example_g00314_impl_errTooShort), ("loop.example/g00314/impl.errNoCheck", laid_loop_example_g00314_impl_errNoCheck), ("loop.example/g00314/impl.errNobody", laid_loop_example_g00314_impl_errNobody), ("loop.example/g00314/impl.errNoRoom", laid_loop_example_g00314_impl_errNoRoom), ("loop.example/g00314/impl.errPiece", laid_loop_example_g00314_impl_errPiece), ("loop.example/g00314/impl.errOtherKind", laid_loop_example_g00314_impl_errOtherKind)] }
def FnExactDeskWordsSaid : Prop := fnExactDeskWordsRow.holds Tryz.pinned (OpenSpec.ofChange fnExactDeskWordsSpec)

/-- ITS FALSE NEIGHBOUR: 'it returns false'. Refute it at one input. -/
def fnExactDeskWordsWrong : ChangeSpec := { name := "fnExactDeskWords", vars := ["loop.example/g00314/impl.becomes", "loop.example/g00314/impl.errWrong", "loop.example/g00314/impl.errNobody", "loop.example/g00314/impl.errNotLaid", "loop.example/g00314/impl.errTooShort", "loop.example/g00314/impl.errNoCheck", "loop.example/g00314/impl.errNoRoom", "loop.example/g00314/impl.errPiece", "loop.example/g00314/impl.errOtherKind"], fn := fun _ => fun
  | [g1, g2, g3, g4, g5, g6, g7, g8, g9] => { results := [.lit (.bool false)], args := [], vars := [g1, g2, g3, g4, g5, g6, g7, g8, g9] }
  | _ => none }
def FnExactDeskWordsWrongFalsely : Prop := fnExactDeskWordsRow.holds Tryz.pinned (OpenSpec.ofChange fnExactDeskWordsWrong)

/- THE SECOND FORM. 'bulk': how many values and letters a reading holds, each counted each time it is reached (what is shared counts as often as it is met; a slice's spare places count too). A statement '..UptoSaid' is the law's where the arguments, and the package variables that the reading takes, are together of bulk at most 1048576: NARROWER than '..Said'. Prove '..Said' where nothing that the law and all that it calls make is longer than what came in: it says more and counts as full. Else prove '..UptoSaid'. A law counts once. -/
mutual
def uptoBulk {H : Type} : DataW H → Nat
  | .lit (.string bytes) => bytes.length + 1
  | .lit _ => 1
  | .nil => 1
  | .ptr d => uptoBulk d + 1
  | .slice elems spare => uptoBulkAll elems + uptoBulkAll spare + 1
  | .agg parts => uptoBulkAll parts + 1
  | .iface _ d => uptoBulk d + 1
  | .map entries => uptoBulkEntries entries + 1
  | .held _ => 1
def uptoBulkAll {H : Type} : List (DataW H) → Nat
  | [] => 0
  | d :: r => uptoBulk d + uptoBulkAll r
def uptoBulkEntries {H : Type} : List (Lit × DataW H) → Nat
  | [] => 0
  | x :: r => uptoBulkEntry x + uptoBulkEntries r
def uptoBulkEntry {H : Type} : Lit × DataW H → Nat
  | (.string bytes, d) => bytes.length + uptoBulk d + 1
  | (_, d) => uptoBulk d + 1
 end
def uptoSmall : (H : Type) → List (DataW H) → Bool := fun _ ds => decide (uptoBulkAll ds ≤ 1048576)
def OpenSpec.upto (s : _root_.Go.ChangeSpec) : _root_.Go.OpenSpec := { _root_.Go.OpenSpec.ofChange s with cond := some uptoSmall }

/-- 'laws.FnExactDeskWords', WHERE WHAT IT READS IS OF BULK AT MOST 1048576: true; the input reads as it did. -/
def fnExactDeskWordsUptoRow : OpenClaim := { program := "ytmmojboagplopaagreatdoor", sum := "7ff699cc63f66e81e92b9cd0d934de63e7000412a1bd9b00c01cc7f31657b548", func := "loop.example/g00314/laws.FnExactDeskWords", spec := "fnExactDeskWords", inPlace := ["internal/abi.NoEscape", "internal/reflectlite.ValueOf", "(internal/reflectlite.Value).Type", "(internal/reflectlite.Value).IsNil", "internal/reflectlite.TypeOf", "(internal/reflectlite.Value).Elem", "(internal/reflectlite.Value).Set", "internal/bytealg.MakeNoZero"], unfollowed := true, recurses := true, named := ["internal/strconv.uint64pow10", "math/bits.deBruijn32tab", "math/bits.deBruijn64tab", "loop.example/g00314/impl.becomes", "errors.errorType", "loop.example/g00314/impl.errWrong", "loop.example/g00314/impl.errNobody", "loop.example/g00314/impl.errNotLaid", "loop.example/g00314/impl.errTooShort", "loop.example/g00314/impl.errNoCheck", "loop.example/g00314/impl.errNoRoom", "loop.example/g00314/impl.errPiece", "loop.example/g00314/impl.errOtherKind"], ifaces := true, plainKeys := false, apart := false, laid := [("math/bits.deBruijn32tab", laid_math_bits_deBruijn32tab), ("math/bits.deBruijn64tab", laid_math_bits_deBruijn64tab), ("internal/strconv.uint64pow10", laid_internal_strconv_uint64pow10), ("errors.errorType", laid_errors_errorType), ("loop.example/g00314/impl.becomes", laid_loop_example_g00314_impl_becomes), ("loop.example/g00314/impl.errWrong", laid_loop_example_g00314_impl_errWrong), ("loop.example/g00314/impl.errNotLaid", laid_loop_example_g00314_impl_errNotLaid), ("loop.example/g00314/impl.errTooShort", laid_loop_example_g00314_impl_errTooShort), ("loop.example/g00314/impl.errNoCheck", laid_loop_example_g00314_impl_errNoCheck), ("loop.example/g00314/impl.errNobody", laid_loop_example_g00314_impl_errNobody), ("loop.example/g00314/impl.errNoRoom", laid_loop_example_g00314_impl_errNoRoom), ("loop.example/g00314/impl.errPiece", laid_loop_example_g00314_impl_errPiece), ("loop.example/g00314/impl.errOtherKind", laid_loop_example_g00314_impl_errOtherKind)], narrowed := true }
def FnExactDeskWordsUptoSaid : Prop := fnExactDeskWordsUptoRow.holds Tryz.pinned (OpenSpec.upto fnExactDeskWordsSpec)

end Rows
end Go.Proofs.YtmmojboagplopaaGreatDoor
