import Derived.Test.YtellgkeakiikkaaSPseudo
import Derived.Test.YtellgkeakiikkaaSFlowOf
import Derived.RegionTactic
import Derived.Deep.RegionWith
import Derived.Deep.DeepCutAuto
set_option linter.unusedVariables false
set_option linter.unusedSimpArgs false
set_option maxRecDepth 100000
set_option maxHeartbeats 8000000
namespace Go.Proofs.Ytellgkeakiikkaa
open Go.RowKit Go.PlainAid
theorem spPut_any (s:ByteArray) (k:Nat) (t:ByteArray) (w:World) (h:k+t.size≤s.size) (hs:s.size≤100000) :
  Calls Try.prog 58 #[.string s,.int .i64 k,.string t] w fun e w'=>e=.returned (.string (putV s k t))∧Below w.heap.size w w':=by
 have HV:Hid (putV s k t=s.extract 0 k++t++s.extract (k+t.size) s.size):=rfl;generalize putV s k t=ans at *;have L1:∀ W,(Instr.slice 9 (.string s) none (some (.int .i64 k)) none).run Try.prog W=.ok (.string (s.extract 0 k)) W:=fun W=>by
  rw [run_slice_string_h (P:=Try.prog) (t:=9) (s:=s) (w:=W) (ht:=Try.underlying9) .i64 (k:Int) (by omega) (by omega),show ((k:Int)).toNat=k by omega]
 have L2:∀ W,(Instr.slice 9 (.string s) (some (.int .i64 ((k:Int)+t.size))) none none).run Try.prog W=.ok (.string (s.extract (k+t.size) s.size)) W:=fun W=>by
  rw [run_slice_string_l (P:=Try.prog) (t:=9) (s:=s) (w:=W) (ht:=Try.underlying9) .i64 ((k:Int)+t.size) (by omega) (by omega),show ((k:Int)+t.size).toNat=k+t.size by omega]
 have z1:(s.extract 0 k).size=k:=by rw [ByteArray.size_extract]; omega
 have z2:(s.extract (k+t.size) s.size).size=s.size-(k+t.size):=by rw [ByteArray.size_extract]; omega
 generalize s.extract 0 k=u1 at *;generalize s.extract (k+t.size) s.size=u2 at *;have n1:¬ 9223372036854775807 < u1.size+t.size:=by omega
 have n2:¬ 9223372036854775807 < u1.size+t.size+u2.size:=by omega
 have hw:IntKind.i64.wrap ((k:Int)+t.size)=(k:Int)+t.size:=by rw [IntKind.wrap_i64]; omega
 have HZ1:Hid (u1.size=k):=z1;have HZ2:Hid (u2.size=s.size-(k+t.size)):=z2;clear z1 z2;go_enter Try.func58,Try.ntmps58
 go_wp2_with fail
 go_region
 all_goals go_wp2_with fail
 all_goals go_ret
 all_goals exact ⟨by rw [HV.out]; rfl,(Below.refl _ _).drew⟩
end Go.Proofs.Ytellgkeakiikkaa
