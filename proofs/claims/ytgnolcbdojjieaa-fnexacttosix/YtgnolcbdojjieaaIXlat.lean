/- IXlat: what the program's fourProto, sixNext and layAsFour answer. Printed by mkixlat.py. -/
import Derived.Test.YtgnolcbdojjieaaXlat
import Derived.Test.YtgnolcbdojjieaaBoxes
import Derived.Test.YtgnolcbdojjieaaHdLay
import Derived.Test.YtgnolcbdojjieaaGrowV
import Derived.Test.YtgnolcbdojjieaaIV4B
import Derived.Deep.DeepCutAuto
import Derived.RegionTactic
namespace Go.Proofs.Ytgnolcbdojjieaa
open Go.RowKit Go.PlainAid Go.Lib
set_option linter.unusedVariables false
set_option linter.unusedSimpArgs false

theorem sixNext_any (n : Int) (w : World) :
  Calls Try.prog 47 #[.int .i64 n] w fun e w' => e = .returned (.int .i64 (if n = 1 then 58 else n)) ∧ w' = w := by
 by_cases h : n = 1
 ·subst h
  go_enter Try.func47, Try.ntmps47
  go_wp2_with fail
  go_ret
  exact ⟨rfl, rfl⟩
 ·have HV : Hid ((if n = 1 then (58 : Int) else n) = n) := if_neg h
  go_enter Try.func47, Try.ntmps47
  go_wp2_with fail
  go_ret
  exact ⟨ret_int (by first | rfl | rw [HV.out]), rfl⟩

end Go.Proofs.Ytgnolcbdojjieaa
