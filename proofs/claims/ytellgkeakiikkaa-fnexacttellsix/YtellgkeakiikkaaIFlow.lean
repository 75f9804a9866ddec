import Derived.Test.YtellgkeakiikkaaMerged3
import Derived.Test.YtellgkeakiikkaaMerged1
import Derived.Test.YtellgkeakiikkaaABit
import Derived.Test.YtellgkeakiikkaaTwo
import Derived.Test.YtellgkeakiikkaaLawFlow
import Derived.BigQuiet
import Derived.Deep.DeepCutAuto
set_option linter.unusedVariables false
set_option linter.unusedSimpArgs false
set_option maxRecDepth 100000
set_option maxHeartbeats 8000000
namespace Go.Proofs.Ytellgkeakiikkaa
open Go.RowKit Go.PlainAid
theorem implLong_any (t:ByteArray) (w:World) :
  Calls Try.prog 45 #[.string t] w fun e w'=>e=.returned (.bool (decide (20000 < t.size)))∧w'=w:=by
 by_cases h:20000 < t.size
 ·have d:decide ((20000:Int) < (t.size:Int))=true:=by simp; omega
  rw [decide_eq_true h];go_enter Try.func45,Try.ntmps45
  go_wp2_with fail
  go_ret;exact ⟨rfl,rfl⟩
 ·have d:decide ((20000:Int) < (t.size:Int))=false:=by simp; omega
  rw [decide_eq_false h];go_enter Try.func45,Try.ntmps45
  go_wp2_with fail
  go_ret;exact ⟨rfl,rfl⟩
theorem implPair_any (s d:ByteArray) (w:World) (hs:s.size≤maxLen) (hd:d.size≤maxLen) :
  Calls Try.prog 89 #[.string s,.string d] w fun e w'=>e=.returned (.bool (pairOk s d))∧w'=w:=by
 have HA:Hid (∀ W,Calls Try.prog 93 #[.string s] W fun e w'=>e=.returned (.bool (addrOk s))∧w'=W):=fun W=>implAddrRight_any s W
 unfold maxLen at hs hd;unfold pairOk;generalize addrOk s=b at *;by_cases h:s.size=d.size
 ·have dh:((s.size:Int)==(d.size:Int))=true:=by simp; omega
  rw [decide_eq_true h];clear h
  cases b;all_goals go_enter Try.func89,Try.ntmps89
  all_goals go_wp2_with fail
  all_goals refine (HA.out _).mono ?_
  all_goals rintro e w2 ⟨rfl,rfl⟩
  all_goals go_wp2_with fail
  all_goals go_ret
  all_goals exact ⟨rfl,rfl⟩
 ·have dh:((s.size:Int)==(d.size:Int))=false:=by simp; omega
  rw [decide_eq_false h]
  cases b;all_goals go_enter Try.func89,Try.ntmps89
  all_goals go_wp2_with fail
  all_goals refine (HA.out _).mono ?_
  all_goals rintro e w2 ⟨rfl,rfl⟩
  all_goals go_wp2_with fail
  all_goals go_ret
  all_goals exact ⟨rfl,rfl⟩
end Go.Proofs.Ytellgkeakiikkaa
