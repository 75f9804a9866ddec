import Derived.Test.YtellgkeakiikkaaTellM
import Derived.Test.YtellgkeakiikkaaSPut
set_option linter.unusedVariables false
set_option linter.unusedSimpArgs false
set_option maxRecDepth 100000
set_option maxHeartbeats 8000000
namespace Go.Proofs.Ytellgkeakiikkaa
open Go.RowKit Go.PlainAid
theorem ex_all (t:ByteArray) (n:Nat) (h:t.size≤n):t.extract 0 n=t:=by
 apply ByteArray.ext;rw [ByteArray.data_extract];have hd:t.data.size=t.size:=rfl;apply Array.ext
 ·rw [Array.size_extract]; omega
 ·intro i h1 h2; simp
theorem first_any (t:ByteArray) (n:Nat) (w:World) (hs:t.size≤1048576) (hn:n≤1048576) :
  Calls Try.prog 55 #[.string t,.int .i64 n] w fun e w'=>e=.returned (.string (t.extract 0 n))∧w'=w:=by
 by_cases h:t.size < n
 ·have h':((t.size:Int) < n):=by omega
  have HV:Hid (t.extract 0 n=t):=by
   unfold Hid;exact ex_all t n (by omega)
  generalize t.extract 0 n=ans at *;go_enter Try.func55,Try.ntmps55
  go_wp2_with fail
  go_ret;exact ⟨ret_string HV.out.symm,rfl⟩
 ·have h':¬ ((t.size:Int) < n):=by omega
  have hn0:n≤t.size:=by omega
  have hb:((n:Int)≤t.size):=by omega
  go_enter Try.func55,Try.ntmps55
  go_wp2_with fail
  go_ret;exact ⟨rfl,rfl⟩
end Go.Proofs.Ytellgkeakiikkaa
