import Derived.Test.YtellgkeakiikkaaIMLay
import Derived.Test.YtellgkeakiikkaaIMsg
import Derived.Test.YtellgkeakiikkaaSTell0
import Derived.Test.YtellgkeakiikkaaIV4B
import Derived.Test.YtellgkeakiikkaaIV6B
import Derived.Test.YtellgkeakiikkaaShelf
set_option linter.unusedVariables false
set_option linter.unusedSimpArgs false
set_option maxRecDepth 100000
set_option maxHeartbeats 8000000
namespace Go.Proofs.Ytellgkeakiikkaa
open Go.RowKit Go.PlainAid Go.Lib
theorem cloneT_any (s:ByteArray) (w:World) (h:s.size≤1048576) :
  Calls Try.prog 49 #[.string s] w fun e w'=>e=.returned (.string s)∧Below w.heap.size w w':=by
 have HC:Hid (∀ W,Calls Try.prog 79 #[.string s] W fun e w'=>e=.returned (.string s)∧Below W.heap.size W w'):=fun W=>Try.stringslite_Clone s W (by omega)
 go_enter Try.func49,Try.ntmps49
 go_wp2_with fail
 refine (HC.out _).mono ?_;rintro e w2 ⟨rfl,q2⟩;have Q2:Hid _:=q2;clear q2;go_wp2_with fail
 go_ret;exact ⟨rfl,Q2.out⟩
theorem ex_min (t:ByteArray) (m:Nat):t.extract 0 (min m t.size)=t.extract 0 m:=by
 by_cases h:m≤t.size
 ·rw [Nat.min_eq_left h]
 ·rw [Nat.min_eq_right (by omega),ex_all t m (by omega),ex_all t t.size (by omega)]
theorem told6_eq {s:ByteArray} {p:P6} {k c n:Int} (h:v6Ok p=true) (hs:s.size=16):putV (bare6 p k c n) 2 (twoV (65535-carrySumV s p.src 58 (bare6 p k c n)))=told6 s p k c n:=by
 have hz:=raw6_size h;have hb:(bare6 p k c n).size≤20000:=by unfold bare6; rw [msgV_size,ByteArray.size_extract]; omega
 have hc:carrySumV s p.src 58 (bare6 p k c n)=cSum s p.src 58 (bare6 p k c n):=by
  unfold carrySumV;rw [if_pos];unfold cIn pairOk addrOk isIn; simp [hb,hs,hz.2.1]
 rw [hc]; rfl
theorem raw6_pos {p:P6} (h:v6Ok p=true):40≤(v6Raw p).size:=by
 have hA:v6A p=true:=by unfold v6Ok at h; simp only [Bool.and_eq_true] at h; exact h.1
 unfold v6A at hA; simp only [Bool.and_eq_true,decide_eq_true_eq] at hA;unfold v6Raw; simp only [ByteArray.size_append,pairV_size,twoV_size]; omega
end Go.Proofs.Ytellgkeakiikkaa
