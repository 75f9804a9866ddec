import Derived.Shelf.LaysM
import Derived.Shelf.Strconv.Clone
import Derived.Test.YtagbhaalmjpkjaaProg
import Derived.Test.YtagbhaalmjpkjaaIMLay
import Derived.Test.YtagbhaalmjpkjaaIMsg
import Derived.Test.YtagbhaalmjpkjaaMerged9
import Derived.Test.YtagbhaalmjpkjaaIV4B
import Derived.Test.YtagbhaalmjpkjaaIV6B
set_option linter.unusedVariables false
set_option linter.unusedSimpArgs false
set_option maxRecDepth 100000
set_option maxHeartbeats 8000000
namespace Go.Proofs
open Go.Shelf
def Try.laysM316_ren:Go.Shelf.Ren:=⟨fun | 316=>64 | n=>n,fun | 9=>9 | 3=>3 | 4=>4 | 37=>22 | 0=>0 | 127=>98 | 5=>5 | n=>n,fun | n=>n⟩
theorem Try.laysM316:Go.Proofs.LaysM.n316 Try.prog Try.laysM316_ren:={
 mixed:=by kernel_rfl
 f316:=Try.func64.trans (congrArg some (by kernel_rfl))
 t0:=Try.underlying0
 a0:=Try.isAgg0
 z0:=Try.sizeOf0
 v0:=Try.zeroValue0
 t3:=Try.underlying3
 a3:=Try.isAgg3
 z3:=Try.sizeOf3
 v3:=Try.zeroValue3
 t4:=Try.underlying4
 a4:=Try.isAgg4
 z4:=Try.sizeOf4
 v4:=Try.zeroValue4
 t9:=Try.underlying9
 a9:=Try.isAgg9
 z9:=Try.sizeOf9
 v9:=Try.zeroValue9
 t37:=Try.underlying22
 a37:=Try.isAgg22
 z37:=Try.sizeOf22
 v37:=Try.zeroValue22
 t127:=Try.underlying98
 a127:=Try.isAgg98
 z127:=Try.sizeOf98
 v127:=Try.zeroValue98
 t5:=Try.underlying5
 a5:=Try.isAgg5
 z5:=Try.sizeOf5
 v5:=Try.zeroValue5
 i0:=by kernel_rfl
 i3:=by kernel_rfl
 i4:=by kernel_rfl
 i5:=by kernel_rfl
 i9:=by kernel_rfl
 i37:=by kernel_rfl
 i127:=by kernel_rfl }
open Go.RowKit in
theorem Try.stringslite_Clone (s:ByteArray) (w:World) (hlim:s.size≤281474976710656) :
  Calls Try.prog 64 #[.string s] w fun e w'=>e=.returned (.string s)∧Below w.heap.size w w':=Any.stringslite_Clone Try.laysM316 s w hlim
end Go.Proofs
namespace Go.Proofs.Ytagbhaalmjpkjaa
open Go.RowKit Go.PlainAid Go.Lib
theorem cloneT_any (s:ByteArray) (w:World) (h:s.size≤1048576) :
  Calls Try.prog 37 #[.string s] w fun e w'=>e=.returned (.string s)∧Below w.heap.size w w':=by
 have HC:Hid (∀ W,Calls Try.prog 64 #[.string s] W fun e w'=>e=.returned (.string s)∧Below W.heap.size W w'):=fun W=>Try.stringslite_Clone s W (by omega)
 go_enter Try.func37,Try.ntmps37
 go_wp2_with fail
 refine (HC.out _).mono ?_;rintro e w2 ⟨rfl,q2⟩;have Q2:Hid _:=q2;clear q2;go_wp2_with fail
 go_ret;exact ⟨rfl,Q2.out⟩
theorem ex_min (t:ByteArray) (m:Nat):t.extract 0 (min m t.size)=t.extract 0 m:=by
 by_cases h:m≤t.size
 ·rw [Nat.min_eq_left h]
 ·rw [Nat.min_eq_right (by omega),ex_all t m (by omega),ex_all t t.size (by omega)]
theorem told4_eq {s:ByteArray} {p:P4} {k c n:Int} (h:v4Ok p=true) (hs:s.size=4):putV (bare4 p k c n) 2 (twoV (65535-carrySumV s p.src 1 (bare4 p k c n)))=told4 s p k c n:=by
 have hz:=raw4_size h;have hb:(bare4 p k c n).size≤20000:=by unfold bare4; rw [msgV_size,ByteArray.size_extract]; omega
 have hc:carrySumV s p.src 1 (bare4 p k c n)=sumV (bare4 p k c n):=by
  unfold carrySumV;rw [if_pos]
  ·unfold cSum pseudoV; rw [if_pos ⟨rfl,hs⟩,ByteArray.empty_append']
  ·unfold cIn pairOk addrOk isIn; simp [hb,hs,hz.2.2.2]
 rw [hc]; rfl
theorem told6_eq {s:ByteArray} {p:P6} {k c n:Int} (h:v6Ok p=true) (hs:s.size=16):putV (bare6 p k c n) 2 (twoV (65535-carrySumV s p.src 58 (bare6 p k c n)))=told6 s p k c n:=by
 have hz:=raw6_size h;have hb:(bare6 p k c n).size≤20000:=by unfold bare6; rw [msgV_size,ByteArray.size_extract]; omega
 have hc:carrySumV s p.src 58 (bare6 p k c n)=cSum s p.src 58 (bare6 p k c n):=by
  unfold carrySumV;rw [if_pos];unfold cIn pairOk addrOk isIn; simp [hb,hs,hz.2.1]
 rw [hc]; rfl
theorem raw6_pos {p:P6} (h:v6Ok p=true):40≤(v6Raw p).size:=by
 have hA:v6A p=true:=by unfold v6Ok at h; simp only [Bool.and_eq_true] at h; exact h.1
 unfold v6A at hA; simp only [Bool.and_eq_true,decide_eq_true_eq] at hA;unfold v6Raw; simp only [ByteArray.size_append,pairV_size,twoV_size]; omega
end Go.Proofs.Ytagbhaalmjpkjaa
