import Derived.Test.YtagbhaalmjpkjaaMerged4
import Derived.Test.YtagbhaalmjpkjaaMerged3
import Derived.Test.YtagbhaalmjpkjaaBase
import Derived.BigQuiet
import Derived.Deep.DeepCutAuto
set_option linter.unusedVariables false
set_option linter.unusedSimpArgs false
set_option maxRecDepth 100000
set_option maxHeartbeats 8000000
namespace Go.Proofs.Ytagbhaalmjpkjaa
open Go.RowKit Go.PlainAid
structure Fl where
 proto:Int
 src:ByteArray
 dst:ByteArray
 sp:Int
 dp:Int
def pairOk (s d:ByteArray):Bool:=addrOk s&&decide (s.size=d.size)
theorem pairOk_parts {s d:ByteArray} (h:pairOk s d=true):(s.size=4∨s.size=16)∧d.size=s.size:=by
 unfold pairOk at h;rw [Bool.and_eq_true,decide_eq_true_iff] at h;exact ⟨addrOk_size h.1,h.2.symm⟩
def quadW (x y:Int):ByteArray:=⟨#[UInt8.ofNat x.toNat,0,0,UInt8.ofNat y.toNat]⟩
theorem quadW_size (x y:Int):(quadW x y).size=4:=rfl
def pseudoV (s d:ByteArray) (p:Int) (n:Nat):ByteArray :=
 if p=1∧s.size=4 then ⟨#[]⟩
 else if s.size=4 then s++d++pairV 0 p++twoV (n:Int)
 else s++d++twoV ((n:Int) / 65536)++twoV ((n:Int) % 65536)++quadW 0 p
def cSum (s d:ByteArray) (p:Int) (t:ByteArray):Int:=sumV (pseudoV s d p t.size++t)
def cIn (s d:ByteArray) (p:Int) (t:ByteArray):Bool:=decide (t.size≤20000)&&decide (s.size≤20000)&&decide (d.size≤20000)&&pairOk s d&&isIn p 0 255
def carrySumV (s d:ByteArray) (p:Int) (t:ByteArray):Int:=if cIn s d p t=true then cSum s d p t else 0
def carryOk (s d:ByteArray) (p:Int) (t:ByteArray):Bool:=cIn s d p t&&(decide (cSum s d p t=65535)||(decide (p=17)&&decide (s.size=4)&&decide (8≤t.size)&&decide (wordN (bt t) 6=0)))
theorem pseudoV_size (s d:ByteArray) (p:Int) (n:Nat) (hs:s.size≤16) (hd:d.size≤16):(pseudoV s d p n).size≤40:=by
 unfold pseudoV;split
 ·exact Nat.zero_le _
 ·split
  ·simp only [ByteArray.size_append,pairV_size,twoV_size]; omega
  ·simp only [ByteArray.size_append,twoV_size,quadW_size]; omega
def putV (t:ByteArray) (k:Nat) (u:ByteArray):ByteArray:=t.extract 0 k++u++t.extract (k+u.size) t.size
theorem putV_size {t u:ByteArray} {k:Nat} (h:k+u.size≤t.size):(putV t k u).size=t.size:=by
 unfold putV; simp only [ByteArray.size_append,ByteArray.size_extract]; omega
def msgOk (k c n:Int):Bool:=isIn k 0 255&&isIn c 0 255&&isW n
def dumb4 (p:P4):Bool:=!decide (p.off=0)||(p.src.toList==[0,0,0,0])||(p.src.toList==[255,255,255,255])||(decide (p.proto=1)&&(decide (p.data.size=0)||(!decide (bt p.data 0=0)&&!decide (bt p.data 0=8))))
def z16:List UInt8:=[0,0,0,0,0,0,0,0,0,0,0,0,0,0,0,0]
def dumb6 (p:P6):Bool:=!decide (p.off=0)||(p.src.toList==z16)||decide (bt p.src 0=255)||(decide (p.next=58)&&(decide (p.data.size=0)||decide (bt p.data 0 < 128)))
def msgV (k c n:Int) (t:ByteArray):ByteArray:=pairV k c++⟨#[0,0,0,0]⟩++twoV n++t
def bare4 (p:P4) (k c n:Int):ByteArray:=msgV k c n ((v4Raw p).extract 0 (28+p.opts.size))
def bare6 (p:P6) (k c n:Int):ByteArray:=msgV k c n ((v6Raw p).extract 0 1200)
def told4 (s:ByteArray) (p:P4) (k c n:Int):ByteArray:=putV (bare4 p k c n) 2 (twoV (65535-sumV (bare4 p k c n)))
def told6 (s:ByteArray) (p:P6) (k c n:Int):ByteArray:=putV (bare6 p k c n) 2 (twoV (65535-cSum s p.src 58 (bare6 p k c n)))
def tell4C (s:ByteArray) (p:P4) (k c n:Int):Int:=if 20000 < s.size then 2 else if (v4Ok p&&decide (s.size=4)&&msgOk k c n)=false then 1 else if dumb4 p=true then 11 else 0
def tell6C (s:ByteArray) (p:P6) (k c n:Int):Int:=if 20000 < s.size then 2 else if (v6Ok p&&decide (s.size=16)&&msgOk k c n)=false then 1 else if dumb6 p=true then 11 else 0
def tell4V (s:ByteArray) (p:P4) (k c n:Int):P4:=if tell4C s p k c n=0 then ⟨0,0,true,false,0,64,1,s,p.src,⟨#[]⟩,told4 s p k c n⟩ else p4Zero
def tell6V (s:ByteArray) (p:P6) (k c n:Int):P6:=if tell6C s p k c n=0 then ⟨0,0,58,64,s,p.src,false,false,0,0,told6 s p k c n⟩ else p6Zero
theorem msgV_size (k c n:Int) (t:ByteArray):(msgV k c n t).size=8+t.size:=by
 unfold msgV; simp only [ByteArray.size_append,pairV_size,twoV_size]; show 2+4+2+t.size=_; omega
structure Told4 (s:ByteArray) (p:P4) (k c n:Int) (code:Int) (ans:P4):Prop where
 long:20000 < s.size→code=2∧ans=p4Zero
 form:¬ 20000 < s.size→(v4Ok p=false∨s.size≠4∨isIn k 0 255=false∨isIn c 0 255=false∨isW n=false)→code=1∧ans=p4Zero
 kind:v4Ok p=true→s.size=4→isIn k 0 255=true→isIn c 0 255=true→isW n=true→dumb4 p=true→code=11∧ans=p4Zero
 fine:v4Ok p=true→s.size=4→isIn k 0 255=true→isIn c 0 255=true→isW n=true→dumb4 p=false→code=0∧ans=⟨0,0,true,false,0,64,1,s,p.src,⟨#[]⟩,told4 s p k c n⟩
structure Told6 (s:ByteArray) (p:P6) (k c n:Int) (code:Int) (ans:P6):Prop where
 long:20000 < s.size→code=2∧ans=p6Zero
 form:¬ 20000 < s.size→(v6Ok p=false∨s.size≠16∨isIn k 0 255=false∨isIn c 0 255=false∨isW n=false)→code=1∧ans=p6Zero
 kind:v6Ok p=true→s.size=16→isIn k 0 255=true→isIn c 0 255=true→isW n=true→dumb6 p=true→code=11∧ans=p6Zero
 fine:v6Ok p=true→s.size=16→isIn k 0 255=true→isIn c 0 255=true→isW n=true→dumb6 p=false→code=0∧ans=⟨0,0,58,64,s,p.src,false,false,0,0,told6 s p k c n⟩
theorem told4_any (s:ByteArray) (p:P4) (k c n:Int):Told4 s p k c n (tell4C s p k c n) (tell4V s p k c n):=by
 unfold tell4V;refine ⟨fun h=>?_,fun h hf=>?_,fun h1 h2 h3 h4 h5 h6=>?_,fun h1 h2 h3 h4 h5 h6=>?_⟩
 ·have:tell4C s p k c n=2:=if_pos h;rw [this]; exact ⟨rfl,rfl⟩
 ·have:tell4C s p k c n=1:=by
   unfold tell4C; rw [if_neg h,if_pos ?_];unfold msgOk;rcases hf with h | h | h | h | h<;>simp [h]
  rw [this]; exact ⟨rfl,rfl⟩
 ·have:tell4C s p k c n=11:=by
   unfold tell4C msgOk; rw [if_neg (by omega),if_neg (by simp [h1,h2,h3,h4,h5]),if_pos h6]
  rw [this]; exact ⟨rfl,rfl⟩
 ·have:tell4C s p k c n=0:=by
   unfold tell4C msgOk; rw [if_neg (by omega),if_neg (by simp [h1,h2,h3,h4,h5]),if_neg (by simp [h6])]
  rw [this]; exact ⟨rfl,rfl⟩
theorem told6_any (s:ByteArray) (p:P6) (k c n:Int):Told6 s p k c n (tell6C s p k c n) (tell6V s p k c n):=by
 unfold tell6V;refine ⟨fun h=>?_,fun h hf=>?_,fun h1 h2 h3 h4 h5 h6=>?_,fun h1 h2 h3 h4 h5 h6=>?_⟩
 ·have:tell6C s p k c n=2:=if_pos h;rw [this]; exact ⟨rfl,rfl⟩
 ·have:tell6C s p k c n=1:=by
   unfold tell6C; rw [if_neg h,if_pos ?_];unfold msgOk;rcases hf with h | h | h | h | h<;>simp [h]
  rw [this]; exact ⟨rfl,rfl⟩
 ·have:tell6C s p k c n=11:=by
   unfold tell6C msgOk; rw [if_neg (by omega),if_neg (by simp [h1,h2,h3,h4,h5]),if_pos h6]
  rw [this]; exact ⟨rfl,rfl⟩
 ·have:tell6C s p k c n=0:=by
   unfold tell6C msgOk; rw [if_neg (by omega),if_neg (by simp [h1,h2,h3,h4,h5]),if_neg (by simp [h6])]
  rw [this]; exact ⟨rfl,rfl⟩
theorem raw4_size {p:P4} (h:v4Ok p=true):(v4Raw p).size=20+p.opts.size+p.data.size∧p.opts.size≤40∧p.data.size≤1400∧p.src.size=4:=by
 have hA:v4A p=true:=by unfold v4Ok at h; simp only [Bool.and_eq_true] at h; exact h.1.1
 have hB:v4B p=true:=by unfold v4Ok at h; simp only [Bool.and_eq_true] at h; exact h.1.2
 have h1:=v4A_parts hA; have h2:=v4B_parts hB;refine ⟨?_,h2.1,h2.2.2.1,h1.2.2.2.2.2.1⟩;unfold v4Raw headA headB; simp only [ByteArray.size_append,pairV_size,twoV_size]; omega
theorem raw6_size {p:P6} (h:v6Ok p=true):(v6Raw p).size≤1448∧p.src.size=16∧p.data.size≤1400:=by
 have hA:v6A p=true:=by unfold v6Ok at h; simp only [Bool.and_eq_true] at h; exact h.1
 unfold v6A at hA; simp only [Bool.and_eq_true,decide_eq_true_eq] at hA;refine ⟨?_,hA.1.1.1.2,hA.1.2⟩;have:(restV p).size≤1408:=by
  unfold restV; split<;>(try simp only [ByteArray.size_append,pairV_size,twoV_size])<;>omega
 unfold v6Raw; simp only [ByteArray.size_append,pairV_size,twoV_size]; omega
theorem spPair_any (s d:ByteArray) (w:World) (hs:s.size≤maxLen) (hd:d.size≤maxLen) :
  Calls Try.prog 48 #[.string s,.string d] w fun e w'=>e=.returned (.bool (pairOk s d))∧w'=w:=by
 have HA:Hid (∀ W,Calls Try.prog 70 #[.string s] W fun e w'=>e=.returned (.bool (addrOk s))∧w'=W):=fun W=>specAddrRight_any s W
 unfold maxLen at hs hd;unfold pairOk;generalize addrOk s=b at *;by_cases h:s.size=d.size
 ·have dh:((s.size:Int)==(d.size:Int))=true:=by simp; omega
  rw [decide_eq_true h];clear h
  cases b;all_goals go_enter Try.func48,Try.ntmps48
  all_goals go_wp2_with fail
  all_goals refine (HA.out _).mono ?_
  all_goals rintro e w2 ⟨rfl,rfl⟩
  all_goals go_wp2_with fail
  all_goals go_ret
  all_goals exact ⟨rfl,rfl⟩
 ·have dh:((s.size:Int)==(d.size:Int))=false:=by simp; omega
  rw [decide_eq_false h]
  cases b;all_goals go_enter Try.func48,Try.ntmps48
  all_goals go_wp2_with fail
  all_goals refine (HA.out _).mono ?_
  all_goals rintro e w2 ⟨rfl,rfl⟩
  all_goals go_wp2_with fail
  all_goals go_ret
  all_goals exact ⟨rfl,rfl⟩
end Go.Proofs.Ytagbhaalmjpkjaa
