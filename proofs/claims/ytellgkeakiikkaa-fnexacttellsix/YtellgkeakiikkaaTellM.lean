import Derived.Test.YtellgkeakiikkaaMerged3
import Derived.Test.YtellgkeakiikkaaSumMath
set_option linter.unusedVariables false
set_option linter.unusedSimpArgs false
set_option maxRecDepth 100000
set_option maxHeartbeats 8000000
namespace Go.Proofs.Ytellgkeakiikkaa
open Go.RowKit Go.PlainAid
def msgOk (k c n:Int):Bool:=isIn k 0 255&&isIn c 0 255&&isW n
def dumb4 (p:P4):Bool:=!decide (p.off=0)||(p.src.toList==[0,0,0,0])||(p.src.toList==[255,255,255,255])||(decide (p.proto=1)&&(decide (p.data.size=0)||(!decide (bt p.data 0=0)&&!decide (bt p.data 0=8))))
def z16:List UInt8:=[0,0,0,0,0,0,0,0,0,0,0,0,0,0,0,0]
def dumb6 (p:P6):Bool:=!decide (p.off=0)||(p.src.toList==z16)||decide (bt p.src 0=255)||(decide (p.next=58)&&(decide (p.data.size=0)||decide (bt p.data 0 < 128)))
def msgV (k c n:Int) (t:ByteArray):ByteArray:=pairV k c++⟨#[0,0,0,0]⟩++twoV n++t
def bare4 (p:P4) (k c n:Int):ByteArray:=msgV k c n ((v4Raw p).extract 0 (28+p.opts.size))
def bare6 (p:P6) (k c n:Int):ByteArray:=msgV k c n ((v6Raw p).extract 0 1200)
def told4 (s:ByteArray) (p:P4) (k c n:Int):ByteArray:=putV (bare4 p k c n) 2 (twoV (65535-sumV (bare4 p k c n)))
def told6 (s:ByteArray) (p:P6) (k c n:Int):ByteArray:=putV (bare6 p k c n) 2 (twoV (65535-cSum s p.src 58 (bare6 p k c n)))
def tell6C (s:ByteArray) (p:P6) (k c n:Int):Int:=if 20000 < s.size then 2 else if (v6Ok p&&decide (s.size=16)&&msgOk k c n)=false then 1 else if dumb6 p=true then 11 else 0
def tell6V (s:ByteArray) (p:P6) (k c n:Int):P6:=if tell6C s p k c n=0 then ⟨0,0,58,64,s,p.src,false,false,0,0,told6 s p k c n⟩ else p6Zero
theorem msgV_size (k c n:Int) (t:ByteArray):(msgV k c n t).size=8+t.size:=by
 unfold msgV; simp only [ByteArray.size_append,pairV_size,twoV_size]; show 2+4+2+t.size=_; omega
structure Told4 (s:ByteArray) (p:P4) (k c n:Int) (code:Int) (ans:P4):Prop where
 long:20000 < s.size→code=2∧ans=p4Zero
 form:¬ 20000 < s.size→(v4Ok p=false∨s.size≠4∨isIn k 0 255=false∨isIn c 0 255=false∨isW n=false)→code=1∧ans=p4Zero
 kind:v4Ok p=true→s.size=4→isIn k 0 255=true→isIn c 0 255=true→isW n=true→dumb4 p=true→code=11∧ans=p4Zero
 fine:v4Ok p=true→s.size=4→isIn k 0 255=true→isIn c 0 255=true→isW n=true→dumb4 p=false→code=0∧ans=⟨0,0,true,false,0,64,1,s,p.src,⟨#[]⟩,told4 s p k c n⟩
structure Told6 (s:ByteArray) (p:P6) (k c n:Int) (code:Int) (ans:P6):Prop where
 long:20000 < s.size→code=2∧ans=p6Zero
 form:¬ 20000 < s.size→(v6Ok p=false∨s.size≠16∨isIn k 0 255=false∨isIn c 0 255=false∨isW n=false)→code=1∧ans=p6Zero
 kind:v6Ok p=true→s.size=16→isIn k 0 255=true→isIn c 0 255=true→isW n=true→dumb6 p=true→code=11∧ans=p6Zero
 fine:v6Ok p=true→s.size=16→isIn k 0 255=true→isIn c 0 255=true→isW n=true→dumb6 p=false→code=0∧ans=⟨0,0,58,64,s,p.src,false,false,0,0,told6 s p k c n⟩
theorem told6_any (s:ByteArray) (p:P6) (k c n:Int):Told6 s p k c n (tell6C s p k c n) (tell6V s p k c n):=by
 unfold tell6V;refine ⟨fun h=>?_,fun h hf=>?_,fun h1 h2 h3 h4 h5 h6=>?_,fun h1 h2 h3 h4 h5 h6=>?_⟩
 ·have:tell6C s p k c n=2:=if_pos h;rw [this]; exact ⟨rfl,rfl⟩
 ·have:tell6C s p k c n=1:=by
   unfold tell6C; rw [if_neg h,if_pos ?_];unfold msgOk;rcases hf with h | h | h | h | h<;>simp [h]
  rw [this]; exact ⟨rfl,rfl⟩
 ·have:tell6C s p k c n=11:=by
   unfold tell6C msgOk; rw [if_neg (by omega),if_neg (by simp [h1,h2,h3,h4,h5]),if_pos h6]
  rw [this]; exact ⟨rfl,rfl⟩
 ·have:tell6C s p k c n=0:=by
   unfold tell6C msgOk; rw [if_neg (by omega),if_neg (by simp [h1,h2,h3,h4,h5]),if_neg (by simp [h6])]
  rw [this]; exact ⟨rfl,rfl⟩
theorem raw6_size {p:P6} (h:v6Ok p=true):(v6Raw p).size≤1448∧p.src.size=16∧p.data.size≤1400:=by
 have hA:v6A p=true:=by unfold v6Ok at h; simp only [Bool.and_eq_true] at h; exact h.1
 unfold v6A at hA; simp only [Bool.and_eq_true,decide_eq_true_eq] at hA;refine ⟨?_,hA.1.1.1.2,hA.1.2⟩;have:(restV p).size≤1408:=by
  unfold restV; split<;>(try simp only [ByteArray.size_append,pairV_size,twoV_size])<;>omega
 unfold v6Raw; simp only [ByteArray.size_append,pairV_size,twoV_size]; omega
end Go.Proofs.Ytellgkeakiikkaa
