import Derived.Test.YtdkepkaflielhaaGreatDoorAb
import Derived.Test.YtdkepkaflielhaaGreatDoorSSet
import Derived.Test.YtdkepkaflielhaaGreatDoorFlowSame
import Derived.RegionTactic
import Derived.Deep.RegionWith
import Derived.Deep.DeepCutAuto
set_option linter.unusedVariables false
set_option linter.unusedSimpArgs false
set_option maxRecDepth 100000
set_option maxHeartbeats 8000000
namespace Go.Proofs.YtdkepkaflielhaaGreatDoor
open Go.RowKit Go.PlainAid
theorem ofFl_keeps (s d:ByteArray) (p:Int) (t:ByteArray):(ofFl s d p t).proto=p∧(ofFl s d p t).src=s∧(ofFl s d p t).dst=d:=by
 unfold ofFl;split
 ·split<;>exact ⟨rfl,rfl,rfl⟩
 ·exact ⟨rfl,rfl,rfl⟩
theorem sameFlow_of (f:Fl) (t:ByteArray):sameFlow (ofFl f.src f.dst f.proto t) f=(decide ((ofFl f.src f.dst f.proto t).sp=f.sp)&&decide ((ofFl f.src f.dst f.proto t).dp=f.dp)):=by
 obtain ⟨h1,h2,h3⟩:=ofFl_keeps f.src f.dst f.proto t;unfold sameFlow;rw [h1,h2,h3];simp;rfl
theorem ofCode_size {n:Nat} {p:Int} {t:ByteArray} (h:ofCode n p t=0):8≤t.size∧(p=6→20≤t.size):=by
 unfold ofCode at h;split at h
 ·omega
 split at h
 ·omega
 rename_i h1 h2;have h3:shortP p t=false:=by simpa using h2
 unfold shortP at h3;rw [Bool.or_eq_false_iff,decide_eq_false_iff_not] at h3;refine ⟨by omega,fun hp=>?_⟩;have h4:=h3.1;rw [decide_eq_true hp,Bool.true_and,Bool.or_eq_false_iff,Bool.or_eq_false_iff,decide_eq_false_iff_not] at h4;omega
theorem flowOk_parts {f:Fl} (h:flowOk f=true):(f.src.size≤16∧f.dst.size≤16)∧(0≤f.proto∧f.proto≤255)∧((0≤f.sp∧f.sp≤65535)∧(0≤f.dp∧f.dp≤65535)):=by
 unfold flowOk at h;simp only [Bool.and_eq_true] at h;obtain ⟨⟨⟨⟨h1,h2⟩,h3⟩,h4⟩,h5⟩:=h;obtain ⟨a,b⟩:=pairOk_parts h1;refine ⟨by omega,?_,by simpa [isW] using h3,by simpa [isW] using h4⟩;unfold protoOk at h2;simp only [Bool.or_eq_true,Bool.and_eq_true,decide_eq_true_iff] at h2;omega
end Go.Proofs.YtdkepkaflielhaaGreatDoor
