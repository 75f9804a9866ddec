import Derived.Test.YtdkepkaflielhaaGreatDoorAb
import Derived.Test.YtdkepkaflielhaaGreatDoorTouch9
import Derived.Test.YtdkepkaflielhaaGreatDoorBookMath
set_option linter.unusedVariables false
set_option linter.unusedSimpArgs false
set_option maxRecDepth 100000
set_option maxHeartbeats 8000000
namespace Go.Proofs.YtdkepkaflielhaaGreatDoor
open Go.RowKit
theorem newB_len (xs:List Bd) (c:Bd):(newB xs c).length≤xs.length+1:=by
 unfold newB; split
 ·simp
 ·omega
theorem setN_len (xs:List Ss) (i:Nat) (f:Ss→Ss):(setN xs i f).length=xs.length:=by
 unfold setN; split
 ·simp
 ·rfl
theorem newV_len (p:Pl) (x:Bb) (t:Tc) (c:Bd) (now:Int):(newV p x t c now).bib.binds.length≤x.binds.length+1∧(newV p x t c now).bib.sess.length≤x.sess.length+1:=by
 unfold newV;by_cases h1:trackNewV t.proto t.inside t.flags=0
 ·rw [if_pos h1]; exact ⟨Nat.zero_le _,Nat.zero_le _⟩
 rw [if_neg h1];by_cases h2:p.most≤(x.sess.length:Int)
 ·rw [if_pos h2]; exact ⟨Nat.zero_le _,Nat.zero_le _⟩
 rw [if_neg h2];by_cases h3:(if t.inside=true then (lendV p x.binds t.proto t.addr t.port).2 else 0)≠0
 ·rw [if_pos h3]; exact ⟨Nat.zero_le _,Nat.zero_le _⟩
 rw [if_neg h3];exact ⟨newB_len _ _,by simp⟩
theorem goV_len (p:Pl) (x:Bb) (t:Tc) (now:Int):(goV p x t now).bib.binds.length≤x.binds.length+1∧(goV p x t now).bib.sess.length≤x.sess.length+1:=by
 unfold goV;split
 ·split
  ·exact newV_len p x t _ now
  ·exact ⟨Nat.zero_le _,Nat.zero_le _⟩
 ·split
  ·split
   ·exact ⟨Nat.zero_le _,Nat.zero_le _⟩
   ·exact newV_len p x t _ now
  ·exact ⟨by simp,by simp [setN_len]⟩
end Go.Proofs.YtdkepkaflielhaaGreatDoor
