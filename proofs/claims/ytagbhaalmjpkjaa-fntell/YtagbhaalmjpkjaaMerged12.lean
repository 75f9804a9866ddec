import Derived.Test.YtagbhaalmjpkjaaMerged4
import Derived.Test.YtagbhaalmjpkjaaMerged8
import Derived.Test.YtagbhaalmjpkjaaBase
import Derived.Test.YtagbhaalmjpkjaaMerged2
import Derived.Test.YtagbhaalmjpkjaaMerged9
import Derived.BigQuiet
import Derived.Deep.DeepCutAuto
import Derived.Test.YtagbhaalmjpkjaaMerged5
set_option linter.unusedVariables false
set_option linter.unusedSimpArgs false
set_option maxRecDepth 100000
set_option maxHeartbeats 8000000
namespace Go.Proofs.Ytagbhaalmjpkjaa
open Go.RowKit Go.PlainAid
theorem implAddrRight_any (s:ByteArray) (w:World) :
  Calls Try.prog 78 #[.string s] w fun e w'=>e=.returned (.bool (addrOk s))∧w'=w:=by
 by_cases h4:s.size=4
 ·have HV:Hid (addrOk s=true):=addrOk_yes (.inl h4);have h4':(s.size:Int)=4:=by omega
  clear h4;go_enter Try.func78,Try.ntmps78
  go_wp2
  go_ret;exact ⟨ret_bool HV.out.symm,rfl⟩
 ·by_cases h16:s.size=16
  ·have HV:Hid (addrOk s=true):=addrOk_yes (.inr h16);have h16':(s.size:Int)=16:=by omega
   clear h16 h4;go_enter Try.func78,Try.ntmps78
   go_wp2
   go_ret;exact ⟨ret_bool HV.out.symm,rfl⟩
  ·have HV:Hid (addrOk s=false):=addrOk_no (by omega);have e1:((s.size:Int)==4)=false:=by simp; omega
   have e2:((s.size:Int)==16)=false:=by simp; omega
   go_enter Try.func78,Try.ntmps78
   go_wp2
   go_ret;exact ⟨ret_bool HV.out.symm,rfl⟩
theorem implLong_any (t:ByteArray) (w:World) :
  Calls Try.prog 33 #[.string t] w fun e w'=>e=.returned (.bool (decide (20000 < t.size)))∧w'=w:=by
 by_cases h:20000 < t.size
 ·have d:decide ((20000:Int) < (t.size:Int))=true:=by simp; omega
  rw [decide_eq_true h];go_enter Try.func33,Try.ntmps33
  go_wp2_with fail
  go_ret;exact ⟨rfl,rfl⟩
 ·have d:decide ((20000:Int) < (t.size:Int))=false:=by simp; omega
  rw [decide_eq_false h];go_enter Try.func33,Try.ntmps33
  go_wp2_with fail
  go_ret;exact ⟨rfl,rfl⟩
theorem implPair_any (s d:ByteArray) (w:World) (hs:s.size≤maxLen) (hd:d.size≤maxLen) :
  Calls Try.prog 74 #[.string s,.string d] w fun e w'=>e=.returned (.bool (pairOk s d))∧w'=w:=by
 have HA:Hid (∀ W,Calls Try.prog 78 #[.string s] W fun e w'=>e=.returned (.bool (addrOk s))∧w'=W):=fun W=>implAddrRight_any s W
 unfold maxLen at hs hd;unfold pairOk;generalize addrOk s=b at *;by_cases h:s.size=d.size
 ·have dh:((s.size:Int)==(d.size:Int))=true:=by simp; omega
  rw [decide_eq_true h];clear h
  cases b;all_goals go_enter Try.func74,Try.ntmps74
  all_goals go_wp2_with fail
  all_goals refine (HA.out _).mono ?_
  all_goals rintro e w2 ⟨rfl,rfl⟩
  all_goals go_wp2_with fail
  all_goals go_ret
  all_goals exact ⟨rfl,rfl⟩
 ·have dh:((s.size:Int)==(d.size:Int))=false:=by simp; omega
  rw [decide_eq_false h]
  cases b;all_goals go_enter Try.func74,Try.ntmps74
  all_goals go_wp2_with fail
  all_goals refine (HA.out _).mono ?_
  all_goals rintro e w2 ⟨rfl,rfl⟩
  all_goals go_wp2_with fail
  all_goals go_ret
  all_goals exact ⟨rfl,rfl⟩
theorem implByte_any (n:Int) (w:World) :
  Calls Try.prog 61 #[.int .i64 n] w fun e w'=>e=.returned (.bool (isIn n 0 255))∧w'=w:=by
 by_cases h1:0≤n
 ·by_cases h2:n≤255
  ·have HV:Hid (isIn n 0 255=true):=by unfold Hid isIn; simp [h1,h2]
   go_enter Try.func61,Try.ntmps61
   go_wp2_with fail
   go_ret;exact ⟨ret_bool (by rw [HV.out]),rfl⟩
  ·have HV:Hid (isIn n 0 255=false):=by unfold Hid isIn; simp [h2]
   go_enter Try.func61,Try.ntmps61
   go_wp2_with fail
   go_ret;exact ⟨ret_bool (by rw [HV.out]),rfl⟩
 ·have HV:Hid (isIn n 0 255=false):=by unfold Hid isIn; simp [h1]
  have h1':n < 0:=by omega
  go_enter Try.func61,Try.ntmps61
  go_wp2_with fail
  go_ret;exact ⟨ret_bool (by rw [HV.out]),rfl⟩
def pcV (off:Int) (more:Bool) (data:ByteArray) (top:Int):Bool:=isIn off 0 8191&&decide (data.size≤1400)&&(!more||decide (data.size % 8=0))&&decide (8*off+data.size≤top)
theorem v4Ok_prog (p:P4):v4Ok p=(isIn p.tos 0 255&&(isIn p.ttl 0 255&&(isIn p.proto 0 255&&(isIn p.id 0 65535&&(decide (p.src.size=4)&&(decide (p.dst.size=4)&&(decide (p.opts.size≤40)&&(decide (p.opts.size % 4=0)&&(pcV p.off p.more p.data 65515&&!(p.whole&&(p.more||!decide (p.off=0))))))))))) ):=by
 unfold v4Ok v4A v4B v4C pcV;simp only [Bool.not_and,Bool.not_not,Bool.not_or];ac_rfl
theorem v6Ok_prog (p:P6):v6Ok p=(isIn p.cls 0 255&&(isIn p.next 0 255&&(isIn p.hops 0 255&&(decide (0≤p.flow)&&(decide (p.flow≤1048575)&&(decide (p.src.size=16)&&(decide (p.dst.size=16)&&(pcV p.off p.more p.data 65535&&(decide (0≤p.id)&&(decide (p.id≤4294967295)&&((p.piece||(!p.more&&(decide (p.off=0)&&decide (p.id=0))))&&!decide (p.next=44)))))))))) )):=by
 unfold v6Ok v6A v6B pcV isIn
 cases p.piece with
 | true=>simp only [if_true,Bool.true_or,Bool.true_and]; ac_rfl
 | false =>
  simp only [Bool.false_or,Bool.false_eq_true,if_false];by_cases h1:p.off=0
  ·by_cases h2:p.id=0
   ·cases hm:p.more with
    | true=>simp
    | false =>
     by_cases h3:p.data.size≤1400
     ·have h4:(p.data.size:Int)≤65535:=by omega
      simp [h1,h2,h3,h4,Bool.and_assoc,Bool.and_comm,Bool.and_left_comm]
     ·simp [h3]
   ·simp [h2]
  ·simp [h1]
theorem implPiece_any (off:Int) (more:Bool) (data:ByteArray) (top:Int) (w:World) (h4:data.size≤1048576) :
  Calls Try.prog 63 #[.int .i64 off,.bool more,.string data,.int .i64 top] w fun e w'=>e=.returned (.bool (pcV off more data top))∧w'=w:=by
 have HV:Hid (pcV off more data top=(decide (0≤off)&&decide (off≤8191)&&decide (data.size≤1400)&&(!more||decide (data.size % 8=0))&&decide (8*off+data.size≤top))):=by unfold Hid pcV isIn; rfl
 generalize pcV off more data top=ok at *;by_cases e0:0≤off
 ·by_cases e1:off≤8191
  ·by_cases e2:data.size≤1400
   ·have d2:decide ((data.size:Int)≤1400)=true:=by simp; omega
    have em:(!more||decide (data.size % 8=0))=true∨(more=true∧¬ data.size % 8=0):=by cases more<;>simp<;>omega
    rcases em with em | ⟨rfl,em⟩
    ·by_cases e9:8*off+data.size≤top
     ·replace HV:Hid (ok=true):=by unfold Hid; rw [HV.out,em]; simp [e0,e1,e2,e9]
      cases more with
      | false =>
       clear em;go_enter Try.func63,Try.ntmps63
       go_wp2_with fail
       go_ret;exact ⟨ret_bool HV.out.symm,rfl⟩
      | true =>
       have dm:(((data.size:Int) % 8)==0)=true:=by simp at em; simp; omega
       clear em;go_enter Try.func63,Try.ntmps63
       go_wp2_with fail
       go_ret;exact ⟨ret_bool HV.out.symm,rfl⟩
     ·replace HV:Hid (ok=false):=by unfold Hid; rw [HV.out]; simp [e9]
      cases more with
      | false =>
       clear em;go_enter Try.func63,Try.ntmps63
       go_wp2_with fail
       go_ret;exact ⟨ret_bool HV.out.symm,rfl⟩
      | true =>
       have dm:(((data.size:Int) % 8)==0)=true:=by simp at em; simp; omega
       clear em;go_enter Try.func63,Try.ntmps63
       go_wp2_with fail
       go_ret;exact ⟨ret_bool HV.out.symm,rfl⟩
    ·replace HV:Hid (ok=false):=by unfold Hid; rw [HV.out]; simp [em]
     have dm:(((data.size:Int) % 8)==0)=false:=by simp; omega
     go_enter Try.func63,Try.ntmps63
     go_wp2_with fail
     go_ret;exact ⟨ret_bool HV.out.symm,rfl⟩
   ·replace HV:Hid (ok=false):=by unfold Hid; rw [HV.out]; simp [e2]
    have d2:decide ((data.size:Int)≤1400)=false:=by simp; omega
    go_enter Try.func63,Try.ntmps63
    go_wp2_with fail
    go_ret;exact ⟨ret_bool HV.out.symm,rfl⟩
  ·replace HV:Hid (ok=false):=by unfold Hid; rw [HV.out]; simp [e1]
   go_enter Try.func63,Try.ntmps63
   go_wp2_with fail
   go_ret;exact ⟨ret_bool HV.out.symm,rfl⟩
 ·replace HV:Hid (ok=false):=by unfold Hid; rw [HV.out]; simp [e0]
  go_enter Try.func63,Try.ntmps63
  go_wp2_with fail
  go_ret;exact ⟨ret_bool HV.out.symm,rfl⟩
end Go.Proofs.Ytagbhaalmjpkjaa
