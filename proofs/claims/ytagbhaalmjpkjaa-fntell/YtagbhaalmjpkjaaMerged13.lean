import Derived.Test.YtagbhaalmjpkjaaMerged8
import Derived.Test.YtagbhaalmjpkjaaMerged12
import Derived.Test.YtagbhaalmjpkjaaMerged3
import Derived.Test.YtagbhaalmjpkjaaMerged2
import Derived.Test.YtagbhaalmjpkjaaBase
import Derived.Maps.AppendAt
import Derived.OwnWalk
set_option linter.unusedVariables false
set_option linter.unusedSimpArgs false
set_option maxRecDepth 100000
set_option maxHeartbeats 8000000
namespace Go.Proofs.Ytagbhaalmjpkjaa
open Go.RowKit Go.PlainAid
def wordsB (ws:List Int):ByteArray:=⟨((layL ws).map (fun x=>UInt8.ofNat x.toNat)).toArray⟩
theorem wordsB_size (ws:List Int):(wordsB ws).size=2*ws.length:=by
 unfold wordsB ByteArray.size;simp [layL_length]
theorem words_conv {w:World} {b cap n:Nat} {ws:List Int} (hn:n=2*ws.length) (hw:∀ m∈ws,0≤m∧m≤65535) (hc:∀ i,i < n→w.cell? ⟨b,i,none⟩=some (.int .u8 (fL ws i))) :
  (convert 22 9 (.slice (some ⟨b,0,none⟩) n cap)).run Try.prog w=.ok (.string (wordsB ws)) w:=by
 have hl:=layL_length ws;have e:n=((layL ws).map (fun x=>UInt8.ofNat x.toNat)).length:=by simp [hl,hn]
 rw [e];refine run_convert_bytes_back (P:=Try.prog) w 22 9 5 ⟨b,0,none⟩ cap ((layL ws).map (fun x=>UInt8.ofNat x.toNat)) Try.underlying22 Try.underlying5 Try.underlying9 ?_;intro j hj;have hj2:j < (layL ws).length:=by simpa using hj
 have hb:=fL_byte ws hw j;have e2:fL ws j=(layL ws)[j]:=by simp [fL,List.getD,hj2]
 rw [e2] at hb;have e3:Addr.add ⟨b,0,none⟩ j=⟨b,j,none⟩:=by simp [Addr.add]; omega
 rw [e3,List.getElem_map,u8_ofNat _ hb.1 hb.2,← e2];exact hc j (by omega)
theorem wordsB_four (p n:Int) (hp:0≤p∧p≤255):pairV 0 p++twoV n=wordsB [p,n]:=by
 have e1:p / 256=0:=by omega
 have e2:p % 256=p:=by omega
 simp only [wordsB,layL,e1,e2];rfl
theorem wordsB_six (p n:Int) (hp:0≤p∧p≤255) (hn:0≤n∧n≤65535):twoV (n / 65536)++twoV (n % 65536)++quadW 0 p=wordsB [n / 65536,n,0,p]:=by
 have e1:p / 256=0:=by omega
 have e2:p % 256=p:=by omega
 have e3:n % 65536=n:=by omega
 simp only [wordsB,layL,e1,e2,e3];rfl
theorem ipPseudo_any (s d:ByteArray) (p:Int) (n:Nat) (w:World) (hs:s.size=4∨s.size=16) (hd:d.size≤16) (hp:0≤p∧p≤255) (hn:n≤65535) :
  Calls Try.prog 76 #[.string s,.string d,.int .i64 p,.int .i64 n] w fun e w'=>e=.returned (.string (pseudoV s d p n))∧Below w.heap.size w w':=by
 have n1:¬ 9223372036854775807 < s.size+d.size:=by omega
 rcases hs with hs | hs
 ·have d4:((s.size:Int)==16)=false:=by simp; omega
  by_cases h1:p=1
  ·have d1:(p==1)=true:=by simp [h1]
   have HV:Hid (pseudoV s d p n=⟨#[]⟩):=by unfold Hid pseudoV; rw [if_pos ⟨h1,hs⟩]
   generalize pseudoV s d p n=ans at *;clear h1;go_enter Try.func76,Try.ntmps76
   go_wp2_with fail
   go_ret;exact ⟨ret_string HV.out.symm,Below.refl _ _⟩
  ·have d1:(p==1)=false:=by simp [h1]
   have HV:Hid (pseudoV s d p n=s++d++wordsB [p,(n:Int)]):=by
    unfold Hid pseudoV;rw [if_neg (fun h=>h1 h.1),if_pos hs,← wordsB_four p n hp,ByteArray.append_assoc (a:=s++d)]
   generalize pseudoV s d p n=ans at *;have hws:∀ m∈[p,(n:Int)],0≤m∧m≤65535:=by intro m hm; simp at hm; rcases hm with rfl | rfl<;>omega
   have HL:Hid (Calls Try.prog 65 #[.slice (some ⟨w.heap.size,0,none⟩) 2 2] (w.alloc (.cells #[.int .i64 p,.int .i64 n] 2)) fun e w' =>
    e=.returned (.slice (some ⟨w.heap.size+1,0,none⟩) 4 4)∧(∀ i,i < 4→w'.cell? ⟨w.heap.size+1,i,none⟩=some (.int .u8 (fL [p,(n:Int)] i)))∧Below w.heap.size w w'):=layAt [p,(n:Int)] w (by simp) hws
   have HW:Hid (∀ m∈[p,(n:Int)],0≤m∧m≤65535):=hws;have z:=wordsB_size [p,(n:Int)];simp at z;have n2:¬ 9223372036854775807 < s.size+d.size+(wordsB [p,(n:Int)]).size:=by omega
   clear hws h1;go_enter Try.func76,Try.ntmps76
   go_wp2_with fail
   refine HL.out.mono ?_;rintro e w1 ⟨rfl,hc,hB⟩;have hcv:=words_conv (cap:=4) (by simp) HW.out hc;have HB:Hid (Below w.heap.size w w1):=hB;clear hc hB HL;generalize wordsB [p,(n:Int)]=u at *;go_wp2_with fail
   go_ret;exact ⟨ret_string HV.out.symm,HB.out⟩
 ·have d4:((s.size:Int)==16)=true:=by simp; omega
  have HV:Hid (pseudoV s d p n=s++d++wordsB [(n:Int) / 65536,(n:Int),0,p]):=by
   unfold Hid pseudoV;rw [if_neg (by omega),if_neg (by omega),← wordsB_six p n hp (by omega),ByteArray.append_assoc (a:=s++d),ByteArray.append_assoc (a:=s++d)]
  generalize pseudoV s d p n=ans at *;have hws:∀ m∈[(n:Int) / 65536,(n:Int),0,p],0≤m∧m≤65535:=by intro m hm; simp at hm; rcases hm with rfl | rfl | rfl | rfl<;>omega
  have HL:Hid (Calls Try.prog 65 #[.slice (some ⟨w.heap.size,0,none⟩) 4 4] (w.alloc (.cells #[.int .i64 ((n:Int) / 65536),.int .i64 n,.int .i64 0,.int .i64 p] 2)) fun e w' =>
   e=.returned (.slice (some ⟨w.heap.size+1,0,none⟩) 8 8)∧(∀ i,i < 8→w'.cell? ⟨w.heap.size+1,i,none⟩=some (.int .u8 (fL [(n:Int) / 65536,(n:Int),0,p] i)))∧Below w.heap.size w w'):=layAt [(n:Int) / 65536,(n:Int),0,p] w (by simp) hws
  have HW:Hid (∀ m∈[(n:Int) / 65536,(n:Int),0,p],0≤m∧m≤65535):=hws;have z:=wordsB_size [(n:Int) / 65536,(n:Int),0,p];simp at z;have n2:¬ 9223372036854775807 < s.size+d.size+(wordsB [(n:Int) / 65536,(n:Int),0,p]).size:=by omega
  clear hws;go_enter Try.func76,Try.ntmps76
  go_wp2_with fail
  refine HL.out.mono ?_;rintro e w1 ⟨rfl,hc,hB⟩;have hcv:=words_conv (cap:=8) (by simp) HW.out hc;have HB:Hid (Below w.heap.size w w1):=hB;clear hc hB HL;generalize wordsB [(n:Int) / 65536,(n:Int),0,p]=u at *;go_wp2_with fail
  go_ret;exact ⟨ret_string HV.out.symm,HB.out⟩
theorem implCarrySum_any (s d:ByteArray) (p:Int) (t:ByteArray) (w:World) (hs:s.size≤1048576) (hd:d.size≤1048576) (ht:t.size≤1048576) :
  Calls Try.prog 66 #[.string s,.string d,.int .i64 p,.string t] w fun e w'=>e=.returned (.int .i64 (carrySumV s d p t))∧Below w.heap.size w w':=by
 have HN:Hid (cIn s d p t=false→carrySumV s d p t=0):=fun h=>by unfold carrySumV; rw [h]; rfl
 have HD:Hid (cIn s d p t=(decide (t.size≤20000)&&decide (s.size≤20000)&&decide (d.size≤20000)&&pairOk s d&&isIn p 0 255)):=rfl;have HB0:Hid (∀ W,Calls Try.prog 33 #[.string t] W fun e w'=>e=.returned (.bool (decide (20000 < t.size)))∧w'=W):=fun W=>implLong_any t W
 have HB1:Hid (∀ W,Calls Try.prog 74 #[.string s,.string d] W fun e w'=>e=.returned (.bool (pairOk s d))∧w'=W):=fun W=>implPair_any _ _ W (by unfold maxLen; omega) (by unfold maxLen; omega)
 have HB2:Hid (∀ W,Calls Try.prog 61 #[.int .i64 p] W fun e w'=>e=.returned (.bool (isIn p 0 255))∧w'=W):=fun W=>implByte_any _ W
 by_cases lt:20000 < t.size
 ·have HV:Hid (carrySumV s d p t=0):=HN.out (by rw [HD.out,decide_eq_false (show ¬ t.size≤20000 by omega)]; simp);rw [decide_eq_true lt] at HB0;clear HN HD;generalize carrySumV s d p t=ans at *;go_enter Try.func66,Try.ntmps66
  go_wp2_with fail
  refine (HB0.out _).mono ?_;rintro e w2 ⟨rfl,rfl⟩;go_wp2_with fail
  go_ret;exact ⟨ret_int HV.out.symm,Below.refl _ _⟩
 rw [decide_eq_false lt] at HB0
 cases a1:pairOk s d with
 | false =>
  have HV:Hid (carrySumV s d p t=0):=HN.out (by rw [HD.out,a1]; simp);rw [a1] at HB1;clear HN HD a1;generalize carrySumV s d p t=ans at *;go_enter Try.func66,Try.ntmps66
  go_wp2_with fail
  refine (HB0.out _).mono ?_;rintro e w2 ⟨rfl,rfl⟩;go_wp2_with fail
  refine (HB1.out _).mono ?_;rintro e w2 ⟨rfl,rfl⟩;go_wp2_with fail
  go_ret;exact ⟨ret_int HV.out.symm,Below.refl _ _⟩
 | true =>
 cases a2:isIn p 0 255 with
 | false =>
  have HV:Hid (carrySumV s d p t=0):=HN.out (by rw [HD.out,a2]; simp);rw [a1] at HB1;rw [a2] at HB2;clear HN HD a1 a2;generalize carrySumV s d p t=ans at *;go_enter Try.func66,Try.ntmps66
  go_wp2_with fail
  refine (HB0.out _).mono ?_;rintro e w2 ⟨rfl,rfl⟩;go_wp2_with fail
  refine (HB1.out _).mono ?_;rintro e w2 ⟨rfl,rfl⟩;go_wp2_with fail
  refine (HB2.out _).mono ?_;rintro e w2 ⟨rfl,rfl⟩;go_wp2_with fail
  go_ret;exact ⟨ret_int HV.out.symm,Below.refl _ _⟩
 | true =>
  obtain ⟨z1,z2⟩:=pairOk_parts a1;have hin:cIn s d p t=true:=by rw [HD.out,a1,a2]; simp; omega
  have HP:Hid (∀ W,Calls Try.prog 76 #[.string s,.string d,.int .i64 p,.int .i64 t.size] W fun e w'=>e=.returned (.string (pseudoV s d p t.size))∧Below W.heap.size W w'):=fun W=>ipPseudo_any s d p t.size W z1 (by omega) (isIn_parts a2) (by omega)
  have hu:=pseudoV_size s d p t.size (by omega) (by omega);have HS:Hid (∀ W,Calls Try.prog 75 #[.string (pseudoV s d p t.size++t)] W fun e w'=>e=.returned (.int .i64 (sumV (pseudoV s d p t.size++t)))∧w'=W):=fun W=>sumOfS_any _ W (by rw [ByteArray.size_append]; omega)
  rw [a1] at HB1;rw [a2] at HB2;have HV:Hid (carrySumV s d p t=sumV (pseudoV s d p t.size++t)):=by unfold Hid carrySumV; rw [if_pos hin]; rfl
  have n1:¬ 9223372036854775807 < (pseudoV s d p t.size).size+t.size:=by omega
  clear HN HD a1 a2 hin z1 z2;generalize carrySumV s d p t=ans at *;generalize pseudoV s d p t.size=u at *;generalize sumV (u++t)=sm at *;go_enter Try.func66,Try.ntmps66
  go_wp2_with fail
  refine (HB0.out _).mono ?_;rintro e w2 ⟨rfl,rfl⟩;go_wp2_with fail
  refine (HB1.out _).mono ?_;rintro e w2 ⟨rfl,rfl⟩;go_wp2_with fail
  refine (HB2.out _).mono ?_;rintro e w2 ⟨rfl,rfl⟩;go_wp2_with fail
  refine (HP.out _).mono ?_;rintro e w3 ⟨rfl,q3⟩;have Q3:Hid (Below w2.heap.size w2 w3):=q3;clear q3;go_wp2_with fail
  refine (HS.out _).mono ?_;rintro e w4 ⟨rfl,rfl⟩;go_wp2_with fail
  go_ret;exact ⟨ret_int HV.out.symm,Q3.out⟩
end Go.Proofs.Ytagbhaalmjpkjaa
namespace Go.Proofs.Ytagbhaalmjpkjaa
open Go.RowKit
theorem wp_append_run {P:Program} {o:Oper} {a:Act} {w w':World} {v1 v2 v':Value} {K:Act→World→Prop} {Q:Exit→Act→World→Prop} (s x:Operand) (t:TypeId) (hop:o.op=Op.call { callee:=Callee.builtin Builtin.append,args:=#[s,x],argTypes:=#[t,t] })
  (hs:a.eval s=v1) (hx:a.eval x=v2) (hrun:(Builtin.append_ #[t,t] o.type #[v1,v2]).run P w=.ok v' w') (hK:K (a.put o.dst v') w'):Oper.wp P o a w K Q:=by
 unfold Oper.wp;simp [execOp,hop,resolve,invoke,builtin,hs,hx,hrun,Result.andThen];exact hK
end Go.Proofs.Ytagbhaalmjpkjaa
