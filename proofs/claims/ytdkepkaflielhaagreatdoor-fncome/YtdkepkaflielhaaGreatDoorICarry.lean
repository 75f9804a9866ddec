import Derived.Test.YtdkepkaflielhaaGreatDoorSz
import Derived.Test.YtdkepkaflielhaaGreatDoorAb
import Derived.Test.YtdkepkaflielhaaGreatDoorCarry
import Derived.Test.YtdkepkaflielhaaGreatDoorIFlow
import Derived.Test.YtdkepkaflielhaaGreatDoorIV4A
import Derived.Test.YtdkepkaflielhaaGreatDoorLay
import Derived.Test.YtdkepkaflielhaaGreatDoorAdd
import Derived.Test.YtdkepkaflielhaaGreatDoorSums
set_option linter.unusedVariables false
set_option linter.unusedSimpArgs false
set_option maxRecDepth 100000
set_option maxHeartbeats 8000000
namespace Go.Proofs.YtdkepkaflielhaaGreatDoor
open Go.RowKit Go.PlainAid
def wordsB (ws:List Int):ByteArray:=⟨((layL ws).map (fun x=>UInt8.ofNat x.toNat)).toArray⟩
theorem wordsB_size (ws:List Int):(wordsB ws).size=2*ws.length:=by
 unfold wordsB ByteArray.size;simp [layL_length]
theorem words_conv {w:World} {b cap n:Nat} {ws:List Int} (hn:n=2*ws.length) (hw:∀ m∈ws,0≤m∧m≤65535) (hc:∀ i,i < n→w.cell? ⟨b,i,none⟩=some (.int .u8 (fL ws i))) :
  (convert 22 9 (.slice (some ⟨b,0,none⟩) n cap)).run Tryz.prog w=.ok (.string (wordsB ws)) w:=by
 have hl:=layL_length ws;have e:n=((layL ws).map (fun x=>UInt8.ofNat x.toNat)).length:=by simp [hl,hn]
 rw [e];refine run_convert_bytes_back (P:=Tryz.prog) w 22 9 5 ⟨b,0,none⟩ cap ((layL ws).map (fun x=>UInt8.ofNat x.toNat)) Tryz.underlying22 Tryz.underlying5 Tryz.underlying9 ?_;intro j hj;have hj2:j < (layL ws).length:=by simpa using hj
 have hb:=fL_byte ws hw j;have e2:fL ws j=(layL ws)[j]:=by simp [fL,List.getD,hj2]
 rw [e2] at hb;have e3:Addr.add ⟨b,0,none⟩ j=⟨b,j,none⟩:=by simp [Addr.add]; omega
 rw [e3,List.getElem_map,u8_ofNat _ hb.1 hb.2,← e2];exact hc j (by omega)
theorem wordsB_four (p n:Int) (hp:0≤p∧p≤255):pairV 0 p++twoV n=wordsB [p,n]:=by
 have e1:p / 256=0:=by omega
 have e2:p % 256=p:=by omega
 simp only [wordsB,layL,e1,e2];rfl
theorem wordsB_six (p n:Int) (hp:0≤p∧p≤255) (hn:0≤n∧n≤65535):twoV (n / 65536)++twoV (n % 65536)++quadW 0 p=wordsB [n / 65536,n,0,p]:=by
 have e1:p / 256=0:=by omega
 have e2:p % 256=p:=by omega
 have e3:n % 65536=n:=by omega
 simp only [wordsB,layL,e1,e2,e3];rfl
theorem ipPseudo_any (s d:ByteArray) (p:Int) (n:Nat) (w:World) (hs:s.size=4∨s.size=16) (hd:d.size≤16) (hp:0≤p∧p≤255) (hn:n≤65535) :
  Cb 176 #[.string s,.string d,iV p,iV n] w (.string (pseudoV s d p n)):=by
 have n1:¬ 9223372036854775807 < s.size+d.size:=by omega
 rcases hs with hs | hs
 ·have d4:((s.size:Int)==16)=false:=by simp; omega
  by_cases h1:p=1
  ·have d1:(p==1)=true:=by simp [h1]
   have HV:Hid (pseudoV s d p n=⟨#[]⟩):=by unfold Hid pseudoV; rw [if_pos ⟨h1,hs⟩]
   generalize pseudoV s d p n=ans at *;clear h1;go_enter Tryz.func176,Tryz.ntmps176
   go_wp2_with fail
   go_ret;exact ⟨ret_string HV.out.symm,Below.refl _ _⟩
  ·have d1:(p==1)=false:=by simp [h1]
   have HV:Hid (pseudoV s d p n=s++d++wordsB [p,(n:Int)]):=by
    unfold Hid pseudoV;rw [if_neg (fun h=>h1 h.1),if_pos hs,← wordsB_four p n hp,ByteArray.append_assoc (a:=s++d)]
   generalize pseudoV s d p n=ans at *;have hws:∀ m∈[p,(n:Int)],0≤m∧m≤65535:=by intro m hm; simp at hm; rcases hm with rfl | rfl<;>omega
   have HL:Hid (Calls Tryz.prog 154 #[.slice (some ⟨w.z,0,none⟩) 2 2] (w.alloc (.cells #[iV p,iV n] 2)) fun e w' =>
    e=.returned (.slice (some ⟨w.z+1,0,none⟩) 4 4)∧(∀ i,i < 4→w'.cell? ⟨w.z+1,i,none⟩=some (.int .u8 (fL [p,(n:Int)] i)))∧Below w.z w w'):=layAt [p,(n:Int)] w (by simp) hws
   have HW:Hid (∀ m∈[p,(n:Int)],0≤m∧m≤65535):=hws;have z:=wordsB_size [p,(n:Int)];simp at z;have n2:¬ 9223372036854775807 < s.size+d.size+(wordsB [p,(n:Int)]).size:=by omega
   clear hws h1;go_enter Tryz.func176,Tryz.ntmps176
   go_wp2_with fail
   refine HL.out.mono ?_;rintro e w1 ⟨rfl,hc,hB⟩;have hcv:=words_conv (cap:=4) (by simp) HW.out hc;have HB:Hid (Below w.z w w1):=hB;clear hc hB HL;generalize wordsB [p,(n:Int)]=u at *;go_wp2_with fail
   go_ret;exact ⟨ret_string HV.out.symm,HB.out⟩
 ·have d4:((s.size:Int)==16)=true:=by simp; omega
  have HV:Hid (pseudoV s d p n=s++d++wordsB [(n:Int) / 65536,(n:Int),0,p]):=by
   unfold Hid pseudoV;rw [if_neg (by omega),if_neg (by omega),← wordsB_six p n hp (by omega),ByteArray.append_assoc (a:=s++d),ByteArray.append_assoc (a:=s++d)]
  generalize pseudoV s d p n=ans at *;have hws:∀ m∈[(n:Int) / 65536,(n:Int),0,p],0≤m∧m≤65535:=by intro m hm; simp at hm; rcases hm with rfl | rfl | rfl | rfl<;>omega
  have HL:Hid (Calls Tryz.prog 154 #[.slice (some ⟨w.z,0,none⟩) 4 4] (w.alloc (.cells #[iV ((n:Int) / 65536),iV n,iV 0,iV p] 2)) fun e w' =>
   e=.returned (.slice (some ⟨w.z+1,0,none⟩) 8 8)∧(∀ i,i < 8→w'.cell? ⟨w.z+1,i,none⟩=some (.int .u8 (fL [(n:Int) / 65536,(n:Int),0,p] i)))∧Below w.z w w'):=layAt [(n:Int) / 65536,(n:Int),0,p] w (by simp) hws
  have HW:Hid (∀ m∈[(n:Int) / 65536,(n:Int),0,p],0≤m∧m≤65535):=hws;have z:=wordsB_size [(n:Int) / 65536,(n:Int),0,p];simp at z;have n2:¬ 9223372036854775807 < s.size+d.size+(wordsB [(n:Int) / 65536,(n:Int),0,p]).size:=by omega
  clear hws;go_enter Tryz.func176,Tryz.ntmps176
  go_wp2_with fail
  refine HL.out.mono ?_;rintro e w1 ⟨rfl,hc,hB⟩;have hcv:=words_conv (cap:=8) (by simp) HW.out hc;have HB:Hid (Below w.z w w1):=hB;clear hc hB HL;generalize wordsB [(n:Int) / 65536,(n:Int),0,p]=u at *;go_wp2_with fail
  go_ret;exact ⟨ret_string HV.out.symm,HB.out⟩
theorem ipLacks_any (p:Int) (t:ByteArray) (w:World) (h8:8≤t.size) (ht:t.size≤1048576) :
  Cw 151 #[iV p,.string t] w (.bool (decide (p=17)&&decide (wordN (bt t) 6=0))):=by
 have HW:Hid (∀ W,Cw 131 #[.string t,iV (6:Nat)] W (iV (wordN (bt t) 6))):=fun W=>wordFromS_any t 6 W (by omega) (by unfold maxLen; omega)
 have dq:(wordN (bt t) 6==0)=decide (wordN (bt t) 6=0):=rfl;generalize decide (wordN (bt t) 6=0)=q at *;generalize wordN (bt t) 6=x at *;by_cases h:p=17
 ·have d1:(p==17)=true:=by simp [h]
  rw [decide_eq_true h];clear h;go_enter Tryz.func151,Tryz.ntmps151
  go_wp2_with fail
  refine (HW.out _).mono ?_;rintro e w2 ⟨rfl,rfl⟩;go_wp2_with fail
  go_ret;exact ⟨rfl,rfl⟩
 ·have d1:(p==17)=false:=by simp [h]
  rw [decide_eq_false h];clear h;go_enter Tryz.func151,Tryz.ntmps151
  go_wp2_with fail
  go_ret;exact ⟨rfl,rfl⟩
end Go.Proofs.YtdkepkaflielhaaGreatDoor
