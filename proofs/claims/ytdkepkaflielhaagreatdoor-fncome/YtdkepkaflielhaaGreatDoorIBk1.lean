import Derived.Test.YtdkepkaflielhaaGreatDoorSz
import Derived.Test.YtdkepkaflielhaaGreatDoorAb
import Derived.Test.YtdkepkaflielhaaGreatDoorSPool
import Derived.Test.YtdkepkaflielhaaGreatDoorITrack
import Derived.Test.YtdkepkaflielhaaGreatDoorHoldL
import Derived.Test.YtdkepkaflielhaaGreatDoorLawBib
import Derived.Deep.DeepCutAuto
set_option linter.unusedVariables false
set_option linter.unusedSimpArgs false
set_option maxRecDepth 100000
set_option maxHeartbeats 8000000
namespace Go.Proofs.YtdkepkaflielhaaGreatDoor
open Go.RowKit Go.PlainAid
theorem isBound_any (proto:Int) (w:World) :
  Cw 136 #[iV proto] w (.bool (protoB proto)):=by
 have hun:undef=Value.tuple #[]:=rfl;by_cases h0:proto=6
 ·subst h0;go_enter Tryz.func136,Tryz.ntmps136
  go_wp2_with fail
  go_ret;exact ⟨rfl,rfl⟩
 ·by_cases h1:proto=17
  ·subst h1;go_enter Tryz.func136,Tryz.ntmps136
   go_wp2_with fail
   go_ret;exact ⟨rfl,rfl⟩
  ·by_cases h2:proto=1
   ·subst h2;go_enter Tryz.func136,Tryz.ntmps136
    go_wp2_with fail
    go_ret;exact ⟨rfl,rfl⟩
   ·have HV:Hid (protoB proto=false):=by unfold Hid protoB; simp [h0,h1,h2]
    go_enter Tryz.func136,Tryz.ntmps136
    go_wp2_with fail
    go_ret;exact ⟨ret_bool (by rw [HV.out]; simp [h0,h1,h2]),rfl⟩
theorem strIndex_any (xs:List ByteArray) (s:ByteArray) (a:Option Addr) (cap:Nat) (w:World) (hlen:xs.length≤1048576) (hr:SlIs strL1 1 w a xs) :
  Calls Tryz.prog 128 #[.slice a xs.length cap,.string s] w fun e w'=>∃ j:Int,e=.returned (iV j)∧-1≤j∧j≤1048576∧Hid (decide (0≤j)=inL xs s)∧Below w.heap.size w w':=by
 have HR:Hid (SlIs strL1 1 w a xs):=hr;have HV:Hid (inL xs s=xs.any fun t=>decide (t.toList=s.toList)):=rfl;generalize inL xs s=ans at *;clear hr;go_enter Tryz.func128,Tryz.ntmps128
 go_wp2_with fail
 go_loopw [8] (fun iv wr=>∃ i:Nat,i≤xs.length∧iv=iV i∧(xs.take i).any (fun t=>decide (t.toList=s.toList))=false∧Below w.z w wr) (fun iv _=>xs.length-(intOf iv).toNat)
 case atStart=>exact ⟨0,Nat.zero_le _,rfl,rfl,Below.refl _ _⟩
 case round =>
  obtain ⟨i,hi,rfl,hn,hbel⟩:=hrel;have HN:Hid ((xs.take i).any (fun t=>decide (t.toList=s.toList))=false):=hn;have HL:Hid (Below w.z w wr):=hbel;clear hn hbel;by_cases hlt:i < xs.length
  ·obtain ⟨b,off,rfl,hb,hat⟩:=HR.out.at hlt;have hA:=(hat.below hb HL.out) i hlt;have HST:Hid _:=any_take (fun t:ByteArray=>decide (t.toList=s.toList)) xs i hlt;have HAT:Hid _:=any_at (fun t:ByteArray=>decide (t.toList=s.toList)) xs i hlt;obtain ⟨t,ht⟩ : ∃ t,xs[i]=t:=⟨_,rfl⟩;rw [ht] at hA HST HAT;have c0:wr.cell? ⟨b,off+i,none⟩=some (.string t):=by have:=hA 0 _ rfl; simpa using this
   have c0':wr.cell? ⟨b,off+i*1,none⟩=some (.string t):=by simpa using c0
   clear hA hat ht;by_cases he:t.toList=s.toList
   ·have HX:Hid (decide (0≤(i:Int))=ans):=by unfold Hid; rw [HV.out,HAT.out (decide_eq_true he)]; simp
    have hbq:(s.toList==t.toList)=true:=by simp [he]
    clear he;go_wp2_with fail
    go_ret;exact ⟨i,rfl,by omega,by omega,HX,HL.out⟩
   ·have HN2:Hid ((xs.take (i+1)).any (fun t=>decide (t.toList=s.toList))=false):=by unfold Hid; rw [HST.out,HN.out,decide_eq_false he]; rfl
    have hbq:(s.toList==t.toList)=false:=by simp; exact fun e=>he e.symm
    clear he;go_wp2_with fail
    go_roundw
    case rel=>exact ⟨i+1,by omega,by go_num,HN2.out,HL.out⟩
    case measure=>simp [intOf]; omega
  ·have hie:i=xs.length:=by omega
   have HX:Hid (decide (0≤(-1:Int))=ans):=by unfold Hid; have:=HN.out; rw [hie,List.take_length] at this; rw [HV.out,this]; rfl
   go_wp2_with fail
   go_ret;exact ⟨-1,rfl,by omega,by omega,HX,HL.out⟩
theorem strHas_any (xs:List ByteArray) (s:ByteArray) (a:Option Addr) (cap:Nat) (w:World) (hlen:xs.length≤1048576) (hr:SlIs strL1 1 w a xs) :
  Cb 96 #[.slice a xs.length cap,.string s] w (.bool (inL xs s)):=by
 have HI:Hid _:=strIndex_any xs s a cap w hlen hr;generalize inL xs s=ans at *;clear hr;go_enter Tryz.func96,Tryz.ntmps96
 go_wp2_with fail
 refine Calls.mono HI.out ?_;rintro e w1 ⟨j,rfl,h1,h2,h3,b1⟩;have B1:Hid _:=b1;clear b1;go_wp2_with fail
 go_ret;exact ⟨ret_bool h3.out,B1.out⟩
def poolA (xs:List ByteArray):Bool:=decide (1≤xs.length)&&decide (xs.length≤8)&&upN addrOne xs xs.length
theorem implPoolA_any (xs:List ByteArray) (a:Option Addr) (cap:Nat) (w:World) (hlen:xs.length≤1048576) (hcap:xs.length≤cap) (hsz:∀ s∈xs,s.size≤1048576) (hr:SlIs strL1 1 w a xs) :
  Cb 163 #[.slice a xs.length cap] w (.bool (poolA xs)):=by
 have HR:Hid (SlIs strL1 1 w a xs):=hr;have HZ:Hid (∀ s∈xs,s.size≤1048576):=hsz;have HV:Hid (poolA xs=(decide (1≤xs.length)&&decide (xs.length≤8)&&upN addrOne xs xs.length)):=rfl;generalize poolA xs=ans at *;have hun:undef=Value.tuple #[]:=rfl;clear hr hsz;by_cases h1:xs.length < 1
 ·have HX:Hid (ans=false):=by unfold Hid; rw [HV.out,decide_eq_false (show ¬ 1≤xs.length by omega)]; rfl
  have h1':(xs.length:Int) < 1:=by omega
  go_enter Tryz.func163,Tryz.ntmps163
  go_wp2_with fail
  go_ret;exact ⟨ret_bool HX.out.symm,Below.refl _ _⟩
 ·have h1n:¬ (xs.length:Int) < 1:=by omega
  by_cases h2:8 < xs.length
  ·have HX:Hid (ans=false):=by unfold Hid; rw [HV.out,decide_eq_false (show ¬ xs.length≤8 by omega)]; simp
   have h2':(8:Int) < (xs.length:Int):=by omega
   go_enter Tryz.func163,Tryz.ntmps163
   go_wp2_with fail
   go_ret;exact ⟨ret_bool HX.out.symm,Below.refl _ _⟩
  ·have HU:Hid (ans=upN addrOne xs xs.length):=by unfold Hid; rw [HV.out,decide_eq_true (show 1≤xs.length by omega),decide_eq_true (show xs.length≤8 by omega)]; rfl
   have h2n:¬ (8:Int) < (xs.length:Int):=by omega
   clear HV;go_enter Tryz.func163,Tryz.ntmps163
   go_wp2_with fail
   go_loopw [15] (fun iv wr=>∃ i:Nat,i≤xs.length∧iv=iV i∧upN addrOne xs i=true∧Below w.z w wr) (fun iv _=>xs.length-(intOf iv).toNat)
   case atStart=>exact ⟨0,Nat.zero_le _,rfl,rfl,Below.refl _ _⟩
   case round =>
    obtain ⟨i,hi,rfl,hn,hbel⟩:=hrel;have HN:Hid (upN addrOne xs i=true):=hn;have HL:Hid (Below w.z w wr):=hbel;clear hn hbel;by_cases hlt:i < xs.length
    ·obtain ⟨b,off,rfl,hb,hat⟩:=HR.out.at hlt;have hA:=(hat.below hb HL.out) i hlt;have HST:Hid _:=upN_step (f:=addrOne) hlt;have HATF:Hid (addrOne (xs.take i) xs[i]=false→upN addrOne xs xs.length=false):=upN_at hlt;have hts:=HZ.out xs[i] (List.getElem_mem hlt);obtain ⟨t,ht⟩ : ∃ t,xs[i]=t:=⟨_,rfl⟩;rw [ht] at hA HST HATF hts;have c0:wr.cell? ⟨b,off+i,none⟩=some (.string t):=by have:=hA 0 _ rfl; simpa using this
     have c0':wr.cell? ⟨b,off+i*1,none⟩=some (.string t):=by simpa using c0
     have HOV:Hid (addrOne (xs.take i) t=(decide (t.size=4)&&!inL (xs.take i) t)):=rfl;have hltI:(i:Int) < (xs.length:Int):=by omega
     have HC:Hid (∀ W,Below w.z w W→Cb 96 #[.slice (some ⟨b,off,none⟩) i cap,.string t] W (.bool (inL (xs.take i) t))):=fun W hW=>by
      have h:=strHas_any (xs.take i) t (some ⟨b,off,none⟩) cap W (by simp; omega) ((HR.out.below hW).take i);rw [List.length_take,Nat.min_eq_left (by omega)] at h; exact h
     generalize inL (xs.take i) t=il at *;clear hA hat ht;by_cases h4:t.size=4
     ·have h4i:(t.size:Int)=4:=by omega
      have d1:((t.size:Int) != 4)=false:=by simp [h4i]
      clear h4i;go_wp2_with fail
      refine (HC.out _ HL.out).mono ?_;rintro e w1 ⟨rfl,q1⟩;have HL1:Hid _:=HL.out.trans (q1.mono HL.out.size);clear q1
      cases il with
      | true =>
       have HX:Hid (ans=false):=by unfold Hid; rw [HU.out]; refine HATF.out ?_; rw [HOV.out]; simp
       go_wp2_with fail
       go_ret;exact ⟨ret_bool HX.out.symm,HL1.out⟩
      | false =>
       have HN2:Hid (upN addrOne xs (i+1)=true):=by unfold Hid; rw [HST.out,HN.out,HOV.out,decide_eq_true h4]; rfl
       go_wp2_with fail
       go_roundw
       case rel=>exact ⟨i+1,by omega,by go_num,HN2.out,HL1.out⟩
       case measure=>simp [intOf]; omega
     ·have HX:Hid (ans=false):=by unfold Hid; rw [HU.out]; refine HATF.out ?_; rw [HOV.out,decide_eq_false h4]; rfl
      have h4i:¬ (t.size:Int)=4:=by omega
      have d1:((t.size:Int) != 4)=true:=by simp [h4i]
      go_wp2_with fail
      go_ret;exact ⟨ret_bool HX.out.symm,HL.out⟩
    ·have hie:i=xs.length:=by omega
     have HX:Hid (ans=true):=by unfold Hid; have:=HN.out; rw [hie] at this; rw [HU.out]; exact this
     go_wp2_with fail
     go_ret;exact ⟨ret_bool HX.out.symm,HL.out⟩
end Go.Proofs.YtdkepkaflielhaaGreatDoor
