import Derived.Test.YtdkepkaflielhaaGreatDoorSz
import Derived.Test.YtdkepkaflielhaaGreatDoorAb
import Derived.Test.YtdkepkaflielhaaGreatDoorSBib
import Derived.Test.YtdkepkaflielhaaGreatDoorIBk3
set_option linter.unusedVariables false
set_option linter.unusedSimpArgs false
set_option maxRecDepth 100000
set_option maxHeartbeats 8000000
namespace Go.Proofs.YtdkepkaflielhaaGreatDoor
open Go.RowKit Go.PlainAid
theorem indexS_any (xs:List ByteArray) (s:ByteArray) (a:Option Addr) (cap:Nat) (w:World) (hlen:xs.length≤1048576) (hr:SlIs strL1 1 w a xs) :
  Calls Tryz.prog 128 #[.slice a xs.length cap,.string s] w fun e w'=>(∃ r:Int,e=.returned (iV r)∧decide (0≤r)=inL xs s)∧Below w.heap.size w w':=by
 have HR:Hid (SlIs strL1 1 w a xs):=hr;have HV:Hid (inL xs s=xs.any fun t=>decide (t.toList=s.toList)):=rfl;generalize inL xs s=ans at *;clear hr;go_enter Tryz.func128,Tryz.ntmps128
 go_wp2_with fail
 go_loopw [8] (fun iv wr=>∃ i:Nat,i≤xs.length∧iv=iV i∧(xs.take i).any (fun t=>decide (t.toList=s.toList))=false∧Below w.z w wr) (fun iv _=>xs.length-(intOf iv).toNat)
 case atStart=>exact ⟨0,Nat.zero_le _,rfl,rfl,Below.refl _ _⟩
 case round =>
  obtain ⟨i,hi,rfl,hn,hbel⟩:=hrel;have HN:Hid ((xs.take i).any (fun t=>decide (t.toList=s.toList))=false):=hn;have HL:Hid (Below w.z w wr):=hbel;clear hn hbel;by_cases hlt:i < xs.length
  ·obtain ⟨b,off,rfl,hb,hat⟩:=HR.out.at hlt;have hA:=(hat.below hb HL.out) i hlt;have HST:Hid _:=any_take (fun t:ByteArray=>decide (t.toList=s.toList)) xs i hlt;have HAT:Hid _:=any_at (fun t:ByteArray=>decide (t.toList=s.toList)) xs i hlt;obtain ⟨t,ht⟩ : ∃ t,xs[i]=t:=⟨_,rfl⟩;rw [ht] at hA HST HAT;have c0:wr.cell? ⟨b,off+i,none⟩=some (.string t):=by have:=hA 0 _ rfl; simpa using this
   have c0':wr.cell? ⟨b,off+i*1,none⟩=some (.string t):=by simpa using c0
   clear hA hat ht;by_cases he:t.toList=s.toList
   ·have HX:Hid (ans=true):=by unfold Hid; rw [HV.out]; exact HAT.out (decide_eq_true he)
    have hbq:(s.toList==t.toList)=true:=by simp [he]
    clear he;go_wp2_with fail
    go_ret;exact ⟨⟨i,rfl,by rw [HX.out]; simp⟩,HL.out⟩
   ·have HN2:Hid ((xs.take (i+1)).any (fun t=>decide (t.toList=s.toList))=false):=by unfold Hid; rw [HST.out,HN.out,decide_eq_false he]; rfl
    have hbq:(s.toList==t.toList)=false:=by simp; exact fun h=>he h.symm
    clear he;go_wp2_with fail
    go_roundw
    case rel=>exact ⟨i+1,by omega,by go_num,HN2.out,HL.out⟩
    case measure=>simp [intOf]; omega
  ·have hie:i=xs.length:=by omega
   have HX:Hid (ans=false):=by unfold Hid; have:=HN.out; rw [hie,List.take_length] at this; rw [HV.out]; exact this
   go_wp2_with fail
   go_ret;exact ⟨⟨-1,rfl,by rw [HX.out]; rfl⟩,HL.out⟩
theorem containsS_any (xs:List ByteArray) (s:ByteArray) (a:Option Addr) (cap:Nat) (w:World) (hlen:xs.length≤1048576) (hr:SlIs strL1 1 w a xs) :
  Cb 96 #[.slice a xs.length cap,.string s] w (.bool (inL xs s)):=by
 have HC:Hid _:=indexS_any xs s a cap w hlen hr;clear hr;go_enter Tryz.func96,Tryz.ntmps96
 go_wp2_with fail
 refine Calls.mono HC.out ?_;rintro e w1 ⟨⟨r,rfl,hr⟩,b1⟩;have HR:Hid (decide (0≤r)=inL xs s):=hr;clear hr HC;go_wp2_with fail
 go_ret;exact ⟨ret_bool HR.out,b1⟩
def wayI (pa:Option Addr) (n pc:Nat):Value:=.iface 82 (.agg #[.slice pa n pc])
theorem leadsI_any (xs:List ByteArray) (s:ByteArray) (pa:Option Addr) (pc:Nat) (w:World) (hlen:xs.length≤1048576) (hr:SlIs strL1 1 w pa xs) :
  Cb 57 #[wayI pa xs.length pc,.string s] w (.bool (inL xs s)):=by
 have t1:∀ W,(Instr.typeAssert (.iface 82 (.agg #[.slice pa xs.length pc])) 99 82 true).run Tryz.prog W=.ok (.tuple #[.agg #[.slice pa xs.length pc],.bool true]) W:=fun W=>by kernel_rfl
 have HC:Hid (∀ W,Below w.z w W→Cb 96 #[.slice pa xs.length pc,.string s] W (.bool (inL xs s))):=fun W hW=>containsS_any xs s pa pc W hlen (hr.below hW)
 have HB:Hid (Below w.z w (w.alloc (.cells #[.slice pa xs.length pc] 82))):=bR.alloc lR _;clear hr;unfold wayI;go_enter Tryz.func57,Tryz.ntmps57
 go_wp2_with fail
 refine (HC.out _ HB.out).mono ?_;rintro e w1 ⟨rfl,b1⟩;have HB1:Hid _:=HB.out.trans (b1.mono HB.out.size);clear b1 HC;go_wp2_with fail
 go_ret;exact ⟨rfl,HB1.out⟩
end Go.Proofs.YtdkepkaflielhaaGreatDoor
