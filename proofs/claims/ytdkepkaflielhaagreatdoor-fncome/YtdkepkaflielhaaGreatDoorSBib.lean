import Derived.Test.YtdkepkaflielhaaGreatDoorAb
import Derived.Test.YtdkepkaflielhaaGreatDoorBibs2
import Derived.Test.YtdkepkaflielhaaGreatDoorLawBind
import Derived.Test.YtdkepkaflielhaaGreatDoorFlatS
import Derived.Test.YtdkepkaflielhaaGreatDoorHoldL
import Derived.Deep.DeepCutAuto
set_option linter.unusedVariables false
set_option linter.unusedSimpArgs false
set_option maxRecDepth 100000
set_option maxHeartbeats 8000000
namespace Go.Proofs.YtdkepkaflielhaaGreatDoor
open Go.RowKit Go.PlainAid
theorem any_take {α:Type} (f:α→Bool) (xs:List α) (i:Nat) (h:i < xs.length):(xs.take (i+1)).any f=((xs.take i).any f||f xs[i]):=by
 rw [List.take_succ_eq_append_getElem h,List.any_append]; simp
theorem any_at {α:Type} (f:α→Bool) (xs:List α) (i:Nat) (h:i < xs.length) (hf:f xs[i]=true):xs.any f=true:=List.any_eq_true.2 ⟨_,List.getElem_mem h,hf⟩
theorem findI_at {α:Type} (f:α→Bool) (xs:List α) (i:Nat) (h:i < xs.length) (hn:(xs.take i).any f=false) (hf:f xs[i]=true):findI f xs=i:=by
 have:xs.findIdx? f=some i:=by
  rw [List.findIdx?_eq_some_iff_getElem];refine ⟨h,hf,fun j hj=>?_⟩;have hjl:j < xs.length:=Nat.lt_trans hj h;have:=List.any_eq_false.1 hn (xs[j]) (by rw [List.mem_take_iff_getElem]; exact ⟨j,by omega,rfl⟩);simpa using this
 unfold findI; rw [this]
theorem findI_no {α:Type} (f:α→Bool) (xs:List α) (hn:xs.any f=false):findI f xs=-1:=by
 have:xs.findIdx? f=none:=by
  rw [List.findIdx?_eq_none_iff];intro x hx;have:=List.any_eq_false.1 hn x hx;simpa using this
 unfold findI; rw [this]
theorem spBProto_any (proto:Int) (w:World) :
  Cw 69 #[iV proto] w (.bool (protoB proto)):=by
 have hun:undef=Value.tuple #[]:=rfl;by_cases h0:proto=6
 ·subst h0;go_enter Tryz.func69,Tryz.ntmps69
  go_wp2_with fail
  go_ret;exact ⟨rfl,rfl⟩
 ·by_cases h1:proto=17
  ·subst h1;go_enter Tryz.func69,Tryz.ntmps69
   go_wp2_with fail
   go_ret;exact ⟨rfl,rfl⟩
  ·by_cases h2:proto=1
   ·subst h2;go_enter Tryz.func69,Tryz.ntmps69
    go_wp2_with fail
    go_ret;exact ⟨rfl,rfl⟩
   ·have HV:Hid (protoB proto=false):=by unfold Hid protoB; simp [h0,h1,h2]
    go_enter Tryz.func69,Tryz.ntmps69
    go_wp2_with fail
    go_ret;exact ⟨ret_bool (by rw [HV.out]; simp [h0,h1,h2]),rfl⟩
theorem spIn_any (xs:List ByteArray) (s:ByteArray) (a:Option Addr) (cap:Nat) (w:World) (hlen:xs.length≤1048576) (hr:SlIs strL1 1 w a xs) :
  Cb 68 #[.slice a xs.length cap,.string s] w (.bool (inL xs s)):=by
 have HR:Hid (SlIs strL1 1 w a xs):=hr;have HV:Hid (inL xs s=xs.any fun t=>decide (t.toList=s.toList)):=rfl;generalize inL xs s=ans at *;clear hr;go_enter Tryz.func68,Tryz.ntmps68
 go_wp2_with fail
 go_loopw [5] (fun iv wr=>∃ i:Nat,i≤xs.length∧iv=iV i∧(xs.take i).any (fun t=>decide (t.toList=s.toList))=false∧Below w.heap.size w wr) (fun iv _=>xs.length-(intOf iv).toNat)
 case atStart=>exact ⟨0,Nat.zero_le _,rfl,rfl,Below.refl _ _⟩
 case round =>
  obtain ⟨i,hi,rfl,hn,hbel⟩:=hrel;have HN:Hid ((xs.take i).any (fun t=>decide (t.toList=s.toList))=false):=hn;have HL:Hid (Below w.heap.size w wr):=hbel;clear hn hbel;by_cases hlt:i < xs.length
  ·obtain ⟨b,off,rfl,hb,hat⟩:=HR.out.at hlt;have hA:=(hat.below hb HL.out) i hlt;have HST:Hid _:=any_take (fun t:ByteArray=>decide (t.toList=s.toList)) xs i hlt;have HAT:Hid _:=any_at (fun t:ByteArray=>decide (t.toList=s.toList)) xs i hlt;obtain ⟨t,ht⟩ : ∃ t,xs[i]=t:=⟨_,rfl⟩;rw [ht] at hA HST HAT;have c0:wr.cell? ⟨b,off+i,none⟩=some (.string t):=by have:=hA 0 _ rfl; simpa using this
   have c0':wr.cell? ⟨b,off+i*1,none⟩=some (.string t):=by simpa using c0
   clear hA hat ht;by_cases he:t.toList=s.toList
   ·have HX:Hid (ans=true):=by unfold Hid; rw [HV.out]; exact HAT.out (decide_eq_true he)
    have hbq:(t.toList==s.toList)=true:=by simp [he]
    clear he;go_wp2_with fail
    go_ret;exact ⟨ret_bool HX.out.symm,HL.out⟩
   ·have HN2:Hid ((xs.take (i+1)).any (fun t=>decide (t.toList=s.toList))=false):=by unfold Hid; rw [HST.out,HN.out,decide_eq_false he]; rfl
    have hbq:(t.toList==s.toList)=false:=by simp [he]
    clear he;go_wp2_with fail
    go_roundw
    case rel=>exact ⟨i+1,by omega,by go_num,HN2.out,HL.out⟩
    case measure=>simp [intOf]; omega
  ·have hie:i=xs.length:=by omega
   have HX:Hid (ans=false):=by unfold Hid; have:=HN.out; rw [hie,List.take_length] at this; rw [HV.out]; exact this
   go_wp2_with fail
   go_ret;exact ⟨ret_bool HX.out.symm,HL.out⟩
theorem spBind_any (xs:List Bd) (proto:Int) (s:ByteArray) (port:Int) (a:Option Addr) (cap:Nat) (sv:Value) (w:World) (hlen:xs.length≤1048576) (hr:SlIs bdL 5 w a xs) :
  Cb 33 #[.agg #[.slice a xs.length cap,sv],iV proto,.string s,iV port] w (iV (findI (ofIn proto s port) xs)):=by
 have HB0:Hid (HoldsL (w.alloc (.cells [.slice a xs.length cap,sv].toArray 31)) w.heap.size [.slice a xs.length cap,sv]):=HoldsL.new w _ _;have HZ:Hid (Below w.heap.size w (w.alloc (.cells [.slice a xs.length cap,sv].toArray 31))):=bR.alloc (Nat.le_refl _) _;have HR:Hid (SlIs bdL 5 (w.alloc (.cells [.slice a xs.length cap,sv].toArray 31)) a xs):=hr.below HZ.out;rw [show [.slice a xs.length cap,sv].toArray=#[.slice a xs.length cap,sv] from rfl] at HB0 HZ HR;obtain ⟨f,hf⟩ : ∃ f,f=ofIn proto s port:=⟨_,rfl⟩;rw [← hf];have HF:Hid (∀ q,f q=(decide (q.proto=proto)&&decide (q.inn.toList=s.toList)&&decide (q.inPort=port))):=fun q=>by rw [hf]; rfl
 clear hr hf;go_enter Tryz.func33,Tryz.ntmps33
 go_wp2_with fail
 generalize w.alloc (.cells #[.slice a xs.length cap,sv] 31)=W0 at *;have hX0:w.heap.size < W0.heap.size:=HB0.out.lt (by simp);generalize hX:w.heap.size=X at *;go_loopw [9] (fun iv wr=>∃ i:Nat,i≤xs.length∧iv=iV i∧(xs.take i).any f=false∧Below W0.heap.size W0 wr) (fun iv _=>xs.length-(intOf iv).toNat)
 case atStart=>exact ⟨0,Nat.zero_le _,rfl,rfl,Below.refl _ _⟩
 case round =>
  obtain ⟨i,hi,rfl,hn,hbel⟩:=hrel;have HN:Hid ((xs.take i).any f=false):=hn;have HL:Hid (Below W0.heap.size W0 wr):=hbel;have HW:Hid _:=HZ.out.trans (hbel.mono (by omega));have x0:wr.cell? ⟨X,0,none⟩=some (.slice a xs.length cap):=(HB0.out.kept (by simp) hbel).cell rfl;clear hn hbel;by_cases hlt:i < xs.length
  ·obtain ⟨b,off,rfl,hb,hat⟩:=HR.out.at hlt;have hA:=(hat.below hb HL.out) i hlt;have HST:Hid _:=any_take f xs i hlt;have HAT:Hid _:=findI_at f xs i hlt HN.out;obtain ⟨q,hq⟩ : ∃ q,xs[i]=q:=⟨_,rfl⟩;rw [hq] at hA HST HAT;have hfq:=HF.out q;have c0:wr.cell? ⟨b,off+i*5,none⟩=some (iV q.proto):=hA 0 _ rfl;have c1:wr.cell? ⟨b,off+i*5+1,none⟩=some (.string q.inn):=hA 1 _ rfl;have c2:wr.cell? ⟨b,off+i*5+2,none⟩=some (iV q.inPort):=hA 2 _ rfl;have c3:wr.cell? ⟨b,off+i*5+3,none⟩=some (.string q.out):=hA 3 _ rfl;have c4:wr.cell? ⟨b,off+i*5+4,none⟩=some (iV q.outPort):=hA 4 _ rfl;have HFQ:Hid _:=hfq;have L8:Hid (Below W0.heap.size W0 (wr.alloc (.cells (BdV q).toArray 48))):=HL.out.alloc HL.out.size _;have W8:Hid (Below X w (wr.alloc (.cells (BdV q).toArray 48))):=HW.out.alloc (by have:=HL.out.size; omega) _;have K8:Hid (BoxBind (wr.alloc (.cells (BdV q).toArray 48)) wr.heap.size q):=BoxBind.new wr q;clear hA hat hq hfq;go_upto_region 5 with fail
   clear c0 c1 c2 c3 c4 x0 HL HW;generalize wr.alloc (.cells (BdV q).toArray 48)=V8 at *;generalize wr.heap.size=Y at *;obtain ⟨k0,k1,k2,k3,k4⟩:=K8.out;go_cut [38] (fun v wx=>v=.bool (f q)∧wx=V8)
   case first =>
    by_cases d0:q.proto=proto
    ·by_cases d1:q.inn.toList=s.toList
     ·by_cases d2:q.inPort=port
      ·have HG:Hid (f q=true):=by unfold Hid; rw [HFQ.out,decide_eq_true d0,decide_eq_true d1,decide_eq_true d2]; rfl
       go_wp2_with fail
       go_meet;rw [HG.out];first | exact ⟨rfl,rfl⟩ | simp [d2]
      ·have HG:Hid (f q=false):=by unfold Hid; rw [HFQ.out,decide_eq_true d0,decide_eq_true d1,decide_eq_false d2]; rfl
       go_wp2_with fail
       go_meet;rw [HG.out];first | exact ⟨rfl,rfl⟩ | simp [d2]
     ·have HG:Hid (f q=false):=by unfold Hid; rw [HFQ.out,decide_eq_false d1]; simp
      go_wp2_with fail
      go_meet;rw [HG.out];first | exact ⟨rfl,rfl⟩ | simp [d1]
    ·have HG:Hid (f q=false):=by unfold Hid; rw [HFQ.out,decide_eq_false d0]; simp
     go_wp2_with fail
     go_meet;rw [HG.out];first | exact ⟨rfl,rfl⟩ | simp [d0]
   case rest =>
   obtain ⟨rfl,rfl⟩:=hcut;clear k0 k1 k2 k3 k4
   cases hfq:f q with
   | true =>
    have HX:Hid (findI f xs=(i:Int)):=HAT.out hfq;go_wp2_with fail
    go_ret;exact ⟨ret_int HX.out.symm,by rw [hX]; exact W8.out⟩
   | false =>
    have HN2:Hid ((xs.take (i+1)).any f=false):=by unfold Hid; rw [HST.out,HN.out,hfq]; rfl
    go_wp2_with fail
    go_roundw
    case rel=>exact ⟨i+1,by omega,by go_num,HN2.out,L8.out⟩
    case measure=>simp [intOf]; omega
  ·have hie:i=xs.length:=by omega
   have HX:Hid (findI f xs=-1):=by unfold Hid; have:=HN.out; rw [hie,List.take_length] at this; exact findI_no f xs this
   go_wp2_with fail
   go_ret;exact ⟨ret_int HX.out.symm,by rw [hX]; exact HW.out⟩
theorem spAt_any (xs:List Bd) (proto:Int) (s:ByteArray) (port:Int) (a:Option Addr) (cap:Nat) (sv:Value) (w:World) (hlen:xs.length≤1048576) (hr:SlIs bdL 5 w a xs) :
  Cb 156 #[.agg #[.slice a xs.length cap,sv],iV proto,.string s,iV port] w (iV (findI (ofOut proto s port) xs)):=by
 have HB0:Hid (HoldsL (w.alloc (.cells [.slice a xs.length cap,sv].toArray 31)) w.heap.size [.slice a xs.length cap,sv]):=HoldsL.new w _ _;have HZ:Hid (Below w.heap.size w (w.alloc (.cells [.slice a xs.length cap,sv].toArray 31))):=bR.alloc (Nat.le_refl _) _;have HR:Hid (SlIs bdL 5 (w.alloc (.cells [.slice a xs.length cap,sv].toArray 31)) a xs):=hr.below HZ.out;rw [show [.slice a xs.length cap,sv].toArray=#[.slice a xs.length cap,sv] from rfl] at HB0 HZ HR;obtain ⟨f,hf⟩ : ∃ f,f=ofOut proto s port:=⟨_,rfl⟩;rw [← hf];have HF:Hid (∀ q,f q=(decide (q.proto=proto)&&decide (q.out.toList=s.toList)&&decide (q.outPort=port))):=fun q=>by rw [hf]; rfl
 clear hr hf;go_enter Tryz.func156,Tryz.ntmps156
 go_wp2_with fail
 generalize w.alloc (.cells #[.slice a xs.length cap,sv] 31)=W0 at *;have hX0:w.heap.size < W0.heap.size:=HB0.out.lt (by simp);generalize hX:w.heap.size=X at *;go_loopw [9] (fun iv wr=>∃ i:Nat,i≤xs.length∧iv=iV i∧(xs.take i).any f=false∧Below W0.heap.size W0 wr) (fun iv _=>xs.length-(intOf iv).toNat)
 case atStart=>exact ⟨0,Nat.zero_le _,rfl,rfl,Below.refl _ _⟩
 case round =>
  obtain ⟨i,hi,rfl,hn,hbel⟩:=hrel;have HN:Hid ((xs.take i).any f=false):=hn;have HL:Hid (Below W0.heap.size W0 wr):=hbel;have HW:Hid _:=HZ.out.trans (hbel.mono (by omega));have x0:wr.cell? ⟨X,0,none⟩=some (.slice a xs.length cap):=(HB0.out.kept (by simp) hbel).cell rfl;clear hn hbel;by_cases hlt:i < xs.length
  ·obtain ⟨b,off,rfl,hb,hat⟩:=HR.out.at hlt;have hA:=(hat.below hb HL.out) i hlt;have HST:Hid _:=any_take f xs i hlt;have HAT:Hid _:=findI_at f xs i hlt HN.out;obtain ⟨q,hq⟩ : ∃ q,xs[i]=q:=⟨_,rfl⟩;rw [hq] at hA HST HAT;have hfq:=HF.out q;have c0:wr.cell? ⟨b,off+i*5,none⟩=some (iV q.proto):=hA 0 _ rfl;have c1:wr.cell? ⟨b,off+i*5+1,none⟩=some (.string q.inn):=hA 1 _ rfl;have c2:wr.cell? ⟨b,off+i*5+2,none⟩=some (iV q.inPort):=hA 2 _ rfl;have c3:wr.cell? ⟨b,off+i*5+3,none⟩=some (.string q.out):=hA 3 _ rfl;have c4:wr.cell? ⟨b,off+i*5+4,none⟩=some (iV q.outPort):=hA 4 _ rfl;have HFQ:Hid _:=hfq;have L8:Hid (Below W0.heap.size W0 (wr.alloc (.cells (BdV q).toArray 48))):=HL.out.alloc HL.out.size _;have W8:Hid (Below X w (wr.alloc (.cells (BdV q).toArray 48))):=HW.out.alloc (by have:=HL.out.size; omega) _;have K8:Hid (BoxBind (wr.alloc (.cells (BdV q).toArray 48)) wr.heap.size q):=BoxBind.new wr q;clear hA hat hq hfq;go_upto_region 5 with fail
   clear c0 c1 c2 c3 c4 x0 HL HW;generalize wr.alloc (.cells (BdV q).toArray 48)=V8 at *;generalize wr.heap.size=Y at *;obtain ⟨k0,k1,k2,k3,k4⟩:=K8.out;go_cut [38] (fun v wx=>v=.bool (f q)∧wx=V8)
   case first =>
    by_cases d0:q.proto=proto
    ·by_cases d1:q.out.toList=s.toList
     ·by_cases d2:q.outPort=port
      ·have HG:Hid (f q=true):=by unfold Hid; rw [HFQ.out,decide_eq_true d0,decide_eq_true d1,decide_eq_true d2]; rfl
       go_wp2_with fail
       go_meet;rw [HG.out];first | exact ⟨rfl,rfl⟩ | simp [d2]
      ·have HG:Hid (f q=false):=by unfold Hid; rw [HFQ.out,decide_eq_true d0,decide_eq_true d1,decide_eq_false d2]; rfl
       go_wp2_with fail
       go_meet;rw [HG.out];first | exact ⟨rfl,rfl⟩ | simp [d2]
     ·have HG:Hid (f q=false):=by unfold Hid; rw [HFQ.out,decide_eq_false d1]; simp
      go_wp2_with fail
      go_meet;rw [HG.out];first | exact ⟨rfl,rfl⟩ | simp [d1]
    ·have HG:Hid (f q=false):=by unfold Hid; rw [HFQ.out,decide_eq_false d0]; simp
     go_wp2_with fail
     go_meet;rw [HG.out];first | exact ⟨rfl,rfl⟩ | simp [d0]
   case rest =>
   obtain ⟨rfl,rfl⟩:=hcut;clear k0 k1 k2 k3 k4
   cases hfq:f q with
   | true =>
    have HX:Hid (findI f xs=(i:Int)):=HAT.out hfq;go_wp2_with fail
    go_ret;exact ⟨ret_int HX.out.symm,by rw [hX]; exact W8.out⟩
   | false =>
    have HN2:Hid ((xs.take (i+1)).any f=false):=by unfold Hid; rw [HST.out,HN.out,hfq]; rfl
    go_wp2_with fail
    go_roundw
    case rel=>exact ⟨i+1,by omega,by go_num,HN2.out,L8.out⟩
    case measure=>simp [intOf]; omega
  ·have hie:i=xs.length:=by omega
   have HX:Hid (findI f xs=-1):=by unfold Hid; have:=HN.out; rw [hie,List.take_length] at this; exact findI_no f xs this
   go_wp2_with fail
   go_ret;exact ⟨ret_int HX.out.symm,by rw [hX]; exact HW.out⟩
end Go.Proofs.YtdkepkaflielhaaGreatDoor
