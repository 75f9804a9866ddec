import Derived.Test.YtdkepkaflielhaaGreatDoorMerged3
import Derived.Deep.RegionWith
set_option linter.unusedVariables false
set_option linter.unusedSimpArgs false
set_option maxRecDepth 100000
set_option maxHeartbeats 8000000
namespace Go.Proofs.YtdkepkaflielhaaGreatDoor
open Go.RowKit Go.PlainAid
theorem any_take {α:Type} (f:α→Bool) (xs:List α) (i:Nat) (h:i < xs.length):(xs.take (i+1)).any f=((xs.take i).any f||f xs[i]):=by
 rw [List.take_succ_eq_append_getElem h,List.any_append]; simp
theorem any_at {α:Type} (f:α→Bool) (xs:List α) (i:Nat) (h:i < xs.length) (hf:f xs[i]=true):xs.any f=true:=List.any_eq_true.2 ⟨_,List.getElem_mem h,hf⟩
theorem findI_at {α:Type} (f:α→Bool) (xs:List α) (i:Nat) (h:i < xs.length) (hn:(xs.take i).any f=false) (hf:f xs[i]=true):findI f xs=i:=by
 have:xs.findIdx? f=some i:=by
  rw [List.findIdx?_eq_some_iff_getElem];refine ⟨h,hf,fun j hj=>?_⟩;have hjl:j < xs.length:=Nat.lt_trans hj h;have:=List.any_eq_false.1 hn (xs[j]) (by rw [List.mem_take_iff_getElem]; exact ⟨j,by omega,rfl⟩);simpa using this
 unfold findI; rw [this]
theorem findI_no {α:Type} (f:α→Bool) (xs:List α) (hn:xs.any f=false):findI f xs=-1:=by
 have:xs.findIdx? f=none:=by
  rw [List.findIdx?_eq_none_iff];intro x hx;have:=List.any_eq_false.1 hn x hx;simpa using this
 unfold findI; rw [this]
theorem spBProto_any (proto:Int) (w:World) :
  Cw 69 #[iV proto] w (.bool (protoB proto)):=by
 have hun:undef=Value.tuple #[]:=rfl;by_cases h0:proto=6
 ·subst h0;go_enter Tryz.func69,Tryz.ntmps69
  go_wp2_with fail
  go_ret;exact ⟨rfl,rfl⟩
 ·by_cases h1:proto=17
  ·subst h1;go_enter Tryz.func69,Tryz.ntmps69
   go_wp2_with fail
   go_ret;exact ⟨rfl,rfl⟩
  ·by_cases h2:proto=1
   ·subst h2;go_enter Tryz.func69,Tryz.ntmps69
    go_wp2_with fail
    go_ret;exact ⟨rfl,rfl⟩
   ·have HV:Hid (protoB proto=false):=by unfold Hid protoB; simp [h0,h1,h2]
    go_enter Tryz.func69,Tryz.ntmps69
    go_wp2_with fail
    go_ret;exact ⟨ret_bool (by rw [HV.out]; simp [h0,h1,h2]),rfl⟩
theorem spIn_any (xs:List ByteArray) (s:ByteArray) (a:Option Addr) (cap:Nat) (w:World) (hlen:xs.length≤1048576) (hr:SlIs strL1 1 w a xs) :
  Cb 68 #[.slice a xs.length cap,.string s] w (.bool (inL xs s)):=by
 have HR:Hid (SlIs strL1 1 w a xs):=hr;have HV:Hid (inL xs s=xs.any fun t=>decide (t.toList=s.toList)):=rfl;generalize inL xs s=ans at *;clear hr;go_enter Tryz.func68,Tryz.ntmps68
 go_wp2_with fail
 go_loopw [5] (fun iv wr=>∃ i:Nat,i≤xs.length∧iv=iV i∧(xs.take i).any (fun t=>decide (t.toList=s.toList))=false∧Below w.heap.size w wr) (fun iv _=>xs.length-(intOf iv).toNat)
 case atStart=>exact ⟨0,Nat.zero_le _,rfl,rfl,Below.refl _ _⟩
 case round =>
  obtain ⟨i,hi,rfl,hn,hbel⟩:=hrel;have HN:Hid ((xs.take i).any (fun t=>decide (t.toList=s.toList))=false):=hn;have HL:Hid (Below w.heap.size w wr):=hbel;clear hn hbel;by_cases hlt:i < xs.length
  ·obtain ⟨b,off,rfl,hb,hat⟩:=HR.out.at hlt;have hA:=(hat.below hb HL.out) i hlt;have HST:Hid _:=any_take (fun t:ByteArray=>decide (t.toList=s.toList)) xs i hlt;have HAT:Hid _:=any_at (fun t:ByteArray=>decide (t.toList=s.toList)) xs i hlt;obtain ⟨t,ht⟩ : ∃ t,xs[i]=t:=⟨_,rfl⟩;rw [ht] at hA HST HAT;have c0:wr.cell? ⟨b,off+i,none⟩=some (.string t):=by have:=hA 0 _ rfl; simpa using this
   have c0':wr.cell? ⟨b,off+i*1,none⟩=some (.string t):=by simpa using c0
   clear hA hat ht;by_cases he:t.toList=s.toList
   ·have HX:Hid (ans=true):=by unfold Hid; rw [HV.out]; exact HAT.out (decide_eq_true he)
    have hbq:(t.toList==s.toList)=true:=by simp [he]
    clear he;go_wp2_with fail
    go_ret;exact ⟨ret_bool HX.out.symm,HL.out⟩
   ·have HN2:Hid ((xs.take (i+1)).any (fun t=>decide (t.toList=s.toList))=false):=by unfold Hid; rw [HST.out,HN.out,decide_eq_false he]; rfl
    have hbq:(t.toList==s.toList)=false:=by simp [he]
    clear he;go_wp2_with fail
    go_roundw
    case rel=>exact ⟨i+1,by omega,by go_num,HN2.out,HL.out⟩
    case measure=>simp [intOf]; omega
  ·have hie:i=xs.length:=by omega
   have HX:Hid (ans=false):=by unfold Hid; have:=HN.out; rw [hie,List.take_length] at this; rw [HV.out]; exact this
   go_wp2_with fail
   go_ret;exact ⟨ret_bool HX.out.symm,HL.out⟩
theorem spBind_any (xs:List Bd) (proto:Int) (s:ByteArray) (port:Int) (a:Option Addr) (cap:Nat) (sv:Value) (w:World) (hlen:xs.length≤1048576) (hr:SlIs bdL 5 w a xs) :
  Cb 33 #[.agg #[.slice a xs.length cap,sv],iV proto,.string s,iV port] w (iV (findI (ofIn proto s port) xs)):=by
 have HB0:Hid (HoldsL (w.alloc (.cells [.slice a xs.length cap,sv].toArray 31)) w.heap.size [.slice a xs.length cap,sv]):=HoldsL.new w _ _;have HZ:Hid (Below w.heap.size w (w.alloc (.cells [.slice a xs.length cap,sv].toArray 31))):=bR.alloc lR _;have HR:Hid (SlIs bdL 5 (w.alloc (.cells [.slice a xs.length cap,sv].toArray 31)) a xs):=hr.below HZ.out;rw [show [.slice a xs.length cap,sv].toArray=#[.slice a xs.length cap,sv] from rfl] at HB0 HZ HR;obtain ⟨f,hf⟩ : ∃ f,f=ofIn proto s port:=⟨_,rfl⟩;rw [← hf];have HF:Hid (∀ q,f q=(decide (q.proto=proto)&&decide (q.inn.toList=s.toList)&&decide (q.inPort=port))):=fun q=>by rw [hf]; rfl
 clear hr hf;go_enter Tryz.func33,Tryz.ntmps33
 go_wp2_with fail
 generalize w.alloc (.cells #[.slice a xs.length cap,sv] 31)=W0 at *;have hX0:w.heap.size < W0.heap.size:=HB0.out.lt (by simp);generalize hX:w.heap.size=X at *;go_loopw [9] (fun iv wr=>∃ i:Nat,i≤xs.length∧iv=iV i∧(xs.take i).any f=false∧Below W0.heap.size W0 wr) (fun iv _=>xs.length-(intOf iv).toNat)
 case atStart=>exact ⟨0,Nat.zero_le _,rfl,rfl,Below.refl _ _⟩
 case round =>
  obtain ⟨i,hi,rfl,hn,hbel⟩:=hrel;have HN:Hid ((xs.take i).any f=false):=hn;have HL:Hid (Below W0.heap.size W0 wr):=hbel;have HW:Hid _:=HZ.out.trans (hbel.mono (by omega));have x0:wr.cell? ⟨X,0,none⟩=some (.slice a xs.length cap):=(HB0.out.kept (by simp) hbel).cell rfl;clear hn hbel;by_cases hlt:i < xs.length
  ·obtain ⟨b,off,rfl,hb,hat⟩:=HR.out.at hlt;have hA:=(hat.below hb HL.out) i hlt;have HST:Hid _:=any_take f xs i hlt;have HAT:Hid _:=findI_at f xs i hlt HN.out;obtain ⟨q,hq⟩ : ∃ q,xs[i]=q:=⟨_,rfl⟩;rw [hq] at hA HST HAT;have hfq:=HF.out q;obtain ⟨c0,c1,c2,c3,c4⟩:=rc5 hA;have HFQ:Hid _:=hfq;have L8:Hid (Below W0.heap.size W0 (wr.alloc (.cells (BdV q).toArray 48))):=HL.out.alloc HL.out.size _;have W8:Hid (Below X w (wr.alloc (.cells (BdV q).toArray 48))):=HW.out.alloc (by have:=HL.out.size; omega) _;have K8:Hid (BoxBind (wr.alloc (.cells (BdV q).toArray 48)) wr.heap.size q):=BoxBind.new wr q;clear hA hat hq hfq;go_upto_region 5 with fail
   clear c0 c1 c2 c3 c4 x0 HL HW;generalize wr.alloc (.cells (BdV q).toArray 48)=V8 at *;generalize wr.heap.size=Y at *;obtain ⟨k0,k1,k2,k3,k4⟩:=K8.out;go_cut [38] (fun v wx=>v=.bool (f q)∧wx=V8)
   case first =>
    by_cases d0:q.proto=proto
    ·by_cases d1:q.inn.toList=s.toList
     ·by_cases d2:q.inPort=port
      ·have HG:Hid (f q=true):=by unfold Hid; rw [HFQ.out,decide_eq_true d0,decide_eq_true d1,decide_eq_true d2]; rfl
       go_wp2_with fail
       go_meet;rw [HG.out];first | exact ⟨rfl,rfl⟩ | simp [d2]
      ·have HG:Hid (f q=false):=by unfold Hid; rw [HFQ.out,decide_eq_true d0,decide_eq_true d1,decide_eq_false d2]; rfl
       go_wp2_with fail
       go_meet;rw [HG.out];first | exact ⟨rfl,rfl⟩ | simp [d2]
     ·have HG:Hid (f q=false):=by unfold Hid; rw [HFQ.out,decide_eq_false d1]; simp
      go_wp2_with fail
      go_meet;rw [HG.out];first | exact ⟨rfl,rfl⟩ | simp [d1]
    ·have HG:Hid (f q=false):=by unfold Hid; rw [HFQ.out,decide_eq_false d0]; simp
     go_wp2_with fail
     go_meet;rw [HG.out];first | exact ⟨rfl,rfl⟩ | simp [d0]
   case rest =>
   obtain ⟨rfl,rfl⟩:=hcut;clear k0 k1 k2 k3 k4
   cases hfq:f q with
   | true =>
    have HX:Hid (findI f xs=(i:Int)):=HAT.out hfq;go_wp2_with fail
    go_ret;exact ⟨ret_int HX.out.symm,by rw [hX]; exact W8.out⟩
   | false =>
    have HN2:Hid ((xs.take (i+1)).any f=false):=by unfold Hid; rw [HST.out,HN.out,hfq]; rfl
    go_wp2_with fail
    go_roundw
    case rel=>exact ⟨i+1,by omega,by go_num,HN2.out,L8.out⟩
    case measure=>simp [intOf]; omega
  ·have hie:i=xs.length:=by omega
   have HX:Hid (findI f xs=-1):=by unfold Hid; have:=HN.out; rw [hie,List.take_length] at this; exact findI_no f xs this
   go_wp2_with fail
   go_ret;exact ⟨ret_int HX.out.symm,by rw [hX]; exact HW.out⟩
theorem spAt_any (xs:List Bd) (proto:Int) (s:ByteArray) (port:Int) (a:Option Addr) (cap:Nat) (sv:Value) (w:World) (hlen:xs.length≤1048576) (hr:SlIs bdL 5 w a xs) :
  Cb 156 #[.agg #[.slice a xs.length cap,sv],iV proto,.string s,iV port] w (iV (findI (ofOut proto s port) xs)):=by
 have HB0:Hid (HoldsL (w.alloc (.cells [.slice a xs.length cap,sv].toArray 31)) w.heap.size [.slice a xs.length cap,sv]):=HoldsL.new w _ _;have HZ:Hid (Below w.heap.size w (w.alloc (.cells [.slice a xs.length cap,sv].toArray 31))):=bR.alloc lR _;have HR:Hid (SlIs bdL 5 (w.alloc (.cells [.slice a xs.length cap,sv].toArray 31)) a xs):=hr.below HZ.out;rw [show [.slice a xs.length cap,sv].toArray=#[.slice a xs.length cap,sv] from rfl] at HB0 HZ HR;obtain ⟨f,hf⟩ : ∃ f,f=ofOut proto s port:=⟨_,rfl⟩;rw [← hf];have HF:Hid (∀ q,f q=(decide (q.proto=proto)&&decide (q.out.toList=s.toList)&&decide (q.outPort=port))):=fun q=>by rw [hf]; rfl
 clear hr hf;go_enter Tryz.func156,Tryz.ntmps156
 go_wp2_with fail
 generalize w.alloc (.cells #[.slice a xs.length cap,sv] 31)=W0 at *;have hX0:w.heap.size < W0.heap.size:=HB0.out.lt (by simp);generalize hX:w.heap.size=X at *;go_loopw [9] (fun iv wr=>∃ i:Nat,i≤xs.length∧iv=iV i∧(xs.take i).any f=false∧Below W0.heap.size W0 wr) (fun iv _=>xs.length-(intOf iv).toNat)
 case atStart=>exact ⟨0,Nat.zero_le _,rfl,rfl,Below.refl _ _⟩
 case round =>
  obtain ⟨i,hi,rfl,hn,hbel⟩:=hrel;have HN:Hid ((xs.take i).any f=false):=hn;have HL:Hid (Below W0.heap.size W0 wr):=hbel;have HW:Hid _:=HZ.out.trans (hbel.mono (by omega));have x0:wr.cell? ⟨X,0,none⟩=some (.slice a xs.length cap):=(HB0.out.kept (by simp) hbel).cell rfl;clear hn hbel;by_cases hlt:i < xs.length
  ·obtain ⟨b,off,rfl,hb,hat⟩:=HR.out.at hlt;have hA:=(hat.below hb HL.out) i hlt;have HST:Hid _:=any_take f xs i hlt;have HAT:Hid _:=findI_at f xs i hlt HN.out;obtain ⟨q,hq⟩ : ∃ q,xs[i]=q:=⟨_,rfl⟩;rw [hq] at hA HST HAT;have hfq:=HF.out q;obtain ⟨c0,c1,c2,c3,c4⟩:=rc5 hA;have HFQ:Hid _:=hfq;have L8:Hid (Below W0.heap.size W0 (wr.alloc (.cells (BdV q).toArray 48))):=HL.out.alloc HL.out.size _;have W8:Hid (Below X w (wr.alloc (.cells (BdV q).toArray 48))):=HW.out.alloc (by have:=HL.out.size; omega) _;have K8:Hid (BoxBind (wr.alloc (.cells (BdV q).toArray 48)) wr.heap.size q):=BoxBind.new wr q;clear hA hat hq hfq;go_upto_region 5 with fail
   clear c0 c1 c2 c3 c4 x0 HL HW;generalize wr.alloc (.cells (BdV q).toArray 48)=V8 at *;generalize wr.heap.size=Y at *;obtain ⟨k0,k1,k2,k3,k4⟩:=K8.out;go_cut [38] (fun v wx=>v=.bool (f q)∧wx=V8)
   case first =>
    by_cases d0:q.proto=proto
    ·by_cases d1:q.out.toList=s.toList
     ·by_cases d2:q.outPort=port
      ·have HG:Hid (f q=true):=by unfold Hid; rw [HFQ.out,decide_eq_true d0,decide_eq_true d1,decide_eq_true d2]; rfl
       go_wp2_with fail
       go_meet;rw [HG.out];first | exact ⟨rfl,rfl⟩ | simp [d2]
      ·have HG:Hid (f q=false):=by unfold Hid; rw [HFQ.out,decide_eq_true d0,decide_eq_true d1,decide_eq_false d2]; rfl
       go_wp2_with fail
       go_meet;rw [HG.out];first | exact ⟨rfl,rfl⟩ | simp [d2]
     ·have HG:Hid (f q=false):=by unfold Hid; rw [HFQ.out,decide_eq_false d1]; simp
      go_wp2_with fail
      go_meet;rw [HG.out];first | exact ⟨rfl,rfl⟩ | simp [d1]
    ·have HG:Hid (f q=false):=by unfold Hid; rw [HFQ.out,decide_eq_false d0]; simp
     go_wp2_with fail
     go_meet;rw [HG.out];first | exact ⟨rfl,rfl⟩ | simp [d0]
   case rest =>
   obtain ⟨rfl,rfl⟩:=hcut;clear k0 k1 k2 k3 k4
   cases hfq:f q with
   | true =>
    have HX:Hid (findI f xs=(i:Int)):=HAT.out hfq;go_wp2_with fail
    go_ret;exact ⟨ret_int HX.out.symm,by rw [hX]; exact W8.out⟩
   | false =>
    have HN2:Hid ((xs.take (i+1)).any f=false):=by unfold Hid; rw [HST.out,HN.out,hfq]; rfl
    go_wp2_with fail
    go_roundw
    case rel=>exact ⟨i+1,by omega,by go_num,HN2.out,L8.out⟩
    case measure=>simp [intOf]; omega
  ·have hie:i=xs.length:=by omega
   have HX:Hid (findI f xs=-1):=by unfold Hid; have:=HN.out; rw [hie,List.take_length] at this; exact findI_no f xs this
   go_wp2_with fail
   go_ret;exact ⟨ret_int HX.out.symm,by rw [hX]; exact HW.out⟩
open Go.ChangeShapes Go.WideShapes
structure BoxSession (w:World) (B:Nat) (p:Ss):Prop where
 c0:w.cell? ⟨B,0,none⟩=some (iV p.proto)
 c1:w.cell? ⟨B,1,none⟩=some (.string p.inn)
 c2:w.cell? ⟨B,2,none⟩=some (iV p.inPort)
 c3:w.cell? ⟨B,3,none⟩=some (.string p.peer)
 c4:w.cell? ⟨B,4,none⟩=some (iV p.peerPort)
 c5:w.cell? ⟨B,5,none⟩=some (iV p.state)
 c6:w.cell? ⟨B,6,none⟩=some (iV p.untl)
def bdZ:Bd:=⟨0,⟨#[]⟩,0,⟨#[]⟩,0⟩
def bindV (f:Bd→Bool) (xs:List Bd) (s:ByteArray):Bd:=if 20000 < s.size then bdZ else (xs.find? f).getD bdZ
theorem findBd_at (f:Bd→Bool) (xs:List Bd) (h:¬ findI f xs < 0):∃ i:Nat,∃ hi:i < xs.length,findI f xs=i∧xs.find? f=some xs[i]:=by
 unfold findI at *
 cases hf:xs.findIdx? f with
 | none=>rw [hf] at h; exact absurd (by decide) h
 | some i =>
  obtain ⟨hi,hfi,hn⟩:=List.findIdx?_eq_some_iff_getElem.1 hf;exact ⟨i,hi,rfl,List.find?_eq_some_iff_getElem.2 ⟨hfi,i,hi,rfl,fun j hj=>by simpa using hn j hj⟩⟩
theorem find_no (f:Bd→Bool) (xs:List Bd) (h:findI f xs < 0):xs.find? f=none:=by
 unfold findI at h
 cases hf:xs.findIdx? f with
 | none=>exact List.find?_eq_none.2 (fun x hx=>by have:=List.findIdx?_eq_none_iff.1 hf x hx; simp [this])
 | some i=>rw [hf] at h; simp only at h; omega
theorem specBindOf_any (xs:List Bd) (proto:Int) (s:ByteArray) (port:Int) (a:Option Addr) (cap:Nat) (sv:Value) (w:World) (hlen:xs.length≤1048576) (hr:SlIs bdL 5 w a xs) :
  Cb 11 #[.agg #[.slice a xs.length cap,sv],iV proto,.string s,iV port] w (bdC (bindV (ofIn proto s port) xs s)):=by
 have HB0:Hid (HoldsL (w.alloc (.cells #[.slice a xs.length cap,sv] 31)) w.heap.size [.slice a xs.length cap,sv]):=HoldsL.new w _ _;rw [show [.slice a xs.length cap,sv].toArray=#[.slice a xs.length cap,sv] from rfl] at HB0;have HZ0:Hid (Below w.heap.size w (w.alloc (.cells #[.slice a xs.length cap,sv] 31))):=bR.alloc lR _;have HRB:Hid (HoldsL ((aW w [.slice a xs.length cap,sv] 31).alloc (.cells (bdL bdZ).toArray 48)) (w.alloc (.cells #[.slice a xs.length cap,sv] 31)).heap.size (bdL bdZ)):=HoldsL.new _ _ _;rw [show (bdL bdZ).toArray=(BdR 0 ⟨#[]⟩ 0 ⟨#[]⟩ 0).toArray from rfl] at HRB;have HB1:Hid (HoldsL ((aW w [.slice a xs.length cap,sv] 31).alloc (.cells (BdR 0 ⟨#[]⟩ 0 ⟨#[]⟩ 0).toArray 48)) w.heap.size [.slice a xs.length cap,sv]):=HB0.out.alloc _;have HZ:Hid (Below w.heap.size w ((aW w [.slice a xs.length cap,sv] 31).alloc (.cells (BdR 0 ⟨#[]⟩ 0 ⟨#[]⟩ 0).toArray 48))):=HZ0.out.alloc HZ0.out.size _;rw [World.size_alloc] at HRB;have hRw:w.heap.size≤w.heap.size+1:=Nat.le_succ _;have HSI:Hid (SlIs bdL 5 ((aW w [.slice a xs.length cap,sv] 31).alloc (.cells (BdR 0 ⟨#[]⟩ 0 ⟨#[]⟩ 0).toArray 48)) a xs):=hr.below HZ.out;have HC:Hid (∀ W,SlIs bdL 5 W a xs→Cb 33 #[.agg #[.slice a xs.length cap,sv],iV proto,.string s,iV port] W (iV (findI (ofIn proto s port) xs))):=fun W hW=>spBind_any xs proto s port a cap sv W hlen hW
 have HV:Hid (bindV (ofIn proto s port) xs s=if 20000 < s.size then bdZ else (xs.find? (ofIn proto s port)).getD bdZ):=rfl;generalize bindV (ofIn proto s port) xs s=ans at *;generalize ofIn proto s port=f at *;clear hr HB0 HZ0;obtain ⟨b0,b1⟩ : _∧_:=⟨HB1.out.cell (j:=0) rfl,HB1.out.cell (j:=1) rfl⟩;go_enter Tryz.func11,Tryz.ntmps11
 go_wp2_with fail
 generalize World.alloc _ _=W0 at *;refine (HC.out W0 HSI.out).mono ?_;rintro e w1 ⟨rfl,q1⟩;have HW:Hid _:=HZ.out.trans (q1.mono HZ.out.size);have HB2:=HB1.out.kept (by simp) q1;have HR2:=HRB.out.kept (by simp [bdL]) q1;have HS2:Hid (SlIs bdL 5 w1 a xs):=HSI.out.below q1;clear b0 b1 HZ HC HSI q1;have b0:=HB2.cell (j:=0) rfl;have z0:=HR2.cell (j:=0) rfl;have zf0:=HR2.free (j:=0) (by simp [bdL]);have z1:=HR2.cell (j:=1) rfl;have zf1:=HR2.free (j:=1) (by simp [bdL]);have z2:=HR2.cell (j:=2) rfl;have zf2:=HR2.free (j:=2) (by simp [bdL]);have z3:=HR2.cell (j:=3) rfl;have zf3:=HR2.free (j:=3) (by simp [bdL]);have z4:=HR2.cell (j:=4) rfl;have zf4:=HR2.free (j:=4) (by simp [bdL]);have PF:Hid (∀ v0 v1 v2 v3 v4,Below w.heap.size w ((sW (sW (sW (sW w1 (w.heap.size+1) 0 v0) (w.heap.size+1) 1 v1) (w.heap.size+1) 2 v2) (w.heap.size+1) 3 v3).setCell ⟨w.heap.size+1,4,none⟩ v4)):=fun v0 v1 v2 v3 v4=>(((((HW.out.setCell (p:=⟨w.heap.size+1,0,none⟩) hRw v0).setCell (p:=⟨w.heap.size+1,1,none⟩) hRw v1).setCell (p:=⟨w.heap.size+1,2,none⟩) hRw v2).setCell (p:=⟨w.heap.size+1,3,none⟩) hRw v3).setCell (p:=⟨w.heap.size+1,4,none⟩) hRw v4)
 clear HB1 HRB HB2 HR2;by_cases hk:findI f xs < 0
 ·have HX:Hid (ans=bdZ):=by unfold Hid; rw [HV.out,find_no f xs hk]; split<;>rfl
  generalize findI f xs=k at *;go_wp2_with fail
  refine bodyPost_ret (v:=.agg (BdR 0 ⟨#[]⟩ 0 ⟨#[]⟩ 0).toArray) (by simp [results,Tryz.results11,go_sem,z0,z1,z2,z3,z4]) rfl (And.intro (congrArg (fun x=>Ending.returned (bdC x)) HX.out.symm) (PF.out _ _ _ _ _))
 ·obtain ⟨i,hi,hfi,hfd⟩:=findBd_at f xs hk;rw [hfi];clear hk hfi;by_cases hs:20000 < s.size
  ·have HX:Hid (ans=bdZ):=by unfold Hid; rw [HV.out,if_pos hs]
   have hs':(20000:Int) < (s.size:Int):=by omega
   go_wp2_with fail
   refine bodyPost_ret (v:=.agg (BdR 0 ⟨#[]⟩ 0 ⟨#[]⟩ 0).toArray) (by simp [results,Tryz.results11,go_sem,z0,z1,z2,z3,z4]) rfl (And.intro (congrArg (fun x=>Ending.returned (bdC x)) HX.out.symm) (PF.out _ _ _ _ _))
  ·obtain ⟨b,off,rfl,hb,hat⟩:=HS2.out.at hi;have hA:=hat i hi;obtain ⟨q,hq⟩ : ∃ q,xs[i]=q:=⟨_,rfl⟩;rw [hq] at hA hfd;have HX:Hid (ans=q):=by unfold Hid; rw [HV.out,if_neg hs,hfd]; rfl
   obtain ⟨c0,c1,c2,c3,c4⟩:=rc5 hA;have hs':¬ (20000:Int) < (s.size:Int):=by omega
   clear hA hat hq hfd;go_wp2_with fail
   refine bodyPost_ret (v:=.agg (BdV q).toArray) (by simp [results,Tryz.results11,go_sem,z0,z1,z2,z3,z4]) rfl (And.intro (congrArg (fun x=>Ending.returned (bdC x)) HX.out.symm) (PF.out _ _ _ _ _))
theorem spHas_any (p:Bd) (q:Ss) (w:World) :
  Cb 37 #[bdC p,ssC q] w (.bool (hasS p q)):=by
 have HV:Hid (hasS p q=(decide (p.proto=q.proto)&&decide (p.inn.toList=q.inn.toList)&&decide (p.inPort=q.inPort))):=rfl;generalize hasS p q=ans at *;obtain ⟨proto,inn,inPort,out,outPort⟩:=p;obtain ⟨proto',inn',inPort',peer',peerPort',state',untl'⟩:=q;unfold bdC ssC;dsimp only at *;have HZ:Hid (∀ o1 o2,Below w.heap.size w ((w.alloc o1).alloc o2)):=fun o1 o2=>(bR.alloc lR _).alloc (by simp) _
 go_enter Tryz.func37,Tryz.ntmps37
 go_wp2_with fail
 all_goals go_ret
 all_goals exact ⟨ret_bool (by rw [HV.out]; simp_all; try rfl),HZ.out _ _⟩
def ofHost (inn:ByteArray) (c:Bd):Bool:=decide (c.inn.toList=inn.toList)
def outD (p:Pl) (inn:ByteArray):ByteArray:=(p.addrs[(sumV inn).toNat % p.addrs.length]?).getD ⟨#[]⟩
def outIn (xs:List Bd) (d inn:ByteArray):ByteArray:=match xs.find? (ofHost inn) with | some c=>c.out | none=>d
def freeP (xs:List Bd) (proto:Int) (out:ByteArray) (n:Int):Bool:=decide (findI (ofOut proto out n) xs < 0)
def leastN (f:Int→Bool):Int→Nat→Option Int
 | _,0=>none
 | lo,c+1=>if f lo=true then some lo else leastN f (lo+1) c
def lendN (p:Pl) (xs:List Bd) (proto:Int) (out:ByteArray) (port:Int):Option Int :=
 if (isIn port p.low p.high&&freeP xs proto out port)=true then some port
 else match leastN (fun n=>decide (n % 2=port % 2)&&freeP xs proto out n) p.low (p.high-p.low+1).toNat with
  | some n=>some n
  | none=>leastN (freeP xs proto out) p.low (p.high-p.low+1).toNat
def lendV (p:Pl) (xs:List Bd) (proto:Int) (inn:ByteArray) (port:Int):Bd × Int :=
 match xs.find? (ofIn proto inn port) with
 | some c=>(c,0)
 | none=>match lendN p xs proto (outIn xs (outD p inn) inn) port with
  | some n=>(⟨proto,inn,port,outIn xs (outD p inn) inn,n⟩,0)
  | none=>(bdZ,9)
theorem leastN_step {f:Int→Bool} {n hi:Int} (h:n≤hi):leastN f n (hi-n+1).toNat=if f n=true then some n else leastN f (n+1) (hi-(n+1)+1).toNat:=by
 obtain ⟨c,hc⟩ : ∃ c:Nat,(hi-n+1).toNat=c+1:=⟨(hi-n).toNat,by omega⟩;rw [hc];show (if f n=true then some n else leastN f (n+1) c)=_;rw [show (hi-(n+1)+1).toNat=c by omega]
theorem leastN_end {f:Int→Bool} {n hi:Int} (h:hi < n):leastN f n (hi-n+1).toNat=none:=by
 rw [show (hi-n+1).toNat=0 by omega]; rfl
theorem outIn_step {xs:List Bd} {d inn:ByteArray} {i:Nat} (h:i < xs.length):outIn (xs.drop i) d inn=if ofHost inn xs[i]=true then xs[i].out else outIn (xs.drop (i+1)) d inn:=by
 unfold outIn;rw [List.drop_eq_getElem_cons h,List.find?_cons]
 cases hb:ofHost inn xs[i]<;>simp
theorem below_grown {n:Nat} {w w1 W:World} {B:Nat} (h:Below n w w1) (hg:w1.grownBy W (some B)) (hB:n≤B) (hn:n≤w1.heap.size:=by omega):Below n w W :=
 ⟨hg.os.trans h.os,hg.tape.trans h.tape,hg.output.trans h.output,Nat.le_trans h.size hg.size,fun k hk=>by rw [hg.block k (by omega) (by simp; omega),h.block k hk]⟩
section
variable {α:Type} (en:α→List Value) (n:Nat)
def flatS (xs:List α):List Value:=xs.flatMap en
def SlOwn (base:Nat) (w:World) (a:Option Addr) (xs:List α):Prop:=xs=[]∨∃ g,a=some ⟨g,0,none⟩∧base≤g∧SlLaid en n w g xs xs.length xs.length
def MkOwn (em:Nat→List Value) (base:Nat) (w:World) (a:Option Addr) (k L:Nat):Prop:=L=0∨∃ g,a=some ⟨g,0,none⟩∧base≤g∧SlLaid em n w g ((List.range L).map fun i=>k+n*i) L L
structure Row (base:Nat) (e:TypeId) (v:Value) (xs:List α) (w0 w:World):Prop where
 own:w.ownsRow base e n v xs.length (flatS en xs)
 bel:Below base w0 w
end
section
variable {α:Type} {en:α→List Value} {n:Nat} {w w0 W:World} {base:Nat} {e:TypeId} {v:Value} {xs:List α}
theorem flatS_length (hn:∀ x,(en x).length=n):∀ xs:List α,(flatS en xs).length=xs.length*n
 | []=>by simp [flatS]
 | x::xs=>by
  have:=flatS_length hn xs;unfold flatS at *;rw [List.flatMap_cons,List.length_append,this,hn,List.length_cons,Nat.succ_mul]; omega
theorem flatS_snoc (xs:List α) (q:α):flatS en (xs++[q])=flatS en xs++en q:=by
 unfold flatS; rw [List.flatMap_append]; simp
theorem flatS_get (hn:∀ x,(en x).length=n):∀ (xs:List α) (i:Nat) (h:i < xs.length) (j:Nat) (u:Value),(en xs[i])[j]?=some u→(flatS en xs)[i*n+j]?=some u
 | [],i,h,_,_,_=>by simp at h
 | x::xs,0,h,j,u,hu=>by
  have hj:=(List.getElem?_eq_some_iff.1 hu).1;unfold flatS;rw [List.flatMap_cons,Nat.zero_mul,Nat.zero_add,List.getElem?_append_left (by simpa using hj)];simpa using hu
 | x::xs,i+1,h,j,u,hu=>by
  have:=flatS_get hn xs i (by simpa using h) j u (by simpa using hu);unfold flatS at *;rw [List.flatMap_cons,List.getElem?_append_right (by rw [hn,Nat.succ_mul]; omega),hn];rw [show (i+1)*n+j-n=i*n+j by rw [Nat.succ_mul]; omega];exact this
theorem flatS_cells (hn:∀ x,(en x).length=n) (hn0:0 < n) {b off:Nat} (h:SlAt en n w b off xs) (j:Nat) (u:Value) (hu:(flatS en xs)[j]?=some u):w.cell? ⟨b,off+j,none⟩=some u:=by
 have hj:=(List.getElem?_eq_some_iff.1 hu).1;rw [flatS_length hn] at hj;have hi:j / n < xs.length:=(Nat.div_lt_iff_lt_mul hn0).2 hj;have hr:j % n < (en xs[j / n]).length:=by rw [hn]; exact Nat.mod_lt _ hn0
 have h1:=flatS_get hn xs (j / n) hi (j % n) _ (List.getElem?_eq_getElem hr);have e:j / n*n+j % n=j:=by rw [Nat.mul_comm]; exact Nat.div_add_mod j n
 rw [e,hu] at h1;have h2:=h (j / n) hi (j % n) _ (List.getElem?_eq_getElem hr);rw [Nat.add_assoc,e] at h2;rw [h2,h1]
theorem Row.laid (hn:∀ x,(en x).length=n) {g cap:Nat} (h:w.ownsRow base e n (.slice (some ⟨g,0,none⟩) xs.length cap) xs.length (flatS en xs)):SlLaid en n w g xs xs.length xs.length:=by
 have hs:SlLaid en n w g xs xs.length 0:=SlLaid.start h;refine ⟨hs.blk,fun i hi _ j u hu=>?_,hs.there,hs.free⟩;have hj:j < n:=by have:=(List.getElem?_eq_some_iff.1 hu).1; rwa [hn] at this
 have hb:i*n+j < xs.length*n:=by have:=Nat.mul_le_mul_right n (show i+1≤xs.length from hi); rw [Nat.succ_mul] at this; omega
 rw [h.cellAt _ hb];exact flatS_get hn xs i hi j u hu
theorem Row.shape (hn:∀ x,(en x).length=n) (h:Row en n base e v xs w0 w):∃ a cap,v=.slice a xs.length cap∧xs.length≤cap∧SlOwn en n base w a xs:=by
 rcases h.own.2 with ⟨h1,h2⟩ | ⟨g,cap,cur,h1,hb,hg,hc,_⟩
 ·have hx:xs.length=0:=by simpa using h2
  exact ⟨none,0,by rw [h1,hx],by omega,.inl (List.length_eq_zero_iff.1 hx)⟩
 ·refine ⟨some ⟨g,0,none⟩,cap,h1,hc,.inr ⟨g,rfl,hb,?_⟩⟩;have:=h.own;rw [h1] at this;exact Row.laid hn this
theorem SlOwn.is {a:Option Addr} (h:SlOwn en n base w a xs):SlIs en n w a xs:=by
 rcases h with h | ⟨g,rfl,_,h⟩
 ·exact .inl h
 ·exact h.is
theorem SlOwn.grown {a:Option Addr} (h:SlOwn en n base w a xs) {B:Nat} (hg:w.grownBy W (some B)) (hB:B < base):SlOwn en n base W a xs:=by
 rcases h with h | ⟨g,rfl,h1,h⟩
 ·exact .inl h
 ·refine .inr ⟨g,rfl,h1,?_⟩;have hb:=hg.block g h.blk (by simp; omega);have hc:∀ o,W.cell? ⟨g,o,none⟩=w.cell? ⟨g,o,none⟩:=fun o=>by unfold World.cell?; rw [show (⟨g,o,none⟩ : Addr).block=g from rfl,hb]
  have hf:∀ o,W.frozen? ⟨g,o,none⟩=w.frozen? ⟨g,o,none⟩:=fun o=>World.frozen?_of_block (a:=⟨g,o,none⟩) hb
  exact ⟨Nat.lt_of_lt_of_le h.blk hg.size,fun i hi hk j u hu=>(hc _).trans (h.at0 i hi hk j u hu),fun i hi=>by rw [hc]; exact h.there i hi,fun i hi=>by rw [hf]; exact h.free i hi⟩
theorem SlOwn.down {a:Option Addr} (h:SlOwn en n base w a xs) {b0:Nat} (hb:b0≤base):SlOwn en n b0 w a xs:=by
 rcases h with h | ⟨g,rfl,h1,h⟩
 ·exact .inl h
 ·exact .inr ⟨g,rfl,Nat.le_trans hb h1,h⟩
theorem SlOwn.kept {a:Option Addr} (h:SlOwn en n base w a xs) (hb:Below w.heap.size w W):SlOwn en n base W a xs:=by
 rcases h with h | ⟨g,rfl,h1,h⟩
 ·exact .inl h
 ·exact .inr ⟨g,rfl,h1,h.kept hb⟩
end
def oneM (x:Nat):ByteArray:=⟨#[UInt8.ofNat x]⟩
def markA (k:Nat) (o:ByteArray):ByteArray:=if h:k=0 then o else markA (k / 10) (oneM (48+k % 10)++o)
termination_by k
decreasing_by omega
def emM:ByteArray:=⟨#[109]⟩
def markV (k:Nat):ByteArray:=emM++markA k ⟨#[]⟩
def marksOf (n k L:Nat):List Nat:=(List.range L).map fun i=>k+n*i
structure MkSt (en:Nat→List Value) (n:Nat) (w0:World) (B k L m:Nat) (cs:List Value) (w:World):Prop where
 laid:SlLaid en n w B (marksOf n k L) L m
 part:w.rangeAt B (m*n) cs
 grown:w0.grownBy w (some B)
section
variable {en:Nat→List Value} {n:Nat} {w0 w w':World} {B k L m:Nat} {cs:List Value}
end
end Go.Proofs.YtdkepkaflielhaaGreatDoor
