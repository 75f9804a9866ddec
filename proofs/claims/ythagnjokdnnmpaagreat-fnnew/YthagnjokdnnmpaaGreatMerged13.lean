import Derived.Test.YthagnjokdnnmpaaGreatMerged11
import Derived.Test.YthagnjokdnnmpaaGreatMerged10
import Derived.Test.YthagnjokdnnmpaaGreatHoldL
import Derived.Deep.DeepCutAuto
import Derived.Test.YthagnjokdnnmpaaGreatMerged9
set_option linter.unusedVariables false
set_option linter.unusedSimpArgs false
set_option maxRecDepth 100000
set_option maxHeartbeats 8000000
namespace Go.Proofs.YthagnjokdnnmpaaGreat
open Go.RowKit Go.PlainAid
theorem any_take {α:Type} (f:α→Bool) (xs:List α) (i:Nat) (h:i < xs.length):(xs.take (i+1)).any f=((xs.take i).any f||f xs[i]):=by
 rw [List.take_succ_eq_append_getElem h,List.any_append]; simp
theorem any_at {α:Type} (f:α→Bool) (xs:List α) (i:Nat) (h:i < xs.length) (hf:f xs[i]=true):xs.any f=true:=List.any_eq_true.2 ⟨_,List.getElem_mem h,hf⟩
theorem findI_at {α:Type} (f:α→Bool) (xs:List α) (i:Nat) (h:i < xs.length) (hn:(xs.take i).any f=false) (hf:f xs[i]=true):findI f xs=i:=by
 have:xs.findIdx? f=some i:=by
  rw [List.findIdx?_eq_some_iff_getElem];refine ⟨h,hf,fun j hj=>?_⟩;have hjl:j < xs.length:=Nat.lt_trans hj h;have:=List.any_eq_false.1 hn (xs[j]) (by rw [List.mem_take_iff_getElem]; exact ⟨j,by omega,rfl⟩);simpa using this
 unfold findI; rw [this]
theorem findI_no {α:Type} (f:α→Bool) (xs:List α) (hn:xs.any f=false):findI f xs=-1:=by
 have:xs.findIdx? f=none:=by
  rw [List.findIdx?_eq_none_iff];intro x hx;have:=List.any_eq_false.1 hn x hx;simpa using this
 unfold findI; rw [this]
theorem spBProto_any (proto:Int) (w:World) :
  Calls Tryz.prog 141 #[.int .i64 proto] w fun e w'=>e=.returned (.bool (protoB proto))∧w'=w:=by
 have hun:undef=Value.tuple #[]:=rfl;by_cases h0:proto=6
 ·subst h0;go_enter Tryz.func141,Tryz.ntmps141
  go_wp2_with fail
  go_ret;exact ⟨rfl,rfl⟩
 ·by_cases h1:proto=17
  ·subst h1;go_enter Tryz.func141,Tryz.ntmps141
   go_wp2_with fail
   go_ret;exact ⟨rfl,rfl⟩
  ·by_cases h2:proto=1
   ·subst h2;go_enter Tryz.func141,Tryz.ntmps141
    go_wp2_with fail
    go_ret;exact ⟨rfl,rfl⟩
   ·have HV:Hid (protoB proto=false):=by unfold Hid protoB; simp [h0,h1,h2]
    go_enter Tryz.func141,Tryz.ntmps141
    go_wp2_with fail
    go_ret;exact ⟨ret_bool (by rw [HV.out]; simp [h0,h1,h2]),rfl⟩
theorem spIn_any (xs:List ByteArray) (s:ByteArray) (a:Option Addr) (cap:Nat) (w:World) (hlen:xs.length≤1048576) (hr:SlIs strL1 1 w a xs) :
  Calls Tryz.prog 140 #[.slice a xs.length cap,.string s] w fun e w'=>e=.returned (.bool (inL xs s))∧Below w.heap.size w w':=by
 have HR:Hid (SlIs strL1 1 w a xs):=hr;have HV:Hid (inL xs s=xs.any fun t=>decide (t.toList=s.toList)):=rfl;generalize inL xs s=ans at *;clear hr;go_enter Tryz.func140,Tryz.ntmps140
 go_wp2_with fail
 go_loopw [5] (fun iv wr=>∃ i:Nat,i≤xs.length∧iv=.int .i64 i∧(xs.take i).any (fun t=>decide (t.toList=s.toList))=false∧Below w.heap.size w wr) (fun iv _=>xs.length-(intOf iv).toNat)
 case atStart=>exact ⟨0,Nat.zero_le _,rfl,rfl,Below.refl _ _⟩
 case round =>
  obtain ⟨i,hi,rfl,hn,hbel⟩:=hrel;have HN:Hid ((xs.take i).any (fun t=>decide (t.toList=s.toList))=false):=hn;have HL:Hid (Below w.heap.size w wr):=hbel;clear hn hbel;by_cases hlt:i < xs.length
  ·obtain ⟨b,off,rfl,hb,hat⟩:=HR.out.at hlt;have hA:=(hat.below hb HL.out) i hlt;have HST:Hid _:=any_take (fun t:ByteArray=>decide (t.toList=s.toList)) xs i hlt;have HAT:Hid _:=any_at (fun t:ByteArray=>decide (t.toList=s.toList)) xs i hlt;obtain ⟨t,ht⟩ : ∃ t,xs[i]=t:=⟨_,rfl⟩;rw [ht] at hA HST HAT;have c0:wr.cell? ⟨b,off+i,none⟩=some (.string t):=by have:=hA 0 _ rfl; simpa using this
   have c0':wr.cell? ⟨b,off+i*1,none⟩=some (.string t):=by simpa using c0
   clear hA hat ht;by_cases he:t.toList=s.toList
   ·have HX:Hid (ans=true):=by unfold Hid; rw [HV.out]; exact HAT.out (decide_eq_true he)
    have hbq:(t.toList==s.toList)=true:=by simp [he]
    clear he;go_wp2_with fail
    go_ret;exact ⟨ret_bool HX.out.symm,HL.out⟩
   ·have HN2:Hid ((xs.take (i+1)).any (fun t=>decide (t.toList=s.toList))=false):=by unfold Hid; rw [HST.out,HN.out,decide_eq_false he]; rfl
    have hbq:(t.toList==s.toList)=false:=by simp [he]
    clear he;go_wp2_with fail
    go_roundw
    case rel=>exact ⟨i+1,by omega,by go_num,HN2.out,HL.out⟩
    case measure=>simp [intOf]; omega
  ·have hie:i=xs.length:=by omega
   have HX:Hid (ans=false):=by unfold Hid; have:=HN.out; rw [hie,List.take_length] at this; rw [HV.out]; exact this
   go_wp2_with fail
   go_ret;exact ⟨ret_bool HX.out.symm,HL.out⟩
theorem spBind_any (xs:List Bd) (proto:Int) (s:ByteArray) (port:Int) (a:Option Addr) (cap:Nat) (sv:Value) (w:World) (hlen:xs.length≤1048576) (hr:SlIs bdL 5 w a xs) :
  Calls Tryz.prog 143 #[.agg #[.slice a xs.length cap,sv],.int .i64 proto,.string s,.int .i64 port] w fun e w'=>e=.returned (.int .i64 (findI (ofIn proto s port) xs))∧Below w.heap.size w w':=by
 have HB0:Hid (HoldsL (w.alloc (.cells [.slice a xs.length cap,sv].toArray 36)) w.heap.size [.slice a xs.length cap,sv]):=HoldsL.new w _ _;have HZ:Hid (Below w.heap.size w (w.alloc (.cells [.slice a xs.length cap,sv].toArray 36))):=(Below.refl _ _).alloc (Nat.le_refl _) _;have HR:Hid (SlIs bdL 5 (w.alloc (.cells [.slice a xs.length cap,sv].toArray 36)) a xs):=hr.below HZ.out;rw [show [.slice a xs.length cap,sv].toArray=#[.slice a xs.length cap,sv] from rfl] at HB0 HZ HR;obtain ⟨f,hf⟩ : ∃ f,f=ofIn proto s port:=⟨_,rfl⟩;rw [← hf];have HF:Hid (∀ q,f q=(decide (q.proto=proto)&&decide (q.inn.toList=s.toList)&&decide (q.inPort=port))):=fun q=>by rw [hf]; rfl
 clear hr hf;go_enter Tryz.func143,Tryz.ntmps143
 go_wp2_with fail
 generalize w.alloc (.cells #[.slice a xs.length cap,sv] 36)=W0 at *;have hX0:w.heap.size < W0.heap.size:=HB0.out.lt (by simp);generalize hX:w.heap.size=X at *;go_loopw [9] (fun iv wr=>∃ i:Nat,i≤xs.length∧iv=.int .i64 i∧(xs.take i).any f=false∧Below W0.heap.size W0 wr) (fun iv _=>xs.length-(intOf iv).toNat)
 case atStart=>exact ⟨0,Nat.zero_le _,rfl,rfl,Below.refl _ _⟩
 case round =>
  obtain ⟨i,hi,rfl,hn,hbel⟩:=hrel;have HN:Hid ((xs.take i).any f=false):=hn;have HL:Hid (Below W0.heap.size W0 wr):=hbel;have HW:Hid (Below X w wr):=HZ.out.trans (hbel.mono (by omega));have x0:wr.cell? ⟨X,0,none⟩=some (.slice a xs.length cap):=(HB0.out.kept (by simp) hbel).cell rfl;clear hn hbel;by_cases hlt:i < xs.length
  ·obtain ⟨b,off,rfl,hb,hat⟩:=HR.out.at hlt;have hA:=(hat.below hb HL.out) i hlt;have HST:Hid _:=any_take f xs i hlt;have HAT:Hid _:=findI_at f xs i hlt HN.out;obtain ⟨q,hq⟩ : ∃ q,xs[i]=q:=⟨_,rfl⟩;rw [hq] at hA HST HAT;have hfq:=HF.out q;have c0:wr.cell? ⟨b,off+i*5,none⟩=some (.int .i64 q.proto):=hA 0 _ rfl;have c1:wr.cell? ⟨b,off+i*5+1,none⟩=some (.string q.inn):=hA 1 _ rfl;have c2:wr.cell? ⟨b,off+i*5+2,none⟩=some (.int .i64 q.inPort):=hA 2 _ rfl;have c3:wr.cell? ⟨b,off+i*5+3,none⟩=some (.string q.out):=hA 3 _ rfl;have c4:wr.cell? ⟨b,off+i*5+4,none⟩=some (.int .i64 q.outPort):=hA 4 _ rfl;have HFQ:Hid _:=hfq;have L8:Hid (Below W0.heap.size W0 (wr.alloc (.cells #[.int .i64 q.proto,.string q.inn,.int .i64 q.inPort,.string q.out,.int .i64 q.outPort] 153))):=HL.out.alloc HL.out.size _;have W8:Hid (Below X w (wr.alloc (.cells #[.int .i64 q.proto,.string q.inn,.int .i64 q.inPort,.string q.out,.int .i64 q.outPort] 153))):=HW.out.alloc (by have:=HL.out.size; omega) _;have K8:Hid (BoxBind (wr.alloc (.cells #[.int .i64 q.proto,.string q.inn,.int .i64 q.inPort,.string q.out,.int .i64 q.outPort] 153)) wr.heap.size q):=BoxBind.new wr q;clear hA hat hq hfq;go_upto_region 5 with fail
   clear c0 c1 c2 c3 c4 x0 HL HW;generalize wr.alloc (.cells #[.int .i64 q.proto,.string q.inn,.int .i64 q.inPort,.string q.out,.int .i64 q.outPort] 153)=V8 at *;generalize wr.heap.size=Y at *;obtain ⟨k0,k1,k2,k3,k4⟩:=K8.out;go_cut [38] (fun v wx=>v=.bool (f q)∧wx=V8)
   case first =>
    by_cases d0:q.proto=proto
    ·by_cases d1:q.inn.toList=s.toList
     ·by_cases d2:q.inPort=port
      ·have HG:Hid (f q=true):=by unfold Hid; rw [HFQ.out,decide_eq_true d0,decide_eq_true d1,decide_eq_true d2]; rfl
       go_wp2_with fail
       go_meet;rw [HG.out];first | exact ⟨rfl,rfl⟩ | simp [d2]
      ·have HG:Hid (f q=false):=by unfold Hid; rw [HFQ.out,decide_eq_true d0,decide_eq_true d1,decide_eq_false d2]; rfl
       go_wp2_with fail
       go_meet;rw [HG.out];first | exact ⟨rfl,rfl⟩ | simp [d2]
     ·have HG:Hid (f q=false):=by unfold Hid; rw [HFQ.out,decide_eq_false d1]; simp
      go_wp2_with fail
      go_meet;rw [HG.out];first | exact ⟨rfl,rfl⟩ | simp [d1]
    ·have HG:Hid (f q=false):=by unfold Hid; rw [HFQ.out,decide_eq_false d0]; simp
     go_wp2_with fail
     go_meet;rw [HG.out];first | exact ⟨rfl,rfl⟩ | simp [d0]
   case rest =>
   obtain ⟨rfl,rfl⟩:=hcut;clear k0 k1 k2 k3 k4
   cases hfq:f q with
   | true =>
    have HX:Hid (findI f xs=(i:Int)):=HAT.out hfq;go_wp2_with fail
    go_ret;exact ⟨ret_int HX.out.symm,by rw [hX]; exact W8.out⟩
   | false =>
    have HN2:Hid ((xs.take (i+1)).any f=false):=by unfold Hid; rw [HST.out,HN.out,hfq]; rfl
    go_wp2_with fail
    go_roundw
    case rel=>exact ⟨i+1,by omega,by go_num,HN2.out,L8.out⟩
    case measure=>simp [intOf]; omega
  ·have hie:i=xs.length:=by omega
   have HX:Hid (findI f xs=-1):=by unfold Hid; have:=HN.out; rw [hie,List.take_length] at this; exact findI_no f xs this
   go_wp2_with fail
   go_ret;exact ⟨ret_int HX.out.symm,by rw [hX]; exact HW.out⟩
def bdZ:Bd:=⟨0,⟨#[]⟩,0,⟨#[]⟩,0⟩
theorem findBd_at (f:Bd→Bool) (xs:List Bd) (h:¬ findI f xs < 0):∃ i:Nat,∃ hi:i < xs.length,findI f xs=i∧xs.find? f=some xs[i]:=by
 unfold findI at *
 cases hf:xs.findIdx? f with
 | none=>rw [hf] at h; exact absurd (by decide) h
 | some i =>
  obtain ⟨hi,hfi,hn⟩:=List.findIdx?_eq_some_iff_getElem.1 hf;exact ⟨i,hi,rfl,List.find?_eq_some_iff_getElem.2 ⟨hfi,i,hi,rfl,fun j hj=>by simpa using hn j hj⟩⟩
theorem find_no (f:Bd→Bool) (xs:List Bd) (h:findI f xs < 0):xs.find? f=none:=by
 unfold findI at h
 cases hf:xs.findIdx? f with
 | none=>exact List.find?_eq_none.2 (fun x hx=>by have:=List.findIdx?_eq_none_iff.1 hf x hx; simp [this])
 | some i=>rw [hf] at h; simp only at h; omega
theorem spHas_any (p:Bd) (q:Ss) (w:World) :
  Calls Tryz.prog 102 #[bdC p,ssC q] w fun e w'=>e=.returned (.bool (hasS p q))∧Below w.heap.size w w':=by
 have HV:Hid (hasS p q=(decide (p.proto=q.proto)&&decide (p.inn.toList=q.inn.toList)&&decide (p.inPort=q.inPort))):=rfl;generalize hasS p q=ans at *;obtain ⟨proto,inn,inPort,out,outPort⟩:=p;obtain ⟨proto',inn',inPort',peer',peerPort',state',untl'⟩:=q;unfold bdC ssC;dsimp only at *;have HZ:Hid (∀ o1 o2,Below w.heap.size w ((w.alloc o1).alloc o2)):=fun o1 o2=>((Below.refl _ _).alloc (Nat.le_refl _) _).alloc (by simp) _
 go_enter Tryz.func102,Tryz.ntmps102
 go_wp2_with fail
 all_goals go_ret
 all_goals exact ⟨ret_bool (by rw [HV.out]; simp_all; try rfl),HZ.out _ _⟩
end Go.Proofs.YthagnjokdnnmpaaGreat
namespace Go.Proofs.YthagnjokdnnmpaaGreat
open Go.RowKit
def ofHost (inn:ByteArray) (c:Bd):Bool:=decide (c.inn.toList=inn.toList)
def outIn (xs:List Bd) (d inn:ByteArray):ByteArray:=match xs.find? (ofHost inn) with | some c=>c.out | none=>d
open Go.PlainAid
theorem specLives_any (l:Lv) (w:World) :
  Calls Tryz.prog 139 #[lvC l] w fun e w'=>e=.returned (.bool (livesOk l))∧Below w.heap.size w w':=by
 have HC0:Hid (∀ W,Calls Tryz.prog 66 #[.int .i64 l.udp,.int .i64 1,.int .i64 10000] W fun e w'=>e=.returned (.bool (isIn l.udp 1 10000))∧w'=W):=fun W=>specIs_any _ _ _ W
 have HC1:Hid (∀ W,Calls Tryz.prog 66 #[.int .i64 l.echo,.int .i64 1,.int .i64 10000] W fun e w'=>e=.returned (.bool (isIn l.echo 1 10000))∧w'=W):=fun W=>specIs_any _ _ _ W
 have HC2:Hid (∀ W,Calls Tryz.prog 66 #[.int .i64 l.opening,.int .i64 1,.int .i64 10000] W fun e w'=>e=.returned (.bool (isIn l.opening 1 10000))∧w'=W):=fun W=>specIs_any _ _ _ W
 have HC3:Hid (∀ W,Calls Tryz.prog 66 #[.int .i64 l.opn,.int .i64 1,.int .i64 10000] W fun e w'=>e=.returned (.bool (isIn l.opn 1 10000))∧w'=W):=fun W=>specIs_any _ _ _ W
 have HC4:Hid (∀ W,Calls Tryz.prog 66 #[.int .i64 l.closing,.int .i64 1,.int .i64 10000] W fun e w'=>e=.returned (.bool (isIn l.closing 1 10000))∧w'=W):=fun W=>specIs_any _ _ _ W
 have HV:Hid (livesOk l=(isIn l.udp 1 10000&&isIn l.echo 1 10000&&isIn l.opening 1 10000&&isIn l.opn 1 10000&&isIn l.closing 1 10000)):=rfl;generalize livesOk l=ans at *;generalize isIn l.udp 1 10000=b0 at *;generalize isIn l.echo 1 10000=b1 at *;generalize isIn l.opening 1 10000=b2 at *;generalize isIn l.opn 1 10000=b3 at *;generalize isIn l.closing 1 10000=b4 at *;have HZ:Hid (Below w.heap.size w (w.alloc (.cells #[.int .i64 l.udp,.int .i64 l.echo,.int .i64 l.opening,.int .i64 l.opn,.int .i64 l.closing] 26))):=(Below.refl _ _).alloc (Nat.le_refl _) _;unfold lvC;go_enter Tryz.func139,Tryz.ntmps139
 go_wp2_with fail
 cases b0 with
 | false =>
  refine (HC0.out _).mono ?_;rintro e w0 ⟨rfl,rfl⟩;go_wp2_with fail
  go_ret;exact ⟨ret_bool (by rw [HV.out]; rfl),HZ.out⟩
 | true =>
  refine (HC0.out _).mono ?_;rintro e w0 ⟨rfl,rfl⟩;go_wp2_with fail
  cases b1 with
  | false =>
   refine (HC1.out _).mono ?_;rintro e w1 ⟨rfl,rfl⟩;go_wp2_with fail
   go_ret;exact ⟨ret_bool (by rw [HV.out]; rfl),HZ.out⟩
  | true =>
   refine (HC1.out _).mono ?_;rintro e w1 ⟨rfl,rfl⟩;go_wp2_with fail
   cases b2 with
   | false =>
    refine (HC2.out _).mono ?_;rintro e w2 ⟨rfl,rfl⟩;go_wp2_with fail
    go_ret;exact ⟨ret_bool (by rw [HV.out]; rfl),HZ.out⟩
   | true =>
    refine (HC2.out _).mono ?_;rintro e w2 ⟨rfl,rfl⟩;go_wp2_with fail
    cases b3 with
    | false =>
     refine (HC3.out _).mono ?_;rintro e w3 ⟨rfl,rfl⟩;go_wp2_with fail
     go_ret;exact ⟨ret_bool (by rw [HV.out]; rfl),HZ.out⟩
    | true =>
     refine (HC3.out _).mono ?_;rintro e w3 ⟨rfl,rfl⟩;go_wp2_with fail
     cases b4 with
     | false =>
      refine (HC4.out _).mono ?_;rintro e w4 ⟨rfl,rfl⟩;go_wp2_with fail
      go_ret;exact ⟨ret_bool (by rw [HV.out]; rfl),HZ.out⟩
     | true =>
      refine (HC4.out _).mono ?_;rintro e w4 ⟨rfl,rfl⟩;go_wp2_with fail
      go_ret;exact ⟨ret_bool (by rw [HV.out]; rfl),HZ.out⟩
end Go.Proofs.YthagnjokdnnmpaaGreat
