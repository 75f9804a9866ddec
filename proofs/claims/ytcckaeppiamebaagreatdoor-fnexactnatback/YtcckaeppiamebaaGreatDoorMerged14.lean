import Derived.Test.YtcckaeppiamebaaGreatDoorAb
import Derived.Test.YtcckaeppiamebaaGreatDoorMerged3
import Derived.Test.YtcckaeppiamebaaGreatDoorMerged5
import Derived.Test.YtcckaeppiamebaaGreatDoorMerged6
import Derived.Test.YtcckaeppiamebaaGreatDoorMerged12
import Derived.Test.YtcckaeppiamebaaGreatDoorMerged7
import Derived.Great.BuildSlice
import Derived.WalkKit
import Derived.PlainAid
import Derived.Test.YtcckaeppiamebaaGreatDoorMerged1
import Derived.Laws.StructEq
import Derived.BigQuiet
import Derived.Lib.QuietBelow
import Derived.Deep.DeepCutAuto
import Derived.Lib.LazyBuf
import Derived.Test.YtcckaeppiamebaaGreatDoorMerged2
import Derived.Deep.MidRow
import Derived.Deep.AppendLies
set_option linter.unusedVariables false
set_option linter.unusedSimpArgs false
set_option maxRecDepth 100000
set_option maxHeartbeats 8000000
namespace Go.Proofs.YtcckaeppiamebaaGreatDoor
open Go.RowKit Go.PlainAid
theorem indexS_any (xs:List ByteArray) (s:ByteArray) (a:Option Addr) (cap:Nat) (w:World) (hlen:xs.length≤1048576) (hr:SlIs strL1 1 w a xs) :
  Calls Tryz.prog 131 #[.slice a xs.length cap,.string s] w fun e w'=>(∃ r:Int,e=.returned (iV r)∧decide (0≤r)=inL xs s)∧Below w.heap.size w w':=by
 have HR:Hid (SlIs strL1 1 w a xs):=hr;have HV:Hid (inL xs s=xs.any fun t=>decide (t.toList=s.toList)):=rfl;generalize inL xs s=ans at *;clear hr;go_enter Tryz.func131,Tryz.ntmps131
 go_wp2_with fail
 go_loopw [8] (fun iv wr=>∃ i:Nat,i≤xs.length∧iv=iV i∧(xs.take i).any (fun t=>decide (t.toList=s.toList))=false∧Below w.heap.size w wr) (fun iv _=>xs.length-(intOf iv).toNat)
 case atStart=>exact ⟨0,Nat.zero_le _,rfl,rfl,Below.refl _ _⟩
 case round =>
  obtain ⟨i,hi,rfl,hn,hbel⟩:=hrel;have HN:Hid ((xs.take i).any (fun t=>decide (t.toList=s.toList))=false):=hn;have HL:Hid (Below w.heap.size w wr):=hbel;clear hn hbel;by_cases hlt:i < xs.length
  ·obtain ⟨b,off,rfl,hb,hat⟩:=HR.out.at hlt;have hA:=(hat.below hb HL.out) i hlt;have HST:Hid _:=any_take (fun t:ByteArray=>decide (t.toList=s.toList)) xs i hlt;have HAT:Hid _:=any_at (fun t:ByteArray=>decide (t.toList=s.toList)) xs i hlt;obtain ⟨t,ht⟩ : ∃ t,xs[i]=t:=⟨_,rfl⟩;rw [ht] at hA HST HAT;have c0:wr.cell? ⟨b,off+i,none⟩=some (.string t):=by have:=hA 0 _ rfl; simpa using this
   have c0':wr.cell? ⟨b,off+i*1,none⟩=some (.string t):=by simpa using c0
   clear hA hat ht;by_cases he:t.toList=s.toList
   ·have HX:Hid (ans=true):=by unfold Hid; rw [HV.out]; exact HAT.out (decide_eq_true he)
    have hbq:(s.toList==t.toList)=true:=by simp [he]
    clear he;go_wp2_with fail
    go_ret;exact ⟨⟨i,rfl,by rw [HX.out]; simp⟩,HL.out⟩
   ·have HN2:Hid ((xs.take (i+1)).any (fun t=>decide (t.toList=s.toList))=false):=by unfold Hid; rw [HST.out,HN.out,decide_eq_false he]; rfl
    have hbq:(s.toList==t.toList)=false:=by simp; exact fun h=>he h.symm
    clear he;go_wp2_with fail
    go_roundw
    case rel=>exact ⟨i+1,by omega,by go_num,HN2.out,HL.out⟩
    case measure=>simp [intOf]; omega
  ·have hie:i=xs.length:=by omega
   have HX:Hid (ans=false):=by unfold Hid; have:=HN.out; rw [hie,List.take_length] at this; rw [HV.out]; exact this
   go_wp2_with fail
   go_ret;exact ⟨⟨-1,rfl,by rw [HX.out]; rfl⟩,HL.out⟩
theorem containsS_any (xs:List ByteArray) (s:ByteArray) (a:Option Addr) (cap:Nat) (w:World) (hlen:xs.length≤1048576) (hr:SlIs strL1 1 w a xs) :
  Cb 96 #[.slice a xs.length cap,.string s] w (.bool (inL xs s)):=by
 have HC:Hid _:=indexS_any xs s a cap w hlen hr;clear hr;go_enter Tryz.func96,Tryz.ntmps96
 go_wp2_with fail
 refine Calls.mono HC.out ?_;rintro e w1 ⟨⟨r,rfl,hr⟩,b1⟩;have HR:Hid (decide (0≤r)=inL xs s):=hr;clear hr HC;go_wp2_with fail
 go_ret;exact ⟨ret_bool HR.out,b1⟩
def wayO:Value:=.iface 70 (.agg #[])
def wayI (pa:Option Addr) (n pc:Nat):Value:=.iface 80 (.agg #[.slice pa n pc])
theorem leadsO_any (s:ByteArray) (w:World) :
  Cb 59 #[wayO,.string s] w (.bool true):=by
 have t1:∀ W,(Instr.typeAssert (.iface 70 (.agg #[])) 106 80 true).run Tryz.prog W=.ok (.tuple #[.agg #[.slice none 0 0],.bool false]) W:=fun W=>by kernel_rfl
 have t2:∀ W,(Instr.typeAssert (.iface 70 (.agg #[])) 106 70 true).run Tryz.prog W=.ok (.tuple #[.agg #[],.bool true]) W:=fun W=>by kernel_rfl
 unfold wayO;go_enter Tryz.func59,Tryz.ntmps59
 go_wp2_with fail
 go_ret;exact ⟨rfl,bR.alloc (Nat.le_refl _) _⟩
theorem leadsI_any (xs:List ByteArray) (s:ByteArray) (pa:Option Addr) (pc:Nat) (w:World) (hlen:xs.length≤1048576) (hr:SlIs strL1 1 w pa xs) :
  Cb 59 #[wayI pa xs.length pc,.string s] w (.bool (inL xs s)):=by
 have t1:∀ W,(Instr.typeAssert (.iface 80 (.agg #[.slice pa xs.length pc])) 106 80 true).run Tryz.prog W=.ok (.tuple #[.agg #[.slice pa xs.length pc],.bool true]) W:=fun W=>by kernel_rfl
 have HC:Hid (∀ W,Below w.heap.size w W→Cb 96 #[.slice pa xs.length pc,.string s] W (.bool (inL xs s))):=fun W hW=>containsS_any xs s pa pc W hlen (hr.below hW)
 have HB:Hid (Below w.heap.size w (w.alloc (.cells #[.slice pa xs.length pc] 80))):=bR.alloc (Nat.le_refl _) _;clear hr;unfold wayI;go_enter Tryz.func59,Tryz.ntmps59
 go_wp2_with fail
 refine (HC.out _ HB.out).mono ?_;rintro e w1 ⟨rfl,b1⟩;have HB1:Hid _:=HB.out.trans (b1.mono HB.out.size);clear b1 HC;go_wp2_with fail
 go_ret;exact ⟨rfl,HB1.out⟩
theorem begins_any (flags:Int) (w:World) :
  Cw 169 #[iV flags] w (.bool (decide (bits .and .i64 flags 22=2))):=by
 by_cases h:bits .and .i64 flags 22=2
 ·go_enter Tryz.func169,Tryz.ntmps169
  go_wp2_with fail
  go_ret;exact ⟨ret_bool (by simp [h]),rfl⟩
 ·go_enter Tryz.func169,Tryz.ntmps169
  go_wp2_with fail
  go_ret;exact ⟨ret_bool (by simp [h]),rfl⟩
theorem new_byte {proto:Int} {inside:Bool} {flags:Int} (hf:isIn flags 0 255=true):trackNewV proto inside flags=if stillP proto=true then 3 else if proto=6 then (if bits .and .i64 flags 22=2 then (if inside=true then 1 else 2) else 0) else 0:=by
 unfold trackNewV;have e:=flags_22 hf;rw [if_neg (by rw [hf]; decide)];by_cases h1:stillP proto=true
 ·rw [if_pos h1,if_pos h1]
 ·rw [if_neg h1,if_neg h1];by_cases h2:proto=6
  ·rw [if_pos h2];by_cases h3:bits .and .i64 flags 22=2
   ·rw [if_pos h3,if_pos ⟨h2,e.mpr h3⟩]
   ·rw [if_neg h3,if_neg (fun h=>h3 (e.mp h.2))]
  ·rw [if_neg h2,if_neg (fun h=>h2 h.1)]
theorem new_range (proto:Int) (inside:Bool) (flags:Int):0≤trackNewV proto inside flags∧trackNewV proto inside flags≤3:=by
 unfold trackNewV;(repeat' split)<;>omega
theorem implNewB_any (proto:Int) (inside:Bool) (flags:Int) (w:World) (hf:isIn flags 0 255=true) :
  Cw 144 #[iV proto,.bool inside,iV flags] w (iV (trackNewV proto inside flags)):=by
 have HA:Hid (∀ W,Cw 148 #[iV proto] W (.bool (stillP proto))):=fun W=>implStill_any _ W
 have HC:Hid (∀ W,Cw 116 #[iV flags] W (.bool (isIn flags 0 255))):=fun W=>implByte_any _ W
 have HB:Hid (∀ W,Cw 169 #[iV flags] W (.bool (decide (bits .and .i64 flags 22=2)))):=fun W=>begins_any _ W
 have HV:Hid (trackNewV proto inside flags=if stillP proto=true then 3 else if proto=6 then (if bits .and .i64 flags 22=2 then (if inside=true then 1 else 2) else 0) else 0):=new_byte hf;rw [hf] at HC;generalize trackNewV proto inside flags=ans at *;clear hf
 cases hs:stillP proto with
 | true =>
  rw [hs] at HA;have HX:Hid (ans=3):=by unfold Hid; rw [HV.out,if_pos hs]
  clear HV hs;go_enter Tryz.func144,Tryz.ntmps144
  go_wp2_with fail
  refine (HA.out _).mono ?_;rintro e w1 ⟨rfl,rfl⟩;go_wp2_with fail
  go_ret;exact ⟨ret_int HX.out.symm,rfl⟩
 | false =>
  rw [hs,if_neg (by decide)] at HV;rw [hs] at HA;clear hs;by_cases hp:proto=6
  ·subst hp;rw [if_pos rfl] at HV;by_cases hb:bits .and .i64 flags 22=2
   ·rw [if_pos hb] at HV;rw [decide_eq_true hb] at HB;clear hb
    cases inside;all_goals
     simp at HV;go_enter Tryz.func144,Tryz.ntmps144
     go_wp2_with fail
     refine (HA.out _).mono ?_;rintro e w1 ⟨rfl,rfl⟩;go_wp2_with fail
     refine (HC.out _).mono ?_;rintro e w1 ⟨rfl,rfl⟩;go_wp2_with fail
     refine (HB.out _).mono ?_;rintro e w1 ⟨rfl,rfl⟩;go_wp2_with fail
     go_ret;exact ⟨ret_int HV.out.symm,rfl⟩
   ·rw [if_neg hb] at HV;rw [decide_eq_false hb] at HB;clear hb;go_enter Tryz.func144,Tryz.ntmps144
    go_wp2_with fail
    refine (HA.out _).mono ?_;rintro e w1 ⟨rfl,rfl⟩;go_wp2_with fail
    refine (HC.out _).mono ?_;rintro e w1 ⟨rfl,rfl⟩;go_wp2_with fail
    refine (HB.out _).mono ?_;rintro e w1 ⟨rfl,rfl⟩;go_wp2_with fail
    go_ret;exact ⟨ret_int HV.out.symm,rfl⟩
  ·rw [if_neg hp] at HV;go_enter Tryz.func144,Tryz.ntmps144
   go_wp2_with fail
   refine (HA.out _).mono ?_;rintro e w1 ⟨rfl,rfl⟩;go_wp2_with fail
   go_ret;exact ⟨ret_int HV.out.symm,rfl⟩
theorem touchRight_any (t:Tc) (w:World) (hs1:t.addr.size≤1048576) (hs2:t.peer.size≤1048576) :
  Cb 106 #[tcC t] w (.bool (touchOk t)):=by
 obtain ⟨proto,inside,addr,port,peer,peerPort,flags⟩:=t;dsimp only at hs1 hs2;have HZ:Hid (Below w.heap.size w (w.alloc (.cells (TcR proto inside addr port peer peerPort flags).toArray 112))):=bR.alloc (Nat.le_refl _) _;have HT:Hid (HoldsL (w.alloc (.cells (TcR proto inside addr port peer peerPort flags).toArray 112)) w.heap.size (TcR proto inside addr port peer peerPort flags)):=HoldsL.new w (TcR proto inside addr port peer peerPort flags) 112;have H1:Hid (∀ W,Cw 141 #[iV proto] W (.bool (protoB proto))):=fun W=>isBound_any _ W
 have H2:Hid (∀ W,Cw 132 #[.string addr] W (.bool (addrOk addr))):=fun W=>implAddrRight_any addr W
 have H3:Hid (∀ W,Cw 117 #[iV port] W (.bool (isW port))):=fun W=>implWordIs_any _ W
 have H4:Hid (∀ W,Cw 117 #[iV peerPort] W (.bool (isW peerPort))):=fun W=>implWordIs_any _ W
 have H5:Hid (∀ W,Cw 116 #[iV flags] W (.bool (isIn flags 0 255))):=fun W=>implByte_any _ W
 have HV:Hid (touchOk ⟨proto,inside,addr,port,peer,peerPort,flags⟩=(protoB proto&&addrOk addr&&(inside||decide (addr.size=4))&&isW port&&decide (peer.size=4)&&isW peerPort&&isIn flags 0 255)):=rfl;generalize touchOk ⟨proto,inside,addr,port,peer,peerPort,flags⟩=ans at *;generalize protoB proto=b1 at *;generalize addrOk addr=b2 at *;generalize isW port=b3 at *;generalize isW peerPort=b4 at *;generalize isIn flags 0 255=b5 at *;unfold tcC;go_enter Tryz.func106,Tryz.ntmps106
 go_upto_region 1 with fail
 generalize (w.alloc (.cells (TcR proto inside addr port peer peerPort flags).toArray 112))=W at *;obtain ⟨k0,k1,k2,k3,k4,k5,k6⟩:=HT.out.c7;clear HT;go_wp2_with fail
 refine (H1.out _).mono ?_;rintro e W ⟨rfl,rfl⟩
 cases b1 with
 | false =>
  go_wp2_with fail
  go_ret;exact ⟨ret_bool (by rw [HV.out]; rfl),HZ.out⟩
 | true =>
 go_wp2_with fail
 refine (H2.out _).mono ?_;rintro e W ⟨rfl,rfl⟩
 cases b2 with
 | false =>
  go_wp2_with fail
  go_ret;exact ⟨ret_bool (by rw [HV.out]; rfl),HZ.out⟩
 | true =>
 by_cases hi:inside=false∧¬ addr.size=4
 ·obtain ⟨rfl,ha⟩:=hi;have haI:¬ (addr.size:Int)=4:=by omega
  go_wp2_with fail
  go_ret;exact ⟨ret_bool (by rw [HV.out,decide_eq_false ha]; rfl),HZ.out⟩
 have HI:Hid ((inside||decide (addr.size=4))=true):=by
  unfold Hid
  cases inside with
  | true=>rfl
  | false=>simp at hi; simp [hi]
 have hsp:inside=true∨(inside=false∧addr.size=4):=by
  cases inside with
  | true=>exact .inl rfl
  | false=>simp at hi; exact .inr ⟨rfl,hi⟩
 clear hi;have HV2:Hid (ans=(b3&&decide (peer.size=4)&&b4&&b5)):=by unfold Hid; rw [HV.out,HI.out]; rfl
 clear HV HI;rcases hsp with rfl | ⟨rfl,ha⟩
 all_goals
  try have haI:(addr.size:Int)=4:=by omega
  go_wp2_with fail
  refine (H3.out _).mono ?_;rintro e W ⟨rfl,rfl⟩
  cases b3 with
  | false =>
   go_wp2_with fail
   go_ret;exact ⟨ret_bool (by rw [HV2.out]; rfl),HZ.out⟩
  | true =>
  go_wp2_with fail
  refine (H4.out _).mono ?_;rintro e W ⟨rfl,rfl⟩
  cases b4 with
  | false =>
   go_wp2_with fail
   go_ret;exact ⟨ret_bool (by rw [HV2.out]; simp),HZ.out⟩
  | true =>
  by_cases hp:peer.size=4
  ·have HX:Hid (ans=b5):=by unfold Hid; rw [HV2.out,decide_eq_true hp]; rfl
   have hpI:(peer.size:Int)=4:=by omega
   go_wp2_with fail
   refine (H5.out _).mono ?_;rintro e W ⟨rfl,rfl⟩;go_wp2_with fail
   go_ret;exact ⟨ret_bool HX.out.symm,HZ.out⟩
  ·have HX:Hid (ans=false):=by unfold Hid; rw [HV2.out,decide_eq_false hp]; rfl
   have hpI:¬ (peer.size:Int)=4:=by omega
   go_wp2_with fail
   go_ret;exact ⟨ret_bool HX.out.symm,HZ.out⟩
theorem hostOf_any (pa:Option Addr) (pc:Nat) (p:Pl) (ba bo:Option Addr) (ca cb:Nat) (x:Bb) (m1 m2:Nat) (t:Tc) (w:World) (he:EnIn ⟨t.proto,t.addr,t.port⟩) (hbk:BookAt w m1 m2 x.binds x.binds) :
  Cb 107 #[bkC pa pc p ba bo ca cb x m1 m2,tcC t] w (.tuple #[enC (hostV x t).1,.bool (hostV x t).2]):=by
 obtain ⟨proto,inside,addr,port,peer,peerPort,flags⟩:=t;dsimp only at he;obtain ⟨c,hc⟩ : ∃ c,c=(x.binds.find? (ofOut proto addr port)).getD bdZ:=⟨_,rfl⟩;have HLK:Hid (∀ W,Below w.heap.size w W→(Instr.lookup 148 (.map (some m2)) (.agg (EnV proto addr port).toArray) true).run Tryz.prog W=.ok (.tuple #[.agg (BdV c).toArray,.bool (x.binds.find? (ofOut proto addr port)).isSome]) W):=fun W hW=>by
  have hl:=(hbk.kept hW).look2 (e:=⟨proto,addr,port⟩) he;rw [show (fun q=>sameEn (lentE q) ⟨proto,addr,port⟩)=ofOut proto addr port from funext fun c=>lent_out _ _ _ c,← hc] at hl;exact hl
 have HHE:Hid (∀ W,Cb 137 #[.agg (BdV c).toArray] W (.agg (EnV c.proto c.inn c.inPort).toArray)):=fun W=>hostEnd_any c W
 have HV:Hid (hostV x ⟨proto,inside,addr,port,peer,peerPort,flags⟩=if inside=true then (⟨proto,addr,port⟩,true) else (⟨c.proto,c.inn,c.inPort⟩,(x.binds.find? (ofOut proto addr port)).isSome)):=by rw [hc]; rfl
 generalize hostV x ⟨proto,inside,addr,port,peer,peerPort,flags⟩=ans at *;generalize (x.binds.find? (ofOut proto addr port)).isSome=fd at *;clear hc he hbk;have hRw:w.heap.size≤w.heap.size+1+1:=by omega
 have hun:undef=Value.tuple #[]:=rfl;have HS0:=bx3 w (KkV pa pc p ba ca bo cb x m1 m2) 150 (TcR proto inside addr port peer peerPort flags) 112 (EnV 0 ⟨#[]⟩ 0) 155 (by simp) (by simp) (by simp)
 skip;unfold bkC tcC;go_enter Tryz.func107,Tryz.ntmps107
 go_upto_region 1 with fail
 generalize ((aW (aW w (KkV pa pc p ba ca bo cb x m1 m2) 150) (TcR proto inside addr port peer peerPort flags) 112).alloc (.cells (EnV 0 ⟨#[]⟩ 0).toArray 155))=W at *;have HHt:=HS0.out.at mE1;obtain ⟨t0,t1,t2,t3,t4,t5,t6⟩:=HHt.c7;clear HHt;go_upto_region 2 with fail
 have S1:Hid _:=HS0.out.push (EnV proto addr port) (by simp) 155;generalize hW1:W.alloc _=W1 at *;clear hW1 HS0 t0 t1 t2 t3 t4 t5 t6;generalize W.heap.size=Be at *
 cases inside with
 | true =>
  have HX:Hid (ans=(⟨proto,addr,port⟩,true)):=HV.out;clear HV;have HHt:=S1.out.at mE2;have t1:=HHt.cell (j:=1) rfl;clear HHt;have HHn:=S1.out.at mE0;obtain ⟨n0,n1,n2⟩:=HHn.c3;clear HHn;have HHz:=S1.out.at mE3;obtain ⟨z0,z1,z2⟩:=HHz.c3;obtain ⟨zf0,zf1,zf2⟩:=HHz.f3;go_wp2_with fail
  refine bodyPost_ret (v:=.tuple #[.agg (EnV proto addr port).toArray,.bool true]) (by simp [results,Tryz.results107,go_sem,z0,z1,z2]) rfl (And.intro (by rw [HX.out]; rfl) ?_);exact (((S1.out.b.setCell (p:=⟨w.heap.size+1+1,0,none⟩) hRw _).setCell (p:=⟨w.heap.size+1+1,1,none⟩) hRw _).setCell (p:=⟨w.heap.size+1+1,2,none⟩) hRw _)
 | false =>
  have HX:Hid (ans=(⟨c.proto,c.inn,c.inPort⟩,fd)):=HV.out;clear HV;have HHt:=S1.out.at mE2;have t1:=HHt.cell (j:=1) rfl;clear HHt;have HHn:=S1.out.at mE0;obtain ⟨n0,n1,n2⟩:=HHn.c3;clear HHn;have HHk:=S1.out.at mE1;have k13:=HHk.cell (j:=13) rfl;clear HHk;have LK:=HLK.out W1 S1.out.b;go_upto_region 5 with (at_lookup; refine wpList_look_val rfl _ _ _ _ rfl rfl rfl LK ?_)
  have S2:Hid _:=S1.out.push (BdV c) (by simp) 94;generalize hW2:W1.alloc _=W2 at *;clear hW2 S1 LK HLK n0 n1 n2 k13 t1;generalize W1.heap.size=Bc at *;have HHy:=S2.out.at mE0;obtain ⟨y0,y1,y2,y3,y4⟩:=HHy.c5;clear HHy;go_wp2_with fail
  refine (HHE.out _).mono ?_;rintro e W3 ⟨rfl,q3⟩;have S3:Hid _:=S2.out.kept q3;clear q3 S2 HHE y0 y1 y2 y3 y4;have HHz:=S3.out.at mE4;obtain ⟨z0,z1,z2⟩:=HHz.c3;obtain ⟨zf0,zf1,zf2⟩:=HHz.f3;go_wp2_with fail
  refine bodyPost_ret (v:=.tuple #[.agg (EnV c.proto c.inn c.inPort).toArray,.bool fd]) (by simp [results,Tryz.results107,go_sem,z0,z1,z2]) rfl (And.intro (by rw [HX.out]; rfl) ?_);exact (((S3.out.b.setCell (p:=⟨w.heap.size+1+1,0,none⟩) hRw _).setCell (p:=⟨w.heap.size+1+1,1,none⟩) hRw _).setCell (p:=⟨w.heap.size+1+1,2,none⟩) hRw _)
theorem admits1_any (q:Ss) (h:En) (s:ByteArray) (B1 B2:Nat) (w:World) (hk0:HoldsL w B1 (enL h)) (hk1:HoldsL w B2 [.string s]) :
  Cb 171 #[ssC q,.pointer (some ⟨B1,0,none⟩),.pointer (some ⟨B2,0,none⟩)] w (.bool (metB h s q)):=by
 have HF:Hid (∀ W,Cb 139 #[.agg (SsV q).toArray] W (.agg (BdR q.proto q.inn q.inPort q.peer q.peerPort).toArray)):=fun W=>sessKey_any q W
 have HE:Hid (∀ W,(binOp .eql 155 (.agg (EnV q.proto q.inn q.inPort).toArray) (.agg (EnV h.proto h.addr h.port).toArray)).run Tryz.prog W=.ok (.bool (sameEn (sessE q) h)) W):=fun W=>eqEn_bin (sessE q) h W
 have HFL:Hid (∀ W,Sem.run Tryz.prog (Instr.field 160 (.agg (BdR q.proto q.inn q.inPort q.peer q.peerPort).toArray) 0) W=.ok (.agg (EnV q.proto q.inn q.inPort).toArray) W):=fun W=>by kernel_rfl
 have HV:Hid (metB h s q=(sameEn (sessE q) h&&decide (q.peer.toList=s.toList))):=rfl;generalize metB h s q=ans at *;generalize sameEn (sessE q) h=b at *;have HZ:Hid (Below w.heap.size w (w.alloc (.cells (SsV q).toArray 103))):=bR.alloc (Nat.le_refl _) _;have HQ:Hid (HoldsL (w.alloc (.cells (SsV q).toArray 103)) w.heap.size (SsV q)):=HoldsL.new w (SsV q) 103;have HK0:Hid (HoldsL (w.alloc (.cells (SsV q).toArray 103)) B1 (EnV h.proto h.addr h.port)):=HoldsL.alloc (cs:=(EnV h.proto h.addr h.port)) hk0 _;have HK1:Hid (HoldsL (w.alloc (.cells (SsV q).toArray 103)) B2 [.string s]):=hk1.alloc _;clear hk0 hk1;unfold ssC;go_enter Tryz.func171,Tryz.ntmps171
 go_upto_region 1 with fail
 generalize (w.alloc (.cells (SsV q).toArray 103))=W at *;go_cut [4] (fun v wx=>v=.bool ans∧Below w.heap.size w wx)
 case first =>
  rename_i J K2 hJ hK2;have HCP:Hid (∀ wy,Below W.drew.heap.size W.drew wy→HoldsL wy w.heap.size (SsV q)∧HoldsL wy B1 (EnV h.proto h.addr h.port)∧HoldsL wy B2 [.string s]):=fun wy hy=>⟨HQ.out.drew.kept (by simp) hy,HK0.out.drew.kept (by simp) hy,HK1.out.drew.kept (by simp) hy⟩
  cases b with
  | false =>
   have HX:Hid (ans=false):=HV.out;clear HV;refine wp_region_growH [5,6,7,8,9,10,11,12,13,14,15,4] (by kernel_rfl) (by kernel_rfl) ?_;apply GCh.v0
   ·rfl
   ·intro K' a wy ho hd hb hK kz;have o3:=ho 3 (by decide);simp [slot] at o3;clear hd ho;obtain ⟨hq,h0,h1⟩:=HCP.out wy hb;obtain ⟨c0,c1,c2,c3,c4,c5,c6⟩:=hq.c7;obtain ⟨k0,k1,k2⟩:=h0.c3;have m0:=h1.cell (j:=0) rfl;go_simp;try go_bits
    exact kz _ rfl
   apply GCh.v1
   ·rfl
   ·intro K' a wy ho hd hb hK kz;have q0:=hd ⟨0,.data⟩ (by simp) rfl;simp [rAt,IsV,slot] at q0;clear hd ho;go_simp;refine (HF.out wy).mono ?_;rintro e wz ⟨rfl,hz⟩;exact hK _ _ rfl hz
   apply GCh.v2
   ·rfl
   ·intro K' a wy ho hd hb hK kz;have q1:=hd ⟨1,.data⟩ (by simp) rfl;simp [rAt,IsV,slot] at q1;clear hd ho;have hfl:=HFL.out wy;go_simp;try go_bits
    exact kz _ rfl
   apply GCh.v3
   ·rfl
   ·intro K' a wy ho hd hb hK kz;have o1:=ho 1 (by decide);simp [slot] at o1;clear hd ho;obtain ⟨hq,h0,h1⟩:=HCP.out wy hb;obtain ⟨c0,c1,c2,c3,c4,c5,c6⟩:=hq.c7;obtain ⟨k0,k1,k2⟩:=h0.c3;have m0:=h1.cell (j:=0) rfl;go_simp;try go_bits
    exact kz _ rfl
   apply GCh.v4
   ·rfl
   ·intro K' a wy ho hd hb hK kz;have q2:=hd ⟨2,.data⟩ (by simp) rfl;have q3:=hd ⟨3,.data⟩ (by simp) rfl;simp [rAt,IsV,slot] at q2 q3;clear hd ho;refine wp_bin_val .eql 155 155 (.tmp 7) (.tmp 8) rfl (by simp [Act.eval,slot,q2]) (by simp [Act.eval,slot,q3]) (run_eqGuard_agg _ _ _ _ _ _ _ (by kernel_rfl)) (HE.out wy) ?_;exact kz _ rfl
   apply GCh.v5
   ·rfl
   ·intro K' a wy ho hd hb hK kz;have q4:=hd ⟨4,.data⟩ (by simp) rfl;simp [rAt,IsV,slot] at q4;clear hd ho;go_simp;try go_bits
    exact kz _ rfl
   refine GCh.val (n:=6) (fun v=>[_,_,_,_,_,_,IsV v]) (fun _=>rfl) rfl ?_;apply Exists.intro;refine And.intro ?_ ?_
   ·intro K' a wy ho hd hb hK;refine wantsN 5 10 false true rfl rfl rfl (hd ⟨5,.guard⟩ (by simp) rfl) rfl ?_;exact hK undef _ rfl bR
   refine GCh.val (n:=7) (fun v=>[_,_,_,_,_,_,_,IsV v]) (fun _=>rfl) rfl ?_;apply Exists.intro;refine And.intro ?_ ?_
   ·intro K' a wy ho hd hb hK;refine wantsN 5 10 false true rfl rfl rfl (hd ⟨5,.guard⟩ (by simp) rfl) rfl ?_;exact hK undef _ rfl bR
   refine GCh.val (n:=8) (fun v=>[_,_,_,_,_,_,_,_,IsV v]) (fun _=>rfl) rfl ?_;apply Exists.intro;refine And.intro ?_ ?_
   ·intro K' a wy ho hd hb hK;refine wantsN 5 10 false true rfl rfl rfl (hd ⟨5,.guard⟩ (by simp) rfl) rfl ?_;exact hK undef _ rfl bR
   refine GCh.val (n:=9) (fun v=>[_,_,_,_,_,_,_,_,_,IsV v]) (fun _=>rfl) rfl ?_;apply Exists.intro;refine And.intro ?_ ?_
   ·intro K' a wy ho hd hb hK;refine wantsN 5 10 false true rfl rfl rfl (hd ⟨5,.guard⟩ (by simp) rfl) rfl ?_;exact hK undef _ rfl bR
   apply GCh.v10
   ·rfl
   ·intro K' a wy ho hd hb hK kz;have q5:=hd ⟨5,.data⟩ (by simp) rfl;have q9:=hd ⟨9,.data⟩ (by simp) rfl;simp [rAt,IsV,slot] at q5 q9;clear hd ho;go_simp;try go_bits
    exact kz _ rfl
   apply GCh.v11
   ·rfl
   ·intro K' a wy ho hd hb hK kz;have q10:=hd ⟨10,.data⟩ (by simp) rfl;simp [rAt,IsV,slot] at q10;clear hd ho;go_simp;try go_bits
    exact kz _ rfl
   intro X wz hR hz;obtain ⟨x0,x1,x2,x3,x4,x5,x6,x7,x8,x9,x10,x11,-⟩:=hR;simp only [IsV] at x0 x1 x2 x3 x4 x5 x6 x7 x8 x9 x10 x11;simp only [putsFrom,x0,x1,x2,x3,x4,x5,x6,x7,x8,x9,x10,x11];clear x0 x1 x2 x3 x4 x5 x6 x7 x8 x9 x10 x11;go_simp;try go_bits
   refine hK2 _ _ (hJ _ _ ?_);(repeat apply Exists.intro)
   refine ⟨⟨by rw [HX.out],HZ.out.drew.trans (hz.mono HZ.out.size)⟩,rfl⟩
  | true =>
   have HX:Hid (ans=decide (q.peer.toList=s.toList)):=by unfold Hid; rw [HV.out]; rfl
   clear HV;by_cases hs:q.peer.toList=s.toList
   case pos =>
    have hs2:(q.peer.toList==s.toList)=true:=by simp [hs]
    rw [decide_eq_true hs] at HX;clear hs;refine wp_region_growH [5,6,7,8,9,10,11,12,13,14,15,4] (by kernel_rfl) (by kernel_rfl) ?_;apply GCh.v0
    ·rfl
    ·intro K' a wy ho hd hb hK kz;have o3:=ho 3 (by decide);simp [slot] at o3;clear hd ho;obtain ⟨hq,h0,h1⟩:=HCP.out wy hb;obtain ⟨c0,c1,c2,c3,c4,c5,c6⟩:=hq.c7;obtain ⟨k0,k1,k2⟩:=h0.c3;have m0:=h1.cell (j:=0) rfl;go_simp;try go_bits
     exact kz _ rfl
    apply GCh.v1
    ·rfl
    ·intro K' a wy ho hd hb hK kz;have q0:=hd ⟨0,.data⟩ (by simp) rfl;simp [rAt,IsV,slot] at q0;clear hd ho;go_simp;refine (HF.out wy).mono ?_;rintro e wz ⟨rfl,hz⟩;exact hK _ _ rfl hz
    apply GCh.v2
    ·rfl
    ·intro K' a wy ho hd hb hK kz;have q1:=hd ⟨1,.data⟩ (by simp) rfl;simp [rAt,IsV,slot] at q1;clear hd ho;have hfl:=HFL.out wy;go_simp;try go_bits
     exact kz _ rfl
    apply GCh.v3
    ·rfl
    ·intro K' a wy ho hd hb hK kz;have o1:=ho 1 (by decide);simp [slot] at o1;clear hd ho;obtain ⟨hq,h0,h1⟩:=HCP.out wy hb;obtain ⟨c0,c1,c2,c3,c4,c5,c6⟩:=hq.c7;obtain ⟨k0,k1,k2⟩:=h0.c3;have m0:=h1.cell (j:=0) rfl;go_simp;try go_bits
     exact kz _ rfl
    apply GCh.v4
    ·rfl
    ·intro K' a wy ho hd hb hK kz;have q2:=hd ⟨2,.data⟩ (by simp) rfl;have q3:=hd ⟨3,.data⟩ (by simp) rfl;simp [rAt,IsV,slot] at q2 q3;clear hd ho;refine wp_bin_val .eql 155 155 (.tmp 7) (.tmp 8) rfl (by simp [Act.eval,slot,q2]) (by simp [Act.eval,slot,q3]) (run_eqGuard_agg _ _ _ _ _ _ _ (by kernel_rfl)) (HE.out wy) ?_;exact kz _ rfl
    apply GCh.v5
    ·rfl
    ·intro K' a wy ho hd hb hK kz;have q4:=hd ⟨4,.data⟩ (by simp) rfl;simp [rAt,IsV,slot] at q4;clear hd ho;go_simp;try go_bits
     exact kz _ rfl
    refine GCh.val (n:=6) (fun v=>[_,_,_,_,_,_,IsV v]) (fun _=>rfl) rfl ?_;apply Exists.intro;refine And.intro ?_ ?_
    ·intro K' a wy ho hd hb hK;refine wants 5 10 true true rfl rfl rfl (hd ⟨5,.guard⟩ (by simp) rfl) rfl ?_;have o3:=ho 3 (by decide);simp [slot] at o3;clear hd ho;go_simp;try go_bits
     exact hK _ _ rfl bR
    refine GCh.val (n:=7) (fun v=>[_,_,_,_,_,_,_,IsV v]) (fun _=>rfl) rfl ?_;apply Exists.intro;refine And.intro ?_ ?_
    ·intro K' a wy ho hd hb hK;refine wants 5 10 true true rfl rfl rfl (hd ⟨5,.guard⟩ (by simp) rfl) rfl ?_;have q6:=hd ⟨6,.data⟩ (by simp) rfl;simp [rAt,IsV,slot] at q6;clear hd ho;obtain ⟨hq,h0,h1⟩:=HCP.out wy hb;obtain ⟨c0,c1,c2,c3,c4,c5,c6⟩:=hq.c7;obtain ⟨k0,k1,k2⟩:=h0.c3;have m0:=h1.cell (j:=0) rfl;go_simp;try go_bits
     exact hK _ _ rfl bR
    refine GCh.val (n:=8) (fun v=>[_,_,_,_,_,_,_,_,IsV v]) (fun _=>rfl) rfl ?_;apply Exists.intro;refine And.intro ?_ ?_
    ·intro K' a wy ho hd hb hK;refine wants 5 10 true true rfl rfl rfl (hd ⟨5,.guard⟩ (by simp) rfl) rfl ?_;have o2:=ho 2 (by decide);simp [slot] at o2;clear hd ho;obtain ⟨hq,h0,h1⟩:=HCP.out wy hb;obtain ⟨c0,c1,c2,c3,c4,c5,c6⟩:=hq.c7;obtain ⟨k0,k1,k2⟩:=h0.c3;have m0:=h1.cell (j:=0) rfl;go_simp;try go_bits
     exact hK _ _ rfl bR
    refine GCh.val (n:=9) (fun v=>[_,_,_,_,_,_,_,_,_,IsV v]) (fun _=>rfl) rfl ?_;apply Exists.intro;refine And.intro ?_ ?_
    ·intro K' a wy ho hd hb hK;refine wants 5 10 true true rfl rfl rfl (hd ⟨5,.guard⟩ (by simp) rfl) rfl ?_;have q7:=hd ⟨7,.data⟩ (by simp) rfl;have q8:=hd ⟨8,.data⟩ (by simp) rfl;simp [rAt,IsV,slot] at q7 q8;clear hd ho;go_simp;try go_bits
     exact hK _ _ rfl bR
    apply GCh.v10
    ·rfl
    ·intro K' a wy ho hd hb hK kz;have q5:=hd ⟨5,.data⟩ (by simp) rfl;have q9:=hd ⟨9,.data⟩ (by simp) rfl;simp [rAt,IsV,slot] at q5 q9;clear hd ho;go_simp;try go_bits
     exact kz _ rfl
    apply GCh.v11
    ·rfl
    ·intro K' a wy ho hd hb hK kz;have q10:=hd ⟨10,.data⟩ (by simp) rfl;simp [rAt,IsV,slot] at q10;clear hd ho;go_simp;try go_bits
     exact kz _ rfl
    intro X wz hR hz;obtain ⟨x0,x1,x2,x3,x4,x5,x6,x7,x8,x9,x10,x11,-⟩:=hR;simp only [IsV] at x0 x1 x2 x3 x4 x5 x6 x7 x8 x9 x10 x11;simp only [putsFrom,x0,x1,x2,x3,x4,x5,x6,x7,x8,x9,x10,x11];clear x0 x1 x2 x3 x4 x5 x6 x7 x8 x9 x10 x11;go_simp;try go_bits
    refine hK2 _ _ (hJ _ _ ?_);(repeat apply Exists.intro)
    refine ⟨⟨by rw [HX.out],HZ.out.drew.trans (hz.mono HZ.out.size)⟩,rfl⟩
   case neg =>
    have hs2:(q.peer.toList==s.toList)=false:=by simp [hs]
    rw [decide_eq_false hs] at HX;clear hs;refine wp_region_growH [5,6,7,8,9,10,11,12,13,14,15,4] (by kernel_rfl) (by kernel_rfl) ?_;apply GCh.v0
    ·rfl
    ·intro K' a wy ho hd hb hK kz;have o3:=ho 3 (by decide);simp [slot] at o3;clear hd ho;obtain ⟨hq,h0,h1⟩:=HCP.out wy hb;obtain ⟨c0,c1,c2,c3,c4,c5,c6⟩:=hq.c7;obtain ⟨k0,k1,k2⟩:=h0.c3;have m0:=h1.cell (j:=0) rfl;go_simp;try go_bits
     exact kz _ rfl
    apply GCh.v1
    ·rfl
    ·intro K' a wy ho hd hb hK kz;have q0:=hd ⟨0,.data⟩ (by simp) rfl;simp [rAt,IsV,slot] at q0;clear hd ho;go_simp;refine (HF.out wy).mono ?_;rintro e wz ⟨rfl,hz⟩;exact hK _ _ rfl hz
    apply GCh.v2
    ·rfl
    ·intro K' a wy ho hd hb hK kz;have q1:=hd ⟨1,.data⟩ (by simp) rfl;simp [rAt,IsV,slot] at q1;clear hd ho;have hfl:=HFL.out wy;go_simp;try go_bits
     exact kz _ rfl
    apply GCh.v3
    ·rfl
    ·intro K' a wy ho hd hb hK kz;have o1:=ho 1 (by decide);simp [slot] at o1;clear hd ho;obtain ⟨hq,h0,h1⟩:=HCP.out wy hb;obtain ⟨c0,c1,c2,c3,c4,c5,c6⟩:=hq.c7;obtain ⟨k0,k1,k2⟩:=h0.c3;have m0:=h1.cell (j:=0) rfl;go_simp;try go_bits
     exact kz _ rfl
    apply GCh.v4
    ·rfl
    ·intro K' a wy ho hd hb hK kz;have q2:=hd ⟨2,.data⟩ (by simp) rfl;have q3:=hd ⟨3,.data⟩ (by simp) rfl;simp [rAt,IsV,slot] at q2 q3;clear hd ho;refine wp_bin_val .eql 155 155 (.tmp 7) (.tmp 8) rfl (by simp [Act.eval,slot,q2]) (by simp [Act.eval,slot,q3]) (run_eqGuard_agg _ _ _ _ _ _ _ (by kernel_rfl)) (HE.out wy) ?_;exact kz _ rfl
    apply GCh.v5
    ·rfl
    ·intro K' a wy ho hd hb hK kz;have q4:=hd ⟨4,.data⟩ (by simp) rfl;simp [rAt,IsV,slot] at q4;clear hd ho;go_simp;try go_bits
     exact kz _ rfl
    refine GCh.val (n:=6) (fun v=>[_,_,_,_,_,_,IsV v]) (fun _=>rfl) rfl ?_;apply Exists.intro;refine And.intro ?_ ?_
    ·intro K' a wy ho hd hb hK;refine wants 5 10 true true rfl rfl rfl (hd ⟨5,.guard⟩ (by simp) rfl) rfl ?_;have o3:=ho 3 (by decide);simp [slot] at o3;clear hd ho;go_simp;try go_bits
     exact hK _ _ rfl bR
    refine GCh.val (n:=7) (fun v=>[_,_,_,_,_,_,_,IsV v]) (fun _=>rfl) rfl ?_;apply Exists.intro;refine And.intro ?_ ?_
    ·intro K' a wy ho hd hb hK;refine wants 5 10 true true rfl rfl rfl (hd ⟨5,.guard⟩ (by simp) rfl) rfl ?_;have q6:=hd ⟨6,.data⟩ (by simp) rfl;simp [rAt,IsV,slot] at q6;clear hd ho;obtain ⟨hq,h0,h1⟩:=HCP.out wy hb;obtain ⟨c0,c1,c2,c3,c4,c5,c6⟩:=hq.c7;obtain ⟨k0,k1,k2⟩:=h0.c3;have m0:=h1.cell (j:=0) rfl;go_simp;try go_bits
     exact hK _ _ rfl bR
    refine GCh.val (n:=8) (fun v=>[_,_,_,_,_,_,_,_,IsV v]) (fun _=>rfl) rfl ?_;apply Exists.intro;refine And.intro ?_ ?_
    ·intro K' a wy ho hd hb hK;refine wants 5 10 true true rfl rfl rfl (hd ⟨5,.guard⟩ (by simp) rfl) rfl ?_;have o2:=ho 2 (by decide);simp [slot] at o2;clear hd ho;obtain ⟨hq,h0,h1⟩:=HCP.out wy hb;obtain ⟨c0,c1,c2,c3,c4,c5,c6⟩:=hq.c7;obtain ⟨k0,k1,k2⟩:=h0.c3;have m0:=h1.cell (j:=0) rfl;go_simp;try go_bits
     exact hK _ _ rfl bR
    refine GCh.val (n:=9) (fun v=>[_,_,_,_,_,_,_,_,_,IsV v]) (fun _=>rfl) rfl ?_;apply Exists.intro;refine And.intro ?_ ?_
    ·intro K' a wy ho hd hb hK;refine wants 5 10 true true rfl rfl rfl (hd ⟨5,.guard⟩ (by simp) rfl) rfl ?_;have q7:=hd ⟨7,.data⟩ (by simp) rfl;have q8:=hd ⟨8,.data⟩ (by simp) rfl;simp [rAt,IsV,slot] at q7 q8;clear hd ho;go_simp;try go_bits
     exact hK _ _ rfl bR
    apply GCh.v10
    ·rfl
    ·intro K' a wy ho hd hb hK kz;have q5:=hd ⟨5,.data⟩ (by simp) rfl;have q9:=hd ⟨9,.data⟩ (by simp) rfl;simp [rAt,IsV,slot] at q5 q9;clear hd ho;go_simp;try go_bits
     exact kz _ rfl
    apply GCh.v11
    ·rfl
    ·intro K' a wy ho hd hb hK kz;have q10:=hd ⟨10,.data⟩ (by simp) rfl;simp [rAt,IsV,slot] at q10;clear hd ho;go_simp;try go_bits
     exact kz _ rfl
    intro X wz hR hz;obtain ⟨x0,x1,x2,x3,x4,x5,x6,x7,x8,x9,x10,x11,-⟩:=hR;simp only [IsV] at x0 x1 x2 x3 x4 x5 x6 x7 x8 x9 x10 x11;simp only [putsFrom,x0,x1,x2,x3,x4,x5,x6,x7,x8,x9,x10,x11];clear x0 x1 x2 x3 x4 x5 x6 x7 x8 x9 x10 x11;go_simp;try go_bits
    refine hK2 _ _ (hJ _ _ ?_);(repeat apply Exists.intro)
    refine ⟨⟨by rw [HX.out],HZ.out.drew.trans (hz.mono HZ.out.size)⟩,rfl⟩
 case rest =>
  obtain ⟨rfl,hb⟩:=hcut;have HB:Hid (Below w.heap.size w wc):=hb;clear hb;go_wp2_with fail
  go_ret;exact ⟨rfl,HB.out⟩
theorem admits_any (pa:Option Addr) (pc:Nat) (p:Pl) (ba bo:Option Addr) (ca cb:Nat) (x:Bb) (m1 m2:Nat) (h:En) (s:ByteArray) (w:World) (hl2:x.sess.length≤1048576) (hx:BbIs w ba bo x) :
  Cb 145 #[bkC pa pc p ba bo ca cb x m1 m2,enC h,.string s] w (.bool (admitV p x h s)):=by
 have HC:Hid (∀ W B1 B2,Below w.heap.size w W→HoldsL W B1 (enL h)→HoldsL W B2 [.string s]→Cb 170 #[.slice bo x.sess.length cb,.func (.func 171) #[] #[.pointer (some ⟨B1,0,none⟩),.pointer (some ⟨B2,0,none⟩)]] W (.bool (x.sess.any (metB h s)))):=fun W B1 B2 hW h1 h2=>hasFunc_any (metB h s) 171 (fun args W=>by kernel_rfl) #[.pointer (some ⟨B1,0,none⟩),.pointer (some ⟨B2,0,none⟩)] x.sess bo cb W hl2 (hx.ss.below hW) (fun W' hW' q hq=>admits1_any q h s B1 B2 W' (h1.kept (by simp [enL]) hW') (h2.kept (by simp) hW'))
 have HV:Hid (admitV p x h s=if p.filter=0 then true else if p.filter=1 then x.sess.any (metB h s) else false):=rfl;generalize admitV p x h s=ans at *;generalize x.sess.any (metB h s)=an at *;clear hx;have HS0:=bx3 w (KkV pa pc p ba ca bo cb x m1 m2) 150 (EnV h.proto h.addr h.port) 155 [.string s] 9 (by simp) (by simp) (by simp)
 skip;unfold bkC enC;go_enter Tryz.func145,Tryz.ntmps145
 go_upto_region 1 with fail
 generalize ((aW (aW w (KkV pa pc p ba ca bo cb x m1 m2) 150) (EnV h.proto h.addr h.port) 155).alloc (.cells #[.string s] 9))=W at *;have HHk:=HS0.out.at mE0;obtain ⟨k0,k1,k2,k3,k4,k5,k6,k7,k8,k9,k10,k11,k12,k13⟩:=HHk.c14;clear HHk;by_cases h0:p.filter=0
 case pos =>
  have d0:(p.filter==0)=true:=by simp [h0]
  have HX:Hid (ans=true):=by unfold Hid; rw [HV.out,if_pos h0]
  clear h0 HV;go_wp2_with fail
  go_ret;exact ⟨ret_bool HX.out.symm,HS0.out.b⟩
 have d0:(p.filter==0)=false:=by simp [h0]
 by_cases h1:p.filter=1
 case neg =>
  have d1:(p.filter==1)=false:=by simp [h1]
  have HX:Hid (ans=false):=by unfold Hid; rw [HV.out,if_neg h0,if_neg h1]
  clear h0 h1 HV;go_wp2_with fail
  go_ret;exact ⟨ret_bool HX.out.symm,HS0.out.b⟩
 have d1:(p.filter==1)=true:=by simp [h1]
 have HX:Hid (ans=an):=by unfold Hid; rw [HV.out,if_neg h0,if_pos h1]
 clear h0 h1 HV;go_wp2_with fail
 refine (HC.out _ _ _ HS0.out.b (HS0.out.k _ mE1) (HS0.out.k _ mE2)).mono ?_;rintro e W1 ⟨rfl,q1⟩;have B1:Hid (Below w.heap.size w W1):=HS0.out.b.trans (q1.mono HS0.out.b.size);clear q1 HS0;go_wp2_with fail
 go_ret;exact ⟨ret_bool HX.out.symm,B1.out⟩
theorem implCopy9_any (x:Bb) (ba bo:Option Addr) (ca cb:Nat) (w:World) (hbl1:x.binds.length≤1048576) (hbl2:x.sess.length≤1048576) (hgb:∀ q∈x.binds,BdGood q) (hgs:∀ s∈x.sess,SsGood s) (hx:BbIs w ba bo x) :
  Calls Tryz.prog 110 #[bbC ba bo ca cb x] w fun e w'=>CopyRet w.heap.size x e w'∧Below w.heap.size w w':=by
 have HSX:Hid (BbIs w ba bo x):=hx;have HGB:Hid (∀ q∈x.binds,BdGood q):=hgb;have HGS:Hid (∀ s∈x.sess,SsGood s):=hgs;have hRw:w.heap.size≤w.heap.size+1:=by omega
 clear hx hgb hgs;have HS0:=bx2 w (BbV ba ca bo cb x) 39 [.slice none 0 0,.slice none 0 0] 39 (by simp) (by simp)
 skip;have hun:undef=Value.tuple #[]:=rfl;unfold bbC;go_enter Tryz.func110,Tryz.ntmps110
 go_upto_region 1 with fail
 generalize ((aW w (BbV ba ca bo cb x) 39).alloc (.cells #[.slice none 0 0,.slice none 0 0] 39))=W at *;have hlt1:w.heap.size+1 < W.heap.size:=(HS0.out.lts _ mE1).1;go_upto_region 2 with fail
 have HS1:Hid (RowsSt w (W.alloc (.cells #[.slice none 0 0,.slice none 0 0] 39)).heap.size W.heap.size [(w.heap.size,(BbV ba ca bo cb x)),(w.heap.size+1,[.slice none 0 0,.slice none 0 0])] (.slice none 0 0) (.slice none 0 0) [] [] (W.alloc (.cells #[.slice none 0 0,.slice none 0 0] 39))):=by
  have bn:Below W.heap.size W (W.alloc (.cells #[.slice none 0 0,.slice none 0 0] 39)):=bR.alloc (Nat.le_refl _) _;have hn:=HoldsL.new W [.slice none 0 0,.slice none 0 0] 39;refine RowsSt.start [(w.heap.size,(BbV ba ca bo cb x)),(w.heap.size+1,[.slice none 0 0,.slice none 0 0])] hn (HS0.out.kept bn).b (HS0.out.kept bn).k (by omega) (fun e he=>?_);simp only [List.mem_cons,List.not_mem_nil,or_false] at he;rcases he with rfl | rfl
  ·refine ⟨by simp; omega,by show w.heap.size≠_; omega,by simp⟩
  ·refine ⟨by simp; omega,by show w.heap.size+1≠_; omega,by simp⟩
 clear HS0;generalize (W.alloc (.cells #[.slice none 0 0,.slice none 0 0] 39))=W3 at *;generalize W3.heap.size=base at *;have hO:w.heap.size+1 < W.heap.size:=hlt1;clear hlt1;generalize W.heap.size=O at *;have c0:W3.cell? ⟨w.heap.size,0,none⟩=some (.slice ba x.binds.length ca):=(show HoldsL W3 w.heap.size (BbV ba ca bo cb x) from HS1.out.k _ (List.mem_cons_self ..)).cell rfl;go_wp2_with fail
 clear c0;go_loopw [11] (fun iv wr=>∃ (i:Nat) (v:Value),i≤x.binds.length∧iv=iV i∧RowsSt w base O [(w.heap.size,(BbV ba ca bo cb x)),(w.heap.size+1,[.slice none 0 0,.slice none 0 0])] v (.slice none 0 0) (x.binds.take i) ([]) wr) (fun iv _=>x.binds.length-(intOf iv).toNat)
 case atStart=>exact ⟨0,_,Nat.zero_le _,rfl,HS1.out⟩
 case round =>
  obtain ⟨i,v,hi,rfl,hS⟩:=hrel;have S1:Hid _:=hS;clear hS HS1;generalize wr=w4 at *;by_cases hlt:i < x.binds.length
  case pos =>
   obtain ⟨bb,off,rfl,hb,hat⟩:=HSX.out.bd.at hlt;have hA:=(hat.below hb S1.out.b) i hlt;have HTK:Hid (x.binds.take (i+1)=x.binds.take i++[x.binds[i]]):=List.take_succ_eq_append_getElem hlt;have hfl:(x.binds.take i).length≤1048576:=by rw [List.length_take]; omega
   have hgd:=HGB.out x.binds[i] (List.getElem_mem hlt);obtain ⟨q,hq⟩ : ∃ q,q=x.binds[i]:=⟨_,rfl⟩;rw [← hq] at hA HTK hgd;have HGD:Hid (BdGood q):=hgd;have hltI:(i:Int) < (x.binds.length:Int):=by omega
   have s0:w4.cell? ⟨bb,off+i*5,none⟩=some (iV q.proto):=hA 0 _ rfl;have s1:w4.cell? ⟨bb,off+i*5+1,none⟩=some (.string q.inn):=hA 1 _ rfl;have s2:w4.cell? ⟨bb,off+i*5+2,none⟩=some (iV q.inPort):=hA 2 _ rfl;have s3:w4.cell? ⟨bb,off+i*5+3,none⟩=some (.string q.out):=hA 3 _ rfl;have s4:w4.cell? ⟨bb,off+i*5+4,none⟩=some (iV q.outPort):=hA 4 _ rfl;generalize x.binds.take i=zs at *;clear hA hat hq hgd hb;go_upto_region 5 with fail
   have bn:Below w4.heap.size w4 (w4.alloc (.cells (BdV q).toArray 94)):=bR.alloc (Nat.le_refl _) _;have HQ:Hid (HoldsL (w4.alloc (.cells (BdV q).toArray 94)) w4.heap.size (BdV q)):=HoldsL.new w4 (BdV q) 94;have S2:Hid _:=S1.out.kept bn;generalize (w4.alloc (.cells (BdV q).toArray 94))=W5 at *;clear bn S1 s0 s1 s2 s3 s4;generalize w4.heap.size=Bq at *;have HCY:Hid (∀ W,Cb 113 #[.agg (BdV q).toArray] W (.agg (BdV q).toArray)):=fun W=>copyBind_any q W HGD.out.1 HGD.out.2.1
   have HCP:Hid (∀ wy,Below W5.drew.heap.size W5.drew wy→RowsSt w base O [(w.heap.size,(BbV (some ⟨bb,off,none⟩) ca bo cb x)),(w.heap.size+1,[.slice none 0 0,.slice none 0 0])] v (.slice none 0 0) (zs) ([]) wy∧HoldsL wy Bq (BdV q)):=fun wy hy=>⟨S2.out.kept (bR.drew.trans hy),HQ.out.drew.kept (by simp) hy⟩
   clear hun;refine wp_region_growV [15,16,17,18,19] (by kernel_rfl) (by kernel_rfl) ?_;apply GChV.v0
   ·rfl
   ·intro K' a wy ho hd hb hK kz;have o3:=ho 3 (by decide);simp [slot] at o3;clear hd ho;go_simp;try go_bits
    exact kz _ rfl
   apply GChV.v1
   ·rfl
   ·intro K' a wy ho hd hb hK kz;have q0:=hd ⟨0,.data⟩ (by simp) rfl;simp [rAt,IsV,slot] at q0;clear hd ho;obtain ⟨hst,hqq⟩:=HCP.out wy hb;have ko:wy.cell? ⟨O,0,none⟩=some v:=hst.o.cell rfl;obtain ⟨s0,s1,s2,s3,s4⟩:=hqq.c5;go_simp;try go_bits
    exact kz _ rfl
   apply GChV.v2
   ·rfl
   ·intro K' a wy ho hd hb hK kz;have o5:=ho 5 (by decide);simp [slot] at o5;clear hd ho;obtain ⟨hst,hqq⟩:=HCP.out wy hb;have ko:wy.cell? ⟨O,0,none⟩=some v:=hst.o.cell rfl;obtain ⟨s0,s1,s2,s3,s4⟩:=hqq.c5;go_simp;try go_bits
    exact kz _ rfl
   apply GChV.v3
   ·rfl
   ·intro K' a wy ho hd hb hK kz;have q2:=hd ⟨2,.data⟩ (by simp) rfl;simp [rAt,IsV,slot] at q2;clear hd ho;go_simp;refine (HCY.out wy).mono ?_;rintro e wz ⟨rfl,hz⟩;exact hK _ _ rfl hz
   refine GChV.rel (n:=4) (IsOneC (bdL q)) (stable_isOneC _ (by simp [bdL])) [_,_,_,_,IsOneC (bdL q)] rfl rfl ?_ ?_
   ·intro K' a wy ho hd hb hK;rw [wN rfl];have q3:=hd ⟨3,.data⟩ (by simp) rfl;simp [rAt,IsV,slot] at q3;clear hd ho;go_simp;exact hK _ _ ⟨wy.heap.size,rfl,HoldsL.new wy (bdL q) _⟩ (bR.alloc (Nat.le_refl _) _)
   intro X wz hR hz;obtain ⟨x0,x1,x2,x3,x4,-⟩:=hR;have hk7:=x4;clear hk7;simp only [IsV] at x0 x1 x2 x3;simp only [putsFrom,x0,x1,x2,x3,putsFrom];clear x0 x1 x2 x3;obtain ⟨g7,e7,r7⟩:=x4;have SZ:=(HCP.out wz hz).1;obtain ⟨v6,w6,hrun,⟨gg,l6,c6,rfl⟩,hO6,S6⟩:=SZ.appB q g7 r7 hfl;have HRUN:Hid _:=hrun;have HS6:Hid _:=S6;have p1:w6.cell? ⟨O,0,none⟩=some v:=hO6.cell rfl;have p2:=hO6.free (j:=0) (by simp);clear hrun S6 hO6 SZ r7 hz HCP;simp only [e7];simp only [List.length_cons,List.length_nil,List.drop_succ_cons,List.drop_zero,Nat.zero_add,Nat.reduceAdd];intro K5 hK5;with_reducible refine wp_append_run (.tmp 16) (.tmp 19) _ rfl ?_ ?_ HRUN.out (hK5 _ _ ?_)
   ·simp [Act.eval,Act.put]
   ·simp [Act.eval,Act.put]
   intro K6 hK6;go_simp;refine hK6 _ _ ?_;intro K7 hK7;go_simp;refine hK7 _ _ ?_;simp only [wpSeq];go_wp2_with fail
   go_roundw
   case rel =>
    first | exact ⟨i+1,_,by omega,by go_num,by rw [HTK.out]; exact HS6.out⟩ | ((repeat apply Exists.intro); exact ⟨⟨i+1,_,by omega,by go_num,by rw [HTK.out]; exact HS6.out⟩,rfl⟩)
   case measure=>simp [intOf]<;>omega
  case neg =>
   have hie:i=x.binds.length:=by omega
   rw [hie,List.take_length] at S1;have hge:¬ (i:Int) < (x.binds.length:Int):=by omega
   clear hie hlt;obtain ⟨sa,sc,hsv,hsc,hso⟩:=S1.out.shapes.1;subst hsv;clear hsc hso;have c1:w4.cell? ⟨w.heap.size,1,none⟩=some (.slice bo x.sess.length cb):=(show HoldsL w4 w.heap.size (BbV ba ca bo cb x) from S1.out.k _ (List.mem_cons_self ..)).cell rfl;go_wp2_with fail
   clear c1 hge;have S9:Hid _:=S1.out;clear S1;generalize w4=V4 at *;go_loopw [26] (fun iv wr=>∃ (i:Nat) (v:Value),i≤x.sess.length∧iv=iV i∧RowsSt w base O [(w.heap.size,(BbV ba ca bo cb x)),(w.heap.size+1,[.slice none 0 0,.slice none 0 0])] (.slice sa x.binds.length sc) v (x.binds) (x.sess.take i) wr) (fun iv _=>x.sess.length-(intOf iv).toNat)
   case atStart=>exact ⟨0,_,Nat.zero_le _,rfl,S9.out⟩
   case round =>
    obtain ⟨i,v,hi,rfl,hS⟩:=hrel;have S1:Hid _:=hS;clear hS S9;generalize wr=w4 at *;by_cases hlt:i < x.sess.length
    case pos =>
     obtain ⟨bb,off,rfl,hb,hat⟩:=HSX.out.ss.at hlt;have hA:=(hat.below hb S1.out.b) i hlt;have HTK:Hid (x.sess.take (i+1)=x.sess.take i++[x.sess[i]]):=List.take_succ_eq_append_getElem hlt;have hfl:(x.sess.take i).length≤1048576:=by rw [List.length_take]; omega
     have hgd:=HGS.out x.sess[i] (List.getElem_mem hlt);obtain ⟨q,hq⟩ : ∃ q,q=x.sess[i]:=⟨_,rfl⟩;rw [← hq] at hA HTK hgd;have HGD:Hid (SsGood q):=hgd;have hltI:(i:Int) < (x.sess.length:Int):=by omega
     have s0:w4.cell? ⟨bb,off+i*7,none⟩=some (iV q.proto):=hA 0 _ rfl;have s1:w4.cell? ⟨bb,off+i*7+1,none⟩=some (.string q.inn):=hA 1 _ rfl;have s2:w4.cell? ⟨bb,off+i*7+2,none⟩=some (iV q.inPort):=hA 2 _ rfl;have s3:w4.cell? ⟨bb,off+i*7+3,none⟩=some (.string q.peer):=hA 3 _ rfl;have s4:w4.cell? ⟨bb,off+i*7+4,none⟩=some (iV q.peerPort):=hA 4 _ rfl;have s5:w4.cell? ⟨bb,off+i*7+5,none⟩=some (iV q.state):=hA 5 _ rfl;have s6:w4.cell? ⟨bb,off+i*7+6,none⟩=some (iV q.untl):=hA 6 _ rfl;generalize x.sess.take i=zs at *;clear hA hat hq hgd hb;go_upto_region 10 with fail
     have bn:Below w4.heap.size w4 (w4.alloc (.cells (SsV q).toArray 103)):=bR.alloc (Nat.le_refl _) _;have HQ:Hid (HoldsL (w4.alloc (.cells (SsV q).toArray 103)) w4.heap.size (SsV q)):=HoldsL.new w4 (SsV q) 103;have S2:Hid _:=S1.out.kept bn;generalize (w4.alloc (.cells (SsV q).toArray 103))=W5 at *;clear bn S1 s0 s1 s2 s3 s4 s5 s6;generalize w4.heap.size=Bq at *;have HCY:Hid (∀ W,Cb 147 #[.agg (SsV q).toArray] W (.agg (SsV q).toArray)):=fun W=>copySession_any q W HGD.out.1 HGD.out.2.1
     have HCP:Hid (∀ wy,Below W5.drew.heap.size W5.drew wy→RowsSt w base O [(w.heap.size,(BbV ba ca (some ⟨bb,off,none⟩) cb x)),(w.heap.size+1,[.slice none 0 0,.slice none 0 0])] (.slice sa x.binds.length sc) v (x.binds) (zs) wy∧HoldsL wy Bq (SsV q)):=fun wy hy=>⟨S2.out.kept (bR.drew.trans hy),HQ.out.drew.kept (by simp) hy⟩
     clear hun;refine wp_region_growV [30,31,32,33,34] (by kernel_rfl) (by kernel_rfl) ?_;apply GChV.v0
     ·rfl
     ·intro K' a wy ho hd hb hK kz;have o3:=ho 3 (by decide);simp [slot] at o3;clear hd ho;go_simp;try go_bits
      exact kz _ rfl
     apply GChV.v1
     ·rfl
     ·intro K' a wy ho hd hb hK kz;have q0:=hd ⟨0,.data⟩ (by simp) rfl;simp [rAt,IsV,slot] at q0;clear hd ho;obtain ⟨hst,hqq⟩:=HCP.out wy hb;have ko:wy.cell? ⟨O,1,none⟩=some v:=hst.o.cell rfl;obtain ⟨s0,s1,s2,s3,s4,s5,s6⟩:=hqq.c7;go_simp;try go_bits
      exact kz _ rfl
     apply GChV.v2
     ·rfl
     ·intro K' a wy ho hd hb hK kz;have o7:=ho 7 (by decide);simp [slot] at o7;clear hd ho;obtain ⟨hst,hqq⟩:=HCP.out wy hb;have ko:wy.cell? ⟨O,1,none⟩=some v:=hst.o.cell rfl;obtain ⟨s0,s1,s2,s3,s4,s5,s6⟩:=hqq.c7;go_simp;try go_bits
      exact kz _ rfl
     apply GChV.v3
     ·rfl
     ·intro K' a wy ho hd hb hK kz;have q2:=hd ⟨2,.data⟩ (by simp) rfl;simp [rAt,IsV,slot] at q2;clear hd ho;go_simp;refine (HCY.out wy).mono ?_;rintro e wz ⟨rfl,hz⟩;exact hK _ _ rfl hz
     refine GChV.rel (n:=4) (IsOneC (ssL q)) (stable_isOneC _ (by simp [ssL])) [_,_,_,_,IsOneC (ssL q)] rfl rfl ?_ ?_
     ·intro K' a wy ho hd hb hK;rw [wN rfl];have q3:=hd ⟨3,.data⟩ (by simp) rfl;simp [rAt,IsV,slot] at q3;clear hd ho;go_simp;exact hK _ _ ⟨wy.heap.size,rfl,HoldsL.new wy (ssL q) _⟩ (bR.alloc (Nat.le_refl _) _)
     intro X wz hR hz;obtain ⟨x0,x1,x2,x3,x4,-⟩:=hR;have hk7:=x4;clear hk7;simp only [IsV] at x0 x1 x2 x3;simp only [putsFrom,x0,x1,x2,x3,putsFrom];clear x0 x1 x2 x3;obtain ⟨g7,e7,r7⟩:=x4;have SZ:=(HCP.out wz hz).1;obtain ⟨v6,w6,hrun,⟨gg,l6,c6,rfl⟩,hO6,S6⟩:=SZ.appS q g7 r7 hfl;have HRUN:Hid _:=hrun;have HS6:Hid _:=S6;have p1:w6.cell? ⟨O,1,none⟩=some v:=hO6.cell rfl;have p2:=hO6.free (j:=1) (by simp);clear hrun S6 hO6 SZ r7 hz HCP;simp only [e7];simp only [List.length_cons,List.length_nil,List.drop_succ_cons,List.drop_zero,Nat.zero_add,Nat.reduceAdd];intro K5 hK5;with_reducible refine wp_append_run (.tmp 31) (.tmp 34) _ rfl ?_ ?_ HRUN.out (hK5 _ _ ?_)
     ·simp [Act.eval,Act.put]
     ·simp [Act.eval,Act.put]
     intro K6 hK6;go_simp;refine hK6 _ _ ?_;intro K7 hK7;go_simp;refine hK7 _ _ ?_;simp only [wpSeq];go_wp2_with fail
     go_roundw
     case rel =>
      first | exact ⟨i+1,_,by omega,by go_num,by rw [HTK.out]; exact HS6.out⟩ | ((repeat apply Exists.intro); exact ⟨⟨i+1,_,by omega,by go_num,by rw [HTK.out]; exact HS6.out⟩,rfl⟩)
     case measure=>simp [intOf]<;>omega
    case neg =>
     have hie:i=x.sess.length:=by omega
     rw [hie,List.take_length] at S1;have hge:¬ (i:Int) < (x.sess.length:Int):=by omega
     clear hie hlt;obtain ⟨sb,cs1,hsv,_,_⟩:=S1.out.shapes.2;subst hsv;have HHz:=S1.out.at mE1;obtain ⟨z0,z1⟩:=HHz.c2;obtain ⟨zf0,zf1⟩:=HHz.f2;have HRR:Hid (HoldsL ((sW w4 (w.heap.size+1) 0 (.slice sa x.binds.length sc)).setCell ⟨w.heap.size+1,1,none⟩ (.slice sb x.sess.length cs1)) (w.heap.size+1) (BbV sa sc sb cs1 x)):=(HHz.set 0 (.slice sa x.binds.length sc)).set 1 (.slice sb x.sess.length cs1);have RB:Hid (Below w.heap.size w ((sW w4 (w.heap.size+1) 0 (.slice sa x.binds.length sc)).setCell ⟨w.heap.size+1,1,none⟩ (.slice sb x.sess.length cs1))):=(S1.out.b.setCell (p:=⟨w.heap.size+1,0,none⟩) hRw _).setCell (p:=⟨w.heap.size+1,1,none⟩) hRw _;have hkb:w.heap.size+1 < base:=(S1.out.kb _ mE1).1;have hwb:w.heap.size≤base:=by omega
     have O1:Hid (World.ownsRow ((sW w4 (w.heap.size+1) 0 (.slice sa x.binds.length sc)).setCell ⟨w.heap.size+1,1,none⟩ (.slice sb x.sess.length cs1)) w.heap.size 94 5 (.slice sa x.binds.length sc) x.binds.length (flatS bdL x.binds)):=rowDown (ownC_cell (ownC_cell S1.out.bo (ownC_ne S1.out.bo hkb)) (ownC_ne S1.out.bo hkb)) hwb;have O2:Hid (World.ownsRow ((sW w4 (w.heap.size+1) 0 (.slice sa x.binds.length sc)).setCell ⟨w.heap.size+1,1,none⟩ (.slice sb x.sess.length cs1)) w.heap.size 103 7 (.slice sb x.sess.length cs1) x.sess.length (flatS ssL x.sess)):=rowDown (ownC_cell (ownC_cell S1.out.so (ownC_ne S1.out.so hkb)) (ownC_ne S1.out.so hkb)) hwb;obtain ⟨p0,p1⟩:=S1.out.o.c2;clear HHz S1;go_wp2_with fail
     exact bodyPost_ret (results_mid Tryz.results110 _ _ (w.heap.size+1) (BbV sa sc sb cs1 x) _ rfl HRR.out Tryz.underlying39 rfl (show (Tryz.prog.info? 39).map (·.size)=some 2 by kernel_rfl)) rfl (And.intro ⟨_,_,rfl,O1.out,O2.out⟩ RB.out)
theorem bindFor_sz {p:Pl} {xs:List Bd} {h:En} (hps:∀ s∈p.addrs,s.size≤1048576) (hgb:∀ q∈xs,BdGood q) (he:EnIn h):(bindForV p xs h).1.inn.size≤1048576∧(bindForV p xs h).1.out.size≤1048576:=by
 unfold bindForV;split
 ·cases hf:xs.find? (ofIn h.proto h.addr h.port) with
  | none=>exact ⟨Nat.zero_le _,Nat.zero_le _⟩
  | some c=>exact ⟨(hgb c (List.mem_of_find?_eq_some hf)).1,(hgb c (List.mem_of_find?_eq_some hf)).2.1⟩
 ·exact ⟨he.1,outIn_sz hps hgb⟩
def IsZq (base:Nat):Value→World→Prop:=fun v w=>∃ g,v=.pointer (some ⟨g,0,none⟩)∧base≤g∧HoldsL w g (SsR 0 ⟨#[]⟩ 0 ⟨#[]⟩ 0 0 0)
theorem stable_isZq (base:Nat):Stable (IsZq base):=fun v w w' ⟨g,h1,h2,h3⟩ hb=>⟨g,h1,h2,h3.kept (by simp) hb⟩
theorem begin_any (pa:Option Addr) (pc:Nat) (p:Pl) (ba bo:Option Addr) (ca cb:Nat) (x:Bb) (m1 m2:Nat) (h:En) (t:Tc) (now:Int) (w:World) (hpo:poolOk p=true) (hnow:isTime now=true) (hfl:isIn t.flags 0 255=true) (he:EnIn h) (hw0:0≤h.port) (hw1:h.port≤65535) (htp:t.peer.size≤1048576) (hps:∀ s∈p.addrs,s.size≤1048576) (hl1:x.binds.length≤1048576) (hl2:x.sess.length≤1048576) (hgb:∀ q∈x.binds,BdGood q) (hgs:∀ s∈x.sess,SsGood s) (hbk:BookAt w m1 m2 x.binds x.binds) (hp:SlIs strL1 1 w pa p.addrs) (hx:BbIs w ba bo x) :
  Calls Tryz.prog 109 #[bkC pa pc p ba bo ca cb x m1 m2,enC h,tcC t,iV now] w fun e w'=>BoRet w.heap.size (beginV p x h t now) e w'∧Below w.heap.size w w':=by
 obtain ⟨proto,inside,addr,port,peer,peerPort,flags⟩:=t;dsimp only at hfl htp;have hn:0≤now∧now≤1000000000:=by unfold isTime isIn at hnow; simp only [Bool.and_eq_true,decide_eq_true_iff] at hnow; omega
 obtain ⟨hn0,hn1⟩:=hn;have HN:Hid (∀ W,Cw 144 #[iV proto,.bool inside,iV flags] W (iV (trackNewV proto inside flags))):=fun W=>implNewB_any proto inside flags W hfl
 have HAD:Hid (∀ W,Below w.heap.size w W→Cb 145 #[.agg (KkV pa pc p ba ca bo cb x m1 m2).toArray,.agg (EnV h.proto h.addr h.port).toArray,.string peer] W (.bool (admitV p x h peer))):=fun W hW=>admits_any pa pc p ba bo ca cb x m1 m2 h peer W hl2 (hx.below hW)
 have HBF:Hid (∀ W,Below w.heap.size w W→Cb 146 #[.agg (KkV pa pc p ba ca bo cb x m1 m2).toArray,.agg (EnV h.proto h.addr h.port).toArray] W (.tuple #[bdC (bindForV p x.binds h).1,.bool (bindForV p x.binds h).2])):=fun W hW=>bindFor_any pa pc p ba bo ca cb x m1 m2 h W hpo he hw0 hw1 hps hl1 hgb (hbk.kept hW) (hp.below hW) (hx.below hW)
 have HCY:Hid (∀ W,Below w.heap.size w W→Calls Tryz.prog 110 #[.agg (BbV ba ca bo cb x).toArray] W fun e w'=>CopyRet W.heap.size x e w'∧Below W.heap.size W w'):=fun W hW=>implCopy9_any x ba bo ca cb W hl1 hl2 hgb hgs (hx.below hW)
 obtain ⟨d,hd⟩ : ∃ d,d=(x.binds.find? (ofIn h.proto h.addr h.port)).getD bdZ:=⟨_,rfl⟩;have HLK:Hid (∀ W,Below w.heap.size w W→(Instr.lookup 148 (.map (some m1)) (.agg (EnV h.proto h.addr h.port).toArray) true).run Tryz.prog W=.ok (.tuple #[.agg (BdV d).toArray,.bool (x.binds.find? (ofIn h.proto h.addr h.port)).isSome]) W):=fun W hW=>by
  have hl:=(hbk.kept hW).look1 (e:=h) he;rw [show (fun q=>sameEn (hostE q) h)=ofIn h.proto h.addr h.port from funext fun c=>host_in _ _ _ c,← hd] at hl;exact hl
 have hbs:=bindFor_sz (h:=h) hps hgb he;have HCB:Hid (∀ W,Cb 113 #[bdC (bindForV p x.binds h).1] W (bdC (bindForV p x.binds h).1)):=fun W=>copyBind_any _ W hbs.1 hbs.2
 have HCS:Hid (∀ (st un:Int) (W:World),Cb 147 #[.agg (SsR h.proto h.addr h.port peer peerPort st un).toArray] W (.agg (SsR h.proto h.addr h.port peer peerPort st un).toArray)):=fun st un W=>copySession_any ⟨h.proto,h.addr,h.port,peer,peerPort,st,un⟩ W he.1 htp
 have HLF:Hid (∀ (st:Int) (W:World),Cb 112 #[.agg #[iV p.lv.udp,iV p.lv.echo,iV p.lv.opening,iV p.lv.opn,iV p.lv.closing],iV proto,iV st] W (iV (trackLifeV p.lv proto st))):=fun st W=>implLife_any p.lv proto st W
 have HV:Hid (beginV p x h ⟨proto,inside,addr,port,peer,peerPort,flags⟩ now=if trackNewV proto inside flags=0 then boE 6 else if (!inside&&!admitV p x h peer)=true then boE 6 else if (x.sess.length:Int)=p.most then boE 9 else if (bindForV p x.binds h).2=false then boE 9 else ⟨⟨growB p x.binds h,x.sess++[⟨h.proto,h.addr,h.port,peer,peerPort,trackNewV proto inside flags,now+trackLifeV p.lv proto (trackNewV proto inside flags)⟩]⟩,(bindForV p x.binds h).1,0⟩):=rfl;have HGB:Hid (growB p x.binds h=if (x.binds.find? (ofIn h.proto h.addr h.port)).isSome=true then x.binds else x.binds++[(bindForV p x.binds h).1]):=rfl;generalize beginV p x h ⟨proto,inside,addr,port,peer,peerPort,flags⟩ now=ans at *;generalize growB p x.binds h=nb at *;obtain ⟨ns1,ns2⟩:=new_range proto inside flags;generalize trackNewV proto inside flags=st at *;replace HLF:=HLF.out st;obtain ⟨hf0,hf1⟩:=trackLife_in p.lv proto st;have HLG:Hid _:=HLF;clear HLF;generalize trackLifeV p.lv proto st=lf at *;replace HCS:=HCS.out st (now+lf);have HCT:Hid _:=HCS;clear HCS;generalize (bindForV p x.binds h).1=c at *;generalize (bindForV p x.binds h).2=fd at *;generalize (x.binds.find? (ofIn h.proto h.addr h.port)).isSome=bd at *;obtain ⟨gone,hgo⟩ : ∃ g,g=(!inside&&!admitV p x h peer):=⟨_,rfl⟩;rw [← hgo] at HV;have HGO:Hid (gone=(!inside&&!admitV p x h peer)):=hgo;generalize admitV p x h peer=ad at *;unfold bdC at HBF HCB;have hun:undef=Value.tuple #[]:=rfl;have hRw:w.heap.size≤w.heap.size+1+1+1:=by omega
 clear hd hbs hgo hbk hp hx hgb hgs hps he hnow hpo hfl;have e0:HoldsL ((aW (aW (aW w (KkV pa pc p ba ca bo cb x m1 m2) 150) (EnV h.proto h.addr h.port) 155) (TcR proto inside addr port peer peerPort flags) 112).alloc (.cells Z8V.toArray 96)) (w.heap.size) (KkV pa pc p ba ca bo cb x m1 m2):=by
  have h:=HoldsL.new w (KkV pa pc p ba ca bo cb x m1 m2) 150;try simp only [World.size_alloc] at h
  exact (((h.alloc _).alloc _).alloc _)
 have e1:HoldsL ((aW (aW (aW w (KkV pa pc p ba ca bo cb x m1 m2) 150) (EnV h.proto h.addr h.port) 155) (TcR proto inside addr port peer peerPort flags) 112).alloc (.cells Z8V.toArray 96)) (w.heap.size+1) (EnV h.proto h.addr h.port):=by
  have h:=HoldsL.new (w.alloc (.cells (KkV pa pc p ba ca bo cb x m1 m2).toArray 150)) (EnV h.proto h.addr h.port) 155;try simp only [World.size_alloc] at h
  exact ((h.alloc _).alloc _)
 have e2:HoldsL ((aW (aW (aW w (KkV pa pc p ba ca bo cb x m1 m2) 150) (EnV h.proto h.addr h.port) 155) (TcR proto inside addr port peer peerPort flags) 112).alloc (.cells Z8V.toArray 96)) (w.heap.size+1+1) (TcR proto inside addr port peer peerPort flags):=by
  have h:=HoldsL.new ((aW w (KkV pa pc p ba ca bo cb x m1 m2) 150).alloc (.cells (EnV h.proto h.addr h.port).toArray 155)) (TcR proto inside addr port peer peerPort flags) 112;try simp only [World.size_alloc] at h
  exact (h.alloc _)
 have e3:HoldsL ((aW (aW (aW w (KkV pa pc p ba ca bo cb x m1 m2) 150) (EnV h.proto h.addr h.port) 155) (TcR proto inside addr port peer peerPort flags) 112).alloc (.cells Z8V.toArray 96)) (w.heap.size+1+1+1) Z8V:=by
  have h:=HoldsL.new ((aW (aW w (KkV pa pc p ba ca bo cb x m1 m2) 150) (EnV h.proto h.addr h.port) 155).alloc (.cells (TcR proto inside addr port peer peerPort flags).toArray 112)) Z8V 96;try simp only [World.size_alloc] at h
  exact h
 have HS0:Hid (Bxs w [(w.heap.size,(KkV pa pc p ba ca bo cb x m1 m2)),(w.heap.size+1,(EnV h.proto h.addr h.port)),(w.heap.size+1+1,(TcR proto inside addr port peer peerPort flags)),(w.heap.size+1+1+1,Z8V)] ((aW (aW (aW w (KkV pa pc p ba ca bo cb x m1 m2) 150) (EnV h.proto h.addr h.port) 155) (TcR proto inside addr port peer peerPort flags) 112).alloc (.cells Z8V.toArray 96))):=by
  refine ⟨fun e he=>?_,((((bR.alloc (by (try simp only [World.size_alloc]); omega) _).alloc (by (try simp only [World.size_alloc]); omega) _).alloc (by (try simp only [World.size_alloc]); omega) _).alloc (by (try simp only [World.size_alloc]); omega) _),fun e he=>?_⟩
  ·simp only [List.mem_cons,List.not_mem_nil,or_false] at he;rcases he with rfl | rfl | rfl | rfl
   ·exact e0
   ·exact e1
   ·exact e2
   ·exact e3
  ·simp only [List.mem_cons,List.not_mem_nil,or_false] at he;rcases he with rfl | rfl | rfl | rfl<;>simp
 clear e0 e1 e2 e3;unfold bkC enC tcC;go_enter Tryz.func109,Tryz.ntmps109
 go_upto_region 1 with fail
 generalize ((aW (aW (aW w (KkV pa pc p ba ca bo cb x m1 m2) 150) (EnV h.proto h.addr h.port) 155) (TcR proto inside addr port peer peerPort flags) 112).alloc (.cells Z8V.toArray 96))=W at *;have HHt:=HS0.out.at mE2;obtain ⟨t0,t1,t2,t3,t4,t5,t6⟩:=HHt.c7;clear HHt;go_wp2_with fail
 refine (HN.out _).mono ?_;rintro e W ⟨rfl,rfl⟩;clear HN;by_cases hst:st=0
 case pos =>
  have dst:(st==0)=true:=by simp [hst]
  have HST:Hid (st=0):=hst;clear hst;have HX:Hid (ans=boE (6)):=by unfold Hid; rw [HV.out,if_pos HST.out]
  have HHz:=HS0.out.at mE3;obtain ⟨z0,z1,z2,z3,z4,z5,z6,z7⟩:=HHz.c8;obtain ⟨zf0,zf1,zf2,zf3,zf4,zf5,zf6,zf7⟩:=HHz.f8;have HRR:Hid (HoldsL ((sW (sW (sW (sW (sW (sW (sW W (w.heap.size+1+1+1) 0 (.slice none 0 0)) (w.heap.size+1+1+1) 1 (.slice none 0 0)) (w.heap.size+1+1+1) 2 (iV 0)) (w.heap.size+1+1+1) 3 (.string ⟨#[]⟩)) (w.heap.size+1+1+1) 4 (iV 0)) (w.heap.size+1+1+1) 5 (.string ⟨#[]⟩)) (w.heap.size+1+1+1) 6 (iV 0)).setCell ⟨w.heap.size+1+1+1,7,none⟩ (iV (6))) (w.heap.size+1+1+1) [.slice none 0 0,.slice none 0 0,iV 0,.string ⟨#[]⟩,iV 0,.string ⟨#[]⟩,iV 0,iV (6)]):=((((((((HHz.set 0 (.slice none 0 0)).set 1 (.slice none 0 0)).set 2 (iV 0)).set 3 (.string ⟨#[]⟩)).set 4 (iV 0)).set 5 (.string ⟨#[]⟩)).set 6 (iV 0)).set 7 (iV (6)));have RB:Hid _:=((((((((HS0.out.b.setCell (p:=⟨w.heap.size+1+1+1,0,none⟩) hRw (.slice none 0 0)).setCell (p:=⟨w.heap.size+1+1+1,1,none⟩) hRw (.slice none 0 0)).setCell (p:=⟨w.heap.size+1+1+1,2,none⟩) hRw (iV 0)).setCell (p:=⟨w.heap.size+1+1+1,3,none⟩) hRw (.string ⟨#[]⟩)).setCell (p:=⟨w.heap.size+1+1+1,4,none⟩) hRw (iV 0)).setCell (p:=⟨w.heap.size+1+1+1,5,none⟩) hRw (.string ⟨#[]⟩)).setCell (p:=⟨w.heap.size+1+1+1,6,none⟩) hRw (iV 0)).setCell (p:=⟨w.heap.size+1+1+1,7,none⟩) hRw (iV (6)));clear HHz;go_wp2_with fail
  exact bodyPost_ret (results_mid Tryz.results109 _ _ (w.heap.size+1+1+1) [.slice none 0 0,.slice none 0 0,iV 0,.string ⟨#[]⟩,iV 0,.string ⟨#[]⟩,iV 0,iV (6)] _ rfl HRR.out Tryz.underlying96 rfl (show (Tryz.prog.info? 96).map (·.size)=some 8 by kernel_rfl)) rfl (And.intro (by rw [HX.out]; exact ⟨none,none,0,0,rfl,.inl rfl,.inl rfl,fun g h e1=>by simp at e1⟩) RB.out)
 have dst:(st==0)=false:=by simp [hst]
 rw [if_neg hst] at HV;clear hst;go_upto_region 2 with fail
 go_cut [37] (fun v wx=>v=.bool gone∧Bxs w [(w.heap.size,(KkV pa pc p ba ca bo cb x m1 m2)),(w.heap.size+1,(EnV h.proto h.addr h.port)),(w.heap.size+1+1,(TcR proto inside addr port peer peerPort flags)),(w.heap.size+1+1+1,Z8V)] wx)
 case first =>
  clear HV HLG HCY HBF HLK HCB HCT HGB
  cases inside with
  | true =>
   go_wp2_with fail
   go_meet;exact ⟨by rw [HGO.out]; rfl,HS0.out⟩
  | false =>
   have HHk:=HS0.out.at mE0;obtain ⟨k0,k1,k2,k3,k4,k5,k6,k7,k8,k9,k10,k11,k12,k13⟩:=HHk.c14;clear HHk;have HHn:=HS0.out.at mE1;obtain ⟨n0,n1,n2⟩:=HHn.c3;clear HHn;go_wp2_with fail
   refine (HAD.out _ HS0.out.b).mono ?_;rintro e W1 ⟨rfl,q1⟩;have S1:Hid _:=HS0.out.kept q1;clear q1
   cases ad;all_goals
    go_wp2_with fail
    go_meet;exact ⟨by rw [HGO.out]; rfl,S1.out⟩
 case rest =>
 obtain ⟨rfl,hS⟩:=hcut;have S2:Hid _:=hS;clear hS HS0 HAD HGO dst t0 t1 t2 t3 t4 t5 t6;generalize wc=W2 at *
 cases gone with
 | true =>
  have HX:Hid (ans=boE (6)):=by unfold Hid; rw [HV.out]; rfl
  have HHz:=S2.out.at mE3;obtain ⟨z0,z1,z2,z3,z4,z5,z6,z7⟩:=HHz.c8;obtain ⟨zf0,zf1,zf2,zf3,zf4,zf5,zf6,zf7⟩:=HHz.f8;have HRR:Hid (HoldsL ((sW (sW (sW (sW (sW (sW (sW W2 (w.heap.size+1+1+1) 0 (.slice none 0 0)) (w.heap.size+1+1+1) 1 (.slice none 0 0)) (w.heap.size+1+1+1) 2 (iV 0)) (w.heap.size+1+1+1) 3 (.string ⟨#[]⟩)) (w.heap.size+1+1+1) 4 (iV 0)) (w.heap.size+1+1+1) 5 (.string ⟨#[]⟩)) (w.heap.size+1+1+1) 6 (iV 0)).setCell ⟨w.heap.size+1+1+1,7,none⟩ (iV (6))) (w.heap.size+1+1+1) [.slice none 0 0,.slice none 0 0,iV 0,.string ⟨#[]⟩,iV 0,.string ⟨#[]⟩,iV 0,iV (6)]):=((((((((HHz.set 0 (.slice none 0 0)).set 1 (.slice none 0 0)).set 2 (iV 0)).set 3 (.string ⟨#[]⟩)).set 4 (iV 0)).set 5 (.string ⟨#[]⟩)).set 6 (iV 0)).set 7 (iV (6)));have RB:Hid _:=((((((((S2.out.b.setCell (p:=⟨w.heap.size+1+1+1,0,none⟩) hRw (.slice none 0 0)).setCell (p:=⟨w.heap.size+1+1+1,1,none⟩) hRw (.slice none 0 0)).setCell (p:=⟨w.heap.size+1+1+1,2,none⟩) hRw (iV 0)).setCell (p:=⟨w.heap.size+1+1+1,3,none⟩) hRw (.string ⟨#[]⟩)).setCell (p:=⟨w.heap.size+1+1+1,4,none⟩) hRw (iV 0)).setCell (p:=⟨w.heap.size+1+1+1,5,none⟩) hRw (.string ⟨#[]⟩)).setCell (p:=⟨w.heap.size+1+1+1,6,none⟩) hRw (iV 0)).setCell (p:=⟨w.heap.size+1+1+1,7,none⟩) hRw (iV (6)));clear HHz;go_wp2_with fail
  exact bodyPost_ret (results_mid Tryz.results109 _ _ (w.heap.size+1+1+1) [.slice none 0 0,.slice none 0 0,iV 0,.string ⟨#[]⟩,iV 0,.string ⟨#[]⟩,iV 0,iV (6)] _ rfl HRR.out Tryz.underlying96 rfl (show (Tryz.prog.info? 96).map (·.size)=some 8 by kernel_rfl)) rfl (And.intro (by rw [HX.out]; exact ⟨none,none,0,0,rfl,.inl rfl,.inl rfl,fun g h e1=>by simp at e1⟩) RB.out)
 | false =>
 rw [if_neg (by decide)] at HV;have HHk:=S2.out.at mE0;obtain ⟨k0,k1,k2,k3,k4,k5,k6,k7,k8,k9,k10,k11,k12,k13⟩:=HHk.c14;clear HHk;by_cases hm:(x.sess.length:Int)=p.most
 case pos =>
  have dm:((x.sess.length:Int)==p.most)=true:=by simp [hm]
  rw [if_pos hm] at HV;clear hm;have HX:Hid (ans=boE (9)):=by unfold Hid; rw [HV.out]
  have HHz:=S2.out.at mE3;obtain ⟨z0,z1,z2,z3,z4,z5,z6,z7⟩:=HHz.c8;obtain ⟨zf0,zf1,zf2,zf3,zf4,zf5,zf6,zf7⟩:=HHz.f8;have HRR:Hid (HoldsL ((sW (sW (sW (sW (sW (sW (sW W2 (w.heap.size+1+1+1) 0 (.slice none 0 0)) (w.heap.size+1+1+1) 1 (.slice none 0 0)) (w.heap.size+1+1+1) 2 (iV 0)) (w.heap.size+1+1+1) 3 (.string ⟨#[]⟩)) (w.heap.size+1+1+1) 4 (iV 0)) (w.heap.size+1+1+1) 5 (.string ⟨#[]⟩)) (w.heap.size+1+1+1) 6 (iV 0)).setCell ⟨w.heap.size+1+1+1,7,none⟩ (iV (9))) (w.heap.size+1+1+1) [.slice none 0 0,.slice none 0 0,iV 0,.string ⟨#[]⟩,iV 0,.string ⟨#[]⟩,iV 0,iV (9)]):=((((((((HHz.set 0 (.slice none 0 0)).set 1 (.slice none 0 0)).set 2 (iV 0)).set 3 (.string ⟨#[]⟩)).set 4 (iV 0)).set 5 (.string ⟨#[]⟩)).set 6 (iV 0)).set 7 (iV (9)));have RB:Hid _:=((((((((S2.out.b.setCell (p:=⟨w.heap.size+1+1+1,0,none⟩) hRw (.slice none 0 0)).setCell (p:=⟨w.heap.size+1+1+1,1,none⟩) hRw (.slice none 0 0)).setCell (p:=⟨w.heap.size+1+1+1,2,none⟩) hRw (iV 0)).setCell (p:=⟨w.heap.size+1+1+1,3,none⟩) hRw (.string ⟨#[]⟩)).setCell (p:=⟨w.heap.size+1+1+1,4,none⟩) hRw (iV 0)).setCell (p:=⟨w.heap.size+1+1+1,5,none⟩) hRw (.string ⟨#[]⟩)).setCell (p:=⟨w.heap.size+1+1+1,6,none⟩) hRw (iV 0)).setCell (p:=⟨w.heap.size+1+1+1,7,none⟩) hRw (iV (9)));clear HHz;go_wp2_with fail
  exact bodyPost_ret (results_mid Tryz.results109 _ _ (w.heap.size+1+1+1) [.slice none 0 0,.slice none 0 0,iV 0,.string ⟨#[]⟩,iV 0,.string ⟨#[]⟩,iV 0,iV (9)] _ rfl HRR.out Tryz.underlying96 rfl (show (Tryz.prog.info? 96).map (·.size)=some 8 by kernel_rfl)) rfl (And.intro (by rw [HX.out]; exact ⟨none,none,0,0,rfl,.inl rfl,.inl rfl,fun g h e1=>by simp at e1⟩) RB.out)
 have dm:((x.sess.length:Int)==p.most)=false:=by simp [hm]
 rw [if_neg hm] at HV;clear hm;have HHn:=S2.out.at mE1;obtain ⟨n0,n1,n2⟩:=HHn.c3;clear HHn;go_wp2_with fail
 refine (HBF.out _ S2.out.b).mono ?_;rintro e W4 ⟨rfl,q4⟩;have S4:Hid _:=S2.out.kept q4;clear q4 S2 HBF dm k0 k1 k2 k3 k4 k5 k6 k7 k8 k9 k10 k11 k12 k13 n0 n1 n2;go_upto_region 7 with fail
 have S5:Hid _:=S4.out.push (BdV c) (by simp) 94;generalize hW5:W4.alloc _=W5 at *;clear hW5 S4;generalize W4.heap.size=Bc at *
 cases fd with
 | false =>
  have HX:Hid (ans=boE (9)):=by unfold Hid; rw [HV.out]; rfl
  have HHz:=S5.out.at mE4;obtain ⟨z0,z1,z2,z3,z4,z5,z6,z7⟩:=HHz.c8;obtain ⟨zf0,zf1,zf2,zf3,zf4,zf5,zf6,zf7⟩:=HHz.f8;have HRR:Hid (HoldsL ((sW (sW (sW (sW (sW (sW (sW W5 (w.heap.size+1+1+1) 0 (.slice none 0 0)) (w.heap.size+1+1+1) 1 (.slice none 0 0)) (w.heap.size+1+1+1) 2 (iV 0)) (w.heap.size+1+1+1) 3 (.string ⟨#[]⟩)) (w.heap.size+1+1+1) 4 (iV 0)) (w.heap.size+1+1+1) 5 (.string ⟨#[]⟩)) (w.heap.size+1+1+1) 6 (iV 0)).setCell ⟨w.heap.size+1+1+1,7,none⟩ (iV (9))) (w.heap.size+1+1+1) [.slice none 0 0,.slice none 0 0,iV 0,.string ⟨#[]⟩,iV 0,.string ⟨#[]⟩,iV 0,iV (9)]):=((((((((HHz.set 0 (.slice none 0 0)).set 1 (.slice none 0 0)).set 2 (iV 0)).set 3 (.string ⟨#[]⟩)).set 4 (iV 0)).set 5 (.string ⟨#[]⟩)).set 6 (iV 0)).set 7 (iV (9)));have RB:Hid _:=((((((((S5.out.b.setCell (p:=⟨w.heap.size+1+1+1,0,none⟩) hRw (.slice none 0 0)).setCell (p:=⟨w.heap.size+1+1+1,1,none⟩) hRw (.slice none 0 0)).setCell (p:=⟨w.heap.size+1+1+1,2,none⟩) hRw (iV 0)).setCell (p:=⟨w.heap.size+1+1+1,3,none⟩) hRw (.string ⟨#[]⟩)).setCell (p:=⟨w.heap.size+1+1+1,4,none⟩) hRw (iV 0)).setCell (p:=⟨w.heap.size+1+1+1,5,none⟩) hRw (.string ⟨#[]⟩)).setCell (p:=⟨w.heap.size+1+1+1,6,none⟩) hRw (iV 0)).setCell (p:=⟨w.heap.size+1+1+1,7,none⟩) hRw (iV (9)));clear HHz;go_wp2_with fail
  exact bodyPost_ret (results_mid Tryz.results109 _ _ (w.heap.size+1+1+1) [.slice none 0 0,.slice none 0 0,iV 0,.string ⟨#[]⟩,iV 0,.string ⟨#[]⟩,iV 0,iV (9)] _ rfl HRR.out Tryz.underlying96 rfl (show (Tryz.prog.info? 96).map (·.size)=some 8 by kernel_rfl)) rfl (And.intro (by rw [HX.out]; exact ⟨none,none,0,0,rfl,.inl rfl,.inl rfl,fun g h e1=>by simp at e1⟩) RB.out)
 | true =>
 rw [if_neg (by decide)] at HV;have HHk:=S5.out.at mE1;obtain ⟨k0,k1,k2,k3,k4,k5,k6,k7,k8,k9,k10,k11,k12,k13⟩:=HHk.c14;clear HHk;go_wp2_with fail
 refine (HCY.out _ S5.out.b).mono ?_;rintro e W6 ⟨⟨bv,sv,rfl,o1,o2⟩,q6⟩;have S6:Hid _:=S5.out.kept q6;have HO:Hid _:=RowsO.make (ks:=[(Bc,(BdV c)),(w.heap.size,(KkV pa pc p ba ca bo cb x m1 m2)),(w.heap.size+1,(EnV h.proto h.addr h.port)),(w.heap.size+1+1,(TcR proto inside addr port peer peerPort flags)),(w.heap.size+1+1+1,Z8V)]) (x:=x) S5.out.b.size S6.out.b o1 o2 S6.out.k S5.out.lts q6.size;obtain ⟨ab,cb1,hbv,-,-⟩:=(Row.shape bdL_length (w0:=W6) ⟨o1,Below.refl _ _⟩ : ∃ a' cap,bv=.slice a' x.binds.length cap∧x.binds.length≤cap∧SlOwn bdL 5 W5.heap.size W6 a' x.binds);obtain ⟨sa,cs1,hsv,-,-⟩:=(Row.shape ssL_length (w0:=W6) ⟨o2,Below.refl _ _⟩ : ∃ a' cap,sv=.slice a' x.sess.length cap∧x.sess.length≤cap∧SlOwn ssL 7 W5.heap.size W6 a' x.sess);subst hbv hsv;clear q6 o1 o2 S6 S5 HCY k0 k1 k2 k3 k4 k5 k6 k7 k8 k9 k10 k11 k12 k13;go_upto_region 10 with fail
 generalize (W6.alloc (.cells #[(.slice ab x.binds.length cb1),(.slice sa x.sess.length cs1)] 39))=V1 at *;generalize W6.heap.size=O at *;generalize W5.heap.size=base at *;have HV1:Hid (RowsO w base O [(Bc,(BdV c)),(w.heap.size,(KkV pa pc p ba ca bo cb x m1 m2)),(w.heap.size+1,(EnV h.proto h.addr h.port)),(w.heap.size+1+1,(TcR proto inside addr port peer peerPort flags)),(w.heap.size+1+1+1,Z8V)] (.slice ab x.binds.length cb1) (.slice sa x.sess.length cs1) (x.binds) (x.sess) V1):=HO.out;clear HO;have HHk:=HV1.out.at mE1;have k12:=HHk.cell (j:=12) rfl;clear HHk;have HHn:=HV1.out.at mE2;obtain ⟨n0,n1,n2⟩:=HHn.c3;clear HHn;have LK:=HLK.out V1 HV1.out.b;go_upto_region 11 with (at_lookup; refine wpList_look_val rfl _ _ _ _ rfl rfl rfl LK ?_)
 have V2:Hid (RowsO w base O [(Bc,(BdV c)),(w.heap.size,(KkV pa pc p ba ca bo cb x m1 m2)),(w.heap.size+1,(EnV h.proto h.addr h.port)),(w.heap.size+1+1,(TcR proto inside addr port peer peerPort flags)),(w.heap.size+1+1+1,Z8V)] (.slice ab x.binds.length cb1) (.slice sa x.sess.length cs1) (x.binds) (x.sess) (V1.alloc (.cells (BdV d).toArray 94))):=HV1.out.kept (bR.alloc (Nat.le_refl _) _);generalize (V1.alloc (.cells (BdV d).toArray 94))=U at *;clear HV1 LK HLK k12 n0 n1 n2;go_upto_if 68 with fail
 go_cut [12] (fun v wx=>v=.pointer (some ⟨O,0,none⟩)∧∃ (a:Option Addr) (ln cc:Nat),RowsO w base O [(Bc,(BdV c)),(w.heap.size,(KkV pa pc p ba ca bo cb x m1 m2)),(w.heap.size+1,(EnV h.proto h.addr h.port)),(w.heap.size+1+1,(TcR proto inside addr port peer peerPort flags)),(w.heap.size+1+1+1,Z8V)] (.slice a ln cc) (.slice sa x.sess.length cs1) (nb) (x.sess) wx)
 case first =>
  clear HV HCT HLG
  cases bd with
  | true =>
   have hnb:nb=x.binds:=by rw [HGB.out,if_pos rfl]
   go_wp2_with fail
   go_meet;exact ⟨rfl,ab,_,cb1,by rw [hnb]; exact V2.out⟩
  | false =>
   have hnb:nb=x.binds++[c]:=by rw [HGB.out,if_neg (by decide)]
   clear HGB;go_upto_region 12 with fail
   have HCP:Hid (∀ wy,Below U.drew.heap.size U.drew wy→_):=fun wy hy=>V2.out.kept (bR.drew.trans hy)
   have HNB:Hid _:=hnb;clear hun hnb V2;refine wp_region_growV [69,70,71,72,73] (by kernel_rfl) (by kernel_rfl) ?_;apply GChV.v0
   ·rfl
   ·intro K' a wy ho hd hb hK kz;have o12:=ho 12 (by decide);simp [slot] at o12;clear hd ho;go_simp;try go_bits
    exact kz _ rfl
   apply GChV.v1
   ·rfl
   ·intro K' a wy ho hd hb hK kz;have q0:=hd ⟨0,.data⟩ (by simp) rfl;simp [rAt,IsV,slot] at q0;clear hd ho;have hst:=HCP.out wy hb;have ko:=hst.o.cell (j:=0) rfl;have HHy:=hst.at mE0;obtain ⟨y0,y1,y2,y3,y4⟩:=HHy.c5;clear HHy;clear hst;go_simp;try go_bits
    exact kz _ rfl
   apply GChV.v2
   ·rfl
   ·intro K' a wy ho hd hb hK kz;have o10:=ho 10 (by decide);simp [slot] at o10;clear hd ho;have hst:=HCP.out wy hb;have ko:=hst.o.cell (j:=0) rfl;have HHy:=hst.at mE0;obtain ⟨y0,y1,y2,y3,y4⟩:=HHy.c5;clear HHy;clear hst;go_simp;try go_bits
    exact kz _ rfl
   apply GChV.v3
   ·rfl
   ·intro K' a wy ho hd hb hK kz;have q2:=hd ⟨2,.data⟩ (by simp) rfl;simp [rAt,IsV,slot] at q2;clear hd ho;go_simp;refine (HCB.out wy).mono ?_;rintro e wz ⟨rfl,hz⟩;exact hK _ _ rfl hz
   refine GChV.rel (n:=4) (IsOneC (bdL c)) (stable_isOneC _ (by simp [bdL])) [_,_,_,_,IsOneC (bdL c)] rfl rfl ?_ ?_
   ·intro K' a wy ho hd hb hK;rw [wN rfl];have q3:=hd ⟨3,.data⟩ (by simp) rfl;simp [rAt,IsV,slot] at q3;clear hd ho;go_simp;exact hK _ _ ⟨wy.heap.size,rfl,HoldsL.new wy (bdL c) _⟩ (bR.alloc (Nat.le_refl _) _)
   intro X wz hR hz;obtain ⟨x0,x1,x2,x3,x4,-⟩:=hR;have hk7:=x4;clear hk7;simp only [IsV] at x0 x1 x2 x3;simp only [putsFrom,x0,x1,x2,x3,putsFrom];clear x0 x1 x2 x3;obtain ⟨g7,e7,r7⟩:=x4;have SZ:=HCP.out wz hz;obtain ⟨v6,w6,hrun,⟨gg,l6,c6,rfl⟩,hO6,S6⟩:=SZ.appB c g7 r7 hl1;have HRUN:Hid _:=hrun;have HS6:Hid _:=S6;have p1:=hO6.cell (j:=0) rfl;have p2:=hO6.free (j:=0) (by simp);clear hrun S6 hO6 SZ r7 hz HCP;simp only [e7];simp only [List.length_cons,List.length_nil,List.drop_succ_cons,List.drop_zero,Nat.zero_add,Nat.reduceAdd];intro K5 hK5;with_reducible refine wp_append_run (.tmp 70) (.tmp 73) _ rfl ?_ ?_ HRUN.out (hK5 _ _ ?_)
   ·simp [Act.eval,Act.put]
   ·simp [Act.eval,Act.put]
   intro K6 hK6;go_simp;refine hK6 _ _ ?_;intro K7 hK7;go_simp;refine hK7 _ _ ?_;simp only [wpSeq];go_wp2_with fail
   go_meet;exact ⟨rfl,some ⟨gg,0,none⟩,l6,c6,by rw [HNB.out]; exact HS6.out⟩
 case rest =>
 obtain ⟨rfl,a1,ln1,cc1,hS⟩:=hcut;have V3:Hid _:=hS;clear hS V2 HGB;generalize wc=U3 at *;obtain ⟨a1',q1',hb1',-,-⟩:=V3.out.shapes.1;injection hb1' with i1 i2 i3
 subst i1 i2 i3;go_upto_region 13 with fail
 have V4:Hid (RowsO w base O [(Bc,(BdV c)),(w.heap.size,(KkV pa pc p ba ca bo cb x m1 m2)),(w.heap.size+1,(EnV h.proto h.addr h.port)),(w.heap.size+1+1,(TcR proto inside addr port peer peerPort flags)),(w.heap.size+1+1+1,Z8V)] (.slice a1 nb.length cc1) (.slice sa x.sess.length cs1) (nb) (x.sess) U3):=V3.out;clear V3;go_cut [15] (fun v wx=>∃ g,v=.pointer (some ⟨g,0,none⟩)∧HoldsL wx g (SsR h.proto h.addr h.port peer peerPort st (now+lf))∧RowsO w base O [(Bc,(BdV c)),(w.heap.size,(KkV pa pc p ba ca bo cb x m1 m2)),(w.heap.size+1,(EnV h.proto h.addr h.port)),(w.heap.size+1+1,(TcR proto inside addr port peer peerPort flags)),(w.heap.size+1+1+1,Z8V)] (.slice a1 nb.length cc1) (.slice sa x.sess.length cs1) (nb) (x.sess) wx)
 case first =>
  rename_i J K2 hJ hK2;have HCP:Hid (∀ wy,Below U3.drew.heap.size U3.drew wy→_):=fun wy hy=>V4.out.kept (bR.drew.trans hy)
  try clear hun
  refine wp_region_growV [76,77,78,79,80,81,82,83,84,85,86,87,88,89,90,91,92,93,94,95,96,15] (by kernel_rfl) (by kernel_rfl) ?_;apply GChV.v0
  ·rfl
  ·intro K' a wy ho hd hb hK kz;have o5:=ho 5 (by decide);simp [slot] at o5;clear hd ho;go_simp;try go_bits
   exact kz _ rfl
  apply GChV.v1
  ·rfl
  ·intro K' a wy ho hd hb hK kz;have q0:=hd ⟨0,.data⟩ (by simp) rfl;simp [rAt,IsV,slot] at q0;clear hd ho;have hst:=HCP.out wy hb;have HHt:=hst.at mE3;obtain ⟨t0,t1,t2,t3,t4,t5,t6⟩:=HHt.c7;clear HHt;have HHn:=hst.at mE2;obtain ⟨n0,n1,n2⟩:=HHn.c3;clear HHn;have HHk:=hst.at mE1;obtain ⟨-,-,-,-,-,k5,k6,k7,k8,k9⟩:=HHk.c10;clear HHk;clear hst;go_simp;try go_bits
   exact kz _ rfl
  apply GChV.v2
  ·rfl
  ·intro K' a wy ho hd hb hK kz;have o5:=ho 5 (by decide);simp [slot] at o5;clear hd ho;go_simp;try go_bits
   exact kz _ rfl
  apply GChV.v3
  ·rfl
  ·intro K' a wy ho hd hb hK kz;have q2:=hd ⟨2,.data⟩ (by simp) rfl;simp [rAt,IsV,slot] at q2;clear hd ho;have hst:=HCP.out wy hb;have HHt:=hst.at mE3;obtain ⟨t0,t1,t2,t3,t4,t5,t6⟩:=HHt.c7;clear HHt;have HHn:=hst.at mE2;obtain ⟨n0,n1,n2⟩:=HHn.c3;clear HHn;have HHk:=hst.at mE1;obtain ⟨-,-,-,-,-,k5,k6,k7,k8,k9⟩:=HHk.c10;clear HHk;clear hst;go_simp;try go_bits
   exact kz _ rfl
  apply GChV.v4
  ·rfl
  ·intro K' a wy ho hd hb hK kz;have o5:=ho 5 (by decide);simp [slot] at o5;clear hd ho;go_simp;try go_bits
   exact kz _ rfl
  apply GChV.v5
  ·rfl
  ·intro K' a wy ho hd hb hK kz;have q4:=hd ⟨4,.data⟩ (by simp) rfl;simp [rAt,IsV,slot] at q4;clear hd ho;have hst:=HCP.out wy hb;have HHt:=hst.at mE3;obtain ⟨t0,t1,t2,t3,t4,t5,t6⟩:=HHt.c7;clear HHt;have HHn:=hst.at mE2;obtain ⟨n0,n1,n2⟩:=HHn.c3;clear HHn;have HHk:=hst.at mE1;obtain ⟨-,-,-,-,-,k5,k6,k7,k8,k9⟩:=HHk.c10;clear HHk;clear hst;go_simp;try go_bits
   exact kz _ rfl
  apply GChV.v6
  ·rfl
  ·intro K' a wy ho hd hb hK kz;have o6:=ho 6 (by decide);simp [slot] at o6;clear hd ho;go_simp;try go_bits
   exact kz _ rfl
  apply GChV.v7
  ·rfl
  ·intro K' a wy ho hd hb hK kz;have q6:=hd ⟨6,.data⟩ (by simp) rfl;simp [rAt,IsV,slot] at q6;clear hd ho;have hst:=HCP.out wy hb;have HHt:=hst.at mE3;obtain ⟨t0,t1,t2,t3,t4,t5,t6⟩:=HHt.c7;clear HHt;have HHn:=hst.at mE2;obtain ⟨n0,n1,n2⟩:=HHn.c3;clear HHn;have HHk:=hst.at mE1;obtain ⟨-,-,-,-,-,k5,k6,k7,k8,k9⟩:=HHk.c10;clear HHk;clear hst;go_simp;try go_bits
   exact kz _ rfl
  apply GChV.v8
  ·rfl
  ·intro K' a wy ho hd hb hK kz;have o6:=ho 6 (by decide);simp [slot] at o6;clear hd ho;go_simp;try go_bits
   exact kz _ rfl
  apply GChV.v9
  ·rfl
  ·intro K' a wy ho hd hb hK kz;have q8:=hd ⟨8,.data⟩ (by simp) rfl;simp [rAt,IsV,slot] at q8;clear hd ho;have hst:=HCP.out wy hb;have HHt:=hst.at mE3;obtain ⟨t0,t1,t2,t3,t4,t5,t6⟩:=HHt.c7;clear HHt;have HHn:=hst.at mE2;obtain ⟨n0,n1,n2⟩:=HHn.c3;clear HHn;have HHk:=hst.at mE1;obtain ⟨-,-,-,-,-,k5,k6,k7,k8,k9⟩:=HHk.c10;clear HHk;clear hst;go_simp;try go_bits
   exact kz _ rfl
  apply GChV.v10
  ·rfl
  ·intro K' a wy ho hd hb hK kz;have o9:=ho 9 (by decide);simp [slot] at o9;clear hd ho;go_simp;try go_bits
   exact kz _ rfl
  apply GChV.v11
  ·rfl
  ·intro K' a wy ho hd hb hK kz;have o3:=ho 3 (by decide);simp [slot] at o3;clear hd ho;go_simp;try go_bits
   exact kz _ rfl
  apply GChV.v12
  ·rfl
  ·intro K' a wy ho hd hb hK kz;have o4:=ho 4 (by decide);simp [slot] at o4;clear hd ho;go_simp;try go_bits
   exact kz _ rfl
  apply GChV.v13
  ·rfl
  ·intro K' a wy ho hd hb hK kz;have q12:=hd ⟨12,.data⟩ (by simp) rfl;simp [rAt,IsV,slot] at q12;clear hd ho;go_simp;try go_bits
   exact kz _ rfl
  apply GChV.v14
  ·rfl
  ·intro K' a wy ho hd hb hK kz;have q13:=hd ⟨13,.data⟩ (by simp) rfl;simp [rAt,IsV,slot] at q13;clear hd ho;have hst:=HCP.out wy hb;have HHt:=hst.at mE3;obtain ⟨t0,t1,t2,t3,t4,t5,t6⟩:=HHt.c7;clear HHt;have HHn:=hst.at mE2;obtain ⟨n0,n1,n2⟩:=HHn.c3;clear HHn;have HHk:=hst.at mE1;obtain ⟨-,-,-,-,-,k5,k6,k7,k8,k9⟩:=HHk.c10;clear HHk;clear hst;go_simp;try go_bits
   exact kz _ rfl
  apply GChV.v15
  ·rfl
  ·intro K' a wy ho hd hb hK kz;have o6:=ho 6 (by decide);simp [slot] at o6;clear hd ho;go_simp;try go_bits
   exact kz _ rfl
  apply GChV.v16
  ·rfl
  ·intro K' a wy ho hd hb hK kz;have q15:=hd ⟨15,.data⟩ (by simp) rfl;simp [rAt,IsV,slot] at q15;clear hd ho;have hst:=HCP.out wy hb;have HHt:=hst.at mE3;obtain ⟨t0,t1,t2,t3,t4,t5,t6⟩:=HHt.c7;clear HHt;have HHn:=hst.at mE2;obtain ⟨n0,n1,n2⟩:=HHn.c3;clear HHn;have HHk:=hst.at mE1;obtain ⟨-,-,-,-,-,k5,k6,k7,k8,k9⟩:=HHk.c10;clear HHk;clear hst;go_simp;try go_bits
   exact kz _ rfl
  apply GChV.v17
  ·rfl
  ·intro K' a wy ho hd hb hK kz;have o9:=ho 9 (by decide);simp [slot] at o9;clear hd ho;go_simp;try go_bits
   exact kz _ rfl
  apply GChV.v18
  ·rfl
  ·intro K' a wy ho hd hb hK kz;have q14:=hd ⟨14,.data⟩ (by simp) rfl;have q16:=hd ⟨16,.data⟩ (by simp) rfl;have q17:=hd ⟨17,.data⟩ (by simp) rfl;simp [rAt,IsV,slot] at q14 q16 q17;clear hd ho;go_simp;refine (HLG.out wy).mono ?_;rintro e wz ⟨rfl,hz⟩;exact hK _ _ rfl hz
  apply GChV.v19
  ·rfl
  ·intro K' a wy ho hd hb hK kz;have q11:=hd ⟨11,.data⟩ (by simp) rfl;have q18:=hd ⟨18,.data⟩ (by simp) rfl;simp [rAt,IsV,slot] at q11 q18;clear hd ho;go_simp;try go_bits
   exact kz _ rfl
  apply GChV.v20
  ·rfl
  ·intro K' a wy ho hd hb hK kz;have q1:=hd ⟨1,.data⟩ (by simp) rfl;have q3:=hd ⟨3,.data⟩ (by simp) rfl;have q5:=hd ⟨5,.data⟩ (by simp) rfl;have q7:=hd ⟨7,.data⟩ (by simp) rfl;have q9:=hd ⟨9,.data⟩ (by simp) rfl;have q10:=hd ⟨10,.data⟩ (by simp) rfl;have q19:=hd ⟨19,.data⟩ (by simp) rfl;simp [rAt,IsV,slot] at q1 q3 q5 q7 q9 q10 q19;clear hd ho;go_simp;try go_bits
   exact kz _ rfl
  refine GChV.rel (n:=21) (IsZq U3.drew.heap.size) (stable_isZq _) [_,_,_,_,_,_,_,_,_,_,_,_,_,_,_,_,_,_,_,_,_,IsZq U3.drew.heap.size] rfl rfl ?_ ?_
  ·intro K' a wy ho hd hb hK;rw [wN rfl];clear hd ho;go_simp;exact hK _ _ ⟨wy.heap.size,rfl,hb.size,HoldsL.new wy (SsR 0 ⟨#[]⟩ 0 ⟨#[]⟩ 0 0 0) 103⟩ (bR.alloc (Nat.le_refl _) _)
  intro X wz hR hz;obtain ⟨x0,x1,x2,x3,x4,x5,x6,x7,x8,x9,x10,x11,x12,x13,x14,x15,x16,x17,x18,x19,x20,x21,-⟩:=hR;obtain ⟨g8,e8,b8,z8⟩:=x21;simp only [IsV] at x0 x1 x2 x3 x4 x5 x6 x7 x8 x9 x10 x11 x12 x13 x14 x15 x16 x17 x18 x19 x20;simp only [putsFrom,x0,x1,x2,x3,x4,x5,x6,x7,x8,x9,x10,x11,x12,x13,x14,x15,x16,x17,x18,x19,x20,e8];clear x0 x1 x2 x3 x4 x5 x6 x7 x8 x9 x10 x11 x12 x13 x14 x15 x16 x17 x18 x19 x20;obtain ⟨z0,z1,z2,z3,z4,z5,z6⟩:=z8.c7;obtain ⟨zf0,zf1,zf2,zf3,zf4,zf5,zf6⟩:=z8.f7;have b8':U3.heap.size≤g8:=b8;have HB6:Hid (Below U3.heap.size U3 ((sW (sW (sW (sW (sW (sW wz g8 0 (iV h.proto)) g8 1 (.string h.addr)) g8 2 (iV h.port)) g8 3 (.string peer)) g8 4 (iV peerPort)) g8 5 (iV st)).setCell ⟨g8,6,none⟩ (iV (now+lf)))):=((((((((bR.drew.trans hz).setCell (p:=⟨g8,0,none⟩) b8' (iV h.proto)).setCell (p:=⟨g8,1,none⟩) b8' (.string h.addr)).setCell (p:=⟨g8,2,none⟩) b8' (iV h.port)).setCell (p:=⟨g8,3,none⟩) b8' (.string peer)).setCell (p:=⟨g8,4,none⟩) b8' (iV peerPort)).setCell (p:=⟨g8,5,none⟩) b8' (iV st)).setCell (p:=⟨g8,6,none⟩) b8' (iV (now+lf)));have HQ6:Hid (HoldsL ((sW (sW (sW (sW (sW (sW wz g8 0 (iV h.proto)) g8 1 (.string h.addr)) g8 2 (iV h.port)) g8 3 (.string peer)) g8 4 (iV peerPort)) g8 5 (iV st)).setCell ⟨g8,6,none⟩ (iV (now+lf))) g8 (SsR h.proto h.addr h.port peer peerPort st (now+lf))):=(((((((z8.set 0 (iV h.proto)).set 1 (.string h.addr)).set 2 (iV h.port)).set 3 (.string peer)).set 4 (iV peerPort)).set 5 (iV st)).set 6 (iV (now+lf)));clear z8 b8 b8' hz HCP;intro K10 hK10;go_simp;refine hK10 _ _ ?_;show Exit.then _ _ _ _ _;refine hK2 _ _ (hJ _ _ ?_);(repeat apply Exists.intro)
  exact ⟨⟨g8,rfl,HQ6.out,V4.out.kept HB6.out⟩,rfl⟩
 case rest =>
 obtain ⟨g8,rfl,hq8,hS⟩:=hcut;have V5:Hid _:=hS;have HQ8:Hid _:=hq8;clear hS hq8 V4 HLG;generalize wc=U5 at *;go_upto_region 14 with fail
 go_cut [12] (fun v wx=>v=.pointer (some ⟨O,0,none⟩)∧∃ (a:Option Addr) (ln cc:Nat),RowsO w base O [(Bc,(BdV c)),(w.heap.size,(KkV pa pc p ba ca bo cb x m1 m2)),(w.heap.size+1,(EnV h.proto h.addr h.port)),(w.heap.size+1+1,(TcR proto inside addr port peer peerPort flags)),(w.heap.size+1+1+1,Z8V)] (.slice a1 nb.length cc1) (.slice a ln cc) (nb) (x.sess++[(⟨h.proto,h.addr,h.port,peer,peerPort,st,now+lf⟩ : Ss)]) wx)
 case first =>
  rename_i J K2 hJ hK2;have HCP:Hid (∀ wy,Below U5.drew.heap.size U5.drew wy→_):=fun wy hy=>V5.out.kept (bR.drew.trans hy)
  have HQP:Hid (∀ wy,Below U5.drew.heap.size U5.drew wy→HoldsL wy g8 (SsR h.proto h.addr h.port peer peerPort st (now+lf))):=fun wy hy=>HQ8.out.drew.kept (by simp) hy
  try clear hun
  refine wp_region_growV [97,98,99,100,101] (by kernel_rfl) (by kernel_rfl) ?_;apply GChV.v0
  ·rfl
  ·intro K' a wy ho hd hb hK kz;have o12:=ho 12 (by decide);simp [slot] at o12;clear hd ho;go_simp;try go_bits
   exact kz _ rfl
  apply GChV.v1
  ·rfl
  ·intro K' a wy ho hd hb hK kz;have q0:=hd ⟨0,.data⟩ (by simp) rfl;simp [rAt,IsV,slot] at q0;clear hd ho;have hst:=HCP.out wy hb;have ko:=hst.o.cell (j:=1) rfl;have hqq:=HQP.out wy hb;obtain ⟨s0,s1,s2,s3,s4,s5,s6⟩:=hqq.c7;clear hst;go_simp;try go_bits
   exact kz _ rfl
  apply GChV.v2
  ·rfl
  ·intro K' a wy ho hd hb hK kz;have o15:=ho 15 (by decide);simp [slot] at o15;clear hd ho;have hst:=HCP.out wy hb;have ko:=hst.o.cell (j:=1) rfl;have hqq:=HQP.out wy hb;obtain ⟨s0,s1,s2,s3,s4,s5,s6⟩:=hqq.c7;clear hst;go_simp;try go_bits
   exact kz _ rfl
  apply GChV.v3
  ·rfl
  ·intro K' a wy ho hd hb hK kz;have q2:=hd ⟨2,.data⟩ (by simp) rfl;simp [rAt,IsV,slot] at q2;clear hd ho;go_simp;refine (HCT.out wy).mono ?_;rintro e wz ⟨rfl,hz⟩;exact hK _ _ rfl hz
  refine GChV.rel (n:=4) (IsOneC (ssL (⟨h.proto,h.addr,h.port,peer,peerPort,st,now+lf⟩ : Ss))) (stable_isOneC _ (by simp [ssL])) [_,_,_,_,IsOneC (ssL (⟨h.proto,h.addr,h.port,peer,peerPort,st,now+lf⟩ : Ss))] rfl rfl ?_ ?_
  ·intro K' a wy ho hd hb hK;rw [wN rfl];have q3:=hd ⟨3,.data⟩ (by simp) rfl;simp [rAt,IsV,slot] at q3;clear hd ho;go_simp;exact hK _ _ ⟨wy.heap.size,rfl,HoldsL.new wy (ssL (⟨h.proto,h.addr,h.port,peer,peerPort,st,now+lf⟩ : Ss)) _⟩ (bR.alloc (Nat.le_refl _) _)
  intro X wz hR hz;obtain ⟨x0,x1,x2,x3,x4,-⟩:=hR;have hk7:=x4;clear hk7;simp only [IsV] at x0 x1 x2 x3;simp only [putsFrom,x0,x1,x2,x3,putsFrom];clear x0 x1 x2 x3;obtain ⟨g7,e7,r7⟩:=x4;have SZ:=HCP.out wz hz;obtain ⟨v6,w6,hrun,⟨gg,l6,c6,rfl⟩,hO6,S6⟩:=SZ.appS (⟨h.proto,h.addr,h.port,peer,peerPort,st,now+lf⟩ : Ss) g7 r7 hl2;have HRUN:Hid _:=hrun;have HS6:Hid _:=S6;have p1:=hO6.cell (j:=1) rfl;have p2:=hO6.free (j:=1) (by simp);clear hrun S6 hO6 SZ r7 hz HCP;simp only [e7];simp only [List.length_cons,List.length_nil,List.drop_succ_cons,List.drop_zero,Nat.zero_add,Nat.reduceAdd];intro K5 hK5;with_reducible refine wp_append_run (.tmp 98) (.tmp 101) _ rfl ?_ ?_ HRUN.out (hK5 _ _ ?_)
  ·simp [Act.eval,Act.put]
  ·simp [Act.eval,Act.put]
  intro K6 hK6;go_simp;refine hK6 _ _ ?_;intro K7 hK7;go_simp;refine hK7 _ _ ?_;show Exit.then _ _ _ _ _;refine hK2 _ _ (hJ _ _ ?_);(repeat apply Exists.intro)
  exact ⟨⟨rfl,some ⟨gg,0,none⟩,l6,c6,HS6.out⟩,rfl⟩
 case rest =>
 obtain ⟨rfl,a2,ln2,cc2,hS⟩:=hcut;have V6:Hid _:=hS;clear hS V5 HQ8 HCT;generalize wc=U6 at *;obtain ⟨a2',q2',hb2',-,-⟩:=V6.out.shapes.2;injection hb2' with i1 i2 i3
 subst i1 i2 i3;go_upto_region 15 with fail
 obtain ⟨sn,hsn⟩ : ∃ n,n=(x.sess++[(⟨h.proto,h.addr,h.port,peer,peerPort,st,now+lf⟩ : Ss)]).length:=⟨_,rfl⟩;have HSN:Hid (sn=(x.sess++[(⟨h.proto,h.addr,h.port,peer,peerPort,st,now+lf⟩ : Ss)]).length):=hsn;rw [← hsn] at V6;clear hsn;obtain ⟨bn,hbn⟩ : ∃ n,n=nb.length:=⟨_,rfl⟩;have HBN:Hid (bn=nb.length):=hbn;rw [← hbn] at V6;clear hbn;have HCP:Hid (∀ wy,Below U6.drew.heap.size U6.drew wy→_):=fun wy hy=>V6.out.kept (bR.drew.trans hy)
 try clear hun
 clear V6;refine wp_region_growV [104,105,106,107] (by kernel_rfl) (by kernel_rfl) ?_;apply GChV.v0
 ·rfl
 ·intro K' a wy ho hd hb hK kz;have o12:=ho 12 (by decide);simp [slot] at o12;clear hd ho;have hst:=HCP.out wy hb;obtain ⟨ko0,ko1⟩:=hst.o.c2;have HHy:=hst.at mE0;obtain ⟨y0,y1,y2,y3,y4⟩:=HHy.c5;clear HHy;clear hst;go_simp;try go_bits
  exact kz _ rfl
 apply GChV.v1
 ·rfl
 ·intro K' a wy ho hd hb hK kz;have o10:=ho 10 (by decide);simp [slot] at o10;clear hd ho;have hst:=HCP.out wy hb;obtain ⟨ko0,ko1⟩:=hst.o.c2;have HHy:=hst.at mE0;obtain ⟨y0,y1,y2,y3,y4⟩:=HHy.c5;clear HHy;clear hst;go_simp;try go_bits
  exact kz _ rfl
 apply GChV.v2
 ·rfl
 ·intro K' a wy ho hd hb hK kz;have q1:=hd ⟨1,.data⟩ (by simp) rfl;simp [rAt,IsV,slot] at q1;clear hd ho;go_simp;refine (HCB.out wy).mono ?_;rintro e wz ⟨rfl,hz⟩;exact hK _ _ rfl hz
 apply GChV.v3
 ·rfl
 ·intro K' a wy ho hd hb hK kz;have q0:=hd ⟨0,.data⟩ (by simp) rfl;have q2:=hd ⟨2,.data⟩ (by simp) rfl;simp [rAt,IsV,slot] at q0 q2;clear hd ho;go_simp;try go_bits
  exact kz _ rfl
 intro X wz hR hz;obtain ⟨x0,x1,x2,x3,-⟩:=hR;simp only [IsV] at x0 x1 x2 x3;simp only [putsFrom,x0,x1,x2,x3];clear x0 x1 x2 x3;have V7:Hid (RowsO w base O [(Bc,(BdV c)),(w.heap.size,(KkV pa pc p ba ca bo cb x m1 m2)),(w.heap.size+1,(EnV h.proto h.addr h.port)),(w.heap.size+1+1,(TcR proto inside addr port peer peerPort flags)),(w.heap.size+1+1+1,Z8V)] (.slice a1 bn cc1) (.slice a2 sn cc2) (nb) (x.sess++[(⟨h.proto,h.addr,h.port,peer,peerPort,st,now+lf⟩ : Ss)]) wz):=HCP.out wz hz;clear hz HCP;have HHz:=V7.out.at mE4;obtain ⟨z0,z1,z2,z3,z4,z5,z6,z7⟩:=HHz.c8;obtain ⟨zf0,zf1,zf2,zf3,zf4,zf5,zf6,zf7⟩:=HHz.f8;have HRR:Hid (HoldsL ((sW (sW (sW (sW (sW (sW (sW wz (w.heap.size+1+1+1) 0 (.slice a1 bn cc1)) (w.heap.size+1+1+1) 1 (.slice a2 sn cc2)) (w.heap.size+1+1+1) 2 (iV c.proto)) (w.heap.size+1+1+1) 3 (.string c.inn)) (w.heap.size+1+1+1) 4 (iV c.inPort)) (w.heap.size+1+1+1) 5 (.string c.out)) (w.heap.size+1+1+1) 6 (iV c.outPort)).setCell ⟨w.heap.size+1+1+1,7,none⟩ (iV 0)) (w.heap.size+1+1+1) [.slice a1 bn cc1,.slice a2 sn cc2,iV c.proto,.string c.inn,iV c.inPort,.string c.out,iV c.outPort,iV 0]):=((((((((HHz.set 0 (.slice a1 bn cc1)).set 1 (.slice a2 sn cc2)).set 2 (iV c.proto)).set 3 (.string c.inn)).set 4 (iV c.inPort)).set 5 (.string c.out)).set 6 (iV c.outPort)).set 7 (iV 0));have RB:Hid _:=((((((((V7.out.b.setCell (p:=⟨w.heap.size+1+1+1,0,none⟩) hRw (.slice a1 bn cc1)).setCell (p:=⟨w.heap.size+1+1+1,1,none⟩) hRw (.slice a2 sn cc2)).setCell (p:=⟨w.heap.size+1+1+1,2,none⟩) hRw (iV c.proto)).setCell (p:=⟨w.heap.size+1+1+1,3,none⟩) hRw (.string c.inn)).setCell (p:=⟨w.heap.size+1+1+1,4,none⟩) hRw (iV c.inPort)).setCell (p:=⟨w.heap.size+1+1+1,5,none⟩) hRw (.string c.out)).setCell (p:=⟨w.heap.size+1+1+1,6,none⟩) hRw (iV c.outPort)).setCell (p:=⟨w.heap.size+1+1+1,7,none⟩) hRw (iV 0));clear HHz;obtain ⟨w1,q1,hb1,-,hbo⟩:=V7.out.shapes.1;obtain ⟨w2,q2,hb2,-,hso⟩:=V7.out.shapes.2;injection hb1 with i1 i2 i3
 injection hb2 with i4 i5 i6
 have hRb:w.heap.size+1+1+1 < base:=(V7.out.kb _ mE4).1;have hwb:=V7.out.wb;have HOW:Hid (BbOwn w.heap.size ((sW (sW (sW (sW (sW (sW (sW wz (w.heap.size+1+1+1) 0 (.slice a1 bn cc1)) (w.heap.size+1+1+1) 1 (.slice a2 sn cc2)) (w.heap.size+1+1+1) 2 (iV c.proto)) (w.heap.size+1+1+1) 3 (.string c.inn)) (w.heap.size+1+1+1) 4 (iV c.inPort)) (w.heap.size+1+1+1) 5 (.string c.out)) (w.heap.size+1+1+1) 6 (iV c.outPort)).setCell ⟨w.heap.size+1+1+1,7,none⟩ (iV 0)) w1 w2 ⟨nb,x.sess++[(⟨h.proto,h.addr,h.port,peer,peerPort,st,now+lf⟩ : Ss)]⟩):=⟨(hbo.grown (grown_set (grown_set (grown_set (grown_set (grown_set (grown_set (grown_set (grown_set (World.grownBy.refl _ _) _) _) _) _) _) _) _) _) hRb).down hwb,(hso.grown (grown_set (grown_set (grown_set (grown_set (grown_set (grown_set (grown_set (grown_set (World.grownBy.refl _ _) _) _) _) _) _) _) _) _) hRb).down hwb,fun g h e1 e2 _ _ e3=>V7.out.ne g (by rw [i1,e1]; rfl) (by rw [i4,e2,← e3]; rfl)⟩;have I1:Hid _:=i1;have I3:Hid _:=i3;have I4:Hid _:=i4;have I6:Hid _:=i6;clear hbo hso V7 i1 i2 i3 i4 i5 i6;intro K10 hK10;go_simp;refine hK10 _ _ ?_;simp only [wpSeq];go_wp2_with fail
 exact bodyPost_ret (results_mid Tryz.results109 _ _ _ _ _ rfl HRR.out Tryz.underlying96 rfl (show (Tryz.prog.info? 96).map (·.size)=some 8 by kernel_rfl)) rfl (And.intro (by rw [HV.out]; exact ⟨w1,w2,q1,q2,by rw [I1.out,I3.out,I4.out,I6.out,HBN.out,HSN.out]; rfl,HOW.out⟩) RB.out)
theorem touch_parts {t:Tc} (h:touchOk t=true):In64t t.proto∧0≤t.port∧t.port≤65535∧isIn t.flags 0 255=true:=by
 unfold touchOk at h;simp only [Bool.and_eq_true] at h;obtain ⟨⟨⟨⟨⟨⟨h1,h2⟩,h3⟩,h4⟩,h5⟩,h6⟩,h7⟩:=h;have h4':=isIn_parts h4;refine ⟨?_,h4'.1,h4'.2,h7⟩;unfold protoB at h1;simp only [Bool.or_eq_true,decide_eq_true_iff] at h1;unfold In64t;rcases h1 with (h1 | h1) | h1<;>rw [h1]<;>decide
theorem host_parts {p:Pl} {x:Bb} {t:Tc} (hok:bookOk p x=true) (ht:touchOk t=true) (hs:t.addr.size≤1048576) (hgb:∀ q∈x.binds,BdGood q) (hf:(hostV x t).2=true):EnIn (hostV x t).1∧0≤(hostV x t).1.port∧(hostV x t).1.port≤65535:=by
 obtain ⟨t1,t2,t3,t4⟩:=touch_parts ht;unfold hostV at hf ⊢
 cases hin:t.inside with
 | true =>
  simp only [if_true];refine ⟨⟨hs,t1,?_⟩,t2,t3⟩;show In64t t.port;unfold In64t;constructor<;>omega
 | false =>
  rw [hin] at hf;simp only [Bool.false_eq_true,if_false] at hf ⊢
  cases hd:x.binds.find? (ofOut t.proto t.addr t.port) with
  | none=>rw [hd] at hf; simp at hf
  | some c =>
   have hc:=List.mem_of_find?_eq_some hd;simp only [Option.getD_some];refine ⟨hostE_in (hgb c hc),?_⟩;unfold bookOk at hok;simp only [Bool.and_eq_true] at hok;have hF:=upN_iff.1 hok.1.2;obtain ⟨i,hi,rfl⟩:=List.getElem_of_mem hc;have h1:=hF i hi;unfold fitB at h1;simp only [Bool.and_eq_true] at h1;exact isIn_parts h1.1.1.1.1.1.1.2
theorem go_none {p:Pl} {x:Bb} {t:Tc} {now:Int} (h1:(hostV x t).2=true) (h2:x.sess.findIdx? (fun s=>sameSk (sessK s) (keyT (hostV x t).1 t))=none):goI p x t now=beginV p x (hostV x t).1 t now:=by
 unfold goI; rw [if_neg (by rw [h1]; decide),h2]
theorem go_some {p:Pl} {x:Bb} {t:Tc} {now:Int} {j:Nat} (hlt:j < x.sess.length) (h1:(hostV x t).2=true) (h2:x.sess.findIdx? (fun s=>sameSk (sessK s) (keyT (hostV x t).1 t))=some j):goI p x t now=⟨⟨x.binds,x.sess.set j (nextS p t now x.sess[j])⟩,(x.binds.find? (ofIn (hostV x t).1.proto (hostV x t).1.addr (hostV x t).1.port)).getD bdZ,0⟩:=by
 unfold goI setN; rw [if_neg (by rw [h1]; decide),h2];simp only [List.getElem?_eq_getElem hlt]
theorem implBibTouch_any (pa:Option Addr) (pc:Nat) (p:Pl) (ba bo:Option Addr) (ca cb:Nat) (x:Bb) (t:Tc) (now:Int) (w:World) (hT:TabB w) (hs1:t.addr.size≤1048576) (hs2:t.peer.size≤1048576) (hpl:p.addrs.length≤1048576) (hpc:p.addrs.length≤pc) (hps:∀ s∈p.addrs,s.size≤1048576) (hbl1:x.binds.length≤1048576) (hbl2:x.sess.length≤1048576) (hgb:∀ q∈x.binds,BdGood q) (hgs:∀ s∈x.sess,SsGood s) (hp:SlIs strL1 1 w pa p.addrs) (hx:BbIs w ba bo x) :
  Calls Tryz.prog 62 #[plC pa pc p,bbC ba bo ca cb x,tcC t,iV now] w fun e w'=>BoRet w.heap.size (bibTouchV p x t now) e w'∧Below w.heap.size w w':=by
 rw [← touch_same];have HHP:Hid (bookOk p x=true→touchOk t=true→(hostV x t).2=true→EnIn (hostV x t).1∧0≤(hostV x t).1.port∧(hostV x t).1.port≤65535):=fun h1 h2 h3=>host_parts h1 h2 hs1 hgb h3
 have HTP:Hid (touchOk t=true→In64t t.proto∧0≤t.port∧t.port≤65535∧isIn t.flags 0 255=true):=touch_parts;have HG0:Hid ((hostV x t).2=false→goI p x t now=boE 6):=fun h=>by unfold goI; rw [if_pos h]
 have HG1:Hid ((hostV x t).2=true→x.sess.findIdx? (fun s=>sameSk (sessK s) (keyT (hostV x t).1 t))=none→goI p x t now=beginV p x (hostV x t).1 t now):=go_none;have HG2:Hid (∀ j (hlt:j < x.sess.length),(hostV x t).2=true→x.sess.findIdx? (fun s=>sameSk (sessK s) (keyT (hostV x t).1 t))=some j→goI p x t now=⟨⟨x.binds,x.sess.set j (nextS p t now x.sess[j])⟩,(x.binds.find? (ofIn (hostV x t).1.proto (hostV x t).1.addr (hostV x t).1.port)).getD bdZ,0⟩):=fun j hlt=>go_some hlt
 have HHO:Hid (∀ W m1 m2,touchOk t=true→BookAt W m1 m2 x.binds x.binds→Cb 107 #[.agg (KkV pa pc p ba ca bo cb x m1 m2).toArray,tcC t] W (.tuple #[enC (hostV x t).1,.bool (hostV x t).2])):=fun W m1 m2 ht hbk=>hostOf_any pa pc p ba bo ca cb x m1 m2 t W ⟨hs1,(touch_parts ht).1,by have:=touch_parts ht; show In64t t.port; unfold In64t; constructor<;>omega⟩ hbk
 have HBG:Hid (∀ W m1 m2,Below w.heap.size w W→bookOk p x=true→isTime now=true→touchOk t=true→(hostV x t).2=true→BookAt W m1 m2 x.binds x.binds→Calls Tryz.prog 109 #[.agg (KkV pa pc p ba ca bo cb x m1 m2).toArray,enC (hostV x t).1,tcC t,iV now] W fun e w'=>BoRet W.heap.size (beginV p x (hostV x t).1 t now) e w'∧Below W.heap.size W w'):=fun W m1 m2 hW hok hnow ht hf hbk=>by
  have hpo:poolOk p=true:=by unfold bookOk at hok; simp only [Bool.and_eq_true] at hok; exact hok.1.1.1.1
  have h:=HHP.out hok ht hf;exact begin_any pa pc p ba bo ca cb x m1 m2 _ t now W hpo hnow (touch_parts ht).2.2.2 h.1 h.2.1 h.2.2 hs2 hps hbl1 hbl2 hgb hgs hbk (hp.below hW) (hx.below hW)
 have HGT:Hid (∀ W m1 m2,bookOk p x=true→touchOk t=true→(hostV x t).2=true→BookAt W m1 m2 x.binds x.binds→(Instr.lookup 148 (.map (some m1)) (enC (hostV x t).1) false).run Tryz.prog W=.ok (bdC ((x.binds.find? (ofIn (hostV x t).1.proto (hostV x t).1.addr (hostV x t).1.port)).getD bdZ)) W):=fun W m1 m2 hok ht hf hbk=>by
  have hl:=hbk.get1 (HHP.out hok ht hf).1;rw [show (fun q=>sameEn (hostE q) (hostV x t).1)=ofIn (hostV x t).1.proto (hostV x t).1.addr (hostV x t).1.port from funext fun c=>host_in _ _ _ c] at hl;exact hl
 have HCB:Hid (∀ W,Cb 113 #[bdC ((x.binds.find? (ofIn (hostV x t).1.proto (hostV x t).1.addr (hostV x t).1.port)).getD bdZ)] W (bdC ((x.binds.find? (ofIn (hostV x t).1.proto (hostV x t).1.addr (hostV x t).1.port)).getD bdZ))):=fun W=>by
  cases hf:x.binds.find? (ofIn (hostV x t).1.proto (hostV x t).1.addr (hostV x t).1.port) with
  | none=>exact copyBind_any bdZ W (Nat.zero_le _) (Nat.zero_le _)
  | some c=>exact copyBind_any c W (hgb c (List.mem_of_find?_eq_some hf)).1 (hgb c (List.mem_of_find?_eq_some hf)).2.1
 obtain ⟨proto,inside,addr,port,peer,peerPort,flags⟩:=t;dsimp only at hs1 hs2;have HOP:Hid (∀ W,Below w.heap.size w W→Calls Tryz.prog 105 #[.agg (PlV pa pc p).toArray,.agg (BbV ba ca bo cb x).toArray] W (OpenRet W pa pc p ba bo ca cb x)):=fun W hW=>open_any pa pc p ba bo ca cb x W hpl hpc hps hbl1 hbl2 hgb hgs (hp.below hW) (hx.below hW)
 have HTM:Hid (∀ W,Cw 74 #[iV now] W (.bool (isTime now))):=fun W=>implTime_any now W
 have HTR:Hid (∀ W,Cb 106 #[.agg (TcR proto inside addr port peer peerPort flags).toArray] W (.bool (touchOk ⟨proto,inside,addr,port,peer,peerPort,flags⟩))):=fun W=>touchRight_any ⟨proto,inside,addr,port,peer,peerPort,flags⟩ W hs1 hs2
 have HSA:Hid (∀ (h:En) W,Below w.heap.size w W→Cb 108 #[.slice bo x.sess.length cb,.agg (BdR h.proto h.addr h.port peer peerPort).toArray] W (iV (findI (fun s=>sameSk (sessK s) (keyT h ⟨proto,inside,addr,port,peer,peerPort,flags⟩)) x.sess))):=fun h W hW=>sessAt_any (keyT h ⟨proto,inside,addr,port,peer,peerPort,flags⟩) x.sess bo cb W hbl2 (hx.ss.below hW)
 have HCY:Hid (∀ W,Below w.heap.size w W→Calls Tryz.prog 110 #[.agg (BbV ba ca bo cb x).toArray] W fun e w'=>CopyRet W.heap.size x e w'∧Below W.heap.size W w'):=fun W hW=>implCopy9_any x ba bo ca cb W hbl1 hbl2 hgb hgs (hx.below hW)
 have HNX:Hid (∀ (st:Int) (W:World),Below w.heap.size w W→Cb 111 #[iV proto,iV st,.bool inside,iV flags] W (iV (trackNextV proto st inside flags))):=fun st W hW=>implNext_any proto st inside flags W (hT.below hW)
 have HLF:Hid (∀ (st:Int) (W:World),Cb 112 #[.agg #[iV p.lv.udp,iV p.lv.echo,iV p.lv.opening,iV p.lv.opn,iV p.lv.closing],iV proto,iV st] W (iV (trackLifeV p.lv proto st))):=fun st W=>implLife_any p.lv proto st W
 unfold tcC at HHO HBG;dsimp only at HHO HBG;obtain ⟨ans,hans⟩ : ∃ a,a=(if (bookOk p x&&isTime now&&touchOk ⟨proto,inside,addr,port,peer,peerPort,flags⟩)=true then goI p x ⟨proto,inside,addr,port,peer,peerPort,flags⟩ now else boE 1):=⟨_,rfl⟩;rw [← hans];have HV:Hid (ans=(if (bookOk p x&&isTime now&&touchOk ⟨proto,inside,addr,port,peer,peerPort,flags⟩)=true then goI p x ⟨proto,inside,addr,port,peer,peerPort,flags⟩ now else boE 1)):=hans;have hn:isTime now=true→0≤now∧now≤1000000000:=fun h=>by unfold isTime isIn at h; simp only [Bool.and_eq_true,decide_eq_true_iff] at h; omega
 have HNN:Hid _:=hn;generalize hgi:goI p x ⟨proto,inside,addr,port,peer,peerPort,flags⟩ now=gi at *;obtain ⟨hv,hhv⟩ : ∃ h,h=(hostV x ⟨proto,inside,addr,port,peer,peerPort,flags⟩).1:=⟨_,rfl⟩;rw [← hhv] at HHP HG1 HG2 HHO HBG HGT HCB;unfold enC at HHO HBG HGT;generalize (hostV x ⟨proto,inside,addr,port,peer,peerPort,flags⟩).2=fd at *;replace HSA:=HSA.out hv;have HSB:Hid _:=HSA;clear HSA hhv;obtain ⟨d,hd⟩ : ∃ d,d=(x.binds.find? (ofIn hv.proto hv.addr hv.port)).getD bdZ:=⟨_,rfl⟩;rw [← hd] at HG2 HGT HCB;unfold bdC at HGT HCB;clear hd hans hn hgi;generalize touchOk ⟨proto,inside,addr,port,peer,peerPort,flags⟩=tr at *;generalize isTime now=tm at *;have hun:undef=Value.tuple #[]:=rfl;have hRw:w.heap.size≤w.heap.size+1+1+1:=by omega
 clear hp hx hgb hgs hps hT;have e0:HoldsL ((aW (aW (aW w (PlV pa pc p) 48) (BbV ba ca bo cb x) 39) (TcR proto inside addr port peer peerPort flags) 112).alloc (.cells Z8V.toArray 96)) (w.heap.size) (PlV pa pc p):=by
  have h:=HoldsL.new w (PlV pa pc p) 48;try simp only [World.size_alloc] at h
  exact (((h.alloc _).alloc _).alloc _)
 have e1:HoldsL ((aW (aW (aW w (PlV pa pc p) 48) (BbV ba ca bo cb x) 39) (TcR proto inside addr port peer peerPort flags) 112).alloc (.cells Z8V.toArray 96)) (w.heap.size+1) (BbV ba ca bo cb x):=by
  have h:=HoldsL.new (w.alloc (.cells (PlV pa pc p).toArray 48)) (BbV ba ca bo cb x) 39;try simp only [World.size_alloc] at h
  exact ((h.alloc _).alloc _)
 have e2:HoldsL ((aW (aW (aW w (PlV pa pc p) 48) (BbV ba ca bo cb x) 39) (TcR proto inside addr port peer peerPort flags) 112).alloc (.cells Z8V.toArray 96)) (w.heap.size+1+1) (TcR proto inside addr port peer peerPort flags):=by
  have h:=HoldsL.new ((aW w (PlV pa pc p) 48).alloc (.cells (BbV ba ca bo cb x).toArray 39)) (TcR proto inside addr port peer peerPort flags) 112;try simp only [World.size_alloc] at h
  exact (h.alloc _)
 have e3:HoldsL ((aW (aW (aW w (PlV pa pc p) 48) (BbV ba ca bo cb x) 39) (TcR proto inside addr port peer peerPort flags) 112).alloc (.cells Z8V.toArray 96)) (w.heap.size+1+1+1) Z8V:=by
  have h:=HoldsL.new ((aW (aW w (PlV pa pc p) 48) (BbV ba ca bo cb x) 39).alloc (.cells (TcR proto inside addr port peer peerPort flags).toArray 112)) Z8V 96;try simp only [World.size_alloc] at h
  exact h
 have HS0:Hid (Bxs w [(w.heap.size,(PlV pa pc p)),(w.heap.size+1,(BbV ba ca bo cb x)),(w.heap.size+1+1,(TcR proto inside addr port peer peerPort flags)),(w.heap.size+1+1+1,Z8V)] ((aW (aW (aW w (PlV pa pc p) 48) (BbV ba ca bo cb x) 39) (TcR proto inside addr port peer peerPort flags) 112).alloc (.cells Z8V.toArray 96))):=by
  refine ⟨fun e he=>?_,((((bR.alloc (by (try simp only [World.size_alloc]); omega) _).alloc (by (try simp only [World.size_alloc]); omega) _).alloc (by (try simp only [World.size_alloc]); omega) _).alloc (by (try simp only [World.size_alloc]); omega) _),fun e he=>?_⟩
  ·simp only [List.mem_cons,List.not_mem_nil,or_false] at he;rcases he with rfl | rfl | rfl | rfl
   ·exact e0
   ·exact e1
   ·exact e2
   ·exact e3
  ·simp only [List.mem_cons,List.not_mem_nil,or_false] at he;rcases he with rfl | rfl | rfl | rfl<;>simp
 clear e0 e1 e2 e3;unfold plC bbC tcC;go_enter Tryz.func62,Tryz.ntmps62
 go_upto_region 1 with fail
 generalize ((aW (aW (aW w (PlV pa pc p) 48) (BbV ba ca bo cb x) 39) (TcR proto inside addr port peer peerPort flags) 112).alloc (.cells Z8V.toArray 96))=W at *;have HHp:=HS0.out.at mE0;obtain ⟨p0,p1,p2,p3,p4,p5,p6,p7,p8,p9⟩:=HHp.c10;clear HHp;have HHb:=HS0.out.at mE1;obtain ⟨b0,b1⟩:=HHb.c2;clear HHb;go_wp2_with fail
 refine (HOP.out _ HS0.out.b).mono ?_;rintro e w1 ⟨q1,hh⟩;have S1:Hid _:=HS0.out.kept q1;clear q1 HS0 HOP p0 p1 p2 p3 p4 p5 p6 p7 p8 p9 b0 b1;rcases hh with ⟨hok,rfl⟩ | ⟨hok,m1,m2,rfl,hm1,hm2,hbk⟩
 case inl =>
  have HV1:Hid (ans=boE 1):=by unfold Hid; rw [HV.out,hok]; rfl
  clear HV hok;unfold bkZ;go_upto_region 2 with fail
  have S2:Hid (Bxs w [(w.heap.size,(PlV pa pc p)),(w.heap.size+1,(BbV ba ca bo cb x)),(w.heap.size+1+1,(TcR proto inside addr port peer peerPort flags)),(w.heap.size+1+1+1,Z8V)] (w1.alloc (.cells Z14V.toArray 150))):=S1.out.kept (bR.alloc (Nat.le_refl _) _);generalize (w1.alloc (.cells Z14V.toArray 150))=W2 at *;clear S1;have HX:Hid (ans=boE (1)):=by unfold Hid; exact HV1.out
  have HHz:=S2.out.at mE3;obtain ⟨z0,z1,z2,z3,z4,z5,z6,z7⟩:=HHz.c8;obtain ⟨zf0,zf1,zf2,zf3,zf4,zf5,zf6,zf7⟩:=HHz.f8;have HRR:Hid (HoldsL ((sW (sW (sW (sW (sW (sW (sW W2 (w.heap.size+1+1+1) 0 (.slice none 0 0)) (w.heap.size+1+1+1) 1 (.slice none 0 0)) (w.heap.size+1+1+1) 2 (iV 0)) (w.heap.size+1+1+1) 3 (.string ⟨#[]⟩)) (w.heap.size+1+1+1) 4 (iV 0)) (w.heap.size+1+1+1) 5 (.string ⟨#[]⟩)) (w.heap.size+1+1+1) 6 (iV 0)).setCell ⟨w.heap.size+1+1+1,7,none⟩ (iV (1))) (w.heap.size+1+1+1) [.slice none 0 0,.slice none 0 0,iV 0,.string ⟨#[]⟩,iV 0,.string ⟨#[]⟩,iV 0,iV (1)]):=((((((((HHz.set 0 (.slice none 0 0)).set 1 (.slice none 0 0)).set 2 (iV 0)).set 3 (.string ⟨#[]⟩)).set 4 (iV 0)).set 5 (.string ⟨#[]⟩)).set 6 (iV 0)).set 7 (iV (1)));have RB:Hid _:=((((((((S2.out.b.setCell (p:=⟨w.heap.size+1+1+1,0,none⟩) hRw (.slice none 0 0)).setCell (p:=⟨w.heap.size+1+1+1,1,none⟩) hRw (.slice none 0 0)).setCell (p:=⟨w.heap.size+1+1+1,2,none⟩) hRw (iV 0)).setCell (p:=⟨w.heap.size+1+1+1,3,none⟩) hRw (.string ⟨#[]⟩)).setCell (p:=⟨w.heap.size+1+1+1,4,none⟩) hRw (iV 0)).setCell (p:=⟨w.heap.size+1+1+1,5,none⟩) hRw (.string ⟨#[]⟩)).setCell (p:=⟨w.heap.size+1+1+1,6,none⟩) hRw (iV 0)).setCell (p:=⟨w.heap.size+1+1+1,7,none⟩) hRw (iV (1)));clear HHz;go_wp2_with fail
  exact bodyPost_ret (results_mid Tryz.results62 _ _ (w.heap.size+1+1+1) [.slice none 0 0,.slice none 0 0,iV 0,.string ⟨#[]⟩,iV 0,.string ⟨#[]⟩,iV 0,iV (1)] _ rfl HRR.out Tryz.underlying96 rfl (show (Tryz.prog.info? 96).map (·.size)=some 8 by kernel_rfl)) rfl (And.intro (by rw [HX.out]; exact ⟨none,none,0,0,rfl,.inl rfl,.inl rfl,fun g h e1=>by simp at e1⟩) RB.out)
 have HBK:Hid (BookAt w1 m1 m2 x.binds x.binds):=hbk;have HOK:Hid (bookOk p x=true):=hok;rw [hok,Bool.true_and] at HV;clear hbk hok;unfold bkC;go_upto_region 2 with fail
 have bn:Below w1.heap.size w1 (w1.alloc (.cells (KkV pa pc p ba ca bo cb x m1 m2).toArray 150)):=bR.alloc (Nat.le_refl _) _;have HBK2:Hid (BookAt (w1.alloc (.cells (KkV pa pc p ba ca bo cb x m1 m2).toArray 150)) m1 m2 x.binds x.binds):=HBK.out.kept bn;have S2:Hid _:=S1.out.push (KkV pa pc p ba ca bo cb x m1 m2) (by simp) 150;generalize hW2:w1.alloc _=W2 at *;clear hW2 S1 bn HBK;generalize w1.heap.size=Bk at *;have BW:Hid (Below w.heap.size w W2):=S2.out.b;have S3:Hid (Bxs W2 [(Bk,(KkV pa pc p ba ca bo cb x m1 m2)),(w.heap.size,(PlV pa pc p)),(w.heap.size+1,(BbV ba ca bo cb x)),(w.heap.size+1+1,(TcR proto inside addr port peer peerPort flags)),(w.heap.size+1+1+1,Z8V)] W2):=⟨S2.out.k,Below.refl _ _,S2.out.z⟩;clear S2;go_wp2_with fail
 refine (HTM.out _).mono ?_;rintro e W3 ⟨rfl,hw3⟩;subst hw3
 cases tm with
 | false =>
  have HX:Hid (ans=boE (1)):=by unfold Hid; rw [HV.out]; rfl
  have HHz:=S3.out.at mE4;obtain ⟨z0,z1,z2,z3,z4,z5,z6,z7⟩:=HHz.c8;obtain ⟨zf0,zf1,zf2,zf3,zf4,zf5,zf6,zf7⟩:=HHz.f8;have HRR:Hid (HoldsL ((sW (sW (sW (sW (sW (sW (sW W3 (w.heap.size+1+1+1) 0 (.slice none 0 0)) (w.heap.size+1+1+1) 1 (.slice none 0 0)) (w.heap.size+1+1+1) 2 (iV 0)) (w.heap.size+1+1+1) 3 (.string ⟨#[]⟩)) (w.heap.size+1+1+1) 4 (iV 0)) (w.heap.size+1+1+1) 5 (.string ⟨#[]⟩)) (w.heap.size+1+1+1) 6 (iV 0)).setCell ⟨w.heap.size+1+1+1,7,none⟩ (iV (1))) (w.heap.size+1+1+1) [.slice none 0 0,.slice none 0 0,iV 0,.string ⟨#[]⟩,iV 0,.string ⟨#[]⟩,iV 0,iV (1)]):=((((((((HHz.set 0 (.slice none 0 0)).set 1 (.slice none 0 0)).set 2 (iV 0)).set 3 (.string ⟨#[]⟩)).set 4 (iV 0)).set 5 (.string ⟨#[]⟩)).set 6 (iV 0)).set 7 (iV (1)));have RB:Hid _:=(((((((((BW.out.trans (S3.out.b.mono BW.out.size)).setCell (p:=⟨w.heap.size+1+1+1,0,none⟩) hRw (.slice none 0 0)).setCell (p:=⟨w.heap.size+1+1+1,1,none⟩) hRw (.slice none 0 0)).setCell (p:=⟨w.heap.size+1+1+1,2,none⟩) hRw (iV 0)).setCell (p:=⟨w.heap.size+1+1+1,3,none⟩) hRw (.string ⟨#[]⟩)).setCell (p:=⟨w.heap.size+1+1+1,4,none⟩) hRw (iV 0)).setCell (p:=⟨w.heap.size+1+1+1,5,none⟩) hRw (.string ⟨#[]⟩)).setCell (p:=⟨w.heap.size+1+1+1,6,none⟩) hRw (iV 0)).setCell (p:=⟨w.heap.size+1+1+1,7,none⟩) hRw (iV (1)));clear HHz;go_wp2_with fail
  exact bodyPost_ret (results_mid Tryz.results62 _ _ (w.heap.size+1+1+1) [.slice none 0 0,.slice none 0 0,iV 0,.string ⟨#[]⟩,iV 0,.string ⟨#[]⟩,iV 0,iV (1)] _ rfl HRR.out Tryz.underlying96 rfl (show (Tryz.prog.info? 96).map (·.size)=some 8 by kernel_rfl)) rfl (And.intro (by rw [HX.out]; exact ⟨none,none,0,0,rfl,.inl rfl,.inl rfl,fun g h e1=>by simp at e1⟩) RB.out)
 | true =>
 rw [Bool.true_and] at HV;obtain ⟨hn0,hn1⟩:=HNN.out rfl;have HHt:=S3.out.at mE3;obtain ⟨t0,t1,t2,t3,t4,t5,t6⟩:=HHt.c7;clear HHt;go_wp2_with fail
 refine (HTR.out _).mono ?_;rintro e W4 ⟨rfl,q4⟩;have S4:Hid _:=S3.out.kept q4;clear q4 S3 HTM HTR HNN t0 t1 t2 t3 t4 t5 t6
 cases tr with
 | false =>
  have HX:Hid (ans=boE (1)):=by unfold Hid; rw [HV.out]; rfl
  have HHz:=S4.out.at mE4;obtain ⟨z0,z1,z2,z3,z4,z5,z6,z7⟩:=HHz.c8;obtain ⟨zf0,zf1,zf2,zf3,zf4,zf5,zf6,zf7⟩:=HHz.f8;have HRR:Hid (HoldsL ((sW (sW (sW (sW (sW (sW (sW W4 (w.heap.size+1+1+1) 0 (.slice none 0 0)) (w.heap.size+1+1+1) 1 (.slice none 0 0)) (w.heap.size+1+1+1) 2 (iV 0)) (w.heap.size+1+1+1) 3 (.string ⟨#[]⟩)) (w.heap.size+1+1+1) 4 (iV 0)) (w.heap.size+1+1+1) 5 (.string ⟨#[]⟩)) (w.heap.size+1+1+1) 6 (iV 0)).setCell ⟨w.heap.size+1+1+1,7,none⟩ (iV (1))) (w.heap.size+1+1+1) [.slice none 0 0,.slice none 0 0,iV 0,.string ⟨#[]⟩,iV 0,.string ⟨#[]⟩,iV 0,iV (1)]):=((((((((HHz.set 0 (.slice none 0 0)).set 1 (.slice none 0 0)).set 2 (iV 0)).set 3 (.string ⟨#[]⟩)).set 4 (iV 0)).set 5 (.string ⟨#[]⟩)).set 6 (iV 0)).set 7 (iV (1)));have RB:Hid _:=(((((((((BW.out.trans (S4.out.b.mono BW.out.size)).setCell (p:=⟨w.heap.size+1+1+1,0,none⟩) hRw (.slice none 0 0)).setCell (p:=⟨w.heap.size+1+1+1,1,none⟩) hRw (.slice none 0 0)).setCell (p:=⟨w.heap.size+1+1+1,2,none⟩) hRw (iV 0)).setCell (p:=⟨w.heap.size+1+1+1,3,none⟩) hRw (.string ⟨#[]⟩)).setCell (p:=⟨w.heap.size+1+1+1,4,none⟩) hRw (iV 0)).setCell (p:=⟨w.heap.size+1+1+1,5,none⟩) hRw (.string ⟨#[]⟩)).setCell (p:=⟨w.heap.size+1+1+1,6,none⟩) hRw (iV 0)).setCell (p:=⟨w.heap.size+1+1+1,7,none⟩) hRw (iV (1)));clear HHz;go_wp2_with fail
  exact bodyPost_ret (results_mid Tryz.results62 _ _ (w.heap.size+1+1+1) [.slice none 0 0,.slice none 0 0,iV 0,.string ⟨#[]⟩,iV 0,.string ⟨#[]⟩,iV 0,iV (1)] _ rfl HRR.out Tryz.underlying96 rfl (show (Tryz.prog.info? 96).map (·.size)=some 8 by kernel_rfl)) rfl (And.intro (by rw [HX.out]; exact ⟨none,none,0,0,rfl,.inl rfl,.inl rfl,fun g h e1=>by simp at e1⟩) RB.out)
 | true =>
 have HV2:Hid (ans=gi):=by unfold Hid; rw [HV.out,if_pos rfl]
 clear HV;have HHk:=S4.out.at mE0;obtain ⟨k0,k1,k2,k3,k4,k5,k6,k7,k8,k9,k10,k11,k12,k13⟩:=HHk.c14;clear HHk;have HHt:=S4.out.at mE3;obtain ⟨t0,t1,t2,t3,t4,t5,t6⟩:=HHt.c7;clear HHt;go_wp2_with fail
 refine (HHO.out _ m1 m2 (by first | rfl | trivial) (HBK2.out.kept S4.out.b)).mono ?_;rintro e W5 ⟨rfl,q5⟩;have S5:Hid _:=S4.out.kept q5;clear q5 S4 HHO k0 k1 k2 k3 k4 k5 k6 k7 k8 k9 k10 k11 k12 k13 t0 t1 t2 t3 t4 t5 t6;go_upto_region 5 with fail
 have S6:Hid _:=S5.out.push (EnV hv.proto hv.addr hv.port) (by simp) 155;generalize hW6:W5.alloc _=W6 at *;clear hW6 S5;generalize W5.heap.size=Be at *
 cases fd with
 | false =>
  have HX:Hid (ans=boE (6)):=by unfold Hid; rw [HV2.out]; exact HG0.out (by first | rfl | trivial)
  have HHz:=S6.out.at mE5;obtain ⟨z0,z1,z2,z3,z4,z5,z6,z7⟩:=HHz.c8;obtain ⟨zf0,zf1,zf2,zf3,zf4,zf5,zf6,zf7⟩:=HHz.f8;have HRR:Hid (HoldsL ((sW (sW (sW (sW (sW (sW (sW W6 (w.heap.size+1+1+1) 0 (.slice none 0 0)) (w.heap.size+1+1+1) 1 (.slice none 0 0)) (w.heap.size+1+1+1) 2 (iV 0)) (w.heap.size+1+1+1) 3 (.string ⟨#[]⟩)) (w.heap.size+1+1+1) 4 (iV 0)) (w.heap.size+1+1+1) 5 (.string ⟨#[]⟩)) (w.heap.size+1+1+1) 6 (iV 0)).setCell ⟨w.heap.size+1+1+1,7,none⟩ (iV (6))) (w.heap.size+1+1+1) [.slice none 0 0,.slice none 0 0,iV 0,.string ⟨#[]⟩,iV 0,.string ⟨#[]⟩,iV 0,iV (6)]):=((((((((HHz.set 0 (.slice none 0 0)).set 1 (.slice none 0 0)).set 2 (iV 0)).set 3 (.string ⟨#[]⟩)).set 4 (iV 0)).set 5 (.string ⟨#[]⟩)).set 6 (iV 0)).set 7 (iV (6)));have RB:Hid _:=(((((((((BW.out.trans (S6.out.b.mono BW.out.size)).setCell (p:=⟨w.heap.size+1+1+1,0,none⟩) hRw (.slice none 0 0)).setCell (p:=⟨w.heap.size+1+1+1,1,none⟩) hRw (.slice none 0 0)).setCell (p:=⟨w.heap.size+1+1+1,2,none⟩) hRw (iV 0)).setCell (p:=⟨w.heap.size+1+1+1,3,none⟩) hRw (.string ⟨#[]⟩)).setCell (p:=⟨w.heap.size+1+1+1,4,none⟩) hRw (iV 0)).setCell (p:=⟨w.heap.size+1+1+1,5,none⟩) hRw (.string ⟨#[]⟩)).setCell (p:=⟨w.heap.size+1+1+1,6,none⟩) hRw (iV 0)).setCell (p:=⟨w.heap.size+1+1+1,7,none⟩) hRw (iV (6)));clear HHz;go_wp2_with fail
  exact bodyPost_ret (results_mid Tryz.results62 _ _ (w.heap.size+1+1+1) [.slice none 0 0,.slice none 0 0,iV 0,.string ⟨#[]⟩,iV 0,.string ⟨#[]⟩,iV 0,iV (6)] _ rfl HRR.out Tryz.underlying96 rfl (show (Tryz.prog.info? 96).map (·.size)=some 8 by kernel_rfl)) rfl (And.intro (by rw [HX.out]; exact ⟨none,none,0,0,rfl,.inl rfl,.inl rfl,fun g h e1=>by simp at e1⟩) RB.out)
 | true =>
 have HHb:=S6.out.at mE3;have b1:=HHb.cell (j:=1) rfl;clear HHb;have HHt:=S6.out.at mE4;obtain ⟨t0,t1,t2,t3,t4,t5,t6⟩:=HHt.c7;clear HHt;have HHn:=S6.out.at mE0;obtain ⟨n0,n1,n2⟩:=HHn.c3;clear HHn;go_wp2_with fail
 refine (HSB.out _ (BW.out.trans (S6.out.b.mono BW.out.size))).mono ?_;rintro e W7 ⟨rfl,q7⟩;have S7:Hid _:=S6.out.kept q7;clear q7 S6 HSB HG0 b1 t0 t1 t2 t3 t4 t5 t6 n0 n1 n2
 cases hfi:x.sess.findIdx? (fun s=>sameSk (sessK s) (keyT hv ⟨proto,inside,addr,port,peer,peerPort,flags⟩)) with
 | none =>
  have hk:findI (fun s=>sameSk (sessK s) (keyT hv ⟨proto,inside,addr,port,peer,peerPort,flags⟩)) x.sess=-1:=by unfold findI; rw [hfi]
  have HX:Hid (ans=beginV p x hv ⟨proto,inside,addr,port,peer,peerPort,flags⟩ now):=by unfold Hid; rw [HV2.out]; exact HG1.out (by first | rfl | trivial) hfi
  clear HV2 HG1 HG2 hfi;rw [hk];clear hk;generalize beginV p x hv ⟨proto,inside,addr,port,peer,peerPort,flags⟩ now=nv at *;have HHk:=S7.out.at mE1;obtain ⟨k0,k1,k2,k3,k4,k5,k6,k7,k8,k9,k10,k11,k12,k13⟩:=HHk.c14;clear HHk;have HHt:=S7.out.at mE4;obtain ⟨t0,t1,t2,t3,t4,t5,t6⟩:=HHt.c7;clear HHt;have HHn:=S7.out.at mE0;obtain ⟨n0,n1,n2⟩:=HHn.c3;clear HHn;have hRl:w.heap.size+1+1+1 < W7.heap.size:=(S7.out.lts _ mE5).1;have hwl:w.heap.size≤W7.heap.size:=Nat.le_trans BW.out.size S7.out.b.size;go_wp2_with fail
  refine (HBG.out _ m1 m2 (BW.out.trans (S7.out.b.mono BW.out.size)) HOK.out (by first | rfl | trivial) (by first | rfl | trivial) (by first | rfl | trivial) (HBK2.out.kept S7.out.b)).mono ?_;rintro e W8 ⟨⟨a1,a2,c1,c2,rfl,hown⟩,q8⟩;have S8:Hid _:=S7.out.kept q8;have HHz:=S8.out.at mE5;obtain ⟨z0,z1,z2,z3,z4,z5,z6,z7⟩:=HHz.c8;obtain ⟨zf0,zf1,zf2,zf3,zf4,zf5,zf6,zf7⟩:=HHz.f8;have HRR:Hid (HoldsL ((sW (sW (sW (sW (sW (sW (sW W8 (w.heap.size+1+1+1) 0 (.slice a1 nv.bib.binds.length c1)) (w.heap.size+1+1+1) 1 (.slice a2 nv.bib.sess.length c2)) (w.heap.size+1+1+1) 2 (iV nv.bind.proto)) (w.heap.size+1+1+1) 3 (.string nv.bind.inn)) (w.heap.size+1+1+1) 4 (iV nv.bind.inPort)) (w.heap.size+1+1+1) 5 (.string nv.bind.out)) (w.heap.size+1+1+1) 6 (iV nv.bind.outPort)).setCell ⟨w.heap.size+1+1+1,7,none⟩ (iV nv.code)) (w.heap.size+1+1+1) (BoV a1 c1 a2 c2 nv)):=((((((((HHz.set 0 (.slice a1 nv.bib.binds.length c1)).set 1 (.slice a2 nv.bib.sess.length c2)).set 2 (iV nv.bind.proto)).set 3 (.string nv.bind.inn)).set 4 (iV nv.bind.inPort)).set 5 (.string nv.bind.out)).set 6 (iV nv.bind.outPort)).set 7 (iV nv.code));have RB:Hid _:=(((((((((BW.out.trans (S8.out.b.mono BW.out.size)).setCell (p:=⟨w.heap.size+1+1+1,0,none⟩) hRw (.slice a1 nv.bib.binds.length c1)).setCell (p:=⟨w.heap.size+1+1+1,1,none⟩) hRw (.slice a2 nv.bib.sess.length c2)).setCell (p:=⟨w.heap.size+1+1+1,2,none⟩) hRw (iV nv.bind.proto)).setCell (p:=⟨w.heap.size+1+1+1,3,none⟩) hRw (.string nv.bind.inn)).setCell (p:=⟨w.heap.size+1+1+1,4,none⟩) hRw (iV nv.bind.inPort)).setCell (p:=⟨w.heap.size+1+1+1,5,none⟩) hRw (.string nv.bind.out)).setCell (p:=⟨w.heap.size+1+1+1,6,none⟩) hRw (iV nv.bind.outPort)).setCell (p:=⟨w.heap.size+1+1+1,7,none⟩) hRw (iV nv.code));clear HHz;have HOW:Hid (BbOwn w.heap.size ((sW (sW (sW (sW (sW (sW (sW W8 (w.heap.size+1+1+1) 0 (.slice a1 nv.bib.binds.length c1)) (w.heap.size+1+1+1) 1 (.slice a2 nv.bib.sess.length c2)) (w.heap.size+1+1+1) 2 (iV nv.bind.proto)) (w.heap.size+1+1+1) 3 (.string nv.bind.inn)) (w.heap.size+1+1+1) 4 (iV nv.bind.inPort)) (w.heap.size+1+1+1) 5 (.string nv.bind.out)) (w.heap.size+1+1+1) 6 (iV nv.bind.outPort)).setCell ⟨w.heap.size+1+1+1,7,none⟩ (iV nv.code)) a1 a2 nv.bib):=⟨(hown.bd.grown (grown_set (grown_set (grown_set (grown_set (grown_set (grown_set (grown_set (grown_set (World.grownBy.refl _ _) _) _) _) _) _) _) _) _) hRl).down hwl,(hown.ss.grown (grown_set (grown_set (grown_set (grown_set (grown_set (grown_set (grown_set (grown_set (World.grownBy.refl _ _) _) _) _) _) _) _) _) _) hRl).down hwl,hown.ne⟩;clear hown q8;unfold boC;go_wp2_with fail
  exact bodyPost_ret (results_mid Tryz.results62 _ _ (w.heap.size+1+1+1) (BoV a1 c1 a2 c2 nv) _ rfl HRR.out Tryz.underlying96 rfl (show (Tryz.prog.info? 96).map (·.size)=some 8 by kernel_rfl)) rfl (And.intro (by rw [HX.out]; exact ⟨a1,a2,c1,c2,rfl,HOW.out⟩) RB.out)
 | some j =>
  have hk:findI (fun s=>sameSk (sessK s) (keyT hv ⟨proto,inside,addr,port,peer,peerPort,flags⟩)) x.sess=(j:Int):=by unfold findI; rw [hfi]
  obtain ⟨hlt,-⟩:=idx_some hfi;obtain ⟨s,hs⟩ : ∃ s,s=x.sess[j]:=⟨_,rfl⟩;have HW:Hid (ans=⟨⟨x.binds,x.sess.set j { s with state:=trackNextV proto s.state inside flags,untl:=now+trackLifeV p.lv proto (trackNextV proto s.state inside flags) }⟩,d,0⟩):=by unfold Hid; rw [HV2.out,HG2.out j hlt (by first | rfl | trivial) hfi,hs]; rfl
  rw [hk];clear hfi hk HV2 HG1 HG2 HBG;have HSJ:Hid (s=x.sess[j]):=hs;clear hs;replace HNX:=HNX.out s.state;have HNY:Hid _:=HNX;clear HNX;generalize trackNextV proto s.state inside flags=st at *;replace HLF:=HLF.out st;have HLG:Hid _:=HLF;clear HLF;obtain ⟨hf0,hf1⟩:=trackLife_in p.lv proto st;generalize trackLifeV p.lv proto st=lf at *;have hge:¬ (j:Int) < 0:=by omega
  have HHb:=S7.out.at mE3;obtain ⟨b0,b1⟩:=HHb.c2;clear HHb;go_wp2_with fail
  refine (HCY.out _ (BW.out.trans (S7.out.b.mono BW.out.size))).mono ?_;rintro e W8 ⟨⟨bv,sv,rfl,o1,o2⟩,q8⟩;have S8:Hid _:=S7.out.kept q8;have HO:Hid _:=RowsO.make (ks:=[(Be,(EnV hv.proto hv.addr hv.port)),(Bk,(KkV pa pc p ba ca bo cb x m1 m2)),(w.heap.size,(PlV pa pc p)),(w.heap.size+1,(BbV ba ca bo cb x)),(w.heap.size+1+1,(TcR proto inside addr port peer peerPort flags)),(w.heap.size+1+1+1,Z8V)]) (x:=x) S7.out.b.size S8.out.b o1 o2 S8.out.k S7.out.lts q8.size;obtain ⟨ab,cb1,hbv,-,-⟩:=(Row.shape bdL_length (w0:=W8) ⟨o1,Below.refl _ _⟩ : ∃ a' cap,bv=.slice a' x.binds.length cap∧x.binds.length≤cap∧SlOwn bdL 5 W7.heap.size W8 a' x.binds);obtain ⟨gs,cs1,hsv⟩ : ∃ gs cs1,sv=.slice (some ⟨gs,0,none⟩) x.sess.length cs1:=by
   rcases o2.2 with ⟨_,h0⟩ | ⟨g,cap,cur,h3,_⟩
   ·omega
   ·exact ⟨g,cap,h3⟩
  subst hbv hsv;clear q8 o1 o2 S8 S7 b0 b1 hge HCY;go_upto_region 11 with fail
  generalize (W8.alloc (.cells #[(.slice ab x.binds.length cb1),(.slice (some ⟨gs,0,none⟩) x.sess.length cs1)] 39))=V1 at *;generalize W8.heap.size=O at *;generalize W7.heap.size=base at *;have HV1:Hid (RowsO W3 base O [(Be,(EnV hv.proto hv.addr hv.port)),(Bk,(KkV pa pc p ba ca bo cb x m1 m2)),(w.heap.size,(PlV pa pc p)),(w.heap.size+1,(BbV ba ca bo cb x)),(w.heap.size+1+1,(TcR proto inside addr port peer peerPort flags)),(w.heap.size+1+1+1,Z8V)] (.slice ab x.binds.length cb1) (.slice (some ⟨gs,0,none⟩) x.sess.length cs1) x.binds (x.sess) V1):=HO.out;clear HO;have hltI:(j:Int) < (x.sess.length:Int):=by omega
  have HCP:Hid (∀ wy,Below V1.drew.heap.size V1.drew wy→_):=fun wy hy=>HV1.out.kept (bR.drew.trans hy)
  go_cut [15] (fun v wx=>v=iV st∧RowsO W3 base O [(Be,(EnV hv.proto hv.addr hv.port)),(Bk,(KkV pa pc p ba ca bo cb x m1 m2)),(w.heap.size,(PlV pa pc p)),(w.heap.size+1,(BbV ba ca bo cb x)),(w.heap.size+1+1,(TcR proto inside addr port peer peerPort flags)),(w.heap.size+1+1+1,Z8V)] (.slice ab x.binds.length cb1) (.slice (some ⟨gs,0,none⟩) x.sess.length cs1) x.binds (x.sess) wx)
  case first =>
   rename_i J K2 hJ hK2;clear hun;refine wp_region_growH [62,63,64,65,66,67,68,69,70,71,72,73,74,15] (by kernel_rfl) (by kernel_rfl) ?_;apply GCh.v0
   ·rfl
   ·intro K' a wy ho hd hb hK kz;have o6:=ho 6 (by decide);simp [slot] at o6;clear hd ho;go_simp;try go_bits
    exact kz _ rfl
   apply GCh.v1
   ·rfl
   ·intro K' a wy ho hd hb hK kz;have q0:=hd ⟨0,.data⟩ (by simp) rfl;simp [rAt,IsV,slot] at q0;clear hd ho;have hst:=HCP.out wy hb;have k1:=hst.o.cell (j:=1) rfl;have r5:wy.cell? ⟨gs,j*7+5,none⟩=some (iV s.state):=own_at hst.so rfl j hlt 5 _ (by rw [← HSJ.out]; rfl);have HHt:=hst.at mE4;obtain ⟨t0,t1,t2,t3,t4,t5,t6⟩:=HHt.c7;clear HHt;clear hst;go_simp;try go_bits
    exact kz _ rfl
   apply GCh.v2
   ·rfl
   ·intro K' a wy ho hd hb hK kz;have o14:=ho 14 (by decide);simp [slot] at o14;clear hd ho;go_simp;try go_bits
    exact kz _ rfl
   apply GCh.v3
   ·rfl
   ·intro K' a wy ho hd hb hK kz;have q2:=hd ⟨2,.data⟩ (by simp) rfl;simp [rAt,IsV,slot] at q2;clear hd ho;have hst:=HCP.out wy hb;have k1:=hst.o.cell (j:=1) rfl;have r5:wy.cell? ⟨gs,j*7+5,none⟩=some (iV s.state):=own_at hst.so rfl j hlt 5 _ (by rw [← HSJ.out]; rfl);have HHt:=hst.at mE4;obtain ⟨t0,t1,t2,t3,t4,t5,t6⟩:=HHt.c7;clear HHt;clear hst;go_simp;try go_bits
    exact kz _ rfl
   apply GCh.v4
   ·rfl
   ·intro K' a wy ho hd hb hK kz;have o13:=ho 13 (by decide);simp [slot] at o13;clear hd ho;go_simp;try go_bits
    exact kz _ rfl
   apply GCh.v5
   ·rfl
   ·intro K' a wy ho hd hb hK kz;have q3:=hd ⟨3,.data⟩ (by simp) rfl;have q4:=hd ⟨4,.data⟩ (by simp) rfl;simp [rAt,IsV,slot] at q3 q4;clear hd ho;go_simp;try go_bits
    exact kz _ rfl
   apply GCh.v6
   ·rfl
   ·intro K' a wy ho hd hb hK kz;have q5:=hd ⟨5,.data⟩ (by simp) rfl;simp [rAt,IsV,slot] at q5;clear hd ho;go_simp;try go_bits
    exact kz _ rfl
   apply GCh.v7
   ·rfl
   ·intro K' a wy ho hd hb hK kz;have q6:=hd ⟨6,.data⟩ (by simp) rfl;simp [rAt,IsV,slot] at q6;clear hd ho;have hst:=HCP.out wy hb;have k1:=hst.o.cell (j:=1) rfl;have r5:wy.cell? ⟨gs,j*7+5,none⟩=some (iV s.state):=own_at hst.so rfl j hlt 5 _ (by rw [← HSJ.out]; rfl);have HHt:=hst.at mE4;obtain ⟨t0,t1,t2,t3,t4,t5,t6⟩:=HHt.c7;clear HHt;clear hst;go_simp;try go_bits
    exact kz _ rfl
   apply GCh.v8
   ·rfl
   ·intro K' a wy ho hd hb hK kz;have o6:=ho 6 (by decide);simp [slot] at o6;clear hd ho;go_simp;try go_bits
    exact kz _ rfl
   apply GCh.v9
   ·rfl
   ·intro K' a wy ho hd hb hK kz;have q8:=hd ⟨8,.data⟩ (by simp) rfl;simp [rAt,IsV,slot] at q8;clear hd ho;have hst:=HCP.out wy hb;have k1:=hst.o.cell (j:=1) rfl;have r5:wy.cell? ⟨gs,j*7+5,none⟩=some (iV s.state):=own_at hst.so rfl j hlt 5 _ (by rw [← HSJ.out]; rfl);have HHt:=hst.at mE4;obtain ⟨t0,t1,t2,t3,t4,t5,t6⟩:=HHt.c7;clear HHt;clear hst;go_simp;try go_bits
    exact kz _ rfl
   apply GCh.v10
   ·rfl
   ·intro K' a wy ho hd hb hK kz;have o6:=ho 6 (by decide);simp [slot] at o6;clear hd ho;go_simp;try go_bits
    exact kz _ rfl
   apply GCh.v11
   ·rfl
   ·intro K' a wy ho hd hb hK kz;have q10:=hd ⟨10,.data⟩ (by simp) rfl;simp [rAt,IsV,slot] at q10;clear hd ho;have hst:=HCP.out wy hb;have k1:=hst.o.cell (j:=1) rfl;have r5:wy.cell? ⟨gs,j*7+5,none⟩=some (iV s.state):=own_at hst.so rfl j hlt 5 _ (by rw [← HSJ.out]; rfl);have HHt:=hst.at mE4;obtain ⟨t0,t1,t2,t3,t4,t5,t6⟩:=HHt.c7;clear HHt;clear hst;go_simp;try go_bits
    exact kz _ rfl
   apply GCh.v12
   ·rfl
   ·intro K' a wy ho hd hb hK kz;have q1:=hd ⟨1,.data⟩ (by simp) rfl;have q7:=hd ⟨7,.data⟩ (by simp) rfl;have q9:=hd ⟨9,.data⟩ (by simp) rfl;have q11:=hd ⟨11,.data⟩ (by simp) rfl;simp [rAt,IsV,slot] at q1 q7 q9 q11;clear hd ho;go_simp;refine (HNY.out wy (BW.out.trans ((HCP.out wy hb).b.mono BW.out.size))).mono ?_;rintro e wz ⟨rfl,hz⟩;exact hK _ _ rfl hz
   apply GCh.v13
   ·rfl
   ·intro K' a wy ho hd hb hK kz;have q12:=hd ⟨12,.data⟩ (by simp) rfl;simp [rAt,IsV,slot] at q12;clear hd ho;go_simp;try go_bits
    exact kz _ rfl
   intro X wz hR hz;obtain ⟨x0,x1,x2,x3,x4,x5,x6,x7,x8,x9,x10,x11,x12,x13,-⟩:=hR;simp only [IsV] at x0 x1 x2 x3 x4 x5 x6 x7 x8 x9 x10 x11 x12 x13;simp only [putsFrom,x0,x1,x2,x3,x4,x5,x6,x7,x8,x9,x10,x11,x12,x13];clear x0 x1 x2 x3 x4 x5 x6 x7 x8 x9 x10 x11 x12 x13;go_simp;refine hK2 _ _ (hJ _ _ ?_);(repeat apply Exists.intro)
   refine ⟨⟨rfl,HCP.out wz hz⟩,rfl⟩
  case rest =>
  obtain ⟨rfl,hS⟩:=hcut;have V2:Hid _:=hS;clear hS HV1 HCP HNY;generalize wc=U2 at *;have k1:=V2.out.o.cell (j:=1) rfl;have r5:U2.cell? ⟨gs,j*7+5,none⟩=some (iV s.state):=own_at V2.out.so rfl j hlt 5 _ (by rw [← HSJ.out]; rfl);have f5:U2.frozen? ⟨gs,j*7+5,none⟩=false:=own_free V2.out.so _;have V3:Hid _:=V2.out.setS rfl j hlt 5 (by decide) (iV st) { s with state:=st } (by rw [← HSJ.out]; rfl);clear V2;go_upto_region 13 with fail
  clear k1 r5 f5;generalize U2.setCell ⟨gs,j*7+5,none⟩ (iV st)=U3 at *;have V4:Hid (RowsO W3 base O [(Be,(EnV hv.proto hv.addr hv.port)),(Bk,(KkV pa pc p ba ca bo cb x m1 m2)),(w.heap.size,(PlV pa pc p)),(w.heap.size+1,(BbV ba ca bo cb x)),(w.heap.size+1+1,(TcR proto inside addr port peer peerPort flags)),(w.heap.size+1+1+1,Z8V)] (.slice ab x.binds.length cb1) (.slice (some ⟨gs,0,none⟩) x.sess.length cs1) x.binds (x.sess.set j { s with state:=st }) U3):=V3.out;clear V3;have HCP:Hid (∀ wy,Below U3.drew.heap.size U3.drew wy→_):=fun wy hy=>V4.out.kept (bR.drew.trans hy)
  clear V4;go_cut [14] (fun v wx=>v=.pointer (some ⟨O,0,none⟩)∧RowsO W3 base O [(Be,(EnV hv.proto hv.addr hv.port)),(Bk,(KkV pa pc p ba ca bo cb x m1 m2)),(w.heap.size,(PlV pa pc p)),(w.heap.size+1,(BbV ba ca bo cb x)),(w.heap.size+1+1,(TcR proto inside addr port peer peerPort flags)),(w.heap.size+1+1+1,Z8V)] (.slice ab x.binds.length cb1) (.slice (some ⟨gs,0,none⟩) x.sess.length cs1) x.binds (x.sess.set j { s with state:=st,untl:=now+lf }) wx)
  case first =>
   rename_i J K2 hJ hK2;try clear hun
   refine wp_region_growV [81,82,83,84,85,86,87,88,89,90,91,92,93] (by kernel_rfl) (by kernel_rfl) ?_;apply GChV.v0
   ·rfl
   ·intro K' a wy ho hd hb hK kz;have o14:=ho 14 (by decide);simp [slot] at o14;clear hd ho;go_simp;try go_bits
    exact kz _ rfl
   apply GChV.v1
   ·rfl
   ·intro K' a wy ho hd hb hK kz;have q0:=hd ⟨0,.data⟩ (by simp) rfl;simp [rAt,IsV,slot] at q0;clear hd ho;have hst:=HCP.out wy hb;have k1:=hst.o.cell (j:=1) rfl;have HHt:=hst.at mE4;have t0:=HHt.cell (j:=0) rfl;clear HHt;have HHp:=hst.at mE2;obtain ⟨-,-,-,-,-,p5,p6,p7,p8,p9⟩:=HHp.c10;clear HHp;clear hst;go_simp;try go_bits
    exact kz _ rfl
   apply GChV.v2
   ·rfl
   ·intro K' a wy ho hd hb hK kz;have o13:=ho 13 (by decide);simp [slot] at o13;clear hd ho;go_simp;try go_bits
    exact kz _ rfl
   apply GChV.v3
   ·rfl
   ·intro K' a wy ho hd hb hK kz;have o3:=ho 3 (by decide);simp [slot] at o3;clear hd ho;go_simp;try go_bits
    exact kz _ rfl
   apply GChV.v4
   ·rfl
   ·intro K' a wy ho hd hb hK kz;have o4:=ho 4 (by decide);simp [slot] at o4;clear hd ho;go_simp;try go_bits
    exact kz _ rfl
   apply GChV.v5
   ·rfl
   ·intro K' a wy ho hd hb hK kz;have q4:=hd ⟨4,.data⟩ (by simp) rfl;simp [rAt,IsV,slot] at q4;clear hd ho;have hst:=HCP.out wy hb;have k1:=hst.o.cell (j:=1) rfl;have HHt:=hst.at mE4;have t0:=HHt.cell (j:=0) rfl;clear HHt;have HHp:=hst.at mE2;obtain ⟨-,-,-,-,-,p5,p6,p7,p8,p9⟩:=HHp.c10;clear HHp;clear hst;go_simp;try go_bits
    exact kz _ rfl
   apply GChV.v6
   ·rfl
   ·intro K' a wy ho hd hb hK kz;have o6:=ho 6 (by decide);simp [slot] at o6;clear hd ho;go_simp;try go_bits
    exact kz _ rfl
   apply GChV.v7
   ·rfl
   ·intro K' a wy ho hd hb hK kz;have q6:=hd ⟨6,.data⟩ (by simp) rfl;simp [rAt,IsV,slot] at q6;clear hd ho;have hst:=HCP.out wy hb;have k1:=hst.o.cell (j:=1) rfl;have HHt:=hst.at mE4;have t0:=HHt.cell (j:=0) rfl;clear HHt;have HHp:=hst.at mE2;obtain ⟨-,-,-,-,-,p5,p6,p7,p8,p9⟩:=HHp.c10;clear HHp;clear hst;go_simp;try go_bits
    exact kz _ rfl
   apply GChV.v8
   ·rfl
   ·intro K' a wy ho hd hb hK kz;have o15:=ho 15 (by decide);simp [slot] at o15;clear hd ho;go_simp;try go_bits
    exact kz _ rfl
   apply GChV.v9
   ·rfl
   ·intro K' a wy ho hd hb hK kz;have q5:=hd ⟨5,.data⟩ (by simp) rfl;have q7:=hd ⟨7,.data⟩ (by simp) rfl;have q8:=hd ⟨8,.data⟩ (by simp) rfl;simp [rAt,IsV,slot] at q5 q7 q8;clear hd ho;go_simp;refine (HLG.out wy).mono ?_;rintro e wz ⟨rfl,hz⟩;exact hK _ _ rfl hz
   apply GChV.v10
   ·rfl
   ·intro K' a wy ho hd hb hK kz;have q3:=hd ⟨3,.data⟩ (by simp) rfl;have q9:=hd ⟨9,.data⟩ (by simp) rfl;simp [rAt,IsV,slot] at q3 q9;clear hd ho;go_simp;try go_bits
    exact kz _ rfl
   apply GChV.v11
   ·rfl
   ·intro K' a wy ho hd hb hK kz;have q1:=hd ⟨1,.data⟩ (by simp) rfl;have q2:=hd ⟨2,.data⟩ (by simp) rfl;simp [rAt,IsV,slot] at q1 q2;clear hd ho;go_simp;try go_bits
    exact kz _ rfl
   apply GChV.v12
   ·rfl
   ·intro K' a wy ho hd hb hK kz;have q11:=hd ⟨11,.data⟩ (by simp) rfl;simp [rAt,IsV,slot] at q11;clear hd ho;go_simp;try go_bits
    exact kz _ rfl
   intro X wz hR hz;obtain ⟨x0,x1,x2,x3,x4,x5,x6,x7,x8,x9,x10,x11,x12,-⟩:=hR;simp only [IsV] at x0 x1 x2 x3 x4 x5 x6 x7 x8 x9 x10 x11 x12;simp only [putsFrom,x0,x1,x2,x3,x4,x5,x6,x7,x8,x9,x10,x11,x12];clear x0 x1 x2 x3 x4 x5 x6 x7 x8 x9 x10 x11 x12;have SZ:=HCP.out wz hz;have hls:x.sess.length=(x.sess.set j { s with state:=st }).length:=by simp
   have r6:wz.cell? ⟨gs,j*7+6,none⟩=some (iV s.untl):=own_at SZ.so hls j (by simpa using hlt) 6 _ (by simp [ssL]);have f6:wz.frozen? ⟨gs,j*7+6,none⟩=false:=own_free SZ.so _;have S8:=SZ.setS hls j (by simpa using hlt) 6 (by decide) (iV (now+lf)) { s with state:=st,untl:=now+lf } (by simp [ssL]);rw [List.set_set] at S8;have S9:Hid _:=S8;clear S8 SZ hz HCP hls;simp only [List.length_cons,List.length_nil,List.drop_succ_cons,List.drop_zero,Nat.zero_add,Nat.reduceAdd];intro K5 hK5;go_simp;refine hK5 _ _ ?_;show Exit.then _ _ _ _ _;refine hK2 _ _ (hJ _ _ ?_);(repeat apply Exists.intro)
   exact ⟨⟨rfl,S9.out⟩,rfl⟩
  case rest =>
  obtain ⟨rfl,hS⟩:=hcut;have V5:Hid _:=hS;clear hS HCP HLG;generalize wc=U5 at *;go_upto_region 14 with fail
  have HCP:Hid (∀ wy,Below U5.drew.heap.size U5.drew wy→_):=fun wy hy=>V5.out.kept (bR.drew.trans hy)
  clear V5;try clear hun
  refine wp_region_growV [94,95,96,97,98,99,100] (by kernel_rfl) (by kernel_rfl) ?_;apply GChV.v0
  ·rfl
  ·intro K' a wy ho hd hb hK kz;have o14:=ho 14 (by decide);simp [slot] at o14;clear hd ho;have hst:=HCP.out wy hb;obtain ⟨k0,k1⟩:=hst.o.c2;have HHk:=hst.at mE1;have k12:=HHk.cell (j:=12) rfl;clear HHk;have HHn:=hst.at mE0;obtain ⟨n0,n1,n2⟩:=HHn.c3;clear HHn;clear hst;go_simp;try go_bits
   exact kz _ rfl
  apply GChV.v1
  ·rfl
  ·intro K' a wy ho hd hb hK kz;have o9:=ho 9 (by decide);simp [slot] at o9;clear hd ho;go_simp;try go_bits
   exact kz _ rfl
  apply GChV.v2
  ·rfl
  ·intro K' a wy ho hd hb hK kz;have q1:=hd ⟨1,.data⟩ (by simp) rfl;simp [rAt,IsV,slot] at q1;clear hd ho;have hst:=HCP.out wy hb;obtain ⟨k0,k1⟩:=hst.o.c2;have HHk:=hst.at mE1;have k12:=HHk.cell (j:=12) rfl;clear HHk;have HHn:=hst.at mE0;obtain ⟨n0,n1,n2⟩:=HHn.c3;clear HHn;clear hst;go_simp;try go_bits
   exact kz _ rfl
  apply GChV.v3
  ·rfl
  ·intro K' a wy ho hd hb hK kz;have o11:=ho 11 (by decide);simp [slot] at o11;clear hd ho;have hst:=HCP.out wy hb;obtain ⟨k0,k1⟩:=hst.o.c2;have HHk:=hst.at mE1;have k12:=HHk.cell (j:=12) rfl;clear HHk;have HHn:=hst.at mE0;obtain ⟨n0,n1,n2⟩:=HHn.c3;clear HHn;clear hst;go_simp;try go_bits
   exact kz _ rfl
  apply GChV.v4
  ·rfl
  ·intro K' a wy ho hd hb hK kz;have q2:=hd ⟨2,.data⟩ (by simp) rfl;have q3:=hd ⟨3,.data⟩ (by simp) rfl;simp [rAt,IsV,slot] at q2 q3;clear hd ho;refine wp_look_val _ (.tmp 96) (.tmp 97) false rfl (by simp [Act.eval,slot,q2]) (by simp [Act.eval,slot,q3]) (HGT.out wy m1 m2 HOK.out (by first | rfl | trivial) (by first | rfl | trivial) (HBK2.out.kept (HCP.out wy hb).b)) (hK _ _ rfl bR)
  apply GChV.v5
  ·rfl
  ·intro K' a wy ho hd hb hK kz;have q4:=hd ⟨4,.data⟩ (by simp) rfl;simp [rAt,IsV,slot] at q4;clear hd ho;go_simp;refine (HCB.out wy).mono ?_;rintro e wz ⟨rfl,hz⟩;exact hK _ _ rfl hz
  apply GChV.v6
  ·rfl
  ·intro K' a wy ho hd hb hK kz;have q0:=hd ⟨0,.data⟩ (by simp) rfl;have q5:=hd ⟨5,.data⟩ (by simp) rfl;simp [rAt,IsV,slot] at q0 q5;clear hd ho;go_simp;try go_bits
   exact kz _ rfl
  intro X wz hR hz;obtain ⟨x0,x1,x2,x3,x4,x5,x6,-⟩:=hR;simp only [IsV] at x0 x1 x2 x3 x4 x5 x6;simp only [putsFrom,x0,x1,x2,x3,x4,x5,x6];clear x0 x1 x2 x3 x4 x5 x6;have V7:Hid (RowsO W3 base O [(Be,(EnV hv.proto hv.addr hv.port)),(Bk,(KkV pa pc p ba ca bo cb x m1 m2)),(w.heap.size,(PlV pa pc p)),(w.heap.size+1,(BbV ba ca bo cb x)),(w.heap.size+1+1,(TcR proto inside addr port peer peerPort flags)),(w.heap.size+1+1+1,Z8V)] (.slice ab x.binds.length cb1) (.slice (some ⟨gs,0,none⟩) x.sess.length cs1) x.binds (x.sess.set j { s with state:=st,untl:=now+lf }) wz):=HCP.out wz hz;clear hz HCP;have HHz:=V7.out.at mE5;obtain ⟨z0,z1,z2,z3,z4,z5,z6,z7⟩:=HHz.c8;obtain ⟨zf0,zf1,zf2,zf3,zf4,zf5,zf6,zf7⟩:=HHz.f8;have HRR:Hid (HoldsL ((sW (sW (sW (sW (sW (sW (sW wz (w.heap.size+1+1+1) 0 (.slice ab x.binds.length cb1)) (w.heap.size+1+1+1) 1 (.slice (some ⟨gs,0,none⟩) x.sess.length cs1)) (w.heap.size+1+1+1) 2 (iV d.proto)) (w.heap.size+1+1+1) 3 (.string d.inn)) (w.heap.size+1+1+1) 4 (iV d.inPort)) (w.heap.size+1+1+1) 5 (.string d.out)) (w.heap.size+1+1+1) 6 (iV d.outPort)).setCell ⟨w.heap.size+1+1+1,7,none⟩ (iV 0)) (w.heap.size+1+1+1) [.slice ab x.binds.length cb1,.slice (some ⟨gs,0,none⟩) x.sess.length cs1,iV d.proto,.string d.inn,iV d.inPort,.string d.out,iV d.outPort,iV 0]):=((((((((HHz.set 0 (.slice ab x.binds.length cb1)).set 1 (.slice (some ⟨gs,0,none⟩) x.sess.length cs1)).set 2 (iV d.proto)).set 3 (.string d.inn)).set 4 (iV d.inPort)).set 5 (.string d.out)).set 6 (iV d.outPort)).set 7 (iV 0));have RB:Hid _:=(((((((((BW.out.trans (V7.out.b.mono BW.out.size)).setCell (p:=⟨w.heap.size+1+1+1,0,none⟩) hRw (.slice ab x.binds.length cb1)).setCell (p:=⟨w.heap.size+1+1+1,1,none⟩) hRw (.slice (some ⟨gs,0,none⟩) x.sess.length cs1)).setCell (p:=⟨w.heap.size+1+1+1,2,none⟩) hRw (iV d.proto)).setCell (p:=⟨w.heap.size+1+1+1,3,none⟩) hRw (.string d.inn)).setCell (p:=⟨w.heap.size+1+1+1,4,none⟩) hRw (iV d.inPort)).setCell (p:=⟨w.heap.size+1+1+1,5,none⟩) hRw (.string d.out)).setCell (p:=⟨w.heap.size+1+1+1,6,none⟩) hRw (iV d.outPort)).setCell (p:=⟨w.heap.size+1+1+1,7,none⟩) hRw (iV 0));clear HHz;obtain ⟨w1,q1,hb1,-,hbo⟩:=V7.out.shapes.1;obtain ⟨w2,q2,hb2,-,hso⟩:=V7.out.shapes.2;injection hb1 with i1 i2 i3
  injection hb2 with i4 i5 i6
  have hRb:w.heap.size+1+1+1 < base:=(V7.out.kb _ mE5).1;have hwb:w.heap.size≤base:=Nat.le_trans BW.out.size V7.out.wb;have HOW:Hid (BbOwn w.heap.size ((sW (sW (sW (sW (sW (sW (sW wz (w.heap.size+1+1+1) 0 (.slice ab x.binds.length cb1)) (w.heap.size+1+1+1) 1 (.slice (some ⟨gs,0,none⟩) x.sess.length cs1)) (w.heap.size+1+1+1) 2 (iV d.proto)) (w.heap.size+1+1+1) 3 (.string d.inn)) (w.heap.size+1+1+1) 4 (iV d.inPort)) (w.heap.size+1+1+1) 5 (.string d.out)) (w.heap.size+1+1+1) 6 (iV d.outPort)).setCell ⟨w.heap.size+1+1+1,7,none⟩ (iV 0)) w1 w2 ⟨x.binds,x.sess.set j { s with state:=st,untl:=now+lf }⟩):=⟨(hbo.grown (grown_set (grown_set (grown_set (grown_set (grown_set (grown_set (grown_set (grown_set (World.grownBy.refl _ _) _) _) _) _) _) _) _) _) hRb).down hwb,(hso.grown (grown_set (grown_set (grown_set (grown_set (grown_set (grown_set (grown_set (grown_set (World.grownBy.refl _ _) _) _) _) _) _) _) _) _) hRb).down hwb,fun g h e1 e2 _ _ e3=>V7.out.ne g (by rw [i1,e1]; rfl) (by rw [i4,e2,← e3]; rfl)⟩;have I1:Hid _:=i1;have I3:Hid _:=i3;have I4:Hid _:=i4;have I5:Hid _:=i5;have I6:Hid _:=i6;clear hbo hso V7 i1 i2 i3 i4 i5 i6;intro K10 hK10;go_simp;refine hK10 _ _ ?_;simp only [wpSeq];go_wp2_with fail
  exact bodyPost_ret (results_mid Tryz.results62 _ _ _ _ _ rfl HRR.out Tryz.underlying96 rfl (show (Tryz.prog.info? 96).map (·.size)=some 8 by kernel_rfl)) rfl (And.intro (by rw [HW.out]; exact ⟨w1,w2,q1,q2,by first | (rw [I1.out,I3.out,I4.out,I5.out,I6.out]; rfl) | (rw [I1.out,I3.out,I4.out,I6.out]; simp [boC]),HOW.out⟩) RB.out)
def maskOf (p:Nat→Bool):Nat→Nat
 | 0=>0
 | n+1=>maskOf p n+if p n then 2 ^ n else 0
def cntOf (p:Nat→Bool):Nat→Nat
 | 0=>0
 | n+1=>cntOf p n+if p n then 1 else 0
def cntMask (m:Nat):Nat→Nat
 | 0=>0
 | b+1=>cntMask m b+m / 2 ^ b % 2
def pick {α:Type} (p:Nat→Bool) (f:Nat→α):Nat→List α
 | 0=>[]
 | n+1=>pick p f n++if p n then [f n] else []
theorem pick_length {α:Type} (p:Nat→Bool) (f:Nat→α):∀ n,(pick p f n).length=cntOf p n
 | 0=>rfl
 | n+1=>by
  unfold pick cntOf;rw [List.length_append,pick_length p f n];split<;>simp
def lastV (kid:Nat→Bool) (val:Nat→Int):Nat→Int
 | 0=>-1
 | j+1=>if kid j then lastV kid val j else val j
def leafAt (kid:Nat→Bool) (val:Nat→Int) (j:Nat):Bool:=!kid j&&val j != lastV kid val j
structure Nd where
 kids:Nat
 leaf:Nat
 base:Nat
 leafs:Nat
structure Tb where
 rows:List (Nat × Nat)
 nodes:List Nd
 leaves:List Int
section
variable (kid:Nat × Nat→Nat→Bool) (val:Nat × Nat→Nat→Int)
def nodeOf (r:Nat × Nat) (r0 l0:Nat):Nd :=
 ⟨maskOf (kid r) 16,maskOf (leafAt (kid r) (val r)) 16,if cntOf (kid r) 16=0 then 0 else r0,if cntOf (leafAt (kid r) (val r)) 16=0 then 0 else l0⟩
def kidRow (r:Nat × Nat) (k:Nat):Nat × Nat:=(r.1+1,16*r.2+k)
def tbStep (t:Tb) (r:Nat × Nat):Tb :=
 ⟨t.rows++pick (kid r) (kidRow r) 16,t.nodes++[nodeOf kid val r t.rows.length t.leaves.length],t.leaves++pick (leafAt (kid r) (val r)) (val r) 16⟩
structure NodeAt (t:Tb) (i:Nat):Prop where
 ex:∃ r r0 l0 rr ll,t.rows[i]?=some r∧t.nodes[i]?=some (nodeOf kid val r r0 l0)∧i < r0∧t.rows=rr∧t.leaves=ll ∧
  (∀ j x,(pick (kid r) (kidRow r) 16)[j]?=some x→t.rows[r0+j]?=some x)∧(∀ j x,(pick (leafAt (kid r) (val r)) (val r) 16)[j]?=some x→t.leaves[l0+j]?=some x) ∧
  r0+cntOf (kid r) 16≤t.rows.length∧l0+cntOf (leafAt (kid r) (val r)) 16≤t.leaves.length
theorem get_app {α:Type} {a b:List α} {i:Nat} {x:α} (h:a[i]?=some x):(a++b)[i]?=some x:=by
 have hl:i < a.length:=by
  by_cases e:i < a.length
  ·exact e
  ·rw [List.getElem?_eq_none (by omega)] at h; simp at h
 rw [List.getElem?_append_left hl]; exact h
theorem NodeAt.step {t:Tb} {i:Nat} (h:NodeAt kid val t i) (r:Nat × Nat):NodeAt kid val (tbStep kid val t r) i:=by
 obtain ⟨q,r0,l0,_,_,h1,h2,h3,_,_,h4,h5,h6,h7⟩:=h.ex;refine ⟨q,r0,l0,_,_,get_app h1,get_app h2,h3,rfl,rfl,fun j x hx=>get_app (h4 j x hx),fun j x hx=>get_app (h5 j x hx),?_,?_⟩
 ·show _≤(t.rows++_).length; rw [List.length_append]; omega
 ·show _≤(t.leaves++_).length; rw [List.length_append]; omega
theorem NodeAt.new {t:Tb} {r:Nat × Nat} (hr:t.rows[t.nodes.length]?=some r):NodeAt kid val (tbStep kid val t r) t.nodes.length:=by
 have hlt:t.nodes.length < t.rows.length:=by
  by_cases e:t.nodes.length < t.rows.length
  ·exact e
  ·rw [List.getElem?_eq_none (by omega)] at hr; simp at hr
 refine ⟨r,t.rows.length,t.leaves.length,_,_,get_app hr,?_,hlt,rfl,rfl,?_,?_,?_,?_⟩
 ·show (t.nodes++[_])[t.nodes.length]?=_;rw [List.getElem?_append_right (Nat.le_refl _),Nat.sub_self]; rfl
 ·intro j x hx;show (t.rows++_)[t.rows.length+j]?=_;rw [List.getElem?_append_right (by omega),show t.rows.length+j-t.rows.length=j by omega]; exact hx
 ·intro j x hx;show (t.leaves++_)[t.leaves.length+j]?=_;rw [List.getElem?_append_right (by omega),show t.leaves.length+j-t.leaves.length=j by omega]; exact hx
 ·show _≤(t.rows++_).length; rw [List.length_append,pick_length]; exact Nat.le_refl _
 ·show _≤(t.leaves++_).length; rw [List.length_append,pick_length]; exact Nat.le_refl _
structure TbOk (t:Tb):Prop where
 nodes:∀ i,i < t.nodes.length→NodeAt kid val t i
 le:t.nodes.length≤t.rows.length
 root:t.rows[0]?=some (0,0)
 leaves:∀ x∈t.leaves,∃ r k,x=val r k
theorem TbOk.start:TbOk kid val ⟨[(0,0)],[],[]⟩:=⟨fun i h=>by simp at h,by simp,rfl,by simp⟩
theorem mem_pick {α:Type} (p:Nat→Bool) (f:Nat→α):∀ n x,x∈pick p f n→∃ k,k < n∧p k=true∧x=f k
 | 0,x,h=>by simp [pick] at h
 | n+1,x,h=>by
  unfold pick at h;rcases List.mem_append.1 h with h | h
  ·obtain ⟨k,hk,hp,e⟩:=mem_pick p f n x h; exact ⟨k,by omega,hp,e⟩
  ·by_cases hp:p n=true
   ·rw [if_pos hp] at h; simp at h; exact ⟨n,by omega,hp,h⟩
   ·rw [if_neg hp] at h; simp at h
theorem TbOk.step {t:Tb} (h:TbOk kid val t) {r:Nat × Nat} (hr:t.rows[t.nodes.length]?=some r):TbOk kid val (tbStep kid val t r):=by
 have hlt:t.nodes.length < t.rows.length:=by
  by_cases e:t.nodes.length < t.rows.length
  ·exact e
  ·rw [List.getElem?_eq_none (by omega)] at hr; simp at hr
 refine ⟨fun i hi=>?_,?_,get_app h.root,?_⟩
 ·have hi':i < t.nodes.length+1:=by
   have:(tbStep kid val t r).nodes.length=t.nodes.length+1:=by show (t.nodes++[_]).length=_; simp
   omega
  by_cases e:i=t.nodes.length
  ·rw [e]; exact NodeAt.new kid val hr
  ·exact (h.nodes i (by omega)).step kid val r
 ·show (t.nodes++[_]).length≤(t.rows++_).length;simp; omega
 ·intro x hx;rcases List.mem_append.1 hx with hx | hx
  ·exact h.leaves x hx
  ·obtain ⟨k,_,_,e⟩:=mem_pick _ _ _ _ hx; exact ⟨r,k,e⟩
end
theorem len_of_sub {α:Type} [DecidableEq α]:∀ (l m:List α),l.Pairwise (·≠·)→(∀ x∈l,x∈m)→l.length≤m.length
 | [],m,_,_=>Nat.zero_le _
 | a::l,m,hp,hs=>by
  have ha:a∈m:=hs a (by simp);have hp':=List.pairwise_cons.1 hp;have:=len_of_sub l (m.erase a) hp'.2 (fun x hx=>(List.mem_erase_of_ne (fun e=>hp'.1 x hx e.symm)).2 (hs x (by simp [hx])));rw [List.length_erase_of_mem ha] at this;have hpos:0 < m.length:=List.length_pos_of_mem ha;simp; omega
def rlt (a b:Nat × Nat):Prop:=a.1 < b.1∨(a.1=b.1∧a.2 < b.2)
theorem rlt_ne {a b:Nat × Nat} (h:rlt a b):a≠b:=by
 intro e; subst e; unfold rlt at h; omega
section
variable (kid:Nat × Nat→Nat→Bool) (val:Nat × Nat→Nat→Int)
structure TbSort (S:List (Nat × Nat)) (t:Tb):Prop where
 sorted:t.rows.Pairwise rlt
 next:∀ r,t.rows[t.nodes.length]?=some r→∀ x∈t.rows,x.1≤r.1+1∧(x.1=r.1+1→x.2 < 16*r.2)
 sub:∀ x∈t.rows,x=(0,0)∨x∈S
theorem TbSort.start (S:List (Nat × Nat)):TbSort S ⟨[(0,0)],[],[]⟩ :=
 ⟨by simp,fun r h x hx=>by simp at h hx; subst h hx; simp,by simp⟩
theorem pick_sorted (r:Nat × Nat) (p:Nat→Bool):∀ n,(pick p (kidRow r) n).Pairwise rlt
 | 0=>by simp [pick]
 | n+1=>by
  unfold pick;rw [List.pairwise_append];refine ⟨pick_sorted r p n,?_,?_⟩
  ·split<;>simp
  ·intro a ha b hb;obtain ⟨k,hk,_,rfl⟩:=mem_pick _ _ _ _ ha;by_cases hp:p n=true
   ·rw [if_pos hp] at hb; simp at hb; subst hb; exact .inr ⟨rfl,by simp [kidRow]; omega⟩
   ·rw [if_neg hp] at hb; simp at hb
theorem TbSort.step {S:List (Nat × Nat)} {t:Tb} (h:TbSort S t) (hS:∀ r k,k < 16→kid r k=true→kidRow r k∈S) {r:Nat × Nat} (hr:t.rows[t.nodes.length]?=some r):TbSort S (tbStep kid val t r):=by
 have hnx:=h.next r hr;have hnl:(tbStep kid val t r).nodes.length=t.nodes.length+1:=by show (t.nodes++[_]).length=_; simp
 have hsrt:(tbStep kid val t r).rows.Pairwise rlt:=by
  show (t.rows++_).Pairwise rlt;rw [List.pairwise_append];refine ⟨h.sorted,pick_sorted r _ 16,fun a ha b hb=>?_⟩;obtain ⟨k,hk,_,rfl⟩:=mem_pick _ _ _ _ hb;have:=hnx a ha;by_cases e:a.1=r.1+1
  ·exact .inr ⟨e,by have:=this.2 e; show a.2 < 16*r.2+k; omega⟩
  ·exact .inl (by show a.1 < r.1+1; omega)
 refine ⟨hsrt,fun q hq x hx=>?_,fun x hx=>?_⟩
 ·rw [hnl] at hq;have hlt:t.nodes.length+1 < (tbStep kid val t r).rows.length:=by
   by_cases e:t.nodes.length+1 < (tbStep kid val t r).rows.length
   ·exact e
   ·rw [List.getElem?_eq_none (by omega)] at hq; simp at hq
  have hr2:(tbStep kid val t r).rows[t.nodes.length]?=some r:=get_app hr;have hrq:rlt r q:=by
   have:=List.pairwise_iff_getElem.1 hsrt t.nodes.length (t.nodes.length+1) (by omega) hlt (by omega);rw [List.getElem?_eq_getElem (by omega)] at hr2;rw [List.getElem?_eq_getElem hlt] at hq;injection hr2 with hr2; injection hq with hq
   rw [hr2,hq] at this; exact this
  unfold rlt at hrq;rcases List.mem_append.1 hx with hx | hx
  ·have:=hnx x hx;exact ⟨by omega,fun e=>by have:=this.2 (by omega); omega⟩
  ·obtain ⟨k,hk,_,rfl⟩:=mem_pick _ _ _ _ hx;simp only [kidRow];exact ⟨by omega,fun e=>by omega⟩
 ·rcases List.mem_append.1 hx with hx | hx
  ·exact h.sub x hx
  ·obtain ⟨k,hk,hp,rfl⟩:=mem_pick _ _ _ _ hx;exact .inr (hS r k hk hp)
theorem TbSort.length {S:List (Nat × Nat)} {t:Tb} (h:TbSort S t):t.rows.length≤S.length+1:=by
 have:=len_of_sub t.rows ((0,0)::S) (h.sorted.imp rlt_ne) (fun x hx=>by rcases h.sub x hx with e | e<;>simp [e]);simpa using this
structure NdRight (n leaves i:Nat) (x:Nd):Prop where
 kids:x.kids < 65536
 leaf:x.leaf < 65536
 apart:∀ k,¬ (x.kids / 2 ^ k % 2=1∧x.leaf / 2 ^ k % 2=1)
 base:x.kids≠0→i < x.base∧x.base+cntMask x.kids 16≤n
 base0:x.kids=0→x.base=0
 leafs:x.leaf≠0→x.leafs+cntMask x.leaf 16≤leaves
 leafs0:x.leaf=0→x.leafs=0
 first:∀ k,k < 16→(∀ j,j < k→x.kids / 2 ^ j % 2=1)→x.kids / 2 ^ k % 2=0→x.leaf / 2 ^ k % 2=1
end
structure Rt where
 addr:ByteArray
 bits:Int
 hop:Int
section
variable (n:Nat) (l:List Rt)
end
structure RtsAt (w:World) (b off:Nat) (rs:List Rt):Prop where
 c0:∀ i (h:i < rs.length),w.cell? ⟨b,off+i*3,none⟩=some (.string rs[i].addr)
 c1:∀ i (h:i < rs.length),w.cell? ⟨b,off+i*3+1,none⟩=some (iV rs[i].bits)
 c2:∀ i (h:i < rs.length),w.cell? ⟨b,off+i*3+2,none⟩=some (iV rs[i].hop)
theorem RtsAt.below {w W:World} {b off:Nat} {rs:List Rt} (h:RtsAt w b off rs) (hb:b < w.heap.size) (hB:Below w.heap.size w W):RtsAt W b off rs :=
 ⟨fun i hi=>((bcell hB).1 b _ hb).trans (h.c0 i hi),fun i hi=>((bcell hB).1 b _ hb).trans (h.c1 i hi),fun i hi=>((bcell hB).1 b _ hb).trans (h.c2 i hi)⟩
theorem Holds.setCells {w:World} {B n:Nat} {f:Nat→Int} (h:Holds w B n f) (t:ByteArray) (ht:t.size≤n):Holds (w.setCells B 0 (t.data.toList.map fun x=>Value.int .u8 (x.toNat:Int))) B n (fun i=>if i < t.size then bt t i else f i):=by
 have hl:(t.data.toList.map fun x=>Value.int .u8 (x.toNat:Int)).length=t.size:=by rw [List.length_map,Array.length_toList]; rfl
 refine ⟨fun i hi=>⟨?_,by rw [World.frozen?_setCells]; exact (h.get i hi).2⟩⟩;by_cases e:i < t.size
 ·have:=World.cell?_setCells_in B (t.data.toList.map fun x=>Value.int .u8 (x.toNat:Int)) 0 w (fun j hj=>by rw [Nat.zero_add,(h.get j (by rw [hl] at hj; omega)).1]; rfl) i (by rw [hl]; exact e);rw [Nat.zero_add] at this;show _=some (Value.int .u8 (if i < t.size then bt t i else f i));rw [if_pos e,this,← get_bt t i e,ByteArray.getElem_eq_getElem_data];simp
 ·show _=some (Value.int .u8 (if i < t.size then bt t i else f i));rw [if_neg e,World.cell?_setCells_out B _ 0 w _ (fun _ _=>.inr (by rw [hl]; show 0+t.size≤i; omega))];exact (h.get i hi).1
theorem Holds.drew {w:World} {B n:Nat} {f:Nat→Int} (h:Holds w B n f):Holds w.drew B n f:=⟨h.get⟩
theorem Holds.congr {w:World} {B n:Nat} {f g:Nat→Int} (h:Holds w B n f) (e:∀ i,i < n→f i=g i):Holds w B n g:=⟨fun i hi=>by rw [← e i hi]; exact h.get i hi⟩
section
variable (n:Nat)
end
def bytesC (a:ByteArray):List Value:=a.data.toList.map fun x=>Value.int .u8 (x.toNat:Int)
def rowC (a:ByteArray) (b:Int):List Value:=bytesC a++[iV b]
theorem bytesC_length (a:ByteArray):(bytesC a).length=a.size:=by unfold bytesC; rw [List.length_map,Array.length_toList]; rfl
theorem rowC_length (a:ByteArray) (b:Int):(rowC a b).length=a.size+1:=by unfold rowC; rw [List.length_append,bytesC_length]; rfl
def hopC (q:Rt):List Value:=rowC q.addr q.bits++[iV q.hop]
def flatH (ms:List Rt):List Value:=ms.flatMap hopC
theorem hopC_length (q:Rt):(hopC q).length=q.addr.size+2:=by unfold hopC; rw [List.length_append,rowC_length]; rfl
section
variable {w W:World} {B o:Nat} {xs ys:List Value}
theorem rangeAt_left (h:w.rangeAt B o (xs++ys)):w.rangeAt B o xs:=fun j v hv=>h j v (by rw [List.getElem?_append_left (List.getElem?_eq_some_iff.1 hv).1]; exact hv)
theorem HoldsL.left (h:HoldsL w B (xs++ys)):w.rangeAt B 0 xs:=rangeAt_left h.at0
end
theorem flatH_get (n:Nat):∀ (ms:List Rt) (hm:∀ q∈ms,q.addr.size=n) (i:Nat) (h:i < ms.length) (j:Nat) (v:Value),(hopC ms[i])[j]?=some v→(flatH ms)[i*(n+2)+j]?=some v
 | [],_,i,h,_,_,_=>by simp at h
 | q::ms,hm,0,h,j,v,hv=>by
  have hv:(hopC q)[j]?=some v:=hv;unfold flatH;rw [List.flatMap_cons,Nat.zero_mul,Nat.zero_add,List.getElem?_append_left (List.getElem?_eq_some_iff.1 hv).1]; exact hv
 | q::ms,hm,i+1,h,j,v,hv=>by
  have ih:=flatH_get n ms (fun x hx=>hm x (by simp [hx])) i (by simpa using h) j v (by simpa using hv);unfold flatH at *;have hl:(hopC q).length=n+2:=by rw [hopC_length,hm q (by simp)]
  rw [List.flatMap_cons,List.getElem?_append_right (by rw [hl,Nat.succ_mul]; omega),hl];rw [show (i+1)*(n+2)+j-(n+2)=i*(n+2)+j by rw [Nat.succ_mul]; omega];exact ih
def MoreAt (w:World) (n:Nat) (E:TypeId) (mv:Value) (ms:List Rt):Prop:=w.ownsRow 0 E (n+2) mv ms.length (flatH ms)
section
variable {w W:World} {n E:Nat} {mv:Value} {ms:List Rt}
theorem MoreAt.nil:MoreAt w n E (.slice none 0 0) []:=⟨by simp [flatH],.inl ⟨rfl,rfl⟩⟩
theorem MoreAt.shape (h:MoreAt w n E mv ms):(mv=.slice none 0 0∧ms=[])∨∃ g cap,mv=.slice (some ⟨g,0,none⟩) ms.length cap∧ms.length≤cap∧g < w.heap.size:=by
 rcases h.2 with ⟨h1,h2⟩ | ⟨g,cap,cur,h1,_,hg,hc,_⟩
 ·exact .inl ⟨h1,List.length_eq_zero_iff.1 h2⟩
 ·exact .inr ⟨g,cap,h1,hc,(Array.getElem?_eq_some_iff.1 hg).1⟩
theorem MoreAt.one (h:MoreAt w n E mv ms):mv.oneCell'=true:=by
 rcases h.shape with ⟨rfl,_⟩ | ⟨g,cap,rfl,_,_⟩<;>rfl
theorem MoreAt.get {g cap:Nat} (h:MoreAt w n E (.slice (some ⟨g,0,none⟩) ms.length cap) ms) (hm:∀ q∈ms,q.addr.size=n) (i:Nat) (hi:i < ms.length):w.rangeAt g (i*(n+2)) (hopC ms[i]):=fun j v hv=>by
 have hj:j < n+2:=by have:=(List.getElem?_eq_some_iff.1 hv).1; rwa [hopC_length,hm _ (List.getElem_mem hi)] at this
 have hlt:i*(n+2)+j < ms.length*(n+2):=by
  have:=Nat.mul_le_mul_right (n+2) (show i+1≤ms.length from hi);rw [Nat.succ_mul] at this; omega
 rw [World.ownsRow.cellAt h _ hlt];exact flatH_get n ms hm i hi j v hv
theorem MoreAt.kept {row:Option Nat} (h:MoreAt w n E mv ms) (hg:w.grownBy W row) (hne:mv.ownBlock=none∨mv.ownBlock≠row):MoreAt W n E mv ms:=World.ownsRow.kept h hg hne
theorem MoreAt.below (h:MoreAt w n E mv ms) (hB:Below w.heap.size w W):MoreAt W n E mv ms:=h.kept (grown_of_below (r:=none) hB) (by cases mv.ownBlock<;>simp)
end
structure FSt (w:World) (m X:Nat) (cs zs:List Value) (mv:Value) (wx:World):Prop where
 x:HoldsL wx X cs
 z:HoldsL wx (w.heap.size+1) zs
 c:wx.cell? ⟨w.heap.size,m,none⟩=some mv
 b:Below w.heap.size w wx
 le:w.heap.size+1+1≤X
section
variable {w wx wy:World} {m X:Nat} {cs zs:List Value} {mv:Value}
theorem FSt.set (h:FSt w m X cs zs mv wx) (j:Nat) (v:Value):FSt w m X (cs.set j v) zs mv (wx.setCell ⟨X,j,none⟩ v):=by
 have hle:=h.le;exact ⟨h.x.set j v,h.z.setOther (by omega) v,(World.cell?_setCell_other _ _ _ _ (fun e=>by injection e with e1 _; omega)).trans h.c,h.b.setCell (by show w.heap.size≤X; omega) v,hle⟩
theorem FSt.below (h:FSt w m X cs zs mv wx) (hx:0 < cs.length) (hz:0 < zs.length) (hB:Below wx.heap.size wx wy):FSt w m X cs zs mv wy :=
 ⟨h.x.kept hx hB,h.z.kept hz hB,((bcell hB).1 _ _ (World.block_lt_of_cell? wx _ h.c)).trans h.c,h.b.trans (hB.mono h.b.size),h.le⟩
theorem FSt.grown {row:Option Nat} (h:FSt w m X cs zs mv wx) (hx:0 < cs.length) (hz:0 < zs.length) (hg:wx.grownBy wy row) (hr:∀ g,row=some g→w.heap.size+1+1≤g∧g≠X):FSt w m X cs zs mv wy:=by
 have h1:some X≠row:=fun e=>(hr X e.symm).2 rfl
 have h2:some (w.heap.size+1)≠row:=fun e=>by have:=(hr _ e.symm).1; omega
 have h3:some w.heap.size≠row:=fun e=>by have:=(hr _ e.symm).1; omega
 refine ⟨h.x.grown hx hg h1,h.z.grown hz hg h2,hg.cell h.c h3,?_,h.le⟩;exact ⟨hg.os.trans h.b.os,hg.tape.trans h.b.tape,hg.output.trans h.b.output,Nat.le_trans h.b.size hg.size,fun k hk=>by
  rw [hg.block k (Nat.lt_of_lt_of_le hk h.b.size) (fun e=>by have:=(hr k e.symm).1; omega)]; exact h.b.block k hk⟩
theorem FSt.alloc (h:FSt w m X cs zs mv wx) (hx:0 < cs.length) (hz:0 < zs.length) (o:Obj):FSt w m X cs zs mv (wx.alloc o):=h.below hx hz (bR.alloc (Nat.le_refl _) o)
theorem FSt.drew (h:FSt w m X cs zs mv wx):FSt w m X cs zs mv wx.drew:=⟨h.x.drew,h.z.drew,h.c,h.b.drew,h.le⟩
end
theorem wpSeq_store {P:Program} {Q:Exit→Act→World→Prop} {op:Oper} {a:Act} {w:World} (ty:TypeId) (x y:Operand) (ho:op.op=.store ty x y) (b o:Nat) (cells:Array Value) (hx:a.eval x=.pointer (some ⟨b,o,none⟩)) (hy:a.eval y=.agg cells)
  (ht:w.there b o cells.size) (hi:(P.info? ty).map (·.size)=some cells.size) (h1:cells.all (·.oneCell')=true) (h:Q .normal (a.put op.dst undef) (w.setCells b o cells.toList)):wpSeq P Q [op] a w :=
 fun K' hK=>wp_store_mid ty x y ho b o cells hx hy ht hi h1 (hK _ _ h)
end Go.Proofs.YtcckaeppiamebaaGreatDoor
