import Derived.Test.YtcckaeppiamebaaGreatDoorAb
import Derived.Test.YtcckaeppiamebaaGreatDoorMerged8
import Derived.Test.YtcckaeppiamebaaGreatDoorMerged15
import Derived.Test.YtcckaeppiamebaaGreatDoorMerged18
import Derived.Test.YtcckaeppiamebaaGreatDoorMerged9
import Derived.Test.YtcckaeppiamebaaGreatDoorMerged13
import Derived.Test.YtcckaeppiamebaaGreatDoorMerged26
import Derived.Test.YtcckaeppiamebaaGreatDoorMerged5
import Derived.Test.YtcckaeppiamebaaGreatDoorMerged19
set_option linter.unusedVariables false
set_option linter.unusedSimpArgs false
set_option maxRecDepth 100000
set_option maxHeartbeats 8000000
namespace Go.Proofs.YtcckaeppiamebaaGreatDoor
open Go.RowKit Go.PlainAid
theorem indexS_any (xs:List ByteArray) (s:ByteArray) (a:Option Addr) (cap:Nat) (w:World) (hlen:xs.length≤1048576) (hr:SlIs strL1 1 w a xs) :
  Calls Tryz.prog 131 #[.slice a xs.length cap,.string s] w fun e w'=>(∃ r:Int,e=.returned (iV r)∧decide (0≤r)=inL xs s)∧Below w.heap.size w w':=by
 have HR:Hid (SlIs strL1 1 w a xs):=hr;have HV:Hid (inL xs s=xs.any fun t=>decide (t.toList=s.toList)):=rfl;generalize inL xs s=ans at *;clear hr;go_enter Tryz.func131,Tryz.ntmps131
 go_wp2_with fail
 go_loopw [8] (fun iv wr=>∃ i:Nat,i≤xs.length∧iv=iV i∧(xs.take i).any (fun t=>decide (t.toList=s.toList))=false∧Below w.heap.size w wr) (fun iv _=>xs.length-(intOf iv).toNat)
 case atStart=>exact ⟨0,Nat.zero_le _,rfl,rfl,Below.refl _ _⟩
 case round =>
  obtain ⟨i,hi,rfl,hn,hbel⟩:=hrel;have HN:Hid ((xs.take i).any (fun t=>decide (t.toList=s.toList))=false):=hn;have HL:Hid (Below w.heap.size w wr):=hbel;clear hn hbel;by_cases hlt:i < xs.length
  ·obtain ⟨b,off,rfl,hb,hat⟩:=HR.out.at hlt;have hA:=(hat.below hb HL.out) i hlt;have HST:Hid _:=any_take (fun t:ByteArray=>decide (t.toList=s.toList)) xs i hlt;have HAT:Hid _:=any_at (fun t:ByteArray=>decide (t.toList=s.toList)) xs i hlt;obtain ⟨t,ht⟩ : ∃ t,xs[i]=t:=⟨_,rfl⟩;rw [ht] at hA HST HAT;have c0:wr.cell? ⟨b,off+i,none⟩=some (.string t):=by have:=hA 0 _ rfl; simpa using this
   have c0':wr.cell? ⟨b,off+i*1,none⟩=some (.string t):=by simpa using c0
   clear hA hat ht;by_cases he:t.toList=s.toList
   ·have HX:Hid (ans=true):=by unfold Hid; rw [HV.out]; exact HAT.out (decide_eq_true he)
    have hbq:(s.toList==t.toList)=true:=by simp [he]
    clear he;go_wp2_with fail
    go_ret;exact ⟨⟨i,rfl,by rw [HX.out]; simp⟩,HL.out⟩
   ·have HN2:Hid ((xs.take (i+1)).any (fun t=>decide (t.toList=s.toList))=false):=by unfold Hid; rw [HST.out,HN.out,decide_eq_false he]; rfl
    have hbq:(s.toList==t.toList)=false:=by simp; exact fun h=>he h.symm
    clear he;go_wp2_with fail
    go_roundw
    case rel=>exact ⟨i+1,by omega,by go_num,HN2.out,HL.out⟩
    case measure=>simp [intOf]; omega
  ·have hie:i=xs.length:=by omega
   have HX:Hid (ans=false):=by unfold Hid; have:=HN.out; rw [hie,List.take_length] at this; rw [HV.out]; exact this
   go_wp2_with fail
   go_ret;exact ⟨⟨-1,rfl,by rw [HX.out]; rfl⟩,HL.out⟩
theorem containsS_any (xs:List ByteArray) (s:ByteArray) (a:Option Addr) (cap:Nat) (w:World) (hlen:xs.length≤1048576) (hr:SlIs strL1 1 w a xs) :
  Cb 96 #[.slice a xs.length cap,.string s] w (.bool (inL xs s)):=by
 have HC:Hid _:=indexS_any xs s a cap w hlen hr;clear hr;go_enter Tryz.func96,Tryz.ntmps96
 go_wp2_with fail
 refine Calls.mono HC.out ?_;rintro e w1 ⟨⟨r,rfl,hr⟩,b1⟩;have HR:Hid (decide (0≤r)=inL xs s):=hr;clear hr HC;go_wp2_with fail
 go_ret;exact ⟨ret_bool HR.out,b1⟩
def wayO:Value:=.iface 70 (.agg #[])
def wayI (pa:Option Addr) (n pc:Nat):Value:=.iface 80 (.agg #[.slice pa n pc])
theorem leadsO_any (s:ByteArray) (w:World) :
  Cb 59 #[wayO,.string s] w (.bool true):=by
 have t1:∀ W,(Instr.typeAssert (.iface 70 (.agg #[])) 106 80 true).run Tryz.prog W=.ok (.tuple #[.agg #[.slice none 0 0],.bool false]) W:=fun W=>by kernel_rfl
 have t2:∀ W,(Instr.typeAssert (.iface 70 (.agg #[])) 106 70 true).run Tryz.prog W=.ok (.tuple #[.agg #[],.bool true]) W:=fun W=>by kernel_rfl
 unfold wayO;go_enter Tryz.func59,Tryz.ntmps59
 go_wp2_with fail
 go_ret;exact ⟨rfl,(Below.refl _ _).alloc (Nat.le_refl _) _⟩
theorem leadsI_any (xs:List ByteArray) (s:ByteArray) (pa:Option Addr) (pc:Nat) (w:World) (hlen:xs.length≤1048576) (hr:SlIs strL1 1 w pa xs) :
  Cb 59 #[wayI pa xs.length pc,.string s] w (.bool (inL xs s)):=by
 have t1:∀ W,(Instr.typeAssert (.iface 80 (.agg #[.slice pa xs.length pc])) 106 80 true).run Tryz.prog W=.ok (.tuple #[.agg #[.slice pa xs.length pc],.bool true]) W:=fun W=>by kernel_rfl
 have HC:Hid (∀ W,Below w.heap.size w W→Cb 96 #[.slice pa xs.length pc,.string s] W (.bool (inL xs s))):=fun W hW=>containsS_any xs s pa pc W hlen (hr.below hW)
 have HB:Hid (Below w.heap.size w (w.alloc (.cells #[.slice pa xs.length pc] 80))):=(Below.refl _ _).alloc (Nat.le_refl _) _;clear hr;unfold wayI;go_enter Tryz.func59,Tryz.ntmps59
 go_wp2_with fail
 refine (HC.out _ HB.out).mono ?_;rintro e w1 ⟨rfl,b1⟩;have HB1:Hid _:=HB.out.trans (b1.mono HB.out.size);clear b1 HC;go_wp2_with fail
 go_ret;exact ⟨rfl,HB1.out⟩
theorem begins_any (flags:Int) (w:World) :
  Cw 169 #[iV flags] w (.bool (decide (bits .and .i64 flags 22=2))):=by
 by_cases h:bits .and .i64 flags 22=2
 ·go_enter Tryz.func169,Tryz.ntmps169
  go_wp2_with fail
  go_ret;exact ⟨ret_bool (by simp [h]),rfl⟩
 ·go_enter Tryz.func169,Tryz.ntmps169
  go_wp2_with fail
  go_ret;exact ⟨ret_bool (by simp [h]),rfl⟩
theorem new_byte {proto:Int} {inside:Bool} {flags:Int} (hf:isIn flags 0 255=true):trackNewV proto inside flags=if stillP proto=true then 3 else if proto=6 then (if bits .and .i64 flags 22=2 then (if inside=true then 1 else 2) else 0) else 0:=by
 unfold trackNewV;have e:=flags_22 hf;rw [if_neg (by rw [hf]; decide)];by_cases h1:stillP proto=true
 ·rw [if_pos h1,if_pos h1]
 ·rw [if_neg h1,if_neg h1];by_cases h2:proto=6
  ·rw [if_pos h2];by_cases h3:bits .and .i64 flags 22=2
   ·rw [if_pos h3,if_pos ⟨h2,e.mpr h3⟩]
   ·rw [if_neg h3,if_neg (fun h=>h3 (e.mp h.2))]
  ·rw [if_neg h2,if_neg (fun h=>h2 h.1)]
theorem new_range (proto:Int) (inside:Bool) (flags:Int):0≤trackNewV proto inside flags∧trackNewV proto inside flags≤3:=by
 unfold trackNewV;(repeat' split)<;>omega
theorem implNewB_any (proto:Int) (inside:Bool) (flags:Int) (w:World) (hf:isIn flags 0 255=true) :
  Cw 144 #[iV proto,.bool inside,iV flags] w (iV (trackNewV proto inside flags)):=by
 have HA:Hid (∀ W,Cw 148 #[iV proto] W (.bool (stillP proto))):=fun W=>implStill_any _ W
 have HC:Hid (∀ W,Cw 116 #[iV flags] W (.bool (isIn flags 0 255))):=fun W=>implByte_any _ W
 have HB:Hid (∀ W,Cw 169 #[iV flags] W (.bool (decide (bits .and .i64 flags 22=2)))):=fun W=>begins_any _ W
 have HV:Hid (trackNewV proto inside flags=if stillP proto=true then 3 else if proto=6 then (if bits .and .i64 flags 22=2 then (if inside=true then 1 else 2) else 0) else 0):=new_byte hf;rw [hf] at HC;generalize trackNewV proto inside flags=ans at *;clear hf
 cases hs:stillP proto with
 | true =>
  rw [hs] at HA;have HX:Hid (ans=3):=by unfold Hid; rw [HV.out,if_pos hs]
  clear HV hs;go_enter Tryz.func144,Tryz.ntmps144
  go_wp2_with fail
  refine (HA.out _).mono ?_;rintro e w1 ⟨rfl,rfl⟩;go_wp2_with fail
  go_ret;exact ⟨ret_int HX.out.symm,rfl⟩
 | false =>
  rw [hs,if_neg (by decide)] at HV;rw [hs] at HA;clear hs;by_cases hp:proto=6
  ·subst hp;rw [if_pos rfl] at HV;by_cases hb:bits .and .i64 flags 22=2
   ·rw [if_pos hb] at HV;rw [decide_eq_true hb] at HB;clear hb
    cases inside;all_goals
     simp at HV;go_enter Tryz.func144,Tryz.ntmps144
     go_wp2_with fail
     refine (HA.out _).mono ?_;rintro e w1 ⟨rfl,rfl⟩;go_wp2_with fail
     refine (HC.out _).mono ?_;rintro e w1 ⟨rfl,rfl⟩;go_wp2_with fail
     refine (HB.out _).mono ?_;rintro e w1 ⟨rfl,rfl⟩;go_wp2_with fail
     go_ret;exact ⟨ret_int HV.out.symm,rfl⟩
   ·rw [if_neg hb] at HV;rw [decide_eq_false hb] at HB;clear hb;go_enter Tryz.func144,Tryz.ntmps144
    go_wp2_with fail
    refine (HA.out _).mono ?_;rintro e w1 ⟨rfl,rfl⟩;go_wp2_with fail
    refine (HC.out _).mono ?_;rintro e w1 ⟨rfl,rfl⟩;go_wp2_with fail
    refine (HB.out _).mono ?_;rintro e w1 ⟨rfl,rfl⟩;go_wp2_with fail
    go_ret;exact ⟨ret_int HV.out.symm,rfl⟩
  ·rw [if_neg hp] at HV;go_enter Tryz.func144,Tryz.ntmps144
   go_wp2_with fail
   refine (HA.out _).mono ?_;rintro e w1 ⟨rfl,rfl⟩;go_wp2_with fail
   go_ret;exact ⟨ret_int HV.out.symm,rfl⟩
theorem touchRight_any (t:Tc) (w:World) (hs1:t.addr.size≤1048576) (hs2:t.peer.size≤1048576) :
  Cb 106 #[tcC t] w (.bool (touchOk t)):=by
 obtain ⟨proto,inside,addr,port,peer,peerPort,flags⟩:=t;dsimp only at hs1 hs2;have HZ:Hid (Below w.heap.size w (w.alloc (.cells (TcR proto inside addr port peer peerPort flags).toArray 112))):=(Below.refl _ _).alloc (Nat.le_refl _) _;have HT:Hid (HoldsL (w.alloc (.cells (TcR proto inside addr port peer peerPort flags).toArray 112)) w.heap.size (TcR proto inside addr port peer peerPort flags)):=HoldsL.new w (TcR proto inside addr port peer peerPort flags) 112;have H1:Hid (∀ W,Cw 141 #[iV proto] W (.bool (protoB proto))):=fun W=>isBound_any _ W
 have H2:Hid (∀ W,Cw 132 #[.string addr] W (.bool (addrOk addr))):=fun W=>implAddrRight_any addr W
 have H3:Hid (∀ W,Cw 117 #[iV port] W (.bool (isW port))):=fun W=>implWordIs_any _ W
 have H4:Hid (∀ W,Cw 117 #[iV peerPort] W (.bool (isW peerPort))):=fun W=>implWordIs_any _ W
 have H5:Hid (∀ W,Cw 116 #[iV flags] W (.bool (isIn flags 0 255))):=fun W=>implByte_any _ W
 have HV:Hid (touchOk ⟨proto,inside,addr,port,peer,peerPort,flags⟩=(protoB proto&&addrOk addr&&(inside||decide (addr.size=4))&&isW port&&decide (peer.size=4)&&isW peerPort&&isIn flags 0 255)):=rfl;generalize touchOk ⟨proto,inside,addr,port,peer,peerPort,flags⟩=ans at *;generalize protoB proto=b1 at *;generalize addrOk addr=b2 at *;generalize isW port=b3 at *;generalize isW peerPort=b4 at *;generalize isIn flags 0 255=b5 at *;unfold tcC;go_enter Tryz.func106,Tryz.ntmps106
 go_upto_region 1 with fail
 generalize (w.alloc (.cells (TcR proto inside addr port peer peerPort flags).toArray 112))=W at *;obtain ⟨k0,k1,k2,k3,k4,k5,k6⟩:=HT.out.c7;clear HT;go_wp2_with fail
 refine (H1.out _).mono ?_;rintro e W ⟨rfl,rfl⟩
 cases b1 with
 | false =>
  go_wp2_with fail
  go_ret;exact ⟨ret_bool (by rw [HV.out]; rfl),HZ.out⟩
 | true =>
 go_wp2_with fail
 refine (H2.out _).mono ?_;rintro e W ⟨rfl,rfl⟩
 cases b2 with
 | false =>
  go_wp2_with fail
  go_ret;exact ⟨ret_bool (by rw [HV.out]; rfl),HZ.out⟩
 | true =>
 by_cases hi:inside=false∧¬ addr.size=4
 ·obtain ⟨rfl,ha⟩:=hi;have haI:¬ (addr.size:Int)=4:=by omega
  go_wp2_with fail
  go_ret;exact ⟨ret_bool (by rw [HV.out,decide_eq_false ha]; rfl),HZ.out⟩
 have HI:Hid ((inside||decide (addr.size=4))=true):=by
  unfold Hid
  cases inside with
  | true=>rfl
  | false=>simp at hi; simp [hi]
 have hsp:inside=true∨(inside=false∧addr.size=4):=by
  cases inside with
  | true=>exact .inl rfl
  | false=>simp at hi; exact .inr ⟨rfl,hi⟩
 clear hi;have HV2:Hid (ans=(b3&&decide (peer.size=4)&&b4&&b5)):=by unfold Hid; rw [HV.out,HI.out]; rfl
 clear HV HI;rcases hsp with rfl | ⟨rfl,ha⟩
 all_goals
  try have haI:(addr.size:Int)=4:=by omega
  go_wp2_with fail
  refine (H3.out _).mono ?_;rintro e W ⟨rfl,rfl⟩
  cases b3 with
  | false =>
   go_wp2_with fail
   go_ret;exact ⟨ret_bool (by rw [HV2.out]; rfl),HZ.out⟩
  | true =>
  go_wp2_with fail
  refine (H4.out _).mono ?_;rintro e W ⟨rfl,rfl⟩
  cases b4 with
  | false =>
   go_wp2_with fail
   go_ret;exact ⟨ret_bool (by rw [HV2.out]; simp),HZ.out⟩
  | true =>
  by_cases hp:peer.size=4
  ·have HX:Hid (ans=b5):=by unfold Hid; rw [HV2.out,decide_eq_true hp]; rfl
   have hpI:(peer.size:Int)=4:=by omega
   go_wp2_with fail
   refine (H5.out _).mono ?_;rintro e W ⟨rfl,rfl⟩;go_wp2_with fail
   go_ret;exact ⟨ret_bool HX.out.symm,HZ.out⟩
  ·have HX:Hid (ans=false):=by unfold Hid; rw [HV2.out,decide_eq_false hp]; rfl
   have hpI:¬ (peer.size:Int)=4:=by omega
   go_wp2_with fail
   go_ret;exact ⟨ret_bool HX.out.symm,HZ.out⟩
theorem hostOf_any (pa:Option Addr) (pc:Nat) (p:Pl) (ba bo:Option Addr) (ca cb:Nat) (x:Bb) (m1 m2:Nat) (t:Tc) (w:World) (he:EnIn ⟨t.proto,t.addr,t.port⟩) (hbk:BookAt w m1 m2 x.binds x.binds) :
  Cb 107 #[bkC pa pc p ba bo ca cb x m1 m2,tcC t] w (.tuple #[enC (hostV x t).1,.bool (hostV x t).2]):=by
 obtain ⟨proto,inside,addr,port,peer,peerPort,flags⟩:=t;dsimp only at he;obtain ⟨c,hc⟩ : ∃ c,c=(x.binds.find? (ofOut proto addr port)).getD bdZ:=⟨_,rfl⟩;have HLK:Hid (∀ W,Below w.heap.size w W→(Instr.lookup 148 (.map (some m2)) (.agg (EnV proto addr port).toArray) true).run Tryz.prog W=.ok (.tuple #[.agg (BdV c).toArray,.bool (x.binds.find? (ofOut proto addr port)).isSome]) W):=fun W hW=>by
  have hl:=(hbk.kept hW).look2 (e:=⟨proto,addr,port⟩) he;rw [show (fun q=>sameEn (lentE q) ⟨proto,addr,port⟩)=ofOut proto addr port from funext fun c=>lent_out _ _ _ c,← hc] at hl;exact hl
 have HHE:Hid (∀ W,Cb 137 #[.agg (BdV c).toArray] W (.agg (EnV c.proto c.inn c.inPort).toArray)):=fun W=>hostEnd_any c W
 have HV:Hid (hostV x ⟨proto,inside,addr,port,peer,peerPort,flags⟩=if inside=true then (⟨proto,addr,port⟩,true) else (⟨c.proto,c.inn,c.inPort⟩,(x.binds.find? (ofOut proto addr port)).isSome)):=by rw [hc]; rfl
 generalize hostV x ⟨proto,inside,addr,port,peer,peerPort,flags⟩=ans at *;generalize (x.binds.find? (ofOut proto addr port)).isSome=fd at *;clear hc he hbk;have hRw:w.heap.size≤w.heap.size+1+1:=by omega
 have hun:undef=Value.tuple #[]:=rfl;have HS0:=bx3 w (KkV pa pc p ba ca bo cb x m1 m2) 150 (TcR proto inside addr port peer peerPort flags) 112 (EnV 0 ⟨#[]⟩ 0) 155 (by simp) (by simp) (by simp)
 skip;unfold bkC tcC;go_enter Tryz.func107,Tryz.ntmps107
 go_upto_region 1 with fail
 generalize ((aW (aW w (KkV pa pc p ba ca bo cb x m1 m2) 150) (TcR proto inside addr port peer peerPort flags) 112).alloc (.cells (EnV 0 ⟨#[]⟩ 0).toArray 155))=W at *;have HHt:=HS0.out.at mE1;obtain ⟨t0,t1,t2,t3,t4,t5,t6⟩:=HHt.c7;clear HHt;go_upto_region 2 with fail
 have S1:Hid _:=HS0.out.push (EnV proto addr port) (by simp) 155;generalize hW1:W.alloc _=W1 at *;clear hW1 HS0 t0 t1 t2 t3 t4 t5 t6;generalize W.heap.size=Be at *
 cases inside with
 | true =>
  have HX:Hid (ans=(⟨proto,addr,port⟩,true)):=HV.out;clear HV;have HHt:=S1.out.at mE2;have t1:=HHt.cell (j:=1) rfl;clear HHt;have HHn:=S1.out.at mE0;obtain ⟨n0,n1,n2⟩:=HHn.c3;clear HHn;have HHz:=S1.out.at mE3;obtain ⟨z0,z1,z2⟩:=HHz.c3;obtain ⟨zf0,zf1,zf2⟩:=HHz.f3;go_wp2_with fail
  refine bodyPost_ret (v:=.tuple #[.agg (EnV proto addr port).toArray,.bool true]) (by simp [results,Tryz.results107,go_sem,z0,z1,z2]) rfl (And.intro (by rw [HX.out]; rfl) ?_);exact (((S1.out.b.setCell (p:=⟨w.heap.size+1+1,0,none⟩) hRw _).setCell (p:=⟨w.heap.size+1+1,1,none⟩) hRw _).setCell (p:=⟨w.heap.size+1+1,2,none⟩) hRw _)
 | false =>
  have HX:Hid (ans=(⟨c.proto,c.inn,c.inPort⟩,fd)):=HV.out;clear HV;have HHt:=S1.out.at mE2;have t1:=HHt.cell (j:=1) rfl;clear HHt;have HHn:=S1.out.at mE0;obtain ⟨n0,n1,n2⟩:=HHn.c3;clear HHn;have HHk:=S1.out.at mE1;have k13:=HHk.cell (j:=13) rfl;clear HHk;have LK:=HLK.out W1 S1.out.b;go_upto_region 5 with (at_lookup; refine wpList_look_val rfl _ _ _ _ rfl rfl rfl LK ?_)
  have S2:Hid _:=S1.out.push (BdV c) (by simp) 94;generalize hW2:W1.alloc _=W2 at *;clear hW2 S1 LK HLK n0 n1 n2 k13 t1;generalize W1.heap.size=Bc at *;have HHy:=S2.out.at mE0;obtain ⟨y0,y1,y2,y3,y4⟩:=HHy.c5;clear HHy;go_wp2_with fail
  refine (HHE.out _).mono ?_;rintro e W3 ⟨rfl,q3⟩;have S3:Hid _:=S2.out.kept q3;clear q3 S2 HHE y0 y1 y2 y3 y4;have HHz:=S3.out.at mE4;obtain ⟨z0,z1,z2⟩:=HHz.c3;obtain ⟨zf0,zf1,zf2⟩:=HHz.f3;go_wp2_with fail
  refine bodyPost_ret (v:=.tuple #[.agg (EnV c.proto c.inn c.inPort).toArray,.bool fd]) (by simp [results,Tryz.results107,go_sem,z0,z1,z2]) rfl (And.intro (by rw [HX.out]; rfl) ?_);exact (((S3.out.b.setCell (p:=⟨w.heap.size+1+1,0,none⟩) hRw _).setCell (p:=⟨w.heap.size+1+1,1,none⟩) hRw _).setCell (p:=⟨w.heap.size+1+1,2,none⟩) hRw _)
theorem admits1_any (q:Ss) (h:En) (s:ByteArray) (B1 B2:Nat) (w:World) (hk0:HoldsL w B1 (enL h)) (hk1:HoldsL w B2 [.string s]) :
  Cb 171 #[ssC q,.pointer (some ⟨B1,0,none⟩),.pointer (some ⟨B2,0,none⟩)] w (.bool (metB h s q)):=by
 have HF:Hid (∀ W,Cb 139 #[.agg (SsV q).toArray] W (.agg (BdR q.proto q.inn q.inPort q.peer q.peerPort).toArray)):=fun W=>sessKey_any q W
 have HE:Hid (∀ W,(binOp .eql 155 (.agg (EnV q.proto q.inn q.inPort).toArray) (.agg (EnV h.proto h.addr h.port).toArray)).run Tryz.prog W=.ok (.bool (sameEn (sessE q) h)) W):=fun W=>eqEn_bin (sessE q) h W
 have HFL:Hid (∀ W,Sem.run Tryz.prog (Instr.field 160 (.agg (BdR q.proto q.inn q.inPort q.peer q.peerPort).toArray) 0) W=.ok (.agg (EnV q.proto q.inn q.inPort).toArray) W):=fun W=>by kernel_rfl
 have HV:Hid (metB h s q=(sameEn (sessE q) h&&decide (q.peer.toList=s.toList))):=rfl;generalize metB h s q=ans at *;generalize sameEn (sessE q) h=b at *;have HZ:Hid (Below w.heap.size w (w.alloc (.cells (SsV q).toArray 103))):=(Below.refl _ _).alloc (Nat.le_refl _) _;have HQ:Hid (HoldsL (w.alloc (.cells (SsV q).toArray 103)) w.heap.size (SsV q)):=HoldsL.new w (SsV q) 103;have HK0:Hid (HoldsL (w.alloc (.cells (SsV q).toArray 103)) B1 (EnV h.proto h.addr h.port)):=HoldsL.alloc (cs:=(EnV h.proto h.addr h.port)) hk0 _;have HK1:Hid (HoldsL (w.alloc (.cells (SsV q).toArray 103)) B2 [.string s]):=hk1.alloc _;clear hk0 hk1;unfold ssC;go_enter Tryz.func171,Tryz.ntmps171
 go_upto_region 1 with fail
 generalize (w.alloc (.cells (SsV q).toArray 103))=W at *;go_cut [4] (fun v wx=>v=.bool ans∧Below w.heap.size w wx)
 case first =>
  rename_i J K2 hJ hK2;have HCP:Hid (∀ wy,Below W.drew.heap.size W.drew wy→HoldsL wy w.heap.size (SsV q)∧HoldsL wy B1 (EnV h.proto h.addr h.port)∧HoldsL wy B2 [.string s]):=fun wy hy=>⟨HQ.out.drew.kept (by simp) hy,HK0.out.drew.kept (by simp) hy,HK1.out.drew.kept (by simp) hy⟩
  cases b with
  | false =>
   have HX:Hid (ans=false):=HV.out;clear HV;refine wp_region_growH [5,6,7,8,9,10,11,12,13,14,15,4] (by kernel_rfl) (by kernel_rfl) ?_;iterate 2 (apply GCh.u rfl;(·intro K' a wy ho hd hb hK;simp [rAt,IsV,slot,Region.binds] at ho hd;obtain ⟨hq,h0,h1⟩:=HCP.out wy hb;have kC:=hq.c7;have kC:=h0.c3;have m0:=h1.cell (j:=0) rfl;go_simp;first|((try go_bits);exact hK _ _ rfl bQ)|(refine (HF.out wy).mono ?_;rintro e wz ⟨rfl,hz⟩;exact hK _ _ rfl hz));dsimp only [nA,cA])
   (apply GCh.u rfl;(·intro K' a wy ho hd hb hK;simp [rAt,IsV,slot,Region.binds] at ho hd;have hfl:=HFL.out wy;go_simp;(try go_bits);exact hK _ _ rfl bQ);dsimp only [nA,cA])
   (apply GCh.u rfl;(·intro K' a wy ho hd hb hK;simp [rAt,IsV,slot,Region.binds] at ho hd;obtain ⟨hq,h0,h1⟩:=HCP.out wy hb;have kC:=hq.c7;have kC:=h0.c3;have m0:=h1.cell (j:=0) rfl;go_simp;(try go_bits);exact hK _ _ rfl bQ);dsimp only [nA,cA])
   apply GCh.v4
   ·rfl
   ·intro K' a wy ho hd hb hK kz;have q2:=hd ⟨2,.data⟩ (by simp) rfl;have q3:=hd ⟨3,.data⟩ (by simp) rfl;simp [rAt,IsV,slot] at q2 q3;clear hd ho;refine wp_bin_val .eql 155 155 (.tmp 7) (.tmp 8) rfl (by simp [Act.eval,slot,q2]) (by simp [Act.eval,slot,q3]) (run_eqGuard_agg _ _ _ _ _ _ _ (by kernel_rfl)) (HE.out wy) ?_;exact kz _ rfl
   iterate 7 ((first|(refine GCh.n rfl rfl rfl rfl rfl (by simp) ?_)|(apply GCh.u rfl;(·intro K' a wy ho hd hb hK;simp [rAt,IsV,slot,Region.binds] at ho hd;go_simp;(try go_bits);exact hK _ _ rfl bQ)));dsimp only [nA,cA])
   intro X wz hR hz;simp only [List.nil_append,List.cons_append,RAll,IsV] at hR;simp only [putsFrom,hR];clear hR;go_simp;try go_bits
   refine hK2 _ _ (hJ _ _ ?_);(repeat apply Exists.intro)
   refine ⟨⟨by rw [HX.out],HZ.out.drew.trans (hz.mono HZ.out.size)⟩,rfl⟩
  | true =>
   have HX:Hid (ans=decide (q.peer.toList=s.toList)):=by unfold Hid; rw [HV.out]; rfl
   clear HV;by_cases hs:q.peer.toList=s.toList
   case pos =>
    have hs2:(q.peer.toList==s.toList)=true:=by simp [hs]
    rw [decide_eq_true hs] at HX;clear hs;refine wp_region_growH [5,6,7,8,9,10,11,12,13,14,15,4] (by kernel_rfl) (by kernel_rfl) ?_;iterate 2 (apply GCh.u rfl;(·intro K' a wy ho hd hb hK;simp [rAt,IsV,slot,Region.binds] at ho hd;obtain ⟨hq,h0,h1⟩:=HCP.out wy hb;have kC:=hq.c7;have kC:=h0.c3;have m0:=h1.cell (j:=0) rfl;go_simp;first|((try go_bits);exact hK _ _ rfl bQ)|(refine (HF.out wy).mono ?_;rintro e wz ⟨rfl,hz⟩;exact hK _ _ rfl hz));dsimp only [nA,cA])
    (apply GCh.u rfl;(·intro K' a wy ho hd hb hK;simp [rAt,IsV,slot,Region.binds] at ho hd;have hfl:=HFL.out wy;go_simp;(try go_bits);exact hK _ _ rfl bQ);dsimp only [nA,cA])
    (apply GCh.u rfl;(·intro K' a wy ho hd hb hK;simp [rAt,IsV,slot,Region.binds] at ho hd;obtain ⟨hq,h0,h1⟩:=HCP.out wy hb;have kC:=hq.c7;have kC:=h0.c3;have m0:=h1.cell (j:=0) rfl;go_simp;(try go_bits);exact hK _ _ rfl bQ);dsimp only [nA,cA])
    apply GCh.v4
    ·rfl
    ·intro K' a wy ho hd hb hK kz;have q2:=hd ⟨2,.data⟩ (by simp) rfl;have q3:=hd ⟨3,.data⟩ (by simp) rfl;simp [rAt,IsV,slot] at q2 q3;clear hd ho;refine wp_bin_val .eql 155 155 (.tmp 7) (.tmp 8) rfl (by simp [Act.eval,slot,q2]) (by simp [Act.eval,slot,q3]) (run_eqGuard_agg _ _ _ _ _ _ _ (by kernel_rfl)) (HE.out wy) ?_;exact kz _ rfl
    iterate 7 ((first|apply GCh.u rfl|apply GCh.g rfl rfl rfl rfl rfl (by simp));(·intro K' a wy ho hd hb hK;simp [rAt,IsV,slot,Region.binds] at ho hd;obtain ⟨hq,h0,h1⟩:=HCP.out wy hb;have kC:=hq.c7;have kC:=h0.c3;have m0:=h1.cell (j:=0) rfl;go_simp;(try go_bits);exact hK _ _ rfl bQ);dsimp only [nA,cA])
    intro X wz hR hz;simp only [List.nil_append,List.cons_append,RAll,IsV] at hR;simp only [putsFrom,hR];clear hR;go_simp;try go_bits
    refine hK2 _ _ (hJ _ _ ?_);(repeat apply Exists.intro)
    refine ⟨⟨by rw [HX.out],HZ.out.drew.trans (hz.mono HZ.out.size)⟩,rfl⟩
   case neg =>
    have hs2:(q.peer.toList==s.toList)=false:=by simp [hs]
    rw [decide_eq_false hs] at HX;clear hs;refine wp_region_growH [5,6,7,8,9,10,11,12,13,14,15,4] (by kernel_rfl) (by kernel_rfl) ?_;iterate 2 (apply GCh.u rfl;(·intro K' a wy ho hd hb hK;simp [rAt,IsV,slot,Region.binds] at ho hd;obtain ⟨hq,h0,h1⟩:=HCP.out wy hb;have kC:=hq.c7;have kC:=h0.c3;have m0:=h1.cell (j:=0) rfl;go_simp;first|((try go_bits);exact hK _ _ rfl bQ)|(refine (HF.out wy).mono ?_;rintro e wz ⟨rfl,hz⟩;exact hK _ _ rfl hz));dsimp only [nA,cA])
    (apply GCh.u rfl;(·intro K' a wy ho hd hb hK;simp [rAt,IsV,slot,Region.binds] at ho hd;have hfl:=HFL.out wy;go_simp;(try go_bits);exact hK _ _ rfl bQ);dsimp only [nA,cA])
    (apply GCh.u rfl;(·intro K' a wy ho hd hb hK;simp [rAt,IsV,slot,Region.binds] at ho hd;obtain ⟨hq,h0,h1⟩:=HCP.out wy hb;have kC:=hq.c7;have kC:=h0.c3;have m0:=h1.cell (j:=0) rfl;go_simp;(try go_bits);exact hK _ _ rfl bQ);dsimp only [nA,cA])
    apply GCh.v4
    ·rfl
    ·intro K' a wy ho hd hb hK kz;have q2:=hd ⟨2,.data⟩ (by simp) rfl;have q3:=hd ⟨3,.data⟩ (by simp) rfl;simp [rAt,IsV,slot] at q2 q3;clear hd ho;refine wp_bin_val .eql 155 155 (.tmp 7) (.tmp 8) rfl (by simp [Act.eval,slot,q2]) (by simp [Act.eval,slot,q3]) (run_eqGuard_agg _ _ _ _ _ _ _ (by kernel_rfl)) (HE.out wy) ?_;exact kz _ rfl
    iterate 7 ((first|apply GCh.u rfl|apply GCh.g rfl rfl rfl rfl rfl (by simp));(·intro K' a wy ho hd hb hK;simp [rAt,IsV,slot,Region.binds] at ho hd;obtain ⟨hq,h0,h1⟩:=HCP.out wy hb;have kC:=hq.c7;have kC:=h0.c3;have m0:=h1.cell (j:=0) rfl;go_simp;(try go_bits);exact hK _ _ rfl bQ);dsimp only [nA,cA])
    intro X wz hR hz;simp only [List.nil_append,List.cons_append,RAll,IsV] at hR;simp only [putsFrom,hR];clear hR;go_simp;try go_bits
    refine hK2 _ _ (hJ _ _ ?_);(repeat apply Exists.intro)
    refine ⟨⟨by rw [HX.out],HZ.out.drew.trans (hz.mono HZ.out.size)⟩,rfl⟩
 case rest =>
  obtain ⟨rfl,hb⟩:=hcut;have HB:Hid (Below w.heap.size w wc):=hb;clear hb;go_wp2_with fail
  go_ret;exact ⟨rfl,HB.out⟩
theorem admits_any (pa:Option Addr) (pc:Nat) (p:Pl) (ba bo:Option Addr) (ca cb:Nat) (x:Bb) (m1 m2:Nat) (h:En) (s:ByteArray) (w:World) (hl2:x.sess.length≤1048576) (hx:BbIs w ba bo x) :
  Cb 145 #[bkC pa pc p ba bo ca cb x m1 m2,enC h,.string s] w (.bool (admitV p x h s)):=by
 have HC:Hid (∀ W B1 B2,Below w.heap.size w W→HoldsL W B1 (enL h)→HoldsL W B2 [.string s]→Cb 170 #[.slice bo x.sess.length cb,.func (.func 171) #[] #[.pointer (some ⟨B1,0,none⟩),.pointer (some ⟨B2,0,none⟩)]] W (.bool (x.sess.any (metB h s)))):=fun W B1 B2 hW h1 h2=>hasFunc_any (metB h s) 171 (fun args W=>by kernel_rfl) #[.pointer (some ⟨B1,0,none⟩),.pointer (some ⟨B2,0,none⟩)] x.sess bo cb W hl2 (hx.ss.below hW) (fun W' hW' q hq=>admits1_any q h s B1 B2 W' (h1.kept (by simp [enL]) hW') (h2.kept (by simp) hW'))
 have HV:Hid (admitV p x h s=if p.filter=0 then true else if p.filter=1 then x.sess.any (metB h s) else false):=rfl;generalize admitV p x h s=ans at *;generalize x.sess.any (metB h s)=an at *;clear hx;have HS0:=bx3 w (KkV pa pc p ba ca bo cb x m1 m2) 150 (EnV h.proto h.addr h.port) 155 [.string s] 9 (by simp) (by simp) (by simp)
 skip;unfold bkC enC;go_enter Tryz.func145,Tryz.ntmps145
 go_upto_region 1 with fail
 generalize ((aW (aW w (KkV pa pc p ba ca bo cb x m1 m2) 150) (EnV h.proto h.addr h.port) 155).alloc (.cells #[.string s] 9))=W at *;have HHk:=HS0.out.at mE0;obtain ⟨k0,k1,k2,k3,k4,k5,k6,k7,k8,k9,k10,k11,k12,k13⟩:=HHk.c14;clear HHk;by_cases h0:p.filter=0
 case pos =>
  have d0:(p.filter==0)=true:=by simp [h0]
  have HX:Hid (ans=true):=by unfold Hid; rw [HV.out,if_pos h0]
  clear h0 HV;go_wp2_with fail
  go_ret;exact ⟨ret_bool HX.out.symm,HS0.out.b⟩
 have d0:(p.filter==0)=false:=by simp [h0]
 by_cases h1:p.filter=1
 case neg =>
  have d1:(p.filter==1)=false:=by simp [h1]
  have HX:Hid (ans=false):=by unfold Hid; rw [HV.out,if_neg h0,if_neg h1]
  clear h0 h1 HV;go_wp2_with fail
  go_ret;exact ⟨ret_bool HX.out.symm,HS0.out.b⟩
 have d1:(p.filter==1)=true:=by simp [h1]
 have HX:Hid (ans=an):=by unfold Hid; rw [HV.out,if_neg h0,if_pos h1]
 clear h0 h1 HV;go_wp2_with fail
 refine (HC.out _ _ _ HS0.out.b (HS0.out.k _ mE1) (HS0.out.k _ mE2)).mono ?_;rintro e W1 ⟨rfl,q1⟩;have B1:Hid (Below w.heap.size w W1):=HS0.out.b.trans (q1.mono HS0.out.b.size);clear q1 HS0;go_wp2_with fail
 go_ret;exact ⟨ret_bool HX.out.symm,B1.out⟩
end Go.Proofs.YtcckaeppiamebaaGreatDoor
