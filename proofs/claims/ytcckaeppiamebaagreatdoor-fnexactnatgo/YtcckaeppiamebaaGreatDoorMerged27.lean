import Derived.Test.YtcckaeppiamebaaGreatDoorMerged8
import Derived.Test.YtcckaeppiamebaaGreatDoorMerged14
import Derived.Test.YtcckaeppiamebaaGreatDoorMerged17
import Derived.Test.YtcckaeppiamebaaGreatDoorMerged9
import Derived.Test.YtcckaeppiamebaaGreatDoorMerged12
import Derived.Test.YtcckaeppiamebaaGreatDoorMerged24
import Derived.Test.YtcckaeppiamebaaGreatDoorMerged18
set_option linter.unusedVariables false
set_option linter.unusedSimpArgs false
set_option maxRecDepth 100000
set_option maxHeartbeats 8000000
namespace Go.Proofs.YtcckaeppiamebaaGreatDoor
open Go.RowKit Go.PlainAid
def wayO:Value:=.iface 70 (.agg #[])
theorem leadsO_any (s:ByteArray) (w:World) :
  Calls Tryz.prog 59 #[wayO,.string s] w fun e w'=>e=.returned (.bool true)∧Below w.heap.size w w':=by
 have t1:∀ W,(Instr.typeAssert (.iface 70 (.agg #[])) 106 80 true).run Tryz.prog W=.ok (.tuple #[.agg #[.slice none 0 0],.bool false]) W:=fun W=>by kernel_rfl
 have t2:∀ W,(Instr.typeAssert (.iface 70 (.agg #[])) 106 70 true).run Tryz.prog W=.ok (.tuple #[.agg #[],.bool true]) W:=fun W=>by kernel_rfl
 unfold wayO;go_enter Tryz.func59,Tryz.ntmps59
 go_wp2_with fail
 go_ret;exact ⟨rfl,(Below.refl _ _).alloc (Nat.le_refl _) _⟩
theorem begins_any (flags:Int) (w:World) :
  Calls Tryz.prog 169 #[.int .i64 flags] w fun e w'=>e=.returned (.bool (decide (bits .and .i64 flags 22=2)))∧w'=w:=by
 by_cases h:bits .and .i64 flags 22=2
 ·go_enter Tryz.func169,Tryz.ntmps169
  go_wp2_with fail
  go_ret;exact ⟨ret_bool (by simp [h]),rfl⟩
 ·go_enter Tryz.func169,Tryz.ntmps169
  go_wp2_with fail
  go_ret;exact ⟨ret_bool (by simp [h]),rfl⟩
theorem new_byte {proto:Int} {inside:Bool} {flags:Int} (hf:isIn flags 0 255=true):trackNewV proto inside flags=if stillP proto=true then 3 else if proto=6 then (if bits .and .i64 flags 22=2 then (if inside=true then 1 else 2) else 0) else 0:=by
 unfold trackNewV;have e:=flags_22 hf;rw [if_neg (by rw [hf]; decide)];by_cases h1:stillP proto=true
 ·rw [if_pos h1,if_pos h1]
 ·rw [if_neg h1,if_neg h1];by_cases h2:proto=6
  ·rw [if_pos h2];by_cases h3:bits .and .i64 flags 22=2
   ·rw [if_pos h3,if_pos ⟨h2,e.mpr h3⟩]
   ·rw [if_neg h3,if_neg (fun h=>h3 (e.mp h.2))]
  ·rw [if_neg h2,if_neg (fun h=>h2 h.1)]
theorem new_range (proto:Int) (inside:Bool) (flags:Int):0≤trackNewV proto inside flags∧trackNewV proto inside flags≤3:=by
 unfold trackNewV;(repeat' split)<;>omega
theorem implNewB_any (proto:Int) (inside:Bool) (flags:Int) (w:World) (hf:isIn flags 0 255=true) :
  Calls Tryz.prog 144 #[.int .i64 proto,.bool inside,.int .i64 flags] w fun e w'=>e=.returned (.int .i64 (trackNewV proto inside flags))∧w'=w:=by
 have HA:Hid (∀ W,Calls Tryz.prog 148 #[.int .i64 proto] W fun e w'=>e=.returned (.bool (stillP proto))∧w'=W):=fun W=>implStill_any _ W
 have HC:Hid (∀ W,Calls Tryz.prog 116 #[.int .i64 flags] W fun e w'=>e=.returned (.bool (isIn flags 0 255))∧w'=W):=fun W=>implByte_any _ W
 have HB:Hid (∀ W,Calls Tryz.prog 169 #[.int .i64 flags] W fun e w'=>e=.returned (.bool (decide (bits .and .i64 flags 22=2)))∧w'=W):=fun W=>begins_any _ W
 have HV:Hid (trackNewV proto inside flags=if stillP proto=true then 3 else if proto=6 then (if bits .and .i64 flags 22=2 then (if inside=true then 1 else 2) else 0) else 0):=new_byte hf;rw [hf] at HC;generalize trackNewV proto inside flags=ans at *;clear hf
 cases hs:stillP proto with
 | true =>
  rw [hs] at HA;have HX:Hid (ans=3):=by unfold Hid; rw [HV.out,if_pos hs]
  clear HV hs;go_enter Tryz.func144,Tryz.ntmps144
  go_wp2_with fail
  refine (HA.out _).mono ?_;rintro e w1 ⟨rfl,rfl⟩;go_wp2_with fail
  go_ret;exact ⟨ret_int HX.out.symm,rfl⟩
 | false =>
  rw [hs,if_neg (by decide)] at HV;rw [hs] at HA;clear hs;by_cases hp:proto=6
  ·subst hp;rw [if_pos rfl] at HV;by_cases hb:bits .and .i64 flags 22=2
   ·rw [if_pos hb] at HV;rw [decide_eq_true hb] at HB;clear hb
    cases inside;all_goals
     simp at HV;go_enter Tryz.func144,Tryz.ntmps144
     go_wp2_with fail
     refine (HA.out _).mono ?_;rintro e w1 ⟨rfl,rfl⟩;go_wp2_with fail
     refine (HC.out _).mono ?_;rintro e w1 ⟨rfl,rfl⟩;go_wp2_with fail
     refine (HB.out _).mono ?_;rintro e w1 ⟨rfl,rfl⟩;go_wp2_with fail
     go_ret;exact ⟨ret_int HV.out.symm,rfl⟩
   ·rw [if_neg hb] at HV;rw [decide_eq_false hb] at HB;clear hb;go_enter Tryz.func144,Tryz.ntmps144
    go_wp2_with fail
    refine (HA.out _).mono ?_;rintro e w1 ⟨rfl,rfl⟩;go_wp2_with fail
    refine (HC.out _).mono ?_;rintro e w1 ⟨rfl,rfl⟩;go_wp2_with fail
    refine (HB.out _).mono ?_;rintro e w1 ⟨rfl,rfl⟩;go_wp2_with fail
    go_ret;exact ⟨ret_int HV.out.symm,rfl⟩
  ·rw [if_neg hp] at HV;go_enter Tryz.func144,Tryz.ntmps144
   go_wp2_with fail
   refine (HA.out _).mono ?_;rintro e w1 ⟨rfl,rfl⟩;go_wp2_with fail
   go_ret;exact ⟨ret_int HV.out.symm,rfl⟩
theorem touchRight_any (t:Tc) (w:World) (hs1:t.addr.size≤1048576) (hs2:t.peer.size≤1048576) :
  Calls Tryz.prog 106 #[tcC t] w fun e w'=>e=.returned (.bool (touchOk t))∧Below w.heap.size w w':=by
 obtain ⟨proto,inside,addr,port,peer,peerPort,flags⟩:=t;dsimp only at hs1 hs2;have HZ:Hid (Below w.heap.size w (w.alloc (.cells #[.int .i64 proto,.bool inside,.string addr,.int .i64 port,.string peer,.int .i64 peerPort,.int .i64 flags] 112))):=(Below.refl _ _).alloc (Nat.le_refl _) _;have HT:Hid (HoldsL (w.alloc (.cells #[.int .i64 proto,.bool inside,.string addr,.int .i64 port,.string peer,.int .i64 peerPort,.int .i64 flags] 112)) w.heap.size [.int .i64 proto,.bool inside,.string addr,.int .i64 port,.string peer,.int .i64 peerPort,.int .i64 flags]):=HoldsL.new w [.int .i64 proto,.bool inside,.string addr,.int .i64 port,.string peer,.int .i64 peerPort,.int .i64 flags] 112;have H1:Hid (∀ W,Calls Tryz.prog 141 #[.int .i64 proto] W fun e w'=>e=.returned (.bool (protoB proto))∧w'=W):=fun W=>isBound_any _ W
 have H2:Hid (∀ W,Calls Tryz.prog 132 #[.string addr] W fun e w'=>e=.returned (.bool (addrOk addr))∧w'=W):=fun W=>implAddrRight_any addr W
 have H3:Hid (∀ W,Calls Tryz.prog 117 #[.int .i64 port] W fun e w'=>e=.returned (.bool (isW port))∧w'=W):=fun W=>implWordIs_any _ W
 have H4:Hid (∀ W,Calls Tryz.prog 117 #[.int .i64 peerPort] W fun e w'=>e=.returned (.bool (isW peerPort))∧w'=W):=fun W=>implWordIs_any _ W
 have H5:Hid (∀ W,Calls Tryz.prog 116 #[.int .i64 flags] W fun e w'=>e=.returned (.bool (isIn flags 0 255))∧w'=W):=fun W=>implByte_any _ W
 have HV:Hid (touchOk ⟨proto,inside,addr,port,peer,peerPort,flags⟩=(protoB proto&&addrOk addr&&(inside||decide (addr.size=4))&&isW port&&decide (peer.size=4)&&isW peerPort&&isIn flags 0 255)):=rfl;generalize touchOk ⟨proto,inside,addr,port,peer,peerPort,flags⟩=ans at *;generalize protoB proto=b1 at *;generalize addrOk addr=b2 at *;generalize isW port=b3 at *;generalize isW peerPort=b4 at *;generalize isIn flags 0 255=b5 at *;unfold tcC;go_enter Tryz.func106,Tryz.ntmps106
 go_upto_region 1 with fail
 generalize w.alloc (.cells #[.int .i64 proto,.bool inside,.string addr,.int .i64 port,.string peer,.int .i64 peerPort,.int .i64 flags] 112)=W at *;obtain ⟨k0,k1,k2,k3,k4,k5,k6⟩:=HT.out.c7;clear HT;go_wp2_with fail
 refine (H1.out _).mono ?_;rintro e W ⟨rfl,rfl⟩
 cases b1 with
 | false =>
  go_wp2_with fail
  go_ret;exact ⟨ret_bool (by rw [HV.out]; rfl),HZ.out⟩
 | true =>
 go_wp2_with fail
 refine (H2.out _).mono ?_;rintro e W ⟨rfl,rfl⟩
 cases b2 with
 | false =>
  go_wp2_with fail
  go_ret;exact ⟨ret_bool (by rw [HV.out]; rfl),HZ.out⟩
 | true =>
 by_cases hi:inside=false∧¬ addr.size=4
 ·obtain ⟨rfl,ha⟩:=hi;have haI:¬ (addr.size:Int)=4:=by omega
  go_wp2_with fail
  go_ret;exact ⟨ret_bool (by rw [HV.out,decide_eq_false ha]; rfl),HZ.out⟩
 have HI:Hid ((inside||decide (addr.size=4))=true):=by
  unfold Hid
  cases inside with
  | true=>rfl
  | false=>simp at hi; simp [hi]
 have hsp:inside=true∨(inside=false∧addr.size=4):=by
  cases inside with
  | true=>exact .inl rfl
  | false=>simp at hi; exact .inr ⟨rfl,hi⟩
 clear hi;have HV2:Hid (ans=(b3&&decide (peer.size=4)&&b4&&b5)):=by unfold Hid; rw [HV.out,HI.out]; rfl
 clear HV HI;rcases hsp with rfl | ⟨rfl,ha⟩
 all_goals
  try have haI:(addr.size:Int)=4:=by omega
  go_wp2_with fail
  refine (H3.out _).mono ?_;rintro e W ⟨rfl,rfl⟩
  cases b3 with
  | false =>
   go_wp2_with fail
   go_ret;exact ⟨ret_bool (by rw [HV2.out]; rfl),HZ.out⟩
  | true =>
  go_wp2_with fail
  refine (H4.out _).mono ?_;rintro e W ⟨rfl,rfl⟩
  cases b4 with
  | false =>
   go_wp2_with fail
   go_ret;exact ⟨ret_bool (by rw [HV2.out]; simp),HZ.out⟩
  | true =>
  by_cases hp:peer.size=4
  ·have HX:Hid (ans=b5):=by unfold Hid; rw [HV2.out,decide_eq_true hp]; rfl
   have hpI:(peer.size:Int)=4:=by omega
   go_wp2_with fail
   refine (H5.out _).mono ?_;rintro e W ⟨rfl,rfl⟩;go_wp2_with fail
   go_ret;exact ⟨ret_bool HX.out.symm,HZ.out⟩
  ·have HX:Hid (ans=false):=by unfold Hid; rw [HV2.out,decide_eq_false hp]; rfl
   have hpI:¬ (peer.size:Int)=4:=by omega
   go_wp2_with fail
   go_ret;exact ⟨ret_bool HX.out.symm,HZ.out⟩
theorem hostOf_any (pa:Option Addr) (pc:Nat) (p:Pl) (ba bo:Option Addr) (ca cb:Nat) (x:Bb) (m1 m2:Nat) (t:Tc) (w:World) (he:EnIn ⟨t.proto,t.addr,t.port⟩) (hbk:BookAt w m1 m2 x.binds x.binds) :
  Calls Tryz.prog 107 #[bkC pa pc p ba bo ca cb x m1 m2,tcC t] w fun e w'=>e=.returned (.tuple #[enC (hostV x t).1,.bool (hostV x t).2])∧Below w.heap.size w w':=by
 obtain ⟨proto,inside,addr,port,peer,peerPort,flags⟩:=t;dsimp only at he;obtain ⟨c,hc⟩ : ∃ c,c=(x.binds.find? (ofOut proto addr port)).getD bdZ:=⟨_,rfl⟩;have HLK:Hid (∀ W,Below w.heap.size w W→(Instr.lookup 148 (.map (some m2)) (.agg #[.int .i64 proto,.string addr,.int .i64 port]) true).run Tryz.prog W=.ok (.tuple #[.agg #[.int .i64 c.proto,.string c.inn,.int .i64 c.inPort,.string c.out,.int .i64 c.outPort],.bool (x.binds.find? (ofOut proto addr port)).isSome]) W):=fun W hW=>by
  have hl:=(hbk.kept hW).look2 (e:=⟨proto,addr,port⟩) he;rw [show (fun q=>sameEn (lentE q) ⟨proto,addr,port⟩)=ofOut proto addr port from funext fun c=>lent_out _ _ _ c,← hc] at hl;exact hl
 have HHE:Hid (∀ W,Calls Tryz.prog 137 #[.agg #[.int .i64 c.proto,.string c.inn,.int .i64 c.inPort,.string c.out,.int .i64 c.outPort]] W fun e w'=>e=.returned (.agg #[.int .i64 c.proto,.string c.inn,.int .i64 c.inPort])∧Below W.heap.size W w'):=fun W=>hostEnd_any c W
 have HV:Hid (hostV x ⟨proto,inside,addr,port,peer,peerPort,flags⟩=if inside=true then (⟨proto,addr,port⟩,true) else (⟨c.proto,c.inn,c.inPort⟩,(x.binds.find? (ofOut proto addr port)).isSome)):=by rw [hc]; rfl
 generalize hostV x ⟨proto,inside,addr,port,peer,peerPort,flags⟩=ans at *;generalize (x.binds.find? (ofOut proto addr port)).isSome=fd at *;clear hc he hbk;have hRw:w.heap.size≤w.heap.size+1+1:=by omega
 have hun:undef=Value.tuple #[]:=rfl;have e0:HoldsL (((w.alloc (.cells #[.slice pa p.addrs.length pc,.int .i64 p.low,.int .i64 p.high,.int .i64 p.most,.int .i64 p.filter,.int .i64 p.lv.udp,.int .i64 p.lv.echo,.int .i64 p.lv.opening,.int .i64 p.lv.opn,.int .i64 p.lv.closing,.slice ba x.binds.length ca,.slice bo x.sess.length cb,.map (some m1),.map (some m2)] 150)).alloc (.cells #[.int .i64 proto,.bool inside,.string addr,.int .i64 port,.string peer,.int .i64 peerPort,.int .i64 flags] 112)).alloc (.cells #[.int .i64 0,.string ⟨#[]⟩,.int .i64 0] 155)) (w.heap.size) [.slice pa p.addrs.length pc,.int .i64 p.low,.int .i64 p.high,.int .i64 p.most,.int .i64 p.filter,.int .i64 p.lv.udp,.int .i64 p.lv.echo,.int .i64 p.lv.opening,.int .i64 p.lv.opn,.int .i64 p.lv.closing,.slice ba x.binds.length ca,.slice bo x.sess.length cb,.map (some m1),.map (some m2)]:=by
  have h:=HoldsL.new w [.slice pa p.addrs.length pc,.int .i64 p.low,.int .i64 p.high,.int .i64 p.most,.int .i64 p.filter,.int .i64 p.lv.udp,.int .i64 p.lv.echo,.int .i64 p.lv.opening,.int .i64 p.lv.opn,.int .i64 p.lv.closing,.slice ba x.binds.length ca,.slice bo x.sess.length cb,.map (some m1),.map (some m2)] 150;try simp only [World.size_alloc] at h
  exact ((h.alloc _).alloc _)
 have e1:HoldsL (((w.alloc (.cells #[.slice pa p.addrs.length pc,.int .i64 p.low,.int .i64 p.high,.int .i64 p.most,.int .i64 p.filter,.int .i64 p.lv.udp,.int .i64 p.lv.echo,.int .i64 p.lv.opening,.int .i64 p.lv.opn,.int .i64 p.lv.closing,.slice ba x.binds.length ca,.slice bo x.sess.length cb,.map (some m1),.map (some m2)] 150)).alloc (.cells #[.int .i64 proto,.bool inside,.string addr,.int .i64 port,.string peer,.int .i64 peerPort,.int .i64 flags] 112)).alloc (.cells #[.int .i64 0,.string ⟨#[]⟩,.int .i64 0] 155)) (w.heap.size+1) [.int .i64 proto,.bool inside,.string addr,.int .i64 port,.string peer,.int .i64 peerPort,.int .i64 flags]:=by
  have h:=HoldsL.new (w.alloc (.cells #[.slice pa p.addrs.length pc,.int .i64 p.low,.int .i64 p.high,.int .i64 p.most,.int .i64 p.filter,.int .i64 p.lv.udp,.int .i64 p.lv.echo,.int .i64 p.lv.opening,.int .i64 p.lv.opn,.int .i64 p.lv.closing,.slice ba x.binds.length ca,.slice bo x.sess.length cb,.map (some m1),.map (some m2)] 150)) [.int .i64 proto,.bool inside,.string addr,.int .i64 port,.string peer,.int .i64 peerPort,.int .i64 flags] 112;try simp only [World.size_alloc] at h
  exact (h.alloc _)
 have e2:HoldsL (((w.alloc (.cells #[.slice pa p.addrs.length pc,.int .i64 p.low,.int .i64 p.high,.int .i64 p.most,.int .i64 p.filter,.int .i64 p.lv.udp,.int .i64 p.lv.echo,.int .i64 p.lv.opening,.int .i64 p.lv.opn,.int .i64 p.lv.closing,.slice ba x.binds.length ca,.slice bo x.sess.length cb,.map (some m1),.map (some m2)] 150)).alloc (.cells #[.int .i64 proto,.bool inside,.string addr,.int .i64 port,.string peer,.int .i64 peerPort,.int .i64 flags] 112)).alloc (.cells #[.int .i64 0,.string ⟨#[]⟩,.int .i64 0] 155)) (w.heap.size+1+1) [.int .i64 0,.string ⟨#[]⟩,.int .i64 0]:=by
  have h:=HoldsL.new ((w.alloc (.cells #[.slice pa p.addrs.length pc,.int .i64 p.low,.int .i64 p.high,.int .i64 p.most,.int .i64 p.filter,.int .i64 p.lv.udp,.int .i64 p.lv.echo,.int .i64 p.lv.opening,.int .i64 p.lv.opn,.int .i64 p.lv.closing,.slice ba x.binds.length ca,.slice bo x.sess.length cb,.map (some m1),.map (some m2)] 150)).alloc (.cells #[.int .i64 proto,.bool inside,.string addr,.int .i64 port,.string peer,.int .i64 peerPort,.int .i64 flags] 112)) [.int .i64 0,.string ⟨#[]⟩,.int .i64 0] 155;try simp only [World.size_alloc] at h
  exact h
 have HS0:Hid (Bxs w [(w.heap.size,[.slice pa p.addrs.length pc,.int .i64 p.low,.int .i64 p.high,.int .i64 p.most,.int .i64 p.filter,.int .i64 p.lv.udp,.int .i64 p.lv.echo,.int .i64 p.lv.opening,.int .i64 p.lv.opn,.int .i64 p.lv.closing,.slice ba x.binds.length ca,.slice bo x.sess.length cb,.map (some m1),.map (some m2)]),(w.heap.size+1,[.int .i64 proto,.bool inside,.string addr,.int .i64 port,.string peer,.int .i64 peerPort,.int .i64 flags]),(w.heap.size+1+1,[.int .i64 0,.string ⟨#[]⟩,.int .i64 0])] (((w.alloc (.cells #[.slice pa p.addrs.length pc,.int .i64 p.low,.int .i64 p.high,.int .i64 p.most,.int .i64 p.filter,.int .i64 p.lv.udp,.int .i64 p.lv.echo,.int .i64 p.lv.opening,.int .i64 p.lv.opn,.int .i64 p.lv.closing,.slice ba x.binds.length ca,.slice bo x.sess.length cb,.map (some m1),.map (some m2)] 150)).alloc (.cells #[.int .i64 proto,.bool inside,.string addr,.int .i64 port,.string peer,.int .i64 peerPort,.int .i64 flags] 112)).alloc (.cells #[.int .i64 0,.string ⟨#[]⟩,.int .i64 0] 155))):=by
  refine ⟨fun e he=>?_,((((Below.refl _ _).alloc (by (try simp only [World.size_alloc]); omega) _).alloc (by (try simp only [World.size_alloc]); omega) _).alloc (by (try simp only [World.size_alloc]); omega) _),fun e he=>?_⟩
  ·simp only [List.mem_cons,List.not_mem_nil,or_false] at he;rcases he with rfl | rfl | rfl
   ·exact e0
   ·exact e1
   ·exact e2
  ·simp only [List.mem_cons,List.not_mem_nil,or_false] at he;rcases he with rfl | rfl | rfl<;>simp
 clear e0 e1 e2;unfold bkC tcC;go_enter Tryz.func107,Tryz.ntmps107
 go_upto_region 1 with fail
 generalize (((w.alloc (.cells #[.slice pa p.addrs.length pc,.int .i64 p.low,.int .i64 p.high,.int .i64 p.most,.int .i64 p.filter,.int .i64 p.lv.udp,.int .i64 p.lv.echo,.int .i64 p.lv.opening,.int .i64 p.lv.opn,.int .i64 p.lv.closing,.slice ba x.binds.length ca,.slice bo x.sess.length cb,.map (some m1),.map (some m2)] 150)).alloc (.cells #[.int .i64 proto,.bool inside,.string addr,.int .i64 port,.string peer,.int .i64 peerPort,.int .i64 flags] 112)).alloc (.cells #[.int .i64 0,.string ⟨#[]⟩,.int .i64 0] 155))=W at *;have HHt:=HS0.out.at (.tail _ (.head _));obtain ⟨t0,t1,t2,t3,t4,t5,t6⟩:=HHt.c7;clear HHt;go_upto_region 2 with fail
 have S1:Hid _:=HS0.out.push [.int .i64 proto,.string addr,.int .i64 port] (by simp) 155;generalize hW1:W.alloc _=W1 at *;clear hW1 HS0 t0 t1 t2 t3 t4 t5 t6;generalize W.heap.size=Be at *
 cases inside with
 | true =>
  have HX:Hid (ans=(⟨proto,addr,port⟩,true)):=HV.out;clear HV;have HHt:=S1.out.at (.tail _ (.tail _ (.head _)));have t1:=HHt.cell (j:=1) rfl;clear HHt;have HHn:=S1.out.at (.head _);obtain ⟨n0,n1,n2⟩:=HHn.c3;clear HHn;have HHz:=S1.out.at (.tail _ (.tail _ (.tail _ (.head _))));obtain ⟨z0,z1,z2⟩:=HHz.c3;obtain ⟨zf0,zf1,zf2⟩:=HHz.f3;go_wp2_with fail
  refine bodyPost_ret (v:=.tuple #[.agg #[.int .i64 proto,.string addr,.int .i64 port],.bool true]) (by simp [results,Tryz.results107,go_sem,z0,z1,z2]) rfl (And.intro (by rw [HX.out]; rfl) ?_);exact (((S1.out.b.setCell (p:=⟨w.heap.size+1+1,0,none⟩) hRw _).setCell (p:=⟨w.heap.size+1+1,1,none⟩) hRw _).setCell (p:=⟨w.heap.size+1+1,2,none⟩) hRw _)
 | false =>
  have HX:Hid (ans=(⟨c.proto,c.inn,c.inPort⟩,fd)):=HV.out;clear HV;have HHt:=S1.out.at (.tail _ (.tail _ (.head _)));have t1:=HHt.cell (j:=1) rfl;clear HHt;have HHn:=S1.out.at (.head _);obtain ⟨n0,n1,n2⟩:=HHn.c3;clear HHn;have HHk:=S1.out.at (.tail _ (.head _));have k13:=HHk.cell (j:=13) rfl;clear HHk;have LK:=HLK.out W1 S1.out.b;go_upto_region 5 with (at_lookup; refine wpList_look_val rfl _ _ _ _ rfl rfl rfl LK ?_)
  have S2:Hid _:=S1.out.push [.int .i64 c.proto,.string c.inn,.int .i64 c.inPort,.string c.out,.int .i64 c.outPort] (by simp) 94;generalize hW2:W1.alloc _=W2 at *;clear hW2 S1 LK HLK n0 n1 n2 k13 t1;generalize W1.heap.size=Bc at *;have HHy:=S2.out.at (.head _);obtain ⟨y0,y1,y2,y3,y4⟩:=HHy.c5;clear HHy;go_wp2_with fail
  refine (HHE.out _).mono ?_;rintro e W3 ⟨rfl,q3⟩;have S3:Hid _:=S2.out.kept q3;clear q3 S2 HHE y0 y1 y2 y3 y4;have HHz:=S3.out.at (.tail _ (.tail _ (.tail _ (.tail _ (.head _)))));obtain ⟨z0,z1,z2⟩:=HHz.c3;obtain ⟨zf0,zf1,zf2⟩:=HHz.f3;go_wp2_with fail
  refine bodyPost_ret (v:=.tuple #[.agg #[.int .i64 c.proto,.string c.inn,.int .i64 c.inPort],.bool fd]) (by simp [results,Tryz.results107,go_sem,z0,z1,z2]) rfl (And.intro (by rw [HX.out]; rfl) ?_);exact (((S3.out.b.setCell (p:=⟨w.heap.size+1+1,0,none⟩) hRw _).setCell (p:=⟨w.heap.size+1+1,1,none⟩) hRw _).setCell (p:=⟨w.heap.size+1+1,2,none⟩) hRw _)
theorem admits1_any (q:Ss) (h:En) (s:ByteArray) (B1 B2:Nat) (w:World) (hk0:HoldsL w B1 (enL h)) (hk1:HoldsL w B2 [.string s]) :
  Calls Tryz.prog 171 #[ssC q,.pointer (some ⟨B1,0,none⟩),.pointer (some ⟨B2,0,none⟩)] w fun e w'=>e=.returned (.bool (metB h s q))∧Below w.heap.size w w':=by
 have HF:Hid (∀ W,Calls Tryz.prog 139 #[.agg #[.int .i64 q.proto,.string q.inn,.int .i64 q.inPort,.string q.peer,.int .i64 q.peerPort,.int .i64 q.state,.int .i64 q.untl]] W fun e w'=>e=.returned (.agg #[.int .i64 q.proto,.string q.inn,.int .i64 q.inPort,.string q.peer,.int .i64 q.peerPort])∧Below W.heap.size W w'):=fun W=>sessKey_any q W
 have HE:Hid (∀ W,(binOp .eql 155 (.agg #[.int .i64 q.proto,.string q.inn,.int .i64 q.inPort]) (.agg #[.int .i64 h.proto,.string h.addr,.int .i64 h.port])).run Tryz.prog W=.ok (.bool (sameEn (sessE q) h)) W):=fun W=>eqEn_bin (sessE q) h W
 have HFL:Hid (∀ W,Sem.run Tryz.prog (Instr.field 160 (.agg #[.int .i64 q.proto,.string q.inn,.int .i64 q.inPort,.string q.peer,.int .i64 q.peerPort]) 0) W=.ok (.agg #[.int .i64 q.proto,.string q.inn,.int .i64 q.inPort]) W):=fun W=>by kernel_rfl
 have HV:Hid (metB h s q=(sameEn (sessE q) h&&decide (q.peer.toList=s.toList))):=rfl;generalize metB h s q=ans at *;generalize sameEn (sessE q) h=b at *;have HZ:Hid (Below w.heap.size w (w.alloc (.cells #[.int .i64 q.proto,.string q.inn,.int .i64 q.inPort,.string q.peer,.int .i64 q.peerPort,.int .i64 q.state,.int .i64 q.untl] 103))):=(Below.refl _ _).alloc (Nat.le_refl _) _;have HQ:Hid (HoldsL (w.alloc (.cells #[.int .i64 q.proto,.string q.inn,.int .i64 q.inPort,.string q.peer,.int .i64 q.peerPort,.int .i64 q.state,.int .i64 q.untl] 103)) w.heap.size [.int .i64 q.proto,.string q.inn,.int .i64 q.inPort,.string q.peer,.int .i64 q.peerPort,.int .i64 q.state,.int .i64 q.untl]):=HoldsL.new w [.int .i64 q.proto,.string q.inn,.int .i64 q.inPort,.string q.peer,.int .i64 q.peerPort,.int .i64 q.state,.int .i64 q.untl] 103;have HK0:Hid (HoldsL (w.alloc (.cells #[.int .i64 q.proto,.string q.inn,.int .i64 q.inPort,.string q.peer,.int .i64 q.peerPort,.int .i64 q.state,.int .i64 q.untl] 103)) B1 [.int .i64 h.proto,.string h.addr,.int .i64 h.port]):=HoldsL.alloc (cs:=[.int .i64 h.proto,.string h.addr,.int .i64 h.port]) hk0 _;have HK1:Hid (HoldsL (w.alloc (.cells #[.int .i64 q.proto,.string q.inn,.int .i64 q.inPort,.string q.peer,.int .i64 q.peerPort,.int .i64 q.state,.int .i64 q.untl] 103)) B2 [.string s]):=hk1.alloc _;clear hk0 hk1;unfold ssC;go_enter Tryz.func171,Tryz.ntmps171
 go_upto_region 1 with fail
 generalize w.alloc (.cells #[.int .i64 q.proto,.string q.inn,.int .i64 q.inPort,.string q.peer,.int .i64 q.peerPort,.int .i64 q.state,.int .i64 q.untl] 103)=W at *;go_cut [4] (fun v wx=>v=.bool ans∧Below w.heap.size w wx)
 case first =>
  rename_i J K2 hJ hK2;have HCP:Hid (∀ wy,Below W.drew.heap.size W.drew wy→HoldsL wy w.heap.size [.int .i64 q.proto,.string q.inn,.int .i64 q.inPort,.string q.peer,.int .i64 q.peerPort,.int .i64 q.state,.int .i64 q.untl]∧HoldsL wy B1 [.int .i64 h.proto,.string h.addr,.int .i64 h.port]∧HoldsL wy B2 [.string s]):=fun wy hy=>⟨HQ.out.drew.kept (by simp) hy,HK0.out.drew.kept (by simp) hy,HK1.out.drew.kept (by simp) hy⟩
  cases b with
  | false =>
   have HX:Hid (ans=false):=HV.out;clear HV;refine wp_region_growH [5,6,7,8,9,10,11,12,13,14,15,4] (by kernel_rfl) (by kernel_rfl) ?_;apply GCh.v0
   ·rfl
   ·intro K' a wy ho hd hb hK kz;have o3:=ho 3 (by decide);simp [slot] at o3;clear hd ho;obtain ⟨hq,h0,h1⟩:=HCP.out wy hb;obtain ⟨c0,c1,c2,c3,c4,c5,c6⟩:=hq.c7;obtain ⟨k0,k1,k2⟩:=h0.c3;have m0:=h1.cell (j:=0) rfl;go_simp;try go_bits
    exact kz _ rfl
   apply GCh.v1
   ·rfl
   ·intro K' a wy ho hd hb hK kz;have q0:=hd ⟨0,.data⟩ (by simp) rfl;simp [rAt,IsV,slot] at q0;clear hd ho;go_simp;refine (HF.out wy).mono ?_;rintro e wz ⟨rfl,hz⟩;exact hK _ _ rfl hz
   apply GCh.v2
   ·rfl
   ·intro K' a wy ho hd hb hK kz;have q1:=hd ⟨1,.data⟩ (by simp) rfl;simp [rAt,IsV,slot] at q1;clear hd ho;have hfl:=HFL.out wy;go_simp;try go_bits
    exact kz _ rfl
   apply GCh.v3
   ·rfl
   ·intro K' a wy ho hd hb hK kz;have o1:=ho 1 (by decide);simp [slot] at o1;clear hd ho;obtain ⟨hq,h0,h1⟩:=HCP.out wy hb;obtain ⟨c0,c1,c2,c3,c4,c5,c6⟩:=hq.c7;obtain ⟨k0,k1,k2⟩:=h0.c3;have m0:=h1.cell (j:=0) rfl;go_simp;try go_bits
    exact kz _ rfl
   apply GCh.v4
   ·rfl
   ·intro K' a wy ho hd hb hK kz;have q2:=hd ⟨2,.data⟩ (by simp) rfl;simp [rAt,IsV,slot] at q2;have q3:=hd ⟨3,.data⟩ (by simp) rfl;simp [rAt,IsV,slot] at q3;clear hd ho;refine wp_bin_val .eql 155 155 (.tmp 7) (.tmp 8) rfl (by simp [Act.eval,slot,q2]) (by simp [Act.eval,slot,q3]) (run_eqGuard_agg _ _ _ _ _ _ _ (by kernel_rfl)) (HE.out wy) ?_;exact kz _ rfl
   apply GCh.v5
   ·rfl
   ·intro K' a wy ho hd hb hK kz;have q4:=hd ⟨4,.data⟩ (by simp) rfl;simp [rAt,IsV,slot] at q4;clear hd ho;go_simp;try go_bits
    exact kz _ rfl
   refine GCh.val (n:=6) (fun v=>[_,_,_,_,_,_,IsV v]) (fun _=>rfl) rfl ?_;apply Exists.intro;refine And.intro ?_ ?_
   ·intro K' a wy ho hd hb hK;refine wantsN 5 10 false true rfl rfl rfl (hd ⟨5,.guard⟩ (by simp) rfl) rfl ?_;exact hK undef _ rfl (Below.refl _ _)
   refine GCh.val (n:=7) (fun v=>[_,_,_,_,_,_,_,IsV v]) (fun _=>rfl) rfl ?_;apply Exists.intro;refine And.intro ?_ ?_
   ·intro K' a wy ho hd hb hK;refine wantsN 5 10 false true rfl rfl rfl (hd ⟨5,.guard⟩ (by simp) rfl) rfl ?_;exact hK undef _ rfl (Below.refl _ _)
   refine GCh.val (n:=8) (fun v=>[_,_,_,_,_,_,_,_,IsV v]) (fun _=>rfl) rfl ?_;apply Exists.intro;refine And.intro ?_ ?_
   ·intro K' a wy ho hd hb hK;refine wantsN 5 10 false true rfl rfl rfl (hd ⟨5,.guard⟩ (by simp) rfl) rfl ?_;exact hK undef _ rfl (Below.refl _ _)
   refine GCh.val (n:=9) (fun v=>[_,_,_,_,_,_,_,_,_,IsV v]) (fun _=>rfl) rfl ?_;apply Exists.intro;refine And.intro ?_ ?_
   ·intro K' a wy ho hd hb hK;refine wantsN 5 10 false true rfl rfl rfl (hd ⟨5,.guard⟩ (by simp) rfl) rfl ?_;exact hK undef _ rfl (Below.refl _ _)
   apply GCh.v10
   ·rfl
   ·intro K' a wy ho hd hb hK kz;have q5:=hd ⟨5,.data⟩ (by simp) rfl;simp [rAt,IsV,slot] at q5;have q9:=hd ⟨9,.data⟩ (by simp) rfl;simp [rAt,IsV,slot] at q9;clear hd ho;go_simp;try go_bits
    exact kz _ rfl
   apply GCh.v11
   ·rfl
   ·intro K' a wy ho hd hb hK kz;have q10:=hd ⟨10,.data⟩ (by simp) rfl;simp [rAt,IsV,slot] at q10;clear hd ho;go_simp;try go_bits
    exact kz _ rfl
   intro X wz hR hz;obtain ⟨x0,x1,x2,x3,x4,x5,x6,x7,x8,x9,x10,x11,-⟩:=hR;simp only [IsV] at x0 x1 x2 x3 x4 x5 x6 x7 x8 x9 x10 x11;simp only [putsFrom,x0,x1,x2,x3,x4,x5,x6,x7,x8,x9,x10,x11];clear x0 x1 x2 x3 x4 x5 x6 x7 x8 x9 x10 x11;go_simp;try go_bits
   refine hK2 _ _ (hJ _ _ ?_);(repeat apply Exists.intro)
   refine ⟨⟨by rw [HX.out],HZ.out.drew.trans (hz.mono HZ.out.size)⟩,rfl⟩
  | true =>
   have HX:Hid (ans=decide (q.peer.toList=s.toList)):=by unfold Hid; rw [HV.out]; rfl
   clear HV;by_cases hs:q.peer.toList=s.toList
   case pos =>
    have hs2:(q.peer.toList==s.toList)=true:=by simp [hs]
    rw [decide_eq_true hs] at HX;clear hs;refine wp_region_growH [5,6,7,8,9,10,11,12,13,14,15,4] (by kernel_rfl) (by kernel_rfl) ?_;apply GCh.v0
    ·rfl
    ·intro K' a wy ho hd hb hK kz;have o3:=ho 3 (by decide);simp [slot] at o3;clear hd ho;obtain ⟨hq,h0,h1⟩:=HCP.out wy hb;obtain ⟨c0,c1,c2,c3,c4,c5,c6⟩:=hq.c7;obtain ⟨k0,k1,k2⟩:=h0.c3;have m0:=h1.cell (j:=0) rfl;go_simp;try go_bits
     exact kz _ rfl
    apply GCh.v1
    ·rfl
    ·intro K' a wy ho hd hb hK kz;have q0:=hd ⟨0,.data⟩ (by simp) rfl;simp [rAt,IsV,slot] at q0;clear hd ho;go_simp;refine (HF.out wy).mono ?_;rintro e wz ⟨rfl,hz⟩;exact hK _ _ rfl hz
    apply GCh.v2
    ·rfl
    ·intro K' a wy ho hd hb hK kz;have q1:=hd ⟨1,.data⟩ (by simp) rfl;simp [rAt,IsV,slot] at q1;clear hd ho;have hfl:=HFL.out wy;go_simp;try go_bits
     exact kz _ rfl
    apply GCh.v3
    ·rfl
    ·intro K' a wy ho hd hb hK kz;have o1:=ho 1 (by decide);simp [slot] at o1;clear hd ho;obtain ⟨hq,h0,h1⟩:=HCP.out wy hb;obtain ⟨c0,c1,c2,c3,c4,c5,c6⟩:=hq.c7;obtain ⟨k0,k1,k2⟩:=h0.c3;have m0:=h1.cell (j:=0) rfl;go_simp;try go_bits
     exact kz _ rfl
    apply GCh.v4
    ·rfl
    ·intro K' a wy ho hd hb hK kz;have q2:=hd ⟨2,.data⟩ (by simp) rfl;simp [rAt,IsV,slot] at q2;have q3:=hd ⟨3,.data⟩ (by simp) rfl;simp [rAt,IsV,slot] at q3;clear hd ho;refine wp_bin_val .eql 155 155 (.tmp 7) (.tmp 8) rfl (by simp [Act.eval,slot,q2]) (by simp [Act.eval,slot,q3]) (run_eqGuard_agg _ _ _ _ _ _ _ (by kernel_rfl)) (HE.out wy) ?_;exact kz _ rfl
    apply GCh.v5
    ·rfl
    ·intro K' a wy ho hd hb hK kz;have q4:=hd ⟨4,.data⟩ (by simp) rfl;simp [rAt,IsV,slot] at q4;clear hd ho;go_simp;try go_bits
     exact kz _ rfl
    refine GCh.val (n:=6) (fun v=>[_,_,_,_,_,_,IsV v]) (fun _=>rfl) rfl ?_;apply Exists.intro;refine And.intro ?_ ?_
    ·intro K' a wy ho hd hb hK;refine wants 5 10 true true rfl rfl rfl (hd ⟨5,.guard⟩ (by simp) rfl) rfl ?_;have o3:=ho 3 (by decide);simp [slot] at o3;clear hd ho;go_simp;try go_bits
     exact hK _ _ rfl (Below.refl _ _)
    refine GCh.val (n:=7) (fun v=>[_,_,_,_,_,_,_,IsV v]) (fun _=>rfl) rfl ?_;apply Exists.intro;refine And.intro ?_ ?_
    ·intro K' a wy ho hd hb hK;refine wants 5 10 true true rfl rfl rfl (hd ⟨5,.guard⟩ (by simp) rfl) rfl ?_;have q6:=hd ⟨6,.data⟩ (by simp) rfl;simp [rAt,IsV,slot] at q6;clear hd ho;obtain ⟨hq,h0,h1⟩:=HCP.out wy hb;obtain ⟨c0,c1,c2,c3,c4,c5,c6⟩:=hq.c7;obtain ⟨k0,k1,k2⟩:=h0.c3;have m0:=h1.cell (j:=0) rfl;go_simp;try go_bits
     exact hK _ _ rfl (Below.refl _ _)
    refine GCh.val (n:=8) (fun v=>[_,_,_,_,_,_,_,_,IsV v]) (fun _=>rfl) rfl ?_;apply Exists.intro;refine And.intro ?_ ?_
    ·intro K' a wy ho hd hb hK;refine wants 5 10 true true rfl rfl rfl (hd ⟨5,.guard⟩ (by simp) rfl) rfl ?_;have o2:=ho 2 (by decide);simp [slot] at o2;clear hd ho;obtain ⟨hq,h0,h1⟩:=HCP.out wy hb;obtain ⟨c0,c1,c2,c3,c4,c5,c6⟩:=hq.c7;obtain ⟨k0,k1,k2⟩:=h0.c3;have m0:=h1.cell (j:=0) rfl;go_simp;try go_bits
     exact hK _ _ rfl (Below.refl _ _)
    refine GCh.val (n:=9) (fun v=>[_,_,_,_,_,_,_,_,_,IsV v]) (fun _=>rfl) rfl ?_;apply Exists.intro;refine And.intro ?_ ?_
    ·intro K' a wy ho hd hb hK;refine wants 5 10 true true rfl rfl rfl (hd ⟨5,.guard⟩ (by simp) rfl) rfl ?_;have q7:=hd ⟨7,.data⟩ (by simp) rfl;simp [rAt,IsV,slot] at q7;have q8:=hd ⟨8,.data⟩ (by simp) rfl;simp [rAt,IsV,slot] at q8;clear hd ho;go_simp;try go_bits
     exact hK _ _ rfl (Below.refl _ _)
    apply GCh.v10
    ·rfl
    ·intro K' a wy ho hd hb hK kz;have q5:=hd ⟨5,.data⟩ (by simp) rfl;simp [rAt,IsV,slot] at q5;have q9:=hd ⟨9,.data⟩ (by simp) rfl;simp [rAt,IsV,slot] at q9;clear hd ho;go_simp;try go_bits
     exact kz _ rfl
    apply GCh.v11
    ·rfl
    ·intro K' a wy ho hd hb hK kz;have q10:=hd ⟨10,.data⟩ (by simp) rfl;simp [rAt,IsV,slot] at q10;clear hd ho;go_simp;try go_bits
     exact kz _ rfl
    intro X wz hR hz;obtain ⟨x0,x1,x2,x3,x4,x5,x6,x7,x8,x9,x10,x11,-⟩:=hR;simp only [IsV] at x0 x1 x2 x3 x4 x5 x6 x7 x8 x9 x10 x11;simp only [putsFrom,x0,x1,x2,x3,x4,x5,x6,x7,x8,x9,x10,x11];clear x0 x1 x2 x3 x4 x5 x6 x7 x8 x9 x10 x11;go_simp;try go_bits
    refine hK2 _ _ (hJ _ _ ?_);(repeat apply Exists.intro)
    refine ⟨⟨by rw [HX.out],HZ.out.drew.trans (hz.mono HZ.out.size)⟩,rfl⟩
   case neg =>
    have hs2:(q.peer.toList==s.toList)=false:=by simp [hs]
    rw [decide_eq_false hs] at HX;clear hs;refine wp_region_growH [5,6,7,8,9,10,11,12,13,14,15,4] (by kernel_rfl) (by kernel_rfl) ?_;apply GCh.v0
    ·rfl
    ·intro K' a wy ho hd hb hK kz;have o3:=ho 3 (by decide);simp [slot] at o3;clear hd ho;obtain ⟨hq,h0,h1⟩:=HCP.out wy hb;obtain ⟨c0,c1,c2,c3,c4,c5,c6⟩:=hq.c7;obtain ⟨k0,k1,k2⟩:=h0.c3;have m0:=h1.cell (j:=0) rfl;go_simp;try go_bits
     exact kz _ rfl
    apply GCh.v1
    ·rfl
    ·intro K' a wy ho hd hb hK kz;have q0:=hd ⟨0,.data⟩ (by simp) rfl;simp [rAt,IsV,slot] at q0;clear hd ho;go_simp;refine (HF.out wy).mono ?_;rintro e wz ⟨rfl,hz⟩;exact hK _ _ rfl hz
    apply GCh.v2
    ·rfl
    ·intro K' a wy ho hd hb hK kz;have q1:=hd ⟨1,.data⟩ (by simp) rfl;simp [rAt,IsV,slot] at q1;clear hd ho;have hfl:=HFL.out wy;go_simp;try go_bits
     exact kz _ rfl
    apply GCh.v3
    ·rfl
    ·intro K' a wy ho hd hb hK kz;have o1:=ho 1 (by decide);simp [slot] at o1;clear hd ho;obtain ⟨hq,h0,h1⟩:=HCP.out wy hb;obtain ⟨c0,c1,c2,c3,c4,c5,c6⟩:=hq.c7;obtain ⟨k0,k1,k2⟩:=h0.c3;have m0:=h1.cell (j:=0) rfl;go_simp;try go_bits
     exact kz _ rfl
    apply GCh.v4
    ·rfl
    ·intro K' a wy ho hd hb hK kz;have q2:=hd ⟨2,.data⟩ (by simp) rfl;simp [rAt,IsV,slot] at q2;have q3:=hd ⟨3,.data⟩ (by simp) rfl;simp [rAt,IsV,slot] at q3;clear hd ho;refine wp_bin_val .eql 155 155 (.tmp 7) (.tmp 8) rfl (by simp [Act.eval,slot,q2]) (by simp [Act.eval,slot,q3]) (run_eqGuard_agg _ _ _ _ _ _ _ (by kernel_rfl)) (HE.out wy) ?_;exact kz _ rfl
    apply GCh.v5
    ·rfl
    ·intro K' a wy ho hd hb hK kz;have q4:=hd ⟨4,.data⟩ (by simp) rfl;simp [rAt,IsV,slot] at q4;clear hd ho;go_simp;try go_bits
     exact kz _ rfl
    refine GCh.val (n:=6) (fun v=>[_,_,_,_,_,_,IsV v]) (fun _=>rfl) rfl ?_;apply Exists.intro;refine And.intro ?_ ?_
    ·intro K' a wy ho hd hb hK;refine wants 5 10 true true rfl rfl rfl (hd ⟨5,.guard⟩ (by simp) rfl) rfl ?_;have o3:=ho 3 (by decide);simp [slot] at o3;clear hd ho;go_simp;try go_bits
     exact hK _ _ rfl (Below.refl _ _)
    refine GCh.val (n:=7) (fun v=>[_,_,_,_,_,_,_,IsV v]) (fun _=>rfl) rfl ?_;apply Exists.intro;refine And.intro ?_ ?_
    ·intro K' a wy ho hd hb hK;refine wants 5 10 true true rfl rfl rfl (hd ⟨5,.guard⟩ (by simp) rfl) rfl ?_;have q6:=hd ⟨6,.data⟩ (by simp) rfl;simp [rAt,IsV,slot] at q6;clear hd ho;obtain ⟨hq,h0,h1⟩:=HCP.out wy hb;obtain ⟨c0,c1,c2,c3,c4,c5,c6⟩:=hq.c7;obtain ⟨k0,k1,k2⟩:=h0.c3;have m0:=h1.cell (j:=0) rfl;go_simp;try go_bits
     exact hK _ _ rfl (Below.refl _ _)
    refine GCh.val (n:=8) (fun v=>[_,_,_,_,_,_,_,_,IsV v]) (fun _=>rfl) rfl ?_;apply Exists.intro;refine And.intro ?_ ?_
    ·intro K' a wy ho hd hb hK;refine wants 5 10 true true rfl rfl rfl (hd ⟨5,.guard⟩ (by simp) rfl) rfl ?_;have o2:=ho 2 (by decide);simp [slot] at o2;clear hd ho;obtain ⟨hq,h0,h1⟩:=HCP.out wy hb;obtain ⟨c0,c1,c2,c3,c4,c5,c6⟩:=hq.c7;obtain ⟨k0,k1,k2⟩:=h0.c3;have m0:=h1.cell (j:=0) rfl;go_simp;try go_bits
     exact hK _ _ rfl (Below.refl _ _)
    refine GCh.val (n:=9) (fun v=>[_,_,_,_,_,_,_,_,_,IsV v]) (fun _=>rfl) rfl ?_;apply Exists.intro;refine And.intro ?_ ?_
    ·intro K' a wy ho hd hb hK;refine wants 5 10 true true rfl rfl rfl (hd ⟨5,.guard⟩ (by simp) rfl) rfl ?_;have q7:=hd ⟨7,.data⟩ (by simp) rfl;simp [rAt,IsV,slot] at q7;have q8:=hd ⟨8,.data⟩ (by simp) rfl;simp [rAt,IsV,slot] at q8;clear hd ho;go_simp;try go_bits
     exact hK _ _ rfl (Below.refl _ _)
    apply GCh.v10
    ·rfl
    ·intro K' a wy ho hd hb hK kz;have q5:=hd ⟨5,.data⟩ (by simp) rfl;simp [rAt,IsV,slot] at q5;have q9:=hd ⟨9,.data⟩ (by simp) rfl;simp [rAt,IsV,slot] at q9;clear hd ho;go_simp;try go_bits
     exact kz _ rfl
    apply GCh.v11
    ·rfl
    ·intro K' a wy ho hd hb hK kz;have q10:=hd ⟨10,.data⟩ (by simp) rfl;simp [rAt,IsV,slot] at q10;clear hd ho;go_simp;try go_bits
     exact kz _ rfl
    intro X wz hR hz;obtain ⟨x0,x1,x2,x3,x4,x5,x6,x7,x8,x9,x10,x11,-⟩:=hR;simp only [IsV] at x0 x1 x2 x3 x4 x5 x6 x7 x8 x9 x10 x11;simp only [putsFrom,x0,x1,x2,x3,x4,x5,x6,x7,x8,x9,x10,x11];clear x0 x1 x2 x3 x4 x5 x6 x7 x8 x9 x10 x11;go_simp;try go_bits
    refine hK2 _ _ (hJ _ _ ?_);(repeat apply Exists.intro)
    refine ⟨⟨by rw [HX.out],HZ.out.drew.trans (hz.mono HZ.out.size)⟩,rfl⟩
 case rest =>
  obtain ⟨rfl,hb⟩:=hcut;have HB:Hid (Below w.heap.size w wc):=hb;clear hb;go_wp2_with fail
  go_ret;exact ⟨rfl,HB.out⟩
theorem admits_any (pa:Option Addr) (pc:Nat) (p:Pl) (ba bo:Option Addr) (ca cb:Nat) (x:Bb) (m1 m2:Nat) (h:En) (s:ByteArray) (w:World) (hl2:x.sess.length≤1048576) (hx:BbIs w ba bo x) :
  Calls Tryz.prog 145 #[bkC pa pc p ba bo ca cb x m1 m2,enC h,.string s] w fun e w'=>e=.returned (.bool (admitV p x h s))∧Below w.heap.size w w':=by
 have HC:Hid (∀ W B1 B2,Below w.heap.size w W→HoldsL W B1 (enL h)→HoldsL W B2 [.string s]→Calls Tryz.prog 170 #[.slice bo x.sess.length cb,.func (.func 171) #[] #[.pointer (some ⟨B1,0,none⟩),.pointer (some ⟨B2,0,none⟩)]] W fun e w'=>e=.returned (.bool (x.sess.any (metB h s)))∧Below W.heap.size W w'):=fun W B1 B2 hW h1 h2=>hasFunc_any (metB h s) 171 (fun args W=>by kernel_rfl) #[.pointer (some ⟨B1,0,none⟩),.pointer (some ⟨B2,0,none⟩)] x.sess bo cb W hl2 (hx.ss.below hW) (fun W' hW' q hq=>admits1_any q h s B1 B2 W' (h1.kept (by simp [enL]) hW') (h2.kept (by simp) hW'))
 have HV:Hid (admitV p x h s=if p.filter=0 then true else if p.filter=1 then x.sess.any (metB h s) else false):=rfl;generalize admitV p x h s=ans at *;generalize x.sess.any (metB h s)=an at *;clear hx;have e0:HoldsL (((w.alloc (.cells #[.slice pa p.addrs.length pc,.int .i64 p.low,.int .i64 p.high,.int .i64 p.most,.int .i64 p.filter,.int .i64 p.lv.udp,.int .i64 p.lv.echo,.int .i64 p.lv.opening,.int .i64 p.lv.opn,.int .i64 p.lv.closing,.slice ba x.binds.length ca,.slice bo x.sess.length cb,.map (some m1),.map (some m2)] 150)).alloc (.cells #[.int .i64 h.proto,.string h.addr,.int .i64 h.port] 155)).alloc (.cells #[.string s] 9)) (w.heap.size) [.slice pa p.addrs.length pc,.int .i64 p.low,.int .i64 p.high,.int .i64 p.most,.int .i64 p.filter,.int .i64 p.lv.udp,.int .i64 p.lv.echo,.int .i64 p.lv.opening,.int .i64 p.lv.opn,.int .i64 p.lv.closing,.slice ba x.binds.length ca,.slice bo x.sess.length cb,.map (some m1),.map (some m2)]:=by
  have h:=HoldsL.new w [.slice pa p.addrs.length pc,.int .i64 p.low,.int .i64 p.high,.int .i64 p.most,.int .i64 p.filter,.int .i64 p.lv.udp,.int .i64 p.lv.echo,.int .i64 p.lv.opening,.int .i64 p.lv.opn,.int .i64 p.lv.closing,.slice ba x.binds.length ca,.slice bo x.sess.length cb,.map (some m1),.map (some m2)] 150;try simp only [World.size_alloc] at h
  exact ((h.alloc _).alloc _)
 have e1:HoldsL (((w.alloc (.cells #[.slice pa p.addrs.length pc,.int .i64 p.low,.int .i64 p.high,.int .i64 p.most,.int .i64 p.filter,.int .i64 p.lv.udp,.int .i64 p.lv.echo,.int .i64 p.lv.opening,.int .i64 p.lv.opn,.int .i64 p.lv.closing,.slice ba x.binds.length ca,.slice bo x.sess.length cb,.map (some m1),.map (some m2)] 150)).alloc (.cells #[.int .i64 h.proto,.string h.addr,.int .i64 h.port] 155)).alloc (.cells #[.string s] 9)) (w.heap.size+1) [.int .i64 h.proto,.string h.addr,.int .i64 h.port]:=by
  have h:=HoldsL.new (w.alloc (.cells #[.slice pa p.addrs.length pc,.int .i64 p.low,.int .i64 p.high,.int .i64 p.most,.int .i64 p.filter,.int .i64 p.lv.udp,.int .i64 p.lv.echo,.int .i64 p.lv.opening,.int .i64 p.lv.opn,.int .i64 p.lv.closing,.slice ba x.binds.length ca,.slice bo x.sess.length cb,.map (some m1),.map (some m2)] 150)) [.int .i64 h.proto,.string h.addr,.int .i64 h.port] 155;try simp only [World.size_alloc] at h
  exact (h.alloc _)
 have e2:HoldsL (((w.alloc (.cells #[.slice pa p.addrs.length pc,.int .i64 p.low,.int .i64 p.high,.int .i64 p.most,.int .i64 p.filter,.int .i64 p.lv.udp,.int .i64 p.lv.echo,.int .i64 p.lv.opening,.int .i64 p.lv.opn,.int .i64 p.lv.closing,.slice ba x.binds.length ca,.slice bo x.sess.length cb,.map (some m1),.map (some m2)] 150)).alloc (.cells #[.int .i64 h.proto,.string h.addr,.int .i64 h.port] 155)).alloc (.cells #[.string s] 9)) (w.heap.size+1+1) [.string s]:=by
  have h:=HoldsL.new ((w.alloc (.cells #[.slice pa p.addrs.length pc,.int .i64 p.low,.int .i64 p.high,.int .i64 p.most,.int .i64 p.filter,.int .i64 p.lv.udp,.int .i64 p.lv.echo,.int .i64 p.lv.opening,.int .i64 p.lv.opn,.int .i64 p.lv.closing,.slice ba x.binds.length ca,.slice bo x.sess.length cb,.map (some m1),.map (some m2)] 150)).alloc (.cells #[.int .i64 h.proto,.string h.addr,.int .i64 h.port] 155)) [.string s] 9;try simp only [World.size_alloc] at h
  exact h
 have HS0:Hid (Bxs w [(w.heap.size,[.slice pa p.addrs.length pc,.int .i64 p.low,.int .i64 p.high,.int .i64 p.most,.int .i64 p.filter,.int .i64 p.lv.udp,.int .i64 p.lv.echo,.int .i64 p.lv.opening,.int .i64 p.lv.opn,.int .i64 p.lv.closing,.slice ba x.binds.length ca,.slice bo x.sess.length cb,.map (some m1),.map (some m2)]),(w.heap.size+1,[.int .i64 h.proto,.string h.addr,.int .i64 h.port]),(w.heap.size+1+1,[.string s])] (((w.alloc (.cells #[.slice pa p.addrs.length pc,.int .i64 p.low,.int .i64 p.high,.int .i64 p.most,.int .i64 p.filter,.int .i64 p.lv.udp,.int .i64 p.lv.echo,.int .i64 p.lv.opening,.int .i64 p.lv.opn,.int .i64 p.lv.closing,.slice ba x.binds.length ca,.slice bo x.sess.length cb,.map (some m1),.map (some m2)] 150)).alloc (.cells #[.int .i64 h.proto,.string h.addr,.int .i64 h.port] 155)).alloc (.cells #[.string s] 9))):=by
  refine ⟨fun e he=>?_,((((Below.refl _ _).alloc (by (try simp only [World.size_alloc]); omega) _).alloc (by (try simp only [World.size_alloc]); omega) _).alloc (by (try simp only [World.size_alloc]); omega) _),fun e he=>?_⟩
  ·simp only [List.mem_cons,List.not_mem_nil,or_false] at he;rcases he with rfl | rfl | rfl
   ·exact e0
   ·exact e1
   ·exact e2
  ·simp only [List.mem_cons,List.not_mem_nil,or_false] at he;rcases he with rfl | rfl | rfl<;>simp
 clear e0 e1 e2;unfold bkC enC;go_enter Tryz.func145,Tryz.ntmps145
 go_upto_region 1 with fail
 generalize (((w.alloc (.cells #[.slice pa p.addrs.length pc,.int .i64 p.low,.int .i64 p.high,.int .i64 p.most,.int .i64 p.filter,.int .i64 p.lv.udp,.int .i64 p.lv.echo,.int .i64 p.lv.opening,.int .i64 p.lv.opn,.int .i64 p.lv.closing,.slice ba x.binds.length ca,.slice bo x.sess.length cb,.map (some m1),.map (some m2)] 150)).alloc (.cells #[.int .i64 h.proto,.string h.addr,.int .i64 h.port] 155)).alloc (.cells #[.string s] 9))=W at *;have HHk:=HS0.out.at (.head _);obtain ⟨k0,k1,k2,k3,k4,k5,k6,k7,k8,k9,k10,k11,k12,k13⟩:=HHk.c14;clear HHk;by_cases h0:p.filter=0
 case pos =>
  have d0:(p.filter==0)=true:=by simp [h0]
  have HX:Hid (ans=true):=by unfold Hid; rw [HV.out,if_pos h0]
  clear h0 HV;go_wp2_with fail
  go_ret;exact ⟨ret_bool HX.out.symm,HS0.out.b⟩
 have d0:(p.filter==0)=false:=by simp [h0]
 by_cases h1:p.filter=1
 case neg =>
  have d1:(p.filter==1)=false:=by simp [h1]
  have HX:Hid (ans=false):=by unfold Hid; rw [HV.out,if_neg h0,if_neg h1]
  clear h0 h1 HV;go_wp2_with fail
  go_ret;exact ⟨ret_bool HX.out.symm,HS0.out.b⟩
 have d1:(p.filter==1)=true:=by simp [h1]
 have HX:Hid (ans=an):=by unfold Hid; rw [HV.out,if_neg h0,if_pos h1]
 clear h0 h1 HV;go_wp2_with fail
 refine (HC.out _ _ _ HS0.out.b (HS0.out.k _ (.tail _ (.head _))) (HS0.out.k _ (.tail _ (.tail _ (.head _))))).mono ?_;rintro e W1 ⟨rfl,q1⟩;have B1:Hid (Below w.heap.size w W1):=HS0.out.b.trans (q1.mono HS0.out.b.size);clear q1 HS0;go_wp2_with fail
 go_ret;exact ⟨ret_bool HX.out.symm,B1.out⟩
end Go.Proofs.YtcckaeppiamebaaGreatDoor
