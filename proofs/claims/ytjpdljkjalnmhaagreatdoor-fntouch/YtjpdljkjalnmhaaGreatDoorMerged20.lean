import Derived.Test.YtjpdljkjalnmhaaGreatDoorMerged8
import Derived.Test.YtjpdljkjalnmhaaGreatDoorMerged1
import Derived.BigQuiet
import Derived.Deep.DeepCutAuto
import Derived.Test.YtjpdljkjalnmhaaGreatDoorMerged2
import Derived.Test.YtjpdljkjalnmhaaGreatDoorMerged4
import Derived.Test.YtjpdljkjalnmhaaGreatDoorSGo9
import Derived.Test.YtjpdljkjalnmhaaGreatDoorSBibR
set_option linter.unusedVariables false
set_option linter.unusedSimpArgs false
set_option maxRecDepth 100000
set_option maxHeartbeats 8000000
namespace Go.Proofs.YtjpdljkjalnmhaaGreatDoor
open Go.RowKit Go.PlainAid Go.ChangeShapes Go.WideShapes
structure BoxPiece (w:World) (B:Nat) (p:Pc):Prop where
 c0:w.cell? ⟨B,0,none⟩=some (.string p.src)
 c1:w.cell? ⟨B,1,none⟩=some (.string p.dst)
 c2:w.cell? ⟨B,2,none⟩=some (.int .i64 p.proto)
 c3:w.cell? ⟨B,3,none⟩=some (.int .i64 p.id)
 c4:w.cell? ⟨B,4,none⟩=some (.int .i64 p.off)
 c5:w.cell? ⟨B,5,none⟩=some (.bool p.more)
 c6:w.cell? ⟨B,6,none⟩=some (.string p.data)
 c7:w.cell? ⟨B,7,none⟩=some (.int .i64 p.since)
theorem BoxPiece.kept {w W:World} {B:Nat} {p:Pc} (h:BoxPiece w B p) (hB:Below w.heap.size w W):BoxPiece W B p:=by
 have hb:=World.block_lt_of_cell? w _ h.c0;exact ⟨((bcell hB).1 B 0 hb).trans h.c0,((bcell hB).1 B 1 hb).trans h.c1,((bcell hB).1 B 2 hb).trans h.c2,((bcell hB).1 B 3 hb).trans h.c3,((bcell hB).1 B 4 hb).trans h.c4,((bcell hB).1 B 5 hb).trans h.c5,((bcell hB).1 B 6 hb).trans h.c6,((bcell hB).1 B 7 hb).trans h.c7⟩
theorem BoxPiece.new (w:World) (p:Pc) {t:TypeId}:BoxPiece (w.alloc (.cells #[.string p.src,.string p.dst,.int .i64 p.proto,.int .i64 p.id,.int .i64 p.off,.bool p.more,.string p.data,.int .i64 p.since] t)) w.heap.size p:=⟨cell_new rfl,cell_new rfl,cell_new rfl,cell_new rfl,cell_new rfl,cell_new rfl,cell_new rfl,cell_new rfl⟩
end Go.Proofs.YtjpdljkjalnmhaaGreatDoor
namespace Go.Proofs.YtjpdljkjalnmhaaGreatDoor
open Go.RowKit Go.PlainAid
theorem spTime_any (n:Int) (w:World) :
  Calls Tryz.prog 27 #[.int .i64 n] w fun e w'=>e=.returned (.bool (isTime n))∧w'=w:=by
 by_cases h1:0≤n
 ·by_cases h2:n≤1000000000
  ·have HV:Hid (isTime n=true):=by unfold Hid isTime isIn; simp [h1,h2]
   go_enter Tryz.func27,Tryz.ntmps27
   go_wp2_with fail
   go_ret;exact ⟨ret_bool (by rw [HV.out]),rfl⟩
  ·have HV:Hid (isTime n=false):=by unfold Hid isTime isIn; simp [h2]
   go_enter Tryz.func27,Tryz.ntmps27
   go_wp2_with fail
   go_ret;exact ⟨ret_bool (by rw [HV.out]),rfl⟩
 ·have HV:Hid (isTime n=false):=by unfold Hid isTime isIn; simp [h1]
  have h1':n < 0:=by omega
  go_enter Tryz.func27,Tryz.ntmps27
  go_wp2_with fail
  go_ret;exact ⟨ret_bool (by rw [HV.out]),rfl⟩
theorem specBibTouch_any (pa:Option Addr) (pc:Nat) (p:Pl) (ba bo:Option Addr) (ca cb:Nat) (x:Bb) (t:Tc) (now:Int) (w:World) (hlp:p.addrs.length≤1048576) (hpc:p.addrs.length≤pc) (hsz:∀ s∈p.addrs,s.size≤1048576) (hs1:t.addr.size≤1048576) (hs2:t.peer.size≤1048576) (hl1:x.binds.length≤1048576) (hl2:x.sess.length≤1048576) (hp:SlIs strL1 1 w pa p.addrs) (hx:BbIs w ba bo x) :
  Calls Tryz.prog 6 #[plC pa pc p,bbC ba bo ca cb x,tcC t,.int .i64 now] w fun e w'=>BoRet w.heap.size (bibTouchV p x t now) e w'∧Below w.heap.size w w':=by
 obtain ⟨proto,inside,addr,port,peer,peerPort,flags⟩:=t;dsimp only at hs1 hs2;have HBR:Hid (∀ W,Below w.heap.size w W→Calls Tryz.prog 8 #[.agg #[.slice pa p.addrs.length pc,.int .i64 p.low,.int .i64 p.high,.int .i64 p.most,.int .i64 p.filter,.int .i64 p.lv.udp,.int .i64 p.lv.echo,.int .i64 p.lv.opening,.int .i64 p.lv.opn,.int .i64 p.lv.closing],.agg #[.slice ba x.binds.length ca,.slice bo x.sess.length cb]] W fun e w'=>e=.returned (.bool (bibOk p x))∧Below W.heap.size W w'):=fun W hW=>specBib_any p x pa pc ba bo ca cb W hlp hpc hsz hl1 hl2 (hp.below hW) (hx.below hW)
 have HTM:Hid (∀ W,Calls Tryz.prog 27 #[.int .i64 now] W fun e w'=>e=.returned (.bool (isTime now))∧w'=W):=fun W=>spTime_any now W
 have HTO:Hid (∀ W,Calls Tryz.prog 28 #[.agg #[.int .i64 proto,.bool inside,.string addr,.int .i64 port,.string peer,.int .i64 peerPort,.int .i64 flags]] W fun e w'=>e=.returned (.bool (touchOk ⟨proto,inside,addr,port,peer,peerPort,flags⟩))∧Below W.heap.size W w'):=fun W=>spTouchOk_any ⟨proto,inside,addr,port,peer,peerPort,flags⟩ W hs1 hs2
 have HGO:Hid (∀ W,(bibOk p x&&isTime now&&touchOk ⟨proto,inside,addr,port,peer,peerPort,flags⟩)=true→Below w.heap.size w W→Calls Tryz.prog 29 #[.agg #[.slice pa p.addrs.length pc,.int .i64 p.low,.int .i64 p.high,.int .i64 p.most,.int .i64 p.filter,.int .i64 p.lv.udp,.int .i64 p.lv.echo,.int .i64 p.lv.opening,.int .i64 p.lv.opn,.int .i64 p.lv.closing],.agg #[.slice ba x.binds.length ca,.slice bo x.sess.length cb],.agg #[.int .i64 proto,.bool inside,.string addr,.int .i64 port,.string peer,.int .i64 peerPort,.int .i64 flags],.int .i64 now] W fun e w'=>BoRet W.heap.size (goV p x ⟨proto,inside,addr,port,peer,peerPort,flags⟩ now) e w'∧Below W.heap.size W w'):=fun W hok hW=>by
  have hb:(bibOk p x=true∧isTime now=true)∧touchOk ⟨proto,inside,addr,port,peer,peerPort,flags⟩=true:=by simpa only [Bool.and_eq_true] using hok
  obtain ⟨⟨h1,h2⟩,h3⟩:=hb;have hpo:poolOk p=true:=by unfold bibOk at h1; simp only [Bool.and_eq_true] at h1; first | exact h1.1 | exact h1.1.1 | exact h1.1.1.1 | exact h1.1.1.1.1 | exact h1.1.1.1.1.1 | exact h1.1.1.1.1.1.1
  have hpt:0≤port∧port≤65535:=by
   unfold touchOk isW isIn at h3;simp only [Bool.and_eq_true,decide_eq_true_iff] at h3;omega
  exact spGo_any pa pc p ba bo ca cb x ⟨proto,inside,addr,port,peer,peerPort,flags⟩ now W hpo h2 hs1 hpt.1 hpt.2 hl1 hl2 (hp.below hW) (hx.below hW)
 have HV:Hid (bibTouchV p x ⟨proto,inside,addr,port,peer,peerPort,flags⟩ now=if (bibOk p x&&isTime now&&touchOk ⟨proto,inside,addr,port,peer,peerPort,flags⟩)=true then goV p x ⟨proto,inside,addr,port,peer,peerPort,flags⟩ now else boE 1):=rfl;generalize bibTouchV p x ⟨proto,inside,addr,port,peer,peerPort,flags⟩ now=ans at *;generalize goV p x ⟨proto,inside,addr,port,peer,peerPort,flags⟩ now=nv at *;generalize bibOk p x=b1 at *;generalize isTime now=b2 at *;generalize touchOk ⟨proto,inside,addr,port,peer,peerPort,flags⟩=b3 at *;have hun:undef=Value.tuple #[]:=rfl;have hRw:w.heap.size≤w.heap.size+1+1+1:=by omega
 have e0:HoldsL ((((w.alloc (.cells #[.slice pa p.addrs.length pc,.int .i64 p.low,.int .i64 p.high,.int .i64 p.most,.int .i64 p.filter,.int .i64 p.lv.udp,.int .i64 p.lv.echo,.int .i64 p.lv.opening,.int .i64 p.lv.opn,.int .i64 p.lv.closing] 27)).alloc (.cells #[.slice ba x.binds.length ca,.slice bo x.sess.length cb] 31)).alloc (.cells #[.int .i64 proto,.bool inside,.string addr,.int .i64 port,.string peer,.int .i64 peerPort,.int .i64 flags] 33)).alloc (.cells #[.slice none 0 0,.slice none 0 0,.int .i64 0,.string ⟨#[]⟩,.int .i64 0,.string ⟨#[]⟩,.int .i64 0,.int .i64 0] 39)) (w.heap.size) [.slice pa p.addrs.length pc,.int .i64 p.low,.int .i64 p.high,.int .i64 p.most,.int .i64 p.filter,.int .i64 p.lv.udp,.int .i64 p.lv.echo,.int .i64 p.lv.opening,.int .i64 p.lv.opn,.int .i64 p.lv.closing]:=by
  have h:=HoldsL.new w [.slice pa p.addrs.length pc,.int .i64 p.low,.int .i64 p.high,.int .i64 p.most,.int .i64 p.filter,.int .i64 p.lv.udp,.int .i64 p.lv.echo,.int .i64 p.lv.opening,.int .i64 p.lv.opn,.int .i64 p.lv.closing] 27;try simp only [World.size_alloc] at h
  exact (((h.alloc _).alloc _).alloc _)
 have e1:HoldsL ((((w.alloc (.cells #[.slice pa p.addrs.length pc,.int .i64 p.low,.int .i64 p.high,.int .i64 p.most,.int .i64 p.filter,.int .i64 p.lv.udp,.int .i64 p.lv.echo,.int .i64 p.lv.opening,.int .i64 p.lv.opn,.int .i64 p.lv.closing] 27)).alloc (.cells #[.slice ba x.binds.length ca,.slice bo x.sess.length cb] 31)).alloc (.cells #[.int .i64 proto,.bool inside,.string addr,.int .i64 port,.string peer,.int .i64 peerPort,.int .i64 flags] 33)).alloc (.cells #[.slice none 0 0,.slice none 0 0,.int .i64 0,.string ⟨#[]⟩,.int .i64 0,.string ⟨#[]⟩,.int .i64 0,.int .i64 0] 39)) (w.heap.size+1) [.slice ba x.binds.length ca,.slice bo x.sess.length cb]:=by
  have h:=HoldsL.new (w.alloc (.cells #[.slice pa p.addrs.length pc,.int .i64 p.low,.int .i64 p.high,.int .i64 p.most,.int .i64 p.filter,.int .i64 p.lv.udp,.int .i64 p.lv.echo,.int .i64 p.lv.opening,.int .i64 p.lv.opn,.int .i64 p.lv.closing] 27)) [.slice ba x.binds.length ca,.slice bo x.sess.length cb] 31;try simp only [World.size_alloc] at h
  exact ((h.alloc _).alloc _)
 have e2:HoldsL ((((w.alloc (.cells #[.slice pa p.addrs.length pc,.int .i64 p.low,.int .i64 p.high,.int .i64 p.most,.int .i64 p.filter,.int .i64 p.lv.udp,.int .i64 p.lv.echo,.int .i64 p.lv.opening,.int .i64 p.lv.opn,.int .i64 p.lv.closing] 27)).alloc (.cells #[.slice ba x.binds.length ca,.slice bo x.sess.length cb] 31)).alloc (.cells #[.int .i64 proto,.bool inside,.string addr,.int .i64 port,.string peer,.int .i64 peerPort,.int .i64 flags] 33)).alloc (.cells #[.slice none 0 0,.slice none 0 0,.int .i64 0,.string ⟨#[]⟩,.int .i64 0,.string ⟨#[]⟩,.int .i64 0,.int .i64 0] 39)) (w.heap.size+1+1) [.int .i64 proto,.bool inside,.string addr,.int .i64 port,.string peer,.int .i64 peerPort,.int .i64 flags]:=by
  have h:=HoldsL.new ((w.alloc (.cells #[.slice pa p.addrs.length pc,.int .i64 p.low,.int .i64 p.high,.int .i64 p.most,.int .i64 p.filter,.int .i64 p.lv.udp,.int .i64 p.lv.echo,.int .i64 p.lv.opening,.int .i64 p.lv.opn,.int .i64 p.lv.closing] 27)).alloc (.cells #[.slice ba x.binds.length ca,.slice bo x.sess.length cb] 31)) [.int .i64 proto,.bool inside,.string addr,.int .i64 port,.string peer,.int .i64 peerPort,.int .i64 flags] 33;try simp only [World.size_alloc] at h
  exact (h.alloc _)
 have e3:HoldsL ((((w.alloc (.cells #[.slice pa p.addrs.length pc,.int .i64 p.low,.int .i64 p.high,.int .i64 p.most,.int .i64 p.filter,.int .i64 p.lv.udp,.int .i64 p.lv.echo,.int .i64 p.lv.opening,.int .i64 p.lv.opn,.int .i64 p.lv.closing] 27)).alloc (.cells #[.slice ba x.binds.length ca,.slice bo x.sess.length cb] 31)).alloc (.cells #[.int .i64 proto,.bool inside,.string addr,.int .i64 port,.string peer,.int .i64 peerPort,.int .i64 flags] 33)).alloc (.cells #[.slice none 0 0,.slice none 0 0,.int .i64 0,.string ⟨#[]⟩,.int .i64 0,.string ⟨#[]⟩,.int .i64 0,.int .i64 0] 39)) (w.heap.size+1+1+1) [.slice none 0 0,.slice none 0 0,.int .i64 0,.string ⟨#[]⟩,.int .i64 0,.string ⟨#[]⟩,.int .i64 0,.int .i64 0]:=by
  have h:=HoldsL.new (((w.alloc (.cells #[.slice pa p.addrs.length pc,.int .i64 p.low,.int .i64 p.high,.int .i64 p.most,.int .i64 p.filter,.int .i64 p.lv.udp,.int .i64 p.lv.echo,.int .i64 p.lv.opening,.int .i64 p.lv.opn,.int .i64 p.lv.closing] 27)).alloc (.cells #[.slice ba x.binds.length ca,.slice bo x.sess.length cb] 31)).alloc (.cells #[.int .i64 proto,.bool inside,.string addr,.int .i64 port,.string peer,.int .i64 peerPort,.int .i64 flags] 33)) [.slice none 0 0,.slice none 0 0,.int .i64 0,.string ⟨#[]⟩,.int .i64 0,.string ⟨#[]⟩,.int .i64 0,.int .i64 0] 39;try simp only [World.size_alloc] at h
  exact h
 have HS0:Hid (Bxs w [(w.heap.size,[.slice pa p.addrs.length pc,.int .i64 p.low,.int .i64 p.high,.int .i64 p.most,.int .i64 p.filter,.int .i64 p.lv.udp,.int .i64 p.lv.echo,.int .i64 p.lv.opening,.int .i64 p.lv.opn,.int .i64 p.lv.closing]),(w.heap.size+1,[.slice ba x.binds.length ca,.slice bo x.sess.length cb]),(w.heap.size+1+1,[.int .i64 proto,.bool inside,.string addr,.int .i64 port,.string peer,.int .i64 peerPort,.int .i64 flags]),(w.heap.size+1+1+1,[.slice none 0 0,.slice none 0 0,.int .i64 0,.string ⟨#[]⟩,.int .i64 0,.string ⟨#[]⟩,.int .i64 0,.int .i64 0])] ((((w.alloc (.cells #[.slice pa p.addrs.length pc,.int .i64 p.low,.int .i64 p.high,.int .i64 p.most,.int .i64 p.filter,.int .i64 p.lv.udp,.int .i64 p.lv.echo,.int .i64 p.lv.opening,.int .i64 p.lv.opn,.int .i64 p.lv.closing] 27)).alloc (.cells #[.slice ba x.binds.length ca,.slice bo x.sess.length cb] 31)).alloc (.cells #[.int .i64 proto,.bool inside,.string addr,.int .i64 port,.string peer,.int .i64 peerPort,.int .i64 flags] 33)).alloc (.cells #[.slice none 0 0,.slice none 0 0,.int .i64 0,.string ⟨#[]⟩,.int .i64 0,.string ⟨#[]⟩,.int .i64 0,.int .i64 0] 39))):=by
  refine ⟨fun e he=>?_,(((((Below.refl _ _).alloc (Nat.le_refl _) _).alloc (by simp only [World.size_alloc]; omega) _).alloc (by simp only [World.size_alloc]; omega) _).alloc (by simp only [World.size_alloc]; omega) _),fun e he=>?_⟩
  ·simp only [List.mem_cons,List.not_mem_nil,or_false] at he;rcases he with rfl | rfl | rfl | rfl
   ·exact e0
   ·exact e1
   ·exact e2
   ·exact e3
  ·simp only [List.mem_cons,List.not_mem_nil,or_false] at he;rcases he with rfl | rfl | rfl | rfl<;>simp
 clear e0 e1 e2 e3 hp hx hsz;unfold plC bbC tcC;go_enter Tryz.func6,Tryz.ntmps6
 go_upto_region 1 with fail
 generalize ((((w.alloc (.cells #[.slice pa p.addrs.length pc,.int .i64 p.low,.int .i64 p.high,.int .i64 p.most,.int .i64 p.filter,.int .i64 p.lv.udp,.int .i64 p.lv.echo,.int .i64 p.lv.opening,.int .i64 p.lv.opn,.int .i64 p.lv.closing] 27)).alloc (.cells #[.slice ba x.binds.length ca,.slice bo x.sess.length cb] 31)).alloc (.cells #[.int .i64 proto,.bool inside,.string addr,.int .i64 port,.string peer,.int .i64 peerPort,.int .i64 flags] 33)).alloc (.cells #[.slice none 0 0,.slice none 0 0,.int .i64 0,.string ⟨#[]⟩,.int .i64 0,.string ⟨#[]⟩,.int .i64 0,.int .i64 0] 39))=W at *;go_cut [22] (fun v wx=>v=.bool (!(b1&&b2&&b3))∧Bxs w [(w.heap.size,[.slice pa p.addrs.length pc,.int .i64 p.low,.int .i64 p.high,.int .i64 p.most,.int .i64 p.filter,.int .i64 p.lv.udp,.int .i64 p.lv.echo,.int .i64 p.lv.opening,.int .i64 p.lv.opn,.int .i64 p.lv.closing]),(w.heap.size+1,[.slice ba x.binds.length ca,.slice bo x.sess.length cb]),(w.heap.size+1+1,[.int .i64 proto,.bool inside,.string addr,.int .i64 port,.string peer,.int .i64 peerPort,.int .i64 flags]),(w.heap.size+1+1+1,[.slice none 0 0,.slice none 0 0,.int .i64 0,.string ⟨#[]⟩,.int .i64 0,.string ⟨#[]⟩,.int .i64 0,.int .i64 0])] wx)
 case first =>
  clear HV HGO;try have hun:undef=Value.tuple #[]:=rfl
  have HHp:=HS0.out.at (.head _);obtain ⟨p0,p1,p2,p3,p4,p5,p6,p7,p8,p9⟩:=HHp.c10;clear HHp;have HHk:=HS0.out.at (.tail _ (.head _));obtain ⟨k0,k1⟩:=HHk.c2;clear HHk;go_wp2_with fail
  refine (HBR.out _ HS0.out.b).mono ?_;rintro e W1 ⟨rfl,q1⟩;have S1:Hid _:=HS0.out.kept q1;clear q1;have HHt:=S1.out.at (.tail _ (.tail _ (.head _)));obtain ⟨t0,t1,t2,t3,t4,t5,t6⟩:=HHt.c7;clear HHt
  cases b1 with
  | false =>
   go_wp2_with fail
   go_meet;exact ⟨rfl,S1.out⟩
  | true =>
  go_wp2_with fail
  refine (HTM.out _).mono ?_;rintro e W1 ⟨rfl,rfl⟩
  cases b2 with
  | false =>
   go_wp2_with fail
   go_meet;exact ⟨rfl,S1.out⟩
  | true =>
  go_wp2_with fail
  refine (HTO.out _).mono ?_;rintro e W2 ⟨rfl,q2⟩;have S2:Hid _:=S1.out.kept q2;clear q2
  cases b3;all_goals
   go_wp2_with fail
   go_meet;exact ⟨rfl,S2.out⟩
 case rest =>
 obtain ⟨rfl,hS⟩:=hcut;have S3:Hid _:=hS;clear hS HS0 HBR HTM HTO;generalize wc=W3 at *
 cases hok:(b1&&b2&&b3) with
 | false =>
  have HW:Hid (ans=boE 1):=by unfold Hid; rw [HV.out,hok]; rfl
  clear HGO HV hok;have HX:Hid (ans=boE (1)):=by unfold Hid; rw [HW.out]
  have HHz:=S3.out.at (.tail _ (.tail _ (.tail _ (.head _))));obtain ⟨z0,z1,z2,z3,z4,z5,z6,z7⟩:=HHz.c8;obtain ⟨zf0,zf1,zf2,zf3,zf4,zf5,zf6,zf7⟩:=HHz.f8;have HRR:Hid (HoldsL ((((((((W3.setCell ⟨w.heap.size+1+1+1,0,none⟩ (.slice none 0 0)).setCell ⟨w.heap.size+1+1+1,1,none⟩ (.slice none 0 0)).setCell ⟨w.heap.size+1+1+1,2,none⟩ (.int .i64 0)).setCell ⟨w.heap.size+1+1+1,3,none⟩ (.string ⟨#[]⟩)).setCell ⟨w.heap.size+1+1+1,4,none⟩ (.int .i64 0)).setCell ⟨w.heap.size+1+1+1,5,none⟩ (.string ⟨#[]⟩)).setCell ⟨w.heap.size+1+1+1,6,none⟩ (.int .i64 0)).setCell ⟨w.heap.size+1+1+1,7,none⟩ (.int .i64 (1))) (w.heap.size+1+1+1) [.slice none 0 0,.slice none 0 0,.int .i64 0,.string ⟨#[]⟩,.int .i64 0,.string ⟨#[]⟩,.int .i64 0,.int .i64 (1)]):=((((((((HHz.set 0 (.slice none 0 0)).set 1 (.slice none 0 0)).set 2 (.int .i64 0)).set 3 (.string ⟨#[]⟩)).set 4 (.int .i64 0)).set 5 (.string ⟨#[]⟩)).set 6 (.int .i64 0)).set 7 (.int .i64 (1)));have RB:Hid _:=((((((((S3.out.b.setCell (p:=⟨w.heap.size+1+1+1,0,none⟩) hRw (.slice none 0 0)).setCell (p:=⟨w.heap.size+1+1+1,1,none⟩) hRw (.slice none 0 0)).setCell (p:=⟨w.heap.size+1+1+1,2,none⟩) hRw (.int .i64 0)).setCell (p:=⟨w.heap.size+1+1+1,3,none⟩) hRw (.string ⟨#[]⟩)).setCell (p:=⟨w.heap.size+1+1+1,4,none⟩) hRw (.int .i64 0)).setCell (p:=⟨w.heap.size+1+1+1,5,none⟩) hRw (.string ⟨#[]⟩)).setCell (p:=⟨w.heap.size+1+1+1,6,none⟩) hRw (.int .i64 0)).setCell (p:=⟨w.heap.size+1+1+1,7,none⟩) hRw (.int .i64 (1)));clear HHz;go_wp2_with fail
  exact bodyPost_ret (results_mid Tryz.results6 _ _ (w.heap.size+1+1+1) [.slice none 0 0,.slice none 0 0,.int .i64 0,.string ⟨#[]⟩,.int .i64 0,.string ⟨#[]⟩,.int .i64 0,.int .i64 (1)] _ rfl HRR.out Tryz.underlying39 rfl (show (Tryz.prog.info? 39).map (·.size)=some 8 by kernel_rfl)) rfl (And.intro (by rw [HX.out]; exact ⟨none,none,0,0,rfl,.inl rfl,.inl rfl,fun g h e1=>by simp at e1⟩) RB.out)
 | true =>
  have HX:Hid (ans=nv):=by unfold Hid; rw [HV.out,if_pos hok]
  have HNC:Hid _:=fun W=>HGO.out W hok
  clear HGO HV hok;have HHp:=S3.out.at (.head _);obtain ⟨p0,p1,p2,p3,p4,p5,p6,p7,p8,p9⟩:=HHp.c10;clear HHp;have HHk:=S3.out.at (.tail _ (.head _));obtain ⟨k0,k1⟩:=HHk.c2;clear HHk;have HHt:=S3.out.at (.tail _ (.tail _ (.head _)));obtain ⟨t0,t1,t2,t3,t4,t5,t6⟩:=HHt.c7;clear HHt;have hRl:w.heap.size+1+1+1 < W3.heap.size:=(S3.out.lts _ (.tail _ (.tail _ (.tail _ (.head _))))).1;go_wp2_with fail
  refine (HNC.out _ S3.out.b).mono ?_;rintro e W4 ⟨⟨a1,a2,c1,c2,rfl,hown⟩,q4⟩;have S4:Hid _:=S3.out.kept q4;have HHz:=S4.out.at (.tail _ (.tail _ (.tail _ (.head _))));obtain ⟨z0,z1,z2,z3,z4,z5,z6,z7⟩:=HHz.c8;obtain ⟨zf0,zf1,zf2,zf3,zf4,zf5,zf6,zf7⟩:=HHz.f8;have HRR:Hid (HoldsL ((((((((W4.setCell ⟨w.heap.size+1+1+1,0,none⟩ (.slice a1 nv.bib.binds.length c1)).setCell ⟨w.heap.size+1+1+1,1,none⟩ (.slice a2 nv.bib.sess.length c2)).setCell ⟨w.heap.size+1+1+1,2,none⟩ (.int .i64 nv.bind.proto)).setCell ⟨w.heap.size+1+1+1,3,none⟩ (.string nv.bind.inn)).setCell ⟨w.heap.size+1+1+1,4,none⟩ (.int .i64 nv.bind.inPort)).setCell ⟨w.heap.size+1+1+1,5,none⟩ (.string nv.bind.out)).setCell ⟨w.heap.size+1+1+1,6,none⟩ (.int .i64 nv.bind.outPort)).setCell ⟨w.heap.size+1+1+1,7,none⟩ (.int .i64 nv.code)) (w.heap.size+1+1+1) [.slice a1 nv.bib.binds.length c1,.slice a2 nv.bib.sess.length c2,.int .i64 nv.bind.proto,.string nv.bind.inn,.int .i64 nv.bind.inPort,.string nv.bind.out,.int .i64 nv.bind.outPort,.int .i64 nv.code]):=((((((((HHz.set 0 (.slice a1 nv.bib.binds.length c1)).set 1 (.slice a2 nv.bib.sess.length c2)).set 2 (.int .i64 nv.bind.proto)).set 3 (.string nv.bind.inn)).set 4 (.int .i64 nv.bind.inPort)).set 5 (.string nv.bind.out)).set 6 (.int .i64 nv.bind.outPort)).set 7 (.int .i64 nv.code));have RB:Hid _:=((((((((S4.out.b.setCell (p:=⟨w.heap.size+1+1+1,0,none⟩) hRw (.slice a1 nv.bib.binds.length c1)).setCell (p:=⟨w.heap.size+1+1+1,1,none⟩) hRw (.slice a2 nv.bib.sess.length c2)).setCell (p:=⟨w.heap.size+1+1+1,2,none⟩) hRw (.int .i64 nv.bind.proto)).setCell (p:=⟨w.heap.size+1+1+1,3,none⟩) hRw (.string nv.bind.inn)).setCell (p:=⟨w.heap.size+1+1+1,4,none⟩) hRw (.int .i64 nv.bind.inPort)).setCell (p:=⟨w.heap.size+1+1+1,5,none⟩) hRw (.string nv.bind.out)).setCell (p:=⟨w.heap.size+1+1+1,6,none⟩) hRw (.int .i64 nv.bind.outPort)).setCell (p:=⟨w.heap.size+1+1+1,7,none⟩) hRw (.int .i64 nv.code));clear HHz;have hwl:=S3.out.b.size;have HOW:Hid (BbOwn w.heap.size ((((((((W4.setCell ⟨w.heap.size+1+1+1,0,none⟩ (.slice a1 nv.bib.binds.length c1)).setCell ⟨w.heap.size+1+1+1,1,none⟩ (.slice a2 nv.bib.sess.length c2)).setCell ⟨w.heap.size+1+1+1,2,none⟩ (.int .i64 nv.bind.proto)).setCell ⟨w.heap.size+1+1+1,3,none⟩ (.string nv.bind.inn)).setCell ⟨w.heap.size+1+1+1,4,none⟩ (.int .i64 nv.bind.inPort)).setCell ⟨w.heap.size+1+1+1,5,none⟩ (.string nv.bind.out)).setCell ⟨w.heap.size+1+1+1,6,none⟩ (.int .i64 nv.bind.outPort)).setCell ⟨w.heap.size+1+1+1,7,none⟩ (.int .i64 nv.code)) a1 a2 nv.bib):=⟨(hown.bd.grown (grown_set (grown_set (grown_set (grown_set (grown_set (grown_set (grown_set (grown_set (World.grownBy.refl _ _) _) _) _) _) _) _) _) _) hRl).down hwl,(hown.ss.grown (grown_set (grown_set (grown_set (grown_set (grown_set (grown_set (grown_set (grown_set (World.grownBy.refl _ _) _) _) _) _) _) _) _) _) hRl).down hwl,hown.ne⟩;clear hown q4;unfold boC;go_wp2_with fail
  exact bodyPost_ret (results_mid Tryz.results6 _ _ (w.heap.size+1+1+1) [.slice a1 nv.bib.binds.length c1,.slice a2 nv.bib.sess.length c2,.int .i64 nv.bind.proto,.string nv.bind.inn,.int .i64 nv.bind.inPort,.string nv.bind.out,.int .i64 nv.bind.outPort,.int .i64 nv.code] _ rfl HRR.out Tryz.underlying39 rfl (show (Tryz.prog.info? 39).map (·.size)=some 8 by kernel_rfl)) rfl (And.intro (by rw [HX.out]; exact ⟨a1,a2,c1,c2,rfl,HOW.out⟩) RB.out)
end Go.Proofs.YtjpdljkjalnmhaaGreatDoor
