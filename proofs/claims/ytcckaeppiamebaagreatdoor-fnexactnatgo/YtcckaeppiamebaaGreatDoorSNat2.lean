import Derived.Test.YtcckaeppiamebaaGreatDoorSNat1
import Derived.Test.YtcckaeppiamebaaGreatDoorSGo9
import Derived.Test.YtcckaeppiamebaaGreatDoorSBibR
import Derived.Test.YtcckaeppiamebaaGreatDoorMerged19
import Derived.Test.YtcckaeppiamebaaGreatDoorMerged9
set_option linter.unusedVariables false
set_option linter.unusedSimpArgs false
set_option maxRecDepth 100000
set_option maxHeartbeats 8000000
namespace Go.Proofs.YtcckaeppiamebaaGreatDoor
open Go.RowKit Go.PlainAid
def IsBv (base:Nat) (o:Bo):Value→World→Prop:=fun v w=>∃ a b ca cb,v=boC a b ca cb o∧BbOwn base w a b o.bib
theorem stable_isBv (base:Nat) (o:Bo):Stable (IsBv base o):=fun v w w' ⟨a,b,ca,cb,h1,h2⟩ hb=>⟨a,b,ca,cb,h1,h2.kept hb⟩
theorem sp9Ok_any (pa:Option Addr) (pc:Nat) (p:Pl) (ba bo:Option Addr) (ca cb:Nat) (x:Bb) (q:P4) (now:Int) (w:World) (hlp:p.addrs.length≤1048576) (hpc:p.addrs.length≤pc) (hsz:∀ s∈p.addrs,s.size≤1048576) (hl1:x.binds.length≤1048576) (hl2:x.sess.length≤1048576) (q1:q.src.size≤1048576) (q2:q.dst.size≤1048576) (q3:q.opts.size≤1048576) (q4:q.data.size≤1048576) (hp:SlIs strL1 1 w pa p.addrs) (hx:BbIs w ba bo x) :
  Calls Tryz.prog 28 #[plC pa pc p,bbC ba bo ca cb x,p4C q,.int .i64 now] w fun e w'=>e=.returned (.int .i64 (natFt p x q now))∧Below w.heap.size w w':=by
 have HBR:Hid (∀ W,Below w.heap.size w W→Calls Tryz.prog 50 #[plC pa pc p,bbC ba bo ca cb x] W fun e w'=>e=.returned (.bool (bibOk p x))∧Below W.heap.size W w'):=fun W hW=>specBib_any p x pa pc ba bo ca cb W hlp hpc hsz hl1 hl2 (hp.below hW) (hx.below hW)
 have HV4:Hid (∀ W,Calls Tryz.prog 51 #[p4C q] W fun e w'=>e=.returned (.bool (v4Ok q))∧Below W.heap.size W w'):=fun W=>specV4Right_any q W q1 q2 q3 q4
 have HTM:Hid (∀ W,Calls Tryz.prog 52 #[.int .i64 now] W fun e w'=>e=.returned (.bool (isTime now))∧w'=W):=fun W=>spTime_any now W
 have HV:Hid (natFt p x q now=if (bibOk p x&&v4Ok q&&isTime now)=false then 1 else if (q.more||decide (q.off≠0))=true then 10 else 0):=rfl;generalize natFt p x q now=ans at *;generalize bibOk p x=b1 at *;generalize v4Ok q=b2 at *;generalize isTime now=b3 at *;obtain ⟨tos,id,whole,more,off,ttl,proto,src,dst,opts,data⟩:=q;clear hp hx hsz;unfold plC bbC p4C at *;dsimp only at *;have hun:undef=Value.tuple #[]:=rfl;have e0:HoldsL (((w.alloc (.cells #[.slice pa p.addrs.length pc,.int .i64 p.low,.int .i64 p.high,.int .i64 p.most,.int .i64 p.filter,.int .i64 p.lv.udp,.int .i64 p.lv.echo,.int .i64 p.lv.opening,.int .i64 p.lv.opn,.int .i64 p.lv.closing] 48)).alloc (.cells #[.slice ba x.binds.length ca,.slice bo x.sess.length cb] 39)).alloc (.cells #[.int .i64 tos,.int .i64 id,.bool whole,.bool more,.int .i64 off,.int .i64 ttl,.int .i64 proto,.string src,.string dst,.string opts,.string data] 40)) (w.heap.size) [.slice pa p.addrs.length pc,.int .i64 p.low,.int .i64 p.high,.int .i64 p.most,.int .i64 p.filter,.int .i64 p.lv.udp,.int .i64 p.lv.echo,.int .i64 p.lv.opening,.int .i64 p.lv.opn,.int .i64 p.lv.closing]:=by
  have h:=HoldsL.new w [.slice pa p.addrs.length pc,.int .i64 p.low,.int .i64 p.high,.int .i64 p.most,.int .i64 p.filter,.int .i64 p.lv.udp,.int .i64 p.lv.echo,.int .i64 p.lv.opening,.int .i64 p.lv.opn,.int .i64 p.lv.closing] 48;try simp only [World.size_alloc] at h
  exact ((h.alloc _).alloc _)
 have e1:HoldsL (((w.alloc (.cells #[.slice pa p.addrs.length pc,.int .i64 p.low,.int .i64 p.high,.int .i64 p.most,.int .i64 p.filter,.int .i64 p.lv.udp,.int .i64 p.lv.echo,.int .i64 p.lv.opening,.int .i64 p.lv.opn,.int .i64 p.lv.closing] 48)).alloc (.cells #[.slice ba x.binds.length ca,.slice bo x.sess.length cb] 39)).alloc (.cells #[.int .i64 tos,.int .i64 id,.bool whole,.bool more,.int .i64 off,.int .i64 ttl,.int .i64 proto,.string src,.string dst,.string opts,.string data] 40)) (w.heap.size+1) [.slice ba x.binds.length ca,.slice bo x.sess.length cb]:=by
  have h:=HoldsL.new (w.alloc (.cells #[.slice pa p.addrs.length pc,.int .i64 p.low,.int .i64 p.high,.int .i64 p.most,.int .i64 p.filter,.int .i64 p.lv.udp,.int .i64 p.lv.echo,.int .i64 p.lv.opening,.int .i64 p.lv.opn,.int .i64 p.lv.closing] 48)) [.slice ba x.binds.length ca,.slice bo x.sess.length cb] 39;try simp only [World.size_alloc] at h
  exact (h.alloc _)
 have e2:HoldsL (((w.alloc (.cells #[.slice pa p.addrs.length pc,.int .i64 p.low,.int .i64 p.high,.int .i64 p.most,.int .i64 p.filter,.int .i64 p.lv.udp,.int .i64 p.lv.echo,.int .i64 p.lv.opening,.int .i64 p.lv.opn,.int .i64 p.lv.closing] 48)).alloc (.cells #[.slice ba x.binds.length ca,.slice bo x.sess.length cb] 39)).alloc (.cells #[.int .i64 tos,.int .i64 id,.bool whole,.bool more,.int .i64 off,.int .i64 ttl,.int .i64 proto,.string src,.string dst,.string opts,.string data] 40)) (w.heap.size+1+1) [.int .i64 tos,.int .i64 id,.bool whole,.bool more,.int .i64 off,.int .i64 ttl,.int .i64 proto,.string src,.string dst,.string opts,.string data]:=by
  have h:=HoldsL.new ((w.alloc (.cells #[.slice pa p.addrs.length pc,.int .i64 p.low,.int .i64 p.high,.int .i64 p.most,.int .i64 p.filter,.int .i64 p.lv.udp,.int .i64 p.lv.echo,.int .i64 p.lv.opening,.int .i64 p.lv.opn,.int .i64 p.lv.closing] 48)).alloc (.cells #[.slice ba x.binds.length ca,.slice bo x.sess.length cb] 39)) [.int .i64 tos,.int .i64 id,.bool whole,.bool more,.int .i64 off,.int .i64 ttl,.int .i64 proto,.string src,.string dst,.string opts,.string data] 40;try simp only [World.size_alloc] at h
  exact h
 have HS0:Hid (Bxs w [(w.heap.size,[.slice pa p.addrs.length pc,.int .i64 p.low,.int .i64 p.high,.int .i64 p.most,.int .i64 p.filter,.int .i64 p.lv.udp,.int .i64 p.lv.echo,.int .i64 p.lv.opening,.int .i64 p.lv.opn,.int .i64 p.lv.closing]),(w.heap.size+1,[.slice ba x.binds.length ca,.slice bo x.sess.length cb]),(w.heap.size+1+1,[.int .i64 tos,.int .i64 id,.bool whole,.bool more,.int .i64 off,.int .i64 ttl,.int .i64 proto,.string src,.string dst,.string opts,.string data])] (((w.alloc (.cells #[.slice pa p.addrs.length pc,.int .i64 p.low,.int .i64 p.high,.int .i64 p.most,.int .i64 p.filter,.int .i64 p.lv.udp,.int .i64 p.lv.echo,.int .i64 p.lv.opening,.int .i64 p.lv.opn,.int .i64 p.lv.closing] 48)).alloc (.cells #[.slice ba x.binds.length ca,.slice bo x.sess.length cb] 39)).alloc (.cells #[.int .i64 tos,.int .i64 id,.bool whole,.bool more,.int .i64 off,.int .i64 ttl,.int .i64 proto,.string src,.string dst,.string opts,.string data] 40))):=by
  refine ⟨fun e he=>?_,((((Below.refl _ _).alloc (by (try simp only [World.size_alloc]); omega) _).alloc (by (try simp only [World.size_alloc]); omega) _).alloc (by (try simp only [World.size_alloc]); omega) _),fun e he=>?_⟩
  ·simp only [List.mem_cons,List.not_mem_nil,or_false] at he;rcases he with rfl | rfl | rfl
   ·exact e0
   ·exact e1
   ·exact e2
  ·simp only [List.mem_cons,List.not_mem_nil,or_false] at he;rcases he with rfl | rfl | rfl<;>simp
 clear e0 e1 e2;go_enter Tryz.func28,Tryz.ntmps28
 go_upto_region 1 with fail
 generalize (((w.alloc (.cells #[.slice pa p.addrs.length pc,.int .i64 p.low,.int .i64 p.high,.int .i64 p.most,.int .i64 p.filter,.int .i64 p.lv.udp,.int .i64 p.lv.echo,.int .i64 p.lv.opening,.int .i64 p.lv.opn,.int .i64 p.lv.closing] 48)).alloc (.cells #[.slice ba x.binds.length ca,.slice bo x.sess.length cb] 39)).alloc (.cells #[.int .i64 tos,.int .i64 id,.bool whole,.bool more,.int .i64 off,.int .i64 ttl,.int .i64 proto,.string src,.string dst,.string opts,.string data] 40))=W0 at *;have HHk:=HS0.out.at (.head _);obtain ⟨k0,k1,k2,k3,k4,k5,k6,k7,k8,k9⟩:=HHk.c10;clear HHk;have HHl:=HS0.out.at (.tail _ (.head _));obtain ⟨l0,l1⟩:=HHl.c2;clear HHl;go_wp2_with fail
 refine (HBR.out _ HS0.out.b).mono ?_;rintro e W1 ⟨rfl,r1⟩;have S1:Hid _:=HS0.out.kept r1;clear r1 HS0 k0 k1 k2 k3 k4 k5 k6 k7 k8 k9 l0 l1
 cases b1 with
 | false =>
  have HFB:Hid _:=S1.out.b;go_wp2_with fail
  go_ret;exact ⟨ret_int (by rw [HV.out]; rfl),HFB.out⟩
 | true =>
 have HHk:=S1.out.at (.tail _ (.tail _ (.head _)));obtain ⟨k0,k1,k2,k3,k4,k5,k6,k7,k8,k9,k10⟩:=HHk.c11;clear HHk;go_wp2_with fail
 refine (HV4.out _).mono ?_;rintro e W2 ⟨rfl,r2⟩;have S2:Hid _:=S1.out.kept r2;clear r2 S1 k0 k1 k2 k3 k4 k5 k6 k7 k8 k9 k10
 cases b2 with
 | false =>
  have HFB:Hid _:=S2.out.b;go_wp2_with fail
  go_ret;exact ⟨ret_int (by rw [HV.out]; rfl),HFB.out⟩
 | true =>
 go_wp2_with fail
 refine (HTM.out _).mono ?_;rintro e W2 ⟨rfl,rfl⟩
 cases b3 with
 | false =>
  have HFB:Hid _:=S2.out.b;go_wp2_with fail
  go_ret;exact ⟨ret_int (by rw [HV.out]; rfl),HFB.out⟩
 | true =>
 have HHk:=S2.out.at (.tail _ (.tail _ (.head _)));obtain ⟨k0,k1,k2,k3,k4,k5,k6,k7,k8,k9,k10⟩:=HHk.c11;clear HHk
 cases more with
 | true =>
  have HFB:Hid _:=S2.out.b;go_wp2_with fail
  go_ret;exact ⟨ret_int (by rw [HV.out]; rfl),HFB.out⟩
 | false =>
 by_cases ho:off=0
 case pos =>
  have d0:(off != 0)=false:=by simp [ho]
  have HFB:Hid _:=S2.out.b;go_wp2_with fail
  go_ret;exact ⟨ret_int (by rw [HV.out]; simp [ho]),HFB.out⟩
 have d0:(off != 0)=true:=by simp [ho]
 have HFB:Hid _:=S2.out.b;go_wp2_with fail
 go_ret;exact ⟨ret_int (by rw [HV.out]; simp [ho]),HFB.out⟩
theorem sp9Go_any (pa:Option Addr) (pc:Nat) (p:Pl) (ba bo:Option Addr) (ca cb:Nat) (x:Bb) (f:Fl) (peer t:ByteArray) (now:Int) (w:World) (hpo:poolOk p=true) (hnow:isTime now=true) (hfs:f.src.size≤1048576) (h0:0≤f.sp) (h1:f.sp≤65535) (ht:t.size≤1048576) (h20:f.proto=6→20≤t.size) (hl1:x.binds.length≤1048576) (hl2:x.sess.length≤1048576) (hp:SlIs strL1 1 w pa p.addrs) (hx:BbIs w ba bo x) :
  Calls Tryz.prog 54 #[plC pa pc p,bbC ba bo ca cb x,fwC f,.string peer,.string t,.int .i64 now] w fun e w'=>BoRet w.heap.size (goV p x (goT f peer t) now) e w'∧Below w.heap.size w w':=by
 have HGO:Hid (∀ W,Below w.heap.size w W→Calls Tryz.prog 85 #[plC pa pc p,bbC ba bo ca cb x,.agg #[.int .i64 (protoN f.proto),.bool true,.string f.src,.int .i64 f.sp,.string peer,.int .i64 (peerV f.proto f.dp),.int .i64 (flagV f.proto t)],.int .i64 now] W fun e w'=>BoRet W.heap.size (goV p x (goT f peer t) now) e w'∧Below W.heap.size W w'):=fun W hW=>spGo_any pa pc p ba bo ca cb x (goT f peer t) now W hpo hnow hfs h0 h1 hl1 hl2 (hp.below hW) (hx.below hW)
 have HPN:Hid (∀ W,Calls Tryz.prog 86 #[.int .i64 f.proto] W fun e w'=>e=.returned (.int .i64 (protoN f.proto))∧Below W.heap.size W w'):=fun W=>(sp9Proto_any _ W).mono fun e w' h=>⟨h.1,by rw [h.2]; exact Below.refl _ _⟩
 have HPO:Hid (∀ W,Calls Tryz.prog 87 #[fwC f,.int .i64 f.dp] W fun e w'=>e=.returned (.int .i64 (peerV f.proto f.dp))∧Below W.heap.size W w'):=fun W=>sp9Port_any f _ W
 have HFL:Hid (∀ W,Calls Tryz.prog 88 #[fwC f,.string t] W fun e w'=>e=.returned (.int .i64 (flagV f.proto t))∧Below W.heap.size W w'):=fun W=>sp9Flags_any f t W ht h20
 generalize goV p x (goT f peer t) now=nv at *;generalize peerV f.proto f.dp=pv at *;generalize protoN f.proto=pn at *;generalize flagV f.proto t=fv at *;obtain ⟨proto,src,dst,sp,dp⟩:=f;dsimp only at *;clear hp hx hpo hnow h20;unfold plC bbC fwC at *;dsimp only at *;have e0:HoldsL ((((w.alloc (.cells #[.slice pa p.addrs.length pc,.int .i64 p.low,.int .i64 p.high,.int .i64 p.most,.int .i64 p.filter,.int .i64 p.lv.udp,.int .i64 p.lv.echo,.int .i64 p.lv.opening,.int .i64 p.lv.opn,.int .i64 p.lv.closing] 48)).alloc (.cells #[.slice ba x.binds.length ca,.slice bo x.sess.length cb] 39)).alloc (.cells #[.int .i64 proto,.string src,.string dst,.int .i64 sp,.int .i64 dp] 91)).alloc (.cells #[.slice none 0 0,.slice none 0 0,.int .i64 0,.string ⟨#[]⟩,.int .i64 0,.string ⟨#[]⟩,.int .i64 0,.int .i64 0] 96)) (w.heap.size) [.slice pa p.addrs.length pc,.int .i64 p.low,.int .i64 p.high,.int .i64 p.most,.int .i64 p.filter,.int .i64 p.lv.udp,.int .i64 p.lv.echo,.int .i64 p.lv.opening,.int .i64 p.lv.opn,.int .i64 p.lv.closing]:=by
  have h:=HoldsL.new w [.slice pa p.addrs.length pc,.int .i64 p.low,.int .i64 p.high,.int .i64 p.most,.int .i64 p.filter,.int .i64 p.lv.udp,.int .i64 p.lv.echo,.int .i64 p.lv.opening,.int .i64 p.lv.opn,.int .i64 p.lv.closing] 48;try simp only [World.size_alloc] at h
  exact (((h.alloc _).alloc _).alloc _)
 have e1:HoldsL ((((w.alloc (.cells #[.slice pa p.addrs.length pc,.int .i64 p.low,.int .i64 p.high,.int .i64 p.most,.int .i64 p.filter,.int .i64 p.lv.udp,.int .i64 p.lv.echo,.int .i64 p.lv.opening,.int .i64 p.lv.opn,.int .i64 p.lv.closing] 48)).alloc (.cells #[.slice ba x.binds.length ca,.slice bo x.sess.length cb] 39)).alloc (.cells #[.int .i64 proto,.string src,.string dst,.int .i64 sp,.int .i64 dp] 91)).alloc (.cells #[.slice none 0 0,.slice none 0 0,.int .i64 0,.string ⟨#[]⟩,.int .i64 0,.string ⟨#[]⟩,.int .i64 0,.int .i64 0] 96)) (w.heap.size+1) [.slice ba x.binds.length ca,.slice bo x.sess.length cb]:=by
  have h:=HoldsL.new (w.alloc (.cells #[.slice pa p.addrs.length pc,.int .i64 p.low,.int .i64 p.high,.int .i64 p.most,.int .i64 p.filter,.int .i64 p.lv.udp,.int .i64 p.lv.echo,.int .i64 p.lv.opening,.int .i64 p.lv.opn,.int .i64 p.lv.closing] 48)) [.slice ba x.binds.length ca,.slice bo x.sess.length cb] 39;try simp only [World.size_alloc] at h
  exact ((h.alloc _).alloc _)
 have e2:HoldsL ((((w.alloc (.cells #[.slice pa p.addrs.length pc,.int .i64 p.low,.int .i64 p.high,.int .i64 p.most,.int .i64 p.filter,.int .i64 p.lv.udp,.int .i64 p.lv.echo,.int .i64 p.lv.opening,.int .i64 p.lv.opn,.int .i64 p.lv.closing] 48)).alloc (.cells #[.slice ba x.binds.length ca,.slice bo x.sess.length cb] 39)).alloc (.cells #[.int .i64 proto,.string src,.string dst,.int .i64 sp,.int .i64 dp] 91)).alloc (.cells #[.slice none 0 0,.slice none 0 0,.int .i64 0,.string ⟨#[]⟩,.int .i64 0,.string ⟨#[]⟩,.int .i64 0,.int .i64 0] 96)) (w.heap.size+1+1) [.int .i64 proto,.string src,.string dst,.int .i64 sp,.int .i64 dp]:=by
  have h:=HoldsL.new ((w.alloc (.cells #[.slice pa p.addrs.length pc,.int .i64 p.low,.int .i64 p.high,.int .i64 p.most,.int .i64 p.filter,.int .i64 p.lv.udp,.int .i64 p.lv.echo,.int .i64 p.lv.opening,.int .i64 p.lv.opn,.int .i64 p.lv.closing] 48)).alloc (.cells #[.slice ba x.binds.length ca,.slice bo x.sess.length cb] 39)) [.int .i64 proto,.string src,.string dst,.int .i64 sp,.int .i64 dp] 91;try simp only [World.size_alloc] at h
  exact (h.alloc _)
 have e3:HoldsL ((((w.alloc (.cells #[.slice pa p.addrs.length pc,.int .i64 p.low,.int .i64 p.high,.int .i64 p.most,.int .i64 p.filter,.int .i64 p.lv.udp,.int .i64 p.lv.echo,.int .i64 p.lv.opening,.int .i64 p.lv.opn,.int .i64 p.lv.closing] 48)).alloc (.cells #[.slice ba x.binds.length ca,.slice bo x.sess.length cb] 39)).alloc (.cells #[.int .i64 proto,.string src,.string dst,.int .i64 sp,.int .i64 dp] 91)).alloc (.cells #[.slice none 0 0,.slice none 0 0,.int .i64 0,.string ⟨#[]⟩,.int .i64 0,.string ⟨#[]⟩,.int .i64 0,.int .i64 0] 96)) (w.heap.size+1+1+1) [.slice none 0 0,.slice none 0 0,.int .i64 0,.string ⟨#[]⟩,.int .i64 0,.string ⟨#[]⟩,.int .i64 0,.int .i64 0]:=by
  have h:=HoldsL.new (((w.alloc (.cells #[.slice pa p.addrs.length pc,.int .i64 p.low,.int .i64 p.high,.int .i64 p.most,.int .i64 p.filter,.int .i64 p.lv.udp,.int .i64 p.lv.echo,.int .i64 p.lv.opening,.int .i64 p.lv.opn,.int .i64 p.lv.closing] 48)).alloc (.cells #[.slice ba x.binds.length ca,.slice bo x.sess.length cb] 39)).alloc (.cells #[.int .i64 proto,.string src,.string dst,.int .i64 sp,.int .i64 dp] 91)) [.slice none 0 0,.slice none 0 0,.int .i64 0,.string ⟨#[]⟩,.int .i64 0,.string ⟨#[]⟩,.int .i64 0,.int .i64 0] 96;try simp only [World.size_alloc] at h
  exact h
 have HS0:Hid (Bxs w [(w.heap.size,[.slice pa p.addrs.length pc,.int .i64 p.low,.int .i64 p.high,.int .i64 p.most,.int .i64 p.filter,.int .i64 p.lv.udp,.int .i64 p.lv.echo,.int .i64 p.lv.opening,.int .i64 p.lv.opn,.int .i64 p.lv.closing]),(w.heap.size+1,[.slice ba x.binds.length ca,.slice bo x.sess.length cb]),(w.heap.size+1+1,[.int .i64 proto,.string src,.string dst,.int .i64 sp,.int .i64 dp]),(w.heap.size+1+1+1,[.slice none 0 0,.slice none 0 0,.int .i64 0,.string ⟨#[]⟩,.int .i64 0,.string ⟨#[]⟩,.int .i64 0,.int .i64 0])] ((((w.alloc (.cells #[.slice pa p.addrs.length pc,.int .i64 p.low,.int .i64 p.high,.int .i64 p.most,.int .i64 p.filter,.int .i64 p.lv.udp,.int .i64 p.lv.echo,.int .i64 p.lv.opening,.int .i64 p.lv.opn,.int .i64 p.lv.closing] 48)).alloc (.cells #[.slice ba x.binds.length ca,.slice bo x.sess.length cb] 39)).alloc (.cells #[.int .i64 proto,.string src,.string dst,.int .i64 sp,.int .i64 dp] 91)).alloc (.cells #[.slice none 0 0,.slice none 0 0,.int .i64 0,.string ⟨#[]⟩,.int .i64 0,.string ⟨#[]⟩,.int .i64 0,.int .i64 0] 96))):=by
  refine ⟨fun e he=>?_,(((((Below.refl _ _).alloc (by (try simp only [World.size_alloc]); omega) _).alloc (by (try simp only [World.size_alloc]); omega) _).alloc (by (try simp only [World.size_alloc]); omega) _).alloc (by (try simp only [World.size_alloc]); omega) _),fun e he=>?_⟩
  ·simp only [List.mem_cons,List.not_mem_nil,or_false] at he;rcases he with rfl | rfl | rfl | rfl
   ·exact e0
   ·exact e1
   ·exact e2
   ·exact e3
  ·simp only [List.mem_cons,List.not_mem_nil,or_false] at he;rcases he with rfl | rfl | rfl | rfl<;>simp
 clear e0 e1 e2 e3;have hRw:w.heap.size≤w.heap.size+1+1+1:=by omega
 go_enter Tryz.func54,Tryz.ntmps54
 go_upto_region 1 with fail
 generalize ((((w.alloc (.cells #[.slice pa p.addrs.length pc,.int .i64 p.low,.int .i64 p.high,.int .i64 p.most,.int .i64 p.filter,.int .i64 p.lv.udp,.int .i64 p.lv.echo,.int .i64 p.lv.opening,.int .i64 p.lv.opn,.int .i64 p.lv.closing] 48)).alloc (.cells #[.slice ba x.binds.length ca,.slice bo x.sess.length cb] 39)).alloc (.cells #[.int .i64 proto,.string src,.string dst,.int .i64 sp,.int .i64 dp] 91)).alloc (.cells #[.slice none 0 0,.slice none 0 0,.int .i64 0,.string ⟨#[]⟩,.int .i64 0,.string ⟨#[]⟩,.int .i64 0,.int .i64 0] 96))=W0 at *;have hR0:w.heap.size+1+1+1 < W0.heap.size:=(HS0.out.k _ (.tail _ (.tail _ (.tail _ (.head _))))).lt (by simp);have HCP:Hid (∀ wy,Below W0.drew.heap.size W0.drew wy→_):=fun wy hy=>HS0.out.kept ((Below.refl _ _).drew.trans hy)
 have hRl:w.heap.size+1+1+1 < W0.drew.heap.size:=hR0;have hwl:w.heap.size≤W0.drew.heap.size:=HS0.out.b.size;clear HS0 hR0;refine wp_region_growV [13,14,15,16,17,18,19,20,21,22,23,24,25,26,27,28,29,30,31,32] (by kernel_rfl) (by kernel_rfl) ?_;apply GChV.v0
 ·rfl
 ·intro K' a wy ho hd hb hK kz;have o6:=ho 6 (by decide);simp [slot] at o6;clear hd ho;have hst:=HCP.out wy hb;have HHk:=hst.at (.head _);obtain ⟨k0,k1,k2,k3,k4,k5,k6,k7,k8,k9⟩:=HHk.c10;clear HHk;have HHl:=hst.at (.tail _ (.head _));obtain ⟨l0,l1⟩:=HHl.c2;clear HHl;have HHm:=hst.at (.tail _ (.tail _ (.head _)));obtain ⟨m0,m1,m2,m3,m4⟩:=HHm.c5;clear HHm;clear hst;go_simp;try go_bits
  exact kz _ rfl
 apply GChV.v1
 ·rfl
 ·intro K' a wy ho hd hb hK kz;have o7:=ho 7 (by decide);simp [slot] at o7;clear hd ho;have hst:=HCP.out wy hb;have HHk:=hst.at (.head _);obtain ⟨k0,k1,k2,k3,k4,k5,k6,k7,k8,k9⟩:=HHk.c10;clear HHk;have HHl:=hst.at (.tail _ (.head _));obtain ⟨l0,l1⟩:=HHl.c2;clear HHl;have HHm:=hst.at (.tail _ (.tail _ (.head _)));obtain ⟨m0,m1,m2,m3,m4⟩:=HHm.c5;clear HHm;clear hst;go_simp;try go_bits
  exact kz _ rfl
 apply GChV.v2
 ·rfl
 ·intro K' a wy ho hd hb hK kz;have o8:=ho 8 (by decide);simp [slot] at o8;clear hd ho;go_simp;try go_bits
  exact kz _ rfl
 apply GChV.v3
 ·rfl
 ·intro K' a wy ho hd hb hK kz;have q2:=hd ⟨2,.data⟩ (by simp) rfl;simp [rAt,IsV,slot] at q2;clear hd ho;have hst:=HCP.out wy hb;have HHk:=hst.at (.head _);obtain ⟨k0,k1,k2,k3,k4,k5,k6,k7,k8,k9⟩:=HHk.c10;clear HHk;have HHl:=hst.at (.tail _ (.head _));obtain ⟨l0,l1⟩:=HHl.c2;clear HHl;have HHm:=hst.at (.tail _ (.tail _ (.head _)));obtain ⟨m0,m1,m2,m3,m4⟩:=HHm.c5;clear HHm;clear hst;go_simp;try go_bits
  exact kz _ rfl
 apply GChV.v4
 ·rfl
 ·intro K' a wy ho hd hb hK kz;have q3:=hd ⟨3,.data⟩ (by simp) rfl;simp [rAt,IsV,slot] at q3;clear hd ho;go_simp;refine (HPN.out wy).mono ?_;rintro e wz ⟨rfl,hz⟩;exact hK _ _ rfl hz
 apply GChV.v5
 ·rfl
 ·intro K' a wy ho hd hb hK kz;have o8:=ho 8 (by decide);simp [slot] at o8;clear hd ho;go_simp;try go_bits
  exact kz _ rfl
 apply GChV.v6
 ·rfl
 ·intro K' a wy ho hd hb hK kz;have q5:=hd ⟨5,.data⟩ (by simp) rfl;simp [rAt,IsV,slot] at q5;clear hd ho;have hst:=HCP.out wy hb;have HHk:=hst.at (.head _);obtain ⟨k0,k1,k2,k3,k4,k5,k6,k7,k8,k9⟩:=HHk.c10;clear HHk;have HHl:=hst.at (.tail _ (.head _));obtain ⟨l0,l1⟩:=HHl.c2;clear HHl;have HHm:=hst.at (.tail _ (.tail _ (.head _)));obtain ⟨m0,m1,m2,m3,m4⟩:=HHm.c5;clear HHm;clear hst;go_simp;try go_bits
  exact kz _ rfl
 apply GChV.v7
 ·rfl
 ·intro K' a wy ho hd hb hK kz;have o8:=ho 8 (by decide);simp [slot] at o8;clear hd ho;go_simp;try go_bits
  exact kz _ rfl
 apply GChV.v8
 ·rfl
 ·intro K' a wy ho hd hb hK kz;have q7:=hd ⟨7,.data⟩ (by simp) rfl;simp [rAt,IsV,slot] at q7;clear hd ho;have hst:=HCP.out wy hb;have HHk:=hst.at (.head _);obtain ⟨k0,k1,k2,k3,k4,k5,k6,k7,k8,k9⟩:=HHk.c10;clear HHk;have HHl:=hst.at (.tail _ (.head _));obtain ⟨l0,l1⟩:=HHl.c2;clear HHl;have HHm:=hst.at (.tail _ (.tail _ (.head _)));obtain ⟨m0,m1,m2,m3,m4⟩:=HHm.c5;clear HHm;clear hst;go_simp;try go_bits
  exact kz _ rfl
 apply GChV.v9
 ·rfl
 ·intro K' a wy ho hd hb hK kz;have o3:=ho 3 (by decide);simp [slot] at o3;clear hd ho;go_simp;try go_bits
  exact kz _ rfl
 apply GChV.v10
 ·rfl
 ·intro K' a wy ho hd hb hK kz;have o8:=ho 8 (by decide);simp [slot] at o8;clear hd ho;have hst:=HCP.out wy hb;have HHk:=hst.at (.head _);obtain ⟨k0,k1,k2,k3,k4,k5,k6,k7,k8,k9⟩:=HHk.c10;clear HHk;have HHl:=hst.at (.tail _ (.head _));obtain ⟨l0,l1⟩:=HHl.c2;clear HHl;have HHm:=hst.at (.tail _ (.tail _ (.head _)));obtain ⟨m0,m1,m2,m3,m4⟩:=HHm.c5;clear HHm;clear hst;go_simp;try go_bits
  exact kz _ rfl
 apply GChV.v11
 ·rfl
 ·intro K' a wy ho hd hb hK kz;have o8:=ho 8 (by decide);simp [slot] at o8;clear hd ho;go_simp;try go_bits
  exact kz _ rfl
 apply GChV.v12
 ·rfl
 ·intro K' a wy ho hd hb hK kz;have q11:=hd ⟨11,.data⟩ (by simp) rfl;simp [rAt,IsV,slot] at q11;clear hd ho;have hst:=HCP.out wy hb;have HHk:=hst.at (.head _);obtain ⟨k0,k1,k2,k3,k4,k5,k6,k7,k8,k9⟩:=HHk.c10;clear HHk;have HHl:=hst.at (.tail _ (.head _));obtain ⟨l0,l1⟩:=HHl.c2;clear HHl;have HHm:=hst.at (.tail _ (.tail _ (.head _)));obtain ⟨m0,m1,m2,m3,m4⟩:=HHm.c5;clear HHm;clear hst;go_simp;try go_bits
  exact kz _ rfl
 apply GChV.v13
 ·rfl
 ·intro K' a wy ho hd hb hK kz;have q10:=hd ⟨10,.data⟩ (by simp) rfl;simp [rAt,IsV,slot] at q10;have q12:=hd ⟨12,.data⟩ (by simp) rfl;simp [rAt,IsV,slot] at q12;clear hd ho;go_simp;refine (HPO.out wy).mono ?_;rintro e wz ⟨rfl,hz⟩;exact hK _ _ rfl hz
 apply GChV.v14
 ·rfl
 ·intro K' a wy ho hd hb hK kz;have o8:=ho 8 (by decide);simp [slot] at o8;clear hd ho;have hst:=HCP.out wy hb;have HHk:=hst.at (.head _);obtain ⟨k0,k1,k2,k3,k4,k5,k6,k7,k8,k9⟩:=HHk.c10;clear HHk;have HHl:=hst.at (.tail _ (.head _));obtain ⟨l0,l1⟩:=HHl.c2;clear HHl;have HHm:=hst.at (.tail _ (.tail _ (.head _)));obtain ⟨m0,m1,m2,m3,m4⟩:=HHm.c5;clear HHm;clear hst;go_simp;try go_bits
  exact kz _ rfl
 apply GChV.v15
 ·rfl
 ·intro K' a wy ho hd hb hK kz;have o4:=ho 4 (by decide);simp [slot] at o4;clear hd ho;go_simp;try go_bits
  exact kz _ rfl
 apply GChV.v16
 ·rfl
 ·intro K' a wy ho hd hb hK kz;have q14:=hd ⟨14,.data⟩ (by simp) rfl;simp [rAt,IsV,slot] at q14;have q15:=hd ⟨15,.data⟩ (by simp) rfl;simp [rAt,IsV,slot] at q15;clear hd ho;go_simp;refine (HFL.out wy).mono ?_;rintro e wz ⟨rfl,hz⟩;exact hK _ _ rfl hz
 apply GChV.v17
 ·rfl
 ·intro K' a wy ho hd hb hK kz;have q4:=hd ⟨4,.data⟩ (by simp) rfl;simp [rAt,IsV,slot] at q4;have q6:=hd ⟨6,.data⟩ (by simp) rfl;simp [rAt,IsV,slot] at q6;have q8:=hd ⟨8,.data⟩ (by simp) rfl;simp [rAt,IsV,slot] at q8;have q9:=hd ⟨9,.data⟩ (by simp) rfl;simp [rAt,IsV,slot] at q9;have q13:=hd ⟨13,.data⟩ (by simp) rfl;simp [rAt,IsV,slot] at q13;have q16:=hd ⟨16,.data⟩ (by simp) rfl;simp [rAt,IsV,slot] at q16;clear hd ho;go_simp;try go_bits
  exact kz _ rfl
 apply GChV.v18
 ·rfl
 ·intro K' a wy ho hd hb hK kz;have o5:=ho 5 (by decide);simp [slot] at o5;clear hd ho;go_simp;try go_bits
  exact kz _ rfl
 refine GChV.rel (n:=19) (IsBv W0.drew.heap.size nv) (stable_isBv _ _) [_,_,_,_,_,_,_,_,_,_,_,_,_,_,_,_,_,_,_,IsBv W0.drew.heap.size nv] rfl rfl ?_ ?_
 ·intro K' a wy ho hd hb hK;rw [if_pos (wanted_none rfl)];have q0:=hd ⟨0,.data⟩ (by simp) rfl;simp [rAt,IsV,slot] at q0;have q1:=hd ⟨1,.data⟩ (by simp) rfl;simp [rAt,IsV,slot] at q1;have q17:=hd ⟨17,.data⟩ (by simp) rfl;simp [rAt,IsV,slot] at q17;have q18:=hd ⟨18,.data⟩ (by simp) rfl;simp [rAt,IsV,slot] at q18;clear hd ho;go_simp;have hst:=HCP.out wy hb;refine (HGO.out wy hst.b).mono ?_;rintro e wz ⟨⟨a9,b9,c9,d9,rfl,hown⟩,hz⟩;exact hK _ _ ⟨a9,b9,c9,d9,rfl,⟨hown.bd.down hb.size,hown.ss.down hb.size,hown.ne⟩⟩ hz
 intro X wz hR hz;obtain ⟨x0,x1,x2,x3,x4,x5,x6,x7,x8,x9,x10,x11,x12,x13,x14,x15,x16,x17,x18,x19,-⟩:=hR;obtain ⟨a9,b9,c9,d9,e9,own9⟩:=x19;unfold boC at e9;simp only [IsV] at x0 x1 x2 x3 x4 x5 x6 x7 x8 x9 x10 x11 x12 x13 x14 x15 x16 x17 x18;simp only [putsFrom,x0,x1,x2,x3,x4,x5,x6,x7,x8,x9,x10,x11,x12,x13,x14,x15,x16,x17,x18,e9];clear x0 x1 x2 x3 x4 x5 x6 x7 x8 x9 x10 x11 x12 x13 x14 x15 x16 x17 x18;have V7:Hid (Bxs w [(w.heap.size,[.slice pa p.addrs.length pc,.int .i64 p.low,.int .i64 p.high,.int .i64 p.most,.int .i64 p.filter,.int .i64 p.lv.udp,.int .i64 p.lv.echo,.int .i64 p.lv.opening,.int .i64 p.lv.opn,.int .i64 p.lv.closing]),(w.heap.size+1,[.slice ba x.binds.length ca,.slice bo x.sess.length cb]),(w.heap.size+1+1,[.int .i64 proto,.string src,.string dst,.int .i64 sp,.int .i64 dp]),(w.heap.size+1+1+1,[.slice none 0 0,.slice none 0 0,.int .i64 0,.string ⟨#[]⟩,.int .i64 0,.string ⟨#[]⟩,.int .i64 0,.int .i64 0])] wz):=HCP.out wz hz;clear hz HCP;have HHz:=V7.out.at (.tail _ (.tail _ (.tail _ (.head _))));obtain ⟨z0,z1,z2,z3,z4,z5,z6,z7⟩:=HHz.c8;obtain ⟨zf0,zf1,zf2,zf3,zf4,zf5,zf6,zf7⟩:=HHz.f8;have HRR:Hid (HoldsL ((((((((wz.setCell ⟨w.heap.size+1+1+1,0,none⟩ (.slice a9 nv.bib.binds.length c9)).setCell ⟨w.heap.size+1+1+1,1,none⟩ (.slice b9 nv.bib.sess.length d9)).setCell ⟨w.heap.size+1+1+1,2,none⟩ (.int .i64 nv.bind.proto)).setCell ⟨w.heap.size+1+1+1,3,none⟩ (.string nv.bind.inn)).setCell ⟨w.heap.size+1+1+1,4,none⟩ (.int .i64 nv.bind.inPort)).setCell ⟨w.heap.size+1+1+1,5,none⟩ (.string nv.bind.out)).setCell ⟨w.heap.size+1+1+1,6,none⟩ (.int .i64 nv.bind.outPort)).setCell ⟨w.heap.size+1+1+1,7,none⟩ (.int .i64 nv.code)) (w.heap.size+1+1+1) [.slice a9 nv.bib.binds.length c9,.slice b9 nv.bib.sess.length d9,.int .i64 nv.bind.proto,.string nv.bind.inn,.int .i64 nv.bind.inPort,.string nv.bind.out,.int .i64 nv.bind.outPort,.int .i64 nv.code]):=((((((((HHz.set 0 (.slice a9 nv.bib.binds.length c9)).set 1 (.slice b9 nv.bib.sess.length d9)).set 2 (.int .i64 nv.bind.proto)).set 3 (.string nv.bind.inn)).set 4 (.int .i64 nv.bind.inPort)).set 5 (.string nv.bind.out)).set 6 (.int .i64 nv.bind.outPort)).set 7 (.int .i64 nv.code));have RB:Hid _:=((((((((V7.out.b.setCell (p:=⟨w.heap.size+1+1+1,0,none⟩) hRw (.slice a9 nv.bib.binds.length c9)).setCell (p:=⟨w.heap.size+1+1+1,1,none⟩) hRw (.slice b9 nv.bib.sess.length d9)).setCell (p:=⟨w.heap.size+1+1+1,2,none⟩) hRw (.int .i64 nv.bind.proto)).setCell (p:=⟨w.heap.size+1+1+1,3,none⟩) hRw (.string nv.bind.inn)).setCell (p:=⟨w.heap.size+1+1+1,4,none⟩) hRw (.int .i64 nv.bind.inPort)).setCell (p:=⟨w.heap.size+1+1+1,5,none⟩) hRw (.string nv.bind.out)).setCell (p:=⟨w.heap.size+1+1+1,6,none⟩) hRw (.int .i64 nv.bind.outPort)).setCell (p:=⟨w.heap.size+1+1+1,7,none⟩) hRw (.int .i64 nv.code));clear HHz;have HOW:Hid (BbOwn w.heap.size ((((((((wz.setCell ⟨w.heap.size+1+1+1,0,none⟩ (.slice a9 nv.bib.binds.length c9)).setCell ⟨w.heap.size+1+1+1,1,none⟩ (.slice b9 nv.bib.sess.length d9)).setCell ⟨w.heap.size+1+1+1,2,none⟩ (.int .i64 nv.bind.proto)).setCell ⟨w.heap.size+1+1+1,3,none⟩ (.string nv.bind.inn)).setCell ⟨w.heap.size+1+1+1,4,none⟩ (.int .i64 nv.bind.inPort)).setCell ⟨w.heap.size+1+1+1,5,none⟩ (.string nv.bind.out)).setCell ⟨w.heap.size+1+1+1,6,none⟩ (.int .i64 nv.bind.outPort)).setCell ⟨w.heap.size+1+1+1,7,none⟩ (.int .i64 nv.code)) a9 b9 nv.bib):=⟨(own9.bd.grown (grown_set (grown_set (grown_set (grown_set (grown_set (grown_set (grown_set (grown_set (World.grownBy.refl _ _) _) _) _) _) _) _) _) _) hRl).down hwl,(own9.ss.grown (grown_set (grown_set (grown_set (grown_set (grown_set (grown_set (grown_set (grown_set (World.grownBy.refl _ _) _) _) _) _) _) _) _) _) hRl).down hwl,own9.ne⟩
 clear own9 V7 HGO;intro K10 hK10;go_simp;refine hK10 _ _ ?_;simp only [wpSeq];go_wp2_with fail
 exact bodyPost_ret (results_mid Tryz.results54 _ _ (w.heap.size+1+1+1) [.slice a9 nv.bib.binds.length c9,.slice b9 nv.bib.sess.length d9,.int .i64 nv.bind.proto,.string nv.bind.inn,.int .i64 nv.bind.inPort,.string nv.bind.out,.int .i64 nv.bind.outPort,.int .i64 nv.code] _ rfl HRR.out Tryz.underlying96 rfl (show (Tryz.prog.info? 96).map (·.size)=some 8 by kernel_rfl)) rfl (And.intro ⟨a9,b9,c9,d9,rfl,HOW.out⟩ RB.out)
end Go.Proofs.YtcckaeppiamebaaGreatDoor
