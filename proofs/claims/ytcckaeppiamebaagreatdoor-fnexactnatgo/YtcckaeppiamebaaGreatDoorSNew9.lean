import Derived.Test.YtcckaeppiamebaaGreatDoorMerged18
import Derived.Test.YtcckaeppiamebaaGreatDoorMerged9
import Derived.Test.YtcckaeppiamebaaGreatDoorSTch1
import Derived.Great.BuildSlice
set_option linter.unusedVariables false
set_option linter.unusedSimpArgs false
set_option maxRecDepth 100000
set_option maxHeartbeats 8000000
namespace Go.Proofs.YtcckaeppiamebaaGreatDoor
open Go.RowKit Go.PlainAid
theorem spNew_any (pa:Option Addr) (pc:Nat) (p:Pl) (ba bo:Option Addr) (ca cb:Nat) (x:Bb) (t:Tc) (c:Bd) (now:Int) (w:World) (hpo:poolOk p=true) (hnow:isTime now=true) (hta:t.addr.size≤1048576) (h0:0≤t.port) (h1:t.port≤65535) (hl1:x.binds.length≤1048576) (hl2:x.sess.length≤1048576) (hp:SlIs strL1 1 w pa p.addrs) (hx:BbIs w ba bo x) :
  Calls Tryz.prog 124 #[plC pa pc p,bbC ba bo ca cb x,tcC t,bdC c,.int .i64 now] w fun e w'=>BoRet w.heap.size (newV p x t c now) e w'∧Below w.heap.size w w':=by
 obtain ⟨proto,inside,addr,port,peer,peerPort,flags⟩:=t;dsimp only at hta h0 h1;have hn:0≤now∧now≤1000000000:=by unfold isTime isIn at hnow; simp only [Bool.and_eq_true,decide_eq_true_iff] at hnow; omega
 obtain ⟨hn0,hn1⟩:=hn;have HN:Hid (∀ W,Calls Tryz.prog 162 #[.int .i64 proto,.bool inside,.int .i64 flags] W fun e w'=>e=.returned (.int .i64 (trackNewV proto inside flags))∧w'=W):=fun W=>specNew_any proto inside flags W
 have HPT:Hid (∀ W,Below w.heap.size w W→Calls Tryz.prog 163 #[.agg #[.slice pa p.addrs.length pc,.int .i64 p.low,.int .i64 p.high,.int .i64 p.most,.int .i64 p.filter,.int .i64 p.lv.udp,.int .i64 p.lv.echo,.int .i64 p.lv.opening,.int .i64 p.lv.opn,.int .i64 p.lv.closing],.agg #[.slice ba x.binds.length ca,.slice bo x.sess.length cb],.int .i64 proto,.string addr,.int .i64 port] W fun e w'=>e=.returned (.tuple #[bdC (lendV p x.binds proto addr port).1,.int .i64 (lendV p x.binds proto addr port).2])∧Below W.heap.size W w'):=fun W hW=>spPort_any p x pa pc ba bo ca cb proto addr port W hpo hta h0 h1 hl1 hl2 (hp.below hW) (hx.below hW)
 have HCY:Hid (∀ W,Below w.heap.size w W→Calls Tryz.prog 127 #[.agg #[.slice ba x.binds.length ca,.slice bo x.sess.length cb]] W fun e w'=>CopyRet W.heap.size x e w'∧Below W.heap.size W w'):=fun W hW=>spCopy_any x ba bo ca cb W hl1 hl2 (hx.below hW)
 have HBI:Hid (∀ (d:Bd) (W:World),Below w.heap.size w W→Calls Tryz.prog 122 #[.agg #[.slice ba x.binds.length ca,.slice bo x.sess.length cb],.int .i64 d.proto,.string d.inn,.int .i64 d.inPort] W fun e w'=>e=.returned (.int .i64 (findI (ofIn d.proto d.inn d.inPort) x.binds))∧Below W.heap.size W w'):=fun d W hW=>spBind_any x.binds d.proto d.inn d.inPort ba ca _ W hl1 (hx.bd.below hW)
 have HLF:Hid (∀ (st:Int) (W:World),Calls Tryz.prog 129 #[.agg #[.int .i64 p.lv.udp,.int .i64 p.lv.echo,.int .i64 p.lv.opening,.int .i64 p.lv.opn,.int .i64 p.lv.closing],.int .i64 proto,.int .i64 st] W fun e w'=>e=.returned (.int .i64 (trackLifeV p.lv proto st))∧Below W.heap.size W w'):=fun st W=>specLife_any p.lv proto st W
 have HV:Hid (newV p x ⟨proto,inside,addr,port,peer,peerPort,flags⟩ c now=if trackNewV proto inside flags=0 then boE 6 else if p.most≤(x.sess.length:Int) then boE 9 else if (if inside=true then (lendV p x.binds proto addr port).2 else 0)≠0 then boE (if inside=true then (lendV p x.binds proto addr port).2 else 0) else ⟨⟨newB x.binds (if inside=true then (lendV p x.binds proto addr port).1 else c),x.sess++[⟨proto,(if inside=true then (lendV p x.binds proto addr port).1 else c).inn,(if inside=true then (lendV p x.binds proto addr port).1 else c).inPort,peer,peerPort,trackNewV proto inside flags,now+trackLifeV p.lv proto (trackNewV proto inside flags)⟩]⟩,(if inside=true then (lendV p x.binds proto addr port).1 else c),0⟩):=rfl;unfold bdC at HPT;generalize newV p x ⟨proto,inside,addr,port,peer,peerPort,flags⟩ c now=ans at *;generalize trackNewV proto inside flags=st at *;replace HLF:=HLF.out st;obtain ⟨hf0,hf1⟩:=trackLife_in p.lv proto st;have HLG:Hid _:=HLF;clear HLF;generalize trackLifeV p.lv proto st=lf at *;generalize (lendV p x.binds proto addr port).1=lb at *;generalize (lendV p x.binds proto addr port).2=lk at *;obtain ⟨d,hd⟩ : ∃ d,d=(if inside=true then lb else c):=⟨_,rfl⟩;obtain ⟨kd,hkd⟩ : ∃ k,k=(if inside=true then lk else 0):=⟨_,rfl⟩;rw [← hd,← hkd] at HV;have HD:Hid _:=hd;have HKD:Hid _:=hkd;have HNB:Hid (newB x.binds d=if findI (ofIn d.proto d.inn d.inPort) x.binds < 0 then x.binds++[d] else x.binds):=rfl;replace HBI:=HBI.out d;have HBJ:Hid _:=HBI;clear HBI;generalize newB x.binds d=nb at *;generalize findI (ofIn d.proto d.inn d.inPort) x.binds=fi at *;have hun:undef=Value.tuple #[]:=rfl;have hRw:w.heap.size≤w.heap.size+1+1+1+1:=by omega
 have e0:HoldsL (((((w.alloc (.cells #[.slice pa p.addrs.length pc,.int .i64 p.low,.int .i64 p.high,.int .i64 p.most,.int .i64 p.filter,.int .i64 p.lv.udp,.int .i64 p.lv.echo,.int .i64 p.lv.opening,.int .i64 p.lv.opn,.int .i64 p.lv.closing] 48)).alloc (.cells #[.slice ba x.binds.length ca,.slice bo x.sess.length cb] 39)).alloc (.cells #[.int .i64 proto,.bool inside,.string addr,.int .i64 port,.string peer,.int .i64 peerPort,.int .i64 flags] 112)).alloc (.cells #[.int .i64 c.proto,.string c.inn,.int .i64 c.inPort,.string c.out,.int .i64 c.outPort] 94)).alloc (.cells #[.slice none 0 0,.slice none 0 0,.int .i64 0,.string ⟨#[]⟩,.int .i64 0,.string ⟨#[]⟩,.int .i64 0,.int .i64 0] 96)) (w.heap.size) [.slice pa p.addrs.length pc,.int .i64 p.low,.int .i64 p.high,.int .i64 p.most,.int .i64 p.filter,.int .i64 p.lv.udp,.int .i64 p.lv.echo,.int .i64 p.lv.opening,.int .i64 p.lv.opn,.int .i64 p.lv.closing]:=by
  have h:=HoldsL.new w [.slice pa p.addrs.length pc,.int .i64 p.low,.int .i64 p.high,.int .i64 p.most,.int .i64 p.filter,.int .i64 p.lv.udp,.int .i64 p.lv.echo,.int .i64 p.lv.opening,.int .i64 p.lv.opn,.int .i64 p.lv.closing] 48;try simp only [World.size_alloc] at h
  exact ((((h.alloc _).alloc _).alloc _).alloc _)
 have e1:HoldsL (((((w.alloc (.cells #[.slice pa p.addrs.length pc,.int .i64 p.low,.int .i64 p.high,.int .i64 p.most,.int .i64 p.filter,.int .i64 p.lv.udp,.int .i64 p.lv.echo,.int .i64 p.lv.opening,.int .i64 p.lv.opn,.int .i64 p.lv.closing] 48)).alloc (.cells #[.slice ba x.binds.length ca,.slice bo x.sess.length cb] 39)).alloc (.cells #[.int .i64 proto,.bool inside,.string addr,.int .i64 port,.string peer,.int .i64 peerPort,.int .i64 flags] 112)).alloc (.cells #[.int .i64 c.proto,.string c.inn,.int .i64 c.inPort,.string c.out,.int .i64 c.outPort] 94)).alloc (.cells #[.slice none 0 0,.slice none 0 0,.int .i64 0,.string ⟨#[]⟩,.int .i64 0,.string ⟨#[]⟩,.int .i64 0,.int .i64 0] 96)) (w.heap.size+1) [.slice ba x.binds.length ca,.slice bo x.sess.length cb]:=by
  have h:=HoldsL.new (w.alloc (.cells #[.slice pa p.addrs.length pc,.int .i64 p.low,.int .i64 p.high,.int .i64 p.most,.int .i64 p.filter,.int .i64 p.lv.udp,.int .i64 p.lv.echo,.int .i64 p.lv.opening,.int .i64 p.lv.opn,.int .i64 p.lv.closing] 48)) [.slice ba x.binds.length ca,.slice bo x.sess.length cb] 39;try simp only [World.size_alloc] at h
  exact (((h.alloc _).alloc _).alloc _)
 have e2:HoldsL (((((w.alloc (.cells #[.slice pa p.addrs.length pc,.int .i64 p.low,.int .i64 p.high,.int .i64 p.most,.int .i64 p.filter,.int .i64 p.lv.udp,.int .i64 p.lv.echo,.int .i64 p.lv.opening,.int .i64 p.lv.opn,.int .i64 p.lv.closing] 48)).alloc (.cells #[.slice ba x.binds.length ca,.slice bo x.sess.length cb] 39)).alloc (.cells #[.int .i64 proto,.bool inside,.string addr,.int .i64 port,.string peer,.int .i64 peerPort,.int .i64 flags] 112)).alloc (.cells #[.int .i64 c.proto,.string c.inn,.int .i64 c.inPort,.string c.out,.int .i64 c.outPort] 94)).alloc (.cells #[.slice none 0 0,.slice none 0 0,.int .i64 0,.string ⟨#[]⟩,.int .i64 0,.string ⟨#[]⟩,.int .i64 0,.int .i64 0] 96)) (w.heap.size+1+1) [.int .i64 proto,.bool inside,.string addr,.int .i64 port,.string peer,.int .i64 peerPort,.int .i64 flags]:=by
  have h:=HoldsL.new ((w.alloc (.cells #[.slice pa p.addrs.length pc,.int .i64 p.low,.int .i64 p.high,.int .i64 p.most,.int .i64 p.filter,.int .i64 p.lv.udp,.int .i64 p.lv.echo,.int .i64 p.lv.opening,.int .i64 p.lv.opn,.int .i64 p.lv.closing] 48)).alloc (.cells #[.slice ba x.binds.length ca,.slice bo x.sess.length cb] 39)) [.int .i64 proto,.bool inside,.string addr,.int .i64 port,.string peer,.int .i64 peerPort,.int .i64 flags] 112;try simp only [World.size_alloc] at h
  exact ((h.alloc _).alloc _)
 have e3:HoldsL (((((w.alloc (.cells #[.slice pa p.addrs.length pc,.int .i64 p.low,.int .i64 p.high,.int .i64 p.most,.int .i64 p.filter,.int .i64 p.lv.udp,.int .i64 p.lv.echo,.int .i64 p.lv.opening,.int .i64 p.lv.opn,.int .i64 p.lv.closing] 48)).alloc (.cells #[.slice ba x.binds.length ca,.slice bo x.sess.length cb] 39)).alloc (.cells #[.int .i64 proto,.bool inside,.string addr,.int .i64 port,.string peer,.int .i64 peerPort,.int .i64 flags] 112)).alloc (.cells #[.int .i64 c.proto,.string c.inn,.int .i64 c.inPort,.string c.out,.int .i64 c.outPort] 94)).alloc (.cells #[.slice none 0 0,.slice none 0 0,.int .i64 0,.string ⟨#[]⟩,.int .i64 0,.string ⟨#[]⟩,.int .i64 0,.int .i64 0] 96)) (w.heap.size+1+1+1) [.int .i64 c.proto,.string c.inn,.int .i64 c.inPort,.string c.out,.int .i64 c.outPort]:=by
  have h:=HoldsL.new (((w.alloc (.cells #[.slice pa p.addrs.length pc,.int .i64 p.low,.int .i64 p.high,.int .i64 p.most,.int .i64 p.filter,.int .i64 p.lv.udp,.int .i64 p.lv.echo,.int .i64 p.lv.opening,.int .i64 p.lv.opn,.int .i64 p.lv.closing] 48)).alloc (.cells #[.slice ba x.binds.length ca,.slice bo x.sess.length cb] 39)).alloc (.cells #[.int .i64 proto,.bool inside,.string addr,.int .i64 port,.string peer,.int .i64 peerPort,.int .i64 flags] 112)) [.int .i64 c.proto,.string c.inn,.int .i64 c.inPort,.string c.out,.int .i64 c.outPort] 94;try simp only [World.size_alloc] at h
  exact (h.alloc _)
 have e4:HoldsL (((((w.alloc (.cells #[.slice pa p.addrs.length pc,.int .i64 p.low,.int .i64 p.high,.int .i64 p.most,.int .i64 p.filter,.int .i64 p.lv.udp,.int .i64 p.lv.echo,.int .i64 p.lv.opening,.int .i64 p.lv.opn,.int .i64 p.lv.closing] 48)).alloc (.cells #[.slice ba x.binds.length ca,.slice bo x.sess.length cb] 39)).alloc (.cells #[.int .i64 proto,.bool inside,.string addr,.int .i64 port,.string peer,.int .i64 peerPort,.int .i64 flags] 112)).alloc (.cells #[.int .i64 c.proto,.string c.inn,.int .i64 c.inPort,.string c.out,.int .i64 c.outPort] 94)).alloc (.cells #[.slice none 0 0,.slice none 0 0,.int .i64 0,.string ⟨#[]⟩,.int .i64 0,.string ⟨#[]⟩,.int .i64 0,.int .i64 0] 96)) (w.heap.size+1+1+1+1) [.slice none 0 0,.slice none 0 0,.int .i64 0,.string ⟨#[]⟩,.int .i64 0,.string ⟨#[]⟩,.int .i64 0,.int .i64 0]:=by
  have h:=HoldsL.new ((((w.alloc (.cells #[.slice pa p.addrs.length pc,.int .i64 p.low,.int .i64 p.high,.int .i64 p.most,.int .i64 p.filter,.int .i64 p.lv.udp,.int .i64 p.lv.echo,.int .i64 p.lv.opening,.int .i64 p.lv.opn,.int .i64 p.lv.closing] 48)).alloc (.cells #[.slice ba x.binds.length ca,.slice bo x.sess.length cb] 39)).alloc (.cells #[.int .i64 proto,.bool inside,.string addr,.int .i64 port,.string peer,.int .i64 peerPort,.int .i64 flags] 112)).alloc (.cells #[.int .i64 c.proto,.string c.inn,.int .i64 c.inPort,.string c.out,.int .i64 c.outPort] 94)) [.slice none 0 0,.slice none 0 0,.int .i64 0,.string ⟨#[]⟩,.int .i64 0,.string ⟨#[]⟩,.int .i64 0,.int .i64 0] 96;try simp only [World.size_alloc] at h
  exact h
 have HS0:Hid (Bxs w [(w.heap.size,[.slice pa p.addrs.length pc,.int .i64 p.low,.int .i64 p.high,.int .i64 p.most,.int .i64 p.filter,.int .i64 p.lv.udp,.int .i64 p.lv.echo,.int .i64 p.lv.opening,.int .i64 p.lv.opn,.int .i64 p.lv.closing]),(w.heap.size+1,[.slice ba x.binds.length ca,.slice bo x.sess.length cb]),(w.heap.size+1+1,[.int .i64 proto,.bool inside,.string addr,.int .i64 port,.string peer,.int .i64 peerPort,.int .i64 flags]),(w.heap.size+1+1+1,[.int .i64 c.proto,.string c.inn,.int .i64 c.inPort,.string c.out,.int .i64 c.outPort]),(w.heap.size+1+1+1+1,[.slice none 0 0,.slice none 0 0,.int .i64 0,.string ⟨#[]⟩,.int .i64 0,.string ⟨#[]⟩,.int .i64 0,.int .i64 0])] (((((w.alloc (.cells #[.slice pa p.addrs.length pc,.int .i64 p.low,.int .i64 p.high,.int .i64 p.most,.int .i64 p.filter,.int .i64 p.lv.udp,.int .i64 p.lv.echo,.int .i64 p.lv.opening,.int .i64 p.lv.opn,.int .i64 p.lv.closing] 48)).alloc (.cells #[.slice ba x.binds.length ca,.slice bo x.sess.length cb] 39)).alloc (.cells #[.int .i64 proto,.bool inside,.string addr,.int .i64 port,.string peer,.int .i64 peerPort,.int .i64 flags] 112)).alloc (.cells #[.int .i64 c.proto,.string c.inn,.int .i64 c.inPort,.string c.out,.int .i64 c.outPort] 94)).alloc (.cells #[.slice none 0 0,.slice none 0 0,.int .i64 0,.string ⟨#[]⟩,.int .i64 0,.string ⟨#[]⟩,.int .i64 0,.int .i64 0] 96))):=by
  refine ⟨fun e he=>?_,((((((Below.refl _ _).alloc (Nat.le_refl _) _).alloc (by simp only [World.size_alloc]; omega) _).alloc (by simp only [World.size_alloc]; omega) _).alloc (by simp only [World.size_alloc]; omega) _).alloc (by simp only [World.size_alloc]; omega) _),fun e he=>?_⟩
  ·simp only [List.mem_cons,List.not_mem_nil,or_false] at he;rcases he with rfl | rfl | rfl | rfl | rfl
   ·exact e0
   ·exact e1
   ·exact e2
   ·exact e3
   ·exact e4
  ·simp only [List.mem_cons,List.not_mem_nil,or_false] at he;rcases he with rfl | rfl | rfl | rfl | rfl<;>simp
 clear e0 e1 e2 e3 e4 hp hx hd hkd hpo hnow;unfold plC bbC tcC bdC;go_enter Tryz.func124,Tryz.ntmps124
 go_upto_region 1 with fail
 generalize (((((w.alloc (.cells #[.slice pa p.addrs.length pc,.int .i64 p.low,.int .i64 p.high,.int .i64 p.most,.int .i64 p.filter,.int .i64 p.lv.udp,.int .i64 p.lv.echo,.int .i64 p.lv.opening,.int .i64 p.lv.opn,.int .i64 p.lv.closing] 48)).alloc (.cells #[.slice ba x.binds.length ca,.slice bo x.sess.length cb] 39)).alloc (.cells #[.int .i64 proto,.bool inside,.string addr,.int .i64 port,.string peer,.int .i64 peerPort,.int .i64 flags] 112)).alloc (.cells #[.int .i64 c.proto,.string c.inn,.int .i64 c.inPort,.string c.out,.int .i64 c.outPort] 94)).alloc (.cells #[.slice none 0 0,.slice none 0 0,.int .i64 0,.string ⟨#[]⟩,.int .i64 0,.string ⟨#[]⟩,.int .i64 0,.int .i64 0] 96))=W at *;have HHt:=HS0.out.at (.tail _ (.tail _ (.head _)));obtain ⟨t0,t1,t2,t3,t4,t5,t6⟩:=HHt.c7;clear HHt;have HHb:=HS0.out.at (.tail _ (.head _));obtain ⟨b0,b1⟩:=HHb.c2;clear HHb;have HHp:=HS0.out.at (.head _);have p3:=HHp.cell (j:=3) rfl;clear HHp;go_wp2_with fail
 refine (HN.out _).mono ?_;rintro e W ⟨rfl,rfl⟩;by_cases hst:st=0
 case pos =>
  have dst:(st==0)=true:=by simp [hst]
  have HX:Hid (ans=boE (6)):=by unfold Hid; rw [HV.out,if_pos hst]
  have HHz:=HS0.out.at (.tail _ (.tail _ (.tail _ (.tail _ (.head _)))));obtain ⟨z0,z1,z2,z3,z4,z5,z6,z7⟩:=HHz.c8;obtain ⟨zf0,zf1,zf2,zf3,zf4,zf5,zf6,zf7⟩:=HHz.f8;have HRR:Hid (HoldsL ((((((((W.setCell ⟨w.heap.size+1+1+1+1,0,none⟩ (.slice none 0 0)).setCell ⟨w.heap.size+1+1+1+1,1,none⟩ (.slice none 0 0)).setCell ⟨w.heap.size+1+1+1+1,2,none⟩ (.int .i64 0)).setCell ⟨w.heap.size+1+1+1+1,3,none⟩ (.string ⟨#[]⟩)).setCell ⟨w.heap.size+1+1+1+1,4,none⟩ (.int .i64 0)).setCell ⟨w.heap.size+1+1+1+1,5,none⟩ (.string ⟨#[]⟩)).setCell ⟨w.heap.size+1+1+1+1,6,none⟩ (.int .i64 0)).setCell ⟨w.heap.size+1+1+1+1,7,none⟩ (.int .i64 (6))) (w.heap.size+1+1+1+1) [.slice none 0 0,.slice none 0 0,.int .i64 0,.string ⟨#[]⟩,.int .i64 0,.string ⟨#[]⟩,.int .i64 0,.int .i64 (6)]):=((((((((HHz.set 0 (.slice none 0 0)).set 1 (.slice none 0 0)).set 2 (.int .i64 0)).set 3 (.string ⟨#[]⟩)).set 4 (.int .i64 0)).set 5 (.string ⟨#[]⟩)).set 6 (.int .i64 0)).set 7 (.int .i64 (6)));have RB:Hid _:=((((((((HS0.out.b.setCell (p:=⟨w.heap.size+1+1+1+1,0,none⟩) hRw (.slice none 0 0)).setCell (p:=⟨w.heap.size+1+1+1+1,1,none⟩) hRw (.slice none 0 0)).setCell (p:=⟨w.heap.size+1+1+1+1,2,none⟩) hRw (.int .i64 0)).setCell (p:=⟨w.heap.size+1+1+1+1,3,none⟩) hRw (.string ⟨#[]⟩)).setCell (p:=⟨w.heap.size+1+1+1+1,4,none⟩) hRw (.int .i64 0)).setCell (p:=⟨w.heap.size+1+1+1+1,5,none⟩) hRw (.string ⟨#[]⟩)).setCell (p:=⟨w.heap.size+1+1+1+1,6,none⟩) hRw (.int .i64 0)).setCell (p:=⟨w.heap.size+1+1+1+1,7,none⟩) hRw (.int .i64 (6)));clear HHz;go_wp2_with fail
  exact bodyPost_ret (results_mid Tryz.results124 _ _ (w.heap.size+1+1+1+1) [.slice none 0 0,.slice none 0 0,.int .i64 0,.string ⟨#[]⟩,.int .i64 0,.string ⟨#[]⟩,.int .i64 0,.int .i64 (6)] _ rfl HRR.out Tryz.underlying96 rfl (show (Tryz.prog.info? 96).map (·.size)=some 8 by kernel_rfl)) rfl (And.intro (by rw [HX.out]; exact ⟨none,none,0,0,rfl,.inl rfl,.inl rfl,fun g h e1=>by simp at e1⟩) RB.out)
 have dst:(st==0)=false:=by simp [hst]
 by_cases hm:p.most≤(x.sess.length:Int)
 case pos =>
  have HX:Hid (ans=boE (9)):=by unfold Hid; rw [HV.out,if_neg hst,if_pos hm]
  have HHz:=HS0.out.at (.tail _ (.tail _ (.tail _ (.tail _ (.head _)))));obtain ⟨z0,z1,z2,z3,z4,z5,z6,z7⟩:=HHz.c8;obtain ⟨zf0,zf1,zf2,zf3,zf4,zf5,zf6,zf7⟩:=HHz.f8;have HRR:Hid (HoldsL ((((((((W.setCell ⟨w.heap.size+1+1+1+1,0,none⟩ (.slice none 0 0)).setCell ⟨w.heap.size+1+1+1+1,1,none⟩ (.slice none 0 0)).setCell ⟨w.heap.size+1+1+1+1,2,none⟩ (.int .i64 0)).setCell ⟨w.heap.size+1+1+1+1,3,none⟩ (.string ⟨#[]⟩)).setCell ⟨w.heap.size+1+1+1+1,4,none⟩ (.int .i64 0)).setCell ⟨w.heap.size+1+1+1+1,5,none⟩ (.string ⟨#[]⟩)).setCell ⟨w.heap.size+1+1+1+1,6,none⟩ (.int .i64 0)).setCell ⟨w.heap.size+1+1+1+1,7,none⟩ (.int .i64 (9))) (w.heap.size+1+1+1+1) [.slice none 0 0,.slice none 0 0,.int .i64 0,.string ⟨#[]⟩,.int .i64 0,.string ⟨#[]⟩,.int .i64 0,.int .i64 (9)]):=((((((((HHz.set 0 (.slice none 0 0)).set 1 (.slice none 0 0)).set 2 (.int .i64 0)).set 3 (.string ⟨#[]⟩)).set 4 (.int .i64 0)).set 5 (.string ⟨#[]⟩)).set 6 (.int .i64 0)).set 7 (.int .i64 (9)));have RB:Hid _:=((((((((HS0.out.b.setCell (p:=⟨w.heap.size+1+1+1+1,0,none⟩) hRw (.slice none 0 0)).setCell (p:=⟨w.heap.size+1+1+1+1,1,none⟩) hRw (.slice none 0 0)).setCell (p:=⟨w.heap.size+1+1+1+1,2,none⟩) hRw (.int .i64 0)).setCell (p:=⟨w.heap.size+1+1+1+1,3,none⟩) hRw (.string ⟨#[]⟩)).setCell (p:=⟨w.heap.size+1+1+1+1,4,none⟩) hRw (.int .i64 0)).setCell (p:=⟨w.heap.size+1+1+1+1,5,none⟩) hRw (.string ⟨#[]⟩)).setCell (p:=⟨w.heap.size+1+1+1+1,6,none⟩) hRw (.int .i64 0)).setCell (p:=⟨w.heap.size+1+1+1+1,7,none⟩) hRw (.int .i64 (9)));clear HHz;go_wp2_with fail
  exact bodyPost_ret (results_mid Tryz.results124 _ _ (w.heap.size+1+1+1+1) [.slice none 0 0,.slice none 0 0,.int .i64 0,.string ⟨#[]⟩,.int .i64 0,.string ⟨#[]⟩,.int .i64 0,.int .i64 (9)] _ rfl HRR.out Tryz.underlying96 rfl (show (Tryz.prog.info? 96).map (·.size)=some 8 by kernel_rfl)) rfl (And.intro (by rw [HX.out]; exact ⟨none,none,0,0,rfl,.inl rfl,.inl rfl,fun g h e1=>by simp at e1⟩) RB.out)
 rw [if_neg hst,if_neg hm] at HV;go_upto_if 32 with fail
 clear p3 hm dst;go_cut [12] (fun v wx=>v=.int .i64 kd∧Bxs w [(w.heap.size,[.slice pa p.addrs.length pc,.int .i64 p.low,.int .i64 p.high,.int .i64 p.most,.int .i64 p.filter,.int .i64 p.lv.udp,.int .i64 p.lv.echo,.int .i64 p.lv.opening,.int .i64 p.lv.opn,.int .i64 p.lv.closing]),(w.heap.size+1,[.slice ba x.binds.length ca,.slice bo x.sess.length cb]),(w.heap.size+1+1,[.int .i64 proto,.bool inside,.string addr,.int .i64 port,.string peer,.int .i64 peerPort,.int .i64 flags]),(w.heap.size+1+1+1,[.int .i64 d.proto,.string d.inn,.int .i64 d.inPort,.string d.out,.int .i64 d.outPort]),(w.heap.size+1+1+1+1,[.slice none 0 0,.slice none 0 0,.int .i64 0,.string ⟨#[]⟩,.int .i64 0,.string ⟨#[]⟩,.int .i64 0,.int .i64 0])] wx)
 case first =>
  clear HV HLG HN HBJ HCY HNB
  cases inside with
  | false =>
   have hd:d=c:=by rw [HD.out]; rfl
   have hk:kd=0:=by rw [HKD.out]; rfl
   go_wp2_with fail
   go_meet;exact ⟨by rw [hk],by rw [hd]; exact HS0.out⟩
  | true =>
   have hd:d=lb:=by rw [HD.out]; rfl
   have hk:kd=lk:=by rw [HKD.out]; rfl
   have HHp:=HS0.out.at (.head _);obtain ⟨p0,p1,p2,p3,p4,p5,p6,p7,p8,p9⟩:=HHp.c10;clear HHp;go_wp2_with fail
   refine (HPT.out _ HS0.out.b).mono ?_;rintro e W2 ⟨rfl,q2⟩;have S2:Hid _:=HS0.out.kept q2;clear q2;have HHx:=S2.out.at (.tail _ (.tail _ (.tail _ (.head _))));obtain ⟨x0,x1,x2,x3,x4⟩:=HHx.c5;obtain ⟨xf0,xf1,xf2,xf3,xf4⟩:=HHx.f5;have HBX:Hid (Bxs w [(w.heap.size,[.slice pa p.addrs.length pc,.int .i64 p.low,.int .i64 p.high,.int .i64 p.most,.int .i64 p.filter,.int .i64 p.lv.udp,.int .i64 p.lv.echo,.int .i64 p.lv.opening,.int .i64 p.lv.opn,.int .i64 p.lv.closing]),(w.heap.size+1,[.slice ba x.binds.length ca,.slice bo x.sess.length cb]),(w.heap.size+1+1,[.int .i64 proto,.bool true,.string addr,.int .i64 port,.string peer,.int .i64 peerPort,.int .i64 flags]),(w.heap.size+1+1+1,[.int .i64 lb.proto,.string lb.inn,.int .i64 lb.inPort,.string lb.out,.int .i64 lb.outPort]),(w.heap.size+1+1+1+1,[.slice none 0 0,.slice none 0 0,.int .i64 0,.string ⟨#[]⟩,.int .i64 0,.string ⟨#[]⟩,.int .i64 0,.int .i64 0])] (((((W2.setCell ⟨w.heap.size+1+1+1,0,none⟩ (.int .i64 lb.proto)).setCell ⟨w.heap.size+1+1+1,1,none⟩ (.string lb.inn)).setCell ⟨w.heap.size+1+1+1,2,none⟩ (.int .i64 lb.inPort)).setCell ⟨w.heap.size+1+1+1,3,none⟩ (.string lb.out)).setCell ⟨w.heap.size+1+1+1,4,none⟩ (.int .i64 lb.outPort))):=by
    refine ⟨fun e he=>?_,(((((S2.out.b.setCell (p:=⟨w.heap.size+1+1+1,0,none⟩) (by show w.heap.size≤w.heap.size+1+1+1; omega) (.int .i64 lb.proto)).setCell (p:=⟨w.heap.size+1+1+1,1,none⟩) (by show w.heap.size≤w.heap.size+1+1+1; omega) (.string lb.inn)).setCell (p:=⟨w.heap.size+1+1+1,2,none⟩) (by show w.heap.size≤w.heap.size+1+1+1; omega) (.int .i64 lb.inPort)).setCell (p:=⟨w.heap.size+1+1+1,3,none⟩) (by show w.heap.size≤w.heap.size+1+1+1; omega) (.string lb.out)).setCell (p:=⟨w.heap.size+1+1+1,4,none⟩) (by show w.heap.size≤w.heap.size+1+1+1; omega) (.int .i64 lb.outPort)),fun e he=>?_⟩
    ·simp only [List.mem_cons,List.not_mem_nil,or_false] at he;rcases he with rfl | rfl | rfl | rfl | rfl
     ·exact (HoldsL.setOther (HoldsL.setOther (HoldsL.setOther (HoldsL.setOther (HoldsL.setOther (S2.out.k _ (.head _)) (by show w.heap.size≠w.heap.size+1+1+1; omega) (.int .i64 lb.proto)) (by show w.heap.size≠w.heap.size+1+1+1; omega) (.string lb.inn)) (by show w.heap.size≠w.heap.size+1+1+1; omega) (.int .i64 lb.inPort)) (by show w.heap.size≠w.heap.size+1+1+1; omega) (.string lb.out)) (by show w.heap.size≠w.heap.size+1+1+1; omega) (.int .i64 lb.outPort))
     ·exact (HoldsL.setOther (HoldsL.setOther (HoldsL.setOther (HoldsL.setOther (HoldsL.setOther (S2.out.k _ (.tail _ (.head _))) (by show w.heap.size+1≠w.heap.size+1+1+1; omega) (.int .i64 lb.proto)) (by show w.heap.size+1≠w.heap.size+1+1+1; omega) (.string lb.inn)) (by show w.heap.size+1≠w.heap.size+1+1+1; omega) (.int .i64 lb.inPort)) (by show w.heap.size+1≠w.heap.size+1+1+1; omega) (.string lb.out)) (by show w.heap.size+1≠w.heap.size+1+1+1; omega) (.int .i64 lb.outPort))
     ·exact (HoldsL.setOther (HoldsL.setOther (HoldsL.setOther (HoldsL.setOther (HoldsL.setOther (S2.out.k _ (.tail _ (.tail _ (.head _)))) (by show w.heap.size+1+1≠w.heap.size+1+1+1; omega) (.int .i64 lb.proto)) (by show w.heap.size+1+1≠w.heap.size+1+1+1; omega) (.string lb.inn)) (by show w.heap.size+1+1≠w.heap.size+1+1+1; omega) (.int .i64 lb.inPort)) (by show w.heap.size+1+1≠w.heap.size+1+1+1; omega) (.string lb.out)) (by show w.heap.size+1+1≠w.heap.size+1+1+1; omega) (.int .i64 lb.outPort))
     ·exact (((((HHx.set 0 (.int .i64 lb.proto)).set 1 (.string lb.inn)).set 2 (.int .i64 lb.inPort)).set 3 (.string lb.out)).set 4 (.int .i64 lb.outPort))
     ·exact (HoldsL.setOther (HoldsL.setOther (HoldsL.setOther (HoldsL.setOther (HoldsL.setOther (S2.out.k _ (.tail _ (.tail _ (.tail _ (.tail _ (.head _)))))) (by show w.heap.size+1+1+1+1≠w.heap.size+1+1+1; omega) (.int .i64 lb.proto)) (by show w.heap.size+1+1+1+1≠w.heap.size+1+1+1; omega) (.string lb.inn)) (by show w.heap.size+1+1+1+1≠w.heap.size+1+1+1; omega) (.int .i64 lb.inPort)) (by show w.heap.size+1+1+1+1≠w.heap.size+1+1+1; omega) (.string lb.out)) (by show w.heap.size+1+1+1+1≠w.heap.size+1+1+1; omega) (.int .i64 lb.outPort))
    ·simp only [List.mem_cons,List.not_mem_nil,or_false] at he;rcases he with rfl | rfl | rfl | rfl | rfl<;>simp
   clear HHx;go_wp2_with fail
   go_meet;exact ⟨by rw [hk],by rw [hd]; exact HBX.out⟩
 case rest =>
 obtain ⟨rfl,hS⟩:=hcut;have S1:Hid _:=hS;clear hS HS0 HPT HN t0 t1 t2 t3 t4 t5 t6 b0 b1;generalize wc=W1 at *;by_cases hk:kd=0
 case neg =>
  have dk:(kd != 0)=true:=by simp [hk]
  have HX:Hid (ans=boE (kd)):=by unfold Hid; rw [HV.out,if_pos hk]
  have HHz:=S1.out.at (.tail _ (.tail _ (.tail _ (.tail _ (.head _)))));obtain ⟨z0,z1,z2,z3,z4,z5,z6,z7⟩:=HHz.c8;obtain ⟨zf0,zf1,zf2,zf3,zf4,zf5,zf6,zf7⟩:=HHz.f8;have HRR:Hid (HoldsL ((((((((W1.setCell ⟨w.heap.size+1+1+1+1,0,none⟩ (.slice none 0 0)).setCell ⟨w.heap.size+1+1+1+1,1,none⟩ (.slice none 0 0)).setCell ⟨w.heap.size+1+1+1+1,2,none⟩ (.int .i64 0)).setCell ⟨w.heap.size+1+1+1+1,3,none⟩ (.string ⟨#[]⟩)).setCell ⟨w.heap.size+1+1+1+1,4,none⟩ (.int .i64 0)).setCell ⟨w.heap.size+1+1+1+1,5,none⟩ (.string ⟨#[]⟩)).setCell ⟨w.heap.size+1+1+1+1,6,none⟩ (.int .i64 0)).setCell ⟨w.heap.size+1+1+1+1,7,none⟩ (.int .i64 (kd))) (w.heap.size+1+1+1+1) [.slice none 0 0,.slice none 0 0,.int .i64 0,.string ⟨#[]⟩,.int .i64 0,.string ⟨#[]⟩,.int .i64 0,.int .i64 (kd)]):=((((((((HHz.set 0 (.slice none 0 0)).set 1 (.slice none 0 0)).set 2 (.int .i64 0)).set 3 (.string ⟨#[]⟩)).set 4 (.int .i64 0)).set 5 (.string ⟨#[]⟩)).set 6 (.int .i64 0)).set 7 (.int .i64 (kd)));have RB:Hid _:=((((((((S1.out.b.setCell (p:=⟨w.heap.size+1+1+1+1,0,none⟩) hRw (.slice none 0 0)).setCell (p:=⟨w.heap.size+1+1+1+1,1,none⟩) hRw (.slice none 0 0)).setCell (p:=⟨w.heap.size+1+1+1+1,2,none⟩) hRw (.int .i64 0)).setCell (p:=⟨w.heap.size+1+1+1+1,3,none⟩) hRw (.string ⟨#[]⟩)).setCell (p:=⟨w.heap.size+1+1+1+1,4,none⟩) hRw (.int .i64 0)).setCell (p:=⟨w.heap.size+1+1+1+1,5,none⟩) hRw (.string ⟨#[]⟩)).setCell (p:=⟨w.heap.size+1+1+1+1,6,none⟩) hRw (.int .i64 0)).setCell (p:=⟨w.heap.size+1+1+1+1,7,none⟩) hRw (.int .i64 (kd)));clear HHz;go_wp2_with fail
  exact bodyPost_ret (results_mid Tryz.results124 _ _ (w.heap.size+1+1+1+1) [.slice none 0 0,.slice none 0 0,.int .i64 0,.string ⟨#[]⟩,.int .i64 0,.string ⟨#[]⟩,.int .i64 0,.int .i64 (kd)] _ rfl HRR.out Tryz.underlying96 rfl (show (Tryz.prog.info? 96).map (·.size)=some 8 by kernel_rfl)) rfl (And.intro (by rw [HX.out]; exact ⟨none,none,0,0,rfl,.inl rfl,.inl rfl,fun g h e1=>by simp at e1⟩) RB.out)
 have dk:(kd != 0)=false:=by simp [hk]
 rw [if_neg (by simp [hk])] at HV;clear hk;have HHb:=S1.out.at (.tail _ (.head _));obtain ⟨b0,b1⟩:=HHb.c2;clear HHb;go_wp2_with fail
 refine (HCY.out _ S1.out.b).mono ?_;rintro e W5 ⟨⟨bv,sv,rfl,o1,o2⟩,q5⟩;have S5:Hid _:=S1.out.kept q5;have HO:Hid _:=RowsO.make (ks:=[(w.heap.size,[.slice pa p.addrs.length pc,.int .i64 p.low,.int .i64 p.high,.int .i64 p.most,.int .i64 p.filter,.int .i64 p.lv.udp,.int .i64 p.lv.echo,.int .i64 p.lv.opening,.int .i64 p.lv.opn,.int .i64 p.lv.closing]),(w.heap.size+1,[.slice ba x.binds.length ca,.slice bo x.sess.length cb]),(w.heap.size+1+1,[.int .i64 proto,.bool inside,.string addr,.int .i64 port,.string peer,.int .i64 peerPort,.int .i64 flags]),(w.heap.size+1+1+1,[.int .i64 d.proto,.string d.inn,.int .i64 d.inPort,.string d.out,.int .i64 d.outPort]),(w.heap.size+1+1+1+1,[.slice none 0 0,.slice none 0 0,.int .i64 0,.string ⟨#[]⟩,.int .i64 0,.string ⟨#[]⟩,.int .i64 0,.int .i64 0])]) (x:=x) S1.out.b.size S5.out.b o1 o2 S5.out.k S1.out.lts q5.size;obtain ⟨ab,cb1,hbv,-,-⟩:=(Row.shape bdL_length (w0:=W5) ⟨o1,Below.refl _ _⟩ : ∃ a' cap,bv=.slice a' x.binds.length cap∧x.binds.length≤cap∧SlOwn bdL 5 W1.heap.size W5 a' x.binds);obtain ⟨sa,cs1,hsv,-,-⟩:=(Row.shape ssL_length (w0:=W5) ⟨o2,Below.refl _ _⟩ : ∃ a' cap,sv=.slice a' x.sess.length cap∧x.sess.length≤cap∧SlOwn ssL 7 W1.heap.size W5 a' x.sess);subst hbv hsv;clear q5 o1 o2 S5 S1 b0 b1 dk;go_upto_region 12 with fail
 generalize W5.alloc (.cells #[(.slice ab x.binds.length cb1),(.slice sa x.sess.length cs1)] 39)=W6 at *;generalize W5.heap.size=O at *;generalize W1.heap.size=base at *;have HHb:=HO.out.at (.tail _ (.head _));obtain ⟨b0,b1⟩:=HHb.c2;clear HHb;have HHx:=HO.out.at (.tail _ (.tail _ (.tail _ (.head _))));obtain ⟨x0,x1,x2,x3,x4⟩:=HHx.c5;clear HHx;go_wp2_with fail
 refine (HBJ.out _ HO.out.b).mono ?_;rintro e W7 ⟨rfl,q7⟩;have S7:Hid _:=HO.out.kept q7;clear q7 HO b0 b1 x0 x1 x2 x3 x4;by_cases hfi:fi < 0
 ·
  have hnb:nb=x.binds++[d]:=by rw [HNB.out,if_pos hfi]
  rw [hnb] at HV;clear hnb HNB;have bn:Below W7.heap.size W7 (W7.alloc (.cells #[.int .i64 d.proto,.string d.inn,.int .i64 d.inPort,.string d.out,.int .i64 d.outPort] 94)):=(Below.refl _ _).alloc (Nat.le_refl _) _;obtain ⟨v6,w6,hrun,⟨gb,lb6,cb6,rfl⟩,hO6,S6⟩:=(S7.out.kept bn).appB d W7.heap.size (HoldsL.new W7 (bdL d) 94) hl1;have HRUN:Hid _:=hrun;have S8:Hid _:=S6;have k0:=S7.out.o.cell (j:=0) rfl;have HHx:=S7.out.at (.tail _ (.tail _ (.tail _ (.head _))));obtain ⟨x0,x1,x2,x3,x4⟩:=HHx.c5;clear HHx;have p1:=hO6.cell (j:=0) rfl;have p2:=hO6.free (j:=0) (by simp);clear hrun S6 hO6 S7 bn;go_upto_region 14 with (first | (at_builtin; refine wpList_append_run rfl (.tmp 61) (.tmp 63) _ rfl rfl rfl HRUN.out ?_) | go_in)
  clear HRUN p1 p2 k0 x0 x1 x2 x3 x4;generalize w6.setCell ⟨O,0,none⟩ (.slice (some ⟨gb,0,none⟩) lb6 cb6)=W8 at *;have HCP:Hid (∀ wy,Below W8.drew.heap.size W8.drew wy→_):=fun wy hy=>S8.out.kept ((Below.refl _ _).drew.trans hy)
  clear hun;refine wp_region_growV [66,67,68,69,70,71,72,73,74,75,76,77,78,79,80,81,82,83,84,85,86,87,88] (by kernel_rfl) (by kernel_rfl) ?_;apply GChV.v0
  ·rfl
  ·intro K' a wy ho hd hb hK kz;have o13:=ho 13 (by decide);simp [slot] at o13;clear hd ho;go_simp;try go_bits
   exact kz _ rfl
  apply GChV.v1
  ·rfl
  ·intro K' a wy ho hd hb hK kz;have q0:=hd ⟨0,.data⟩ (by simp) rfl;simp [rAt,IsV,slot] at q0;clear hd ho;have hst:=HCP.out wy hb;have ko:=hst.o.cell (j:=1) rfl;have HHt:=hst.at (.tail _ (.tail _ (.head _)));obtain ⟨t0,t1,t2,t3,t4,t5,t6⟩:=HHt.c7;clear HHt;have HHx:=hst.at (.tail _ (.tail _ (.tail _ (.head _))));obtain ⟨x0,x1,x2,x3,x4⟩:=HHx.c5;clear HHx;have HHp:=hst.at (.head _);obtain ⟨-,-,-,-,-,p5,p6,p7,p8,p9⟩:=HHp.c10;clear HHp;clear hst;go_simp;try go_bits
   exact kz _ rfl
  apply GChV.v2
  ·rfl
  ·intro K' a wy ho hd hb hK kz;have o7:=ho 7 (by decide);simp [slot] at o7;clear hd ho;go_simp;try go_bits
   exact kz _ rfl
  apply GChV.v3
  ·rfl
  ·intro K' a wy ho hd hb hK kz;have q2:=hd ⟨2,.data⟩ (by simp) rfl;simp [rAt,IsV,slot] at q2;clear hd ho;have hst:=HCP.out wy hb;have ko:=hst.o.cell (j:=1) rfl;have HHt:=hst.at (.tail _ (.tail _ (.head _)));obtain ⟨t0,t1,t2,t3,t4,t5,t6⟩:=HHt.c7;clear HHt;have HHx:=hst.at (.tail _ (.tail _ (.tail _ (.head _))));obtain ⟨x0,x1,x2,x3,x4⟩:=HHx.c5;clear HHx;have HHp:=hst.at (.head _);obtain ⟨-,-,-,-,-,p5,p6,p7,p8,p9⟩:=HHp.c10;clear HHp;clear hst;go_simp;try go_bits
   exact kz _ rfl
  apply GChV.v4
  ·rfl
  ·intro K' a wy ho hd hb hK kz;have o8:=ho 8 (by decide);simp [slot] at o8;clear hd ho;go_simp;try go_bits
   exact kz _ rfl
  apply GChV.v5
  ·rfl
  ·intro K' a wy ho hd hb hK kz;have q4:=hd ⟨4,.data⟩ (by simp) rfl;simp [rAt,IsV,slot] at q4;clear hd ho;have hst:=HCP.out wy hb;have ko:=hst.o.cell (j:=1) rfl;have HHt:=hst.at (.tail _ (.tail _ (.head _)));obtain ⟨t0,t1,t2,t3,t4,t5,t6⟩:=HHt.c7;clear HHt;have HHx:=hst.at (.tail _ (.tail _ (.tail _ (.head _))));obtain ⟨x0,x1,x2,x3,x4⟩:=HHx.c5;clear HHx;have HHp:=hst.at (.head _);obtain ⟨-,-,-,-,-,p5,p6,p7,p8,p9⟩:=HHp.c10;clear HHp;clear hst;go_simp;try go_bits
   exact kz _ rfl
  apply GChV.v6
  ·rfl
  ·intro K' a wy ho hd hb hK kz;have o8:=ho 8 (by decide);simp [slot] at o8;clear hd ho;go_simp;try go_bits
   exact kz _ rfl
  apply GChV.v7
  ·rfl
  ·intro K' a wy ho hd hb hK kz;have q6:=hd ⟨6,.data⟩ (by simp) rfl;simp [rAt,IsV,slot] at q6;clear hd ho;have hst:=HCP.out wy hb;have ko:=hst.o.cell (j:=1) rfl;have HHt:=hst.at (.tail _ (.tail _ (.head _)));obtain ⟨t0,t1,t2,t3,t4,t5,t6⟩:=HHt.c7;clear HHt;have HHx:=hst.at (.tail _ (.tail _ (.tail _ (.head _))));obtain ⟨x0,x1,x2,x3,x4⟩:=HHx.c5;clear HHx;have HHp:=hst.at (.head _);obtain ⟨-,-,-,-,-,p5,p6,p7,p8,p9⟩:=HHp.c10;clear HHp;clear hst;go_simp;try go_bits
   exact kz _ rfl
  apply GChV.v8
  ·rfl
  ·intro K' a wy ho hd hb hK kz;have o7:=ho 7 (by decide);simp [slot] at o7;clear hd ho;go_simp;try go_bits
   exact kz _ rfl
  apply GChV.v9
  ·rfl
  ·intro K' a wy ho hd hb hK kz;have q8:=hd ⟨8,.data⟩ (by simp) rfl;simp [rAt,IsV,slot] at q8;clear hd ho;have hst:=HCP.out wy hb;have ko:=hst.o.cell (j:=1) rfl;have HHt:=hst.at (.tail _ (.tail _ (.head _)));obtain ⟨t0,t1,t2,t3,t4,t5,t6⟩:=HHt.c7;clear HHt;have HHx:=hst.at (.tail _ (.tail _ (.tail _ (.head _))));obtain ⟨x0,x1,x2,x3,x4⟩:=HHx.c5;clear HHx;have HHp:=hst.at (.head _);obtain ⟨-,-,-,-,-,p5,p6,p7,p8,p9⟩:=HHp.c10;clear HHp;clear hst;go_simp;try go_bits
   exact kz _ rfl
  apply GChV.v10
  ·rfl
  ·intro K' a wy ho hd hb hK kz;have o7:=ho 7 (by decide);simp [slot] at o7;clear hd ho;go_simp;try go_bits
   exact kz _ rfl
  apply GChV.v11
  ·rfl
  ·intro K' a wy ho hd hb hK kz;have q10:=hd ⟨10,.data⟩ (by simp) rfl;simp [rAt,IsV,slot] at q10;clear hd ho;have hst:=HCP.out wy hb;have ko:=hst.o.cell (j:=1) rfl;have HHt:=hst.at (.tail _ (.tail _ (.head _)));obtain ⟨t0,t1,t2,t3,t4,t5,t6⟩:=HHt.c7;clear HHt;have HHx:=hst.at (.tail _ (.tail _ (.tail _ (.head _))));obtain ⟨x0,x1,x2,x3,x4⟩:=HHx.c5;clear HHx;have HHp:=hst.at (.head _);obtain ⟨-,-,-,-,-,p5,p6,p7,p8,p9⟩:=HHp.c10;clear HHp;clear hst;go_simp;try go_bits
   exact kz _ rfl
  apply GChV.v12
  ·rfl
  ·intro K' a wy ho hd hb hK kz;have o11:=ho 11 (by decide);simp [slot] at o11;clear hd ho;go_simp;try go_bits
   exact kz _ rfl
  apply GChV.v13
  ·rfl
  ·intro K' a wy ho hd hb hK kz;have o4:=ho 4 (by decide);simp [slot] at o4;clear hd ho;go_simp;try go_bits
   exact kz _ rfl
  apply GChV.v14
  ·rfl
  ·intro K' a wy ho hd hb hK kz;have o5:=ho 5 (by decide);simp [slot] at o5;clear hd ho;go_simp;try go_bits
   exact kz _ rfl
  apply GChV.v15
  ·rfl
  ·intro K' a wy ho hd hb hK kz;have q14:=hd ⟨14,.data⟩ (by simp) rfl;simp [rAt,IsV,slot] at q14;clear hd ho;have hst:=HCP.out wy hb;have ko:=hst.o.cell (j:=1) rfl;have HHt:=hst.at (.tail _ (.tail _ (.head _)));obtain ⟨t0,t1,t2,t3,t4,t5,t6⟩:=HHt.c7;clear HHt;have HHx:=hst.at (.tail _ (.tail _ (.tail _ (.head _))));obtain ⟨x0,x1,x2,x3,x4⟩:=HHx.c5;clear HHx;have HHp:=hst.at (.head _);obtain ⟨-,-,-,-,-,p5,p6,p7,p8,p9⟩:=HHp.c10;clear HHp;clear hst;go_simp;try go_bits
   exact kz _ rfl
  apply GChV.v16
  ·rfl
  ·intro K' a wy ho hd hb hK kz;have o7:=ho 7 (by decide);simp [slot] at o7;clear hd ho;go_simp;try go_bits
   exact kz _ rfl
  apply GChV.v17
  ·rfl
  ·intro K' a wy ho hd hb hK kz;have q16:=hd ⟨16,.data⟩ (by simp) rfl;simp [rAt,IsV,slot] at q16;clear hd ho;have hst:=HCP.out wy hb;have ko:=hst.o.cell (j:=1) rfl;have HHt:=hst.at (.tail _ (.tail _ (.head _)));obtain ⟨t0,t1,t2,t3,t4,t5,t6⟩:=HHt.c7;clear HHt;have HHx:=hst.at (.tail _ (.tail _ (.tail _ (.head _))));obtain ⟨x0,x1,x2,x3,x4⟩:=HHx.c5;clear HHx;have HHp:=hst.at (.head _);obtain ⟨-,-,-,-,-,p5,p6,p7,p8,p9⟩:=HHp.c10;clear HHp;clear hst;go_simp;try go_bits
   exact kz _ rfl
  apply GChV.v18
  ·rfl
  ·intro K' a wy ho hd hb hK kz;have o11:=ho 11 (by decide);simp [slot] at o11;clear hd ho;go_simp;try go_bits
   exact kz _ rfl
  apply GChV.v19
  ·rfl
  ·intro K' a wy ho hd hb hK kz;have q15:=hd ⟨15,.data⟩ (by simp) rfl;simp [rAt,IsV,slot] at q15;have q17:=hd ⟨17,.data⟩ (by simp) rfl;simp [rAt,IsV,slot] at q17;have q18:=hd ⟨18,.data⟩ (by simp) rfl;simp [rAt,IsV,slot] at q18;clear hd ho;go_simp;refine (HLG.out wy).mono ?_;rintro e wz ⟨rfl,hz⟩;exact hK _ _ rfl hz
  apply GChV.v20
  ·rfl
  ·intro K' a wy ho hd hb hK kz;have q13:=hd ⟨13,.data⟩ (by simp) rfl;simp [rAt,IsV,slot] at q13;have q19:=hd ⟨19,.data⟩ (by simp) rfl;simp [rAt,IsV,slot] at q19;clear hd ho;go_simp;try go_bits
   exact kz _ rfl
  apply GChV.v21
  ·rfl
  ·intro K' a wy ho hd hb hK kz;have q3:=hd ⟨3,.data⟩ (by simp) rfl;simp [rAt,IsV,slot] at q3;have q5:=hd ⟨5,.data⟩ (by simp) rfl;simp [rAt,IsV,slot] at q5;have q7:=hd ⟨7,.data⟩ (by simp) rfl;simp [rAt,IsV,slot] at q7;have q9:=hd ⟨9,.data⟩ (by simp) rfl;simp [rAt,IsV,slot] at q9;have q11:=hd ⟨11,.data⟩ (by simp) rfl;simp [rAt,IsV,slot] at q11;have q12:=hd ⟨12,.data⟩ (by simp) rfl;simp [rAt,IsV,slot] at q12;have q20:=hd ⟨20,.data⟩ (by simp) rfl;simp [rAt,IsV,slot] at q20;clear hd ho;go_simp;try go_bits
   exact kz _ rfl
  refine GChV.rel (n:=22) (IsOneC (ssL ⟨proto,d.inn,d.inPort,peer,peerPort,st,now+lf⟩)) (stable_isOneC _ (by simp [ssL])) [_,_,_,_,_,_,_,_,_,_,_,_,_,_,_,_,_,_,_,_,_,_,IsOneC (ssL ⟨proto,d.inn,d.inPort,peer,peerPort,st,now+lf⟩)] rfl rfl ?_ ?_
  ·intro K' a wy ho hd hb hK;rw [if_pos (wanted_none rfl)];have q21:=hd ⟨21,.data⟩ (by simp) rfl;simp [rAt,IsV,slot] at q21;clear hd ho;go_simp;exact hK _ _ ⟨wy.heap.size,rfl,HoldsL.new wy (ssL ⟨proto,d.inn,d.inPort,peer,peerPort,st,now+lf⟩) _⟩ ((Below.refl _ _).alloc (Nat.le_refl _) _)
  intro X wz hR hz;obtain ⟨x0,x1,x2,x3,x4,x5,x6,x7,x8,x9,x10,x11,x12,x13,x14,x15,x16,x17,x18,x19,x20,x21,x22,-⟩:=hR;have hk7:=x22;clear hk7;simp only [IsV] at x0 x1 x2 x3 x4 x5 x6 x7 x8 x9 x10 x11 x12 x13 x14 x15 x16 x17 x18 x19 x20 x21;simp only [putsFrom,x0,x1,x2,x3,x4,x5,x6,x7,x8,x9,x10,x11,x12,x13,x14,x15,x16,x17,x18,x19,x20,x21,putsFrom];clear x0 x1 x2 x3 x4 x5 x6 x7 x8 x9 x10 x11 x12 x13 x14 x15 x16 x17 x18 x19 x20 x21;obtain ⟨g7,e7,r7⟩:=x22;have SZ:=HCP.out wz hz;obtain ⟨v6,w6,hrun,⟨gg,l6,c6,rfl⟩,hO6,S6⟩:=SZ.appS ⟨proto,d.inn,d.inPort,peer,peerPort,st,now+lf⟩ g7 r7 hl2;have HRUN:Hid _:=hrun;have S9:Hid _:=S6;have p1:=hO6.cell (j:=1) rfl;have p2:=hO6.free (j:=1) (by simp);clear hrun S6 hO6 SZ r7 hz HCP;simp only [e7];simp only [List.length_cons,List.length_nil,List.drop_succ_cons,List.drop_zero,Nat.zero_add,Nat.reduceAdd];intro K5 hK5;with_reducible refine wp_append_run (.tmp 67) (.tmp 88) _ rfl ?_ ?_ HRUN.out (hK5 _ _ ?_)
  ·simp [Act.eval,Act.put]
  ·simp [Act.eval,Act.put]
  intro K6 hK6;go_simp;refine hK6 _ _ ?_;intro K7 hK7;go_simp;refine hK7 _ _ ?_;simp only [wpSeq];clear HRUN p1 p2;generalize (w6.setCell ⟨O,1,none⟩ (.slice (some ⟨gg,0,none⟩) l6 c6))=W9 at *;obtain ⟨k0,k1⟩:=S9.out.o.c2;have HHx:=S9.out.at (.tail _ (.tail _ (.tail _ (.head _))));obtain ⟨x0,x1,x2,x3,x4⟩:=HHx.c5;clear HHx;have HHz:=S9.out.at (.tail _ (.tail _ (.tail _ (.tail _ (.head _)))));obtain ⟨z0,z1,z2,z3,z4,z5,z6,z7⟩:=HHz.c8;obtain ⟨zf0,zf1,zf2,zf3,zf4,zf5,zf6,zf7⟩:=HHz.f8;have HRR:Hid (HoldsL ((((((((W9.setCell ⟨w.heap.size+1+1+1+1,0,none⟩ ((.slice (some ⟨gb,0,none⟩) lb6 cb6))).setCell ⟨w.heap.size+1+1+1+1,1,none⟩ ((.slice (some ⟨gg,0,none⟩) l6 c6))).setCell ⟨w.heap.size+1+1+1+1,2,none⟩ (.int .i64 d.proto)).setCell ⟨w.heap.size+1+1+1+1,3,none⟩ (.string d.inn)).setCell ⟨w.heap.size+1+1+1+1,4,none⟩ (.int .i64 d.inPort)).setCell ⟨w.heap.size+1+1+1+1,5,none⟩ (.string d.out)).setCell ⟨w.heap.size+1+1+1+1,6,none⟩ (.int .i64 d.outPort)).setCell ⟨w.heap.size+1+1+1+1,7,none⟩ (.int .i64 0)) (w.heap.size+1+1+1+1) [(.slice (some ⟨gb,0,none⟩) lb6 cb6),(.slice (some ⟨gg,0,none⟩) l6 c6),.int .i64 d.proto,.string d.inn,.int .i64 d.inPort,.string d.out,.int .i64 d.outPort,.int .i64 0]):=((((((((HHz.set 0 ((.slice (some ⟨gb,0,none⟩) lb6 cb6))).set 1 ((.slice (some ⟨gg,0,none⟩) l6 c6))).set 2 (.int .i64 d.proto)).set 3 (.string d.inn)).set 4 (.int .i64 d.inPort)).set 5 (.string d.out)).set 6 (.int .i64 d.outPort)).set 7 (.int .i64 0));have RB:Hid _:=((((((((S9.out.b.setCell (p:=⟨w.heap.size+1+1+1+1,0,none⟩) hRw ((.slice (some ⟨gb,0,none⟩) lb6 cb6))).setCell (p:=⟨w.heap.size+1+1+1+1,1,none⟩) hRw ((.slice (some ⟨gg,0,none⟩) l6 c6))).setCell (p:=⟨w.heap.size+1+1+1+1,2,none⟩) hRw (.int .i64 d.proto)).setCell (p:=⟨w.heap.size+1+1+1+1,3,none⟩) hRw (.string d.inn)).setCell (p:=⟨w.heap.size+1+1+1+1,4,none⟩) hRw (.int .i64 d.inPort)).setCell (p:=⟨w.heap.size+1+1+1+1,5,none⟩) hRw (.string d.out)).setCell (p:=⟨w.heap.size+1+1+1+1,6,none⟩) hRw (.int .i64 d.outPort)).setCell (p:=⟨w.heap.size+1+1+1+1,7,none⟩) hRw (.int .i64 0));obtain ⟨a1,q1,hb1,-,hbo⟩:=S9.out.shapes.1;obtain ⟨a2,q2,hb2,-,hso⟩:=S9.out.shapes.2;injection hb1 with i1 i2 i3
  injection hb2 with i4 i5 i6
  have hRb:w.heap.size+1+1+1+1 < base:=(S9.out.kb _ (.tail _ (.tail _ (.tail _ (.tail _ (.head _)))))).1;have hwb:=S9.out.wb;have HOW:Hid (BbOwn w.heap.size ((((((((W9.setCell ⟨w.heap.size+1+1+1+1,0,none⟩ ((.slice (some ⟨gb,0,none⟩) lb6 cb6))).setCell ⟨w.heap.size+1+1+1+1,1,none⟩ ((.slice (some ⟨gg,0,none⟩) l6 c6))).setCell ⟨w.heap.size+1+1+1+1,2,none⟩ (.int .i64 d.proto)).setCell ⟨w.heap.size+1+1+1+1,3,none⟩ (.string d.inn)).setCell ⟨w.heap.size+1+1+1+1,4,none⟩ (.int .i64 d.inPort)).setCell ⟨w.heap.size+1+1+1+1,5,none⟩ (.string d.out)).setCell ⟨w.heap.size+1+1+1+1,6,none⟩ (.int .i64 d.outPort)).setCell ⟨w.heap.size+1+1+1+1,7,none⟩ (.int .i64 0)) a1 a2 ⟨x.binds++[d],x.sess++[⟨proto,d.inn,d.inPort,peer,peerPort,st,now+lf⟩]⟩):=⟨(hbo.grown (grown_set (grown_set (grown_set (grown_set (grown_set (grown_set (grown_set (grown_set (World.grownBy.refl _ _) _) _) _) _) _) _) _) _) hRb).down hwb,(hso.grown (grown_set (grown_set (grown_set (grown_set (grown_set (grown_set (grown_set (grown_set (World.grownBy.refl _ _) _) _) _) _) _) _) _) _) hRb).down hwb,fun g h e1 e2 _ _ e3=>S9.out.ne g (by rw [i1,e1]; rfl) (by rw [i4,e2,← e3]; rfl)⟩;have I1:Hid _:=i1;have I2:Hid _:=i2;have I3:Hid _:=i3;have I4:Hid _:=i4;have I5:Hid _:=i5;have I6:Hid _:=i6;clear HHz hbo hso S9 i1 i2 i3 i4 i5 i6;go_wp2_with fail
  exact bodyPost_ret (results_mid Tryz.results124 _ _ (w.heap.size+1+1+1+1) [(.slice (some ⟨gb,0,none⟩) lb6 cb6),(.slice (some ⟨gg,0,none⟩) l6 c6),.int .i64 d.proto,.string d.inn,.int .i64 d.inPort,.string d.out,.int .i64 d.outPort,.int .i64 0] _ rfl HRR.out Tryz.underlying96 rfl (show (Tryz.prog.info? 96).map (·.size)=some 8 by kernel_rfl)) rfl (And.intro (by rw [HV.out]; exact ⟨a1,a2,q1,q2,by first | (rw [I1.out,I2.out,I3.out,I4.out,I5.out,I6.out]; rfl) | (rw [I1.out,I3.out,I4.out,I5.out,I6.out]; rfl),HOW.out⟩) RB.out)
 ·
  have hnb:nb=x.binds:=by rw [HNB.out,if_neg hfi]
  rw [hnb] at HV;clear hnb HNB;have S8:Hid _:=S7.out;clear S7;go_upto_region 14 with fail
  have HCP:Hid (∀ wy,Below W7.drew.heap.size W7.drew wy→_):=fun wy hy=>S8.out.kept ((Below.refl _ _).drew.trans hy)
  clear hun;refine wp_region_growV [66,67,68,69,70,71,72,73,74,75,76,77,78,79,80,81,82,83,84,85,86,87,88] (by kernel_rfl) (by kernel_rfl) ?_;apply GChV.v0
  ·rfl
  ·intro K' a wy ho hd hb hK kz;have o13:=ho 13 (by decide);simp [slot] at o13;clear hd ho;go_simp;try go_bits
   exact kz _ rfl
  apply GChV.v1
  ·rfl
  ·intro K' a wy ho hd hb hK kz;have q0:=hd ⟨0,.data⟩ (by simp) rfl;simp [rAt,IsV,slot] at q0;clear hd ho;have hst:=HCP.out wy hb;have ko:=hst.o.cell (j:=1) rfl;have HHt:=hst.at (.tail _ (.tail _ (.head _)));obtain ⟨t0,t1,t2,t3,t4,t5,t6⟩:=HHt.c7;clear HHt;have HHx:=hst.at (.tail _ (.tail _ (.tail _ (.head _))));obtain ⟨x0,x1,x2,x3,x4⟩:=HHx.c5;clear HHx;have HHp:=hst.at (.head _);obtain ⟨-,-,-,-,-,p5,p6,p7,p8,p9⟩:=HHp.c10;clear HHp;clear hst;go_simp;try go_bits
   exact kz _ rfl
  apply GChV.v2
  ·rfl
  ·intro K' a wy ho hd hb hK kz;have o7:=ho 7 (by decide);simp [slot] at o7;clear hd ho;go_simp;try go_bits
   exact kz _ rfl
  apply GChV.v3
  ·rfl
  ·intro K' a wy ho hd hb hK kz;have q2:=hd ⟨2,.data⟩ (by simp) rfl;simp [rAt,IsV,slot] at q2;clear hd ho;have hst:=HCP.out wy hb;have ko:=hst.o.cell (j:=1) rfl;have HHt:=hst.at (.tail _ (.tail _ (.head _)));obtain ⟨t0,t1,t2,t3,t4,t5,t6⟩:=HHt.c7;clear HHt;have HHx:=hst.at (.tail _ (.tail _ (.tail _ (.head _))));obtain ⟨x0,x1,x2,x3,x4⟩:=HHx.c5;clear HHx;have HHp:=hst.at (.head _);obtain ⟨-,-,-,-,-,p5,p6,p7,p8,p9⟩:=HHp.c10;clear HHp;clear hst;go_simp;try go_bits
   exact kz _ rfl
  apply GChV.v4
  ·rfl
  ·intro K' a wy ho hd hb hK kz;have o8:=ho 8 (by decide);simp [slot] at o8;clear hd ho;go_simp;try go_bits
   exact kz _ rfl
  apply GChV.v5
  ·rfl
  ·intro K' a wy ho hd hb hK kz;have q4:=hd ⟨4,.data⟩ (by simp) rfl;simp [rAt,IsV,slot] at q4;clear hd ho;have hst:=HCP.out wy hb;have ko:=hst.o.cell (j:=1) rfl;have HHt:=hst.at (.tail _ (.tail _ (.head _)));obtain ⟨t0,t1,t2,t3,t4,t5,t6⟩:=HHt.c7;clear HHt;have HHx:=hst.at (.tail _ (.tail _ (.tail _ (.head _))));obtain ⟨x0,x1,x2,x3,x4⟩:=HHx.c5;clear HHx;have HHp:=hst.at (.head _);obtain ⟨-,-,-,-,-,p5,p6,p7,p8,p9⟩:=HHp.c10;clear HHp;clear hst;go_simp;try go_bits
   exact kz _ rfl
  apply GChV.v6
  ·rfl
  ·intro K' a wy ho hd hb hK kz;have o8:=ho 8 (by decide);simp [slot] at o8;clear hd ho;go_simp;try go_bits
   exact kz _ rfl
  apply GChV.v7
  ·rfl
  ·intro K' a wy ho hd hb hK kz;have q6:=hd ⟨6,.data⟩ (by simp) rfl;simp [rAt,IsV,slot] at q6;clear hd ho;have hst:=HCP.out wy hb;have ko:=hst.o.cell (j:=1) rfl;have HHt:=hst.at (.tail _ (.tail _ (.head _)));obtain ⟨t0,t1,t2,t3,t4,t5,t6⟩:=HHt.c7;clear HHt;have HHx:=hst.at (.tail _ (.tail _ (.tail _ (.head _))));obtain ⟨x0,x1,x2,x3,x4⟩:=HHx.c5;clear HHx;have HHp:=hst.at (.head _);obtain ⟨-,-,-,-,-,p5,p6,p7,p8,p9⟩:=HHp.c10;clear HHp;clear hst;go_simp;try go_bits
   exact kz _ rfl
  apply GChV.v8
  ·rfl
  ·intro K' a wy ho hd hb hK kz;have o7:=ho 7 (by decide);simp [slot] at o7;clear hd ho;go_simp;try go_bits
   exact kz _ rfl
  apply GChV.v9
  ·rfl
  ·intro K' a wy ho hd hb hK kz;have q8:=hd ⟨8,.data⟩ (by simp) rfl;simp [rAt,IsV,slot] at q8;clear hd ho;have hst:=HCP.out wy hb;have ko:=hst.o.cell (j:=1) rfl;have HHt:=hst.at (.tail _ (.tail _ (.head _)));obtain ⟨t0,t1,t2,t3,t4,t5,t6⟩:=HHt.c7;clear HHt;have HHx:=hst.at (.tail _ (.tail _ (.tail _ (.head _))));obtain ⟨x0,x1,x2,x3,x4⟩:=HHx.c5;clear HHx;have HHp:=hst.at (.head _);obtain ⟨-,-,-,-,-,p5,p6,p7,p8,p9⟩:=HHp.c10;clear HHp;clear hst;go_simp;try go_bits
   exact kz _ rfl
  apply GChV.v10
  ·rfl
  ·intro K' a wy ho hd hb hK kz;have o7:=ho 7 (by decide);simp [slot] at o7;clear hd ho;go_simp;try go_bits
   exact kz _ rfl
  apply GChV.v11
  ·rfl
  ·intro K' a wy ho hd hb hK kz;have q10:=hd ⟨10,.data⟩ (by simp) rfl;simp [rAt,IsV,slot] at q10;clear hd ho;have hst:=HCP.out wy hb;have ko:=hst.o.cell (j:=1) rfl;have HHt:=hst.at (.tail _ (.tail _ (.head _)));obtain ⟨t0,t1,t2,t3,t4,t5,t6⟩:=HHt.c7;clear HHt;have HHx:=hst.at (.tail _ (.tail _ (.tail _ (.head _))));obtain ⟨x0,x1,x2,x3,x4⟩:=HHx.c5;clear HHx;have HHp:=hst.at (.head _);obtain ⟨-,-,-,-,-,p5,p6,p7,p8,p9⟩:=HHp.c10;clear HHp;clear hst;go_simp;try go_bits
   exact kz _ rfl
  apply GChV.v12
  ·rfl
  ·intro K' a wy ho hd hb hK kz;have o11:=ho 11 (by decide);simp [slot] at o11;clear hd ho;go_simp;try go_bits
   exact kz _ rfl
  apply GChV.v13
  ·rfl
  ·intro K' a wy ho hd hb hK kz;have o4:=ho 4 (by decide);simp [slot] at o4;clear hd ho;go_simp;try go_bits
   exact kz _ rfl
  apply GChV.v14
  ·rfl
  ·intro K' a wy ho hd hb hK kz;have o5:=ho 5 (by decide);simp [slot] at o5;clear hd ho;go_simp;try go_bits
   exact kz _ rfl
  apply GChV.v15
  ·rfl
  ·intro K' a wy ho hd hb hK kz;have q14:=hd ⟨14,.data⟩ (by simp) rfl;simp [rAt,IsV,slot] at q14;clear hd ho;have hst:=HCP.out wy hb;have ko:=hst.o.cell (j:=1) rfl;have HHt:=hst.at (.tail _ (.tail _ (.head _)));obtain ⟨t0,t1,t2,t3,t4,t5,t6⟩:=HHt.c7;clear HHt;have HHx:=hst.at (.tail _ (.tail _ (.tail _ (.head _))));obtain ⟨x0,x1,x2,x3,x4⟩:=HHx.c5;clear HHx;have HHp:=hst.at (.head _);obtain ⟨-,-,-,-,-,p5,p6,p7,p8,p9⟩:=HHp.c10;clear HHp;clear hst;go_simp;try go_bits
   exact kz _ rfl
  apply GChV.v16
  ·rfl
  ·intro K' a wy ho hd hb hK kz;have o7:=ho 7 (by decide);simp [slot] at o7;clear hd ho;go_simp;try go_bits
   exact kz _ rfl
  apply GChV.v17
  ·rfl
  ·intro K' a wy ho hd hb hK kz;have q16:=hd ⟨16,.data⟩ (by simp) rfl;simp [rAt,IsV,slot] at q16;clear hd ho;have hst:=HCP.out wy hb;have ko:=hst.o.cell (j:=1) rfl;have HHt:=hst.at (.tail _ (.tail _ (.head _)));obtain ⟨t0,t1,t2,t3,t4,t5,t6⟩:=HHt.c7;clear HHt;have HHx:=hst.at (.tail _ (.tail _ (.tail _ (.head _))));obtain ⟨x0,x1,x2,x3,x4⟩:=HHx.c5;clear HHx;have HHp:=hst.at (.head _);obtain ⟨-,-,-,-,-,p5,p6,p7,p8,p9⟩:=HHp.c10;clear HHp;clear hst;go_simp;try go_bits
   exact kz _ rfl
  apply GChV.v18
  ·rfl
  ·intro K' a wy ho hd hb hK kz;have o11:=ho 11 (by decide);simp [slot] at o11;clear hd ho;go_simp;try go_bits
   exact kz _ rfl
  apply GChV.v19
  ·rfl
  ·intro K' a wy ho hd hb hK kz;have q15:=hd ⟨15,.data⟩ (by simp) rfl;simp [rAt,IsV,slot] at q15;have q17:=hd ⟨17,.data⟩ (by simp) rfl;simp [rAt,IsV,slot] at q17;have q18:=hd ⟨18,.data⟩ (by simp) rfl;simp [rAt,IsV,slot] at q18;clear hd ho;go_simp;refine (HLG.out wy).mono ?_;rintro e wz ⟨rfl,hz⟩;exact hK _ _ rfl hz
  apply GChV.v20
  ·rfl
  ·intro K' a wy ho hd hb hK kz;have q13:=hd ⟨13,.data⟩ (by simp) rfl;simp [rAt,IsV,slot] at q13;have q19:=hd ⟨19,.data⟩ (by simp) rfl;simp [rAt,IsV,slot] at q19;clear hd ho;go_simp;try go_bits
   exact kz _ rfl
  apply GChV.v21
  ·rfl
  ·intro K' a wy ho hd hb hK kz;have q3:=hd ⟨3,.data⟩ (by simp) rfl;simp [rAt,IsV,slot] at q3;have q5:=hd ⟨5,.data⟩ (by simp) rfl;simp [rAt,IsV,slot] at q5;have q7:=hd ⟨7,.data⟩ (by simp) rfl;simp [rAt,IsV,slot] at q7;have q9:=hd ⟨9,.data⟩ (by simp) rfl;simp [rAt,IsV,slot] at q9;have q11:=hd ⟨11,.data⟩ (by simp) rfl;simp [rAt,IsV,slot] at q11;have q12:=hd ⟨12,.data⟩ (by simp) rfl;simp [rAt,IsV,slot] at q12;have q20:=hd ⟨20,.data⟩ (by simp) rfl;simp [rAt,IsV,slot] at q20;clear hd ho;go_simp;try go_bits
   exact kz _ rfl
  refine GChV.rel (n:=22) (IsOneC (ssL ⟨proto,d.inn,d.inPort,peer,peerPort,st,now+lf⟩)) (stable_isOneC _ (by simp [ssL])) [_,_,_,_,_,_,_,_,_,_,_,_,_,_,_,_,_,_,_,_,_,_,IsOneC (ssL ⟨proto,d.inn,d.inPort,peer,peerPort,st,now+lf⟩)] rfl rfl ?_ ?_
  ·intro K' a wy ho hd hb hK;rw [if_pos (wanted_none rfl)];have q21:=hd ⟨21,.data⟩ (by simp) rfl;simp [rAt,IsV,slot] at q21;clear hd ho;go_simp;exact hK _ _ ⟨wy.heap.size,rfl,HoldsL.new wy (ssL ⟨proto,d.inn,d.inPort,peer,peerPort,st,now+lf⟩) _⟩ ((Below.refl _ _).alloc (Nat.le_refl _) _)
  intro X wz hR hz;obtain ⟨x0,x1,x2,x3,x4,x5,x6,x7,x8,x9,x10,x11,x12,x13,x14,x15,x16,x17,x18,x19,x20,x21,x22,-⟩:=hR;have hk7:=x22;clear hk7;simp only [IsV] at x0 x1 x2 x3 x4 x5 x6 x7 x8 x9 x10 x11 x12 x13 x14 x15 x16 x17 x18 x19 x20 x21;simp only [putsFrom,x0,x1,x2,x3,x4,x5,x6,x7,x8,x9,x10,x11,x12,x13,x14,x15,x16,x17,x18,x19,x20,x21,putsFrom];clear x0 x1 x2 x3 x4 x5 x6 x7 x8 x9 x10 x11 x12 x13 x14 x15 x16 x17 x18 x19 x20 x21;obtain ⟨g7,e7,r7⟩:=x22;have SZ:=HCP.out wz hz;obtain ⟨v6,w6,hrun,⟨gg,l6,c6,rfl⟩,hO6,S6⟩:=SZ.appS ⟨proto,d.inn,d.inPort,peer,peerPort,st,now+lf⟩ g7 r7 hl2;have HRUN:Hid _:=hrun;have S9:Hid _:=S6;have p1:=hO6.cell (j:=1) rfl;have p2:=hO6.free (j:=1) (by simp);clear hrun S6 hO6 SZ r7 hz HCP;simp only [e7];simp only [List.length_cons,List.length_nil,List.drop_succ_cons,List.drop_zero,Nat.zero_add,Nat.reduceAdd];intro K5 hK5;with_reducible refine wp_append_run (.tmp 67) (.tmp 88) _ rfl ?_ ?_ HRUN.out (hK5 _ _ ?_)
  ·simp [Act.eval,Act.put]
  ·simp [Act.eval,Act.put]
  intro K6 hK6;go_simp;refine hK6 _ _ ?_;intro K7 hK7;go_simp;refine hK7 _ _ ?_;simp only [wpSeq];clear HRUN p1 p2;generalize (w6.setCell ⟨O,1,none⟩ (.slice (some ⟨gg,0,none⟩) l6 c6))=W9 at *;obtain ⟨k0,k1⟩:=S9.out.o.c2;have HHx:=S9.out.at (.tail _ (.tail _ (.tail _ (.head _))));obtain ⟨x0,x1,x2,x3,x4⟩:=HHx.c5;clear HHx;have HHz:=S9.out.at (.tail _ (.tail _ (.tail _ (.tail _ (.head _)))));obtain ⟨z0,z1,z2,z3,z4,z5,z6,z7⟩:=HHz.c8;obtain ⟨zf0,zf1,zf2,zf3,zf4,zf5,zf6,zf7⟩:=HHz.f8;have HRR:Hid (HoldsL ((((((((W9.setCell ⟨w.heap.size+1+1+1+1,0,none⟩ ((.slice ab x.binds.length cb1))).setCell ⟨w.heap.size+1+1+1+1,1,none⟩ ((.slice (some ⟨gg,0,none⟩) l6 c6))).setCell ⟨w.heap.size+1+1+1+1,2,none⟩ (.int .i64 d.proto)).setCell ⟨w.heap.size+1+1+1+1,3,none⟩ (.string d.inn)).setCell ⟨w.heap.size+1+1+1+1,4,none⟩ (.int .i64 d.inPort)).setCell ⟨w.heap.size+1+1+1+1,5,none⟩ (.string d.out)).setCell ⟨w.heap.size+1+1+1+1,6,none⟩ (.int .i64 d.outPort)).setCell ⟨w.heap.size+1+1+1+1,7,none⟩ (.int .i64 0)) (w.heap.size+1+1+1+1) [(.slice ab x.binds.length cb1),(.slice (some ⟨gg,0,none⟩) l6 c6),.int .i64 d.proto,.string d.inn,.int .i64 d.inPort,.string d.out,.int .i64 d.outPort,.int .i64 0]):=((((((((HHz.set 0 ((.slice ab x.binds.length cb1))).set 1 ((.slice (some ⟨gg,0,none⟩) l6 c6))).set 2 (.int .i64 d.proto)).set 3 (.string d.inn)).set 4 (.int .i64 d.inPort)).set 5 (.string d.out)).set 6 (.int .i64 d.outPort)).set 7 (.int .i64 0));have RB:Hid _:=((((((((S9.out.b.setCell (p:=⟨w.heap.size+1+1+1+1,0,none⟩) hRw ((.slice ab x.binds.length cb1))).setCell (p:=⟨w.heap.size+1+1+1+1,1,none⟩) hRw ((.slice (some ⟨gg,0,none⟩) l6 c6))).setCell (p:=⟨w.heap.size+1+1+1+1,2,none⟩) hRw (.int .i64 d.proto)).setCell (p:=⟨w.heap.size+1+1+1+1,3,none⟩) hRw (.string d.inn)).setCell (p:=⟨w.heap.size+1+1+1+1,4,none⟩) hRw (.int .i64 d.inPort)).setCell (p:=⟨w.heap.size+1+1+1+1,5,none⟩) hRw (.string d.out)).setCell (p:=⟨w.heap.size+1+1+1+1,6,none⟩) hRw (.int .i64 d.outPort)).setCell (p:=⟨w.heap.size+1+1+1+1,7,none⟩) hRw (.int .i64 0));obtain ⟨a1,q1,hb1,-,hbo⟩:=S9.out.shapes.1;obtain ⟨a2,q2,hb2,-,hso⟩:=S9.out.shapes.2;injection hb1 with i1 i2 i3
  injection hb2 with i4 i5 i6
  have hRb:w.heap.size+1+1+1+1 < base:=(S9.out.kb _ (.tail _ (.tail _ (.tail _ (.tail _ (.head _)))))).1;have hwb:=S9.out.wb;have HOW:Hid (BbOwn w.heap.size ((((((((W9.setCell ⟨w.heap.size+1+1+1+1,0,none⟩ ((.slice ab x.binds.length cb1))).setCell ⟨w.heap.size+1+1+1+1,1,none⟩ ((.slice (some ⟨gg,0,none⟩) l6 c6))).setCell ⟨w.heap.size+1+1+1+1,2,none⟩ (.int .i64 d.proto)).setCell ⟨w.heap.size+1+1+1+1,3,none⟩ (.string d.inn)).setCell ⟨w.heap.size+1+1+1+1,4,none⟩ (.int .i64 d.inPort)).setCell ⟨w.heap.size+1+1+1+1,5,none⟩ (.string d.out)).setCell ⟨w.heap.size+1+1+1+1,6,none⟩ (.int .i64 d.outPort)).setCell ⟨w.heap.size+1+1+1+1,7,none⟩ (.int .i64 0)) a1 a2 ⟨x.binds,x.sess++[⟨proto,d.inn,d.inPort,peer,peerPort,st,now+lf⟩]⟩):=⟨(hbo.grown (grown_set (grown_set (grown_set (grown_set (grown_set (grown_set (grown_set (grown_set (World.grownBy.refl _ _) _) _) _) _) _) _) _) _) hRb).down hwb,(hso.grown (grown_set (grown_set (grown_set (grown_set (grown_set (grown_set (grown_set (grown_set (World.grownBy.refl _ _) _) _) _) _) _) _) _) _) hRb).down hwb,fun g h e1 e2 _ _ e3=>S9.out.ne g (by rw [i1,e1]; rfl) (by rw [i4,e2,← e3]; rfl)⟩;have I1:Hid _:=i1;have I2:Hid _:=i2;have I3:Hid _:=i3;have I4:Hid _:=i4;have I5:Hid _:=i5;have I6:Hid _:=i6;clear HHz hbo hso S9 i1 i2 i3 i4 i5 i6;go_wp2_with fail
  exact bodyPost_ret (results_mid Tryz.results124 _ _ (w.heap.size+1+1+1+1) [(.slice ab x.binds.length cb1),(.slice (some ⟨gg,0,none⟩) l6 c6),.int .i64 d.proto,.string d.inn,.int .i64 d.inPort,.string d.out,.int .i64 d.outPort,.int .i64 0] _ rfl HRR.out Tryz.underlying96 rfl (show (Tryz.prog.info? 96).map (·.size)=some 8 by kernel_rfl)) rfl (And.intro (by rw [HV.out]; exact ⟨a1,a2,q1,q2,by first | (rw [I1.out,I2.out,I3.out,I4.out,I5.out,I6.out]; rfl) | (rw [I1.out,I3.out,I4.out,I5.out,I6.out]; rfl),HOW.out⟩) RB.out)
end Go.Proofs.YtcckaeppiamebaaGreatDoor
