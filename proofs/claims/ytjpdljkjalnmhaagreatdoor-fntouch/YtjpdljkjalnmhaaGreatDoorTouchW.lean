import Derived.Test.YtjpdljkjalnmhaaGreatDoorDrawBtc
import Derived.Test.YtjpdljkjalnmhaaGreatDoorITouch9
import Derived.Test.YtjpdljkjalnmhaaGreatDoorMerged20
import Derived.Test.YtjpdljkjalnmhaaGreatDoorSBibR
import Derived.Test.YtjpdljkjalnmhaaGreatDoorMerged24
import Derived.Test.YtjpdljkjalnmhaaGreatDoorMerged18
import Derived.Test.YtjpdljkjalnmhaaGreatDoorIBk3
import Derived.Test.YtjpdljkjalnmhaaGreatDoorMerged14
set_option linter.unusedVariables false
set_option linter.unusedSimpArgs false
set_option maxRecDepth 100000
set_option maxHeartbeats 8000000
namespace Go.Proofs.YtjpdljkjalnmhaaGreatDoor
open Go.RowKit Go.PlainAid
structure TuS (w:World) (ks:List (Nat × List Value)) (pa:Option Addr) (p:Pl) (ba bo:Option Addr) (x:Bb) (xa xb:Option Addr) (y:Bb) (wx:World):Prop where
 bx:Bxs w ks wx
 pl:SlIs strL1 1 wx pa p.addrs
 bb:BbIs wx ba bo x
 yy:BbIs wx xa xb y
theorem TuS.kept {w:World} {ks:List (Nat × List Value)} {pa:Option Addr} {p:Pl} {ba bo:Option Addr} {x:Bb} {xa xb:Option Addr} {y:Bb} {wx wy:World} (h:TuS w ks pa p ba bo x xa xb y wx) (hb:Below wx.heap.size wx wy):TuS w ks pa p ba bo x xa xb y wy:=⟨h.bx.kept hb,h.pl.below hb,h.bb.below hb,h.yy.below hb⟩
theorem dr_in {x:Bb} (h:BbDr x):BdsIn x.binds:=⟨by have:=h.1; omega,fun q hq=>⟨(h.2.2.1 q hq).good.1,(h.2.2.1 q hq).good.2.1⟩⟩
theorem eqBdW_bin (q p:Bd) (W:World):(binOp .eql 37 (.agg #[.int .i64 q.proto,.string q.inn,.int .i64 q.inPort,.string q.out,.int .i64 q.outPort]) (.agg #[.int .i64 p.proto,.string p.inn,.int .i64 p.inPort,.string p.out,.int .i64 p.outPort])).run Tryz.prog W=.ok (.bool (sameBd q p)) W:=by
 rw [run_eql_struct,eqBdW_run 9998 q p W]; rfl
theorem touchWalk (a0:Option Addr) (len0 cap0:Nat) (w:World) (hT:TabB w) (h0:len0≤1048576) (b0:Bytes w a0 len0 w.heap.size) :
  Calls Tryz.prog 3 #[.slice a0 len0 cap0] w fun e w'=>e=.returned (.bool true)∧Below w.heap.size w w':=by
 have HD0:Hid _:=drawBibTouch_any a0 len0 cap0 w h0 b0;have HTB:Hid (TabB w):=hT;have l0:¬ (1048576:Int) < len0:=by omega
 clear b0 hT;go_enter Tryz.func3,Tryz.ntmps3
 go_wp2_with fail
 refine Calls.mono HD0.out ?_;rintro e w1 ⟨pa,pc,p,ba,bo,ca,cb,x,t,now,rfl,hpd,hpc,hbd,htd,hnw,hpl,hbb,qq⟩;clear HD0;have c1:p.addrs.length≤1048576:=by have:=hpd.2.1; omega
 have HPS:Hid (∀ s∈p.addrs,s.size≤1048576):=fun s hs=>by have:=hpd.2.2 s hs; omega
 have c2:x.binds.length≤100:=hbd.1;have c3:x.sess.length≤100:=hbd.2.1;have c4:t.addr.size≤1048576:=by have:=htd.1; omega
 have c5:t.peer.size≤1048576:=by have:=htd.2.1; omega
 have HGB:Hid (∀ q∈x.binds,BdGood q):=fun q hq=>(hbd.2.2.1 q hq).good
 have HGS:Hid (∀ s∈x.sess,SsGood s):=fun s hs=>(hbd.2.2.2 s hs).good
 have HI:Hid (∀ W,Below w.heap.size w W→SlIs strL1 1 W pa p.addrs→BbIs W ba bo x→Calls Tryz.prog 5 #[plC pa pc p,bbC ba bo ca cb x,tcC t,.int .i64 now] W fun e w'=>BoRet W.heap.size (bibTouchV p x t now) e w'∧Below W.heap.size W w'):=fun W hW h1 h2=>implBibTouch_any pa pc p ba bo ca cb x t now W (HTB.out.below hW) c4 c5 c1 hpc HPS.out (by omega) (by omega) HGB.out HGS.out h1 h2
 have HSp:Hid (∀ W,SlIs strL1 1 W pa p.addrs→BbIs W ba bo x→Calls Tryz.prog 6 #[plC pa pc p,bbC ba bo ca cb x,tcC t,.int .i64 now] W fun e w'=>BoRet W.heap.size (bibTouchV p x t now) e w'∧Below W.heap.size W w'):=fun W h1 h2=>specBibTouch_any pa pc p ba bo ca cb x t now W c1 hpc HPS.out c4 c5 (by omega) (by omega) h1 h2
 have HER:Hid ((bibTouchV p x t now).code≠0→(bibTouchV p x t now).bib=bbZ∧(bibTouchV p x t now).bind=bdZ):=touch_err;have HOK:Hid ((bibTouchV p x t now).code=0→_):=fun h=>touch_ok h
 have HLN:=bibTouch_len p x t now (by omega) (by omega);obtain ⟨d2,d3⟩:=HLN;have HLW:Hid (∀ W a b cc cd a' b' cc' cd',BbIs W a b (bibTouchV p x t now).bib→BbIs W a' b' (bibTouchV p x t now).bib→Calls Tryz.prog 7 #[bbC a b cc cd (bibTouchV p x t now).bib,bbC a' b' cc' cd' (bibTouchV p x t now).bib] W fun e w'=>e=.returned (.bool true)∧Below W.heap.size W w'):=fun W a b cc cd a' b' cc' cd' h1 h2=>lwSame_same _ a b a' b' cc cd cc' cd' W d2 d3 h1 h2
 have HBY:Hid (∀ W a b cc cd,SlIs strL1 1 W pa p.addrs→BbIs W a b (bibTouchV p x t now).bib→Calls Tryz.prog 8 #[plC pa pc p,bbC a b cc cd (bibTouchV p x t now).bib] W fun e w'=>e=.returned (.bool (bibOk p (bibTouchV p x t now).bib))∧Below W.heap.size W w'):=fun W a b cc cd h1 h2=>specBib_any p _ pa pc a b cc cd W c1 hpc HPS.out d2 d3 h1 h2
 have HIX:Hid (BdsIn x.binds):=dr_in hbd;have HIY:Hid (bibOk p (bibTouchV p x t now).bib=true→(bibTouchV p x t now).bib.binds.length≤x.binds.length+1→(bibTouchV p x t now).bib.sess.length≤x.sess.length+1→BdsIn (bibTouchV p x t now).bib.binds):=fun h i j=>⟨d2,fun q hq=>by
  have hm:=(bind_iff.1 (bibR_iff.1 h).bind).1 q hq;unfold bindP at hm;simp only [Bool.and_eq_true] at hm;have h1:=in_size (bibR_iff.1 h).pool hm.1.2;rcases addrOk_size hm.1.1.1.2 with h2 | h2<;>exact ⟨by omega,by omega⟩⟩
 clear HPS HGB HGS hpc hpd hbd htd hnw HTB;generalize bibTouchV p x t now=o at *;obtain ⟨proto,inside,addr,port,peer,peerPort,flags⟩:=t;unfold plC bbC tcC at *;dsimp only at *;have S1:Hid (Bxs w [(w1.heap.size+1+1,[.int .i64 proto,.bool inside,.string addr,.int .i64 port,.string peer,.int .i64 peerPort,.int .i64 flags]),(w1.heap.size+1,[.slice ba x.binds.length ca,.slice bo x.sess.length cb]),(w1.heap.size,[.slice pa p.addrs.length pc,.int .i64 p.low,.int .i64 p.high,.int .i64 p.most,.int .i64 p.filter,.int .i64 p.lv.udp,.int .i64 p.lv.echo,.int .i64 p.lv.opening,.int .i64 p.lv.opn,.int .i64 p.lv.closing])] (((w1.alloc (.cells #[.slice pa p.addrs.length pc,.int .i64 p.low,.int .i64 p.high,.int .i64 p.most,.int .i64 p.filter,.int .i64 p.lv.udp,.int .i64 p.lv.echo,.int .i64 p.lv.opening,.int .i64 p.lv.opn,.int .i64 p.lv.closing] 27)).alloc (.cells #[.slice ba x.binds.length ca,.slice bo x.sess.length cb] 31)).alloc (.cells #[.int .i64 proto,.bool inside,.string addr,.int .i64 port,.string peer,.int .i64 peerPort,.int .i64 flags] 33))):=by
  have h:=(((⟨fun e he=>(by cases he),qq,fun e he=>(by cases he)⟩ : Bxs w [] w1).push [.slice pa p.addrs.length pc,.int .i64 p.low,.int .i64 p.high,.int .i64 p.most,.int .i64 p.filter,.int .i64 p.lv.udp,.int .i64 p.lv.echo,.int .i64 p.lv.opening,.int .i64 p.lv.opn,.int .i64 p.lv.closing] (by simp) 27).push [.slice ba x.binds.length ca,.slice bo x.sess.length cb] (by simp) 31).push [.int .i64 proto,.bool inside,.string addr,.int .i64 port,.string peer,.int .i64 peerPort,.int .i64 flags] (by simp) 33;simp only [World.size_alloc] at h;exact h
 have hbl:Below w1.heap.size w1 (((w1.alloc (.cells #[.slice pa p.addrs.length pc,.int .i64 p.low,.int .i64 p.high,.int .i64 p.most,.int .i64 p.filter,.int .i64 p.lv.udp,.int .i64 p.lv.echo,.int .i64 p.lv.opening,.int .i64 p.lv.opn,.int .i64 p.lv.closing] 27)).alloc (.cells #[.slice ba x.binds.length ca,.slice bo x.sess.length cb] 31)).alloc (.cells #[.int .i64 proto,.bool inside,.string addr,.int .i64 port,.string peer,.int .i64 peerPort,.int .i64 flags] 33)):=(((Below.refl _ _).alloc (Nat.le_refl _) _).alloc (by simp) _).alloc (by simp; omega) _;have P1:Hid (SlIs strL1 1 (((w1.alloc (.cells #[.slice pa p.addrs.length pc,.int .i64 p.low,.int .i64 p.high,.int .i64 p.most,.int .i64 p.filter,.int .i64 p.lv.udp,.int .i64 p.lv.echo,.int .i64 p.lv.opening,.int .i64 p.lv.opn,.int .i64 p.lv.closing] 27)).alloc (.cells #[.slice ba x.binds.length ca,.slice bo x.sess.length cb] 31)).alloc (.cells #[.int .i64 proto,.bool inside,.string addr,.int .i64 port,.string peer,.int .i64 peerPort,.int .i64 flags] 33)) pa p.addrs):=hpl.below hbl;have B1:Hid (BbIs (((w1.alloc (.cells #[.slice pa p.addrs.length pc,.int .i64 p.low,.int .i64 p.high,.int .i64 p.most,.int .i64 p.filter,.int .i64 p.lv.udp,.int .i64 p.lv.echo,.int .i64 p.lv.opening,.int .i64 p.lv.opn,.int .i64 p.lv.closing] 27)).alloc (.cells #[.slice ba x.binds.length ca,.slice bo x.sess.length cb] 31)).alloc (.cells #[.int .i64 proto,.bool inside,.string addr,.int .i64 port,.string peer,.int .i64 peerPort,.int .i64 flags] 33)) ba bo x):=hbb.below hbl;clear hbl hpl hbb qq;go_upto_region 4 with fail
 generalize ((w1.alloc (.cells #[.slice pa p.addrs.length pc,.int .i64 p.low,.int .i64 p.high,.int .i64 p.most,.int .i64 p.filter,.int .i64 p.lv.udp,.int .i64 p.lv.echo,.int .i64 p.lv.opening,.int .i64 p.lv.opn,.int .i64 p.lv.closing] 27)).alloc (.cells #[.slice ba x.binds.length ca,.slice bo x.sess.length cb] 31)).alloc (.cells #[.int .i64 proto,.bool inside,.string addr,.int .i64 port,.string peer,.int .i64 peerPort,.int .i64 flags] 33)=W1 at *;have HHk:=S1.out.at (.tail _ (.tail _ (.head _)));obtain ⟨k0,k1,k2,k3,k4,k5,k6,k7,k8,k9⟩:=HHk.c10;clear HHk;have HHl:=S1.out.at (.tail _ (.head _));obtain ⟨l0,l1⟩:=HHl.c2;clear HHl;have HHm:=S1.out.at (.head _);obtain ⟨m0,m1,m2,m3,m4,m5,m6⟩:=HHm.c7;clear HHm;go_wp2_with fail
 refine (HI.out W1 S1.out.b P1.out B1.out).mono ?_;rintro e w2 ⟨⟨xa,xb,cxa,cxb,rfl,hown⟩,q2⟩;unfold boC;have hb2:Below w2.heap.size w2 (w2.alloc (.cells #[.slice xa o.bib.binds.length cxa,.slice xb o.bib.sess.length cxb,.int .i64 o.bind.proto,.string o.bind.inn,.int .i64 o.bind.inPort,.string o.bind.out,.int .i64 o.bind.outPort,.int .i64 o.code] 39)):=(Below.refl _ _).alloc (Nat.le_refl _) _;have S2:Hid (TuS w ((w2.heap.size,[.slice xa o.bib.binds.length cxa,.slice xb o.bib.sess.length cxb,.int .i64 o.bind.proto,.string o.bind.inn,.int .i64 o.bind.inPort,.string o.bind.out,.int .i64 o.bind.outPort,.int .i64 o.code])::[(w1.heap.size+1+1,[.int .i64 proto,.bool inside,.string addr,.int .i64 port,.string peer,.int .i64 peerPort,.int .i64 flags]),(w1.heap.size+1,[.slice ba x.binds.length ca,.slice bo x.sess.length cb]),(w1.heap.size,[.slice pa p.addrs.length pc,.int .i64 p.low,.int .i64 p.high,.int .i64 p.most,.int .i64 p.filter,.int .i64 p.lv.udp,.int .i64 p.lv.echo,.int .i64 p.lv.opening,.int .i64 p.lv.opn,.int .i64 p.lv.closing])]) pa p ba bo x xa xb o.bib (w2.alloc (.cells #[.slice xa o.bib.binds.length cxa,.slice xb o.bib.sess.length cxb,.int .i64 o.bind.proto,.string o.bind.inn,.int .i64 o.bind.inPort,.string o.bind.out,.int .i64 o.bind.outPort,.int .i64 o.code] 39))):=⟨(S1.out.kept q2).push [.slice xa o.bib.binds.length cxa,.slice xb o.bib.sess.length cxb,.int .i64 o.bind.proto,.string o.bind.inn,.int .i64 o.bind.inPort,.string o.bind.out,.int .i64 o.bind.outPort,.int .i64 o.code] (by simp) _,(P1.out.below q2).below hb2,(B1.out.below q2).below hb2,hown.is.below hb2⟩;clear q2 hb2 hown S1 P1 B1 HI k0 k1 k2 k3 k4 k5 k6 k7 k8 k9 l0 l1 m0 m1 m2 m3 m4 m5 m6;go_upto_region 5 with fail
 generalize w2.alloc (.cells #[.slice xa o.bib.binds.length cxa,.slice xb o.bib.sess.length cxb,.int .i64 o.bind.proto,.string o.bind.inn,.int .i64 o.bind.inPort,.string o.bind.out,.int .i64 o.bind.outPort,.int .i64 o.code] 39)=W2 at *;generalize w2.heap.size=Xb at *;have HHk:=S2.out.bx.at (.tail _ (.tail _ (.tail _ (.head _))));obtain ⟨k0,k1,k2,k3,k4,k5,k6,k7,k8,k9⟩:=HHk.c10;clear HHk;have HHl:=S2.out.bx.at (.tail _ (.tail _ (.head _)));obtain ⟨l0,l1⟩:=HHl.c2;clear HHl;have HHm:=S2.out.bx.at (.tail _ (.head _));obtain ⟨m0,m1,m2,m3,m4,m5,m6⟩:=HHm.c7;clear HHm;go_wp2_with fail
 refine (HSp.out W2 S2.out.pl S2.out.bb).mono ?_;rintro e w3 ⟨⟨va,vb,cva,cvb,rfl,hown⟩,q3⟩;unfold boC;have hb3:Below w3.heap.size w3 (w3.alloc (.cells #[.slice va o.bib.binds.length cva,.slice vb o.bib.sess.length cvb,.int .i64 o.bind.proto,.string o.bind.inn,.int .i64 o.bind.inPort,.string o.bind.out,.int .i64 o.bind.outPort,.int .i64 o.code] 39)):=(Below.refl _ _).alloc (Nat.le_refl _) _;have S3:Hid (TuS w [(Xb,[.slice xa o.bib.binds.length cxa,.slice xb o.bib.sess.length cxb,.int .i64 o.bind.proto,.string o.bind.inn,.int .i64 o.bind.inPort,.string o.bind.out,.int .i64 o.bind.outPort,.int .i64 o.code]),(w1.heap.size+1+1,[.int .i64 proto,.bool inside,.string addr,.int .i64 port,.string peer,.int .i64 peerPort,.int .i64 flags]),(w1.heap.size+1,[.slice ba x.binds.length ca,.slice bo x.sess.length cb]),(w1.heap.size,[.slice pa p.addrs.length pc,.int .i64 p.low,.int .i64 p.high,.int .i64 p.most,.int .i64 p.filter,.int .i64 p.lv.udp,.int .i64 p.lv.echo,.int .i64 p.lv.opening,.int .i64 p.lv.opn,.int .i64 p.lv.closing])] pa p ba bo x xa xb o.bib (w3.alloc (.cells #[.slice va o.bib.binds.length cva,.slice vb o.bib.sess.length cvb,.int .i64 o.bind.proto,.string o.bind.inn,.int .i64 o.bind.inPort,.string o.bind.out,.int .i64 o.bind.outPort,.int .i64 o.code] 39))):=(S2.out.kept q3).kept hb3;have V3:Hid (HoldsL (w3.alloc (.cells #[.slice va o.bib.binds.length cva,.slice vb o.bib.sess.length cvb,.int .i64 o.bind.proto,.string o.bind.inn,.int .i64 o.bind.inPort,.string o.bind.out,.int .i64 o.bind.outPort,.int .i64 o.code] 39)) w3.heap.size [.slice va o.bib.binds.length cva,.slice vb o.bib.sess.length cvb,.int .i64 o.bind.proto,.string o.bind.inn,.int .i64 o.bind.inPort,.string o.bind.out,.int .i64 o.bind.outPort,.int .i64 o.code]):=HoldsL.new w3 [.slice va o.bib.binds.length cva,.slice vb o.bib.sess.length cvb,.int .i64 o.bind.proto,.string o.bind.inn,.int .i64 o.bind.inPort,.string o.bind.out,.int .i64 o.bind.outPort,.int .i64 o.code] _;have Y3:Hid (BbIs (w3.alloc (.cells #[.slice va o.bib.binds.length cva,.slice vb o.bib.sess.length cvb,.int .i64 o.bind.proto,.string o.bind.inn,.int .i64 o.bind.inPort,.string o.bind.out,.int .i64 o.bind.outPort,.int .i64 o.code] 39)) va vb o.bib):=hown.is.below hb3;clear q3 hb3 hown S2 HSp k0 k1 k2 k3 k4 k5 k6 k7 k8 k9 l0 l1 m0 m1 m2 m3 m4 m5 m6;go_upto_region 6 with fail
 generalize w3.alloc (.cells #[.slice va o.bib.binds.length cva,.slice vb o.bib.sess.length cvb,.int .i64 o.bind.proto,.string o.bind.inn,.int .i64 o.bind.inPort,.string o.bind.out,.int .i64 o.bind.outPort,.int .i64 o.code] 39)=W3 at *;generalize w3.heap.size=Vb at *;have HHk:=S3.out.bx.at (.head _);obtain ⟨k0,k1,k2,k3,k4,k5,k6,k7⟩:=HHk.c8;clear HHk;obtain ⟨l0,l1,l2,l3,l4,l5,l6,l7⟩:=V3.out.c8;go_wp2_with fail
 refine (HLW.out W3 xa xb cxa cxb va vb cva cvb S3.out.yy Y3.out).mono ?_;rintro e W4 ⟨rfl,q4⟩;have S4:Hid (TuS w [(Xb,[.slice xa o.bib.binds.length cxa,.slice xb o.bib.sess.length cxb,.int .i64 o.bind.proto,.string o.bind.inn,.int .i64 o.bind.inPort,.string o.bind.out,.int .i64 o.bind.outPort,.int .i64 o.code]),(w1.heap.size+1+1,[.int .i64 proto,.bool inside,.string addr,.int .i64 port,.string peer,.int .i64 peerPort,.int .i64 flags]),(w1.heap.size+1,[.slice ba x.binds.length ca,.slice bo x.sess.length cb]),(w1.heap.size,[.slice pa p.addrs.length pc,.int .i64 p.low,.int .i64 p.high,.int .i64 p.most,.int .i64 p.filter,.int .i64 p.lv.udp,.int .i64 p.lv.echo,.int .i64 p.lv.opening,.int .i64 p.lv.opn,.int .i64 p.lv.closing])] pa p ba bo x xa xb o.bib W4):=S3.out.kept q4;have V4:Hid _:=V3.out.kept (by simp) q4;clear q4 S3 V3 Y3 HLW k0 k1 k2 k3 k4 k5 k6 k7 l0 l1 l2 l3 l4 l5 l6 l7;have HHk:=S4.out.bx.at (.head _);obtain ⟨k0,k1,k2,k3,k4,k5,k6,k7⟩:=HHk.c8;clear HHk;obtain ⟨l0,l1,l2,l3,l4,l5,l6,l7⟩:=V4.out.c8;have hne:(binOp .neq 37 (.agg #[.int .i64 o.bind.proto,.string o.bind.inn,.int .i64 o.bind.inPort,.string o.bind.out,.int .i64 o.bind.outPort]) (.agg #[.int .i64 o.bind.proto,.string o.bind.inn,.int .i64 o.bind.inPort,.string o.bind.out,.int .i64 o.bind.outPort])).run Tryz.prog W4=.ok (.bool false) W4:=by rw [neBdW_bin o.bind o.bind W4,sameBd_self]; rfl
 go_upto_region 8 with fail
 clear hne l0 l1 l2 l3 l4 l5 l6 l7 V4;by_cases hc:o.code=0
 case neg =>
  have d1:(o.code != 0)=true:=by simpa using hc
  obtain ⟨e1,e2⟩:=HER.out hc;have m0:W4.cell? ⟨Xb,0,none⟩=some (.slice xa 0 cxa):=by have:=k0; rw [e1] at this; exact this
  have m2:W4.cell? ⟨Xb,2,none⟩=some (.int .i64 0):=by have:=k2; rw [e2] at this; exact this
  have HFB:Hid (Below w.heap.size w W4):=S4.out.bx.b;clear k0 k2 e1 e2 S4 hc HER HOK HIY;go_wp2_with fail
  go_ret;exact ⟨rfl,HFB.out⟩
 have d1:(o.code != 0)=false:=by simpa using hc
 obtain ⟨o1,o2,o3,o4,o5,o6,o7⟩:=HOK.out hc;have HY2:Hid (BdsIn o.bib.binds):=HIY.out o1 o3 o4;replace HBY:Hid (∀ W a b cc cd,SlIs strL1 1 W pa p.addrs→BbIs W a b o.bib→Calls Tryz.prog 8 #[.agg #[.slice pa p.addrs.length pc,.int .i64 p.low,.int .i64 p.high,.int .i64 p.most,.int .i64 p.filter,.int .i64 p.lv.udp,.int .i64 p.lv.echo,.int .i64 p.lv.opening,.int .i64 p.lv.opn,.int .i64 p.lv.closing],.agg #[.slice a o.bib.binds.length cc,.slice b o.bib.sess.length cd]] W fun e w'=>e=.returned (.bool true)∧Below W.heap.size W w'):=by
  have h:=HBY.out;rw [o1] at h;exact h
 have O5:Hid _:=o5;have O6:Hid _:=o6;have O7:Hid _:=o7;have u2:¬ (o.bib.binds.length:Int) < x.binds.length:=by omega
 have u3:¬ (x.binds.length:Int)+1 < o.bib.binds.length:=by omega
 have u4:¬ (x.sess.length:Int)+1 < o.bib.sess.length:=by omega
 have v2:decide (o.bib.binds.length < x.binds.length)=false:=decide_eq_false (by omega);have v2i:decide ((o.bib.binds.length:Int) < (x.binds.length:Int))=false:=decide_eq_false u2;have v3:decide ((x.binds.length:Int)+1 < (o.bib.binds.length:Int))=false:=decide_eq_false u3;have v4:decide ((x.sess.length:Int)+1 < (o.bib.sess.length:Int))=false:=decide_eq_false u4;have HC:Hid (o.code=0):=hc;clear o1 o5 o6 o7 hc HER HOK HIY;go_upto_region 10 with fail
 clear d1 k0 k1 k2 k3 k4 k5 k6 k7;have HHk:=S4.out.bx.at (.tail _ (.tail _ (.tail _ (.head _))));obtain ⟨k0,k1,k2,k3,k4,k5,k6,k7,k8,k9⟩:=HHk.c10;clear HHk;have HHl:=S4.out.bx.at (.head _);obtain ⟨l0,l1,l2,l3,l4,l5,l6,l7⟩:=HHl.c8;clear HHl;go_wp2_with fail
 refine (HBY.out W4 xa xb cxa cxb S4.out.pl S4.out.yy).mono ?_;rintro e W5 ⟨rfl,q5⟩;have S5:Hid (TuS w [(Xb,[.slice xa o.bib.binds.length cxa,.slice xb o.bib.sess.length cxb,.int .i64 o.bind.proto,.string o.bind.inn,.int .i64 o.bind.inPort,.string o.bind.out,.int .i64 o.bind.outPort,.int .i64 o.code]),(w1.heap.size+1+1,[.int .i64 proto,.bool inside,.string addr,.int .i64 port,.string peer,.int .i64 peerPort,.int .i64 flags]),(w1.heap.size+1,[.slice ba x.binds.length ca,.slice bo x.sess.length cb]),(w1.heap.size,[.slice pa p.addrs.length pc,.int .i64 p.low,.int .i64 p.high,.int .i64 p.most,.int .i64 p.filter,.int .i64 p.lv.udp,.int .i64 p.lv.echo,.int .i64 p.lv.opening,.int .i64 p.lv.opn,.int .i64 p.lv.closing])] pa p ba bo x xa xb o.bib W5):=S4.out.kept q5;clear q5 S4 HBY k0 k1 k2 k3 k4 k5 k6 k7 k8 k9 l0 l1 l2 l3 l4 l5 l6 l7;have HHk:=S5.out.bx.at (.tail _ (.tail _ (.head _)));obtain ⟨k0,k1⟩:=HHk.c2;clear HHk;have HHl:=S5.out.bx.at (.head _);obtain ⟨l0,l1,l2,l3,l4,l5,l6,l7⟩:=HHl.c8;clear HHl;go_upto_region 12 with fail
 clear k0 k1 l0 l1 l2 l3 l4 l5 l6 l7;go_wp2_with fail
 go_loopw [9] (fun i wr=>∃ k:Nat,k≤x.binds.length∧i=.int .i64 k∧TuS w [(Xb,[.slice xa o.bib.binds.length cxa,.slice xb o.bib.sess.length cxb,.int .i64 o.bind.proto,.string o.bind.inn,.int .i64 o.bind.inPort,.string o.bind.out,.int .i64 o.bind.outPort,.int .i64 o.code]),(w1.heap.size+1+1,[.int .i64 proto,.bool inside,.string addr,.int .i64 port,.string peer,.int .i64 peerPort,.int .i64 flags]),(w1.heap.size+1,[.slice ba x.binds.length ca,.slice bo x.sess.length cb]),(w1.heap.size,[.slice pa p.addrs.length pc,.int .i64 p.low,.int .i64 p.high,.int .i64 p.most,.int .i64 p.filter,.int .i64 p.lv.udp,.int .i64 p.lv.echo,.int .i64 p.lv.opening,.int .i64 p.lv.opn,.int .i64 p.lv.closing])] pa p ba bo x xa xb o.bib wr) (fun i _=>x.binds.length-(intOf i).toNat)
 case atStart=>exact ⟨0,Nat.zero_le _,rfl,S5.out⟩
 case round =>
  obtain ⟨k,hk,rfl,hst⟩:=hrel;have S6:Hid (TuS w [(Xb,[.slice xa o.bib.binds.length cxa,.slice xb o.bib.sess.length cxb,.int .i64 o.bind.proto,.string o.bind.inn,.int .i64 o.bind.inPort,.string o.bind.out,.int .i64 o.bind.outPort,.int .i64 o.code]),(w1.heap.size+1+1,[.int .i64 proto,.bool inside,.string addr,.int .i64 port,.string peer,.int .i64 peerPort,.int .i64 flags]),(w1.heap.size+1,[.slice ba x.binds.length ca,.slice bo x.sess.length cb]),(w1.heap.size,[.slice pa p.addrs.length pc,.int .i64 p.low,.int .i64 p.high,.int .i64 p.most,.int .i64 p.filter,.int .i64 p.lv.udp,.int .i64 p.lv.echo,.int .i64 p.lv.opening,.int .i64 p.lv.opn,.int .i64 p.lv.closing])] pa p ba bo x xa xb o.bib wr):=hst;clear hst S5;have HHl:=S6.out.bx.at (.tail _ (.tail _ (.head _)));obtain ⟨l0,l1⟩:=HHl.c2;clear HHl;by_cases hlt:k < x.binds.length
  case pos =>
   have hk2:¬ (x.binds.length:Int)≤(k:Int):=by omega
   have hky:k < o.bib.binds.length:=by omega
   have hn2:¬ (o.bib.binds.length:Int)≤(k:Int):=by omega
   obtain ⟨c1,o1,hbo,hc1,hA⟩:=S6.out.bb.bd.at hlt;have HBO:Hid (ba=some ⟨c1,o1,none⟩):=hbo;obtain ⟨c2,o2',hxo,hc2,hB⟩:=S6.out.yy.bd.at hky;have HXO:Hid (xa=some ⟨c2,o2',none⟩):=hxo;clear hbo hxo;obtain ⟨q,hq⟩ : ∃ q,q=x.binds[k]:=⟨_,rfl⟩;have hqy:o.bib.binds[k]=q:=by
    have h:=O5.out k hlt;rw [List.getElem?_eq_getElem hky] at h;rw [hq]; exact Option.some.inj h
   have CA:Hid (∀ wy,Below wr.heap.size wr wy→wy.cell? ⟨c1,o1+k*5,none⟩=some (.int .i64 q.proto)∧wy.cell? ⟨c1,o1+k*5+1,none⟩=some (.string q.inn)∧wy.cell? ⟨c1,o1+k*5+2,none⟩=some (.int .i64 q.inPort)∧wy.cell? ⟨c1,o1+k*5+3,none⟩=some (.string q.out)∧wy.cell? ⟨c1,o1+k*5+4,none⟩=some (.int .i64 q.outPort)):=fun wy hy=>by
    have h3:=(hA.below hc1 hy) k hlt;rw [← hq] at h3;exact ⟨h3 0 _ rfl,h3 1 _ rfl,h3 2 _ rfl,h3 3 _ rfl,h3 4 _ rfl⟩
   have CB:Hid (∀ wy,Below wr.heap.size wr wy→wy.cell? ⟨c2,o2'+k*5,none⟩=some (.int .i64 q.proto)∧wy.cell? ⟨c2,o2'+k*5+1,none⟩=some (.string q.inn)∧wy.cell? ⟨c2,o2'+k*5+2,none⟩=some (.int .i64 q.inPort)∧wy.cell? ⟨c2,o2'+k*5+3,none⟩=some (.string q.out)∧wy.cell? ⟨c2,o2'+k*5+4,none⟩=some (.int .i64 q.outPort)):=fun wy hy=>by
    have h3:=(hB.below hc2 hy) k hky;rw [hqy] at h3;exact ⟨h3 0 _ rfl,h3 1 _ rfl,h3 2 _ rfl,h3 3 _ rfl,h3 4 _ rfl⟩
   have HNE:Hid (∀ W,(binOp .neq 37 (.agg #[.int .i64 q.proto,.string q.inn,.int .i64 q.inPort,.string q.out,.int .i64 q.outPort]) (.agg #[.int .i64 q.proto,.string q.inn,.int .i64 q.inPort,.string q.out,.int .i64 q.outPort])).run Tryz.prog W=.ok (.bool false) W):=fun W=>by rw [neBdW_bin q q W,sameBd_self]; rfl
   clear hA hB hq hqy;go_upto_region 15 with fail
   clear l0 l1;go_cut [119] (fun v wx=>v=.bool false∧TuS w [(Xb,[.slice xa o.bib.binds.length cxa,.slice xb o.bib.sess.length cxb,.int .i64 o.bind.proto,.string o.bind.inn,.int .i64 o.bind.inPort,.string o.bind.out,.int .i64 o.bind.outPort,.int .i64 o.code]),(w1.heap.size+1+1,[.int .i64 proto,.bool inside,.string addr,.int .i64 port,.string peer,.int .i64 peerPort,.int .i64 flags]),(w1.heap.size+1,[.slice ba x.binds.length ca,.slice bo x.sess.length cb]),(w1.heap.size,[.slice pa p.addrs.length pc,.int .i64 p.low,.int .i64 p.high,.int .i64 p.most,.int .i64 p.filter,.int .i64 p.lv.udp,.int .i64 p.lv.echo,.int .i64 p.lv.opening,.int .i64 p.lv.opn,.int .i64 p.lv.closing])] pa p ba bo x xa xb o.bib wx)
   case first =>
    rename_i J K2 hJ hK2;have HCP:Hid (∀ wy,Below wr.drew.heap.size wr.drew wy→_):=fun wy hy=>S6.out.kept ((Below.refl _ _).drew.trans hy)
    refine wp_region_growH [108,109,110,111,112,113,114,115,116,117,118,119] (by kernel_rfl) (by kernel_rfl) ?_;apply GCh.v0
    ·rfl
    ·intro K' a wy ho hd hb hK kz;have o7:=ho 7 (by decide);simp [slot] at o7;clear hd ho;go_simp;try go_bits
     exact kz _ rfl
    apply GCh.v1
    ·rfl
    ·intro K' a wy ho hd hb hK kz;have q0:=hd ⟨0,.data⟩ (by simp) rfl;simp [rAt,IsV,slot] at q0;clear hd ho;go_simp;try go_bits
     exact kz _ rfl
    apply GCh.v2
    ·rfl
    ·intro K' a wy ho hd hb hK kz;have q1:=hd ⟨1,.data⟩ (by simp) rfl;simp [rAt,IsV,slot] at q1;clear hd ho;have hst:=HCP.out wy hb;have HHl:=hst.bx.at (.tail _ (.tail _ (.head _)));obtain ⟨l0,l1⟩:=HHl.c2;clear HHl;have HHm:=hst.bx.at (.head _);have m0:=HHm.cell (j:=0) rfl;clear HHm;clear hst;rw [HBO.out] at l0;rw [HXO.out] at m0;have hca:=CA.out wy ((Below.refl _ _).drew.trans hb);have hcb:=CB.out wy ((Below.refl _ _).drew.trans hb);obtain ⟨s0,s1,s2,s3,s4⟩:=hca;obtain ⟨t0,t1,t2,t3,t4⟩:=hcb;go_simp;try go_bits
     exact kz _ rfl
    apply GCh.v3
    ·rfl
    ·intro K' a wy ho hd hb hK kz;have o9:=ho 9 (by decide);simp [slot] at o9;clear hd ho;go_simp;try go_bits
     exact kz _ rfl
    apply GCh.v4
    ·rfl
    ·intro K' a wy ho hd hb hK kz;have q2:=hd ⟨2,.data⟩ (by simp) rfl;simp [rAt,IsV,slot] at q2;have q3:=hd ⟨3,.data⟩ (by simp) rfl;simp [rAt,IsV,slot] at q3;clear hd ho;go_simp;try go_bits
     exact kz _ rfl
    apply GCh.v5
    ·rfl
    ·intro K' a wy ho hd hb hK kz;have q4:=hd ⟨4,.data⟩ (by simp) rfl;simp [rAt,IsV,slot] at q4;clear hd ho;have hst:=HCP.out wy hb;have HHl:=hst.bx.at (.tail _ (.tail _ (.head _)));obtain ⟨l0,l1⟩:=HHl.c2;clear HHl;have HHm:=hst.bx.at (.head _);have m0:=HHm.cell (j:=0) rfl;clear HHm;clear hst;rw [HBO.out] at l0;rw [HXO.out] at m0;have hca:=CA.out wy ((Below.refl _ _).drew.trans hb);have hcb:=CB.out wy ((Below.refl _ _).drew.trans hb);obtain ⟨s0,s1,s2,s3,s4⟩:=hca;obtain ⟨t0,t1,t2,t3,t4⟩:=hcb;go_simp;try go_bits
     exact kz _ rfl
    apply GCh.v6
    ·rfl
    ·intro K' a wy ho hd hb hK kz;have o4:=ho 4 (by decide);simp [slot] at o4;clear hd ho;go_simp;try go_bits
     exact kz _ rfl
    apply GCh.v7
    ·rfl
    ·intro K' a wy ho hd hb hK kz;have q6:=hd ⟨6,.data⟩ (by simp) rfl;simp [rAt,IsV,slot] at q6;clear hd ho;have hst:=HCP.out wy hb;have HHl:=hst.bx.at (.tail _ (.tail _ (.head _)));obtain ⟨l0,l1⟩:=HHl.c2;clear HHl;have HHm:=hst.bx.at (.head _);have m0:=HHm.cell (j:=0) rfl;clear HHm;clear hst;rw [HBO.out] at l0;rw [HXO.out] at m0;have hca:=CA.out wy ((Below.refl _ _).drew.trans hb);have hcb:=CB.out wy ((Below.refl _ _).drew.trans hb);obtain ⟨s0,s1,s2,s3,s4⟩:=hca;obtain ⟨t0,t1,t2,t3,t4⟩:=hcb;go_simp;try go_bits
     exact kz _ rfl
    apply GCh.v8
    ·rfl
    ·intro K' a wy ho hd hb hK kz;have o9:=ho 9 (by decide);simp [slot] at o9;clear hd ho;go_simp;try go_bits
     exact kz _ rfl
    apply GCh.v9
    ·rfl
    ·intro K' a wy ho hd hb hK kz;have q7:=hd ⟨7,.data⟩ (by simp) rfl;simp [rAt,IsV,slot] at q7;have q8:=hd ⟨8,.data⟩ (by simp) rfl;simp [rAt,IsV,slot] at q8;clear hd ho;go_simp;try go_bits
     exact kz _ rfl
    apply GCh.v10
    ·rfl
    ·intro K' a wy ho hd hb hK kz;have q9:=hd ⟨9,.data⟩ (by simp) rfl;simp [rAt,IsV,slot] at q9;clear hd ho;have hst:=HCP.out wy hb;have HHl:=hst.bx.at (.tail _ (.tail _ (.head _)));obtain ⟨l0,l1⟩:=HHl.c2;clear HHl;have HHm:=hst.bx.at (.head _);have m0:=HHm.cell (j:=0) rfl;clear HHm;clear hst;rw [HBO.out] at l0;rw [HXO.out] at m0;have hca:=CA.out wy ((Below.refl _ _).drew.trans hb);have hcb:=CB.out wy ((Below.refl _ _).drew.trans hb);obtain ⟨s0,s1,s2,s3,s4⟩:=hca;obtain ⟨t0,t1,t2,t3,t4⟩:=hcb;go_simp;try go_bits
     exact kz _ rfl
    apply GCh.v11
    ·rfl
    ·intro K' a wy ho hd hb hK kz;have q5:=hd ⟨5,.data⟩ (by simp) rfl;simp [rAt,IsV,slot] at q5;have q10:=hd ⟨10,.data⟩ (by simp) rfl;simp [rAt,IsV,slot] at q10;clear hd ho;have hne:=HNE.out wy;go_simp;try go_bits
     exact kz _ rfl
    intro X wz hR hz;obtain ⟨x0,x1,x2,x3,x4,x5,x6,x7,x8,x9,x10,x11,-⟩:=hR;simp only [IsV] at x0 x1 x2 x3 x4 x5 x6 x7 x8 x9 x10 x11;simp only [putsFrom,x0,x1,x2,x3,x4,x5,x6,x7,x8,x9,x10,x11];clear x0 x1 x2 x3 x4 x5 x6 x7 x8 x9 x10 x11;have HF:Hid (TuS w [(Xb,[.slice xa o.bib.binds.length cxa,.slice xb o.bib.sess.length cxb,.int .i64 o.bind.proto,.string o.bind.inn,.int .i64 o.bind.inPort,.string o.bind.out,.int .i64 o.bind.outPort,.int .i64 o.code]),(w1.heap.size+1+1,[.int .i64 proto,.bool inside,.string addr,.int .i64 port,.string peer,.int .i64 peerPort,.int .i64 flags]),(w1.heap.size+1,[.slice ba x.binds.length ca,.slice bo x.sess.length cb]),(w1.heap.size,[.slice pa p.addrs.length pc,.int .i64 p.low,.int .i64 p.high,.int .i64 p.most,.int .i64 p.filter,.int .i64 p.lv.udp,.int .i64 p.lv.echo,.int .i64 p.lv.opening,.int .i64 p.lv.opn,.int .i64 p.lv.closing])] pa p ba bo x xa xb o.bib wz):=HCP.out wz hz;clear HCP;go_simp;refine hK2 _ _ (hJ _ _ ?_);(repeat apply Exists.intro)
    exact ⟨⟨rfl,HF.out⟩,rfl⟩
   case rest =>
   obtain ⟨rfl,hS⟩:=hcut;have S8:Hid _:=hS;clear hS S6 CA CB HNE;go_wp2_with fail
   go_roundw
   case rel=>exact ⟨k+1,by omega,by go_num,S8.out⟩
   case measure=>simp [intOf]; omega
  have hk2:(x.binds.length:Int)≤(k:Int):=by omega
  clear hlt hk;go_upto_region 17 with fail
  clear l0 l1;have HHm:=S6.out.bx.at (.tail _ (.head _));obtain ⟨m0,m1,m2,m3,m4,m5,m6⟩:=HHm.c7;clear HHm
  cases inside with
  | true =>
   have S7:Hid (TuS w [(Xb,[.slice xa o.bib.binds.length cxa,.slice xb o.bib.sess.length cxb,.int .i64 o.bind.proto,.string o.bind.inn,.int .i64 o.bind.inPort,.string o.bind.out,.int .i64 o.bind.outPort,.int .i64 o.code]),(w1.heap.size+1+1,[.int .i64 proto,.bool true,.string addr,.int .i64 port,.string peer,.int .i64 peerPort,.int .i64 flags]),(w1.heap.size+1,[.slice ba x.binds.length ca,.slice bo x.sess.length cb]),(w1.heap.size,[.slice pa p.addrs.length pc,.int .i64 p.low,.int .i64 p.high,.int .i64 p.most,.int .i64 p.filter,.int .i64 p.lv.udp,.int .i64 p.lv.echo,.int .i64 p.lv.opening,.int .i64 p.lv.opn,.int .i64 p.lv.closing])] pa p ba bo x xa xb o.bib wr):=S6.out;clear S6;obtain ⟨f1,f2⟩:=O6.out (by first | rfl | trivial);have HF1:Hid _:=f1;have HF2:Hid _:=f2;clear f1 f2;go_upto_region 18 with fail
   clear m0 m1 m2 m3 m4 m5 m6;have HCP:Hid (∀ wy,Below wr.drew.heap.size wr.drew wy→_):=fun wy hy=>S7.out.kept ((Below.refl _ _).drew.trans hy)
   have HOf:Hid (∀ wy,Below wr.drew.heap.size wr.drew wy→Calls Tryz.prog 9 #[.agg #[.slice xa o.bib.binds.length cxa,.slice xb o.bib.sess.length cxb],.int .i64 proto,.string addr,.int .i64 port] wy fun e w'=>e=.returned (bdC o.bind)∧Below wy.heap.size wy w'):=fun wy hy=>by
    have h:=implBindOf_any o.bib.binds proto addr port xa cxa (.slice xb o.bib.sess.length cxb) rfl wy HY2.out (HCP.out wy hy).yy.bd;rw [HF1.out] at h;exact h
   have HAt:Hid (∀ wy,Below wr.drew.heap.size wr.drew wy→Calls Tryz.prog 10 #[.agg #[.slice xa o.bib.binds.length cxa,.slice xb o.bib.sess.length cxb],.int .i64 proto,.string o.bind.out,.int .i64 o.bind.outPort] wy fun e w'=>e=.returned (bdC o.bind)∧Below wy.heap.size wy w'):=fun wy hy=>by
    have h:=implBindAt_any o.bib.binds proto o.bind.out o.bind.outPort xa cxa (.slice xb o.bib.sess.length cxb) rfl wy HY2.out (HCP.out wy hy).yy.bd;rw [HF2.out] at h;exact h
   unfold bdC at HOf HAt;go_cut [2] (fun v wx=>v=.bool true∧Below w.heap.size w wx)
   case first =>
    rename_i J K2 hJ hK2;refine wp_region_growH [122,123,124,125,126,127,128,129,130,131,132,133,134,135,136,137,138,139,140,141,142,143,144,145,146,147,148,149,2] (by kernel_rfl) (by kernel_rfl) ?_;apply GCh.v0
    ·rfl
    ·intro K' a wy ho hd hb hK kz;have o7:=ho 7 (by decide);simp [slot] at o7;clear hd ho;go_simp;try go_bits
     exact kz _ rfl
    apply GCh.v1
    ·rfl
    ·intro K' a wy ho hd hb hK kz;have q0:=hd ⟨0,.data⟩ (by simp) rfl;simp [rAt,IsV,slot] at q0;clear hd ho;have hst:=HCP.out wy hb;have HHl:=hst.bx.at (.tail _ (.head _));obtain ⟨l0,l1,l2,l3,l4,l5,l6⟩:=HHl.c7;clear HHl;have HHm:=hst.bx.at (.head _);obtain ⟨m0,m1,m2,m3,m4,m5,m6,m7⟩:=HHm.c8;clear HHm;clear hst;go_simp;try go_bits
     exact kz _ rfl
    apply GCh.v2
    ·rfl
    ·intro K' a wy ho hd hb hK kz;have o7:=ho 7 (by decide);simp [slot] at o7;clear hd ho;go_simp;try go_bits
     exact kz _ rfl
    apply GCh.v3
    ·rfl
    ·intro K' a wy ho hd hb hK kz;have q2:=hd ⟨2,.data⟩ (by simp) rfl;simp [rAt,IsV,slot] at q2;clear hd ho;have hst:=HCP.out wy hb;have HHl:=hst.bx.at (.tail _ (.head _));obtain ⟨l0,l1,l2,l3,l4,l5,l6⟩:=HHl.c7;clear HHl;have HHm:=hst.bx.at (.head _);obtain ⟨m0,m1,m2,m3,m4,m5,m6,m7⟩:=HHm.c8;clear HHm;clear hst;go_simp;try go_bits
     exact kz _ rfl
    apply GCh.v4
    ·rfl
    ·intro K' a wy ho hd hb hK kz;have o5:=ho 5 (by decide);simp [slot] at o5;clear hd ho;go_simp;try go_bits
     exact kz _ rfl
    apply GCh.v5
    ·rfl
    ·intro K' a wy ho hd hb hK kz;have q4:=hd ⟨4,.data⟩ (by simp) rfl;simp [rAt,IsV,slot] at q4;clear hd ho;have hst:=HCP.out wy hb;have HHl:=hst.bx.at (.tail _ (.head _));obtain ⟨l0,l1,l2,l3,l4,l5,l6⟩:=HHl.c7;clear HHl;have HHm:=hst.bx.at (.head _);obtain ⟨m0,m1,m2,m3,m4,m5,m6,m7⟩:=HHm.c8;clear HHm;clear hst;go_simp;try go_bits
     exact kz _ rfl
    apply GCh.v6
    ·rfl
    ·intro K' a wy ho hd hb hK kz;have o5:=ho 5 (by decide);simp [slot] at o5;clear hd ho;go_simp;try go_bits
     exact kz _ rfl
    apply GCh.v7
    ·rfl
    ·intro K' a wy ho hd hb hK kz;have q6:=hd ⟨6,.data⟩ (by simp) rfl;simp [rAt,IsV,slot] at q6;clear hd ho;have hst:=HCP.out wy hb;have HHl:=hst.bx.at (.tail _ (.head _));obtain ⟨l0,l1,l2,l3,l4,l5,l6⟩:=HHl.c7;clear HHl;have HHm:=hst.bx.at (.head _);obtain ⟨m0,m1,m2,m3,m4,m5,m6,m7⟩:=HHm.c8;clear HHm;clear hst;go_simp;try go_bits
     exact kz _ rfl
    apply GCh.v8
    ·rfl
    ·intro K' a wy ho hd hb hK kz;have o5:=ho 5 (by decide);simp [slot] at o5;clear hd ho;go_simp;try go_bits
     exact kz _ rfl
    apply GCh.v9
    ·rfl
    ·intro K' a wy ho hd hb hK kz;have q8:=hd ⟨8,.data⟩ (by simp) rfl;simp [rAt,IsV,slot] at q8;clear hd ho;have hst:=HCP.out wy hb;have HHl:=hst.bx.at (.tail _ (.head _));obtain ⟨l0,l1,l2,l3,l4,l5,l6⟩:=HHl.c7;clear HHl;have HHm:=hst.bx.at (.head _);obtain ⟨m0,m1,m2,m3,m4,m5,m6,m7⟩:=HHm.c8;clear HHm;clear hst;go_simp;try go_bits
     exact kz _ rfl
    apply GCh.v10
    ·rfl
    ·intro K' a wy ho hd hb hK kz;have q3:=hd ⟨3,.data⟩ (by simp) rfl;simp [rAt,IsV,slot] at q3;have q5:=hd ⟨5,.data⟩ (by simp) rfl;simp [rAt,IsV,slot] at q5;have q7:=hd ⟨7,.data⟩ (by simp) rfl;simp [rAt,IsV,slot] at q7;have q9:=hd ⟨9,.data⟩ (by simp) rfl;simp [rAt,IsV,slot] at q9;clear hd ho;go_simp;refine (HOf.out wy hb).mono ?_;rintro e wz ⟨rfl,hz⟩;exact hK _ _ rfl hz
    apply GCh.v11
    ·rfl
    ·intro K' a wy ho hd hb hK kz;have q1:=hd ⟨1,.data⟩ (by simp) rfl;simp [rAt,IsV,slot] at q1;have q10:=hd ⟨10,.data⟩ (by simp) rfl;simp [rAt,IsV,slot] at q10;clear hd ho;have heq:=fun W=>eqBdW_bin o.bind o.bind W
     simp only [sameBd_self] at heq;go_simp;try go_bits
     exact kz _ rfl
    apply GCh.v12
    ·rfl
    ·intro K' a wy ho hd hb hK kz;have q11:=hd ⟨11,.data⟩ (by simp) rfl;simp [rAt,IsV,slot] at q11;clear hd ho;go_simp;try go_bits
     exact kz _ rfl
    refine GCh.val (n:=13) (fun v=>[_,_,_,_,_,_,_,_,_,_,_,_,_,IsV v]) (fun _=>rfl) rfl ?_;apply Exists.intro;refine And.intro ?_ ?_
    ·intro K' a wy ho hd hb hK;refine wants 12 134 true true rfl rfl rfl (hd ⟨12,.guard⟩ (by simp) rfl) rfl ?_;have o7:=ho 7 (by decide);simp [slot] at o7;clear hd ho;go_simp;try go_bits
     exact hK _ _ rfl (Below.refl _ _)
    refine GCh.val (n:=14) (fun v=>[_,_,_,_,_,_,_,_,_,_,_,_,_,_,IsV v]) (fun _=>rfl) rfl ?_;apply Exists.intro;refine And.intro ?_ ?_
    ·intro K' a wy ho hd hb hK;refine wants 12 134 true true rfl rfl rfl (hd ⟨12,.guard⟩ (by simp) rfl) rfl ?_;have q13:=hd ⟨13,.data⟩ (by simp) rfl;simp [rAt,IsV,slot] at q13;clear hd ho;have hst:=HCP.out wy hb;have HHl:=hst.bx.at (.tail _ (.head _));obtain ⟨l0,l1,l2,l3,l4,l5,l6⟩:=HHl.c7;clear HHl;have HHm:=hst.bx.at (.head _);obtain ⟨m0,m1,m2,m3,m4,m5,m6,m7⟩:=HHm.c8;clear HHm;clear hst;go_simp;try go_bits
     exact hK _ _ rfl (Below.refl _ _)
    refine GCh.val (n:=15) (fun v=>[_,_,_,_,_,_,_,_,_,_,_,_,_,_,_,IsV v]) (fun _=>rfl) rfl ?_;apply Exists.intro;refine And.intro ?_ ?_
    ·intro K' a wy ho hd hb hK;refine wants 12 134 true true rfl rfl rfl (hd ⟨12,.guard⟩ (by simp) rfl) rfl ?_;have o5:=ho 5 (by decide);simp [slot] at o5;clear hd ho;go_simp;try go_bits
     exact hK _ _ rfl (Below.refl _ _)
    refine GCh.val (n:=16) (fun v=>[_,_,_,_,_,_,_,_,_,_,_,_,_,_,_,_,IsV v]) (fun _=>rfl) rfl ?_;apply Exists.intro;refine And.intro ?_ ?_
    ·intro K' a wy ho hd hb hK;refine wants 12 134 true true rfl rfl rfl (hd ⟨12,.guard⟩ (by simp) rfl) rfl ?_;have q15:=hd ⟨15,.data⟩ (by simp) rfl;simp [rAt,IsV,slot] at q15;clear hd ho;have hst:=HCP.out wy hb;have HHl:=hst.bx.at (.tail _ (.head _));obtain ⟨l0,l1,l2,l3,l4,l5,l6⟩:=HHl.c7;clear HHl;have HHm:=hst.bx.at (.head _);obtain ⟨m0,m1,m2,m3,m4,m5,m6,m7⟩:=HHm.c8;clear HHm;clear hst;go_simp;try go_bits
     exact hK _ _ rfl (Below.refl _ _)
    refine GCh.val (n:=17) (fun v=>[_,_,_,_,_,_,_,_,_,_,_,_,_,_,_,_,_,IsV v]) (fun _=>rfl) rfl ?_;apply Exists.intro;refine And.intro ?_ ?_
    ·intro K' a wy ho hd hb hK;refine wants 12 134 true true rfl rfl rfl (hd ⟨12,.guard⟩ (by simp) rfl) rfl ?_;have o7:=ho 7 (by decide);simp [slot] at o7;clear hd ho;go_simp;try go_bits
     exact hK _ _ rfl (Below.refl _ _)
    refine GCh.val (n:=18) (fun v=>[_,_,_,_,_,_,_,_,_,_,_,_,_,_,_,_,_,_,IsV v]) (fun _=>rfl) rfl ?_;apply Exists.intro;refine And.intro ?_ ?_
    ·intro K' a wy ho hd hb hK;refine wants 12 134 true true rfl rfl rfl (hd ⟨12,.guard⟩ (by simp) rfl) rfl ?_;have q17:=hd ⟨17,.data⟩ (by simp) rfl;simp [rAt,IsV,slot] at q17;clear hd ho;go_simp;try go_bits
     exact hK _ _ rfl (Below.refl _ _)
    refine GCh.val (n:=19) (fun v=>[_,_,_,_,_,_,_,_,_,_,_,_,_,_,_,_,_,_,_,IsV v]) (fun _=>rfl) rfl ?_;apply Exists.intro;refine And.intro ?_ ?_
    ·intro K' a wy ho hd hb hK;refine wants 12 134 true true rfl rfl rfl (hd ⟨12,.guard⟩ (by simp) rfl) rfl ?_;have q18:=hd ⟨18,.data⟩ (by simp) rfl;simp [rAt,IsV,slot] at q18;clear hd ho;have hst:=HCP.out wy hb;have HHl:=hst.bx.at (.tail _ (.head _));obtain ⟨l0,l1,l2,l3,l4,l5,l6⟩:=HHl.c7;clear HHl;have HHm:=hst.bx.at (.head _);obtain ⟨m0,m1,m2,m3,m4,m5,m6,m7⟩:=HHm.c8;clear HHm;clear hst;go_simp;try go_bits
     exact hK _ _ rfl (Below.refl _ _)
    refine GCh.val (n:=20) (fun v=>[_,_,_,_,_,_,_,_,_,_,_,_,_,_,_,_,_,_,_,_,IsV v]) (fun _=>rfl) rfl ?_;apply Exists.intro;refine And.intro ?_ ?_
    ·intro K' a wy ho hd hb hK;refine wants 12 134 true true rfl rfl rfl (hd ⟨12,.guard⟩ (by simp) rfl) rfl ?_;have o7:=ho 7 (by decide);simp [slot] at o7;clear hd ho;go_simp;try go_bits
     exact hK _ _ rfl (Below.refl _ _)
    refine GCh.val (n:=21) (fun v=>[_,_,_,_,_,_,_,_,_,_,_,_,_,_,_,_,_,_,_,_,_,IsV v]) (fun _=>rfl) rfl ?_;apply Exists.intro;refine And.intro ?_ ?_
    ·intro K' a wy ho hd hb hK;refine wants 12 134 true true rfl rfl rfl (hd ⟨12,.guard⟩ (by simp) rfl) rfl ?_;have q20:=hd ⟨20,.data⟩ (by simp) rfl;simp [rAt,IsV,slot] at q20;clear hd ho;go_simp;try go_bits
     exact hK _ _ rfl (Below.refl _ _)
    refine GCh.val (n:=22) (fun v=>[_,_,_,_,_,_,_,_,_,_,_,_,_,_,_,_,_,_,_,_,_,_,IsV v]) (fun _=>rfl) rfl ?_;apply Exists.intro;refine And.intro ?_ ?_
    ·intro K' a wy ho hd hb hK;refine wants 12 134 true true rfl rfl rfl (hd ⟨12,.guard⟩ (by simp) rfl) rfl ?_;have q21:=hd ⟨21,.data⟩ (by simp) rfl;simp [rAt,IsV,slot] at q21;clear hd ho;have hst:=HCP.out wy hb;have HHl:=hst.bx.at (.tail _ (.head _));obtain ⟨l0,l1,l2,l3,l4,l5,l6⟩:=HHl.c7;clear HHl;have HHm:=hst.bx.at (.head _);obtain ⟨m0,m1,m2,m3,m4,m5,m6,m7⟩:=HHm.c8;clear HHm;clear hst;go_simp;try go_bits
     exact hK _ _ rfl (Below.refl _ _)
    refine GCh.val (n:=23) (fun v=>[_,_,_,_,_,_,_,_,_,_,_,_,_,_,_,_,_,_,_,_,_,_,_,IsV v]) (fun _=>rfl) rfl ?_;apply Exists.intro;refine And.intro ?_ ?_
    ·intro K' a wy ho hd hb hK;refine wants 12 134 true true rfl rfl rfl (hd ⟨12,.guard⟩ (by simp) rfl) rfl ?_;have q14:=hd ⟨14,.data⟩ (by simp) rfl;simp [rAt,IsV,slot] at q14;have q16:=hd ⟨16,.data⟩ (by simp) rfl;simp [rAt,IsV,slot] at q16;have q19:=hd ⟨19,.data⟩ (by simp) rfl;simp [rAt,IsV,slot] at q19;have q22:=hd ⟨22,.data⟩ (by simp) rfl;simp [rAt,IsV,slot] at q22;clear hd ho;go_simp;refine (HAt.out wy hb).mono ?_;rintro e wz ⟨rfl,hz⟩;exact hK _ _ rfl hz
    refine GCh.val (n:=24) (fun v=>[_,_,_,_,_,_,_,_,_,_,_,_,_,_,_,_,_,_,_,_,_,_,_,_,IsV v]) (fun _=>rfl) rfl ?_;apply Exists.intro;refine And.intro ?_ ?_
    ·intro K' a wy ho hd hb hK;refine wants 12 134 true true rfl rfl rfl (hd ⟨12,.guard⟩ (by simp) rfl) rfl ?_;have o7:=ho 7 (by decide);simp [slot] at o7;clear hd ho;go_simp;try go_bits
     exact hK _ _ rfl (Below.refl _ _)
    refine GCh.val (n:=25) (fun v=>[_,_,_,_,_,_,_,_,_,_,_,_,_,_,_,_,_,_,_,_,_,_,_,_,_,IsV v]) (fun _=>rfl) rfl ?_;apply Exists.intro;refine And.intro ?_ ?_
    ·intro K' a wy ho hd hb hK;refine wants 12 134 true true rfl rfl rfl (hd ⟨12,.guard⟩ (by simp) rfl) rfl ?_;have q24:=hd ⟨24,.data⟩ (by simp) rfl;simp [rAt,IsV,slot] at q24;clear hd ho;have hst:=HCP.out wy hb;have HHl:=hst.bx.at (.tail _ (.head _));obtain ⟨l0,l1,l2,l3,l4,l5,l6⟩:=HHl.c7;clear HHl;have HHm:=hst.bx.at (.head _);obtain ⟨m0,m1,m2,m3,m4,m5,m6,m7⟩:=HHm.c8;clear HHm;clear hst;go_simp;try go_bits
     exact hK _ _ rfl (Below.refl _ _)
    refine GCh.val (n:=26) (fun v=>[_,_,_,_,_,_,_,_,_,_,_,_,_,_,_,_,_,_,_,_,_,_,_,_,_,_,IsV v]) (fun _=>rfl) rfl ?_;apply Exists.intro;refine And.intro ?_ ?_
    ·intro K' a wy ho hd hb hK;refine wants 12 134 true true rfl rfl rfl (hd ⟨12,.guard⟩ (by simp) rfl) rfl ?_;have q23:=hd ⟨23,.data⟩ (by simp) rfl;simp [rAt,IsV,slot] at q23;have q25:=hd ⟨25,.data⟩ (by simp) rfl;simp [rAt,IsV,slot] at q25;clear hd ho;have heq:=fun W=>eqBdW_bin o.bind o.bind W
     simp only [sameBd_self] at heq;go_simp;try go_bits
     exact hK _ _ rfl (Below.refl _ _)
    apply GCh.v27
    ·rfl
    ·intro K' a wy ho hd hb hK kz;have q12:=hd ⟨12,.data⟩ (by simp) rfl;simp [rAt,IsV,slot] at q12;have q26:=hd ⟨26,.data⟩ (by simp) rfl;simp [rAt,IsV,slot] at q26;clear hd ho;go_simp;try go_bits
     exact kz _ rfl
    apply GCh.v28
    ·rfl
    ·intro K' a wy ho hd hb hK kz;have q27:=hd ⟨27,.data⟩ (by simp) rfl;simp [rAt,IsV,slot] at q27;clear hd ho;go_simp;try go_bits
     exact kz _ rfl
    intro X wz hR hz;obtain ⟨x0,x1,x2,x3,x4,x5,x6,x7,x8,x9,x10,x11,x12,x13,x14,x15,x16,x17,x18,x19,x20,x21,x22,x23,x24,x25,x26,x27,x28,-⟩:=hR;simp only [IsV] at x0 x1 x2 x3 x4 x5 x6 x7 x8 x9 x10 x11 x12 x13 x14 x15 x16 x17 x18 x19 x20 x21 x22 x23 x24 x25 x26 x27 x28;simp only [putsFrom,x0,x1,x2,x3,x4,x5,x6,x7,x8,x9,x10,x11,x12,x13,x14,x15,x16,x17,x18,x19,x20,x21,x22,x23,x24,x25,x26,x27,x28];clear x0 x1 x2 x3 x4 x5 x6 x7 x8 x9 x10 x11 x12 x13 x14 x15 x16 x17 x18 x19 x20 x21 x22 x23 x24 x25 x26 x27 x28;have HF:Hid (Below w.heap.size w wz):=(HCP.out wz hz).bx.b;clear HCP;go_simp;refine hK2 _ _ (hJ _ _ ?_);(repeat apply Exists.intro)
    exact ⟨⟨rfl,HF.out⟩,rfl⟩
   case rest =>
   obtain ⟨rfl,hB⟩:=hcut;have HB:Hid _:=hB;clear hB S7 HCP;go_wp2_with fail
   go_ret;exact ⟨rfl,HB.out⟩
  | false =>
   have S7:Hid (TuS w [(Xb,[.slice xa o.bib.binds.length cxa,.slice xb o.bib.sess.length cxb,.int .i64 o.bind.proto,.string o.bind.inn,.int .i64 o.bind.inPort,.string o.bind.out,.int .i64 o.bind.outPort,.int .i64 o.code]),(w1.heap.size+1+1,[.int .i64 proto,.bool false,.string addr,.int .i64 port,.string peer,.int .i64 peerPort,.int .i64 flags]),(w1.heap.size+1,[.slice ba x.binds.length ca,.slice bo x.sess.length cb]),(w1.heap.size,[.slice pa p.addrs.length pc,.int .i64 p.low,.int .i64 p.high,.int .i64 p.most,.int .i64 p.filter,.int .i64 p.lv.udp,.int .i64 p.lv.echo,.int .i64 p.lv.opening,.int .i64 p.lv.opn,.int .i64 p.lv.closing])] pa p ba bo x xa xb o.bib wr):=S6.out;clear S6;obtain ⟨f1,f2⟩:=O7.out (by first | rfl | trivial);have HF1:Hid _:=f1;have heqL:((o.bib.binds.length:Int)==(x.binds.length:Int))=true:=by rw [f2]; simp
   clear f1 f2;go_upto_region 19 with fail
   clear m0 m1 m2 m3 m4 m5 m6;have HCP:Hid (∀ wy,Below wr.drew.heap.size wr.drew wy→_):=fun wy hy=>S7.out.kept ((Below.refl _ _).drew.trans hy)
   have HAt:Hid (∀ wy,Below wr.drew.heap.size wr.drew wy→Calls Tryz.prog 10 #[.agg #[.slice ba x.binds.length ca,.slice bo x.sess.length cb],.int .i64 proto,.string addr,.int .i64 port] wy fun e w'=>e=.returned (bdC o.bind)∧Below wy.heap.size wy w'):=fun wy hy=>by
    have h:=implBindAt_any x.binds proto addr port ba ca (.slice bo x.sess.length cb) rfl wy HIX.out (HCP.out wy hy).bb.bd;rw [HF1.out] at h;exact h
   unfold bdC at HAt;go_cut [2] (fun v wx=>v=.bool true∧Below w.heap.size w wx)
   case first =>
    rename_i J K2 hJ hK2;refine wp_region_growH [150,151,152,153,154,155,156,157,158,159,160,161,162,163,164,165,166,167,168,169,170,2] (by kernel_rfl) (by kernel_rfl) ?_;apply GCh.v0
    ·rfl
    ·intro K' a wy ho hd hb hK kz;have o7:=ho 7 (by decide);simp [slot] at o7;clear hd ho;go_simp;try go_bits
     exact kz _ rfl
    apply GCh.v1
    ·rfl
    ·intro K' a wy ho hd hb hK kz;have q0:=hd ⟨0,.data⟩ (by simp) rfl;simp [rAt,IsV,slot] at q0;clear hd ho;have hst:=HCP.out wy hb;have HHl:=hst.bx.at (.tail _ (.head _));obtain ⟨l0,l1,l2,l3,l4,l5,l6⟩:=HHl.c7;clear HHl;have HHm:=hst.bx.at (.head _);obtain ⟨m0,m1,m2,m3,m4,m5,m6,m7⟩:=HHm.c8;clear HHm;have HHn:=hst.bx.at (.tail _ (.tail _ (.head _)));obtain ⟨n0,n1⟩:=HHn.c2;clear HHn;clear hst;go_simp;try go_bits
     exact kz _ rfl
    apply GCh.v2
    ·rfl
    ·intro K' a wy ho hd hb hK kz;have o4:=ho 4 (by decide);simp [slot] at o4;clear hd ho;have hst:=HCP.out wy hb;have HHl:=hst.bx.at (.tail _ (.head _));obtain ⟨l0,l1,l2,l3,l4,l5,l6⟩:=HHl.c7;clear HHl;have HHm:=hst.bx.at (.head _);obtain ⟨m0,m1,m2,m3,m4,m5,m6,m7⟩:=HHm.c8;clear HHm;have HHn:=hst.bx.at (.tail _ (.tail _ (.head _)));obtain ⟨n0,n1⟩:=HHn.c2;clear HHn;clear hst;go_simp;try go_bits
     exact kz _ rfl
    apply GCh.v3
    ·rfl
    ·intro K' a wy ho hd hb hK kz;have o5:=ho 5 (by decide);simp [slot] at o5;clear hd ho;go_simp;try go_bits
     exact kz _ rfl
    apply GCh.v4
    ·rfl
    ·intro K' a wy ho hd hb hK kz;have q3:=hd ⟨3,.data⟩ (by simp) rfl;simp [rAt,IsV,slot] at q3;clear hd ho;have hst:=HCP.out wy hb;have HHl:=hst.bx.at (.tail _ (.head _));obtain ⟨l0,l1,l2,l3,l4,l5,l6⟩:=HHl.c7;clear HHl;have HHm:=hst.bx.at (.head _);obtain ⟨m0,m1,m2,m3,m4,m5,m6,m7⟩:=HHm.c8;clear HHm;have HHn:=hst.bx.at (.tail _ (.tail _ (.head _)));obtain ⟨n0,n1⟩:=HHn.c2;clear HHn;clear hst;go_simp;try go_bits
     exact kz _ rfl
    apply GCh.v5
    ·rfl
    ·intro K' a wy ho hd hb hK kz;have o5:=ho 5 (by decide);simp [slot] at o5;clear hd ho;go_simp;try go_bits
     exact kz _ rfl
    apply GCh.v6
    ·rfl
    ·intro K' a wy ho hd hb hK kz;have q5:=hd ⟨5,.data⟩ (by simp) rfl;simp [rAt,IsV,slot] at q5;clear hd ho;have hst:=HCP.out wy hb;have HHl:=hst.bx.at (.tail _ (.head _));obtain ⟨l0,l1,l2,l3,l4,l5,l6⟩:=HHl.c7;clear HHl;have HHm:=hst.bx.at (.head _);obtain ⟨m0,m1,m2,m3,m4,m5,m6,m7⟩:=HHm.c8;clear HHm;have HHn:=hst.bx.at (.tail _ (.tail _ (.head _)));obtain ⟨n0,n1⟩:=HHn.c2;clear HHn;clear hst;go_simp;try go_bits
     exact kz _ rfl
    apply GCh.v7
    ·rfl
    ·intro K' a wy ho hd hb hK kz;have o5:=ho 5 (by decide);simp [slot] at o5;clear hd ho;go_simp;try go_bits
     exact kz _ rfl
    apply GCh.v8
    ·rfl
    ·intro K' a wy ho hd hb hK kz;have q7:=hd ⟨7,.data⟩ (by simp) rfl;simp [rAt,IsV,slot] at q7;clear hd ho;have hst:=HCP.out wy hb;have HHl:=hst.bx.at (.tail _ (.head _));obtain ⟨l0,l1,l2,l3,l4,l5,l6⟩:=HHl.c7;clear HHl;have HHm:=hst.bx.at (.head _);obtain ⟨m0,m1,m2,m3,m4,m5,m6,m7⟩:=HHm.c8;clear HHm;have HHn:=hst.bx.at (.tail _ (.tail _ (.head _)));obtain ⟨n0,n1⟩:=HHn.c2;clear HHn;clear hst;go_simp;try go_bits
     exact kz _ rfl
    apply GCh.v9
    ·rfl
    ·intro K' a wy ho hd hb hK kz;have q2:=hd ⟨2,.data⟩ (by simp) rfl;simp [rAt,IsV,slot] at q2;have q4:=hd ⟨4,.data⟩ (by simp) rfl;simp [rAt,IsV,slot] at q4;have q6:=hd ⟨6,.data⟩ (by simp) rfl;simp [rAt,IsV,slot] at q6;have q8:=hd ⟨8,.data⟩ (by simp) rfl;simp [rAt,IsV,slot] at q8;clear hd ho;go_simp;refine (HAt.out wy hb).mono ?_;rintro e wz ⟨rfl,hz⟩;exact hK _ _ rfl hz
    apply GCh.v10
    ·rfl
    ·intro K' a wy ho hd hb hK kz;have q1:=hd ⟨1,.data⟩ (by simp) rfl;simp [rAt,IsV,slot] at q1;have q9:=hd ⟨9,.data⟩ (by simp) rfl;simp [rAt,IsV,slot] at q9;clear hd ho;have heq:=fun W=>eqBdW_bin o.bind o.bind W
     simp only [sameBd_self] at heq;go_simp;try go_bits
     exact kz _ rfl
    apply GCh.v11
    ·rfl
    ·intro K' a wy ho hd hb hK kz;have q10:=hd ⟨10,.data⟩ (by simp) rfl;simp [rAt,IsV,slot] at q10;clear hd ho;go_simp;try go_bits
     exact kz _ rfl
    refine GCh.val (n:=12) (fun v=>[_,_,_,_,_,_,_,_,_,_,_,_,IsV v]) (fun _=>rfl) rfl ?_;apply Exists.intro;refine And.intro ?_ ?_
    ·intro K' a wy ho hd hb hK;refine wants 11 161 true true rfl rfl rfl (hd ⟨11,.guard⟩ (by simp) rfl) rfl ?_;have o7:=ho 7 (by decide);simp [slot] at o7;clear hd ho;go_simp;try go_bits
     exact hK _ _ rfl (Below.refl _ _)
    refine GCh.val (n:=13) (fun v=>[_,_,_,_,_,_,_,_,_,_,_,_,_,IsV v]) (fun _=>rfl) rfl ?_;apply Exists.intro;refine And.intro ?_ ?_
    ·intro K' a wy ho hd hb hK;refine wants 11 161 true true rfl rfl rfl (hd ⟨11,.guard⟩ (by simp) rfl) rfl ?_;have q12:=hd ⟨12,.data⟩ (by simp) rfl;simp [rAt,IsV,slot] at q12;clear hd ho;go_simp;try go_bits
     exact hK _ _ rfl (Below.refl _ _)
    refine GCh.val (n:=14) (fun v=>[_,_,_,_,_,_,_,_,_,_,_,_,_,_,IsV v]) (fun _=>rfl) rfl ?_;apply Exists.intro;refine And.intro ?_ ?_
    ·intro K' a wy ho hd hb hK;refine wants 11 161 true true rfl rfl rfl (hd ⟨11,.guard⟩ (by simp) rfl) rfl ?_;have q13:=hd ⟨13,.data⟩ (by simp) rfl;simp [rAt,IsV,slot] at q13;clear hd ho;have hst:=HCP.out wy hb;have HHl:=hst.bx.at (.tail _ (.head _));obtain ⟨l0,l1,l2,l3,l4,l5,l6⟩:=HHl.c7;clear HHl;have HHm:=hst.bx.at (.head _);obtain ⟨m0,m1,m2,m3,m4,m5,m6,m7⟩:=HHm.c8;clear HHm;have HHn:=hst.bx.at (.tail _ (.tail _ (.head _)));obtain ⟨n0,n1⟩:=HHn.c2;clear HHn;clear hst;go_simp;try go_bits
     exact hK _ _ rfl (Below.refl _ _)
    refine GCh.val (n:=15) (fun v=>[_,_,_,_,_,_,_,_,_,_,_,_,_,_,_,IsV v]) (fun _=>rfl) rfl ?_;apply Exists.intro;refine And.intro ?_ ?_
    ·intro K' a wy ho hd hb hK;refine wants 11 161 true true rfl rfl rfl (hd ⟨11,.guard⟩ (by simp) rfl) rfl ?_;have q14:=hd ⟨14,.data⟩ (by simp) rfl;simp [rAt,IsV,slot] at q14;clear hd ho;go_simp;try go_bits
     exact hK _ _ rfl (Below.refl _ _)
    refine GCh.val (n:=16) (fun v=>[_,_,_,_,_,_,_,_,_,_,_,_,_,_,_,_,IsV v]) (fun _=>rfl) rfl ?_;apply Exists.intro;refine And.intro ?_ ?_
    ·intro K' a wy ho hd hb hK;refine wants 11 161 true true rfl rfl rfl (hd ⟨11,.guard⟩ (by simp) rfl) rfl ?_;have o4:=ho 4 (by decide);simp [slot] at o4;clear hd ho;go_simp;try go_bits
     exact hK _ _ rfl (Below.refl _ _)
    refine GCh.val (n:=17) (fun v=>[_,_,_,_,_,_,_,_,_,_,_,_,_,_,_,_,_,IsV v]) (fun _=>rfl) rfl ?_;apply Exists.intro;refine And.intro ?_ ?_
    ·intro K' a wy ho hd hb hK;refine wants 11 161 true true rfl rfl rfl (hd ⟨11,.guard⟩ (by simp) rfl) rfl ?_;have q16:=hd ⟨16,.data⟩ (by simp) rfl;simp [rAt,IsV,slot] at q16;clear hd ho;have hst:=HCP.out wy hb;have HHl:=hst.bx.at (.tail _ (.head _));obtain ⟨l0,l1,l2,l3,l4,l5,l6⟩:=HHl.c7;clear HHl;have HHm:=hst.bx.at (.head _);obtain ⟨m0,m1,m2,m3,m4,m5,m6,m7⟩:=HHm.c8;clear HHm;have HHn:=hst.bx.at (.tail _ (.tail _ (.head _)));obtain ⟨n0,n1⟩:=HHn.c2;clear HHn;clear hst;go_simp;try go_bits
     exact hK _ _ rfl (Below.refl _ _)
    refine GCh.val (n:=18) (fun v=>[_,_,_,_,_,_,_,_,_,_,_,_,_,_,_,_,_,_,IsV v]) (fun _=>rfl) rfl ?_;apply Exists.intro;refine And.intro ?_ ?_
    ·intro K' a wy ho hd hb hK;refine wants 11 161 true true rfl rfl rfl (hd ⟨11,.guard⟩ (by simp) rfl) rfl ?_;have q17:=hd ⟨17,.data⟩ (by simp) rfl;simp [rAt,IsV,slot] at q17;clear hd ho;go_simp;try go_bits
     exact hK _ _ rfl (Below.refl _ _)
    refine GCh.val (n:=19) (fun v=>[_,_,_,_,_,_,_,_,_,_,_,_,_,_,_,_,_,_,_,IsV v]) (fun _=>rfl) rfl ?_;apply Exists.intro;refine And.intro ?_ ?_
    ·intro K' a wy ho hd hb hK;refine wants 11 161 true true rfl rfl rfl (hd ⟨11,.guard⟩ (by simp) rfl) rfl ?_;have q15:=hd ⟨15,.data⟩ (by simp) rfl;simp [rAt,IsV,slot] at q15;have q18:=hd ⟨18,.data⟩ (by simp) rfl;simp [rAt,IsV,slot] at q18;clear hd ho;go_simp;try go_bits
     exact hK _ _ rfl (Below.refl _ _)
    apply GCh.v20
    ·rfl
    ·intro K' a wy ho hd hb hK kz;have q11:=hd ⟨11,.data⟩ (by simp) rfl;simp [rAt,IsV,slot] at q11;have q19:=hd ⟨19,.data⟩ (by simp) rfl;simp [rAt,IsV,slot] at q19;clear hd ho;go_simp;try go_bits
     exact kz _ rfl
    apply GCh.v21
    ·rfl
    ·intro K' a wy ho hd hb hK kz;have q20:=hd ⟨20,.data⟩ (by simp) rfl;simp [rAt,IsV,slot] at q20;clear hd ho;go_simp;try go_bits
     exact kz _ rfl
    intro X wz hR hz;obtain ⟨x0,x1,x2,x3,x4,x5,x6,x7,x8,x9,x10,x11,x12,x13,x14,x15,x16,x17,x18,x19,x20,x21,-⟩:=hR;simp only [IsV] at x0 x1 x2 x3 x4 x5 x6 x7 x8 x9 x10 x11 x12 x13 x14 x15 x16 x17 x18 x19 x20 x21;simp only [putsFrom,x0,x1,x2,x3,x4,x5,x6,x7,x8,x9,x10,x11,x12,x13,x14,x15,x16,x17,x18,x19,x20,x21];clear x0 x1 x2 x3 x4 x5 x6 x7 x8 x9 x10 x11 x12 x13 x14 x15 x16 x17 x18 x19 x20 x21;have HF:Hid (Below w.heap.size w wz):=(HCP.out wz hz).bx.b;clear HCP;go_simp;refine hK2 _ _ (hJ _ _ ?_);(repeat apply Exists.intro)
    exact ⟨⟨rfl,HF.out⟩,rfl⟩
   case rest =>
   obtain ⟨rfl,hB⟩:=hcut;have HB:Hid _:=hB;clear hB S7 HCP;go_wp2_with fail
   go_ret;exact ⟨rfl,HB.out⟩
end Go.Proofs.YtjpdljkjalnmhaaGreatDoor
