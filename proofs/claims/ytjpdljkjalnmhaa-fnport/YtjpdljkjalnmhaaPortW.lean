import Derived.Test.YtjpdljkjalnmhaaMerged22
import Derived.Test.YtjpdljkjalnmhaaIPortF
import Derived.Test.YtjpdljkjalnmhaaMerged8
import Derived.Test.YtjpdljkjalnmhaaMerged23
import Derived.Test.YtjpdljkjalnmhaaIBk3
import Derived.Test.YtjpdljkjalnmhaaMerged19
import Derived.Test.YtjpdljkjalnmhaaMerged15
set_option linter.unusedVariables false
set_option linter.unusedSimpArgs false
set_option maxRecDepth 100000
set_option maxHeartbeats 8000000
namespace Go.Proofs.Ytjpdljkjalnmhaa
open Go.RowKit Go.PlainAid
structure PoS (w:World) (ks:List (Nat × List Value)) (pa:Option Addr) (p:Pl) (ba bo:Option Addr) (x:Bb) (wx:World):Prop where
 bx:Bxs w ks wx
 pl:SlIs strL1 1 wx pa p.addrs
 bb:BbIs wx ba bo x
theorem PoS.kept {w:World} {ks:List (Nat × List Value)} {pa:Option Addr} {p:Pl} {ba bo:Option Addr} {x:Bb} {wx wy:World} (h:PoS w ks pa p ba bo x wx) (hb:Below wx.heap.size wx wy):PoS w ks pa p ba bo x wy:=⟨h.bx.kept hb,h.pl.below hb,h.bb.below hb⟩
theorem drB_in {x:Bb} (h:BbDr x):BdsIn x.binds:=⟨by have:=h.1; omega,fun q hq=>⟨(h.2.2.1 q hq).good.1,(h.2.2.1 q hq).good.2.1⟩⟩
theorem used_le (xs:List Bd) (proto:Int) (out:ByteArray) (k:Nat):usedF (xs.take k) proto out≤xs.length:=by
 unfold usedF;have:=List.length_filter_le (useF proto out) (xs.take k);rw [List.length_take] at this; omega
theorem portWalk (a0:Option Addr) (len0 cap0:Nat) (w:World) (h0:len0≤1048576) (b0:Bytes w a0 len0 w.heap.size) :
  Calls Try.prog 3 #[.slice a0 len0 cap0] w fun e w'=>e=.returned (.bool true)∧Below w.heap.size w w':=by
 have HD0:Hid _:=drawPortFor_any a0 len0 cap0 w h0 b0;have l0:¬ (1048576:Int) < len0:=by omega
 clear b0;go_enter Try.func3,Try.ntmps3
 go_wp2_with fail
 refine Calls.mono HD0.out ?_;rintro e w1 ⟨pa,pc,p,ba,bo,ca,cb,x,proto,addr,port,rfl,hpd,hpc,hbd,hpr,had,hpl,hbb,qq⟩;clear HD0;have c1:p.addrs.length≤1048576:=by have:=hpd.2.1; omega
 have HPS:Hid (∀ s∈p.addrs,s.size≤1048576):=fun s hs=>by have:=hpd.2.2 s hs; omega
 have c2:x.binds.length≤100:=hbd.1;have c3:x.sess.length≤100:=hbd.2.1;have c4:addr.size≤1048576:=by omega
 have HGB:Hid (∀ q∈x.binds,BdGood q):=fun q hq=>(hbd.2.2.1 q hq).good
 have HGS:Hid (∀ s∈x.sess,SsGood s):=fun s hs=>(hbd.2.2.2 s hs).good
 have HIX:Hid (BdsIn x.binds):=drB_in hbd;have HI:Hid (∀ W,SlIs strL1 1 W pa p.addrs→BbIs W ba bo x→Calls Try.prog 5 #[plC pa pc p,bbC ba bo ca cb x,.int .i64 proto,.string addr,.int .i64 port] W fun e w'=>e=.returned (boC none none 0 0 (portForV p x proto addr port))∧Below W.heap.size W w'):=fun W h1 h2=>implPortFor_any pa pc p ba bo ca cb x proto addr port W (inR_64 hpr) c4 c1 hpc HPS.out (by omega) (by omega) HGB.out HGS.out h1 h2
 have HSp:Hid (∀ W,SlIs strL1 1 W pa p.addrs→BbIs W ba bo x→Calls Try.prog 6 #[plC pa pc p,bbC ba bo ca cb x,.int .i64 proto,.string addr,.int .i64 port] W fun e w'=>e=.returned (boC none none 0 0 (portForV p x proto addr port))∧Below W.heap.size W w'):=fun W h1 h2=>specPortFor_any p x pa pc ba bo ca cb proto addr port W c1 hpc HPS.out c4 (by omega) (by omega) h1 h2
 have HOK:Hid ((portForV p x proto addr port).code=0→_):=fun h=>port_ok h
 have HFU:Hid ((portForV p x proto addr port).code=9→_):=fun h=>port_full h
 clear HPS HGB HGS hpc hpd hbd hpr;generalize portForV p x proto addr port=o at *;unfold plC bbC at *;dsimp only at *;have S1:Hid (PoS w [(w1.heap.size+1,[.slice ba x.binds.length ca,.slice bo x.sess.length cb]),(w1.heap.size,[.slice pa p.addrs.length pc,.int .i64 p.low,.int .i64 p.high,.int .i64 p.most,.int .i64 p.filter,.int .i64 p.lv.udp,.int .i64 p.lv.echo,.int .i64 p.lv.opening,.int .i64 p.lv.opn,.int .i64 p.lv.closing])] pa p ba bo x ((w1.alloc (.cells #[.slice pa p.addrs.length pc,.int .i64 p.low,.int .i64 p.high,.int .i64 p.most,.int .i64 p.filter,.int .i64 p.lv.udp,.int .i64 p.lv.echo,.int .i64 p.lv.opening,.int .i64 p.lv.opn,.int .i64 p.lv.closing] 27)).alloc (.cells #[.slice ba x.binds.length ca,.slice bo x.sess.length cb] 31))):=by
  have h:=((⟨fun e he=>(by cases he),qq,fun e he=>(by cases he)⟩ : Bxs w [] w1).push [.slice pa p.addrs.length pc,.int .i64 p.low,.int .i64 p.high,.int .i64 p.most,.int .i64 p.filter,.int .i64 p.lv.udp,.int .i64 p.lv.echo,.int .i64 p.lv.opening,.int .i64 p.lv.opn,.int .i64 p.lv.closing] (by simp) 27).push [.slice ba x.binds.length ca,.slice bo x.sess.length cb] (by simp) 31;simp only [World.size_alloc] at h;have hbl:Below w1.heap.size w1 ((w1.alloc (.cells #[.slice pa p.addrs.length pc,.int .i64 p.low,.int .i64 p.high,.int .i64 p.most,.int .i64 p.filter,.int .i64 p.lv.udp,.int .i64 p.lv.echo,.int .i64 p.lv.opening,.int .i64 p.lv.opn,.int .i64 p.lv.closing] 27)).alloc (.cells #[.slice ba x.binds.length ca,.slice bo x.sess.length cb] 31)):=((Below.refl _ _).alloc (Nat.le_refl _) _).alloc (by simp) _;exact ⟨h,hpl.below hbl,hbb.below hbl⟩
 clear hpl hbb qq;go_upto_region 4 with fail
 generalize (w1.alloc (.cells #[.slice pa p.addrs.length pc,.int .i64 p.low,.int .i64 p.high,.int .i64 p.most,.int .i64 p.filter,.int .i64 p.lv.udp,.int .i64 p.lv.echo,.int .i64 p.lv.opening,.int .i64 p.lv.opn,.int .i64 p.lv.closing] 27)).alloc (.cells #[.slice ba x.binds.length ca,.slice bo x.sess.length cb] 31)=W1 at *;have HHk:=S1.out.bx.at (.tail _ (.head _));obtain ⟨k0,k1,k2,k3,k4,k5,k6,k7,k8,k9⟩:=HHk.c10;clear HHk;have HHl:=S1.out.bx.at (.head _);obtain ⟨l0,l1⟩:=HHl.c2;clear HHl;go_wp2_with fail
 refine (HI.out W1 S1.out.pl S1.out.bb).mono ?_;rintro e w2 ⟨rfl,q2⟩;unfold boC;have S2:Hid (PoS w ((w2.heap.size,[.slice none o.bib.binds.length 0,.slice none o.bib.sess.length 0,.int .i64 o.bind.proto,.string o.bind.inn,.int .i64 o.bind.inPort,.string o.bind.out,.int .i64 o.bind.outPort,.int .i64 o.code])::[(w1.heap.size+1,[.slice ba x.binds.length ca,.slice bo x.sess.length cb]),(w1.heap.size,[.slice pa p.addrs.length pc,.int .i64 p.low,.int .i64 p.high,.int .i64 p.most,.int .i64 p.filter,.int .i64 p.lv.udp,.int .i64 p.lv.echo,.int .i64 p.lv.opening,.int .i64 p.lv.opn,.int .i64 p.lv.closing])]) pa p ba bo x (w2.alloc (.cells #[.slice none o.bib.binds.length 0,.slice none o.bib.sess.length 0,.int .i64 o.bind.proto,.string o.bind.inn,.int .i64 o.bind.inPort,.string o.bind.out,.int .i64 o.bind.outPort,.int .i64 o.code] 37))):=by
  have hb2:Below w2.heap.size w2 (w2.alloc (.cells #[.slice none o.bib.binds.length 0,.slice none o.bib.sess.length 0,.int .i64 o.bind.proto,.string o.bind.inn,.int .i64 o.bind.inPort,.string o.bind.out,.int .i64 o.bind.outPort,.int .i64 o.code] 37)):=(Below.refl _ _).alloc (Nat.le_refl _) _;exact ⟨(S1.out.bx.kept q2).push [.slice none o.bib.binds.length 0,.slice none o.bib.sess.length 0,.int .i64 o.bind.proto,.string o.bind.inn,.int .i64 o.bind.inPort,.string o.bind.out,.int .i64 o.bind.outPort,.int .i64 o.code] (by simp) _,(S1.out.pl.below q2).below hb2,(S1.out.bb.below q2).below hb2⟩
 clear q2 S1 HI k0 k1 k2 k3 k4 k5 k6 k7 k8 k9 l0 l1;go_upto_region 5 with fail
 generalize w2.alloc (.cells #[.slice none o.bib.binds.length 0,.slice none o.bib.sess.length 0,.int .i64 o.bind.proto,.string o.bind.inn,.int .i64 o.bind.inPort,.string o.bind.out,.int .i64 o.bind.outPort,.int .i64 o.code] 37)=W2 at *;generalize w2.heap.size=Xb at *;have HHk:=S2.out.bx.at (.tail _ (.tail _ (.head _)));obtain ⟨k0,k1,k2,k3,k4,k5,k6,k7,k8,k9⟩:=HHk.c10;clear HHk;have HHl:=S2.out.bx.at (.tail _ (.head _));obtain ⟨l0,l1⟩:=HHl.c2;clear HHl;go_wp2_with fail
 refine (HSp.out W2 S2.out.pl S2.out.bb).mono ?_;rintro e w3 ⟨rfl,q3⟩;unfold boC;have hb3:Below w3.heap.size w3 (w3.alloc (.cells #[.slice none o.bib.binds.length 0,.slice none o.bib.sess.length 0,.int .i64 o.bind.proto,.string o.bind.inn,.int .i64 o.bind.inPort,.string o.bind.out,.int .i64 o.bind.outPort,.int .i64 o.code] 37)):=(Below.refl _ _).alloc (Nat.le_refl _) _;have S3:Hid (PoS w [(Xb,[.slice none o.bib.binds.length 0,.slice none o.bib.sess.length 0,.int .i64 o.bind.proto,.string o.bind.inn,.int .i64 o.bind.inPort,.string o.bind.out,.int .i64 o.bind.outPort,.int .i64 o.code]),(w1.heap.size+1,[.slice ba x.binds.length ca,.slice bo x.sess.length cb]),(w1.heap.size,[.slice pa p.addrs.length pc,.int .i64 p.low,.int .i64 p.high,.int .i64 p.most,.int .i64 p.filter,.int .i64 p.lv.udp,.int .i64 p.lv.echo,.int .i64 p.lv.opening,.int .i64 p.lv.opn,.int .i64 p.lv.closing])] pa p ba bo x (w3.alloc (.cells #[.slice none o.bib.binds.length 0,.slice none o.bib.sess.length 0,.int .i64 o.bind.proto,.string o.bind.inn,.int .i64 o.bind.inPort,.string o.bind.out,.int .i64 o.bind.outPort,.int .i64 o.code] 37))):=(S2.out.kept q3).kept hb3;have V3:Hid (HoldsL (w3.alloc (.cells #[.slice none o.bib.binds.length 0,.slice none o.bib.sess.length 0,.int .i64 o.bind.proto,.string o.bind.inn,.int .i64 o.bind.inPort,.string o.bind.out,.int .i64 o.bind.outPort,.int .i64 o.code] 37)) w3.heap.size [.slice none o.bib.binds.length 0,.slice none o.bib.sess.length 0,.int .i64 o.bind.proto,.string o.bind.inn,.int .i64 o.bind.inPort,.string o.bind.out,.int .i64 o.bind.outPort,.int .i64 o.code]):=HoldsL.new w3 [.slice none o.bib.binds.length 0,.slice none o.bib.sess.length 0,.int .i64 o.bind.proto,.string o.bind.inn,.int .i64 o.bind.inPort,.string o.bind.out,.int .i64 o.bind.outPort,.int .i64 o.code] _;clear q3 hb3 S2 HSp k0 k1 k2 k3 k4 k5 k6 k7 k8 k9 l0 l1;go_upto_region 6 with fail
 generalize w3.alloc (.cells #[.slice none o.bib.binds.length 0,.slice none o.bib.sess.length 0,.int .i64 o.bind.proto,.string o.bind.inn,.int .i64 o.bind.inPort,.string o.bind.out,.int .i64 o.bind.outPort,.int .i64 o.code] 37)=W3 at *;generalize w3.heap.size=Vb at *;have HHk:=S3.out.bx.at (.head _);obtain ⟨k0,k1,k2,k3,k4,k5,k6,k7⟩:=HHk.c8;clear HHk;obtain ⟨l0,l1,l2,l3,l4,l5,l6,l7⟩:=V3.out.c8;have hne:(binOp .neq 35 (.agg #[.int .i64 o.bind.proto,.string o.bind.inn,.int .i64 o.bind.inPort,.string o.bind.out,.int .i64 o.bind.outPort]) (.agg #[.int .i64 o.bind.proto,.string o.bind.inn,.int .i64 o.bind.inPort,.string o.bind.out,.int .i64 o.bind.outPort])).run Try.prog W3=.ok (.bool false) W3:=by rw [neBdW_bin o.bind o.bind W3,sameBd_self]; rfl
 go_upto_region 8 with fail
 clear hne V3 k0 k1 k2 k3 k4 k5 k6 k7 l0 l1 l2 l3 l4 l5 l6 l7;have HHl:=S3.out.bx.at (.tail _ (.head _));obtain ⟨l0,l1⟩:=HHl.c2;clear HHl;go_upto_region 10 with fail
 clear l0 l1;go_wp2_with fail
 go_loopw [11,12] (fun ov iv wr=>∃ k:Nat,k≤x.binds.length∧iv=.int .i64 k∧ov=.string (outF (x.binds.take k) addr)∧PoS w [(Xb,[.slice none o.bib.binds.length 0,.slice none o.bib.sess.length 0,.int .i64 o.bind.proto,.string o.bind.inn,.int .i64 o.bind.inPort,.string o.bind.out,.int .i64 o.bind.outPort,.int .i64 o.code]),(w1.heap.size+1,[.slice ba x.binds.length ca,.slice bo x.sess.length cb]),(w1.heap.size,[.slice pa p.addrs.length pc,.int .i64 p.low,.int .i64 p.high,.int .i64 p.most,.int .i64 p.filter,.int .i64 p.lv.udp,.int .i64 p.lv.echo,.int .i64 p.lv.opening,.int .i64 p.lv.opn,.int .i64 p.lv.closing])] pa p ba bo x wr) (fun _ iv _=>x.binds.length-(intOf iv).toNat)
 case atStart=>exact ⟨0,Nat.zero_le _,rfl,rfl,S3.out⟩
 case round =>
  obtain ⟨k,hk,rfl,rfl,hst⟩:=hrel;have S6:Hid (PoS w [(Xb,[.slice none o.bib.binds.length 0,.slice none o.bib.sess.length 0,.int .i64 o.bind.proto,.string o.bind.inn,.int .i64 o.bind.inPort,.string o.bind.out,.int .i64 o.bind.outPort,.int .i64 o.code]),(w1.heap.size+1,[.slice ba x.binds.length ca,.slice bo x.sess.length cb]),(w1.heap.size,[.slice pa p.addrs.length pc,.int .i64 p.low,.int .i64 p.high,.int .i64 p.most,.int .i64 p.filter,.int .i64 p.lv.udp,.int .i64 p.lv.echo,.int .i64 p.lv.opening,.int .i64 p.lv.opn,.int .i64 p.lv.closing])] pa p ba bo x wr):=hst;clear hst S3;have HHl:=S6.out.bx.at (.tail _ (.head _));obtain ⟨l0,l1⟩:=HHl.c2;clear HHl;by_cases hlt:k < x.binds.length
  case pos =>
   have hk2:¬ (x.binds.length:Int)≤(k:Int):=by omega
   obtain ⟨c1',o1,hbo,hc1,hA⟩:=S6.out.bb.bd.at hlt;rw [hbo] at l0;clear hbo;have hq5:=hA k hlt;obtain ⟨q,hq⟩ : ∃ q,q=x.binds[k]:=⟨_,rfl⟩;rw [← hq] at hq5;have s0:wr.cell? ⟨c1',o1+k*5,none⟩=some (.int .i64 q.proto):=hq5 0 _ rfl;have s1:wr.cell? ⟨c1',o1+k*5+1,none⟩=some (.string q.inn):=hq5 1 _ rfl;have s2:wr.cell? ⟨c1',o1+k*5+2,none⟩=some (.int .i64 q.inPort):=hq5 2 _ rfl;have s3:wr.cell? ⟨c1',o1+k*5+3,none⟩=some (.string q.out):=hq5 3 _ rfl;have s4:wr.cell? ⟨c1',o1+k*5+4,none⟩=some (.int .i64 q.outPort):=hq5 4 _ rfl;have HOS:Hid (outF (x.binds.take (k+1)) addr=if ofHost addr q=true then q.out else outF (x.binds.take k) addr):=by unfold Hid; rw [hq]; exact outF_step hlt
   have HB:Hid (Below wr.heap.size wr (wr.alloc (.cells #[.int .i64 q.proto,.string q.inn,.int .i64 q.inPort,.string q.out,.int .i64 q.outPort] 35))):=(Below.refl _ _).alloc (Nat.le_refl _) _;generalize outF (x.binds.take k) addr=ou at *;clear hA hc1 hq hq5;by_cases he:q.inn.toList=addr.toList
   case pos =>
    have hb:=beq_yes he;have HON:Hid (outF (x.binds.take (k+1)) addr=q.out):=by unfold Hid; rw [HOS.out]; unfold ofHost; rw [if_pos (decide_eq_true he)]
    clear he HOS;go_wp2_with fail
    go_roundw
    case rel=>exact ⟨k+1,by omega,by go_num,by rw [HON.out],S6.out.kept HB.out⟩
    case measure=>simp [intOf]; omega
   case neg =>
    have hb:=beq_no he;have HON:Hid (outF (x.binds.take (k+1)) addr=ou):=by unfold Hid; rw [HOS.out]; unfold ofHost; rw [if_neg (by simp [he])]
    clear he HOS;go_wp2_with fail
    go_roundw
    case rel=>exact ⟨k+1,by omega,by go_num,by rw [HON.out],S6.out.kept HB.out⟩
    case measure=>simp [intOf]; omega
  have hk2:(x.binds.length:Int)≤(k:Int):=by omega
  have hke:k=x.binds.length:=by omega
  subst hke;rw [List.take_length];clear hlt hk;generalize outF x.binds addr=ou at *;have HHk:=S6.out.bx.at (.head _);obtain ⟨k0,k1,k2,k3,k4,k5,k6,k7⟩:=HHk.c8;clear HHk;by_cases hc:o.code=0
  case pos =>
   obtain ⟨o0,o1,o2,o3,o4,o5,o6,o7⟩:=HOK.out hc;clear HOK HFU;have d1:(o.code==0)=true:=by simpa using hc
   go_upto_region 17 with fail
   clear d1 k0 k1 k2 k3 k4 k5 k6 k7 l0 l1;obtain ⟨ob,q,oc⟩:=o;dsimp only at *;obtain ⟨q0,q1,q2,q3,q4⟩:=q;dsimp only at *;subst o1 o2 o3;have t1:¬ q4 < p.low:=by omega
   have t2:¬ p.high < q4:=by omega
   have O7:Hid _:=o7;clear o7;have S7:Hid (PoS w [(Xb,[.slice none ob.binds.length 0,.slice none ob.sess.length 0,.int .i64 q0,.string q1,.int .i64 q2,.string q3,.int .i64 q4,.int .i64 oc]),(w1.heap.size+1,[.slice ba x.binds.length ca,.slice bo x.sess.length cb]),(w1.heap.size,[.slice pa p.addrs.length pc,.int .i64 p.low,.int .i64 p.high,.int .i64 p.most,.int .i64 p.filter,.int .i64 p.lv.udp,.int .i64 p.lv.echo,.int .i64 p.lv.opening,.int .i64 p.lv.opn,.int .i64 p.lv.closing])] pa p ba bo x wr):=S6.out;clear S6;have HHk:=S7.out.bx.at (.head _);obtain ⟨k0,k1,k2,k3,k4,k5,k6,k7⟩:=HHk.c8;clear HHk;have HHm:=S7.out.bx.at (.tail _ (.tail _ (.head _)));obtain ⟨m0,m1,m2,m3,m4,m5,m6,m7,m8,m9⟩:=HHm.c10;clear HHm;go_cut [117] (fun v wx=>v=.bool false∧wx=wr)
   case first =>
    have hun:undef=Value.tuple #[]:=rfl;by_cases he:ou=⟨#[]⟩
    case pos =>
     subst he;go_wp2_with fail
     go_meet;exact ⟨rfl,rfl⟩
    have e3:=o6 he;subst e3;have e4:¬ q3.toList=[]:=fun h=>he (ba_list (by rw [h,ByteArray.toList_eq]))
    have e5:q3.toList.isEmpty=false:=by simpa using e4
    go_wp2_with fail
    go_meet;exact ⟨rfl,rfl⟩
   case rest =>
   obtain ⟨rfl,rfl⟩:=hcut;clear o6 t1 t2 m0 m1 m2 m3 m4 m5 m6 m7 m8 m9;have HHl:=S7.out.bx.at (.tail _ (.head _));obtain ⟨l0,l1⟩:=HHl.c2;clear HHl;have HAt:Hid (∀ W,BbIs W ba bo x→Calls Try.prog 7 #[.agg #[.slice ba x.binds.length ca,.slice bo x.sess.length cb],.int .i64 q0,.string q3,.int .i64 q4] W fun e w'=>e=.returned (bdC (bindV (ofOut q0 q3 q4) x.binds q3))∧Below W.heap.size W w'):=fun W h=>implBindAt_any x.binds q0 q3 q4 ba ca (.slice bo x.sess.length cb) rfl W HIX.out h.bd
   have HOf:Hid (∀ W,BbIs W ba bo x→Calls Try.prog 8 #[.agg #[.slice ba x.binds.length ca,.slice bo x.sess.length cb],.int .i64 q0,.string q1,.int .i64 q2] W fun e w'=>e=.returned (bdC (bindV (ofIn q0 q1 q2) x.binds q1))∧Below W.heap.size W w'):=fun W h=>implBindOf_any x.binds q0 q1 q2 ba ca (.slice bo x.sess.length cb) rfl W HIX.out h.bd
   generalize bindV (ofOut q0 q3 q4) x.binds q3=y at *;generalize bindV (ofIn q0 q1 q2) x.binds q1=z at *;unfold bdC at HAt HOf;go_wp2_with fail
   refine (HAt.out wc S7.out.bb).mono ?_;rintro e w8 ⟨rfl,q8⟩;have hb8:Below w8.heap.size w8 (w8.alloc (.cells #[.int .i64 y.proto,.string y.inn,.int .i64 y.inPort,.string y.out,.int .i64 y.outPort] 35)):=(Below.refl _ _).alloc (Nat.le_refl _) _;have S8:Hid (PoS w [(Xb,[.slice none ob.binds.length 0,.slice none ob.sess.length 0,.int .i64 q0,.string q1,.int .i64 q2,.string q3,.int .i64 q4,.int .i64 oc]),(w1.heap.size+1,[.slice ba x.binds.length ca,.slice bo x.sess.length cb]),(w1.heap.size,[.slice pa p.addrs.length pc,.int .i64 p.low,.int .i64 p.high,.int .i64 p.most,.int .i64 p.filter,.int .i64 p.lv.udp,.int .i64 p.lv.echo,.int .i64 p.lv.opening,.int .i64 p.lv.opn,.int .i64 p.lv.closing])] pa p ba bo x (w8.alloc (.cells #[.int .i64 y.proto,.string y.inn,.int .i64 y.inPort,.string y.out,.int .i64 y.outPort] 35))):=(S7.out.kept q8).kept hb8;have V8:Hid (HoldsL (w8.alloc (.cells #[.int .i64 y.proto,.string y.inn,.int .i64 y.inPort,.string y.out,.int .i64 y.outPort] 35)) w8.heap.size [.int .i64 y.proto,.string y.inn,.int .i64 y.inPort,.string y.out,.int .i64 y.outPort]):=HoldsL.new w8 [.int .i64 y.proto,.string y.inn,.int .i64 y.inPort,.string y.out,.int .i64 y.outPort] _;clear q8 hb8 S7 HAt k0 k1 k2 k3 k4 k5 k6 k7 l0 l1;go_upto_region 20 with fail
   generalize w8.alloc (.cells #[.int .i64 y.proto,.string y.inn,.int .i64 y.inPort,.string y.out,.int .i64 y.outPort] 35)=W8 at *;generalize w8.heap.size=Yb at *;have HHk:=S8.out.bx.at (.head _);obtain ⟨k0,k1,k2,k3,k4,k5,k6,k7⟩:=HHk.c8;clear HHk;have HHl:=S8.out.bx.at (.tail _ (.head _));obtain ⟨l0,l1⟩:=HHl.c2;clear HHl;obtain ⟨m0,m1,m2,m3,m4⟩:=V8.out.c5;clear V8;have HFB:Hid (Below w.heap.size w W8):=S8.out.bx.b;have hun:undef=Value.tuple #[]:=rfl;rcases O7.out with h | ⟨h1,h2⟩
   case inl =>
    subst h;dsimp only at *;clear O7 HOf;go_wp2_with fail
    go_ret;exact ⟨rfl,HFB.out⟩
   subst h1 h2;unfold bdZ at *;dsimp only at *;have hz0:¬ (0:Int)=q0:=fun h=>o0 h.symm
   clear O7;go_wp2_with fail
   refine (HOf.out W8 S8.out.bb).mono ?_;rintro e w9 ⟨rfl,q9⟩;have HFZ:Hid (Below w.heap.size w w9):=(S8.out.bx.kept q9).b;clear q9 S8 HFB HOf k0 k1 k2 k3 k4 k5 k6 k7 l0 l1;go_wp2_with fail
   go_ret;exact ⟨rfl,HFZ.out⟩
  have d1:(o.code==0)=false:=by simpa using hc
  clear HOK hc;by_cases h9:o.code=9
  case neg =>
   have d9:(o.code != 9)=true:=by simpa using h9
   have HFB:Hid (Below w.heap.size w wr):=S6.out.bx.b;clear S6 HFU h9;go_wp2_with fail
   go_ret;exact ⟨rfl,HFB.out⟩
  have d9:(o.code != 9)=false:=by simp [h9]
  obtain ⟨f1,f2,f3,f4,f5,f6,f7⟩:=HFU.out h9;clear HFU h9;obtain ⟨ot,hot⟩ : ∃ ot,ot=if ou=⟨#[]⟩ then outD p addr else ou:=⟨_,rfl⟩;rw [← hot] at f7;have HOT:Hid _:=hot;have HU:Hid _:=f7;clear hot f7;go_upto_if 149 with fail
  clear d1 d9 k0 k1 k2 k3 k4 k5 k6 k7 l0 l1;go_cut [11] (fun v wx=>v=.string ot∧PoS w [(Xb,[.slice none o.bib.binds.length 0,.slice none o.bib.sess.length 0,.int .i64 o.bind.proto,.string o.bind.inn,.int .i64 o.bind.inPort,.string o.bind.out,.int .i64 o.bind.outPort,.int .i64 o.code]),(w1.heap.size+1,[.slice ba x.binds.length ca,.slice bo x.sess.length cb]),(w1.heap.size,[.slice pa p.addrs.length pc,.int .i64 p.low,.int .i64 p.high,.int .i64 p.most,.int .i64 p.filter,.int .i64 p.lv.udp,.int .i64 p.lv.echo,.int .i64 p.lv.opening,.int .i64 p.lv.opn,.int .i64 p.lv.closing])] pa p ba bo x wx)
  case first =>
   rename_i J K2 hJ hK2;by_cases he:ou=⟨#[]⟩
   case neg =>
    have ho2:=HOT.out;rw [if_neg he] at ho2;have e4:¬ ou.toList=[]:=fun h=>he (ba_list (by rw [h,ByteArray.toList_eq]))
    have e5:ou.toList.isEmpty=false:=by simpa using e4
    subst ho2;rw [e5];go_wp2_with fail
    go_meet;exact ⟨rfl,S6.out⟩
   have ho2:=HOT.out;rw [if_pos he] at ho2;subst he;have hsr:=sumV_range addr;have HSM:Hid (∀ W,Calls Try.prog 9 #[.string addr] W fun e w'=>e=.returned (.int .i64 (sumV addr))∧Below W.heap.size W w'):=fun W=>by
    refine (specSum_any addr W (by unfold maxLen; omega)).mono ?_;rintro e w' ⟨rfl,rfl⟩;exact ⟨by unfold sumA; rw [if_pos (by omega)],Below.refl _ _⟩
   obtain ⟨ix,hix⟩ : ∃ ix:Nat,ix=(sumV addr).toNat % p.addrs.length:=⟨_,rfl⟩;have hixl:ix < p.addrs.length:=by rw [hix]; exact Nat.mod_lt _ (by omega)
   have hrem:(sumV addr) % (p.addrs.length:Int)=(ix:Int):=by
    obtain ⟨n,hn⟩:=Int.eq_ofNat_of_zero_le hsr.1;rw [hix,hn,Int.toNat_natCast]; rfl
   obtain ⟨bp,op,hpe,hbp,hatp⟩:=S6.out.pl.at hixl;have HPE:Hid (pa=some ⟨bp,op,none⟩):=hpe;have HPI:Hid (∀ W,Below wr.heap.size wr W→W.cell? ⟨bp,op+ix,none⟩=some (.string ot)):=fun W hW=>by
    have h:=(hatp.below hbp hW) ix hixl 0 _ rfl;have e:ot=p.addrs[ix]:=by rw [ho2]; unfold outD; rw [← hix,List.getElem?_eq_getElem hixl]; rfl
    rw [e]; simpa using h
   have hixI:(ix:Int) < (p.addrs.length:Int):=by omega
   have hlen0:¬ (p.addrs.length:Int)=0:=by omega
   have hnil:¬ p.addrs=[]:=fun e=>by rw [e] at f1; simp at f1
   have hrem2:(sumV addr).tmod (p.addrs.length:Int)=(ix:Int):=by rw [Int.tmod_eq_emod_of_nonneg hsr.1]; exact hrem
   generalize sumV addr=sv at *;clear hatp hbp hix hpe ho2 HOT;have e6:(⟨#[]⟩ : ByteArray).toList.isEmpty=true:=by rw [ByteArray.toList_eq]; rfl
   rw [e6];go_upto_region 24 with fail
   have HCP:Hid (∀ wy,Below wr.drew.heap.size wr.drew wy→_):=fun wy hy=>S6.out.kept ((Below.refl _ _).drew.trans hy)
   clear S6;refine wp_region_growH [150,151,152,153,154,155,156,157,158,159,11] (by kernel_rfl) (by kernel_rfl) ?_;apply GCh.v0
   ·rfl
   ·intro K' a wy ho hd hb hK kz;have o3:=ho 3 (by decide);simp [slot] at o3;clear hd ho;go_simp;try go_bits
    exact kz _ rfl
   apply GCh.v1
   ·rfl
   ·intro K' a wy ho hd hb hK kz;have q0:=hd ⟨0,.data⟩ (by simp) rfl;simp [rAt,IsV,slot] at q0;clear hd ho;have hst:=HCP.out wy hb;have HHk:=hst.bx.at (.tail _ (.tail _ (.head _)));have k0:=HHk.cell (j:=0) rfl;clear HHk;clear hst;rw [HPE.out] at k0;have hpi:=HPI.out wy ((Below.refl _ _).drew.trans hb);go_simp;try go_bits
    exact kz _ rfl
   apply GCh.v2
   ·rfl
   ·intro K' a wy ho hd hb hK kz;have o6:=ho 6 (by decide);simp [slot] at o6;clear hd ho;go_simp;try go_bits
    exact kz _ rfl
   apply GCh.v3
   ·rfl
   ·intro K' a wy ho hd hb hK kz;have q2:=hd ⟨2,.data⟩ (by simp) rfl;simp [rAt,IsV,slot] at q2;clear hd ho;go_simp;refine (HSM.out wy).mono ?_;rintro e wz ⟨rfl,hz⟩;exact hK _ _ rfl hz
   apply GCh.v4
   ·rfl
   ·intro K' a wy ho hd hb hK kz;have o3:=ho 3 (by decide);simp [slot] at o3;clear hd ho;go_simp;try go_bits
    exact kz _ rfl
   apply GCh.v5
   ·rfl
   ·intro K' a wy ho hd hb hK kz;have q4:=hd ⟨4,.data⟩ (by simp) rfl;simp [rAt,IsV,slot] at q4;clear hd ho;have hst:=HCP.out wy hb;have HHk:=hst.bx.at (.tail _ (.tail _ (.head _)));have k0:=HHk.cell (j:=0) rfl;clear HHk;clear hst;rw [HPE.out] at k0;have hpi:=HPI.out wy ((Below.refl _ _).drew.trans hb);go_simp;try go_bits
    exact kz _ rfl
   apply GCh.v6
   ·rfl
   ·intro K' a wy ho hd hb hK kz;have q5:=hd ⟨5,.data⟩ (by simp) rfl;simp [rAt,IsV,slot] at q5;clear hd ho;go_simp;try go_bits
    exact kz _ rfl
   apply GCh.v7
   ·rfl
   ·intro K' a wy ho hd hb hK kz;have q3:=hd ⟨3,.data⟩ (by simp) rfl;simp [rAt,IsV,slot] at q3;have q6:=hd ⟨6,.data⟩ (by simp) rfl;simp [rAt,IsV,slot] at q6;clear hd ho;go_simp;try go_bits
    exact kz _ rfl
   apply GCh.v8
   ·rfl
   ·intro K' a wy ho hd hb hK kz;have q1:=hd ⟨1,.data⟩ (by simp) rfl;simp [rAt,IsV,slot] at q1;have q7:=hd ⟨7,.data⟩ (by simp) rfl;simp [rAt,IsV,slot] at q7;clear hd ho;go_simp;try go_bits
    exact kz _ rfl
   apply GCh.v9
   ·rfl
   ·intro K' a wy ho hd hb hK kz;have q8:=hd ⟨8,.data⟩ (by simp) rfl;simp [rAt,IsV,slot] at q8;clear hd ho;have hst:=HCP.out wy hb;have HHk:=hst.bx.at (.tail _ (.tail _ (.head _)));have k0:=HHk.cell (j:=0) rfl;clear HHk;clear hst;rw [HPE.out] at k0;have hpi:=HPI.out wy ((Below.refl _ _).drew.trans hb);go_simp;try go_bits
    exact kz _ rfl
   apply GCh.v10
   ·rfl
   ·intro K' a wy ho hd hb hK kz;have q9:=hd ⟨9,.data⟩ (by simp) rfl;simp [rAt,IsV,slot] at q9;clear hd ho;go_simp;try go_bits
    exact kz _ rfl
   intro X wz hR hz;obtain ⟨x0,x1,x2,x3,x4,x5,x6,x7,x8,x9,x10,-⟩:=hR;simp only [IsV] at x0 x1 x2 x3 x4 x5 x6 x7 x8 x9 x10;simp only [putsFrom,x0,x1,x2,x3,x4,x5,x6,x7,x8,x9,x10];clear x0 x1 x2 x3 x4 x5 x6 x7 x8 x9 x10;have HF:Hid (PoS w [(Xb,[.slice none o.bib.binds.length 0,.slice none o.bib.sess.length 0,.int .i64 o.bind.proto,.string o.bind.inn,.int .i64 o.bind.inPort,.string o.bind.out,.int .i64 o.bind.outPort,.int .i64 o.code]),(w1.heap.size+1,[.slice ba x.binds.length ca,.slice bo x.sess.length cb]),(w1.heap.size,[.slice pa p.addrs.length pc,.int .i64 p.low,.int .i64 p.high,.int .i64 p.most,.int .i64 p.filter,.int .i64 p.lv.udp,.int .i64 p.lv.echo,.int .i64 p.lv.opening,.int .i64 p.lv.opn,.int .i64 p.lv.closing])] pa p ba bo x wz):=HCP.out wz hz;clear HCP;go_simp;refine hK2 _ _ (hJ _ _ ?_);(repeat apply Exists.intro)
   exact ⟨⟨rfl,HF.out⟩,rfl⟩
  case rest =>
  obtain ⟨rfl,hS⟩:=hcut;have S7:Hid (PoS w [(Xb,[.slice none o.bib.binds.length 0,.slice none o.bib.sess.length 0,.int .i64 o.bind.proto,.string o.bind.inn,.int .i64 o.bind.inPort,.string o.bind.out,.int .i64 o.bind.outPort,.int .i64 o.code]),(w1.heap.size+1,[.slice ba x.binds.length ca,.slice bo x.sess.length cb]),(w1.heap.size,[.slice pa p.addrs.length pc,.int .i64 p.low,.int .i64 p.high,.int .i64 p.most,.int .i64 p.filter,.int .i64 p.lv.udp,.int .i64 p.lv.echo,.int .i64 p.lv.opening,.int .i64 p.lv.opn,.int .i64 p.lv.closing])] pa p ba bo x wc):=hS;clear hS S6 HOT;generalize wc=W7 at *;go_wp2_with fail
  go_loopw [10,15] (fun uv iv wr=>∃ k:Nat,k≤x.binds.length∧iv=.int .i64 k∧uv=.int .i64 (usedF (x.binds.take k) proto ot:Nat)∧PoS w [(Xb,[.slice none o.bib.binds.length 0,.slice none o.bib.sess.length 0,.int .i64 o.bind.proto,.string o.bind.inn,.int .i64 o.bind.inPort,.string o.bind.out,.int .i64 o.bind.outPort,.int .i64 o.code]),(w1.heap.size+1,[.slice ba x.binds.length ca,.slice bo x.sess.length cb]),(w1.heap.size,[.slice pa p.addrs.length pc,.int .i64 p.low,.int .i64 p.high,.int .i64 p.most,.int .i64 p.filter,.int .i64 p.lv.udp,.int .i64 p.lv.echo,.int .i64 p.lv.opening,.int .i64 p.lv.opn,.int .i64 p.lv.closing])] pa p ba bo x wr) (fun _ iv _=>x.binds.length-(intOf iv).toNat)
  case atStart=>exact ⟨0,Nat.zero_le _,rfl,rfl,S7.out⟩
  case round =>
   obtain ⟨k,hk,rfl,rfl,hst⟩:=hrel;have S6:Hid (PoS w [(Xb,[.slice none o.bib.binds.length 0,.slice none o.bib.sess.length 0,.int .i64 o.bind.proto,.string o.bind.inn,.int .i64 o.bind.inPort,.string o.bind.out,.int .i64 o.bind.outPort,.int .i64 o.code]),(w1.heap.size+1,[.slice ba x.binds.length ca,.slice bo x.sess.length cb]),(w1.heap.size,[.slice pa p.addrs.length pc,.int .i64 p.low,.int .i64 p.high,.int .i64 p.most,.int .i64 p.filter,.int .i64 p.lv.udp,.int .i64 p.lv.echo,.int .i64 p.lv.opening,.int .i64 p.lv.opn,.int .i64 p.lv.closing])] pa p ba bo x wr):=hst;clear hst S7;have HHl:=S6.out.bx.at (.tail _ (.head _));obtain ⟨l0,l1⟩:=HHl.c2;clear HHl;by_cases hlt:k < x.binds.length
   case pos =>
    have hk2:¬ (x.binds.length:Int)≤(k:Int):=by omega
    obtain ⟨c1',o1,hbo,hc1,hA⟩:=S6.out.bb.bd.at hlt;rw [hbo] at l0;clear hbo;have hq5:=hA k hlt;obtain ⟨q,hq⟩ : ∃ q,q=x.binds[k]:=⟨_,rfl⟩;rw [← hq] at hq5;have s0:wr.cell? ⟨c1',o1+k*5,none⟩=some (.int .i64 q.proto):=hq5 0 _ rfl;have s1:wr.cell? ⟨c1',o1+k*5+1,none⟩=some (.string q.inn):=hq5 1 _ rfl;have s2:wr.cell? ⟨c1',o1+k*5+2,none⟩=some (.int .i64 q.inPort):=hq5 2 _ rfl;have s3:wr.cell? ⟨c1',o1+k*5+3,none⟩=some (.string q.out):=hq5 3 _ rfl;have s4:wr.cell? ⟨c1',o1+k*5+4,none⟩=some (.int .i64 q.outPort):=hq5 4 _ rfl;have HOS:Hid (usedF (x.binds.take (k+1)) proto ot=usedF (x.binds.take k) proto ot+if useF proto ot q=true then 1 else 0):=by unfold Hid; rw [hq]; exact usedF_step hlt
    have hul:=used_le x.binds proto ot k;generalize usedF (x.binds.take k) proto ot=un at *;clear hA hc1 hq hq5;have hun:undef=Value.tuple #[]:=rfl;by_cases hp:q.proto=proto
    case neg =>
     have hb:=beq_false_of_ne hp;have HON:Hid (usedF (x.binds.take (k+1)) proto ot=un):=by unfold Hid; rw [HOS.out]; unfold useF; simp [hp]
     clear hp HOS;go_wp2_with fail
     go_roundw
     case rel=>exact ⟨k+1,by omega,by go_num,by rw [HON.out],S6.out⟩
     case measure=>simp [intOf]; omega
    by_cases he:q.out.toList=ot.toList
    case pos =>
     have hb:=beq_yes he;have HON:Hid (usedF (x.binds.take (k+1)) proto ot=un+1):=by unfold Hid; rw [HOS.out]; unfold useF; simp [hp,he]
     clear he HOS;rw [hp] at s0;clear hp;go_wp2_with fail
     go_roundw
     case rel=>exact ⟨k+1,by omega,by go_num,by rw [HON.out]; go_num,S6.out⟩
     case measure=>simp [intOf]; omega
    case neg =>
     have hb:=beq_no he;have HON:Hid (usedF (x.binds.take (k+1)) proto ot=un):=by unfold Hid; rw [HOS.out]; unfold useF; simp [hp,he]
     clear he HOS;rw [hp] at s0;clear hp;go_wp2_with fail
     go_roundw
     case rel=>exact ⟨k+1,by omega,by go_num,by rw [HON.out],S6.out⟩
     case measure=>simp [intOf]; omega
   have hk2:(x.binds.length:Int)≤(k:Int):=by omega
   have hke:k=x.binds.length:=by omega
   subst hke;rw [List.take_length];clear hlt hk;have hu:=HU.out;have heq:(((usedF x.binds proto ot:Nat):Int)==p.high-p.low+1)=true:=by rw [hu]; simp
   have HFB:Hid (Below w.heap.size w wr):=S6.out.bx.b;have HHm:=S6.out.bx.at (.tail _ (.tail _ (.head _)));obtain ⟨m0,m1,m2,m3,m4,m5,m6,m7,m8,m9⟩:=HHm.c10;clear HHm;clear S6 HU;rw [hu] at heq ⊢;clear hu;go_wp2_with fail
   go_ret;exact ⟨by simp,HFB.out⟩
end Go.Proofs.Ytjpdljkjalnmhaa
