import Derived.Test.YtdkepkaflielhaaGreatDoorMerged32
import Derived.ChangeSame
import Derived.Lib.LaidTab
set_option linter.unusedVariables false
set_option linter.unusedSimpArgs false
set_option maxRecDepth 100000
set_option maxHeartbeats 8000000
namespace Go.Proofs.YtdkepkaflielhaaGreatDoor
open Go.RowKit Go.PlainAid
structure CmS (w:World) (ks:List (Nat × List Value)) (pa:Option Addr) (p:Pl) (ba bo:Option Addr) (x:Bb) (xa xb:Option Addr) (y:Bb) (wx:World):Prop where
 bx:Bxs w ks wx
 pl:SlIs strL1 1 wx pa p.addrs
 bb:BbIs wx ba bo x
 yy:BbIs wx xa xb y
theorem CmS.kept {w:World} {ks:List (Nat × List Value)} {pa:Option Addr} {p:Pl} {ba bo:Option Addr} {x:Bb} {xa xb:Option Addr} {y:Bb} {wx wy:World} (h:CmS w ks pa p ba bo x xa xb y wx) (hb:Below wx.heap.size wx wy):CmS w ks pa p ba bo x xa xb y wy:=⟨h.bx.kept hb,h.pl.below hb,h.bb.below hb,h.yy.below hb⟩
theorem CmS.push {w:World} {ks:List (Nat × List Value)} {pa:Option Addr} {p:Pl} {ba bo:Option Addr} {x:Bb} {xa xb:Option Addr} {y:Bb} {wx:World} (h:CmS w ks pa p ba bo x xa xb y wx) (vs:List Value) (hv:0 < vs.length) (T:TypeId):CmS w ((wx.heap.size,vs)::ks) pa p ba bo x xa xb y (wx.alloc (.cells vs.toArray T)) :=
 have hb:Below wx.heap.size wx (wx.alloc (.cells vs.toArray T)):=bR.alloc lR _;⟨h.bx.push vs hv T,h.pl.below hb,h.bb.below hb,h.yy.below hb⟩
theorem CmS.tl {w:World} {k:Nat × List Value} {ks:List (Nat × List Value)} {pa:Option Addr} {p:Pl} {ba bo:Option Addr} {x:Bb} {xa xb:Option Addr} {y:Bb} {wx:World} (h:CmS w (k::ks) pa p ba bo x xa xb y wx):CmS w ks pa p ba bo x xa xb y wx:=⟨⟨fun e he=>h.bx.k e (.tail _ he),h.bx.b,fun e he=>h.bx.z e (.tail _ he)⟩,h.pl,h.bb,h.yy⟩
abbrev bdR (c:Bd):List Value:=(BdV c)
abbrev ssR (s:Ss):List Value:=(SsV s)
abbrev CB (w1:World) (pa:Option Addr) (pc:Nat) (p:Pl) (ba bo:Option Addr) (ca cb:Nat) (x:Bb) (q:P4):List (Nat × List Value):=[(w1.heap.size+1+1,p4R q),(w1.heap.size+1,bbR ba bo ca cb x),(w1.heap.size,plR pa pc p)]
theorem come_in {x:Bb} (h:BbDr x):BdsIn x.binds:=⟨by have:=h.1; omega,fun q hq=>⟨(h.2.2.1 q hq).good.1,(h.2.2.1 q hq).good.2.1⟩⟩
def letsIn (p:Pl) (c:Bd) (src:ByteArray) (port:Int) (s:Ss):Bool:=decide (s.proto=c.proto)&&(s.inn.toList==c.inn.toList)&&decide (s.inPort=c.inPort)&&(s.peer.toList==src.toList)&&(decide (p.filter=1)||decide (s.peerPort=port))
theorem lets_of {p:Pl} {c:Bd} {src:ByteArray} {port:Int} {x:Bb} (h:p.filter=0∨∃ s∈x.sess,hasS c s=true∧s.peer.toList=src.toList∧(p.filter=1∨s.peerPort=port)):(decide (p.filter=0)||x.sess.any (letsIn p c src port))=true:=by
 rcases h with h | ⟨s,hs,h1,h2,h3⟩
 ·simp [h]
 ·rw [Bool.or_eq_true];refine .inr (List.any_eq_true.2 ⟨s,hs,?_⟩);unfold hasS at h1;simp only [Bool.and_eq_true,decide_eq_true_iff] at h1;unfold letsIn;simp only [Bool.and_eq_true,decide_eq_true_iff,Bool.or_eq_true,beq_iff_eq];exact ⟨⟨⟨⟨h1.1.1.symm,h1.1.2.symm⟩,h1.2.symm⟩,h2⟩,h3⟩
theorem lets_step {p:Pl} {c:Bd} {src:ByteArray} {port:Int} (xs:List Ss) (k:Nat) (hk:k < xs.length):(xs.take (k+1)).any (letsIn p c src port)=((xs.take k).any (letsIn p c src port)||letsIn p c src port xs[k]):=any_take _ xs k hk
theorem comeWalk (a0:Option Addr) (len0 cap0:Nat) (w:World) (hT:TabB w) (h0:len0≤1048576) (b0:Bytes w a0 len0 w.heap.size) :
  Cb 4 #[.slice a0 len0 cap0] w (.bool true):=by
 have HD0:Hid _:=drawNatCome_any a0 len0 cap0 w h0 b0;have HTB:Hid (TabB w):=hT;have l0:¬ (1048576:Int) < len0:=by omega
 clear b0 hT;go_enter Tryz.func4,Tryz.ntmps4
 go_wp2_with fail
 refine Calls.mono HD0.out ?_;rintro e w1 ⟨pa,pc,p,ba,bo,ca,cb,x,q,now,rfl,hpd,hpc,hbd,hqd,hnw,hpl,hbb,qq⟩;clear HD0;have c1:p.addrs.length≤1048576:=by have:=hpd.2.1; omega
 have HPS:Hid (∀ s∈p.addrs,s.size≤1048576):=fun s hs=>by have:=hpd.2.2 s hs; omega
 have c2:x.binds.length≤100:=hbd.1;have c3:x.sess.length≤100:=hbd.2.1;obtain ⟨q1,q2,q3,q4⟩:=hqd;have HGB:Hid (∀ q∈x.binds,BdGood q):=fun q hq=>(hbd.2.2.1 q hq).good
 have HGS:Hid (∀ s∈x.sess,SsGood s):=fun s hs=>(hbd.2.2.2 s hs).good
 have HI:Hid (∀ W,Below w.heap.size w W→SlIs strL1 1 W pa p.addrs→BbIs W ba bo x→Calls Tryz.prog 17 #[plC pa pc p,bbC ba bo ca cb x,p4C q,iV now] W fun e w'=>NoRet W.heap.size (natComeV p x q now) e w'∧Below W.heap.size W w'):=fun W hW h1 h2=>implNatCome_any pa pc p ba bo ca cb x q now W (HTB.out.below hW) c1 hpc HPS.out (by omega) (by omega) HGB.out HGS.out (by omega) (by omega) (by omega) (by omega) h1 h2
 have HSp:Hid (∀ W,SlIs strL1 1 W pa p.addrs→BbIs W ba bo x→Calls Tryz.prog 19 #[plC pa pc p,bbC ba bo ca cb x,p4C q,iV now] W fun e w'=>NoRet W.heap.size (natComeV p x q now) e w'∧Below W.heap.size W w'):=fun W h1 h2=>specNatCome_any pa pc p ba bo ca cb x q now W c1 hpc HPS.out (by omega) (by omega) (by omega) (by omega) (by omega) (by omega) h1 h2
 have HER:Hid ((natComeV p x q now).code≠0→natComeV p x q now=noE (natComeV p x q now).code):=natCome_err;have HOK:Hid ((natComeV p x q now).code=0→_):=fun h=>natCome_ok h (by omega)
 have HLN:=no_len_NatCome p x q now HPS.out;obtain ⟨d2,d3⟩:=HLN;have HLW:Hid (∀ W a b cc cd a' b' cc' cd',BbIs W a b (natComeV p x q now).bib→BbIs W a' b' (natComeV p x q now).bib→Cb 9 #[bbC a b cc cd (natComeV p x q now).bib,bbC a' b' cc' cd' (natComeV p x q now).bib] W (.bool true)):=fun W a b cc cd a' b' cc' cd' h1 h2=>lwSame_same _ a b a' b' cc cd cc' cd' W d2 d3 h1 h2
 have HBY:Hid (∀ W a b cc cd,SlIs strL1 1 W pa p.addrs→BbIs W a b (natComeV p x q now).bib→Cb 13 #[plC pa pc p,bbC a b cc cd (natComeV p x q now).bib] W (.bool (bibOk p (natComeV p x q now).bib))):=fun W a b cc cd h1 h2=>specBib_any p _ pa pc a b cc cd W c1 hpc HPS.out d2 d3 h1 h2
 have HIX:Hid (BdsIn x.binds):=come_in hbd;have HFO:Hid (∀ W,Cb 10 #[.string q.src,.string q.dst,iV q.proto,.string q.data] W (fwCO (flowOfV q.src q.dst q.proto q.data) (flowCode q.src q.dst q.proto q.data))):=fun W=>specFlowOf_any _ _ _ _ W (by omega) (by omega) (by omega)
 clear HPS HGB HGS hpc hpd hbd hnw HTB q1 q2 q3 q4;generalize natComeV p x q now=o at *;unfold plC bbC p4C at *;have S1:Hid (Bxs w (CB w1 pa pc p ba bo ca cb x q) ((aW (aW w1 (PlV pa pc p) 27) (BbV ba ca bo cb x) 31).alloc (.cells (P4V q).toArray 33))):=by
  have h:=(((⟨fun e he=>(by cases he),qq,fun e he=>(by cases he)⟩ : Bxs w [] w1).push (PlV pa pc p) (by simp) 27).push (BbV ba ca bo cb x) (by simp) 31).push (P4V q) (by simp) 33;simp only [World.size_alloc] at h;exact h
 have hbl:Below w1.heap.size w1 ((aW (aW w1 (PlV pa pc p) 27) (BbV ba ca bo cb x) 31).alloc (.cells (P4V q).toArray 33)):=((bR.alloc lR _).alloc (by simp) _).alloc (by simp; omega) _;have P1:Hid (SlIs strL1 1 ((aW (aW w1 (PlV pa pc p) 27) (BbV ba ca bo cb x) 31).alloc (.cells (P4V q).toArray 33)) pa p.addrs):=hpl.below hbl;have B1:Hid (BbIs ((aW (aW w1 (PlV pa pc p) 27) (BbV ba ca bo cb x) 31).alloc (.cells (P4V q).toArray 33)) ba bo x):=hbb.below hbl;clear hbl hpl hbb qq;go_upto_region 4 with fail
 generalize World.alloc _ _=W1 at *;have HHk:HoldsL W1 (w1.heap.size) (plR pa pc p):=S1.out.k _ mE2;obtain ⟨k0,k1,k2,k3,k4,k5,k6,k7,k8,k9⟩:=HHk.c10;clear HHk;have HHl:HoldsL W1 (w1.heap.size+1) (bbR ba bo ca cb x):=S1.out.k _ mE1;obtain ⟨l0,l1⟩:=HHl.c2;clear HHl;have HHm:HoldsL W1 (w1.heap.size+1+1) (p4R q):=S1.out.k _ mE0;obtain ⟨m0,m1,m2,m3,m4,m5,m6,m7,m8,m9,m10⟩:=HHm.c11;clear HHm;go_wp2_with fail
 refine (HI.out W1 S1.out.b P1.out B1.out).mono ?_;rintro e w2 ⟨⟨xa,xb,cxa,cxb,rfl,hown⟩,q2⟩;unfold noC;have H0:HoldsL (w2.alloc (.cells Z25V.toArray 39)) w2.heap.size (noL none none 0 0 (noE 0)):=HoldsL.new w2 Z25V _;have HTH:Hid ((w2.alloc (.cells Z25V.toArray 39)).there w2.heap.size 0 (noL xa xb cxa cxb o).toArray.size):=noL_there H0 _ _ _ _ _;have HRR:Hid (HoldsL ((w2.alloc (.cells Z25V.toArray 39)).setCells w2.heap.size 0 (noL xa xb cxa cxb o).toArray.toList) w2.heap.size (noL xa xb cxa cxb o)):=H0.mid rfl;have HBB:Hid (Below w2.heap.size w2 ((w2.alloc (.cells Z25V.toArray 39)).setCells w2.heap.size 0 (noL xa xb cxa cxb o).toArray.toList)):=Below.mid (bR.alloc lR _) lR _;clear H0;go_upto_region 5 with (refine wpList_store_mid (by rfl) 39 (.tmp 7) (.tmp 29) (by rfl) _ _ _ (by rfl) (by rfl) HTH.out no_info (noL_one _ _ _ _ _) ?_)
 clear HTH;generalize ((w2.alloc (.cells Z25V.toArray 39)).setCells w2.heap.size 0 (noL xa xb cxa cxb o).toArray.toList)=W2 at *;have S2:Hid (CmS w ((w2.heap.size,noL xa xb cxa cxb o)::(CB w1 pa pc p ba bo ca cb x q)) pa p ba bo x xa xb o.bib W2):=⟨((S1.out.kept q2).kept HBB.out).cons HRR.out (by rw [noL_len]; omega),(P1.out.below q2).below HBB.out,(B1.out.below q2).below HBB.out,hown.is.below HBB.out⟩;clear q2 HBB HRR hown S1 P1 B1 HI k0 k1 k2 k3 k4 k5 k6 k7 k8 k9 l0 l1 m0 m1 m2 m3 m4 m5 m6 m7 m8 m9 m10;generalize w2.heap.size=Xb at *;have HHk:HoldsL W2 (w1.heap.size) (plR pa pc p):=S2.out.bx.k _ mE3;obtain ⟨k0,k1,k2,k3,k4,k5,k6,k7,k8,k9⟩:=HHk.c10;clear HHk;have HHl:HoldsL W2 (w1.heap.size+1) (bbR ba bo ca cb x):=S2.out.bx.k _ mE2;obtain ⟨l0,l1⟩:=HHl.c2;clear HHl;have HHm:HoldsL W2 (w1.heap.size+1+1) (p4R q):=S2.out.bx.k _ mE1;obtain ⟨m0,m1,m2,m3,m4,m5,m6,m7,m8,m9,m10⟩:=HHm.c11;clear HHm;go_wp2_with fail
 refine (HSp.out W2 S2.out.pl S2.out.bb).mono ?_;rintro e w3 ⟨⟨va,vb,cva,cvb,rfl,hown⟩,q3⟩;have S2a:Hid (CmS w ((Xb,noL xa xb cxa cxb o)::CB w1 pa pc p ba bo ca cb x q) pa p ba bo x xa xb o.bib w3):=S2.out.kept q3;clear S2 q3 HSp k0 k1 k2 k3 k4 k5 k6 k7 k8 k9 l0 l1 m0 m1 m2 m3 m4 m5 m6 m7 m8 m9 m10;unfold noC;have H0:HoldsL (w3.alloc (.cells Z25V.toArray 39)) w3.heap.size (noL none none 0 0 (noE 0)):=HoldsL.new w3 Z25V _;have HTH:Hid ((w3.alloc (.cells Z25V.toArray 39)).there w3.heap.size 0 (noL va vb cva cvb o).toArray.size):=noL_there H0 _ _ _ _ _;have HRR:Hid (HoldsL ((w3.alloc (.cells Z25V.toArray 39)).setCells w3.heap.size 0 (noL va vb cva cvb o).toArray.toList) w3.heap.size (noL va vb cva cvb o)):=H0.mid rfl;have HBB:Hid (Below w3.heap.size w3 ((w3.alloc (.cells Z25V.toArray 39)).setCells w3.heap.size 0 (noL va vb cva cvb o).toArray.toList)):=Below.mid (bR.alloc lR _) lR _;clear H0;go_upto_region 6 with (refine wpList_store_mid (by rfl) 39 (.tmp 8) (.tmp 34) (by rfl) _ _ _ (by rfl) (by rfl) HTH.out no_info (noL_one _ _ _ _ _) ?_)
 clear HTH;generalize ((w3.alloc (.cells Z25V.toArray 39)).setCells w3.heap.size 0 (noL va vb cva cvb o).toArray.toList)=W3 at *;have S3:Hid (CmS w ((Xb,noL xa xb cxa cxb o)::CB w1 pa pc p ba bo ca cb x q) pa p ba bo x xa xb o.bib W3):=S2a.out.kept HBB.out;have V3:Hid (HoldsL W3 w3.heap.size (noL va vb cva cvb o)):=HRR.out;have Y3:Hid (BbIs W3 va vb o.bib):=hown.is.below HBB.out;clear HBB HRR hown S2a;generalize w3.heap.size=Vb at *;have HHk:HoldsL W3 (Xb) (noL xa xb cxa cxb o):=S3.out.bx.k _ mE0;obtain ⟨k0,k1,k2,k3,k4,k5,k6,k7,k8,k9,k10,k11,k12,-,-,-,-,-,-,-,-,-,-,-,k24⟩:=HHk.c25;clear HHk;obtain ⟨l0,l1,l2,l3,l4,l5,l6,l7,l8,l9,l10,l11,l12,-,-,-,-,-,-,-,-,-,-,-,l24⟩:=V3.out.c25;have hsq:sameV4 o.four o.four=true:=(sameV4_iff _ _).2 rfl;have hne:(binOp .neq 33 (.agg (P4V o.four).toArray) (.agg (P4V o.four).toArray)).run Tryz.prog W3=.ok (.bool false) W3:=by rw [neV4_bin o.four o.four W3,hsq]; rfl
 clear hsq;go_wp2_with fail
 refine (HLW.out W3 xa xb cxa cxb va vb cva cvb S3.out.yy Y3.out).mono ?_;rintro e W4 ⟨rfl,q4⟩;have S4:Hid (CmS w ((Xb,noL xa xb cxa cxb o)::CB w1 pa pc p ba bo ca cb x q) pa p ba bo x xa xb o.bib W4):=S3.out.kept q4;clear q4 S3 V3 Y3 HLW hne k0 k1 k2 k3 k4 k5 k6 k7 k8 k9 k10 k11 k12 k24 l0 l1 l2 l3 l4 l5 l6 l7 l8 l9 l10 l11 l12 l24;go_upto_region 8 with fail
 have HHk:HoldsL W4 (Xb) (noL xa xb cxa cxb o):=S4.out.bx.k _ mE0;obtain ⟨k0,-,-,-,-,-,-,-,-,-,k10,-,-,-,-,-,-,-,-,-,-,-,-,-,k24⟩:=HHk.c25;clear HHk;by_cases hc:o.code=0
 case neg =>
  have d1:(o.code != 0)=true:=by simpa using hc
  have e1:=HER.out hc;have m0:W4.cell? ⟨Xb,0,none⟩=some (.slice xa 0 cxa):=by have:=k0; rw [e1] at this; exact this
  have m10:W4.cell? ⟨Xb,10,none⟩=some eS:=by have:=k10; rw [e1] at this; exact this
  have HFB:Hid (Below w.heap.size w W4):=S4.out.bx.b;clear k0 k10 e1 S4 hc HER HOK;go_wp2_with fail
  go_ret;exact ⟨rfl,HFB.out⟩
 have d1:(o.code != 0)=false:=by simpa using hc
 obtain ⟨c,D,o1,o2,o3,o4,o5,o6,o7,o8,o9,o10⟩:=HOK.out hc;have HK:Hid _:=lets_of o10;rw [o1] at HFO;clear HER HOK o1 o10;generalize ofFl q.src q.dst q.proto q.data=f at *;generalize flowCode q.src q.dst q.proto q.data=fc at *;unfold fwCO at HFO;replace HBY:Hid (∀ W a b cc cd,SlIs strL1 1 W pa p.addrs→BbIs W a b o.bib→Cb 13 #[.agg (PlV pa pc p).toArray,.agg (BbV a cc b cd o.bib).toArray] W (.bool true)):=by
  have h:=HBY.out;rw [o9] at h;exact h
 have HBA:Hid (∀ W,BbIs W ba bo x→Cb 20 #[.agg (BbV ba ca bo cb x).toArray,iV f.proto,.string f.dst,iV f.dp] W (bdC c)):=fun W hW=>by
  have h:=implBindAt_any x.binds q.proto q.dst f.dp ba ca (.slice bo x.sess.length cb) rfl W HIX.out hW.bd;rw [o5] at h;rw [o2,o4];exact h
 unfold bdC at HBA;have HLV:Hid (∀ W,Cb 12 #[.agg (P4V o.four).toArray,.agg (P4V q).toArray] W (.bool true)):=fun W=>by
  rw [o7];exact lwV4_same q q.src c.inn D W
 have e8:o.four.dst=c.inn:=by rw [o7]
 have p0:(c.proto==0)=false:=by simpa using o6
 have e9:((o.bib.binds.length:Int)==(x.binds.length:Int))=true:=by rw [o8]; simp
 have HO8:Hid (o.bib.binds.length=x.binds.length):=o8;have e10:(o.four.dst.toList==c.inn.toList)=true:=by rw [e8]; simp
 have HPR:Hid (f.proto=q.proto):=o2;have HFS:Hid (f.src=q.src):=o3;clear o2 o3 o4 o5 o6 o7 o8 o9 hc HIX e8;go_upto_region 10 with fail
 clear d1 k0 k10 k24;have HHm:HoldsL W4 (w1.heap.size+1+1) (p4R q):=S4.out.bx.k _ mE1;obtain ⟨-,-,-,-,-,-,m6,m7,m8,-,m10⟩:=HHm.c11;clear HHm;go_wp2_with fail
 refine (HFO.out W4).mono ?_;rintro e w5 ⟨rfl,q5⟩;have hfd:=fun W=>field_flow f.proto f.src f.dst f.sp f.dp fc W
 have S5:Hid (CmS w ((w5.heap.size,flR f)::((Xb,noL xa xb cxa cxb o)::CB w1 pa pc p ba bo ca cb x q)) pa p ba bo x xa xb o.bib (w5.alloc (.cells (FlV f).toArray 43))):=(S4.out.kept q5).push (flR f) (by simp) 43;clear q5 S4 HFO m6 m7 m8 m10;go_upto_region 11 with fail
 clear hfd;generalize (w5.alloc (.cells (FlV f).toArray 43))=W5 at *;generalize w5.heap.size=Fb at *;have HHk:HoldsL W5 (w1.heap.size+1) (bbR ba bo ca cb x):=S5.out.bx.k _ mE3;obtain ⟨k0,k1⟩:=HHk.c2;clear HHk;have HHl:HoldsL W5 (Fb) (flR f):=S5.out.bx.k _ mE0;obtain ⟨l0,-,l2,-,l4⟩:=HHl.c5;clear HHl;go_wp2_with fail
 refine (HBA.out W5 S5.out.bb).mono ?_;rintro e w6 ⟨rfl,q6⟩;have S6:Hid (CmS w ((w6.heap.size,bdR c)::((Fb,flR f)::(Xb,noL xa xb cxa cxb o)::CB w1 pa pc p ba bo ca cb x q)) pa p ba bo x xa xb o.bib (w6.alloc (.cells (BdV c).toArray 48))):=(S5.out.kept q6).push (bdR c) (by simp) 48;clear q6 S5 HBA k0 k1 l0 l2 l4;go_upto_region 12 with fail
 generalize (w6.alloc (.cells (BdV c).toArray 48))=W6 at *;generalize w6.heap.size=Ob at *;have HHk:HoldsL W6 (Xb) (noL xa xb cxa cxb o):=S6.out.bx.k _ mE2;obtain ⟨k0,k1,k2,k3,k4,k5,k6,k7,k8,k9,k10,k11,k12⟩:=HHk.c13;clear HHk;have HHl:HoldsL W6 (Ob) (bdR c):=S6.out.bx.k _ mE0;obtain ⟨l0,l1⟩:=HHl.c2;clear HHl;have HHm:HoldsL W6 (w1.heap.size+1+1) (p4R q):=S6.out.bx.k _ mE3;obtain ⟨m0,m1,m2,m3,m4,m5,m6,m7,m8,m9,m10⟩:=HHm.c11;clear HHm;have HHn:HoldsL W6 (w1.heap.size+1) (bbR ba bo ca cb x):=S6.out.bx.k _ mE4;obtain ⟨n0,n1⟩:=HHn.c2;clear HHn;have HHu:HoldsL W6 (w1.heap.size) (plR pa pc p):=S6.out.bx.k _ mE5;obtain ⟨u0,u1,u2,u3,u4,u5,u6,u7,u8,u9⟩:=HHu.c10;clear HHu;go_wp2_with fail
 refine (HLV.out W6).mono ?_;rintro e W7 ⟨rfl,q7⟩;have S7:Hid (CmS w ((Ob,bdR c)::(Fb,flR f)::(Xb,noL xa xb cxa cxb o)::CB w1 pa pc p ba bo ca cb x q) pa p ba bo x xa xb o.bib W7):=S6.out.kept q7;clear q7 S6 HLV k0 k1 k2 k3 k4 k5 k6 k7 k8 k9 k10 k11 k12 l0 l1 m0 m1 m2 m3 m4 m5 m6 m7 m8 m9 m10 n0 n1 u0 u1 u2 u3 u4 u5 u6 u7 u8 u9;have HHk:HoldsL W7 (Xb) (noL xa xb cxa cxb o):=S7.out.bx.k _ mE2;obtain ⟨k0,k1,k2,k3,k4,k5,k6,k7,k8,k9,k10,k11,k12⟩:=HHk.c13;clear HHk;have HHl:HoldsL W7 (Ob) (bdR c):=S7.out.bx.k _ mE0;obtain ⟨l0,l1⟩:=HHl.c2;clear HHl;have HHm:HoldsL W7 (w1.heap.size+1+1) (p4R q):=S7.out.bx.k _ mE3;obtain ⟨m0,m1,m2,m3,m4,m5,m6,m7,m8,m9,m10⟩:=HHm.c11;clear HHm;have HHn:HoldsL W7 (w1.heap.size+1) (bbR ba bo ca cb x):=S7.out.bx.k _ mE4;obtain ⟨n0,n1⟩:=HHn.c2;clear HHn;have HHu:HoldsL W7 (w1.heap.size) (plR pa pc p):=S7.out.bx.k _ mE5;obtain ⟨u0,u1,u2,u3,u4,u5,u6,u7,u8,u9⟩:=HHu.c10;clear HHu;go_wp2_with fail
 refine (HBY.out W7 xa xb cxa cxb S7.out.pl S7.out.yy).mono ?_;rintro e W8 ⟨rfl,q8⟩;have S8:Hid (CmS w ((Ob,bdR c)::(Fb,flR f)::(Xb,noL xa xb cxa cxb o)::CB w1 pa pc p ba bo ca cb x q) pa p ba bo x xa xb o.bib W8):=S7.out.kept q8;clear q8 S7 HBY k0 k1 k2 k3 k4 k5 k6 k7 k8 k9 k10 k11 k12 l0 l1 m0 m1 m2 m3 m4 m5 m6 m7 m8 m9 m10 n0 n1 u0 u1 u2 u3 u4 u5 u6 u7 u8 u9;go_upto_region 14 with fail
 rotate_left
 ·exact absurd (by rw [HO8.out]) ‹¬ (o.bib.binds.length:Int)=(x.binds.length:Int)›
 clear p0 e9 e10;have HHk:HoldsL W8 (Fb) (flR f):=S8.out.bx.k _ mE1;obtain ⟨k0,-,-,k3⟩:=HHk.c4;clear HHk;go_upto_if 126 with fail
 go_cut [11] (fun v wx=>v=iV (if q.proto=1 then 0 else f.sp)∧CmS w ((Ob,bdR c)::(Fb,flR f)::(Xb,noL xa xb cxa cxb o)::CB w1 pa pc p ba bo ca cb x q) pa p ba bo x xa xb o.bib wx)
 case first =>
  by_cases h1:q.proto=1
  case neg =>
   have hb:(f.proto==1)=false:=by rw [HPR.out]; simp [h1]
   go_wp2_with fail
   go_meet;exact ⟨by rw [if_neg h1],S8.out⟩
  have hb:(f.proto==1)=true:=by rw [HPR.out]; simp [h1]
  go_wp2_with fail
  go_meet;exact ⟨by rw [if_pos h1],S8.out⟩
 case rest =>
 obtain ⟨rfl,hS⟩:=hcut;have S9:Hid (CmS w ((Ob,bdR c)::(Fb,flR f)::(Xb,noL xa xb cxa cxb o)::CB w1 pa pc p ba bo ca cb x q) pa p ba bo x xa xb o.bib wc):=hS;clear hS S8 k0 k3;generalize wc=W9 at *;generalize (if q.proto=1 then 0 else f.sp)=port at *;go_upto_region 17 with fail
 have HHk:HoldsL W9 (w1.heap.size) (plR pa pc p):=S9.out.bx.k _ mE5;have k4:=HHk.cell (j:=4) rfl;clear HHk;have hpf:(p.filter==0)=decide (p.filter=0):=by by_cases h:p.filter=0<;>simp [h]
 go_wp2_with fail
 go_loopw [13,12] (fun i b wr=>∃ k:Nat,k≤x.sess.length∧i=iV k∧b=.bool (decide (p.filter=0)||(x.sess.take k).any (letsIn p c q.src port))∧CmS w ((Ob,bdR c)::(Fb,flR f)::(Xb,noL xa xb cxa cxb o)::CB w1 pa pc p ba bo ca cb x q) pa p ba bo x xa xb o.bib wr) (fun i _ _=>x.sess.length-(intOf i).toNat)
 case atStart=>exact ⟨0,Nat.zero_le _,rfl,by simp [hpf],S9.out⟩
 case round =>
  obtain ⟨k,hk,rfl,rfl,hst⟩:=hrel;have S10:Hid (CmS w ((Ob,bdR c)::(Fb,flR f)::(Xb,noL xa xb cxa cxb o)::CB w1 pa pc p ba bo ca cb x q) pa p ba bo x xa xb o.bib wr):=hst;clear hst S9 k4 hpf;generalize wr=W10 at *;have HHl:HoldsL W10 (w1.heap.size+1) (bbR ba bo ca cb x):=S10.out.bx.k _ mE4;obtain ⟨l0,l1⟩:=HHl.c2;clear HHl;by_cases hlt:k < x.sess.length
  case neg =>
   have hk2:¬ (k:Int) < (x.sess.length:Int):=by omega
   have hke:k=x.sess.length:=by omega
   have HX:Hid ((decide (p.filter=0)||(x.sess.take k).any (letsIn p c q.src port))=true):=by unfold Hid; rw [hke,List.take_length]; exact HK.out
   clear hlt hk hke HK;generalize (decide (p.filter=0)||(x.sess.take k).any (letsIn p c q.src port))=kn at *;go_wp2_with fail
   go_ret;exact ⟨ret_bool (by rw [HX.out]),S10.out.bx.b⟩
  have hltI:(k:Int) < (x.sess.length:Int):=by omega
  obtain ⟨gs,os,hpa,hgs,hat⟩:=S10.out.bb.ss.at hlt;have HSO:Hid (bo=some ⟨gs,os,none⟩):=hpa;rw [hpa] at l1;obtain ⟨s,hs⟩ : ∃ s,s=x.sess[k]:=⟨_,rfl⟩;have HST:Hid (_=_):=lets_step (p:=p) (c:=c) (src:=q.src) (port:=port) x.sess k hlt;rw [← hs] at HST;have hA:=hat k hlt;rw [← hs] at hA;obtain ⟨s0,s1,s2,s3,s4,s5,s6⟩:=rc7 hA;clear hA hat hgs hs hpa;have S11:Hid (CmS w ((W10.heap.size,ssR s)::((Ob,bdR c)::(Fb,flR f)::(Xb,noL xa xb cxa cxb o)::CB w1 pa pc p ba bo ca cb x q)) pa p ba bo x xa xb o.bib (W10.alloc (.cells (SsV s).toArray 59))):=S10.out.push (ssR s) (by simp) 59;go_upto_region 22 with fail
  clear S10 l0 l1 s0 s1 s2 s3 s4 s5 s6;generalize (W10.alloc (.cells (SsV s).toArray 59))=W11 at *;generalize W10.heap.size=Sb at *;have HHk:HoldsL W11 (Sb) (ssR s):=S11.out.bx.k _ mE0;obtain ⟨k0,k1,k2,k3,k4⟩:=HHk.c5;clear HHk;have HHl:HoldsL W11 (Ob) (bdR c):=S11.out.bx.k _ mE1;obtain ⟨l0,l1,l2⟩:=HHl.c3;clear HHl;have HHm:HoldsL W11 (Fb) (flR f):=S11.out.bx.k _ mE2;have m1:=HHm.cell (j:=1) rfl;clear HHm;have HHn:HoldsL W11 (w1.heap.size) (plR pa pc p):=S11.out.bx.k _ mE6;have n4:=HHn.cell (j:=4) rfl;clear HHn;rw [HFS.out] at m1;go_cut [178] (fun v wx=>v=.bool (letsIn p c q.src port s)∧CmS w ((Sb,ssR s)::(Ob,bdR c)::(Fb,flR f)::(Xb,noL xa xb cxa cxb o)::CB w1 pa pc p ba bo ca cb x q) pa p ba bo x xa xb o.bib wx)
  case first =>
   by_cases t1:s.proto=c.proto
   case neg =>
    have g1:(s.proto==c.proto)=false:=by simpa using t1
    have HV:Hid (letsIn p c q.src port s=false):=by unfold Hid letsIn; simp [t1]
    generalize letsIn p c q.src port s=lv at *;go_wp2_with fail
    go_meet;exact ⟨by rw [HV.out],S11.out⟩
   have g1:(s.proto==c.proto)=true:=by simpa using t1
   by_cases t2:s.inn.toList=c.inn.toList
   case neg =>
    have g2:(s.inn.toList==c.inn.toList)=false:=by simpa using t2
    have HV:Hid (letsIn p c q.src port s=false):=by unfold Hid letsIn; simp [t2]
    generalize letsIn p c q.src port s=lv at *;go_wp2_with fail
    go_meet;exact ⟨by rw [HV.out],S11.out⟩
   have g2:(s.inn.toList==c.inn.toList)=true:=by simpa using t2
   by_cases t3:s.inPort=c.inPort
   case neg =>
    have g3:(s.inPort==c.inPort)=false:=by simpa using t3
    have HV:Hid (letsIn p c q.src port s=false):=by unfold Hid letsIn; simp [t3]
    generalize letsIn p c q.src port s=lv at *;go_wp2_with fail
    go_meet;exact ⟨by rw [HV.out],S11.out⟩
   have g3:(s.inPort==c.inPort)=true:=by simpa using t3
   by_cases t4:s.peer.toList=q.src.toList
   case neg =>
    have g4:(s.peer.toList==q.src.toList)=false:=by simpa using t4
    have HV:Hid (letsIn p c q.src port s=false):=by unfold Hid letsIn; simp [t4]
    generalize letsIn p c q.src port s=lv at *;go_wp2_with fail
    go_meet;exact ⟨by rw [HV.out],S11.out⟩
   have g4:(s.peer.toList==q.src.toList)=true:=by simpa using t4
   by_cases t5:p.filter=1
   case pos =>
    have g5:(p.filter==1)=true:=by simpa using t5
    have HV:Hid (letsIn p c q.src port s=true):=by unfold Hid letsIn; simp [t1,t2,t3,t4,t5]
    generalize letsIn p c q.src port s=lv at *;go_wp2_with fail
    go_meet;exact ⟨by rw [HV.out],S11.out⟩
   have g5:(p.filter==1)=false:=by simpa using t5
   have hpp:(s.peerPort==port)=decide (s.peerPort=port):=by by_cases h:s.peerPort=port<;>simp [h]
   have HV:Hid (letsIn p c q.src port s=decide (s.peerPort=port)):=by unfold Hid letsIn; simp [t1,t2,t3,t4,t5]
   generalize letsIn p c q.src port s=lv at *;go_wp2_with fail
   go_meet;exact ⟨by rw [HV.out,← hpp],S11.out⟩
  case rest =>
  obtain ⟨rfl,hS⟩:=hcut;have S12:Hid (CmS w ((Sb,ssR s)::(Ob,bdR c)::(Fb,flR f)::(Xb,noL xa xb cxa cxb o)::CB w1 pa pc p ba bo ca cb x q) pa p ba bo x xa xb o.bib wc):=hS;clear hS S11 k0 k1 k2 k3 k4 l0 l1 l2 m1 n4;generalize wc=W12 at *;have S13:Hid (CmS w ((Ob,bdR c)::(Fb,flR f)::(Xb,noL xa xb cxa cxb o)::CB w1 pa pc p ba bo ca cb x q) pa p ba bo x xa xb o.bib W12):=S12.out.tl;clear S12
  cases hlv:letsIn p c q.src port s with
  | false =>
   rw [hlv] at HST;go_wp2_with fail
   go_roundw
   case rel=>first | exact ⟨k+1,by omega,by go_num,by rw [HST.out,Bool.or_false],S13.out⟩ | ((repeat apply Exists.intro); exact ⟨⟨k+1,by omega,by go_num,by rw [HST.out,Bool.or_false],S13.out⟩,rfl⟩)
   case measure=>simp [intOf]; omega
  | true =>
   rw [hlv] at HST;go_wp2_with fail
   go_roundw
   case rel=>first | exact ⟨k+1,by omega,by go_num,by rw [HST.out,Bool.or_true,Bool.or_true],S13.out⟩ | ((repeat apply Exists.intro); exact ⟨⟨k+1,by omega,by go_num,by rw [HST.out,Bool.or_true,Bool.or_true],S13.out⟩,rfl⟩)
   case measure=>simp [intOf]; omega
theorem bytes_of_row {w:World} {a:Option Addr} {len cap:Nat} {zs:List Int}
  (h:(a=none∧len=0∧cap=0∧zs=[])∨∃ x,a=some x∧len≤cap∧cap≤maxLen∧zs.length=cap∧(∀ i,i < zs.length→w.cell? (x.add i)=some (.int .u8 (zs.getD i 0)))∧∀ n∈zs,(Lit.int .u8 n).wf=true) :
  Bytes w a len w.heap.size:=by
 refine ⟨fun i hi=>?_⟩;rcases h with ⟨_,h0,_⟩ | ⟨⟨b,off,spot⟩,rfl,hl,_,hz,hc,hw⟩
 ·omega
 ·have hci:=hc i (by omega);have hsp:spot=none:=by
   have:=hc 0 (by omega);simpa [Addr.add] using World.cell?_spot this
  subst hsp;have hwf:=hw (zs.getD i 0) (by rw [List.getD,List.getElem?_eq_getElem (by omega)]; exact List.getElem_mem _);have hbd:0≤zs.getD i 0∧zs.getD i 0≤255:=by simpa [Lit.wf,IntKind.min,IntKind.max,IntKind.signed,IntKind.bits] using hwf
  have hci':w.cell? ⟨b,off+i,none⟩=some (.int .u8 (zs.getD i 0)):=by
   have e:Addr.add ⟨b,off,none⟩ i=⟨b,off+i,none⟩:=by simp only [Addr.add]; split<;>simp_all
   rw [← e]; exact hci
  exact ⟨b,off,rfl,World.block_lt_of_cell? w _ hci',zs.getD i 0,hbd.1,hbd.2,hci'⟩
open Go.ChangeShapes Go.WideShapes Go.ChangeShapes
def pairD {H:Type} (z:Int × Int):DataW H:=.agg [.lit (.int .i64 z.1),.lit (.int .i64 z.2)]
theorem cells_of_pairs {H:Type} {enc:TypeId × Value→H} {P:Program} {w:World} {base:Nat} {sp:Nat→Bool} {held:Bool} {fuel:Nat} {t e ty:TypeId} {n:Nat} {f0 f1:Field} {cs:List Value} {zs:List (Int × Int)} {p:List MemPlace}
  (ht:P.underlying t=some (.array n e)) (he:P.underlying e=some (.struct #[f0,f1])) (h0:f0.offset=0) (h1:f1.offset=1) (t0:f0.type=ty) (t1:f1.type=ty) (hty:P.underlying ty=some (.int .i64)) (hc1:P.cellsOf ty=1) (hce:P.cellsOf e=2)
  (h:DataW.trod enc P w base sp held fuel t cs=some (.agg (zs.map pairD),p)) (i:Nat) (z:Int × Int) (hz:zs[i]?=some z):cs[2*i]?=some (.int .i64 z.1)∧cs[2*i+1]?=some (.int .i64 z.2):=by
 obtain ⟨xs,m,_,hx,hlen,hn,hel⟩:=DataW.trod_array ht h;have hxs:xs.map (·.1)=zs.map pairD:=by
  have:=congrArg Prod.fst hx;simpa using this.symm
 have hi:i < zs.length:=(List.getElem?_eq_some_iff.1 hz).1;have hl:xs.length=zs.length:=by have:=congrArg List.length hxs; simpa using this
 have hxi:i < xs.length:=by omega
 have h2:=hel i (by omega);rw [List.getElem?_eq_getElem hxi,hce] at h2;obtain ⟨y0,y1,k,hy,_,g0,g1⟩:=trod_struct2 he h2;rw [h0,t0,hc1] at g0;rw [h1,t1,hc1] at g1;obtain ⟨a,ea,da,_⟩:=DataW.trod_int hty g0;obtain ⟨b,eb,db,_⟩:=DataW.trod_int hty g1;have hd:(xs[i]).1=pairD z:=by
  have:=congrArg (fun l=>l[i]?) hxs;simp only [List.getElem?_map,List.getElem?_eq_getElem hxi,hz,Option.map_some] at this;exact Option.some.inj this
 rw [hy,da,db] at hd;unfold pairD at hd;simp only [DataW.agg.injEq,List.cons.injEq,DataW.lit.injEq,Lit.int.injEq,true_and,and_true] at hd;obtain ⟨rfl,rfl⟩:=hd;have ea':=congrArg (fun l=>l[0]?) ea;have eb':=congrArg (fun l=>l[0]?) eb;simp [List.getElem?_take,List.getElem?_drop] at ea' eb';exact ⟨by rw [Nat.mul_comm]; exact ea',by rw [Nat.mul_comm]; exact eb'⟩
theorem var_pairs {P:Program} {W:World} {name:String} {zs:List (Int × Int)} {rest:List (String × DataW Unit)} {g:Nat} {t e ty:TypeId} {n:Nat} {f0 f1:Field}
  (hg:P.globalNamed name=some g) (hgt:(P.globals[g]?).map (·.type)=some t) (ht:P.underlying t=some (.array n e)) (he:P.underlying e=some (.struct #[f0,f1])) (h0:f0.offset=0) (h1:f1.offset=1) (t0:f0.type=ty) (t1:f1.type=ty) (hty:P.underlying ty=some (.int .i64)) (hc1:P.cellsOf ty=1) (hce:P.cellsOf e=2)
  (h:laidMet P ((name,.agg (zs.map pairD))::rest) W) (i:Nat) (z:Int × Int) (hz:zs[i]?=some z):W.cell? ⟨g,2*i,none⟩=some (.int .i64 z.1)∧W.cell? ⟨g,2*i+1,none⟩=some (.int .i64 z.2):=by
 obtain ⟨ps,⟨g',t',cs,fuel,p,q,hg',ht',hvar,hd,_,_⟩,_⟩:=h;obtain rfl:=Option.some.inj (hg.symm.trans hg');obtain rfl:=Option.some.inj (hgt.symm.trans ht');obtain ⟨c0,c1⟩:=cells_of_pairs ht he h0 h1 t0 t1 hty hc1 hce hd i z hz;have v0:=World.var?_cell hg hvar (2*i);have v1:=World.var?_cell hg hvar (2*i+1);exact ⟨by rw [v0]; simpa using c0,by rw [v1]; simpa using c1⟩
end Go.Proofs.YtdkepkaflielhaaGreatDoor
