import Derived.Test.YtcckaeppiamebaaGreatDoorAb
import Derived.Test.YtcckaeppiamebaaGreatDoorMerged8
import Derived.Test.YtcckaeppiamebaaGreatDoorMerged9
import Derived.Test.YtcckaeppiamebaaGreatDoorMerged4
import Derived.Test.YtcckaeppiamebaaGreatDoorMerged7
import Derived.Test.YtcckaeppiamebaaGreatDoorMerged3
import Derived.Test.YtcckaeppiamebaaGreatDoorMerged6
import Derived.Test.YtcckaeppiamebaaGreatDoorMerged5
import Derived.Test.YtcckaeppiamebaaGreatDoorMerged1
import Derived.BigQuiet
import Derived.Deep.DeepCutAuto
import Derived.WalkLawsBesides
import Derived.RegionTactic
import Derived.Deep.QuietTactic
import Derived.Deep.RegionWith
import Derived.Lib.AppendStr
import Derived.Laws.IdiomCopy
import Derived.Deep.OwnRows
import Derived.Lib.LazyBuf
import Derived.Lib.BufferWrite
set_option linter.unusedVariables false
set_option linter.unusedSimpArgs false
set_option maxRecDepth 100000
set_option maxHeartbeats 8000000
namespace Go.Proofs.YtcckaeppiamebaaGreatDoor
open Go.RowKit Go.PlainAid
def IsBv (base:Nat) (o:Bo):Value→World→Prop:=fun v w=>∃ a b ca cb,v=boC a b ca cb o∧BbOwn base w a b o.bib
theorem stable_isBv (base:Nat) (o:Bo):Stable (IsBv base o):=fun v w w' ⟨a,b,ca,cb,h1,h2⟩ hb=>⟨a,b,ca,cb,h1,h2.kept hb⟩
theorem sp9Ok_any (pa:Option Addr) (pc:Nat) (p:Pl) (ba bo:Option Addr) (ca cb:Nat) (x:Bb) (q:P4) (now:Int) (w:World) (hlp:p.addrs.length≤1048576) (hpc:p.addrs.length≤pc) (hsz:∀ s∈p.addrs,s.size≤1048576) (hl1:x.binds.length≤1048576) (hl2:x.sess.length≤1048576) (q1:q.src.size≤1048576) (q2:q.dst.size≤1048576) (q3:q.opts.size≤1048576) (q4:q.data.size≤1048576) (hp:SlIs strL1 1 w pa p.addrs) (hx:BbIs w ba bo x) :
  Cb 28 #[plC pa pc p,bbC ba bo ca cb x,p4C q,iV now] w (iV (natFt p x q now)):=by
 have HBR:Hid (∀ W,Below w.heap.size w W→Cb 50 #[plC pa pc p,bbC ba bo ca cb x] W (.bool (bibOk p x))):=fun W hW=>specBib_any p x pa pc ba bo ca cb W hlp hpc hsz hl1 hl2 (hp.below hW) (hx.below hW)
 have HV4:Hid (∀ W,Cb 51 #[p4C q] W (.bool (v4Ok q))):=fun W=>specV4Right_any q W q1 q2 q3 q4
 have HTM:Hid (∀ W,Cw 52 #[iV now] W (.bool (isTime now))):=fun W=>spTime_any now W
 have HV:Hid (natFt p x q now=if (bibOk p x&&v4Ok q&&isTime now)=false then 1 else if (q.more||decide (q.off≠0))=true then 10 else 0):=rfl;generalize natFt p x q now=ans at *;generalize bibOk p x=b1 at *;generalize v4Ok q=b2 at *;generalize isTime now=b3 at *;obtain ⟨tos,id,whole,more,off,ttl,proto,src,dst,opts,data⟩:=q;clear hp hx hsz;unfold plC bbC p4C at *;dsimp only at *;have hun:undef=Value.tuple #[]:=rfl;have HS0:=bx3 w (PlV pa pc p) 48 (BbV ba ca bo cb x) 39 (P4R tos id whole more off ttl proto src dst opts data) 40 (by simp) (by simp) (by simp)
 skip;go_enter Tryz.func28,Tryz.ntmps28
 go_upto_region 1 with fail
 generalize ((aW (aW w (PlV pa pc p) 48) (BbV ba ca bo cb x) 39).alloc (.cells (P4R tos id whole more off ttl proto src dst opts data).toArray 40))=W0 at *;have HHk:=HS0.out.at mE0;obtain ⟨k0,k1,k2,k3,k4,k5,k6,k7,k8,k9⟩:=HHk.c10;clear HHk;have HHl:=HS0.out.at mE1;obtain ⟨l0,l1⟩:=HHl.c2;clear HHl;go_wp2_with fail
 refine (HBR.out _ HS0.out.b).mono ?_;rintro e W1 ⟨rfl,r1⟩;have S1:Hid _:=HS0.out.kept r1;clear r1 HS0 k0 k1 k2 k3 k4 k5 k6 k7 k8 k9 l0 l1
 cases b1 with
 | false =>
  have HFB:Hid _:=S1.out.b;go_wp2_with fail
  go_ret;exact ⟨ret_int (by rw [HV.out]; rfl),HFB.out⟩
 | true =>
 have HHk:=S1.out.at mE2;obtain ⟨k0,k1,k2,k3,k4,k5,k6,k7,k8,k9,k10⟩:=HHk.c11;clear HHk;go_wp2_with fail
 refine (HV4.out _).mono ?_;rintro e W2 ⟨rfl,r2⟩;have S2:Hid _:=S1.out.kept r2;clear r2 S1 k0 k1 k2 k3 k4 k5 k6 k7 k8 k9 k10
 cases b2 with
 | false =>
  have HFB:Hid _:=S2.out.b;go_wp2_with fail
  go_ret;exact ⟨ret_int (by rw [HV.out]; rfl),HFB.out⟩
 | true =>
 go_wp2_with fail
 refine (HTM.out _).mono ?_;rintro e W2 ⟨rfl,rfl⟩
 cases b3 with
 | false =>
  have HFB:Hid _:=S2.out.b;go_wp2_with fail
  go_ret;exact ⟨ret_int (by rw [HV.out]; rfl),HFB.out⟩
 | true =>
 have HHk:=S2.out.at mE2;obtain ⟨k0,k1,k2,k3,k4,k5,k6,k7,k8,k9,k10⟩:=HHk.c11;clear HHk
 cases more with
 | true =>
  have HFB:Hid _:=S2.out.b;go_wp2_with fail
  go_ret;exact ⟨ret_int (by rw [HV.out]; rfl),HFB.out⟩
 | false =>
 by_cases ho:off=0
 case pos =>
  have d0:(off != 0)=false:=by simp [ho]
  have HFB:Hid _:=S2.out.b;go_wp2_with fail
  go_ret;exact ⟨ret_int (by rw [HV.out]; simp [ho]),HFB.out⟩
 have d0:(off != 0)=true:=by simp [ho]
 have HFB:Hid _:=S2.out.b;go_wp2_with fail
 go_ret;exact ⟨ret_int (by rw [HV.out]; simp [ho]),HFB.out⟩
theorem sp9Come_any (pa:Option Addr) (pc:Nat) (p:Pl) (ba bo:Option Addr) (ca cb:Nat) (x:Bb) (f:Fl) (t:ByteArray) (now:Int) (w:World) (hpo:poolOk p=true) (hnow:isTime now=true) (hfs:f.dst.size≤1048576) (h0:0≤f.dp) (h1:f.dp≤65535) (ht:t.size≤1048576) (h20:f.proto=6→20≤t.size) (hl1:x.binds.length≤1048576) (hl2:x.sess.length≤1048576) (hp:SlIs strL1 1 w pa p.addrs) (hx:BbIs w ba bo x) :
  Calls Tryz.prog 70 #[plC pa pc p,bbC ba bo ca cb x,fwC f,.string t,iV now] w fun e w'=>BoRet w.heap.size (goV p x (comeT f t) now) e w'∧Below w.heap.size w w':=by
 have HGO:Hid (∀ W,Below w.heap.size w W→Calls Tryz.prog 85 #[plC pa pc p,bbC ba bo ca cb x,.agg (TcR f.proto false f.dst f.dp f.src (peerV f.proto f.sp) (flagV f.proto t)).toArray,iV now] W fun e w'=>BoRet W.heap.size (goV p x (comeT f t) now) e w'∧Below W.heap.size W w'):=fun W hW=>spGo_any pa pc p ba bo ca cb x (comeT f t) now W hpo hnow hfs h0 h1 hl1 hl2 (hp.below hW) (hx.below hW)
 have HPO:Hid (∀ W,Cb 87 #[fwC f,iV f.sp] W (iV (peerV f.proto f.sp))):=fun W=>sp9Port_any f _ W
 have HFL:Hid (∀ W,Cb 88 #[fwC f,.string t] W (iV (flagV f.proto t))):=fun W=>sp9Flags_any f t W ht h20
 generalize goV p x (comeT f t) now=nv at *;generalize peerV f.proto f.sp=pv at *;generalize flagV f.proto t=fv at *;obtain ⟨proto,src,dst,sp,dp⟩:=f;dsimp only at *;clear hp hx hpo hnow h20;unfold plC bbC fwC at *;dsimp only at *;have HS0:=bx4 w (PlV pa pc p) 48 (BbV ba ca bo cb x) 39 (FlR proto src dst sp dp) 91 [.slice none 0 0,.slice none 0 0,iV 0,.string ⟨#[]⟩,iV 0,.string ⟨#[]⟩,iV 0,iV 0] 96 (by simp) (by simp) (by simp) (by simp)
 skip;have hRw:w.heap.size≤w.heap.size+1+1+1:=by omega
 go_enter Tryz.func70,Tryz.ntmps70
 go_upto_region 1 with fail
 generalize ((aW (aW (aW w (PlV pa pc p) 48) (BbV ba ca bo cb x) 39) (FlR proto src dst sp dp) 91).alloc (.cells #[.slice none 0 0,.slice none 0 0,iV 0,.string ⟨#[]⟩,iV 0,.string ⟨#[]⟩,iV 0,iV 0] 96))=W0 at *;have hR0:w.heap.size+1+1+1 < W0.heap.size:=(HS0.out.k _ mE3).lt (by simp);have HCP:Hid (∀ wy,Below W0.drew.heap.size W0.drew wy→_):=fun wy hy=>HS0.out.kept ((Below.refl _ _).drew.trans hy)
 have hRl:w.heap.size+1+1+1 < W0.drew.heap.size:=hR0;have hwl:w.heap.size≤W0.drew.heap.size:=HS0.out.b.size;clear HS0 hR0;refine wp_region_growV [11,12,13,14,15,16,17,18,19,20,21,22,23,24,25,26,27,28,29,30] (by kernel_rfl) (by kernel_rfl) ?_;apply GChV.v0
 ·rfl
 ·intro K' a wy ho hd hb hK kz;have o5:=ho 5 (by decide);simp [slot] at o5;clear hd ho;have hst:=HCP.out wy hb;have HHk:=hst.at mE0;obtain ⟨k0,k1,k2,k3,k4,k5,k6,k7,k8,k9⟩:=HHk.c10;clear HHk;have HHl:=hst.at mE1;obtain ⟨l0,l1⟩:=HHl.c2;clear HHl;have HHm:=hst.at mE2;obtain ⟨m0,m1,m2,m3,m4⟩:=HHm.c5;clear HHm;clear hst;go_simp;try go_bits
  exact kz _ rfl
 apply GChV.v1
 ·rfl
 ·intro K' a wy ho hd hb hK kz;have o6:=ho 6 (by decide);simp [slot] at o6;clear hd ho;have hst:=HCP.out wy hb;have HHk:=hst.at mE0;obtain ⟨k0,k1,k2,k3,k4,k5,k6,k7,k8,k9⟩:=HHk.c10;clear HHk;have HHl:=hst.at mE1;obtain ⟨l0,l1⟩:=HHl.c2;clear HHl;have HHm:=hst.at mE2;obtain ⟨m0,m1,m2,m3,m4⟩:=HHm.c5;clear HHm;clear hst;go_simp;try go_bits
  exact kz _ rfl
 apply GChV.v2
 ·rfl
 ·intro K' a wy ho hd hb hK kz;have o7:=ho 7 (by decide);simp [slot] at o7;clear hd ho;go_simp;try go_bits
  exact kz _ rfl
 apply GChV.v3
 ·rfl
 ·intro K' a wy ho hd hb hK kz;have q2:=hd ⟨2,.data⟩ (by simp) rfl;simp [rAt,IsV,slot] at q2;clear hd ho;have hst:=HCP.out wy hb;have HHk:=hst.at mE0;obtain ⟨k0,k1,k2,k3,k4,k5,k6,k7,k8,k9⟩:=HHk.c10;clear HHk;have HHl:=hst.at mE1;obtain ⟨l0,l1⟩:=HHl.c2;clear HHl;have HHm:=hst.at mE2;obtain ⟨m0,m1,m2,m3,m4⟩:=HHm.c5;clear HHm;clear hst;go_simp;try go_bits
  exact kz _ rfl
 apply GChV.v4
 ·rfl
 ·intro K' a wy ho hd hb hK kz;have o7:=ho 7 (by decide);simp [slot] at o7;clear hd ho;go_simp;try go_bits
  exact kz _ rfl
 apply GChV.v5
 ·rfl
 ·intro K' a wy ho hd hb hK kz;have q4:=hd ⟨4,.data⟩ (by simp) rfl;simp [rAt,IsV,slot] at q4;clear hd ho;have hst:=HCP.out wy hb;have HHk:=hst.at mE0;obtain ⟨k0,k1,k2,k3,k4,k5,k6,k7,k8,k9⟩:=HHk.c10;clear HHk;have HHl:=hst.at mE1;obtain ⟨l0,l1⟩:=HHl.c2;clear HHl;have HHm:=hst.at mE2;obtain ⟨m0,m1,m2,m3,m4⟩:=HHm.c5;clear HHm;clear hst;go_simp;try go_bits
  exact kz _ rfl
 apply GChV.v6
 ·rfl
 ·intro K' a wy ho hd hb hK kz;have o7:=ho 7 (by decide);simp [slot] at o7;clear hd ho;go_simp;try go_bits
  exact kz _ rfl
 apply GChV.v7
 ·rfl
 ·intro K' a wy ho hd hb hK kz;have q6:=hd ⟨6,.data⟩ (by simp) rfl;simp [rAt,IsV,slot] at q6;clear hd ho;have hst:=HCP.out wy hb;have HHk:=hst.at mE0;obtain ⟨k0,k1,k2,k3,k4,k5,k6,k7,k8,k9⟩:=HHk.c10;clear HHk;have HHl:=hst.at mE1;obtain ⟨l0,l1⟩:=HHl.c2;clear HHl;have HHm:=hst.at mE2;obtain ⟨m0,m1,m2,m3,m4⟩:=HHm.c5;clear HHm;clear hst;go_simp;try go_bits
  exact kz _ rfl
 apply GChV.v8
 ·rfl
 ·intro K' a wy ho hd hb hK kz;have o7:=ho 7 (by decide);simp [slot] at o7;clear hd ho;go_simp;try go_bits
  exact kz _ rfl
 apply GChV.v9
 ·rfl
 ·intro K' a wy ho hd hb hK kz;have q8:=hd ⟨8,.data⟩ (by simp) rfl;simp [rAt,IsV,slot] at q8;clear hd ho;have hst:=HCP.out wy hb;have HHk:=hst.at mE0;obtain ⟨k0,k1,k2,k3,k4,k5,k6,k7,k8,k9⟩:=HHk.c10;clear HHk;have HHl:=hst.at mE1;obtain ⟨l0,l1⟩:=HHl.c2;clear HHl;have HHm:=hst.at mE2;obtain ⟨m0,m1,m2,m3,m4⟩:=HHm.c5;clear HHm;clear hst;go_simp;try go_bits
  exact kz _ rfl
 apply GChV.v10
 ·rfl
 ·intro K' a wy ho hd hb hK kz;have o7:=ho 7 (by decide);simp [slot] at o7;clear hd ho;have hst:=HCP.out wy hb;have HHk:=hst.at mE0;obtain ⟨k0,k1,k2,k3,k4,k5,k6,k7,k8,k9⟩:=HHk.c10;clear HHk;have HHl:=hst.at mE1;obtain ⟨l0,l1⟩:=HHl.c2;clear HHl;have HHm:=hst.at mE2;obtain ⟨m0,m1,m2,m3,m4⟩:=HHm.c5;clear HHm;clear hst;go_simp;try go_bits
  exact kz _ rfl
 apply GChV.v11
 ·rfl
 ·intro K' a wy ho hd hb hK kz;have o7:=ho 7 (by decide);simp [slot] at o7;clear hd ho;go_simp;try go_bits
  exact kz _ rfl
 apply GChV.v12
 ·rfl
 ·intro K' a wy ho hd hb hK kz;have q11:=hd ⟨11,.data⟩ (by simp) rfl;simp [rAt,IsV,slot] at q11;clear hd ho;have hst:=HCP.out wy hb;have HHk:=hst.at mE0;obtain ⟨k0,k1,k2,k3,k4,k5,k6,k7,k8,k9⟩:=HHk.c10;clear HHk;have HHl:=hst.at mE1;obtain ⟨l0,l1⟩:=HHl.c2;clear HHl;have HHm:=hst.at mE2;obtain ⟨m0,m1,m2,m3,m4⟩:=HHm.c5;clear HHm;clear hst;go_simp;try go_bits
  exact kz _ rfl
 apply GChV.v13
 ·rfl
 ·intro K' a wy ho hd hb hK kz;have q10:=hd ⟨10,.data⟩ (by simp) rfl;have q12:=hd ⟨12,.data⟩ (by simp) rfl;simp [rAt,IsV,slot] at q10 q12;clear hd ho;go_simp;refine (HPO.out wy).mono ?_;rintro e wz ⟨rfl,hz⟩;exact hK _ _ rfl hz
 apply GChV.v14
 ·rfl
 ·intro K' a wy ho hd hb hK kz;have o7:=ho 7 (by decide);simp [slot] at o7;clear hd ho;have hst:=HCP.out wy hb;have HHk:=hst.at mE0;obtain ⟨k0,k1,k2,k3,k4,k5,k6,k7,k8,k9⟩:=HHk.c10;clear HHk;have HHl:=hst.at mE1;obtain ⟨l0,l1⟩:=HHl.c2;clear HHl;have HHm:=hst.at mE2;obtain ⟨m0,m1,m2,m3,m4⟩:=HHm.c5;clear HHm;clear hst;go_simp;try go_bits
  exact kz _ rfl
 apply GChV.v15
 ·rfl
 ·intro K' a wy ho hd hb hK kz;have o3:=ho 3 (by decide);simp [slot] at o3;clear hd ho;go_simp;try go_bits
  exact kz _ rfl
 apply GChV.v16
 ·rfl
 ·intro K' a wy ho hd hb hK kz;have q14:=hd ⟨14,.data⟩ (by simp) rfl;have q15:=hd ⟨15,.data⟩ (by simp) rfl;simp [rAt,IsV,slot] at q14 q15;clear hd ho;go_simp;refine (HFL.out wy).mono ?_;rintro e wz ⟨rfl,hz⟩;exact hK _ _ rfl hz
 apply GChV.v17
 ·rfl
 ·intro K' a wy ho hd hb hK kz;have q3:=hd ⟨3,.data⟩ (by simp) rfl;have q5:=hd ⟨5,.data⟩ (by simp) rfl;have q7:=hd ⟨7,.data⟩ (by simp) rfl;have q9:=hd ⟨9,.data⟩ (by simp) rfl;have q13:=hd ⟨13,.data⟩ (by simp) rfl;have q16:=hd ⟨16,.data⟩ (by simp) rfl;simp [rAt,IsV,slot] at q3 q5 q7 q9 q13 q16;clear hd ho;go_simp;try go_bits
  exact kz _ rfl
 apply GChV.v18
 ·rfl
 ·intro K' a wy ho hd hb hK kz;have o4:=ho 4 (by decide);simp [slot] at o4;clear hd ho;go_simp;try go_bits
  exact kz _ rfl
 refine GChV.rel (n:=19) (IsBv W0.drew.heap.size nv) (stable_isBv _ _) [_,_,_,_,_,_,_,_,_,_,_,_,_,_,_,_,_,_,_,IsBv W0.drew.heap.size nv] rfl rfl ?_ ?_
 ·intro K' a wy ho hd hb hK;rw [wN rfl];have q0:=hd ⟨0,.data⟩ (by simp) rfl;have q1:=hd ⟨1,.data⟩ (by simp) rfl;have q17:=hd ⟨17,.data⟩ (by simp) rfl;have q18:=hd ⟨18,.data⟩ (by simp) rfl;simp [rAt,IsV,slot] at q0 q1 q17 q18;clear hd ho;go_simp;have hst:=HCP.out wy hb;refine (HGO.out wy hst.b).mono ?_;rintro e wz ⟨⟨a9,b9,c9,d9,rfl,hown⟩,hz⟩;exact hK _ _ ⟨a9,b9,c9,d9,rfl,⟨hown.bd.down hb.size,hown.ss.down hb.size,hown.ne⟩⟩ hz
 intro X wz hR hz;obtain ⟨x0,x1,x2,x3,x4,x5,x6,x7,x8,x9,x10,x11,x12,x13,x14,x15,x16,x17,x18,x19,-⟩:=hR;obtain ⟨a9,b9,c9,d9,e9,own9⟩:=x19;unfold boC at e9;simp only [IsV] at x0 x1 x2 x3 x4 x5 x6 x7 x8 x9 x10 x11 x12 x13 x14 x15 x16 x17 x18;simp only [putsFrom,x0,x1,x2,x3,x4,x5,x6,x7,x8,x9,x10,x11,x12,x13,x14,x15,x16,x17,x18,e9];clear x0 x1 x2 x3 x4 x5 x6 x7 x8 x9 x10 x11 x12 x13 x14 x15 x16 x17 x18;have V7:Hid (Bxs w [(w.heap.size,(PlV pa pc p)),(w.heap.size+1,(BbV ba ca bo cb x)),(w.heap.size+1+1,(FlR proto src dst sp dp)),(w.heap.size+1+1+1,[.slice none 0 0,.slice none 0 0,iV 0,.string ⟨#[]⟩,iV 0,.string ⟨#[]⟩,iV 0,iV 0])] wz):=HCP.out wz hz;clear hz HCP;have HHz:=V7.out.at mE3;obtain ⟨z0,z1,z2,z3,z4,z5,z6,z7⟩:=HHz.c8;obtain ⟨zf0,zf1,zf2,zf3,zf4,zf5,zf6,zf7⟩:=HHz.f8;have HRR:Hid (HoldsL ((sW (sW (sW (sW (sW (sW (sW wz (w.heap.size+1+1+1) 0 (.slice a9 nv.bib.binds.length c9)) (w.heap.size+1+1+1) 1 (.slice b9 nv.bib.sess.length d9)) (w.heap.size+1+1+1) 2 (iV nv.bind.proto)) (w.heap.size+1+1+1) 3 (.string nv.bind.inn)) (w.heap.size+1+1+1) 4 (iV nv.bind.inPort)) (w.heap.size+1+1+1) 5 (.string nv.bind.out)) (w.heap.size+1+1+1) 6 (iV nv.bind.outPort)).setCell ⟨w.heap.size+1+1+1,7,none⟩ (iV nv.code)) (w.heap.size+1+1+1) [.slice a9 nv.bib.binds.length c9,.slice b9 nv.bib.sess.length d9,iV nv.bind.proto,.string nv.bind.inn,iV nv.bind.inPort,.string nv.bind.out,iV nv.bind.outPort,iV nv.code]):=((((((((HHz.set 0 (.slice a9 nv.bib.binds.length c9)).set 1 (.slice b9 nv.bib.sess.length d9)).set 2 (iV nv.bind.proto)).set 3 (.string nv.bind.inn)).set 4 (iV nv.bind.inPort)).set 5 (.string nv.bind.out)).set 6 (iV nv.bind.outPort)).set 7 (iV nv.code));have RB:Hid _:=((((((((V7.out.b.setCell (p:=⟨w.heap.size+1+1+1,0,none⟩) hRw (.slice a9 nv.bib.binds.length c9)).setCell (p:=⟨w.heap.size+1+1+1,1,none⟩) hRw (.slice b9 nv.bib.sess.length d9)).setCell (p:=⟨w.heap.size+1+1+1,2,none⟩) hRw (iV nv.bind.proto)).setCell (p:=⟨w.heap.size+1+1+1,3,none⟩) hRw (.string nv.bind.inn)).setCell (p:=⟨w.heap.size+1+1+1,4,none⟩) hRw (iV nv.bind.inPort)).setCell (p:=⟨w.heap.size+1+1+1,5,none⟩) hRw (.string nv.bind.out)).setCell (p:=⟨w.heap.size+1+1+1,6,none⟩) hRw (iV nv.bind.outPort)).setCell (p:=⟨w.heap.size+1+1+1,7,none⟩) hRw (iV nv.code));clear HHz;have HOW:Hid (BbOwn w.heap.size ((sW (sW (sW (sW (sW (sW (sW wz (w.heap.size+1+1+1) 0 (.slice a9 nv.bib.binds.length c9)) (w.heap.size+1+1+1) 1 (.slice b9 nv.bib.sess.length d9)) (w.heap.size+1+1+1) 2 (iV nv.bind.proto)) (w.heap.size+1+1+1) 3 (.string nv.bind.inn)) (w.heap.size+1+1+1) 4 (iV nv.bind.inPort)) (w.heap.size+1+1+1) 5 (.string nv.bind.out)) (w.heap.size+1+1+1) 6 (iV nv.bind.outPort)).setCell ⟨w.heap.size+1+1+1,7,none⟩ (iV nv.code)) a9 b9 nv.bib):=⟨(own9.bd.grown (grown_set (grown_set (grown_set (grown_set (grown_set (grown_set (grown_set (grown_set (World.grownBy.refl _ _) _) _) _) _) _) _) _) _) hRl).down hwl,(own9.ss.grown (grown_set (grown_set (grown_set (grown_set (grown_set (grown_set (grown_set (grown_set (World.grownBy.refl _ _) _) _) _) _) _) _) _) _) hRl).down hwl,own9.ne⟩
 clear own9 V7 HGO;intro K10 hK10;go_simp;refine hK10 _ _ ?_;simp only [wpSeq];go_wp2_with fail
 exact bodyPost_ret (results_mid Tryz.results70 _ _ _ _ _ rfl HRR.out Tryz.underlying96 rfl (show (Tryz.prog.info? 96).map (·.size)=some 8 by kernel_rfl)) rfl (And.intro ⟨a9,b9,c9,d9,rfl,HOW.out⟩ RB.out)
def NoRet (base:Nat) (o:No) (e:Ending) (w':World):Prop:=∃ a b ca cb,e=.returned (noC a b ca cb o)∧BbOwn base w' a b o.bib
theorem noRet_ill {base:Nat} {w:World} (c:Int):NoRet base (noE c) (.returned (noC none none 0 0 (noE c))) w:=⟨none,none,0,0,rfl,.inl rfl,.inl rfl,fun g h e1=>by simp at e1⟩
theorem no_info:(Tryz.prog.info? 44).map (·.size)=some 25:=by kernel_rfl
theorem sp9Ill_any (c:Int) (w:World) :
  Cb 29 #[iV c] w (noC none none 0 0 (noE c)):=by
 have H0:Hid (HoldsL (w.alloc (.cells #[.slice none 0 0,.slice none 0 0,iV 0,iV 0,.bool false,.bool false,iV 0,iV 0,iV 0,.string ⟨#[]⟩,.string ⟨#[]⟩,.string ⟨#[]⟩,.string ⟨#[]⟩,iV 0,iV 0,iV 0,iV 0,.string ⟨#[]⟩,.string ⟨#[]⟩,.bool false,.bool false,iV 0,iV 0,.string ⟨#[]⟩,iV 0] 44)) w.heap.size (noL none none 0 0 (noE 0))):=HoldsL.new w [.slice none 0 0,.slice none 0 0,iV 0,iV 0,.bool false,.bool false,iV 0,iV 0,iV 0,.string ⟨#[]⟩,.string ⟨#[]⟩,.string ⟨#[]⟩,.string ⟨#[]⟩,iV 0,iV 0,iV 0,iV 0,.string ⟨#[]⟩,.string ⟨#[]⟩,.bool false,.bool false,iV 0,iV 0,.string ⟨#[]⟩,iV 0] 44;have B0:Hid (Below w.heap.size w (w.alloc (.cells #[.slice none 0 0,.slice none 0 0,iV 0,iV 0,.bool false,.bool false,iV 0,iV 0,iV 0,.string ⟨#[]⟩,.string ⟨#[]⟩,.string ⟨#[]⟩,.string ⟨#[]⟩,iV 0,iV 0,iV 0,iV 0,.string ⟨#[]⟩,.string ⟨#[]⟩,.bool false,.bool false,iV 0,iV 0,.string ⟨#[]⟩,iV 0] 44))):=(Below.refl _ _).alloc (Nat.le_refl _) _;go_enter Tryz.func29,Tryz.ntmps29
 go_upto_region 1 with fail
 generalize (w.alloc (.cells #[.slice none 0 0,.slice none 0 0,iV 0,iV 0,.bool false,.bool false,iV 0,iV 0,iV 0,.string ⟨#[]⟩,.string ⟨#[]⟩,.string ⟨#[]⟩,.string ⟨#[]⟩,iV 0,iV 0,iV 0,iV 0,.string ⟨#[]⟩,.string ⟨#[]⟩,.bool false,.bool false,iV 0,iV 0,.string ⟨#[]⟩,iV 0] 44))=W0 at *;have HTH:Hid (W0.there w.heap.size 0 (noL none none 0 0 (noE c)).toArray.size):=noL_there H0.out _ _ _ _ _;have HRR:Hid (HoldsL (W0.setCells w.heap.size 0 (noL none none 0 0 (noE c)).toArray.toList) w.heap.size (noL none none 0 0 (noE c))):=H0.out.mid rfl;have RB:Hid (Below w.heap.size w (W0.setCells w.heap.size 0 (noL none none 0 0 (noE c)).toArray.toList)):=Below.mid B0.out (Nat.le_refl _) _;clear H0 B0;go_wp2_with (refine wpList_store_mid (by rfl) 44 (.tmp 2) (.tmp 4) (by rfl) w.heap.size 0 (noL none none 0 0 (noE c)).toArray (by rfl) (by rfl) HTH.out no_info (noL_one _ _ _ _ _) ?_)
 exact bodyPost_ret (results_mid Tryz.results29 _ _ w.heap.size (noL none none 0 0 (noE c)) _ rfl HRR.out Tryz.underlying44 rfl no_info) rfl (And.intro rfl RB.out)
theorem sp9NatCome_any (pa:Option Addr) (pc:Nat) (p:Pl) (ba bo:Option Addr) (ca cb:Nat) (x:Bb) (q:P4) (now:Int) (w:World) (hbk:bibOk p x=true) (hq:v4Ok q=true) (hnow:isTime now=true) (hl1:x.binds.length≤1048576) (hl2:x.sess.length≤1048576) (hp:SlIs strL1 1 w pa p.addrs) (hx:BbIs w ba bo x) :
  Calls Tryz.prog 46 #[plC pa pc p,bbC ba bo ca cb x,p4C q,iV now] w fun e w'=>NoRet w.heap.size (natComeIn p x q now) e w'∧Below w.heap.size w w':=by
 obtain ⟨hA,hB⟩ : v4A q=true∧v4B q=true:=by unfold v4Ok at hq; simp only [Bool.and_eq_true] at hq; exact hq.1
 obtain ⟨-,-,hpr,-,-,hs,hd⟩:=v4A_parts hA;obtain ⟨-,-,hdt,-,-⟩:=v4B_parts hB;have hpo:poolOk p=true:=(bibR_iff.1 hbk).pool;have HOF:Hid (∀ W,Cb 53 #[.string q.src,.string q.dst,iV q.proto,.string q.data] W (.tuple #[fwC (ofFl q.src q.dst q.proto q.data),iV (ofCode q.src.size q.proto q.data)])):=fun W=>spOf_any _ _ _ _ W (by omega) (by omega)
 have HIL:Hid (∀ c W,Cb 29 #[iV c] W (noC none none 0 0 (noE c))):=fun c W=>sp9Ill_any c W
 have HGO:Hid (ofCode q.src.size q.proto q.data=0→∀ W,Below w.heap.size w W→Calls Tryz.prog 70 #[plC pa pc p,bbC ba bo ca cb x,fwC (ofFl q.src q.dst q.proto q.data),.string q.data,iV now] W fun e w'=>BoRet W.heap.size (goV p x (comeT (ofFl q.src q.dst q.proto q.data) q.data) now) e w'∧Below W.heap.size W w'):=fun h W hW=>by
  obtain ⟨z1,z2,z3,z4,z5,z6⟩:=ofFl_zero (d:=q.dst) h;exact sp9Come_any pa pc p ba bo ca cb x _ q.data now W hpo hnow (by rw [z3]; omega) z5.1 z5.2 (by omega) (by rw [z1]; exact (ofCode_size h).2) hl1 hl2 (hp.below hW) (hx.below hW)
 have HBE:Hid (ofCode q.src.size q.proto q.data=0→(goV p x (comeT (ofFl q.src q.dst q.proto q.data) q.data) now).code=0→_):=fun h h2=>bind_ends hbk hnow (comeT_ok hs hd h) h2
 have HFM:Hid (ofCode q.src.size q.proto q.data=0→(goV p x (comeT (ofFl q.src q.dst q.proto q.data) q.data) now).code=0→∀ W,Cb 71 #[fwC (ofFl q.src q.dst q.proto q.data),.string q.src,.string (goV p x (comeT (ofFl q.src q.dst q.proto q.data) q.data) now).bind.inn,iV (goV p x (comeT (ofFl q.src q.dst q.proto q.data) q.data) now).bind.inPort] W (fwC (toF (ofFl q.src q.dst q.proto q.data) q.src (goV p x (comeT (ofFl q.src q.dst q.proto q.data) q.data) now).bind.inn (goV p x (comeT (ofFl q.src q.dst q.proto q.data) q.data) now).bind.inPort))):=fun h h2 W=>sp9To_any _ _ _ _ W (by omega)
 have HST:Hid (ofCode q.src.size q.proto q.data=0→(goV p x (comeT (ofFl q.src q.dst q.proto q.data) q.data) now).code=0→(goV p x (comeT (ofFl q.src q.dst q.proto q.data) q.data) now).bind.inn.size=4→∀ W,Cb 55 #[fwC (ofFl q.src q.dst q.proto q.data),fwC (toF (ofFl q.src q.dst q.proto q.data) q.src (goV p x (comeT (ofFl q.src q.dst q.proto q.data) q.data) now).bind.inn (goV p x (comeT (ofFl q.src q.dst q.proto q.data) q.data) now).bind.inPort),.string q.data] W (dtCO (setD (ofFl q.src q.dst q.proto q.data) (toF (ofFl q.src q.dst q.proto q.data) q.src (goV p x (comeT (ofFl q.src q.dst q.proto q.data) q.data) now).bind.inn (goV p x (comeT (ofFl q.src q.dst q.proto q.data) q.data) now).bind.inPort) q.data) 0)):=fun h h2 h44 W=>by
  obtain ⟨z1,z2,z3,z4,z5,z6⟩:=ofFl_zero (d:=q.dst) h;obtain ⟨b1,b2,b3,b4,b5⟩:=HBE.out h h2;obtain ⟨k1,k2,k3,k4⟩:=kind_right (f:=ofFl q.src q.dst q.proto q.data) (g:=⟨(ofFl q.src q.dst q.proto q.data).proto,q.src,(goV p x (comeT (ofFl q.src q.dst q.proto q.data) q.data) now).bind.inn,if echoP (ofFl q.src q.dst q.proto q.data).proto=true then (goV p x (comeT (ofFl q.src q.dst q.proto q.data) q.data) now).bind.inPort else (ofFl q.src q.dst q.proto q.data).sp,(goV p x (comeT (ofFl q.src q.dst q.proto q.data) q.data) now).bind.inPort⟩) (flowOk_of h (pair_four hs hd)) (by rw [z2]; exact hs) hs h44 rfl (by split<;>assumption) b4;obtain ⟨m1,m2,m3⟩:=flowOk_parts k1;have o:=ofCode_size h;refine (spSet_any _ (toF (ofFl q.src q.dst q.proto q.data) q.src (goV p x (comeT (ofFl q.src q.dst q.proto q.data) q.data) now).bind.inn (goV p x (comeT (ofFl q.src q.dst q.proto q.data) q.data) now).bind.inPort) q.data W (by omega) o.1 (by rw [z1]; exact o.2) ⟨by rw [z2]; omega,by rw [z3]; omega⟩ m1 (by rw [z1]; exact hpr) m2 m3).mono ?_;rintro e w' ⟨rfl,hb⟩;refine ⟨?_,hb⟩;unfold setD;have k5:(toF (ofFl q.src q.dst q.proto q.data) q.src (goV p x (comeT (ofFl q.src q.dst q.proto q.data) q.data) now).bind.inn (goV p x (comeT (ofFl q.src q.dst q.proto q.data) q.data) now).bind.inPort).src.size=4:=by show (kindF _ _).src.size=4; rw [k3]; exact hs
  have k6:¬ (toF (ofFl q.src q.dst q.proto q.data) q.src (goV p x (comeT (ofFl q.src q.dst q.proto q.data) q.data) now).bind.inn (goV p x (comeT (ofFl q.src q.dst q.proto q.data) q.data) now).bind.inPort).src.size=16:=by omega
  simp only [if_neg k6];by_cases hbu:bareUdp (ofFl q.src q.dst q.proto q.data) q.data=true
  ·simp only [if_pos hbu]
  ·simp only [if_neg hbu]
 have HV:Hid (natComeIn p x q now=if inL p.addrs q.dst=false then noE 6 else if ofCode q.src.size q.proto q.data≠0 then noE (ofCode q.src.size q.proto q.data) else if (goV p x (comeT (ofFl q.src q.dst q.proto q.data) q.data) now).code≠0 then noE (goV p x (comeT (ofFl q.src q.dst q.proto q.data) q.data) now).code else if (goV p x (comeT (ofFl q.src q.dst q.proto q.data) q.data) now).bind.inn.size≠4 then noE 11 else ⟨(goV p x (comeT (ofFl q.src q.dst q.proto q.data) q.data) now).bib,{ q with dst:=(goV p x (comeT (ofFl q.src q.dst q.proto q.data) q.data) now).bind.inn,data:=setD (ofFl q.src q.dst q.proto q.data) (toF (ofFl q.src q.dst q.proto q.data) q.src (goV p x (comeT (ofFl q.src q.dst q.proto q.data) q.data) now).bind.inn (goV p x (comeT (ofFl q.src q.dst q.proto q.data) q.data) now).bind.inPort) q.data },p6Zero,0⟩):=rfl;have HIN:Hid (∀ W,Below w.heap.size w W→Cb 69 #[.slice pa p.addrs.length pc,.string q.dst] W (.bool (inL p.addrs q.dst))):=fun W hW=>spIn_any p.addrs q.dst pa pc W (by unfold poolOk at hpo; simp only [Bool.and_eq_true,decide_eq_true_iff] at hpo; have:=hpo.1.1.1.1.1.1.1.2; omega) (hp.below hW)
 have HIZ:Hid (ofCode q.src.size q.proto q.data=0→(goV p x (comeT (ofFl q.src q.dst q.proto q.data) q.data) now).code=0→((goV p x (comeT (ofFl q.src q.dst q.proto q.data) q.data) now).bind.inn.size=4∨(goV p x (comeT (ofFl q.src q.dst q.proto q.data) q.data) now).bind.inn.size=16)):=fun h h2=>(HBE.out h h2).2.2.1
 clear HBE;generalize natComeIn p x q now=ans at *;generalize setD (ofFl q.src q.dst q.proto q.data) (toF (ofFl q.src q.dst q.proto q.data) q.src (goV p x (comeT (ofFl q.src q.dst q.proto q.data) q.data) now).bind.inn (goV p x (comeT (ofFl q.src q.dst q.proto q.data) q.data) now).bind.inPort) q.data=sd at *;generalize toF (ofFl q.src q.dst q.proto q.data) q.src (goV p x (comeT (ofFl q.src q.dst q.proto q.data) q.data) now).bind.inn (goV p x (comeT (ofFl q.src q.dst q.proto q.data) q.data) now).bind.inPort=g at *;generalize goV p x (comeT (ofFl q.src q.dst q.proto q.data) q.data) now=nv at *;generalize ofFl q.src q.dst q.proto q.data=fl at *;generalize ofCode q.src.size q.proto q.data=cd at *;generalize inL p.addrs q.dst=il at *;obtain ⟨tos,id,whole,more,off,ttl,proto,src,dst,opts,data⟩:=q;clear hp hx hpo hnow hbk hq hA hB;unfold plC bbC p4C at *;unfold fwC dtCO at *;dsimp only at *;have HS0:=bx4 w (PlV pa pc p) 48 (BbV ba ca bo cb x) 39 (P4R tos id whole more off ttl proto src dst opts data) 40 [.slice none 0 0,.slice none 0 0,iV 0,iV 0,.bool false,.bool false,iV 0,iV 0,iV 0,.string ⟨#[]⟩,.string ⟨#[]⟩,.string ⟨#[]⟩,.string ⟨#[]⟩,iV 0,iV 0,iV 0,iV 0,.string ⟨#[]⟩,.string ⟨#[]⟩,.bool false,.bool false,iV 0,iV 0,.string ⟨#[]⟩,iV 0] 44 (by simp) (by simp) (by simp) (by simp)
 skip;have hRw:w.heap.size≤w.heap.size+1+1+1:=by omega
 go_enter Tryz.func46,Tryz.ntmps46
 go_upto_region 1 with fail
 generalize ((aW (aW (aW w (PlV pa pc p) 48) (BbV ba ca bo cb x) 39) (P4R tos id whole more off ttl proto src dst opts data) 40).alloc (.cells #[.slice none 0 0,.slice none 0 0,iV 0,iV 0,.bool false,.bool false,iV 0,iV 0,iV 0,.string ⟨#[]⟩,.string ⟨#[]⟩,.string ⟨#[]⟩,.string ⟨#[]⟩,iV 0,iV 0,iV 0,iV 0,.string ⟨#[]⟩,.string ⟨#[]⟩,.bool false,.bool false,iV 0,iV 0,.string ⟨#[]⟩,iV 0] 44))=W0 at *;have HHk:=HS0.out.at mE0;obtain ⟨k0,k1,k2,k3,k4,k5,k6,k7,k8,k9⟩:=HHk.c10;clear HHk;have HHl:=HS0.out.at mE2;obtain ⟨l0,l1,l2,l3,l4,l5,l6,l7,l8,l9,l10⟩:=HHl.c11;clear HHl;go_wp2_with fail
 refine (HIN.out _ HS0.out.b).mono ?_;rintro e W9 ⟨rfl,r9⟩;have S9:Hid _:=HS0.out.kept r9;clear r9 HS0 HIN k0 k1 k2 k3 k4 k5 k6 k7 k8 k9 l0 l1 l2 l3 l4 l5 l6 l7 l8 l9 l10
 cases il with
 | false =>
  have HX:Hid (ans=noE 6):=by unfold Hid; rw [HV.out,if_pos rfl]
  go_wp2_with fail
  refine (HIL.out 6 _).mono ?_;rintro e W8 ⟨rfl,r8⟩;have S8:Hid _:=S9.out.kept r8;clear r8;have HTH:Hid (W8.there (w.heap.size+1+1+1) 0 (noL none none 0 0 (noE 6)).toArray.size):=noL_there (show HoldsL W8 (w.heap.size+1+1+1) (noL none none 0 0 (noE 0)) from S8.out.k _ mE3) _ _ _ _ _;have HRR:Hid (HoldsL (W8.setCells (w.heap.size+1+1+1) 0 (noL none none 0 0 (noE 6)).toArray.toList) (w.heap.size+1+1+1) (noL none none 0 0 (noE 6))):=(show HoldsL W8 (w.heap.size+1+1+1) (noL none none 0 0 (noE 0)) from S8.out.k _ mE3).mid rfl;have RB:Hid (Below w.heap.size w (W8.setCells (w.heap.size+1+1+1) 0 (noL none none 0 0 (noE 6)).toArray.toList)):=Below.mid S8.out.b hRw _;unfold noC;go_wp2_with (refine wpList_store_mid (by rfl) 44 (.tmp 8) (.tmp 19) (by rfl) (w.heap.size+1+1+1) 0 (noL none none 0 0 (noE 6)).toArray (by rfl) (by rfl) HTH.out no_info (noL_one _ _ _ _ _) ?_)
  exact bodyPost_ret (results_mid Tryz.results46 _ _ (w.heap.size+1+1+1) (noL none none 0 0 (noE 6)) _ rfl HRR.out Tryz.underlying44 rfl no_info) rfl (And.intro (by rw [HX.out]; exact noRet_ill _) RB.out)
 | true =>
 rw [if_neg (by simp)] at HV;have HHk:=S9.out.at mE2;obtain ⟨k0,k1,k2,k3,k4,k5,k6,k7,k8,k9,k10⟩:=HHk.c11;clear HHk;go_wp2_with fail
 refine (HOF.out _).mono ?_;rintro e W1 ⟨rfl,r1⟩;have S2:Hid (Bxs w ((W1.heap.size,(FlV fl))::[(w.heap.size,(PlV pa pc p)),(w.heap.size+1,(BbV ba ca bo cb x)),(w.heap.size+1+1,(P4R tos id whole more off ttl proto src dst opts data)),(w.heap.size+1+1+1,[.slice none 0 0,.slice none 0 0,iV 0,iV 0,.bool false,.bool false,iV 0,iV 0,iV 0,.string ⟨#[]⟩,.string ⟨#[]⟩,.string ⟨#[]⟩,.string ⟨#[]⟩,iV 0,iV 0,iV 0,iV 0,.string ⟨#[]⟩,.string ⟨#[]⟩,.bool false,.bool false,iV 0,iV 0,.string ⟨#[]⟩,iV 0])]) (W1.alloc (.cells (FlV fl).toArray 91))):=(S9.out.kept r1).push (FlV fl) (by simp) _;clear r1 S9 HOF k0 k1 k2 k3 k4 k5 k6 k7 k8 k9 k10;go_upto_region 4 with fail
 generalize (W1.alloc (.cells (FlV fl).toArray 91))=W2 at *;generalize W1.heap.size=Fb at *;by_cases hc:cd=0
 case neg =>
  have d0:(cd != 0)=true:=by simp [hc]
  have HX:Hid (ans=noE cd):=by unfold Hid; rw [HV.out,if_pos hc]
  go_wp2_with fail
  refine (HIL.out cd _).mono ?_;rintro e W3 ⟨rfl,r3⟩;have S3:Hid _:=S2.out.kept r3;clear r3;have HTH:Hid (W3.there (w.heap.size+1+1+1) 0 (noL none none 0 0 (noE cd)).toArray.size):=noL_there (show HoldsL W3 (w.heap.size+1+1+1) (noL none none 0 0 (noE 0)) from S3.out.k _ mE4) _ _ _ _ _;have HRR:Hid (HoldsL (W3.setCells (w.heap.size+1+1+1) 0 (noL none none 0 0 (noE cd)).toArray.toList) (w.heap.size+1+1+1) (noL none none 0 0 (noE cd))):=(show HoldsL W3 (w.heap.size+1+1+1) (noL none none 0 0 (noE 0)) from S3.out.k _ mE4).mid rfl;have RB:Hid (Below w.heap.size w (W3.setCells (w.heap.size+1+1+1) 0 (noL none none 0 0 (noE cd)).toArray.toList)):=Below.mid S3.out.b hRw _;unfold noC;go_wp2_with (refine wpList_store_mid (by rfl) 44 (.tmp 8) (.tmp 35) (by rfl) (w.heap.size+1+1+1) 0 (noL none none 0 0 (noE cd)).toArray (by rfl) (by rfl) HTH.out no_info (noL_one _ _ _ _ _) ?_)
  exact bodyPost_ret (results_mid Tryz.results46 _ _ (w.heap.size+1+1+1) (noL none none 0 0 (noE cd)) _ rfl HRR.out Tryz.underlying44 rfl no_info) rfl (And.intro (by rw [HX.out]; exact noRet_ill _) RB.out)
 have d0:(cd != 0)=false:=by simp [hc]
 rw [if_neg (by simp [hc])] at HV;replace HGO:Hid _:=HGO.out hc;replace HFM:Hid _:=HFM.out hc;replace HST:Hid _:=HST.out hc;replace HIZ:Hid _:=HIZ.out hc;clear hc;go_upto_region 6 with fail
 clear d0;have HHk:=S2.out.at mE1;obtain ⟨k0,k1,k2,k3,k4,k5,k6,k7,k8,k9⟩:=HHk.c10;clear HHk;have HHl:=S2.out.at mE2;obtain ⟨l0,l1⟩:=HHl.c2;clear HHl;have HHm:=S2.out.at mE0;obtain ⟨m0,m1,m2,m3,m4⟩:=HHm.c5;clear HHm;have HHn:=S2.out.at mE3;obtain ⟨n0,n1,n2,n3,n4,n5,n6,n7,n8,n9,n10⟩:=HHn.c11;clear HHn;have hR2:w.heap.size+1+1+1 < W2.heap.size:=(S2.out.k _ mE4).lt (by simp);have hw2:w.heap.size≤W2.heap.size:=S2.out.b.size;go_wp2_with fail
 refine (HGO.out W2 S2.out.b).mono ?_;rintro e W3 ⟨⟨a9,b9,c9,d9,rfl,hown⟩,r3⟩;unfold boC;have S4:Hid (Bxs w ((W3.heap.size,[.slice a9 nv.bib.binds.length c9,.slice b9 nv.bib.sess.length d9,iV nv.bind.proto,.string nv.bind.inn,iV nv.bind.inPort,.string nv.bind.out,iV nv.bind.outPort,iV nv.code])::[(Fb,(FlV fl)),(w.heap.size,(PlV pa pc p)),(w.heap.size+1,(BbV ba ca bo cb x)),(w.heap.size+1+1,(P4R tos id whole more off ttl proto src dst opts data)),(w.heap.size+1+1+1,[.slice none 0 0,.slice none 0 0,iV 0,iV 0,.bool false,.bool false,iV 0,iV 0,iV 0,.string ⟨#[]⟩,.string ⟨#[]⟩,.string ⟨#[]⟩,.string ⟨#[]⟩,iV 0,iV 0,iV 0,iV 0,.string ⟨#[]⟩,.string ⟨#[]⟩,.bool false,.bool false,iV 0,iV 0,.string ⟨#[]⟩,iV 0])]) (W3.alloc (.cells #[.slice a9 nv.bib.binds.length c9,.slice b9 nv.bib.sess.length d9,iV nv.bind.proto,.string nv.bind.inn,iV nv.bind.inPort,.string nv.bind.out,iV nv.bind.outPort,iV nv.code] 96))):=(S2.out.kept r3).push [.slice a9 nv.bib.binds.length c9,.slice b9 nv.bib.sess.length d9,iV nv.bind.proto,.string nv.bind.inn,iV nv.bind.inPort,.string nv.bind.out,iV nv.bind.outPort,iV nv.code] (by simp) _;have O4:Hid (BbOwn W2.heap.size (W3.alloc (.cells #[.slice a9 nv.bib.binds.length c9,.slice b9 nv.bib.sess.length d9,iV nv.bind.proto,.string nv.bind.inn,iV nv.bind.inPort,.string nv.bind.out,iV nv.bind.outPort,iV nv.code] 96)) a9 b9 nv.bib):=hown.kept ((Below.refl _ _).alloc (Nat.le_refl _) _);have hx4:W2.heap.size≤W3.heap.size:=r3.size;clear r3 hown S2 HGO k0 k1 k2 k3 k4 k5 k6 k7 k8 k9 l0 l1 m0 m1 m2 m3 m4 n0 n1 n2 n3 n4 n5 n6 n7 n8 n9 n10;go_upto_region 7 with fail
 generalize (W3.alloc (.cells #[.slice a9 nv.bib.binds.length c9,.slice b9 nv.bib.sess.length d9,iV nv.bind.proto,.string nv.bind.inn,iV nv.bind.inPort,.string nv.bind.out,iV nv.bind.outPort,iV nv.code] 96))=W4 at *;generalize W3.heap.size=Xb at *;have HHk:=S4.out.at mE0;obtain ⟨k0,k1,k2,k3,k4,k5,k6,k7⟩:=HHk.c8;clear HHk;by_cases hn:nv.code=0
 case neg =>
  have d0:(nv.code != 0)=true:=by simp [hn]
  have HX:Hid (ans=noE nv.code):=by unfold Hid; rw [HV.out,if_pos hn]
  go_wp2_with fail
  refine (HIL.out nv.code _).mono ?_;rintro e W5 ⟨rfl,r5⟩;have S5:Hid _:=S4.out.kept r5;clear r5;have HTH:Hid (W5.there (w.heap.size+1+1+1) 0 (noL none none 0 0 (noE nv.code)).toArray.size):=noL_there (show HoldsL W5 (w.heap.size+1+1+1) (noL none none 0 0 (noE 0)) from S5.out.k _ mE5) _ _ _ _ _;have HRR:Hid (HoldsL (W5.setCells (w.heap.size+1+1+1) 0 (noL none none 0 0 (noE nv.code)).toArray.toList) (w.heap.size+1+1+1) (noL none none 0 0 (noE nv.code))):=(show HoldsL W5 (w.heap.size+1+1+1) (noL none none 0 0 (noE 0)) from S5.out.k _ mE5).mid rfl;have RB:Hid (Below w.heap.size w (W5.setCells (w.heap.size+1+1+1) 0 (noL none none 0 0 (noE nv.code)).toArray.toList)):=Below.mid S5.out.b hRw _;unfold noC;go_wp2_with (refine wpList_store_mid (by rfl) 44 (.tmp 8) (.tmp 48) (by rfl) (w.heap.size+1+1+1) 0 (noL none none 0 0 (noE nv.code)).toArray (by rfl) (by rfl) HTH.out no_info (noL_one _ _ _ _ _) ?_)
  exact bodyPost_ret (results_mid Tryz.results46 _ _ (w.heap.size+1+1+1) (noL none none 0 0 (noE nv.code)) _ rfl HRR.out Tryz.underlying44 rfl no_info) rfl (And.intro (by rw [HX.out]; exact noRet_ill _) RB.out)
 have d0:(nv.code != 0)=false:=by simp [hn]
 rw [if_neg (by simp [hn])] at HV;replace HFM:Hid _:=HFM.out hn;replace HST:Hid _:=HST.out hn;have hiz:=HIZ.out hn;clear hn HIZ;go_upto_region 9 with fail
 clear d0;by_cases h4:nv.bind.inn.size=4
 case neg =>
  have d4:((nv.bind.inn.size:Int) != 4)=true:=by simp; omega
  have HX:Hid (ans=noE 11):=by unfold Hid; rw [HV.out,if_pos h4]
  go_wp2_with fail
  refine (HIL.out 11 _).mono ?_;rintro e W7 ⟨rfl,r7⟩;have S7:Hid _:=S4.out.kept r7;clear r7;have HTH:Hid (W7.there (w.heap.size+1+1+1) 0 (noL none none 0 0 (noE 11)).toArray.size):=noL_there (show HoldsL W7 (w.heap.size+1+1+1) (noL none none 0 0 (noE 0)) from S7.out.k _ mE5) _ _ _ _ _;have HRR:Hid (HoldsL (W7.setCells (w.heap.size+1+1+1) 0 (noL none none 0 0 (noE 11)).toArray.toList) (w.heap.size+1+1+1) (noL none none 0 0 (noE 11))):=(show HoldsL W7 (w.heap.size+1+1+1) (noL none none 0 0 (noE 0)) from S7.out.k _ mE5).mid rfl;have RB:Hid (Below w.heap.size w (W7.setCells (w.heap.size+1+1+1) 0 (noL none none 0 0 (noE 11)).toArray.toList)):=Below.mid S7.out.b hRw _;unfold noC;go_wp2_with (refine wpList_store_mid (by rfl) 44 (.tmp 8) (.tmp 54) (by rfl) (w.heap.size+1+1+1) 0 (noL none none 0 0 (noE 11)).toArray (by rfl) (by rfl) HTH.out no_info (noL_one _ _ _ _ _) ?_)
  exact bodyPost_ret (results_mid Tryz.results46 _ _ (w.heap.size+1+1+1) (noL none none 0 0 (noE 11)) _ rfl HRR.out Tryz.underlying44 rfl no_info) rfl (And.intro (by rw [HX.out]; exact noRet_ill _) RB.out)
 have d4:((nv.bind.inn.size:Int) != 4)=false:=by simp; omega
 rw [if_neg (by simp [h4])] at HV;replace HST:Hid _:=HST.out h4;clear h4 hiz HIL;go_upto_region 11 with fail
 clear d4 k0 k1 k2 k3 k4 k5 k6 k7;go_cut [12] (fun v wx=>∃ g8,v=.pointer (some ⟨g8,0,none⟩)∧HoldsL wx g8 [.string sd,iV 0]∧Bxs w [(Xb,[.slice a9 nv.bib.binds.length c9,.slice b9 nv.bib.sess.length d9,iV nv.bind.proto,.string nv.bind.inn,iV nv.bind.inPort,.string nv.bind.out,iV nv.bind.outPort,iV nv.code]),(Fb,(FlV fl)),(w.heap.size,(PlV pa pc p)),(w.heap.size+1,(BbV ba ca bo cb x)),(w.heap.size+1+1,(P4R tos id whole more off ttl proto src dst opts data)),(w.heap.size+1+1+1,[.slice none 0 0,.slice none 0 0,iV 0,iV 0,.bool false,.bool false,iV 0,iV 0,iV 0,.string ⟨#[]⟩,.string ⟨#[]⟩,.string ⟨#[]⟩,.string ⟨#[]⟩,iV 0,iV 0,iV 0,iV 0,.string ⟨#[]⟩,.string ⟨#[]⟩,.bool false,.bool false,iV 0,iV 0,.string ⟨#[]⟩,iV 0])] wx∧BbOwn W2.heap.size wx a9 b9 nv.bib)
 case first =>
  rename_i J K2 hJ hK2;have HCP:Hid (∀ wy,Below W4.drew.heap.size W4.drew wy→_):=fun wy hy=>S4.out.kept ((Below.refl _ _).drew.trans hy)
  have HOP:Hid (∀ wy,Below W4.drew.heap.size W4.drew wy→BbOwn W2.heap.size wy a9 b9 nv.bib):=fun wy hy=>O4.out.kept ((Below.refl _ _).drew.trans hy)
  have HLT:Hid (∀ e∈([(Xb,[.slice a9 nv.bib.binds.length c9,.slice b9 nv.bib.sess.length d9,iV nv.bind.proto,.string nv.bind.inn,iV nv.bind.inPort,.string nv.bind.out,iV nv.bind.outPort,iV nv.code]),(Fb,(FlV fl)),(w.heap.size,(PlV pa pc p)),(w.heap.size+1,(BbV ba ca bo cb x)),(w.heap.size+1+1,(P4R tos id whole more off ttl proto src dst opts data)),(w.heap.size+1+1+1,[.slice none 0 0,.slice none 0 0,iV 0,iV 0,.bool false,.bool false,iV 0,iV 0,iV 0,.string ⟨#[]⟩,.string ⟨#[]⟩,.string ⟨#[]⟩,.string ⟨#[]⟩,iV 0,iV 0,iV 0,iV 0,.string ⟨#[]⟩,.string ⟨#[]⟩,.bool false,.bool false,iV 0,iV 0,.string ⟨#[]⟩,iV 0])]:List (Nat × List Value)),e.1 < W4.drew.heap.size):=fun e he=>(S4.out.lts e he).1
  have hww:w.heap.size≤W4.drew.heap.size:=S4.out.b.size;clear S4 O4 HV;refine wp_region_growV [55,56,57,58,59,60,61,62,63,64,65,66,67,68,12] (by kernel_rfl) (by kernel_rfl) ?_;apply GChV.v0
  ·rfl
  ·intro K' a wy ho hd hb hK kz;have o9:=ho 9 (by decide);simp [slot] at o9;clear hd ho;have hst:=HCP.out wy hb;have HHk:=hst.at mE1;obtain ⟨k0,k1,k2,k3,k4⟩:=HHk.c5;clear HHk;have HHl:=hst.at mE0;obtain ⟨l0,l1,l2,l3,l4,l5,l6,l7⟩:=HHl.c8;clear HHl;have HHm:=hst.at mE4;obtain ⟨-,-,-,-,-,-,-,m7,-,-,m10⟩:=HHm.c11;clear HHm;clear hst;go_simp;try go_bits
   exact kz _ rfl
  apply GChV.v1
  ·rfl
  ·intro K' a wy ho hd hb hK kz;have o9:=ho 9 (by decide);simp [slot] at o9;clear hd ho;have hst:=HCP.out wy hb;have HHk:=hst.at mE1;obtain ⟨k0,k1,k2,k3,k4⟩:=HHk.c5;clear HHk;have HHl:=hst.at mE0;obtain ⟨l0,l1,l2,l3,l4,l5,l6,l7⟩:=HHl.c8;clear HHl;have HHm:=hst.at mE4;obtain ⟨-,-,-,-,-,-,-,m7,-,-,m10⟩:=HHm.c11;clear HHm;clear hst;go_simp;try go_bits
   exact kz _ rfl
  apply GChV.v2
  ·rfl
  ·intro K' a wy ho hd hb hK kz;have o6:=ho 6 (by decide);simp [slot] at o6;clear hd ho;go_simp;try go_bits
   exact kz _ rfl
  apply GChV.v3
  ·rfl
  ·intro K' a wy ho hd hb hK kz;have q2:=hd ⟨2,.data⟩ (by simp) rfl;simp [rAt,IsV,slot] at q2;clear hd ho;have hst:=HCP.out wy hb;have HHk:=hst.at mE1;obtain ⟨k0,k1,k2,k3,k4⟩:=HHk.c5;clear HHk;have HHl:=hst.at mE0;obtain ⟨l0,l1,l2,l3,l4,l5,l6,l7⟩:=HHl.c8;clear HHl;have HHm:=hst.at mE4;obtain ⟨-,-,-,-,-,-,-,m7,-,-,m10⟩:=HHm.c11;clear HHm;clear hst;go_simp;try go_bits
   exact kz _ rfl
  apply GChV.v4
  ·rfl
  ·intro K' a wy ho hd hb hK kz;have o11:=ho 11 (by decide);simp [slot] at o11;clear hd ho;go_simp;try go_bits
   exact kz _ rfl
  apply GChV.v5
  ·rfl
  ·intro K' a wy ho hd hb hK kz;have q4:=hd ⟨4,.data⟩ (by simp) rfl;simp [rAt,IsV,slot] at q4;clear hd ho;go_simp;try go_bits
   exact kz _ rfl
  apply GChV.v6
  ·rfl
  ·intro K' a wy ho hd hb hK kz;have q5:=hd ⟨5,.data⟩ (by simp) rfl;simp [rAt,IsV,slot] at q5;clear hd ho;have hst:=HCP.out wy hb;have HHk:=hst.at mE1;obtain ⟨k0,k1,k2,k3,k4⟩:=HHk.c5;clear HHk;have HHl:=hst.at mE0;obtain ⟨l0,l1,l2,l3,l4,l5,l6,l7⟩:=HHl.c8;clear HHl;have HHm:=hst.at mE4;obtain ⟨-,-,-,-,-,-,-,m7,-,-,m10⟩:=HHm.c11;clear HHm;clear hst;go_simp;try go_bits
   exact kz _ rfl
  apply GChV.v7
  ·rfl
  ·intro K' a wy ho hd hb hK kz;have o11:=ho 11 (by decide);simp [slot] at o11;clear hd ho;go_simp;try go_bits
   exact kz _ rfl
  apply GChV.v8
  ·rfl
  ·intro K' a wy ho hd hb hK kz;have q7:=hd ⟨7,.data⟩ (by simp) rfl;simp [rAt,IsV,slot] at q7;clear hd ho;go_simp;try go_bits
   exact kz _ rfl
  apply GChV.v9
  ·rfl
  ·intro K' a wy ho hd hb hK kz;have q8:=hd ⟨8,.data⟩ (by simp) rfl;simp [rAt,IsV,slot] at q8;clear hd ho;have hst:=HCP.out wy hb;have HHk:=hst.at mE1;obtain ⟨k0,k1,k2,k3,k4⟩:=HHk.c5;clear HHk;have HHl:=hst.at mE0;obtain ⟨l0,l1,l2,l3,l4,l5,l6,l7⟩:=HHl.c8;clear HHl;have HHm:=hst.at mE4;obtain ⟨-,-,-,-,-,-,-,m7,-,-,m10⟩:=HHm.c11;clear HHm;clear hst;go_simp;try go_bits
   exact kz _ rfl
  apply GChV.v10
  ·rfl
  ·intro K' a wy ho hd hb hK kz;have q1:=hd ⟨1,.data⟩ (by simp) rfl;have q3:=hd ⟨3,.data⟩ (by simp) rfl;have q6:=hd ⟨6,.data⟩ (by simp) rfl;have q9:=hd ⟨9,.data⟩ (by simp) rfl;simp [rAt,IsV,slot] at q1 q3 q6 q9;clear hd ho;go_simp;refine (HFM.out wy).mono ?_;rintro e wz ⟨rfl,hz⟩;exact hK _ _ rfl hz
  apply GChV.v11
  ·rfl
  ·intro K' a wy ho hd hb hK kz;have o6:=ho 6 (by decide);simp [slot] at o6;clear hd ho;go_simp;try go_bits
   exact kz _ rfl
  apply GChV.v12
  ·rfl
  ·intro K' a wy ho hd hb hK kz;have q11:=hd ⟨11,.data⟩ (by simp) rfl;simp [rAt,IsV,slot] at q11;clear hd ho;have hst:=HCP.out wy hb;have HHk:=hst.at mE1;obtain ⟨k0,k1,k2,k3,k4⟩:=HHk.c5;clear HHk;have HHl:=hst.at mE0;obtain ⟨l0,l1,l2,l3,l4,l5,l6,l7⟩:=HHl.c8;clear HHl;have HHm:=hst.at mE4;obtain ⟨-,-,-,-,-,-,-,m7,-,-,m10⟩:=HHm.c11;clear HHm;clear hst;go_simp;try go_bits
   exact kz _ rfl
  apply GChV.v13
  ·rfl
  ·intro K' a wy ho hd hb hK kz;have q0:=hd ⟨0,.data⟩ (by simp) rfl;have q10:=hd ⟨10,.data⟩ (by simp) rfl;have q12:=hd ⟨12,.data⟩ (by simp) rfl;simp [rAt,IsV,slot] at q0 q10 q12;clear hd ho;go_simp;refine (HST.out wy).mono ?_;rintro e wz ⟨rfl,hz⟩;exact hK _ _ rfl hz
  refine GChV.rel (n:=14) (IsZy W4.drew.heap.size [.string ⟨#[]⟩,iV 0]) (stable_isZy _ _ (by simp)) [_,_,_,_,_,_,_,_,_,_,_,_,_,_,IsZy W4.drew.heap.size [.string ⟨#[]⟩,iV 0]] rfl rfl ?_ ?_
  ·intro K' a wy ho hd hb hK;rw [wN rfl];clear hd ho;go_simp;exact hK _ _ ⟨wy.heap.size,rfl,hb.size,HoldsL.new wy [.string ⟨#[]⟩,iV 0] 99⟩ ((Below.refl _ _).alloc (Nat.le_refl _) _)
  intro X wz hR hz;obtain ⟨x0,x1,x2,x3,x4,x5,x6,x7,x8,x9,x10,x11,x12,x13,x14,-⟩:=hR;obtain ⟨g8,e8,b8,y8⟩:=x14;simp only [IsV] at x0 x1 x2 x3 x4 x5 x6 x7 x8 x9 x10 x11 x12 x13;simp only [putsFrom,x0,x1,x2,x3,x4,x5,x6,x7,x8,x9,x10,x11,x12,x13,e8];clear x0 x1 x2 x3 x4 x5 x6 x7 x8 x9 x10 x11 x12 x13;have HF1:Hid (HoldsL (stor g8 wz 0 [.string sd,iV 0]) g8 [.string sd,iV 0]):=y8.stor [.string sd,iV 0] rfl;have HF2:Hid (Bxs w [(Xb,[.slice a9 nv.bib.binds.length c9,.slice b9 nv.bib.sess.length d9,iV nv.bind.proto,.string nv.bind.inn,iV nv.bind.inPort,.string nv.bind.out,iV nv.bind.outPort,iV nv.code]),(Fb,(FlV fl)),(w.heap.size,(PlV pa pc p)),(w.heap.size+1,(BbV ba ca bo cb x)),(w.heap.size+1+1,(P4R tos id whole more off ttl proto src dst opts data)),(w.heap.size+1+1+1,[.slice none 0 0,.slice none 0 0,iV 0,iV 0,.bool false,.bool false,iV 0,iV 0,iV 0,.string ⟨#[]⟩,.string ⟨#[]⟩,.string ⟨#[]⟩,.string ⟨#[]⟩,iV 0,iV 0,iV 0,iV 0,.string ⟨#[]⟩,.string ⟨#[]⟩,.bool false,.bool false,iV 0,iV 0,.string ⟨#[]⟩,iV 0])] (stor g8 wz 0 [.string sd,iV 0])):=(HCP.out wz hz).stor (by omega) (fun e he=>by have:=HLT.out e he; omega) _;have HF3:Hid (BbOwn W2.heap.size (stor g8 wz 0 [.string sd,iV 0]) a9 b9 nv.bib):=HOP.out _ (Below.stor b8 _ hz);obtain ⟨y0,y1⟩:=y8.c2;obtain ⟨yf0,yf1⟩:=y8.f2;simp only [stor,Nat.reduceAdd] at HF1 HF2 HF3;clear hz HCP HOP HLT y8;intro K10 hK10;go_simp;refine hK10 _ _ ?_;show Exit.then _ _ _ _ _;refine hK2 _ _ (hJ _ _ ?_);(repeat apply Exists.intro)
  exact ⟨⟨g8,rfl,HF1.out,HF2.out,HF3.out⟩,rfl⟩
 case rest =>
 obtain ⟨g8,rfl,hD,hS,hO⟩:=hcut;have D5:Hid _:=hD;have S5:Hid (Bxs w [(Xb,[.slice a9 nv.bib.binds.length c9,.slice b9 nv.bib.sess.length d9,iV nv.bind.proto,.string nv.bind.inn,iV nv.bind.inPort,.string nv.bind.out,iV nv.bind.outPort,iV nv.code]),(Fb,(FlV fl)),(w.heap.size,(PlV pa pc p)),(w.heap.size+1,(BbV ba ca bo cb x)),(w.heap.size+1+1,(P4R tos id whole more off ttl proto src dst opts data)),(w.heap.size+1+1+1,[.slice none 0 0,.slice none 0 0,iV 0,iV 0,.bool false,.bool false,iV 0,iV 0,iV 0,.string ⟨#[]⟩,.string ⟨#[]⟩,.string ⟨#[]⟩,.string ⟨#[]⟩,iV 0,iV 0,iV 0,iV 0,.string ⟨#[]⟩,.string ⟨#[]⟩,.bool false,.bool false,iV 0,iV 0,.string ⟨#[]⟩,iV 0])] wc):=hS;have O5:Hid _:=hO;have hg8:g8 < wc.heap.size:=hD.lt (by simp);clear hD hS hO S4 O4 HFM HST;generalize wc=W5 at *;have HHk:=S5.out.at mE0;obtain ⟨k0,k1,k2,k3,k4,k5,k6,k7⟩:=HHk.c8;clear HHk;have HHn:=S5.out.at mE4;obtain ⟨n0,n1,n2,n3,n4,n5,n6,n7,n8,n9,n10⟩:=HHn.c11;obtain ⟨-,-,-,-,-,-,-,-,nf8,-,nf10⟩:=HHn.f11;have dd0:=D5.out.cell (j:=0) rfl;have hxq:Xb≠w.heap.size+1+1:=by omega
 have S6:Hid (Bxs w [(w.heap.size+1+1,(P4R tos id whole more off ttl proto src nv.bind.inn opts sd)),(Xb,[.slice a9 nv.bib.binds.length c9,.slice b9 nv.bib.sess.length d9,iV nv.bind.proto,.string nv.bind.inn,iV nv.bind.inPort,.string nv.bind.out,iV nv.bind.outPort,iV nv.code]),(w.heap.size+1+1+1,[.slice none 0 0,.slice none 0 0,iV 0,iV 0,.bool false,.bool false,iV 0,iV 0,iV 0,.string ⟨#[]⟩,.string ⟨#[]⟩,.string ⟨#[]⟩,.string ⟨#[]⟩,iV 0,iV 0,iV 0,iV 0,.string ⟨#[]⟩,.string ⟨#[]⟩,.bool false,.bool false,iV 0,iV 0,.string ⟨#[]⟩,iV 0])] ((sW W5 (w.heap.size+1+1) 8 (.string nv.bind.inn)).setCell ⟨w.heap.size+1+1,10,none⟩ (.string sd))):=⟨fun e he=>by
  simp only [List.mem_cons,List.not_mem_nil,or_false] at he;rcases he with rfl | rfl | rfl
  ·exact (HHn.set 8 (.string nv.bind.inn)).set 10 (.string sd)
  ·exact HoldsL.setOther (HoldsL.setOther (S5.out.k _ mE0) hxq _) hxq _
  ·exact HoldsL.setOther (HoldsL.setOther (S5.out.k _ mE5) (by show w.heap.size+1+1+1≠w.heap.size+1+1; omega) _) (by show w.heap.size+1+1+1≠w.heap.size+1+1; omega) _,(S5.out.b.setCell (p:=⟨w.heap.size+1+1,8,none⟩) (by show w.heap.size≤w.heap.size+1+1; omega) _).setCell (p:=⟨w.heap.size+1+1,10,none⟩) (by show w.heap.size≤w.heap.size+1+1; omega) _,fun e he=>by
  simp only [List.mem_cons,List.not_mem_nil,or_false] at he;rcases he with rfl | rfl | rfl<;>simp⟩
 have O6:Hid (BbOwn W2.heap.size ((sW W5 (w.heap.size+1+1) 8 (.string nv.bind.inn)).setCell ⟨w.heap.size+1+1,10,none⟩ (.string sd)) a9 b9 nv.bib):=⟨O5.out.bd.grown (grown_set (grown_set (World.grownBy.refl _ _) _) _) (by omega),O5.out.ss.grown (grown_set (grown_set (World.grownBy.refl _ _) _) _) (by omega),O5.out.ne⟩;clear HHn;go_upto_region 14 with fail
 generalize ((sW W5 (w.heap.size+1+1) 8 (.string nv.bind.inn)).setCell ⟨w.heap.size+1+1,10,none⟩ (.string sd))=W6 at *;clear S5 O5 D5 dd0 nf8 nf10 hg8 k0 k1 k2 k3 k4 k5 k6 k7 n0 n1 n2 n3 n4 n5 n6 n7 n8 n9 n10;have HHn:=S6.out.at mE0;obtain ⟨n0,n1,n2,n3,n4,n5,n6,n7,n8,n9,n10⟩:=HHn.c11;clear HHn;have HHk:=S6.out.at mE1;obtain ⟨k0,k1,k2,k3,k4,k5,k6,k7⟩:=HHk.c8;clear HHk;have HTH:Hid (W6.there (w.heap.size+1+1+1) 0 (noL a9 b9 c9 d9 ⟨nv.bib,⟨tos,id,whole,more,off,ttl,proto,src,nv.bind.inn,opts,sd⟩,p6Zero,0⟩).toArray.size):=noL_there (show HoldsL W6 (w.heap.size+1+1+1) (noL none none 0 0 (noE 0)) from S6.out.k _ mE2) _ _ _ _ _;have HRR:Hid (HoldsL (W6.setCells (w.heap.size+1+1+1) 0 (noL a9 b9 c9 d9 ⟨nv.bib,⟨tos,id,whole,more,off,ttl,proto,src,nv.bind.inn,opts,sd⟩,p6Zero,0⟩).toArray.toList) (w.heap.size+1+1+1) (noL a9 b9 c9 d9 ⟨nv.bib,⟨tos,id,whole,more,off,ttl,proto,src,nv.bind.inn,opts,sd⟩,p6Zero,0⟩)):=(show HoldsL W6 (w.heap.size+1+1+1) (noL none none 0 0 (noE 0)) from S6.out.k _ mE2).mid rfl;have RB:Hid (Below w.heap.size w (W6.setCells (w.heap.size+1+1+1) 0 (noL a9 b9 c9 d9 ⟨nv.bib,⟨tos,id,whole,more,off,ttl,proto,src,nv.bind.inn,opts,sd⟩,p6Zero,0⟩).toArray.toList)):=Below.mid S6.out.b hRw _;have HOW:Hid (BbOwn w.heap.size (W6.setCells (w.heap.size+1+1+1) 0 (noL a9 b9 c9 d9 ⟨nv.bib,⟨tos,id,whole,more,off,ttl,proto,src,nv.bind.inn,opts,sd⟩,p6Zero,0⟩).toArray.toList) a9 b9 nv.bib):=(BbOwn.mid O6.out hR2 _).lowN hw2;clear O6 S6;go_wp2_with (refine wpList_store_mid (by rfl) 44 (.tmp 8) (.tmp 79) (by rfl) (w.heap.size+1+1+1) 0 (noL a9 b9 c9 d9 ⟨nv.bib,⟨tos,id,whole,more,off,ttl,proto,src,nv.bind.inn,opts,sd⟩,p6Zero,0⟩).toArray (by rfl) (by rfl) HTH.out no_info (noL_one _ _ _ _ _) ?_)
 exact bodyPost_ret (results_mid Tryz.results46 _ _ (w.heap.size+1+1+1) (noL a9 b9 c9 d9 ⟨nv.bib,⟨tos,id,whole,more,off,ttl,proto,src,nv.bind.inn,opts,sd⟩,p6Zero,0⟩) _ rfl HRR.out Tryz.underlying44 rfl no_info) rfl (And.intro (by rw [HV.out]; exact ⟨a9,b9,c9,d9,rfl,HOW.out⟩) RB.out)
theorem natFt_zero {p:Pl} {x:Bb} {q:P4} {now:Int} (h:natFt p x q now=0):bibOk p x=true∧v4Ok q=true∧isTime now=true:=by
 unfold natFt at h;by_cases h1:(bibOk p x&&v4Ok q&&isTime now)=false
 ·rw [if_pos h1] at h; simp at h
 ·simpa using h1
theorem specNatCome_any (pa:Option Addr) (pc:Nat) (p:Pl) (ba bo:Option Addr) (ca cb:Nat) (x:Bb) (q:P4) (now:Int) (w:World) (hlp:p.addrs.length≤1048576) (hpc:p.addrs.length≤pc) (hsz:∀ s∈p.addrs,s.size≤1048576) (hl1:x.binds.length≤1048576) (hl2:x.sess.length≤1048576) (q1:q.src.size≤1048576) (q2:q.dst.size≤1048576) (q3:q.opts.size≤1048576) (q4:q.data.size≤1048576) (hp:SlIs strL1 1 w pa p.addrs) (hx:BbIs w ba bo x) :
  Calls Tryz.prog 21 #[plC pa pc p,bbC ba bo ca cb x,p4C q,iV now] w fun e w'=>NoRet w.heap.size (natComeV p x q now) e w'∧Below w.heap.size w w':=by
 have HOK:Hid (∀ W,Below w.heap.size w W→Cb 28 #[plC pa pc p,bbC ba bo ca cb x,p4C q,iV now] W (iV (natFt p x q now))):=fun W hW=>sp9Ok_any pa pc p ba bo ca cb x q now W hlp hpc hsz hl1 hl2 q1 q2 q3 q4 (hp.below hW) (hx.below hW)
 have HIL:Hid (∀ c W,Cb 29 #[iV c] W (noC none none 0 0 (noE c))):=fun c W=>sp9Ill_any c W
 have HIN:Hid (natFt p x q now=0→∀ W,Below w.heap.size w W→Calls Tryz.prog 46 #[plC pa pc p,bbC ba bo ca cb x,p4C q,iV now] W fun e w'=>NoRet W.heap.size (natComeIn p x q now) e w'∧Below W.heap.size W w'):=fun h W hW=>by
  obtain ⟨h1,h2,h3⟩:=natFt_zero h;exact sp9NatCome_any pa pc p ba bo ca cb x q now W h1 h2 h3 hl1 hl2 (hp.below hW) (hx.below hW)
 have HV:Hid (natComeV p x q now=if natFt p x q now≠0 then noE (natFt p x q now) else natComeIn p x q now):=rfl;generalize natComeV p x q now=ans at *;generalize natComeIn p x q now=nv at *;generalize natFt p x q now=ft at *;obtain ⟨tos,id,whole,more,off,ttl,proto,src,dst,opts,data⟩:=q;clear hp hx hsz;unfold plC bbC p4C at *;dsimp only at *;have HS0:=bx4 w (PlV pa pc p) 48 (BbV ba ca bo cb x) 39 (P4R tos id whole more off ttl proto src dst opts data) 40 [.slice none 0 0,.slice none 0 0,iV 0,iV 0,.bool false,.bool false,iV 0,iV 0,iV 0,.string ⟨#[]⟩,.string ⟨#[]⟩,.string ⟨#[]⟩,.string ⟨#[]⟩,iV 0,iV 0,iV 0,iV 0,.string ⟨#[]⟩,.string ⟨#[]⟩,.bool false,.bool false,iV 0,iV 0,.string ⟨#[]⟩,iV 0] 44 (by simp) (by simp) (by simp) (by simp)
 skip;have hRw:w.heap.size≤w.heap.size+1+1+1:=by omega
 go_enter Tryz.func21,Tryz.ntmps21
 go_upto_region 1 with fail
 generalize ((aW (aW (aW w (PlV pa pc p) 48) (BbV ba ca bo cb x) 39) (P4R tos id whole more off ttl proto src dst opts data) 40).alloc (.cells #[.slice none 0 0,.slice none 0 0,iV 0,iV 0,.bool false,.bool false,iV 0,iV 0,iV 0,.string ⟨#[]⟩,.string ⟨#[]⟩,.string ⟨#[]⟩,.string ⟨#[]⟩,iV 0,iV 0,iV 0,iV 0,.string ⟨#[]⟩,.string ⟨#[]⟩,.bool false,.bool false,iV 0,iV 0,.string ⟨#[]⟩,iV 0] 44))=W0 at *;have HHk:=HS0.out.at mE0;obtain ⟨k0,k1,k2,k3,k4,k5,k6,k7,k8,k9⟩:=HHk.c10;clear HHk;have HHl:=HS0.out.at mE1;obtain ⟨l0,l1⟩:=HHl.c2;clear HHl;have HHm:=HS0.out.at mE2;obtain ⟨m0,m1,m2,m3,m4,m5,m6,m7,m8,m9,m10⟩:=HHm.c11;clear HHm;go_wp2_with fail
 refine (HOK.out _ HS0.out.b).mono ?_;rintro e W1 ⟨rfl,r1⟩;have S1:Hid _:=HS0.out.kept r1;clear r1 HS0 HOK k0 k1 k2 k3 k4 k5 k6 k7 k8 k9 l0 l1 m0 m1 m2 m3 m4 m5 m6 m7 m8 m9 m10;by_cases hc:ft=0
 case neg =>
  have d0:(ft != 0)=true:=by simp [hc]
  have HX:Hid (ans=noE ft):=by unfold Hid; rw [HV.out,if_pos hc]
  go_wp2_with fail
  refine (HIL.out ft _).mono ?_;rintro e W3 ⟨rfl,r3⟩;have S3:Hid _:=S1.out.kept r3;clear r3;have HTH:Hid (W3.there (w.heap.size+1+1+1) 0 (noL none none 0 0 (noE ft)).toArray.size):=noL_there (show HoldsL W3 (w.heap.size+1+1+1) (noL none none 0 0 (noE 0)) from S3.out.k _ mE3) _ _ _ _ _;have HRR:Hid (HoldsL (W3.setCells (w.heap.size+1+1+1) 0 (noL none none 0 0 (noE ft)).toArray.toList) (w.heap.size+1+1+1) (noL none none 0 0 (noE ft))):=(show HoldsL W3 (w.heap.size+1+1+1) (noL none none 0 0 (noE 0)) from S3.out.k _ mE3).mid rfl;have RB:Hid (Below w.heap.size w (W3.setCells (w.heap.size+1+1+1) 0 (noL none none 0 0 (noE ft)).toArray.toList)):=Below.mid S3.out.b hRw _;unfold noC;go_wp2_with (refine wpList_store_mid (by rfl) 44 (.tmp 8) (.tmp 18) (by rfl) (w.heap.size+1+1+1) 0 (noL none none 0 0 (noE ft)).toArray (by rfl) (by rfl) HTH.out no_info (noL_one _ _ _ _ _) ?_)
  exact bodyPost_ret (results_mid Tryz.results21 _ _ (w.heap.size+1+1+1) (noL none none 0 0 (noE ft)) _ rfl HRR.out Tryz.underlying44 rfl no_info) rfl (And.intro (by rw [HX.out]; exact noRet_ill _) RB.out)
 have d0:(ft != 0)=false:=by simp [hc]
 rw [if_neg (by simp [hc])] at HV;replace HIN:Hid _:=HIN.out hc;clear hc HIL;go_upto_region 4 with fail
 clear d0;have HHk:=S1.out.at mE0;obtain ⟨k0,k1,k2,k3,k4,k5,k6,k7,k8,k9⟩:=HHk.c10;clear HHk;have HHl:=S1.out.at mE1;obtain ⟨l0,l1⟩:=HHl.c2;clear HHl;have HHm:=S1.out.at mE2;obtain ⟨m0,m1,m2,m3,m4,m5,m6,m7,m8,m9,m10⟩:=HHm.c11;clear HHm;have hR2:w.heap.size+1+1+1 < W1.heap.size:=(S1.out.k _ mE3).lt (by simp);have hw2:w.heap.size≤W1.heap.size:=S1.out.b.size;go_wp2_with fail
 refine (HIN.out _ S1.out.b).mono ?_;rintro e W3 ⟨⟨a9,b9,c9,d9,rfl,hown⟩,r3⟩;have S3:Hid _:=S1.out.kept r3;clear r3 S1 HIN k0 k1 k2 k3 k4 k5 k6 k7 k8 k9 l0 l1 m0 m1 m2 m3 m4 m5 m6 m7 m8 m9 m10;have HTH:Hid (W3.there (w.heap.size+1+1+1) 0 (noL a9 b9 c9 d9 nv).toArray.size):=noL_there (show HoldsL W3 (w.heap.size+1+1+1) (noL none none 0 0 (noE 0)) from S3.out.k _ mE3) _ _ _ _ _;have HRR:Hid (HoldsL (W3.setCells (w.heap.size+1+1+1) 0 (noL a9 b9 c9 d9 nv).toArray.toList) (w.heap.size+1+1+1) (noL a9 b9 c9 d9 nv)):=(show HoldsL W3 (w.heap.size+1+1+1) (noL none none 0 0 (noE 0)) from S3.out.k _ mE3).mid rfl;have RB:Hid (Below w.heap.size w (W3.setCells (w.heap.size+1+1+1) 0 (noL a9 b9 c9 d9 nv).toArray.toList)):=Below.mid S3.out.b hRw _;have HOW:Hid (BbOwn w.heap.size (W3.setCells (w.heap.size+1+1+1) 0 (noL a9 b9 c9 d9 nv).toArray.toList) a9 b9 nv.bib):=(BbOwn.mid hown hR2 _).lowN hw2;clear hown S3;unfold noC;go_wp2_with (refine wpList_store_mid (by rfl) 44 (.tmp 8) (.tmp 23) (by rfl) (w.heap.size+1+1+1) 0 (noL a9 b9 c9 d9 nv).toArray (by rfl) (by rfl) HTH.out no_info (noL_one _ _ _ _ _) ?_)
 exact bodyPost_ret (results_mid Tryz.results21 _ _ (w.heap.size+1+1+1) (noL a9 b9 c9 d9 nv) _ rfl HRR.out Tryz.underlying44 rfl no_info) rfl (And.intro (by rw [HV.out]; exact ⟨a9,b9,c9,d9,rfl,HOW.out⟩) RB.out)
def bkZ:Value:=.agg #[.slice none 0 0,iV 0,iV 0,iV 0,iV 0,iV 0,iV 0,iV 0,iV 0,iV 0,.slice none 0 0,.slice none 0 0,.map none,.map none]
def OpenRet (w:World) (pa:Option Addr) (pc:Nat) (p:Pl) (ba bo:Option Addr) (ca cb:Nat) (x:Bb) (e:Ending) (w':World):Prop:=Below w.heap.size w w'∧((bookOk p x=false∧e=.returned (.tuple #[bkZ,.bool false]))∨(bookOk p x=true∧∃ m1 m2,e=.returned (.tuple #[bkC pa pc p ba bo ca cb x m1 m2,.bool true])∧w.heap.size≤m1∧w.heap.size≤m2∧BookAt w' m1 m2 x.binds x.binds))
structure OpSt (w:World) (pa:Option Addr) (pc:Nat) (p:Pl) (ba bo:Option Addr) (ca cb:Nat) (x:Bb) (m1 m2 Y:Nat) (xs ys:List Bd) (wr:World):Prop where
 bx:HoldsL wr (w.heap.size+1) (BbV ba ca bo cb x)
 r:HoldsL wr (w.heap.size+1+1) [.slice none 0 0,iV 0,iV 0,iV 0,iV 0,iV 0,iV 0,iV 0,iV 0,iV 0,.slice none 0 0,.slice none 0 0,.map none,.map none]
 k:HoldsL wr Y (KkV pa pc p ba ca bo cb x m1 m2)
 bk:BookAt wr m1 m2 xs ys
 b:Below w.heap.size w wr
 l1:w.heap.size+1+1 < m1
 l2:w.heap.size+1+1 < m2
 n1:Y≠m1
 n2:Y≠m2
section
variable {w:World} {pa:Option Addr} {pc:Nat} {p:Pl} {ba bo:Option Addr} {ca cb:Nat} {x:Bb} {m1 m2 Y:Nat} {xs ys:List Bd} {wr W:World}
theorem OpSt.kept (h:OpSt w pa pc p ba bo ca cb x m1 m2 Y xs ys wr) (hb:Below wr.heap.size wr W):OpSt w pa pc p ba bo ca cb x m1 m2 Y xs ys W :=
 ⟨h.bx.kept (by simp) hb,h.r.kept (by simp) hb,h.k.kept (by simp) hb,h.bk.kept hb,h.b.trans (hb.mono h.b.size),h.l1,h.l2,h.n1,h.n2⟩
theorem OpSt.put {xs' ys':List Bd} {m:Nat} (h:OpSt w pa pc p ba bo ca cb x m1 m2 Y xs ys wr) (hm:m=m1∨m=m2) (hg:wr.grownBy W (some m)) (hk:BookAt W m1 m2 xs' ys'):OpSt w pa pc p ba bo ca cb x m1 m2 Y xs' ys' W:=by
 have a1:=h.l1; have a2:=h.l2; have a3:=h.n1; have a4:=h.n2;exact ⟨h.bx.grown (by simp) hg (by simp; omega),h.r.grown (by simp) hg (by simp; omega),h.k.grown (by simp) hg (by simp; omega),hk,below_grown h.b hg (by omega) h.b.size,h.l1,h.l2,h.n1,h.n2⟩
end
theorem findI_self {α:Type} (f:α→Bool) (xs:List α) (i:Nat) (h:i < xs.length) (hf:f xs[i]=true):decide (findI f xs=(i:Int))=!(xs.take i).any f:=by
 cases ha:(xs.take i).any f with
 | false=>rw [findI_at f xs i h ha hf]; simp
 | true =>
  obtain ⟨c,hc,hfc⟩:=List.any_eq_true.1 ha;obtain ⟨k,hk,hki,rfl⟩:=mem_take hc;have:findI f xs≠(i:Int):=by
   intro e;unfold findI at e
   cases hx:xs.findIdx? f with
   | none =>
    have:=List.findIdx?_eq_none_iff.1 hx xs[k] (List.getElem_mem hk);rw [hfc] at this; simp at this
   | some n =>
    rw [hx] at e;obtain ⟨hn,hfn,hlt⟩:=List.findIdx?_eq_some_iff_getElem.1 hx;simp only at e;have hni:n=i:=by omega
    subst hni;exact absurd hfc (by simpa using hlt k hki)
  rw [decide_eq_false this]; rfl
theorem open_any (pa:Option Addr) (pc:Nat) (p:Pl) (ba bo:Option Addr) (ca cb:Nat) (x:Bb) (w:World) (hpl:p.addrs.length≤1048576) (hpc:p.addrs.length≤pc) (hps:∀ s∈p.addrs,s.size≤1048576) (hbl1:x.binds.length≤1048576) (hbl2:x.sess.length≤1048576) (hgb:∀ q∈x.binds,BdGood q) (hgs:∀ s∈x.sess,SsGood s) (hp:SlIs strL1 1 w pa p.addrs) (hx:BbIs w ba bo x) :
  Calls Tryz.prog 105 #[plC pa pc p,bbC ba bo ca cb x] w (OpenRet w pa pc p ba bo ca cb x):=by
 have HZ0:Hid (Below w.heap.size w ((aW (aW w (PlV pa pc p) 48) (BbV ba ca bo cb x) 39).alloc (.cells #[.slice none 0 0,iV 0,iV 0,iV 0,iV 0,iV 0,iV 0,iV 0,iV 0,iV 0,.slice none 0 0,.slice none 0 0,.map none,.map none] 150))):=(((Below.refl _ _).alloc (Nat.le_refl _) _).alloc (by simp) _).alloc (by simp; omega) _;have HP:Hid (HoldsL ((aW (aW w (PlV pa pc p) 48) (BbV ba ca bo cb x) 39).alloc (.cells #[.slice none 0 0,iV 0,iV 0,iV 0,iV 0,iV 0,iV 0,iV 0,iV 0,iV 0,.slice none 0 0,.slice none 0 0,.map none,.map none] 150)) w.heap.size (PlV pa pc p)):=((HoldsL.new w (PlV pa pc p) 48).alloc _).alloc _;have HB:Hid (HoldsL ((aW (aW w (PlV pa pc p) 48) (BbV ba ca bo cb x) 39).alloc (.cells #[.slice none 0 0,iV 0,iV 0,iV 0,iV 0,iV 0,iV 0,iV 0,iV 0,iV 0,.slice none 0 0,.slice none 0 0,.map none,.map none] 150)) (w.heap.size+1) (BbV ba ca bo cb x)):=by
  have h:=(HoldsL.new (w.alloc (.cells (PlV pa pc p).toArray 48)) (BbV ba ca bo cb x) 39).alloc (.cells #[.slice none 0 0,iV 0,iV 0,iV 0,iV 0,iV 0,iV 0,iV 0,iV 0,iV 0,.slice none 0 0,.slice none 0 0,.map none,.map none] 150);rw [World.size_alloc] at h; exact h
 have HR:Hid (HoldsL ((aW (aW w (PlV pa pc p) 48) (BbV ba ca bo cb x) 39).alloc (.cells #[.slice none 0 0,iV 0,iV 0,iV 0,iV 0,iV 0,iV 0,iV 0,iV 0,iV 0,.slice none 0 0,.slice none 0 0,.map none,.map none] 150)) (w.heap.size+1+1) [.slice none 0 0,iV 0,iV 0,iV 0,iV 0,iV 0,iV 0,iV 0,iV 0,iV 0,.slice none 0 0,.slice none 0 0,.map none,.map none]):=by
  have h:=HoldsL.new ((aW w (PlV pa pc p) 48).alloc (.cells (BbV ba ca bo cb x).toArray 39)) [.slice none 0 0,iV 0,iV 0,iV 0,iV 0,iV 0,iV 0,iV 0,iV 0,iV 0,.slice none 0 0,.slice none 0 0,.map none,.map none] 150;rw [World.size_alloc,World.size_alloc] at h; exact h
 have HSP:Hid (SlIs strL1 1 w pa p.addrs):=hp;have HSX:Hid (BbIs w ba bo x):=hx;have HGB:Hid (∀ q∈x.binds,BdGood q):=hgb;have HGS:Hid (∀ s∈x.sess,SsGood s):=hgs;have HPR:Hid (∀ W,Below w.heap.size w W→Cb 135 #[.agg (PlV pa pc p).toArray] W (.bool (poolOk p))):=fun W hW=>implPool_any p pa pc W hpl hpc hps (hp.below hW)
 have HV:Hid (bookOk p x=(poolOk p&&decide ((x.sess.length:Int)≤p.most)&&decide (x.binds.length≤x.sess.length)&&upN (fitB p x) x.binds x.binds.length&&upN (sessB x) x.sess x.sess.length)):=rfl;obtain ⟨ok,hok⟩ : ∃ y,y=bookOk p x:=⟨_,rfl⟩;have HOK:Hid (ok=bookOk p x):=hok;rw [← hok] at HV;clear hok;generalize poolOk p=po at *;have hun:undef=Value.tuple #[]:=rfl;have hRw:w.heap.size≤w.heap.size+1+1:=by omega
 clear hp hx hgb hgs hps;unfold plC bbC;go_enter Tryz.func105,Tryz.ntmps105
 go_upto_region 1 with fail
 generalize ((aW (aW w (PlV pa pc p) 48) (BbV ba ca bo cb x) 39).alloc (.cells #[.slice none 0 0,iV 0,iV 0,iV 0,iV 0,iV 0,iV 0,iV 0,iV 0,iV 0,.slice none 0 0,.slice none 0 0,.map none,.map none] 150))=W0 at *;obtain ⟨k0,k1,k2,k3,k4,k5,k6,k7,k8,k9⟩:=HP.out.c10;go_wp2_with fail
 refine (HPR.out _ HZ0.out).mono ?_;rintro e w1 ⟨rfl,q1⟩;have B1:Hid _:=HZ0.out.trans (q1.mono HZ0.out.size);have P1:Hid _:=HP.out.kept (by simp) q1;have BX1:Hid _:=HB.out.kept (by simp) q1;have R1:Hid _:=HR.out.kept (by simp) q1;clear q1 HP HB HR HZ0 HPR k0 k1 k2 k3 k4 k5 k6 k7 k8 k9;obtain ⟨c0,c1⟩:=BX1.out.c2;obtain ⟨k0,k1,k2,k3,k4,k5,k6,k7,k8,k9⟩:=P1.out.c10
 cases po with
 | false =>
  obtain ⟨z0,z1,z2,z3,z4,z5,z6,z7,z8,z9,z10,z11,z12,z13⟩:=R1.out.c14;obtain ⟨zf0,zf1,zf2,zf3,zf4,zf5,zf6,zf7,zf8,zf9,zf10,zf11,zf12,zf13⟩:=R1.out.f14;have HX:Hid (bookOk p x=false):=by unfold Hid; rw [← HOK.out,HV.out]; rfl
  go_wp2_with fail
  refine bodyPost_ret (v:=.tuple #[.agg #[.slice none 0 0,iV 0,iV 0,iV 0,iV 0,iV 0,iV 0,iV 0,iV 0,iV 0,.slice none 0 0,.slice none 0 0,.map none,.map none],.bool false]) (by simp [results,Tryz.results105,go_sem,z0,z1,z2,z3,z4,z5,z6,z7,z8,z9,z10,z11,z12,z13]) rfl (show OpenRet w pa pc p ba bo ca cb x _ _ from And.intro ?_ (.inl ⟨HX.out,rfl⟩));exact ((((((((((((((B1.out.setCell (p:=⟨w.heap.size+1+1,0,none⟩) hRw _).setCell (p:=⟨w.heap.size+1+1,1,none⟩) hRw _).setCell (p:=⟨w.heap.size+1+1,2,none⟩) hRw _).setCell (p:=⟨w.heap.size+1+1,3,none⟩) hRw _).setCell (p:=⟨w.heap.size+1+1,4,none⟩) hRw _).setCell (p:=⟨w.heap.size+1+1,5,none⟩) hRw _).setCell (p:=⟨w.heap.size+1+1,6,none⟩) hRw _).setCell (p:=⟨w.heap.size+1+1,7,none⟩) hRw _).setCell (p:=⟨w.heap.size+1+1,8,none⟩) hRw _).setCell (p:=⟨w.heap.size+1+1,9,none⟩) hRw _).setCell (p:=⟨w.heap.size+1+1,10,none⟩) hRw _).setCell (p:=⟨w.heap.size+1+1,11,none⟩) hRw _).setCell (p:=⟨w.heap.size+1+1,12,none⟩) hRw _).setCell (p:=⟨w.heap.size+1+1,13,none⟩) hRw _)
 | true =>
 by_cases h1:(x.sess.length:Int)≤p.most
 case neg =>
  have h1':p.most < (x.sess.length:Int):=by omega
  have d1:decide (p.most < (x.sess.length:Int))=true:=decide_eq_true h1';obtain ⟨z0,z1,z2,z3,z4,z5,z6,z7,z8,z9,z10,z11,z12,z13⟩:=R1.out.c14;obtain ⟨zf0,zf1,zf2,zf3,zf4,zf5,zf6,zf7,zf8,zf9,zf10,zf11,zf12,zf13⟩:=R1.out.f14;have HX:Hid (bookOk p x=false):=by unfold Hid; rw [← HOK.out,HV.out]; rw [decide_eq_false h1]; rfl
  go_wp2_with fail
  refine bodyPost_ret (v:=.tuple #[.agg #[.slice none 0 0,iV 0,iV 0,iV 0,iV 0,iV 0,iV 0,iV 0,iV 0,iV 0,.slice none 0 0,.slice none 0 0,.map none,.map none],.bool false]) (by simp [results,Tryz.results105,go_sem,z0,z1,z2,z3,z4,z5,z6,z7,z8,z9,z10,z11,z12,z13]) rfl (show OpenRet w pa pc p ba bo ca cb x _ _ from And.intro ?_ (.inl ⟨HX.out,rfl⟩));exact ((((((((((((((B1.out.setCell (p:=⟨w.heap.size+1+1,0,none⟩) hRw _).setCell (p:=⟨w.heap.size+1+1,1,none⟩) hRw _).setCell (p:=⟨w.heap.size+1+1,2,none⟩) hRw _).setCell (p:=⟨w.heap.size+1+1,3,none⟩) hRw _).setCell (p:=⟨w.heap.size+1+1,4,none⟩) hRw _).setCell (p:=⟨w.heap.size+1+1,5,none⟩) hRw _).setCell (p:=⟨w.heap.size+1+1,6,none⟩) hRw _).setCell (p:=⟨w.heap.size+1+1,7,none⟩) hRw _).setCell (p:=⟨w.heap.size+1+1,8,none⟩) hRw _).setCell (p:=⟨w.heap.size+1+1,9,none⟩) hRw _).setCell (p:=⟨w.heap.size+1+1,10,none⟩) hRw _).setCell (p:=⟨w.heap.size+1+1,11,none⟩) hRw _).setCell (p:=⟨w.heap.size+1+1,12,none⟩) hRw _).setCell (p:=⟨w.heap.size+1+1,13,none⟩) hRw _)
 have h1':¬ p.most < (x.sess.length:Int):=by omega
 have d1:decide (p.most < (x.sess.length:Int))=false:=decide_eq_false h1';by_cases h2:x.binds.length≤x.sess.length
 case neg =>
  have h2':(x.sess.length:Int) < (x.binds.length:Int):=by omega
  have d2:decide ((x.sess.length:Int) < (x.binds.length:Int))=true:=decide_eq_true h2';obtain ⟨z0,z1,z2,z3,z4,z5,z6,z7,z8,z9,z10,z11,z12,z13⟩:=R1.out.c14;obtain ⟨zf0,zf1,zf2,zf3,zf4,zf5,zf6,zf7,zf8,zf9,zf10,zf11,zf12,zf13⟩:=R1.out.f14;have HX:Hid (bookOk p x=false):=by unfold Hid; rw [← HOK.out,HV.out]; rw [decide_eq_false h2]; simp
  go_wp2_with fail
  refine bodyPost_ret (v:=.tuple #[.agg #[.slice none 0 0,iV 0,iV 0,iV 0,iV 0,iV 0,iV 0,iV 0,iV 0,iV 0,.slice none 0 0,.slice none 0 0,.map none,.map none],.bool false]) (by simp [results,Tryz.results105,go_sem,z0,z1,z2,z3,z4,z5,z6,z7,z8,z9,z10,z11,z12,z13]) rfl (show OpenRet w pa pc p ba bo ca cb x _ _ from And.intro ?_ (.inl ⟨HX.out,rfl⟩));exact ((((((((((((((B1.out.setCell (p:=⟨w.heap.size+1+1,0,none⟩) hRw _).setCell (p:=⟨w.heap.size+1+1,1,none⟩) hRw _).setCell (p:=⟨w.heap.size+1+1,2,none⟩) hRw _).setCell (p:=⟨w.heap.size+1+1,3,none⟩) hRw _).setCell (p:=⟨w.heap.size+1+1,4,none⟩) hRw _).setCell (p:=⟨w.heap.size+1+1,5,none⟩) hRw _).setCell (p:=⟨w.heap.size+1+1,6,none⟩) hRw _).setCell (p:=⟨w.heap.size+1+1,7,none⟩) hRw _).setCell (p:=⟨w.heap.size+1+1,8,none⟩) hRw _).setCell (p:=⟨w.heap.size+1+1,9,none⟩) hRw _).setCell (p:=⟨w.heap.size+1+1,10,none⟩) hRw _).setCell (p:=⟨w.heap.size+1+1,11,none⟩) hRw _).setCell (p:=⟨w.heap.size+1+1,12,none⟩) hRw _).setCell (p:=⟨w.heap.size+1+1,13,none⟩) hRw _)
 have h2':¬ (x.sess.length:Int) < (x.binds.length:Int):=by omega
 have d2:decide ((x.sess.length:Int) < (x.binds.length:Int))=false:=decide_eq_false h2';have d3:decide (x.sess.length < x.binds.length)=false:=decide_eq_false (by omega);have HV2:Hid (ok=(upN (fitB p x) x.binds x.binds.length&&upN (sessB x) x.sess x.sess.length)):=by unfold Hid; rw [HV.out,decide_eq_true h1,decide_eq_true h2]; rfl
 clear HV;have HV:Hid _:=HV2;clear HV2;have hmm1:=run_makeMap (P:=Tryz.prog) 148 w1;have hmm2:=run_makeMap (P:=Tryz.prog) 148 (w1.alloc (.map #[] 0));rw [World.size_alloc] at hmm2;go_upto_region 4 with fail
 have hlt1:w.heap.size+1+1 < w1.heap.size:=R1.out.lt (by simp);have HST:Hid (OpSt w pa pc p ba bo ca cb x w1.heap.size (w1.heap.size+1) (w1.heap.size+1+1) [] [] (((w1.alloc (.map #[] 0)).alloc (.map #[] 0)).alloc (.cells (KkV pa pc p ba ca bo cb x w1.heap.size (w1.heap.size+1)).toArray 150))):=by
  have bm:Below w1.heap.size w1 ((w1.alloc (.map #[] 0)).alloc (.map #[] 0)):=((Below.refl _ _).alloc (Nat.le_refl _) _).alloc (by simp) _;have b3:Below w1.heap.size w1 (((w1.alloc (.map #[] 0)).alloc (.map #[] 0)).alloc (.cells (KkV pa pc p ba ca bo cb x w1.heap.size (w1.heap.size+1)).toArray 150)):=bm.alloc bm.size _;have hk:=HoldsL.new ((w1.alloc (.map #[] 0)).alloc (.map #[] 0)) (KkV pa pc p ba ca bo cb x w1.heap.size (w1.heap.size+1)) 150;rw [World.size_alloc,World.size_alloc] at hk;exact ⟨BX1.out.kept (by simp) b3,R1.out.kept (by simp) b3,hk,BookAt.made.kept ((Below.refl _ _).alloc (Nat.le_refl _) _),B1.out.trans (b3.mono B1.out.size),hlt1,by omega,by omega,by omega⟩
 clear c0 c1 d1 d2 d3 h1' h2' P1 R1 BX1 hmm1 hmm2 k0 k1 k2 k3 k4 k5 k6 k7 k8 k9;generalize ((w1.alloc (.map #[] 0)).alloc (.map #[] 0)).alloc (.cells (KkV pa pc p ba ca bo cb x w1.heap.size (w1.heap.size+1)).toArray 150)=W3 at *;have hm1:w.heap.size≤w1.heap.size:=by omega
 have hm2:w.heap.size≤w1.heap.size+1:=by omega
 generalize hY:w1.heap.size+1+1=Y at *;generalize hm2e:w1.heap.size+1=m2 at *;generalize w1.heap.size=m1 at *;clear hY hm2e hlt1 B1;have c0:=HST.out.bx.cell (j:=0) rfl;go_wp2_with fail
 clear c0;go_loopw [43] (fun iv wr=>∃ i:Nat,i≤x.binds.length∧iv=iV i∧upN (fitB p x) x.binds i=true∧OpSt w pa pc p ba bo ca cb x m1 m2 Y (x.binds.take i) (x.binds.take i) wr) (fun iv _=>x.binds.length-(intOf iv).toNat)
 case atStart=>exact ⟨0,Nat.zero_le _,rfl,rfl,HST.out⟩
 case round =>
  obtain ⟨i,hi,rfl,hn,hS⟩:=hrel;have HN:Hid (upN (fitB p x) x.binds i=true):=hn;have HS:Hid (OpSt w pa pc p ba bo ca cb x m1 m2 Y (x.binds.take i) (x.binds.take i) wr):=hS;clear hn hS HST;generalize wr=w4 at *;by_cases hlt:i < x.binds.length
  ·
   obtain ⟨bb,off,rfl,hb,hat⟩:=HSX.out.bd.at hlt;have hA:=(hat.below hb HS.out.b) i hlt;have HST:Hid _:=upN_step (f:=fitB p x) hlt;have HATF:Hid (fitB p x (x.binds.take i) x.binds[i]=false→upN (fitB p x) x.binds x.binds.length=false):=upN_at hlt;have hgd:=HGB.out x.binds[i] (List.getElem_mem hlt);have HTK:Hid (x.binds.take (i+1)=x.binds.take i++[x.binds[i]]):=List.take_succ_eq_append_getElem hlt;obtain ⟨q,hq⟩ : ∃ q,q=x.binds[i]:=⟨_,rfl⟩;rw [← hq] at hA HST HATF HTK hgd;have HGD:Hid (BdGood q):=hgd;have hltI:(i:Int) < (x.binds.length:Int):=by omega
   have c0:w4.cell? ⟨bb,off+i*5,none⟩=some (iV q.proto):=hA 0 _ rfl;have c1:w4.cell? ⟨bb,off+i*5+1,none⟩=some (.string q.inn):=hA 1 _ rfl;have c2:w4.cell? ⟨bb,off+i*5+2,none⟩=some (iV q.inPort):=hA 2 _ rfl;have c3:w4.cell? ⟨bb,off+i*5+3,none⟩=some (.string q.out):=hA 3 _ rfl;have c4:w4.cell? ⟨bb,off+i*5+4,none⟩=some (iV q.outPort):=hA 4 _ rfl;clear hA hat hq hgd;have HFI:Hid (∀ W,OpSt w pa pc p (some ⟨bb,off,none⟩) bo ca cb x m1 m2 Y (x.binds.take i) (x.binds.take i) W→Cb 136 #[.agg (KkV pa pc p (some ⟨bb,off,none⟩) ca bo cb x m1 m2).toArray,.agg (BdV q).toArray] W (.bool (fitB p x (x.binds.take i) q))):=fun W hW=>fits_any pa pc p (some ⟨bb,off,none⟩) bo ca cb x m1 m2 (x.binds.take i) q W hpl hbl1 hbl2 HGD.out hW.bk (HSP.out.below hW.b) (HSX.out.below hW.b)
   go_upto_region 7 with fail
   have bn:Below w4.heap.size w4 (w4.alloc (.cells (BdV q).toArray 94)):=(Below.refl _ _).alloc (Nat.le_refl _) _;have HQ:Hid (HoldsL (w4.alloc (.cells (BdV q).toArray 94)) w4.heap.size (BdV q)):=HoldsL.new w4 (BdV q) 94;have HS5:Hid _:=HS.out.kept bn;generalize (w4.alloc (.cells (BdV q).toArray 94))=W5 at *;have hqm:w4.heap.size≠m1∧w4.heap.size≠m2:=by have:=HS.out.bk.lt; omega
   clear bn HS c0 c1 c2 c3 c4;obtain ⟨k0,k1,k2,k3,k4,k5,k6,k7,k8,k9,k10,k11,k12,k13⟩:=HS5.out.k.c14;obtain ⟨c0,c1,c2,c3,c4⟩:=HQ.out.c5;generalize w4.heap.size=Bq at *;obtain ⟨fb,hfb⟩ : ∃ y,y=fitB p x (x.binds.take i) q:=⟨_,rfl⟩;have HFB:Hid (fb=fitB p x (x.binds.take i) q):=hfb;rw [← hfb] at HFI HST HATF;clear hfb;go_wp2_with fail
   refine (HFI.out _ HS5.out).mono ?_;rintro e w6 ⟨rfl,q6⟩;have HS6:Hid _:=HS5.out.kept q6;have HQ6:Hid _:=HQ.out.kept (by simp) q6;clear q6 HS5 HQ HFI k0 k1 k2 k3 k4 k5 k6 k7 k8 k9 k10 k11 k12 k13 c0 c1 c2 c3 c4
   cases fb with
   | false =>
    have HXF:=HATF.out rfl;obtain ⟨z0,z1,z2,z3,z4,z5,z6,z7,z8,z9,z10,z11,z12,z13⟩:=HS6.out.r.c14;obtain ⟨zf0,zf1,zf2,zf3,zf4,zf5,zf6,zf7,zf8,zf9,zf10,zf11,zf12,zf13⟩:=HS6.out.r.f14;have HX:Hid (bookOk p x=false):=by unfold Hid; rw [← HOK.out,HV.out]; rw [HXF]; rfl
    go_wp2_with fail
    refine bodyPost_ret (v:=.tuple #[.agg #[.slice none 0 0,iV 0,iV 0,iV 0,iV 0,iV 0,iV 0,iV 0,iV 0,iV 0,.slice none 0 0,.slice none 0 0,.map none,.map none],.bool false]) (by simp [results,Tryz.results105,go_sem,z0,z1,z2,z3,z4,z5,z6,z7,z8,z9,z10,z11,z12,z13]) rfl (show OpenRet w pa pc p (some ⟨bb,off,none⟩) bo ca cb x _ _ from And.intro ?_ (.inl ⟨HX.out,rfl⟩));exact ((((((((((((((HS6.out.b.setCell (p:=⟨w.heap.size+1+1,0,none⟩) hRw _).setCell (p:=⟨w.heap.size+1+1,1,none⟩) hRw _).setCell (p:=⟨w.heap.size+1+1,2,none⟩) hRw _).setCell (p:=⟨w.heap.size+1+1,3,none⟩) hRw _).setCell (p:=⟨w.heap.size+1+1,4,none⟩) hRw _).setCell (p:=⟨w.heap.size+1+1,5,none⟩) hRw _).setCell (p:=⟨w.heap.size+1+1,6,none⟩) hRw _).setCell (p:=⟨w.heap.size+1+1,7,none⟩) hRw _).setCell (p:=⟨w.heap.size+1+1,8,none⟩) hRw _).setCell (p:=⟨w.heap.size+1+1,9,none⟩) hRw _).setCell (p:=⟨w.heap.size+1+1,10,none⟩) hRw _).setCell (p:=⟨w.heap.size+1+1,11,none⟩) hRw _).setCell (p:=⟨w.heap.size+1+1,12,none⟩) hRw _).setCell (p:=⟨w.heap.size+1+1,13,none⟩) hRw _)
   | true =>
   have HNN:Hid (upN (fitB p x) x.binds (i+1)=true):=by unfold Hid; rw [HST.out,HN.out]; rfl
   have HNN:Hid (upN (fitB p x) x.binds (i+1)=true):=by unfold Hid; rw [HST.out,HN.out]; rfl
   have HNI:Hid ((x.binds.take i).any (fun c=>sameEn (hostE c) (hostE q))=false∧(x.binds.take i).any (fun c=>sameEn (lentE c) (lentE q))=false):=by
    have h:=HFB.out.symm;unfold fitB at h;simp only [Bool.and_eq_true,Bool.not_eq_true'] at h;rw [show (fun c=>sameEn (hostE c) (hostE q))=ofIn q.proto q.inn q.inPort from funext fun c=>host_in _ _ _ c,show (fun c=>sameEn (lentE c) (lentE q))=ofOut q.proto q.out q.outPort from funext fun c=>lent_out _ _ _ c];exact ⟨h.1.1.1.2,h.1.1.2⟩
   clear HFB HST HATF HN;go_upto_region 9 with fail
   go_cut [52] (fun v wx=>OpSt w pa pc p (some ⟨bb,off,none⟩) bo ca cb x m1 m2 Y (x.binds.take i++[q]) (x.binds.take i) wx∧HoldsL wx Bq (BdV q))
   case first =>
    rename_i J K2 hJ hK2;clear hun;have HCP:Hid (∀ wy,Below w6.drew.heap.size w6.drew wy→OpSt w pa pc p (some ⟨bb,off,none⟩) bo ca cb x m1 m2 Y (x.binds.take i) (x.binds.take i) wy∧HoldsL wy Bq (BdV q)):=fun wy hy=>⟨HS6.out.kept ((Below.refl _ _).drew.trans hy),HQ6.out.drew.kept (by simp) hy⟩
    have HHE:Hid (∀ W,Cb 137 #[.agg (BdV q).toArray] W (.agg (EnV q.proto q.inn q.inPort).toArray)):=fun W=>hostEnd_any q W
    refine wp_region_growV [52,53,54,55,56] (by kernel_rfl) (by kernel_rfl) ?_;apply GChV.v0
    ·rfl
    ·intro K' a wy ho hd hb hK kz;have o6:=ho 6 (by decide);simp [slot] at o6;clear hd ho;go_simp;try go_bits
     exact kz _ rfl
    apply GChV.v1
    ·rfl
    ·intro K' a wy ho hd hb hK kz;have q0:=hd ⟨0,.data⟩ (by simp) rfl;simp [rAt,IsV,slot] at q0;clear hd ho;obtain ⟨hst,hqq⟩:=HCP.out wy hb;obtain ⟨k0,k1,k2,k3,k4,k5,k6,k7,k8,k9,k10,k11,k12,k13⟩:=hst.k.c14;obtain ⟨c0,c1,c2,c3,c4⟩:=hqq.c5;go_simp;try go_bits
     exact kz _ rfl
    apply GChV.v2
    ·rfl
    ·intro K' a wy ho hd hb hK kz;have o8:=ho 8 (by decide);simp [slot] at o8;clear hd ho;obtain ⟨hst,hqq⟩:=HCP.out wy hb;obtain ⟨k0,k1,k2,k3,k4,k5,k6,k7,k8,k9,k10,k11,k12,k13⟩:=hst.k.c14;obtain ⟨c0,c1,c2,c3,c4⟩:=hqq.c5;go_simp;try go_bits
     exact kz _ rfl
    apply GChV.v3
    ·rfl
    ·intro K' a wy ho hd hb hK kz;have q2:=hd ⟨2,.data⟩ (by simp) rfl;simp [rAt,IsV,slot] at q2;clear hd ho;go_simp;refine (HHE.out wy).mono ?_;rintro e wz ⟨rfl,hz⟩;exact hK _ _ rfl hz
    apply GChV.v4
    ·rfl
    ·intro K' a wy ho hd hb hK kz;have o8:=ho 8 (by decide);simp [slot] at o8;clear hd ho;obtain ⟨hst,hqq⟩:=HCP.out wy hb;obtain ⟨k0,k1,k2,k3,k4,k5,k6,k7,k8,k9,k10,k11,k12,k13⟩:=hst.k.c14;obtain ⟨c0,c1,c2,c3,c4⟩:=hqq.c5;go_simp;try go_bits
     exact kz _ rfl
    intro X wz hR hz;obtain ⟨x0,x1,x2,x3,x4,-⟩:=hR;simp only [IsV] at x0 x1 x2 x3 x4;simp only [putsFrom,x0,x1,x2,x3,x4];clear x0 x1 x2 x3 x4;obtain ⟨hst,hqq⟩:=HCP.out wz hz;obtain ⟨W9,hrun,hbk,hgr⟩:=hst.bk.put1 (q:=q) (hostE_in HGD.out) HNI.out.1;unfold enC bdC hostE at hrun;intro K10 hK10;with_reducible refine wp_upd_val _ (.tmp 53) (.tmp 55) (.tmp 56) rfl ?_ ?_ ?_ hrun (hK10 _ _ ?_)
    ·simp [Act.eval,Act.put]
    ·simp [Act.eval,Act.put]
    ·simp [Act.eval,Act.put]
    show Exit.then _ _ _ _ _;refine hK2 _ _ (hJ _ _ ?_);(repeat apply Exists.intro)
    exact ⟨⟨hst.put (.inl rfl) hgr hbk,hqq.grown (by simp) hgr (by simp; omega)⟩,rfl⟩
   case rest =>
   obtain ⟨hsn,hqn⟩:=hcut;generalize wc=W9 at *;have HS6n:Hid (OpSt w pa pc p (some ⟨bb,off,none⟩) bo ca cb x m1 m2 Y (x.binds.take i++[q]) (x.binds.take i) W9):=hsn;have HQ6n:Hid (HoldsL W9 Bq (BdV q)):=hqn;clear hsn hqn HS6 HQ6;go_upto_region 10 with fail
   clear hun;have HCP:Hid (∀ wy,Below W9.drew.heap.size W9.drew wy→OpSt w pa pc p (some ⟨bb,off,none⟩) bo ca cb x m1 m2 Y (x.binds.take i++[q]) (x.binds.take i) wy∧HoldsL wy Bq (BdV q)):=fun wy hy=>⟨HS6n.out.kept ((Below.refl _ _).drew.trans hy),HQ6n.out.drew.kept (by simp) hy⟩
   have HHE:Hid (∀ W,Cb 138 #[.agg (BdV q).toArray] W (.agg (EnV q.proto q.out q.outPort).toArray)):=fun W=>lentEnd_any q W
   refine wp_region_growV [57,58,59,60,61] (by kernel_rfl) (by kernel_rfl) ?_;apply GChV.v0
   ·rfl
   ·intro K' a wy ho hd hb hK kz;have o6:=ho 6 (by decide);simp [slot] at o6;clear hd ho;go_simp;try go_bits
    exact kz _ rfl
   apply GChV.v1
   ·rfl
   ·intro K' a wy ho hd hb hK kz;have q0:=hd ⟨0,.data⟩ (by simp) rfl;simp [rAt,IsV,slot] at q0;clear hd ho;obtain ⟨hst,hqq⟩:=HCP.out wy hb;obtain ⟨k0,k1,k2,k3,k4,k5,k6,k7,k8,k9,k10,k11,k12,k13⟩:=hst.k.c14;obtain ⟨c0,c1,c2,c3,c4⟩:=hqq.c5;go_simp;try go_bits
    exact kz _ rfl
   apply GChV.v2
   ·rfl
   ·intro K' a wy ho hd hb hK kz;have o8:=ho 8 (by decide);simp [slot] at o8;clear hd ho;obtain ⟨hst,hqq⟩:=HCP.out wy hb;obtain ⟨k0,k1,k2,k3,k4,k5,k6,k7,k8,k9,k10,k11,k12,k13⟩:=hst.k.c14;obtain ⟨c0,c1,c2,c3,c4⟩:=hqq.c5;go_simp;try go_bits
    exact kz _ rfl
   apply GChV.v3
   ·rfl
   ·intro K' a wy ho hd hb hK kz;have q2:=hd ⟨2,.data⟩ (by simp) rfl;simp [rAt,IsV,slot] at q2;clear hd ho;go_simp;refine (HHE.out wy).mono ?_;rintro e wz ⟨rfl,hz⟩;exact hK _ _ rfl hz
   apply GChV.v4
   ·rfl
   ·intro K' a wy ho hd hb hK kz;have o8:=ho 8 (by decide);simp [slot] at o8;clear hd ho;obtain ⟨hst,hqq⟩:=HCP.out wy hb;obtain ⟨k0,k1,k2,k3,k4,k5,k6,k7,k8,k9,k10,k11,k12,k13⟩:=hst.k.c14;obtain ⟨c0,c1,c2,c3,c4⟩:=hqq.c5;go_simp;try go_bits
    exact kz _ rfl
   intro X wz hR hz;obtain ⟨x0,x1,x2,x3,x4,-⟩:=hR;simp only [IsV] at x0 x1 x2 x3 x4;simp only [putsFrom,x0,x1,x2,x3,x4];clear x0 x1 x2 x3 x4;obtain ⟨hst,hqq⟩:=HCP.out wz hz;obtain ⟨W9,hrun,hbk,hgr⟩:=hst.bk.put2 (q:=q) (lentE_in HGD.out) HNI.out.2;unfold enC bdC lentE at hrun;intro K10 hK10;with_reducible refine wp_upd_val _ (.tmp 58) (.tmp 60) (.tmp 61) rfl ?_ ?_ ?_ hrun (hK10 _ _ ?_)
   ·simp [Act.eval,Act.put]
   ·simp [Act.eval,Act.put]
   ·simp [Act.eval,Act.put]
   have HSF:Hid (OpSt w pa pc p (some ⟨bb,off,none⟩) bo ca cb x m1 m2 Y (x.binds.take (i+1)) (x.binds.take (i+1)) W9):=by have h:=hst.put (.inr rfl) hgr hbk; rw [← HTK.out] at h; exact h
   clear hst hqq hbk hgr hrun HCP HHE HNI;simp only [wpSeq];go_wp2_with fail
   go_roundw
   case rel =>
    first | exact ⟨i+1,by omega,by go_num,HNN.out,HSF.out⟩ | ((repeat apply Exists.intro); exact ⟨⟨i+1,by omega,by go_num,HNN.out,HSF.out⟩,rfl⟩)
   case measure=>simp [intOf]<;>omega
  ·
   have hie:i=x.binds.length:=by omega
   have HF1:Hid (upN (fitB p x) x.binds x.binds.length=true):=by unfold Hid; have:=HN.out; rw [hie] at this; exact this
   have HSE:Hid (OpSt w pa pc p ba bo ca cb x m1 m2 Y (x.binds) (x.binds) w4):=by unfold Hid; have:=HS.out; rw [hie,List.take_length] at this; exact this
   have HV3:Hid (ok=upN (sessB x) x.sess x.sess.length):=by unfold Hid; rw [HV.out,HF1.out]; rfl
   clear HV HS HN;have HV:Hid _:=HV3;clear HV3 HF1;have hge:¬ (i:Int) < (x.binds.length:Int):=by omega
   clear hie hlt;have c1:=HSE.out.bx.cell (j:=1) rfl;go_wp2_with fail
   clear c1;go_loopw [66] (fun iv wr=>∃ i:Nat,i≤x.sess.length∧iv=iV i∧upN (sessB x) x.sess i=true∧OpSt w pa pc p ba bo ca cb x m1 m2 Y (x.binds) (x.binds) wr) (fun iv _=>x.sess.length-(intOf iv).toNat)
   case atStart=>exact ⟨0,Nat.zero_le _,rfl,rfl,HSE.out⟩
   case round =>
    obtain ⟨k,hk,rfl,hn,hS⟩:=hrel;have HN:Hid (upN (sessB x) x.sess k=true):=hn;have HS:Hid (OpSt w pa pc p ba bo ca cb x m1 m2 Y (x.binds) (x.binds) wr):=hS;clear hn hS HSE hge hi;generalize wr=v4 at *;by_cases hlt:k < x.sess.length
    ·
     obtain ⟨bb,off,rfl,hb,hat⟩:=HSX.out.ss.at hlt;have hA:=(hat.below hb HS.out.b) k hlt;have HST:Hid _:=upN_step (f:=sessB x) hlt;have HATF:Hid (sessB x (x.sess.take k) x.sess[k]=false→upN (sessB x) x.sess x.sess.length=false):=upN_at hlt;have hgd:=HGS.out x.sess[k] (List.getElem_mem hlt);have HFS:Hid (decide (findI (fun q=>sameSk (sessK q) (sessK x.sess[k])) x.sess=(k:Int))=!(x.sess.take k).any (fun t=>sameS x.sess[k] t)):=by
      have h:=findI_self (fun q=>sameSk (sessK q) (sessK x.sess[k])) x.sess k hlt (by rw [sess_same]; unfold sameS; simp);rw [show (fun t=>sameS x.sess[k] t)=(fun q=>sameSk (sessK q) (sessK x.sess[k])) from funext fun q=>(sess_same _ _).symm];exact h
     obtain ⟨s,hs⟩ : ∃ s,s=x.sess[k]:=⟨_,rfl⟩;rw [← hs] at hA HST HATF HFS hgd;have HGD:Hid (SsGood s):=hgd;have hltI:(k:Int) < (x.sess.length:Int):=by omega
     have HOV:Hid (sessB x (x.sess.take k) s=(x.binds.any (ofIn s.proto s.inn s.inPort)&&sessR s&&!((x.sess.take k).any fun t=>sameS s t))):=rfl;have c0:v4.cell? ⟨bb,off+k*7,none⟩=some (iV s.proto):=hA 0 _ rfl;have c1:v4.cell? ⟨bb,off+k*7+1,none⟩=some (.string s.inn):=hA 1 _ rfl;have c2:v4.cell? ⟨bb,off+k*7+2,none⟩=some (iV s.inPort):=hA 2 _ rfl;have c3:v4.cell? ⟨bb,off+k*7+3,none⟩=some (.string s.peer):=hA 3 _ rfl;have c4:v4.cell? ⟨bb,off+k*7+4,none⟩=some (iV s.peerPort):=hA 4 _ rfl;have c5:v4.cell? ⟨bb,off+k*7+5,none⟩=some (iV s.state):=hA 5 _ rfl;have c6:v4.cell? ⟨bb,off+k*7+6,none⟩=some (iV s.untl):=hA 6 _ rfl;clear hA hat hs hgd;go_upto_region 15 with fail
     have bn:Below v4.heap.size v4 (v4.alloc (.cells (SsV s).toArray 103)):=(Below.refl _ _).alloc (Nat.le_refl _) _;have HQ:Hid (HoldsL (v4.alloc (.cells (SsV s).toArray 103)) v4.heap.size (SsV s)):=HoldsL.new v4 (SsV s) 103;have HS5:Hid _:=HS.out.kept bn;generalize (v4.alloc (.cells (SsV s).toArray 103))=V5 at *;clear bn HS c0 c1 c2 c3 c4 c5 c6;generalize v4.heap.size=Bq at *;obtain ⟨c0,c1,c2,c3,c4,c5,c6⟩:=HQ.out.c7;have HKE:Hid (∀ W,Cb 139 #[.agg (SsV s).toArray] W (.agg (BdR s.proto s.inn s.inPort s.peer s.peerPort).toArray)):=fun W=>sessKey_any s W
     go_wp2_with fail
     refine (HKE.out _).mono ?_;rintro e v6 ⟨rfl,q6⟩;have HS6:Hid _:=HS5.out.kept q6;have HQ6:Hid _:=HQ.out.kept (by simp) q6;clear q6 HS5 HQ HKE c0 c1 c2 c3 c4 c5 c6;go_upto_region 16 with fail
     have bn:Below v6.heap.size v6 (v6.alloc (.cells (BdR s.proto s.inn s.inPort s.peer s.peerPort).toArray 160)):=(Below.refl _ _).alloc (Nat.le_refl _) _;have HE:Hid (HoldsL (v6.alloc (.cells (BdR s.proto s.inn s.inPort s.peer s.peerPort).toArray 160)) v6.heap.size (BdR s.proto s.inn s.inPort s.peer s.peerPort)):=HoldsL.new v6 (BdR s.proto s.inn s.inPort s.peer s.peerPort) 160;have HS7:Hid _:=HS6.out.kept bn;have HQ7:Hid _:=HQ6.out.kept (by simp) bn;generalize (v6.alloc (.cells (BdR s.proto s.inn s.inPort s.peer s.peerPort).toArray 160))=V7 at *;clear bn HS6 HQ6;generalize v6.heap.size=Be at *;obtain ⟨c,hc⟩ : ∃ c,c=(x.binds.find? fun q=>sameEn (hostE q) (sessE s)).getD bdZ:=⟨_,rfl⟩;have LK:(Instr.lookup 148 (.map (some m1)) (.agg (EnV s.proto s.inn s.inPort).toArray) true).run Tryz.prog V7=.ok (.tuple #[.agg (BdV c).toArray,.bool (x.binds.any (ofIn s.proto s.inn s.inPort))]) V7:=by
      have h:=HS7.out.bk.look1 (e:=sessE s) (sessE_in HGD.out);rw [find_some_any,← hc,show (fun q=>sameEn (hostE q) (sessE s))=ofIn s.proto s.inn s.inPort from funext fun c=>host_in _ _ _ c] at h;exact h
     clear hc;obtain ⟨k0,k1,k2,k3,k4,k5,k6,k7,k8,k9,k10,k11,k12,k13⟩:=HS7.out.k.c14;obtain ⟨c0,c1,c2,c3,c4⟩:=HE.out.c5;generalize x.binds.any (ofIn s.proto s.inn s.inPort)=t1 at *;go_upto_region 17 with (at_lookup; refine wpList_look_val rfl _ _ _ _ rfl rfl rfl LK ?_)
     have bn:Below V7.heap.size V7 (V7.alloc (.cells (BdV c).toArray 94)):=(Below.refl _ _).alloc (Nat.le_refl _) _;have HS8:Hid _:=HS7.out.kept bn;have HQ8:Hid _:=HQ7.out.kept (by simp) bn;have HE8:Hid _:=HE.out.kept (by simp) bn;generalize V7.alloc (.cells (BdV c).toArray 94)=V8 at *;clear bn HS7 HQ7 HE LK k0 k1 k2 k3 k4 k5 k6 k7 k8 k9 k10 k11 k12 k13 c0 c1 c2 c3 c4;have HSR:Hid (∀ W,Cb 140 #[.agg (SsV s).toArray] W (.bool (sessR s))):=fun W=>sessRight_any s W HGD.out.2.1
     have HAT:Hid (∀ W,Below w.heap.size w W→Cb 108 #[.slice (some ⟨bb,off,none⟩) x.sess.length cb,.agg (BdR s.proto s.inn s.inPort s.peer s.peerPort).toArray] W (iV (findI (fun q=>sameSk (sessK q) (sessK s)) x.sess))):=fun W hW=>sessAt_any (sessK s) x.sess _ cb W hbl2 (HSX.out.ss.below hW)
     obtain ⟨hf1,hf2⟩:=findI_in (fun q=>sameSk (sessK q) (sessK s)) x.sess;generalize findI (fun q=>sameSk (sessK q) (sessK s)) x.sess=fi at *;generalize sessR s=t2 at *;generalize (x.sess.take k).any (fun t=>sameS s t)=t3 at *
     cases t1 with
     | false =>
      have HXF:=HATF.out (by rw [HOV.out]; rfl);obtain ⟨z0,z1,z2,z3,z4,z5,z6,z7,z8,z9,z10,z11,z12,z13⟩:=HS8.out.r.c14;obtain ⟨zf0,zf1,zf2,zf3,zf4,zf5,zf6,zf7,zf8,zf9,zf10,zf11,zf12,zf13⟩:=HS8.out.r.f14;have HX:Hid (bookOk p x=false):=by unfold Hid; rw [← HOK.out,HV.out]; exact HXF
      go_wp2_with fail
      refine bodyPost_ret (v:=.tuple #[.agg #[.slice none 0 0,iV 0,iV 0,iV 0,iV 0,iV 0,iV 0,iV 0,iV 0,iV 0,.slice none 0 0,.slice none 0 0,.map none,.map none],.bool false]) (by simp [results,Tryz.results105,go_sem,z0,z1,z2,z3,z4,z5,z6,z7,z8,z9,z10,z11,z12,z13]) rfl (show OpenRet w pa pc p ba (some ⟨bb,off,none⟩) ca cb x _ _ from And.intro ?_ (.inl ⟨HX.out,rfl⟩));exact ((((((((((((((HS8.out.b.setCell (p:=⟨w.heap.size+1+1,0,none⟩) hRw _).setCell (p:=⟨w.heap.size+1+1,1,none⟩) hRw _).setCell (p:=⟨w.heap.size+1+1,2,none⟩) hRw _).setCell (p:=⟨w.heap.size+1+1,3,none⟩) hRw _).setCell (p:=⟨w.heap.size+1+1,4,none⟩) hRw _).setCell (p:=⟨w.heap.size+1+1,5,none⟩) hRw _).setCell (p:=⟨w.heap.size+1+1,6,none⟩) hRw _).setCell (p:=⟨w.heap.size+1+1,7,none⟩) hRw _).setCell (p:=⟨w.heap.size+1+1,8,none⟩) hRw _).setCell (p:=⟨w.heap.size+1+1,9,none⟩) hRw _).setCell (p:=⟨w.heap.size+1+1,10,none⟩) hRw _).setCell (p:=⟨w.heap.size+1+1,11,none⟩) hRw _).setCell (p:=⟨w.heap.size+1+1,12,none⟩) hRw _).setCell (p:=⟨w.heap.size+1+1,13,none⟩) hRw _)
     | true =>
     obtain ⟨c0,c1,c2,c3,c4,c5,c6⟩:=HQ8.out.c7;go_wp2_with fail
     refine (HSR.out _).mono ?_;rintro e v9 ⟨rfl,q9⟩;have HS9:Hid _:=HS8.out.kept q9;have HE9:Hid _:=HE8.out.kept (by simp) q9;clear q9 HS8 HQ8 HE8 HSR c0 c1 c2 c3 c4 c5 c6
     cases t2 with
     | false =>
      have HXF:=HATF.out (by rw [HOV.out]; rfl);obtain ⟨z0,z1,z2,z3,z4,z5,z6,z7,z8,z9,z10,z11,z12,z13⟩:=HS9.out.r.c14;obtain ⟨zf0,zf1,zf2,zf3,zf4,zf5,zf6,zf7,zf8,zf9,zf10,zf11,zf12,zf13⟩:=HS9.out.r.f14;have HX:Hid (bookOk p x=false):=by unfold Hid; rw [← HOK.out,HV.out]; exact HXF
      go_wp2_with fail
      refine bodyPost_ret (v:=.tuple #[.agg #[.slice none 0 0,iV 0,iV 0,iV 0,iV 0,iV 0,iV 0,iV 0,iV 0,iV 0,.slice none 0 0,.slice none 0 0,.map none,.map none],.bool false]) (by simp [results,Tryz.results105,go_sem,z0,z1,z2,z3,z4,z5,z6,z7,z8,z9,z10,z11,z12,z13]) rfl (show OpenRet w pa pc p ba (some ⟨bb,off,none⟩) ca cb x _ _ from And.intro ?_ (.inl ⟨HX.out,rfl⟩));exact ((((((((((((((HS9.out.b.setCell (p:=⟨w.heap.size+1+1,0,none⟩) hRw _).setCell (p:=⟨w.heap.size+1+1,1,none⟩) hRw _).setCell (p:=⟨w.heap.size+1+1,2,none⟩) hRw _).setCell (p:=⟨w.heap.size+1+1,3,none⟩) hRw _).setCell (p:=⟨w.heap.size+1+1,4,none⟩) hRw _).setCell (p:=⟨w.heap.size+1+1,5,none⟩) hRw _).setCell (p:=⟨w.heap.size+1+1,6,none⟩) hRw _).setCell (p:=⟨w.heap.size+1+1,7,none⟩) hRw _).setCell (p:=⟨w.heap.size+1+1,8,none⟩) hRw _).setCell (p:=⟨w.heap.size+1+1,9,none⟩) hRw _).setCell (p:=⟨w.heap.size+1+1,10,none⟩) hRw _).setCell (p:=⟨w.heap.size+1+1,11,none⟩) hRw _).setCell (p:=⟨w.heap.size+1+1,12,none⟩) hRw _).setCell (p:=⟨w.heap.size+1+1,13,none⟩) hRw _)
     | true =>
     obtain ⟨c0,c1,c2,c3,c4⟩:=HE9.out.c5;have x1:=HS9.out.bx.cell (j:=1) rfl;go_wp2_with fail
     refine (HAT.out _ HS9.out.b).mono ?_;rintro e v10 ⟨rfl,q10⟩;have HS10:Hid _:=HS9.out.kept q10;clear q10 HS9 HE9 HAT x1 c0 c1 c2 c3 c4;by_cases he:fi=(k:Int)
     case neg =>
      have d1:(fi != (k:Int))=true:=by simp [he]
      have HXF:=HATF.out (by rw [HOV.out,← HFS.out,decide_eq_false he]; rfl);clear he;obtain ⟨z0,z1,z2,z3,z4,z5,z6,z7,z8,z9,z10,z11,z12,z13⟩:=HS10.out.r.c14;obtain ⟨zf0,zf1,zf2,zf3,zf4,zf5,zf6,zf7,zf8,zf9,zf10,zf11,zf12,zf13⟩:=HS10.out.r.f14;have HX:Hid (bookOk p x=false):=by unfold Hid; rw [← HOK.out,HV.out]; exact HXF
      go_wp2_with fail
      refine bodyPost_ret (v:=.tuple #[.agg #[.slice none 0 0,iV 0,iV 0,iV 0,iV 0,iV 0,iV 0,iV 0,iV 0,iV 0,.slice none 0 0,.slice none 0 0,.map none,.map none],.bool false]) (by simp [results,Tryz.results105,go_sem,z0,z1,z2,z3,z4,z5,z6,z7,z8,z9,z10,z11,z12,z13]) rfl (show OpenRet w pa pc p ba (some ⟨bb,off,none⟩) ca cb x _ _ from And.intro ?_ (.inl ⟨HX.out,rfl⟩));exact ((((((((((((((HS10.out.b.setCell (p:=⟨w.heap.size+1+1,0,none⟩) hRw _).setCell (p:=⟨w.heap.size+1+1,1,none⟩) hRw _).setCell (p:=⟨w.heap.size+1+1,2,none⟩) hRw _).setCell (p:=⟨w.heap.size+1+1,3,none⟩) hRw _).setCell (p:=⟨w.heap.size+1+1,4,none⟩) hRw _).setCell (p:=⟨w.heap.size+1+1,5,none⟩) hRw _).setCell (p:=⟨w.heap.size+1+1,6,none⟩) hRw _).setCell (p:=⟨w.heap.size+1+1,7,none⟩) hRw _).setCell (p:=⟨w.heap.size+1+1,8,none⟩) hRw _).setCell (p:=⟨w.heap.size+1+1,9,none⟩) hRw _).setCell (p:=⟨w.heap.size+1+1,10,none⟩) hRw _).setCell (p:=⟨w.heap.size+1+1,11,none⟩) hRw _).setCell (p:=⟨w.heap.size+1+1,12,none⟩) hRw _).setCell (p:=⟨w.heap.size+1+1,13,none⟩) hRw _)
     have d1:(fi != (k:Int))=false:=by simp [he]
     have HNN:Hid (upN (sessB x) x.sess (k+1)=true):=by unfold Hid; rw [HST.out,HN.out,HOV.out,← HFS.out,decide_eq_true he]; rfl
     clear he;go_wp2_with fail
     go_roundw
     case rel=>exact ⟨k+1,by omega,by go_num,HNN.out,HS10.out⟩
     case measure=>simp [intOf]; omega
    ·
     have hie:k=x.sess.length:=by omega
     have HX:Hid (bookOk p x=true):=by unfold Hid; rw [← HOK.out,HV.out]; have:=HN.out; rw [hie] at this; exact this
     have hge:¬ (k:Int) < (x.sess.length:Int):=by omega
     clear hie hlt HN;obtain ⟨z0,z1,z2,z3,z4,z5,z6,z7,z8,z9,z10,z11,z12,z13⟩:=HS.out.r.c14;obtain ⟨zf0,zf1,zf2,zf3,zf4,zf5,zf6,zf7,zf8,zf9,zf10,zf11,zf12,zf13⟩:=HS.out.r.f14;obtain ⟨k0,k1,k2,k3,k4,k5,k6,k7,k8,k9,k10,k11,k12,k13⟩:=HS.out.k.c14;go_wp2_with fail
     have HBE:Hid (BookAt ((sW (sW (sW (sW (sW (sW (sW (sW (sW (sW (sW (sW (sW v4 (w.heap.size+1+1) 0 (.slice pa p.addrs.length pc)) (w.heap.size+1+1) 1 (iV p.low)) (w.heap.size+1+1) 2 (iV p.high)) (w.heap.size+1+1) 3 (iV p.most)) (w.heap.size+1+1) 4 (iV p.filter)) (w.heap.size+1+1) 5 (iV p.lv.udp)) (w.heap.size+1+1) 6 (iV p.lv.echo)) (w.heap.size+1+1) 7 (iV p.lv.opening)) (w.heap.size+1+1) 8 (iV p.lv.opn)) (w.heap.size+1+1) 9 (iV p.lv.closing)) (w.heap.size+1+1) 10 (.slice ba x.binds.length ca)) (w.heap.size+1+1) 11 (.slice bo x.sess.length cb)) (w.heap.size+1+1) 12 (.map (some m1))).setCell ⟨w.heap.size+1+1,13,none⟩ (.map (some m2))) m1 m2 x.binds x.binds):=by
      have a1:=HS.out.l1;have a2:=HS.out.l2;obtain ⟨M1,M2,hM⟩:=HS.out.bk;have hg:v4.grownBy ((sW (sW (sW (sW (sW (sW (sW (sW (sW (sW (sW (sW (sW v4 (w.heap.size+1+1) 0 (.slice pa p.addrs.length pc)) (w.heap.size+1+1) 1 (iV p.low)) (w.heap.size+1+1) 2 (iV p.high)) (w.heap.size+1+1) 3 (iV p.most)) (w.heap.size+1+1) 4 (iV p.filter)) (w.heap.size+1+1) 5 (iV p.lv.udp)) (w.heap.size+1+1) 6 (iV p.lv.echo)) (w.heap.size+1+1) 7 (iV p.lv.opening)) (w.heap.size+1+1) 8 (iV p.lv.opn)) (w.heap.size+1+1) 9 (iV p.lv.closing)) (w.heap.size+1+1) 10 (.slice ba x.binds.length ca)) (w.heap.size+1+1) 11 (.slice bo x.sess.length cb)) (w.heap.size+1+1) 12 (.map (some m1))).setCell ⟨w.heap.size+1+1,13,none⟩ (.map (some m2))) (some (w.heap.size+1+1)):=grown_set (grown_set (grown_set (grown_set (grown_set (grown_set (grown_set (grown_set (grown_set (grown_set (grown_set (grown_set (grown_set (grown_set (World.grownBy.refl _ _) _) _) _) _) _) _) _) _) _) _) _) _) _) _;exact ⟨M1,M2,hM.h1.grown hg (by simp; omega),hM.h2.grown hg (by simp; omega),hM.v1,hM.v2,hM.ne⟩
     refine bodyPost_ret (v:=.tuple #[.agg (KkV pa pc p ba ca bo cb x m1 m2).toArray,.bool true]) (by simp [results,Tryz.results105,go_sem,z0,z1,z2,z3,z4,z5,z6,z7,z8,z9,z10,z11,z12,z13]) rfl (show OpenRet w pa pc p ba bo ca cb x _ _ from And.intro ?_ (.inr ⟨HX.out,m1,m2,rfl,hm1,hm2,HBE.out⟩));exact ((((((((((((((HS.out.b.setCell (p:=⟨w.heap.size+1+1,0,none⟩) hRw _).setCell (p:=⟨w.heap.size+1+1,1,none⟩) hRw _).setCell (p:=⟨w.heap.size+1+1,2,none⟩) hRw _).setCell (p:=⟨w.heap.size+1+1,3,none⟩) hRw _).setCell (p:=⟨w.heap.size+1+1,4,none⟩) hRw _).setCell (p:=⟨w.heap.size+1+1,5,none⟩) hRw _).setCell (p:=⟨w.heap.size+1+1,6,none⟩) hRw _).setCell (p:=⟨w.heap.size+1+1,7,none⟩) hRw _).setCell (p:=⟨w.heap.size+1+1,8,none⟩) hRw _).setCell (p:=⟨w.heap.size+1+1,9,none⟩) hRw _).setCell (p:=⟨w.heap.size+1+1,10,none⟩) hRw _).setCell (p:=⟨w.heap.size+1+1,11,none⟩) hRw _).setCell (p:=⟨w.heap.size+1+1,12,none⟩) hRw _).setCell (p:=⟨w.heap.size+1+1,13,none⟩) hRw _)
theorem implBib_any (pa:Option Addr) (pc:Nat) (p:Pl) (ba bo:Option Addr) (ca cb:Nat) (x:Bb) (w:World) (hpl:p.addrs.length≤1048576) (hpc:p.addrs.length≤pc) (hps:∀ s∈p.addrs,s.size≤1048576) (hbl1:x.binds.length≤1048576) (hbl2:x.sess.length≤1048576) (hgb:∀ q∈x.binds,BdGood q) (hgs:∀ s∈x.sess,SsGood s) (hp:SlIs strL1 1 w pa p.addrs) (hx:BbIs w ba bo x) :
  Cb 72 #[plC pa pc p,bbC ba bo ca cb x] w (.bool (bibOk p x)):=by
 have HZ0:Hid (Below w.heap.size w ((aW w (PlV pa pc p) 48).alloc (.cells (BbV ba ca bo cb x).toArray 39))):=((Below.refl _ _).alloc (Nat.le_refl _) _).alloc (by simp) _;have HP:HoldsL ((aW w (PlV pa pc p) 48).alloc (.cells (BbV ba ca bo cb x).toArray 39)) w.heap.size (PlV pa pc p):=(HoldsL.new w (PlV pa pc p) 48).alloc _;have HB:HoldsL ((aW w (PlV pa pc p) 48).alloc (.cells (BbV ba ca bo cb x).toArray 39)) (w.heap.size+1) (BbV ba ca bo cb x):=by
  have h:=HoldsL.new (w.alloc (.cells (PlV pa pc p).toArray 48)) (BbV ba ca bo cb x) 39;rw [World.size_alloc] at h; exact h
 have HOP:Hid (∀ W,Below w.heap.size w W→Calls Tryz.prog 105 #[.agg (PlV pa pc p).toArray,.agg (BbV ba ca bo cb x).toArray] W (OpenRet W pa pc p ba bo ca cb x)):=fun W hW=>open_any pa pc p ba bo ca cb x W hpl hpc hps hbl1 hbl2 hgb hgs (hp.below hW) (hx.below hW)
 have HV:Hid (bookOk p x=bibOk p x):=book_bib p x;clear hp hx hgb hgs hps;unfold plC bbC;go_enter Tryz.func72,Tryz.ntmps72
 go_upto_region 1 with fail
 generalize ((aW w (PlV pa pc p) 48).alloc (.cells (BbV ba ca bo cb x).toArray 39))=W0 at *;obtain ⟨k0,k1,k2,k3,k4,k5,k6,k7,k8,k9⟩:=HP.c10;obtain ⟨c0,c1⟩:=HB.c2;clear HP HB;go_wp2_with fail
 refine (HOP.out _ HZ0.out).mono ?_;rintro e w1 ⟨q1,h⟩;have B1:Hid _:=HZ0.out.trans (q1.mono HZ0.out.size);clear q1 HZ0 HOP k0 k1 k2 k3 k4 k5 k6 k7 k8 k9 c0 c1;rcases h with ⟨hx,rfl⟩ | ⟨hx,m1,m2,rfl,hm1,hm2,hbk⟩
 ·have HX:Hid (bibOk p x=false):=by unfold Hid; rw [← HV.out]; exact hx
  unfold bkZ;clear hx;go_wp2_with fail
  go_ret;exact ⟨ret_bool HX.out.symm,B1.out.alloc B1.out.size _⟩
 ·have HX:Hid (bibOk p x=true):=by unfold Hid; rw [← HV.out]; exact hx
  unfold bkC;clear hx hbk;go_wp2_with fail
  go_ret;exact ⟨ret_bool HX.out.symm,B1.out.alloc B1.out.size _⟩
theorem implTime_any (n:Int) (w:World) :
  Cw 74 #[iV n] w (.bool (isTime n)):=by
 by_cases h1:0≤n
 ·by_cases h2:n≤1000000000
  ·have HV:Hid (isTime n=true):=by unfold Hid isTime isIn; simp [h1,h2]
   go_enter Tryz.func74,Tryz.ntmps74
   go_wp2_with fail
   go_ret;exact ⟨ret_bool (by rw [HV.out]),rfl⟩
  ·have HV:Hid (isTime n=false):=by unfold Hid isTime isIn; simp [h2]
   go_enter Tryz.func74,Tryz.ntmps74
   go_wp2_with fail
   go_ret;exact ⟨ret_bool (by rw [HV.out]),rfl⟩
 ·have HV:Hid (isTime n=false):=by unfold Hid isTime isIn; simp [h1]
  have h1':n < 0:=by omega
  go_enter Tryz.func74,Tryz.ntmps74
  go_wp2_with fail
  go_ret;exact ⟨ret_bool (by rw [HV.out]),rfl⟩
theorem implV4Right_any (p:P4) (w:World) (h1:p.src.size≤1048576) (h2:p.dst.size≤1048576) (h3:p.opts.size≤1048576) (h4:p.data.size≤1048576) :
  Cb 73 #[p4C p] w (.bool (v4Ok p)):=by
 have HB1:Hid (∀ W,Cw 116 #[iV p.tos] W (.bool (isIn p.tos 0 255))):=fun W=>implByte_any p.tos W
 have HB2:Hid (∀ W,Cw 116 #[iV p.ttl] W (.bool (isIn p.ttl 0 255))):=fun W=>implByte_any p.ttl W
 have HB3:Hid (∀ W,Cw 116 #[iV p.proto] W (.bool (isIn p.proto 0 255))):=fun W=>implByte_any p.proto W
 have HB4:Hid (∀ W,Cw 117 #[iV p.id] W (.bool (isIn p.id 0 65535))):=fun W=>implWordIs_any p.id W
 have HB5:Hid (∀ W,Cw 118 #[iV p.off,.bool p.more,.string p.data,iV 65515] W (.bool (pcV p.off p.more p.data 65515))):=fun W=>implPiece_any p.off p.more p.data 65515 W h4
 have HV:Hid (v4Ok p=_):=v4Ok_prog p;generalize v4Ok p=ok at *;obtain ⟨tos,id,whole,more,off,ttl,proto,src,dst,opts,data⟩:=p;unfold p4C;dsimp only at *;have HZ:Hid (Below w.heap.size w (w.alloc (.cells (P4R tos id whole more off ttl proto src dst opts data).toArray 40))):=(Below.refl _ _).alloc (Nat.le_refl _) _;generalize isIn tos 0 255=b1 at *;generalize isIn ttl 0 255=b2 at *;generalize isIn proto 0 255=b3 at *;generalize isIn id 0 65535=b4 at *;generalize pcV off more data 65515=b5 at *;go_enter Tryz.func73,Tryz.ntmps73
 go_wp2_with fail
 refine (HB1.out _).mono ?_;rintro e w2 ⟨rfl,rfl⟩
 cases b1 with
 | false =>
  have hun:undef=Value.tuple #[]:=rfl;go_wp2_with fail
  go_ret;exact ⟨ret_bool (by rw [HV.out]; simp),HZ.out⟩
 | true =>
  go_wp2_with fail
  refine (HB2.out _).mono ?_;rintro e w2 ⟨rfl,rfl⟩
  cases b2 with
  | false =>
   have hun:undef=Value.tuple #[]:=rfl;go_wp2_with fail
   go_ret;exact ⟨ret_bool (by rw [HV.out]; simp),HZ.out⟩
  | true =>
   go_wp2_with fail
   refine (HB3.out _).mono ?_;rintro e w2 ⟨rfl,rfl⟩
   cases b3 with
   | false =>
    have hun:undef=Value.tuple #[]:=rfl;go_wp2_with fail
    go_ret;exact ⟨ret_bool (by rw [HV.out]; simp),HZ.out⟩
   | true =>
    go_wp2_with fail
    refine (HB4.out _).mono ?_;rintro e w2 ⟨rfl,rfl⟩
    cases b4 with
    | false =>
     have hun:undef=Value.tuple #[]:=rfl;go_wp2_with fail
     go_ret;exact ⟨ret_bool (by rw [HV.out]; simp),HZ.out⟩
    | true =>
     by_cases s1:src.size=4
     ·have ds1:((src.size:Int)==4)=true:=by simp<;>omega
      have vs1:decide (src.size=4)=true:=decide_eq_true s1;rw [vs1] at HV;by_cases s2:dst.size=4
      ·have ds2:((dst.size:Int)==4)=true:=by simp<;>omega
       have vs2:decide (dst.size=4)=true:=decide_eq_true s2;rw [vs2] at HV;by_cases s3:opts.size≤40
       ·have ds3:decide ((opts.size:Int)≤40)=true:=by simp<;>omega
        have vs3:decide (opts.size≤40)=true:=decide_eq_true s3;rw [vs3] at HV;by_cases s4:opts.size % 4=0
        ·have ds4:(((opts.size:Int) % 4)==0)=true:=by simp<;>omega
         have vs4:decide (opts.size % 4=0)=true:=decide_eq_true s4;rw [vs4] at HV;go_wp2_with fail
         refine (HB5.out _).mono ?_;rintro e w2 ⟨rfl,rfl⟩
         cases b5 with
         | false =>
          have hun:undef=Value.tuple #[]:=rfl;go_wp2_with fail
          go_ret;exact ⟨ret_bool (by rw [HV.out]; simp),HZ.out⟩
         | true =>
          cases whole with
          | false =>
           have hun:undef=Value.tuple #[]:=rfl;go_wp2_with fail
           go_ret;exact ⟨ret_bool (by rw [HV.out]; simp),HZ.out⟩
          | true =>
           cases more with
           | true =>
            have hun:undef=Value.tuple #[]:=rfl;go_wp2_with fail
            go_ret;exact ⟨ret_bool (by rw [HV.out]; simp),HZ.out⟩
           | false =>
            by_cases t1:off=0
            ·rw [decide_eq_true t1] at HV;have dt1:(off != 0)=false:=by simp [t1]
             clear t1;have hun:undef=Value.tuple #[]:=rfl;go_wp2_with fail
             go_ret;exact ⟨ret_bool (by rw [HV.out]; simp),HZ.out⟩
            ·rw [decide_eq_false t1] at HV;have dt1:(off != 0)=true:=by simp [t1]
             have hun:undef=Value.tuple #[]:=rfl;go_wp2_with fail
             go_ret;exact ⟨ret_bool (by rw [HV.out]; simp),HZ.out⟩
        ·have ds4:(((opts.size:Int) % 4)==0)=false:=by simp<;>omega
         have vs4:decide (opts.size % 4=0)=false:=decide_eq_false s4;rw [vs4] at HV;have hun:undef=Value.tuple #[]:=rfl;go_wp2_with fail
         go_ret;exact ⟨ret_bool (by rw [HV.out]; simp),HZ.out⟩
       ·have ds3:decide ((opts.size:Int)≤40)=false:=by simp<;>omega
        have vs3:decide (opts.size≤40)=false:=decide_eq_false s3;rw [vs3] at HV;have hun:undef=Value.tuple #[]:=rfl;go_wp2_with fail
        go_ret;exact ⟨ret_bool (by rw [HV.out]; simp),HZ.out⟩
      ·have ds2:((dst.size:Int)==4)=false:=by simp<;>omega
       have vs2:decide (dst.size=4)=false:=decide_eq_false s2;rw [vs2] at HV;have hun:undef=Value.tuple #[]:=rfl;go_wp2_with fail
       go_ret;exact ⟨ret_bool (by rw [HV.out]; simp),HZ.out⟩
     ·have ds1:((src.size:Int)==4)=false:=by simp<;>omega
      have vs1:decide (src.size=4)=false:=decide_eq_false s1;rw [vs1] at HV;have hun:undef=Value.tuple #[]:=rfl;go_wp2_with fail
      go_ret;exact ⟨ret_bool (by rw [HV.out]; simp),HZ.out⟩
theorem ip9Ok_any (pa:Option Addr) (pc:Nat) (p:Pl) (ba bo:Option Addr) (ca cb:Nat) (x:Bb) (q:P4) (now:Int) (w:World) (hlp:p.addrs.length≤1048576) (hpc:p.addrs.length≤pc) (hsz:∀ s∈p.addrs,s.size≤1048576) (hl1:x.binds.length≤1048576) (hl2:x.sess.length≤1048576) (hgb:∀ q∈x.binds,BdGood q) (hgs:∀ s∈x.sess,SsGood s) (q1:q.src.size≤1048576) (q2:q.dst.size≤1048576) (q3:q.opts.size≤1048576) (q4:q.data.size≤1048576) (hp:SlIs strL1 1 w pa p.addrs) (hx:BbIs w ba bo x) :
  Cb 47 #[plC pa pc p,bbC ba bo ca cb x,p4C q,iV now] w (iV (natFt p x q now)):=by
 have HBR:Hid (∀ W,Below w.heap.size w W→Cb 72 #[plC pa pc p,bbC ba bo ca cb x] W (.bool (bibOk p x))):=fun W hW=>implBib_any pa pc p ba bo ca cb x W hlp hpc hsz hl1 hl2 hgb hgs (hp.below hW) (hx.below hW)
 have HV4:Hid (∀ W,Cb 73 #[p4C q] W (.bool (v4Ok q))):=fun W=>implV4Right_any q W q1 q2 q3 q4
 have HTM:Hid (∀ W,Cw 74 #[iV now] W (.bool (isTime now))):=fun W=>implTime_any now W
 have HV:Hid (natFt p x q now=if (bibOk p x&&v4Ok q&&isTime now)=false then 1 else if (q.more||decide (q.off≠0))=true then 10 else 0):=rfl;generalize natFt p x q now=ans at *;generalize bibOk p x=b1 at *;generalize v4Ok q=b2 at *;generalize isTime now=b3 at *;obtain ⟨tos,id,whole,more,off,ttl,proto,src,dst,opts,data⟩:=q;clear hp hx hsz hgb hgs;unfold plC bbC p4C at *;dsimp only at *;have hun:undef=Value.tuple #[]:=rfl;have HS0:=bx3 w (PlV pa pc p) 48 (BbV ba ca bo cb x) 39 (P4R tos id whole more off ttl proto src dst opts data) 40 (by simp) (by simp) (by simp)
 skip;go_enter Tryz.func47,Tryz.ntmps47
 go_upto_region 1 with fail
 generalize ((aW (aW w (PlV pa pc p) 48) (BbV ba ca bo cb x) 39).alloc (.cells (P4R tos id whole more off ttl proto src dst opts data).toArray 40))=W0 at *;have HHk:=HS0.out.at mE0;obtain ⟨k0,k1,k2,k3,k4,k5,k6,k7,k8,k9⟩:=HHk.c10;clear HHk;have HHl:=HS0.out.at mE1;obtain ⟨l0,l1⟩:=HHl.c2;clear HHl;go_wp2_with fail
 refine (HBR.out _ HS0.out.b).mono ?_;rintro e W1 ⟨rfl,r1⟩;have S1:Hid _:=HS0.out.kept r1;clear r1 HS0 k0 k1 k2 k3 k4 k5 k6 k7 k8 k9 l0 l1
 cases b1 with
 | false =>
  have HFB:Hid _:=S1.out.b;go_wp2_with fail
  go_ret;exact ⟨ret_int (by rw [HV.out]; rfl),HFB.out⟩
 | true =>
 have HHk:=S1.out.at mE2;obtain ⟨k0,k1,k2,k3,k4,k5,k6,k7,k8,k9,k10⟩:=HHk.c11;clear HHk;go_wp2_with fail
 refine (HV4.out _).mono ?_;rintro e W2 ⟨rfl,r2⟩;have S2:Hid _:=S1.out.kept r2;clear r2 S1 k0 k1 k2 k3 k4 k5 k6 k7 k8 k9 k10
 cases b2 with
 | false =>
  have HFB:Hid _:=S2.out.b;go_wp2_with fail
  go_ret;exact ⟨ret_int (by rw [HV.out]; rfl),HFB.out⟩
 | true =>
 go_wp2_with fail
 refine (HTM.out _).mono ?_;rintro e W2 ⟨rfl,rfl⟩
 cases b3 with
 | false =>
  have HFB:Hid _:=S2.out.b;go_wp2_with fail
  go_ret;exact ⟨ret_int (by rw [HV.out]; rfl),HFB.out⟩
 | true =>
 have HHk:=S2.out.at mE2;obtain ⟨k0,k1,k2,k3,k4,k5,k6,k7,k8,k9,k10⟩:=HHk.c11;clear HHk
 cases more with
 | true =>
  have HFB:Hid _:=S2.out.b;go_wp2_with fail
  go_ret;exact ⟨ret_int (by rw [HV.out]; rfl),HFB.out⟩
 | false =>
 by_cases ho:off=0
 case pos =>
  have d0:(off != 0)=false:=by simp [ho]
  have HFB:Hid _:=S2.out.b;go_wp2_with fail
  go_ret;exact ⟨ret_int (by rw [HV.out]; simp [ho]),HFB.out⟩
 have d0:(off != 0)=true:=by simp [ho]
 have HFB:Hid _:=S2.out.b;go_wp2_with fail
 go_ret;exact ⟨ret_int (by rw [HV.out]; simp [ho]),HFB.out⟩
theorem ipFlags_any (p:Int) (t:ByteArray) (w:World) (ht:t.size≤20000) (h20:p=6→20≤t.size) :
  Cb 61 #[iV p,.string t] w (iV (flagV p t)):=by
 by_cases h:p=6
 ·have h2:=h20 h;subst h;have HT:Hid (∀ W,Cb 104 #[.string t] W (iV (flagV 6 t))):=fun W=>(implTcpFlags_any t W (by omega)).mono fun e w' h=>⟨by rw [h.1]; unfold tcpFlagsV flagV; rw [if_neg (by omega),if_pos rfl],h.2⟩
  generalize flagV 6 t=ans at *;go_enter Tryz.func61,Tryz.ntmps61
  go_wp2_with fail
  refine (HT.out _).mono ?_;rintro e w2 ⟨rfl,r2⟩;have R2:Hid _:=r2;clear r2;go_wp2_with fail
  go_ret;exact ⟨rfl,R2.out⟩
 ·have HV:Hid (flagV p t=0):=if_neg h;have d0:(p != 6)=true:=by simp [h]
  generalize flagV p t=ans at *;go_enter Tryz.func61,Tryz.ntmps61
  go_wp2_with fail
  go_ret;exact ⟨ret_int (by rw [HV.out]),Below.refl _ _⟩
theorem ipPeer_any (p n:Int) (w:World) :
  Cb 205 #[iV p,iV n] w (iV (peerV p n)):=by
 have HE:Hid (∀ W,Cw 101 #[iV p] W (.bool (echoP p))):=fun W=>implEcho_any p W
 have HV:Hid (peerV p n=if echoP p=true then 0 else n):=rfl;generalize peerV p n=ans at *;generalize echoP p=b at *;go_enter Tryz.func205,Tryz.ntmps205
 go_wp2_with fail
 refine (HE.out _).mono ?_;rintro e w2 ⟨rfl,rfl⟩
 cases b with
 | false =>
  go_wp2_with fail
  go_ret;exact ⟨ret_int (by rw [HV.out]; rfl),Below.refl _ _⟩
 | true =>
  go_wp2_with fail
  go_ret;exact ⟨ret_int (by rw [HV.out]; rfl),Below.refl _ _⟩
theorem ipTouchI_any (f:Fl) (ra:Option Addr) (la ca:Nat) (w:World) :
  Cb 206 #[.agg #[.slice ra la ca],fwC f] w (tcC ⟨f.proto,false,f.dst,f.dp,f.src,peerV f.proto f.sp,0⟩):=by
 have HP:Hid (∀ W,Cb 205 #[iV f.proto,iV f.sp] W (iV (peerV f.proto f.sp))):=fun W=>ipPeer_any _ _ W
 generalize peerV f.proto f.sp=pv at *;obtain ⟨proto,src,dst,sp,dp⟩:=f;unfold fwC tcC;dsimp only at *;have HS0:Hid (Bxs w [(w.heap.size+1+1,(TcR 0 false ⟨#[]⟩ 0 ⟨#[]⟩ 0 0)),(w.heap.size+1,(FlR proto src dst sp dp))] ((aW (aW w [.slice ra la ca] 80) (FlR proto src dst sp dp) 91).alloc (.cells (TcR 0 false ⟨#[]⟩ 0 ⟨#[]⟩ 0 0).toArray 112))):=by
  have h:=((⟨fun e he=>(by cases he),(Below.refl _ _).alloc (Nat.le_refl _) _,fun e he=>(by cases he)⟩ : Bxs w [] (w.alloc (.cells #[.slice ra la ca] 80))).push (FlR proto src dst sp dp) (by simp) 91).push (TcR 0 false ⟨#[]⟩ 0 ⟨#[]⟩ 0 0) (by simp) 112;simp only [World.size_alloc] at h;exact h
 have hRw:w.heap.size≤w.heap.size+1+1:=by omega
 go_enter Tryz.func206,Tryz.ntmps206
 go_upto_region 1 with fail
 generalize ((aW (aW w [.slice ra la ca] 80) (FlR proto src dst sp dp) 91).alloc (.cells (TcR 0 false ⟨#[]⟩ 0 ⟨#[]⟩ 0 0).toArray 112))=W0 at *;have HCP:Hid (∀ wy,Below W0.drew.heap.size W0.drew wy→_):=fun wy hy=>HS0.out.kept ((Below.refl _ _).drew.trans hy)
 clear HS0;refine wp_region_growV [5,6,7,8,9,10,11,12,13,14,15,16,17,18] (by kernel_rfl) (by kernel_rfl) ?_;apply GChV.v0
 ·rfl
 ·intro K' a wy ho hd hb hK kz;have o3:=ho 3 (by decide);simp [slot] at o3;clear hd ho;go_simp;try go_bits
  exact kz _ rfl
 apply GChV.v1
 ·rfl
 ·intro K' a wy ho hd hb hK kz;have q0:=hd ⟨0,.data⟩ (by simp) rfl;simp [rAt,IsV,slot] at q0;clear hd ho;have hst:=HCP.out wy hb;have HHm:=hst.at mE1;obtain ⟨m0,m1,m2,m3,m4⟩:=HHm.c5;clear HHm;clear hst;go_simp;try go_bits
  exact kz _ rfl
 apply GChV.v2
 ·rfl
 ·intro K' a wy ho hd hb hK kz;have o3:=ho 3 (by decide);simp [slot] at o3;clear hd ho;go_simp;try go_bits
  exact kz _ rfl
 apply GChV.v3
 ·rfl
 ·intro K' a wy ho hd hb hK kz;have q2:=hd ⟨2,.data⟩ (by simp) rfl;simp [rAt,IsV,slot] at q2;clear hd ho;have hst:=HCP.out wy hb;have HHm:=hst.at mE1;obtain ⟨m0,m1,m2,m3,m4⟩:=HHm.c5;clear HHm;clear hst;go_simp;try go_bits
  exact kz _ rfl
 apply GChV.v4
 ·rfl
 ·intro K' a wy ho hd hb hK kz;have o3:=ho 3 (by decide);simp [slot] at o3;clear hd ho;go_simp;try go_bits
  exact kz _ rfl
 apply GChV.v5
 ·rfl
 ·intro K' a wy ho hd hb hK kz;have q4:=hd ⟨4,.data⟩ (by simp) rfl;simp [rAt,IsV,slot] at q4;clear hd ho;have hst:=HCP.out wy hb;have HHm:=hst.at mE1;obtain ⟨m0,m1,m2,m3,m4⟩:=HHm.c5;clear HHm;clear hst;go_simp;try go_bits
  exact kz _ rfl
 apply GChV.v6
 ·rfl
 ·intro K' a wy ho hd hb hK kz;have o3:=ho 3 (by decide);simp [slot] at o3;clear hd ho;go_simp;try go_bits
  exact kz _ rfl
 apply GChV.v7
 ·rfl
 ·intro K' a wy ho hd hb hK kz;have q6:=hd ⟨6,.data⟩ (by simp) rfl;simp [rAt,IsV,slot] at q6;clear hd ho;have hst:=HCP.out wy hb;have HHm:=hst.at mE1;obtain ⟨m0,m1,m2,m3,m4⟩:=HHm.c5;clear HHm;clear hst;go_simp;try go_bits
  exact kz _ rfl
 apply GChV.v8
 ·rfl
 ·intro K' a wy ho hd hb hK kz;have o3:=ho 3 (by decide);simp [slot] at o3;clear hd ho;go_simp;try go_bits
  exact kz _ rfl
 apply GChV.v9
 ·rfl
 ·intro K' a wy ho hd hb hK kz;have q8:=hd ⟨8,.data⟩ (by simp) rfl;simp [rAt,IsV,slot] at q8;clear hd ho;have hst:=HCP.out wy hb;have HHm:=hst.at mE1;obtain ⟨m0,m1,m2,m3,m4⟩:=HHm.c5;clear HHm;clear hst;go_simp;try go_bits
  exact kz _ rfl
 apply GChV.v10
 ·rfl
 ·intro K' a wy ho hd hb hK kz;have o3:=ho 3 (by decide);simp [slot] at o3;clear hd ho;go_simp;try go_bits
  exact kz _ rfl
 apply GChV.v11
 ·rfl
 ·intro K' a wy ho hd hb hK kz;have q10:=hd ⟨10,.data⟩ (by simp) rfl;simp [rAt,IsV,slot] at q10;clear hd ho;have hst:=HCP.out wy hb;have HHm:=hst.at mE1;obtain ⟨m0,m1,m2,m3,m4⟩:=HHm.c5;clear HHm;clear hst;go_simp;try go_bits
  exact kz _ rfl
 apply GChV.v12
 ·rfl
 ·intro K' a wy ho hd hb hK kz;have q9:=hd ⟨9,.data⟩ (by simp) rfl;have q11:=hd ⟨11,.data⟩ (by simp) rfl;simp [rAt,IsV,slot] at q9 q11;clear hd ho;go_simp;refine (HP.out wy).mono ?_;rintro e wz ⟨rfl,hz⟩;exact hK _ _ rfl hz
 apply GChV.v13
 ·rfl
 ·intro K' a wy ho hd hb hK kz;have q1:=hd ⟨1,.data⟩ (by simp) rfl;have q3:=hd ⟨3,.data⟩ (by simp) rfl;have q5:=hd ⟨5,.data⟩ (by simp) rfl;have q7:=hd ⟨7,.data⟩ (by simp) rfl;have q12:=hd ⟨12,.data⟩ (by simp) rfl;simp [rAt,IsV,slot] at q1 q3 q5 q7 q12;clear hd ho;go_simp;try go_bits
  exact kz _ rfl
 intro X wz hR hz;obtain ⟨x0,x1,x2,x3,x4,x5,x6,x7,x8,x9,x10,x11,x12,x13,-⟩:=hR;simp only [IsV] at x0 x1 x2 x3 x4 x5 x6 x7 x8 x9 x10 x11 x12 x13;simp only [putsFrom,x0,x1,x2,x3,x4,x5,x6,x7,x8,x9,x10,x11,x12,x13];clear x0 x1 x2 x3 x4 x5 x6 x7 x8 x9 x10 x11 x12 x13;have V7:Hid (Bxs w [(w.heap.size+1+1,(TcR 0 false ⟨#[]⟩ 0 ⟨#[]⟩ 0 0)),(w.heap.size+1,(FlR proto src dst sp dp))] wz):=HCP.out wz hz;clear hz HCP HP;have HHz:=V7.out.at mE0;obtain ⟨z0,z1,z2,z3,z4,z5,z6⟩:=HHz.c7;obtain ⟨zf0,zf1,zf2,zf3,zf4,zf5,zf6⟩:=HHz.f7;have HRR:Hid (HoldsL ((sW (sW (sW (sW (sW (sW wz (w.heap.size+1+1) 0 (iV proto)) (w.heap.size+1+1) 1 (.bool false)) (w.heap.size+1+1) 2 (.string dst)) (w.heap.size+1+1) 3 (iV dp)) (w.heap.size+1+1) 4 (.string src)) (w.heap.size+1+1) 5 (iV pv)).setCell ⟨w.heap.size+1+1,6,none⟩ (iV 0)) (w.heap.size+1+1) (TcR proto false dst dp src pv 0)):=(((((((HHz.set 0 (iV proto)).set 1 (.bool false)).set 2 (.string dst)).set 3 (iV dp)).set 4 (.string src)).set 5 (iV pv)).set 6 (iV 0));have RB:Hid _:=(((((((V7.out.b.setCell (p:=⟨w.heap.size+1+1,0,none⟩) hRw (iV proto)).setCell (p:=⟨w.heap.size+1+1,1,none⟩) hRw (.bool false)).setCell (p:=⟨w.heap.size+1+1,2,none⟩) hRw (.string dst)).setCell (p:=⟨w.heap.size+1+1,3,none⟩) hRw (iV dp)).setCell (p:=⟨w.heap.size+1+1,4,none⟩) hRw (.string src)).setCell (p:=⟨w.heap.size+1+1,5,none⟩) hRw (iV pv)).setCell (p:=⟨w.heap.size+1+1,6,none⟩) hRw (iV 0));clear HHz;clear V7;intro K10 hK10;go_simp;refine hK10 _ _ ?_;simp only [wpSeq];go_wp2_with fail
 exact bodyPost_ret (results_mid Tryz.results206 _ _ (w.heap.size+1+1) (TcR proto false dst dp src pv 0) _ rfl HRR.out Tryz.underlying112 rfl (show (Tryz.prog.info? 112).map (·.size)=some 7 by kernel_rfl)) rfl (And.intro rfl RB.out)
theorem ipTurnI_any (f:Fl) (c:Bd) (ra:Option Addr) (la ca:Nat) (w:World) :
  Cb 207 #[.agg #[.slice ra la ca],fwC f,bdC c] w (fwC ⟨f.proto,f.src,c.inn,if echoP f.proto=true then c.inPort else f.sp,c.inPort⟩):=by
 have HE:Hid (∀ W,Cw 101 #[iV f.proto] W (.bool (echoP f.proto))):=fun W=>implEcho_any _ W
 generalize echoP f.proto=b at *;obtain ⟨proto,src,dst,sp,dp⟩:=f;obtain ⟨cp,ci,cn,co,cm⟩:=c;unfold fwC bdC;dsimp only at *;have HS0:Hid (Bxs w [(w.heap.size+1+1+1,(FlR 0 ⟨#[]⟩ ⟨#[]⟩ 0 0)),(w.heap.size+1+1,(BdR cp ci cn co cm)),(w.heap.size+1,(FlR proto src dst sp dp))] ((aW (aW (aW w [.slice ra la ca] 80) (FlR proto src dst sp dp) 91) (BdR cp ci cn co cm) 94).alloc (.cells (FlR 0 ⟨#[]⟩ ⟨#[]⟩ 0 0).toArray 91))):=by
  have h:=(((⟨fun e he=>(by cases he),(Below.refl _ _).alloc (Nat.le_refl _) _,fun e he=>(by cases he)⟩ : Bxs w [] (w.alloc (.cells #[.slice ra la ca] 80))).push (FlR proto src dst sp dp) (by simp) 91).push (BdR cp ci cn co cm) (by simp) 94).push (FlR 0 ⟨#[]⟩ ⟨#[]⟩ 0 0) (by simp) 91;simp only [World.size_alloc] at h;exact h
 have hRw:w.heap.size≤w.heap.size+1+1+1:=by omega
 have hFw:w.heap.size≤w.heap.size+1:=by omega
 go_enter Tryz.func207,Tryz.ntmps207
 go_upto_region 1 with fail
 generalize ((aW (aW (aW w [.slice ra la ca] 80) (FlR proto src dst sp dp) 91) (BdR cp ci cn co cm) 94).alloc (.cells (FlR 0 ⟨#[]⟩ ⟨#[]⟩ 0 0).toArray 91))=W0 at *;have HSET:Hid (∀ wx,Bxs w [(w.heap.size+1+1+1,(FlR 0 ⟨#[]⟩ ⟨#[]⟩ 0 0)),(w.heap.size+1+1,(BdR cp ci cn co cm)),(w.heap.size+1,(FlR proto src dst sp dp))] wx→Bxs w [(w.heap.size+1+1+1,(FlR 0 ⟨#[]⟩ ⟨#[]⟩ 0 0)),(w.heap.size+1+1,(BdR cp ci cn co cm)),(w.heap.size+1,(FlR proto src ci sp cn))] ((sW wx (w.heap.size+1) 2 (.string ci)).setCell ⟨w.heap.size+1,4,none⟩ (iV cn))):=fun wx h=>⟨fun e he=>by
  simp only [List.mem_cons,List.not_mem_nil,or_false] at he;rcases he with rfl | rfl | rfl
  ·exact (HoldsL.setOther (HoldsL.setOther (h.k _ mE0) (by show w.heap.size+1+1+1≠w.heap.size+1; omega) _) (by show w.heap.size+1+1+1≠w.heap.size+1; omega) _)
  ·exact (HoldsL.setOther (HoldsL.setOther (h.k _ mE1) (by show w.heap.size+1+1≠w.heap.size+1; omega) _) (by show w.heap.size+1+1≠w.heap.size+1; omega) _)
  ·exact (HoldsL.set (HoldsL.set (h.k _ mE2) 2 (.string ci)) 4 (iV cn)),((h.b.setCell (p:=⟨w.heap.size+1,2,none⟩) hFw _).setCell (p:=⟨w.heap.size+1,4,none⟩) hFw _),fun e he=>by
  simp only [List.mem_cons,List.not_mem_nil,or_false] at he;rcases he with rfl | rfl | rfl<;>simp⟩
 go_cut [12] (fun v wx=>Bxs w [(w.heap.size+1+1+1,(FlR 0 ⟨#[]⟩ ⟨#[]⟩ 0 0)),(w.heap.size+1+1,(BdR cp ci cn co cm)),(w.heap.size+1,(FlR proto src ci sp cn))] wx)
 case first =>
  rename_i J K2 hJ hK2;have HHk:=HS0.out.at mE2;obtain ⟨k0,k1,k2,k3,k4⟩:=HHk.c5;obtain ⟨kf0,kf1,kf2,kf3,kf4⟩:=HHk.f5;have HHl:=HS0.out.at mE1;obtain ⟨l0,l1,l2,l3,l4⟩:=HHl.c5;clear HHl;have HD:Hid _:=(HSET.out W0 HS0.out).kept (Below.refl _ _).drew;clear HHk HS0 HSET;go_region
  all_goals refine hK2 _ _ (hJ _ _ ?_)
  all_goals (repeat apply Exists.intro)
  all_goals exact ⟨HD.out,rfl⟩
 case rest =>
 have S1:Hid (Bxs w [(w.heap.size+1+1+1,(FlR 0 ⟨#[]⟩ ⟨#[]⟩ 0 0)),(w.heap.size+1+1,(BdR cp ci cn co cm)),(w.heap.size+1,(FlR proto src ci sp cn))] wc):=hcut;clear hcut HS0 HSET;generalize wc=W1 at *;have HHk:=S1.out.at mE2;obtain ⟨k0,k1,k2,k3,k4⟩:=HHk.c5;clear HHk;go_wp2_with fail
 refine (HE.out _).mono ?_;rintro e W1 ⟨rfl,rfl⟩
 cases b with
 | false =>
  have HHz:=S1.out.at mE0;obtain ⟨z0,z1,z2,z3,z4⟩:=HHz.c5;obtain ⟨zf0,zf1,zf2,zf3,zf4⟩:=HHz.f5;have HRR:Hid (HoldsL ((sW (sW (sW (sW W1 (w.heap.size+1+1+1) 0 (iV proto)) (w.heap.size+1+1+1) 1 (.string src)) (w.heap.size+1+1+1) 2 (.string ci)) (w.heap.size+1+1+1) 3 (iV sp)).setCell ⟨w.heap.size+1+1+1,4,none⟩ (iV cn)) (w.heap.size+1+1+1) (FlR proto src ci sp cn)):=(((((HHz.set 0 (iV proto)).set 1 (.string src)).set 2 (.string ci)).set 3 (iV sp)).set 4 (iV cn));have RB:Hid _:=(((((S1.out.b.setCell (p:=⟨w.heap.size+1+1+1,0,none⟩) hRw (iV proto)).setCell (p:=⟨w.heap.size+1+1+1,1,none⟩) hRw (.string src)).setCell (p:=⟨w.heap.size+1+1+1,2,none⟩) hRw (.string ci)).setCell (p:=⟨w.heap.size+1+1+1,3,none⟩) hRw (iV sp)).setCell (p:=⟨w.heap.size+1+1+1,4,none⟩) hRw (iV cn));clear HHz;go_wp2_with fail
  exact bodyPost_ret (results_mid Tryz.results207 _ _ (w.heap.size+1+1+1) (FlR proto src ci sp cn) _ rfl HRR.out Tryz.underlying91 rfl (show (Tryz.prog.info? 91).map (·.size)=some 5 by kernel_rfl)) rfl (And.intro rfl RB.out)
 | true =>
  have S2:Hid (Bxs w [(w.heap.size+1+1+1,(FlR 0 ⟨#[]⟩ ⟨#[]⟩ 0 0)),(w.heap.size+1+1,(BdR cp ci cn co cm)),(w.heap.size+1,(FlR proto src ci cn cn))] (W1.setCell ⟨w.heap.size+1,3,none⟩ (iV cn))):=⟨fun e he=>by
   simp only [List.mem_cons,List.not_mem_nil,or_false] at he;rcases he with rfl | rfl | rfl
   ·exact (HoldsL.setOther (S1.out.k _ mE0) (by show w.heap.size+1+1+1≠w.heap.size+1; omega) _)
   ·exact (HoldsL.setOther (S1.out.k _ mE1) (by show w.heap.size+1+1≠w.heap.size+1; omega) _)
   ·exact (HoldsL.set (S1.out.k _ mE2) 3 (iV cn)),(S1.out.b.setCell (p:=⟨w.heap.size+1,3,none⟩) hFw _),fun e he=>by
   simp only [List.mem_cons,List.not_mem_nil,or_false] at he;rcases he with rfl | rfl | rfl<;>simp⟩
  have kf:=(S1.out.k _ mE2).free (j:=3) (by simp);have HHl:=S1.out.at mE1;obtain ⟨l0,l1,l2,l3,l4⟩:=HHl.c5;clear HHl;go_upto_region 4 with fail
  generalize (W1.setCell ⟨w.heap.size+1,3,none⟩ (iV cn))=W2 at *;clear S1 kf k0 k1 k2 k3 k4 l0 l1 l2 l3 l4;have HHk:=S2.out.at mE2;obtain ⟨k0,k1,k2,k3,k4⟩:=HHk.c5;clear HHk;have HHz:=S2.out.at mE0;obtain ⟨z0,z1,z2,z3,z4⟩:=HHz.c5;obtain ⟨zf0,zf1,zf2,zf3,zf4⟩:=HHz.f5;have HRR:Hid (HoldsL ((sW (sW (sW (sW W2 (w.heap.size+1+1+1) 0 (iV proto)) (w.heap.size+1+1+1) 1 (.string src)) (w.heap.size+1+1+1) 2 (.string ci)) (w.heap.size+1+1+1) 3 (iV cn)).setCell ⟨w.heap.size+1+1+1,4,none⟩ (iV cn)) (w.heap.size+1+1+1) (FlR proto src ci cn cn)):=(((((HHz.set 0 (iV proto)).set 1 (.string src)).set 2 (.string ci)).set 3 (iV cn)).set 4 (iV cn));have RB:Hid _:=(((((S2.out.b.setCell (p:=⟨w.heap.size+1+1+1,0,none⟩) hRw (iV proto)).setCell (p:=⟨w.heap.size+1+1+1,1,none⟩) hRw (.string src)).setCell (p:=⟨w.heap.size+1+1+1,2,none⟩) hRw (.string ci)).setCell (p:=⟨w.heap.size+1+1+1,3,none⟩) hRw (iV cn)).setCell (p:=⟨w.heap.size+1+1+1,4,none⟩) hRw (iV cn));clear HHz;go_wp2_with fail
  exact bodyPost_ret (results_mid Tryz.results207 _ _ (w.heap.size+1+1+1) (FlR proto src ci cn cn) _ rfl HRR.out Tryz.underlying91 rfl (show (Tryz.prog.info? 91).map (·.size)=some 5 by kernel_rfl)) rfl (And.intro rfl RB.out)
def wordsB (ws:List Int):ByteArray:=⟨((layL ws).map (fun x=>UInt8.ofNat x.toNat)).toArray⟩
theorem wordsB_size (ws:List Int):(wordsB ws).size=2*ws.length:=by
 unfold wordsB ByteArray.size;simp [layL_length]
theorem words_conv {w:World} {b cap n:Nat} {ws:List Int} (hn:n=2*ws.length) (hw:∀ m∈ws,0≤m∧m≤65535) (hc:∀ i,i < n→w.cell? ⟨b,i,none⟩=some (.int .u8 (fL ws i))) :
  (convert 137 9 (.slice (some ⟨b,0,none⟩) n cap)).run Tryz.prog w=.ok (.string (wordsB ws)) w:=by
 have hl:=layL_length ws;have e:n=((layL ws).map (fun x=>UInt8.ofNat x.toNat)).length:=by simp [hl,hn]
 rw [e];refine run_convert_bytes_back (P:=Tryz.prog) w 137 9 5 ⟨b,0,none⟩ cap ((layL ws).map (fun x=>UInt8.ofNat x.toNat)) Tryz.underlying137 Tryz.underlying5 Tryz.underlying9 ?_;intro j hj;have hj2:j < (layL ws).length:=by simpa using hj
 have hb:=fL_byte ws hw j;have e2:fL ws j=(layL ws)[j]:=by simp [fL,List.getD,hj2]
 rw [e2] at hb;have e3:Addr.add ⟨b,0,none⟩ j=⟨b,j,none⟩:=by simp [Addr.add]; omega
 rw [e3,List.getElem_map,u8_ofNat _ hb.1 hb.2,← e2];exact hc j (by omega)
theorem wordsB_four (p n:Int) (hp:0≤p∧p≤255):pairV 0 p++twoV n=wordsB [p,n]:=by
 have e1:p / 256=0:=by omega
 have e2:p % 256=p:=by omega
 simp only [wordsB,layL,e1,e2];rfl
theorem wordsB_six (p n:Int) (hp:0≤p∧p≤255) (hn:0≤n∧n≤65535):twoV (n / 65536)++twoV (n % 65536)++quadW 0 p=wordsB [n / 65536,n,0,p]:=by
 have e1:p / 256=0:=by omega
 have e2:p % 256=p:=by omega
 have e3:n % 65536=n:=by omega
 simp only [wordsB,layL,e1,e2,e3];rfl
theorem ipPseudo_any (s d:ByteArray) (p:Int) (n:Nat) (w:World) (hs:s.size=4∨s.size=16) (hd:d.size≤16) (hp:0≤p∧p≤255) (hn:n≤65535) :
  Cb 179 #[.string s,.string d,iV p,iV n] w (.string (pseudoV s d p n)):=by
 have n1:¬ 9223372036854775807 < s.size+d.size:=by omega
 rcases hs with hs | hs
 ·have d4:((s.size:Int)==16)=false:=by simp; omega
  by_cases h1:p=1
  ·have d1:(p==1)=true:=by simp [h1]
   have HV:Hid (pseudoV s d p n=⟨#[]⟩):=by unfold Hid pseudoV; rw [if_pos ⟨h1,hs⟩]
   generalize pseudoV s d p n=ans at *;clear h1;go_enter Tryz.func179,Tryz.ntmps179
   go_wp2_with fail
   go_ret;exact ⟨ret_string HV.out.symm,Below.refl _ _⟩
  ·have d1:(p==1)=false:=by simp [h1]
   have HV:Hid (pseudoV s d p n=s++d++wordsB [p,(n:Int)]):=by
    unfold Hid pseudoV;rw [if_neg (fun h=>h1 h.1),if_pos hs,← wordsB_four p n hp,ByteArray.append_assoc (a:=s++d)]
   generalize pseudoV s d p n=ans at *;have hws:∀ m∈[p,(n:Int)],0≤m∧m≤65535:=by intro m hm; simp at hm; rcases hm with rfl | rfl<;>omega
   have HL:Hid (Calls Tryz.prog 160 #[.slice (some ⟨w.heap.size,0,none⟩) 2 2] (w.alloc (.cells #[iV p,iV n] 2)) fun e w' =>
    e=.returned (.slice (some ⟨w.heap.size+1,0,none⟩) 4 4)∧(∀ i,i < 4→w'.cell? ⟨w.heap.size+1,i,none⟩=some (.int .u8 (fL [p,(n:Int)] i)))∧Below w.heap.size w w'):=layAt [p,(n:Int)] w (by simp) hws
   have HW:Hid (∀ m∈[p,(n:Int)],0≤m∧m≤65535):=hws;have z:=wordsB_size [p,(n:Int)];simp at z;have n2:¬ 9223372036854775807 < s.size+d.size+(wordsB [p,(n:Int)]).size:=by omega
   clear hws h1;go_enter Tryz.func179,Tryz.ntmps179
   go_wp2_with fail
   refine HL.out.mono ?_;rintro e w1 ⟨rfl,hc,hB⟩;have hcv:=words_conv (cap:=4) (by simp) HW.out hc;have HB:Hid (Below w.heap.size w w1):=hB;clear hc hB HL;generalize wordsB [p,(n:Int)]=u at *;go_wp2_with fail
   go_ret;exact ⟨ret_string HV.out.symm,HB.out⟩
 ·have d4:((s.size:Int)==16)=true:=by simp; omega
  have HV:Hid (pseudoV s d p n=s++d++wordsB [(n:Int) / 65536,(n:Int),0,p]):=by
   unfold Hid pseudoV;rw [if_neg (by omega),if_neg (by omega),← wordsB_six p n hp (by omega),ByteArray.append_assoc (a:=s++d),ByteArray.append_assoc (a:=s++d)]
  generalize pseudoV s d p n=ans at *;have hws:∀ m∈[(n:Int) / 65536,(n:Int),0,p],0≤m∧m≤65535:=by intro m hm; simp at hm; rcases hm with rfl | rfl | rfl | rfl<;>omega
  have HL:Hid (Calls Tryz.prog 160 #[.slice (some ⟨w.heap.size,0,none⟩) 4 4] (w.alloc (.cells #[iV ((n:Int) / 65536),iV n,iV 0,iV p] 2)) fun e w' =>
   e=.returned (.slice (some ⟨w.heap.size+1,0,none⟩) 8 8)∧(∀ i,i < 8→w'.cell? ⟨w.heap.size+1,i,none⟩=some (.int .u8 (fL [(n:Int) / 65536,(n:Int),0,p] i)))∧Below w.heap.size w w'):=layAt [(n:Int) / 65536,(n:Int),0,p] w (by simp) hws
  have HW:Hid (∀ m∈[(n:Int) / 65536,(n:Int),0,p],0≤m∧m≤65535):=hws;have z:=wordsB_size [(n:Int) / 65536,(n:Int),0,p];simp at z;have n2:¬ 9223372036854775807 < s.size+d.size+(wordsB [(n:Int) / 65536,(n:Int),0,p]).size:=by omega
  clear hws;go_enter Tryz.func179,Tryz.ntmps179
  go_wp2_with fail
  refine HL.out.mono ?_;rintro e w1 ⟨rfl,hc,hB⟩;have hcv:=words_conv (cap:=8) (by simp) HW.out hc;have HB:Hid (Below w.heap.size w w1):=hB;clear hc hB HL;generalize wordsB [(n:Int) / 65536,(n:Int),0,p]=u at *;go_wp2_with fail
  go_ret;exact ⟨ret_string HV.out.symm,HB.out⟩
theorem ipLacks_any (p:Int) (t:ByteArray) (w:World) (h8:8≤t.size) (ht:t.size≤1048576) :
  Cw 157 #[iV p,.string t] w (.bool (decide (p=17)&&decide (wordN (bt t) 6=0))):=by
 have HW:Hid (∀ W,Cw 134 #[.string t,iV (6:Nat)] W (iV (wordN (bt t) 6))):=fun W=>wordFromS_any t 6 W (by omega) (by unfold maxLen; omega)
 have dq:(wordN (bt t) 6==0)=decide (wordN (bt t) 6=0):=rfl;generalize decide (wordN (bt t) 6=0)=q at *;generalize wordN (bt t) 6=x at *;by_cases h:p=17
 ·have d1:(p==17)=true:=by simp [h]
  rw [decide_eq_true h];clear h;go_enter Tryz.func157,Tryz.ntmps157
  go_wp2_with fail
  refine (HW.out _).mono ?_;rintro e w2 ⟨rfl,rfl⟩;go_wp2_with fail
  go_ret;exact ⟨rfl,rfl⟩
 ·have d1:(p==17)=false:=by simp [h]
  rw [decide_eq_false h];clear h;go_enter Tryz.func157,Tryz.ntmps157
  go_wp2_with fail
  go_ret;exact ⟨rfl,rfl⟩
structure CurAt (w:World) (B b cap:Nat) (t:ByteArray) (k:Nat):Prop where
 c0:w.cell? ⟨B,0,none⟩=some (.slice (some ⟨b,0,none⟩) t.size cap)
 f0:w.frozen? ⟨B,0,none⟩=false
 c1:w.cell? ⟨B,1,none⟩=some (iV k)
 f1:w.frozen? ⟨B,1,none⟩=false
 bs:∀ i,i < t.size→w.cell? ⟨b,i,none⟩=some (.int .u8 (bt t i))
 ne:b≠B
 lt:b < w.heap.size
 cp:t.size≤cap
theorem CurAt.kept {w W:World} {B b cap:Nat} {t:ByteArray} {k:Nat} (h:CurAt w B b cap t k) (hB:Below w.heap.size w W):CurAt W B b cap t k:=by
 have hb:=World.block_lt_of_cell? w _ h.c0;exact ⟨((bcell hB).1 B 0 hb).trans h.c0,((bcell hB).2 B 0 hb).trans h.f0,((bcell hB).1 B 1 hb).trans h.c1,((bcell hB).2 B 1 hb).trans h.f1,fun i hi=>((bcell hB).1 b i h.lt).trans (h.bs i hi),h.ne,Nat.lt_of_lt_of_le h.lt hB.size,h.cp⟩
theorem CurAt.step {w:World} {B b cap:Nat} {t:ByteArray} {k:Nat} (h:CurAt w B b cap t k) (k':Nat):CurAt (w.setCell ⟨B,1,none⟩ (iV k')) B b cap t k':=by
 refine ⟨?_,by simpa using h.f0,World.cell?_setCell_same _ _ _ h.c1,by simpa using h.f1,fun i hi=>?_,h.ne,by simpa using h.lt,h.cp⟩
 ·rw [World.cell?_setCell_other _ _ _ _ (fun e=>by injection e with _ h2; omega)]; exact h.c0
 ·rw [World.cell?_setCell_other _ _ _ _ (fun e=>by injection e with h1 _; exact h.ne h1.symm)]; exact h.bs i hi
theorem CurAt.other {w:World} {B b cap:Nat} {t:ByteArray} {k:Nat} (h:CurAt w B b cap t k) {C o:Nat} (v:Value) (h1:C≠B) (h2:C≠b):CurAt (w.setCell ⟨C,o,none⟩ v) B b cap t k:=by
 have hc:∀ X j,C≠X→(w.setCell ⟨C,o,none⟩ v).cell? ⟨X,j,none⟩=w.cell? ⟨X,j,none⟩:=fun X j hX=>World.cell?_setCell_other w _ _ v (fun e=>hX (congrArg Addr.block e))
 exact ⟨(hc B 0 h1).trans h.c0,by simpa using h.f0,(hc B 1 h1).trans h.c1,by simpa using h.f1,fun i hi=>(hc b i h2).trans (h.bs i hi),h.ne,by simpa using h.lt,h.cp⟩
theorem bt_list {s:ByteArray} {j:Nat} (h:j < s.data.toList.length):(s.data.toList[j].toNat:Int)=bt s j:=by
 have h':j < s.size:=by rw [Array.length_toList] at h; exact h
 unfold bt;rw [dif_pos h',ByteArray.getElem_eq_getElem_data];simp
open Go.Lib
theorem strCells_append (a b:ByteArray):strCells (a++b)=strCells a++strCells b:=by
 unfold strCells; rw [ByteArray.data_append]; simp
theorem strCells_two (n:Int) (h0:0≤n) (h1:n≤65535):strCells (twoV n)=[.int .u8 (n / 256),.int .u8 (n % 256)]:=by
 have e1:=u8_ofNat (n / 256) (by omega) (by omega);have e2:=u8_ofNat (n % 256) (by omega) (by omega);simp only [strCells,twoV,twoL,List.map_cons,List.map_nil,e1,e2]
theorem strCells_at (s:ByteArray) (i:Nat) (h:i < s.size):(strCells s)[i]?=some (.int .u8 (bt s i)):=by
 have h':i < s.data.toList.length:=by rw [Array.length_toList]; exact h
 unfold strCells;rw [List.getElem?_map,List.getElem?_eq_getElem h',Option.map_some,bt_list h']
def IsWords (ws:List Int):Value→World→Prop:=fun v w=>∃ b,v=.slice (some ⟨b,0,none⟩) ws.length ws.length∧b < w.heap.size∧∀ k,k < ws.length→w.cell? ⟨b,k,none⟩=some (iV (ws.getD k 0))
theorem stable_isWords (ws:List Int):Stable (IsWords ws):=fun v w w' ⟨b,h1,h2,h3⟩ hb=>⟨b,h1,Nat.lt_of_lt_of_le h2 hb.size,fun k hk=>((bcell hb).1 b k h2).trans (h3 k hk)⟩
theorem owns_kept {w W:World} {base e n:Nat} {v:Value} {xs:List Value} (h:w.ownsRow base e 1 v n xs) (hB:Below w.heap.size w W):W.ownsRow base e 1 v n xs:=by
 obtain ⟨h1,h2⟩:=h;refine ⟨h1,?_⟩;rcases h2 with h2 | ⟨g,cap,cur,q1,q2,q3,q4⟩
 ·exact .inl h2
 ·exact .inr ⟨g,cap,cur,q1,q2,by rw [hB.block g (Array.getElem?_eq_some_iff.1 q3).1]; exact q3,q4⟩
theorem owns_base {w:World} {base base' e n:Nat} {v:Value} {xs:List Value} (h:w.ownsRow base e 1 v n xs) (hB:base'≤base):w.ownsRow base' e 1 v n xs:=by
 obtain ⟨h1,h2⟩:=h;refine ⟨h1,?_⟩;rcases h2 with h2 | ⟨g,cap,cur,q1,q2,q3,q4⟩
 ·exact .inl h2
 ·exact .inr ⟨g,cap,cur,q1,Nat.le_trans hB q2,q3,q4⟩
def IsOwn (base e n:Nat) (xs:List Value):Value→World→Prop:=fun v w=>∃ g,v=.slice (some ⟨g,0,none⟩) n n∧w.ownsRow base e 1 v n xs
theorem stable_isOwn (base e n:Nat) (xs:List Value):Stable (IsOwn base e n xs):=fun v w w' ⟨g,h1,h2⟩ hb=>⟨g,h1,owns_kept h2 hb⟩
def zs (n:Nat):ByteArray:=⟨Array.replicate n 0⟩
theorem lay_at {w:World} {g o:Nat} {A Z B s:ByteArray} (h:HoldsL w g (strCells (A++Z++B))) (hA:A.size=o) (hZ:Z.size=s.size):HoldsL (w.setCells g o (strCells s)) g (strCells (A++s++B)):=by
 have hl:(strCells (A++Z++B)).length=o+s.size+B.size:=by rw [strCells_length]; simp only [ByteArray.size_append]; omega
 have:=h.setRange o (strCells s) (by rw [hl,strCells_length]; omega);rw [strCells_length] at this;rw [strCells_append,strCells_append] at this ⊢;rw [List.append_assoc (strCells A),List.take_left' (by rw [strCells_length]; exact hA),← List.append_assoc,List.drop_left' (by rw [List.length_append,strCells_length,strCells_length]; omega)] at this;exact this
theorem below_setCells {w W:World} {B g:Nat} (h:Below B w W) (hg:B≤g):∀ (cs:List Value) (o:Nat),Below B w (W.setCells g o cs)
 | [],o=>h
 | c::cs,o=>by rw [World.setCells]; exact below_setCells (h.setCell (p:=⟨g,o,none⟩) hg c) hg cs (o+1)
theorem Bxs.cells {w wx:World} {ks:List (Nat × List Value)} (h:Bxs w ks wx) {g:Nat} (hne:∀ e∈ks,e.1≠g) (hg:w.heap.size≤g) {o:Nat} {cs:List Value}:Bxs w ks (wx.setCells g o cs) :=
 ⟨fun e he=>(h.k e he).setCellsOther (hne e he) cs,below_setCells h.b hg cs o,h.z⟩
theorem hold_bt {w:World} {g:Nat} {t:ByteArray} (h:HoldsL w g (strCells t)) (i:Nat) (hi:i < t.size):w.cell? ⟨g,i,none⟩=some (.int .u8 (bt t i)):=h.cell (strCells_at t i hi)
end Go.Proofs.YtcckaeppiamebaaGreatDoor
namespace Go.Proofs.YtcckaeppiamebaaGreatDoor
open Go.RowKit Go.PlainAid
theorem ipPlace_any (p:Int) (w:World) :
  Cw 159 #[iV p] w (iV (checkP p:Nat)):=by
 by_cases h1:p=6
 ·subst h1;go_enter Tryz.func159,Tryz.ntmps159
  go_wp2_with fail
  go_ret;exact ⟨rfl,rfl⟩
 ·have d1:(p==6)=false:=by simp [h1]
  by_cases h2:p=17
  ·subst h2;go_enter Tryz.func159,Tryz.ntmps159
   go_wp2_with fail
   go_ret;exact ⟨rfl,rfl⟩
  ·have d2:(p==17)=false:=by simp [h2]
   have HV:Hid (checkP p=2):=by unfold Hid checkP; rw [if_neg h1,if_neg h2]
   generalize checkP p=ans at *;go_enter Tryz.func159,Tryz.ntmps159
   go_wp2_with fail
   go_ret;exact ⟨ret_int (by rw [HV.out]; rfl),rfl⟩
theorem ipLike_any (a b:Int) (w:World) :
  Cw 156 #[iV a,iV b] w (.bool (decide (a=b)||(echoP a&&echoP b))):=by
 have HA:Hid (∀ W,Cw 101 #[iV a] W (.bool (echoP a))):=fun W=>implEcho_any a W
 have HB:Hid (∀ W,Cw 101 #[iV b] W (.bool (echoP b))):=fun W=>implEcho_any b W
 have hun:undef=Value.tuple #[]:=rfl;by_cases h:a=b
 ·have d1:(a==b)=true:=by simp [h]
  have HV:Hid ((decide (a=b)||(echoP a&&echoP b))=true):=by unfold Hid; simp [h]
  generalize (decide (a=b)||(echoP a&&echoP b))=ans at *;clear h HA HB;go_enter Tryz.func156,Tryz.ntmps156
  go_wp2_with fail
  go_ret;exact ⟨ret_bool (by rw [HV.out]),rfl⟩
 ·have d1:(a==b)=false:=by simp [h]
  have HV:Hid ((decide (a=b)||(echoP a&&echoP b))=(echoP a&&echoP b)):=by unfold Hid; simp [h]
  generalize (decide (a=b)||(echoP a&&echoP b))=ans at *;generalize echoP a=ea at *;generalize echoP b=eb at *;clear h
  cases ea with
  | false =>
   go_enter Tryz.func156,Tryz.ntmps156
   go_wp2_with fail
   refine (HA.out _).mono ?_;rintro e w2 ⟨rfl,rfl⟩;go_wp2_with fail
   go_ret;exact ⟨ret_bool (by rw [HV.out]; rfl),rfl⟩
  | true =>
   go_enter Tryz.func156,Tryz.ntmps156
   go_wp2_with fail
   refine (HA.out _).mono ?_;rintro e w2 ⟨rfl,rfl⟩;go_wp2_with fail
   refine (HB.out _).mono ?_;rintro e w3 ⟨rfl,rfl⟩;go_wp2_with fail
   go_ret;exact ⟨ret_bool (by rw [HV.out]; rfl),rfl⟩
theorem ipSetPart_any (p:Int) (t:ByteArray) (w:World) (h8:8≤t.size) (ht:t.size≤1048576) :
  Cb 178 #[iV p,.string t] w (.string (setPartV p t)):=by
 have HE:Hid (∀ W,Cw 101 #[iV p] W (.bool (echoP p))):=fun W=>implEcho_any p W
 have L1:∀ W,(Instr.slice 9 (.string t) none (some (iV 4)) none).run Tryz.prog W=.ok (.string (t.extract 0 4)) W:=fun W=>run_slice_string_h (P:=Tryz.prog) (t:=9) (s:=t) (w:=W) (ht:=Tryz.underlying9) .i64 (4:Int) (by omega) (by omega)
 have L2:∀ W,(Instr.slice 9 (.string t) none (some (iV 2)) none).run Tryz.prog W=.ok (.string (t.extract 0 2)) W:=fun W=>run_slice_string_h (P:=Tryz.prog) (t:=9) (s:=t) (w:=W) (ht:=Tryz.underlying9) .i64 (2:Int) (by omega) (by omega)
 have L3:∀ W,(Instr.slice 9 (.string t) (some (iV 4)) (some (iV 6)) none).run Tryz.prog W=.ok (.string (t.extract 4 6)) W:=fun W=>str_slice5 t 4 6 W (by omega) (by omega)
 have z1:(t.extract 0 4).size=4:=by rw [ByteArray.size_extract]; omega
 have z2:(t.extract 0 2).size=2:=by rw [ByteArray.size_extract]; omega
 have z3:(t.extract 4 6).size=2:=by rw [ByteArray.size_extract]; omega
 have HV:Hid (setPartV p t=if echoP p=true then t.extract 0 2++t.extract 4 6 else t.extract 0 4):=rfl;generalize t.extract 0 4=u1 at *;generalize t.extract 0 2=u2 at *;generalize t.extract 4 6=u3 at *;generalize setPartV p t=ans at *;have n1:¬ 9223372036854775807 < u2.size+u3.size:=by omega
 generalize echoP p=b at *
 cases b with
 | false =>
  replace HV:Hid (ans=u1):=HV.out;go_enter Tryz.func178,Tryz.ntmps178
  go_wp2_with fail
  refine (HE.out _).mono ?_;rintro e w2 ⟨rfl,rfl⟩;go_wp2_with fail
  go_ret;exact ⟨by rw [HV.out]; rfl,Below.refl _ _⟩
 | true =>
  replace HV:Hid (ans=u2++u3):=HV.out;go_enter Tryz.func178,Tryz.ntmps178
  go_wp2_with fail
  refine (HE.out _).mono ?_;rintro e w2 ⟨rfl,rfl⟩;go_wp2_with fail
  go_region
  all_goals go_wp2_with fail
  all_goals go_ret
  all_goals exact ⟨by rw [HV.out]; rfl,(Below.refl _ _).drew⟩
theorem Bxs.setHead {w0 W:World} {ks:List (Nat × List Value)} {C:Nat} {v:Value} (h:Bxs w0 ((C,[v])::ks) W) (hC:w0.heap.size≤C) (hks:∀ e∈ks,e.1≠C) (u:Value):Bxs w0 ((C,[u])::ks) (W.setCell ⟨C,0,none⟩ u) :=
 ⟨fun e he=>by
  rcases List.mem_cons.1 he with rfl | he
  ·exact (h.k _ mE0).set 0 u
  ·exact HoldsL.setOther (h.k e (.tail _ he)) (hks e he) u,h.b.setCell (p:=⟨C,0,none⟩) hC u,fun e he=>by
  rcases List.mem_cons.1 he with rfl | he
  ·exact Nat.zero_lt_one
  ·exact h.z e (.tail _ he)⟩
theorem Bxs.tl {w0 W:World} {k:Nat × List Value} {ks:List (Nat × List Value)} (h:Bxs w0 (k::ks) W):Bxs w0 ks W:=⟨fun e he=>h.k e (.tail _ he),h.b,fun e he=>h.z e (.tail _ he)⟩
theorem ipMTurn_any (ta tb:ByteArray) (c:Int) (C:Nat) (ks:List (Nat × List Value)) (w0 w:World) (ha:ta.size≤1048576) (hb':tb.size≤1048576) (hc:0≤c∧c≤65535) (hC:w0.heap.size≤C) (hks:∀ e∈ks,e.1≠C) (h:Bxs w0 ((C,[iV c])::ks) w) :
  Calls Tryz.prog 177 #[.pointer (some ⟨C,0,none⟩),.agg #[.string ta,.string tb]] w fun e w'=>e=.returned (.tuple #[])∧Bxs w0 ((C,[iV (turn1 c (sumV ta) (sumV tb))])::ks) w':=by
 have HA:Hid (∀ W,Cb 172 #[.string ta] W (iV (sumV ta))):=fun W=>(sumOfS_any ta W (by omega)).mono fun e w' h=>⟨h.1,by rw [h.2]; exact Below.refl _ _⟩
 have HB:Hid (∀ W,Cb 172 #[.string tb] W (iV (sumV tb))):=fun W=>(sumOfS_any tb W (by omega)).mono fun e w' h=>⟨h.1,by rw [h.2]; exact Below.refl _ _⟩
 have HT:Hid (∀ W,Cb 185 #[iV c,iV (sumV ta),iV (sumV tb)] W (iV (turn1 c (sumV ta) (sumV tb)))):=fun W=>(implSumTurn_any c (sumV ta) (sumV tb) W).mono fun e w' h=>⟨by rw [h.1,turnV_of hc (sumV_range ta) (sumV_range tb)],h.2⟩
 have hlt:C < w.heap.size:=(h.k _ mE0).lt (by simp);have HS0:Hid (Bxs w0 ((w.heap.size,[.string ta,.string tb])::(C,[iV c])::ks) (w.alloc (.cells #[.string ta,.string tb] 214))):=h.push [.string ta,.string tb] (by simp) _;have HKS:Hid (∀ e∈ks,e.1≠C):=hks;generalize sumV ta=sa at *;generalize sumV tb=sb at *;generalize turn1 c sa sb=tc at *;clear h hks;go_enter Tryz.func177,Tryz.ntmps177
 go_upto_region 1 with fail
 generalize (w.alloc (.cells #[.string ta,.string tb] 214))=W1 at *;generalize w.heap.size=P at *;have HCP:Hid (∀ wy,Below W1.drew.heap.size W1.drew wy→_):=fun wy hy=>HS0.out.kept ((Below.refl _ _).drew.trans hy)
 clear HS0;refine wp_region_growV [4,5,6,7,8,9,10,11,12,13,14,15,16,17] (by kernel_rfl) (by kernel_rfl) ?_;apply GChV.v0
 ·rfl
 ·intro K' a wy ho hd hb hK kz;have o0:=ho 0 (by decide);simp [slot] at o0;clear hd ho;go_simp;try go_bits
  exact kz _ rfl
 apply GChV.v1
 ·rfl
 ·intro K' a wy ho hd hb hK kz;have o0:=ho 0 (by decide);simp [slot] at o0;clear hd ho;go_simp;try go_bits
  exact kz _ rfl
 apply GChV.v2
 ·rfl
 ·intro K' a wy ho hd hb hK kz;have q1:=hd ⟨1,.data⟩ (by simp) rfl;simp [rAt,IsV,slot] at q1;clear hd ho;go_simp;try go_bits
  exact kz _ rfl
 apply GChV.v3
 ·rfl
 ·intro K' a wy ho hd hb hK kz;have q2:=hd ⟨2,.data⟩ (by simp) rfl;simp [rAt,IsV,slot] at q2;clear hd ho;go_simp;try go_bits
  exact kz _ rfl
 apply GChV.v4
 ·rfl
 ·intro K' a wy ho hd hb hK kz;have q3:=hd ⟨3,.data⟩ (by simp) rfl;simp [rAt,IsV,slot] at q3;clear hd ho;have hst:=HCP.out wy hb;have HHp:=hst.at mE0;have HHc:=hst.at mE1;obtain ⟨p0,p1⟩:=HHp.c2;have c0:=HHc.cell (j:=0) rfl;clear hst HHp HHc;go_simp;try go_bits
  exact kz _ rfl
 apply GChV.v5
 ·rfl
 ·intro K' a wy ho hd hb hK kz;have o3:=ho 3 (by decide);simp [slot] at o3;clear hd ho;go_simp;try go_bits
  exact kz _ rfl
 apply GChV.v6
 ·rfl
 ·intro K' a wy ho hd hb hK kz;have q5:=hd ⟨5,.data⟩ (by simp) rfl;simp [rAt,IsV,slot] at q5;clear hd ho;have hst:=HCP.out wy hb;have HHp:=hst.at mE0;have HHc:=hst.at mE1;obtain ⟨p0,p1⟩:=HHp.c2;have c0:=HHc.cell (j:=0) rfl;clear hst HHp HHc;go_simp;try go_bits
  exact kz _ rfl
 apply GChV.v7
 ·rfl
 ·intro K' a wy ho hd hb hK kz;have q6:=hd ⟨6,.data⟩ (by simp) rfl;simp [rAt,IsV,slot] at q6;clear hd ho;go_simp;refine (HA.out wy).mono ?_;rintro e wz ⟨rfl,hz⟩;exact hK _ _ rfl hz
 apply GChV.v8
 ·rfl
 ·intro K' a wy ho hd hb hK kz;have o3:=ho 3 (by decide);simp [slot] at o3;clear hd ho;go_simp;try go_bits
  exact kz _ rfl
 apply GChV.v9
 ·rfl
 ·intro K' a wy ho hd hb hK kz;have q8:=hd ⟨8,.data⟩ (by simp) rfl;simp [rAt,IsV,slot] at q8;clear hd ho;have hst:=HCP.out wy hb;have HHp:=hst.at mE0;have HHc:=hst.at mE1;obtain ⟨p0,p1⟩:=HHp.c2;have c0:=HHc.cell (j:=0) rfl;clear hst HHp HHc;go_simp;try go_bits
  exact kz _ rfl
 apply GChV.v10
 ·rfl
 ·intro K' a wy ho hd hb hK kz;have q9:=hd ⟨9,.data⟩ (by simp) rfl;simp [rAt,IsV,slot] at q9;clear hd ho;go_simp;refine (HB.out wy).mono ?_;rintro e wz ⟨rfl,hz⟩;exact hK _ _ rfl hz
 apply GChV.v11
 ·rfl
 ·intro K' a wy ho hd hb hK kz;have q4:=hd ⟨4,.data⟩ (by simp) rfl;have q7:=hd ⟨7,.data⟩ (by simp) rfl;have q10:=hd ⟨10,.data⟩ (by simp) rfl;simp [rAt,IsV,slot] at q4 q7 q10;clear hd ho;go_simp;refine (HT.out wy).mono ?_;rintro e wz ⟨rfl,hz⟩;exact hK _ _ rfl hz
 apply GChV.v12
 ·rfl
 ·intro K' a wy ho hd hb hK kz;have q0:=hd ⟨0,.data⟩ (by simp) rfl;simp [rAt,IsV,slot] at q0;clear hd ho;go_simp;try go_bits
  exact kz _ rfl
 apply GChV.v13
 ·rfl
 ·intro K' a wy ho hd hb hK kz;have q12:=hd ⟨12,.data⟩ (by simp) rfl;simp [rAt,IsV,slot] at q12;clear hd ho;go_simp;try go_bits
  exact kz _ rfl
 intro X wz hR hz;obtain ⟨x0,x1,x2,x3,x4,x5,x6,x7,x8,x9,x10,x11,x12,x13,-⟩:=hR;simp only [IsV] at x0 x1 x2 x3 x4 x5 x6 x7 x8 x9 x10 x11 x12 x13;simp only [putsFrom,x0,x1,x2,x3,x4,x5,x6,x7,x8,x9,x10,x11,x12,x13];clear x0 x1 x2 x3 x4 x5 x6 x7 x8 x9 x10 x11 x12 x13;have hst:=HCP.out wz hz;have HF:Hid (Bxs w0 ((C,[iV tc])::ks) (wz.setCell ⟨C,0,none⟩ (iV tc))):=hst.tl.setHead hC HKS.out _;have HHc:=hst.at mE1;have c0:=HHc.cell (j:=0) rfl;have f0:=HHc.free (j:=0) (by simp);clear hst HHc HCP HKS;intro K10 hK10;go_simp;refine hK10 _ _ ?_;simp only [wpSeq];go_end0
 exact ⟨rfl,HF.out⟩
theorem ipEach_any (a b a' b':ByteArray) (c:Int) (C R:Nat) (ks:List (Nat × List Value)) (w0 w:World) (ha:a.size≤1048576) (hb:b.size≤1048576) (ha':a'.size≤1048576) (hb':b'.size≤1048576) (hc:0≤c∧c≤65535) (hC:w0.heap.size≤C) (hR:R≠C) (hks:∀ e∈ks,e.1≠C) (h:Bxs w0 ((C,[iV c])::(R,[.string a,.string b,.string a',.string b'])::ks) w) :
  Calls Tryz.prog 176 #[.func (.func 177) #[.pointer (some ⟨C,0,none⟩)] #[],.slice (some ⟨R,0,none⟩) 2 2] w fun e w'=>e=.returned (.tuple #[])∧Bxs w0 ((C,[iV (turn1 (turn1 c (sumV a) (sumV b)) (sumV a') (sumV b'))])::(R,[.string a,.string b,.string a',.string b'])::ks) w':=by
 have r1:=turn1_range hc (sumV_range a) (sumV_range b);have HKR:Hid (∀ e∈(R,[Value.string a,.string b,.string a',.string b'])::ks,e.1≠C):=fun e he=>by
  rcases List.mem_cons.1 he with rfl | he
  ·exact hR
  ·exact hks e he
 have H1:Hid (∀ W ls,(∀ e∈ls,e.1≠C)→Bxs w0 ((C,[iV c])::ls) W→Calls Tryz.prog 177 #[.pointer (some ⟨C,0,none⟩),.agg #[.string a,.string b]] W fun e w'=>e=.returned (.tuple #[])∧Bxs w0 ((C,[iV (turn1 c (sumV a) (sumV b))])::ls) w'):=fun W ls hl hW=>ipMTurn_any a b c C ls w0 W ha hb hc hC hl hW
 have H2:Hid (∀ W ls,(∀ e∈ls,e.1≠C)→Bxs w0 ((C,[iV (turn1 c (sumV a) (sumV b))])::ls) W→Calls Tryz.prog 177 #[.pointer (some ⟨C,0,none⟩),.agg #[.string a',.string b']] W fun e w'=>e=.returned (.tuple #[])∧Bxs w0 ((C,[iV (turn1 (turn1 c (sumV a) (sumV b)) (sumV a') (sumV b'))])::ls) w'):=fun W ls hl hW=>ipMTurn_any a' b' _ C ls w0 W ha' hb' r1 hC hl hW
 have HS0:Hid _:=h;generalize turn1 (turn1 c (sumV a) (sumV b)) (sumV a') (sumV b')=c2 at *;generalize turn1 c (sumV a) (sumV b)=c1 at *;clear h hks r1 ha hb ha' hb' hc;go_enter Tryz.func176,Tryz.ntmps176
 go_wp2_with fail
 go_loopw [8] (fun i wr=>∃ k:Nat,k≤2∧i=iV k∧Bxs w0 ((C,[iV (if k=0 then c else if k=1 then c1 else c2)])::(R,[.string a,.string b,.string a',.string b'])::ks) wr) (fun i _=>2-(intOf i).toNat)
 case atStart=>exact ⟨0,by omega,rfl,HS0.out⟩
 case round =>
  obtain ⟨k,hk,rfl,hst⟩:=hrel;clear HS0;match k,hk with
  | 0,_ =>
   have S1:Hid (Bxs w0 ((C,[iV c])::(R,[.string a,.string b,.string a',.string b'])::ks) wr):=hst;have HHr:=S1.out.at mE1;obtain ⟨q0,q1⟩:=HHr.c2;clear HHr hst;have B1:Hid (Below wr.heap.size wr (wr.alloc (.cells #[.string a,.string b] 214))):=(Below.refl _ _).alloc (Nat.le_refl _) _;go_wp2_with fail
   refine (H1.out _ _ HKR.out (S1.out.kept B1.out)).mono ?_;rintro e w2 ⟨rfl,hb2⟩;have S2:Hid _:=hb2;clear hb2 S1 B1;go_wp2_with fail
   go_roundw
   case rel=>exact ⟨1,by omega,by go_num,S2.out⟩
   case measure=>simp [intOf]
  | 1,_ =>
   have S1:Hid (Bxs w0 ((C,[iV c1])::(R,[.string a,.string b,.string a',.string b'])::ks) wr):=hst;have HHr:=S1.out.at mE1;obtain ⟨-,-,q2,q3⟩:=HHr.c4;clear HHr hst;have B1:Hid (Below wr.heap.size wr (wr.alloc (.cells #[.string a',.string b'] 214))):=(Below.refl _ _).alloc (Nat.le_refl _) _;go_wp2_with fail
   refine (H2.out _ _ HKR.out (S1.out.kept B1.out)).mono ?_;rintro e w2 ⟨rfl,hb2⟩;have S2:Hid _:=hb2;clear hb2 S1 B1;go_wp2_with fail
   go_roundw
   case rel=>exact ⟨2,by omega,by go_num,S2.out⟩
   case measure=>simp [intOf]
  | 2,_ =>
   have S1:Hid (Bxs w0 ((C,[iV c2])::(R,[.string a,.string b,.string a',.string b'])::ks) wr):=hst;clear hst;go_wp2_with fail
   go_end0
   exact ⟨rfl,S1.out⟩
def IsPr (base:Nat) (vs:List Value):Value→World→Prop:=fun v w=>∃ b,v=.slice (some ⟨b,0,none⟩) 2 2∧base≤b∧HoldsL w b vs
theorem stable_isPr (base:Nat) (vs:List Value) (h:0 < vs.length):Stable (IsPr base vs):=fun v w w' ⟨b,h1,h2,h3⟩ hb=>⟨b,h1,h2,h3.kept h hb⟩
theorem checkP_lt {p:Int} {n:Nat} (h8:8≤n) (hp:p=6→20≤n):checkP p < n:=by
 unfold checkP;split
 ·rename_i h; have:=hp h; omega
 ·split<;>omega
theorem ipCheck_any (f g:Fl) (t u:ByteArray) (w:World) (h8:8≤t.size) (ht:t.size≤65535) (hp:f.proto=6→20≤t.size) (u8:8≤u.size) (hu:u.size≤65535) (fs:f.src.size=4∨f.src.size=16) (fd:f.dst.size≤16) (fp:0≤f.proto∧f.proto≤255) (gs:g.src.size=4∨g.src.size=16) (gd:g.dst.size≤16) (gp:0≤g.proto∧g.proto≤255) :
  Cb 161 #[fwC f,fwC g,.string t,.string u] w (iV (checkI f g t u)):=by
 have HPl:Hid (∀ W,Cw 159 #[iV f.proto] W (iV (checkP f.proto:Nat))):=fun W=>ipPlace_any _ W
 have HWd:Hid (∀ W,Cw 134 #[.string t,iV (checkP f.proto:Nat)] W (iV (wordN (bt t) (checkP f.proto)))):=fun W=>wordFromS_any t _ W (checkP_lt h8 hp) (by unfold maxLen; omega)
 have HP1:Hid (∀ W,Cb 178 #[iV f.proto,.string t] W (.string (setPartV f.proto t))):=fun W=>ipSetPart_any _ t W h8 (by omega)
 have HP2:Hid (∀ W,Cb 178 #[iV g.proto,.string u] W (.string (setPartV g.proto u))):=fun W=>ipSetPart_any _ u W u8 (by omega)
 have HH1:Hid (∀ W,Cb 179 #[.string f.src,.string f.dst,iV f.proto,iV t.size] W (.string (pseudoV f.src f.dst f.proto t.size))):=fun W=>ipPseudo_any _ _ _ _ W fs fd fp ht
 have HH2:Hid (∀ W,Cb 179 #[.string g.src,.string g.dst,iV g.proto,iV u.size] W (.string (pseudoV g.src g.dst g.proto u.size))):=fun W=>ipPseudo_any _ _ _ _ W gs gd gp hu
 have s1:=setPartV_size f.proto h8;have s2:=setPartV_size g.proto u8;have s3:=pseudoV_size f.src f.dst f.proto t.size (by omega) fd;have s4:=pseudoV_size g.src g.dst g.proto u.size (by omega) gd;have rc:=wordN_range (bt_isByte t) (checkP f.proto);have HV:Hid (checkI f g t u=if turn1 (turn1 (wordN (bt t) (checkP f.proto)) (sumV (setPartV f.proto t)) (sumV (setPartV g.proto u))) (sumV (pseudoV f.src f.dst f.proto t.size)) (sumV (pseudoV g.src g.dst g.proto u.size))=0 then 65535 else turn1 (turn1 (wordN (bt t) (checkP f.proto)) (sumV (setPartV f.proto t)) (sumV (setPartV g.proto u))) (sumV (pseudoV f.src f.dst f.proto t.size)) (sumV (pseudoV g.src g.dst g.proto u.size))):=rfl;have HEa:Hid (∀ C R ks W,w.heap.size≤C→R≠C→(∀ e∈ks,e.1≠C)→Bxs w ((C,[iV (wordN (bt t) (checkP f.proto))])::(R,[.string (setPartV f.proto t),.string (setPartV g.proto u),.string (pseudoV f.src f.dst f.proto t.size),.string (pseudoV g.src g.dst g.proto u.size)])::ks) W→Calls Tryz.prog 176 #[.func (.func 177) #[.pointer (some ⟨C,0,none⟩)] #[],.slice (some ⟨R,0,none⟩) 2 2] W fun e w'=>e=.returned (.tuple #[])∧Bxs w ((C,[iV (turn1 (turn1 (wordN (bt t) (checkP f.proto)) (sumV (setPartV f.proto t)) (sumV (setPartV g.proto u))) (sumV (pseudoV f.src f.dst f.proto t.size)) (sumV (pseudoV g.src g.dst g.proto u.size)))])::(R,[.string (setPartV f.proto t),.string (setPartV g.proto u),.string (pseudoV f.src f.dst f.proto t.size),.string (pseudoV g.src g.dst g.proto u.size)])::ks) w'):=fun C R ks W h1 h2 h3 h4=>ipEach_any _ _ _ _ _ C R ks w W (by omega) (by omega) (by omega) (by omega) rc h1 h2 h3 h4
 generalize turn1 (turn1 (wordN (bt t) (checkP f.proto)) (sumV (setPartV f.proto t)) (sumV (setPartV g.proto u))) (sumV (pseudoV f.src f.dst f.proto t.size)) (sumV (pseudoV g.src g.dst g.proto u.size))=c2 at *;generalize checkI f g t u=ans at *;obtain ⟨c,hc⟩ : ∃ c,c=wordN (bt t) (checkP f.proto):=⟨_,rfl⟩;rw [← hc] at HWd HEa;generalize setPartV f.proto t=p1 at *;generalize setPartV g.proto u=p2 at *;generalize pseudoV f.src f.dst f.proto t.size=p3 at *;generalize pseudoV g.src g.dst g.proto u.size=p4 at *;generalize (checkP f.proto)=pl at *;clear hc rc fs fd fp gs gd gp s1 s2 s3 s4 hp;obtain ⟨proto,src,dst,sp,dp⟩:=f;obtain ⟨proto',src',dst',sp',dp'⟩:=g;unfold fwC;dsimp only at *;have HS0:=bx2 w (FlR proto src dst sp dp) 91 (FlR proto' src' dst' sp' dp') 91 (by simp) (by simp)
 skip;go_enter Tryz.func161,Tryz.ntmps161
 go_upto_region 1 with fail
 generalize ((aW w (FlR proto src dst sp dp) 91).alloc (.cells (FlR proto' src' dst' sp' dp').toArray 91))=W0 at *;have HHk:=HS0.out.at mE0;obtain ⟨k0,k1,k2,k3,k4⟩:=HHk.c5;clear HHk;have hw0:w.heap.size≤W0.heap.size:=HS0.out.b.size;have hf0:w.heap.size < W0.heap.size:=(HS0.out.k _ mE0).lt (by simp);have hg0:w.heap.size+1 < W0.heap.size:=(HS0.out.k _ mE1).lt (by simp);have HS1:Hid (Bxs w ((W0.heap.size,[iV c])::[(w.heap.size,(FlR proto src dst sp dp)),(w.heap.size+1,(FlR proto' src' dst' sp' dp'))]) (W0.alloc (.cells #[iV c] 209))):=HS0.out.push [iV c] (by simp) _;go_upto_region 2 with (first | (go_at_call 159; refine (HPl.out _).mono ?_; rintro e W0 ⟨rfl,rfl⟩) | (go_at_call 134; refine (HWd.out _).mono ?_; rintro e W0 ⟨rfl,rfl⟩))
 clear HS0 HPl HWd k0 k1 k2 k3 k4;generalize (W0.alloc (.cells #[iV c] 209))=W1 at *;generalize W0.heap.size=C at *;have hcl:C < W1.heap.size:=(HS1.out.k _ mE0).lt (by simp);go_cut [46] (fun v wx=>Bxs w [(C,[iV c2])] wx)
 case first =>
  rename_i J K2 hJ hK2;have HCP:Hid (∀ wy,Below W1.drew.heap.size W1.drew wy→_):=fun wy hy=>HS1.out.kept ((Below.refl _ _).drew.trans hy)
  clear HS1 HV;refine wp_region_growV [16,17,18,19,20,21,22,23,24,25,26,27,28,29,30,31,32,33,34,35,36,37,38,39,40,41,42,43,44,45] (by kernel_rfl) (by kernel_rfl) ?_;apply GChV.v0
  ·rfl
  ·intro K' a wy ho hd hb hK kz;have o9:=ho 9 (by decide);simp [slot] at o9;clear hd ho;go_simp;try go_bits
   exact kz _ rfl
  apply GChV.v1
  ·rfl
  ·intro K' a wy ho hd hb hK kz;have o4:=ho 4 (by decide);simp [slot] at o4;clear hd ho;go_simp;try go_bits
   exact kz _ rfl
  apply GChV.v2
  ·rfl
  ·intro K' a wy ho hd hb hK kz;have q1:=hd ⟨1,.data⟩ (by simp) rfl;simp [rAt,IsV,slot] at q1;clear hd ho;have hst:=HCP.out wy hb;have HHk:=hst.at mE1;obtain ⟨k0,k1,k2⟩:=HHk.c3;clear HHk;have HHl:=hst.at mE2;obtain ⟨l0,l1,l2⟩:=HHl.c3;clear HHl;clear hst;go_simp;try go_bits
   exact kz _ rfl
  apply GChV.v3
  ·rfl
  ·intro K' a wy ho hd hb hK kz;have o2:=ho 2 (by decide);simp [slot] at o2;clear hd ho;go_simp;try go_bits
   exact kz _ rfl
  apply GChV.v4
  ·rfl
  ·intro K' a wy ho hd hb hK kz;have q2:=hd ⟨2,.data⟩ (by simp) rfl;have q3:=hd ⟨3,.data⟩ (by simp) rfl;simp [rAt,IsV,slot] at q2 q3;clear hd ho;go_simp;refine (HP1.out wy).mono ?_;rintro e wz ⟨rfl,hz⟩;exact hK _ _ rfl hz
  apply GChV.v5
  ·rfl
  ·intro K' a wy ho hd hb hK kz;have o5:=ho 5 (by decide);simp [slot] at o5;clear hd ho;go_simp;try go_bits
   exact kz _ rfl
  apply GChV.v6
  ·rfl
  ·intro K' a wy ho hd hb hK kz;have q5:=hd ⟨5,.data⟩ (by simp) rfl;simp [rAt,IsV,slot] at q5;clear hd ho;have hst:=HCP.out wy hb;have HHk:=hst.at mE1;obtain ⟨k0,k1,k2⟩:=HHk.c3;clear HHk;have HHl:=hst.at mE2;obtain ⟨l0,l1,l2⟩:=HHl.c3;clear HHl;clear hst;go_simp;try go_bits
   exact kz _ rfl
  apply GChV.v7
  ·rfl
  ·intro K' a wy ho hd hb hK kz;have o3:=ho 3 (by decide);simp [slot] at o3;clear hd ho;go_simp;try go_bits
   exact kz _ rfl
  apply GChV.v8
  ·rfl
  ·intro K' a wy ho hd hb hK kz;have q6:=hd ⟨6,.data⟩ (by simp) rfl;have q7:=hd ⟨7,.data⟩ (by simp) rfl;simp [rAt,IsV,slot] at q6 q7;clear hd ho;go_simp;refine (HP2.out wy).mono ?_;rintro e wz ⟨rfl,hz⟩;exact hK _ _ rfl hz
  apply GChV.v9
  ·rfl
  ·intro K' a wy ho hd hb hK kz;have q4:=hd ⟨4,.data⟩ (by simp) rfl;have q8:=hd ⟨8,.data⟩ (by simp) rfl;simp [rAt,IsV,slot] at q4 q8;clear hd ho;go_simp;try go_bits
   exact kz _ rfl
  apply GChV.v10
  ·rfl
  ·intro K' a wy ho hd hb hK kz;have o4:=ho 4 (by decide);simp [slot] at o4;clear hd ho;go_simp;try go_bits
   exact kz _ rfl
  apply GChV.v11
  ·rfl
  ·intro K' a wy ho hd hb hK kz;have q10:=hd ⟨10,.data⟩ (by simp) rfl;simp [rAt,IsV,slot] at q10;clear hd ho;have hst:=HCP.out wy hb;have HHk:=hst.at mE1;obtain ⟨k0,k1,k2⟩:=HHk.c3;clear HHk;have HHl:=hst.at mE2;obtain ⟨l0,l1,l2⟩:=HHl.c3;clear HHl;clear hst;go_simp;try go_bits
   exact kz _ rfl
  apply GChV.v12
  ·rfl
  ·intro K' a wy ho hd hb hK kz;have o4:=ho 4 (by decide);simp [slot] at o4;clear hd ho;go_simp;try go_bits
   exact kz _ rfl
  apply GChV.v13
  ·rfl
  ·intro K' a wy ho hd hb hK kz;have q12:=hd ⟨12,.data⟩ (by simp) rfl;simp [rAt,IsV,slot] at q12;clear hd ho;have hst:=HCP.out wy hb;have HHk:=hst.at mE1;obtain ⟨k0,k1,k2⟩:=HHk.c3;clear HHk;have HHl:=hst.at mE2;obtain ⟨l0,l1,l2⟩:=HHl.c3;clear HHl;clear hst;go_simp;try go_bits
   exact kz _ rfl
  apply GChV.v14
  ·rfl
  ·intro K' a wy ho hd hb hK kz;have o4:=ho 4 (by decide);simp [slot] at o4;clear hd ho;go_simp;try go_bits
   exact kz _ rfl
  apply GChV.v15
  ·rfl
  ·intro K' a wy ho hd hb hK kz;have q14:=hd ⟨14,.data⟩ (by simp) rfl;simp [rAt,IsV,slot] at q14;clear hd ho;have hst:=HCP.out wy hb;have HHk:=hst.at mE1;obtain ⟨k0,k1,k2⟩:=HHk.c3;clear HHk;have HHl:=hst.at mE2;obtain ⟨l0,l1,l2⟩:=HHl.c3;clear HHl;clear hst;go_simp;try go_bits
   exact kz _ rfl
  apply GChV.v16
  ·rfl
  ·intro K' a wy ho hd hb hK kz;have o2:=ho 2 (by decide);simp [slot] at o2;clear hd ho;go_simp;try go_bits
   exact kz _ rfl
  apply GChV.v17
  ·rfl
  ·intro K' a wy ho hd hb hK kz;have q16:=hd ⟨16,.data⟩ (by simp) rfl;simp [rAt,IsV,slot] at q16;clear hd ho;go_simp;try go_bits
   exact kz _ rfl
  apply GChV.v18
  ·rfl
  ·intro K' a wy ho hd hb hK kz;have q11:=hd ⟨11,.data⟩ (by simp) rfl;have q13:=hd ⟨13,.data⟩ (by simp) rfl;have q15:=hd ⟨15,.data⟩ (by simp) rfl;have q17:=hd ⟨17,.data⟩ (by simp) rfl;simp [rAt,IsV,slot] at q11 q13 q15 q17;clear hd ho;go_simp;refine (HH1.out wy).mono ?_;rintro e wz ⟨rfl,hz⟩;exact hK _ _ rfl hz
  apply GChV.v19
  ·rfl
  ·intro K' a wy ho hd hb hK kz;have o5:=ho 5 (by decide);simp [slot] at o5;clear hd ho;go_simp;try go_bits
   exact kz _ rfl
  apply GChV.v20
  ·rfl
  ·intro K' a wy ho hd hb hK kz;have q19:=hd ⟨19,.data⟩ (by simp) rfl;simp [rAt,IsV,slot] at q19;clear hd ho;have hst:=HCP.out wy hb;have HHk:=hst.at mE1;obtain ⟨k0,k1,k2⟩:=HHk.c3;clear HHk;have HHl:=hst.at mE2;obtain ⟨l0,l1,l2⟩:=HHl.c3;clear HHl;clear hst;go_simp;try go_bits
   exact kz _ rfl
  apply GChV.v21
  ·rfl
  ·intro K' a wy ho hd hb hK kz;have o5:=ho 5 (by decide);simp [slot] at o5;clear hd ho;go_simp;try go_bits
   exact kz _ rfl
  apply GChV.v22
  ·rfl
  ·intro K' a wy ho hd hb hK kz;have q21:=hd ⟨21,.data⟩ (by simp) rfl;simp [rAt,IsV,slot] at q21;clear hd ho;have hst:=HCP.out wy hb;have HHk:=hst.at mE1;obtain ⟨k0,k1,k2⟩:=HHk.c3;clear HHk;have HHl:=hst.at mE2;obtain ⟨l0,l1,l2⟩:=HHl.c3;clear HHl;clear hst;go_simp;try go_bits
   exact kz _ rfl
  apply GChV.v23
  ·rfl
  ·intro K' a wy ho hd hb hK kz;have o5:=ho 5 (by decide);simp [slot] at o5;clear hd ho;go_simp;try go_bits
   exact kz _ rfl
  apply GChV.v24
  ·rfl
  ·intro K' a wy ho hd hb hK kz;have q23:=hd ⟨23,.data⟩ (by simp) rfl;simp [rAt,IsV,slot] at q23;clear hd ho;have hst:=HCP.out wy hb;have HHk:=hst.at mE1;obtain ⟨k0,k1,k2⟩:=HHk.c3;clear HHk;have HHl:=hst.at mE2;obtain ⟨l0,l1,l2⟩:=HHl.c3;clear HHl;clear hst;go_simp;try go_bits
   exact kz _ rfl
  apply GChV.v25
  ·rfl
  ·intro K' a wy ho hd hb hK kz;have o3:=ho 3 (by decide);simp [slot] at o3;clear hd ho;go_simp;try go_bits
   exact kz _ rfl
  apply GChV.v26
  ·rfl
  ·intro K' a wy ho hd hb hK kz;have q25:=hd ⟨25,.data⟩ (by simp) rfl;simp [rAt,IsV,slot] at q25;clear hd ho;go_simp;try go_bits
   exact kz _ rfl
  apply GChV.v27
  ·rfl
  ·intro K' a wy ho hd hb hK kz;have q20:=hd ⟨20,.data⟩ (by simp) rfl;have q22:=hd ⟨22,.data⟩ (by simp) rfl;have q24:=hd ⟨24,.data⟩ (by simp) rfl;have q26:=hd ⟨26,.data⟩ (by simp) rfl;simp [rAt,IsV,slot] at q20 q22 q24 q26;clear hd ho;go_simp;refine (HH2.out wy).mono ?_;rintro e wz ⟨rfl,hz⟩;exact hK _ _ rfl hz
  apply GChV.v28
  ·rfl
  ·intro K' a wy ho hd hb hK kz;have q18:=hd ⟨18,.data⟩ (by simp) rfl;have q27:=hd ⟨27,.data⟩ (by simp) rfl;simp [rAt,IsV,slot] at q18 q27;clear hd ho;go_simp;try go_bits
   exact kz _ rfl
  refine GChV.rel (n:=29) (IsPr W1.drew.heap.size [.string p1,.string p2,.string p3,.string p4]) (stable_isPr _ _ (by simp)) [_,_,_,_,_,_,_,_,_,_,_,_,_,_,_,_,_,_,_,_,_,_,_,_,_,_,_,_,_,IsPr W1.drew.heap.size [.string p1,.string p2,.string p3,.string p4]] rfl rfl ?_ ?_
  ·intro K' a wy ho hd hb hK;rw [wN rfl];have q9:=hd ⟨9,.data⟩ (by simp) rfl;have q28:=hd ⟨28,.data⟩ (by simp) rfl;simp [rAt,IsV,slot] at q9 q28;clear hd ho;go_simp;exact hK _ _ ⟨wy.heap.size,rfl,hb.size,HoldsL.new wy [.string p1,.string p2,.string p3,.string p4] 214⟩ ((Below.refl _ _).alloc (Nat.le_refl _) _)
  intro X wz hR hz;obtain ⟨x0,x1,x2,x3,x4,x5,x6,x7,x8,x9,x10,x11,x12,x13,x14,x15,x16,x17,x18,x19,x20,x21,x22,x23,x24,x25,x26,x27,x28,x29,-⟩:=hR;obtain ⟨R,e29,b29,h29⟩:=x29;simp only [IsV] at x0 x1 x2 x3 x4 x5 x6 x7 x8 x9 x10 x11 x12 x13 x14 x15 x16 x17 x18 x19 x20 x21 x22 x23 x24 x25 x26 x27 x28;simp only [putsFrom,x0,x1,x2,x3,x4,x5,x6,x7,x8,x9,x10,x11,x12,x13,x14,x15,x16,x17,x18,x19,x20,x21,x22,x23,x24,x25,x26,x27,x28,e29];clear x0 x1 x2 x3 x4 x5 x6 x7 x8 x9 x10 x11 x12 x13 x14 x15 x16 x17 x18 x19 x20 x21 x22 x23 x24 x25 x26 x27 x28;have hst:=HCP.out wz hz;have hRC:R≠C:=by
   have:C < W1.drew.heap.size:=hcl;omega
  have HB5:Hid (Bxs w ((C,[iV c])::(R,[.string p1,.string p2,.string p3,.string p4])::[(w.heap.size,(FlR proto src dst sp dp)),(w.heap.size+1,(FlR proto' src' dst' sp' dp'))]) wz):=(hst.tl.cons h29 (by simp)).cons (hst.k _ mE0) (by simp);have HKS:Hid (∀ e∈([(w.heap.size,(FlR proto src dst sp dp)),(w.heap.size+1,(FlR proto' src' dst' sp' dp'))]:List (Nat × List Value)),e.1≠C):=fun e he=>by
   simp only [List.mem_cons,List.not_mem_nil,or_false] at he;rcases he with rfl | rfl<;>(show _≠C; omega)
  clear hst h29 HCP HP1 HP2 HH1 HH2;intro K10 hK10;go_simp;refine (HEa.out C R _ wz hw0 hRC HKS.out HB5.out).mono ?_;rintro e w5 ⟨rfl,hb5⟩;have HF:Hid (Bxs w [(C,[iV c2])] w5):=⟨fun e he=>by
   rw [List.mem_singleton] at he;rw [he]; exact hb5.k _ mE0,hb5.b,fun e he=>by
   rw [List.mem_singleton] at he;rw [he]; simp⟩
  clear hb5 HB5 HKS HEa;refine hK10 _ _ ?_;show Exit.then _ _ _ _ _;refine hK2 _ _ (hJ _ _ ?_);(repeat apply Exists.intro)
  exact ⟨HF.out,rfl⟩
 case rest =>
 have S6:Hid (Bxs w [(C,[iV c2])] wc):=hcut;clear hcut HS1 HP1 HP2 HH1 HH2 HEa;generalize wc=W6 at *;have HH6:=S6.out.at mE0;have z0:=HH6.cell (j:=0) rfl;clear HH6;have HFB:Hid (Below w.heap.size w W6):=S6.out.b;clear S6;by_cases h0:c2=0
 case pos =>
  have d0:(c2==0)=true:=by simp [h0]
  have HX:Hid (ans=65535):=by unfold Hid; rw [HV.out,if_pos h0]
  clear h0 HV;go_wp2_with fail
  go_ret;exact ⟨ret_int (by rw [HX.out]),HFB.out⟩
 have d0:(c2==0)=false:=by simp [h0]
 have HX:Hid (ans=c2):=by unfold Hid; rw [HV.out,if_neg h0]
 clear h0 HV;go_wp2_with fail
 go_ret;exact ⟨ret_int (by rw [HX.out]),HFB.out⟩
open Go.Lib
theorem hold_of_bytes {W:World} {b:Nat} {t:ByteArray} (h:Holds W b t.size (bt t)):HoldsL W b (strCells t):=by
 refine ⟨fun j v hv=>?_,fun j hj=>?_⟩
 ·rw [Nat.zero_add];have hj:j < t.size:=by
   have:=(List.getElem?_eq_some_iff.1 hv).1;rwa [strCells_length] at this
  rw [strCells_at t j hj] at hv;injection hv with hv
  rw [← hv]; exact (h.get j hj).1
 ·rw [strCells_length] at hj;rw [Nat.zero_add];exact ⟨by rw [(h.get j hj).1]; rfl,(h.get j hj).2⟩
theorem hold_str {W:World} {b cap:Nat} {t:ByteArray} (h:HoldsL W b (strCells t)):(convert 137 9 (.slice (some ⟨b,0,none⟩) t.size cap)).run Tryz.prog W=.ok (.string t) W:=by
 have hh:Holds W b t.size (bt t):=⟨fun i hi=>⟨hold_bt h i hi,h.free (by rw [strCells_length]; exact hi)⟩⟩;have:=hh.conv (cap:=cap) (bt_isByte t)
 rw [bytesOf_self] at this;exact this
theorem put_split (t:ByteArray) (k n:Nat) (h:k+n≤t.size):t.extract 0 k++t.extract k (k+n)++t.extract (k+n) t.size=t:=by
 refine ba_ext ?_ (fun i hi=>?_)
 ·simp only [ByteArray.size_append,ByteArray.size_extract]; omega
 ·have s1:(t.extract 0 k).size=k:=by rw [ByteArray.size_extract]; omega
  have s2:(t.extract k (k+n)).size=n:=by rw [ByteArray.size_extract]; omega
  simp only [ByteArray.size_append,ByteArray.size_extract] at hi;rw [bt_append,bt_append,ByteArray.size_append,s1,s2];by_cases h1:i < k
  ·rw [if_pos (by omega),if_pos h1,bt_extract _ _ _ _ (by omega),if_pos (by omega),Nat.zero_add]
  ·by_cases h2:i < k+n
   ·rw [if_pos h2,if_neg h1,bt_extract _ _ _ _ (by omega),if_pos (by omega),show k+(i-k)=i by omega]
   ·rw [if_neg h2,bt_extract _ _ _ _ (Nat.le_refl _),if_pos (by omega),show k+n+(i-(k+n))=i by omega]
theorem lay_put {W:World} {b k:Nat} {t u:ByteArray} (h:HoldsL W b (strCells t)) (hk:k+u.size≤t.size):HoldsL (W.setCells b k (strCells u)) b (strCells (putV t k u)):=by
 rw [← put_split t k u.size hk] at h;exact lay_at h (by rw [ByteArray.size_extract]; omega) (by rw [ByteArray.size_extract]; omega)
theorem run_lay_more {P:Program} {w:World} {g o dCap base e g6:Nat} {t s:ByteArray} (dT sT ty elem:TypeId) (hu:P.underlying dT=some (.slice elem)) (hz:(P.info? elem).map (·.size)=some 1) (h:HoldsL w g (strCells t)) (ho:o+s.size≤t.size) {dLen sLen:Nat} (hd:s.size≤dLen) (hs:sLen=s.size) (hown:w.ownsRow base e 1 (.slice (some ⟨g6,0,none⟩) sLen sLen) sLen (strCells s)) :
  (Builtin.copy_ #[dT,sT] ty #[.slice (some ⟨g,o,none⟩) dLen dCap,.slice (some ⟨g6,0,none⟩) sLen sLen]).run P w=.ok (goInt s.size) (w.setCells g o (strCells s)):=by
 have hl:(strCells t).length=t.size:=strCells_length t;have:=run_copy_cells (P:=P) w dT sT ty elem g o dLen dCap ⟨g6,0,none⟩ sLen sLen (strCells s) hu hz (by rw [strCells_length,hs]; exact (Nat.min_eq_left hd).symm) (fun j v hj=>hown.cells (g:=g6) rfl j v hj) (fun j hj=>by rw [strCells_length] at hj; have:=(h.th (o+j) (by omega)).1; rwa [Nat.zero_add] at this) (fun j hj=>by rw [strCells_length] at hj; have:=(h.th (o+j) (by omega)).2; rwa [Nat.zero_add] at this) (strCells_oneCell _);rw [strCells_length] at this;exact this
theorem cells_one {x:Int} (h:0≤x∧x≤255):strCells (oneV x)=[.int .u8 x]:=by
 unfold strCells oneV;simp;omega
theorem lay_first {W:World} {b:Nat} {t:ByteArray} {x:Int} (h:HoldsL W b (strCells t)) (hx:0≤x∧x≤255) (ht:1≤t.size):HoldsL (W.setCell ⟨b,0,none⟩ (.int .u8 x)) b (strCells (putV t 0 (oneV x))):=by
 have e:strCells (putV t 0 (oneV x))=(strCells t).set 0 (.int .u8 x):=by
  have hs:=put_split t 0 1 (by omega);have h0:(strCells (t.extract 0 0))=[]:=by
   apply List.eq_nil_of_length_eq_zero;rw [strCells_length,ByteArray.size_extract]; omega
  have h1:(strCells (t.extract 0 (0+1))).length=1:=by rw [strCells_length,ByteArray.size_extract]; omega
  obtain ⟨y,hy⟩:=List.length_eq_one_iff.1 h1;have ht2:strCells t=y::strCells (t.extract (0+1) t.size):=by
   conv=>lhs; rw [← hs]
   rw [strCells_append,strCells_append,h0,hy]; rfl
  unfold putV;rw [strCells_append,strCells_append,h0,cells_one hx,ht2];rfl
 rw [e];exact h.set 0 _
theorem ask_byte (p:Int):0≤askP p∧askP p≤255:=by unfold askP; split<;>omega
theorem ans_byte (p:Int):0≤ansP p∧ansP p≤255:=by unfold ansP; split<;>omega
def LayRet (base:Nat) (n:Nat) (u:ByteArray) (e:Ending) (w':World):Prop:=∃ b cap,e=.returned (.slice (some ⟨b,0,none⟩) n cap)∧n≤cap∧base≤b∧HoldsL w' b (strCells u)
theorem ipLay_any (p:Int) (g:Fl) (t:ByteArray) (w:World) (h8:8≤t.size) (ht:t.size≤20000) (gw:(0≤g.sp∧g.sp≤65535)∧(0≤g.dp∧g.dp≤65535)) (hp:echoP g.proto=true→echoP p=true) :
  Calls Tryz.prog 158 #[iV p,fwC g,.string t] w fun e w'=>LayRet w.heap.size t.size (layV p g t) e w'∧Below w.heap.size w w':=by
 have HE:Hid (∀ W,Cw 101 #[iV g.proto] W (.bool (echoP g.proto))):=fun W=>implEcho_any _ W
 have HV:Hid (layV p g t=if echoP g.proto=true then putV (putV t 4 (twoV g.sp)) 0 (oneV (if bt t 0=askP p then askP g.proto else ansP g.proto)) else putV t 0 (twoV g.sp++twoV g.dp)):=rfl;have HE1:Hid (echoP p=true→∀ W,Cw 133 #[iV p] W (.tuple #[.int .u8 (askP p),.int .u8 (ansP p)])):=fun h W=>ipEchoBytes_any p W h
 have HE2:Hid (echoP g.proto=true→∀ W,Cw 133 #[iV g.proto] W (.tuple #[.int .u8 (askP g.proto),.int .u8 (ansP g.proto)])):=fun h W=>ipEchoBytes_any _ W h
 have ra:=ask_byte g.proto;have rn:=ans_byte g.proto;have z2:=twoV_size g.sp;have z4:(twoV g.sp++twoV g.dp).size=4:=by rw [ByteArray.size_append]; rfl
 have HL2:Hid ((layL [g.sp,g.dp]).map (Value.int .u8)=strCells (twoV g.sp++twoV g.dp)):=by unfold Hid; rw [strCells_append,strCells_two _ gw.1.1 gw.1.2,strCells_two _ gw.2.1 gw.2.2]; rfl
 have HL1:Hid ((layL [g.sp]).map (Value.int .u8)=strCells (twoV g.sp)):=by unfold Hid; rw [strCells_two _ gw.1.1 gw.1.2]; rfl
 have hinfo:(Tryz.prog.info? 5).map (·.size)=some 1:=by
  obtain ⟨i0,hi,hz0,hz1,hz2⟩:=info_parts Tryz.info5;rw [hi]; simp [hz1]
 generalize layV p g t=ans at *;obtain ⟨proto,src,dst,sp,dp⟩:=g;unfold fwC;dsimp only at *;have HS0:=bx1 w (FlR proto src dst sp dp) 91 (by simp)
 skip;obtain ⟨cp,W1,hcv,hh,hb1,hcap⟩:=bytes_new (w.alloc (.cells (FlR proto src dst sp dp).toArray 91)) t;rw [show (w.alloc (.cells (FlR proto src dst sp dp).toArray 91)).heap.size=w.heap.size+1 by simp] at hcv hh;have HT1:Hid (HoldsL W1 (w.heap.size+1) (strCells t)):=hold_of_bytes hh;have HS1:Hid _:=HS0.out.kept hb1;clear hh hb1 HS0;go_enter Tryz.func158,Tryz.ntmps158
 go_upto_region 2 with fail
 clear hcv;have HHk:=HS1.out.at mE0;obtain ⟨k0,k1,k2,k3,k4⟩:=HHk.c5;clear HHk;have hlw:w.heap.size+1 < W1.heap.size:=HT1.out.lt (by rw [strCells_length]; omega);go_wp2_with fail
 refine (HE.out _).mono ?_;rintro e W1 ⟨rfl,rfl⟩
 cases hec:echoP proto with
 | false =>
  have HX:Hid (ans=putV t 0 (twoV sp++twoV dp)):=by unfold Hid; rw [HV.out,hec]; rfl
  clear HV HE1 HE2 HL1;have HL:Hid (Calls Tryz.prog 160 #[.slice (some ⟨W1.heap.size,0,none⟩) 2 2] (W1.alloc (.cells #[iV sp,iV dp] 2)) fun e w'=>e=.returned (.slice (some ⟨W1.heap.size+1,0,none⟩) 4 4)∧w'.ownsRow (W1.heap.size+1) 5 1 (.slice (some ⟨W1.heap.size+1,0,none⟩) 4 4) 4 (strCells (twoV sp++twoV dp))∧Below W1.heap.size W1 w'):=by
   refine (layWords_any [sp,dp] W1.heap.size 2 2 (W1.alloc (.cells #[iV sp,iV dp] 2)) (by omega) (by simp) rfl (getD_word _ (by simp only [List.forall_mem_cons,List.not_mem_nil,false_imp_iff,implies_true,and_true]; omega)) (by intro k hk; match k,hk with
   | 0,_=>simp
   | 1,_=>simp)).mono ?_
   rintro e w' ⟨rfl,hown,hB⟩;rw [show (W1.alloc (.cells #[iV sp,iV dp] 2)).heap.size=W1.heap.size+1 by simp] at hown hB ⊢;rw [HL2.out] at hown;exact ⟨rfl,hown,((Below.refl _ _).alloc (Nat.le_refl _) _).trans (hB.mono (by omega))⟩
  clear HL2;go_wp2_with fail
  refine HL.out.mono ?_;rintro e w3 ⟨rfl,hown,q3⟩;have hT3:HoldsL w3 (w.heap.size+1) (strCells t):=HT1.out.kept (by rw [strCells_length]; omega) q3;have hrun:=run_lay_more (P:=Tryz.prog) (dCap:=cp) 137 137 3 5 Tryz.underlying137 hinfo hT3 (o:=0) (by omega) (dLen:=t.size) (by omega) z4.symm hown;rw [z4] at hrun;have HF:Hid (HoldsL (w3.setCells (w.heap.size+1) 0 (strCells (twoV sp++twoV dp))) (w.heap.size+1) (strCells ans)):=by unfold Hid; rw [HX.out]; exact lay_put hT3 (by omega)
  have HB:Hid (Below w.heap.size w (w3.setCells (w.heap.size+1) 0 (strCells (twoV sp++twoV dp)))):=below_setCells ((HS1.out.kept q3).b) (by omega) _ _;clear hT3 hown q3 HT1 HS1 HL HX k0 k1 k2 k3 k4;go_wp2_with fail
  go_ret;exact ⟨⟨_,_,rfl,hcap,by omega,HF.out⟩,HB.out⟩
 | true =>
  have hep:=hp hec;have HX:Hid (ans=putV (putV t 4 (twoV sp)) 0 (oneV (if bt t 0=askP p then askP proto else ansP proto))):=by unfold Hid; rw [HV.out,hec]; rfl
  replace HE1:Hid _:=HE1.out hep;replace HE2:Hid _:=HE2.out hec;clear HV HL2 hep hec hp HE;go_upto_region 5 with fail
  clear k0 k1 k2 k3 k4;have n4:¬ (t.size:Int) < 4:=by omega
  have c4:¬ (cp:Int) < 4:=by omega
  have n5:(4:Int)≤t.size:=by omega
  have c44:¬ cp=4:=by omega
  go_cut [33] (fun v wx=>HoldsL wx (w.heap.size+1) (strCells (putV t 4 (twoV sp)))∧Bxs w [(w.heap.size,(FlR proto src dst sp dp))] wx)
  case first =>
   rename_i J K2 hJ hK2;have HCP:Hid (∀ wy,Below W1.drew.heap.size W1.drew wy→_):=fun wy hy=>HS1.out.kept ((Below.refl _ _).drew.trans hy)
   have HGP:Hid (∀ wy,Below W1.drew.heap.size W1.drew wy→HoldsL wy (w.heap.size+1) (strCells t)):=fun wy hy=>HT1.out.kept (by rw [strCells_length]; omega) ((Below.refl _ _).drew.trans hy)
   have hlw2:w.heap.size≤W1.drew.heap.size:=by show w.heap.size≤W1.heap.size; omega
   clear HT1 HS1 HX HE1 HE2;refine wp_region_growV [27,28,29,30,31,32] (by kernel_rfl) (by kernel_rfl) ?_;apply GChV.v0
   ·rfl
   ·intro K' a wy ho hd hb hK kz;have o7:=ho 7 (by decide);simp [slot] at o7;clear hd ho;go_simp;try go_bits
    exact kz _ rfl
   apply GChV.v1
   ·rfl
   ·intro K' a wy ho hd hb hK kz;have q0:=hd ⟨0,.data⟩ (by simp) rfl;simp [rAt,IsV,slot] at q0;clear hd ho;go_simp;try go_bits
    exact kz _ rfl
   apply GChV.v2
   ·rfl
   ·intro K' a wy ho hd hb hK kz;have o4:=ho 4 (by decide);simp [slot] at o4;clear hd ho;go_simp;try go_bits
    exact kz _ rfl
   apply GChV.v3
   ·rfl
   ·intro K' a wy ho hd hb hK kz;have q2:=hd ⟨2,.data⟩ (by simp) rfl;simp [rAt,IsV,slot] at q2;clear hd ho;have hst:=HCP.out wy hb;have HHk:=hst.at mE0;have k3:=HHk.cell (j:=3) rfl;clear HHk;clear hst;go_simp;try go_bits
    exact kz _ rfl
   refine GChV.rel (n:=4) (IsWords [sp]) (stable_isWords _) [_,_,_,_,IsWords [sp]] rfl rfl ?_ ?_
   ·intro K' a wy ho hd hb hK;rw [wN rfl];have q3:=hd ⟨3,.data⟩ (by simp) rfl;simp [rAt,IsV,slot] at q3;clear hd ho;go_simp;exact hK _ _ ⟨wy.heap.size,rfl,by simp,fun k hk=>by
     simp only [List.length_cons,List.length_nil] at hk;match k,hk with
     | 0,_=>simp⟩ ((Below.refl _ _).alloc (Nat.le_refl _) _)
   refine GChV.rel (n:=5) (IsOwn w.heap.size 5 2 (strCells (twoV sp))) (stable_isOwn _ _ _ _) [_,_,_,_,_,IsOwn w.heap.size 5 2 (strCells (twoV sp))] rfl rfl ?_ ?_
   ·intro K' a wy ho hd hb hK;rw [wN rfl];have hr:IsWords [sp] (slot a 31) wy:=hd ⟨4,.data⟩ (by simp) rfl;obtain ⟨b4,e1,e2,e3⟩:=hr;simp [slot] at e1;clear hd ho;go_simp;refine (layWords_any [sp] b4 1 1 wy (by decide) e2 rfl (getD_word _ (by simp only [List.forall_mem_cons,List.not_mem_nil,false_imp_iff,implies_true,and_true]; omega)) e3).mono ?_;rintro e wz ⟨rfl,hown,hz⟩;exact hK _ _ ⟨_,rfl,owns_base (by rw [← HL1.out]; exact hown) (Nat.le_trans hlw2 hb.size)⟩ hz
   intro X wz hR hz;obtain ⟨x0,x1,x2,x3,x4,x5,-⟩:=hR;obtain ⟨b4,e4,-,-⟩:=x4;obtain ⟨g5,e5,own5⟩:=x5;simp only [IsV] at x0 x1 x2 x3;simp only [putsFrom,x0,x1,x2,x3,e4,e5];clear x0 x1 x2 x3;rw [e5] at own5;have hgz:=HGP.out wz hz;have hrun:=run_lay_more (P:=Tryz.prog) (dCap:=cp-4) 137 137 3 5 Tryz.underlying137 hinfo hgz (o:=4) (by omega) (dLen:=t.size-4) (by omega) z2.symm own5;rw [z2] at hrun;have HN2:Hid (HoldsL (wz.setCells (w.heap.size+1) 4 (strCells (twoV sp))) (w.heap.size+1) (strCells (putV t 4 (twoV sp)))):=lay_put hgz (by omega);have HB2:Hid (Bxs w [(w.heap.size,(FlR proto src dst sp dp))] (wz.setCells (w.heap.size+1) 4 (strCells (twoV sp)))):=(HCP.out wz hz).cells (fun e he=>by
    rw [List.mem_singleton] at he;rw [he]; show w.heap.size≠w.heap.size+1; omega) (by omega)
   clear hgz own5 hz HCP HGP;intro K10 hK10;go_simp;refine hK10 _ _ ?_;show Exit.then _ _ _ _ _;refine hK2 _ _ (hJ _ _ ?_);(repeat apply Exists.intro)
   exact ⟨⟨HN2.out,HB2.out⟩,rfl⟩
  case rest =>
  obtain ⟨hG,hS⟩:=hcut;have G2:Hid _:=hG;have S2:Hid (Bxs w [(w.heap.size,(FlR proto src dst sp dp))] wc):=hS;clear hG hS HT1 HS1 HL1;generalize wc=W2 at *;have hz2:=putV_size (t:=t) (u:=twoV sp) (k:=4) (by omega);have c0:=hold_bt G2.out 0 (by omega);have f0:W2.frozen? ⟨w.heap.size+1,0,none⟩=false:=G2.out.free (by rw [strCells_length]; omega);have e0:bt (putV t 4 (twoV sp)) 0=bt t 0:=by rw [bt_put (by omega),if_pos (by omega)]
  rw [e0] at c0;clear e0;have HHk:=S2.out.at mE0;obtain ⟨k0,k1,k2,k3,k4⟩:=HHk.c5;clear HHk;go_wp2_with fail
  refine (HE1.out _).mono ?_;rintro e W2 ⟨rfl,rfl⟩;go_wp2_with fail
  refine (HE2.out _).mono ?_;rintro e W2 ⟨rfl,rfl⟩;by_cases ha:bt t 0=askP p
  case pos =>
   have d0:(bt t 0==askP p)=true:=by simp [ha]
   have HF:Hid (HoldsL (W2.setCell ⟨w.heap.size+1,0,none⟩ (.int .u8 (askP proto))) (w.heap.size+1) (strCells ans)):=by unfold Hid; rw [HX.out,if_pos ha]; exact lay_first G2.out ra (by omega)
   have HB:Hid (Below w.heap.size w (W2.setCell ⟨w.heap.size+1,0,none⟩ (.int .u8 (askP proto)))):=S2.out.b.setCell (p:=⟨w.heap.size+1,0,none⟩) (by show w.heap.size≤w.heap.size+1; omega) _;clear ha HX G2 S2 HE1 HE2;generalize bt t 0=b0 at *;generalize askP p=ap at *;generalize askP proto=ag at *;generalize ansP proto=ng at *;generalize ansP p=np at *;go_wp2_with fail
   go_ret;exact ⟨⟨_,_,rfl,hcap,by omega,HF.out⟩,HB.out⟩
  case neg =>
   have d0:(bt t 0==askP p)=false:=by simp [ha]
   have HF:Hid (HoldsL (W2.setCell ⟨w.heap.size+1,0,none⟩ (.int .u8 (ansP proto))) (w.heap.size+1) (strCells ans)):=by unfold Hid; rw [HX.out,if_neg ha]; exact lay_first G2.out rn (by omega)
   have HB:Hid (Below w.heap.size w (W2.setCell ⟨w.heap.size+1,0,none⟩ (.int .u8 (ansP proto)))):=S2.out.b.setCell (p:=⟨w.heap.size+1,0,none⟩) (by show w.heap.size≤w.heap.size+1; omega) _;clear ha HX G2 S2 HE1 HE2;generalize bt t 0=b0 at *;generalize askP p=ap at *;generalize askP proto=ag at *;generalize ansP proto=ng at *;generalize ansP p=np at *;go_wp2_with fail
   go_ret;exact ⟨⟨_,_,rfl,hcap,by omega,HF.out⟩,HB.out⟩
end Go.Proofs.YtcckaeppiamebaaGreatDoor
