import Derived.Test.YtcckaeppiamebaaGreatDoorAb
import Derived.Test.YtcckaeppiamebaaGreatDoorMerged9
import Derived.Test.YtcckaeppiamebaaGreatDoorMerged10
import Derived.Test.YtcckaeppiamebaaGreatDoorMerged4
import Derived.Test.YtcckaeppiamebaaGreatDoorMerged7
import Derived.Test.YtcckaeppiamebaaGreatDoorMerged3
import Derived.Test.YtcckaeppiamebaaGreatDoorMerged8
set_option linter.unusedVariables false
set_option linter.unusedSimpArgs false
set_option maxRecDepth 100000
set_option maxHeartbeats 8000000
namespace Go.Proofs.YtcckaeppiamebaaGreatDoor
open Go.RowKit Go.PlainAid
def IsBv (base:Nat) (o:Bo):Value→World→Prop:=fun v w=>∃ a b ca cb,v=boC a b ca cb o∧BbOwn base w a b o.bib
theorem stable_isBv (base:Nat) (o:Bo):Stable (IsBv base o):=fun v w w' ⟨a,b,ca,cb,h1,h2⟩ hb=>⟨a,b,ca,cb,h1,h2.kept hb⟩
theorem sp9Ok_any (pa:Option Addr) (pc:Nat) (p:Pl) (ba bo:Option Addr) (ca cb:Nat) (x:Bb) (q:P4) (now:Int) (w:World) (hlp:p.addrs.length≤1048576) (hpc:p.addrs.length≤pc) (hsz:∀ s∈p.addrs,s.size≤1048576) (hl1:x.binds.length≤1048576) (hl2:x.sess.length≤1048576) (q1:q.src.size≤1048576) (q2:q.dst.size≤1048576) (q3:q.opts.size≤1048576) (q4:q.data.size≤1048576) (hp:SlIs strL1 1 w pa p.addrs) (hx:BbIs w ba bo x) :
  Cb 28 #[plC pa pc p,bbC ba bo ca cb x,p4C q,iV now] w (iV (natFt p x q now)):=by
 have HBR:Hid (∀ W,Below w.heap.size w W→Cb 50 #[plC pa pc p,bbC ba bo ca cb x] W (.bool (bibOk p x))):=fun W hW=>specBib_any p x pa pc ba bo ca cb W hlp hpc hsz hl1 hl2 (hp.below hW) (hx.below hW)
 have HV4:Hid (∀ W,Cb 51 #[p4C q] W (.bool (v4Ok q))):=fun W=>specV4Right_any q W q1 q2 q3 q4
 have HTM:Hid (∀ W,Cw 52 #[iV now] W (.bool (isTime now))):=fun W=>spTime_any now W
 have HV:Hid (natFt p x q now=if (bibOk p x&&v4Ok q&&isTime now)=false then 1 else if (q.more||decide (q.off≠0))=true then 10 else 0):=rfl;generalize natFt p x q now=ans at *;generalize bibOk p x=b1 at *;generalize v4Ok q=b2 at *;generalize isTime now=b3 at *;obtain ⟨tos,id,whole,more,off,ttl,proto,src,dst,opts,data⟩:=q;clear hp hx hsz;unfold plC bbC p4C at *;dsimp only at *;have hun:undef=Value.tuple #[]:=rfl;have HS0:=bx3 w (PlV pa pc p) 48 (BbV ba ca bo cb x) 39 (P4R tos id whole more off ttl proto src dst opts data) 40 (by simp) (by simp) (by simp)
 skip;go_enter Tryz.func28,Tryz.ntmps28
 go_upto_region 1 with fail
 generalize ((aW (aW w (PlV pa pc p) 48) (BbV ba ca bo cb x) 39).alloc (.cells (P4R tos id whole more off ttl proto src dst opts data).toArray 40))=W0 at *;have HHk:=HS0.out.at mE0;obtain ⟨k0,k1,k2,k3,k4,k5,k6,k7,k8,k9⟩:=HHk.c10;clear HHk;have HHl:=HS0.out.at mE1;obtain ⟨l0,l1⟩:=HHl.c2;clear HHl;go_wp2_with fail
 refine (HBR.out _ HS0.out.b).mono ?_;rintro e W1 ⟨rfl,r1⟩;have S1:Hid _:=HS0.out.kept r1;clear r1 HS0 k0 k1 k2 k3 k4 k5 k6 k7 k8 k9 l0 l1
 cases b1 with
 | false =>
  have HFB:Hid _:=S1.out.b;go_wp2_with fail
  go_ret;exact ⟨ret_int (by rw [HV.out]; rfl),HFB.out⟩
 | true =>
 have HHk:=S1.out.at mE2;obtain ⟨k0,k1,k2,k3,k4,k5,k6,k7,k8,k9,k10⟩:=HHk.c11;clear HHk;go_wp2_with fail
 refine (HV4.out _).mono ?_;rintro e W2 ⟨rfl,r2⟩;have S2:Hid _:=S1.out.kept r2;clear r2 S1 k0 k1 k2 k3 k4 k5 k6 k7 k8 k9 k10
 cases b2 with
 | false =>
  have HFB:Hid _:=S2.out.b;go_wp2_with fail
  go_ret;exact ⟨ret_int (by rw [HV.out]; rfl),HFB.out⟩
 | true =>
 go_wp2_with fail
 refine (HTM.out _).mono ?_;rintro e W2 ⟨rfl,rfl⟩
 cases b3 with
 | false =>
  have HFB:Hid _:=S2.out.b;go_wp2_with fail
  go_ret;exact ⟨ret_int (by rw [HV.out]; rfl),HFB.out⟩
 | true =>
 have HHk:=S2.out.at mE2;obtain ⟨k0,k1,k2,k3,k4,k5,k6,k7,k8,k9,k10⟩:=HHk.c11;clear HHk
 cases more with
 | true =>
  have HFB:Hid _:=S2.out.b;go_wp2_with fail
  go_ret;exact ⟨ret_int (by rw [HV.out]; rfl),HFB.out⟩
 | false =>
 by_cases ho:off=0
 case pos =>
  have d0:(off != 0)=false:=by simp [ho]
  have HFB:Hid _:=S2.out.b;go_wp2_with fail
  go_ret;exact ⟨ret_int (by rw [HV.out]; simp [ho]),HFB.out⟩
 have d0:(off != 0)=true:=by simp [ho]
 have HFB:Hid _:=S2.out.b;go_wp2_with fail
 go_ret;exact ⟨ret_int (by rw [HV.out]; simp [ho]),HFB.out⟩
theorem sp9Go_any (pa:Option Addr) (pc:Nat) (p:Pl) (ba bo:Option Addr) (ca cb:Nat) (x:Bb) (f:Fl) (peer t:ByteArray) (now:Int) (w:World) (hpo:poolOk p=true) (hnow:isTime now=true) (hfs:f.src.size≤1048576) (h0:0≤f.sp) (h1:f.sp≤65535) (ht:t.size≤1048576) (h20:f.proto=6→20≤t.size) (hl1:x.binds.length≤1048576) (hl2:x.sess.length≤1048576) (hp:SlIs strL1 1 w pa p.addrs) (hx:BbIs w ba bo x) :
  Calls Tryz.prog 54 #[plC pa pc p,bbC ba bo ca cb x,fwC f,.string peer,.string t,iV now] w fun e w'=>BoRet w.heap.size (goV p x (goT f peer t) now) e w'∧Below w.heap.size w w':=by
 have HGO:Hid (∀ W,Below w.heap.size w W→Calls Tryz.prog 85 #[plC pa pc p,bbC ba bo ca cb x,.agg (TcR (protoN f.proto) true f.src f.sp peer (peerV f.proto f.dp) (flagV f.proto t)).toArray,iV now] W fun e w'=>BoRet W.heap.size (goV p x (goT f peer t) now) e w'∧Below W.heap.size W w'):=fun W hW=>spGo_any pa pc p ba bo ca cb x (goT f peer t) now W hpo hnow hfs h0 h1 hl1 hl2 (hp.below hW) (hx.below hW)
 have HPN:Hid (∀ W,Cb 86 #[iV f.proto] W (iV (protoN f.proto))):=fun W=>(sp9Proto_any _ W).mono fun e w' h=>⟨h.1,by rw [h.2]; exact Below.refl _ _⟩
 have HPO:Hid (∀ W,Cb 87 #[fwC f,iV f.dp] W (iV (peerV f.proto f.dp))):=fun W=>sp9Port_any f _ W
 have HFL:Hid (∀ W,Cb 88 #[fwC f,.string t] W (iV (flagV f.proto t))):=fun W=>sp9Flags_any f t W ht h20
 generalize goV p x (goT f peer t) now=nv at *;generalize peerV f.proto f.dp=pv at *;generalize protoN f.proto=pn at *;generalize flagV f.proto t=fv at *;obtain ⟨proto,src,dst,sp,dp⟩:=f;dsimp only at *;clear hp hx hpo hnow h20;unfold plC bbC fwC at *;dsimp only at *;have e0:HoldsL ((aW (aW (aW w (PlV pa pc p) 48) (BbV ba ca bo cb x) 39) (FlR proto src dst sp dp) 91).alloc (.cells Z8V.toArray 96)) (w.heap.size) (PlV pa pc p):=by
  have h:=HoldsL.new w (PlV pa pc p) 48;try simp only [World.size_alloc] at h
  exact (((h.alloc _).alloc _).alloc _)
 have e1:HoldsL ((aW (aW (aW w (PlV pa pc p) 48) (BbV ba ca bo cb x) 39) (FlR proto src dst sp dp) 91).alloc (.cells Z8V.toArray 96)) (w.heap.size+1) (BbV ba ca bo cb x):=by
  have h:=HoldsL.new (w.alloc (.cells (PlV pa pc p).toArray 48)) (BbV ba ca bo cb x) 39;try simp only [World.size_alloc] at h
  exact ((h.alloc _).alloc _)
 have e2:HoldsL ((aW (aW (aW w (PlV pa pc p) 48) (BbV ba ca bo cb x) 39) (FlR proto src dst sp dp) 91).alloc (.cells Z8V.toArray 96)) (w.heap.size+1+1) (FlR proto src dst sp dp):=by
  have h:=HoldsL.new ((aW w (PlV pa pc p) 48).alloc (.cells (BbV ba ca bo cb x).toArray 39)) (FlR proto src dst sp dp) 91;try simp only [World.size_alloc] at h
  exact (h.alloc _)
 have e3:HoldsL ((aW (aW (aW w (PlV pa pc p) 48) (BbV ba ca bo cb x) 39) (FlR proto src dst sp dp) 91).alloc (.cells Z8V.toArray 96)) (w.heap.size+1+1+1) Z8V:=by
  have h:=HoldsL.new ((aW (aW w (PlV pa pc p) 48) (BbV ba ca bo cb x) 39).alloc (.cells (FlR proto src dst sp dp).toArray 91)) Z8V 96;try simp only [World.size_alloc] at h
  exact h
 have HS0:Hid (Bxs w [(w.heap.size,(PlV pa pc p)),(w.heap.size+1,(BbV ba ca bo cb x)),(w.heap.size+1+1,(FlR proto src dst sp dp)),(w.heap.size+1+1+1,Z8V)] ((aW (aW (aW w (PlV pa pc p) 48) (BbV ba ca bo cb x) 39) (FlR proto src dst sp dp) 91).alloc (.cells Z8V.toArray 96))):=by
  refine ⟨fun e he=>?_,((((bR.alloc (by (try simp only [World.size_alloc]); omega) _).alloc (by (try simp only [World.size_alloc]); omega) _).alloc (by (try simp only [World.size_alloc]); omega) _).alloc (by (try simp only [World.size_alloc]); omega) _),fun e he=>?_⟩
  ·simp only [List.mem_cons,List.not_mem_nil,or_false] at he;rcases he with rfl | rfl | rfl | rfl
   ·exact e0
   ·exact e1
   ·exact e2
   ·exact e3
  ·simp only [List.mem_cons,List.not_mem_nil,or_false] at he;rcases he with rfl | rfl | rfl | rfl<;>simp
 clear e0 e1 e2 e3;have hRw:w.heap.size≤w.heap.size+1+1+1:=by omega
 go_enter Tryz.func54,Tryz.ntmps54
 go_upto_region 1 with fail
 generalize ((aW (aW (aW w (PlV pa pc p) 48) (BbV ba ca bo cb x) 39) (FlR proto src dst sp dp) 91).alloc (.cells Z8V.toArray 96))=W0 at *;have hR0:w.heap.size+1+1+1 < W0.heap.size:=(HS0.out.k _ mE3).lt (by simp);have HCP:Hid (∀ wy,Below W0.drew.heap.size W0.drew wy→_):=fun wy hy=>HS0.out.kept (bR.drew.trans hy)
 have hRl:w.heap.size+1+1+1 < W0.drew.heap.size:=hR0;have hwl:w.heap.size≤W0.drew.heap.size:=HS0.out.b.size;clear HS0 hR0;refine wp_region_growV [13,14,15,16,17,18,19,20,21,22,23,24,25,26,27,28,29,30,31,32] (by kernel_rfl) (by kernel_rfl) ?_;apply GChV.v0
 ·rfl
 ·intro K' a wy ho hd hb hK kz;have o6:=ho 6 (by decide);simp [slot] at o6;clear hd ho;have hst:=HCP.out wy hb;have HHk:=hst.at mE0;obtain ⟨k0,k1,k2,k3,k4,k5,k6,k7,k8,k9⟩:=HHk.c10;clear HHk;have HHl:=hst.at mE1;obtain ⟨l0,l1⟩:=HHl.c2;clear HHl;have HHm:=hst.at mE2;obtain ⟨m0,m1,m2,m3,m4⟩:=HHm.c5;clear HHm;clear hst;go_simp;try go_bits
  exact kz _ rfl
 apply GChV.v1
 ·rfl
 ·intro K' a wy ho hd hb hK kz;have o7:=ho 7 (by decide);simp [slot] at o7;clear hd ho;have hst:=HCP.out wy hb;have HHk:=hst.at mE0;obtain ⟨k0,k1,k2,k3,k4,k5,k6,k7,k8,k9⟩:=HHk.c10;clear HHk;have HHl:=hst.at mE1;obtain ⟨l0,l1⟩:=HHl.c2;clear HHl;have HHm:=hst.at mE2;obtain ⟨m0,m1,m2,m3,m4⟩:=HHm.c5;clear HHm;clear hst;go_simp;try go_bits
  exact kz _ rfl
 apply GChV.v2
 ·rfl
 ·intro K' a wy ho hd hb hK kz;have o8:=ho 8 (by decide);simp [slot] at o8;clear hd ho;go_simp;try go_bits
  exact kz _ rfl
 apply GChV.v3
 ·rfl
 ·intro K' a wy ho hd hb hK kz;have q2:=hd ⟨2,.data⟩ (by simp) rfl;simp [rAt,IsV,slot] at q2;clear hd ho;have hst:=HCP.out wy hb;have HHk:=hst.at mE0;obtain ⟨k0,k1,k2,k3,k4,k5,k6,k7,k8,k9⟩:=HHk.c10;clear HHk;have HHl:=hst.at mE1;obtain ⟨l0,l1⟩:=HHl.c2;clear HHl;have HHm:=hst.at mE2;obtain ⟨m0,m1,m2,m3,m4⟩:=HHm.c5;clear HHm;clear hst;go_simp;try go_bits
  exact kz _ rfl
 apply GChV.v4
 ·rfl
 ·intro K' a wy ho hd hb hK kz;have q3:=hd ⟨3,.data⟩ (by simp) rfl;simp [rAt,IsV,slot] at q3;clear hd ho;go_simp;refine (HPN.out wy).mono ?_;rintro e wz ⟨rfl,hz⟩;exact hK _ _ rfl hz
 apply GChV.v5
 ·rfl
 ·intro K' a wy ho hd hb hK kz;have o8:=ho 8 (by decide);simp [slot] at o8;clear hd ho;go_simp;try go_bits
  exact kz _ rfl
 apply GChV.v6
 ·rfl
 ·intro K' a wy ho hd hb hK kz;have q5:=hd ⟨5,.data⟩ (by simp) rfl;simp [rAt,IsV,slot] at q5;clear hd ho;have hst:=HCP.out wy hb;have HHk:=hst.at mE0;obtain ⟨k0,k1,k2,k3,k4,k5,k6,k7,k8,k9⟩:=HHk.c10;clear HHk;have HHl:=hst.at mE1;obtain ⟨l0,l1⟩:=HHl.c2;clear HHl;have HHm:=hst.at mE2;obtain ⟨m0,m1,m2,m3,m4⟩:=HHm.c5;clear HHm;clear hst;go_simp;try go_bits
  exact kz _ rfl
 apply GChV.v7
 ·rfl
 ·intro K' a wy ho hd hb hK kz;have o8:=ho 8 (by decide);simp [slot] at o8;clear hd ho;go_simp;try go_bits
  exact kz _ rfl
 apply GChV.v8
 ·rfl
 ·intro K' a wy ho hd hb hK kz;have q7:=hd ⟨7,.data⟩ (by simp) rfl;simp [rAt,IsV,slot] at q7;clear hd ho;have hst:=HCP.out wy hb;have HHk:=hst.at mE0;obtain ⟨k0,k1,k2,k3,k4,k5,k6,k7,k8,k9⟩:=HHk.c10;clear HHk;have HHl:=hst.at mE1;obtain ⟨l0,l1⟩:=HHl.c2;clear HHl;have HHm:=hst.at mE2;obtain ⟨m0,m1,m2,m3,m4⟩:=HHm.c5;clear HHm;clear hst;go_simp;try go_bits
  exact kz _ rfl
 apply GChV.v9
 ·rfl
 ·intro K' a wy ho hd hb hK kz;have o3:=ho 3 (by decide);simp [slot] at o3;clear hd ho;go_simp;try go_bits
  exact kz _ rfl
 apply GChV.v10
 ·rfl
 ·intro K' a wy ho hd hb hK kz;have o8:=ho 8 (by decide);simp [slot] at o8;clear hd ho;have hst:=HCP.out wy hb;have HHk:=hst.at mE0;obtain ⟨k0,k1,k2,k3,k4,k5,k6,k7,k8,k9⟩:=HHk.c10;clear HHk;have HHl:=hst.at mE1;obtain ⟨l0,l1⟩:=HHl.c2;clear HHl;have HHm:=hst.at mE2;obtain ⟨m0,m1,m2,m3,m4⟩:=HHm.c5;clear HHm;clear hst;go_simp;try go_bits
  exact kz _ rfl
 apply GChV.v11
 ·rfl
 ·intro K' a wy ho hd hb hK kz;have o8:=ho 8 (by decide);simp [slot] at o8;clear hd ho;go_simp;try go_bits
  exact kz _ rfl
 apply GChV.v12
 ·rfl
 ·intro K' a wy ho hd hb hK kz;have q11:=hd ⟨11,.data⟩ (by simp) rfl;simp [rAt,IsV,slot] at q11;clear hd ho;have hst:=HCP.out wy hb;have HHk:=hst.at mE0;obtain ⟨k0,k1,k2,k3,k4,k5,k6,k7,k8,k9⟩:=HHk.c10;clear HHk;have HHl:=hst.at mE1;obtain ⟨l0,l1⟩:=HHl.c2;clear HHl;have HHm:=hst.at mE2;obtain ⟨m0,m1,m2,m3,m4⟩:=HHm.c5;clear HHm;clear hst;go_simp;try go_bits
  exact kz _ rfl
 apply GChV.v13
 ·rfl
 ·intro K' a wy ho hd hb hK kz;have q10:=hd ⟨10,.data⟩ (by simp) rfl;have q12:=hd ⟨12,.data⟩ (by simp) rfl;simp [rAt,IsV,slot] at q10 q12;clear hd ho;go_simp;refine (HPO.out wy).mono ?_;rintro e wz ⟨rfl,hz⟩;exact hK _ _ rfl hz
 apply GChV.v14
 ·rfl
 ·intro K' a wy ho hd hb hK kz;have o8:=ho 8 (by decide);simp [slot] at o8;clear hd ho;have hst:=HCP.out wy hb;have HHk:=hst.at mE0;obtain ⟨k0,k1,k2,k3,k4,k5,k6,k7,k8,k9⟩:=HHk.c10;clear HHk;have HHl:=hst.at mE1;obtain ⟨l0,l1⟩:=HHl.c2;clear HHl;have HHm:=hst.at mE2;obtain ⟨m0,m1,m2,m3,m4⟩:=HHm.c5;clear HHm;clear hst;go_simp;try go_bits
  exact kz _ rfl
 apply GChV.v15
 ·rfl
 ·intro K' a wy ho hd hb hK kz;have o4:=ho 4 (by decide);simp [slot] at o4;clear hd ho;go_simp;try go_bits
  exact kz _ rfl
 apply GChV.v16
 ·rfl
 ·intro K' a wy ho hd hb hK kz;have q14:=hd ⟨14,.data⟩ (by simp) rfl;have q15:=hd ⟨15,.data⟩ (by simp) rfl;simp [rAt,IsV,slot] at q14 q15;clear hd ho;go_simp;refine (HFL.out wy).mono ?_;rintro e wz ⟨rfl,hz⟩;exact hK _ _ rfl hz
 apply GChV.v17
 ·rfl
 ·intro K' a wy ho hd hb hK kz;have q4:=hd ⟨4,.data⟩ (by simp) rfl;have q6:=hd ⟨6,.data⟩ (by simp) rfl;have q8:=hd ⟨8,.data⟩ (by simp) rfl;have q9:=hd ⟨9,.data⟩ (by simp) rfl;have q13:=hd ⟨13,.data⟩ (by simp) rfl;have q16:=hd ⟨16,.data⟩ (by simp) rfl;simp [rAt,IsV,slot] at q4 q6 q8 q9 q13 q16;clear hd ho;go_simp;try go_bits
  exact kz _ rfl
 apply GChV.v18
 ·rfl
 ·intro K' a wy ho hd hb hK kz;have o5:=ho 5 (by decide);simp [slot] at o5;clear hd ho;go_simp;try go_bits
  exact kz _ rfl
 refine GChV.rel (n:=19) (IsBv W0.drew.heap.size nv) (stable_isBv _ _) [_,_,_,_,_,_,_,_,_,_,_,_,_,_,_,_,_,_,_,IsBv W0.drew.heap.size nv] rfl rfl ?_ ?_
 ·intro K' a wy ho hd hb hK;rw [wN rfl];have q0:=hd ⟨0,.data⟩ (by simp) rfl;have q1:=hd ⟨1,.data⟩ (by simp) rfl;have q17:=hd ⟨17,.data⟩ (by simp) rfl;have q18:=hd ⟨18,.data⟩ (by simp) rfl;simp [rAt,IsV,slot] at q0 q1 q17 q18;clear hd ho;go_simp;have hst:=HCP.out wy hb;refine (HGO.out wy hst.b).mono ?_;rintro e wz ⟨⟨a9,b9,c9,d9,rfl,hown⟩,hz⟩;exact hK _ _ ⟨a9,b9,c9,d9,rfl,⟨hown.bd.down hb.size,hown.ss.down hb.size,hown.ne⟩⟩ hz
 intro X wz hR hz;obtain ⟨x0,x1,x2,x3,x4,x5,x6,x7,x8,x9,x10,x11,x12,x13,x14,x15,x16,x17,x18,x19,-⟩:=hR;obtain ⟨a9,b9,c9,d9,e9,own9⟩:=x19;unfold boC at e9;simp only [IsV] at x0 x1 x2 x3 x4 x5 x6 x7 x8 x9 x10 x11 x12 x13 x14 x15 x16 x17 x18;simp only [putsFrom,x0,x1,x2,x3,x4,x5,x6,x7,x8,x9,x10,x11,x12,x13,x14,x15,x16,x17,x18,e9];clear x0 x1 x2 x3 x4 x5 x6 x7 x8 x9 x10 x11 x12 x13 x14 x15 x16 x17 x18;have V7:Hid (Bxs w [(w.heap.size,(PlV pa pc p)),(w.heap.size+1,(BbV ba ca bo cb x)),(w.heap.size+1+1,(FlR proto src dst sp dp)),(w.heap.size+1+1+1,Z8V)] wz):=HCP.out wz hz;clear hz HCP;have HHz:=V7.out.at mE3;obtain ⟨z0,z1,z2,z3,z4,z5,z6,z7⟩:=HHz.c8;obtain ⟨zf0,zf1,zf2,zf3,zf4,zf5,zf6,zf7⟩:=HHz.f8;have HRR:Hid (HoldsL ((sW (sW (sW (sW (sW (sW (sW wz (w.heap.size+1+1+1) 0 (.slice a9 nv.bib.binds.length c9)) (w.heap.size+1+1+1) 1 (.slice b9 nv.bib.sess.length d9)) (w.heap.size+1+1+1) 2 (iV nv.bind.proto)) (w.heap.size+1+1+1) 3 (.string nv.bind.inn)) (w.heap.size+1+1+1) 4 (iV nv.bind.inPort)) (w.heap.size+1+1+1) 5 (.string nv.bind.out)) (w.heap.size+1+1+1) 6 (iV nv.bind.outPort)).setCell ⟨w.heap.size+1+1+1,7,none⟩ (iV nv.code)) (w.heap.size+1+1+1) (BoV a9 c9 b9 d9 nv)):=((((((((HHz.set 0 (.slice a9 nv.bib.binds.length c9)).set 1 (.slice b9 nv.bib.sess.length d9)).set 2 (iV nv.bind.proto)).set 3 (.string nv.bind.inn)).set 4 (iV nv.bind.inPort)).set 5 (.string nv.bind.out)).set 6 (iV nv.bind.outPort)).set 7 (iV nv.code));have RB:Hid _:=((((((((V7.out.b.setCell (p:=⟨w.heap.size+1+1+1,0,none⟩) hRw (.slice a9 nv.bib.binds.length c9)).setCell (p:=⟨w.heap.size+1+1+1,1,none⟩) hRw (.slice b9 nv.bib.sess.length d9)).setCell (p:=⟨w.heap.size+1+1+1,2,none⟩) hRw (iV nv.bind.proto)).setCell (p:=⟨w.heap.size+1+1+1,3,none⟩) hRw (.string nv.bind.inn)).setCell (p:=⟨w.heap.size+1+1+1,4,none⟩) hRw (iV nv.bind.inPort)).setCell (p:=⟨w.heap.size+1+1+1,5,none⟩) hRw (.string nv.bind.out)).setCell (p:=⟨w.heap.size+1+1+1,6,none⟩) hRw (iV nv.bind.outPort)).setCell (p:=⟨w.heap.size+1+1+1,7,none⟩) hRw (iV nv.code));clear HHz;have HOW:Hid (BbOwn w.heap.size ((sW (sW (sW (sW (sW (sW (sW wz (w.heap.size+1+1+1) 0 (.slice a9 nv.bib.binds.length c9)) (w.heap.size+1+1+1) 1 (.slice b9 nv.bib.sess.length d9)) (w.heap.size+1+1+1) 2 (iV nv.bind.proto)) (w.heap.size+1+1+1) 3 (.string nv.bind.inn)) (w.heap.size+1+1+1) 4 (iV nv.bind.inPort)) (w.heap.size+1+1+1) 5 (.string nv.bind.out)) (w.heap.size+1+1+1) 6 (iV nv.bind.outPort)).setCell ⟨w.heap.size+1+1+1,7,none⟩ (iV nv.code)) a9 b9 nv.bib):=⟨(own9.bd.grown (grown_set (grown_set (grown_set (grown_set (grown_set (grown_set (grown_set (grown_set (World.grownBy.refl _ _) _) _) _) _) _) _) _) _) hRl).down hwl,(own9.ss.grown (grown_set (grown_set (grown_set (grown_set (grown_set (grown_set (grown_set (grown_set (World.grownBy.refl _ _) _) _) _) _) _) _) _) _) hRl).down hwl,own9.ne⟩
 clear own9 V7 HGO;intro K10 hK10;go_simp;refine hK10 _ _ ?_;simp only [wpSeq];go_wp2_with fail
 exact bodyPost_ret (results_mid Tryz.results54 _ _ (w.heap.size+1+1+1) (BoV a9 c9 b9 d9 nv) _ rfl HRR.out Tryz.underlying96 rfl (show (Tryz.prog.info? 96).map (·.size)=some 8 by kernel_rfl)) rfl (And.intro ⟨a9,b9,c9,d9,rfl,HOW.out⟩ RB.out)
theorem sp9Come_any (pa:Option Addr) (pc:Nat) (p:Pl) (ba bo:Option Addr) (ca cb:Nat) (x:Bb) (f:Fl) (t:ByteArray) (now:Int) (w:World) (hpo:poolOk p=true) (hnow:isTime now=true) (hfs:f.dst.size≤1048576) (h0:0≤f.dp) (h1:f.dp≤65535) (ht:t.size≤1048576) (h20:f.proto=6→20≤t.size) (hl1:x.binds.length≤1048576) (hl2:x.sess.length≤1048576) (hp:SlIs strL1 1 w pa p.addrs) (hx:BbIs w ba bo x) :
  Calls Tryz.prog 70 #[plC pa pc p,bbC ba bo ca cb x,fwC f,.string t,iV now] w fun e w'=>BoRet w.heap.size (goV p x (comeT f t) now) e w'∧Below w.heap.size w w':=by
 have HGO:Hid (∀ W,Below w.heap.size w W→Calls Tryz.prog 85 #[plC pa pc p,bbC ba bo ca cb x,.agg (TcR f.proto false f.dst f.dp f.src (peerV f.proto f.sp) (flagV f.proto t)).toArray,iV now] W fun e w'=>BoRet W.heap.size (goV p x (comeT f t) now) e w'∧Below W.heap.size W w'):=fun W hW=>spGo_any pa pc p ba bo ca cb x (comeT f t) now W hpo hnow hfs h0 h1 hl1 hl2 (hp.below hW) (hx.below hW)
 have HPO:Hid (∀ W,Cb 87 #[fwC f,iV f.sp] W (iV (peerV f.proto f.sp))):=fun W=>sp9Port_any f _ W
 have HFL:Hid (∀ W,Cb 88 #[fwC f,.string t] W (iV (flagV f.proto t))):=fun W=>sp9Flags_any f t W ht h20
 generalize goV p x (comeT f t) now=nv at *;generalize peerV f.proto f.sp=pv at *;generalize flagV f.proto t=fv at *;obtain ⟨proto,src,dst,sp,dp⟩:=f;dsimp only at *;clear hp hx hpo hnow h20;unfold plC bbC fwC at *;dsimp only at *;have e0:HoldsL ((aW (aW (aW w (PlV pa pc p) 48) (BbV ba ca bo cb x) 39) (FlR proto src dst sp dp) 91).alloc (.cells Z8V.toArray 96)) (w.heap.size) (PlV pa pc p):=by
  have h:=HoldsL.new w (PlV pa pc p) 48;try simp only [World.size_alloc] at h
  exact (((h.alloc _).alloc _).alloc _)
 have e1:HoldsL ((aW (aW (aW w (PlV pa pc p) 48) (BbV ba ca bo cb x) 39) (FlR proto src dst sp dp) 91).alloc (.cells Z8V.toArray 96)) (w.heap.size+1) (BbV ba ca bo cb x):=by
  have h:=HoldsL.new (w.alloc (.cells (PlV pa pc p).toArray 48)) (BbV ba ca bo cb x) 39;try simp only [World.size_alloc] at h
  exact ((h.alloc _).alloc _)
 have e2:HoldsL ((aW (aW (aW w (PlV pa pc p) 48) (BbV ba ca bo cb x) 39) (FlR proto src dst sp dp) 91).alloc (.cells Z8V.toArray 96)) (w.heap.size+1+1) (FlR proto src dst sp dp):=by
  have h:=HoldsL.new ((aW w (PlV pa pc p) 48).alloc (.cells (BbV ba ca bo cb x).toArray 39)) (FlR proto src dst sp dp) 91;try simp only [World.size_alloc] at h
  exact (h.alloc _)
 have e3:HoldsL ((aW (aW (aW w (PlV pa pc p) 48) (BbV ba ca bo cb x) 39) (FlR proto src dst sp dp) 91).alloc (.cells Z8V.toArray 96)) (w.heap.size+1+1+1) Z8V:=by
  have h:=HoldsL.new ((aW (aW w (PlV pa pc p) 48) (BbV ba ca bo cb x) 39).alloc (.cells (FlR proto src dst sp dp).toArray 91)) Z8V 96;try simp only [World.size_alloc] at h
  exact h
 have HS0:Hid (Bxs w [(w.heap.size,(PlV pa pc p)),(w.heap.size+1,(BbV ba ca bo cb x)),(w.heap.size+1+1,(FlR proto src dst sp dp)),(w.heap.size+1+1+1,Z8V)] ((aW (aW (aW w (PlV pa pc p) 48) (BbV ba ca bo cb x) 39) (FlR proto src dst sp dp) 91).alloc (.cells Z8V.toArray 96))):=by
  refine ⟨fun e he=>?_,((((bR.alloc (by (try simp only [World.size_alloc]); omega) _).alloc (by (try simp only [World.size_alloc]); omega) _).alloc (by (try simp only [World.size_alloc]); omega) _).alloc (by (try simp only [World.size_alloc]); omega) _),fun e he=>?_⟩
  ·simp only [List.mem_cons,List.not_mem_nil,or_false] at he;rcases he with rfl | rfl | rfl | rfl
   ·exact e0
   ·exact e1
   ·exact e2
   ·exact e3
  ·simp only [List.mem_cons,List.not_mem_nil,or_false] at he;rcases he with rfl | rfl | rfl | rfl<;>simp
 clear e0 e1 e2 e3;have hRw:w.heap.size≤w.heap.size+1+1+1:=by omega
 go_enter Tryz.func70,Tryz.ntmps70
 go_upto_region 1 with fail
 generalize ((aW (aW (aW w (PlV pa pc p) 48) (BbV ba ca bo cb x) 39) (FlR proto src dst sp dp) 91).alloc (.cells Z8V.toArray 96))=W0 at *;have hR0:w.heap.size+1+1+1 < W0.heap.size:=(HS0.out.k _ mE3).lt (by simp);have HCP:Hid (∀ wy,Below W0.drew.heap.size W0.drew wy→_):=fun wy hy=>HS0.out.kept (bR.drew.trans hy)
 have hRl:w.heap.size+1+1+1 < W0.drew.heap.size:=hR0;have hwl:w.heap.size≤W0.drew.heap.size:=HS0.out.b.size;clear HS0 hR0;refine wp_region_growV [11,12,13,14,15,16,17,18,19,20,21,22,23,24,25,26,27,28,29,30] (by kernel_rfl) (by kernel_rfl) ?_;apply GChV.v0
 ·rfl
 ·intro K' a wy ho hd hb hK kz;have o5:=ho 5 (by decide);simp [slot] at o5;clear hd ho;have hst:=HCP.out wy hb;have HHk:=hst.at mE0;obtain ⟨k0,k1,k2,k3,k4,k5,k6,k7,k8,k9⟩:=HHk.c10;clear HHk;have HHl:=hst.at mE1;obtain ⟨l0,l1⟩:=HHl.c2;clear HHl;have HHm:=hst.at mE2;obtain ⟨m0,m1,m2,m3,m4⟩:=HHm.c5;clear HHm;clear hst;go_simp;try go_bits
  exact kz _ rfl
 apply GChV.v1
 ·rfl
 ·intro K' a wy ho hd hb hK kz;have o6:=ho 6 (by decide);simp [slot] at o6;clear hd ho;have hst:=HCP.out wy hb;have HHk:=hst.at mE0;obtain ⟨k0,k1,k2,k3,k4,k5,k6,k7,k8,k9⟩:=HHk.c10;clear HHk;have HHl:=hst.at mE1;obtain ⟨l0,l1⟩:=HHl.c2;clear HHl;have HHm:=hst.at mE2;obtain ⟨m0,m1,m2,m3,m4⟩:=HHm.c5;clear HHm;clear hst;go_simp;try go_bits
  exact kz _ rfl
 apply GChV.v2
 ·rfl
 ·intro K' a wy ho hd hb hK kz;have o7:=ho 7 (by decide);simp [slot] at o7;clear hd ho;go_simp;try go_bits
  exact kz _ rfl
 apply GChV.v3
 ·rfl
 ·intro K' a wy ho hd hb hK kz;have q2:=hd ⟨2,.data⟩ (by simp) rfl;simp [rAt,IsV,slot] at q2;clear hd ho;have hst:=HCP.out wy hb;have HHk:=hst.at mE0;obtain ⟨k0,k1,k2,k3,k4,k5,k6,k7,k8,k9⟩:=HHk.c10;clear HHk;have HHl:=hst.at mE1;obtain ⟨l0,l1⟩:=HHl.c2;clear HHl;have HHm:=hst.at mE2;obtain ⟨m0,m1,m2,m3,m4⟩:=HHm.c5;clear HHm;clear hst;go_simp;try go_bits
  exact kz _ rfl
 apply GChV.v4
 ·rfl
 ·intro K' a wy ho hd hb hK kz;have o7:=ho 7 (by decide);simp [slot] at o7;clear hd ho;go_simp;try go_bits
  exact kz _ rfl
 apply GChV.v5
 ·rfl
 ·intro K' a wy ho hd hb hK kz;have q4:=hd ⟨4,.data⟩ (by simp) rfl;simp [rAt,IsV,slot] at q4;clear hd ho;have hst:=HCP.out wy hb;have HHk:=hst.at mE0;obtain ⟨k0,k1,k2,k3,k4,k5,k6,k7,k8,k9⟩:=HHk.c10;clear HHk;have HHl:=hst.at mE1;obtain ⟨l0,l1⟩:=HHl.c2;clear HHl;have HHm:=hst.at mE2;obtain ⟨m0,m1,m2,m3,m4⟩:=HHm.c5;clear HHm;clear hst;go_simp;try go_bits
  exact kz _ rfl
 apply GChV.v6
 ·rfl
 ·intro K' a wy ho hd hb hK kz;have o7:=ho 7 (by decide);simp [slot] at o7;clear hd ho;go_simp;try go_bits
  exact kz _ rfl
 apply GChV.v7
 ·rfl
 ·intro K' a wy ho hd hb hK kz;have q6:=hd ⟨6,.data⟩ (by simp) rfl;simp [rAt,IsV,slot] at q6;clear hd ho;have hst:=HCP.out wy hb;have HHk:=hst.at mE0;obtain ⟨k0,k1,k2,k3,k4,k5,k6,k7,k8,k9⟩:=HHk.c10;clear HHk;have HHl:=hst.at mE1;obtain ⟨l0,l1⟩:=HHl.c2;clear HHl;have HHm:=hst.at mE2;obtain ⟨m0,m1,m2,m3,m4⟩:=HHm.c5;clear HHm;clear hst;go_simp;try go_bits
  exact kz _ rfl
 apply GChV.v8
 ·rfl
 ·intro K' a wy ho hd hb hK kz;have o7:=ho 7 (by decide);simp [slot] at o7;clear hd ho;go_simp;try go_bits
  exact kz _ rfl
 apply GChV.v9
 ·rfl
 ·intro K' a wy ho hd hb hK kz;have q8:=hd ⟨8,.data⟩ (by simp) rfl;simp [rAt,IsV,slot] at q8;clear hd ho;have hst:=HCP.out wy hb;have HHk:=hst.at mE0;obtain ⟨k0,k1,k2,k3,k4,k5,k6,k7,k8,k9⟩:=HHk.c10;clear HHk;have HHl:=hst.at mE1;obtain ⟨l0,l1⟩:=HHl.c2;clear HHl;have HHm:=hst.at mE2;obtain ⟨m0,m1,m2,m3,m4⟩:=HHm.c5;clear HHm;clear hst;go_simp;try go_bits
  exact kz _ rfl
 apply GChV.v10
 ·rfl
 ·intro K' a wy ho hd hb hK kz;have o7:=ho 7 (by decide);simp [slot] at o7;clear hd ho;have hst:=HCP.out wy hb;have HHk:=hst.at mE0;obtain ⟨k0,k1,k2,k3,k4,k5,k6,k7,k8,k9⟩:=HHk.c10;clear HHk;have HHl:=hst.at mE1;obtain ⟨l0,l1⟩:=HHl.c2;clear HHl;have HHm:=hst.at mE2;obtain ⟨m0,m1,m2,m3,m4⟩:=HHm.c5;clear HHm;clear hst;go_simp;try go_bits
  exact kz _ rfl
 apply GChV.v11
 ·rfl
 ·intro K' a wy ho hd hb hK kz;have o7:=ho 7 (by decide);simp [slot] at o7;clear hd ho;go_simp;try go_bits
  exact kz _ rfl
 apply GChV.v12
 ·rfl
 ·intro K' a wy ho hd hb hK kz;have q11:=hd ⟨11,.data⟩ (by simp) rfl;simp [rAt,IsV,slot] at q11;clear hd ho;have hst:=HCP.out wy hb;have HHk:=hst.at mE0;obtain ⟨k0,k1,k2,k3,k4,k5,k6,k7,k8,k9⟩:=HHk.c10;clear HHk;have HHl:=hst.at mE1;obtain ⟨l0,l1⟩:=HHl.c2;clear HHl;have HHm:=hst.at mE2;obtain ⟨m0,m1,m2,m3,m4⟩:=HHm.c5;clear HHm;clear hst;go_simp;try go_bits
  exact kz _ rfl
 apply GChV.v13
 ·rfl
 ·intro K' a wy ho hd hb hK kz;have q10:=hd ⟨10,.data⟩ (by simp) rfl;have q12:=hd ⟨12,.data⟩ (by simp) rfl;simp [rAt,IsV,slot] at q10 q12;clear hd ho;go_simp;refine (HPO.out wy).mono ?_;rintro e wz ⟨rfl,hz⟩;exact hK _ _ rfl hz
 apply GChV.v14
 ·rfl
 ·intro K' a wy ho hd hb hK kz;have o7:=ho 7 (by decide);simp [slot] at o7;clear hd ho;have hst:=HCP.out wy hb;have HHk:=hst.at mE0;obtain ⟨k0,k1,k2,k3,k4,k5,k6,k7,k8,k9⟩:=HHk.c10;clear HHk;have HHl:=hst.at mE1;obtain ⟨l0,l1⟩:=HHl.c2;clear HHl;have HHm:=hst.at mE2;obtain ⟨m0,m1,m2,m3,m4⟩:=HHm.c5;clear HHm;clear hst;go_simp;try go_bits
  exact kz _ rfl
 apply GChV.v15
 ·rfl
 ·intro K' a wy ho hd hb hK kz;have o3:=ho 3 (by decide);simp [slot] at o3;clear hd ho;go_simp;try go_bits
  exact kz _ rfl
 apply GChV.v16
 ·rfl
 ·intro K' a wy ho hd hb hK kz;have q14:=hd ⟨14,.data⟩ (by simp) rfl;have q15:=hd ⟨15,.data⟩ (by simp) rfl;simp [rAt,IsV,slot] at q14 q15;clear hd ho;go_simp;refine (HFL.out wy).mono ?_;rintro e wz ⟨rfl,hz⟩;exact hK _ _ rfl hz
 apply GChV.v17
 ·rfl
 ·intro K' a wy ho hd hb hK kz;have q3:=hd ⟨3,.data⟩ (by simp) rfl;have q5:=hd ⟨5,.data⟩ (by simp) rfl;have q7:=hd ⟨7,.data⟩ (by simp) rfl;have q9:=hd ⟨9,.data⟩ (by simp) rfl;have q13:=hd ⟨13,.data⟩ (by simp) rfl;have q16:=hd ⟨16,.data⟩ (by simp) rfl;simp [rAt,IsV,slot] at q3 q5 q7 q9 q13 q16;clear hd ho;go_simp;try go_bits
  exact kz _ rfl
 apply GChV.v18
 ·rfl
 ·intro K' a wy ho hd hb hK kz;have o4:=ho 4 (by decide);simp [slot] at o4;clear hd ho;go_simp;try go_bits
  exact kz _ rfl
 refine GChV.rel (n:=19) (IsBv W0.drew.heap.size nv) (stable_isBv _ _) [_,_,_,_,_,_,_,_,_,_,_,_,_,_,_,_,_,_,_,IsBv W0.drew.heap.size nv] rfl rfl ?_ ?_
 ·intro K' a wy ho hd hb hK;rw [wN rfl];have q0:=hd ⟨0,.data⟩ (by simp) rfl;have q1:=hd ⟨1,.data⟩ (by simp) rfl;have q17:=hd ⟨17,.data⟩ (by simp) rfl;have q18:=hd ⟨18,.data⟩ (by simp) rfl;simp [rAt,IsV,slot] at q0 q1 q17 q18;clear hd ho;go_simp;have hst:=HCP.out wy hb;refine (HGO.out wy hst.b).mono ?_;rintro e wz ⟨⟨a9,b9,c9,d9,rfl,hown⟩,hz⟩;exact hK _ _ ⟨a9,b9,c9,d9,rfl,⟨hown.bd.down hb.size,hown.ss.down hb.size,hown.ne⟩⟩ hz
 intro X wz hR hz;obtain ⟨x0,x1,x2,x3,x4,x5,x6,x7,x8,x9,x10,x11,x12,x13,x14,x15,x16,x17,x18,x19,-⟩:=hR;obtain ⟨a9,b9,c9,d9,e9,own9⟩:=x19;unfold boC at e9;simp only [IsV] at x0 x1 x2 x3 x4 x5 x6 x7 x8 x9 x10 x11 x12 x13 x14 x15 x16 x17 x18;simp only [putsFrom,x0,x1,x2,x3,x4,x5,x6,x7,x8,x9,x10,x11,x12,x13,x14,x15,x16,x17,x18,e9];clear x0 x1 x2 x3 x4 x5 x6 x7 x8 x9 x10 x11 x12 x13 x14 x15 x16 x17 x18;have V7:Hid (Bxs w [(w.heap.size,(PlV pa pc p)),(w.heap.size+1,(BbV ba ca bo cb x)),(w.heap.size+1+1,(FlR proto src dst sp dp)),(w.heap.size+1+1+1,Z8V)] wz):=HCP.out wz hz;clear hz HCP;have HHz:=V7.out.at mE3;obtain ⟨z0,z1,z2,z3,z4,z5,z6,z7⟩:=HHz.c8;obtain ⟨zf0,zf1,zf2,zf3,zf4,zf5,zf6,zf7⟩:=HHz.f8;have HRR:Hid (HoldsL ((sW (sW (sW (sW (sW (sW (sW wz (w.heap.size+1+1+1) 0 (.slice a9 nv.bib.binds.length c9)) (w.heap.size+1+1+1) 1 (.slice b9 nv.bib.sess.length d9)) (w.heap.size+1+1+1) 2 (iV nv.bind.proto)) (w.heap.size+1+1+1) 3 (.string nv.bind.inn)) (w.heap.size+1+1+1) 4 (iV nv.bind.inPort)) (w.heap.size+1+1+1) 5 (.string nv.bind.out)) (w.heap.size+1+1+1) 6 (iV nv.bind.outPort)).setCell ⟨w.heap.size+1+1+1,7,none⟩ (iV nv.code)) (w.heap.size+1+1+1) (BoV a9 c9 b9 d9 nv)):=((((((((HHz.set 0 (.slice a9 nv.bib.binds.length c9)).set 1 (.slice b9 nv.bib.sess.length d9)).set 2 (iV nv.bind.proto)).set 3 (.string nv.bind.inn)).set 4 (iV nv.bind.inPort)).set 5 (.string nv.bind.out)).set 6 (iV nv.bind.outPort)).set 7 (iV nv.code));have RB:Hid _:=((((((((V7.out.b.setCell (p:=⟨w.heap.size+1+1+1,0,none⟩) hRw (.slice a9 nv.bib.binds.length c9)).setCell (p:=⟨w.heap.size+1+1+1,1,none⟩) hRw (.slice b9 nv.bib.sess.length d9)).setCell (p:=⟨w.heap.size+1+1+1,2,none⟩) hRw (iV nv.bind.proto)).setCell (p:=⟨w.heap.size+1+1+1,3,none⟩) hRw (.string nv.bind.inn)).setCell (p:=⟨w.heap.size+1+1+1,4,none⟩) hRw (iV nv.bind.inPort)).setCell (p:=⟨w.heap.size+1+1+1,5,none⟩) hRw (.string nv.bind.out)).setCell (p:=⟨w.heap.size+1+1+1,6,none⟩) hRw (iV nv.bind.outPort)).setCell (p:=⟨w.heap.size+1+1+1,7,none⟩) hRw (iV nv.code));clear HHz;have HOW:Hid (BbOwn w.heap.size ((sW (sW (sW (sW (sW (sW (sW wz (w.heap.size+1+1+1) 0 (.slice a9 nv.bib.binds.length c9)) (w.heap.size+1+1+1) 1 (.slice b9 nv.bib.sess.length d9)) (w.heap.size+1+1+1) 2 (iV nv.bind.proto)) (w.heap.size+1+1+1) 3 (.string nv.bind.inn)) (w.heap.size+1+1+1) 4 (iV nv.bind.inPort)) (w.heap.size+1+1+1) 5 (.string nv.bind.out)) (w.heap.size+1+1+1) 6 (iV nv.bind.outPort)).setCell ⟨w.heap.size+1+1+1,7,none⟩ (iV nv.code)) a9 b9 nv.bib):=⟨(own9.bd.grown (grown_set (grown_set (grown_set (grown_set (grown_set (grown_set (grown_set (grown_set (World.grownBy.refl _ _) _) _) _) _) _) _) _) _) hRl).down hwl,(own9.ss.grown (grown_set (grown_set (grown_set (grown_set (grown_set (grown_set (grown_set (grown_set (World.grownBy.refl _ _) _) _) _) _) _) _) _) _) hRl).down hwl,own9.ne⟩
 clear own9 V7 HGO;intro K10 hK10;go_simp;refine hK10 _ _ ?_;simp only [wpSeq];go_wp2_with fail
 exact bodyPost_ret (results_mid Tryz.results70 _ _ (w.heap.size+1+1+1) (BoV a9 c9 b9 d9 nv) _ rfl HRR.out Tryz.underlying96 rfl (show (Tryz.prog.info? 96).map (·.size)=some 8 by kernel_rfl)) rfl (And.intro ⟨a9,b9,c9,d9,rfl,HOW.out⟩ RB.out)
def NoRet (base:Nat) (o:No) (e:Ending) (w':World):Prop:=∃ a b ca cb,e=.returned (noC a b ca cb o)∧BbOwn base w' a b o.bib
theorem noRet_ill {base:Nat} {w:World} (c:Int):NoRet base (noE c) (.returned (noC none none 0 0 (noE c))) w:=⟨none,none,0,0,rfl,.inl rfl,.inl rfl,fun g h e1=>by simp at e1⟩
theorem no_info:(Tryz.prog.info? 44).map (·.size)=some 25:=by kernel_rfl
theorem sp9Ill_any (c:Int) (w:World) :
  Cb 29 #[iV c] w (noC none none 0 0 (noE c)):=by
 have H0:Hid (HoldsL (w.alloc (.cells Z25V.toArray 44)) w.heap.size (noL none none 0 0 (noE 0))):=HoldsL.new w Z25V 44;have B0:Hid (Below w.heap.size w (w.alloc (.cells Z25V.toArray 44))):=bR.alloc (Nat.le_refl _) _;go_enter Tryz.func29,Tryz.ntmps29
 go_upto_region 1 with fail
 generalize (w.alloc (.cells Z25V.toArray 44))=W0 at *;have HTH:Hid (W0.there w.heap.size 0 (noL none none 0 0 (noE c)).toArray.size):=noL_there H0.out _ _ _ _ _;have HRR:Hid (HoldsL (W0.setCells w.heap.size 0 (noL none none 0 0 (noE c)).toArray.toList) w.heap.size (noL none none 0 0 (noE c))):=H0.out.mid rfl;have RB:Hid (Below w.heap.size w (W0.setCells w.heap.size 0 (noL none none 0 0 (noE c)).toArray.toList)):=Below.mid B0.out (Nat.le_refl _) _;clear H0 B0;go_wp2_with (refine wpList_store_mid (by rfl) 44 (.tmp 2) (.tmp 4) (by rfl) w.heap.size 0 (noL none none 0 0 (noE c)).toArray (by rfl) (by rfl) HTH.out no_info (noL_one _ _ _ _ _) ?_)
 exact bodyPost_ret (results_mid Tryz.results29 _ _ w.heap.size (noL none none 0 0 (noE c)) _ rfl HRR.out Tryz.underlying44 rfl no_info) rfl (And.intro rfl RB.out)
theorem sp9NatGo_any (pa:Option Addr) (pc:Nat) (p:Pl) (ba bo:Option Addr) (ca cb:Nat) (x:Bb) (q:P4) (now:Int) (w:World) (hbk:bibOk p x=true) (hq:v4Ok q=true) (hnow:isTime now=true) (hl1:x.binds.length≤1048576) (hl2:x.sess.length≤1048576) (hp:SlIs strL1 1 w pa p.addrs) (hx:BbIs w ba bo x) :
  Calls Tryz.prog 30 #[plC pa pc p,bbC ba bo ca cb x,p4C q,iV now] w fun e w'=>NoRet w.heap.size (natGoIn p x q now) e w'∧Below w.heap.size w w':=by
 obtain ⟨hA,hB⟩ : v4A q=true∧v4B q=true:=by unfold v4Ok at hq; simp only [Bool.and_eq_true] at hq; exact hq.1
 obtain ⟨-,-,hpr,-,-,hs,hd⟩:=v4A_parts hA;obtain ⟨-,-,hdt,-,-⟩:=v4B_parts hB;have hpo:poolOk p=true:=(bibR_iff.1 hbk).pool;have HOF:Hid (∀ W,Cb 53 #[.string q.src,.string q.dst,iV q.proto,.string q.data] W (.tuple #[fwC (ofFl q.src q.dst q.proto q.data),iV (ofCode q.src.size q.proto q.data)])):=fun W=>spOf_any _ _ _ _ W (by omega) (by omega)
 have HIL:Hid (∀ c W,Cb 29 #[iV c] W (noC none none 0 0 (noE c))):=fun c W=>sp9Ill_any c W
 have HGO:Hid (ofCode q.src.size q.proto q.data=0→∀ W,Below w.heap.size w W→Calls Tryz.prog 54 #[plC pa pc p,bbC ba bo ca cb x,fwC (ofFl q.src q.dst q.proto q.data),.string q.dst,.string q.data,iV now] W fun e w'=>BoRet W.heap.size (goV p x (goT (ofFl q.src q.dst q.proto q.data) q.dst q.data) now) e w'∧Below W.heap.size W w'):=fun h W hW=>by
  obtain ⟨z1,z2,z3,z4,z5,z6⟩:=ofFl_zero (d:=q.dst) h;exact sp9Go_any pa pc p ba bo ca cb x _ q.dst q.data now W hpo hnow (by rw [z2]; omega) z4.1 z4.2 (by omega) (by rw [z1]; exact (ofCode_size h).2) hl1 hl2 (hp.below hW) (hx.below hW)
 have HBE:Hid (ofCode q.src.size q.proto q.data=0→(goV p x (goT (ofFl q.src q.dst q.proto q.data) q.dst q.data) now).code=0→_):=fun h h2=>bind_ends hbk hnow (goT_ok hs hd h) h2
 have HFM:Hid (ofCode q.src.size q.proto q.data=0→(goV p x (goT (ofFl q.src q.dst q.proto q.data) q.dst q.data) now).code=0→∀ W,Cb 56 #[fwC (ofFl q.src q.dst q.proto q.data),.string (goV p x (goT (ofFl q.src q.dst q.proto q.data) q.dst q.data) now).bind.out,iV (goV p x (goT (ofFl q.src q.dst q.proto q.data) q.dst q.data) now).bind.outPort,.string q.dst] W (fwC (fromF (ofFl q.src q.dst q.proto q.data) (goV p x (goT (ofFl q.src q.dst q.proto q.data) q.dst q.data) now).bind.out (goV p x (goT (ofFl q.src q.dst q.proto q.data) q.dst q.data) now).bind.outPort q.dst))):=fun h h2 W=>sp9From_any _ _ _ _ W (by have:=(HBE.out h h2).1; omega)
 have HST:Hid (ofCode q.src.size q.proto q.data=0→(goV p x (goT (ofFl q.src q.dst q.proto q.data) q.dst q.data) now).code=0→∀ W,Cb 55 #[fwC (ofFl q.src q.dst q.proto q.data),fwC (fromF (ofFl q.src q.dst q.proto q.data) (goV p x (goT (ofFl q.src q.dst q.proto q.data) q.dst q.data) now).bind.out (goV p x (goT (ofFl q.src q.dst q.proto q.data) q.dst q.data) now).bind.outPort q.dst),.string q.data] W (dtCO (setD (ofFl q.src q.dst q.proto q.data) (fromF (ofFl q.src q.dst q.proto q.data) (goV p x (goT (ofFl q.src q.dst q.proto q.data) q.dst q.data) now).bind.out (goV p x (goT (ofFl q.src q.dst q.proto q.data) q.dst q.data) now).bind.outPort q.dst) q.data) 0)):=fun h h2 W=>by
  obtain ⟨z1,z2,z3,z4,z5,z6⟩:=ofFl_zero (d:=q.dst) h;obtain ⟨b1,b2,b3,b4,b5⟩:=HBE.out h h2;obtain ⟨k1,k2,k3,k4⟩:=kind_right (f:=ofFl q.src q.dst q.proto q.data) (g:=⟨(ofFl q.src q.dst q.proto q.data).proto,(goV p x (goT (ofFl q.src q.dst q.proto q.data) q.dst q.data) now).bind.out,q.dst,(goV p x (goT (ofFl q.src q.dst q.proto q.data) q.dst q.data) now).bind.outPort,(ofFl q.src q.dst q.proto q.data).dp⟩) (flowOk_of h (pair_four hs hd)) (by rw [z2]; exact hs) b1 hd rfl b2 z5;obtain ⟨m1,m2,m3⟩:=flowOk_parts k1;have o:=ofCode_size h;refine (spSet_any _ (fromF (ofFl q.src q.dst q.proto q.data) (goV p x (goT (ofFl q.src q.dst q.proto q.data) q.dst q.data) now).bind.out (goV p x (goT (ofFl q.src q.dst q.proto q.data) q.dst q.data) now).bind.outPort q.dst) q.data W (by omega) o.1 (by rw [z1]; exact o.2) ⟨by rw [z2]; omega,by rw [z3]; omega⟩ m1 (by rw [z1]; exact hpr) m2 m3).mono ?_;rintro e w' ⟨rfl,hb⟩;refine ⟨?_,hb⟩;unfold setD;have k5:(fromF (ofFl q.src q.dst q.proto q.data) (goV p x (goT (ofFl q.src q.dst q.proto q.data) q.dst q.data) now).bind.out (goV p x (goT (ofFl q.src q.dst q.proto q.data) q.dst q.data) now).bind.outPort q.dst).src.size=4:=by show (kindF _ _).src.size=4; rw [k3]; exact b1
  have k6:¬ (fromF (ofFl q.src q.dst q.proto q.data) (goV p x (goT (ofFl q.src q.dst q.proto q.data) q.dst q.data) now).bind.out (goV p x (goT (ofFl q.src q.dst q.proto q.data) q.dst q.data) now).bind.outPort q.dst).src.size=16:=by omega
  simp only [if_neg k6];by_cases hbu:bareUdp (ofFl q.src q.dst q.proto q.data) q.data=true
  ·simp only [if_pos hbu]
  ·simp only [if_neg hbu]
 have HV:Hid (natGoIn p x q now=if ofCode q.src.size q.proto q.data≠0 then noE (ofCode q.src.size q.proto q.data) else if (goV p x (goT (ofFl q.src q.dst q.proto q.data) q.dst q.data) now).code≠0 then noE (goV p x (goT (ofFl q.src q.dst q.proto q.data) q.dst q.data) now).code else ⟨(goV p x (goT (ofFl q.src q.dst q.proto q.data) q.dst q.data) now).bib,{ q with src:=(goV p x (goT (ofFl q.src q.dst q.proto q.data) q.dst q.data) now).bind.out,data:=setD (ofFl q.src q.dst q.proto q.data) (fromF (ofFl q.src q.dst q.proto q.data) (goV p x (goT (ofFl q.src q.dst q.proto q.data) q.dst q.data) now).bind.out (goV p x (goT (ofFl q.src q.dst q.proto q.data) q.dst q.data) now).bind.outPort q.dst) q.data },p6Zero,0⟩):=rfl;clear HBE;generalize natGoIn p x q now=ans at *;generalize setD (ofFl q.src q.dst q.proto q.data) (fromF (ofFl q.src q.dst q.proto q.data) (goV p x (goT (ofFl q.src q.dst q.proto q.data) q.dst q.data) now).bind.out (goV p x (goT (ofFl q.src q.dst q.proto q.data) q.dst q.data) now).bind.outPort q.dst) q.data=sd at *;generalize fromF (ofFl q.src q.dst q.proto q.data) (goV p x (goT (ofFl q.src q.dst q.proto q.data) q.dst q.data) now).bind.out (goV p x (goT (ofFl q.src q.dst q.proto q.data) q.dst q.data) now).bind.outPort q.dst=g at *;generalize goV p x (goT (ofFl q.src q.dst q.proto q.data) q.dst q.data) now=nv at *;generalize ofFl q.src q.dst q.proto q.data=fl at *;generalize ofCode q.src.size q.proto q.data=cd at *;obtain ⟨tos,id,whole,more,off,ttl,proto,src,dst,opts,data⟩:=q;clear hp hx hpo hnow hbk hq hA hB;unfold plC bbC p4C at *;unfold fwC dtCO at *;dsimp only at *;have e0:HoldsL ((aW (aW (aW w (PlV pa pc p) 48) (BbV ba ca bo cb x) 39) (P4R tos id whole more off ttl proto src dst opts data) 40).alloc (.cells Z25V.toArray 44)) (w.heap.size) (PlV pa pc p):=by
  have h:=HoldsL.new w (PlV pa pc p) 48;try simp only [World.size_alloc] at h
  exact (((h.alloc _).alloc _).alloc _)
 have e1:HoldsL ((aW (aW (aW w (PlV pa pc p) 48) (BbV ba ca bo cb x) 39) (P4R tos id whole more off ttl proto src dst opts data) 40).alloc (.cells Z25V.toArray 44)) (w.heap.size+1) (BbV ba ca bo cb x):=by
  have h:=HoldsL.new (w.alloc (.cells (PlV pa pc p).toArray 48)) (BbV ba ca bo cb x) 39;try simp only [World.size_alloc] at h
  exact ((h.alloc _).alloc _)
 have e2:HoldsL ((aW (aW (aW w (PlV pa pc p) 48) (BbV ba ca bo cb x) 39) (P4R tos id whole more off ttl proto src dst opts data) 40).alloc (.cells Z25V.toArray 44)) (w.heap.size+1+1) (P4R tos id whole more off ttl proto src dst opts data):=by
  have h:=HoldsL.new ((aW w (PlV pa pc p) 48).alloc (.cells (BbV ba ca bo cb x).toArray 39)) (P4R tos id whole more off ttl proto src dst opts data) 40;try simp only [World.size_alloc] at h
  exact (h.alloc _)
 have e3:HoldsL ((aW (aW (aW w (PlV pa pc p) 48) (BbV ba ca bo cb x) 39) (P4R tos id whole more off ttl proto src dst opts data) 40).alloc (.cells Z25V.toArray 44)) (w.heap.size+1+1+1) Z25V:=by
  have h:=HoldsL.new ((aW (aW w (PlV pa pc p) 48) (BbV ba ca bo cb x) 39).alloc (.cells (P4R tos id whole more off ttl proto src dst opts data).toArray 40)) Z25V 44;try simp only [World.size_alloc] at h
  exact h
 have HS0:Hid (Bxs w [(w.heap.size,(PlV pa pc p)),(w.heap.size+1,(BbV ba ca bo cb x)),(w.heap.size+1+1,(P4R tos id whole more off ttl proto src dst opts data)),(w.heap.size+1+1+1,Z25V)] ((aW (aW (aW w (PlV pa pc p) 48) (BbV ba ca bo cb x) 39) (P4R tos id whole more off ttl proto src dst opts data) 40).alloc (.cells Z25V.toArray 44))):=by
  refine ⟨fun e he=>?_,((((bR.alloc (by (try simp only [World.size_alloc]); omega) _).alloc (by (try simp only [World.size_alloc]); omega) _).alloc (by (try simp only [World.size_alloc]); omega) _).alloc (by (try simp only [World.size_alloc]); omega) _),fun e he=>?_⟩
  ·simp only [List.mem_cons,List.not_mem_nil,or_false] at he;rcases he with rfl | rfl | rfl | rfl
   ·exact e0
   ·exact e1
   ·exact e2
   ·exact e3
  ·simp only [List.mem_cons,List.not_mem_nil,or_false] at he;rcases he with rfl | rfl | rfl | rfl<;>simp
 clear e0 e1 e2 e3;have hRw:w.heap.size≤w.heap.size+1+1+1:=by omega
 go_enter Tryz.func30,Tryz.ntmps30
 go_upto_region 1 with fail
 generalize ((aW (aW (aW w (PlV pa pc p) 48) (BbV ba ca bo cb x) 39) (P4R tos id whole more off ttl proto src dst opts data) 40).alloc (.cells Z25V.toArray 44))=W0 at *;have HHk:=HS0.out.at mE2;obtain ⟨k0,k1,k2,k3,k4,k5,k6,k7,k8,k9,k10⟩:=HHk.c11;clear HHk;go_wp2_with fail
 refine (HOF.out _).mono ?_;rintro e W1 ⟨rfl,r1⟩;have S2:Hid (Bxs w ((W1.heap.size,(FlV fl))::[(w.heap.size,(PlV pa pc p)),(w.heap.size+1,(BbV ba ca bo cb x)),(w.heap.size+1+1,(P4R tos id whole more off ttl proto src dst opts data)),(w.heap.size+1+1+1,Z25V)]) (W1.alloc (.cells (FlV fl).toArray 91))):=(HS0.out.kept r1).push (FlV fl) (by simp) _;clear r1 HS0 HOF k0 k1 k2 k3 k4 k5 k6 k7 k8 k9 k10;go_upto_region 2 with fail
 generalize (W1.alloc (.cells (FlV fl).toArray 91))=W2 at *;generalize W1.heap.size=Fb at *;by_cases hc:cd=0
 case neg =>
  have d0:(cd != 0)=true:=by simp [hc]
  have HX:Hid (ans=noE cd):=by unfold Hid; rw [HV.out,if_pos hc]
  go_wp2_with fail
  refine (HIL.out cd _).mono ?_;rintro e W3 ⟨rfl,r3⟩;have S3:Hid _:=S2.out.kept r3;clear r3;have HTH:Hid (W3.there (w.heap.size+1+1+1) 0 (noL none none 0 0 (noE cd)).toArray.size):=noL_there (show HoldsL W3 (w.heap.size+1+1+1) (noL none none 0 0 (noE 0)) from S3.out.k _ mE4) _ _ _ _ _;have HRR:Hid (HoldsL (W3.setCells (w.heap.size+1+1+1) 0 (noL none none 0 0 (noE cd)).toArray.toList) (w.heap.size+1+1+1) (noL none none 0 0 (noE cd))):=(show HoldsL W3 (w.heap.size+1+1+1) (noL none none 0 0 (noE 0)) from S3.out.k _ mE4).mid rfl;have RB:Hid (Below w.heap.size w (W3.setCells (w.heap.size+1+1+1) 0 (noL none none 0 0 (noE cd)).toArray.toList)):=Below.mid S3.out.b hRw _;unfold noC;go_wp2_with (refine wpList_store_mid (by rfl) 44 (.tmp 8) (.tmp 28) (by rfl) (w.heap.size+1+1+1) 0 (noL none none 0 0 (noE cd)).toArray (by rfl) (by rfl) HTH.out no_info (noL_one _ _ _ _ _) ?_)
  exact bodyPost_ret (results_mid Tryz.results30 _ _ (w.heap.size+1+1+1) (noL none none 0 0 (noE cd)) _ rfl HRR.out Tryz.underlying44 rfl no_info) rfl (And.intro (by rw [HX.out]; exact noRet_ill _) RB.out)
 have d0:(cd != 0)=false:=by simp [hc]
 rw [if_neg (by simp [hc])] at HV;replace HGO:Hid _:=HGO.out hc;replace HFM:Hid _:=HFM.out hc;replace HST:Hid _:=HST.out hc;clear hc;go_upto_region 4 with fail
 clear d0;have HHk:=S2.out.at mE1;obtain ⟨k0,k1,k2,k3,k4,k5,k6,k7,k8,k9⟩:=HHk.c10;clear HHk;have HHl:=S2.out.at mE2;obtain ⟨l0,l1⟩:=HHl.c2;clear HHl;have HHm:=S2.out.at mE0;obtain ⟨m0,m1,m2,m3,m4⟩:=HHm.c5;clear HHm;have HHn:=S2.out.at mE3;obtain ⟨n0,n1,n2,n3,n4,n5,n6,n7,n8,n9,n10⟩:=HHn.c11;clear HHn;have hR2:w.heap.size+1+1+1 < W2.heap.size:=(S2.out.k _ mE4).lt (by simp);have hw2:w.heap.size≤W2.heap.size:=S2.out.b.size;go_wp2_with fail
 refine (HGO.out W2 S2.out.b).mono ?_;rintro e W3 ⟨⟨a9,b9,c9,d9,rfl,hown⟩,r3⟩;unfold boC;have S4:Hid (Bxs w ((W3.heap.size,(BoV a9 c9 b9 d9 nv))::[(Fb,(FlV fl)),(w.heap.size,(PlV pa pc p)),(w.heap.size+1,(BbV ba ca bo cb x)),(w.heap.size+1+1,(P4R tos id whole more off ttl proto src dst opts data)),(w.heap.size+1+1+1,Z25V)]) (W3.alloc (.cells (BoV a9 c9 b9 d9 nv).toArray 96))):=(S2.out.kept r3).push (BoV a9 c9 b9 d9 nv) (by simp) _;have O4:Hid (BbOwn W2.heap.size (W3.alloc (.cells (BoV a9 c9 b9 d9 nv).toArray 96)) a9 b9 nv.bib):=hown.kept (bR.alloc (Nat.le_refl _) _);have hx4:W2.heap.size≤W3.heap.size:=r3.size;clear r3 hown S2 HGO k0 k1 k2 k3 k4 k5 k6 k7 k8 k9 l0 l1 m0 m1 m2 m3 m4 n0 n1 n2 n3 n4 n5 n6 n7 n8 n9 n10;go_upto_region 5 with fail
 generalize (W3.alloc (.cells (BoV a9 c9 b9 d9 nv).toArray 96))=W4 at *;generalize W3.heap.size=Xb at *;have HHk:=S4.out.at mE0;obtain ⟨k0,k1,k2,k3,k4,k5,k6,k7⟩:=HHk.c8;clear HHk;by_cases hn:nv.code=0
 case neg =>
  have d0:(nv.code != 0)=true:=by simp [hn]
  have HX:Hid (ans=noE nv.code):=by unfold Hid; rw [HV.out,if_pos hn]
  go_wp2_with fail
  refine (HIL.out nv.code _).mono ?_;rintro e W5 ⟨rfl,r5⟩;have S5:Hid _:=S4.out.kept r5;clear r5;have HTH:Hid (W5.there (w.heap.size+1+1+1) 0 (noL none none 0 0 (noE nv.code)).toArray.size):=noL_there (show HoldsL W5 (w.heap.size+1+1+1) (noL none none 0 0 (noE 0)) from S5.out.k _ mE5) _ _ _ _ _;have HRR:Hid (HoldsL (W5.setCells (w.heap.size+1+1+1) 0 (noL none none 0 0 (noE nv.code)).toArray.toList) (w.heap.size+1+1+1) (noL none none 0 0 (noE nv.code))):=(show HoldsL W5 (w.heap.size+1+1+1) (noL none none 0 0 (noE 0)) from S5.out.k _ mE5).mid rfl;have RB:Hid (Below w.heap.size w (W5.setCells (w.heap.size+1+1+1) 0 (noL none none 0 0 (noE nv.code)).toArray.toList)):=Below.mid S5.out.b hRw _;unfold noC;go_wp2_with (refine wpList_store_mid (by rfl) 44 (.tmp 8) (.tmp 43) (by rfl) (w.heap.size+1+1+1) 0 (noL none none 0 0 (noE nv.code)).toArray (by rfl) (by rfl) HTH.out no_info (noL_one _ _ _ _ _) ?_)
  exact bodyPost_ret (results_mid Tryz.results30 _ _ (w.heap.size+1+1+1) (noL none none 0 0 (noE nv.code)) _ rfl HRR.out Tryz.underlying44 rfl no_info) rfl (And.intro (by rw [HX.out]; exact noRet_ill _) RB.out)
 have d0:(nv.code != 0)=false:=by simp [hn]
 rw [if_neg (by simp [hn])] at HV;replace HFM:Hid _:=HFM.out hn;replace HST:Hid _:=HST.out hn;clear hn HIL;go_upto_region 7 with fail
 clear d0 k0 k1 k2 k3 k4 k5 k6 k7;go_cut [12] (fun v wx=>∃ g8,v=.pointer (some ⟨g8,0,none⟩)∧HoldsL wx g8 [.string sd,iV 0]∧Bxs w [(Xb,(BoV a9 c9 b9 d9 nv)),(Fb,(FlV fl)),(w.heap.size,(PlV pa pc p)),(w.heap.size+1,(BbV ba ca bo cb x)),(w.heap.size+1+1,(P4R tos id whole more off ttl proto src dst opts data)),(w.heap.size+1+1+1,Z25V)] wx∧BbOwn W2.heap.size wx a9 b9 nv.bib)
 case first =>
  rename_i J K2 hJ hK2;have HCP:Hid (∀ wy,Below W4.drew.heap.size W4.drew wy→_):=fun wy hy=>S4.out.kept (bR.drew.trans hy)
  have HOP:Hid (∀ wy,Below W4.drew.heap.size W4.drew wy→BbOwn W2.heap.size wy a9 b9 nv.bib):=fun wy hy=>O4.out.kept (bR.drew.trans hy)
  have HLT:Hid (∀ e∈([(Xb,(BoV a9 c9 b9 d9 nv)),(Fb,(FlV fl)),(w.heap.size,(PlV pa pc p)),(w.heap.size+1,(BbV ba ca bo cb x)),(w.heap.size+1+1,(P4R tos id whole more off ttl proto src dst opts data)),(w.heap.size+1+1+1,Z25V)]:List (Nat × List Value)),e.1 < W4.drew.heap.size):=fun e he=>(S4.out.lts e he).1
  have hww:w.heap.size≤W4.drew.heap.size:=S4.out.b.size;clear S4 O4 HV;refine wp_region_growV [44,45,46,47,48,49,50,51,52,53,54,55,56,57,12] (by kernel_rfl) (by kernel_rfl) ?_;apply GChV.v0
  ·rfl
  ·intro K' a wy ho hd hb hK kz;have o9:=ho 9 (by decide);simp [slot] at o9;clear hd ho;have hst:=HCP.out wy hb;have HHk:=hst.at mE1;obtain ⟨k0,k1,k2,k3,k4⟩:=HHk.c5;clear HHk;have HHl:=hst.at mE0;obtain ⟨l0,l1,l2,l3,l4,l5,l6,l7⟩:=HHl.c8;clear HHl;have HHm:=hst.at mE4;obtain ⟨-,-,-,-,-,-,-,-,m8,-,m10⟩:=HHm.c11;clear HHm;clear hst;go_simp;try go_bits
   exact kz _ rfl
  apply GChV.v1
  ·rfl
  ·intro K' a wy ho hd hb hK kz;have o9:=ho 9 (by decide);simp [slot] at o9;clear hd ho;have hst:=HCP.out wy hb;have HHk:=hst.at mE1;obtain ⟨k0,k1,k2,k3,k4⟩:=HHk.c5;clear HHk;have HHl:=hst.at mE0;obtain ⟨l0,l1,l2,l3,l4,l5,l6,l7⟩:=HHl.c8;clear HHl;have HHm:=hst.at mE4;obtain ⟨-,-,-,-,-,-,-,-,m8,-,m10⟩:=HHm.c11;clear HHm;clear hst;go_simp;try go_bits
   exact kz _ rfl
  apply GChV.v2
  ·rfl
  ·intro K' a wy ho hd hb hK kz;have o11:=ho 11 (by decide);simp [slot] at o11;clear hd ho;go_simp;try go_bits
   exact kz _ rfl
  apply GChV.v3
  ·rfl
  ·intro K' a wy ho hd hb hK kz;have q2:=hd ⟨2,.data⟩ (by simp) rfl;simp [rAt,IsV,slot] at q2;clear hd ho;go_simp;try go_bits
   exact kz _ rfl
  apply GChV.v4
  ·rfl
  ·intro K' a wy ho hd hb hK kz;have q3:=hd ⟨3,.data⟩ (by simp) rfl;simp [rAt,IsV,slot] at q3;clear hd ho;have hst:=HCP.out wy hb;have HHk:=hst.at mE1;obtain ⟨k0,k1,k2,k3,k4⟩:=HHk.c5;clear HHk;have HHl:=hst.at mE0;obtain ⟨l0,l1,l2,l3,l4,l5,l6,l7⟩:=HHl.c8;clear HHl;have HHm:=hst.at mE4;obtain ⟨-,-,-,-,-,-,-,-,m8,-,m10⟩:=HHm.c11;clear HHm;clear hst;go_simp;try go_bits
   exact kz _ rfl
  apply GChV.v5
  ·rfl
  ·intro K' a wy ho hd hb hK kz;have o11:=ho 11 (by decide);simp [slot] at o11;clear hd ho;go_simp;try go_bits
   exact kz _ rfl
  apply GChV.v6
  ·rfl
  ·intro K' a wy ho hd hb hK kz;have q5:=hd ⟨5,.data⟩ (by simp) rfl;simp [rAt,IsV,slot] at q5;clear hd ho;go_simp;try go_bits
   exact kz _ rfl
  apply GChV.v7
  ·rfl
  ·intro K' a wy ho hd hb hK kz;have q6:=hd ⟨6,.data⟩ (by simp) rfl;simp [rAt,IsV,slot] at q6;clear hd ho;have hst:=HCP.out wy hb;have HHk:=hst.at mE1;obtain ⟨k0,k1,k2,k3,k4⟩:=HHk.c5;clear HHk;have HHl:=hst.at mE0;obtain ⟨l0,l1,l2,l3,l4,l5,l6,l7⟩:=HHl.c8;clear HHl;have HHm:=hst.at mE4;obtain ⟨-,-,-,-,-,-,-,-,m8,-,m10⟩:=HHm.c11;clear HHm;clear hst;go_simp;try go_bits
   exact kz _ rfl
  apply GChV.v8
  ·rfl
  ·intro K' a wy ho hd hb hK kz;have o6:=ho 6 (by decide);simp [slot] at o6;clear hd ho;go_simp;try go_bits
   exact kz _ rfl
  apply GChV.v9
  ·rfl
  ·intro K' a wy ho hd hb hK kz;have q8:=hd ⟨8,.data⟩ (by simp) rfl;simp [rAt,IsV,slot] at q8;clear hd ho;have hst:=HCP.out wy hb;have HHk:=hst.at mE1;obtain ⟨k0,k1,k2,k3,k4⟩:=HHk.c5;clear HHk;have HHl:=hst.at mE0;obtain ⟨l0,l1,l2,l3,l4,l5,l6,l7⟩:=HHl.c8;clear HHl;have HHm:=hst.at mE4;obtain ⟨-,-,-,-,-,-,-,-,m8,-,m10⟩:=HHm.c11;clear HHm;clear hst;go_simp;try go_bits
   exact kz _ rfl
  apply GChV.v10
  ·rfl
  ·intro K' a wy ho hd hb hK kz;have q1:=hd ⟨1,.data⟩ (by simp) rfl;have q4:=hd ⟨4,.data⟩ (by simp) rfl;have q7:=hd ⟨7,.data⟩ (by simp) rfl;have q9:=hd ⟨9,.data⟩ (by simp) rfl;simp [rAt,IsV,slot] at q1 q4 q7 q9;clear hd ho;go_simp;refine (HFM.out wy).mono ?_;rintro e wz ⟨rfl,hz⟩;exact hK _ _ rfl hz
  apply GChV.v11
  ·rfl
  ·intro K' a wy ho hd hb hK kz;have o6:=ho 6 (by decide);simp [slot] at o6;clear hd ho;go_simp;try go_bits
   exact kz _ rfl
  apply GChV.v12
  ·rfl
  ·intro K' a wy ho hd hb hK kz;have q11:=hd ⟨11,.data⟩ (by simp) rfl;simp [rAt,IsV,slot] at q11;clear hd ho;have hst:=HCP.out wy hb;have HHk:=hst.at mE1;obtain ⟨k0,k1,k2,k3,k4⟩:=HHk.c5;clear HHk;have HHl:=hst.at mE0;obtain ⟨l0,l1,l2,l3,l4,l5,l6,l7⟩:=HHl.c8;clear HHl;have HHm:=hst.at mE4;obtain ⟨-,-,-,-,-,-,-,-,m8,-,m10⟩:=HHm.c11;clear HHm;clear hst;go_simp;try go_bits
   exact kz _ rfl
  apply GChV.v13
  ·rfl
  ·intro K' a wy ho hd hb hK kz;have q0:=hd ⟨0,.data⟩ (by simp) rfl;have q10:=hd ⟨10,.data⟩ (by simp) rfl;have q12:=hd ⟨12,.data⟩ (by simp) rfl;simp [rAt,IsV,slot] at q0 q10 q12;clear hd ho;go_simp;refine (HST.out wy).mono ?_;rintro e wz ⟨rfl,hz⟩;exact hK _ _ rfl hz
  refine GChV.rel (n:=14) (IsZy W4.drew.heap.size [.string ⟨#[]⟩,iV 0]) (stable_isZy _ _ (by simp)) [_,_,_,_,_,_,_,_,_,_,_,_,_,_,IsZy W4.drew.heap.size [.string ⟨#[]⟩,iV 0]] rfl rfl ?_ ?_
  ·intro K' a wy ho hd hb hK;rw [wN rfl];clear hd ho;go_simp;exact hK _ _ ⟨wy.heap.size,rfl,hb.size,HoldsL.new wy [.string ⟨#[]⟩,iV 0] 99⟩ (bR.alloc (Nat.le_refl _) _)
  intro X wz hR hz;obtain ⟨x0,x1,x2,x3,x4,x5,x6,x7,x8,x9,x10,x11,x12,x13,x14,-⟩:=hR;obtain ⟨g8,e8,b8,y8⟩:=x14;simp only [IsV] at x0 x1 x2 x3 x4 x5 x6 x7 x8 x9 x10 x11 x12 x13;simp only [putsFrom,x0,x1,x2,x3,x4,x5,x6,x7,x8,x9,x10,x11,x12,x13,e8];clear x0 x1 x2 x3 x4 x5 x6 x7 x8 x9 x10 x11 x12 x13;have HF1:Hid (HoldsL (stor g8 wz 0 [.string sd,iV 0]) g8 [.string sd,iV 0]):=y8.stor [.string sd,iV 0] rfl;have HF2:Hid (Bxs w [(Xb,(BoV a9 c9 b9 d9 nv)),(Fb,(FlV fl)),(w.heap.size,(PlV pa pc p)),(w.heap.size+1,(BbV ba ca bo cb x)),(w.heap.size+1+1,(P4R tos id whole more off ttl proto src dst opts data)),(w.heap.size+1+1+1,Z25V)] (stor g8 wz 0 [.string sd,iV 0])):=(HCP.out wz hz).stor (by omega) (fun e he=>by have:=HLT.out e he; omega) _;have HF3:Hid (BbOwn W2.heap.size (stor g8 wz 0 [.string sd,iV 0]) a9 b9 nv.bib):=HOP.out _ (Below.stor b8 _ hz);obtain ⟨y0,y1⟩:=y8.c2;obtain ⟨yf0,yf1⟩:=y8.f2;simp only [stor,Nat.reduceAdd] at HF1 HF2 HF3;clear hz HCP HOP HLT y8;intro K10 hK10;go_simp;refine hK10 _ _ ?_;show Exit.then _ _ _ _ _;refine hK2 _ _ (hJ _ _ ?_);(repeat apply Exists.intro)
  exact ⟨⟨g8,rfl,HF1.out,HF2.out,HF3.out⟩,rfl⟩
 case rest =>
 obtain ⟨g8,rfl,hD,hS,hO⟩:=hcut;have D5:Hid _:=hD;have S5:Hid (Bxs w [(Xb,(BoV a9 c9 b9 d9 nv)),(Fb,(FlV fl)),(w.heap.size,(PlV pa pc p)),(w.heap.size+1,(BbV ba ca bo cb x)),(w.heap.size+1+1,(P4R tos id whole more off ttl proto src dst opts data)),(w.heap.size+1+1+1,Z25V)] wc):=hS;have O5:Hid _:=hO;have hg8:g8 < wc.heap.size:=hD.lt (by simp);clear hD hS hO S4 O4 HFM HST;generalize wc=W5 at *;have HHk:=S5.out.at mE0;obtain ⟨k0,k1,k2,k3,k4,k5,k6,k7⟩:=HHk.c8;clear HHk;have HHn:=S5.out.at mE4;obtain ⟨n0,n1,n2,n3,n4,n5,n6,n7,n8,n9,n10⟩:=HHn.c11;obtain ⟨-,-,-,-,-,-,-,nf7,-,-,nf10⟩:=HHn.f11;have dd0:=D5.out.cell (j:=0) rfl;have hxq:Xb≠w.heap.size+1+1:=by omega
 have S6:Hid (Bxs w [(w.heap.size+1+1,(P4R tos id whole more off ttl proto nv.bind.out dst opts sd)),(Xb,(BoV a9 c9 b9 d9 nv)),(w.heap.size+1+1+1,Z25V)] ((sW W5 (w.heap.size+1+1) 7 (.string nv.bind.out)).setCell ⟨w.heap.size+1+1,10,none⟩ (.string sd))):=⟨fun e he=>by
  simp only [List.mem_cons,List.not_mem_nil,or_false] at he;rcases he with rfl | rfl | rfl
  ·exact (HHn.set 7 (.string nv.bind.out)).set 10 (.string sd)
  ·exact HoldsL.setOther (HoldsL.setOther (S5.out.k _ mE0) hxq _) hxq _
  ·exact HoldsL.setOther (HoldsL.setOther (S5.out.k _ mE5) (by show w.heap.size+1+1+1≠w.heap.size+1+1; omega) _) (by show w.heap.size+1+1+1≠w.heap.size+1+1; omega) _,(S5.out.b.setCell (p:=⟨w.heap.size+1+1,7,none⟩) (by show w.heap.size≤w.heap.size+1+1; omega) _).setCell (p:=⟨w.heap.size+1+1,10,none⟩) (by show w.heap.size≤w.heap.size+1+1; omega) _,fun e he=>by
  simp only [List.mem_cons,List.not_mem_nil,or_false] at he;rcases he with rfl | rfl | rfl<;>simp⟩
 have O6:Hid (BbOwn W2.heap.size ((sW W5 (w.heap.size+1+1) 7 (.string nv.bind.out)).setCell ⟨w.heap.size+1+1,10,none⟩ (.string sd)) a9 b9 nv.bib):=⟨O5.out.bd.grown (grown_set (grown_set (World.grownBy.refl _ _) _) _) (by omega),O5.out.ss.grown (grown_set (grown_set (World.grownBy.refl _ _) _) _) (by omega),O5.out.ne⟩;clear HHn;go_upto_region 10 with fail
 generalize ((sW W5 (w.heap.size+1+1) 7 (.string nv.bind.out)).setCell ⟨w.heap.size+1+1,10,none⟩ (.string sd))=W6 at *;clear S5 O5 D5 dd0 nf7 nf10 hg8 k0 k1 k2 k3 k4 k5 k6 k7 n0 n1 n2 n3 n4 n5 n6 n7 n8 n9 n10;have HHn:=S6.out.at mE0;obtain ⟨n0,n1,n2,n3,n4,n5,n6,n7,n8,n9,n10⟩:=HHn.c11;clear HHn;have HHk:=S6.out.at mE1;obtain ⟨k0,k1,k2,k3,k4,k5,k6,k7⟩:=HHk.c8;clear HHk;have HTH:Hid (W6.there (w.heap.size+1+1+1) 0 (noL a9 b9 c9 d9 ⟨nv.bib,⟨tos,id,whole,more,off,ttl,proto,nv.bind.out,dst,opts,sd⟩,p6Zero,0⟩).toArray.size):=noL_there (show HoldsL W6 (w.heap.size+1+1+1) (noL none none 0 0 (noE 0)) from S6.out.k _ mE2) _ _ _ _ _;have HRR:Hid (HoldsL (W6.setCells (w.heap.size+1+1+1) 0 (noL a9 b9 c9 d9 ⟨nv.bib,⟨tos,id,whole,more,off,ttl,proto,nv.bind.out,dst,opts,sd⟩,p6Zero,0⟩).toArray.toList) (w.heap.size+1+1+1) (noL a9 b9 c9 d9 ⟨nv.bib,⟨tos,id,whole,more,off,ttl,proto,nv.bind.out,dst,opts,sd⟩,p6Zero,0⟩)):=(show HoldsL W6 (w.heap.size+1+1+1) (noL none none 0 0 (noE 0)) from S6.out.k _ mE2).mid rfl;have RB:Hid (Below w.heap.size w (W6.setCells (w.heap.size+1+1+1) 0 (noL a9 b9 c9 d9 ⟨nv.bib,⟨tos,id,whole,more,off,ttl,proto,nv.bind.out,dst,opts,sd⟩,p6Zero,0⟩).toArray.toList)):=Below.mid S6.out.b hRw _;have HOW:Hid (BbOwn w.heap.size (W6.setCells (w.heap.size+1+1+1) 0 (noL a9 b9 c9 d9 ⟨nv.bib,⟨tos,id,whole,more,off,ttl,proto,nv.bind.out,dst,opts,sd⟩,p6Zero,0⟩).toArray.toList) a9 b9 nv.bib):=(BbOwn.mid O6.out hR2 _).lowN hw2;clear O6 S6;go_wp2_with (refine wpList_store_mid (by rfl) 44 (.tmp 8) (.tmp 68) (by rfl) (w.heap.size+1+1+1) 0 (noL a9 b9 c9 d9 ⟨nv.bib,⟨tos,id,whole,more,off,ttl,proto,nv.bind.out,dst,opts,sd⟩,p6Zero,0⟩).toArray (by rfl) (by rfl) HTH.out no_info (noL_one _ _ _ _ _) ?_)
 exact bodyPost_ret (results_mid Tryz.results30 _ _ (w.heap.size+1+1+1) (noL a9 b9 c9 d9 ⟨nv.bib,⟨tos,id,whole,more,off,ttl,proto,nv.bind.out,dst,opts,sd⟩,p6Zero,0⟩) _ rfl HRR.out Tryz.underlying44 rfl no_info) rfl (And.intro (by rw [HV.out]; exact ⟨a9,b9,c9,d9,rfl,HOW.out⟩) RB.out)
theorem sp9NatCome_any (pa:Option Addr) (pc:Nat) (p:Pl) (ba bo:Option Addr) (ca cb:Nat) (x:Bb) (q:P4) (now:Int) (w:World) (hbk:bibOk p x=true) (hq:v4Ok q=true) (hnow:isTime now=true) (hl1:x.binds.length≤1048576) (hl2:x.sess.length≤1048576) (hp:SlIs strL1 1 w pa p.addrs) (hx:BbIs w ba bo x) :
  Calls Tryz.prog 46 #[plC pa pc p,bbC ba bo ca cb x,p4C q,iV now] w fun e w'=>NoRet w.heap.size (natComeIn p x q now) e w'∧Below w.heap.size w w':=by
 obtain ⟨hA,hB⟩ : v4A q=true∧v4B q=true:=by unfold v4Ok at hq; simp only [Bool.and_eq_true] at hq; exact hq.1
 obtain ⟨-,-,hpr,-,-,hs,hd⟩:=v4A_parts hA;obtain ⟨-,-,hdt,-,-⟩:=v4B_parts hB;have hpo:poolOk p=true:=(bibR_iff.1 hbk).pool;have HOF:Hid (∀ W,Cb 53 #[.string q.src,.string q.dst,iV q.proto,.string q.data] W (.tuple #[fwC (ofFl q.src q.dst q.proto q.data),iV (ofCode q.src.size q.proto q.data)])):=fun W=>spOf_any _ _ _ _ W (by omega) (by omega)
 have HIL:Hid (∀ c W,Cb 29 #[iV c] W (noC none none 0 0 (noE c))):=fun c W=>sp9Ill_any c W
 have HGO:Hid (ofCode q.src.size q.proto q.data=0→∀ W,Below w.heap.size w W→Calls Tryz.prog 70 #[plC pa pc p,bbC ba bo ca cb x,fwC (ofFl q.src q.dst q.proto q.data),.string q.data,iV now] W fun e w'=>BoRet W.heap.size (goV p x (comeT (ofFl q.src q.dst q.proto q.data) q.data) now) e w'∧Below W.heap.size W w'):=fun h W hW=>by
  obtain ⟨z1,z2,z3,z4,z5,z6⟩:=ofFl_zero (d:=q.dst) h;exact sp9Come_any pa pc p ba bo ca cb x _ q.data now W hpo hnow (by rw [z3]; omega) z5.1 z5.2 (by omega) (by rw [z1]; exact (ofCode_size h).2) hl1 hl2 (hp.below hW) (hx.below hW)
 have HBE:Hid (ofCode q.src.size q.proto q.data=0→(goV p x (comeT (ofFl q.src q.dst q.proto q.data) q.data) now).code=0→_):=fun h h2=>bind_ends hbk hnow (comeT_ok hs hd h) h2
 have HFM:Hid (ofCode q.src.size q.proto q.data=0→(goV p x (comeT (ofFl q.src q.dst q.proto q.data) q.data) now).code=0→∀ W,Cb 71 #[fwC (ofFl q.src q.dst q.proto q.data),.string q.src,.string (goV p x (comeT (ofFl q.src q.dst q.proto q.data) q.data) now).bind.inn,iV (goV p x (comeT (ofFl q.src q.dst q.proto q.data) q.data) now).bind.inPort] W (fwC (toF (ofFl q.src q.dst q.proto q.data) q.src (goV p x (comeT (ofFl q.src q.dst q.proto q.data) q.data) now).bind.inn (goV p x (comeT (ofFl q.src q.dst q.proto q.data) q.data) now).bind.inPort))):=fun h h2 W=>sp9To_any _ _ _ _ W (by omega)
 have HST:Hid (ofCode q.src.size q.proto q.data=0→(goV p x (comeT (ofFl q.src q.dst q.proto q.data) q.data) now).code=0→(goV p x (comeT (ofFl q.src q.dst q.proto q.data) q.data) now).bind.inn.size=4→∀ W,Cb 55 #[fwC (ofFl q.src q.dst q.proto q.data),fwC (toF (ofFl q.src q.dst q.proto q.data) q.src (goV p x (comeT (ofFl q.src q.dst q.proto q.data) q.data) now).bind.inn (goV p x (comeT (ofFl q.src q.dst q.proto q.data) q.data) now).bind.inPort),.string q.data] W (dtCO (setD (ofFl q.src q.dst q.proto q.data) (toF (ofFl q.src q.dst q.proto q.data) q.src (goV p x (comeT (ofFl q.src q.dst q.proto q.data) q.data) now).bind.inn (goV p x (comeT (ofFl q.src q.dst q.proto q.data) q.data) now).bind.inPort) q.data) 0)):=fun h h2 h44 W=>by
  obtain ⟨z1,z2,z3,z4,z5,z6⟩:=ofFl_zero (d:=q.dst) h;obtain ⟨b1,b2,b3,b4,b5⟩:=HBE.out h h2;obtain ⟨k1,k2,k3,k4⟩:=kind_right (f:=ofFl q.src q.dst q.proto q.data) (g:=⟨(ofFl q.src q.dst q.proto q.data).proto,q.src,(goV p x (comeT (ofFl q.src q.dst q.proto q.data) q.data) now).bind.inn,if echoP (ofFl q.src q.dst q.proto q.data).proto=true then (goV p x (comeT (ofFl q.src q.dst q.proto q.data) q.data) now).bind.inPort else (ofFl q.src q.dst q.proto q.data).sp,(goV p x (comeT (ofFl q.src q.dst q.proto q.data) q.data) now).bind.inPort⟩) (flowOk_of h (pair_four hs hd)) (by rw [z2]; exact hs) hs h44 rfl (by split<;>assumption) b4;obtain ⟨m1,m2,m3⟩:=flowOk_parts k1;have o:=ofCode_size h;refine (spSet_any _ (toF (ofFl q.src q.dst q.proto q.data) q.src (goV p x (comeT (ofFl q.src q.dst q.proto q.data) q.data) now).bind.inn (goV p x (comeT (ofFl q.src q.dst q.proto q.data) q.data) now).bind.inPort) q.data W (by omega) o.1 (by rw [z1]; exact o.2) ⟨by rw [z2]; omega,by rw [z3]; omega⟩ m1 (by rw [z1]; exact hpr) m2 m3).mono ?_;rintro e w' ⟨rfl,hb⟩;refine ⟨?_,hb⟩;unfold setD;have k5:(toF (ofFl q.src q.dst q.proto q.data) q.src (goV p x (comeT (ofFl q.src q.dst q.proto q.data) q.data) now).bind.inn (goV p x (comeT (ofFl q.src q.dst q.proto q.data) q.data) now).bind.inPort).src.size=4:=by show (kindF _ _).src.size=4; rw [k3]; exact hs
  have k6:¬ (toF (ofFl q.src q.dst q.proto q.data) q.src (goV p x (comeT (ofFl q.src q.dst q.proto q.data) q.data) now).bind.inn (goV p x (comeT (ofFl q.src q.dst q.proto q.data) q.data) now).bind.inPort).src.size=16:=by omega
  simp only [if_neg k6];by_cases hbu:bareUdp (ofFl q.src q.dst q.proto q.data) q.data=true
  ·simp only [if_pos hbu]
  ·simp only [if_neg hbu]
 have HV:Hid (natComeIn p x q now=if inL p.addrs q.dst=false then noE 6 else if ofCode q.src.size q.proto q.data≠0 then noE (ofCode q.src.size q.proto q.data) else if (goV p x (comeT (ofFl q.src q.dst q.proto q.data) q.data) now).code≠0 then noE (goV p x (comeT (ofFl q.src q.dst q.proto q.data) q.data) now).code else if (goV p x (comeT (ofFl q.src q.dst q.proto q.data) q.data) now).bind.inn.size≠4 then noE 11 else ⟨(goV p x (comeT (ofFl q.src q.dst q.proto q.data) q.data) now).bib,{ q with dst:=(goV p x (comeT (ofFl q.src q.dst q.proto q.data) q.data) now).bind.inn,data:=setD (ofFl q.src q.dst q.proto q.data) (toF (ofFl q.src q.dst q.proto q.data) q.src (goV p x (comeT (ofFl q.src q.dst q.proto q.data) q.data) now).bind.inn (goV p x (comeT (ofFl q.src q.dst q.proto q.data) q.data) now).bind.inPort) q.data },p6Zero,0⟩):=rfl;have HIN:Hid (∀ W,Below w.heap.size w W→Cb 69 #[.slice pa p.addrs.length pc,.string q.dst] W (.bool (inL p.addrs q.dst))):=fun W hW=>spIn_any p.addrs q.dst pa pc W (by unfold poolOk at hpo; simp only [Bool.and_eq_true,decide_eq_true_iff] at hpo; have:=hpo.1.1.1.1.1.1.1.2; omega) (hp.below hW)
 have HIZ:Hid (ofCode q.src.size q.proto q.data=0→(goV p x (comeT (ofFl q.src q.dst q.proto q.data) q.data) now).code=0→((goV p x (comeT (ofFl q.src q.dst q.proto q.data) q.data) now).bind.inn.size=4∨(goV p x (comeT (ofFl q.src q.dst q.proto q.data) q.data) now).bind.inn.size=16)):=fun h h2=>(HBE.out h h2).2.2.1
 clear HBE;generalize natComeIn p x q now=ans at *;generalize setD (ofFl q.src q.dst q.proto q.data) (toF (ofFl q.src q.dst q.proto q.data) q.src (goV p x (comeT (ofFl q.src q.dst q.proto q.data) q.data) now).bind.inn (goV p x (comeT (ofFl q.src q.dst q.proto q.data) q.data) now).bind.inPort) q.data=sd at *;generalize toF (ofFl q.src q.dst q.proto q.data) q.src (goV p x (comeT (ofFl q.src q.dst q.proto q.data) q.data) now).bind.inn (goV p x (comeT (ofFl q.src q.dst q.proto q.data) q.data) now).bind.inPort=g at *;generalize goV p x (comeT (ofFl q.src q.dst q.proto q.data) q.data) now=nv at *;generalize ofFl q.src q.dst q.proto q.data=fl at *;generalize ofCode q.src.size q.proto q.data=cd at *;generalize inL p.addrs q.dst=il at *;obtain ⟨tos,id,whole,more,off,ttl,proto,src,dst,opts,data⟩:=q;clear hp hx hpo hnow hbk hq hA hB;unfold plC bbC p4C at *;unfold fwC dtCO at *;dsimp only at *;have e0:HoldsL ((aW (aW (aW w (PlV pa pc p) 48) (BbV ba ca bo cb x) 39) (P4R tos id whole more off ttl proto src dst opts data) 40).alloc (.cells Z25V.toArray 44)) (w.heap.size) (PlV pa pc p):=by
  have h:=HoldsL.new w (PlV pa pc p) 48;try simp only [World.size_alloc] at h
  exact (((h.alloc _).alloc _).alloc _)
 have e1:HoldsL ((aW (aW (aW w (PlV pa pc p) 48) (BbV ba ca bo cb x) 39) (P4R tos id whole more off ttl proto src dst opts data) 40).alloc (.cells Z25V.toArray 44)) (w.heap.size+1) (BbV ba ca bo cb x):=by
  have h:=HoldsL.new (w.alloc (.cells (PlV pa pc p).toArray 48)) (BbV ba ca bo cb x) 39;try simp only [World.size_alloc] at h
  exact ((h.alloc _).alloc _)
 have e2:HoldsL ((aW (aW (aW w (PlV pa pc p) 48) (BbV ba ca bo cb x) 39) (P4R tos id whole more off ttl proto src dst opts data) 40).alloc (.cells Z25V.toArray 44)) (w.heap.size+1+1) (P4R tos id whole more off ttl proto src dst opts data):=by
  have h:=HoldsL.new ((aW w (PlV pa pc p) 48).alloc (.cells (BbV ba ca bo cb x).toArray 39)) (P4R tos id whole more off ttl proto src dst opts data) 40;try simp only [World.size_alloc] at h
  exact (h.alloc _)
 have e3:HoldsL ((aW (aW (aW w (PlV pa pc p) 48) (BbV ba ca bo cb x) 39) (P4R tos id whole more off ttl proto src dst opts data) 40).alloc (.cells Z25V.toArray 44)) (w.heap.size+1+1+1) Z25V:=by
  have h:=HoldsL.new ((aW (aW w (PlV pa pc p) 48) (BbV ba ca bo cb x) 39).alloc (.cells (P4R tos id whole more off ttl proto src dst opts data).toArray 40)) Z25V 44;try simp only [World.size_alloc] at h
  exact h
 have HS0:Hid (Bxs w [(w.heap.size,(PlV pa pc p)),(w.heap.size+1,(BbV ba ca bo cb x)),(w.heap.size+1+1,(P4R tos id whole more off ttl proto src dst opts data)),(w.heap.size+1+1+1,Z25V)] ((aW (aW (aW w (PlV pa pc p) 48) (BbV ba ca bo cb x) 39) (P4R tos id whole more off ttl proto src dst opts data) 40).alloc (.cells Z25V.toArray 44))):=by
  refine ⟨fun e he=>?_,((((bR.alloc (by (try simp only [World.size_alloc]); omega) _).alloc (by (try simp only [World.size_alloc]); omega) _).alloc (by (try simp only [World.size_alloc]); omega) _).alloc (by (try simp only [World.size_alloc]); omega) _),fun e he=>?_⟩
  ·simp only [List.mem_cons,List.not_mem_nil,or_false] at he;rcases he with rfl | rfl | rfl | rfl
   ·exact e0
   ·exact e1
   ·exact e2
   ·exact e3
  ·simp only [List.mem_cons,List.not_mem_nil,or_false] at he;rcases he with rfl | rfl | rfl | rfl<;>simp
 clear e0 e1 e2 e3;have hRw:w.heap.size≤w.heap.size+1+1+1:=by omega
 go_enter Tryz.func46,Tryz.ntmps46
 go_upto_region 1 with fail
 generalize ((aW (aW (aW w (PlV pa pc p) 48) (BbV ba ca bo cb x) 39) (P4R tos id whole more off ttl proto src dst opts data) 40).alloc (.cells Z25V.toArray 44))=W0 at *;have HHk:=HS0.out.at mE0;obtain ⟨k0,k1,k2,k3,k4,k5,k6,k7,k8,k9⟩:=HHk.c10;clear HHk;have HHl:=HS0.out.at mE2;obtain ⟨l0,l1,l2,l3,l4,l5,l6,l7,l8,l9,l10⟩:=HHl.c11;clear HHl;go_wp2_with fail
 refine (HIN.out _ HS0.out.b).mono ?_;rintro e W9 ⟨rfl,r9⟩;have S9:Hid _:=HS0.out.kept r9;clear r9 HS0 HIN k0 k1 k2 k3 k4 k5 k6 k7 k8 k9 l0 l1 l2 l3 l4 l5 l6 l7 l8 l9 l10
 cases il with
 | false =>
  have HX:Hid (ans=noE 6):=by unfold Hid; rw [HV.out,if_pos rfl]
  go_wp2_with fail
  refine (HIL.out 6 _).mono ?_;rintro e W8 ⟨rfl,r8⟩;have S8:Hid _:=S9.out.kept r8;clear r8;have HTH:Hid (W8.there (w.heap.size+1+1+1) 0 (noL none none 0 0 (noE 6)).toArray.size):=noL_there (show HoldsL W8 (w.heap.size+1+1+1) (noL none none 0 0 (noE 0)) from S8.out.k _ mE3) _ _ _ _ _;have HRR:Hid (HoldsL (W8.setCells (w.heap.size+1+1+1) 0 (noL none none 0 0 (noE 6)).toArray.toList) (w.heap.size+1+1+1) (noL none none 0 0 (noE 6))):=(show HoldsL W8 (w.heap.size+1+1+1) (noL none none 0 0 (noE 0)) from S8.out.k _ mE3).mid rfl;have RB:Hid (Below w.heap.size w (W8.setCells (w.heap.size+1+1+1) 0 (noL none none 0 0 (noE 6)).toArray.toList)):=Below.mid S8.out.b hRw _;unfold noC;go_wp2_with (refine wpList_store_mid (by rfl) 44 (.tmp 8) (.tmp 19) (by rfl) (w.heap.size+1+1+1) 0 (noL none none 0 0 (noE 6)).toArray (by rfl) (by rfl) HTH.out no_info (noL_one _ _ _ _ _) ?_)
  exact bodyPost_ret (results_mid Tryz.results46 _ _ (w.heap.size+1+1+1) (noL none none 0 0 (noE 6)) _ rfl HRR.out Tryz.underlying44 rfl no_info) rfl (And.intro (by rw [HX.out]; exact noRet_ill _) RB.out)
 | true =>
 rw [if_neg (by simp)] at HV;have HHk:=S9.out.at mE2;obtain ⟨k0,k1,k2,k3,k4,k5,k6,k7,k8,k9,k10⟩:=HHk.c11;clear HHk;go_wp2_with fail
 refine (HOF.out _).mono ?_;rintro e W1 ⟨rfl,r1⟩;have S2:Hid (Bxs w ((W1.heap.size,(FlV fl))::[(w.heap.size,(PlV pa pc p)),(w.heap.size+1,(BbV ba ca bo cb x)),(w.heap.size+1+1,(P4R tos id whole more off ttl proto src dst opts data)),(w.heap.size+1+1+1,Z25V)]) (W1.alloc (.cells (FlV fl).toArray 91))):=(S9.out.kept r1).push (FlV fl) (by simp) _;clear r1 S9 HOF k0 k1 k2 k3 k4 k5 k6 k7 k8 k9 k10;go_upto_region 4 with fail
 generalize (W1.alloc (.cells (FlV fl).toArray 91))=W2 at *;generalize W1.heap.size=Fb at *;by_cases hc:cd=0
 case neg =>
  have d0:(cd != 0)=true:=by simp [hc]
  have HX:Hid (ans=noE cd):=by unfold Hid; rw [HV.out,if_pos hc]
  go_wp2_with fail
  refine (HIL.out cd _).mono ?_;rintro e W3 ⟨rfl,r3⟩;have S3:Hid _:=S2.out.kept r3;clear r3;have HTH:Hid (W3.there (w.heap.size+1+1+1) 0 (noL none none 0 0 (noE cd)).toArray.size):=noL_there (show HoldsL W3 (w.heap.size+1+1+1) (noL none none 0 0 (noE 0)) from S3.out.k _ mE4) _ _ _ _ _;have HRR:Hid (HoldsL (W3.setCells (w.heap.size+1+1+1) 0 (noL none none 0 0 (noE cd)).toArray.toList) (w.heap.size+1+1+1) (noL none none 0 0 (noE cd))):=(show HoldsL W3 (w.heap.size+1+1+1) (noL none none 0 0 (noE 0)) from S3.out.k _ mE4).mid rfl;have RB:Hid (Below w.heap.size w (W3.setCells (w.heap.size+1+1+1) 0 (noL none none 0 0 (noE cd)).toArray.toList)):=Below.mid S3.out.b hRw _;unfold noC;go_wp2_with (refine wpList_store_mid (by rfl) 44 (.tmp 8) (.tmp 35) (by rfl) (w.heap.size+1+1+1) 0 (noL none none 0 0 (noE cd)).toArray (by rfl) (by rfl) HTH.out no_info (noL_one _ _ _ _ _) ?_)
  exact bodyPost_ret (results_mid Tryz.results46 _ _ (w.heap.size+1+1+1) (noL none none 0 0 (noE cd)) _ rfl HRR.out Tryz.underlying44 rfl no_info) rfl (And.intro (by rw [HX.out]; exact noRet_ill _) RB.out)
 have d0:(cd != 0)=false:=by simp [hc]
 rw [if_neg (by simp [hc])] at HV;replace HGO:Hid _:=HGO.out hc;replace HFM:Hid _:=HFM.out hc;replace HST:Hid _:=HST.out hc;replace HIZ:Hid _:=HIZ.out hc;clear hc;go_upto_region 6 with fail
 clear d0;have HHk:=S2.out.at mE1;obtain ⟨k0,k1,k2,k3,k4,k5,k6,k7,k8,k9⟩:=HHk.c10;clear HHk;have HHl:=S2.out.at mE2;obtain ⟨l0,l1⟩:=HHl.c2;clear HHl;have HHm:=S2.out.at mE0;obtain ⟨m0,m1,m2,m3,m4⟩:=HHm.c5;clear HHm;have HHn:=S2.out.at mE3;obtain ⟨n0,n1,n2,n3,n4,n5,n6,n7,n8,n9,n10⟩:=HHn.c11;clear HHn;have hR2:w.heap.size+1+1+1 < W2.heap.size:=(S2.out.k _ mE4).lt (by simp);have hw2:w.heap.size≤W2.heap.size:=S2.out.b.size;go_wp2_with fail
 refine (HGO.out W2 S2.out.b).mono ?_;rintro e W3 ⟨⟨a9,b9,c9,d9,rfl,hown⟩,r3⟩;unfold boC;have S4:Hid (Bxs w ((W3.heap.size,(BoV a9 c9 b9 d9 nv))::[(Fb,(FlV fl)),(w.heap.size,(PlV pa pc p)),(w.heap.size+1,(BbV ba ca bo cb x)),(w.heap.size+1+1,(P4R tos id whole more off ttl proto src dst opts data)),(w.heap.size+1+1+1,Z25V)]) (W3.alloc (.cells (BoV a9 c9 b9 d9 nv).toArray 96))):=(S2.out.kept r3).push (BoV a9 c9 b9 d9 nv) (by simp) _;have O4:Hid (BbOwn W2.heap.size (W3.alloc (.cells (BoV a9 c9 b9 d9 nv).toArray 96)) a9 b9 nv.bib):=hown.kept (bR.alloc (Nat.le_refl _) _);have hx4:W2.heap.size≤W3.heap.size:=r3.size;clear r3 hown S2 HGO k0 k1 k2 k3 k4 k5 k6 k7 k8 k9 l0 l1 m0 m1 m2 m3 m4 n0 n1 n2 n3 n4 n5 n6 n7 n8 n9 n10;go_upto_region 7 with fail
 generalize (W3.alloc (.cells (BoV a9 c9 b9 d9 nv).toArray 96))=W4 at *;generalize W3.heap.size=Xb at *;have HHk:=S4.out.at mE0;obtain ⟨k0,k1,k2,k3,k4,k5,k6,k7⟩:=HHk.c8;clear HHk;by_cases hn:nv.code=0
 case neg =>
  have d0:(nv.code != 0)=true:=by simp [hn]
  have HX:Hid (ans=noE nv.code):=by unfold Hid; rw [HV.out,if_pos hn]
  go_wp2_with fail
  refine (HIL.out nv.code _).mono ?_;rintro e W5 ⟨rfl,r5⟩;have S5:Hid _:=S4.out.kept r5;clear r5;have HTH:Hid (W5.there (w.heap.size+1+1+1) 0 (noL none none 0 0 (noE nv.code)).toArray.size):=noL_there (show HoldsL W5 (w.heap.size+1+1+1) (noL none none 0 0 (noE 0)) from S5.out.k _ mE5) _ _ _ _ _;have HRR:Hid (HoldsL (W5.setCells (w.heap.size+1+1+1) 0 (noL none none 0 0 (noE nv.code)).toArray.toList) (w.heap.size+1+1+1) (noL none none 0 0 (noE nv.code))):=(show HoldsL W5 (w.heap.size+1+1+1) (noL none none 0 0 (noE 0)) from S5.out.k _ mE5).mid rfl;have RB:Hid (Below w.heap.size w (W5.setCells (w.heap.size+1+1+1) 0 (noL none none 0 0 (noE nv.code)).toArray.toList)):=Below.mid S5.out.b hRw _;unfold noC;go_wp2_with (refine wpList_store_mid (by rfl) 44 (.tmp 8) (.tmp 48) (by rfl) (w.heap.size+1+1+1) 0 (noL none none 0 0 (noE nv.code)).toArray (by rfl) (by rfl) HTH.out no_info (noL_one _ _ _ _ _) ?_)
  exact bodyPost_ret (results_mid Tryz.results46 _ _ (w.heap.size+1+1+1) (noL none none 0 0 (noE nv.code)) _ rfl HRR.out Tryz.underlying44 rfl no_info) rfl (And.intro (by rw [HX.out]; exact noRet_ill _) RB.out)
 have d0:(nv.code != 0)=false:=by simp [hn]
 rw [if_neg (by simp [hn])] at HV;replace HFM:Hid _:=HFM.out hn;replace HST:Hid _:=HST.out hn;have hiz:=HIZ.out hn;clear hn HIZ;go_upto_region 9 with fail
 clear d0;by_cases h4:nv.bind.inn.size=4
 case neg =>
  have d4:((nv.bind.inn.size:Int) != 4)=true:=by simp; omega
  have HX:Hid (ans=noE 11):=by unfold Hid; rw [HV.out,if_pos h4]
  go_wp2_with fail
  refine (HIL.out 11 _).mono ?_;rintro e W7 ⟨rfl,r7⟩;have S7:Hid _:=S4.out.kept r7;clear r7;have HTH:Hid (W7.there (w.heap.size+1+1+1) 0 (noL none none 0 0 (noE 11)).toArray.size):=noL_there (show HoldsL W7 (w.heap.size+1+1+1) (noL none none 0 0 (noE 0)) from S7.out.k _ mE5) _ _ _ _ _;have HRR:Hid (HoldsL (W7.setCells (w.heap.size+1+1+1) 0 (noL none none 0 0 (noE 11)).toArray.toList) (w.heap.size+1+1+1) (noL none none 0 0 (noE 11))):=(show HoldsL W7 (w.heap.size+1+1+1) (noL none none 0 0 (noE 0)) from S7.out.k _ mE5).mid rfl;have RB:Hid (Below w.heap.size w (W7.setCells (w.heap.size+1+1+1) 0 (noL none none 0 0 (noE 11)).toArray.toList)):=Below.mid S7.out.b hRw _;unfold noC;go_wp2_with (refine wpList_store_mid (by rfl) 44 (.tmp 8) (.tmp 54) (by rfl) (w.heap.size+1+1+1) 0 (noL none none 0 0 (noE 11)).toArray (by rfl) (by rfl) HTH.out no_info (noL_one _ _ _ _ _) ?_)
  exact bodyPost_ret (results_mid Tryz.results46 _ _ (w.heap.size+1+1+1) (noL none none 0 0 (noE 11)) _ rfl HRR.out Tryz.underlying44 rfl no_info) rfl (And.intro (by rw [HX.out]; exact noRet_ill _) RB.out)
 have d4:((nv.bind.inn.size:Int) != 4)=false:=by simp; omega
 rw [if_neg (by simp [h4])] at HV;replace HST:Hid _:=HST.out h4;clear h4 hiz HIL;go_upto_region 11 with fail
 clear d4 k0 k1 k2 k3 k4 k5 k6 k7;go_cut [12] (fun v wx=>∃ g8,v=.pointer (some ⟨g8,0,none⟩)∧HoldsL wx g8 [.string sd,iV 0]∧Bxs w [(Xb,(BoV a9 c9 b9 d9 nv)),(Fb,(FlV fl)),(w.heap.size,(PlV pa pc p)),(w.heap.size+1,(BbV ba ca bo cb x)),(w.heap.size+1+1,(P4R tos id whole more off ttl proto src dst opts data)),(w.heap.size+1+1+1,Z25V)] wx∧BbOwn W2.heap.size wx a9 b9 nv.bib)
 case first =>
  rename_i J K2 hJ hK2;have HCP:Hid (∀ wy,Below W4.drew.heap.size W4.drew wy→_):=fun wy hy=>S4.out.kept (bR.drew.trans hy)
  have HOP:Hid (∀ wy,Below W4.drew.heap.size W4.drew wy→BbOwn W2.heap.size wy a9 b9 nv.bib):=fun wy hy=>O4.out.kept (bR.drew.trans hy)
  have HLT:Hid (∀ e∈([(Xb,(BoV a9 c9 b9 d9 nv)),(Fb,(FlV fl)),(w.heap.size,(PlV pa pc p)),(w.heap.size+1,(BbV ba ca bo cb x)),(w.heap.size+1+1,(P4R tos id whole more off ttl proto src dst opts data)),(w.heap.size+1+1+1,Z25V)]:List (Nat × List Value)),e.1 < W4.drew.heap.size):=fun e he=>(S4.out.lts e he).1
  have hww:w.heap.size≤W4.drew.heap.size:=S4.out.b.size;clear S4 O4 HV;refine wp_region_growV [55,56,57,58,59,60,61,62,63,64,65,66,67,68,12] (by kernel_rfl) (by kernel_rfl) ?_;apply GChV.v0
  ·rfl
  ·intro K' a wy ho hd hb hK kz;have o9:=ho 9 (by decide);simp [slot] at o9;clear hd ho;have hst:=HCP.out wy hb;have HHk:=hst.at mE1;obtain ⟨k0,k1,k2,k3,k4⟩:=HHk.c5;clear HHk;have HHl:=hst.at mE0;obtain ⟨l0,l1,l2,l3,l4,l5,l6,l7⟩:=HHl.c8;clear HHl;have HHm:=hst.at mE4;obtain ⟨-,-,-,-,-,-,-,m7,-,-,m10⟩:=HHm.c11;clear HHm;clear hst;go_simp;try go_bits
   exact kz _ rfl
  apply GChV.v1
  ·rfl
  ·intro K' a wy ho hd hb hK kz;have o9:=ho 9 (by decide);simp [slot] at o9;clear hd ho;have hst:=HCP.out wy hb;have HHk:=hst.at mE1;obtain ⟨k0,k1,k2,k3,k4⟩:=HHk.c5;clear HHk;have HHl:=hst.at mE0;obtain ⟨l0,l1,l2,l3,l4,l5,l6,l7⟩:=HHl.c8;clear HHl;have HHm:=hst.at mE4;obtain ⟨-,-,-,-,-,-,-,m7,-,-,m10⟩:=HHm.c11;clear HHm;clear hst;go_simp;try go_bits
   exact kz _ rfl
  apply GChV.v2
  ·rfl
  ·intro K' a wy ho hd hb hK kz;have o6:=ho 6 (by decide);simp [slot] at o6;clear hd ho;go_simp;try go_bits
   exact kz _ rfl
  apply GChV.v3
  ·rfl
  ·intro K' a wy ho hd hb hK kz;have q2:=hd ⟨2,.data⟩ (by simp) rfl;simp [rAt,IsV,slot] at q2;clear hd ho;have hst:=HCP.out wy hb;have HHk:=hst.at mE1;obtain ⟨k0,k1,k2,k3,k4⟩:=HHk.c5;clear HHk;have HHl:=hst.at mE0;obtain ⟨l0,l1,l2,l3,l4,l5,l6,l7⟩:=HHl.c8;clear HHl;have HHm:=hst.at mE4;obtain ⟨-,-,-,-,-,-,-,m7,-,-,m10⟩:=HHm.c11;clear HHm;clear hst;go_simp;try go_bits
   exact kz _ rfl
  apply GChV.v4
  ·rfl
  ·intro K' a wy ho hd hb hK kz;have o11:=ho 11 (by decide);simp [slot] at o11;clear hd ho;go_simp;try go_bits
   exact kz _ rfl
  apply GChV.v5
  ·rfl
  ·intro K' a wy ho hd hb hK kz;have q4:=hd ⟨4,.data⟩ (by simp) rfl;simp [rAt,IsV,slot] at q4;clear hd ho;go_simp;try go_bits
   exact kz _ rfl
  apply GChV.v6
  ·rfl
  ·intro K' a wy ho hd hb hK kz;have q5:=hd ⟨5,.data⟩ (by simp) rfl;simp [rAt,IsV,slot] at q5;clear hd ho;have hst:=HCP.out wy hb;have HHk:=hst.at mE1;obtain ⟨k0,k1,k2,k3,k4⟩:=HHk.c5;clear HHk;have HHl:=hst.at mE0;obtain ⟨l0,l1,l2,l3,l4,l5,l6,l7⟩:=HHl.c8;clear HHl;have HHm:=hst.at mE4;obtain ⟨-,-,-,-,-,-,-,m7,-,-,m10⟩:=HHm.c11;clear HHm;clear hst;go_simp;try go_bits
   exact kz _ rfl
  apply GChV.v7
  ·rfl
  ·intro K' a wy ho hd hb hK kz;have o11:=ho 11 (by decide);simp [slot] at o11;clear hd ho;go_simp;try go_bits
   exact kz _ rfl
  apply GChV.v8
  ·rfl
  ·intro K' a wy ho hd hb hK kz;have q7:=hd ⟨7,.data⟩ (by simp) rfl;simp [rAt,IsV,slot] at q7;clear hd ho;go_simp;try go_bits
   exact kz _ rfl
  apply GChV.v9
  ·rfl
  ·intro K' a wy ho hd hb hK kz;have q8:=hd ⟨8,.data⟩ (by simp) rfl;simp [rAt,IsV,slot] at q8;clear hd ho;have hst:=HCP.out wy hb;have HHk:=hst.at mE1;obtain ⟨k0,k1,k2,k3,k4⟩:=HHk.c5;clear HHk;have HHl:=hst.at mE0;obtain ⟨l0,l1,l2,l3,l4,l5,l6,l7⟩:=HHl.c8;clear HHl;have HHm:=hst.at mE4;obtain ⟨-,-,-,-,-,-,-,m7,-,-,m10⟩:=HHm.c11;clear HHm;clear hst;go_simp;try go_bits
   exact kz _ rfl
  apply GChV.v10
  ·rfl
  ·intro K' a wy ho hd hb hK kz;have q1:=hd ⟨1,.data⟩ (by simp) rfl;have q3:=hd ⟨3,.data⟩ (by simp) rfl;have q6:=hd ⟨6,.data⟩ (by simp) rfl;have q9:=hd ⟨9,.data⟩ (by simp) rfl;simp [rAt,IsV,slot] at q1 q3 q6 q9;clear hd ho;go_simp;refine (HFM.out wy).mono ?_;rintro e wz ⟨rfl,hz⟩;exact hK _ _ rfl hz
  apply GChV.v11
  ·rfl
  ·intro K' a wy ho hd hb hK kz;have o6:=ho 6 (by decide);simp [slot] at o6;clear hd ho;go_simp;try go_bits
   exact kz _ rfl
  apply GChV.v12
  ·rfl
  ·intro K' a wy ho hd hb hK kz;have q11:=hd ⟨11,.data⟩ (by simp) rfl;simp [rAt,IsV,slot] at q11;clear hd ho;have hst:=HCP.out wy hb;have HHk:=hst.at mE1;obtain ⟨k0,k1,k2,k3,k4⟩:=HHk.c5;clear HHk;have HHl:=hst.at mE0;obtain ⟨l0,l1,l2,l3,l4,l5,l6,l7⟩:=HHl.c8;clear HHl;have HHm:=hst.at mE4;obtain ⟨-,-,-,-,-,-,-,m7,-,-,m10⟩:=HHm.c11;clear HHm;clear hst;go_simp;try go_bits
   exact kz _ rfl
  apply GChV.v13
  ·rfl
  ·intro K' a wy ho hd hb hK kz;have q0:=hd ⟨0,.data⟩ (by simp) rfl;have q10:=hd ⟨10,.data⟩ (by simp) rfl;have q12:=hd ⟨12,.data⟩ (by simp) rfl;simp [rAt,IsV,slot] at q0 q10 q12;clear hd ho;go_simp;refine (HST.out wy).mono ?_;rintro e wz ⟨rfl,hz⟩;exact hK _ _ rfl hz
  refine GChV.rel (n:=14) (IsZy W4.drew.heap.size [.string ⟨#[]⟩,iV 0]) (stable_isZy _ _ (by simp)) [_,_,_,_,_,_,_,_,_,_,_,_,_,_,IsZy W4.drew.heap.size [.string ⟨#[]⟩,iV 0]] rfl rfl ?_ ?_
  ·intro K' a wy ho hd hb hK;rw [wN rfl];clear hd ho;go_simp;exact hK _ _ ⟨wy.heap.size,rfl,hb.size,HoldsL.new wy [.string ⟨#[]⟩,iV 0] 99⟩ (bR.alloc (Nat.le_refl _) _)
  intro X wz hR hz;obtain ⟨x0,x1,x2,x3,x4,x5,x6,x7,x8,x9,x10,x11,x12,x13,x14,-⟩:=hR;obtain ⟨g8,e8,b8,y8⟩:=x14;simp only [IsV] at x0 x1 x2 x3 x4 x5 x6 x7 x8 x9 x10 x11 x12 x13;simp only [putsFrom,x0,x1,x2,x3,x4,x5,x6,x7,x8,x9,x10,x11,x12,x13,e8];clear x0 x1 x2 x3 x4 x5 x6 x7 x8 x9 x10 x11 x12 x13;have HF1:Hid (HoldsL (stor g8 wz 0 [.string sd,iV 0]) g8 [.string sd,iV 0]):=y8.stor [.string sd,iV 0] rfl;have HF2:Hid (Bxs w [(Xb,(BoV a9 c9 b9 d9 nv)),(Fb,(FlV fl)),(w.heap.size,(PlV pa pc p)),(w.heap.size+1,(BbV ba ca bo cb x)),(w.heap.size+1+1,(P4R tos id whole more off ttl proto src dst opts data)),(w.heap.size+1+1+1,Z25V)] (stor g8 wz 0 [.string sd,iV 0])):=(HCP.out wz hz).stor (by omega) (fun e he=>by have:=HLT.out e he; omega) _;have HF3:Hid (BbOwn W2.heap.size (stor g8 wz 0 [.string sd,iV 0]) a9 b9 nv.bib):=HOP.out _ (Below.stor b8 _ hz);obtain ⟨y0,y1⟩:=y8.c2;obtain ⟨yf0,yf1⟩:=y8.f2;simp only [stor,Nat.reduceAdd] at HF1 HF2 HF3;clear hz HCP HOP HLT y8;intro K10 hK10;go_simp;refine hK10 _ _ ?_;show Exit.then _ _ _ _ _;refine hK2 _ _ (hJ _ _ ?_);(repeat apply Exists.intro)
  exact ⟨⟨g8,rfl,HF1.out,HF2.out,HF3.out⟩,rfl⟩
 case rest =>
 obtain ⟨g8,rfl,hD,hS,hO⟩:=hcut;have D5:Hid _:=hD;have S5:Hid (Bxs w [(Xb,(BoV a9 c9 b9 d9 nv)),(Fb,(FlV fl)),(w.heap.size,(PlV pa pc p)),(w.heap.size+1,(BbV ba ca bo cb x)),(w.heap.size+1+1,(P4R tos id whole more off ttl proto src dst opts data)),(w.heap.size+1+1+1,Z25V)] wc):=hS;have O5:Hid _:=hO;have hg8:g8 < wc.heap.size:=hD.lt (by simp);clear hD hS hO S4 O4 HFM HST;generalize wc=W5 at *;have HHk:=S5.out.at mE0;obtain ⟨k0,k1,k2,k3,k4,k5,k6,k7⟩:=HHk.c8;clear HHk;have HHn:=S5.out.at mE4;obtain ⟨n0,n1,n2,n3,n4,n5,n6,n7,n8,n9,n10⟩:=HHn.c11;obtain ⟨-,-,-,-,-,-,-,-,nf8,-,nf10⟩:=HHn.f11;have dd0:=D5.out.cell (j:=0) rfl;have hxq:Xb≠w.heap.size+1+1:=by omega
 have S6:Hid (Bxs w [(w.heap.size+1+1,(P4R tos id whole more off ttl proto src nv.bind.inn opts sd)),(Xb,(BoV a9 c9 b9 d9 nv)),(w.heap.size+1+1+1,Z25V)] ((sW W5 (w.heap.size+1+1) 8 (.string nv.bind.inn)).setCell ⟨w.heap.size+1+1,10,none⟩ (.string sd))):=⟨fun e he=>by
  simp only [List.mem_cons,List.not_mem_nil,or_false] at he;rcases he with rfl | rfl | rfl
  ·exact (HHn.set 8 (.string nv.bind.inn)).set 10 (.string sd)
  ·exact HoldsL.setOther (HoldsL.setOther (S5.out.k _ mE0) hxq _) hxq _
  ·exact HoldsL.setOther (HoldsL.setOther (S5.out.k _ mE5) (by show w.heap.size+1+1+1≠w.heap.size+1+1; omega) _) (by show w.heap.size+1+1+1≠w.heap.size+1+1; omega) _,(S5.out.b.setCell (p:=⟨w.heap.size+1+1,8,none⟩) (by show w.heap.size≤w.heap.size+1+1; omega) _).setCell (p:=⟨w.heap.size+1+1,10,none⟩) (by show w.heap.size≤w.heap.size+1+1; omega) _,fun e he=>by
  simp only [List.mem_cons,List.not_mem_nil,or_false] at he;rcases he with rfl | rfl | rfl<;>simp⟩
 have O6:Hid (BbOwn W2.heap.size ((sW W5 (w.heap.size+1+1) 8 (.string nv.bind.inn)).setCell ⟨w.heap.size+1+1,10,none⟩ (.string sd)) a9 b9 nv.bib):=⟨O5.out.bd.grown (grown_set (grown_set (World.grownBy.refl _ _) _) _) (by omega),O5.out.ss.grown (grown_set (grown_set (World.grownBy.refl _ _) _) _) (by omega),O5.out.ne⟩;clear HHn;go_upto_region 14 with fail
 generalize ((sW W5 (w.heap.size+1+1) 8 (.string nv.bind.inn)).setCell ⟨w.heap.size+1+1,10,none⟩ (.string sd))=W6 at *;clear S5 O5 D5 dd0 nf8 nf10 hg8 k0 k1 k2 k3 k4 k5 k6 k7 n0 n1 n2 n3 n4 n5 n6 n7 n8 n9 n10;have HHn:=S6.out.at mE0;obtain ⟨n0,n1,n2,n3,n4,n5,n6,n7,n8,n9,n10⟩:=HHn.c11;clear HHn;have HHk:=S6.out.at mE1;obtain ⟨k0,k1,k2,k3,k4,k5,k6,k7⟩:=HHk.c8;clear HHk;have HTH:Hid (W6.there (w.heap.size+1+1+1) 0 (noL a9 b9 c9 d9 ⟨nv.bib,⟨tos,id,whole,more,off,ttl,proto,src,nv.bind.inn,opts,sd⟩,p6Zero,0⟩).toArray.size):=noL_there (show HoldsL W6 (w.heap.size+1+1+1) (noL none none 0 0 (noE 0)) from S6.out.k _ mE2) _ _ _ _ _;have HRR:Hid (HoldsL (W6.setCells (w.heap.size+1+1+1) 0 (noL a9 b9 c9 d9 ⟨nv.bib,⟨tos,id,whole,more,off,ttl,proto,src,nv.bind.inn,opts,sd⟩,p6Zero,0⟩).toArray.toList) (w.heap.size+1+1+1) (noL a9 b9 c9 d9 ⟨nv.bib,⟨tos,id,whole,more,off,ttl,proto,src,nv.bind.inn,opts,sd⟩,p6Zero,0⟩)):=(show HoldsL W6 (w.heap.size+1+1+1) (noL none none 0 0 (noE 0)) from S6.out.k _ mE2).mid rfl;have RB:Hid (Below w.heap.size w (W6.setCells (w.heap.size+1+1+1) 0 (noL a9 b9 c9 d9 ⟨nv.bib,⟨tos,id,whole,more,off,ttl,proto,src,nv.bind.inn,opts,sd⟩,p6Zero,0⟩).toArray.toList)):=Below.mid S6.out.b hRw _;have HOW:Hid (BbOwn w.heap.size (W6.setCells (w.heap.size+1+1+1) 0 (noL a9 b9 c9 d9 ⟨nv.bib,⟨tos,id,whole,more,off,ttl,proto,src,nv.bind.inn,opts,sd⟩,p6Zero,0⟩).toArray.toList) a9 b9 nv.bib):=(BbOwn.mid O6.out hR2 _).lowN hw2;clear O6 S6;go_wp2_with (refine wpList_store_mid (by rfl) 44 (.tmp 8) (.tmp 79) (by rfl) (w.heap.size+1+1+1) 0 (noL a9 b9 c9 d9 ⟨nv.bib,⟨tos,id,whole,more,off,ttl,proto,src,nv.bind.inn,opts,sd⟩,p6Zero,0⟩).toArray (by rfl) (by rfl) HTH.out no_info (noL_one _ _ _ _ _) ?_)
 exact bodyPost_ret (results_mid Tryz.results46 _ _ (w.heap.size+1+1+1) (noL a9 b9 c9 d9 ⟨nv.bib,⟨tos,id,whole,more,off,ttl,proto,src,nv.bind.inn,opts,sd⟩,p6Zero,0⟩) _ rfl HRR.out Tryz.underlying44 rfl no_info) rfl (And.intro (by rw [HV.out]; exact ⟨a9,b9,c9,d9,rfl,HOW.out⟩) RB.out)
theorem natFt_zero {p:Pl} {x:Bb} {q:P4} {now:Int} (h:natFt p x q now=0):bibOk p x=true∧v4Ok q=true∧isTime now=true:=by
 unfold natFt at h;by_cases h1:(bibOk p x&&v4Ok q&&isTime now)=false
 ·rw [if_pos h1] at h; simp at h
 ·simpa using h1
theorem specNatCome_any (pa:Option Addr) (pc:Nat) (p:Pl) (ba bo:Option Addr) (ca cb:Nat) (x:Bb) (q:P4) (now:Int) (w:World) (hlp:p.addrs.length≤1048576) (hpc:p.addrs.length≤pc) (hsz:∀ s∈p.addrs,s.size≤1048576) (hl1:x.binds.length≤1048576) (hl2:x.sess.length≤1048576) (q1:q.src.size≤1048576) (q2:q.dst.size≤1048576) (q3:q.opts.size≤1048576) (q4:q.data.size≤1048576) (hp:SlIs strL1 1 w pa p.addrs) (hx:BbIs w ba bo x) :
  Calls Tryz.prog 21 #[plC pa pc p,bbC ba bo ca cb x,p4C q,iV now] w fun e w'=>NoRet w.heap.size (natComeV p x q now) e w'∧Below w.heap.size w w':=by
 have HOK:Hid (∀ W,Below w.heap.size w W→Cb 28 #[plC pa pc p,bbC ba bo ca cb x,p4C q,iV now] W (iV (natFt p x q now))):=fun W hW=>sp9Ok_any pa pc p ba bo ca cb x q now W hlp hpc hsz hl1 hl2 q1 q2 q3 q4 (hp.below hW) (hx.below hW)
 have HIL:Hid (∀ c W,Cb 29 #[iV c] W (noC none none 0 0 (noE c))):=fun c W=>sp9Ill_any c W
 have HIN:Hid (natFt p x q now=0→∀ W,Below w.heap.size w W→Calls Tryz.prog 46 #[plC pa pc p,bbC ba bo ca cb x,p4C q,iV now] W fun e w'=>NoRet W.heap.size (natComeIn p x q now) e w'∧Below W.heap.size W w'):=fun h W hW=>by
  obtain ⟨h1,h2,h3⟩:=natFt_zero h;exact sp9NatCome_any pa pc p ba bo ca cb x q now W h1 h2 h3 hl1 hl2 (hp.below hW) (hx.below hW)
 have HV:Hid (natComeV p x q now=if natFt p x q now≠0 then noE (natFt p x q now) else natComeIn p x q now):=rfl;generalize natComeV p x q now=ans at *;generalize natComeIn p x q now=nv at *;generalize natFt p x q now=ft at *;obtain ⟨tos,id,whole,more,off,ttl,proto,src,dst,opts,data⟩:=q;clear hp hx hsz;unfold plC bbC p4C at *;dsimp only at *;have e0:HoldsL ((aW (aW (aW w (PlV pa pc p) 48) (BbV ba ca bo cb x) 39) (P4R tos id whole more off ttl proto src dst opts data) 40).alloc (.cells Z25V.toArray 44)) (w.heap.size) (PlV pa pc p):=by
  have h:=HoldsL.new w (PlV pa pc p) 48;try simp only [World.size_alloc] at h
  exact (((h.alloc _).alloc _).alloc _)
 have e1:HoldsL ((aW (aW (aW w (PlV pa pc p) 48) (BbV ba ca bo cb x) 39) (P4R tos id whole more off ttl proto src dst opts data) 40).alloc (.cells Z25V.toArray 44)) (w.heap.size+1) (BbV ba ca bo cb x):=by
  have h:=HoldsL.new (w.alloc (.cells (PlV pa pc p).toArray 48)) (BbV ba ca bo cb x) 39;try simp only [World.size_alloc] at h
  exact ((h.alloc _).alloc _)
 have e2:HoldsL ((aW (aW (aW w (PlV pa pc p) 48) (BbV ba ca bo cb x) 39) (P4R tos id whole more off ttl proto src dst opts data) 40).alloc (.cells Z25V.toArray 44)) (w.heap.size+1+1) (P4R tos id whole more off ttl proto src dst opts data):=by
  have h:=HoldsL.new ((aW w (PlV pa pc p) 48).alloc (.cells (BbV ba ca bo cb x).toArray 39)) (P4R tos id whole more off ttl proto src dst opts data) 40;try simp only [World.size_alloc] at h
  exact (h.alloc _)
 have e3:HoldsL ((aW (aW (aW w (PlV pa pc p) 48) (BbV ba ca bo cb x) 39) (P4R tos id whole more off ttl proto src dst opts data) 40).alloc (.cells Z25V.toArray 44)) (w.heap.size+1+1+1) Z25V:=by
  have h:=HoldsL.new ((aW (aW w (PlV pa pc p) 48) (BbV ba ca bo cb x) 39).alloc (.cells (P4R tos id whole more off ttl proto src dst opts data).toArray 40)) Z25V 44;try simp only [World.size_alloc] at h
  exact h
 have HS0:Hid (Bxs w [(w.heap.size,(PlV pa pc p)),(w.heap.size+1,(BbV ba ca bo cb x)),(w.heap.size+1+1,(P4R tos id whole more off ttl proto src dst opts data)),(w.heap.size+1+1+1,Z25V)] ((aW (aW (aW w (PlV pa pc p) 48) (BbV ba ca bo cb x) 39) (P4R tos id whole more off ttl proto src dst opts data) 40).alloc (.cells Z25V.toArray 44))):=by
  refine ⟨fun e he=>?_,((((bR.alloc (by (try simp only [World.size_alloc]); omega) _).alloc (by (try simp only [World.size_alloc]); omega) _).alloc (by (try simp only [World.size_alloc]); omega) _).alloc (by (try simp only [World.size_alloc]); omega) _),fun e he=>?_⟩
  ·simp only [List.mem_cons,List.not_mem_nil,or_false] at he;rcases he with rfl | rfl | rfl | rfl
   ·exact e0
   ·exact e1
   ·exact e2
   ·exact e3
  ·simp only [List.mem_cons,List.not_mem_nil,or_false] at he;rcases he with rfl | rfl | rfl | rfl<;>simp
 clear e0 e1 e2 e3;have hRw:w.heap.size≤w.heap.size+1+1+1:=by omega
 go_enter Tryz.func21,Tryz.ntmps21
 go_upto_region 1 with fail
 generalize ((aW (aW (aW w (PlV pa pc p) 48) (BbV ba ca bo cb x) 39) (P4R tos id whole more off ttl proto src dst opts data) 40).alloc (.cells Z25V.toArray 44))=W0 at *;have HHk:=HS0.out.at mE0;obtain ⟨k0,k1,k2,k3,k4,k5,k6,k7,k8,k9⟩:=HHk.c10;clear HHk;have HHl:=HS0.out.at mE1;obtain ⟨l0,l1⟩:=HHl.c2;clear HHl;have HHm:=HS0.out.at mE2;obtain ⟨m0,m1,m2,m3,m4,m5,m6,m7,m8,m9,m10⟩:=HHm.c11;clear HHm;go_wp2_with fail
 refine (HOK.out _ HS0.out.b).mono ?_;rintro e W1 ⟨rfl,r1⟩;have S1:Hid _:=HS0.out.kept r1;clear r1 HS0 HOK k0 k1 k2 k3 k4 k5 k6 k7 k8 k9 l0 l1 m0 m1 m2 m3 m4 m5 m6 m7 m8 m9 m10;by_cases hc:ft=0
 case neg =>
  have d0:(ft != 0)=true:=by simp [hc]
  have HX:Hid (ans=noE ft):=by unfold Hid; rw [HV.out,if_pos hc]
  go_wp2_with fail
  refine (HIL.out ft _).mono ?_;rintro e W3 ⟨rfl,r3⟩;have S3:Hid _:=S1.out.kept r3;clear r3;have HTH:Hid (W3.there (w.heap.size+1+1+1) 0 (noL none none 0 0 (noE ft)).toArray.size):=noL_there (show HoldsL W3 (w.heap.size+1+1+1) (noL none none 0 0 (noE 0)) from S3.out.k _ mE3) _ _ _ _ _;have HRR:Hid (HoldsL (W3.setCells (w.heap.size+1+1+1) 0 (noL none none 0 0 (noE ft)).toArray.toList) (w.heap.size+1+1+1) (noL none none 0 0 (noE ft))):=(show HoldsL W3 (w.heap.size+1+1+1) (noL none none 0 0 (noE 0)) from S3.out.k _ mE3).mid rfl;have RB:Hid (Below w.heap.size w (W3.setCells (w.heap.size+1+1+1) 0 (noL none none 0 0 (noE ft)).toArray.toList)):=Below.mid S3.out.b hRw _;unfold noC;go_wp2_with (refine wpList_store_mid (by rfl) 44 (.tmp 8) (.tmp 18) (by rfl) (w.heap.size+1+1+1) 0 (noL none none 0 0 (noE ft)).toArray (by rfl) (by rfl) HTH.out no_info (noL_one _ _ _ _ _) ?_)
  exact bodyPost_ret (results_mid Tryz.results21 _ _ (w.heap.size+1+1+1) (noL none none 0 0 (noE ft)) _ rfl HRR.out Tryz.underlying44 rfl no_info) rfl (And.intro (by rw [HX.out]; exact noRet_ill _) RB.out)
 have d0:(ft != 0)=false:=by simp [hc]
 rw [if_neg (by simp [hc])] at HV;replace HIN:Hid _:=HIN.out hc;clear hc HIL;go_upto_region 4 with fail
 clear d0;have HHk:=S1.out.at mE0;obtain ⟨k0,k1,k2,k3,k4,k5,k6,k7,k8,k9⟩:=HHk.c10;clear HHk;have HHl:=S1.out.at mE1;obtain ⟨l0,l1⟩:=HHl.c2;clear HHl;have HHm:=S1.out.at mE2;obtain ⟨m0,m1,m2,m3,m4,m5,m6,m7,m8,m9,m10⟩:=HHm.c11;clear HHm;have hR2:w.heap.size+1+1+1 < W1.heap.size:=(S1.out.k _ mE3).lt (by simp);have hw2:w.heap.size≤W1.heap.size:=S1.out.b.size;go_wp2_with fail
 refine (HIN.out _ S1.out.b).mono ?_;rintro e W3 ⟨⟨a9,b9,c9,d9,rfl,hown⟩,r3⟩;have S3:Hid _:=S1.out.kept r3;clear r3 S1 HIN k0 k1 k2 k3 k4 k5 k6 k7 k8 k9 l0 l1 m0 m1 m2 m3 m4 m5 m6 m7 m8 m9 m10;have HTH:Hid (W3.there (w.heap.size+1+1+1) 0 (noL a9 b9 c9 d9 nv).toArray.size):=noL_there (show HoldsL W3 (w.heap.size+1+1+1) (noL none none 0 0 (noE 0)) from S3.out.k _ mE3) _ _ _ _ _;have HRR:Hid (HoldsL (W3.setCells (w.heap.size+1+1+1) 0 (noL a9 b9 c9 d9 nv).toArray.toList) (w.heap.size+1+1+1) (noL a9 b9 c9 d9 nv)):=(show HoldsL W3 (w.heap.size+1+1+1) (noL none none 0 0 (noE 0)) from S3.out.k _ mE3).mid rfl;have RB:Hid (Below w.heap.size w (W3.setCells (w.heap.size+1+1+1) 0 (noL a9 b9 c9 d9 nv).toArray.toList)):=Below.mid S3.out.b hRw _;have HOW:Hid (BbOwn w.heap.size (W3.setCells (w.heap.size+1+1+1) 0 (noL a9 b9 c9 d9 nv).toArray.toList) a9 b9 nv.bib):=(BbOwn.mid hown hR2 _).lowN hw2;clear hown S3;unfold noC;go_wp2_with (refine wpList_store_mid (by rfl) 44 (.tmp 8) (.tmp 23) (by rfl) (w.heap.size+1+1+1) 0 (noL a9 b9 c9 d9 nv).toArray (by rfl) (by rfl) HTH.out no_info (noL_one _ _ _ _ _) ?_)
 exact bodyPost_ret (results_mid Tryz.results21 _ _ (w.heap.size+1+1+1) (noL a9 b9 c9 d9 nv) _ rfl HRR.out Tryz.underlying44 rfl no_info) rfl (And.intro (by rw [HV.out]; exact ⟨a9,b9,c9,d9,rfl,HOW.out⟩) RB.out)
theorem specNatBack_any (pa:Option Addr) (pc:Nat) (p:Pl) (ba bo:Option Addr) (ca cb:Nat) (x:Bb) (q:P4) (now:Int) (w:World) (hlp:p.addrs.length≤1048576) (hpc:p.addrs.length≤pc) (hsz:∀ s∈p.addrs,s.size≤1048576) (hl1:x.binds.length≤1048576) (hl2:x.sess.length≤1048576) (q1:q.src.size≤1048576) (q2:q.dst.size≤1048576) (q3:q.opts.size≤1048576) (q4:q.data.size≤1048576) (hp:SlIs strL1 1 w pa p.addrs) (hx:BbIs w ba bo x) :
  Calls Tryz.prog 23 #[plC pa pc p,bbC ba bo ca cb x,p4C q,iV now] w fun e w'=>NoRet w.heap.size (natBackV p x q now) e w'∧Below w.heap.size w w':=by
 have HPS:=back_is p x q now hsz;have CFT:Hid (∀ W,Below w.heap.size w W→Cb 28 #[plC pa pc p,bbC ba bo ca cb x,p4C q,iV now] W (iV (natFt p x q now))):=fun W hW=>sp9Ok_any pa pc p ba bo ca cb x q now W hlp hpc hsz hl1 hl2 q1 q2 q3 q4 (hp.below hW) (hx.below hW)
 have CIL:Hid (∀ c W,Cb 29 #[iV c] W (noC none none 0 0 (noE c))):=fun c W=>sp9Ill_any c W
 have CGO:Hid (natFt p x q now=0→∀ W,Below w.heap.size w W→Calls Tryz.prog 30 #[plC pa pc p,bbC ba bo ca cb x,p4C q,iV now] W fun e w'=>NoRet W.heap.size (natGoIn p x q now) e w'∧Below W.heap.size W w'):=fun h W hW=>by
  obtain ⟨h1,h2,h3⟩:=natFt_zero h;exact sp9NatGo_any pa pc p ba bo ca cb x q now W h1 h2 h3 hl1 hl2 (hp.below hW) (hx.below hW)
 have CCO:Hid (natFt p x q now=0→(natGoIn p x q now).code=0→∀ W a9 b9 c9 d9,Below w.heap.size w W→BbIs W a9 b9 (natGoIn p x q now).bib→Calls Tryz.prog 21 #[plC pa pc p,bbC a9 b9 c9 d9 (natGoIn p x q now).bib,p4C (natGoIn p x q now).four,iV now] W fun e w'=>NoRet W.heap.size (natComeV p (natGoIn p x q now).bib (natGoIn p x q now).four now) e w'∧Below W.heap.size W w'):=fun h c W a9 b9 c9 d9 hW hb=>by
  obtain ⟨⟨l1,l2,l3,l4⟩,z1,z2,z3,z4⟩:=HPS.sm h c;exact specNatCome_any pa pc p a9 b9 c9 d9 (natGoIn p x q now).bib (natGoIn p x q now).four now W hlp hpc hsz l1 l2 z1 z2 z3 z4 (hp.below hW) hb
 replace HPS:Hid _:=HPS;clear hlp hpc hsz hl1 hl2 hp hx q1 q2 q3 q4;generalize natBackV p x q now=ans at *;generalize natGoIn p x q now=nv at *;generalize natFt p x q now=ft at *;unfold plC bbC p4C at *;try dsimp only at *
 have e0:HoldsL ((aW (aW (aW w (PlV pa pc p) 48) (BbV ba ca bo cb x) 39) (P4V q) 40).alloc (.cells Z25V.toArray 44)) (w.heap.size) (PlV pa pc p):=by
  have h:=HoldsL.new w (PlV pa pc p) 48;try simp only [World.size_alloc] at h
  exact (((h.alloc _).alloc _).alloc _)
 have e1:HoldsL ((aW (aW (aW w (PlV pa pc p) 48) (BbV ba ca bo cb x) 39) (P4V q) 40).alloc (.cells Z25V.toArray 44)) (w.heap.size+1) (BbV ba ca bo cb x):=by
  have h:=HoldsL.new (w.alloc (.cells (PlV pa pc p).toArray 48)) (BbV ba ca bo cb x) 39;try simp only [World.size_alloc] at h
  exact ((h.alloc _).alloc _)
 have e2:HoldsL ((aW (aW (aW w (PlV pa pc p) 48) (BbV ba ca bo cb x) 39) (P4V q) 40).alloc (.cells Z25V.toArray 44)) (w.heap.size+1+1) (P4V q):=by
  have h:=HoldsL.new ((aW w (PlV pa pc p) 48).alloc (.cells (BbV ba ca bo cb x).toArray 39)) (P4V q) 40;try simp only [World.size_alloc] at h
  exact (h.alloc _)
 have e3:HoldsL ((aW (aW (aW w (PlV pa pc p) 48) (BbV ba ca bo cb x) 39) (P4V q) 40).alloc (.cells Z25V.toArray 44)) (w.heap.size+1+1+1) Z25V:=by
  have h:=HoldsL.new ((aW (aW w (PlV pa pc p) 48) (BbV ba ca bo cb x) 39).alloc (.cells (P4V q).toArray 40)) Z25V 44;try simp only [World.size_alloc] at h
  exact h
 have HS0:Hid (Bxs w [(w.heap.size,(PlV pa pc p)),(w.heap.size+1,(BbV ba ca bo cb x)),(w.heap.size+1+1,(P4V q)),(w.heap.size+1+1+1,Z25V)] ((aW (aW (aW w (PlV pa pc p) 48) (BbV ba ca bo cb x) 39) (P4V q) 40).alloc (.cells Z25V.toArray 44))):=by
  refine ⟨fun e he=>?_,((((bR.alloc (by (try simp only [World.size_alloc]); omega) _).alloc (by (try simp only [World.size_alloc]); omega) _).alloc (by (try simp only [World.size_alloc]); omega) _).alloc (by (try simp only [World.size_alloc]); omega) _),fun e he=>?_⟩
  ·simp only [List.mem_cons,List.not_mem_nil,or_false] at he;rcases he with rfl | rfl | rfl | rfl
   ·exact e0
   ·exact e1
   ·exact e2
   ·exact e3
  ·simp only [List.mem_cons,List.not_mem_nil,or_false] at he;rcases he with rfl | rfl | rfl | rfl<;>simp
 clear e0 e1 e2 e3;have hRw:w.heap.size≤w.heap.size+1+1+1:=by omega
 go_enter Tryz.func23,Tryz.ntmps23
 go_upto_region 1 with fail
 generalize ((aW (aW (aW w (PlV pa pc p) 48) (BbV ba ca bo cb x) 39) (P4V q) 40).alloc (.cells Z25V.toArray 44))=W0 at *;have HHk:=HS0.out.at mE0;have k0:=HHk.cell (j:=0) rfl;have k1:=HHk.cell (j:=1) rfl;have k2:=HHk.cell (j:=2) rfl;have k3:=HHk.cell (j:=3) rfl;have k4:=HHk.cell (j:=4) rfl;have k5:=HHk.cell (j:=5) rfl;have k6:=HHk.cell (j:=6) rfl;have k7:=HHk.cell (j:=7) rfl;have k8:=HHk.cell (j:=8) rfl;have k9:=HHk.cell (j:=9) rfl;clear HHk;have HHl:=HS0.out.at mE1;have l0:=HHl.cell (j:=0) rfl;have l1:=HHl.cell (j:=1) rfl;clear HHl;have HHm:=HS0.out.at mE2;have m0:=HHm.cell (j:=0) rfl;have m1:=HHm.cell (j:=1) rfl;have m2:=HHm.cell (j:=2) rfl;have m3:=HHm.cell (j:=3) rfl;have m4:=HHm.cell (j:=4) rfl;have m5:=HHm.cell (j:=5) rfl;have m6:=HHm.cell (j:=6) rfl;have m7:=HHm.cell (j:=7) rfl;have m8:=HHm.cell (j:=8) rfl;have m9:=HHm.cell (j:=9) rfl;have m10:=HHm.cell (j:=10) rfl;clear HHm;go_wp2_with fail
 refine (CFT.out W0 HS0.out.b).mono ?_;rintro e W1 ⟨rfl,r1⟩;have S1:Hid _:=HS0.out.kept r1;clear r1 HS0 CFT k0 k1 k2 k3 k4 k5 k6 k7 k8 k9 l0 l1 m0 m1 m2 m3 m4 m5 m6 m7 m8 m9 m10;by_cases hft:ft=0
 case neg =>
  have d0:(ft != 0)=true:=by simp [hft]
  have HX:Hid (ans=noE (ft)):=HPS.out.a1 hft;go_wp2_with fail
  refine (CIL.out (ft) W1).mono ?_;rintro e WI ⟨rfl,r3⟩;have SI:Hid _:=S1.out.kept r3;clear r3;unfold noC;have HTH:Hid (WI.there (w.heap.size+1+1+1) 0 (noL none none 0 0 (noE (ft))).toArray.size):=noL_there (show HoldsL WI (w.heap.size+1+1+1) (noL none none 0 0 (noE 0)) from SI.out.k _ mE3) _ _ _ _ _;have HRR:Hid (HoldsL (WI.setCells (w.heap.size+1+1+1) 0 (noL none none 0 0 (noE (ft))).toArray.toList) (w.heap.size+1+1+1) (noL none none 0 0 (noE (ft)))):=(show HoldsL WI (w.heap.size+1+1+1) (noL none none 0 0 (noE 0)) from SI.out.k _ mE3).mid rfl;have RB:Hid (Below w.heap.size w (WI.setCells (w.heap.size+1+1+1) 0 (noL none none 0 0 (noE (ft))).toArray.toList)):=Below.mid SI.out.b hRw _;go_wp2_with (refine wpList_store_mid (by rfl) 44 (.tmp 8) (.tmp 19) (by rfl) (w.heap.size+1+1+1) 0 (noL none none 0 0 (noE (ft))).toArray (by rfl) (by rfl) HTH.out no_info (noL_one _ _ _ _ _) ?_)
  exact bodyPost_ret (results_mid Tryz.results23 _ _ (w.heap.size+1+1+1) (noL none none 0 0 (noE (ft))) _ rfl HRR.out Tryz.underlying44 rfl no_info) rfl (And.intro (by rw [HX.out]; exact noRet_ill _) RB.out)
 have d0:(ft != 0)=false:=by simp [hft]
 replace CGO:Hid _:=CGO.out hft;replace CCO:Hid _:=CCO.out hft;go_upto_region 4 with fail
 clear d0;have HHm:=S1.out.at mE2;have m0:=HHm.cell (j:=0) rfl;have m1:=HHm.cell (j:=1) rfl;have m2:=HHm.cell (j:=2) rfl;have m3:=HHm.cell (j:=3) rfl;have m4:=HHm.cell (j:=4) rfl;have m5:=HHm.cell (j:=5) rfl;have m6:=HHm.cell (j:=6) rfl;have m7:=HHm.cell (j:=7) rfl;have m8:=HHm.cell (j:=8) rfl;have m9:=HHm.cell (j:=9) rfl;have m10:=HHm.cell (j:=10) rfl;clear HHm;by_cases hpr:q.proto=1
 case pos =>
  have d1:(q.proto==1)=true:=by simp [hpr]
  have HPX:Hid (ans=noE 11):=HPS.out.a2 hft hpr;clear hpr;have HX:Hid (ans=noE (11)):=HPX.out;go_wp2_with fail
  refine (CIL.out (11) W1).mono ?_;rintro e WI ⟨rfl,r3⟩;have SI:Hid _:=S1.out.kept r3;clear r3;unfold noC;have HTH:Hid (WI.there (w.heap.size+1+1+1) 0 (noL none none 0 0 (noE (11))).toArray.size):=noL_there (show HoldsL WI (w.heap.size+1+1+1) (noL none none 0 0 (noE 0)) from SI.out.k _ mE3) _ _ _ _ _;have HRR:Hid (HoldsL (WI.setCells (w.heap.size+1+1+1) 0 (noL none none 0 0 (noE (11))).toArray.toList) (w.heap.size+1+1+1) (noL none none 0 0 (noE (11)))):=(show HoldsL WI (w.heap.size+1+1+1) (noL none none 0 0 (noE 0)) from SI.out.k _ mE3).mid rfl;have RB:Hid (Below w.heap.size w (WI.setCells (w.heap.size+1+1+1) 0 (noL none none 0 0 (noE (11))).toArray.toList)):=Below.mid SI.out.b hRw _;go_wp2_with (refine wpList_store_mid (by rfl) 44 (.tmp 8) (.tmp 23) (by rfl) (w.heap.size+1+1+1) 0 (noL none none 0 0 (noE (11))).toArray (by rfl) (by rfl) HTH.out no_info (noL_one _ _ _ _ _) ?_)
  exact bodyPost_ret (results_mid Tryz.results23 _ _ (w.heap.size+1+1+1) (noL none none 0 0 (noE (11))) _ rfl HRR.out Tryz.underlying44 rfl no_info) rfl (And.intro (by rw [HX.out]; exact noRet_ill _) RB.out)
 have d1:(q.proto==1)=false:=by simp [hpr]
 have HPR:Hid _:=hpr;clear hpr;go_upto_region 6 with fail
 clear d1 m0 m1 m2 m3 m4 m5 m6 m7 m8 m9 m10;have HHk:=S1.out.at mE0;have k0:=HHk.cell (j:=0) rfl;have k1:=HHk.cell (j:=1) rfl;have k2:=HHk.cell (j:=2) rfl;have k3:=HHk.cell (j:=3) rfl;have k4:=HHk.cell (j:=4) rfl;have k5:=HHk.cell (j:=5) rfl;have k6:=HHk.cell (j:=6) rfl;have k7:=HHk.cell (j:=7) rfl;have k8:=HHk.cell (j:=8) rfl;have k9:=HHk.cell (j:=9) rfl;clear HHk;have HHl:=S1.out.at mE1;have l0:=HHl.cell (j:=0) rfl;have l1:=HHl.cell (j:=1) rfl;clear HHl;have HHm:=S1.out.at mE2;have m0:=HHm.cell (j:=0) rfl;have m1:=HHm.cell (j:=1) rfl;have m2:=HHm.cell (j:=2) rfl;have m3:=HHm.cell (j:=3) rfl;have m4:=HHm.cell (j:=4) rfl;have m5:=HHm.cell (j:=5) rfl;have m6:=HHm.cell (j:=6) rfl;have m7:=HHm.cell (j:=7) rfl;have m8:=HHm.cell (j:=8) rfl;have m9:=HHm.cell (j:=9) rfl;have m10:=HHm.cell (j:=10) rfl;clear HHm;have hR2:w.heap.size+1+1+1 < W1.heap.size:=(S1.out.k _ mE3).lt (by simp);have hw2:w.heap.size≤W1.heap.size:=S1.out.b.size;go_wp2_with fail
 refine (CGO.out W1 S1.out.b).mono ?_;rintro e W3 ⟨⟨a9,b9,c9,d9,rfl,hown⟩,r3⟩;have S3:Hid _:=S1.out.kept r3;have h13:W1.heap.size≤W3.heap.size:=r3.size;clear r3 S1 CGO k0 k1 k2 k3 k4 k5 k6 k7 k8 k9 l0 l1 m0 m1 m2 m3 m4 m5 m6 m7 m8 m9 m10;unfold noC;have h4:HoldsL (W3.alloc (.cells Z25V.toArray 44)) W3.heap.size (noL none none 0 0 (noE 0)):=HoldsL.new W3 Z25V 44;have HTH:Hid ((W3.alloc (.cells Z25V.toArray 44)).there W3.heap.size 0 (noL a9 b9 c9 d9 nv).toArray.size):=noL_there h4 _ _ _ _ _;have S4:Hid (Bxs w [(w.heap.size,(PlV pa pc p)),(w.heap.size+1,(BbV ba ca bo cb x)),(w.heap.size+1+1,(P4V q)),(w.heap.size+1+1+1,Z25V)] ((W3.alloc (.cells Z25V.toArray 44)).setCells W3.heap.size 0 (noL a9 b9 c9 d9 nv).toArray.toList)):=Bxs.mid (S3.out.kept (bR.alloc (Nat.le_refl _) _)) (by omega) (fun e he=>by have:=(S3.out.lts e he).1; omega) _;have H4:Hid (HoldsL ((W3.alloc (.cells Z25V.toArray 44)).setCells W3.heap.size 0 (noL a9 b9 c9 d9 nv).toArray.toList) W3.heap.size (noL a9 b9 c9 d9 nv)):=h4.mid rfl;have O4:Hid (BbOwn W1.heap.size ((W3.alloc (.cells Z25V.toArray 44)).setCells W3.heap.size 0 (noL a9 b9 c9 d9 nv).toArray.toList) a9 b9 nv.bib):=(hown.kept (bR.alloc (Nat.le_refl _) _)).midNe hown.fresh _
 clear hown S3 h4;go_upto_region 7 with (refine wpList_store_mid (by rfl) 44 (.tmp 10) (.tmp 28) (by rfl) W3.heap.size 0 (noL a9 b9 c9 d9 nv).toArray (by rfl) (by rfl) HTH.out no_info (noL_one _ _ _ _ _) ?_)
 generalize (W3.alloc (.cells Z25V.toArray 44)).setCells W3.heap.size 0 (noL a9 b9 c9 d9 nv).toArray.toList=W5 at *;clear HTH;generalize W3.heap.size=Nb at *;have n24:=H4.out.cell (j:=24) rfl;by_cases hc:nv.code=0
 case neg =>
  have d0:(nv.code != 0)=true:=by simp [hc]
  have HX:Hid (ans=nv):=HPS.out.a3 hft HPR.out hc;clear hc;have HTH:Hid (W5.there (w.heap.size+1+1+1) 0 (noL a9 b9 c9 d9 nv).toArray.size):=noL_there (show HoldsL W5 (w.heap.size+1+1+1) (noL none none 0 0 (noE 0)) from S4.out.k _ mE3) _ _ _ _ _;have HRR:Hid (HoldsL (W5.setCells (w.heap.size+1+1+1) 0 (noL a9 b9 c9 d9 nv).toArray.toList) (w.heap.size+1+1+1) (noL a9 b9 c9 d9 nv)):=(show HoldsL W5 (w.heap.size+1+1+1) (noL none none 0 0 (noE 0)) from S4.out.k _ mE3).mid rfl;have RB:Hid (Below w.heap.size w (W5.setCells (w.heap.size+1+1+1) 0 (noL a9 b9 c9 d9 nv).toArray.toList)):=Below.mid S4.out.b hRw _;have HOW:Hid (BbOwn w.heap.size (W5.setCells (w.heap.size+1+1+1) 0 (noL a9 b9 c9 d9 nv).toArray.toList) a9 b9 nv.bib):=(BbOwn.mid O4.out hR2 _).lowN hw2;go_wp2_with (first | (refine wpList_load_mid (by rfl) 44 (.tmp 10) (by rfl) Nb 0 (by rfl) (noL a9 b9 c9 d9 nv) _ H4.out.at0 Tryz.underlying44 rfl no_info ?_) | (refine wpList_store_mid (by rfl) 44 (.tmp 8) (.tmp 32) (by rfl) (w.heap.size+1+1+1) 0 (noL a9 b9 c9 d9 nv).toArray (by rfl) (by rfl) HTH.out no_info (noL_one _ _ _ _ _) ?_))
  refine bodyPost_ret (results_mid Tryz.results23 _ _ (w.heap.size+1+1+1) (noL a9 b9 c9 d9 nv) _ rfl HRR.out Tryz.underlying44 rfl no_info) rfl ?_;rw [HX.out];exact And.intro ⟨a9,b9,c9,d9,rfl,HOW.out⟩ RB.out
 have d0:(nv.code != 0)=false:=by simp [hc]
 have HX:Hid _:=HPS.out.a4 hft HPR.out hc;replace CCO:Hid _:=CCO.out hc;go_upto_region 9 with fail
 clear d0 hc n24 HPR HPS hft;have HHk:=S4.out.at mE0;have k0:=HHk.cell (j:=0) rfl;have k1:=HHk.cell (j:=1) rfl;have k2:=HHk.cell (j:=2) rfl;have k3:=HHk.cell (j:=3) rfl;have k4:=HHk.cell (j:=4) rfl;have k5:=HHk.cell (j:=5) rfl;have k6:=HHk.cell (j:=6) rfl;have k7:=HHk.cell (j:=7) rfl;have k8:=HHk.cell (j:=8) rfl;have k9:=HHk.cell (j:=9) rfl;clear HHk;have n0:=H4.out.cell (j:=0) rfl;have n1:=H4.out.cell (j:=1) rfl;have n2:=H4.out.cell (j:=2) rfl;have n3:=H4.out.cell (j:=3) rfl;have n4:=H4.out.cell (j:=4) rfl;have n5:=H4.out.cell (j:=5) rfl;have n6:=H4.out.cell (j:=6) rfl;have n7:=H4.out.cell (j:=7) rfl;have n8:=H4.out.cell (j:=8) rfl;have n9:=H4.out.cell (j:=9) rfl;have n10:=H4.out.cell (j:=10) rfl;have n11:=H4.out.cell (j:=11) rfl;have n12:=H4.out.cell (j:=12) rfl;have hR3:w.heap.size+1+1+1 < W5.heap.size:=(S4.out.k _ mE3).lt (by simp);have hw3:w.heap.size≤W5.heap.size:=S4.out.b.size;go_wp2_with fail
 refine (CCO.out W5 a9 b9 c9 d9 S4.out.b O4.out.is).mono ?_;rintro e W6 ⟨⟨a8,b8,c8,d8,rfl,hown⟩,r3⟩;have S6:Hid _:=S4.out.kept r3;clear r3 S4 O4 H4 CCO k0 k1 k2 k3 k4 k5 k6 k7 k8 k9 n0 n1 n2 n3 n4 n5 n6 n7 n8 n9 n10 n11 n12;unfold noC;generalize natComeV p nv.bib nv.four now=cv at *;have HTH:Hid (W6.there (w.heap.size+1+1+1) 0 (noL a8 b8 c8 d8 cv).toArray.size):=noL_there (show HoldsL W6 (w.heap.size+1+1+1) (noL none none 0 0 (noE 0)) from S6.out.k _ mE3) _ _ _ _ _;have HRR:Hid (HoldsL (W6.setCells (w.heap.size+1+1+1) 0 (noL a8 b8 c8 d8 cv).toArray.toList) (w.heap.size+1+1+1) (noL a8 b8 c8 d8 cv)):=(show HoldsL W6 (w.heap.size+1+1+1) (noL none none 0 0 (noE 0)) from S6.out.k _ mE3).mid rfl;have RB:Hid (Below w.heap.size w (W6.setCells (w.heap.size+1+1+1) 0 (noL a8 b8 c8 d8 cv).toArray.toList)):=Below.mid S6.out.b hRw _;have HOW:Hid (BbOwn w.heap.size (W6.setCells (w.heap.size+1+1+1) 0 (noL a8 b8 c8 d8 cv).toArray.toList) a8 b8 cv.bib):=(BbOwn.mid hown hR3 _).lowN hw3;clear hown S6;go_wp2_with (refine wpList_store_mid (by rfl) 44 (.tmp 8) (.tmp 39) (by rfl) (w.heap.size+1+1+1) 0 (noL a8 b8 c8 d8 cv).toArray (by rfl) (by rfl) HTH.out no_info (noL_one _ _ _ _ _) ?_)
 exact bodyPost_ret (results_mid Tryz.results23 _ _ (w.heap.size+1+1+1) (noL a8 b8 c8 d8 cv) _ rfl HRR.out Tryz.underlying44 rfl no_info) rfl (And.intro (by rw [HX.out]; exact ⟨a8,b8,c8,d8,rfl,HOW.out⟩) RB.out)
end Go.Proofs.YtcckaeppiamebaaGreatDoor
