import Derived.Test.YtdkepkaflielhaaGreatDoorSz
import Derived.Test.YtdkepkaflielhaaGreatDoorAb
import Derived.Test.YtdkepkaflielhaaGreatDoorUni
import Derived.Test.YtdkepkaflielhaaGreatDoorSt
import Derived.Test.YtdkepkaflielhaaGreatDoorSNat1
import Derived.Test.YtdkepkaflielhaaGreatDoorSGo9
import Derived.Test.YtdkepkaflielhaaGreatDoorSBibR
import Derived.Test.YtdkepkaflielhaaGreatDoorSPiece
import Derived.Test.YtdkepkaflielhaaGreatDoorSV4
set_option linter.unusedVariables false
set_option linter.unusedSimpArgs false
set_option maxRecDepth 100000
set_option maxHeartbeats 8000000
namespace Go.Proofs.YtdkepkaflielhaaGreatDoor
open Go.RowKit Go.PlainAid
def IsBv (base:Nat) (o:Bo):Value→World→Prop:=fun v w=>∃ a b ca cb,v=boC a b ca cb o∧BbOwn base w a b o.bib
theorem stable_isBv (base:Nat) (o:Bo):Stable (IsBv base o):=fun v w w' ⟨a,b,ca,cb,h1,h2⟩ hb=>⟨a,b,ca,cb,h1,h2.kept hb⟩
theorem sp9Ok_any (pa:Option Addr) (pc:Nat) (p:Pl) (ba bo:Option Addr) (ca cb:Nat) (x:Bb) (q:P4) (now:Int) (w:World) (hlp:p.addrs.length≤1048576) (hpc:p.addrs.length≤pc) (hsz:∀ s∈p.addrs,s.size≤1048576) (hl1:x.binds.length≤1048576) (hl2:x.sess.length≤1048576) (q1:q.src.size≤1048576) (q2:q.dst.size≤1048576) (q3:q.opts.size≤1048576) (q4:q.data.size≤1048576) (hp:SlIs strL1 1 w pa p.addrs) (hx:BbIs w ba bo x) :
  Cb 28 #[plC pa pc p,bbC ba bo ca cb x,p4C q,iV now] w (iV (natFt p x q now)):=by
 have HBR:Hid (∀ W,Below w.z w W→Cb 13 #[plC pa pc p,bbC ba bo ca cb x] W (.bool (bibOk p x))):=fun W hW=>specBib_any p x pa pc ba bo ca cb W hlp hpc hsz hl1 hl2 (hp.below hW) (hx.below hW)
 have HV4:Hid (∀ W,Cb 14 #[p4C q] W (.bool (v4Ok q))):=fun W=>specV4Right_any q W q1 q2 q3 q4
 have HTM:Hid (∀ W,Cw 62 #[iV now] W (.bool (isTime now))):=fun W=>spTime_any now W
 have HV:Hid (natFt p x q now=if (bibOk p x&&v4Ok q&&isTime now)=false then 1 else if (q.more||decide (q.off≠0))=true then 10 else 0):=rfl;generalize natFt p x q now=ans at *;generalize bibOk p x=b1 at *;generalize v4Ok q=b2 at *;generalize isTime now=b3 at *;obtain ⟨tos,id,whole,more,off,ttl,proto,src,dst,opts,data⟩:=q;clear hp hx hsz;unfold plC bbC p4C at *;dsimp only at *;have hun:undef=Value.tuple #[]:=rfl;have HS0:=bx3 w (PlV pa pc p) 27 (BbV ba ca bo cb x) 31 (P4R tos id whole more off ttl proto src dst opts data) 33 (by simp) (by simp) (by simp)
 skip;go_enter Tryz.func28,Tryz.ntmps28
 go_upto_region 1 with fail
 generalize World.alloc _ _=W0 at *;have HHk:=HS0.out.at mE0;obtain ⟨k0,k1,k2,k3,k4,k5,k6,k7,k8,k9⟩:=HHk.c10;clear HHk;have HHl:=HS0.out.at mE1;obtain ⟨l0,l1⟩:=HHl.c2;clear HHl;go_wp2_with fail
 refine (HBR.out _ HS0.out.b).mono ?_;rintro e W1 ⟨rfl,r1⟩;have S1:Hid _:=HS0.out.kept r1;clear r1 HS0 k0 k1 k2 k3 k4 k5 k6 k7 k8 k9 l0 l1
 cases b1 with
 | false =>
  have HFB:Hid _:=S1.out.b;go_wp2_with fail
  go_ret;exact ⟨ret_int (by rw [HV.out]; rfl),HFB.out⟩
 | true =>
 have HHk:=S1.out.at mE2;obtain ⟨k0,k1,k2,k3,k4,k5,k6,k7,k8,k9,k10⟩:=HHk.c11;clear HHk;go_wp2_with fail
 refine (HV4.out _).mono ?_;rintro e W2 ⟨rfl,r2⟩;have S2:Hid _:=S1.out.kept r2;clear r2 S1 k0 k1 k2 k3 k4 k5 k6 k7 k8 k9 k10
 cases b2 with
 | false =>
  have HFB:Hid _:=S2.out.b;go_wp2_with fail
  go_ret;exact ⟨ret_int (by rw [HV.out]; rfl),HFB.out⟩
 | true =>
 go_wp2_with fail
 refine (HTM.out _).mono ?_;rintro e W2 ⟨rfl,rfl⟩
 cases b3 with
 | false =>
  have HFB:Hid _:=S2.out.b;go_wp2_with fail
  go_ret;exact ⟨ret_int (by rw [HV.out]; rfl),HFB.out⟩
 | true =>
 have HHk:=S2.out.at mE2;obtain ⟨k0,k1,k2,k3,k4,k5,k6,k7,k8,k9,k10⟩:=HHk.c11;clear HHk
 cases more with
 | true =>
  have HFB:Hid _:=S2.out.b;go_wp2_with fail
  go_ret;exact ⟨ret_int (by rw [HV.out]; rfl),HFB.out⟩
 | false =>
 by_cases ho:off=0
 case pos =>
  have d0:(off != 0)=false:=by simp [ho]
  have HFB:Hid _:=S2.out.b;go_wp2_with fail
  go_ret;exact ⟨ret_int (by rw [HV.out]; simp [ho]),HFB.out⟩
 have d0:(off != 0)=true:=by simp [ho]
 have HFB:Hid _:=S2.out.b;go_wp2_with fail
 go_ret;exact ⟨ret_int (by rw [HV.out]; simp [ho]),HFB.out⟩
theorem sp9Come_any (pa:Option Addr) (pc:Nat) (p:Pl) (ba bo:Option Addr) (ca cb:Nat) (x:Bb) (f:Fl) (t:ByteArray) (now:Int) (w:World) (hpo:poolOk p=true) (hnow:isTime now=true) (hfs:f.dst.size≤1048576) (h0:0≤f.dp) (h1:f.dp≤65535) (ht:t.size≤1048576) (h20:f.proto=6→20≤t.size) (hl1:x.binds.length≤1048576) (hl2:x.sess.length≤1048576) (hp:SlIs strL1 1 w pa p.addrs) (hx:BbIs w ba bo x) :
  Calls Tryz.prog 77 #[plC pa pc p,bbC ba bo ca cb x,fwC f,.string t,iV now] w fun e w'=>BoRet w.heap.size (goV p x (comeT f t) now) e w'∧Below w.heap.size w w':=by
 have HGO:Hid (∀ W,Below w.z w W→Calls Tryz.prog 114 #[plC pa pc p,bbC ba bo ca cb x,.agg (TcR f.proto false f.dst f.dp f.src (peerV f.proto f.sp) (flagV f.proto t)).toArray,iV now] W fun e w'=>BoRet W.heap.size (goV p x (comeT f t) now) e w'∧Below W.heap.size W w'):=fun W hW=>spGo_any pa pc p ba bo ca cb x (comeT f t) now W hpo hnow hfs h0 h1 hl1 hl2 (hp.below hW) (hx.below hW)
 have HPO:Hid (∀ W,Cb 116 #[fwC f,iV f.sp] W (iV (peerV f.proto f.sp))):=fun W=>sp9Port_any f _ W
 have HFL:Hid (∀ W,Cb 117 #[fwC f,.string t] W (iV (flagV f.proto t))):=fun W=>sp9Flags_any f t W ht h20
 generalize goV p x (comeT f t) now=nv at *;generalize peerV f.proto f.sp=pv at *;generalize flagV f.proto t=fv at *;obtain ⟨proto,src,dst,sp,dp⟩:=f;dsimp only at *;clear hp hx hpo hnow h20;unfold plC bbC fwC at *;dsimp only at *;have e0:HoldsL ((aW (aW (aW w (PlV pa pc p) 27) (BbV ba ca bo cb x) 31) (FlR proto src dst sp dp) 43).alloc (.cells Z8V.toArray 104)) (w.z) (PlV pa pc p):=by
  have h:=HoldsL.new w (PlV pa pc p) 27;try simp only [World.size_alloc] at h
  exact (((h.alloc _).alloc _).alloc _)
 have e1:HoldsL ((aW (aW (aW w (PlV pa pc p) 27) (BbV ba ca bo cb x) 31) (FlR proto src dst sp dp) 43).alloc (.cells Z8V.toArray 104)) (w.z+1) (BbV ba ca bo cb x):=by
  have h:=HoldsL.new (w.alloc (.cells (PlV pa pc p).toArray 27)) (BbV ba ca bo cb x) 31;try simp only [World.size_alloc] at h
  exact ((h.alloc _).alloc _)
 have e2:HoldsL ((aW (aW (aW w (PlV pa pc p) 27) (BbV ba ca bo cb x) 31) (FlR proto src dst sp dp) 43).alloc (.cells Z8V.toArray 104)) (w.z+1+1) (FlR proto src dst sp dp):=by
  have h:=HoldsL.new ((aW w (PlV pa pc p) 27).alloc (.cells (BbV ba ca bo cb x).toArray 31)) (FlR proto src dst sp dp) 43;try simp only [World.size_alloc] at h
  exact (h.alloc _)
 have e3:HoldsL ((aW (aW (aW w (PlV pa pc p) 27) (BbV ba ca bo cb x) 31) (FlR proto src dst sp dp) 43).alloc (.cells Z8V.toArray 104)) (w.z+1+1+1) Z8V:=by
  have h:=HoldsL.new ((aW (aW w (PlV pa pc p) 27) (BbV ba ca bo cb x) 31).alloc (.cells (FlR proto src dst sp dp).toArray 43)) Z8V 104;try simp only [World.size_alloc] at h
  exact h
 have HS0:Hid (Bxs w [(w.z,(PlV pa pc p)),(w.z+1,(BbV ba ca bo cb x)),(w.z+1+1,(FlR proto src dst sp dp)),(w.z+1+1+1,Z8V)] ((aW (aW (aW w (PlV pa pc p) 27) (BbV ba ca bo cb x) 31) (FlR proto src dst sp dp) 43).alloc (.cells Z8V.toArray 104))):=by
  refine ⟨fun e he=>?_,((((bR.alloc (by (try simp only [World.size_alloc]); omega) _).alloc (by (try simp only [World.size_alloc]); omega) _).alloc (by (try simp only [World.size_alloc]); omega) _).alloc (by (try simp only [World.size_alloc]); omega) _),fun e he=>?_⟩
  ·simp only [List.mem_cons,List.not_mem_nil,or_false] at he;rcases he with rfl | rfl | rfl | rfl
   ·exact e0
   ·exact e1
   ·exact e2
   ·exact e3
  ·simp only [List.mem_cons,List.not_mem_nil,or_false] at he;rcases he with rfl | rfl | rfl | rfl<;>simp
 clear e0 e1 e2 e3;have hRw:w.z≤w.z+1+1+1:=by omega
 go_enter Tryz.func77,Tryz.ntmps77
 go_upto_region 1 with fail
 generalize World.alloc _ _=W0 at *;have hR0:w.z+1+1+1 < W0.heap.size:=(HS0.out.k _ mE3).lt (by simp);have HCP:Hid (∀ wy,Below W0.drew.heap.size W0.drew wy→_):=fun wy hy=>HS0.out.kept (bR.drew.trans hy)
 have hRl:w.z+1+1+1 < W0.drew.heap.size:=hR0;have hwl:w.z≤W0.drew.heap.size:=HS0.out.b.size;clear HS0 hR0;refine wp_region_growV [11,12,13,14,15,16,17,18,19,20,21,22,23,24,25,26,27,28,29,30] (by kernel_rfl) (by kernel_rfl) ?_;iterate 16 (apply GChV.u rfl;(·intro K' a wy ho hd hb hK;simp [rAt,IsV,slot,Region.binds] at ho hd;have hst:=HCP.out wy hb;have kC:=(hst.at mE0).c10;have kC:=(hst.at mE1).c2;have kC:=(hst.at mE2).c5;clear hst;go_simp;first|((try go_bits);exact hK _ _ rfl bQ)|(refine (HPO.out wy).mono ?_;rintro e wz ⟨rfl,hz⟩;exact hK _ _ rfl hz));dsimp only [nA,cA])
 iterate 3 (apply GChV.u rfl;(·intro K' a wy ho hd hb hK;simp [rAt,IsV,slot,Region.binds] at ho hd;go_simp;first|((try go_bits);exact hK _ _ rfl bQ)|(refine (HFL.out wy).mono ?_;rintro e wz ⟨rfl,hz⟩;exact hK _ _ rfl hz));dsimp only [nA,cA])
 refine GChV.rel (n:=19) (IsBv W0.drew.heap.size nv) (stable_isBv _ _) [_,_,_,_,_,_,_,_,_,_,_,_,_,_,_,_,_,_,_,IsBv W0.drew.heap.size nv] rfl rfl ?_ ?_
 ·intro K' a wy ho hd hb hK;rw [wN rfl];have q0:=hd ⟨0,.data⟩ (by simp) rfl;have q1:=hd ⟨1,.data⟩ (by simp) rfl;have q17:=hd ⟨17,.data⟩ (by simp) rfl;have q18:=hd ⟨18,.data⟩ (by simp) rfl;simp [rAt,IsV,slot] at q0 q1 q17 q18;clear hd ho;go_simp;have hst:=HCP.out wy hb;refine (HGO.out wy hst.b).mono ?_;rintro e wz ⟨⟨a9,b9,c9,d9,rfl,hown⟩,hz⟩;exact hK _ _ ⟨a9,b9,c9,d9,rfl,⟨hown.bd.down hb.size,hown.ss.down hb.size,hown.ne⟩⟩ hz
 intro X wz hR hz;obtain ⟨x0,x1,x2,x3,x4,x5,x6,x7,x8,x9,x10,x11,x12,x13,x14,x15,x16,x17,x18,x19,-⟩:=hR;obtain ⟨a9,b9,c9,d9,e9,own9⟩:=x19;unfold boC at e9;simp only [IsV] at x0 x1 x2 x3 x4 x5 x6 x7 x8 x9 x10 x11 x12 x13 x14 x15 x16 x17 x18;simp only [putsFrom,x0,x1,x2,x3,x4,x5,x6,x7,x8,x9,x10,x11,x12,x13,x14,x15,x16,x17,x18,e9];clear x0 x1 x2 x3 x4 x5 x6 x7 x8 x9 x10 x11 x12 x13 x14 x15 x16 x17 x18;have V7:Hid (Bxs w [(w.z,(PlV pa pc p)),(w.z+1,(BbV ba ca bo cb x)),(w.z+1+1,(FlR proto src dst sp dp)),(w.z+1+1+1,Z8V)] wz):=HCP.out wz hz;clear hz HCP;have HHz:=V7.out.at mE3;obtain ⟨z0,z1,z2,z3,z4,z5,z6,z7⟩:=HHz.c8;obtain ⟨zf0,zf1,zf2,zf3,zf4,zf5,zf6,zf7⟩:=HHz.f8;obtain ⟨HRR,RB⟩:=st8 HHz V7.out.b hRw (.slice a9 nv.bib.binds.length c9) (.slice b9 nv.bib.sess.length d9) (iV nv.bind.proto) (.string nv.bind.inn) (iV nv.bind.inPort) (.string nv.bind.out) (iV nv.bind.outPort) (iV nv.code);clear HHz;have HOW:Hid (BbOwn w.z ((sW (sW (sW (sW (sW (sW (sW wz (w.z+1+1+1) 0 (.slice a9 nv.bib.binds.length c9)) (w.z+1+1+1) 1 (.slice b9 nv.bib.sess.length d9)) (w.z+1+1+1) 2 (iV nv.bind.proto)) (w.z+1+1+1) 3 (.string nv.bind.inn)) (w.z+1+1+1) 4 (iV nv.bind.inPort)) (w.z+1+1+1) 5 (.string nv.bind.out)) (w.z+1+1+1) 6 (iV nv.bind.outPort)).setCell ⟨w.z+1+1+1,7,none⟩ (iV nv.code)) a9 b9 nv.bib):=⟨(own9.bd.grown (grown_set (grown_set (grown_set (grown_set (grown_set (grown_set (grown_set (grown_set (World.grownBy.refl _ _) _) _) _) _) _) _) _) _) hRl).down hwl,(own9.ss.grown (grown_set (grown_set (grown_set (grown_set (grown_set (grown_set (grown_set (grown_set (World.grownBy.refl _ _) _) _) _) _) _) _) _) _) hRl).down hwl,own9.ne⟩
 clear own9 V7 HGO;intro K10 hK10;go_simp;refine hK10 _ _ ?_;simp only [wpSeq];go_wp2_with fail
 exact bodyPost_ret (results_mid Tryz.results77 _ _ _ _ _ rfl HRR.out Tryz.underlying104 rfl (show (Tryz.prog.info? 104).map (·.size)=some 8 by kernel_rfl)) rfl (And.intro ⟨a9,b9,c9,d9,rfl,HOW.out⟩ RB.out)
end Go.Proofs.YtdkepkaflielhaaGreatDoor
