import Derived.Test.YtdkepkaflielhaaGreatDoorMerged29
set_option linter.unusedVariables false
set_option linter.unusedSimpArgs false
set_option maxRecDepth 100000
set_option maxHeartbeats 8000000
namespace Go.Proofs.YtdkepkaflielhaaGreatDoor
open Go.RowKit Go.PlainAid
def IsBv (base:Nat) (o:Bo):Value→World→Prop:=fun v w=>∃ a b ca cb,v=boC a b ca cb o∧BbOwn base w a b o.bib
theorem stable_isBv (base:Nat) (o:Bo):Stable (IsBv base o):=fun v w w' ⟨a,b,ca,cb,h1,h2⟩ hb=>⟨a,b,ca,cb,h1,h2.kept hb⟩
theorem sp9Ok_any (pa:Option Addr) (pc:Nat) (p:Pl) (ba bo:Option Addr) (ca cb:Nat) (x:Bb) (q:P4) (now:Int) (w:World) (hlp:p.addrs.length≤1048576) (hpc:p.addrs.length≤pc) (hsz:∀ s∈p.addrs,s.size≤1048576) (hl1:x.binds.length≤1048576) (hl2:x.sess.length≤1048576) (q1:q.src.size≤1048576) (q2:q.dst.size≤1048576) (q3:q.opts.size≤1048576) (q4:q.data.size≤1048576) (hp:SlIs strL1 1 w pa p.addrs) (hx:BbIs w ba bo x) :
  Cb 28 #[plC pa pc p,bbC ba bo ca cb x,p4C q,iV now] w (iV (natFt p x q now)):=by
 have HBR:Hid (∀ W,Below w.heap.size w W→Cb 13 #[plC pa pc p,bbC ba bo ca cb x] W (.bool (bibOk p x))):=fun W hW=>specBib_any p x pa pc ba bo ca cb W hlp hpc hsz hl1 hl2 (hp.below hW) (hx.below hW)
 have HV4:Hid (∀ W,Cb 14 #[p4C q] W (.bool (v4Ok q))):=fun W=>specV4Right_any q W q1 q2 q3 q4
 have HTM:Hid (∀ W,Cw 62 #[iV now] W (.bool (isTime now))):=fun W=>spTime_any now W
 have HV:Hid (natFt p x q now=if (bibOk p x&&v4Ok q&&isTime now)=false then 1 else if (q.more||decide (q.off≠0))=true then 10 else 0):=rfl;generalize natFt p x q now=ans at *;generalize bibOk p x=b1 at *;generalize v4Ok q=b2 at *;generalize isTime now=b3 at *;obtain ⟨tos,id,whole,more,off,ttl,proto,src,dst,opts,data⟩:=q;clear hp hx hsz;unfold plC bbC p4C at *;dsimp only at *;have hun:undef=Value.tuple #[]:=rfl;have HS0:=bx3 w (PlV pa pc p) 27 (BbV ba ca bo cb x) 31 (P4R tos id whole more off ttl proto src dst opts data) 33 (by simp) (by simp) (by simp)
 skip;go_enter Tryz.func28,Tryz.ntmps28
 go_upto_region 1 with fail
 generalize World.alloc _ _=W0 at *;have HHk:=HS0.out.at mE0;obtain ⟨k0,k1,k2,k3,k4,k5,k6,k7,k8,k9⟩:=HHk.c10;clear HHk;have HHl:=HS0.out.at mE1;obtain ⟨l0,l1⟩:=HHl.c2;clear HHl;go_wp2_with fail
 refine (HBR.out _ HS0.out.b).mono ?_;rintro e W1 ⟨rfl,r1⟩;have S1:Hid _:=HS0.out.kept r1;clear r1 HS0 k0 k1 k2 k3 k4 k5 k6 k7 k8 k9 l0 l1
 cases b1 with
 | false =>
  have HFB:Hid _:=S1.out.b;go_wp2_with fail
  go_ret;exact ⟨ret_int (by rw [HV.out]; rfl),HFB.out⟩
 | true =>
 have HHk:=S1.out.at mE2;obtain ⟨k0,k1,k2,k3,k4,k5,k6,k7,k8,k9,k10⟩:=HHk.c11;clear HHk;go_wp2_with fail
 refine (HV4.out _).mono ?_;rintro e W2 ⟨rfl,r2⟩;have S2:Hid _:=S1.out.kept r2;clear r2 S1 k0 k1 k2 k3 k4 k5 k6 k7 k8 k9 k10
 cases b2 with
 | false =>
  have HFB:Hid _:=S2.out.b;go_wp2_with fail
  go_ret;exact ⟨ret_int (by rw [HV.out]; rfl),HFB.out⟩
 | true =>
 go_wp2_with fail
 refine (HTM.out _).mono ?_;rintro e W2 ⟨rfl,rfl⟩
 cases b3 with
 | false =>
  have HFB:Hid _:=S2.out.b;go_wp2_with fail
  go_ret;exact ⟨ret_int (by rw [HV.out]; rfl),HFB.out⟩
 | true =>
 have HHk:=S2.out.at mE2;obtain ⟨k0,k1,k2,k3,k4,k5,k6,k7,k8,k9,k10⟩:=HHk.c11;clear HHk
 cases more with
 | true =>
  have HFB:Hid _:=S2.out.b;go_wp2_with fail
  go_ret;exact ⟨ret_int (by rw [HV.out]; rfl),HFB.out⟩
 | false =>
 by_cases ho:off=0
 case pos =>
  have d0:(off != 0)=false:=by simp [ho]
  have HFB:Hid _:=S2.out.b;go_wp2_with fail
  go_ret;exact ⟨ret_int (by rw [HV.out]; simp [ho]),HFB.out⟩
 have d0:(off != 0)=true:=by simp [ho]
 have HFB:Hid _:=S2.out.b;go_wp2_with fail
 go_ret;exact ⟨ret_int (by rw [HV.out]; simp [ho]),HFB.out⟩
theorem sp9Come_any (pa:Option Addr) (pc:Nat) (p:Pl) (ba bo:Option Addr) (ca cb:Nat) (x:Bb) (f:Fl) (t:ByteArray) (now:Int) (w:World) (hpo:poolOk p=true) (hnow:isTime now=true) (hfs:f.dst.size≤1048576) (h0:0≤f.dp) (h1:f.dp≤65535) (ht:t.size≤1048576) (h20:f.proto=6→20≤t.size) (hl1:x.binds.length≤1048576) (hl2:x.sess.length≤1048576) (hp:SlIs strL1 1 w pa p.addrs) (hx:BbIs w ba bo x) :
  Calls Tryz.prog 77 #[plC pa pc p,bbC ba bo ca cb x,fwC f,.string t,iV now] w fun e w'=>BoRet w.heap.size (goV p x (comeT f t) now) e w'∧Below w.heap.size w w':=by
 have HGO:Hid (∀ W,Below w.heap.size w W→Calls Tryz.prog 114 #[plC pa pc p,bbC ba bo ca cb x,.agg (TcR f.proto false f.dst f.dp f.src (peerV f.proto f.sp) (flagV f.proto t)).toArray,iV now] W fun e w'=>BoRet W.heap.size (goV p x (comeT f t) now) e w'∧Below W.heap.size W w'):=fun W hW=>spGo_any pa pc p ba bo ca cb x (comeT f t) now W hpo hnow hfs h0 h1 hl1 hl2 (hp.below hW) (hx.below hW)
 have HPO:Hid (∀ W,Cb 116 #[fwC f,iV f.sp] W (iV (peerV f.proto f.sp))):=fun W=>sp9Port_any f _ W
 have HFL:Hid (∀ W,Cb 117 #[fwC f,.string t] W (iV (flagV f.proto t))):=fun W=>sp9Flags_any f t W ht h20
 generalize goV p x (comeT f t) now=nv at *;generalize peerV f.proto f.sp=pv at *;generalize flagV f.proto t=fv at *;obtain ⟨proto,src,dst,sp,dp⟩:=f;dsimp only at *;clear hp hx hpo hnow h20;unfold plC bbC fwC at *;dsimp only at *;have e0:HoldsL ((aW (aW (aW w (PlV pa pc p) 27) (BbV ba ca bo cb x) 31) (FlR proto src dst sp dp) 43).alloc (.cells Z8V.toArray 104)) (w.heap.size) (PlV pa pc p):=by
  have h:=HoldsL.new w (PlV pa pc p) 27;try simp only [World.size_alloc] at h
  exact (((h.alloc _).alloc _).alloc _)
 have e1:HoldsL ((aW (aW (aW w (PlV pa pc p) 27) (BbV ba ca bo cb x) 31) (FlR proto src dst sp dp) 43).alloc (.cells Z8V.toArray 104)) (w.heap.size+1) (BbV ba ca bo cb x):=by
  have h:=HoldsL.new (w.alloc (.cells (PlV pa pc p).toArray 27)) (BbV ba ca bo cb x) 31;try simp only [World.size_alloc] at h
  exact ((h.alloc _).alloc _)
 have e2:HoldsL ((aW (aW (aW w (PlV pa pc p) 27) (BbV ba ca bo cb x) 31) (FlR proto src dst sp dp) 43).alloc (.cells Z8V.toArray 104)) (w.heap.size+1+1) (FlR proto src dst sp dp):=by
  have h:=HoldsL.new ((aW w (PlV pa pc p) 27).alloc (.cells (BbV ba ca bo cb x).toArray 31)) (FlR proto src dst sp dp) 43;try simp only [World.size_alloc] at h
  exact (h.alloc _)
 have e3:HoldsL ((aW (aW (aW w (PlV pa pc p) 27) (BbV ba ca bo cb x) 31) (FlR proto src dst sp dp) 43).alloc (.cells Z8V.toArray 104)) (w.heap.size+1+1+1) Z8V:=by
  have h:=HoldsL.new ((aW (aW w (PlV pa pc p) 27) (BbV ba ca bo cb x) 31).alloc (.cells (FlR proto src dst sp dp).toArray 43)) Z8V 104;try simp only [World.size_alloc] at h
  exact h
 have HS0:Hid (Bxs w [(w.heap.size,(PlV pa pc p)),(w.heap.size+1,(BbV ba ca bo cb x)),(w.heap.size+1+1,(FlR proto src dst sp dp)),(w.heap.size+1+1+1,Z8V)] ((aW (aW (aW w (PlV pa pc p) 27) (BbV ba ca bo cb x) 31) (FlR proto src dst sp dp) 43).alloc (.cells Z8V.toArray 104))):=by
  refine ⟨fun e he=>?_,((((bR.alloc (by (try simp only [World.size_alloc]); omega) _).alloc (by (try simp only [World.size_alloc]); omega) _).alloc (by (try simp only [World.size_alloc]); omega) _).alloc (by (try simp only [World.size_alloc]); omega) _),fun e he=>?_⟩
  ·simp only [List.mem_cons,List.not_mem_nil,or_false] at he;rcases he with rfl | rfl | rfl | rfl
   ·exact e0
   ·exact e1
   ·exact e2
   ·exact e3
  ·simp only [List.mem_cons,List.not_mem_nil,or_false] at he;rcases he with rfl | rfl | rfl | rfl<;>simp
 clear e0 e1 e2 e3;have hRw:w.heap.size≤w.heap.size+1+1+1:=by omega
 go_enter Tryz.func77,Tryz.ntmps77
 go_upto_region 1 with fail
 generalize World.alloc _ _=W0 at *;have hR0:w.heap.size+1+1+1 < W0.heap.size:=(HS0.out.k _ mE3).lt (by simp);have HCP:Hid (∀ wy,Below W0.drew.heap.size W0.drew wy→_):=fun wy hy=>HS0.out.kept (bR.drew.trans hy)
 have hRl:w.heap.size+1+1+1 < W0.drew.heap.size:=hR0;have hwl:w.heap.size≤W0.drew.heap.size:=HS0.out.b.size;clear HS0 hR0;refine wp_region_growV [11,12,13,14,15,16,17,18,19,20,21,22,23,24,25,26,27,28,29,30] (by kernel_rfl) (by kernel_rfl) ?_;iterate 16 (apply GChV.u rfl;(·intro K' a wy ho hd hb hK;simp [rAt,IsV,slot,Region.binds] at ho hd;have hst:=HCP.out wy hb;have kC:=(hst.at mE0).c10;have kC:=(hst.at mE1).c2;have kC:=(hst.at mE2).c5;clear hst;go_simp;first|((try go_bits);exact hK _ _ rfl bQ)|(refine (HPO.out wy).mono ?_;rintro e wz ⟨rfl,hz⟩;exact hK _ _ rfl hz));dsimp only [nA,cA])
 iterate 3 (apply GChV.u rfl;(·intro K' a wy ho hd hb hK;simp [rAt,IsV,slot,Region.binds] at ho hd;go_simp;first|((try go_bits);exact hK _ _ rfl bQ)|(refine (HFL.out wy).mono ?_;rintro e wz ⟨rfl,hz⟩;exact hK _ _ rfl hz));dsimp only [nA,cA])
 refine GChV.rel (n:=19) (IsBv W0.drew.heap.size nv) (stable_isBv _ _) [_,_,_,_,_,_,_,_,_,_,_,_,_,_,_,_,_,_,_,IsBv W0.drew.heap.size nv] rfl rfl ?_ ?_
 ·intro K' a wy ho hd hb hK;rw [wN rfl];have q0:=hd ⟨0,.data⟩ (by simp) rfl;have q1:=hd ⟨1,.data⟩ (by simp) rfl;have q17:=hd ⟨17,.data⟩ (by simp) rfl;have q18:=hd ⟨18,.data⟩ (by simp) rfl;simp [rAt,IsV,slot] at q0 q1 q17 q18;clear hd ho;go_simp;have hst:=HCP.out wy hb;refine (HGO.out wy hst.b).mono ?_;rintro e wz ⟨⟨a9,b9,c9,d9,rfl,hown⟩,hz⟩;exact hK _ _ ⟨a9,b9,c9,d9,rfl,⟨hown.bd.down hb.size,hown.ss.down hb.size,hown.ne⟩⟩ hz
 intro X wz hR hz;obtain ⟨x0,x1,x2,x3,x4,x5,x6,x7,x8,x9,x10,x11,x12,x13,x14,x15,x16,x17,x18,x19,-⟩:=hR;obtain ⟨a9,b9,c9,d9,e9,own9⟩:=x19;unfold boC at e9;simp only [IsV] at x0 x1 x2 x3 x4 x5 x6 x7 x8 x9 x10 x11 x12 x13 x14 x15 x16 x17 x18;simp only [putsFrom,x0,x1,x2,x3,x4,x5,x6,x7,x8,x9,x10,x11,x12,x13,x14,x15,x16,x17,x18,e9];clear x0 x1 x2 x3 x4 x5 x6 x7 x8 x9 x10 x11 x12 x13 x14 x15 x16 x17 x18;have V7:Hid (Bxs w [(w.heap.size,(PlV pa pc p)),(w.heap.size+1,(BbV ba ca bo cb x)),(w.heap.size+1+1,(FlR proto src dst sp dp)),(w.heap.size+1+1+1,Z8V)] wz):=HCP.out wz hz;clear hz HCP;have HHz:=V7.out.at mE3;obtain ⟨z0,z1,z2,z3,z4,z5,z6,z7⟩:=HHz.c8;obtain ⟨zf0,zf1,zf2,zf3,zf4,zf5,zf6,zf7⟩:=HHz.f8;obtain ⟨HRR,RB⟩:=st8 HHz V7.out.b hRw (.slice a9 nv.bib.binds.length c9) (.slice b9 nv.bib.sess.length d9) (iV nv.bind.proto) (.string nv.bind.inn) (iV nv.bind.inPort) (.string nv.bind.out) (iV nv.bind.outPort) (iV nv.code);clear HHz;have HOW:Hid (BbOwn w.heap.size ((sW (sW (sW (sW (sW (sW (sW wz (w.heap.size+1+1+1) 0 (.slice a9 nv.bib.binds.length c9)) (w.heap.size+1+1+1) 1 (.slice b9 nv.bib.sess.length d9)) (w.heap.size+1+1+1) 2 (iV nv.bind.proto)) (w.heap.size+1+1+1) 3 (.string nv.bind.inn)) (w.heap.size+1+1+1) 4 (iV nv.bind.inPort)) (w.heap.size+1+1+1) 5 (.string nv.bind.out)) (w.heap.size+1+1+1) 6 (iV nv.bind.outPort)).setCell ⟨w.heap.size+1+1+1,7,none⟩ (iV nv.code)) a9 b9 nv.bib):=⟨(own9.bd.grown (grown_set (grown_set (grown_set (grown_set (grown_set (grown_set (grown_set (grown_set (World.grownBy.refl _ _) _) _) _) _) _) _) _) _) hRl).down hwl,(own9.ss.grown (grown_set (grown_set (grown_set (grown_set (grown_set (grown_set (grown_set (grown_set (World.grownBy.refl _ _) _) _) _) _) _) _) _) _) hRl).down hwl,own9.ne⟩
 clear own9 V7 HGO;intro K10 hK10;go_simp;refine hK10 _ _ ?_;simp only [wpSeq];go_wp2_with fail
 exact bodyPost_ret (results_mid Tryz.results77 _ _ _ _ _ rfl HRR.out Tryz.underlying104 rfl (show (Tryz.prog.info? 104).map (·.size)=some 8 by kernel_rfl)) rfl (And.intro ⟨a9,b9,c9,d9,rfl,HOW.out⟩ RB.out)
theorem HoldsL.c25 {w:World} {B:Nat} {v0 v1 v2 v3 v4 v5 v6 v7 v8 v9 v10 v11 v12 v13 v14 v15 v16 v17 v18 v19 v20 v21 v22 v23 v24:Value} {l:List Value} (h:HoldsL w B (v0::v1::v2::v3::v4::v5::v6::v7::v8::v9::v10::v11::v12::v13::v14::v15::v16::v17::v18::v19::v20::v21::v22::v23::v24::l)):w.cell? ⟨B,0,none⟩=some v0∧w.cell? ⟨B,1,none⟩=some v1∧w.cell? ⟨B,2,none⟩=some v2∧w.cell? ⟨B,3,none⟩=some v3∧w.cell? ⟨B,4,none⟩=some v4∧w.cell? ⟨B,5,none⟩=some v5∧w.cell? ⟨B,6,none⟩=some v6∧w.cell? ⟨B,7,none⟩=some v7∧w.cell? ⟨B,8,none⟩=some v8∧w.cell? ⟨B,9,none⟩=some v9∧w.cell? ⟨B,10,none⟩=some v10∧w.cell? ⟨B,11,none⟩=some v11∧w.cell? ⟨B,12,none⟩=some v12∧w.cell? ⟨B,13,none⟩=some v13∧w.cell? ⟨B,14,none⟩=some v14∧w.cell? ⟨B,15,none⟩=some v15∧w.cell? ⟨B,16,none⟩=some v16∧w.cell? ⟨B,17,none⟩=some v17∧w.cell? ⟨B,18,none⟩=some v18∧w.cell? ⟨B,19,none⟩=some v19∧w.cell? ⟨B,20,none⟩=some v20∧w.cell? ⟨B,21,none⟩=some v21∧w.cell? ⟨B,22,none⟩=some v22∧w.cell? ⟨B,23,none⟩=some v23∧w.cell? ⟨B,24,none⟩=some v24:=⟨h.cell rfl,h.cell rfl,h.cell rfl,h.cell rfl,h.cell rfl,h.cell rfl,h.cell rfl,h.cell rfl,h.cell rfl,h.cell rfl,h.cell rfl,h.cell rfl,h.cell rfl,h.cell rfl,h.cell rfl,h.cell rfl,h.cell rfl,h.cell rfl,h.cell rfl,h.cell rfl,h.cell rfl,h.cell rfl,h.cell rfl,h.cell rfl,h.cell rfl⟩
def stor (b:Nat):World→Nat→List Value→World
 | W,_,[]=>W
 | W,j,v::l=>stor b (W.setCell ⟨b,j,none⟩ v) (j+1) l
theorem HoldsL.storAt {b:Nat}:∀ (vs:List Value) {W:World} {pre olds:List Value},HoldsL W b (pre++olds)→olds.length=vs.length→HoldsL (stor b W pre.length vs) b (pre++vs)
 | [],W,pre,[],h,_=>h
 | [],W,pre,_::_,h,hl=>by simp at hl
 | v::vs,W,pre,[],h,hl=>by simp at hl
 | v::vs,W,pre,o::os,h,hl=>by
  have h2:=h.set pre.length v;rw [List.set_append_right _ _ lR,Nat.sub_self,List.set_cons_zero] at h2;have h3:HoldsL (W.setCell ⟨b,pre.length,none⟩ v) b ((pre++[v])++os):=by rw [List.append_assoc]; exact h2
  have:=HoldsL.storAt vs h3 (by simpa using hl);rw [List.length_append,List.append_assoc] at this;exact this
theorem HoldsL.stor {b:Nat} {W:World} {olds:List Value} (h:HoldsL W b olds) (vs:List Value) (hl:olds.length=vs.length):HoldsL (stor b W 0 vs) b vs:=HoldsL.storAt vs (pre:=[]) h hl
theorem Below.stor {n b:Nat} {w:World} (hb:n≤b):∀ (vs:List Value) {W:World} {j:Nat},Below n w W→Below n w (Go.Proofs.YtdkepkaflielhaaGreatDoor.stor b W j vs)
 | [],W,j,h=>h
 | v::vs,W,j,h=>Below.stor hb vs (h.setCell (p:=⟨b,j,none⟩) hb v)
theorem HoldsL.storOther {b c:Nat} {cs:List Value} (hne:c≠b):∀ (vs:List Value) {W:World} {j:Nat},HoldsL W c cs→HoldsL (Go.Proofs.YtdkepkaflielhaaGreatDoor.stor b W j vs) c cs
 | [],W,j,h=>h
 | v::vs,W,j,h=>HoldsL.storOther hne vs (h.setOther hne v)
theorem Bxs.stor {w W:World} {ks:List (Nat × List Value)} {b j:Nat} (h:Bxs w ks W) (hb:w.heap.size≤b) (hks:∀ e∈ks,e.1≠b) (vs:List Value):Bxs w ks (Go.Proofs.YtdkepkaflielhaaGreatDoor.stor b W j vs):=⟨fun e he=>HoldsL.storOther (hks e he) vs (h.k e he),Below.stor hb vs h.b,h.z⟩
theorem grown_stor {b:Nat}:∀ (vs:List Value) {w W:World} {j:Nat},w.grownBy W (some b)→w.grownBy (Go.Proofs.YtdkepkaflielhaaGreatDoor.stor b W j vs) (some b)
 | [],w,W,j,h=>h
 | v::vs,w,W,j,h=>grown_stor vs (grown_set h v)
theorem BbOwn.stor {base b j:Nat} {W:World} {a a':Option Addr} {y:Bb} (h:BbOwn base W a a' y) (hb:b < base) (vs:List Value):BbOwn base (Go.Proofs.YtdkepkaflielhaaGreatDoor.stor b W j vs) a a' y :=
 ⟨h.bd.grown (grown_stor vs (World.grownBy.refl _ _)) hb,h.ss.grown (grown_stor vs (World.grownBy.refl _ _)) hb,h.ne⟩
theorem BbOwn.lowN {base base':Nat} {W:World} {a a':Option Addr} {y:Bb} (h:BbOwn base W a a' y) (hb:base'≤base):BbOwn base' W a a' y:=⟨h.bd.down hb,h.ss.down hb,h.ne⟩
theorem stor_cells (b:Nat):∀ (vs:List Value) (W:World) (j:Nat),stor b W j vs=W.setCells b j vs
 | [],W,j=>rfl
 | v::vs,W,j=>by
  show stor b (W.setCell ⟨b,j,none⟩ v) (j+1) vs=_;rw [stor_cells b vs]; rfl
theorem noL_len (a b:Option Addr) (ca cb:Nat) (o:No):(noL a b ca cb o).length=25:=rfl
theorem noL_one (a b:Option Addr) (ca cb:Nat) (o:No):(noL a b ca cb o).toArray.all (·.oneCell')=true:=all_oneCell_toArray (by unfold noL; simp [Value.oneCell'])
theorem HoldsL.mid {W:World} {b:Nat} {olds vs:List Value} (h:HoldsL W b olds) (hl:olds.length=vs.length):HoldsL (W.setCells b 0 vs.toArray.toList) b vs:=by
 rw [List.toList_toArray,← stor_cells]; exact h.stor vs hl
theorem Below.mid {n b:Nat} {w W:World} (h:Below n w W) (hb:n≤b) (vs:List Value):Below n w (W.setCells b 0 vs.toArray.toList):=by
 rw [List.toList_toArray,← stor_cells]; exact Below.stor hb vs h
theorem BbOwn.mid {base b:Nat} {W:World} {a a':Option Addr} {y:Bb} (h:BbOwn base W a a' y) (hb:b < base) (vs:List Value):BbOwn base (W.setCells b 0 vs.toArray.toList) a a' y:=by
 rw [List.toList_toArray,← stor_cells]; exact h.stor hb vs
theorem noL_there {W:World} {b:Nat} {a a':Option Addr} {ca cb:Nat} {o:No} (h:HoldsL W b (noL a a' ca cb o)) (x x':Option Addr) (cx cy:Nat) (y:No):W.there b 0 (noL x x' cx cy y).toArray.size:=by
 have:=h.th;rw [noL_len] at this;exact this
theorem mid3 {n b:Nat} {w W:World} (h:HoldsL W b (noL none none 0 0 (noE 0))) (hb:Below n w W) (hn:n≤b) (a a':Option Addr) (ca cb:Nat) (o:No):Hid (W.there b 0 (noL a a' ca cb o).toArray.size)∧Hid (HoldsL (W.setCells b 0 (noL a a' ca cb o).toArray.toList) b (noL a a' ca cb o))∧Hid (Below n w (W.setCells b 0 (noL a a' ca cb o).toArray.toList)):=⟨noL_there h _ _ _ _ _,h.mid rfl,Below.mid hb hn _⟩
def NoRet (base:Nat) (o:No) (e:Ending) (w':World):Prop:=∃ a b ca cb,e=.returned (noC a b ca cb o)∧BbOwn base w' a b o.bib
theorem noRet_ill {base:Nat} {w:World} (c:Int):NoRet base (noE c) (.returned (noC none none 0 0 (noE c))) w:=⟨none,none,0,0,rfl,.inl rfl,.inl rfl,fun g h e1=>by simp at e1⟩
theorem no_info:(Tryz.prog.info? 39).map (·.size)=some 25:=by kernel_rfl
theorem sp9Ill_any (c:Int) (w:World) :
  Cb 29 #[iV c] w (noC none none 0 0 (noE c)):=by
 have H0:Hid (HoldsL (w.alloc (.cells Z25V.toArray 39)) w.heap.size (noL none none 0 0 (noE 0))):=HoldsL.new w Z25V 39;have B0:Hid (Below w.heap.size w (w.alloc (.cells Z25V.toArray 39))):=bR.alloc lR _;go_enter Tryz.func29,Tryz.ntmps29
 go_upto_region 1 with fail
 generalize (w.alloc (.cells Z25V.toArray 39))=W0 at *;have HTH:Hid (W0.there w.heap.size 0 (noL none none 0 0 (noE c)).toArray.size):=noL_there H0.out _ _ _ _ _;have HRR:Hid (HoldsL (W0.setCells w.heap.size 0 (noL none none 0 0 (noE c)).toArray.toList) w.heap.size (noL none none 0 0 (noE c))):=H0.out.mid rfl;have RB:Hid (Below w.heap.size w (W0.setCells w.heap.size 0 (noL none none 0 0 (noE c)).toArray.toList)):=Below.mid B0.out lR _;clear H0 B0;go_wp2_with (refine wpList_store_mid (by rfl) 39 (.tmp 2) (.tmp 4) (by rfl) _ _ _ (by rfl) (by rfl) HTH.out no_info (noL_one _ _ _ _ _) ?_)
 exact bodyPost_ret (results_mid Tryz.results29 _ _ _ _ _ rfl HRR.out Tryz.underlying39 rfl no_info) rfl (And.intro rfl RB.out)
theorem begins_any (flags:Int) (w:World) :
  Cw 167 #[iV flags] w (.bool (decide (bits .and .i64 flags 22=2))):=by
 by_cases h:bits .and .i64 flags 22=2
 ·go_enter Tryz.func167,Tryz.ntmps167
  go_wp2_with fail
  go_ret;exact ⟨ret_bool (by simp [h]),rfl⟩
 ·go_enter Tryz.func167,Tryz.ntmps167
  go_wp2_with fail
  go_ret;exact ⟨ret_bool (by simp [h]),rfl⟩
theorem new_byte {proto:Int} {inside:Bool} {flags:Int} (hf:isIn flags 0 255=true):trackNewV proto inside flags=if stillP proto=true then 3 else if proto=6 then (if bits .and .i64 flags 22=2 then (if inside=true then 1 else 2) else 0) else 0:=by
 unfold trackNewV;have e:=flags_22 hf;rw [if_neg (by rw [hf]; decide)];by_cases h1:stillP proto=true
 ·rw [if_pos h1,if_pos h1]
 ·rw [if_neg h1,if_neg h1];by_cases h2:proto=6
  ·rw [if_pos h2];by_cases h3:bits .and .i64 flags 22=2
   ·rw [if_pos h3,if_pos ⟨h2,e.mpr h3⟩]
   ·rw [if_neg h3,if_neg (fun h=>h3 (e.mp h.2))]
  ·rw [if_neg h2,if_neg (fun h=>h2 h.1)]
theorem new_range (proto:Int) (inside:Bool) (flags:Int):0≤trackNewV proto inside flags∧trackNewV proto inside flags≤3:=by
 unfold trackNewV;(repeat' split)<;>omega
theorem implNewB_any (proto:Int) (inside:Bool) (flags:Int) (w:World) (hf:isIn flags 0 255=true) :
  Cw 139 #[iV proto,.bool inside,iV flags] w (iV (trackNewV proto inside flags)):=by
 have HA:Hid (∀ W,Cw 143 #[iV proto] W (.bool (stillP proto))):=fun W=>implStill_any _ W
 have HC:Hid (∀ W,Cw 121 #[iV flags] W (.bool (isIn flags 0 255))):=fun W=>implByte_any _ W
 have HB:Hid (∀ W,Cw 167 #[iV flags] W (.bool (decide (bits .and .i64 flags 22=2)))):=fun W=>begins_any _ W
 have HV:Hid (trackNewV proto inside flags=if stillP proto=true then 3 else if proto=6 then (if bits .and .i64 flags 22=2 then (if inside=true then 1 else 2) else 0) else 0):=new_byte hf;rw [hf] at HC;generalize trackNewV proto inside flags=ans at *;clear hf
 cases hs:stillP proto with
 | true =>
  rw [hs] at HA;have HX:Hid (ans=3):=by unfold Hid; rw [HV.out,if_pos hs]
  clear HV hs;go_enter Tryz.func139,Tryz.ntmps139
  go_wp2_with fail
  refine (HA.out _).mono ?_;rintro e w1 ⟨rfl,rfl⟩;go_wp2_with fail
  go_ret;exact ⟨ret_int HX.out.symm,rfl⟩
 | false =>
  rw [hs,if_neg (by decide)] at HV;rw [hs] at HA;clear hs;by_cases hp:proto=6
  ·subst hp;rw [if_pos rfl] at HV;by_cases hb:bits .and .i64 flags 22=2
   ·rw [if_pos hb] at HV;rw [decide_eq_true hb] at HB;clear hb
    cases inside;all_goals
     simp at HV;go_enter Tryz.func139,Tryz.ntmps139
     go_wp2_with fail
     refine (HA.out _).mono ?_;rintro e w1 ⟨rfl,rfl⟩;go_wp2_with fail
     refine (HC.out _).mono ?_;rintro e w1 ⟨rfl,rfl⟩;go_wp2_with fail
     refine (HB.out _).mono ?_;rintro e w1 ⟨rfl,rfl⟩;go_wp2_with fail
     go_ret;exact ⟨ret_int HV.out.symm,rfl⟩
   ·rw [if_neg hb] at HV;rw [decide_eq_false hb] at HB;clear hb;go_enter Tryz.func139,Tryz.ntmps139
    go_wp2_with fail
    refine (HA.out _).mono ?_;rintro e w1 ⟨rfl,rfl⟩;go_wp2_with fail
    refine (HC.out _).mono ?_;rintro e w1 ⟨rfl,rfl⟩;go_wp2_with fail
    refine (HB.out _).mono ?_;rintro e w1 ⟨rfl,rfl⟩;go_wp2_with fail
    go_ret;exact ⟨ret_int HV.out.symm,rfl⟩
  ·rw [if_neg hp] at HV;go_enter Tryz.func139,Tryz.ntmps139
   go_wp2_with fail
   refine (HA.out _).mono ?_;rintro e w1 ⟨rfl,rfl⟩;go_wp2_with fail
   go_ret;exact ⟨ret_int HV.out.symm,rfl⟩
theorem touchRight_any (t:Tc) (w:World) (hs1:t.addr.size≤1048576) (hs2:t.peer.size≤1048576) :
  Cb 105 #[tcC t] w (.bool (touchOk t)):=by
 obtain ⟨proto,inside,addr,port,peer,peerPort,flags⟩:=t;dsimp only at hs1 hs2;have HZ:Hid (Below w.heap.size w (w.alloc (.cells (TcR proto inside addr port peer peerPort flags).toArray 89))):=bR.alloc lR _;have HT:Hid (HoldsL (w.alloc (.cells (TcR proto inside addr port peer peerPort flags).toArray 89)) w.heap.size (TcR proto inside addr port peer peerPort flags)):=HoldsL.new w (TcR proto inside addr port peer peerPort flags) 89;have H1:Hid (∀ W,Cw 136 #[iV proto] W (.bool (protoB proto))):=fun W=>isBound_any _ W
 have H2:Hid (∀ W,Cw 129 #[.string addr] W (.bool (addrOk addr))):=fun W=>implAddrRight_any addr W
 have H3:Hid (∀ W,Cw 122 #[iV port] W (.bool (isW port))):=fun W=>implWordIs_any _ W
 have H4:Hid (∀ W,Cw 122 #[iV peerPort] W (.bool (isW peerPort))):=fun W=>implWordIs_any _ W
 have H5:Hid (∀ W,Cw 121 #[iV flags] W (.bool (isIn flags 0 255))):=fun W=>implByte_any _ W
 have HV:Hid (touchOk ⟨proto,inside,addr,port,peer,peerPort,flags⟩=(protoB proto&&addrOk addr&&(inside||decide (addr.size=4))&&isW port&&decide (peer.size=4)&&isW peerPort&&isIn flags 0 255)):=rfl;generalize touchOk ⟨proto,inside,addr,port,peer,peerPort,flags⟩=ans at *;generalize protoB proto=b1 at *;generalize addrOk addr=b2 at *;generalize isW port=b3 at *;generalize isW peerPort=b4 at *;generalize isIn flags 0 255=b5 at *;unfold tcC;go_enter Tryz.func105,Tryz.ntmps105
 go_upto_region 1 with fail
 generalize (w.alloc (.cells (TcR proto inside addr port peer peerPort flags).toArray 89))=W at *;obtain ⟨k0,k1,k2,k3,k4,k5,k6⟩:=HT.out.c7;clear HT;go_wp2_with fail
 refine (H1.out _).mono ?_;rintro e W ⟨rfl,rfl⟩
 cases b1 with
 | false =>
  go_wp2_with fail
  go_ret;exact ⟨ret_bool (by rw [HV.out]; rfl),HZ.out⟩
 | true =>
 go_wp2_with fail
 refine (H2.out _).mono ?_;rintro e W ⟨rfl,rfl⟩
 cases b2 with
 | false =>
  go_wp2_with fail
  go_ret;exact ⟨ret_bool (by rw [HV.out]; rfl),HZ.out⟩
 | true =>
 by_cases hi:inside=false∧¬ addr.size=4
 ·obtain ⟨rfl,ha⟩:=hi;have haI:¬ (addr.size:Int)=4:=by omega
  go_wp2_with fail
  go_ret;exact ⟨ret_bool (by rw [HV.out,decide_eq_false ha]; rfl),HZ.out⟩
 have HI:Hid ((inside||decide (addr.size=4))=true):=by
  unfold Hid
  cases inside with
  | true=>rfl
  | false=>simp at hi; simp [hi]
 have hsp:inside=true∨(inside=false∧addr.size=4):=by
  cases inside with
  | true=>exact .inl rfl
  | false=>simp at hi; exact .inr ⟨rfl,hi⟩
 clear hi;have HV2:Hid (ans=(b3&&decide (peer.size=4)&&b4&&b5)):=by unfold Hid; rw [HV.out,HI.out]; rfl
 clear HV HI;rcases hsp with rfl | ⟨rfl,ha⟩
 all_goals
  try have haI:(addr.size:Int)=4:=by omega
  go_wp2_with fail
  refine (H3.out _).mono ?_;rintro e W ⟨rfl,rfl⟩
  cases b3 with
  | false =>
   go_wp2_with fail
   go_ret;exact ⟨ret_bool (by rw [HV2.out]; rfl),HZ.out⟩
  | true =>
  go_wp2_with fail
  refine (H4.out _).mono ?_;rintro e W ⟨rfl,rfl⟩
  cases b4 with
  | false =>
   go_wp2_with fail
   go_ret;exact ⟨ret_bool (by rw [HV2.out]; simp),HZ.out⟩
  | true =>
  by_cases hp:peer.size=4
  ·have HX:Hid (ans=b5):=by unfold Hid; rw [HV2.out,decide_eq_true hp]; rfl
   have hpI:(peer.size:Int)=4:=by omega
   go_wp2_with fail
   refine (H5.out _).mono ?_;rintro e W ⟨rfl,rfl⟩;go_wp2_with fail
   go_ret;exact ⟨ret_bool HX.out.symm,HZ.out⟩
  ·have HX:Hid (ans=false):=by unfold Hid; rw [HV2.out,decide_eq_false hp]; rfl
   have hpI:¬ (peer.size:Int)=4:=by omega
   go_wp2_with fail
   go_ret;exact ⟨ret_bool HX.out.symm,HZ.out⟩
theorem hostOf_any (pa:Option Addr) (pc:Nat) (p:Pl) (ba bo:Option Addr) (ca cb:Nat) (x:Bb) (m1 m2:Nat) (t:Tc) (w:World) (he:EnIn ⟨t.proto,t.addr,t.port⟩) (hbk:BookAt w m1 m2 x.binds x.binds) :
  Cb 106 #[bkC pa pc p ba bo ca cb x m1 m2,tcC t] w (.tuple #[enC (hostV x t).1,.bool (hostV x t).2]):=by
 obtain ⟨proto,inside,addr,port,peer,peerPort,flags⟩:=t;dsimp only at he;obtain ⟨c,hc⟩ : ∃ c,c=(x.binds.find? (ofOut proto addr port)).getD bdZ:=⟨_,rfl⟩;have HLK:Hid (∀ W,Below w.heap.size w W→(Instr.lookup 137 (.map (some m2)) (.agg (EnV proto addr port).toArray) true).run Tryz.prog W=.ok (.tuple #[.agg (BdV c).toArray,.bool (x.binds.find? (ofOut proto addr port)).isSome]) W):=fun W hW=>by
  have hl:=(hbk.kept hW).look2 (e:=⟨proto,addr,port⟩) he;rw [show (fun q=>sameEn (lentE q) ⟨proto,addr,port⟩)=ofOut proto addr port from funext fun c=>lent_out _ _ _ c,← hc] at hl;exact hl
 have HHE:Hid (∀ W,Cb 53 #[.agg (BdV c).toArray] W (.agg (EnV c.proto c.inn c.inPort).toArray)):=fun W=>hostEnd_any c W
 have HV:Hid (hostV x ⟨proto,inside,addr,port,peer,peerPort,flags⟩=if inside=true then (⟨proto,addr,port⟩,true) else (⟨c.proto,c.inn,c.inPort⟩,(x.binds.find? (ofOut proto addr port)).isSome)):=by rw [hc]; rfl
 generalize hostV x ⟨proto,inside,addr,port,peer,peerPort,flags⟩=ans at *;generalize (x.binds.find? (ofOut proto addr port)).isSome=fd at *;clear hc he hbk;have hRw:w.heap.size≤w.heap.size+1+1:=by omega
 have hun:undef=Value.tuple #[]:=rfl;have HS0:=bx3 w (KkV pa pc p ba ca bo cb x m1 m2) 139 (TcR proto inside addr port peer peerPort flags) 89 (EnV 0 ⟨#[]⟩ 0) 86 (by simp) (by simp) (by simp)
 skip;unfold bkC tcC;go_enter Tryz.func106,Tryz.ntmps106
 go_upto_region 1 with fail
 generalize World.alloc _ _=W at *;have HHt:=HS0.out.at mE1;obtain ⟨t0,t1,t2,t3,t4,t5,t6⟩:=HHt.c7;clear HHt;go_upto_region 2 with fail
 have S1:Hid _:=HS0.out.push (EnV proto addr port) (by simp) 86;generalize hW1:W.alloc _=W1 at *;clear hW1 HS0 t0 t1 t2 t3 t4 t5 t6;generalize W.heap.size=Be at *
 cases inside with
 | true =>
  have HX:Hid (ans=(⟨proto,addr,port⟩,true)):=HV.out;clear HV;have HHt:=S1.out.at mE2;have t1:=HHt.cell (j:=1) rfl;clear HHt;have HHn:=S1.out.at mE0;obtain ⟨n0,n1,n2⟩:=HHn.c3;clear HHn;have HHz:=S1.out.at mE3;obtain ⟨z0,z1,z2⟩:=HHz.c3;obtain ⟨zf0,zf1,zf2⟩:=HHz.f3;go_wp2_with fail
  refine bodyPost_ret (v:=.tuple #[.agg (EnV proto addr port).toArray,.bool true]) (by simp [results,Tryz.results106,go_sem,z0,z1,z2]) rfl (And.intro (by rw [HX.out]; rfl) ?_);exact (((S1.out.b.setCell (p:=⟨w.heap.size+1+1,0,none⟩) hRw _).setCell (p:=⟨w.heap.size+1+1,1,none⟩) hRw _).setCell (p:=⟨w.heap.size+1+1,2,none⟩) hRw _)
 | false =>
  have HX:Hid (ans=(⟨c.proto,c.inn,c.inPort⟩,fd)):=HV.out;clear HV;have HHt:=S1.out.at mE2;have t1:=HHt.cell (j:=1) rfl;clear HHt;have HHn:=S1.out.at mE0;obtain ⟨n0,n1,n2⟩:=HHn.c3;clear HHn;have HHk:=S1.out.at mE1;have k13:=HHk.cell (j:=13) rfl;clear HHk;have LK:=HLK.out W1 S1.out.b;go_upto_region 5 with (at_lookup; refine wpList_look_val rfl _ _ _ _ rfl rfl rfl LK ?_)
  have S2:Hid _:=S1.out.push (BdV c) (by simp) 48;generalize hW2:W1.alloc _=W2 at *;clear hW2 S1 LK HLK n0 n1 n2 k13 t1;generalize W1.heap.size=Bc at *;have HHy:=S2.out.at mE0;obtain ⟨y0,y1,y2,y3,y4⟩:=HHy.c5;clear HHy;go_wp2_with fail
  refine (HHE.out _).mono ?_;rintro e W3 ⟨rfl,q3⟩;have S3:Hid _:=S2.out.kept q3;clear q3 S2 HHE y0 y1 y2 y3 y4;have HHz:=S3.out.at mE4;obtain ⟨z0,z1,z2⟩:=HHz.c3;obtain ⟨zf0,zf1,zf2⟩:=HHz.f3;go_wp2_with fail
  refine bodyPost_ret (v:=.tuple #[.agg (EnV c.proto c.inn c.inPort).toArray,.bool fd]) (by simp [results,Tryz.results106,go_sem,z0,z1,z2]) rfl (And.intro (by rw [HX.out]; rfl) ?_);exact (((S3.out.b.setCell (p:=⟨w.heap.size+1+1,0,none⟩) hRw _).setCell (p:=⟨w.heap.size+1+1,1,none⟩) hRw _).setCell (p:=⟨w.heap.size+1+1,2,none⟩) hRw _)
theorem admits1_any (q:Ss) (h:En) (s:ByteArray) (B1 B2:Nat) (w:World) (hk0:HoldsL w B1 (enL h)) (hk1:HoldsL w B2 [.string s]) :
  Cb 169 #[ssC q,.pointer (some ⟨B1,0,none⟩),.pointer (some ⟨B2,0,none⟩)] w (.bool (metB h s q)):=by
 have HF:Hid (∀ W,Cb 134 #[.agg (SsV q).toArray] W (.agg (BdR q.proto q.inn q.inPort q.peer q.peerPort).toArray)):=fun W=>sessKey_any q W
 have HE:Hid (∀ W,(binOp .eql 86 (.agg (EnV q.proto q.inn q.inPort).toArray) (.agg (EnV h.proto h.addr h.port).toArray)).run Tryz.prog W=.ok (.bool (sameEn (sessE q) h)) W):=fun W=>eqEn_bin (sessE q) h W
 have HFL:Hid (∀ W,Sem.run Tryz.prog (Instr.field 147 (.agg (BdR q.proto q.inn q.inPort q.peer q.peerPort).toArray) 0) W=.ok (.agg (EnV q.proto q.inn q.inPort).toArray) W):=fun W=>by kernel_rfl
 have HV:Hid (metB h s q=(sameEn (sessE q) h&&decide (q.peer.toList=s.toList))):=rfl;generalize metB h s q=ans at *;generalize sameEn (sessE q) h=b at *;have HZ:Hid (Below w.heap.size w (w.alloc (.cells (SsV q).toArray 59))):=bR.alloc lR _;have HQ:Hid (HoldsL (w.alloc (.cells (SsV q).toArray 59)) w.heap.size (SsV q)):=HoldsL.new w (SsV q) 59;have HK0:Hid (HoldsL (w.alloc (.cells (SsV q).toArray 59)) B1 (EnV h.proto h.addr h.port)):=HoldsL.alloc (cs:=(EnV h.proto h.addr h.port)) hk0 _;have HK1:Hid (HoldsL (w.alloc (.cells (SsV q).toArray 59)) B2 [.string s]):=hk1.alloc _;clear hk0 hk1;unfold ssC;go_enter Tryz.func169,Tryz.ntmps169
 go_upto_region 1 with fail
 generalize (w.alloc (.cells (SsV q).toArray 59))=W at *;go_cut [4] (fun v wx=>v=.bool ans∧Below w.heap.size w wx)
 case first =>
  rename_i J K2 hJ hK2;have HCP:Hid (∀ wy,Below W.drew.heap.size W.drew wy→HoldsL wy w.heap.size (SsV q)∧HoldsL wy B1 (EnV h.proto h.addr h.port)∧HoldsL wy B2 [.string s]):=fun wy hy=>⟨HQ.out.drew.kept (by simp) hy,HK0.out.drew.kept (by simp) hy,HK1.out.drew.kept (by simp) hy⟩
  cases b with
  | false =>
   have HX:Hid (ans=false):=HV.out;clear HV;refine wp_region_growH [5,6,7,8,9,10,11,12,13,14,15,4] (by kernel_rfl) (by kernel_rfl) ?_;iterate 2 (apply GCh.u rfl;(·intro K' a wy ho hd hb hK;simp [rAt,IsV,slot,Region.binds] at ho hd;obtain ⟨hq,h0,h1⟩:=HCP.out wy hb;have kC:=hq.c7;have kC:=h0.c3;have m0:=h1.cell (j:=0) rfl;go_simp;first|((try go_bits);exact hK _ _ rfl bQ)|(refine (HF.out wy).mono ?_;rintro e wz ⟨rfl,hz⟩;exact hK _ _ rfl hz));dsimp only [nA,cA])
   (apply GCh.u rfl;(·intro K' a wy ho hd hb hK;simp [rAt,IsV,slot,Region.binds] at ho hd;have hfl:=HFL.out wy;go_simp;(try go_bits);exact hK _ _ rfl bQ);dsimp only [nA,cA])
   (apply GCh.u rfl;(·intro K' a wy ho hd hb hK;simp [rAt,IsV,slot,Region.binds] at ho hd;obtain ⟨hq,h0,h1⟩:=HCP.out wy hb;have kC:=hq.c7;have kC:=h0.c3;have m0:=h1.cell (j:=0) rfl;go_simp;(try go_bits);exact hK _ _ rfl bQ);dsimp only [nA,cA])
   apply GCh.v4
   ·rfl
   ·intro K' a wy ho hd hb hK kz;have q2:=hd ⟨2,.data⟩ (by simp) rfl;have q3:=hd ⟨3,.data⟩ (by simp) rfl;simp [rAt,IsV,slot] at q2 q3;clear hd ho;refine wp_bin_val .eql 86 86 (.tmp 7) (.tmp 8) rfl (by simp [Act.eval,slot,q2]) (by simp [Act.eval,slot,q3]) (run_eqGuard_agg _ _ _ _ _ _ _ (by kernel_rfl)) (HE.out wy) ?_;exact kz _ rfl
   iterate 7 ((first|(refine GCh.n rfl rfl rfl rfl rfl (by simp) ?_)|(apply GCh.u rfl;(·intro K' a wy ho hd hb hK;simp [rAt,IsV,slot,Region.binds] at ho hd;go_simp;(try go_bits);exact hK _ _ rfl bQ)));dsimp only [nA,cA])
   intro X wz hR hz;simp only [List.nil_append,List.cons_append,RAll,IsV] at hR;simp only [putsFrom,hR];clear hR;go_simp;try go_bits
   refine hK2 _ _ (hJ _ _ ?_);(repeat apply Exists.intro)
   refine ⟨⟨by rw [HX.out],HZ.out.drew.trans (hz.mono HZ.out.size)⟩,rfl⟩
  | true =>
   have HX:Hid (ans=decide (q.peer.toList=s.toList)):=by unfold Hid; rw [HV.out]; rfl
   clear HV;by_cases hs:q.peer.toList=s.toList
   case pos =>
    have hs2:(q.peer.toList==s.toList)=true:=by simp [hs]
    rw [decide_eq_true hs] at HX;clear hs;refine wp_region_growH [5,6,7,8,9,10,11,12,13,14,15,4] (by kernel_rfl) (by kernel_rfl) ?_;iterate 2 (apply GCh.u rfl;(·intro K' a wy ho hd hb hK;simp [rAt,IsV,slot,Region.binds] at ho hd;obtain ⟨hq,h0,h1⟩:=HCP.out wy hb;have kC:=hq.c7;have kC:=h0.c3;have m0:=h1.cell (j:=0) rfl;go_simp;first|((try go_bits);exact hK _ _ rfl bQ)|(refine (HF.out wy).mono ?_;rintro e wz ⟨rfl,hz⟩;exact hK _ _ rfl hz));dsimp only [nA,cA])
    (apply GCh.u rfl;(·intro K' a wy ho hd hb hK;simp [rAt,IsV,slot,Region.binds] at ho hd;have hfl:=HFL.out wy;go_simp;(try go_bits);exact hK _ _ rfl bQ);dsimp only [nA,cA])
    (apply GCh.u rfl;(·intro K' a wy ho hd hb hK;simp [rAt,IsV,slot,Region.binds] at ho hd;obtain ⟨hq,h0,h1⟩:=HCP.out wy hb;have kC:=hq.c7;have kC:=h0.c3;have m0:=h1.cell (j:=0) rfl;go_simp;(try go_bits);exact hK _ _ rfl bQ);dsimp only [nA,cA])
    apply GCh.v4
    ·rfl
    ·intro K' a wy ho hd hb hK kz;have q2:=hd ⟨2,.data⟩ (by simp) rfl;have q3:=hd ⟨3,.data⟩ (by simp) rfl;simp [rAt,IsV,slot] at q2 q3;clear hd ho;refine wp_bin_val .eql 86 86 (.tmp 7) (.tmp 8) rfl (by simp [Act.eval,slot,q2]) (by simp [Act.eval,slot,q3]) (run_eqGuard_agg _ _ _ _ _ _ _ (by kernel_rfl)) (HE.out wy) ?_;exact kz _ rfl
    iterate 7 ((first|apply GCh.u rfl|apply GCh.g rfl rfl rfl rfl rfl (by simp));(·intro K' a wy ho hd hb hK;simp [rAt,IsV,slot,Region.binds] at ho hd;obtain ⟨hq,h0,h1⟩:=HCP.out wy hb;have kC:=hq.c7;have kC:=h0.c3;have m0:=h1.cell (j:=0) rfl;go_simp;(try go_bits);exact hK _ _ rfl bQ);dsimp only [nA,cA])
    intro X wz hR hz;simp only [List.nil_append,List.cons_append,RAll,IsV] at hR;simp only [putsFrom,hR];clear hR;go_simp;try go_bits
    refine hK2 _ _ (hJ _ _ ?_);(repeat apply Exists.intro)
    refine ⟨⟨by rw [HX.out],HZ.out.drew.trans (hz.mono HZ.out.size)⟩,rfl⟩
   case neg =>
    have hs2:(q.peer.toList==s.toList)=false:=by simp [hs]
    rw [decide_eq_false hs] at HX;clear hs;refine wp_region_growH [5,6,7,8,9,10,11,12,13,14,15,4] (by kernel_rfl) (by kernel_rfl) ?_;iterate 2 (apply GCh.u rfl;(·intro K' a wy ho hd hb hK;simp [rAt,IsV,slot,Region.binds] at ho hd;obtain ⟨hq,h0,h1⟩:=HCP.out wy hb;have kC:=hq.c7;have kC:=h0.c3;have m0:=h1.cell (j:=0) rfl;go_simp;first|((try go_bits);exact hK _ _ rfl bQ)|(refine (HF.out wy).mono ?_;rintro e wz ⟨rfl,hz⟩;exact hK _ _ rfl hz));dsimp only [nA,cA])
    (apply GCh.u rfl;(·intro K' a wy ho hd hb hK;simp [rAt,IsV,slot,Region.binds] at ho hd;have hfl:=HFL.out wy;go_simp;(try go_bits);exact hK _ _ rfl bQ);dsimp only [nA,cA])
    (apply GCh.u rfl;(·intro K' a wy ho hd hb hK;simp [rAt,IsV,slot,Region.binds] at ho hd;obtain ⟨hq,h0,h1⟩:=HCP.out wy hb;have kC:=hq.c7;have kC:=h0.c3;have m0:=h1.cell (j:=0) rfl;go_simp;(try go_bits);exact hK _ _ rfl bQ);dsimp only [nA,cA])
    apply GCh.v4
    ·rfl
    ·intro K' a wy ho hd hb hK kz;have q2:=hd ⟨2,.data⟩ (by simp) rfl;have q3:=hd ⟨3,.data⟩ (by simp) rfl;simp [rAt,IsV,slot] at q2 q3;clear hd ho;refine wp_bin_val .eql 86 86 (.tmp 7) (.tmp 8) rfl (by simp [Act.eval,slot,q2]) (by simp [Act.eval,slot,q3]) (run_eqGuard_agg _ _ _ _ _ _ _ (by kernel_rfl)) (HE.out wy) ?_;exact kz _ rfl
    iterate 7 ((first|apply GCh.u rfl|apply GCh.g rfl rfl rfl rfl rfl (by simp));(·intro K' a wy ho hd hb hK;simp [rAt,IsV,slot,Region.binds] at ho hd;obtain ⟨hq,h0,h1⟩:=HCP.out wy hb;have kC:=hq.c7;have kC:=h0.c3;have m0:=h1.cell (j:=0) rfl;go_simp;(try go_bits);exact hK _ _ rfl bQ);dsimp only [nA,cA])
    intro X wz hR hz;simp only [List.nil_append,List.cons_append,RAll,IsV] at hR;simp only [putsFrom,hR];clear hR;go_simp;try go_bits
    refine hK2 _ _ (hJ _ _ ?_);(repeat apply Exists.intro)
    refine ⟨⟨by rw [HX.out],HZ.out.drew.trans (hz.mono HZ.out.size)⟩,rfl⟩
 case rest =>
  obtain ⟨rfl,hb⟩:=hcut;have HB:Hid (Below w.heap.size w wc):=hb;clear hb;go_wp2_with fail
  go_ret;exact ⟨rfl,HB.out⟩
theorem admits_any (pa:Option Addr) (pc:Nat) (p:Pl) (ba bo:Option Addr) (ca cb:Nat) (x:Bb) (m1 m2:Nat) (h:En) (s:ByteArray) (w:World) (hl2:x.sess.length≤1048576) (hx:BbIs w ba bo x) :
  Cb 140 #[bkC pa pc p ba bo ca cb x m1 m2,enC h,.string s] w (.bool (admitV p x h s)):=by
 have HC:Hid (∀ W B1 B2,Below w.heap.size w W→HoldsL W B1 (enL h)→HoldsL W B2 [.string s]→Cb 168 #[.slice bo x.sess.length cb,.func (.func 169) #[] #[.pointer (some ⟨B1,0,none⟩),.pointer (some ⟨B2,0,none⟩)]] W (.bool (x.sess.any (metB h s)))):=fun W B1 B2 hW h1 h2=>hasFunc_any (metB h s) 169 (fun args W=>by kernel_rfl) #[.pointer (some ⟨B1,0,none⟩),.pointer (some ⟨B2,0,none⟩)] x.sess bo cb W hl2 (hx.ss.below hW) (fun W' hW' q hq=>admits1_any q h s B1 B2 W' (h1.kept (by simp [enL]) hW') (h2.kept (by simp) hW'))
 have HV:Hid (admitV p x h s=if p.filter=0 then true else if p.filter=1 then x.sess.any (metB h s) else false):=rfl;generalize admitV p x h s=ans at *;generalize x.sess.any (metB h s)=an at *;clear hx;have HS0:=bx3 w (KkV pa pc p ba ca bo cb x m1 m2) 139 (EnV h.proto h.addr h.port) 86 [.string s] 9 (by simp) (by simp) (by simp)
 skip;unfold bkC enC;go_enter Tryz.func140,Tryz.ntmps140
 go_upto_region 1 with fail
 generalize World.alloc _ _=W at *;have HHk:=HS0.out.at mE0;obtain ⟨k0,k1,k2,k3,k4,k5,k6,k7,k8,k9,k10,k11,k12,k13⟩:=HHk.c14;clear HHk;by_cases h0:p.filter=0
 case pos =>
  have d0:(p.filter==0)=true:=by simp [h0]
  have HX:Hid (ans=true):=by unfold Hid; rw [HV.out,if_pos h0]
  clear h0 HV;go_wp2_with fail
  go_ret;exact ⟨ret_bool HX.out.symm,HS0.out.b⟩
 have d0:(p.filter==0)=false:=by simp [h0]
 by_cases h1:p.filter=1
 case neg =>
  have d1:(p.filter==1)=false:=by simp [h1]
  have HX:Hid (ans=false):=by unfold Hid; rw [HV.out,if_neg h0,if_neg h1]
  clear h0 h1 HV;go_wp2_with fail
  go_ret;exact ⟨ret_bool HX.out.symm,HS0.out.b⟩
 have d1:(p.filter==1)=true:=by simp [h1]
 have HX:Hid (ans=an):=by unfold Hid; rw [HV.out,if_neg h0,if_pos h1]
 clear h0 h1 HV;go_wp2_with fail
 refine (HC.out _ _ _ HS0.out.b (HS0.out.k _ mE1) (HS0.out.k _ mE2)).mono ?_;rintro e W1 ⟨rfl,q1⟩;have B1:Hid (Below w.heap.size w W1):=HS0.out.b.trans (q1.mono HS0.out.b.size);clear q1 HS0;go_wp2_with fail
 go_ret;exact ⟨ret_bool HX.out.symm,B1.out⟩
theorem implCopy9_any (x:Bb) (ba bo:Option Addr) (ca cb:Nat) (w:World) (hbl1:x.binds.length≤1048576) (hbl2:x.sess.length≤1048576) (hgb:∀ q∈x.binds,BdGood q) (hgs:∀ s∈x.sess,SsGood s) (hx:BbIs w ba bo x) :
  Calls Tryz.prog 109 #[bbC ba bo ca cb x] w fun e w'=>CopyRet w.heap.size x e w'∧Below w.heap.size w w':=by
 have HSX:Hid (BbIs w ba bo x):=hx;have HGB:Hid (∀ q∈x.binds,BdGood q):=hgb;have HGS:Hid (∀ s∈x.sess,SsGood s):=hgs;have hRw:w.heap.size≤w.heap.size+1:=by omega
 clear hx hgb hgs;have HS0:=bx2 w (BbV ba ca bo cb x) 31 [.slice none 0 0,.slice none 0 0] 31 (by simp) (by simp)
 skip;have hun:undef=Value.tuple #[]:=rfl;unfold bbC;go_enter Tryz.func109,Tryz.ntmps109
 go_upto_region 1 with fail
 generalize World.alloc _ _=W at *;have hlt1:w.heap.size+1 < W.heap.size:=(HS0.out.lts _ mE1).1;go_upto_region 2 with fail
 have HS1:Hid (RowsSt w (W.alloc (.cells #[.slice none 0 0,.slice none 0 0] 31)).heap.size W.heap.size [(w.heap.size,(BbV ba ca bo cb x)),(w.heap.size+1,[.slice none 0 0,.slice none 0 0])] (.slice none 0 0) (.slice none 0 0) [] [] (W.alloc (.cells #[.slice none 0 0,.slice none 0 0] 31))):=by
  have bn:Below W.heap.size W (W.alloc (.cells #[.slice none 0 0,.slice none 0 0] 31)):=bR.alloc lR _;have hn:=HoldsL.new W [.slice none 0 0,.slice none 0 0] 31;refine RowsSt.start [(w.heap.size,(BbV ba ca bo cb x)),(w.heap.size+1,[.slice none 0 0,.slice none 0 0])] hn (HS0.out.kept bn).b (HS0.out.kept bn).k (by omega) (fun e he=>?_);simp only [List.mem_cons,List.not_mem_nil,or_false] at he;rcases he with rfl | rfl
  ·refine ⟨by simp; omega,by show w.heap.size≠_; omega,by simp⟩
  ·refine ⟨by simp; omega,by show w.heap.size+1≠_; omega,by simp⟩
 clear HS0;generalize (W.alloc (.cells #[.slice none 0 0,.slice none 0 0] 31))=W3 at *;generalize W3.heap.size=base at *;have hO:w.heap.size+1 < W.heap.size:=hlt1;clear hlt1;generalize W.heap.size=O at *;have c0:W3.cell? ⟨w.heap.size,0,none⟩=some (.slice ba x.binds.length ca):=(show HoldsL W3 w.heap.size (BbV ba ca bo cb x) from HS1.out.k _ (List.mem_cons_self ..)).cell rfl;go_wp2_with fail
 clear c0;go_loopw [11] (fun iv wr=>∃ (i:Nat) (v:Value),i≤x.binds.length∧iv=iV i∧RowsSt w base O [(w.heap.size,(BbV ba ca bo cb x)),(w.heap.size+1,[.slice none 0 0,.slice none 0 0])] v (.slice none 0 0) (x.binds.take i) ([]) wr) (fun iv _=>x.binds.length-(intOf iv).toNat)
 case atStart=>exact ⟨0,_,Nat.zero_le _,rfl,HS1.out⟩
 case round =>
  obtain ⟨i,v,hi,rfl,hS⟩:=hrel;have S1:Hid _:=hS;clear hS HS1;generalize wr=w4 at *;by_cases hlt:i < x.binds.length
  case pos =>
   obtain ⟨bb,off,rfl,hb,hat⟩:=HSX.out.bd.at hlt;have hA:=(hat.below hb S1.out.b) i hlt;have HTK:Hid (x.binds.take (i+1)=x.binds.take i++[x.binds[i]]):=List.take_succ_eq_append_getElem hlt;have hfl:(x.binds.take i).length≤1048576:=by rw [List.length_take]; omega
   have hgd:=HGB.out x.binds[i] (List.getElem_mem hlt);obtain ⟨q,hq⟩ : ∃ q,q=x.binds[i]:=⟨_,rfl⟩;rw [← hq] at hA HTK hgd;have HGD:Hid (BdGood q):=hgd;have hltI:(i:Int) < (x.binds.length:Int):=by omega
   obtain ⟨s0,s1,s2,s3,s4⟩:=rc5 hA;generalize x.binds.take i=zs at *;clear hA hat hq hgd hb;go_upto_region 5 with fail
   have bn:Below w4.heap.size w4 (w4.alloc (.cells (BdV q).toArray 48)):=bR.alloc lR _;have HQ:Hid (HoldsL (w4.alloc (.cells (BdV q).toArray 48)) w4.heap.size (BdV q)):=HoldsL.new w4 (BdV q) 48;have S2:Hid _:=S1.out.kept bn;generalize (w4.alloc (.cells (BdV q).toArray 48))=W5 at *;clear bn S1 s0 s1 s2 s3 s4;generalize w4.heap.size=Bq at *;have HCY:Hid (∀ W,Cb 82 #[.agg (BdV q).toArray] W (.agg (BdV q).toArray)):=fun W=>copyBind_any q W HGD.out.1 HGD.out.2.1
   have HCP:Hid (∀ wy,Below W5.drew.heap.size W5.drew wy→RowsSt w base O [(w.heap.size,(BbV (some ⟨bb,off,none⟩) ca bo cb x)),(w.heap.size+1,[.slice none 0 0,.slice none 0 0])] v (.slice none 0 0) (zs) ([]) wy∧HoldsL wy Bq (BdV q)):=fun wy hy=>⟨S2.out.kept (bR.drew.trans hy),HQ.out.drew.kept (by simp) hy⟩
   clear hun;refine wp_region_growV [15,16,17,18,19] (by kernel_rfl) (by kernel_rfl) ?_;iterate 4 (apply GChV.u rfl;(·intro K' a wy ho hd hb hK;simp [rAt,IsV,slot,Region.binds] at ho hd;obtain ⟨hst,hqq⟩:=HCP.out wy hb;have ko:wy.cell? ⟨O,0,none⟩=some v:=hst.o.cell rfl;have kC:=hqq.c5;go_simp;first|((try go_bits);exact hK _ _ rfl bQ)|(refine (HCY.out wy).mono ?_;rintro e wz ⟨rfl,hz⟩;exact hK _ _ rfl hz));dsimp only [nA,cA])
   refine GChV.rel (n:=4) (IsOneC (bdL q)) (stable_isOneC _ (by simp [bdL])) [_,_,_,_,IsOneC (bdL q)] rfl rfl ?_ ?_
   ·intro K' a wy ho hd hb hK;rw [wN rfl];have q3:=hd ⟨3,.data⟩ (by simp) rfl;simp [rAt,IsV,slot] at q3;clear hd ho;go_simp;exact hK _ _ ⟨wy.heap.size,rfl,HoldsL.new wy (bdL q) _⟩ (bR.alloc lR _)
   intro X wz hR hz;obtain ⟨x0,x1,x2,x3,x4,-⟩:=hR;simp only [IsV] at x0 x1 x2 x3;simp only [putsFrom,x0,x1,x2,x3,putsFrom];clear x0 x1 x2 x3;obtain ⟨g7,e7,r7⟩:=x4;have SZ:=(HCP.out wz hz).1;obtain ⟨v6,w6,hrun,⟨gg,l6,c6,rfl⟩,hO6,S6⟩:=SZ.appB q g7 r7 hfl;have HRUN:Hid _:=hrun;have HS6:Hid _:=S6;have p1:w6.cell? ⟨O,0,none⟩=some v:=hO6.cell rfl;have p2:=hO6.free (j:=0) (by simp);clear hrun S6 hO6 SZ r7 hz HCP;simp only [e7];simp only [List.length_cons,List.length_nil,List.drop_succ_cons,List.drop_zero,Nat.zero_add,Nat.reduceAdd];intro K5 hK5;with_reducible refine wp_append_run (.tmp 16) (.tmp 19) _ rfl ?_ ?_ HRUN.out (hK5 _ _ ?_)
   ·simp [Act.eval,Act.put]
   ·simp [Act.eval,Act.put]
   intro K6 hK6;go_simp;refine hK6 _ _ ?_;intro K7 hK7;go_simp;refine hK7 _ _ ?_;simp only [wpSeq];go_wp2_with fail
   go_roundw
   case rel =>
    first | exact ⟨i+1,_,by omega,by go_num,by rw [HTK.out]; exact HS6.out⟩ | ((repeat apply Exists.intro); exact ⟨⟨i+1,_,by omega,by go_num,by rw [HTK.out]; exact HS6.out⟩,rfl⟩)
   case measure=>simp [intOf]<;>omega
  case neg =>
   have hie:i=x.binds.length:=by omega
   rw [hie,List.take_length] at S1;have hge:¬ (i:Int) < (x.binds.length:Int):=by omega
   clear hie hlt;obtain ⟨sa,sc,hsv,hsc,hso⟩:=S1.out.shapes.1;subst hsv;clear hsc hso;have c1:w4.cell? ⟨w.heap.size,1,none⟩=some (.slice bo x.sess.length cb):=(show HoldsL w4 w.heap.size (BbV ba ca bo cb x) from S1.out.k _ (List.mem_cons_self ..)).cell rfl;go_wp2_with fail
   clear c1 hge;have S9:Hid _:=S1.out;clear S1;generalize w4=V4 at *;go_loopw [26] (fun iv wr=>∃ (i:Nat) (v:Value),i≤x.sess.length∧iv=iV i∧RowsSt w base O [(w.heap.size,(BbV ba ca bo cb x)),(w.heap.size+1,[.slice none 0 0,.slice none 0 0])] (.slice sa x.binds.length sc) v (x.binds) (x.sess.take i) wr) (fun iv _=>x.sess.length-(intOf iv).toNat)
   case atStart=>exact ⟨0,_,Nat.zero_le _,rfl,S9.out⟩
   case round =>
    obtain ⟨i,v,hi,rfl,hS⟩:=hrel;have S1:Hid _:=hS;clear hS S9;generalize wr=w4 at *;by_cases hlt:i < x.sess.length
    case pos =>
     obtain ⟨bb,off,rfl,hb,hat⟩:=HSX.out.ss.at hlt;have hA:=(hat.below hb S1.out.b) i hlt;have HTK:Hid (x.sess.take (i+1)=x.sess.take i++[x.sess[i]]):=List.take_succ_eq_append_getElem hlt;have hfl:(x.sess.take i).length≤1048576:=by rw [List.length_take]; omega
     have hgd:=HGS.out x.sess[i] (List.getElem_mem hlt);obtain ⟨q,hq⟩ : ∃ q,q=x.sess[i]:=⟨_,rfl⟩;rw [← hq] at hA HTK hgd;have HGD:Hid (SsGood q):=hgd;have hltI:(i:Int) < (x.sess.length:Int):=by omega
     obtain ⟨s0,s1,s2,s3,s4,s5,s6⟩:=rc7 hA;generalize x.sess.take i=zs at *;clear hA hat hq hgd hb;go_upto_region 10 with fail
     have bn:Below w4.heap.size w4 (w4.alloc (.cells (SsV q).toArray 59)):=bR.alloc lR _;have HQ:Hid (HoldsL (w4.alloc (.cells (SsV q).toArray 59)) w4.heap.size (SsV q)):=HoldsL.new w4 (SsV q) 59;have S2:Hid _:=S1.out.kept bn;generalize (w4.alloc (.cells (SsV q).toArray 59))=W5 at *;clear bn S1 s0 s1 s2 s3 s4 s5 s6;generalize w4.heap.size=Bq at *;have HCY:Hid (∀ W,Cb 142 #[.agg (SsV q).toArray] W (.agg (SsV q).toArray)):=fun W=>copySession_any q W HGD.out.1 HGD.out.2.1
     have HCP:Hid (∀ wy,Below W5.drew.heap.size W5.drew wy→RowsSt w base O [(w.heap.size,(BbV ba ca (some ⟨bb,off,none⟩) cb x)),(w.heap.size+1,[.slice none 0 0,.slice none 0 0])] (.slice sa x.binds.length sc) v (x.binds) (zs) wy∧HoldsL wy Bq (SsV q)):=fun wy hy=>⟨S2.out.kept (bR.drew.trans hy),HQ.out.drew.kept (by simp) hy⟩
     clear hun;refine wp_region_growV [30,31,32,33,34] (by kernel_rfl) (by kernel_rfl) ?_;iterate 4 (apply GChV.u rfl;(·intro K' a wy ho hd hb hK;simp [rAt,IsV,slot,Region.binds] at ho hd;obtain ⟨hst,hqq⟩:=HCP.out wy hb;have ko:wy.cell? ⟨O,1,none⟩=some v:=hst.o.cell rfl;have kC:=hqq.c7;go_simp;first|((try go_bits);exact hK _ _ rfl bQ)|(refine (HCY.out wy).mono ?_;rintro e wz ⟨rfl,hz⟩;exact hK _ _ rfl hz));dsimp only [nA,cA])
     refine GChV.rel (n:=4) (IsOneC (ssL q)) (stable_isOneC _ (by simp [ssL])) [_,_,_,_,IsOneC (ssL q)] rfl rfl ?_ ?_
     ·intro K' a wy ho hd hb hK;rw [wN rfl];have q3:=hd ⟨3,.data⟩ (by simp) rfl;simp [rAt,IsV,slot] at q3;clear hd ho;go_simp;exact hK _ _ ⟨wy.heap.size,rfl,HoldsL.new wy (ssL q) _⟩ (bR.alloc lR _)
     intro X wz hR hz;obtain ⟨x0,x1,x2,x3,x4,-⟩:=hR;simp only [IsV] at x0 x1 x2 x3;simp only [putsFrom,x0,x1,x2,x3,putsFrom];clear x0 x1 x2 x3;obtain ⟨g7,e7,r7⟩:=x4;have SZ:=(HCP.out wz hz).1;obtain ⟨v6,w6,hrun,⟨gg,l6,c6,rfl⟩,hO6,S6⟩:=SZ.appS q g7 r7 hfl;have HRUN:Hid _:=hrun;have HS6:Hid _:=S6;have p1:w6.cell? ⟨O,1,none⟩=some v:=hO6.cell rfl;have p2:=hO6.free (j:=1) (by simp);clear hrun S6 hO6 SZ r7 hz HCP;simp only [e7];simp only [List.length_cons,List.length_nil,List.drop_succ_cons,List.drop_zero,Nat.zero_add,Nat.reduceAdd];intro K5 hK5;with_reducible refine wp_append_run (.tmp 31) (.tmp 34) _ rfl ?_ ?_ HRUN.out (hK5 _ _ ?_)
     ·simp [Act.eval,Act.put]
     ·simp [Act.eval,Act.put]
     intro K6 hK6;go_simp;refine hK6 _ _ ?_;intro K7 hK7;go_simp;refine hK7 _ _ ?_;simp only [wpSeq];go_wp2_with fail
     go_roundw
     case rel =>
      first | exact ⟨i+1,_,by omega,by go_num,by rw [HTK.out]; exact HS6.out⟩ | ((repeat apply Exists.intro); exact ⟨⟨i+1,_,by omega,by go_num,by rw [HTK.out]; exact HS6.out⟩,rfl⟩)
     case measure=>simp [intOf]<;>omega
    case neg =>
     have hie:i=x.sess.length:=by omega
     rw [hie,List.take_length] at S1;have hge:¬ (i:Int) < (x.sess.length:Int):=by omega
     clear hie hlt;obtain ⟨sb,cs1,hsv,_,_⟩:=S1.out.shapes.2;subst hsv;have HHz:=S1.out.at mE1;obtain ⟨z0,z1⟩:=HHz.c2;obtain ⟨zf0,zf1⟩:=HHz.f2;have HRR:Hid (HoldsL ((sW w4 (w.heap.size+1) 0 (.slice sa x.binds.length sc)).setCell ⟨w.heap.size+1,1,none⟩ (.slice sb x.sess.length cs1)) (w.heap.size+1) (BbV sa sc sb cs1 x)):=(HHz.set 0 (.slice sa x.binds.length sc)).set 1 (.slice sb x.sess.length cs1);have RB:Hid (Below w.heap.size w ((sW w4 (w.heap.size+1) 0 (.slice sa x.binds.length sc)).setCell ⟨w.heap.size+1,1,none⟩ (.slice sb x.sess.length cs1))):=(S1.out.b.setCell (p:=⟨w.heap.size+1,0,none⟩) hRw _).setCell (p:=⟨w.heap.size+1,1,none⟩) hRw _;have hkb:w.heap.size+1 < base:=(S1.out.kb _ mE1).1;have hwb:w.heap.size≤base:=by omega
     have O1:Hid (World.ownsRow ((sW w4 (w.heap.size+1) 0 (.slice sa x.binds.length sc)).setCell ⟨w.heap.size+1,1,none⟩ (.slice sb x.sess.length cs1)) w.heap.size 48 5 (.slice sa x.binds.length sc) x.binds.length (flatS bdL x.binds)):=rowDown (ownC_cell (ownC_cell S1.out.bo (ownC_ne S1.out.bo hkb)) (ownC_ne S1.out.bo hkb)) hwb;have O2:Hid (World.ownsRow ((sW w4 (w.heap.size+1) 0 (.slice sa x.binds.length sc)).setCell ⟨w.heap.size+1,1,none⟩ (.slice sb x.sess.length cs1)) w.heap.size 59 7 (.slice sb x.sess.length cs1) x.sess.length (flatS ssL x.sess)):=rowDown (ownC_cell (ownC_cell S1.out.so (ownC_ne S1.out.so hkb)) (ownC_ne S1.out.so hkb)) hwb;obtain ⟨p0,p1⟩:=S1.out.o.c2;clear HHz S1;go_wp2_with fail
     exact bodyPost_ret (results_mid Tryz.results109 _ _ _ _ _ rfl HRR.out Tryz.underlying31 rfl (show (Tryz.prog.info? 31).map (·.size)=some 2 by kernel_rfl)) rfl (And.intro ⟨_,_,rfl,O1.out,O2.out⟩ RB.out)
theorem bindFor_sz {p:Pl} {xs:List Bd} {h:En} (hps:∀ s∈p.addrs,s.size≤1048576) (hgb:∀ q∈xs,BdGood q) (he:EnIn h):(bindForV p xs h).1.inn.size≤1048576∧(bindForV p xs h).1.out.size≤1048576:=by
 unfold bindForV;split
 ·cases hf:xs.find? (ofIn h.proto h.addr h.port) with
  | none=>exact ⟨Nat.zero_le _,Nat.zero_le _⟩
  | some c=>exact ⟨(hgb c (List.mem_of_find?_eq_some hf)).1,(hgb c (List.mem_of_find?_eq_some hf)).2.1⟩
 ·exact ⟨he.1,outIn_sz hps hgb⟩
end Go.Proofs.YtdkepkaflielhaaGreatDoor
