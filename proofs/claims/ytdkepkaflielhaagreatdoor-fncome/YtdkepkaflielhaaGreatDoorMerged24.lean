import Derived.Test.YtdkepkaflielhaaGreatDoorIOpen
import Derived.Test.YtdkepkaflielhaaGreatDoorMerged23
set_option linter.unusedVariables false
set_option linter.unusedSimpArgs false
set_option maxRecDepth 100000
set_option maxHeartbeats 8000000
namespace Go.Proofs.YtdkepkaflielhaaGreatDoor
open Go.RowKit Go.PlainAid
theorem implBib_any (pa:Option Addr) (pc:Nat) (p:Pl) (ba bo:Option Addr) (ca cb:Nat) (x:Bb) (w:World) (hpl:p.addrs.length≤1048576) (hpc:p.addrs.length≤pc) (hps:∀ s∈p.addrs,s.size≤1048576) (hbl1:x.binds.length≤1048576) (hbl2:x.sess.length≤1048576) (hgb:∀ q∈x.binds,BdGood q) (hgs:∀ s∈x.sess,SsGood s) (hp:SlIs strL1 1 w pa p.addrs) (hx:BbIs w ba bo x) :
  Cb 85 #[plC pa pc p,bbC ba bo ca cb x] w (.bool (bibOk p x)):=by
 have HZ0:Hid (Below w.heap.size w ((aW w (PlV pa pc p) 27).alloc (.cells (BbV ba ca bo cb x).toArray 31))):=(bR.alloc lR _).alloc (by simp) _;have HP:HoldsL ((aW w (PlV pa pc p) 27).alloc (.cells (BbV ba ca bo cb x).toArray 31)) w.heap.size (PlV pa pc p):=(HoldsL.new w (PlV pa pc p) 27).alloc _;have HB:HoldsL ((aW w (PlV pa pc p) 27).alloc (.cells (BbV ba ca bo cb x).toArray 31)) (w.heap.size+1) (BbV ba ca bo cb x):=by
  have h:=HoldsL.new (w.alloc (.cells (PlV pa pc p).toArray 27)) (BbV ba ca bo cb x) 31;rw [World.size_alloc] at h; exact h
 have HOP:Hid (∀ W,Below w.heap.size w W→Calls Tryz.prog 104 #[.agg (PlV pa pc p).toArray,.agg (BbV ba ca bo cb x).toArray] W (OpenRet W pa pc p ba bo ca cb x)):=fun W hW=>open_any pa pc p ba bo ca cb x W hpl hpc hps hbl1 hbl2 hgb hgs (hp.below hW) (hx.below hW)
 have HV:Hid (bookOk p x=bibOk p x):=book_bib p x;clear hp hx hgb hgs hps;unfold plC bbC;go_enter Tryz.func85,Tryz.ntmps85
 go_upto_region 1 with fail
 generalize World.alloc _ _=W0 at *;obtain ⟨k0,k1,k2,k3,k4,k5,k6,k7,k8,k9⟩:=HP.c10;obtain ⟨c0,c1⟩:=HB.c2;clear HP HB;go_wp2_with fail
 refine (HOP.out _ HZ0.out).mono ?_;rintro e w1 ⟨q1,h⟩;have B1:Hid _:=HZ0.out.trans (q1.mono HZ0.out.size);clear q1 HZ0 HOP k0 k1 k2 k3 k4 k5 k6 k7 k8 k9 c0 c1;rcases h with ⟨hx,rfl⟩ | ⟨hx,m1,m2,rfl,hm1,hm2,hbk⟩
 ·have HX:Hid (bibOk p x=false):=by unfold Hid; rw [← HV.out]; exact hx
  unfold bkZ;clear hx;go_wp2_with fail
  go_ret;exact ⟨ret_bool HX.out.symm,B1.out.alloc B1.out.size _⟩
 ·have HX:Hid (bibOk p x=true):=by unfold Hid; rw [← HV.out]; exact hx
  unfold bkC;clear hx hbk;go_wp2_with fail
  go_ret;exact ⟨ret_bool HX.out.symm,B1.out.alloc B1.out.size _⟩
theorem implTime_any (n:Int) (w:World) :
  Cw 87 #[iV n] w (.bool (isTime n)):=by
 by_cases h1:0≤n
 ·by_cases h2:n≤1000000000
  ·have HV:Hid (isTime n=true):=by unfold Hid isTime isIn; simp [h1,h2]
   go_enter Tryz.func87,Tryz.ntmps87
   go_wp2_with fail
   go_ret;exact ⟨ret_bool (by rw [HV.out]),rfl⟩
  ·have HV:Hid (isTime n=false):=by unfold Hid isTime isIn; simp [h2]
   go_enter Tryz.func87,Tryz.ntmps87
   go_wp2_with fail
   go_ret;exact ⟨ret_bool (by rw [HV.out]),rfl⟩
 ·have HV:Hid (isTime n=false):=by unfold Hid isTime isIn; simp [h1]
  have h1':n < 0:=by omega
  go_enter Tryz.func87,Tryz.ntmps87
  go_wp2_with fail
  go_ret;exact ⟨ret_bool (by rw [HV.out]),rfl⟩
theorem implV4Right_any (p:P4) (w:World) (h1:p.src.size≤1048576) (h2:p.dst.size≤1048576) (h3:p.opts.size≤1048576) (h4:p.data.size≤1048576) :
  Cb 86 #[p4C p] w (.bool (v4Ok p)):=by
 have HB1:Hid (∀ W,Cw 121 #[iV p.tos] W (.bool (isIn p.tos 0 255))):=fun W=>implByte_any p.tos W
 have HB2:Hid (∀ W,Cw 121 #[iV p.ttl] W (.bool (isIn p.ttl 0 255))):=fun W=>implByte_any p.ttl W
 have HB3:Hid (∀ W,Cw 121 #[iV p.proto] W (.bool (isIn p.proto 0 255))):=fun W=>implByte_any p.proto W
 have HB4:Hid (∀ W,Cw 122 #[iV p.id] W (.bool (isIn p.id 0 65535))):=fun W=>implWordIs_any p.id W
 have HB5:Hid (∀ W,Cw 123 #[iV p.off,.bool p.more,.string p.data,iV 65515] W (.bool (pcV p.off p.more p.data 65515))):=fun W=>implPiece_any p.off p.more p.data 65515 W h4
 have HV:Hid (v4Ok p=_):=v4Ok_prog p;generalize v4Ok p=ok at *;obtain ⟨tos,id,whole,more,off,ttl,proto,src,dst,opts,data⟩:=p;unfold p4C;dsimp only at *;have HZ:Hid (Below w.heap.size w (w.alloc (.cells (P4R tos id whole more off ttl proto src dst opts data).toArray 33))):=bR.alloc lR _;generalize isIn tos 0 255=b1 at *;generalize isIn ttl 0 255=b2 at *;generalize isIn proto 0 255=b3 at *;generalize isIn id 0 65535=b4 at *;generalize pcV off more data 65515=b5 at *;go_enter Tryz.func86,Tryz.ntmps86
 go_wp2_with fail
 refine (HB1.out _).mono ?_;rintro e w2 ⟨rfl,rfl⟩
 cases b1 with
 | false =>
  have hun:undef=Value.tuple #[]:=rfl;go_wp2_with fail
  go_ret;exact ⟨ret_bool (by rw [HV.out]; simp),HZ.out⟩
 | true =>
  go_wp2_with fail
  refine (HB2.out _).mono ?_;rintro e w2 ⟨rfl,rfl⟩
  cases b2 with
  | false =>
   have hun:undef=Value.tuple #[]:=rfl;go_wp2_with fail
   go_ret;exact ⟨ret_bool (by rw [HV.out]; simp),HZ.out⟩
  | true =>
   go_wp2_with fail
   refine (HB3.out _).mono ?_;rintro e w2 ⟨rfl,rfl⟩
   cases b3 with
   | false =>
    have hun:undef=Value.tuple #[]:=rfl;go_wp2_with fail
    go_ret;exact ⟨ret_bool (by rw [HV.out]; simp),HZ.out⟩
   | true =>
    go_wp2_with fail
    refine (HB4.out _).mono ?_;rintro e w2 ⟨rfl,rfl⟩
    cases b4 with
    | false =>
     have hun:undef=Value.tuple #[]:=rfl;go_wp2_with fail
     go_ret;exact ⟨ret_bool (by rw [HV.out]; simp),HZ.out⟩
    | true =>
     by_cases s1:src.size=4
     ·have ds1:((src.size:Int)==4)=true:=by simp<;>omega
      have vs1:decide (src.size=4)=true:=decide_eq_true s1;rw [vs1] at HV;by_cases s2:dst.size=4
      ·have ds2:((dst.size:Int)==4)=true:=by simp<;>omega
       have vs2:decide (dst.size=4)=true:=decide_eq_true s2;rw [vs2] at HV;by_cases s3:opts.size≤40
       ·have ds3:decide ((opts.size:Int)≤40)=true:=by simp<;>omega
        have vs3:decide (opts.size≤40)=true:=decide_eq_true s3;rw [vs3] at HV;by_cases s4:opts.size % 4=0
        ·have ds4:(((opts.size:Int) % 4)==0)=true:=by simp<;>omega
         have vs4:decide (opts.size % 4=0)=true:=decide_eq_true s4;rw [vs4] at HV;go_wp2_with fail
         refine (HB5.out _).mono ?_;rintro e w2 ⟨rfl,rfl⟩
         cases b5 with
         | false =>
          have hun:undef=Value.tuple #[]:=rfl;go_wp2_with fail
          go_ret;exact ⟨ret_bool (by rw [HV.out]; simp),HZ.out⟩
         | true =>
          cases whole with
          | false =>
           have hun:undef=Value.tuple #[]:=rfl;go_wp2_with fail
           go_ret;exact ⟨ret_bool (by rw [HV.out]; simp),HZ.out⟩
          | true =>
           cases more with
           | true =>
            have hun:undef=Value.tuple #[]:=rfl;go_wp2_with fail
            go_ret;exact ⟨ret_bool (by rw [HV.out]; simp),HZ.out⟩
           | false =>
            by_cases t1:off=0
            ·rw [decide_eq_true t1] at HV;have dt1:(off != 0)=false:=by simp [t1]
             clear t1;have hun:undef=Value.tuple #[]:=rfl;go_wp2_with fail
             go_ret;exact ⟨ret_bool (by rw [HV.out]; simp),HZ.out⟩
            ·rw [decide_eq_false t1] at HV;have dt1:(off != 0)=true:=by simp [t1]
             have hun:undef=Value.tuple #[]:=rfl;go_wp2_with fail
             go_ret;exact ⟨ret_bool (by rw [HV.out]; simp),HZ.out⟩
        ·have ds4:(((opts.size:Int) % 4)==0)=false:=by simp<;>omega
         have vs4:decide (opts.size % 4=0)=false:=decide_eq_false s4;rw [vs4] at HV;have hun:undef=Value.tuple #[]:=rfl;go_wp2_with fail
         go_ret;exact ⟨ret_bool (by rw [HV.out]; simp),HZ.out⟩
       ·have ds3:decide ((opts.size:Int)≤40)=false:=by simp<;>omega
        have vs3:decide (opts.size≤40)=false:=decide_eq_false s3;rw [vs3] at HV;have hun:undef=Value.tuple #[]:=rfl;go_wp2_with fail
        go_ret;exact ⟨ret_bool (by rw [HV.out]; simp),HZ.out⟩
      ·have ds2:((dst.size:Int)==4)=false:=by simp<;>omega
       have vs2:decide (dst.size=4)=false:=decide_eq_false s2;rw [vs2] at HV;have hun:undef=Value.tuple #[]:=rfl;go_wp2_with fail
       go_ret;exact ⟨ret_bool (by rw [HV.out]; simp),HZ.out⟩
     ·have ds1:((src.size:Int)==4)=false:=by simp<;>omega
      have vs1:decide (src.size=4)=false:=decide_eq_false s1;rw [vs1] at HV;have hun:undef=Value.tuple #[]:=rfl;go_wp2_with fail
      go_ret;exact ⟨ret_bool (by rw [HV.out]; simp),HZ.out⟩
theorem ip9Ok_any (pa:Option Addr) (pc:Nat) (p:Pl) (ba bo:Option Addr) (ca cb:Nat) (x:Bb) (q:P4) (now:Int) (w:World) (hlp:p.addrs.length≤1048576) (hpc:p.addrs.length≤pc) (hsz:∀ s∈p.addrs,s.size≤1048576) (hl1:x.binds.length≤1048576) (hl2:x.sess.length≤1048576) (hgb:∀ q∈x.binds,BdGood q) (hgs:∀ s∈x.sess,SsGood s) (q1:q.src.size≤1048576) (q2:q.dst.size≤1048576) (q3:q.opts.size≤1048576) (q4:q.data.size≤1048576) (hp:SlIs strL1 1 w pa p.addrs) (hx:BbIs w ba bo x) :
  Cb 52 #[plC pa pc p,bbC ba bo ca cb x,p4C q,iV now] w (iV (natFt p x q now)):=by
 have HBR:Hid (∀ W,Below w.heap.size w W→Cb 85 #[plC pa pc p,bbC ba bo ca cb x] W (.bool (bibOk p x))):=fun W hW=>implBib_any pa pc p ba bo ca cb x W hlp hpc hsz hl1 hl2 hgb hgs (hp.below hW) (hx.below hW)
 have HV4:Hid (∀ W,Cb 86 #[p4C q] W (.bool (v4Ok q))):=fun W=>implV4Right_any q W q1 q2 q3 q4
 have HTM:Hid (∀ W,Cw 87 #[iV now] W (.bool (isTime now))):=fun W=>implTime_any now W
 have HV:Hid (natFt p x q now=if (bibOk p x&&v4Ok q&&isTime now)=false then 1 else if (q.more||decide (q.off≠0))=true then 10 else 0):=rfl;generalize natFt p x q now=ans at *;generalize bibOk p x=b1 at *;generalize v4Ok q=b2 at *;generalize isTime now=b3 at *;obtain ⟨tos,id,whole,more,off,ttl,proto,src,dst,opts,data⟩:=q;clear hp hx hsz hgb hgs;unfold plC bbC p4C at *;dsimp only at *;have hun:undef=Value.tuple #[]:=rfl;have HS0:=bx3 w (PlV pa pc p) 27 (BbV ba ca bo cb x) 31 (P4R tos id whole more off ttl proto src dst opts data) 33 (by simp) (by simp) (by simp)
 skip;go_enter Tryz.func52,Tryz.ntmps52
 go_upto_region 1 with fail
 generalize World.alloc _ _=W0 at *;have HHk:=HS0.out.at mE0;obtain ⟨k0,k1,k2,k3,k4,k5,k6,k7,k8,k9⟩:=HHk.c10;clear HHk;have HHl:=HS0.out.at mE1;obtain ⟨l0,l1⟩:=HHl.c2;clear HHl;go_wp2_with fail
 refine (HBR.out _ HS0.out.b).mono ?_;rintro e W1 ⟨rfl,r1⟩;have S1:Hid _:=HS0.out.kept r1;clear r1 HS0 k0 k1 k2 k3 k4 k5 k6 k7 k8 k9 l0 l1
 cases b1 with
 | false =>
  have HFB:Hid _:=S1.out.b;go_wp2_with fail
  go_ret;exact ⟨ret_int (by rw [HV.out]; rfl),HFB.out⟩
 | true =>
 have HHk:=S1.out.at mE2;obtain ⟨k0,k1,k2,k3,k4,k5,k6,k7,k8,k9,k10⟩:=HHk.c11;clear HHk;go_wp2_with fail
 refine (HV4.out _).mono ?_;rintro e W2 ⟨rfl,r2⟩;have S2:Hid _:=S1.out.kept r2;clear r2 S1 k0 k1 k2 k3 k4 k5 k6 k7 k8 k9 k10
 cases b2 with
 | false =>
  have HFB:Hid _:=S2.out.b;go_wp2_with fail
  go_ret;exact ⟨ret_int (by rw [HV.out]; rfl),HFB.out⟩
 | true =>
 go_wp2_with fail
 refine (HTM.out _).mono ?_;rintro e W2 ⟨rfl,rfl⟩
 cases b3 with
 | false =>
  have HFB:Hid _:=S2.out.b;go_wp2_with fail
  go_ret;exact ⟨ret_int (by rw [HV.out]; rfl),HFB.out⟩
 | true =>
 have HHk:=S2.out.at mE2;obtain ⟨k0,k1,k2,k3,k4,k5,k6,k7,k8,k9,k10⟩:=HHk.c11;clear HHk
 cases more with
 | true =>
  have HFB:Hid _:=S2.out.b;go_wp2_with fail
  go_ret;exact ⟨ret_int (by rw [HV.out]; rfl),HFB.out⟩
 | false =>
 by_cases ho:off=0
 case pos =>
  have d0:(off != 0)=false:=by simp [ho]
  have HFB:Hid _:=S2.out.b;go_wp2_with fail
  go_ret;exact ⟨ret_int (by rw [HV.out]; simp [ho]),HFB.out⟩
 have d0:(off != 0)=true:=by simp [ho]
 have HFB:Hid _:=S2.out.b;go_wp2_with fail
 go_ret;exact ⟨ret_int (by rw [HV.out]; simp [ho]),HFB.out⟩
theorem ipFlags_any (p:Int) (t:ByteArray) (w:World) (ht:t.size≤20000) (h20:p=6→20≤t.size) :
  Cb 59 #[iV p,.string t] w (iV (flagV p t)):=by
 by_cases h:p=6
 ·have h2:=h20 h;subst h;have HT:Hid (∀ W,Cb 103 #[.string t] W (iV (flagV 6 t))):=fun W=>(implTcpFlags_any t W (by omega)).mono fun e w' h=>⟨by rw [h.1]; unfold tcpFlagsV flagV; rw [if_neg (by omega),if_pos rfl],h.2⟩
  generalize flagV 6 t=ans at *;go_enter Tryz.func59,Tryz.ntmps59
  go_wp2_with fail
  refine (HT.out _).mono ?_;rintro e w2 ⟨rfl,r2⟩;have R2:Hid _:=r2;clear r2;go_wp2_with fail
  go_ret;exact ⟨rfl,R2.out⟩
 ·have HV:Hid (flagV p t=0):=if_neg h;have d0:(p != 6)=true:=by simp [h]
  generalize flagV p t=ans at *;go_enter Tryz.func59,Tryz.ntmps59
  go_wp2_with fail
  go_ret;exact ⟨ret_int (by rw [HV.out]),Below.refl _ _⟩
theorem ipPeer_any (p n:Int) (w:World) :
  Cb 204 #[iV p,iV n] w (iV (peerV p n)):=by
 have HE:Hid (∀ W,Cw 100 #[iV p] W (.bool (echoP p))):=fun W=>implEcho_any p W
 have HV:Hid (peerV p n=if echoP p=true then 0 else n):=rfl;generalize peerV p n=ans at *;generalize echoP p=b at *;go_enter Tryz.func204,Tryz.ntmps204
 go_wp2_with fail
 refine (HE.out _).mono ?_;rintro e w2 ⟨rfl,rfl⟩
 cases b with
 | false =>
  go_wp2_with fail
  go_ret;exact ⟨ret_int (by rw [HV.out]; rfl),Below.refl _ _⟩
 | true =>
  go_wp2_with fail
  go_ret;exact ⟨ret_int (by rw [HV.out]; rfl),Below.refl _ _⟩
theorem ipTouchI_any (f:Fl) (ra:Option Addr) (la ca:Nat) (w:World) :
  Cb 205 #[.agg #[.slice ra la ca],fwC f] w (tcC ⟨f.proto,false,f.dst,f.dp,f.src,peerV f.proto f.sp,0⟩):=by
 have HP:Hid (∀ W,Cb 204 #[iV f.proto,iV f.sp] W (iV (peerV f.proto f.sp))):=fun W=>ipPeer_any _ _ W
 generalize peerV f.proto f.sp=pv at *;obtain ⟨proto,src,dst,sp,dp⟩:=f;unfold fwC tcC;dsimp only at *;have HS0:Hid (Bxs w [(w.heap.size+1+1,(TcR 0 false ⟨#[]⟩ 0 ⟨#[]⟩ 0 0)),(w.heap.size+1,(FlR proto src dst sp dp))] ((aW (aW w [.slice ra la ca] 82) (FlR proto src dst sp dp) 43).alloc (.cells (TcR 0 false ⟨#[]⟩ 0 ⟨#[]⟩ 0 0).toArray 89))):=by
  have h:=((⟨fun e he=>(by cases he),bR.alloc lR _,fun e he=>(by cases he)⟩ : Bxs w [] (w.alloc (.cells #[.slice ra la ca] 82))).push (FlR proto src dst sp dp) (by simp) 43).push (TcR 0 false ⟨#[]⟩ 0 ⟨#[]⟩ 0 0) (by simp) 89;simp only [World.size_alloc] at h;exact h
 have hRw:w.heap.size≤w.heap.size+1+1:=by omega
 go_enter Tryz.func205,Tryz.ntmps205
 go_upto_region 1 with fail
 generalize World.alloc _ _=W0 at *;have HCP:Hid (∀ wy,Below W0.drew.heap.size W0.drew wy→_):=fun wy hy=>HS0.out.kept (bR.drew.trans hy)
 clear HS0;refine wp_region_growV [5,6,7,8,9,10,11,12,13,14,15,16,17,18] (by kernel_rfl) (by kernel_rfl) ?_;iterate 14 (apply GChV.u rfl;(·intro K' a wy ho hd hb hK;simp [rAt,IsV,slot,Region.binds] at ho hd;have hst:=HCP.out wy hb;have kC:=(hst.at mE1).c5;clear hst;go_simp;first|((try go_bits);exact hK _ _ rfl bQ)|(refine (HP.out wy).mono ?_;rintro e wz ⟨rfl,hz⟩;exact hK _ _ rfl hz));dsimp only [nA,cA])
 intro X wz hR hz;simp only [List.nil_append,List.cons_append,RAll,IsV] at hR;simp only [putsFrom,hR];clear hR;have V7:Hid (Bxs w [(w.heap.size+1+1,(TcR 0 false ⟨#[]⟩ 0 ⟨#[]⟩ 0 0)),(w.heap.size+1,(FlR proto src dst sp dp))] wz):=HCP.out wz hz;clear hz HCP HP;have HHz:=V7.out.at mE0;obtain ⟨z0,z1,z2,z3,z4,z5,z6⟩:=HHz.c7;obtain ⟨zf0,zf1,zf2,zf3,zf4,zf5,zf6⟩:=HHz.f7;obtain ⟨HRR,RB⟩:=st7 HHz V7.out.b hRw (iV proto) (.bool false) (.string dst) (iV dp) (.string src) (iV pv) (iV 0);clear HHz;clear V7;intro K10 hK10;go_simp;refine hK10 _ _ ?_;simp only [wpSeq];go_wp2_with fail
 exact bodyPost_ret (results_mid Tryz.results205 _ _ _ _ _ rfl HRR.out Tryz.underlying89 rfl (show (Tryz.prog.info? 89).map (·.size)=some 7 by kernel_rfl)) rfl (And.intro rfl RB.out)
theorem ipTurnI_any (f:Fl) (c:Bd) (ra:Option Addr) (la ca:Nat) (w:World) :
  Cb 206 #[.agg #[.slice ra la ca],fwC f,bdC c] w (fwC ⟨f.proto,f.src,c.inn,if echoP f.proto=true then c.inPort else f.sp,c.inPort⟩):=by
 have HE:Hid (∀ W,Cw 100 #[iV f.proto] W (.bool (echoP f.proto))):=fun W=>implEcho_any _ W
 generalize echoP f.proto=b at *;obtain ⟨proto,src,dst,sp,dp⟩:=f;obtain ⟨cp,ci,cn,co,cm⟩:=c;unfold fwC bdC;dsimp only at *;have HS0:Hid (Bxs w [(w.heap.size+1+1+1,(FlR 0 ⟨#[]⟩ ⟨#[]⟩ 0 0)),(w.heap.size+1+1,(BdR cp ci cn co cm)),(w.heap.size+1,(FlR proto src dst sp dp))] ((aW (aW (aW w [.slice ra la ca] 82) (FlR proto src dst sp dp) 43) (BdR cp ci cn co cm) 48).alloc (.cells (FlR 0 ⟨#[]⟩ ⟨#[]⟩ 0 0).toArray 43))):=by
  have h:=(((⟨fun e he=>(by cases he),bR.alloc lR _,fun e he=>(by cases he)⟩ : Bxs w [] (w.alloc (.cells #[.slice ra la ca] 82))).push (FlR proto src dst sp dp) (by simp) 43).push (BdR cp ci cn co cm) (by simp) 48).push (FlR 0 ⟨#[]⟩ ⟨#[]⟩ 0 0) (by simp) 43;simp only [World.size_alloc] at h;exact h
 have hRw:w.heap.size≤w.heap.size+1+1+1:=by omega
 have hFw:w.heap.size≤w.heap.size+1:=by omega
 go_enter Tryz.func206,Tryz.ntmps206
 go_upto_region 1 with fail
 generalize World.alloc _ _=W0 at *;have HSET:Hid (∀ wx,Bxs w [(w.heap.size+1+1+1,(FlR 0 ⟨#[]⟩ ⟨#[]⟩ 0 0)),(w.heap.size+1+1,(BdR cp ci cn co cm)),(w.heap.size+1,(FlR proto src dst sp dp))] wx→Bxs w [(w.heap.size+1+1+1,(FlR 0 ⟨#[]⟩ ⟨#[]⟩ 0 0)),(w.heap.size+1+1,(BdR cp ci cn co cm)),(w.heap.size+1,(FlR proto src ci sp cn))] ((sW wx (w.heap.size+1) 2 (.string ci)).setCell ⟨w.heap.size+1,4,none⟩ (iV cn))):=fun wx h=>⟨fun e he=>by
  simp only [List.mem_cons,List.not_mem_nil,or_false] at he;rcases he with rfl | rfl | rfl
  ·exact (HoldsL.setOther (HoldsL.setOther (h.k _ mE0) (by show w.heap.size+1+1+1≠w.heap.size+1; omega) _) (by show w.heap.size+1+1+1≠w.heap.size+1; omega) _)
  ·exact (HoldsL.setOther (HoldsL.setOther (h.k _ mE1) (by show w.heap.size+1+1≠w.heap.size+1; omega) _) (by show w.heap.size+1+1≠w.heap.size+1; omega) _)
  ·exact (HoldsL.set (HoldsL.set (h.k _ mE2) 2 (.string ci)) 4 (iV cn)),((h.b.setCell (p:=⟨w.heap.size+1,2,none⟩) hFw _).setCell (p:=⟨w.heap.size+1,4,none⟩) hFw _),fun e he=>by
  simp only [List.mem_cons,List.not_mem_nil,or_false] at he;rcases he with rfl | rfl | rfl<;>simp⟩
 go_cut [12] (fun v wx=>Bxs w [(w.heap.size+1+1+1,(FlR 0 ⟨#[]⟩ ⟨#[]⟩ 0 0)),(w.heap.size+1+1,(BdR cp ci cn co cm)),(w.heap.size+1,(FlR proto src ci sp cn))] wx)
 case first =>
  rename_i J K2 hJ hK2;have HHk:=HS0.out.at mE2;obtain ⟨k0,k1,k2,k3,k4⟩:=HHk.c5;obtain ⟨kf0,kf1,kf2,kf3,kf4⟩:=HHk.f5;have HHl:=HS0.out.at mE1;obtain ⟨l0,l1,l2,l3,l4⟩:=HHl.c5;clear HHl;have HD:Hid _:=(HSET.out W0 HS0.out).kept bR.drew;clear HHk HS0 HSET;go_region
  all_goals refine hK2 _ _ (hJ _ _ ?_)
  all_goals (repeat apply Exists.intro)
  all_goals exact ⟨HD.out,rfl⟩
 case rest =>
 have S1:Hid (Bxs w [(w.heap.size+1+1+1,(FlR 0 ⟨#[]⟩ ⟨#[]⟩ 0 0)),(w.heap.size+1+1,(BdR cp ci cn co cm)),(w.heap.size+1,(FlR proto src ci sp cn))] wc):=hcut;clear hcut HS0 HSET;generalize wc=W1 at *;have HHk:=S1.out.at mE2;obtain ⟨k0,k1,k2,k3,k4⟩:=HHk.c5;clear HHk;go_wp2_with fail
 refine (HE.out _).mono ?_;rintro e W1 ⟨rfl,rfl⟩
 cases b with
 | false =>
  have HHz:=S1.out.at mE0;obtain ⟨z0,z1,z2,z3,z4⟩:=HHz.c5;obtain ⟨zf0,zf1,zf2,zf3,zf4⟩:=HHz.f5;obtain ⟨HRR,RB⟩:=st5 HHz S1.out.b hRw (iV proto) (.string src) (.string ci) (iV sp) (iV cn);clear HHz;go_wp2_with fail
  exact bodyPost_ret (results_mid Tryz.results206 _ _ _ _ _ rfl HRR.out Tryz.underlying43 rfl (show (Tryz.prog.info? 43).map (·.size)=some 5 by kernel_rfl)) rfl (And.intro rfl RB.out)
 | true =>
  have S2:Hid (Bxs w [(w.heap.size+1+1+1,(FlR 0 ⟨#[]⟩ ⟨#[]⟩ 0 0)),(w.heap.size+1+1,(BdR cp ci cn co cm)),(w.heap.size+1,(FlR proto src ci cn cn))] (W1.setCell ⟨w.heap.size+1,3,none⟩ (iV cn))):=⟨fun e he=>by
   simp only [List.mem_cons,List.not_mem_nil,or_false] at he;rcases he with rfl | rfl | rfl
   ·exact (HoldsL.setOther (S1.out.k _ mE0) (by show w.heap.size+1+1+1≠w.heap.size+1; omega) _)
   ·exact (HoldsL.setOther (S1.out.k _ mE1) (by show w.heap.size+1+1≠w.heap.size+1; omega) _)
   ·exact (HoldsL.set (S1.out.k _ mE2) 3 (iV cn)),(S1.out.b.setCell (p:=⟨w.heap.size+1,3,none⟩) hFw _),fun e he=>by
   simp only [List.mem_cons,List.not_mem_nil,or_false] at he;rcases he with rfl | rfl | rfl<;>simp⟩
  have kf:=(S1.out.k _ mE2).free (j:=3) (by simp);have HHl:=S1.out.at mE1;obtain ⟨l0,l1,l2,l3,l4⟩:=HHl.c5;clear HHl;go_upto_region 4 with fail
  generalize (W1.setCell ⟨w.heap.size+1,3,none⟩ (iV cn))=W2 at *;clear S1 kf k0 k1 k2 k3 k4 l0 l1 l2 l3 l4;have HHk:=S2.out.at mE2;obtain ⟨k0,k1,k2,k3,k4⟩:=HHk.c5;clear HHk;have HHz:=S2.out.at mE0;obtain ⟨z0,z1,z2,z3,z4⟩:=HHz.c5;obtain ⟨zf0,zf1,zf2,zf3,zf4⟩:=HHz.f5;obtain ⟨HRR,RB⟩:=st5 HHz S2.out.b hRw (iV proto) (.string src) (.string ci) (iV cn) (iV cn);clear HHz;go_wp2_with fail
  exact bodyPost_ret (results_mid Tryz.results206 _ _ _ _ _ rfl HRR.out Tryz.underlying43 rfl (show (Tryz.prog.info? 43).map (·.size)=some 5 by kernel_rfl)) rfl (And.intro rfl RB.out)
def IsQuadW (x y:Int):Value→World→Prop:=fun v w=>∃ b,v=.slice (some ⟨b,0,none⟩) 4 4∧w.cell? ⟨b,0,none⟩=some (.int .u8 x)∧w.cell? ⟨b,1,none⟩=some (.int .u8 0)∧w.cell? ⟨b,2,none⟩=some (.int .u8 0)∧w.cell? ⟨b,3,none⟩=some (.int .u8 y)
theorem stable_isQuadW (x y:Int):Stable (IsQuadW x y):=fun v w w' ⟨b,h1,h2,h3,h4,h5⟩ hb=>by
 have hlt:=World.block_lt_of_cell? w _ h2;exact ⟨b,h1,((bcell hb).1 b 0 hlt).trans h2,((bcell hb).1 b 1 hlt).trans h3,((bcell hb).1 b 2 hlt).trans h4,((bcell hb).1 b 3 hlt).trans h5⟩
theorem quadW_conv {w:World} {b cap:Nat} {x y:Int} (hx:0≤x∧x≤255) (hy:0≤y∧y≤255) (h0:w.cell? ⟨b,0,none⟩=some (.int .u8 x)) (h1:w.cell? ⟨b,1,none⟩=some (.int .u8 0)) (h2:w.cell? ⟨b,2,none⟩=some (.int .u8 0)) (h3:w.cell? ⟨b,3,none⟩=some (.int .u8 y)) :
  (convert 22 9 (.slice (some ⟨b,0,none⟩) 4 cap)).run Tryz.prog w=.ok (.string (quadW x y)) w :=
 run_convert_bytes_back (P:=Tryz.prog) w 22 9 5 ⟨b,0,none⟩ cap [UInt8.ofNat x.toNat,0,0,UInt8.ofNat y.toNat] Tryz.underlying22 Tryz.underlying5 Tryz.underlying9 (by
  intro j hj;match j,hj with
  | 0,_=>simp only [Addr.add,Nat.add_zero,List.getElem_cons_zero]; rw [u8_ofNat _ hx.1 hx.2]; exact h0
  | 1,_=>simp only [Addr.add,Nat.zero_add,List.getElem_cons_succ,List.getElem_cons_zero]; exact h1
  | 2,_=>simp only [Addr.add,Nat.zero_add,List.getElem_cons_succ,List.getElem_cons_zero]; exact h2
  | 3,_=>simp only [Addr.add,Nat.zero_add,List.getElem_cons_succ,List.getElem_cons_zero]; rw [u8_ofNat _ hy.1 hy.2]; exact h3)
theorem spPseudo_any (s d:ByteArray) (p:Int) (n:Nat) (w:World) (hs:s.size≤16) (hd:d.size≤16) (hp:0≤p∧p≤255) (hn:n≤65535) :
  Cb 71 #[.string s,.string d,iV p,iV n] w (.string (pseudoV s d p n)):=by
 have hun:undef=Value.tuple #[]:=rfl;have n1:¬ 9223372036854775807 < s.size+d.size:=by omega
 have z1:=pairV_size 0 p;have z2:=twoV_size (n:Int);by_cases h1:p=1∧s.size=4
 ·obtain ⟨rfl,h4⟩:=h1;have d4:((s.size:Int)==4)=true:=by simp; omega
  have HV:Hid (pseudoV s d 1 n=⟨#[]⟩):=by unfold Hid pseudoV; rw [if_pos ⟨rfl,h4⟩]
  generalize pseudoV s d 1 n=ans at *;clear h4;go_enter Tryz.func71,Tryz.ntmps71
  go_wp2_with fail
  go_ret;exact ⟨by rw [HV.out]; rfl,Below.refl _ _⟩
 by_cases h4:s.size=4
 ·have d4:((s.size:Int)==4)=true:=by simp; omega
  have d1:(p==1)=false:=by simp; exact fun e=>h1 ⟨e,h4⟩
  have HZ:Hid (pseudoV s d p n=s++d++pairV 0 p++twoV (n:Int)):=by unfold Hid pseudoV; rw [if_neg h1,if_pos h4]
  generalize pseudoV s d p n=ans at *;clear h1 h4;have n2:¬ 9223372036854775807 < s.size+d.size+(pairV 0 p).size:=by omega
  have n3:¬ 9223372036854775807 < s.size+d.size+(pairV 0 p).size+(twoV (n:Int)).size:=by omega
  have n2b:¬ 9223372036854775807 < s.size+d.size+2:=by omega
  have n3b:¬ 9223372036854775807 < s.size+d.size+2+2:=by omega
  go_enter Tryz.func71,Tryz.ntmps71
  go_upto_region 4 with fail
  go_cut [8] (fun v wx=>v=.string ans∧Below w.heap.size w wx)
  case first =>
   rename_i J K2 hJ hK2;clear hun;refine wp_region_growL (Rs:=[IsV (.string s),IsV (.string d),IsV (.string (s++d)),IsV (iV p),IsV (.int .u8 p),IsRow (0) (p),IsV (.string (pairV 0 p)),IsV (.string (s++d++pairV 0 p)),IsV (iV (n:Int)),IsV (.string (twoV (n:Int))),IsV (.string (s++d++pairV 0 p++twoV (n:Int))),IsV (.string (s++d++pairV 0 p++twoV (n:Int)))]) [19,20,21,22,23,24,25,26,27,28,29,8] (by kernel_rfl) (by kernel_rfl) rfl ?st ?steps ?done
   case st=>simp [stable_isV,stable_isRow]
   case steps =>
    refine ⟨?s0,?s1,?s2,?s3,?s4,?s5,?s6,?s7,?s8,?s9,?s10,?s11,trivial⟩
    case s0 =>
     intro K' a wy ho hd hb hK;have h3:=ho 0 (by decide);simp [slot] at h3;clear hd;go_simp;try go_bits
     exact hK _ _ rfl bR
    case s1 =>
     intro K' a wy ho hd hb hK;have h3:=ho 1 (by decide);simp [slot] at h3;clear hd;go_simp;try go_bits
     exact hK _ _ rfl bR
    case s2 =>
     intro K' a wy ho hd hb hK;simp [Region.binds,rAt,IsV,slot] at hd;go_simp;try go_bits
     exact hK _ _ rfl bR
    case s3 =>
     intro K' a wy ho hd hb hK;have h3:=ho 2 (by decide);simp [slot] at h3;clear hd;go_simp;try go_bits
     exact hK _ _ rfl bR
    case s4 =>
     intro K' a wy ho hd hb hK;simp [Region.binds,rAt,IsV,slot] at hd;go_simp;try go_bits
     exact hK _ _ rfl bR
    case s5 =>
     intro K' a wy ho hd hb hK;simp [Region.binds,rAt,IsV,slot] at hd;go_simp;exact hK _ _ ⟨wy.heap.size,rfl,by simp,by simp⟩ (bR.alloc lR _)
    case s6 =>
     intro K' a wy ho hd hb hK;simp only [List.forall_mem_singleton,Array.mem_def,List.mem_singleton,forall_eq] at hd;obtain ⟨b,hd1,hd2,hd3⟩ : IsRow (0) (p) (slot a 24) wy:=hd rfl;have hcv:=pair_conv (cap:=2) (by omega) (by omega) hd2 hd3;simp [slot] at hd1;go_simp;try go_bits
     exact hK _ _ rfl bR
    case s7 =>
     intro K' a wy ho hd hb hK;simp [Region.binds,rAt,IsV,slot] at hd;go_simp;try go_bits
     exact hK _ _ rfl bR
    case s8 =>
     intro K' a wy ho hd hb hK;have h3:=ho 3 (by decide);simp [slot] at h3;clear hd;go_simp;try go_bits
     exact hK _ _ rfl bR
    case s9 =>
     intro K' a wy ho hd hb hK;simp [Region.binds,rAt,IsV,slot] at hd;go_simp;refine (specTwo_any (n:Int) wy (by omega) (by omega)).mono ?_;rintro e wz ⟨rfl,hz⟩;exact hK _ _ rfl hz
    case s10 =>
     intro K' a wy ho hd hb hK;simp [Region.binds,rAt,IsV,slot] at hd;go_simp;try go_bits
     exact hK _ _ rfl bR
    case s11 =>
     intro K' a wy ho hd hb hK;simp [Region.binds,rAt,IsV,slot] at hd;go_simp;try go_bits
     exact hK _ _ rfl bR
   case done =>
    intro X wz hR hz;obtain ⟨x0,x1,x2,x3,x4,⟨b5,x5,-,-⟩,x6,x7,x8,x9,x10,x11,-⟩:=hR;simp only [IsV] at x0 x1 x2 x3 x4 x6 x7 x8 x9 x10 x11;simp only [putsFrom,x0,x1,x2,x3,x4,x5,x6,x7,x8,x9,x10,x11];clear x0 x1 x2 x3 x4 x5 x6 x7 x8 x9 x10 x11;go_simp;refine hK2 _ _ (hJ _ _ ?_);(repeat apply Exists.intro)
    refine ⟨⟨by rw [HZ.out],(Below.refl _ w).drew.trans hz⟩,rfl⟩
  case rest =>
  obtain ⟨rfl,hb⟩:=hcut;go_wp2_with fail
  go_ret;exact ⟨rfl,hb⟩
 ·have d4:((s.size:Int)==4)=false:=by simp; omega
  have HZ:Hid (pseudoV s d p n=s++d++twoV ((n:Int) / 65536)++twoV ((n:Int) % 65536)++quadW 0 p):=by unfold Hid pseudoV; rw [if_neg h1,if_neg h4]
  generalize pseudoV s d p n=ans at *;clear h1;have a1:=and_65535 (n:Int);have n2:¬ 9223372036854775807 < s.size+d.size+(twoV ((n:Int) / 65536)).size:=by rw [twoV_size]; omega
  have n3:¬ 9223372036854775807 < s.size+d.size+(twoV ((n:Int) / 65536)).size+(twoV ((n:Int) % 65536)).size:=by rw [twoV_size,twoV_size]; omega
  have n4:¬ 9223372036854775807 < s.size+d.size+(twoV ((n:Int) / 65536)).size+(twoV ((n:Int) % 65536)).size+(quadW 0 p).size:=by rw [twoV_size,twoV_size,quadW_size]; omega
  by_cases dp:p=1
  ·have d1:(p==1)=true:=by simp [dp]
   clear dp;go_enter Tryz.func71,Tryz.ntmps71
   go_upto_region 5 with fail
   go_cut [8] (fun v wx=>v=.string ans∧Below w.heap.size w wx)
   case first =>
    rename_i J K2 hJ hK2;clear hun;refine wp_region_growL (Rs:=[IsV (.string s),IsV (.string d),IsV (.string (s++d)),IsV (iV (n:Int)),IsV (iV ((n:Int) / 65536)),IsV (.string (twoV ((n:Int) / 65536))),IsV (.string (s++d++twoV ((n:Int) / 65536))),IsV (iV (n:Int)),IsV (iV ((n:Int) % 65536)),IsV (.string (twoV ((n:Int) % 65536))),IsV (.string (s++d++twoV ((n:Int) / 65536)++twoV ((n:Int) % 65536))),IsV (iV p),IsV (.int .u8 p),IsQuadW (0) (p),IsV (.string (quadW 0 p)),IsV (.string (s++d++twoV ((n:Int) / 65536)++twoV ((n:Int) % 65536)++quadW 0 p)),IsV (.string (s++d++twoV ((n:Int) / 65536)++twoV ((n:Int) % 65536)++quadW 0 p))]) [30,31,32,33,34,35,36,37,38,39,40,41,42,43,44,45,8] (by kernel_rfl) (by kernel_rfl) rfl ?st ?steps ?done
    case st=>simp [stable_isV,stable_isQuadW]
    case steps =>
     refine ⟨?s0,?s1,?s2,?s3,?s4,?s5,?s6,?s7,?s8,?s9,?s10,?s11,?s12,?s13,?s14,?s15,?s16,trivial⟩
     case s0 =>
      intro K' a wy ho hd hb hK;have h3:=ho 0 (by decide);simp [slot] at h3;clear hd;go_simp;try go_bits
      exact hK _ _ rfl bR
     case s1 =>
      intro K' a wy ho hd hb hK;have h3:=ho 1 (by decide);simp [slot] at h3;clear hd;go_simp;try go_bits
      exact hK _ _ rfl bR
     case s2 =>
      intro K' a wy ho hd hb hK;simp [Region.binds,rAt,IsV,slot] at hd;go_simp;try go_bits
      exact hK _ _ rfl bR
     case s3 =>
      intro K' a wy ho hd hb hK;have h3:=ho 3 (by decide);simp [slot] at h3;clear hd;go_simp;try go_bits
      exact hK _ _ rfl bR
     case s4 =>
      intro K' a wy ho hd hb hK;simp [Region.binds,rAt,IsV,slot] at hd;go_simp;try go_bits
      exact hK _ _ rfl bR
     case s5 =>
      intro K' a wy ho hd hb hK;simp [Region.binds,rAt,IsV,slot] at hd;go_simp;refine (specTwo_any ((n:Int) / 65536) wy (by omega) (by omega)).mono ?_;rintro e wz ⟨rfl,hz⟩;exact hK _ _ rfl hz
     case s6 =>
      intro K' a wy ho hd hb hK;simp [Region.binds,rAt,IsV,slot] at hd;go_simp;try go_bits
      exact hK _ _ rfl bR
     case s7 =>
      intro K' a wy ho hd hb hK;have h3:=ho 3 (by decide);simp [slot] at h3;clear hd;go_simp;try go_bits
      exact hK _ _ rfl bR
     case s8 =>
      intro K' a wy ho hd hb hK;simp [Region.binds,rAt,IsV,slot] at hd;go_simp;try go_bits
      exact hK _ _ rfl bR
     case s9 =>
      intro K' a wy ho hd hb hK;simp [Region.binds,rAt,IsV,slot] at hd;go_simp;refine (specTwo_any ((n:Int) % 65536) wy (by omega) (by omega)).mono ?_;rintro e wz ⟨rfl,hz⟩;exact hK _ _ rfl hz
     case s10 =>
      intro K' a wy ho hd hb hK;simp [Region.binds,rAt,IsV,slot] at hd;go_simp;try go_bits
      exact hK _ _ rfl bR
     case s11 =>
      intro K' a wy ho hd hb hK;have h3:=ho 2 (by decide);simp [slot] at h3;clear hd;go_simp;try go_bits
      exact hK _ _ rfl bR
     case s12 =>
      intro K' a wy ho hd hb hK;simp [Region.binds,rAt,IsV,slot] at hd;go_simp;try go_bits
      exact hK _ _ rfl bR
     case s13 =>
      intro K' a wy ho hd hb hK;simp [Region.binds,rAt,IsV,slot] at hd;go_simp;exact hK _ _ ⟨wy.heap.size,rfl,by simp,by simp,by simp,by simp⟩ (bR.alloc lR _)
     case s14 =>
      intro K' a wy ho hd hb hK;simp only [List.forall_mem_singleton,Array.mem_def,List.mem_singleton,forall_eq] at hd;obtain ⟨b,hd1,hd2,hd3,hd4,hd5⟩ : IsQuadW (0) (p) (slot a 43) wy:=hd rfl;have hcv:=quadW_conv (cap:=4) (by omega) (by omega) hd2 hd3 hd4 hd5;simp [slot] at hd1;go_simp;try go_bits
      exact hK _ _ rfl bR
     case s15 =>
      intro K' a wy ho hd hb hK;simp [Region.binds,rAt,IsV,slot] at hd;go_simp;try go_bits
      exact hK _ _ rfl bR
     case s16 =>
      intro K' a wy ho hd hb hK;simp [Region.binds,rAt,IsV,slot] at hd;go_simp;try go_bits
      exact hK _ _ rfl bR
    case done =>
     intro X wz hR hz;obtain ⟨x0,x1,x2,x3,x4,x5,x6,x7,x8,x9,x10,x11,x12,⟨b13,x13,-,-,-,-⟩,x14,x15,x16,-⟩:=hR;simp only [IsV] at x0 x1 x2 x3 x4 x5 x6 x7 x8 x9 x10 x11 x12 x14 x15 x16;simp only [putsFrom,x0,x1,x2,x3,x4,x5,x6,x7,x8,x9,x10,x11,x12,x13,x14,x15,x16];clear x0 x1 x2 x3 x4 x5 x6 x7 x8 x9 x10 x11 x12 x13 x14 x15 x16;go_simp;refine hK2 _ _ (hJ _ _ ?_);(repeat apply Exists.intro)
     refine ⟨⟨by rw [HZ.out],(Below.refl _ w).drew.trans hz⟩,rfl⟩
   case rest =>
   obtain ⟨rfl,hb⟩:=hcut;go_wp2_with fail
   go_ret;exact ⟨rfl,hb⟩
  ·have d1:(p==1)=false:=by simp [dp]
   go_enter Tryz.func71,Tryz.ntmps71
   go_upto_region 5 with fail
   go_cut [8] (fun v wx=>v=.string ans∧Below w.heap.size w wx)
   case first =>
    rename_i J K2 hJ hK2;clear hun;refine wp_region_growL (Rs:=[IsV (.string s),IsV (.string d),IsV (.string (s++d)),IsV (iV (n:Int)),IsV (iV ((n:Int) / 65536)),IsV (.string (twoV ((n:Int) / 65536))),IsV (.string (s++d++twoV ((n:Int) / 65536))),IsV (iV (n:Int)),IsV (iV ((n:Int) % 65536)),IsV (.string (twoV ((n:Int) % 65536))),IsV (.string (s++d++twoV ((n:Int) / 65536)++twoV ((n:Int) % 65536))),IsV (iV p),IsV (.int .u8 p),IsQuadW (0) (p),IsV (.string (quadW 0 p)),IsV (.string (s++d++twoV ((n:Int) / 65536)++twoV ((n:Int) % 65536)++quadW 0 p)),IsV (.string (s++d++twoV ((n:Int) / 65536)++twoV ((n:Int) % 65536)++quadW 0 p))]) [30,31,32,33,34,35,36,37,38,39,40,41,42,43,44,45,8] (by kernel_rfl) (by kernel_rfl) rfl ?st ?steps ?done
    case st=>simp [stable_isV,stable_isQuadW]
    case steps =>
     refine ⟨?s0,?s1,?s2,?s3,?s4,?s5,?s6,?s7,?s8,?s9,?s10,?s11,?s12,?s13,?s14,?s15,?s16,trivial⟩
     case s0 =>
      intro K' a wy ho hd hb hK;have h3:=ho 0 (by decide);simp [slot] at h3;clear hd;go_simp;try go_bits
      exact hK _ _ rfl bR
     case s1 =>
      intro K' a wy ho hd hb hK;have h3:=ho 1 (by decide);simp [slot] at h3;clear hd;go_simp;try go_bits
      exact hK _ _ rfl bR
     case s2 =>
      intro K' a wy ho hd hb hK;simp [Region.binds,rAt,IsV,slot] at hd;go_simp;try go_bits
      exact hK _ _ rfl bR
     case s3 =>
      intro K' a wy ho hd hb hK;have h3:=ho 3 (by decide);simp [slot] at h3;clear hd;go_simp;try go_bits
      exact hK _ _ rfl bR
     case s4 =>
      intro K' a wy ho hd hb hK;simp [Region.binds,rAt,IsV,slot] at hd;go_simp;try go_bits
      exact hK _ _ rfl bR
     case s5 =>
      intro K' a wy ho hd hb hK;simp [Region.binds,rAt,IsV,slot] at hd;go_simp;refine (specTwo_any ((n:Int) / 65536) wy (by omega) (by omega)).mono ?_;rintro e wz ⟨rfl,hz⟩;exact hK _ _ rfl hz
     case s6 =>
      intro K' a wy ho hd hb hK;simp [Region.binds,rAt,IsV,slot] at hd;go_simp;try go_bits
      exact hK _ _ rfl bR
     case s7 =>
      intro K' a wy ho hd hb hK;have h3:=ho 3 (by decide);simp [slot] at h3;clear hd;go_simp;try go_bits
      exact hK _ _ rfl bR
     case s8 =>
      intro K' a wy ho hd hb hK;simp [Region.binds,rAt,IsV,slot] at hd;go_simp;try go_bits
      exact hK _ _ rfl bR
     case s9 =>
      intro K' a wy ho hd hb hK;simp [Region.binds,rAt,IsV,slot] at hd;go_simp;refine (specTwo_any ((n:Int) % 65536) wy (by omega) (by omega)).mono ?_;rintro e wz ⟨rfl,hz⟩;exact hK _ _ rfl hz
     case s10 =>
      intro K' a wy ho hd hb hK;simp [Region.binds,rAt,IsV,slot] at hd;go_simp;try go_bits
      exact hK _ _ rfl bR
     case s11 =>
      intro K' a wy ho hd hb hK;have h3:=ho 2 (by decide);simp [slot] at h3;clear hd;go_simp;try go_bits
      exact hK _ _ rfl bR
     case s12 =>
      intro K' a wy ho hd hb hK;simp [Region.binds,rAt,IsV,slot] at hd;go_simp;try go_bits
      exact hK _ _ rfl bR
     case s13 =>
      intro K' a wy ho hd hb hK;simp [Region.binds,rAt,IsV,slot] at hd;go_simp;exact hK _ _ ⟨wy.heap.size,rfl,by simp,by simp,by simp,by simp⟩ (bR.alloc lR _)
     case s14 =>
      intro K' a wy ho hd hb hK;simp only [List.forall_mem_singleton,Array.mem_def,List.mem_singleton,forall_eq] at hd;obtain ⟨b,hd1,hd2,hd3,hd4,hd5⟩ : IsQuadW (0) (p) (slot a 43) wy:=hd rfl;have hcv:=quadW_conv (cap:=4) (by omega) (by omega) hd2 hd3 hd4 hd5;simp [slot] at hd1;go_simp;try go_bits
      exact hK _ _ rfl bR
     case s15 =>
      intro K' a wy ho hd hb hK;simp [Region.binds,rAt,IsV,slot] at hd;go_simp;try go_bits
      exact hK _ _ rfl bR
     case s16 =>
      intro K' a wy ho hd hb hK;simp [Region.binds,rAt,IsV,slot] at hd;go_simp;try go_bits
      exact hK _ _ rfl bR
    case done =>
     intro X wz hR hz;obtain ⟨x0,x1,x2,x3,x4,x5,x6,x7,x8,x9,x10,x11,x12,⟨b13,x13,-,-,-,-⟩,x14,x15,x16,-⟩:=hR;simp only [IsV] at x0 x1 x2 x3 x4 x5 x6 x7 x8 x9 x10 x11 x12 x14 x15 x16;simp only [putsFrom,x0,x1,x2,x3,x4,x5,x6,x7,x8,x9,x10,x11,x12,x13,x14,x15,x16];clear x0 x1 x2 x3 x4 x5 x6 x7 x8 x9 x10 x11 x12 x13 x14 x15 x16;go_simp;refine hK2 _ _ (hJ _ _ ?_);(repeat apply Exists.intro)
     refine ⟨⟨by rw [HZ.out],(Below.refl _ w).drew.trans hz⟩,rfl⟩
   case rest =>
   obtain ⟨rfl,hb⟩:=hcut;go_wp2_with fail
   go_ret;exact ⟨rfl,hb⟩
end Go.Proofs.YtdkepkaflielhaaGreatDoor
