import Derived.Test.YtdkepkaflielhaaGreatDoorIOpen
import Derived.Test.YtdkepkaflielhaaGreatDoorMerged21
set_option linter.unusedVariables false
set_option linter.unusedSimpArgs false
set_option maxRecDepth 100000
set_option maxHeartbeats 8000000
namespace Go.Proofs.YtdkepkaflielhaaGreatDoor
open Go.RowKit Go.PlainAid
theorem implBib_any (pa:Option Addr) (pc:Nat) (p:Pl) (ba bo:Option Addr) (ca cb:Nat) (x:Bb) (w:World) (hpl:p.addrs.length≤1048576) (hpc:p.addrs.length≤pc) (hps:∀ s∈p.addrs,s.size≤1048576) (hbl1:x.binds.length≤1048576) (hbl2:x.sess.length≤1048576) (hgb:∀ q∈x.binds,BdGood q) (hgs:∀ s∈x.sess,SsGood s) (hp:SlIs strL1 1 w pa p.addrs) (hx:BbIs w ba bo x) :
  Cb 85 #[plC pa pc p,bbC ba bo ca cb x] w (.bool (bibOk p x)):=by
 have HZ0:Hid (Below w.heap.size w ((aW w (PlV pa pc p) 27).alloc (.cells (BbV ba ca bo cb x).toArray 31))):=(bR.alloc lR _).alloc (by simp) _;have HP:HoldsL ((aW w (PlV pa pc p) 27).alloc (.cells (BbV ba ca bo cb x).toArray 31)) w.heap.size (PlV pa pc p):=(HoldsL.new w (PlV pa pc p) 27).alloc _;have HB:HoldsL ((aW w (PlV pa pc p) 27).alloc (.cells (BbV ba ca bo cb x).toArray 31)) (w.heap.size+1) (BbV ba ca bo cb x):=by
  have h:=HoldsL.new (w.alloc (.cells (PlV pa pc p).toArray 27)) (BbV ba ca bo cb x) 31;rw [World.size_alloc] at h; exact h
 have HOP:Hid (∀ W,Below w.heap.size w W→Calls Tryz.prog 104 #[.agg (PlV pa pc p).toArray,.agg (BbV ba ca bo cb x).toArray] W (OpenRet W pa pc p ba bo ca cb x)):=fun W hW=>open_any pa pc p ba bo ca cb x W hpl hpc hps hbl1 hbl2 hgb hgs (hp.below hW) (hx.below hW)
 have HV:Hid (bookOk p x=bibOk p x):=book_bib p x;clear hp hx hgb hgs hps;unfold plC bbC;go_enter Tryz.func85,Tryz.ntmps85
 go_upto_region 1 with fail
 generalize World.alloc _ _=W0 at *;obtain ⟨k0,k1,k2,k3,k4,k5,k6,k7,k8,k9⟩:=HP.c10;obtain ⟨c0,c1⟩:=HB.c2;clear HP HB;go_wp2_with fail
 refine (HOP.out _ HZ0.out).mono ?_;rintro e w1 ⟨q1,h⟩;have B1:Hid _:=HZ0.out.trans (q1.mono HZ0.out.size);clear q1 HZ0 HOP k0 k1 k2 k3 k4 k5 k6 k7 k8 k9 c0 c1;rcases h with ⟨hx,rfl⟩ | ⟨hx,m1,m2,rfl,hm1,hm2,hbk⟩
 ·have HX:Hid (bibOk p x=false):=by unfold Hid; rw [← HV.out]; exact hx
  unfold bkZ;clear hx;go_wp2_with fail
  go_ret;exact ⟨ret_bool HX.out.symm,B1.out.alloc B1.out.size _⟩
 ·have HX:Hid (bibOk p x=true):=by unfold Hid; rw [← HV.out]; exact hx
  unfold bkC;clear hx hbk;go_wp2_with fail
  go_ret;exact ⟨ret_bool HX.out.symm,B1.out.alloc B1.out.size _⟩
theorem implTime_any (n:Int) (w:World) :
  Cw 87 #[iV n] w (.bool (isTime n)):=by
 by_cases h1:0≤n
 ·by_cases h2:n≤1000000000
  ·have HV:Hid (isTime n=true):=by unfold Hid isTime isIn; simp [h1,h2]
   go_enter Tryz.func87,Tryz.ntmps87
   go_wp2_with fail
   go_ret;exact ⟨ret_bool (by rw [HV.out]),rfl⟩
  ·have HV:Hid (isTime n=false):=by unfold Hid isTime isIn; simp [h2]
   go_enter Tryz.func87,Tryz.ntmps87
   go_wp2_with fail
   go_ret;exact ⟨ret_bool (by rw [HV.out]),rfl⟩
 ·have HV:Hid (isTime n=false):=by unfold Hid isTime isIn; simp [h1]
  have h1':n < 0:=by omega
  go_enter Tryz.func87,Tryz.ntmps87
  go_wp2_with fail
  go_ret;exact ⟨ret_bool (by rw [HV.out]),rfl⟩
theorem implV4Right_any (p:P4) (w:World) (h1:p.src.size≤1048576) (h2:p.dst.size≤1048576) (h3:p.opts.size≤1048576) (h4:p.data.size≤1048576) :
  Cb 86 #[p4C p] w (.bool (v4Ok p)):=by
 have HB1:Hid (∀ W,Cw 121 #[iV p.tos] W (.bool (isIn p.tos 0 255))):=fun W=>implByte_any p.tos W
 have HB2:Hid (∀ W,Cw 121 #[iV p.ttl] W (.bool (isIn p.ttl 0 255))):=fun W=>implByte_any p.ttl W
 have HB3:Hid (∀ W,Cw 121 #[iV p.proto] W (.bool (isIn p.proto 0 255))):=fun W=>implByte_any p.proto W
 have HB4:Hid (∀ W,Cw 122 #[iV p.id] W (.bool (isIn p.id 0 65535))):=fun W=>implWordIs_any p.id W
 have HB5:Hid (∀ W,Cw 123 #[iV p.off,.bool p.more,.string p.data,iV 65515] W (.bool (pcV p.off p.more p.data 65515))):=fun W=>implPiece_any p.off p.more p.data 65515 W h4
 have HV:Hid (v4Ok p=_):=v4Ok_prog p;generalize v4Ok p=ok at *;obtain ⟨tos,id,whole,more,off,ttl,proto,src,dst,opts,data⟩:=p;unfold p4C;dsimp only at *;have HZ:Hid (Below w.heap.size w (w.alloc (.cells (P4R tos id whole more off ttl proto src dst opts data).toArray 33))):=bR.alloc lR _;generalize isIn tos 0 255=b1 at *;generalize isIn ttl 0 255=b2 at *;generalize isIn proto 0 255=b3 at *;generalize isIn id 0 65535=b4 at *;generalize pcV off more data 65515=b5 at *;go_enter Tryz.func86,Tryz.ntmps86
 go_wp2_with fail
 refine (HB1.out _).mono ?_;rintro e w2 ⟨rfl,rfl⟩
 cases b1 with
 | false =>
  have hun:undef=Value.tuple #[]:=rfl;go_wp2_with fail
  go_ret;exact ⟨ret_bool (by rw [HV.out]; simp),HZ.out⟩
 | true =>
  go_wp2_with fail
  refine (HB2.out _).mono ?_;rintro e w2 ⟨rfl,rfl⟩
  cases b2 with
  | false =>
   have hun:undef=Value.tuple #[]:=rfl;go_wp2_with fail
   go_ret;exact ⟨ret_bool (by rw [HV.out]; simp),HZ.out⟩
  | true =>
   go_wp2_with fail
   refine (HB3.out _).mono ?_;rintro e w2 ⟨rfl,rfl⟩
   cases b3 with
   | false =>
    have hun:undef=Value.tuple #[]:=rfl;go_wp2_with fail
    go_ret;exact ⟨ret_bool (by rw [HV.out]; simp),HZ.out⟩
   | true =>
    go_wp2_with fail
    refine (HB4.out _).mono ?_;rintro e w2 ⟨rfl,rfl⟩
    cases b4 with
    | false =>
     have hun:undef=Value.tuple #[]:=rfl;go_wp2_with fail
     go_ret;exact ⟨ret_bool (by rw [HV.out]; simp),HZ.out⟩
    | true =>
     by_cases s1:src.size=4
     ·have ds1:((src.size:Int)==4)=true:=by simp<;>omega
      have vs1:decide (src.size=4)=true:=decide_eq_true s1;rw [vs1] at HV;by_cases s2:dst.size=4
      ·have ds2:((dst.size:Int)==4)=true:=by simp<;>omega
       have vs2:decide (dst.size=4)=true:=decide_eq_true s2;rw [vs2] at HV;by_cases s3:opts.size≤40
       ·have ds3:decide ((opts.size:Int)≤40)=true:=by simp<;>omega
        have vs3:decide (opts.size≤40)=true:=decide_eq_true s3;rw [vs3] at HV;by_cases s4:opts.size % 4=0
        ·have ds4:(((opts.size:Int) % 4)==0)=true:=by simp<;>omega
         have vs4:decide (opts.size % 4=0)=true:=decide_eq_true s4;rw [vs4] at HV;go_wp2_with fail
         refine (HB5.out _).mono ?_;rintro e w2 ⟨rfl,rfl⟩
         cases b5 with
         | false =>
          have hun:undef=Value.tuple #[]:=rfl;go_wp2_with fail
          go_ret;exact ⟨ret_bool (by rw [HV.out]; simp),HZ.out⟩
         | true =>
          cases whole with
          | false =>
           have hun:undef=Value.tuple #[]:=rfl;go_wp2_with fail
           go_ret;exact ⟨ret_bool (by rw [HV.out]; simp),HZ.out⟩
          | true =>
           cases more with
           | true =>
            have hun:undef=Value.tuple #[]:=rfl;go_wp2_with fail
            go_ret;exact ⟨ret_bool (by rw [HV.out]; simp),HZ.out⟩
           | false =>
            by_cases t1:off=0
            ·rw [decide_eq_true t1] at HV;have dt1:(off != 0)=false:=by simp [t1]
             clear t1;have hun:undef=Value.tuple #[]:=rfl;go_wp2_with fail
             go_ret;exact ⟨ret_bool (by rw [HV.out]; simp),HZ.out⟩
            ·rw [decide_eq_false t1] at HV;have dt1:(off != 0)=true:=by simp [t1]
             have hun:undef=Value.tuple #[]:=rfl;go_wp2_with fail
             go_ret;exact ⟨ret_bool (by rw [HV.out]; simp),HZ.out⟩
        ·have ds4:(((opts.size:Int) % 4)==0)=false:=by simp<;>omega
         have vs4:decide (opts.size % 4=0)=false:=decide_eq_false s4;rw [vs4] at HV;have hun:undef=Value.tuple #[]:=rfl;go_wp2_with fail
         go_ret;exact ⟨ret_bool (by rw [HV.out]; simp),HZ.out⟩
       ·have ds3:decide ((opts.size:Int)≤40)=false:=by simp<;>omega
        have vs3:decide (opts.size≤40)=false:=decide_eq_false s3;rw [vs3] at HV;have hun:undef=Value.tuple #[]:=rfl;go_wp2_with fail
        go_ret;exact ⟨ret_bool (by rw [HV.out]; simp),HZ.out⟩
      ·have ds2:((dst.size:Int)==4)=false:=by simp<;>omega
       have vs2:decide (dst.size=4)=false:=decide_eq_false s2;rw [vs2] at HV;have hun:undef=Value.tuple #[]:=rfl;go_wp2_with fail
       go_ret;exact ⟨ret_bool (by rw [HV.out]; simp),HZ.out⟩
     ·have ds1:((src.size:Int)==4)=false:=by simp<;>omega
      have vs1:decide (src.size=4)=false:=decide_eq_false s1;rw [vs1] at HV;have hun:undef=Value.tuple #[]:=rfl;go_wp2_with fail
      go_ret;exact ⟨ret_bool (by rw [HV.out]; simp),HZ.out⟩
theorem ip9Ok_any (pa:Option Addr) (pc:Nat) (p:Pl) (ba bo:Option Addr) (ca cb:Nat) (x:Bb) (q:P4) (now:Int) (w:World) (hlp:p.addrs.length≤1048576) (hpc:p.addrs.length≤pc) (hsz:∀ s∈p.addrs,s.size≤1048576) (hl1:x.binds.length≤1048576) (hl2:x.sess.length≤1048576) (hgb:∀ q∈x.binds,BdGood q) (hgs:∀ s∈x.sess,SsGood s) (q1:q.src.size≤1048576) (q2:q.dst.size≤1048576) (q3:q.opts.size≤1048576) (q4:q.data.size≤1048576) (hp:SlIs strL1 1 w pa p.addrs) (hx:BbIs w ba bo x) :
  Cb 52 #[plC pa pc p,bbC ba bo ca cb x,p4C q,iV now] w (iV (natFt p x q now)):=by
 have HBR:Hid (∀ W,Below w.heap.size w W→Cb 85 #[plC pa pc p,bbC ba bo ca cb x] W (.bool (bibOk p x))):=fun W hW=>implBib_any pa pc p ba bo ca cb x W hlp hpc hsz hl1 hl2 hgb hgs (hp.below hW) (hx.below hW)
 have HV4:Hid (∀ W,Cb 86 #[p4C q] W (.bool (v4Ok q))):=fun W=>implV4Right_any q W q1 q2 q3 q4
 have HTM:Hid (∀ W,Cw 87 #[iV now] W (.bool (isTime now))):=fun W=>implTime_any now W
 have HV:Hid (natFt p x q now=if (bibOk p x&&v4Ok q&&isTime now)=false then 1 else if (q.more||decide (q.off≠0))=true then 10 else 0):=rfl;generalize natFt p x q now=ans at *;generalize bibOk p x=b1 at *;generalize v4Ok q=b2 at *;generalize isTime now=b3 at *;obtain ⟨tos,id,whole,more,off,ttl,proto,src,dst,opts,data⟩:=q;clear hp hx hsz hgb hgs;unfold plC bbC p4C at *;dsimp only at *;have hun:undef=Value.tuple #[]:=rfl;have HS0:=bx3 w (PlV pa pc p) 27 (BbV ba ca bo cb x) 31 (P4R tos id whole more off ttl proto src dst opts data) 33 (by simp) (by simp) (by simp)
 skip;go_enter Tryz.func52,Tryz.ntmps52
 go_upto_region 1 with fail
 generalize World.alloc _ _=W0 at *;have HHk:=HS0.out.at mE0;obtain ⟨k0,k1,k2,k3,k4,k5,k6,k7,k8,k9⟩:=HHk.c10;clear HHk;have HHl:=HS0.out.at mE1;obtain ⟨l0,l1⟩:=HHl.c2;clear HHl;go_wp2_with fail
 refine (HBR.out _ HS0.out.b).mono ?_;rintro e W1 ⟨rfl,r1⟩;have S1:Hid _:=HS0.out.kept r1;clear r1 HS0 k0 k1 k2 k3 k4 k5 k6 k7 k8 k9 l0 l1
 cases b1 with
 | false =>
  have HFB:Hid _:=S1.out.b;go_wp2_with fail
  go_ret;exact ⟨ret_int (by rw [HV.out]; rfl),HFB.out⟩
 | true =>
 have HHk:=S1.out.at mE2;obtain ⟨k0,k1,k2,k3,k4,k5,k6,k7,k8,k9,k10⟩:=HHk.c11;clear HHk;go_wp2_with fail
 refine (HV4.out _).mono ?_;rintro e W2 ⟨rfl,r2⟩;have S2:Hid _:=S1.out.kept r2;clear r2 S1 k0 k1 k2 k3 k4 k5 k6 k7 k8 k9 k10
 cases b2 with
 | false =>
  have HFB:Hid _:=S2.out.b;go_wp2_with fail
  go_ret;exact ⟨ret_int (by rw [HV.out]; rfl),HFB.out⟩
 | true =>
 go_wp2_with fail
 refine (HTM.out _).mono ?_;rintro e W2 ⟨rfl,rfl⟩
 cases b3 with
 | false =>
  have HFB:Hid _:=S2.out.b;go_wp2_with fail
  go_ret;exact ⟨ret_int (by rw [HV.out]; rfl),HFB.out⟩
 | true =>
 have HHk:=S2.out.at mE2;obtain ⟨k0,k1,k2,k3,k4,k5,k6,k7,k8,k9,k10⟩:=HHk.c11;clear HHk
 cases more with
 | true =>
  have HFB:Hid _:=S2.out.b;go_wp2_with fail
  go_ret;exact ⟨ret_int (by rw [HV.out]; rfl),HFB.out⟩
 | false =>
 by_cases ho:off=0
 case pos =>
  have d0:(off != 0)=false:=by simp [ho]
  have HFB:Hid _:=S2.out.b;go_wp2_with fail
  go_ret;exact ⟨ret_int (by rw [HV.out]; simp [ho]),HFB.out⟩
 have d0:(off != 0)=true:=by simp [ho]
 have HFB:Hid _:=S2.out.b;go_wp2_with fail
 go_ret;exact ⟨ret_int (by rw [HV.out]; simp [ho]),HFB.out⟩
theorem ipFlags_any (p:Int) (t:ByteArray) (w:World) (ht:t.size≤20000) (h20:p=6→20≤t.size) :
  Cb 59 #[iV p,.string t] w (iV (flagV p t)):=by
 by_cases h:p=6
 ·have h2:=h20 h;subst h;have HT:Hid (∀ W,Cb 103 #[.string t] W (iV (flagV 6 t))):=fun W=>(implTcpFlags_any t W (by omega)).mono fun e w' h=>⟨by rw [h.1]; unfold tcpFlagsV flagV; rw [if_neg (by omega),if_pos rfl],h.2⟩
  generalize flagV 6 t=ans at *;go_enter Tryz.func59,Tryz.ntmps59
  go_wp2_with fail
  refine (HT.out _).mono ?_;rintro e w2 ⟨rfl,r2⟩;have R2:Hid _:=r2;clear r2;go_wp2_with fail
  go_ret;exact ⟨rfl,R2.out⟩
 ·have HV:Hid (flagV p t=0):=if_neg h;have d0:(p != 6)=true:=by simp [h]
  generalize flagV p t=ans at *;go_enter Tryz.func59,Tryz.ntmps59
  go_wp2_with fail
  go_ret;exact ⟨ret_int (by rw [HV.out]),Below.refl _ _⟩
theorem ipPeer_any (p n:Int) (w:World) :
  Cb 204 #[iV p,iV n] w (iV (peerV p n)):=by
 have HE:Hid (∀ W,Cw 100 #[iV p] W (.bool (echoP p))):=fun W=>implEcho_any p W
 have HV:Hid (peerV p n=if echoP p=true then 0 else n):=rfl;generalize peerV p n=ans at *;generalize echoP p=b at *;go_enter Tryz.func204,Tryz.ntmps204
 go_wp2_with fail
 refine (HE.out _).mono ?_;rintro e w2 ⟨rfl,rfl⟩
 cases b with
 | false =>
  go_wp2_with fail
  go_ret;exact ⟨ret_int (by rw [HV.out]; rfl),Below.refl _ _⟩
 | true =>
  go_wp2_with fail
  go_ret;exact ⟨ret_int (by rw [HV.out]; rfl),Below.refl _ _⟩
theorem ipTouchI_any (f:Fl) (ra:Option Addr) (la ca:Nat) (w:World) :
  Cb 205 #[.agg #[.slice ra la ca],fwC f] w (tcC ⟨f.proto,false,f.dst,f.dp,f.src,peerV f.proto f.sp,0⟩):=by
 have HP:Hid (∀ W,Cb 204 #[iV f.proto,iV f.sp] W (iV (peerV f.proto f.sp))):=fun W=>ipPeer_any _ _ W
 generalize peerV f.proto f.sp=pv at *;obtain ⟨proto,src,dst,sp,dp⟩:=f;unfold fwC tcC;dsimp only at *;have HS0:Hid (Bxs w [(w.heap.size+1+1,(TcR 0 false ⟨#[]⟩ 0 ⟨#[]⟩ 0 0)),(w.heap.size+1,(FlR proto src dst sp dp))] ((aW (aW w [.slice ra la ca] 82) (FlR proto src dst sp dp) 43).alloc (.cells (TcR 0 false ⟨#[]⟩ 0 ⟨#[]⟩ 0 0).toArray 89))):=by
  have h:=((⟨fun e he=>(by cases he),bR.alloc lR _,fun e he=>(by cases he)⟩ : Bxs w [] (w.alloc (.cells #[.slice ra la ca] 82))).push (FlR proto src dst sp dp) (by simp) 43).push (TcR 0 false ⟨#[]⟩ 0 ⟨#[]⟩ 0 0) (by simp) 89;simp only [World.size_alloc] at h;exact h
 have hRw:w.heap.size≤w.heap.size+1+1:=by omega
 go_enter Tryz.func205,Tryz.ntmps205
 go_upto_region 1 with fail
 generalize World.alloc _ _=W0 at *;have HCP:Hid (∀ wy,Below W0.drew.heap.size W0.drew wy→_):=fun wy hy=>HS0.out.kept (bR.drew.trans hy)
 clear HS0;refine wp_region_growV [5,6,7,8,9,10,11,12,13,14,15,16,17,18] (by kernel_rfl) (by kernel_rfl) ?_;iterate 14 (apply GChV.u rfl;(·intro K' a wy ho hd hb hK;simp [rAt,IsV,slot,Region.binds] at ho hd;have hst:=HCP.out wy hb;have kC:=(hst.at mE1).c5;clear hst;go_simp;first|((try go_bits);exact hK _ _ rfl bQ)|(refine (HP.out wy).mono ?_;rintro e wz ⟨rfl,hz⟩;exact hK _ _ rfl hz));dsimp only [nA,cA])
 intro X wz hR hz;simp only [List.nil_append,List.cons_append,RAll,IsV] at hR;simp only [putsFrom,hR];clear hR;have V7:Hid (Bxs w [(w.heap.size+1+1,(TcR 0 false ⟨#[]⟩ 0 ⟨#[]⟩ 0 0)),(w.heap.size+1,(FlR proto src dst sp dp))] wz):=HCP.out wz hz;clear hz HCP HP;have HHz:=V7.out.at mE0;obtain ⟨z0,z1,z2,z3,z4,z5,z6⟩:=HHz.c7;obtain ⟨zf0,zf1,zf2,zf3,zf4,zf5,zf6⟩:=HHz.f7;obtain ⟨HRR,RB⟩:=st7 HHz V7.out.b hRw (iV proto) (.bool false) (.string dst) (iV dp) (.string src) (iV pv) (iV 0);clear HHz;clear V7;intro K10 hK10;go_simp;refine hK10 _ _ ?_;simp only [wpSeq];go_wp2_with fail
 exact bodyPost_ret (results_mid Tryz.results205 _ _ _ _ _ rfl HRR.out Tryz.underlying89 rfl (show (Tryz.prog.info? 89).map (·.size)=some 7 by kernel_rfl)) rfl (And.intro rfl RB.out)
theorem ipTurnI_any (f:Fl) (c:Bd) (ra:Option Addr) (la ca:Nat) (w:World) :
  Cb 206 #[.agg #[.slice ra la ca],fwC f,bdC c] w (fwC ⟨f.proto,f.src,c.inn,if echoP f.proto=true then c.inPort else f.sp,c.inPort⟩):=by
 have HE:Hid (∀ W,Cw 100 #[iV f.proto] W (.bool (echoP f.proto))):=fun W=>implEcho_any _ W
 generalize echoP f.proto=b at *;obtain ⟨proto,src,dst,sp,dp⟩:=f;obtain ⟨cp,ci,cn,co,cm⟩:=c;unfold fwC bdC;dsimp only at *;have HS0:Hid (Bxs w [(w.heap.size+1+1+1,(FlR 0 ⟨#[]⟩ ⟨#[]⟩ 0 0)),(w.heap.size+1+1,(BdR cp ci cn co cm)),(w.heap.size+1,(FlR proto src dst sp dp))] ((aW (aW (aW w [.slice ra la ca] 82) (FlR proto src dst sp dp) 43) (BdR cp ci cn co cm) 48).alloc (.cells (FlR 0 ⟨#[]⟩ ⟨#[]⟩ 0 0).toArray 43))):=by
  have h:=(((⟨fun e he=>(by cases he),bR.alloc lR _,fun e he=>(by cases he)⟩ : Bxs w [] (w.alloc (.cells #[.slice ra la ca] 82))).push (FlR proto src dst sp dp) (by simp) 43).push (BdR cp ci cn co cm) (by simp) 48).push (FlR 0 ⟨#[]⟩ ⟨#[]⟩ 0 0) (by simp) 43;simp only [World.size_alloc] at h;exact h
 have hRw:w.heap.size≤w.heap.size+1+1+1:=by omega
 have hFw:w.heap.size≤w.heap.size+1:=by omega
 go_enter Tryz.func206,Tryz.ntmps206
 go_upto_region 1 with fail
 generalize World.alloc _ _=W0 at *;have HSET:Hid (∀ wx,Bxs w [(w.heap.size+1+1+1,(FlR 0 ⟨#[]⟩ ⟨#[]⟩ 0 0)),(w.heap.size+1+1,(BdR cp ci cn co cm)),(w.heap.size+1,(FlR proto src dst sp dp))] wx→Bxs w [(w.heap.size+1+1+1,(FlR 0 ⟨#[]⟩ ⟨#[]⟩ 0 0)),(w.heap.size+1+1,(BdR cp ci cn co cm)),(w.heap.size+1,(FlR proto src ci sp cn))] ((sW wx (w.heap.size+1) 2 (.string ci)).setCell ⟨w.heap.size+1,4,none⟩ (iV cn))):=fun wx h=>⟨fun e he=>by
  simp only [List.mem_cons,List.not_mem_nil,or_false] at he;rcases he with rfl | rfl | rfl
  ·exact (HoldsL.setOther (HoldsL.setOther (h.k _ mE0) (by show w.heap.size+1+1+1≠w.heap.size+1; omega) _) (by show w.heap.size+1+1+1≠w.heap.size+1; omega) _)
  ·exact (HoldsL.setOther (HoldsL.setOther (h.k _ mE1) (by show w.heap.size+1+1≠w.heap.size+1; omega) _) (by show w.heap.size+1+1≠w.heap.size+1; omega) _)
  ·exact (HoldsL.set (HoldsL.set (h.k _ mE2) 2 (.string ci)) 4 (iV cn)),((h.b.setCell (p:=⟨w.heap.size+1,2,none⟩) hFw _).setCell (p:=⟨w.heap.size+1,4,none⟩) hFw _),fun e he=>by
  simp only [List.mem_cons,List.not_mem_nil,or_false] at he;rcases he with rfl | rfl | rfl<;>simp⟩
 go_cut [12] (fun v wx=>Bxs w [(w.heap.size+1+1+1,(FlR 0 ⟨#[]⟩ ⟨#[]⟩ 0 0)),(w.heap.size+1+1,(BdR cp ci cn co cm)),(w.heap.size+1,(FlR proto src ci sp cn))] wx)
 case first =>
  rename_i J K2 hJ hK2;have HHk:=HS0.out.at mE2;obtain ⟨k0,k1,k2,k3,k4⟩:=HHk.c5;obtain ⟨kf0,kf1,kf2,kf3,kf4⟩:=HHk.f5;have HHl:=HS0.out.at mE1;obtain ⟨l0,l1,l2,l3,l4⟩:=HHl.c5;clear HHl;have HD:Hid _:=(HSET.out W0 HS0.out).kept bR.drew;clear HHk HS0 HSET;go_region
  all_goals refine hK2 _ _ (hJ _ _ ?_)
  all_goals (repeat apply Exists.intro)
  all_goals exact ⟨HD.out,rfl⟩
 case rest =>
 have S1:Hid (Bxs w [(w.heap.size+1+1+1,(FlR 0 ⟨#[]⟩ ⟨#[]⟩ 0 0)),(w.heap.size+1+1,(BdR cp ci cn co cm)),(w.heap.size+1,(FlR proto src ci sp cn))] wc):=hcut;clear hcut HS0 HSET;generalize wc=W1 at *;have HHk:=S1.out.at mE2;obtain ⟨k0,k1,k2,k3,k4⟩:=HHk.c5;clear HHk;go_wp2_with fail
 refine (HE.out _).mono ?_;rintro e W1 ⟨rfl,rfl⟩
 cases b with
 | false =>
  have HHz:=S1.out.at mE0;obtain ⟨z0,z1,z2,z3,z4⟩:=HHz.c5;obtain ⟨zf0,zf1,zf2,zf3,zf4⟩:=HHz.f5;obtain ⟨HRR,RB⟩:=st5 HHz S1.out.b hRw (iV proto) (.string src) (.string ci) (iV sp) (iV cn);clear HHz;go_wp2_with fail
  exact bodyPost_ret (results_mid Tryz.results206 _ _ _ _ _ rfl HRR.out Tryz.underlying43 rfl (show (Tryz.prog.info? 43).map (·.size)=some 5 by kernel_rfl)) rfl (And.intro rfl RB.out)
 | true =>
  have S2:Hid (Bxs w [(w.heap.size+1+1+1,(FlR 0 ⟨#[]⟩ ⟨#[]⟩ 0 0)),(w.heap.size+1+1,(BdR cp ci cn co cm)),(w.heap.size+1,(FlR proto src ci cn cn))] (W1.setCell ⟨w.heap.size+1,3,none⟩ (iV cn))):=⟨fun e he=>by
   simp only [List.mem_cons,List.not_mem_nil,or_false] at he;rcases he with rfl | rfl | rfl
   ·exact (HoldsL.setOther (S1.out.k _ mE0) (by show w.heap.size+1+1+1≠w.heap.size+1; omega) _)
   ·exact (HoldsL.setOther (S1.out.k _ mE1) (by show w.heap.size+1+1≠w.heap.size+1; omega) _)
   ·exact (HoldsL.set (S1.out.k _ mE2) 3 (iV cn)),(S1.out.b.setCell (p:=⟨w.heap.size+1,3,none⟩) hFw _),fun e he=>by
   simp only [List.mem_cons,List.not_mem_nil,or_false] at he;rcases he with rfl | rfl | rfl<;>simp⟩
  have kf:=(S1.out.k _ mE2).free (j:=3) (by simp);have HHl:=S1.out.at mE1;obtain ⟨l0,l1,l2,l3,l4⟩:=HHl.c5;clear HHl;go_upto_region 4 with fail
  generalize (W1.setCell ⟨w.heap.size+1,3,none⟩ (iV cn))=W2 at *;clear S1 kf k0 k1 k2 k3 k4 l0 l1 l2 l3 l4;have HHk:=S2.out.at mE2;obtain ⟨k0,k1,k2,k3,k4⟩:=HHk.c5;clear HHk;have HHz:=S2.out.at mE0;obtain ⟨z0,z1,z2,z3,z4⟩:=HHz.c5;obtain ⟨zf0,zf1,zf2,zf3,zf4⟩:=HHz.f5;obtain ⟨HRR,RB⟩:=st5 HHz S2.out.b hRw (iV proto) (.string src) (.string ci) (iV cn) (iV cn);clear HHz;go_wp2_with fail
  exact bodyPost_ret (results_mid Tryz.results206 _ _ _ _ _ rfl HRR.out Tryz.underlying43 rfl (show (Tryz.prog.info? 43).map (·.size)=some 5 by kernel_rfl)) rfl (And.intro rfl RB.out)
def IsQuadW (x y:Int):Value→World→Prop:=fun v w=>∃ b,v=.slice (some ⟨b,0,none⟩) 4 4∧w.cell? ⟨b,0,none⟩=some (.int .u8 x)∧w.cell? ⟨b,1,none⟩=some (.int .u8 0)∧w.cell? ⟨b,2,none⟩=some (.int .u8 0)∧w.cell? ⟨b,3,none⟩=some (.int .u8 y)
theorem stable_isQuadW (x y:Int):Stable (IsQuadW x y):=fun v w w' ⟨b,h1,h2,h3,h4,h5⟩ hb=>by
 have hlt:=World.block_lt_of_cell? w _ h2;exact ⟨b,h1,((bcell hb).1 b 0 hlt).trans h2,((bcell hb).1 b 1 hlt).trans h3,((bcell hb).1 b 2 hlt).trans h4,((bcell hb).1 b 3 hlt).trans h5⟩
theorem quadW_conv {w:World} {b cap:Nat} {x y:Int} (hx:0≤x∧x≤255) (hy:0≤y∧y≤255) (h0:w.cell? ⟨b,0,none⟩=some (.int .u8 x)) (h1:w.cell? ⟨b,1,none⟩=some (.int .u8 0)) (h2:w.cell? ⟨b,2,none⟩=some (.int .u8 0)) (h3:w.cell? ⟨b,3,none⟩=some (.int .u8 y)) :
  (convert 22 9 (.slice (some ⟨b,0,none⟩) 4 cap)).run Tryz.prog w=.ok (.string (quadW x y)) w :=
 run_convert_bytes_back (P:=Tryz.prog) w 22 9 5 ⟨b,0,none⟩ cap [UInt8.ofNat x.toNat,0,0,UInt8.ofNat y.toNat] Tryz.underlying22 Tryz.underlying5 Tryz.underlying9 (by
  intro j hj;match j,hj with
  | 0,_=>simp only [Addr.add,Nat.add_zero,List.getElem_cons_zero]; rw [u8_ofNat _ hx.1 hx.2]; exact h0
  | 1,_=>simp only [Addr.add,Nat.zero_add,List.getElem_cons_succ,List.getElem_cons_zero]; exact h1
  | 2,_=>simp only [Addr.add,Nat.zero_add,List.getElem_cons_succ,List.getElem_cons_zero]; exact h2
  | 3,_=>simp only [Addr.add,Nat.zero_add,List.getElem_cons_succ,List.getElem_cons_zero]; rw [u8_ofNat _ hy.1 hy.2]; exact h3)
theorem spPseudo_any (s d:ByteArray) (p:Int) (n:Nat) (w:World) (hs:s.size≤16) (hd:d.size≤16) (hp:0≤p∧p≤255) (hn:n≤65535) :
  Cb 71 #[.string s,.string d,iV p,iV n] w (.string (pseudoV s d p n)):=by
 have hun:undef=Value.tuple #[]:=rfl;have n1:¬ 9223372036854775807 < s.size+d.size:=by omega
 have z1:=pairV_size 0 p;have z2:=twoV_size (n:Int);by_cases h1:p=1∧s.size=4
 ·obtain ⟨rfl,h4⟩:=h1;have d4:((s.size:Int)==4)=true:=by simp; omega
  have HV:Hid (pseudoV s d 1 n=⟨#[]⟩):=by unfold Hid pseudoV; rw [if_pos ⟨rfl,h4⟩]
  generalize pseudoV s d 1 n=ans at *;clear h4;go_enter Tryz.func71,Tryz.ntmps71
  go_wp2_with fail
  go_ret;exact ⟨by rw [HV.out]; rfl,Below.refl _ _⟩
 by_cases h4:s.size=4
 ·have d4:((s.size:Int)==4)=true:=by simp; omega
  have d1:(p==1)=false:=by simp; exact fun e=>h1 ⟨e,h4⟩
  have HZ:Hid (pseudoV s d p n=s++d++pairV 0 p++twoV (n:Int)):=by unfold Hid pseudoV; rw [if_neg h1,if_pos h4]
  generalize pseudoV s d p n=ans at *;clear h1 h4;have n2:¬ 9223372036854775807 < s.size+d.size+(pairV 0 p).size:=by omega
  have n3:¬ 9223372036854775807 < s.size+d.size+(pairV 0 p).size+(twoV (n:Int)).size:=by omega
  have n2b:¬ 9223372036854775807 < s.size+d.size+2:=by omega
  have n3b:¬ 9223372036854775807 < s.size+d.size+2+2:=by omega
  go_enter Tryz.func71,Tryz.ntmps71
  go_upto_region 4 with fail
  go_cut [8] (fun v wx=>v=.string ans∧Below w.heap.size w wx)
  case first =>
   rename_i J K2 hJ hK2;clear hun;refine wp_region_growL (Rs:=[IsV (.string s),IsV (.string d),IsV (.string (s++d)),IsV (iV p),IsV (.int .u8 p),IsRow (0) (p),IsV (.string (pairV 0 p)),IsV (.string (s++d++pairV 0 p)),IsV (iV (n:Int)),IsV (.string (twoV (n:Int))),IsV (.string (s++d++pairV 0 p++twoV (n:Int))),IsV (.string (s++d++pairV 0 p++twoV (n:Int)))]) [19,20,21,22,23,24,25,26,27,28,29,8] (by kernel_rfl) (by kernel_rfl) rfl ?st ?steps ?done
   case st=>simp [stable_isV,stable_isRow]
   case steps =>
    refine ⟨?s0,?s1,?s2,?s3,?s4,?s5,?s6,?s7,?s8,?s9,?s10,?s11,trivial⟩
    case s0 =>
     intro K' a wy ho hd hb hK;have h3:=ho 0 (by decide);simp [slot] at h3;clear hd;go_simp;try go_bits
     exact hK _ _ rfl bR
    case s1 =>
     intro K' a wy ho hd hb hK;have h3:=ho 1 (by decide);simp [slot] at h3;clear hd;go_simp;try go_bits
     exact hK _ _ rfl bR
    case s2 =>
     intro K' a wy ho hd hb hK;simp [Region.binds,rAt,IsV,slot] at hd;go_simp;try go_bits
     exact hK _ _ rfl bR
    case s3 =>
     intro K' a wy ho hd hb hK;have h3:=ho 2 (by decide);simp [slot] at h3;clear hd;go_simp;try go_bits
     exact hK _ _ rfl bR
    case s4 =>
     intro K' a wy ho hd hb hK;simp [Region.binds,rAt,IsV,slot] at hd;go_simp;try go_bits
     exact hK _ _ rfl bR
    case s5 =>
     intro K' a wy ho hd hb hK;simp [Region.binds,rAt,IsV,slot] at hd;go_simp;exact hK _ _ ⟨wy.heap.size,rfl,by simp,by simp⟩ (bR.alloc lR _)
    case s6 =>
     intro K' a wy ho hd hb hK;simp only [List.forall_mem_singleton,Array.mem_def,List.mem_singleton,forall_eq] at hd;obtain ⟨b,hd1,hd2,hd3⟩ : IsRow (0) (p) (slot a 24) wy:=hd rfl;have hcv:=pair_conv (cap:=2) (by omega) (by omega) hd2 hd3;simp [slot] at hd1;go_simp;try go_bits
     exact hK _ _ rfl bR
    case s7 =>
     intro K' a wy ho hd hb hK;simp [Region.binds,rAt,IsV,slot] at hd;go_simp;try go_bits
     exact hK _ _ rfl bR
    case s8 =>
     intro K' a wy ho hd hb hK;have h3:=ho 3 (by decide);simp [slot] at h3;clear hd;go_simp;try go_bits
     exact hK _ _ rfl bR
    case s9 =>
     intro K' a wy ho hd hb hK;simp [Region.binds,rAt,IsV,slot] at hd;go_simp;refine (specTwo_any (n:Int) wy (by omega) (by omega)).mono ?_;rintro e wz ⟨rfl,hz⟩;exact hK _ _ rfl hz
    case s10 =>
     intro K' a wy ho hd hb hK;simp [Region.binds,rAt,IsV,slot] at hd;go_simp;try go_bits
     exact hK _ _ rfl bR
    case s11 =>
     intro K' a wy ho hd hb hK;simp [Region.binds,rAt,IsV,slot] at hd;go_simp;try go_bits
     exact hK _ _ rfl bR
   case done =>
    intro X wz hR hz;obtain ⟨x0,x1,x2,x3,x4,⟨b5,x5,-,-⟩,x6,x7,x8,x9,x10,x11,-⟩:=hR;simp only [IsV] at x0 x1 x2 x3 x4 x6 x7 x8 x9 x10 x11;simp only [putsFrom,x0,x1,x2,x3,x4,x5,x6,x7,x8,x9,x10,x11];clear x0 x1 x2 x3 x4 x5 x6 x7 x8 x9 x10 x11;go_simp;refine hK2 _ _ (hJ _ _ ?_);(repeat apply Exists.intro)
    refine ⟨⟨by rw [HZ.out],(Below.refl _ w).drew.trans hz⟩,rfl⟩
  case rest =>
  obtain ⟨rfl,hb⟩:=hcut;go_wp2_with fail
  go_ret;exact ⟨rfl,hb⟩
 ·have d4:((s.size:Int)==4)=false:=by simp; omega
  have HZ:Hid (pseudoV s d p n=s++d++twoV ((n:Int) / 65536)++twoV ((n:Int) % 65536)++quadW 0 p):=by unfold Hid pseudoV; rw [if_neg h1,if_neg h4]
  generalize pseudoV s d p n=ans at *;clear h1;have a1:=and_65535 (n:Int);have n2:¬ 9223372036854775807 < s.size+d.size+(twoV ((n:Int) / 65536)).size:=by rw [twoV_size]; omega
  have n3:¬ 9223372036854775807 < s.size+d.size+(twoV ((n:Int) / 65536)).size+(twoV ((n:Int) % 65536)).size:=by rw [twoV_size,twoV_size]; omega
  have n4:¬ 9223372036854775807 < s.size+d.size+(twoV ((n:Int) / 65536)).size+(twoV ((n:Int) % 65536)).size+(quadW 0 p).size:=by rw [twoV_size,twoV_size,quadW_size]; omega
  by_cases dp:p=1
  ·have d1:(p==1)=true:=by simp [dp]
   clear dp;go_enter Tryz.func71,Tryz.ntmps71
   go_upto_region 5 with fail
   go_cut [8] (fun v wx=>v=.string ans∧Below w.heap.size w wx)
   case first =>
    rename_i J K2 hJ hK2;clear hun;refine wp_region_growL (Rs:=[IsV (.string s),IsV (.string d),IsV (.string (s++d)),IsV (iV (n:Int)),IsV (iV ((n:Int) / 65536)),IsV (.string (twoV ((n:Int) / 65536))),IsV (.string (s++d++twoV ((n:Int) / 65536))),IsV (iV (n:Int)),IsV (iV ((n:Int) % 65536)),IsV (.string (twoV ((n:Int) % 65536))),IsV (.string (s++d++twoV ((n:Int) / 65536)++twoV ((n:Int) % 65536))),IsV (iV p),IsV (.int .u8 p),IsQuadW (0) (p),IsV (.string (quadW 0 p)),IsV (.string (s++d++twoV ((n:Int) / 65536)++twoV ((n:Int) % 65536)++quadW 0 p)),IsV (.string (s++d++twoV ((n:Int) / 65536)++twoV ((n:Int) % 65536)++quadW 0 p))]) [30,31,32,33,34,35,36,37,38,39,40,41,42,43,44,45,8] (by kernel_rfl) (by kernel_rfl) rfl ?st ?steps ?done
    case st=>simp [stable_isV,stable_isQuadW]
    case steps =>
     refine ⟨?s0,?s1,?s2,?s3,?s4,?s5,?s6,?s7,?s8,?s9,?s10,?s11,?s12,?s13,?s14,?s15,?s16,trivial⟩
     case s0 =>
      intro K' a wy ho hd hb hK;have h3:=ho 0 (by decide);simp [slot] at h3;clear hd;go_simp;try go_bits
      exact hK _ _ rfl bR
     case s1 =>
      intro K' a wy ho hd hb hK;have h3:=ho 1 (by decide);simp [slot] at h3;clear hd;go_simp;try go_bits
      exact hK _ _ rfl bR
     case s2 =>
      intro K' a wy ho hd hb hK;simp [Region.binds,rAt,IsV,slot] at hd;go_simp;try go_bits
      exact hK _ _ rfl bR
     case s3 =>
      intro K' a wy ho hd hb hK;have h3:=ho 3 (by decide);simp [slot] at h3;clear hd;go_simp;try go_bits
      exact hK _ _ rfl bR
     case s4 =>
      intro K' a wy ho hd hb hK;simp [Region.binds,rAt,IsV,slot] at hd;go_simp;try go_bits
      exact hK _ _ rfl bR
     case s5 =>
      intro K' a wy ho hd hb hK;simp [Region.binds,rAt,IsV,slot] at hd;go_simp;refine (specTwo_any ((n:Int) / 65536) wy (by omega) (by omega)).mono ?_;rintro e wz ⟨rfl,hz⟩;exact hK _ _ rfl hz
     case s6 =>
      intro K' a wy ho hd hb hK;simp [Region.binds,rAt,IsV,slot] at hd;go_simp;try go_bits
      exact hK _ _ rfl bR
     case s7 =>
      intro K' a wy ho hd hb hK;have h3:=ho 3 (by decide);simp [slot] at h3;clear hd;go_simp;try go_bits
      exact hK _ _ rfl bR
     case s8 =>
      intro K' a wy ho hd hb hK;simp [Region.binds,rAt,IsV,slot] at hd;go_simp;try go_bits
      exact hK _ _ rfl bR
     case s9 =>
      intro K' a wy ho hd hb hK;simp [Region.binds,rAt,IsV,slot] at hd;go_simp;refine (specTwo_any ((n:Int) % 65536) wy (by omega) (by omega)).mono ?_;rintro e wz ⟨rfl,hz⟩;exact hK _ _ rfl hz
     case s10 =>
      intro K' a wy ho hd hb hK;simp [Region.binds,rAt,IsV,slot] at hd;go_simp;try go_bits
      exact hK _ _ rfl bR
     case s11 =>
      intro K' a wy ho hd hb hK;have h3:=ho 2 (by decide);simp [slot] at h3;clear hd;go_simp;try go_bits
      exact hK _ _ rfl bR
     case s12 =>
      intro K' a wy ho hd hb hK;simp [Region.binds,rAt,IsV,slot] at hd;go_simp;try go_bits
      exact hK _ _ rfl bR
     case s13 =>
      intro K' a wy ho hd hb hK;simp [Region.binds,rAt,IsV,slot] at hd;go_simp;exact hK _ _ ⟨wy.heap.size,rfl,by simp,by simp,by simp,by simp⟩ (bR.alloc lR _)
     case s14 =>
      intro K' a wy ho hd hb hK;simp only [List.forall_mem_singleton,Array.mem_def,List.mem_singleton,forall_eq] at hd;obtain ⟨b,hd1,hd2,hd3,hd4,hd5⟩ : IsQuadW (0) (p) (slot a 43) wy:=hd rfl;have hcv:=quadW_conv (cap:=4) (by omega) (by omega) hd2 hd3 hd4 hd5;simp [slot] at hd1;go_simp;try go_bits
      exact hK _ _ rfl bR
     case s15 =>
      intro K' a wy ho hd hb hK;simp [Region.binds,rAt,IsV,slot] at hd;go_simp;try go_bits
      exact hK _ _ rfl bR
     case s16 =>
      intro K' a wy ho hd hb hK;simp [Region.binds,rAt,IsV,slot] at hd;go_simp;try go_bits
      exact hK _ _ rfl bR
    case done =>
     intro X wz hR hz;obtain ⟨x0,x1,x2,x3,x4,x5,x6,x7,x8,x9,x10,x11,x12,⟨b13,x13,-,-,-,-⟩,x14,x15,x16,-⟩:=hR;simp only [IsV] at x0 x1 x2 x3 x4 x5 x6 x7 x8 x9 x10 x11 x12 x14 x15 x16;simp only [putsFrom,x0,x1,x2,x3,x4,x5,x6,x7,x8,x9,x10,x11,x12,x13,x14,x15,x16];clear x0 x1 x2 x3 x4 x5 x6 x7 x8 x9 x10 x11 x12 x13 x14 x15 x16;go_simp;refine hK2 _ _ (hJ _ _ ?_);(repeat apply Exists.intro)
     refine ⟨⟨by rw [HZ.out],(Below.refl _ w).drew.trans hz⟩,rfl⟩
   case rest =>
   obtain ⟨rfl,hb⟩:=hcut;go_wp2_with fail
   go_ret;exact ⟨rfl,hb⟩
  ·have d1:(p==1)=false:=by simp [dp]
   go_enter Tryz.func71,Tryz.ntmps71
   go_upto_region 5 with fail
   go_cut [8] (fun v wx=>v=.string ans∧Below w.heap.size w wx)
   case first =>
    rename_i J K2 hJ hK2;clear hun;refine wp_region_growL (Rs:=[IsV (.string s),IsV (.string d),IsV (.string (s++d)),IsV (iV (n:Int)),IsV (iV ((n:Int) / 65536)),IsV (.string (twoV ((n:Int) / 65536))),IsV (.string (s++d++twoV ((n:Int) / 65536))),IsV (iV (n:Int)),IsV (iV ((n:Int) % 65536)),IsV (.string (twoV ((n:Int) % 65536))),IsV (.string (s++d++twoV ((n:Int) / 65536)++twoV ((n:Int) % 65536))),IsV (iV p),IsV (.int .u8 p),IsQuadW (0) (p),IsV (.string (quadW 0 p)),IsV (.string (s++d++twoV ((n:Int) / 65536)++twoV ((n:Int) % 65536)++quadW 0 p)),IsV (.string (s++d++twoV ((n:Int) / 65536)++twoV ((n:Int) % 65536)++quadW 0 p))]) [30,31,32,33,34,35,36,37,38,39,40,41,42,43,44,45,8] (by kernel_rfl) (by kernel_rfl) rfl ?st ?steps ?done
    case st=>simp [stable_isV,stable_isQuadW]
    case steps =>
     refine ⟨?s0,?s1,?s2,?s3,?s4,?s5,?s6,?s7,?s8,?s9,?s10,?s11,?s12,?s13,?s14,?s15,?s16,trivial⟩
     case s0 =>
      intro K' a wy ho hd hb hK;have h3:=ho 0 (by decide);simp [slot] at h3;clear hd;go_simp;try go_bits
      exact hK _ _ rfl bR
     case s1 =>
      intro K' a wy ho hd hb hK;have h3:=ho 1 (by decide);simp [slot] at h3;clear hd;go_simp;try go_bits
      exact hK _ _ rfl bR
     case s2 =>
      intro K' a wy ho hd hb hK;simp [Region.binds,rAt,IsV,slot] at hd;go_simp;try go_bits
      exact hK _ _ rfl bR
     case s3 =>
      intro K' a wy ho hd hb hK;have h3:=ho 3 (by decide);simp [slot] at h3;clear hd;go_simp;try go_bits
      exact hK _ _ rfl bR
     case s4 =>
      intro K' a wy ho hd hb hK;simp [Region.binds,rAt,IsV,slot] at hd;go_simp;try go_bits
      exact hK _ _ rfl bR
     case s5 =>
      intro K' a wy ho hd hb hK;simp [Region.binds,rAt,IsV,slot] at hd;go_simp;refine (specTwo_any ((n:Int) / 65536) wy (by omega) (by omega)).mono ?_;rintro e wz ⟨rfl,hz⟩;exact hK _ _ rfl hz
     case s6 =>
      intro K' a wy ho hd hb hK;simp [Region.binds,rAt,IsV,slot] at hd;go_simp;try go_bits
      exact hK _ _ rfl bR
     case s7 =>
      intro K' a wy ho hd hb hK;have h3:=ho 3 (by decide);simp [slot] at h3;clear hd;go_simp;try go_bits
      exact hK _ _ rfl bR
     case s8 =>
      intro K' a wy ho hd hb hK;simp [Region.binds,rAt,IsV,slot] at hd;go_simp;try go_bits
      exact hK _ _ rfl bR
     case s9 =>
      intro K' a wy ho hd hb hK;simp [Region.binds,rAt,IsV,slot] at hd;go_simp;refine (specTwo_any ((n:Int) % 65536) wy (by omega) (by omega)).mono ?_;rintro e wz ⟨rfl,hz⟩;exact hK _ _ rfl hz
     case s10 =>
      intro K' a wy ho hd hb hK;simp [Region.binds,rAt,IsV,slot] at hd;go_simp;try go_bits
      exact hK _ _ rfl bR
     case s11 =>
      intro K' a wy ho hd hb hK;have h3:=ho 2 (by decide);simp [slot] at h3;clear hd;go_simp;try go_bits
      exact hK _ _ rfl bR
     case s12 =>
      intro K' a wy ho hd hb hK;simp [Region.binds,rAt,IsV,slot] at hd;go_simp;try go_bits
      exact hK _ _ rfl bR
     case s13 =>
      intro K' a wy ho hd hb hK;simp [Region.binds,rAt,IsV,slot] at hd;go_simp;exact hK _ _ ⟨wy.heap.size,rfl,by simp,by simp,by simp,by simp⟩ (bR.alloc lR _)
     case s14 =>
      intro K' a wy ho hd hb hK;simp only [List.forall_mem_singleton,Array.mem_def,List.mem_singleton,forall_eq] at hd;obtain ⟨b,hd1,hd2,hd3,hd4,hd5⟩ : IsQuadW (0) (p) (slot a 43) wy:=hd rfl;have hcv:=quadW_conv (cap:=4) (by omega) (by omega) hd2 hd3 hd4 hd5;simp [slot] at hd1;go_simp;try go_bits
      exact hK _ _ rfl bR
     case s15 =>
      intro K' a wy ho hd hb hK;simp [Region.binds,rAt,IsV,slot] at hd;go_simp;try go_bits
      exact hK _ _ rfl bR
     case s16 =>
      intro K' a wy ho hd hb hK;simp [Region.binds,rAt,IsV,slot] at hd;go_simp;try go_bits
      exact hK _ _ rfl bR
    case done =>
     intro X wz hR hz;obtain ⟨x0,x1,x2,x3,x4,x5,x6,x7,x8,x9,x10,x11,x12,⟨b13,x13,-,-,-,-⟩,x14,x15,x16,-⟩:=hR;simp only [IsV] at x0 x1 x2 x3 x4 x5 x6 x7 x8 x9 x10 x11 x12 x14 x15 x16;simp only [putsFrom,x0,x1,x2,x3,x4,x5,x6,x7,x8,x9,x10,x11,x12,x13,x14,x15,x16];clear x0 x1 x2 x3 x4 x5 x6 x7 x8 x9 x10 x11 x12 x13 x14 x15 x16;go_simp;refine hK2 _ _ (hJ _ _ ?_);(repeat apply Exists.intro)
     refine ⟨⟨by rw [HZ.out],(Below.refl _ w).drew.trans hz⟩,rfl⟩
   case rest =>
   obtain ⟨rfl,hb⟩:=hcut;go_wp2_with fail
   go_ret;exact ⟨rfl,hb⟩
structure BoxG (w:World) (X:Nat) (f:Fl):Prop where
 c0:w.cell? ⟨X,0,none⟩=some (iV f.proto)
 f0:w.frozen? ⟨X,0,none⟩=false
 c1:w.cell? ⟨X,1,none⟩=some (.string f.src)
 f1:w.frozen? ⟨X,1,none⟩=false
 c2:w.cell? ⟨X,2,none⟩=some (.string f.dst)
 f2:w.frozen? ⟨X,2,none⟩=false
 c3:w.cell? ⟨X,3,none⟩=some (iV f.sp)
 f3:w.frozen? ⟨X,3,none⟩=false
 c4:w.cell? ⟨X,4,none⟩=some (iV f.dp)
 f4:w.frozen? ⟨X,4,none⟩=false
section
variable {w w':World} {X:Nat} {f:Fl}
theorem BoxG.new (w:World) (f:Fl) {t:TypeId}:BoxG (w.alloc (.cells (FlV f).toArray t)) w.heap.size f:=⟨cell_new rfl,by simp,cell_new rfl,by simp,cell_new rfl,by simp,cell_new rfl,by simp,cell_new rfl,by simp⟩
theorem BoxG.kept (h:BoxG w X f) (q:Below w.heap.size w w'):BoxG w' X f:=by
 have hb:=World.block_lt_of_cell? w _ h.c0;obtain ⟨hc,hf⟩:=bcell q;exact ⟨(hc X 0 hb).trans h.c0,(hf X 0 hb).trans h.f0,(hc X 1 hb).trans h.c1,(hf X 1 hb).trans h.f1,(hc X 2 hb).trans h.c2,(hf X 2 hb).trans h.f2,(hc X 3 hb).trans h.c3,(hf X 3 hb).trans h.f3,(hc X 4 hb).trans h.c4,(hf X 4 hb).trans h.f4⟩
theorem BoxG.other (h:BoxG w X f) {C o:Nat} (v:Value) (hC:C≠X):BoxG (w.setCell ⟨C,o,none⟩ v) X f:=by
 have hc:∀ j,(w.setCell ⟨C,o,none⟩ v).cell? ⟨X,j,none⟩=w.cell? ⟨X,j,none⟩:=fun j=>World.cell?_setCell_other w _ _ v (fun e=>hC (congrArg Addr.block e))
 have hf:∀ j,(w.setCell ⟨C,o,none⟩ v).frozen? ⟨X,j,none⟩=w.frozen? ⟨X,j,none⟩:=fun j=>by simp
 exact ⟨(hc 0).trans h.c0,(hf 0).trans h.f0,(hc 1).trans h.c1,(hf 1).trans h.f1,(hc 2).trans h.c2,(hf 2).trans h.f2,(hc 3).trans h.c3,(hf 3).trans h.f3,(hc 4).trans h.c4,(hf 4).trans h.f4⟩
theorem BoxG.set3 (h:BoxG w X f) (q:Int):BoxG (w.setCell ⟨X,3,none⟩ (iV q)) X ⟨f.proto,f.src,f.dst,q,f.dp⟩:=by
 obtain ⟨c0,f0,c1,f1,c2,f2,c3,f3,c4,f4⟩:=h;constructor<;>simp [go_sem,c0,f0,c1,f1,c2,f2,c3,f3,c4,f4]
end
theorem spOf_any (s d:ByteArray) (p:Int) (t:ByteArray) (w:World) (hs:s.size≤1048576) (ht:t.size≤1048576) :
  Cb 32 #[.string s,.string d,iV p,.string t] w (.tuple #[fwC (ofFl s d p t),iV (ofCode s.size p t)]):=by
 have HB1:Hid (∀ W,Cw 66 #[iV p,iV s.size] W (.bool (protoOk p s.size))):=fun W=>spProto_any _ _ W (by unfold maxLen; omega)
 have HB2:Hid (∀ W,Cw 44 #[iV p] W (.bool (echoP p))):=fun W=>spEcho_any _ W
 have HN:Hid (ofCode s.size p t≠0→fwC (ofFl s d p t)=.agg (FlR p s d 0 0).toArray):=fun h=>by unfold ofFl; rw [if_neg h]; rfl
 cases a1:protoOk p s.size with
 | false =>
  have HV:Hid (ofCode s.size p t=11):=by unfold Hid ofCode; rw [if_pos a1]
  have HW:Hid (fwC (ofFl s d p t)=.agg (FlR p s d 0 0).toArray):=HN.out (by rw [HV.out]; decide);rw [a1] at HB1;rw [HV.out,HW.out];clear HN HV HW HB2;go_enter Tryz.func32,Tryz.ntmps32
  go_wp2_with fail
  refine (HB1.out _).mono ?_;rintro e w2 ⟨rfl,rfl⟩;go_wp2_with fail
  refine bodyPost_ret (v:=.tuple #[.agg (FlR p s d 0 0).toArray,iV 11]) (by simp [results,Tryz.results32,go_sem]) rfl ⟨rfl,?_⟩;exact (bR.alloc lR _).alloc (by simp) _
 | true =>
  have hb:=get_bt t;have b12:=bt_isByte t 12;have b0:=bt_isByte t 0;have b1:=bt_isByte t 1;have HC:Hid (∀ k:Nat,k+1 < t.size→∀ W,Cb 42 #[.string t,iV k] W (iV (wordN (bt t) k))):=fun k hk W=>specAt_any t k W hk (by unfold maxLen; omega)
  have HS:Hid (shortP p t=((decide (p=6)&&(decide (t.size < 20)||decide (bt t 12 / 16 < 5)||decide ((t.size:Int) < 4*(bt t 12 / 16))))||decide (t.size < 8))):=rfl;have HV:Hid (ofCode s.size p t=if shortP p t=true then 4 else if echoP p=true then (if (bt t 0≠askP p∧bt t 0≠ansP p)∨bt t 1≠0 then 11 else 0) else 0):=by unfold Hid ofCode; rw [if_neg (by rw [a1]; decide)]
  have HY:Hid (ofCode s.size p t=0→fwC (ofFl s d p t)=.agg (FlR p s d (if echoP p=true then wordN (bt t) 4 else wordN (bt t) 0) (if echoP p=true then wordN (bt t) 4 else wordN (bt t) 2)).toArray):=fun h=>by
   unfold ofFl; rw [if_pos h]; split<;>rfl
  have HL:Hid (shortP p t=false→8≤t.size):=fun h=>by
   unfold shortP at h; rw [Bool.or_eq_false_iff,decide_eq_false_iff_not] at h; omega
  rw [a1] at HB1;generalize ofCode s.size p t=code at *;generalize fwC (ofFl s d p t)=out at *;generalize shortP p t=sh at *;clear a1;go_enter Tryz.func32,Tryz.ntmps32
  go_wp2_with fail
  refine (HB1.out _).mono ?_;rintro e w2 ⟨rfl,rfl⟩;clear HB1;go_upto_region 4 with fail
  have HWB:Hid (Below w.heap.size w ((aW w (FlR 0 ⟨#[]⟩ ⟨#[]⟩ 0 0) 43).alloc (.cells (FlR p s d 0 0).toArray 43))):=(bR.alloc lR _).alloc (by simp) _;have KF:Hid (BoxG ((aW w (FlR 0 ⟨#[]⟩ ⟨#[]⟩ 0 0) 43).alloc (.cells (FlR p s d 0 0).toArray 43)) (w.heap.size+1) ⟨p,s,d,0,0⟩):=by
   have h:=BoxG.new (w.alloc (.cells (FlR 0 ⟨#[]⟩ ⟨#[]⟩ 0 0).toArray 43)) ⟨p,s,d,0,0⟩ (t:=43);rw [show (w.alloc (.cells (FlR 0 ⟨#[]⟩ ⟨#[]⟩ 0 0).toArray 43)).heap.size=w.heap.size+1 by simp] at h;exact h
  have KR:Hid (BoxG ((aW w (FlR 0 ⟨#[]⟩ ⟨#[]⟩ 0 0) 43).alloc (.cells (FlR p s d 0 0).toArray 43)) w.heap.size ⟨0,⟨#[]⟩,⟨#[]⟩,0,0⟩):=(BoxG.new w ⟨0,⟨#[]⟩,⟨#[]⟩,0,0⟩).kept (bR.alloc lR _);go_cut [24] (fun c wx=>c=.bool sh∧wx=(aW w (FlR 0 ⟨#[]⟩ ⟨#[]⟩ 0 0) 43).alloc (.cells (FlR p s d 0 0).toArray 43))
  case first =>
   clear HV HY HN HL HC HB2 HWB KF KR;by_cases c1:p=6
   ·have d1:(p==6)=true:=by simp [c1]
    by_cases c2:t.size < 20
    ·have hB:sh=true:=by rw [HS.out,decide_eq_true c1,decide_eq_true c2]; rfl
     clear HS c1;subst hB;go_wp2_with fail
     go_meet;exact ⟨rfl,rfl⟩
    ·by_cases c3:bt t 12 / 16 < 5
     ·have hB:sh=true:=by rw [HS.out,decide_eq_true c1,decide_eq_true c3]; simp
      clear HS c1;subst hB;go_wp2_with fail
      go_meet;exact ⟨rfl,rfl⟩
     ·by_cases c4:(t.size:Int) < 4*(bt t 12 / 16)
      ·have hB:sh=true:=by rw [HS.out,decide_eq_true c1,decide_eq_true c4]; simp
       clear HS c1;subst hB;go_wp2_with fail
       go_meet;exact ⟨rfl,rfl⟩
      ·have hB:sh=false:=by rw [HS.out,decide_eq_false c2,decide_eq_false c3,decide_eq_false c4,decide_eq_false (show ¬ t.size < 8 by omega)]; simp
       clear HS c1;subst hB;go_wp2_with fail
       go_meet;exact ⟨congrArg Value.bool (by simp; omega),rfl⟩
   ·have d1:(p==6)=false:=by simp [c1]
    by_cases c2:t.size < 8
    ·have hB:sh=true:=by rw [HS.out,decide_eq_true c2]; simp
     clear HS c1;subst hB;go_wp2_with fail
     go_meet;exact ⟨congrArg Value.bool (by simp; omega),rfl⟩
    ·have hB:sh=false:=by rw [HS.out,decide_eq_false c1,decide_eq_false c2]; rfl
     clear HS c1;subst hB;go_wp2_with fail
     go_meet;exact ⟨congrArg Value.bool (by simp; omega),rfl⟩
  case rest =>
  obtain ⟨rfl,rfl⟩:=hcut;clear HS
  cases sh with
  | true =>
   have HV2:Hid (code=4):=HV.out;have HO:Hid (out=.agg (FlR p s d 0 0).toArray):=HN.out (by rw [HV2.out]; decide);clear HV HY HN HL HC HB2 HWB KF KR;go_wp2_with fail
   refine bodyPost_ret (v:=.tuple #[.agg (FlR p s d 0 0).toArray,iV 4]) (by simp [results,Tryz.results32,go_sem]) rfl ⟨by rw [HV2.out,HO.out],?_⟩;exact (bR.alloc lR _).alloc (by simp) _
  | false =>
   have hl:=HL.out rfl;replace HV:Hid (code=if echoP p=true then (if (bt t 0≠askP p∧bt t 0≠ansP p)∨bt t 1≠0 then 11 else 0) else 0):=HV.out;have HC4:Hid _:=HC.out 4 (by omega);have HC0:Hid _:=HC.out 0 (by omega);have HC2:Hid _:=HC.out 2 (by omega);clear HL HC
   cases a2:echoP p with
   | false =>
    have HV2:Hid (code=0):=by unfold Hid; rw [HV.out,a2]; rfl
    have HO:Hid (out=.agg (FlR p s d (wordN (bt t) 0) (wordN (bt t) 2)).toArray):=by unfold Hid; rw [HY.out HV2.out,a2]; rfl
    rw [a2] at HB2;clear HV HY HN HC4 a2;generalize wordN (bt t) 0=x0 at *;generalize wordN (bt t) 2=x2 at *;go_wp2_with fail
    refine (HB2.out _).mono ?_;rintro e w2 ⟨rfl,rfl⟩;go_wp2_with fail
    refine (HC0.out _).mono ?_;rintro e w3 ⟨rfl,q3⟩;have G3:Hid _:=HWB.out.trans (q3.mono HWB.out.size);have K3:Hid (BoxG w3 (w.heap.size+1) ⟨p,s,d,0,0⟩):=KF.out.kept q3;have R3:Hid (BoxG w3 w.heap.size ⟨0,⟨#[]⟩,⟨#[]⟩,0,0⟩):=KR.out.kept q3;clear q3 HWB KF KR;obtain ⟨k0,y0,k1,y1,k2,y2,k3,y3,k4,y4⟩:=K3.out;go_wp2_with fail
    refine (HC2.out _).mono ?_;rintro e w4 ⟨rfl,q4⟩;have G4:Hid (Below w.heap.size w w4):=(G3.out.setCell (Nat.le_succ _) _).trans (q4.mono (G3.out.setCell (Nat.le_succ _) _).size);have K4:Hid (BoxG w4 (w.heap.size+1) ⟨p,s,d,x0,0⟩):=(K3.out.set3 x0).kept q4;have R4:Hid (BoxG w4 w.heap.size ⟨0,⟨#[]⟩,⟨#[]⟩,0,0⟩):=(R3.out.other _ (by omega)).kept q4;clear q4 G3 K3 R3 k0 y0 k1 y1 k2 y2 k3 y3 k4 y4;obtain ⟨k0,y0,k1,y1,k2,y2,k3,y3,k4,y4⟩:=K4.out;obtain ⟨o0,z0,o1,z1,o2,z2,o3,z3,o4,z4⟩:=R4.out;go_wp2_with fail
    refine bodyPost_ret (v:=.tuple #[.agg (FlR p s d x0 x2).toArray,iV 0]) (by simp [results,Tryz.results32,go_sem,k0,o0,k1,o1,k2,o2,k3,o3,k4,o4]) rfl ⟨by rw [HV2.out,HO.out],?_⟩;exact (((((G4.out.setCell (Nat.le_succ _) _).setCell lR _).setCell lR _).setCell lR _).setCell lR _).setCell lR _
   | true =>
    have hp:p=1∨p=58:=by unfold echoP at a2; simpa using a2
    rw [a2] at HB2 HV HY;clear HC0 HC2 a2;generalize wordN (bt t) 4=x4 at *;rcases hp with rfl | rfl
    ·have HV3:Hid (code=if (bt t 0≠8∧bt t 0≠0)∨bt t 1≠0 then 11 else 0):=HV.out;clear HV;by_cases e0:bt t 0=8
     ·have d0:(bt t 0 != 8)=false:=by simp [e0]
      by_cases e1:bt t 1=0
      ·have d1:(bt t 1 != 0)=false:=by simp [e1]
       have HV2:Hid (code=0):=by unfold Hid; rw [HV3.out,if_neg (fun h=>h.elim (fun q=>q.1 e0) (fun q=>q e1))]
       have HO:Hid (out=.agg (FlR 1 s d x4 x4).toArray):=HY.out HV2.out;clear HV3 HY HN;go_wp2_with fail
       refine (HB2.out _).mono ?_;rintro e w2 ⟨rfl,rfl⟩;go_wp2_with fail
       refine (HC4.out _).mono ?_;rintro e w3 ⟨rfl,q3⟩;have G3:Hid _:=HWB.out.trans (q3.mono HWB.out.size);have K3:Hid (BoxG w3 (w.heap.size+1) ⟨1,s,d,0,0⟩):=KF.out.kept q3;have R3:Hid (BoxG w3 w.heap.size ⟨0,⟨#[]⟩,⟨#[]⟩,0,0⟩):=KR.out.kept q3;clear q3 HWB KF KR;obtain ⟨k0,y0,k1,y1,k2,y2,k3,y3,k4,y4⟩:=K3.out;obtain ⟨o0,z0,o1,z1,o2,z2,o3,z3,o4,z4⟩:=R3.out;go_wp2_with fail
       refine bodyPost_ret (v:=.tuple #[.agg (FlR 1 s d x4 x4).toArray,iV 0]) (by simp [results,Tryz.results32,go_sem,k0,o0,k1,o1,k2,o2,k3,o3,k4,o4]) rfl ⟨by rw [HV2.out,HO.out],?_⟩;exact ((((((G3.out.setCell (Nat.le_succ _) _).setCell (Nat.le_succ _) _).setCell lR _).setCell lR _).setCell lR _).setCell lR _).setCell lR _
      ·have d1:(bt t 1 != 0)=true:=by simp [e1]
       have HV2:Hid (code=11):=by unfold Hid; rw [HV3.out,if_pos (Or.inr e1)]
       have HO:Hid (out=.agg (FlR 1 s d 0 0).toArray):=HN.out (by rw [HV2.out]; decide);clear HV3 HY HN HC4 KF KR HWB;go_wp2_with fail
       refine (HB2.out _).mono ?_;rintro e w2 ⟨rfl,rfl⟩;go_wp2_with fail
       refine bodyPost_ret (v:=.tuple #[.agg (FlR 1 s d 0 0).toArray,iV 11]) (by simp [results,Tryz.results32,go_sem]) rfl ⟨by rw [HV2.out,HO.out],?_⟩;exact (bR.alloc lR _).alloc (by simp) _
     ·have d0:(bt t 0 != 8)=true:=by simp [e0]
      by_cases e2:bt t 0=0
      ·have d2:(bt t 0 != 0)=false:=by simp [e2]
       by_cases e1:bt t 1=0
       ·have d1:(bt t 1 != 0)=false:=by simp [e1]
        have HV2:Hid (code=0):=by unfold Hid; rw [HV3.out,if_neg (fun h=>h.elim (fun q=>q.2 e2) (fun q=>q e1))]
        have HO:Hid (out=.agg (FlR 1 s d x4 x4).toArray):=HY.out HV2.out;clear HV3 HY HN;go_wp2_with fail
        refine (HB2.out _).mono ?_;rintro e w2 ⟨rfl,rfl⟩;go_wp2_with fail
        refine (HC4.out _).mono ?_;rintro e w3 ⟨rfl,q3⟩;have G3:Hid _:=HWB.out.trans (q3.mono HWB.out.size);have K3:Hid (BoxG w3 (w.heap.size+1) ⟨1,s,d,0,0⟩):=KF.out.kept q3;have R3:Hid (BoxG w3 w.heap.size ⟨0,⟨#[]⟩,⟨#[]⟩,0,0⟩):=KR.out.kept q3;clear q3 HWB KF KR;obtain ⟨k0,y0,k1,y1,k2,y2,k3,y3,k4,y4⟩:=K3.out;obtain ⟨o0,z0,o1,z1,o2,z2,o3,z3,o4,z4⟩:=R3.out;go_wp2_with fail
        refine bodyPost_ret (v:=.tuple #[.agg (FlR 1 s d x4 x4).toArray,iV 0]) (by simp [results,Tryz.results32,go_sem,k0,o0,k1,o1,k2,o2,k3,o3,k4,o4]) rfl ⟨by rw [HV2.out,HO.out],?_⟩;exact ((((((G3.out.setCell (Nat.le_succ _) _).setCell (Nat.le_succ _) _).setCell lR _).setCell lR _).setCell lR _).setCell lR _).setCell lR _
       ·have d1:(bt t 1 != 0)=true:=by simp [e1]
        have HV2:Hid (code=11):=by unfold Hid; rw [HV3.out,if_pos (Or.inr e1)]
        have HO:Hid (out=.agg (FlR 1 s d 0 0).toArray):=HN.out (by rw [HV2.out]; decide);clear HV3 HY HN HC4 KF KR HWB;go_wp2_with fail
        refine (HB2.out _).mono ?_;rintro e w2 ⟨rfl,rfl⟩;go_wp2_with fail
        refine bodyPost_ret (v:=.tuple #[.agg (FlR 1 s d 0 0).toArray,iV 11]) (by simp [results,Tryz.results32,go_sem]) rfl ⟨by rw [HV2.out,HO.out],?_⟩;exact (bR.alloc lR _).alloc (by simp) _
      ·have d2:(bt t 0 != 0)=true:=by simp [e2]
       have HV2:Hid (code=11):=by unfold Hid; rw [HV3.out,if_pos (Or.inl ⟨e0,e2⟩)]
       have HO:Hid (out=.agg (FlR 1 s d 0 0).toArray):=HN.out (by rw [HV2.out]; decide);clear HV3 HY HN HC4 KF KR HWB;go_wp2_with fail
       refine (HB2.out _).mono ?_;rintro e w2 ⟨rfl,rfl⟩;go_wp2_with fail
       refine bodyPost_ret (v:=.tuple #[.agg (FlR 1 s d 0 0).toArray,iV 11]) (by simp [results,Tryz.results32,go_sem]) rfl ⟨by rw [HV2.out,HO.out],?_⟩;exact (bR.alloc lR _).alloc (by simp) _
    ·have HV3:Hid (code=if (bt t 0≠128∧bt t 0≠129)∨bt t 1≠0 then 11 else 0):=HV.out;clear HV;by_cases e0:bt t 0=128
     ·have d0:(bt t 0 != 128)=false:=by simp [e0]
      by_cases e1:bt t 1=0
      ·have d1:(bt t 1 != 0)=false:=by simp [e1]
       have HV2:Hid (code=0):=by unfold Hid; rw [HV3.out,if_neg (fun h=>h.elim (fun q=>q.1 e0) (fun q=>q e1))]
       have HO:Hid (out=.agg (FlR 58 s d x4 x4).toArray):=HY.out HV2.out;clear HV3 HY HN;go_wp2_with fail
       refine (HB2.out _).mono ?_;rintro e w2 ⟨rfl,rfl⟩;go_wp2_with fail
       refine (HC4.out _).mono ?_;rintro e w3 ⟨rfl,q3⟩;have G3:Hid _:=HWB.out.trans (q3.mono HWB.out.size);have K3:Hid (BoxG w3 (w.heap.size+1) ⟨58,s,d,0,0⟩):=KF.out.kept q3;have R3:Hid (BoxG w3 w.heap.size ⟨0,⟨#[]⟩,⟨#[]⟩,0,0⟩):=KR.out.kept q3;clear q3 HWB KF KR;obtain ⟨k0,y0,k1,y1,k2,y2,k3,y3,k4,y4⟩:=K3.out;obtain ⟨o0,z0,o1,z1,o2,z2,o3,z3,o4,z4⟩:=R3.out;go_wp2_with fail
       refine bodyPost_ret (v:=.tuple #[.agg (FlR 58 s d x4 x4).toArray,iV 0]) (by simp [results,Tryz.results32,go_sem,k0,o0,k1,o1,k2,o2,k3,o3,k4,o4]) rfl ⟨by rw [HV2.out,HO.out],?_⟩;exact ((((((G3.out.setCell (Nat.le_succ _) _).setCell (Nat.le_succ _) _).setCell lR _).setCell lR _).setCell lR _).setCell lR _).setCell lR _
      ·have d1:(bt t 1 != 0)=true:=by simp [e1]
       have HV2:Hid (code=11):=by unfold Hid; rw [HV3.out,if_pos (Or.inr e1)]
       have HO:Hid (out=.agg (FlR 58 s d 0 0).toArray):=HN.out (by rw [HV2.out]; decide);clear HV3 HY HN HC4 KF KR HWB;go_wp2_with fail
       refine (HB2.out _).mono ?_;rintro e w2 ⟨rfl,rfl⟩;go_wp2_with fail
       refine bodyPost_ret (v:=.tuple #[.agg (FlR 58 s d 0 0).toArray,iV 11]) (by simp [results,Tryz.results32,go_sem]) rfl ⟨by rw [HV2.out,HO.out],?_⟩;exact (bR.alloc lR _).alloc (by simp) _
     ·have d0:(bt t 0 != 128)=true:=by simp [e0]
      by_cases e2:bt t 0=129
      ·have d2:(bt t 0 != 129)=false:=by simp [e2]
       by_cases e1:bt t 1=0
       ·have d1:(bt t 1 != 0)=false:=by simp [e1]
        have HV2:Hid (code=0):=by unfold Hid; rw [HV3.out,if_neg (fun h=>h.elim (fun q=>q.2 e2) (fun q=>q e1))]
        have HO:Hid (out=.agg (FlR 58 s d x4 x4).toArray):=HY.out HV2.out;clear HV3 HY HN;go_wp2_with fail
        refine (HB2.out _).mono ?_;rintro e w2 ⟨rfl,rfl⟩;go_wp2_with fail
        refine (HC4.out _).mono ?_;rintro e w3 ⟨rfl,q3⟩;have G3:Hid _:=HWB.out.trans (q3.mono HWB.out.size);have K3:Hid (BoxG w3 (w.heap.size+1) ⟨58,s,d,0,0⟩):=KF.out.kept q3;have R3:Hid (BoxG w3 w.heap.size ⟨0,⟨#[]⟩,⟨#[]⟩,0,0⟩):=KR.out.kept q3;clear q3 HWB KF KR;obtain ⟨k0,y0,k1,y1,k2,y2,k3,y3,k4,y4⟩:=K3.out;obtain ⟨o0,z0,o1,z1,o2,z2,o3,z3,o4,z4⟩:=R3.out;go_wp2_with fail
        refine bodyPost_ret (v:=.tuple #[.agg (FlR 58 s d x4 x4).toArray,iV 0]) (by simp [results,Tryz.results32,go_sem,k0,o0,k1,o1,k2,o2,k3,o3,k4,o4]) rfl ⟨by rw [HV2.out,HO.out],?_⟩;exact ((((((G3.out.setCell (Nat.le_succ _) _).setCell (Nat.le_succ _) _).setCell lR _).setCell lR _).setCell lR _).setCell lR _).setCell lR _
       ·have d1:(bt t 1 != 0)=true:=by simp [e1]
        have HV2:Hid (code=11):=by unfold Hid; rw [HV3.out,if_pos (Or.inr e1)]
        have HO:Hid (out=.agg (FlR 58 s d 0 0).toArray):=HN.out (by rw [HV2.out]; decide);clear HV3 HY HN HC4 KF KR HWB;go_wp2_with fail
        refine (HB2.out _).mono ?_;rintro e w2 ⟨rfl,rfl⟩;go_wp2_with fail
        refine bodyPost_ret (v:=.tuple #[.agg (FlR 58 s d 0 0).toArray,iV 11]) (by simp [results,Tryz.results32,go_sem]) rfl ⟨by rw [HV2.out,HO.out],?_⟩;exact (bR.alloc lR _).alloc (by simp) _
      ·have d2:(bt t 0 != 129)=true:=by simp [e2]
       have HV2:Hid (code=11):=by unfold Hid; rw [HV3.out,if_pos (Or.inl ⟨e0,e2⟩)]
       have HO:Hid (out=.agg (FlR 58 s d 0 0).toArray):=HN.out (by rw [HV2.out]; decide);clear HV3 HY HN HC4 KF KR HWB;go_wp2_with fail
       refine (HB2.out _).mono ?_;rintro e w2 ⟨rfl,rfl⟩;go_wp2_with fail
       refine bodyPost_ret (v:=.tuple #[.agg (FlR 58 s d 0 0).toArray,iV 11]) (by simp [results,Tryz.results32,go_sem]) rfl ⟨by rw [HV2.out,HO.out],?_⟩;exact (bR.alloc lR _).alloc (by simp) _
structure BoxO (X:Nat) (w:World) (f:Fl) (code:Int):Prop where
 c0:w.cell? ⟨X,0,none⟩=some (iV f.proto)
 f0:w.frozen? ⟨X,0,none⟩=false
 c1:w.cell? ⟨X,1,none⟩=some (.string f.src)
 f1:w.frozen? ⟨X,1,none⟩=false
 c2:w.cell? ⟨X,2,none⟩=some (.string f.dst)
 f2:w.frozen? ⟨X,2,none⟩=false
 c3:w.cell? ⟨X,3,none⟩=some (iV f.sp)
 f3:w.frozen? ⟨X,3,none⟩=false
 c4:w.cell? ⟨X,4,none⟩=some (iV f.dp)
 f4:w.frozen? ⟨X,4,none⟩=false
 c5:w.cell? ⟨X,5,none⟩=some (iV code)
 f5:w.frozen? ⟨X,5,none⟩=false
theorem BoxO.new (w:World) (f:Fl) (code:Int) {t:TypeId}:BoxO w.heap.size (w.alloc (.cells #[iV f.proto,.string f.src,.string f.dst,iV f.sp,iV f.dp,iV code] t)) f code:=⟨cell_new rfl,by simp,cell_new rfl,by simp,cell_new rfl,by simp,cell_new rfl,by simp,cell_new rfl,by simp,cell_new rfl,by simp⟩
theorem BoxO.kept {w w':World} {X:Nat} {f:Fl} {code:Int} (h:BoxO X w f code) (q:Below w.heap.size w w'):BoxO X w' f code:=by
 have hb:=World.block_lt_of_cell? w _ h.c0;obtain ⟨hc,hf⟩:=bcell q;exact ⟨(hc X 0 hb).trans h.c0,(hf X 0 hb).trans h.f0,(hc X 1 hb).trans h.c1,(hf X 1 hb).trans h.f1,(hc X 2 hb).trans h.c2,(hf X 2 hb).trans h.f2,(hc X 3 hb).trans h.c3,(hf X 3 hb).trans h.f3,(hc X 4 hb).trans h.c4,(hf X 4 hb).trans h.f4,(hc X 5 hb).trans h.c5,(hf X 5 hb).trans h.f5⟩
theorem specFlowOf_any (s d:ByteArray) (p:Int) (t:ByteArray) (w:World) (hs:s.size≤1048576) (hd:d.size≤1048576) (ht:t.size≤1048576) :
  Cb 10 #[.string s,.string d,iV p,.string t] w (fwCO (flowOfV s d p t) (flowCode s d p t)):=by
 have HN:Hid (∀ c:Int,flowCode s d p t=c→c≠0→fwCO (flowOfV s d p t) (flowCode s d p t)=.agg #[iV 0,eS,eS,iV 0,iV 0,iV c]):=fun c h hc=>by unfold flowOfV; rw [h,if_neg hc]; rfl
 have HY:Hid (flowCode s d p t=0→fwCO (flowOfV s d p t) (flowCode s d p t)=fwCO (ofFl s d p t) 0):=fun h=>by unfold flowOfV; rw [h,if_pos rfl]
 have HD:Hid (flowCode s d p t=if 20000 < t.size∨20000 < s.size∨20000 < d.size then 2 else if pairOk s d=false then 1 else ofCode s.size p t):=rfl;generalize fwCO (flowOfV s d p t) (flowCode s d p t)=ans at *;generalize flowCode s d p t=code at *;by_cases lt:20000 < t.size
 ·have HV:Hid (ans=.agg #[iV 0,eS,eS,iV 0,iV 0,iV 2]):=HN.out 2 (by rw [HD.out,if_pos (Or.inl lt)]) (by decide);clear HN HY HD;go_enter Tryz.func10,Tryz.ntmps10
  go_wp2_with fail
  refine bodyPost_ret (v:=.agg #[iV 0,eS,eS,iV 0,iV 0,iV 2]) (by simp [results,Tryz.results10,go_sem]) rfl ⟨by rw [HV.out],?_⟩;exact bR.alloc lR _
 by_cases ls:20000 < s.size
 ·have HV:Hid (ans=.agg #[iV 0,eS,eS,iV 0,iV 0,iV 2]):=HN.out 2 (by rw [HD.out,if_pos (Or.inr (Or.inl ls))]) (by decide);clear HN HY HD;go_enter Tryz.func10,Tryz.ntmps10
  go_wp2_with fail
  refine bodyPost_ret (v:=.agg #[iV 0,eS,eS,iV 0,iV 0,iV 2]) (by simp [results,Tryz.results10,go_sem]) rfl ⟨by rw [HV.out],?_⟩;exact bR.alloc lR _
 by_cases ld:20000 < d.size
 ·have HV:Hid (ans=.agg #[iV 0,eS,eS,iV 0,iV 0,iV 2]):=HN.out 2 (by rw [HD.out,if_pos (Or.inr (Or.inr ld))]) (by decide);clear HN HY HD;go_enter Tryz.func10,Tryz.ntmps10
  go_wp2_with fail
  refine bodyPost_ret (v:=.agg #[iV 0,eS,eS,iV 0,iV 0,iV 2]) (by simp [results,Tryz.results10,go_sem]) rfl ⟨by rw [HV.out],?_⟩;exact bR.alloc lR _
 replace HD:Hid (code=if pairOk s d=false then 1 else ofCode s.size p t):=by unfold Hid; rw [HD.out,if_neg (by omega)]
 have HB1:Hid (∀ W,Cw 31 #[.string s,.string d] W (.bool (pairOk s d))):=fun W=>spPair_any _ _ W (by unfold maxLen; omega) (by unfold maxLen; omega)
 cases a1:pairOk s d with
 | false =>
  have HV:Hid (ans=.agg #[iV 0,eS,eS,iV 0,iV 0,iV 1]):=HN.out 1 (by rw [HD.out,if_pos a1]) (by decide);rw [a1] at HB1;clear HN HY HD a1;go_enter Tryz.func10,Tryz.ntmps10
  go_wp2_with fail
  refine (HB1.out _).mono ?_;rintro e w2 ⟨rfl,rfl⟩;go_wp2_with fail
  refine bodyPost_ret (v:=.agg #[iV 0,eS,eS,iV 0,iV 0,iV 1]) (by simp [results,Tryz.results10,go_sem]) rfl ⟨by rw [HV.out],?_⟩;exact bR.alloc lR _
 | true =>
  have HB2:Hid (∀ W,Cb 32 #[.string s,.string d,iV p,.string t] W (.tuple #[fwC (ofFl s d p t),iV (ofCode s.size p t)])):=fun W=>spOf_any s d p t W hs ht
  replace HD:Hid (code=ofCode s.size p t):=by unfold Hid; rw [HD.out,if_neg (by rw [a1]; decide)]
  rw [a1] at HB1;rw [← HD.out] at HB2;clear HD a1;have KR:Hid (BoxO w.heap.size (w.alloc (.cells #[iV 0,eS,eS,iV 0,iV 0,iV 0] 45)) ⟨0,⟨#[]⟩,⟨#[]⟩,0,0⟩ 0):=BoxO.new w ⟨0,⟨#[]⟩,⟨#[]⟩,0,0⟩ 0;have GR:Hid (Below w.heap.size w (w.alloc (.cells #[iV 0,eS,eS,iV 0,iV 0,iV 0] 45))):=bR.alloc lR _;generalize ofFl s d p t=fl at *;obtain ⟨p',s',d',x,y⟩:=fl;unfold fwC fwCO at *;dsimp only at *;by_cases c0:code=0
  ·have HV:=HY.out c0;have HV:Hid _:=HV;subst c0;clear HN HY;go_enter Tryz.func10,Tryz.ntmps10
   go_wp2_with fail
   refine (HB1.out _).mono ?_;rintro e w2 ⟨rfl,rfl⟩;go_wp2_with fail
   refine (HB2.out _).mono ?_;rintro e w3 ⟨rfl,q3⟩;have G3:Hid _:=GR.out.trans (q3.mono GR.out.size);have R3:Hid (BoxO w.heap.size w3 ⟨0,⟨#[]⟩,⟨#[]⟩,0,0⟩ 0):=KR.out.kept q3;clear q3 GR KR;have hlt:=World.block_lt_of_cell? w3 _ R3.out.c0;obtain ⟨k0,y0,k1,y1,k2,y2,k3,y3,k4,y4,k5,y5⟩:=R3.out;dsimp only at k0 k1 k2 k3 k4 k5;go_wp2_with fail
   have hne:w.heap.size≠w3.heap.size:=by omega
   refine bodyPost_ret (v:=.agg #[iV p',.string s',.string d',iV x,iV y,iV 0]) (by simp [results,Tryz.results10,go_sem,k0,k1,k2,k3,k4,k5,hlt,hne]) rfl ⟨by rw [HV.out],?_⟩;exact ((((((G3.out.setCell lR _).setCell lR _).setCell lR _).setCell lR _).setCell lR _).setCell lR _).alloc (by simp; omega) _
  ·have HV:Hid _:=HN.out code rfl c0;have dc:(code != 0)=true:=by simp [c0]
   clear HN HY;go_enter Tryz.func10,Tryz.ntmps10
   go_wp2_with fail
   refine (HB1.out _).mono ?_;rintro e w2 ⟨rfl,rfl⟩;go_wp2_with fail
   refine (HB2.out _).mono ?_;rintro e w3 ⟨rfl,q3⟩;have G3:Hid _:=GR.out.trans (q3.mono GR.out.size);have R3:Hid (BoxO w.heap.size w3 ⟨0,⟨#[]⟩,⟨#[]⟩,0,0⟩ 0):=KR.out.kept q3;clear q3 GR KR;have hlt:=World.block_lt_of_cell? w3 _ R3.out.c0;obtain ⟨k0,y0,k1,y1,k2,y2,k3,y3,k4,y4,k5,y5⟩:=R3.out;dsimp only at k0 k1 k2 k3 k4 k5;go_wp2_with fail
   have hne:w.heap.size≠w3.heap.size:=by omega
   refine bodyPost_ret (v:=.agg #[iV 0,eS,eS,iV 0,iV 0,iV code]) (by simp [results,Tryz.results10,go_sem,k0,k1,k2,k3,k4,k5,hlt,hne]) rfl ⟨by rw [HV.out],?_⟩;exact ((((((G3.out.setCell lR _).setCell lR _).setCell lR _).setCell lR _).setCell lR _).setCell lR _).alloc (by simp; omega) _
theorem spCheck_any (p:Int) (w:World) :
  Cw 74 #[iV p] w (iV (checkP p:Nat)):=by
 by_cases h1:p=6
 ·subst h1;go_enter Tryz.func74,Tryz.ntmps74
  go_wp2_with fail
  go_ret;exact ⟨rfl,rfl⟩
 ·have d1:(p==6)=false:=by simp [h1]
  by_cases h2:p=17
  ·subst h2;go_enter Tryz.func74,Tryz.ntmps74
   go_wp2_with fail
   go_ret;exact ⟨rfl,rfl⟩
  ·have d2:(p==17)=false:=by simp [h2]
   have HV:Hid (checkP p=2):=by unfold Hid checkP; rw [if_neg h1,if_neg h2]
   generalize checkP p=ans at *;go_enter Tryz.func74,Tryz.ntmps74
   go_wp2_with fail
   go_ret;exact ⟨ret_int (by rw [HV.out]; rfl),rfl⟩
theorem spPut_any (s:ByteArray) (k:Nat) (t:ByteArray) (w:World) (h:k+t.size≤s.size) (hs:s.size≤100000) :
  Cb 72 #[.string s,iV k,.string t] w (.string (putV s k t)):=by
 have HV:Hid (putV s k t=s.extract 0 k++t++s.extract (k+t.size) s.size):=rfl;generalize putV s k t=ans at *;have L1:∀ W,(Instr.slice 9 (.string s) none (some (iV k)) none).run Tryz.prog W=.ok (.string (s.extract 0 k)) W:=fun W=>by
  rw [run_slice_string_h (P:=Tryz.prog) (t:=9) (s:=s) (w:=W) (ht:=Tryz.underlying9) .i64 (k:Int) (by omega) (by omega),show ((k:Int)).toNat=k by omega]
 have L2:∀ W,(Instr.slice 9 (.string s) (some (iV ((k:Int)+t.size))) none none).run Tryz.prog W=.ok (.string (s.extract (k+t.size) s.size)) W:=fun W=>by
  rw [run_slice_string_l (P:=Tryz.prog) (t:=9) (s:=s) (w:=W) (ht:=Tryz.underlying9) .i64 ((k:Int)+t.size) (by omega) (by omega),show ((k:Int)+t.size).toNat=k+t.size by omega]
 have z1:(s.extract 0 k).size=k:=by rw [ByteArray.size_extract]; omega
 have z2:(s.extract (k+t.size) s.size).size=s.size-(k+t.size):=by rw [ByteArray.size_extract]; omega
 generalize s.extract 0 k=u1 at *;generalize s.extract (k+t.size) s.size=u2 at *;have n1:¬ 9223372036854775807 < u1.size+t.size:=by omega
 have n2:¬ 9223372036854775807 < u1.size+t.size+u2.size:=by omega
 have hw:IntKind.i64.wrap ((k:Int)+t.size)=(k:Int)+t.size:=by rw [IntKind.wrap_i64]; omega
 have HZ1:Hid (u1.size=k):=z1;have HZ2:Hid (u2.size=s.size-(k+t.size)):=z2;clear z1 z2;go_enter Tryz.func72,Tryz.ntmps72
 go_wp2_with fail
 go_region
 all_goals go_wp2_with fail
 all_goals go_ret
 all_goals exact ⟨by rw [HV.out]; rfl,bR.drew⟩
theorem str_slice5 (t:ByteArray) (l h:Nat) (W:World) (h1:l≤h) (h2:h≤t.size):(Instr.slice 9 (.string t) (some (iV l)) (some (iV h)) none).run Tryz.prog W=.ok (.string (t.extract l h)) W:=by
 have:=run_slice_string (P:=Tryz.prog) W 9 t .i64 .i64 (l:Int) (h:Int) Tryz.underlying9 (by omega) (by omega) (by omega);simpa using this
theorem spPart_any (f:Fl) (t:ByteArray) (w:World) (hs:f.src.size≤16) (hd:f.dst.size≤16) (hp:0≤f.proto∧f.proto≤255) (ht:t.size≤65535) (h8:8≤t.size) :
  Cb 76 #[fwC f,.string t] w (.string (partV f t)):=by
 have HB1:Hid (∀ W,Cw 44 #[iV f.proto] W (.bool (echoP f.proto))):=fun W=>spEcho_any _ W
 have HB2:Hid (∀ W,Cb 71 #[.string f.src,.string f.dst,iV f.proto,iV t.size] W (.string (pseudoV f.src f.dst f.proto t.size))):=fun W=>spPseudo_any _ _ _ _ W hs hd hp ht
 have HV:Hid (partV f t=(if echoP f.proto=true then t.extract 0 2++t.extract 4 6 else t.extract 0 4)++pseudoV f.src f.dst f.proto t.size):=rfl;have hz:=pseudoV_size f.src f.dst f.proto t.size hs hd;have L1:∀ W,(Instr.slice 9 (.string t) none (some (iV 4)) none).run Tryz.prog W=.ok (.string (t.extract 0 4)) W:=fun W=>run_slice_string_h (P:=Tryz.prog) (t:=9) (s:=t) (w:=W) (ht:=Tryz.underlying9) .i64 (4:Int) (by omega) (by omega)
 have L2:∀ W,(Instr.slice 9 (.string t) none (some (iV 2)) none).run Tryz.prog W=.ok (.string (t.extract 0 2)) W:=fun W=>run_slice_string_h (P:=Tryz.prog) (t:=9) (s:=t) (w:=W) (ht:=Tryz.underlying9) .i64 (2:Int) (by omega) (by omega)
 have L3:∀ W,(Instr.slice 9 (.string t) (some (iV 4)) (some (iV 6)) none).run Tryz.prog W=.ok (.string (t.extract 4 6)) W:=fun W=>str_slice5 t 4 6 W (by omega) (by omega)
 have z1:(t.extract 0 4).size=4:=by rw [ByteArray.size_extract]; omega
 have z2:(t.extract 0 2).size=2:=by rw [ByteArray.size_extract]; omega
 have z3:(t.extract 4 6).size=2:=by rw [ByteArray.size_extract]; omega
 generalize t.extract 0 4=u1 at *;generalize t.extract 0 2=u2 at *;generalize t.extract 4 6=u3 at *;generalize pseudoV f.src f.dst f.proto t.size=ps at *;generalize partV f t=ans at *;have n1:¬ 9223372036854775807 < u2.size+u3.size:=by omega
 have n2:¬ 9223372036854775807 < u1.size+ps.size:=by omega
 have n3:¬ 9223372036854775807 < u2.size+u3.size+ps.size:=by omega
 have n4:¬ 9223372036854775807 < (u2++u3).size+ps.size:=by rw [ByteArray.size_append]; omega
 have KF:Hid (BoxG (w.alloc (.cells (FlV f).toArray 43)) w.heap.size f):=BoxG.new w f;have HZ:Hid (Below w.heap.size w (w.alloc (.cells (FlV f).toArray 43))):=bR.alloc lR _;generalize echoP f.proto=b at *;obtain ⟨proto,src,dst,sp,dp⟩:=f;unfold fwC;dsimp only at *
 cases b with
 | false =>
  replace HV:Hid (ans=u1++ps):=HV.out;go_enter Tryz.func76,Tryz.ntmps76
  go_wp2_with fail
  refine (HB1.out _).mono ?_;rintro e w2 ⟨rfl,rfl⟩;go_wp2_with fail
  refine (HB2.out _).mono ?_;rintro e w3 ⟨rfl,q3⟩;have G3:Hid _:=HZ.out.trans (q3.mono HZ.out.size);clear q3;go_wp2_with fail
  go_ret;exact ⟨by rw [HV.out]; rfl,G3.out⟩
 | true =>
  replace HV:Hid (ans=u2++u3++ps):=HV.out;go_enter Tryz.func76,Tryz.ntmps76
  go_wp2_with fail
  refine (HB1.out _).mono ?_;rintro e w2 ⟨rfl,rfl⟩;go_wp2_with fail
  go_region
  all_goals go_wp2_with fail
  all_goals refine (HB2.out _).mono ?_
  all_goals rintro e w3 ⟨rfl,q3⟩
  all_goals have G3:Hid (Below w.heap.size w w3):=HZ.out.drew.trans (q3.mono HZ.out.size)
  all_goals clear q3
  all_goals go_wp2_with fail
  all_goals go_ret
  all_goals exact ⟨by rw [HV.out]; rfl,G3.out⟩
end Go.Proofs.YtdkepkaflielhaaGreatDoor
