import Derived.Test.YtcckaeppiamebaaGreatDoorAb
import Derived.Test.YtcckaeppiamebaaGreatDoorMerged12
import Derived.Test.YtcckaeppiamebaaGreatDoorMerged6
import Derived.Test.YtcckaeppiamebaaGreatDoorMerged1
import Derived.Test.YtcckaeppiamebaaGreatDoorMerged9
import Derived.BigQuiet
import Derived.Deep.DeepCutAuto
import Derived.Test.YtcckaeppiamebaaGreatDoorMerged4
import Derived.Test.YtcckaeppiamebaaGreatDoorMerged3
import Derived.WalkLawsBesides
import Derived.RegionTactic
import Derived.Deep.QuietTactic
import Derived.Deep.RegionWith
import Derived.Lib.AppendStr
import Derived.Laws.IdiomCopy
import Derived.Deep.OwnRows
import Derived.Lib.LazyBuf
import Derived.Lib.BufferWrite
import Derived.Test.YtcckaeppiamebaaGreatDoorMerged10
set_option linter.unusedVariables false
set_option linter.unusedSimpArgs false
set_option maxRecDepth 100000
set_option maxHeartbeats 8000000
namespace Go.Proofs.YtcckaeppiamebaaGreatDoor
open Go.RowKit Go.PlainAid
theorem implBib_any (pa:Option Addr) (pc:Nat) (p:Pl) (ba bo:Option Addr) (ca cb:Nat) (x:Bb) (w:World) (hpl:p.addrs.length≤1048576) (hpc:p.addrs.length≤pc) (hps:∀ s∈p.addrs,s.size≤1048576) (hbl1:x.binds.length≤1048576) (hbl2:x.sess.length≤1048576) (hgb:∀ q∈x.binds,BdGood q) (hgs:∀ s∈x.sess,SsGood s) (hp:SlIs strL1 1 w pa p.addrs) (hx:BbIs w ba bo x) :
  Cb 72 #[plC pa pc p,bbC ba bo ca cb x] w (.bool (bibOk p x)):=by
 have HZ0:Hid (Below w.heap.size w ((aW w (PlV pa pc p) 48).alloc (.cells (BbV ba ca bo cb x).toArray 39))):=((Below.refl _ _).alloc (Nat.le_refl _) _).alloc (by simp) _;have HP:HoldsL ((aW w (PlV pa pc p) 48).alloc (.cells (BbV ba ca bo cb x).toArray 39)) w.heap.size (PlV pa pc p):=(HoldsL.new w (PlV pa pc p) 48).alloc _;have HB:HoldsL ((aW w (PlV pa pc p) 48).alloc (.cells (BbV ba ca bo cb x).toArray 39)) (w.heap.size+1) (BbV ba ca bo cb x):=by
  have h:=HoldsL.new (w.alloc (.cells (PlV pa pc p).toArray 48)) (BbV ba ca bo cb x) 39;rw [World.size_alloc] at h; exact h
 have HOP:Hid (∀ W,Below w.heap.size w W→Calls Tryz.prog 105 #[.agg (PlV pa pc p).toArray,.agg (BbV ba ca bo cb x).toArray] W (OpenRet W pa pc p ba bo ca cb x)):=fun W hW=>open_any pa pc p ba bo ca cb x W hpl hpc hps hbl1 hbl2 hgb hgs (hp.below hW) (hx.below hW)
 have HV:Hid (bookOk p x=bibOk p x):=book_bib p x;clear hp hx hgb hgs hps;unfold plC bbC;go_enter Tryz.func72,Tryz.ntmps72
 go_upto_region 1 with fail
 generalize ((aW w (PlV pa pc p) 48).alloc (.cells (BbV ba ca bo cb x).toArray 39))=W0 at *;obtain ⟨k0,k1,k2,k3,k4,k5,k6,k7,k8,k9⟩:=HP.c10;obtain ⟨c0,c1⟩:=HB.c2;clear HP HB;go_wp2_with fail
 refine (HOP.out _ HZ0.out).mono ?_;rintro e w1 ⟨q1,h⟩;have B1:Hid _:=HZ0.out.trans (q1.mono HZ0.out.size);clear q1 HZ0 HOP k0 k1 k2 k3 k4 k5 k6 k7 k8 k9 c0 c1;rcases h with ⟨hx,rfl⟩ | ⟨hx,m1,m2,rfl,hm1,hm2,hbk⟩
 ·have HX:Hid (bibOk p x=false):=by unfold Hid; rw [← HV.out]; exact hx
  unfold bkZ;clear hx;go_wp2_with fail
  go_ret;exact ⟨ret_bool HX.out.symm,B1.out.alloc B1.out.size _⟩
 ·have HX:Hid (bibOk p x=true):=by unfold Hid; rw [← HV.out]; exact hx
  unfold bkC;clear hx hbk;go_wp2_with fail
  go_ret;exact ⟨ret_bool HX.out.symm,B1.out.alloc B1.out.size _⟩
theorem implTime_any (n:Int) (w:World) :
  Cw 74 #[iV n] w (.bool (isTime n)):=by
 by_cases h1:0≤n
 ·by_cases h2:n≤1000000000
  ·have HV:Hid (isTime n=true):=by unfold Hid isTime isIn; simp [h1,h2]
   go_enter Tryz.func74,Tryz.ntmps74
   go_wp2_with fail
   go_ret;exact ⟨ret_bool (by rw [HV.out]),rfl⟩
  ·have HV:Hid (isTime n=false):=by unfold Hid isTime isIn; simp [h2]
   go_enter Tryz.func74,Tryz.ntmps74
   go_wp2_with fail
   go_ret;exact ⟨ret_bool (by rw [HV.out]),rfl⟩
 ·have HV:Hid (isTime n=false):=by unfold Hid isTime isIn; simp [h1]
  have h1':n < 0:=by omega
  go_enter Tryz.func74,Tryz.ntmps74
  go_wp2_with fail
  go_ret;exact ⟨ret_bool (by rw [HV.out]),rfl⟩
theorem implV4Right_any (p:P4) (w:World) (h1:p.src.size≤1048576) (h2:p.dst.size≤1048576) (h3:p.opts.size≤1048576) (h4:p.data.size≤1048576) :
  Cb 73 #[p4C p] w (.bool (v4Ok p)):=by
 have HB1:Hid (∀ W,Cw 116 #[iV p.tos] W (.bool (isIn p.tos 0 255))):=fun W=>implByte_any p.tos W
 have HB2:Hid (∀ W,Cw 116 #[iV p.ttl] W (.bool (isIn p.ttl 0 255))):=fun W=>implByte_any p.ttl W
 have HB3:Hid (∀ W,Cw 116 #[iV p.proto] W (.bool (isIn p.proto 0 255))):=fun W=>implByte_any p.proto W
 have HB4:Hid (∀ W,Cw 117 #[iV p.id] W (.bool (isIn p.id 0 65535))):=fun W=>implWordIs_any p.id W
 have HB5:Hid (∀ W,Cw 118 #[iV p.off,.bool p.more,.string p.data,iV 65515] W (.bool (pcV p.off p.more p.data 65515))):=fun W=>implPiece_any p.off p.more p.data 65515 W h4
 have HV:Hid (v4Ok p=_):=v4Ok_prog p;generalize v4Ok p=ok at *;obtain ⟨tos,id,whole,more,off,ttl,proto,src,dst,opts,data⟩:=p;unfold p4C;dsimp only at *;have HZ:Hid (Below w.heap.size w (w.alloc (.cells (P4R tos id whole more off ttl proto src dst opts data).toArray 40))):=(Below.refl _ _).alloc (Nat.le_refl _) _;generalize isIn tos 0 255=b1 at *;generalize isIn ttl 0 255=b2 at *;generalize isIn proto 0 255=b3 at *;generalize isIn id 0 65535=b4 at *;generalize pcV off more data 65515=b5 at *;go_enter Tryz.func73,Tryz.ntmps73
 go_wp2_with fail
 refine (HB1.out _).mono ?_;rintro e w2 ⟨rfl,rfl⟩
 cases b1 with
 | false =>
  have hun:undef=Value.tuple #[]:=rfl;go_wp2_with fail
  go_ret;exact ⟨ret_bool (by rw [HV.out]; simp),HZ.out⟩
 | true =>
  go_wp2_with fail
  refine (HB2.out _).mono ?_;rintro e w2 ⟨rfl,rfl⟩
  cases b2 with
  | false =>
   have hun:undef=Value.tuple #[]:=rfl;go_wp2_with fail
   go_ret;exact ⟨ret_bool (by rw [HV.out]; simp),HZ.out⟩
  | true =>
   go_wp2_with fail
   refine (HB3.out _).mono ?_;rintro e w2 ⟨rfl,rfl⟩
   cases b3 with
   | false =>
    have hun:undef=Value.tuple #[]:=rfl;go_wp2_with fail
    go_ret;exact ⟨ret_bool (by rw [HV.out]; simp),HZ.out⟩
   | true =>
    go_wp2_with fail
    refine (HB4.out _).mono ?_;rintro e w2 ⟨rfl,rfl⟩
    cases b4 with
    | false =>
     have hun:undef=Value.tuple #[]:=rfl;go_wp2_with fail
     go_ret;exact ⟨ret_bool (by rw [HV.out]; simp),HZ.out⟩
    | true =>
     by_cases s1:src.size=4
     ·have ds1:((src.size:Int)==4)=true:=by simp<;>omega
      have vs1:decide (src.size=4)=true:=decide_eq_true s1;rw [vs1] at HV;by_cases s2:dst.size=4
      ·have ds2:((dst.size:Int)==4)=true:=by simp<;>omega
       have vs2:decide (dst.size=4)=true:=decide_eq_true s2;rw [vs2] at HV;by_cases s3:opts.size≤40
       ·have ds3:decide ((opts.size:Int)≤40)=true:=by simp<;>omega
        have vs3:decide (opts.size≤40)=true:=decide_eq_true s3;rw [vs3] at HV;by_cases s4:opts.size % 4=0
        ·have ds4:(((opts.size:Int) % 4)==0)=true:=by simp<;>omega
         have vs4:decide (opts.size % 4=0)=true:=decide_eq_true s4;rw [vs4] at HV;go_wp2_with fail
         refine (HB5.out _).mono ?_;rintro e w2 ⟨rfl,rfl⟩
         cases b5 with
         | false =>
          have hun:undef=Value.tuple #[]:=rfl;go_wp2_with fail
          go_ret;exact ⟨ret_bool (by rw [HV.out]; simp),HZ.out⟩
         | true =>
          cases whole with
          | false =>
           have hun:undef=Value.tuple #[]:=rfl;go_wp2_with fail
           go_ret;exact ⟨ret_bool (by rw [HV.out]; simp),HZ.out⟩
          | true =>
           cases more with
           | true =>
            have hun:undef=Value.tuple #[]:=rfl;go_wp2_with fail
            go_ret;exact ⟨ret_bool (by rw [HV.out]; simp),HZ.out⟩
           | false =>
            by_cases t1:off=0
            ·rw [decide_eq_true t1] at HV;have dt1:(off != 0)=false:=by simp [t1]
             clear t1;have hun:undef=Value.tuple #[]:=rfl;go_wp2_with fail
             go_ret;exact ⟨ret_bool (by rw [HV.out]; simp),HZ.out⟩
            ·rw [decide_eq_false t1] at HV;have dt1:(off != 0)=true:=by simp [t1]
             have hun:undef=Value.tuple #[]:=rfl;go_wp2_with fail
             go_ret;exact ⟨ret_bool (by rw [HV.out]; simp),HZ.out⟩
        ·have ds4:(((opts.size:Int) % 4)==0)=false:=by simp<;>omega
         have vs4:decide (opts.size % 4=0)=false:=decide_eq_false s4;rw [vs4] at HV;have hun:undef=Value.tuple #[]:=rfl;go_wp2_with fail
         go_ret;exact ⟨ret_bool (by rw [HV.out]; simp),HZ.out⟩
       ·have ds3:decide ((opts.size:Int)≤40)=false:=by simp<;>omega
        have vs3:decide (opts.size≤40)=false:=decide_eq_false s3;rw [vs3] at HV;have hun:undef=Value.tuple #[]:=rfl;go_wp2_with fail
        go_ret;exact ⟨ret_bool (by rw [HV.out]; simp),HZ.out⟩
      ·have ds2:((dst.size:Int)==4)=false:=by simp<;>omega
       have vs2:decide (dst.size=4)=false:=decide_eq_false s2;rw [vs2] at HV;have hun:undef=Value.tuple #[]:=rfl;go_wp2_with fail
       go_ret;exact ⟨ret_bool (by rw [HV.out]; simp),HZ.out⟩
     ·have ds1:((src.size:Int)==4)=false:=by simp<;>omega
      have vs1:decide (src.size=4)=false:=decide_eq_false s1;rw [vs1] at HV;have hun:undef=Value.tuple #[]:=rfl;go_wp2_with fail
      go_ret;exact ⟨ret_bool (by rw [HV.out]; simp),HZ.out⟩
theorem ip9Ok_any (pa:Option Addr) (pc:Nat) (p:Pl) (ba bo:Option Addr) (ca cb:Nat) (x:Bb) (q:P4) (now:Int) (w:World) (hlp:p.addrs.length≤1048576) (hpc:p.addrs.length≤pc) (hsz:∀ s∈p.addrs,s.size≤1048576) (hl1:x.binds.length≤1048576) (hl2:x.sess.length≤1048576) (hgb:∀ q∈x.binds,BdGood q) (hgs:∀ s∈x.sess,SsGood s) (q1:q.src.size≤1048576) (q2:q.dst.size≤1048576) (q3:q.opts.size≤1048576) (q4:q.data.size≤1048576) (hp:SlIs strL1 1 w pa p.addrs) (hx:BbIs w ba bo x) :
  Cb 47 #[plC pa pc p,bbC ba bo ca cb x,p4C q,iV now] w (iV (natFt p x q now)):=by
 have HBR:Hid (∀ W,Below w.heap.size w W→Cb 72 #[plC pa pc p,bbC ba bo ca cb x] W (.bool (bibOk p x))):=fun W hW=>implBib_any pa pc p ba bo ca cb x W hlp hpc hsz hl1 hl2 hgb hgs (hp.below hW) (hx.below hW)
 have HV4:Hid (∀ W,Cb 73 #[p4C q] W (.bool (v4Ok q))):=fun W=>implV4Right_any q W q1 q2 q3 q4
 have HTM:Hid (∀ W,Cw 74 #[iV now] W (.bool (isTime now))):=fun W=>implTime_any now W
 have HV:Hid (natFt p x q now=if (bibOk p x&&v4Ok q&&isTime now)=false then 1 else if (q.more||decide (q.off≠0))=true then 10 else 0):=rfl;generalize natFt p x q now=ans at *;generalize bibOk p x=b1 at *;generalize v4Ok q=b2 at *;generalize isTime now=b3 at *;obtain ⟨tos,id,whole,more,off,ttl,proto,src,dst,opts,data⟩:=q;clear hp hx hsz hgb hgs;unfold plC bbC p4C at *;dsimp only at *;have hun:undef=Value.tuple #[]:=rfl;have HS0:=bx3 w (PlV pa pc p) 48 (BbV ba ca bo cb x) 39 (P4R tos id whole more off ttl proto src dst opts data) 40 (by simp) (by simp) (by simp)
 skip;go_enter Tryz.func47,Tryz.ntmps47
 go_upto_region 1 with fail
 generalize ((aW (aW w (PlV pa pc p) 48) (BbV ba ca bo cb x) 39).alloc (.cells (P4R tos id whole more off ttl proto src dst opts data).toArray 40))=W0 at *;have HHk:=HS0.out.at mE0;obtain ⟨k0,k1,k2,k3,k4,k5,k6,k7,k8,k9⟩:=HHk.c10;clear HHk;have HHl:=HS0.out.at mE1;obtain ⟨l0,l1⟩:=HHl.c2;clear HHl;go_wp2_with fail
 refine (HBR.out _ HS0.out.b).mono ?_;rintro e W1 ⟨rfl,r1⟩;have S1:Hid _:=HS0.out.kept r1;clear r1 HS0 k0 k1 k2 k3 k4 k5 k6 k7 k8 k9 l0 l1
 cases b1 with
 | false =>
  have HFB:Hid _:=S1.out.b;go_wp2_with fail
  go_ret;exact ⟨ret_int (by rw [HV.out]; rfl),HFB.out⟩
 | true =>
 have HHk:=S1.out.at mE2;obtain ⟨k0,k1,k2,k3,k4,k5,k6,k7,k8,k9,k10⟩:=HHk.c11;clear HHk;go_wp2_with fail
 refine (HV4.out _).mono ?_;rintro e W2 ⟨rfl,r2⟩;have S2:Hid _:=S1.out.kept r2;clear r2 S1 k0 k1 k2 k3 k4 k5 k6 k7 k8 k9 k10
 cases b2 with
 | false =>
  have HFB:Hid _:=S2.out.b;go_wp2_with fail
  go_ret;exact ⟨ret_int (by rw [HV.out]; rfl),HFB.out⟩
 | true =>
 go_wp2_with fail
 refine (HTM.out _).mono ?_;rintro e W2 ⟨rfl,rfl⟩
 cases b3 with
 | false =>
  have HFB:Hid _:=S2.out.b;go_wp2_with fail
  go_ret;exact ⟨ret_int (by rw [HV.out]; rfl),HFB.out⟩
 | true =>
 have HHk:=S2.out.at mE2;obtain ⟨k0,k1,k2,k3,k4,k5,k6,k7,k8,k9,k10⟩:=HHk.c11;clear HHk
 cases more with
 | true =>
  have HFB:Hid _:=S2.out.b;go_wp2_with fail
  go_ret;exact ⟨ret_int (by rw [HV.out]; rfl),HFB.out⟩
 | false =>
 by_cases ho:off=0
 case pos =>
  have d0:(off != 0)=false:=by simp [ho]
  have HFB:Hid _:=S2.out.b;go_wp2_with fail
  go_ret;exact ⟨ret_int (by rw [HV.out]; simp [ho]),HFB.out⟩
 have d0:(off != 0)=true:=by simp [ho]
 have HFB:Hid _:=S2.out.b;go_wp2_with fail
 go_ret;exact ⟨ret_int (by rw [HV.out]; simp [ho]),HFB.out⟩
theorem ipFlags_any (p:Int) (t:ByteArray) (w:World) (ht:t.size≤20000) (h20:p=6→20≤t.size) :
  Cb 61 #[iV p,.string t] w (iV (flagV p t)):=by
 by_cases h:p=6
 ·have h2:=h20 h;subst h;have HT:Hid (∀ W,Cb 104 #[.string t] W (iV (flagV 6 t))):=fun W=>(implTcpFlags_any t W (by omega)).mono fun e w' h=>⟨by rw [h.1]; unfold tcpFlagsV flagV; rw [if_neg (by omega),if_pos rfl],h.2⟩
  generalize flagV 6 t=ans at *;go_enter Tryz.func61,Tryz.ntmps61
  go_wp2_with fail
  refine (HT.out _).mono ?_;rintro e w2 ⟨rfl,r2⟩;have R2:Hid _:=r2;clear r2;go_wp2_with fail
  go_ret;exact ⟨rfl,R2.out⟩
 ·have HV:Hid (flagV p t=0):=if_neg h;have d0:(p != 6)=true:=by simp [h]
  generalize flagV p t=ans at *;go_enter Tryz.func61,Tryz.ntmps61
  go_wp2_with fail
  go_ret;exact ⟨ret_int (by rw [HV.out]),Below.refl _ _⟩
theorem ipPeer_any (p n:Int) (w:World) :
  Cb 205 #[iV p,iV n] w (iV (peerV p n)):=by
 have HE:Hid (∀ W,Cw 101 #[iV p] W (.bool (echoP p))):=fun W=>implEcho_any p W
 have HV:Hid (peerV p n=if echoP p=true then 0 else n):=rfl;generalize peerV p n=ans at *;generalize echoP p=b at *;go_enter Tryz.func205,Tryz.ntmps205
 go_wp2_with fail
 refine (HE.out _).mono ?_;rintro e w2 ⟨rfl,rfl⟩
 cases b with
 | false =>
  go_wp2_with fail
  go_ret;exact ⟨ret_int (by rw [HV.out]; rfl),Below.refl _ _⟩
 | true =>
  go_wp2_with fail
  go_ret;exact ⟨ret_int (by rw [HV.out]; rfl),Below.refl _ _⟩
theorem ipTouchI_any (f:Fl) (ra:Option Addr) (la ca:Nat) (w:World) :
  Cb 206 #[.agg #[.slice ra la ca],fwC f] w (tcC ⟨f.proto,false,f.dst,f.dp,f.src,peerV f.proto f.sp,0⟩):=by
 have HP:Hid (∀ W,Cb 205 #[iV f.proto,iV f.sp] W (iV (peerV f.proto f.sp))):=fun W=>ipPeer_any _ _ W
 generalize peerV f.proto f.sp=pv at *;obtain ⟨proto,src,dst,sp,dp⟩:=f;unfold fwC tcC;dsimp only at *;have HS0:Hid (Bxs w [(w.heap.size+1+1,(TcR 0 false ⟨#[]⟩ 0 ⟨#[]⟩ 0 0)),(w.heap.size+1,(FlR proto src dst sp dp))] ((aW (aW w [.slice ra la ca] 80) (FlR proto src dst sp dp) 91).alloc (.cells (TcR 0 false ⟨#[]⟩ 0 ⟨#[]⟩ 0 0).toArray 112))):=by
  have h:=((⟨fun e he=>(by cases he),(Below.refl _ _).alloc (Nat.le_refl _) _,fun e he=>(by cases he)⟩ : Bxs w [] (w.alloc (.cells #[.slice ra la ca] 80))).push (FlR proto src dst sp dp) (by simp) 91).push (TcR 0 false ⟨#[]⟩ 0 ⟨#[]⟩ 0 0) (by simp) 112;simp only [World.size_alloc] at h;exact h
 have hRw:w.heap.size≤w.heap.size+1+1:=by omega
 go_enter Tryz.func206,Tryz.ntmps206
 go_upto_region 1 with fail
 generalize ((aW (aW w [.slice ra la ca] 80) (FlR proto src dst sp dp) 91).alloc (.cells (TcR 0 false ⟨#[]⟩ 0 ⟨#[]⟩ 0 0).toArray 112))=W0 at *;have HCP:Hid (∀ wy,Below W0.drew.heap.size W0.drew wy→_):=fun wy hy=>HS0.out.kept ((Below.refl _ _).drew.trans hy)
 clear HS0;refine wp_region_growV [5,6,7,8,9,10,11,12,13,14,15,16,17,18] (by kernel_rfl) (by kernel_rfl) ?_;apply GChV.v0
 ·rfl
 ·intro K' a wy ho hd hb hK kz;have o3:=ho 3 (by decide);simp [slot] at o3;clear hd ho;go_simp;try go_bits
  exact kz _ rfl
 apply GChV.v1
 ·rfl
 ·intro K' a wy ho hd hb hK kz;have q0:=hd ⟨0,.data⟩ (by simp) rfl;simp [rAt,IsV,slot] at q0;clear hd ho;have hst:=HCP.out wy hb;have HHm:=hst.at mE1;obtain ⟨m0,m1,m2,m3,m4⟩:=HHm.c5;clear HHm;clear hst;go_simp;try go_bits
  exact kz _ rfl
 apply GChV.v2
 ·rfl
 ·intro K' a wy ho hd hb hK kz;have o3:=ho 3 (by decide);simp [slot] at o3;clear hd ho;go_simp;try go_bits
  exact kz _ rfl
 apply GChV.v3
 ·rfl
 ·intro K' a wy ho hd hb hK kz;have q2:=hd ⟨2,.data⟩ (by simp) rfl;simp [rAt,IsV,slot] at q2;clear hd ho;have hst:=HCP.out wy hb;have HHm:=hst.at mE1;obtain ⟨m0,m1,m2,m3,m4⟩:=HHm.c5;clear HHm;clear hst;go_simp;try go_bits
  exact kz _ rfl
 apply GChV.v4
 ·rfl
 ·intro K' a wy ho hd hb hK kz;have o3:=ho 3 (by decide);simp [slot] at o3;clear hd ho;go_simp;try go_bits
  exact kz _ rfl
 apply GChV.v5
 ·rfl
 ·intro K' a wy ho hd hb hK kz;have q4:=hd ⟨4,.data⟩ (by simp) rfl;simp [rAt,IsV,slot] at q4;clear hd ho;have hst:=HCP.out wy hb;have HHm:=hst.at mE1;obtain ⟨m0,m1,m2,m3,m4⟩:=HHm.c5;clear HHm;clear hst;go_simp;try go_bits
  exact kz _ rfl
 apply GChV.v6
 ·rfl
 ·intro K' a wy ho hd hb hK kz;have o3:=ho 3 (by decide);simp [slot] at o3;clear hd ho;go_simp;try go_bits
  exact kz _ rfl
 apply GChV.v7
 ·rfl
 ·intro K' a wy ho hd hb hK kz;have q6:=hd ⟨6,.data⟩ (by simp) rfl;simp [rAt,IsV,slot] at q6;clear hd ho;have hst:=HCP.out wy hb;have HHm:=hst.at mE1;obtain ⟨m0,m1,m2,m3,m4⟩:=HHm.c5;clear HHm;clear hst;go_simp;try go_bits
  exact kz _ rfl
 apply GChV.v8
 ·rfl
 ·intro K' a wy ho hd hb hK kz;have o3:=ho 3 (by decide);simp [slot] at o3;clear hd ho;go_simp;try go_bits
  exact kz _ rfl
 apply GChV.v9
 ·rfl
 ·intro K' a wy ho hd hb hK kz;have q8:=hd ⟨8,.data⟩ (by simp) rfl;simp [rAt,IsV,slot] at q8;clear hd ho;have hst:=HCP.out wy hb;have HHm:=hst.at mE1;obtain ⟨m0,m1,m2,m3,m4⟩:=HHm.c5;clear HHm;clear hst;go_simp;try go_bits
  exact kz _ rfl
 apply GChV.v10
 ·rfl
 ·intro K' a wy ho hd hb hK kz;have o3:=ho 3 (by decide);simp [slot] at o3;clear hd ho;go_simp;try go_bits
  exact kz _ rfl
 apply GChV.v11
 ·rfl
 ·intro K' a wy ho hd hb hK kz;have q10:=hd ⟨10,.data⟩ (by simp) rfl;simp [rAt,IsV,slot] at q10;clear hd ho;have hst:=HCP.out wy hb;have HHm:=hst.at mE1;obtain ⟨m0,m1,m2,m3,m4⟩:=HHm.c5;clear HHm;clear hst;go_simp;try go_bits
  exact kz _ rfl
 apply GChV.v12
 ·rfl
 ·intro K' a wy ho hd hb hK kz;have q9:=hd ⟨9,.data⟩ (by simp) rfl;have q11:=hd ⟨11,.data⟩ (by simp) rfl;simp [rAt,IsV,slot] at q9 q11;clear hd ho;go_simp;refine (HP.out wy).mono ?_;rintro e wz ⟨rfl,hz⟩;exact hK _ _ rfl hz
 apply GChV.v13
 ·rfl
 ·intro K' a wy ho hd hb hK kz;have q1:=hd ⟨1,.data⟩ (by simp) rfl;have q3:=hd ⟨3,.data⟩ (by simp) rfl;have q5:=hd ⟨5,.data⟩ (by simp) rfl;have q7:=hd ⟨7,.data⟩ (by simp) rfl;have q12:=hd ⟨12,.data⟩ (by simp) rfl;simp [rAt,IsV,slot] at q1 q3 q5 q7 q12;clear hd ho;go_simp;try go_bits
  exact kz _ rfl
 intro X wz hR hz;obtain ⟨x0,x1,x2,x3,x4,x5,x6,x7,x8,x9,x10,x11,x12,x13,-⟩:=hR;simp only [IsV] at x0 x1 x2 x3 x4 x5 x6 x7 x8 x9 x10 x11 x12 x13;simp only [putsFrom,x0,x1,x2,x3,x4,x5,x6,x7,x8,x9,x10,x11,x12,x13];clear x0 x1 x2 x3 x4 x5 x6 x7 x8 x9 x10 x11 x12 x13;have V7:Hid (Bxs w [(w.heap.size+1+1,(TcR 0 false ⟨#[]⟩ 0 ⟨#[]⟩ 0 0)),(w.heap.size+1,(FlR proto src dst sp dp))] wz):=HCP.out wz hz;clear hz HCP HP;have HHz:=V7.out.at mE0;obtain ⟨z0,z1,z2,z3,z4,z5,z6⟩:=HHz.c7;obtain ⟨zf0,zf1,zf2,zf3,zf4,zf5,zf6⟩:=HHz.f7;have HRR:Hid (HoldsL ((sW (sW (sW (sW (sW (sW wz (w.heap.size+1+1) 0 (iV proto)) (w.heap.size+1+1) 1 (.bool false)) (w.heap.size+1+1) 2 (.string dst)) (w.heap.size+1+1) 3 (iV dp)) (w.heap.size+1+1) 4 (.string src)) (w.heap.size+1+1) 5 (iV pv)).setCell ⟨w.heap.size+1+1,6,none⟩ (iV 0)) (w.heap.size+1+1) (TcR proto false dst dp src pv 0)):=(((((((HHz.set 0 (iV proto)).set 1 (.bool false)).set 2 (.string dst)).set 3 (iV dp)).set 4 (.string src)).set 5 (iV pv)).set 6 (iV 0));have RB:Hid _:=(((((((V7.out.b.setCell (p:=⟨w.heap.size+1+1,0,none⟩) hRw (iV proto)).setCell (p:=⟨w.heap.size+1+1,1,none⟩) hRw (.bool false)).setCell (p:=⟨w.heap.size+1+1,2,none⟩) hRw (.string dst)).setCell (p:=⟨w.heap.size+1+1,3,none⟩) hRw (iV dp)).setCell (p:=⟨w.heap.size+1+1,4,none⟩) hRw (.string src)).setCell (p:=⟨w.heap.size+1+1,5,none⟩) hRw (iV pv)).setCell (p:=⟨w.heap.size+1+1,6,none⟩) hRw (iV 0));clear HHz;clear V7;intro K10 hK10;go_simp;refine hK10 _ _ ?_;simp only [wpSeq];go_wp2_with fail
 exact bodyPost_ret (results_mid Tryz.results206 _ _ (w.heap.size+1+1) (TcR proto false dst dp src pv 0) _ rfl HRR.out Tryz.underlying112 rfl (show (Tryz.prog.info? 112).map (·.size)=some 7 by kernel_rfl)) rfl (And.intro rfl RB.out)
theorem ipTurnI_any (f:Fl) (c:Bd) (ra:Option Addr) (la ca:Nat) (w:World) :
  Cb 207 #[.agg #[.slice ra la ca],fwC f,bdC c] w (fwC ⟨f.proto,f.src,c.inn,if echoP f.proto=true then c.inPort else f.sp,c.inPort⟩):=by
 have HE:Hid (∀ W,Cw 101 #[iV f.proto] W (.bool (echoP f.proto))):=fun W=>implEcho_any _ W
 generalize echoP f.proto=b at *;obtain ⟨proto,src,dst,sp,dp⟩:=f;obtain ⟨cp,ci,cn,co,cm⟩:=c;unfold fwC bdC;dsimp only at *;have HS0:Hid (Bxs w [(w.heap.size+1+1+1,(FlR 0 ⟨#[]⟩ ⟨#[]⟩ 0 0)),(w.heap.size+1+1,(BdR cp ci cn co cm)),(w.heap.size+1,(FlR proto src dst sp dp))] ((aW (aW (aW w [.slice ra la ca] 80) (FlR proto src dst sp dp) 91) (BdR cp ci cn co cm) 94).alloc (.cells (FlR 0 ⟨#[]⟩ ⟨#[]⟩ 0 0).toArray 91))):=by
  have h:=(((⟨fun e he=>(by cases he),(Below.refl _ _).alloc (Nat.le_refl _) _,fun e he=>(by cases he)⟩ : Bxs w [] (w.alloc (.cells #[.slice ra la ca] 80))).push (FlR proto src dst sp dp) (by simp) 91).push (BdR cp ci cn co cm) (by simp) 94).push (FlR 0 ⟨#[]⟩ ⟨#[]⟩ 0 0) (by simp) 91;simp only [World.size_alloc] at h;exact h
 have hRw:w.heap.size≤w.heap.size+1+1+1:=by omega
 have hFw:w.heap.size≤w.heap.size+1:=by omega
 go_enter Tryz.func207,Tryz.ntmps207
 go_upto_region 1 with fail
 generalize ((aW (aW (aW w [.slice ra la ca] 80) (FlR proto src dst sp dp) 91) (BdR cp ci cn co cm) 94).alloc (.cells (FlR 0 ⟨#[]⟩ ⟨#[]⟩ 0 0).toArray 91))=W0 at *;have HSET:Hid (∀ wx,Bxs w [(w.heap.size+1+1+1,(FlR 0 ⟨#[]⟩ ⟨#[]⟩ 0 0)),(w.heap.size+1+1,(BdR cp ci cn co cm)),(w.heap.size+1,(FlR proto src dst sp dp))] wx→Bxs w [(w.heap.size+1+1+1,(FlR 0 ⟨#[]⟩ ⟨#[]⟩ 0 0)),(w.heap.size+1+1,(BdR cp ci cn co cm)),(w.heap.size+1,(FlR proto src ci sp cn))] ((sW wx (w.heap.size+1) 2 (.string ci)).setCell ⟨w.heap.size+1,4,none⟩ (iV cn))):=fun wx h=>⟨fun e he=>by
  simp only [List.mem_cons,List.not_mem_nil,or_false] at he;rcases he with rfl | rfl | rfl
  ·exact (HoldsL.setOther (HoldsL.setOther (h.k _ mE0) (by show w.heap.size+1+1+1≠w.heap.size+1; omega) _) (by show w.heap.size+1+1+1≠w.heap.size+1; omega) _)
  ·exact (HoldsL.setOther (HoldsL.setOther (h.k _ mE1) (by show w.heap.size+1+1≠w.heap.size+1; omega) _) (by show w.heap.size+1+1≠w.heap.size+1; omega) _)
  ·exact (HoldsL.set (HoldsL.set (h.k _ mE2) 2 (.string ci)) 4 (iV cn)),((h.b.setCell (p:=⟨w.heap.size+1,2,none⟩) hFw _).setCell (p:=⟨w.heap.size+1,4,none⟩) hFw _),fun e he=>by
  simp only [List.mem_cons,List.not_mem_nil,or_false] at he;rcases he with rfl | rfl | rfl<;>simp⟩
 go_cut [12] (fun v wx=>Bxs w [(w.heap.size+1+1+1,(FlR 0 ⟨#[]⟩ ⟨#[]⟩ 0 0)),(w.heap.size+1+1,(BdR cp ci cn co cm)),(w.heap.size+1,(FlR proto src ci sp cn))] wx)
 case first =>
  rename_i J K2 hJ hK2;have HHk:=HS0.out.at mE2;obtain ⟨k0,k1,k2,k3,k4⟩:=HHk.c5;obtain ⟨kf0,kf1,kf2,kf3,kf4⟩:=HHk.f5;have HHl:=HS0.out.at mE1;obtain ⟨l0,l1,l2,l3,l4⟩:=HHl.c5;clear HHl;have HD:Hid _:=(HSET.out W0 HS0.out).kept (Below.refl _ _).drew;clear HHk HS0 HSET;go_region
  all_goals refine hK2 _ _ (hJ _ _ ?_)
  all_goals (repeat apply Exists.intro)
  all_goals exact ⟨HD.out,rfl⟩
 case rest =>
 have S1:Hid (Bxs w [(w.heap.size+1+1+1,(FlR 0 ⟨#[]⟩ ⟨#[]⟩ 0 0)),(w.heap.size+1+1,(BdR cp ci cn co cm)),(w.heap.size+1,(FlR proto src ci sp cn))] wc):=hcut;clear hcut HS0 HSET;generalize wc=W1 at *;have HHk:=S1.out.at mE2;obtain ⟨k0,k1,k2,k3,k4⟩:=HHk.c5;clear HHk;go_wp2_with fail
 refine (HE.out _).mono ?_;rintro e W1 ⟨rfl,rfl⟩
 cases b with
 | false =>
  have HHz:=S1.out.at mE0;obtain ⟨z0,z1,z2,z3,z4⟩:=HHz.c5;obtain ⟨zf0,zf1,zf2,zf3,zf4⟩:=HHz.f5;have HRR:Hid (HoldsL ((sW (sW (sW (sW W1 (w.heap.size+1+1+1) 0 (iV proto)) (w.heap.size+1+1+1) 1 (.string src)) (w.heap.size+1+1+1) 2 (.string ci)) (w.heap.size+1+1+1) 3 (iV sp)).setCell ⟨w.heap.size+1+1+1,4,none⟩ (iV cn)) (w.heap.size+1+1+1) (FlR proto src ci sp cn)):=(((((HHz.set 0 (iV proto)).set 1 (.string src)).set 2 (.string ci)).set 3 (iV sp)).set 4 (iV cn));have RB:Hid _:=(((((S1.out.b.setCell (p:=⟨w.heap.size+1+1+1,0,none⟩) hRw (iV proto)).setCell (p:=⟨w.heap.size+1+1+1,1,none⟩) hRw (.string src)).setCell (p:=⟨w.heap.size+1+1+1,2,none⟩) hRw (.string ci)).setCell (p:=⟨w.heap.size+1+1+1,3,none⟩) hRw (iV sp)).setCell (p:=⟨w.heap.size+1+1+1,4,none⟩) hRw (iV cn));clear HHz;go_wp2_with fail
  exact bodyPost_ret (results_mid Tryz.results207 _ _ (w.heap.size+1+1+1) (FlR proto src ci sp cn) _ rfl HRR.out Tryz.underlying91 rfl (show (Tryz.prog.info? 91).map (·.size)=some 5 by kernel_rfl)) rfl (And.intro rfl RB.out)
 | true =>
  have S2:Hid (Bxs w [(w.heap.size+1+1+1,(FlR 0 ⟨#[]⟩ ⟨#[]⟩ 0 0)),(w.heap.size+1+1,(BdR cp ci cn co cm)),(w.heap.size+1,(FlR proto src ci cn cn))] (W1.setCell ⟨w.heap.size+1,3,none⟩ (iV cn))):=⟨fun e he=>by
   simp only [List.mem_cons,List.not_mem_nil,or_false] at he;rcases he with rfl | rfl | rfl
   ·exact (HoldsL.setOther (S1.out.k _ mE0) (by show w.heap.size+1+1+1≠w.heap.size+1; omega) _)
   ·exact (HoldsL.setOther (S1.out.k _ mE1) (by show w.heap.size+1+1≠w.heap.size+1; omega) _)
   ·exact (HoldsL.set (S1.out.k _ mE2) 3 (iV cn)),(S1.out.b.setCell (p:=⟨w.heap.size+1,3,none⟩) hFw _),fun e he=>by
   simp only [List.mem_cons,List.not_mem_nil,or_false] at he;rcases he with rfl | rfl | rfl<;>simp⟩
  have kf:=(S1.out.k _ mE2).free (j:=3) (by simp);have HHl:=S1.out.at mE1;obtain ⟨l0,l1,l2,l3,l4⟩:=HHl.c5;clear HHl;go_upto_region 4 with fail
  generalize (W1.setCell ⟨w.heap.size+1,3,none⟩ (iV cn))=W2 at *;clear S1 kf k0 k1 k2 k3 k4 l0 l1 l2 l3 l4;have HHk:=S2.out.at mE2;obtain ⟨k0,k1,k2,k3,k4⟩:=HHk.c5;clear HHk;have HHz:=S2.out.at mE0;obtain ⟨z0,z1,z2,z3,z4⟩:=HHz.c5;obtain ⟨zf0,zf1,zf2,zf3,zf4⟩:=HHz.f5;have HRR:Hid (HoldsL ((sW (sW (sW (sW W2 (w.heap.size+1+1+1) 0 (iV proto)) (w.heap.size+1+1+1) 1 (.string src)) (w.heap.size+1+1+1) 2 (.string ci)) (w.heap.size+1+1+1) 3 (iV cn)).setCell ⟨w.heap.size+1+1+1,4,none⟩ (iV cn)) (w.heap.size+1+1+1) (FlR proto src ci cn cn)):=(((((HHz.set 0 (iV proto)).set 1 (.string src)).set 2 (.string ci)).set 3 (iV cn)).set 4 (iV cn));have RB:Hid _:=(((((S2.out.b.setCell (p:=⟨w.heap.size+1+1+1,0,none⟩) hRw (iV proto)).setCell (p:=⟨w.heap.size+1+1+1,1,none⟩) hRw (.string src)).setCell (p:=⟨w.heap.size+1+1+1,2,none⟩) hRw (.string ci)).setCell (p:=⟨w.heap.size+1+1+1,3,none⟩) hRw (iV cn)).setCell (p:=⟨w.heap.size+1+1+1,4,none⟩) hRw (iV cn));clear HHz;go_wp2_with fail
  exact bodyPost_ret (results_mid Tryz.results207 _ _ (w.heap.size+1+1+1) (FlR proto src ci cn cn) _ rfl HRR.out Tryz.underlying91 rfl (show (Tryz.prog.info? 91).map (·.size)=some 5 by kernel_rfl)) rfl (And.intro rfl RB.out)
def wordsB (ws:List Int):ByteArray:=⟨((layL ws).map (fun x=>UInt8.ofNat x.toNat)).toArray⟩
theorem wordsB_size (ws:List Int):(wordsB ws).size=2*ws.length:=by
 unfold wordsB ByteArray.size;simp [layL_length]
theorem words_conv {w:World} {b cap n:Nat} {ws:List Int} (hn:n=2*ws.length) (hw:∀ m∈ws,0≤m∧m≤65535) (hc:∀ i,i < n→w.cell? ⟨b,i,none⟩=some (.int .u8 (fL ws i))) :
  (convert 137 9 (.slice (some ⟨b,0,none⟩) n cap)).run Tryz.prog w=.ok (.string (wordsB ws)) w:=by
 have hl:=layL_length ws;have e:n=((layL ws).map (fun x=>UInt8.ofNat x.toNat)).length:=by simp [hl,hn]
 rw [e];refine run_convert_bytes_back (P:=Tryz.prog) w 137 9 5 ⟨b,0,none⟩ cap ((layL ws).map (fun x=>UInt8.ofNat x.toNat)) Tryz.underlying137 Tryz.underlying5 Tryz.underlying9 ?_;intro j hj;have hj2:j < (layL ws).length:=by simpa using hj
 have hb:=fL_byte ws hw j;have e2:fL ws j=(layL ws)[j]:=by simp [fL,List.getD,hj2]
 rw [e2] at hb;have e3:Addr.add ⟨b,0,none⟩ j=⟨b,j,none⟩:=by simp [Addr.add]; omega
 rw [e3,List.getElem_map,u8_ofNat _ hb.1 hb.2,← e2];exact hc j (by omega)
theorem wordsB_four (p n:Int) (hp:0≤p∧p≤255):pairV 0 p++twoV n=wordsB [p,n]:=by
 have e1:p / 256=0:=by omega
 have e2:p % 256=p:=by omega
 simp only [wordsB,layL,e1,e2];rfl
theorem wordsB_six (p n:Int) (hp:0≤p∧p≤255) (hn:0≤n∧n≤65535):twoV (n / 65536)++twoV (n % 65536)++quadW 0 p=wordsB [n / 65536,n,0,p]:=by
 have e1:p / 256=0:=by omega
 have e2:p % 256=p:=by omega
 have e3:n % 65536=n:=by omega
 simp only [wordsB,layL,e1,e2,e3];rfl
theorem ipPseudo_any (s d:ByteArray) (p:Int) (n:Nat) (w:World) (hs:s.size=4∨s.size=16) (hd:d.size≤16) (hp:0≤p∧p≤255) (hn:n≤65535) :
  Cb 179 #[.string s,.string d,iV p,iV n] w (.string (pseudoV s d p n)):=by
 have n1:¬ 9223372036854775807 < s.size+d.size:=by omega
 rcases hs with hs | hs
 ·have d4:((s.size:Int)==16)=false:=by simp; omega
  by_cases h1:p=1
  ·have d1:(p==1)=true:=by simp [h1]
   have HV:Hid (pseudoV s d p n=⟨#[]⟩):=by unfold Hid pseudoV; rw [if_pos ⟨h1,hs⟩]
   generalize pseudoV s d p n=ans at *;clear h1;go_enter Tryz.func179,Tryz.ntmps179
   go_wp2_with fail
   go_ret;exact ⟨ret_string HV.out.symm,Below.refl _ _⟩
  ·have d1:(p==1)=false:=by simp [h1]
   have HV:Hid (pseudoV s d p n=s++d++wordsB [p,(n:Int)]):=by
    unfold Hid pseudoV;rw [if_neg (fun h=>h1 h.1),if_pos hs,← wordsB_four p n hp,ByteArray.append_assoc (a:=s++d)]
   generalize pseudoV s d p n=ans at *;have hws:∀ m∈[p,(n:Int)],0≤m∧m≤65535:=by intro m hm; simp at hm; rcases hm with rfl | rfl<;>omega
   have HL:Hid (Calls Tryz.prog 160 #[.slice (some ⟨w.heap.size,0,none⟩) 2 2] (w.alloc (.cells #[iV p,iV n] 2)) fun e w' =>
    e=.returned (.slice (some ⟨w.heap.size+1,0,none⟩) 4 4)∧(∀ i,i < 4→w'.cell? ⟨w.heap.size+1,i,none⟩=some (.int .u8 (fL [p,(n:Int)] i)))∧Below w.heap.size w w'):=layAt [p,(n:Int)] w (by simp) hws
   have HW:Hid (∀ m∈[p,(n:Int)],0≤m∧m≤65535):=hws;have z:=wordsB_size [p,(n:Int)];simp at z;have n2:¬ 9223372036854775807 < s.size+d.size+(wordsB [p,(n:Int)]).size:=by omega
   clear hws h1;go_enter Tryz.func179,Tryz.ntmps179
   go_wp2_with fail
   refine HL.out.mono ?_;rintro e w1 ⟨rfl,hc,hB⟩;have hcv:=words_conv (cap:=4) (by simp) HW.out hc;have HB:Hid (Below w.heap.size w w1):=hB;clear hc hB HL;generalize wordsB [p,(n:Int)]=u at *;go_wp2_with fail
   go_ret;exact ⟨ret_string HV.out.symm,HB.out⟩
 ·have d4:((s.size:Int)==16)=true:=by simp; omega
  have HV:Hid (pseudoV s d p n=s++d++wordsB [(n:Int) / 65536,(n:Int),0,p]):=by
   unfold Hid pseudoV;rw [if_neg (by omega),if_neg (by omega),← wordsB_six p n hp (by omega),ByteArray.append_assoc (a:=s++d),ByteArray.append_assoc (a:=s++d)]
  generalize pseudoV s d p n=ans at *;have hws:∀ m∈[(n:Int) / 65536,(n:Int),0,p],0≤m∧m≤65535:=by intro m hm; simp at hm; rcases hm with rfl | rfl | rfl | rfl<;>omega
  have HL:Hid (Calls Tryz.prog 160 #[.slice (some ⟨w.heap.size,0,none⟩) 4 4] (w.alloc (.cells #[iV ((n:Int) / 65536),iV n,iV 0,iV p] 2)) fun e w' =>
   e=.returned (.slice (some ⟨w.heap.size+1,0,none⟩) 8 8)∧(∀ i,i < 8→w'.cell? ⟨w.heap.size+1,i,none⟩=some (.int .u8 (fL [(n:Int) / 65536,(n:Int),0,p] i)))∧Below w.heap.size w w'):=layAt [(n:Int) / 65536,(n:Int),0,p] w (by simp) hws
  have HW:Hid (∀ m∈[(n:Int) / 65536,(n:Int),0,p],0≤m∧m≤65535):=hws;have z:=wordsB_size [(n:Int) / 65536,(n:Int),0,p];simp at z;have n2:¬ 9223372036854775807 < s.size+d.size+(wordsB [(n:Int) / 65536,(n:Int),0,p]).size:=by omega
  clear hws;go_enter Tryz.func179,Tryz.ntmps179
  go_wp2_with fail
  refine HL.out.mono ?_;rintro e w1 ⟨rfl,hc,hB⟩;have hcv:=words_conv (cap:=8) (by simp) HW.out hc;have HB:Hid (Below w.heap.size w w1):=hB;clear hc hB HL;generalize wordsB [(n:Int) / 65536,(n:Int),0,p]=u at *;go_wp2_with fail
  go_ret;exact ⟨ret_string HV.out.symm,HB.out⟩
theorem ipLacks_any (p:Int) (t:ByteArray) (w:World) (h8:8≤t.size) (ht:t.size≤1048576) :
  Cw 157 #[iV p,.string t] w (.bool (decide (p=17)&&decide (wordN (bt t) 6=0))):=by
 have HW:Hid (∀ W,Cw 134 #[.string t,iV (6:Nat)] W (iV (wordN (bt t) 6))):=fun W=>wordFromS_any t 6 W (by omega) (by unfold maxLen; omega)
 have dq:(wordN (bt t) 6==0)=decide (wordN (bt t) 6=0):=rfl;generalize decide (wordN (bt t) 6=0)=q at *;generalize wordN (bt t) 6=x at *;by_cases h:p=17
 ·have d1:(p==17)=true:=by simp [h]
  rw [decide_eq_true h];clear h;go_enter Tryz.func157,Tryz.ntmps157
  go_wp2_with fail
  refine (HW.out _).mono ?_;rintro e w2 ⟨rfl,rfl⟩;go_wp2_with fail
  go_ret;exact ⟨rfl,rfl⟩
 ·have d1:(p==17)=false:=by simp [h]
  rw [decide_eq_false h];clear h;go_enter Tryz.func157,Tryz.ntmps157
  go_wp2_with fail
  go_ret;exact ⟨rfl,rfl⟩
structure CurAt (w:World) (B b cap:Nat) (t:ByteArray) (k:Nat):Prop where
 c0:w.cell? ⟨B,0,none⟩=some (.slice (some ⟨b,0,none⟩) t.size cap)
 f0:w.frozen? ⟨B,0,none⟩=false
 c1:w.cell? ⟨B,1,none⟩=some (iV k)
 f1:w.frozen? ⟨B,1,none⟩=false
 bs:∀ i,i < t.size→w.cell? ⟨b,i,none⟩=some (.int .u8 (bt t i))
 ne:b≠B
 lt:b < w.heap.size
 cp:t.size≤cap
theorem CurAt.kept {w W:World} {B b cap:Nat} {t:ByteArray} {k:Nat} (h:CurAt w B b cap t k) (hB:Below w.heap.size w W):CurAt W B b cap t k:=by
 have hb:=World.block_lt_of_cell? w _ h.c0;exact ⟨((bcell hB).1 B 0 hb).trans h.c0,((bcell hB).2 B 0 hb).trans h.f0,((bcell hB).1 B 1 hb).trans h.c1,((bcell hB).2 B 1 hb).trans h.f1,fun i hi=>((bcell hB).1 b i h.lt).trans (h.bs i hi),h.ne,Nat.lt_of_lt_of_le h.lt hB.size,h.cp⟩
theorem CurAt.step {w:World} {B b cap:Nat} {t:ByteArray} {k:Nat} (h:CurAt w B b cap t k) (k':Nat):CurAt (w.setCell ⟨B,1,none⟩ (iV k')) B b cap t k':=by
 refine ⟨?_,by simpa using h.f0,World.cell?_setCell_same _ _ _ h.c1,by simpa using h.f1,fun i hi=>?_,h.ne,by simpa using h.lt,h.cp⟩
 ·rw [World.cell?_setCell_other _ _ _ _ (fun e=>by injection e with _ h2; omega)]; exact h.c0
 ·rw [World.cell?_setCell_other _ _ _ _ (fun e=>by injection e with h1 _; exact h.ne h1.symm)]; exact h.bs i hi
theorem CurAt.other {w:World} {B b cap:Nat} {t:ByteArray} {k:Nat} (h:CurAt w B b cap t k) {C o:Nat} (v:Value) (h1:C≠B) (h2:C≠b):CurAt (w.setCell ⟨C,o,none⟩ v) B b cap t k:=by
 have hc:∀ X j,C≠X→(w.setCell ⟨C,o,none⟩ v).cell? ⟨X,j,none⟩=w.cell? ⟨X,j,none⟩:=fun X j hX=>World.cell?_setCell_other w _ _ v (fun e=>hX (congrArg Addr.block e))
 exact ⟨(hc B 0 h1).trans h.c0,by simpa using h.f0,(hc B 1 h1).trans h.c1,by simpa using h.f1,fun i hi=>(hc b i h2).trans (h.bs i hi),h.ne,by simpa using h.lt,h.cp⟩
theorem bt_list {s:ByteArray} {j:Nat} (h:j < s.data.toList.length):(s.data.toList[j].toNat:Int)=bt s j:=by
 have h':j < s.size:=by rw [Array.length_toList] at h; exact h
 unfold bt;rw [dif_pos h',ByteArray.getElem_eq_getElem_data];simp
open Go.Lib
theorem strCells_append (a b:ByteArray):strCells (a++b)=strCells a++strCells b:=by
 unfold strCells; rw [ByteArray.data_append]; simp
theorem strCells_two (n:Int) (h0:0≤n) (h1:n≤65535):strCells (twoV n)=[.int .u8 (n / 256),.int .u8 (n % 256)]:=by
 have e1:=u8_ofNat (n / 256) (by omega) (by omega);have e2:=u8_ofNat (n % 256) (by omega) (by omega);simp only [strCells,twoV,twoL,List.map_cons,List.map_nil,e1,e2]
theorem strCells_at (s:ByteArray) (i:Nat) (h:i < s.size):(strCells s)[i]?=some (.int .u8 (bt s i)):=by
 have h':i < s.data.toList.length:=by rw [Array.length_toList]; exact h
 unfold strCells;rw [List.getElem?_map,List.getElem?_eq_getElem h',Option.map_some,bt_list h']
def IsWords (ws:List Int):Value→World→Prop:=fun v w=>∃ b,v=.slice (some ⟨b,0,none⟩) ws.length ws.length∧b < w.heap.size∧∀ k,k < ws.length→w.cell? ⟨b,k,none⟩=some (iV (ws.getD k 0))
theorem stable_isWords (ws:List Int):Stable (IsWords ws):=fun v w w' ⟨b,h1,h2,h3⟩ hb=>⟨b,h1,Nat.lt_of_lt_of_le h2 hb.size,fun k hk=>((bcell hb).1 b k h2).trans (h3 k hk)⟩
theorem owns_kept {w W:World} {base e n:Nat} {v:Value} {xs:List Value} (h:w.ownsRow base e 1 v n xs) (hB:Below w.heap.size w W):W.ownsRow base e 1 v n xs:=by
 obtain ⟨h1,h2⟩:=h;refine ⟨h1,?_⟩;rcases h2 with h2 | ⟨g,cap,cur,q1,q2,q3,q4⟩
 ·exact .inl h2
 ·exact .inr ⟨g,cap,cur,q1,q2,by rw [hB.block g (Array.getElem?_eq_some_iff.1 q3).1]; exact q3,q4⟩
theorem owns_base {w:World} {base base' e n:Nat} {v:Value} {xs:List Value} (h:w.ownsRow base e 1 v n xs) (hB:base'≤base):w.ownsRow base' e 1 v n xs:=by
 obtain ⟨h1,h2⟩:=h;refine ⟨h1,?_⟩;rcases h2 with h2 | ⟨g,cap,cur,q1,q2,q3,q4⟩
 ·exact .inl h2
 ·exact .inr ⟨g,cap,cur,q1,Nat.le_trans hB q2,q3,q4⟩
def IsOwn (base e n:Nat) (xs:List Value):Value→World→Prop:=fun v w=>∃ g,v=.slice (some ⟨g,0,none⟩) n n∧w.ownsRow base e 1 v n xs
theorem stable_isOwn (base e n:Nat) (xs:List Value):Stable (IsOwn base e n xs):=fun v w w' ⟨g,h1,h2⟩ hb=>⟨g,h1,owns_kept h2 hb⟩
def zs (n:Nat):ByteArray:=⟨Array.replicate n 0⟩
theorem lay_at {w:World} {g o:Nat} {A Z B s:ByteArray} (h:HoldsL w g (strCells (A++Z++B))) (hA:A.size=o) (hZ:Z.size=s.size):HoldsL (w.setCells g o (strCells s)) g (strCells (A++s++B)):=by
 have hl:(strCells (A++Z++B)).length=o+s.size+B.size:=by rw [strCells_length]; simp only [ByteArray.size_append]; omega
 have:=h.setRange o (strCells s) (by rw [hl,strCells_length]; omega);rw [strCells_length] at this;rw [strCells_append,strCells_append] at this ⊢;rw [List.append_assoc (strCells A),List.take_left' (by rw [strCells_length]; exact hA),← List.append_assoc,List.drop_left' (by rw [List.length_append,strCells_length,strCells_length]; omega)] at this;exact this
theorem below_setCells {w W:World} {B g:Nat} (h:Below B w W) (hg:B≤g):∀ (cs:List Value) (o:Nat),Below B w (W.setCells g o cs)
 | [],o=>h
 | c::cs,o=>by rw [World.setCells]; exact below_setCells (h.setCell (p:=⟨g,o,none⟩) hg c) hg cs (o+1)
theorem Bxs.cells {w wx:World} {ks:List (Nat × List Value)} (h:Bxs w ks wx) {g:Nat} (hne:∀ e∈ks,e.1≠g) (hg:w.heap.size≤g) {o:Nat} {cs:List Value}:Bxs w ks (wx.setCells g o cs) :=
 ⟨fun e he=>(h.k e he).setCellsOther (hne e he) cs,below_setCells h.b hg cs o,h.z⟩
theorem hold_bt {w:World} {g:Nat} {t:ByteArray} (h:HoldsL w g (strCells t)) (i:Nat) (hi:i < t.size):w.cell? ⟨g,i,none⟩=some (.int .u8 (bt t i)):=h.cell (strCells_at t i hi)
end Go.Proofs.YtcckaeppiamebaaGreatDoor
namespace Go.Proofs.YtcckaeppiamebaaGreatDoor
open Go.RowKit Go.PlainAid
theorem ipPlace_any (p:Int) (w:World) :
  Cw 159 #[iV p] w (iV (checkP p:Nat)):=by
 by_cases h1:p=6
 ·subst h1;go_enter Tryz.func159,Tryz.ntmps159
  go_wp2_with fail
  go_ret;exact ⟨rfl,rfl⟩
 ·have d1:(p==6)=false:=by simp [h1]
  by_cases h2:p=17
  ·subst h2;go_enter Tryz.func159,Tryz.ntmps159
   go_wp2_with fail
   go_ret;exact ⟨rfl,rfl⟩
  ·have d2:(p==17)=false:=by simp [h2]
   have HV:Hid (checkP p=2):=by unfold Hid checkP; rw [if_neg h1,if_neg h2]
   generalize checkP p=ans at *;go_enter Tryz.func159,Tryz.ntmps159
   go_wp2_with fail
   go_ret;exact ⟨ret_int (by rw [HV.out]; rfl),rfl⟩
theorem ipLike_any (a b:Int) (w:World) :
  Cw 156 #[iV a,iV b] w (.bool (decide (a=b)||(echoP a&&echoP b))):=by
 have HA:Hid (∀ W,Cw 101 #[iV a] W (.bool (echoP a))):=fun W=>implEcho_any a W
 have HB:Hid (∀ W,Cw 101 #[iV b] W (.bool (echoP b))):=fun W=>implEcho_any b W
 have hun:undef=Value.tuple #[]:=rfl;by_cases h:a=b
 ·have d1:(a==b)=true:=by simp [h]
  have HV:Hid ((decide (a=b)||(echoP a&&echoP b))=true):=by unfold Hid; simp [h]
  generalize (decide (a=b)||(echoP a&&echoP b))=ans at *;clear h HA HB;go_enter Tryz.func156,Tryz.ntmps156
  go_wp2_with fail
  go_ret;exact ⟨ret_bool (by rw [HV.out]),rfl⟩
 ·have d1:(a==b)=false:=by simp [h]
  have HV:Hid ((decide (a=b)||(echoP a&&echoP b))=(echoP a&&echoP b)):=by unfold Hid; simp [h]
  generalize (decide (a=b)||(echoP a&&echoP b))=ans at *;generalize echoP a=ea at *;generalize echoP b=eb at *;clear h
  cases ea with
  | false =>
   go_enter Tryz.func156,Tryz.ntmps156
   go_wp2_with fail
   refine (HA.out _).mono ?_;rintro e w2 ⟨rfl,rfl⟩;go_wp2_with fail
   go_ret;exact ⟨ret_bool (by rw [HV.out]; rfl),rfl⟩
  | true =>
   go_enter Tryz.func156,Tryz.ntmps156
   go_wp2_with fail
   refine (HA.out _).mono ?_;rintro e w2 ⟨rfl,rfl⟩;go_wp2_with fail
   refine (HB.out _).mono ?_;rintro e w3 ⟨rfl,rfl⟩;go_wp2_with fail
   go_ret;exact ⟨ret_bool (by rw [HV.out]; rfl),rfl⟩
theorem ipSetPart_any (p:Int) (t:ByteArray) (w:World) (h8:8≤t.size) (ht:t.size≤1048576) :
  Cb 178 #[iV p,.string t] w (.string (setPartV p t)):=by
 have HE:Hid (∀ W,Cw 101 #[iV p] W (.bool (echoP p))):=fun W=>implEcho_any p W
 have L1:∀ W,(Instr.slice 9 (.string t) none (some (iV 4)) none).run Tryz.prog W=.ok (.string (t.extract 0 4)) W:=fun W=>run_slice_string_h (P:=Tryz.prog) (t:=9) (s:=t) (w:=W) (ht:=Tryz.underlying9) .i64 (4:Int) (by omega) (by omega)
 have L2:∀ W,(Instr.slice 9 (.string t) none (some (iV 2)) none).run Tryz.prog W=.ok (.string (t.extract 0 2)) W:=fun W=>run_slice_string_h (P:=Tryz.prog) (t:=9) (s:=t) (w:=W) (ht:=Tryz.underlying9) .i64 (2:Int) (by omega) (by omega)
 have L3:∀ W,(Instr.slice 9 (.string t) (some (iV 4)) (some (iV 6)) none).run Tryz.prog W=.ok (.string (t.extract 4 6)) W:=fun W=>str_slice5 t 4 6 W (by omega) (by omega)
 have z1:(t.extract 0 4).size=4:=by rw [ByteArray.size_extract]; omega
 have z2:(t.extract 0 2).size=2:=by rw [ByteArray.size_extract]; omega
 have z3:(t.extract 4 6).size=2:=by rw [ByteArray.size_extract]; omega
 have HV:Hid (setPartV p t=if echoP p=true then t.extract 0 2++t.extract 4 6 else t.extract 0 4):=rfl;generalize t.extract 0 4=u1 at *;generalize t.extract 0 2=u2 at *;generalize t.extract 4 6=u3 at *;generalize setPartV p t=ans at *;have n1:¬ 9223372036854775807 < u2.size+u3.size:=by omega
 generalize echoP p=b at *
 cases b with
 | false =>
  replace HV:Hid (ans=u1):=HV.out;go_enter Tryz.func178,Tryz.ntmps178
  go_wp2_with fail
  refine (HE.out _).mono ?_;rintro e w2 ⟨rfl,rfl⟩;go_wp2_with fail
  go_ret;exact ⟨by rw [HV.out]; rfl,Below.refl _ _⟩
 | true =>
  replace HV:Hid (ans=u2++u3):=HV.out;go_enter Tryz.func178,Tryz.ntmps178
  go_wp2_with fail
  refine (HE.out _).mono ?_;rintro e w2 ⟨rfl,rfl⟩;go_wp2_with fail
  go_region
  all_goals go_wp2_with fail
  all_goals go_ret
  all_goals exact ⟨by rw [HV.out]; rfl,(Below.refl _ _).drew⟩
theorem Bxs.setHead {w0 W:World} {ks:List (Nat × List Value)} {C:Nat} {v:Value} (h:Bxs w0 ((C,[v])::ks) W) (hC:w0.heap.size≤C) (hks:∀ e∈ks,e.1≠C) (u:Value):Bxs w0 ((C,[u])::ks) (W.setCell ⟨C,0,none⟩ u) :=
 ⟨fun e he=>by
  rcases List.mem_cons.1 he with rfl | he
  ·exact (h.k _ mE0).set 0 u
  ·exact HoldsL.setOther (h.k e (.tail _ he)) (hks e he) u,h.b.setCell (p:=⟨C,0,none⟩) hC u,fun e he=>by
  rcases List.mem_cons.1 he with rfl | he
  ·exact Nat.zero_lt_one
  ·exact h.z e (.tail _ he)⟩
theorem Bxs.tl {w0 W:World} {k:Nat × List Value} {ks:List (Nat × List Value)} (h:Bxs w0 (k::ks) W):Bxs w0 ks W:=⟨fun e he=>h.k e (.tail _ he),h.b,fun e he=>h.z e (.tail _ he)⟩
theorem ipMTurn_any (ta tb:ByteArray) (c:Int) (C:Nat) (ks:List (Nat × List Value)) (w0 w:World) (ha:ta.size≤1048576) (hb':tb.size≤1048576) (hc:0≤c∧c≤65535) (hC:w0.heap.size≤C) (hks:∀ e∈ks,e.1≠C) (h:Bxs w0 ((C,[iV c])::ks) w) :
  Calls Tryz.prog 177 #[.pointer (some ⟨C,0,none⟩),.agg #[.string ta,.string tb]] w fun e w'=>e=.returned (.tuple #[])∧Bxs w0 ((C,[iV (turn1 c (sumV ta) (sumV tb))])::ks) w':=by
 have HA:Hid (∀ W,Cb 172 #[.string ta] W (iV (sumV ta))):=fun W=>(sumOfS_any ta W (by omega)).mono fun e w' h=>⟨h.1,by rw [h.2]; exact Below.refl _ _⟩
 have HB:Hid (∀ W,Cb 172 #[.string tb] W (iV (sumV tb))):=fun W=>(sumOfS_any tb W (by omega)).mono fun e w' h=>⟨h.1,by rw [h.2]; exact Below.refl _ _⟩
 have HT:Hid (∀ W,Cb 185 #[iV c,iV (sumV ta),iV (sumV tb)] W (iV (turn1 c (sumV ta) (sumV tb)))):=fun W=>(implSumTurn_any c (sumV ta) (sumV tb) W).mono fun e w' h=>⟨by rw [h.1,turnV_of hc (sumV_range ta) (sumV_range tb)],h.2⟩
 have hlt:C < w.heap.size:=(h.k _ mE0).lt (by simp);have HS0:Hid (Bxs w0 ((w.heap.size,[.string ta,.string tb])::(C,[iV c])::ks) (w.alloc (.cells #[.string ta,.string tb] 214))):=h.push [.string ta,.string tb] (by simp) _;have HKS:Hid (∀ e∈ks,e.1≠C):=hks;generalize sumV ta=sa at *;generalize sumV tb=sb at *;generalize turn1 c sa sb=tc at *;clear h hks;go_enter Tryz.func177,Tryz.ntmps177
 go_upto_region 1 with fail
 generalize (w.alloc (.cells #[.string ta,.string tb] 214))=W1 at *;generalize w.heap.size=P at *;have HCP:Hid (∀ wy,Below W1.drew.heap.size W1.drew wy→_):=fun wy hy=>HS0.out.kept ((Below.refl _ _).drew.trans hy)
 clear HS0;refine wp_region_growV [4,5,6,7,8,9,10,11,12,13,14,15,16,17] (by kernel_rfl) (by kernel_rfl) ?_;apply GChV.v0
 ·rfl
 ·intro K' a wy ho hd hb hK kz;have o0:=ho 0 (by decide);simp [slot] at o0;clear hd ho;go_simp;try go_bits
  exact kz _ rfl
 apply GChV.v1
 ·rfl
 ·intro K' a wy ho hd hb hK kz;have o0:=ho 0 (by decide);simp [slot] at o0;clear hd ho;go_simp;try go_bits
  exact kz _ rfl
 apply GChV.v2
 ·rfl
 ·intro K' a wy ho hd hb hK kz;have q1:=hd ⟨1,.data⟩ (by simp) rfl;simp [rAt,IsV,slot] at q1;clear hd ho;go_simp;try go_bits
  exact kz _ rfl
 apply GChV.v3
 ·rfl
 ·intro K' a wy ho hd hb hK kz;have q2:=hd ⟨2,.data⟩ (by simp) rfl;simp [rAt,IsV,slot] at q2;clear hd ho;go_simp;try go_bits
  exact kz _ rfl
 apply GChV.v4
 ·rfl
 ·intro K' a wy ho hd hb hK kz;have q3:=hd ⟨3,.data⟩ (by simp) rfl;simp [rAt,IsV,slot] at q3;clear hd ho;have hst:=HCP.out wy hb;have HHp:=hst.at mE0;have HHc:=hst.at mE1;obtain ⟨p0,p1⟩:=HHp.c2;have c0:=HHc.cell (j:=0) rfl;clear hst HHp HHc;go_simp;try go_bits
  exact kz _ rfl
 apply GChV.v5
 ·rfl
 ·intro K' a wy ho hd hb hK kz;have o3:=ho 3 (by decide);simp [slot] at o3;clear hd ho;go_simp;try go_bits
  exact kz _ rfl
 apply GChV.v6
 ·rfl
 ·intro K' a wy ho hd hb hK kz;have q5:=hd ⟨5,.data⟩ (by simp) rfl;simp [rAt,IsV,slot] at q5;clear hd ho;have hst:=HCP.out wy hb;have HHp:=hst.at mE0;have HHc:=hst.at mE1;obtain ⟨p0,p1⟩:=HHp.c2;have c0:=HHc.cell (j:=0) rfl;clear hst HHp HHc;go_simp;try go_bits
  exact kz _ rfl
 apply GChV.v7
 ·rfl
 ·intro K' a wy ho hd hb hK kz;have q6:=hd ⟨6,.data⟩ (by simp) rfl;simp [rAt,IsV,slot] at q6;clear hd ho;go_simp;refine (HA.out wy).mono ?_;rintro e wz ⟨rfl,hz⟩;exact hK _ _ rfl hz
 apply GChV.v8
 ·rfl
 ·intro K' a wy ho hd hb hK kz;have o3:=ho 3 (by decide);simp [slot] at o3;clear hd ho;go_simp;try go_bits
  exact kz _ rfl
 apply GChV.v9
 ·rfl
 ·intro K' a wy ho hd hb hK kz;have q8:=hd ⟨8,.data⟩ (by simp) rfl;simp [rAt,IsV,slot] at q8;clear hd ho;have hst:=HCP.out wy hb;have HHp:=hst.at mE0;have HHc:=hst.at mE1;obtain ⟨p0,p1⟩:=HHp.c2;have c0:=HHc.cell (j:=0) rfl;clear hst HHp HHc;go_simp;try go_bits
  exact kz _ rfl
 apply GChV.v10
 ·rfl
 ·intro K' a wy ho hd hb hK kz;have q9:=hd ⟨9,.data⟩ (by simp) rfl;simp [rAt,IsV,slot] at q9;clear hd ho;go_simp;refine (HB.out wy).mono ?_;rintro e wz ⟨rfl,hz⟩;exact hK _ _ rfl hz
 apply GChV.v11
 ·rfl
 ·intro K' a wy ho hd hb hK kz;have q4:=hd ⟨4,.data⟩ (by simp) rfl;have q7:=hd ⟨7,.data⟩ (by simp) rfl;have q10:=hd ⟨10,.data⟩ (by simp) rfl;simp [rAt,IsV,slot] at q4 q7 q10;clear hd ho;go_simp;refine (HT.out wy).mono ?_;rintro e wz ⟨rfl,hz⟩;exact hK _ _ rfl hz
 apply GChV.v12
 ·rfl
 ·intro K' a wy ho hd hb hK kz;have q0:=hd ⟨0,.data⟩ (by simp) rfl;simp [rAt,IsV,slot] at q0;clear hd ho;go_simp;try go_bits
  exact kz _ rfl
 apply GChV.v13
 ·rfl
 ·intro K' a wy ho hd hb hK kz;have q12:=hd ⟨12,.data⟩ (by simp) rfl;simp [rAt,IsV,slot] at q12;clear hd ho;go_simp;try go_bits
  exact kz _ rfl
 intro X wz hR hz;obtain ⟨x0,x1,x2,x3,x4,x5,x6,x7,x8,x9,x10,x11,x12,x13,-⟩:=hR;simp only [IsV] at x0 x1 x2 x3 x4 x5 x6 x7 x8 x9 x10 x11 x12 x13;simp only [putsFrom,x0,x1,x2,x3,x4,x5,x6,x7,x8,x9,x10,x11,x12,x13];clear x0 x1 x2 x3 x4 x5 x6 x7 x8 x9 x10 x11 x12 x13;have hst:=HCP.out wz hz;have HF:Hid (Bxs w0 ((C,[iV tc])::ks) (wz.setCell ⟨C,0,none⟩ (iV tc))):=hst.tl.setHead hC HKS.out _;have HHc:=hst.at mE1;have c0:=HHc.cell (j:=0) rfl;have f0:=HHc.free (j:=0) (by simp);clear hst HHc HCP HKS;intro K10 hK10;go_simp;refine hK10 _ _ ?_;simp only [wpSeq];go_end0
 exact ⟨rfl,HF.out⟩
theorem ipEach_any (a b a' b':ByteArray) (c:Int) (C R:Nat) (ks:List (Nat × List Value)) (w0 w:World) (ha:a.size≤1048576) (hb:b.size≤1048576) (ha':a'.size≤1048576) (hb':b'.size≤1048576) (hc:0≤c∧c≤65535) (hC:w0.heap.size≤C) (hR:R≠C) (hks:∀ e∈ks,e.1≠C) (h:Bxs w0 ((C,[iV c])::(R,[.string a,.string b,.string a',.string b'])::ks) w) :
  Calls Tryz.prog 176 #[.func (.func 177) #[.pointer (some ⟨C,0,none⟩)] #[],.slice (some ⟨R,0,none⟩) 2 2] w fun e w'=>e=.returned (.tuple #[])∧Bxs w0 ((C,[iV (turn1 (turn1 c (sumV a) (sumV b)) (sumV a') (sumV b'))])::(R,[.string a,.string b,.string a',.string b'])::ks) w':=by
 have r1:=turn1_range hc (sumV_range a) (sumV_range b);have HKR:Hid (∀ e∈(R,[Value.string a,.string b,.string a',.string b'])::ks,e.1≠C):=fun e he=>by
  rcases List.mem_cons.1 he with rfl | he
  ·exact hR
  ·exact hks e he
 have H1:Hid (∀ W ls,(∀ e∈ls,e.1≠C)→Bxs w0 ((C,[iV c])::ls) W→Calls Tryz.prog 177 #[.pointer (some ⟨C,0,none⟩),.agg #[.string a,.string b]] W fun e w'=>e=.returned (.tuple #[])∧Bxs w0 ((C,[iV (turn1 c (sumV a) (sumV b))])::ls) w'):=fun W ls hl hW=>ipMTurn_any a b c C ls w0 W ha hb hc hC hl hW
 have H2:Hid (∀ W ls,(∀ e∈ls,e.1≠C)→Bxs w0 ((C,[iV (turn1 c (sumV a) (sumV b))])::ls) W→Calls Tryz.prog 177 #[.pointer (some ⟨C,0,none⟩),.agg #[.string a',.string b']] W fun e w'=>e=.returned (.tuple #[])∧Bxs w0 ((C,[iV (turn1 (turn1 c (sumV a) (sumV b)) (sumV a') (sumV b'))])::ls) w'):=fun W ls hl hW=>ipMTurn_any a' b' _ C ls w0 W ha' hb' r1 hC hl hW
 have HS0:Hid _:=h;generalize turn1 (turn1 c (sumV a) (sumV b)) (sumV a') (sumV b')=c2 at *;generalize turn1 c (sumV a) (sumV b)=c1 at *;clear h hks r1 ha hb ha' hb' hc;go_enter Tryz.func176,Tryz.ntmps176
 go_wp2_with fail
 go_loopw [8] (fun i wr=>∃ k:Nat,k≤2∧i=iV k∧Bxs w0 ((C,[iV (if k=0 then c else if k=1 then c1 else c2)])::(R,[.string a,.string b,.string a',.string b'])::ks) wr) (fun i _=>2-(intOf i).toNat)
 case atStart=>exact ⟨0,by omega,rfl,HS0.out⟩
 case round =>
  obtain ⟨k,hk,rfl,hst⟩:=hrel;clear HS0;match k,hk with
  | 0,_ =>
   have S1:Hid (Bxs w0 ((C,[iV c])::(R,[.string a,.string b,.string a',.string b'])::ks) wr):=hst;have HHr:=S1.out.at mE1;obtain ⟨q0,q1⟩:=HHr.c2;clear HHr hst;have B1:Hid (Below wr.heap.size wr (wr.alloc (.cells #[.string a,.string b] 214))):=(Below.refl _ _).alloc (Nat.le_refl _) _;go_wp2_with fail
   refine (H1.out _ _ HKR.out (S1.out.kept B1.out)).mono ?_;rintro e w2 ⟨rfl,hb2⟩;have S2:Hid _:=hb2;clear hb2 S1 B1;go_wp2_with fail
   go_roundw
   case rel=>exact ⟨1,by omega,by go_num,S2.out⟩
   case measure=>simp [intOf]
  | 1,_ =>
   have S1:Hid (Bxs w0 ((C,[iV c1])::(R,[.string a,.string b,.string a',.string b'])::ks) wr):=hst;have HHr:=S1.out.at mE1;obtain ⟨-,-,q2,q3⟩:=HHr.c4;clear HHr hst;have B1:Hid (Below wr.heap.size wr (wr.alloc (.cells #[.string a',.string b'] 214))):=(Below.refl _ _).alloc (Nat.le_refl _) _;go_wp2_with fail
   refine (H2.out _ _ HKR.out (S1.out.kept B1.out)).mono ?_;rintro e w2 ⟨rfl,hb2⟩;have S2:Hid _:=hb2;clear hb2 S1 B1;go_wp2_with fail
   go_roundw
   case rel=>exact ⟨2,by omega,by go_num,S2.out⟩
   case measure=>simp [intOf]
  | 2,_ =>
   have S1:Hid (Bxs w0 ((C,[iV c2])::(R,[.string a,.string b,.string a',.string b'])::ks) wr):=hst;clear hst;go_wp2_with fail
   go_end0
   exact ⟨rfl,S1.out⟩
def IsPr (base:Nat) (vs:List Value):Value→World→Prop:=fun v w=>∃ b,v=.slice (some ⟨b,0,none⟩) 2 2∧base≤b∧HoldsL w b vs
theorem stable_isPr (base:Nat) (vs:List Value) (h:0 < vs.length):Stable (IsPr base vs):=fun v w w' ⟨b,h1,h2,h3⟩ hb=>⟨b,h1,h2,h3.kept h hb⟩
theorem checkP_lt {p:Int} {n:Nat} (h8:8≤n) (hp:p=6→20≤n):checkP p < n:=by
 unfold checkP;split
 ·rename_i h; have:=hp h; omega
 ·split<;>omega
theorem ipCheck_any (f g:Fl) (t u:ByteArray) (w:World) (h8:8≤t.size) (ht:t.size≤65535) (hp:f.proto=6→20≤t.size) (u8:8≤u.size) (hu:u.size≤65535) (fs:f.src.size=4∨f.src.size=16) (fd:f.dst.size≤16) (fp:0≤f.proto∧f.proto≤255) (gs:g.src.size=4∨g.src.size=16) (gd:g.dst.size≤16) (gp:0≤g.proto∧g.proto≤255) :
  Cb 161 #[fwC f,fwC g,.string t,.string u] w (iV (checkI f g t u)):=by
 have HPl:Hid (∀ W,Cw 159 #[iV f.proto] W (iV (checkP f.proto:Nat))):=fun W=>ipPlace_any _ W
 have HWd:Hid (∀ W,Cw 134 #[.string t,iV (checkP f.proto:Nat)] W (iV (wordN (bt t) (checkP f.proto)))):=fun W=>wordFromS_any t _ W (checkP_lt h8 hp) (by unfold maxLen; omega)
 have HP1:Hid (∀ W,Cb 178 #[iV f.proto,.string t] W (.string (setPartV f.proto t))):=fun W=>ipSetPart_any _ t W h8 (by omega)
 have HP2:Hid (∀ W,Cb 178 #[iV g.proto,.string u] W (.string (setPartV g.proto u))):=fun W=>ipSetPart_any _ u W u8 (by omega)
 have HH1:Hid (∀ W,Cb 179 #[.string f.src,.string f.dst,iV f.proto,iV t.size] W (.string (pseudoV f.src f.dst f.proto t.size))):=fun W=>ipPseudo_any _ _ _ _ W fs fd fp ht
 have HH2:Hid (∀ W,Cb 179 #[.string g.src,.string g.dst,iV g.proto,iV u.size] W (.string (pseudoV g.src g.dst g.proto u.size))):=fun W=>ipPseudo_any _ _ _ _ W gs gd gp hu
 have s1:=setPartV_size f.proto h8;have s2:=setPartV_size g.proto u8;have s3:=pseudoV_size f.src f.dst f.proto t.size (by omega) fd;have s4:=pseudoV_size g.src g.dst g.proto u.size (by omega) gd;have rc:=wordN_range (bt_isByte t) (checkP f.proto);have HV:Hid (checkI f g t u=if turn1 (turn1 (wordN (bt t) (checkP f.proto)) (sumV (setPartV f.proto t)) (sumV (setPartV g.proto u))) (sumV (pseudoV f.src f.dst f.proto t.size)) (sumV (pseudoV g.src g.dst g.proto u.size))=0 then 65535 else turn1 (turn1 (wordN (bt t) (checkP f.proto)) (sumV (setPartV f.proto t)) (sumV (setPartV g.proto u))) (sumV (pseudoV f.src f.dst f.proto t.size)) (sumV (pseudoV g.src g.dst g.proto u.size))):=rfl;have HEa:Hid (∀ C R ks W,w.heap.size≤C→R≠C→(∀ e∈ks,e.1≠C)→Bxs w ((C,[iV (wordN (bt t) (checkP f.proto))])::(R,[.string (setPartV f.proto t),.string (setPartV g.proto u),.string (pseudoV f.src f.dst f.proto t.size),.string (pseudoV g.src g.dst g.proto u.size)])::ks) W→Calls Tryz.prog 176 #[.func (.func 177) #[.pointer (some ⟨C,0,none⟩)] #[],.slice (some ⟨R,0,none⟩) 2 2] W fun e w'=>e=.returned (.tuple #[])∧Bxs w ((C,[iV (turn1 (turn1 (wordN (bt t) (checkP f.proto)) (sumV (setPartV f.proto t)) (sumV (setPartV g.proto u))) (sumV (pseudoV f.src f.dst f.proto t.size)) (sumV (pseudoV g.src g.dst g.proto u.size)))])::(R,[.string (setPartV f.proto t),.string (setPartV g.proto u),.string (pseudoV f.src f.dst f.proto t.size),.string (pseudoV g.src g.dst g.proto u.size)])::ks) w'):=fun C R ks W h1 h2 h3 h4=>ipEach_any _ _ _ _ _ C R ks w W (by omega) (by omega) (by omega) (by omega) rc h1 h2 h3 h4
 generalize turn1 (turn1 (wordN (bt t) (checkP f.proto)) (sumV (setPartV f.proto t)) (sumV (setPartV g.proto u))) (sumV (pseudoV f.src f.dst f.proto t.size)) (sumV (pseudoV g.src g.dst g.proto u.size))=c2 at *;generalize checkI f g t u=ans at *;obtain ⟨c,hc⟩ : ∃ c,c=wordN (bt t) (checkP f.proto):=⟨_,rfl⟩;rw [← hc] at HWd HEa;generalize setPartV f.proto t=p1 at *;generalize setPartV g.proto u=p2 at *;generalize pseudoV f.src f.dst f.proto t.size=p3 at *;generalize pseudoV g.src g.dst g.proto u.size=p4 at *;generalize (checkP f.proto)=pl at *;clear hc rc fs fd fp gs gd gp s1 s2 s3 s4 hp;obtain ⟨proto,src,dst,sp,dp⟩:=f;obtain ⟨proto',src',dst',sp',dp'⟩:=g;unfold fwC;dsimp only at *;have HS0:=bx2 w (FlR proto src dst sp dp) 91 (FlR proto' src' dst' sp' dp') 91 (by simp) (by simp)
 skip;go_enter Tryz.func161,Tryz.ntmps161
 go_upto_region 1 with fail
 generalize ((aW w (FlR proto src dst sp dp) 91).alloc (.cells (FlR proto' src' dst' sp' dp').toArray 91))=W0 at *;have HHk:=HS0.out.at mE0;obtain ⟨k0,k1,k2,k3,k4⟩:=HHk.c5;clear HHk;have hw0:w.heap.size≤W0.heap.size:=HS0.out.b.size;have hf0:w.heap.size < W0.heap.size:=(HS0.out.k _ mE0).lt (by simp);have hg0:w.heap.size+1 < W0.heap.size:=(HS0.out.k _ mE1).lt (by simp);have HS1:Hid (Bxs w ((W0.heap.size,[iV c])::[(w.heap.size,(FlR proto src dst sp dp)),(w.heap.size+1,(FlR proto' src' dst' sp' dp'))]) (W0.alloc (.cells #[iV c] 209))):=HS0.out.push [iV c] (by simp) _;go_upto_region 2 with (first | (go_at_call 159; refine (HPl.out _).mono ?_; rintro e W0 ⟨rfl,rfl⟩) | (go_at_call 134; refine (HWd.out _).mono ?_; rintro e W0 ⟨rfl,rfl⟩))
 clear HS0 HPl HWd k0 k1 k2 k3 k4;generalize (W0.alloc (.cells #[iV c] 209))=W1 at *;generalize W0.heap.size=C at *;have hcl:C < W1.heap.size:=(HS1.out.k _ mE0).lt (by simp);go_cut [46] (fun v wx=>Bxs w [(C,[iV c2])] wx)
 case first =>
  rename_i J K2 hJ hK2;have HCP:Hid (∀ wy,Below W1.drew.heap.size W1.drew wy→_):=fun wy hy=>HS1.out.kept ((Below.refl _ _).drew.trans hy)
  clear HS1 HV;refine wp_region_growV [16,17,18,19,20,21,22,23,24,25,26,27,28,29,30,31,32,33,34,35,36,37,38,39,40,41,42,43,44,45] (by kernel_rfl) (by kernel_rfl) ?_;apply GChV.v0
  ·rfl
  ·intro K' a wy ho hd hb hK kz;have o9:=ho 9 (by decide);simp [slot] at o9;clear hd ho;go_simp;try go_bits
   exact kz _ rfl
  apply GChV.v1
  ·rfl
  ·intro K' a wy ho hd hb hK kz;have o4:=ho 4 (by decide);simp [slot] at o4;clear hd ho;go_simp;try go_bits
   exact kz _ rfl
  apply GChV.v2
  ·rfl
  ·intro K' a wy ho hd hb hK kz;have q1:=hd ⟨1,.data⟩ (by simp) rfl;simp [rAt,IsV,slot] at q1;clear hd ho;have hst:=HCP.out wy hb;have HHk:=hst.at mE1;obtain ⟨k0,k1,k2⟩:=HHk.c3;clear HHk;have HHl:=hst.at mE2;obtain ⟨l0,l1,l2⟩:=HHl.c3;clear HHl;clear hst;go_simp;try go_bits
   exact kz _ rfl
  apply GChV.v3
  ·rfl
  ·intro K' a wy ho hd hb hK kz;have o2:=ho 2 (by decide);simp [slot] at o2;clear hd ho;go_simp;try go_bits
   exact kz _ rfl
  apply GChV.v4
  ·rfl
  ·intro K' a wy ho hd hb hK kz;have q2:=hd ⟨2,.data⟩ (by simp) rfl;have q3:=hd ⟨3,.data⟩ (by simp) rfl;simp [rAt,IsV,slot] at q2 q3;clear hd ho;go_simp;refine (HP1.out wy).mono ?_;rintro e wz ⟨rfl,hz⟩;exact hK _ _ rfl hz
  apply GChV.v5
  ·rfl
  ·intro K' a wy ho hd hb hK kz;have o5:=ho 5 (by decide);simp [slot] at o5;clear hd ho;go_simp;try go_bits
   exact kz _ rfl
  apply GChV.v6
  ·rfl
  ·intro K' a wy ho hd hb hK kz;have q5:=hd ⟨5,.data⟩ (by simp) rfl;simp [rAt,IsV,slot] at q5;clear hd ho;have hst:=HCP.out wy hb;have HHk:=hst.at mE1;obtain ⟨k0,k1,k2⟩:=HHk.c3;clear HHk;have HHl:=hst.at mE2;obtain ⟨l0,l1,l2⟩:=HHl.c3;clear HHl;clear hst;go_simp;try go_bits
   exact kz _ rfl
  apply GChV.v7
  ·rfl
  ·intro K' a wy ho hd hb hK kz;have o3:=ho 3 (by decide);simp [slot] at o3;clear hd ho;go_simp;try go_bits
   exact kz _ rfl
  apply GChV.v8
  ·rfl
  ·intro K' a wy ho hd hb hK kz;have q6:=hd ⟨6,.data⟩ (by simp) rfl;have q7:=hd ⟨7,.data⟩ (by simp) rfl;simp [rAt,IsV,slot] at q6 q7;clear hd ho;go_simp;refine (HP2.out wy).mono ?_;rintro e wz ⟨rfl,hz⟩;exact hK _ _ rfl hz
  apply GChV.v9
  ·rfl
  ·intro K' a wy ho hd hb hK kz;have q4:=hd ⟨4,.data⟩ (by simp) rfl;have q8:=hd ⟨8,.data⟩ (by simp) rfl;simp [rAt,IsV,slot] at q4 q8;clear hd ho;go_simp;try go_bits
   exact kz _ rfl
  apply GChV.v10
  ·rfl
  ·intro K' a wy ho hd hb hK kz;have o4:=ho 4 (by decide);simp [slot] at o4;clear hd ho;go_simp;try go_bits
   exact kz _ rfl
  apply GChV.v11
  ·rfl
  ·intro K' a wy ho hd hb hK kz;have q10:=hd ⟨10,.data⟩ (by simp) rfl;simp [rAt,IsV,slot] at q10;clear hd ho;have hst:=HCP.out wy hb;have HHk:=hst.at mE1;obtain ⟨k0,k1,k2⟩:=HHk.c3;clear HHk;have HHl:=hst.at mE2;obtain ⟨l0,l1,l2⟩:=HHl.c3;clear HHl;clear hst;go_simp;try go_bits
   exact kz _ rfl
  apply GChV.v12
  ·rfl
  ·intro K' a wy ho hd hb hK kz;have o4:=ho 4 (by decide);simp [slot] at o4;clear hd ho;go_simp;try go_bits
   exact kz _ rfl
  apply GChV.v13
  ·rfl
  ·intro K' a wy ho hd hb hK kz;have q12:=hd ⟨12,.data⟩ (by simp) rfl;simp [rAt,IsV,slot] at q12;clear hd ho;have hst:=HCP.out wy hb;have HHk:=hst.at mE1;obtain ⟨k0,k1,k2⟩:=HHk.c3;clear HHk;have HHl:=hst.at mE2;obtain ⟨l0,l1,l2⟩:=HHl.c3;clear HHl;clear hst;go_simp;try go_bits
   exact kz _ rfl
  apply GChV.v14
  ·rfl
  ·intro K' a wy ho hd hb hK kz;have o4:=ho 4 (by decide);simp [slot] at o4;clear hd ho;go_simp;try go_bits
   exact kz _ rfl
  apply GChV.v15
  ·rfl
  ·intro K' a wy ho hd hb hK kz;have q14:=hd ⟨14,.data⟩ (by simp) rfl;simp [rAt,IsV,slot] at q14;clear hd ho;have hst:=HCP.out wy hb;have HHk:=hst.at mE1;obtain ⟨k0,k1,k2⟩:=HHk.c3;clear HHk;have HHl:=hst.at mE2;obtain ⟨l0,l1,l2⟩:=HHl.c3;clear HHl;clear hst;go_simp;try go_bits
   exact kz _ rfl
  apply GChV.v16
  ·rfl
  ·intro K' a wy ho hd hb hK kz;have o2:=ho 2 (by decide);simp [slot] at o2;clear hd ho;go_simp;try go_bits
   exact kz _ rfl
  apply GChV.v17
  ·rfl
  ·intro K' a wy ho hd hb hK kz;have q16:=hd ⟨16,.data⟩ (by simp) rfl;simp [rAt,IsV,slot] at q16;clear hd ho;go_simp;try go_bits
   exact kz _ rfl
  apply GChV.v18
  ·rfl
  ·intro K' a wy ho hd hb hK kz;have q11:=hd ⟨11,.data⟩ (by simp) rfl;have q13:=hd ⟨13,.data⟩ (by simp) rfl;have q15:=hd ⟨15,.data⟩ (by simp) rfl;have q17:=hd ⟨17,.data⟩ (by simp) rfl;simp [rAt,IsV,slot] at q11 q13 q15 q17;clear hd ho;go_simp;refine (HH1.out wy).mono ?_;rintro e wz ⟨rfl,hz⟩;exact hK _ _ rfl hz
  apply GChV.v19
  ·rfl
  ·intro K' a wy ho hd hb hK kz;have o5:=ho 5 (by decide);simp [slot] at o5;clear hd ho;go_simp;try go_bits
   exact kz _ rfl
  apply GChV.v20
  ·rfl
  ·intro K' a wy ho hd hb hK kz;have q19:=hd ⟨19,.data⟩ (by simp) rfl;simp [rAt,IsV,slot] at q19;clear hd ho;have hst:=HCP.out wy hb;have HHk:=hst.at mE1;obtain ⟨k0,k1,k2⟩:=HHk.c3;clear HHk;have HHl:=hst.at mE2;obtain ⟨l0,l1,l2⟩:=HHl.c3;clear HHl;clear hst;go_simp;try go_bits
   exact kz _ rfl
  apply GChV.v21
  ·rfl
  ·intro K' a wy ho hd hb hK kz;have o5:=ho 5 (by decide);simp [slot] at o5;clear hd ho;go_simp;try go_bits
   exact kz _ rfl
  apply GChV.v22
  ·rfl
  ·intro K' a wy ho hd hb hK kz;have q21:=hd ⟨21,.data⟩ (by simp) rfl;simp [rAt,IsV,slot] at q21;clear hd ho;have hst:=HCP.out wy hb;have HHk:=hst.at mE1;obtain ⟨k0,k1,k2⟩:=HHk.c3;clear HHk;have HHl:=hst.at mE2;obtain ⟨l0,l1,l2⟩:=HHl.c3;clear HHl;clear hst;go_simp;try go_bits
   exact kz _ rfl
  apply GChV.v23
  ·rfl
  ·intro K' a wy ho hd hb hK kz;have o5:=ho 5 (by decide);simp [slot] at o5;clear hd ho;go_simp;try go_bits
   exact kz _ rfl
  apply GChV.v24
  ·rfl
  ·intro K' a wy ho hd hb hK kz;have q23:=hd ⟨23,.data⟩ (by simp) rfl;simp [rAt,IsV,slot] at q23;clear hd ho;have hst:=HCP.out wy hb;have HHk:=hst.at mE1;obtain ⟨k0,k1,k2⟩:=HHk.c3;clear HHk;have HHl:=hst.at mE2;obtain ⟨l0,l1,l2⟩:=HHl.c3;clear HHl;clear hst;go_simp;try go_bits
   exact kz _ rfl
  apply GChV.v25
  ·rfl
  ·intro K' a wy ho hd hb hK kz;have o3:=ho 3 (by decide);simp [slot] at o3;clear hd ho;go_simp;try go_bits
   exact kz _ rfl
  apply GChV.v26
  ·rfl
  ·intro K' a wy ho hd hb hK kz;have q25:=hd ⟨25,.data⟩ (by simp) rfl;simp [rAt,IsV,slot] at q25;clear hd ho;go_simp;try go_bits
   exact kz _ rfl
  apply GChV.v27
  ·rfl
  ·intro K' a wy ho hd hb hK kz;have q20:=hd ⟨20,.data⟩ (by simp) rfl;have q22:=hd ⟨22,.data⟩ (by simp) rfl;have q24:=hd ⟨24,.data⟩ (by simp) rfl;have q26:=hd ⟨26,.data⟩ (by simp) rfl;simp [rAt,IsV,slot] at q20 q22 q24 q26;clear hd ho;go_simp;refine (HH2.out wy).mono ?_;rintro e wz ⟨rfl,hz⟩;exact hK _ _ rfl hz
  apply GChV.v28
  ·rfl
  ·intro K' a wy ho hd hb hK kz;have q18:=hd ⟨18,.data⟩ (by simp) rfl;have q27:=hd ⟨27,.data⟩ (by simp) rfl;simp [rAt,IsV,slot] at q18 q27;clear hd ho;go_simp;try go_bits
   exact kz _ rfl
  refine GChV.rel (n:=29) (IsPr W1.drew.heap.size [.string p1,.string p2,.string p3,.string p4]) (stable_isPr _ _ (by simp)) [_,_,_,_,_,_,_,_,_,_,_,_,_,_,_,_,_,_,_,_,_,_,_,_,_,_,_,_,_,IsPr W1.drew.heap.size [.string p1,.string p2,.string p3,.string p4]] rfl rfl ?_ ?_
  ·intro K' a wy ho hd hb hK;rw [wN rfl];have q9:=hd ⟨9,.data⟩ (by simp) rfl;have q28:=hd ⟨28,.data⟩ (by simp) rfl;simp [rAt,IsV,slot] at q9 q28;clear hd ho;go_simp;exact hK _ _ ⟨wy.heap.size,rfl,hb.size,HoldsL.new wy [.string p1,.string p2,.string p3,.string p4] 214⟩ ((Below.refl _ _).alloc (Nat.le_refl _) _)
  intro X wz hR hz;obtain ⟨x0,x1,x2,x3,x4,x5,x6,x7,x8,x9,x10,x11,x12,x13,x14,x15,x16,x17,x18,x19,x20,x21,x22,x23,x24,x25,x26,x27,x28,x29,-⟩:=hR;obtain ⟨R,e29,b29,h29⟩:=x29;simp only [IsV] at x0 x1 x2 x3 x4 x5 x6 x7 x8 x9 x10 x11 x12 x13 x14 x15 x16 x17 x18 x19 x20 x21 x22 x23 x24 x25 x26 x27 x28;simp only [putsFrom,x0,x1,x2,x3,x4,x5,x6,x7,x8,x9,x10,x11,x12,x13,x14,x15,x16,x17,x18,x19,x20,x21,x22,x23,x24,x25,x26,x27,x28,e29];clear x0 x1 x2 x3 x4 x5 x6 x7 x8 x9 x10 x11 x12 x13 x14 x15 x16 x17 x18 x19 x20 x21 x22 x23 x24 x25 x26 x27 x28;have hst:=HCP.out wz hz;have hRC:R≠C:=by
   have:C < W1.drew.heap.size:=hcl;omega
  have HB5:Hid (Bxs w ((C,[iV c])::(R,[.string p1,.string p2,.string p3,.string p4])::[(w.heap.size,(FlR proto src dst sp dp)),(w.heap.size+1,(FlR proto' src' dst' sp' dp'))]) wz):=(hst.tl.cons h29 (by simp)).cons (hst.k _ mE0) (by simp);have HKS:Hid (∀ e∈([(w.heap.size,(FlR proto src dst sp dp)),(w.heap.size+1,(FlR proto' src' dst' sp' dp'))]:List (Nat × List Value)),e.1≠C):=fun e he=>by
   simp only [List.mem_cons,List.not_mem_nil,or_false] at he;rcases he with rfl | rfl<;>(show _≠C; omega)
  clear hst h29 HCP HP1 HP2 HH1 HH2;intro K10 hK10;go_simp;refine (HEa.out C R _ wz hw0 hRC HKS.out HB5.out).mono ?_;rintro e w5 ⟨rfl,hb5⟩;have HF:Hid (Bxs w [(C,[iV c2])] w5):=⟨fun e he=>by
   rw [List.mem_singleton] at he;rw [he]; exact hb5.k _ mE0,hb5.b,fun e he=>by
   rw [List.mem_singleton] at he;rw [he]; simp⟩
  clear hb5 HB5 HKS HEa;refine hK10 _ _ ?_;show Exit.then _ _ _ _ _;refine hK2 _ _ (hJ _ _ ?_);(repeat apply Exists.intro)
  exact ⟨HF.out,rfl⟩
 case rest =>
 have S6:Hid (Bxs w [(C,[iV c2])] wc):=hcut;clear hcut HS1 HP1 HP2 HH1 HH2 HEa;generalize wc=W6 at *;have HH6:=S6.out.at mE0;have z0:=HH6.cell (j:=0) rfl;clear HH6;have HFB:Hid (Below w.heap.size w W6):=S6.out.b;clear S6;by_cases h0:c2=0
 case pos =>
  have d0:(c2==0)=true:=by simp [h0]
  have HX:Hid (ans=65535):=by unfold Hid; rw [HV.out,if_pos h0]
  clear h0 HV;go_wp2_with fail
  go_ret;exact ⟨ret_int (by rw [HX.out]),HFB.out⟩
 have d0:(c2==0)=false:=by simp [h0]
 have HX:Hid (ans=c2):=by unfold Hid; rw [HV.out,if_neg h0]
 clear h0 HV;go_wp2_with fail
 go_ret;exact ⟨ret_int (by rw [HX.out]),HFB.out⟩
open Go.Lib
theorem hold_of_bytes {W:World} {b:Nat} {t:ByteArray} (h:Holds W b t.size (bt t)):HoldsL W b (strCells t):=by
 refine ⟨fun j v hv=>?_,fun j hj=>?_⟩
 ·rw [Nat.zero_add];have hj:j < t.size:=by
   have:=(List.getElem?_eq_some_iff.1 hv).1;rwa [strCells_length] at this
  rw [strCells_at t j hj] at hv;injection hv with hv
  rw [← hv]; exact (h.get j hj).1
 ·rw [strCells_length] at hj;rw [Nat.zero_add];exact ⟨by rw [(h.get j hj).1]; rfl,(h.get j hj).2⟩
theorem hold_str {W:World} {b cap:Nat} {t:ByteArray} (h:HoldsL W b (strCells t)):(convert 137 9 (.slice (some ⟨b,0,none⟩) t.size cap)).run Tryz.prog W=.ok (.string t) W:=by
 have hh:Holds W b t.size (bt t):=⟨fun i hi=>⟨hold_bt h i hi,h.free (by rw [strCells_length]; exact hi)⟩⟩;have:=hh.conv (cap:=cap) (bt_isByte t)
 rw [bytesOf_self] at this;exact this
theorem put_split (t:ByteArray) (k n:Nat) (h:k+n≤t.size):t.extract 0 k++t.extract k (k+n)++t.extract (k+n) t.size=t:=by
 refine ba_ext ?_ (fun i hi=>?_)
 ·simp only [ByteArray.size_append,ByteArray.size_extract]; omega
 ·have s1:(t.extract 0 k).size=k:=by rw [ByteArray.size_extract]; omega
  have s2:(t.extract k (k+n)).size=n:=by rw [ByteArray.size_extract]; omega
  simp only [ByteArray.size_append,ByteArray.size_extract] at hi;rw [bt_append,bt_append,ByteArray.size_append,s1,s2];by_cases h1:i < k
  ·rw [if_pos (by omega),if_pos h1,bt_extract _ _ _ _ (by omega),if_pos (by omega),Nat.zero_add]
  ·by_cases h2:i < k+n
   ·rw [if_pos h2,if_neg h1,bt_extract _ _ _ _ (by omega),if_pos (by omega),show k+(i-k)=i by omega]
   ·rw [if_neg h2,bt_extract _ _ _ _ (Nat.le_refl _),if_pos (by omega),show k+n+(i-(k+n))=i by omega]
theorem lay_put {W:World} {b k:Nat} {t u:ByteArray} (h:HoldsL W b (strCells t)) (hk:k+u.size≤t.size):HoldsL (W.setCells b k (strCells u)) b (strCells (putV t k u)):=by
 rw [← put_split t k u.size hk] at h;exact lay_at h (by rw [ByteArray.size_extract]; omega) (by rw [ByteArray.size_extract]; omega)
theorem run_lay_more {P:Program} {w:World} {g o dCap base e g6:Nat} {t s:ByteArray} (dT sT ty elem:TypeId) (hu:P.underlying dT=some (.slice elem)) (hz:(P.info? elem).map (·.size)=some 1) (h:HoldsL w g (strCells t)) (ho:o+s.size≤t.size) {dLen sLen:Nat} (hd:s.size≤dLen) (hs:sLen=s.size) (hown:w.ownsRow base e 1 (.slice (some ⟨g6,0,none⟩) sLen sLen) sLen (strCells s)) :
  (Builtin.copy_ #[dT,sT] ty #[.slice (some ⟨g,o,none⟩) dLen dCap,.slice (some ⟨g6,0,none⟩) sLen sLen]).run P w=.ok (goInt s.size) (w.setCells g o (strCells s)):=by
 have hl:(strCells t).length=t.size:=strCells_length t;have:=run_copy_cells (P:=P) w dT sT ty elem g o dLen dCap ⟨g6,0,none⟩ sLen sLen (strCells s) hu hz (by rw [strCells_length,hs]; exact (Nat.min_eq_left hd).symm) (fun j v hj=>hown.cells (g:=g6) rfl j v hj) (fun j hj=>by rw [strCells_length] at hj; have:=(h.th (o+j) (by omega)).1; rwa [Nat.zero_add] at this) (fun j hj=>by rw [strCells_length] at hj; have:=(h.th (o+j) (by omega)).2; rwa [Nat.zero_add] at this) (strCells_oneCell _);rw [strCells_length] at this;exact this
theorem cells_one {x:Int} (h:0≤x∧x≤255):strCells (oneV x)=[.int .u8 x]:=by
 unfold strCells oneV;simp;omega
theorem lay_first {W:World} {b:Nat} {t:ByteArray} {x:Int} (h:HoldsL W b (strCells t)) (hx:0≤x∧x≤255) (ht:1≤t.size):HoldsL (W.setCell ⟨b,0,none⟩ (.int .u8 x)) b (strCells (putV t 0 (oneV x))):=by
 have e:strCells (putV t 0 (oneV x))=(strCells t).set 0 (.int .u8 x):=by
  have hs:=put_split t 0 1 (by omega);have h0:(strCells (t.extract 0 0))=[]:=by
   apply List.eq_nil_of_length_eq_zero;rw [strCells_length,ByteArray.size_extract]; omega
  have h1:(strCells (t.extract 0 (0+1))).length=1:=by rw [strCells_length,ByteArray.size_extract]; omega
  obtain ⟨y,hy⟩:=List.length_eq_one_iff.1 h1;have ht2:strCells t=y::strCells (t.extract (0+1) t.size):=by
   conv=>lhs; rw [← hs]
   rw [strCells_append,strCells_append,h0,hy]; rfl
  unfold putV;rw [strCells_append,strCells_append,h0,cells_one hx,ht2];rfl
 rw [e];exact h.set 0 _
theorem ask_byte (p:Int):0≤askP p∧askP p≤255:=by unfold askP; split<;>omega
theorem ans_byte (p:Int):0≤ansP p∧ansP p≤255:=by unfold ansP; split<;>omega
def LayRet (base:Nat) (n:Nat) (u:ByteArray) (e:Ending) (w':World):Prop:=∃ b cap,e=.returned (.slice (some ⟨b,0,none⟩) n cap)∧n≤cap∧base≤b∧HoldsL w' b (strCells u)
theorem ipLay_any (p:Int) (g:Fl) (t:ByteArray) (w:World) (h8:8≤t.size) (ht:t.size≤20000) (gw:(0≤g.sp∧g.sp≤65535)∧(0≤g.dp∧g.dp≤65535)) (hp:echoP g.proto=true→echoP p=true) :
  Calls Tryz.prog 158 #[iV p,fwC g,.string t] w fun e w'=>LayRet w.heap.size t.size (layV p g t) e w'∧Below w.heap.size w w':=by
 have HE:Hid (∀ W,Cw 101 #[iV g.proto] W (.bool (echoP g.proto))):=fun W=>implEcho_any _ W
 have HV:Hid (layV p g t=if echoP g.proto=true then putV (putV t 4 (twoV g.sp)) 0 (oneV (if bt t 0=askP p then askP g.proto else ansP g.proto)) else putV t 0 (twoV g.sp++twoV g.dp)):=rfl;have HE1:Hid (echoP p=true→∀ W,Cw 133 #[iV p] W (.tuple #[.int .u8 (askP p),.int .u8 (ansP p)])):=fun h W=>ipEchoBytes_any p W h
 have HE2:Hid (echoP g.proto=true→∀ W,Cw 133 #[iV g.proto] W (.tuple #[.int .u8 (askP g.proto),.int .u8 (ansP g.proto)])):=fun h W=>ipEchoBytes_any _ W h
 have ra:=ask_byte g.proto;have rn:=ans_byte g.proto;have z2:=twoV_size g.sp;have z4:(twoV g.sp++twoV g.dp).size=4:=by rw [ByteArray.size_append]; rfl
 have HL2:Hid ((layL [g.sp,g.dp]).map (Value.int .u8)=strCells (twoV g.sp++twoV g.dp)):=by unfold Hid; rw [strCells_append,strCells_two _ gw.1.1 gw.1.2,strCells_two _ gw.2.1 gw.2.2]; rfl
 have HL1:Hid ((layL [g.sp]).map (Value.int .u8)=strCells (twoV g.sp)):=by unfold Hid; rw [strCells_two _ gw.1.1 gw.1.2]; rfl
 have hinfo:(Tryz.prog.info? 5).map (·.size)=some 1:=by
  obtain ⟨i0,hi,hz0,hz1,hz2⟩:=info_parts Tryz.info5;rw [hi]; simp [hz1]
 generalize layV p g t=ans at *;obtain ⟨proto,src,dst,sp,dp⟩:=g;unfold fwC;dsimp only at *;have HS0:=bx1 w (FlR proto src dst sp dp) 91 (by simp)
 skip;obtain ⟨cp,W1,hcv,hh,hb1,hcap⟩:=bytes_new (w.alloc (.cells (FlR proto src dst sp dp).toArray 91)) t;rw [show (w.alloc (.cells (FlR proto src dst sp dp).toArray 91)).heap.size=w.heap.size+1 by simp] at hcv hh;have HT1:Hid (HoldsL W1 (w.heap.size+1) (strCells t)):=hold_of_bytes hh;have HS1:Hid _:=HS0.out.kept hb1;clear hh hb1 HS0;go_enter Tryz.func158,Tryz.ntmps158
 go_upto_region 2 with fail
 clear hcv;have HHk:=HS1.out.at mE0;obtain ⟨k0,k1,k2,k3,k4⟩:=HHk.c5;clear HHk;have hlw:w.heap.size+1 < W1.heap.size:=HT1.out.lt (by rw [strCells_length]; omega);go_wp2_with fail
 refine (HE.out _).mono ?_;rintro e W1 ⟨rfl,rfl⟩
 cases hec:echoP proto with
 | false =>
  have HX:Hid (ans=putV t 0 (twoV sp++twoV dp)):=by unfold Hid; rw [HV.out,hec]; rfl
  clear HV HE1 HE2 HL1;have HL:Hid (Calls Tryz.prog 160 #[.slice (some ⟨W1.heap.size,0,none⟩) 2 2] (W1.alloc (.cells #[iV sp,iV dp] 2)) fun e w'=>e=.returned (.slice (some ⟨W1.heap.size+1,0,none⟩) 4 4)∧w'.ownsRow (W1.heap.size+1) 5 1 (.slice (some ⟨W1.heap.size+1,0,none⟩) 4 4) 4 (strCells (twoV sp++twoV dp))∧Below W1.heap.size W1 w'):=by
   refine (layWords_any [sp,dp] W1.heap.size 2 2 (W1.alloc (.cells #[iV sp,iV dp] 2)) (by omega) (by simp) rfl (getD_word _ (by simp only [List.forall_mem_cons,List.not_mem_nil,false_imp_iff,implies_true,and_true]; omega)) (by intro k hk; match k,hk with
   | 0,_=>simp
   | 1,_=>simp)).mono ?_
   rintro e w' ⟨rfl,hown,hB⟩;rw [show (W1.alloc (.cells #[iV sp,iV dp] 2)).heap.size=W1.heap.size+1 by simp] at hown hB ⊢;rw [HL2.out] at hown;exact ⟨rfl,hown,((Below.refl _ _).alloc (Nat.le_refl _) _).trans (hB.mono (by omega))⟩
  clear HL2;go_wp2_with fail
  refine HL.out.mono ?_;rintro e w3 ⟨rfl,hown,q3⟩;have hT3:HoldsL w3 (w.heap.size+1) (strCells t):=HT1.out.kept (by rw [strCells_length]; omega) q3;have hrun:=run_lay_more (P:=Tryz.prog) (dCap:=cp) 137 137 3 5 Tryz.underlying137 hinfo hT3 (o:=0) (by omega) (dLen:=t.size) (by omega) z4.symm hown;rw [z4] at hrun;have HF:Hid (HoldsL (w3.setCells (w.heap.size+1) 0 (strCells (twoV sp++twoV dp))) (w.heap.size+1) (strCells ans)):=by unfold Hid; rw [HX.out]; exact lay_put hT3 (by omega)
  have HB:Hid (Below w.heap.size w (w3.setCells (w.heap.size+1) 0 (strCells (twoV sp++twoV dp)))):=below_setCells ((HS1.out.kept q3).b) (by omega) _ _;clear hT3 hown q3 HT1 HS1 HL HX k0 k1 k2 k3 k4;go_wp2_with fail
  go_ret;exact ⟨⟨_,_,rfl,hcap,by omega,HF.out⟩,HB.out⟩
 | true =>
  have hep:=hp hec;have HX:Hid (ans=putV (putV t 4 (twoV sp)) 0 (oneV (if bt t 0=askP p then askP proto else ansP proto))):=by unfold Hid; rw [HV.out,hec]; rfl
  replace HE1:Hid _:=HE1.out hep;replace HE2:Hid _:=HE2.out hec;clear HV HL2 hep hec hp HE;go_upto_region 5 with fail
  clear k0 k1 k2 k3 k4;have n4:¬ (t.size:Int) < 4:=by omega
  have c4:¬ (cp:Int) < 4:=by omega
  have n5:(4:Int)≤t.size:=by omega
  have c44:¬ cp=4:=by omega
  go_cut [33] (fun v wx=>HoldsL wx (w.heap.size+1) (strCells (putV t 4 (twoV sp)))∧Bxs w [(w.heap.size,(FlR proto src dst sp dp))] wx)
  case first =>
   rename_i J K2 hJ hK2;have HCP:Hid (∀ wy,Below W1.drew.heap.size W1.drew wy→_):=fun wy hy=>HS1.out.kept ((Below.refl _ _).drew.trans hy)
   have HGP:Hid (∀ wy,Below W1.drew.heap.size W1.drew wy→HoldsL wy (w.heap.size+1) (strCells t)):=fun wy hy=>HT1.out.kept (by rw [strCells_length]; omega) ((Below.refl _ _).drew.trans hy)
   have hlw2:w.heap.size≤W1.drew.heap.size:=by show w.heap.size≤W1.heap.size; omega
   clear HT1 HS1 HX HE1 HE2;refine wp_region_growV [27,28,29,30,31,32] (by kernel_rfl) (by kernel_rfl) ?_;apply GChV.v0
   ·rfl
   ·intro K' a wy ho hd hb hK kz;have o7:=ho 7 (by decide);simp [slot] at o7;clear hd ho;go_simp;try go_bits
    exact kz _ rfl
   apply GChV.v1
   ·rfl
   ·intro K' a wy ho hd hb hK kz;have q0:=hd ⟨0,.data⟩ (by simp) rfl;simp [rAt,IsV,slot] at q0;clear hd ho;go_simp;try go_bits
    exact kz _ rfl
   apply GChV.v2
   ·rfl
   ·intro K' a wy ho hd hb hK kz;have o4:=ho 4 (by decide);simp [slot] at o4;clear hd ho;go_simp;try go_bits
    exact kz _ rfl
   apply GChV.v3
   ·rfl
   ·intro K' a wy ho hd hb hK kz;have q2:=hd ⟨2,.data⟩ (by simp) rfl;simp [rAt,IsV,slot] at q2;clear hd ho;have hst:=HCP.out wy hb;have HHk:=hst.at mE0;have k3:=HHk.cell (j:=3) rfl;clear HHk;clear hst;go_simp;try go_bits
    exact kz _ rfl
   refine GChV.rel (n:=4) (IsWords [sp]) (stable_isWords _) [_,_,_,_,IsWords [sp]] rfl rfl ?_ ?_
   ·intro K' a wy ho hd hb hK;rw [wN rfl];have q3:=hd ⟨3,.data⟩ (by simp) rfl;simp [rAt,IsV,slot] at q3;clear hd ho;go_simp;exact hK _ _ ⟨wy.heap.size,rfl,by simp,fun k hk=>by
     simp only [List.length_cons,List.length_nil] at hk;match k,hk with
     | 0,_=>simp⟩ ((Below.refl _ _).alloc (Nat.le_refl _) _)
   refine GChV.rel (n:=5) (IsOwn w.heap.size 5 2 (strCells (twoV sp))) (stable_isOwn _ _ _ _) [_,_,_,_,_,IsOwn w.heap.size 5 2 (strCells (twoV sp))] rfl rfl ?_ ?_
   ·intro K' a wy ho hd hb hK;rw [wN rfl];have hr:IsWords [sp] (slot a 31) wy:=hd ⟨4,.data⟩ (by simp) rfl;obtain ⟨b4,e1,e2,e3⟩:=hr;simp [slot] at e1;clear hd ho;go_simp;refine (layWords_any [sp] b4 1 1 wy (by decide) e2 rfl (getD_word _ (by simp only [List.forall_mem_cons,List.not_mem_nil,false_imp_iff,implies_true,and_true]; omega)) e3).mono ?_;rintro e wz ⟨rfl,hown,hz⟩;exact hK _ _ ⟨_,rfl,owns_base (by rw [← HL1.out]; exact hown) (Nat.le_trans hlw2 hb.size)⟩ hz
   intro X wz hR hz;obtain ⟨x0,x1,x2,x3,x4,x5,-⟩:=hR;obtain ⟨b4,e4,-,-⟩:=x4;obtain ⟨g5,e5,own5⟩:=x5;simp only [IsV] at x0 x1 x2 x3;simp only [putsFrom,x0,x1,x2,x3,e4,e5];clear x0 x1 x2 x3;rw [e5] at own5;have hgz:=HGP.out wz hz;have hrun:=run_lay_more (P:=Tryz.prog) (dCap:=cp-4) 137 137 3 5 Tryz.underlying137 hinfo hgz (o:=4) (by omega) (dLen:=t.size-4) (by omega) z2.symm own5;rw [z2] at hrun;have HN2:Hid (HoldsL (wz.setCells (w.heap.size+1) 4 (strCells (twoV sp))) (w.heap.size+1) (strCells (putV t 4 (twoV sp)))):=lay_put hgz (by omega);have HB2:Hid (Bxs w [(w.heap.size,(FlR proto src dst sp dp))] (wz.setCells (w.heap.size+1) 4 (strCells (twoV sp)))):=(HCP.out wz hz).cells (fun e he=>by
    rw [List.mem_singleton] at he;rw [he]; show w.heap.size≠w.heap.size+1; omega) (by omega)
   clear hgz own5 hz HCP HGP;intro K10 hK10;go_simp;refine hK10 _ _ ?_;show Exit.then _ _ _ _ _;refine hK2 _ _ (hJ _ _ ?_);(repeat apply Exists.intro)
   exact ⟨⟨HN2.out,HB2.out⟩,rfl⟩
  case rest =>
  obtain ⟨hG,hS⟩:=hcut;have G2:Hid _:=hG;have S2:Hid (Bxs w [(w.heap.size,(FlR proto src dst sp dp))] wc):=hS;clear hG hS HT1 HS1 HL1;generalize wc=W2 at *;have hz2:=putV_size (t:=t) (u:=twoV sp) (k:=4) (by omega);have c0:=hold_bt G2.out 0 (by omega);have f0:W2.frozen? ⟨w.heap.size+1,0,none⟩=false:=G2.out.free (by rw [strCells_length]; omega);have e0:bt (putV t 4 (twoV sp)) 0=bt t 0:=by rw [bt_put (by omega),if_pos (by omega)]
  rw [e0] at c0;clear e0;have HHk:=S2.out.at mE0;obtain ⟨k0,k1,k2,k3,k4⟩:=HHk.c5;clear HHk;go_wp2_with fail
  refine (HE1.out _).mono ?_;rintro e W2 ⟨rfl,rfl⟩;go_wp2_with fail
  refine (HE2.out _).mono ?_;rintro e W2 ⟨rfl,rfl⟩;by_cases ha:bt t 0=askP p
  case pos =>
   have d0:(bt t 0==askP p)=true:=by simp [ha]
   have HF:Hid (HoldsL (W2.setCell ⟨w.heap.size+1,0,none⟩ (.int .u8 (askP proto))) (w.heap.size+1) (strCells ans)):=by unfold Hid; rw [HX.out,if_pos ha]; exact lay_first G2.out ra (by omega)
   have HB:Hid (Below w.heap.size w (W2.setCell ⟨w.heap.size+1,0,none⟩ (.int .u8 (askP proto)))):=S2.out.b.setCell (p:=⟨w.heap.size+1,0,none⟩) (by show w.heap.size≤w.heap.size+1; omega) _;clear ha HX G2 S2 HE1 HE2;generalize bt t 0=b0 at *;generalize askP p=ap at *;generalize askP proto=ag at *;generalize ansP proto=ng at *;generalize ansP p=np at *;go_wp2_with fail
   go_ret;exact ⟨⟨_,_,rfl,hcap,by omega,HF.out⟩,HB.out⟩
  case neg =>
   have d0:(bt t 0==askP p)=false:=by simp [ha]
   have HF:Hid (HoldsL (W2.setCell ⟨w.heap.size+1,0,none⟩ (.int .u8 (ansP proto))) (w.heap.size+1) (strCells ans)):=by unfold Hid; rw [HX.out,if_neg ha]; exact lay_first G2.out rn (by omega)
   have HB:Hid (Below w.heap.size w (W2.setCell ⟨w.heap.size+1,0,none⟩ (.int .u8 (ansP proto)))):=S2.out.b.setCell (p:=⟨w.heap.size+1,0,none⟩) (by show w.heap.size≤w.heap.size+1; omega) _;clear ha HX G2 S2 HE1 HE2;generalize bt t 0=b0 at *;generalize askP p=ap at *;generalize askP proto=ag at *;generalize ansP proto=ng at *;generalize ansP p=np at *;go_wp2_with fail
   go_ret;exact ⟨⟨_,_,rfl,hcap,by omega,HF.out⟩,HB.out⟩
end Go.Proofs.YtcckaeppiamebaaGreatDoor
