import Derived.Test.YtdkepkaflielhaaGreatDoorMerged23
set_option linter.unusedVariables false
set_option linter.unusedSimpArgs false
set_option maxRecDepth 100000
set_option maxHeartbeats 8000000
namespace Go.Proofs.YtdkepkaflielhaaGreatDoor
open Go.RowKit Go.PlainAid
theorem CX(pa:OA)(pc:Nat)(p:Pl)(ba bo:OA)(ca cb:Nat)(x:Bb)(w:World)(hpl:p.VA.length≤1048576)(hpc:p.VA.length≤pc)(hps:∀s∈p.VA,s.size≤1048576)(hbl1:x.VC.length≤1048576)(hbl2:x.UZ.length≤1048576)(hgb:∀q∈x.VC,fJ q)(hgs:∀s∈x.UZ,iM s)(hp:bP bX 1 w pa p.VA)(hx:dI w ba bo x) :
  Cb 85 #[jQ pa pc p,iQ ba bo ca cb x] w (.bool (fS p x)):=by
 have HZ0:Hid (Below w.heap.size w ((aW w (bM pa pc p) 27).alloc (.cells (bF ba ca bo cb x).toArray 31))):=(bR.alloc lR _).alloc (by simp) _;have HP:aA ((aW w (bM pa pc p) 27).alloc (.cells (bF ba ca bo cb x).toArray 31)) w.heap.size (bM pa pc p):=(aA.new w (bM pa pc p) 27).alloc _;have HB:aA ((aW w (bM pa pc p) 27).alloc (.cells (bF ba ca bo cb x).toArray 31)) (w.heap.size+1) (bF ba ca bo cb x):=by
  have h:=aA.new (w.alloc (.cells (bM pa pc p).toArray 27)) (bF ba ca bo cb x) 31;rw[TQ]at h;exact h
 have HOP:Hid (∀W,Below w.heap.size w W→Calls Tryz.prog 104 #[.agg (bM pa pc p).toArray,.agg (bF ba ca bo cb x).toArray] W (kK W pa pc p ba bo ca cb x)):=fun W hW=>DK pa pc p ba bo ca cb x W hpl hpc hps hbl1 hbl2 hgb hgs (hp.below hW) (hx.below hW)
 have HV:Hid (cS p x=fS p x):=mN p x;clear hp hx hgb hgs hps;unfold jQ iQ;go_enter Tryz.func85,Tryz.ntmps85
 go_upto_region 1 with fail
 generalize World.alloc _ _=W0 at *;obtain⟨k0,k1,k2,k3,k4,k5,k6,k7,k8,k9⟩:=HP.c10;obtain⟨c0,c1⟩:=HB.c2;clear HP HB;go_wp2_with fail
 refine(HOP.out _ HZ0.out).mono ?_;rintro e w1 ⟨q1,h⟩;have B1:Hid _:=HZ0.out.trans (q1.mono HZ0.out.size);clear q1 HZ0 HOP k0 k1 k2 k3 k4 k5 k6 k7 k8 k9 c0 c1;rcases h with ⟨hx,rfl⟩|⟨hx,m1,m2,rfl,hm1,hm2,hbk⟩
 ·have HX:Hid (fS p x=false):=by unfold Hid;rw[←HV.out];exact hx
  unfold SM;clear hx;go_wp2_with fail
  go_ret;exact⟨aB HX.out.symm,B1.out.alloc B1.out.size _⟩
 ·have HX:Hid (fS p x=true):=by unfold Hid;rw[←HV.out];exact hx
  unfold CF;clear hx hbk;go_wp2_with fail
  go_ret;exact⟨aB HX.out.symm,B1.out.alloc B1.out.size _⟩
theorem sI(n:Int)(w:World) :
  Cw 87 #[iV n] w (.bool (bS n)):=by
 by_cases h1:0≤n
 ·by_cases h2:n≤1000000000
  ·have HV:Hid (bS n=true):=by unfold Hid bS aM;simp[h1,h2]
   go_enter Tryz.func87,Tryz.ntmps87
   go_wp2_with fail
   go_ret;exact⟨aB (by rw[HV.out]),rfl⟩
  ·have HV:Hid (bS n=false):=by unfold Hid bS aM;simp[h2]
   go_enter Tryz.func87,Tryz.ntmps87
   go_wp2_with fail
   go_ret;exact⟨aB (by rw[HV.out]),rfl⟩
 ·have HV:Hid (bS n=false):=by unfold Hid bS aM;simp[h1]
  have h1':n < 0:=by omega
  go_enter Tryz.func87,Tryz.ntmps87
  go_wp2_with fail
  go_ret;exact⟨aB (by rw[HV.out]),rfl⟩
theorem uX(p:P4)(w:World)(h1:p.src.size≤1048576)(h2:p.dst.size≤1048576)(h3:p.opts.size≤1048576)(h4:p.data.size≤1048576) :
  Cb 86 #[mD p] w (.bool (iX p)):=by
 have HB1:Hid (∀W,Cw 121 #[iV p.tos] W (.bool (aM p.tos 0 255))):=fun W=>jK p.tos W
 have HB2:Hid (∀W,Cw 121 #[iV p.ttl] W (.bool (aM p.ttl 0 255))):=fun W=>jK p.ttl W
 have HB3:Hid (∀W,Cw 121 #[iV p.UU] W (.bool (aM p.UU 0 255))):=fun W=>jK p.UU W
 have HB4:Hid (∀W,Cw 122 #[iV p.id] W (.bool (aM p.id 0 65535))):=fun W=>dO p.id W
 have HB5:Hid (∀W,Cw 123 #[iV p.off,.bool p.more,.string p.data,iV 65515] W (.bool (PI p.off p.more p.data 65515))):=fun W=>xP p.off p.more p.data 65515 W h4
 have HV:Hid (iX p=_):=KU p;generalize iX p=ok at *;obtain⟨tos,id,whole,more,off,ttl,UU,src,dst,opts,data⟩:=p;unfold mD;dsimp only at *;have HZ:Hid (Below w.heap.size w (w.alloc (.cells (fM tos id whole more off ttl UU src dst opts data).toArray 33))):=bR.alloc lR _;generalize aM tos 0 255=b1 at *;generalize aM ttl 0 255=b2 at *;generalize aM UU 0 255=b3 at *;generalize aM id 0 65535=b4 at *;generalize PI off more data 65515=b5 at *;go_enter Tryz.func86,Tryz.ntmps86
 go_wp2_with fail
 refine(HB1.out _).mono ?_;rintro e w2 ⟨rfl,rfl⟩
 cases b1 with
 | false=>
  have hun:undef=Value.tuple #[]:=rfl;go_wp2_with fail
  go_ret;exact⟨aB (by rw[HV.out];simp),HZ.out⟩
 | true=>
  go_wp2_with fail
  refine(HB2.out _).mono ?_;rintro e w2 ⟨rfl,rfl⟩
  cases b2 with
  | false=>
   have hun:undef=Value.tuple #[]:=rfl;go_wp2_with fail
   go_ret;exact⟨aB (by rw[HV.out];simp),HZ.out⟩
  | true=>
   go_wp2_with fail
   refine(HB3.out _).mono ?_;rintro e w2 ⟨rfl,rfl⟩
   cases b3 with
   | false=>
    have hun:undef=Value.tuple #[]:=rfl;go_wp2_with fail
    go_ret;exact⟨aB (by rw[HV.out];simp),HZ.out⟩
   | true=>
    go_wp2_with fail
    refine(HB4.out _).mono ?_;rintro e w2 ⟨rfl,rfl⟩
    cases b4 with
    | false=>
     have hun:undef=Value.tuple #[]:=rfl;go_wp2_with fail
     go_ret;exact⟨aB (by rw[HV.out];simp),HZ.out⟩
    | true=>
     by_cases s1:src.size=4
     ·have ds1:((src.size:Int)==4)=true:=by simp<;>omega
      have vs1:decide (src.size=4)=true:=TT s1;rw[vs1]at HV;by_cases s2:dst.size=4
      ·have ds2:((dst.size:Int)==4)=true:=by simp<;>omega
       have vs2:decide (dst.size=4)=true:=TT s2;rw[vs2]at HV;by_cases s3:opts.size≤40
       ·have ds3:decide ((opts.size:Int)≤40)=true:=by simp<;>omega
        have vs3:decide (opts.size≤40)=true:=TT s3;rw[vs3]at HV;by_cases s4:opts.size % 4=0
        ·have ds4:(((opts.size:Int) % 4)==0)=true:=by simp<;>omega
         have vs4:decide (opts.size % 4=0)=true:=TT s4;rw[vs4]at HV;go_wp2_with fail
         refine(HB5.out _).mono ?_;rintro e w2 ⟨rfl,rfl⟩
         cases b5 with
         | false=>
          have hun:undef=Value.tuple #[]:=rfl;go_wp2_with fail
          go_ret;exact⟨aB (by rw[HV.out];simp),HZ.out⟩
         | true=>
          cases whole with
          | false=>
           have hun:undef=Value.tuple #[]:=rfl;go_wp2_with fail
           go_ret;exact⟨aB (by rw[HV.out];simp),HZ.out⟩
          | true=>
           cases more with
           | true=>
            have hun:undef=Value.tuple #[]:=rfl;go_wp2_with fail
            go_ret;exact⟨aB (by rw[HV.out];simp),HZ.out⟩
           | false=>
            by_cases t1:off=0
            ·rw[TT t1]at HV;have dt1:(off != 0)=false:=by simp[t1]
             clear t1;have hun:undef=Value.tuple #[]:=rfl;go_wp2_with fail
             go_ret;exact⟨aB (by rw[HV.out];simp),HZ.out⟩
            ·rw[TR t1]at HV;have dt1:(off != 0)=true:=by simp[t1]
             have hun:undef=Value.tuple #[]:=rfl;go_wp2_with fail
             go_ret;exact⟨aB (by rw[HV.out];simp),HZ.out⟩
        ·have ds4:(((opts.size:Int) % 4)==0)=false:=by simp<;>omega
         have vs4:decide (opts.size % 4=0)=false:=TR s4;rw[vs4]at HV;have hun:undef=Value.tuple #[]:=rfl;go_wp2_with fail
         go_ret;exact⟨aB (by rw[HV.out];simp),HZ.out⟩
       ·have ds3:decide ((opts.size:Int)≤40)=false:=by simp<;>omega
        have vs3:decide (opts.size≤40)=false:=TR s3;rw[vs3]at HV;have hun:undef=Value.tuple #[]:=rfl;go_wp2_with fail
        go_ret;exact⟨aB (by rw[HV.out];simp),HZ.out⟩
      ·have ds2:((dst.size:Int)==4)=false:=by simp<;>omega
       have vs2:decide (dst.size=4)=false:=TR s2;rw[vs2]at HV;have hun:undef=Value.tuple #[]:=rfl;go_wp2_with fail
       go_ret;exact⟨aB (by rw[HV.out];simp),HZ.out⟩
     ·have ds1:((src.size:Int)==4)=false:=by simp<;>omega
      have vs1:decide (src.size=4)=false:=TR s1;rw[vs1]at HV;have hun:undef=Value.tuple #[]:=rfl;go_wp2_with fail
      go_ret;exact⟨aB (by rw[HV.out];simp),HZ.out⟩
theorem yF(pa:OA)(pc:Nat)(p:Pl)(ba bo:OA)(ca cb:Nat)(x:Bb)(q:P4)(now:Int)(w:World)(hlp:p.VA.length≤1048576)(hpc:p.VA.length≤pc)(hsz:∀s∈p.VA,s.size≤1048576)(hl1:x.VC.length≤1048576)(hl2:x.UZ.length≤1048576)(hgb:∀q∈x.VC,fJ q)(hgs:∀s∈x.UZ,iM s)(q1:q.src.size≤1048576)(q2:q.dst.size≤1048576)(q3:q.opts.size≤1048576)(q4:q.data.size≤1048576)(hp:bP bX 1 w pa p.VA)(hx:dI w ba bo x) :
  Cb 52 #[jQ pa pc p,iQ ba bo ca cb x,mD q,iV now] w (iV (dP p x q now)):=by
 have HBR:Hid (∀W,Below w.heap.size w W→Cb 85 #[jQ pa pc p,iQ ba bo ca cb x] W (.bool (fS p x))):=fun W hW=>CX pa pc p ba bo ca cb x W hlp hpc hsz hl1 hl2 hgb hgs (hp.below hW) (hx.below hW)
 have HV4:Hid (∀W,Cb 86 #[mD q] W (.bool (iX q))):=fun W=>uX q W q1 q2 q3 q4
 have HTM:Hid (∀W,Cw 87 #[iV now] W (.bool (bS now))):=fun W=>sI now W
 have HV:Hid (dP p x q now=if (fS p x&&iX q&&bS now)=false then 1 else if (q.more||decide (q.off≠0))=true then 10 else 0):=rfl;generalize dP p x q now=ans at *;generalize fS p x=b1 at *;generalize iX q=b2 at *;generalize bS now=b3 at *;obtain⟨tos,id,whole,more,off,ttl,UU,src,dst,opts,data⟩:=q;clear hp hx hsz hgb hgs;unfold jQ iQ mD at *;dsimp only at *;have hun:undef=Value.tuple #[]:=rfl;have HS0:=RD w (bM pa pc p) 27 (bF ba ca bo cb x) 31 (fM tos id whole more off ttl UU src dst opts data) 33 (by simp) (by simp) (by simp)
 skip;go_enter Tryz.func52,Tryz.ntmps52
 go_upto_region 1 with fail
 generalize World.alloc _ _=W0 at *;have HHk:=HS0.out.at cO;obtain⟨k0,k1,k2,k3,k4,k5,k6,k7,k8,k9⟩:=HHk.c10;clear HHk;have HHl:=HS0.out.at eB;obtain⟨l0,l1⟩:=HHl.c2;clear HHl;go_wp2_with fail
 refine(HBR.out _ HS0.out.b).mono ?_;rintro e W1 ⟨rfl,r1⟩;have S1:Hid _:=HS0.out.kept r1;clear r1 HS0 k0 k1 k2 k3 k4 k5 k6 k7 k8 k9 l0 l1
 cases b1 with
 | false=>
  have HFB:Hid _:=S1.out.b;go_wp2_with fail
  go_ret;exact⟨aK (by rw[HV.out];rfl),HFB.out⟩
 | true=>
 have HHk:=S1.out.at eX;obtain⟨k0,k1,k2,k3,k4,k5,k6,k7,k8,k9,k10⟩:=HHk.c11;clear HHk;go_wp2_with fail
 refine(HV4.out _).mono ?_;rintro e W2 ⟨rfl,r2⟩;have S2:Hid _:=S1.out.kept r2;clear r2 S1 k0 k1 k2 k3 k4 k5 k6 k7 k8 k9 k10
 cases b2 with
 | false=>
  have HFB:Hid _:=S2.out.b;go_wp2_with fail
  go_ret;exact⟨aK (by rw[HV.out];rfl),HFB.out⟩
 | true=>
 go_wp2_with fail
 refine(HTM.out _).mono ?_;rintro e W2 ⟨rfl,rfl⟩
 cases b3 with
 | false=>
  have HFB:Hid _:=S2.out.b;go_wp2_with fail
  go_ret;exact⟨aK (by rw[HV.out];rfl),HFB.out⟩
 | true=>
 have HHk:=S2.out.at eX;obtain⟨k0,k1,k2,k3,k4,k5,k6,k7,k8,k9,k10⟩:=HHk.c11;clear HHk
 cases more with
 | true=>
  have HFB:Hid _:=S2.out.b;go_wp2_with fail
  go_ret;exact⟨aK (by rw[HV.out];rfl),HFB.out⟩
 | false=>
 by_cases ho:off=0
 case pos=>
  have d0:(off != 0)=false:=by simp[ho]
  have HFB:Hid _:=S2.out.b;go_wp2_with fail
  go_ret;exact⟨aK (by rw[HV.out];simp[ho]),HFB.out⟩
 have d0:(off != 0)=true:=by simp[ho]
 have HFB:Hid _:=S2.out.b;go_wp2_with fail
 go_ret;exact⟨aK (by rw[HV.out];simp[ho]),HFB.out⟩
theorem uB(p:Int)(t:BA)(w:World)(ht:t.size≤20000)(h20:p=6→20≤t.size) :
  Cb 59 #[iV p,.string t] w (iV (fN p t)):=by
 by_cases h:p=6
 ·have h2:=h20 h;subst h;have HT:Hid (∀W,Cb 103 #[.string t] W (iV (fN 6 t))):=fun W=>(tM t W (by omega)).mono fun e w' h=>⟨by rw[h.1];unfold kH fN;rw[if_neg (by omega),if_pos rfl],h.2⟩
  generalize fN 6 t=ans at *;go_enter Tryz.func59,Tryz.ntmps59
  go_wp2_with fail
  refine(HT.out _).mono ?_;rintro e w2 ⟨rfl,r2⟩;have R2:Hid _:=r2;clear r2;go_wp2_with fail
  go_ret;exact⟨rfl,R2.out⟩
 ·have HV:Hid (fN p t=0):=if_neg h;have d0:(p != 6)=true:=by simp[h]
  generalize fN p t=ans at *;go_enter Tryz.func59,Tryz.ntmps59
  go_wp2_with fail
  go_ret;exact⟨aK (by rw[HV.out]),Below.refl _ _⟩
theorem vU(p n:Int)(w:World) :
  Cb 204 #[iV p,iV n] w (iV (eM p n)):=by
 have HE:Hid (∀W,Cw 100 #[iV p] W (.bool (aJ p))):=fun W=>fQ p W
 have HV:Hid (eM p n=if aJ p=true then 0 else n):=rfl;generalize eM p n=ans at *;generalize aJ p=b at *;go_enter Tryz.func204,Tryz.ntmps204
 go_wp2_with fail
 refine(HE.out _).mono ?_;rintro e w2 ⟨rfl,rfl⟩
 cases b with
 | false=>
  go_wp2_with fail
  go_ret;exact⟨aK (by rw[HV.out];rfl),Below.refl _ _⟩
 | true=>
  go_wp2_with fail
  go_ret;exact⟨aK (by rw[HV.out];rfl),Below.refl _ _⟩
theorem AE(f:Fl)(w:World) :
  Cb 202 #[.agg #[],gQ f] w (qF ⟨f.UU,true,f.src,f.sp,f.dst,eM f.UU f.dp,0⟩):=by
 have HP:Hid (∀W,Cb 204 #[iV f.UU,iV f.dp] W (iV (eM f.UU f.dp))):=fun W=>vU _ _ W
 generalize eM f.UU f.dp=pv at *;obtain⟨UU,src,dst,sp,dp⟩:=f;unfold gQ qF;dsimp only at *;have HS0:Hid (dX w [(w.heap.size+1+1,(eO 0 false ⟨#[]⟩ 0 ⟨#[]⟩ 0 0)),(w.heap.size+1,(dA UU src dst sp dp))] ((aW (aW w [] 65) (dA UU src dst sp dp) 43).alloc (.cells (eO 0 false ⟨#[]⟩ 0 ⟨#[]⟩ 0 0).toArray 89))):=by
  have h:=((⟨fun e he=>(by cases he),bR.alloc lR _,fun e he=>(by cases he)⟩: dX w [] (w.alloc (.cells #[] 65))).push (dA UU src dst sp dp) (by simp) 43).push (eO 0 false ⟨#[]⟩ 0 ⟨#[]⟩ 0 0) (by simp) 89;simp only[TQ]at h;exact h
 have hRw:w.heap.size≤w.heap.size+1+1:=by omega
 go_enter Tryz.func202,Tryz.ntmps202
 go_upto_region 1 with fail
 generalize World.alloc _ _=W0 at *;have HCP:Hid (∀wy,Below W0.drew.heap.size W0.drew wy→_):=fun wy hy=>HS0.out.kept (bR.drew.trans hy)
 clear HS0;refine aN [5,6,7,8,9,10,11,12,13,14,15,16,17,18] (by kernel_rfl) (by kernel_rfl) ?_;iterate 14 (apply bC.u rfl;(·intro K' a wy ho hd hb hK;simp[aS,aF,aD,Region.binds]at ho hd;have hst:=HCP.out wy hb;have kC:=(hst.at eB).c5;clear hst;go_simp;first|((try go_bits);exact hK _ _ rfl bQ)|(refine(HP.out wy).mono ?_;rintro e wz ⟨rfl,hz⟩;exact hK _ _ rfl hz));dsimp only[nA,cA])
 intro X wz hR hz;simp only[UB,UC,eW,aF]at hR;simp only[aE,hR];clear hR;have V7:Hid (dX w [(w.heap.size+1+1,(eO 0 false ⟨#[]⟩ 0 ⟨#[]⟩ 0 0)),(w.heap.size+1,(dA UU src dst sp dp))] wz):=HCP.out wz hz;clear hz HCP HP;have HHz:=V7.out.at cO;obtain⟨z0,z1,z2,z3,z4,z5,z6⟩:=HHz.c7;obtain⟨zf0,zf1,zf2,zf3,zf4,zf5,zf6⟩:=HHz.f7;obtain⟨HRR,RB⟩:=TD HHz V7.out.b hRw (iV UU) (.bool true) (.string src) (iV sp) (.string dst) (iV pv) (iV 0);clear HHz;clear V7;intro K10 hK10;go_simp;refine hK10 _ _ ?_;simp only[fO];go_wp2_with fail
 exact UQ (aG Tryz.results202 _ _ _ _ _ rfl HRR.out Tryz.underlying89 rfl (show (Tryz.prog.info? 89).map (·.size)=some 7 by kernel_rfl)) rfl (And.intro rfl RB.out)
theorem AD(f:Fl)(ra:OA)(la ca:Nat)(w:World) :
  Cb 205 #[.agg #[.slice ra la ca],gQ f] w (qF ⟨f.UU,false,f.dst,f.dp,f.src,eM f.UU f.sp,0⟩):=by
 have HP:Hid (∀W,Cb 204 #[iV f.UU,iV f.sp] W (iV (eM f.UU f.sp))):=fun W=>vU _ _ W
 generalize eM f.UU f.sp=pv at *;obtain⟨UU,src,dst,sp,dp⟩:=f;unfold gQ qF;dsimp only at *;have HS0:Hid (dX w [(w.heap.size+1+1,(eO 0 false ⟨#[]⟩ 0 ⟨#[]⟩ 0 0)),(w.heap.size+1,(dA UU src dst sp dp))] ((aW (aW w [.slice ra la ca] 82) (dA UU src dst sp dp) 43).alloc (.cells (eO 0 false ⟨#[]⟩ 0 ⟨#[]⟩ 0 0).toArray 89))):=by
  have h:=((⟨fun e he=>(by cases he),bR.alloc lR _,fun e he=>(by cases he)⟩: dX w [] (w.alloc (.cells #[.slice ra la ca] 82))).push (dA UU src dst sp dp) (by simp) 43).push (eO 0 false ⟨#[]⟩ 0 ⟨#[]⟩ 0 0) (by simp) 89;simp only[TQ]at h;exact h
 have hRw:w.heap.size≤w.heap.size+1+1:=by omega
 go_enter Tryz.func205,Tryz.ntmps205
 go_upto_region 1 with fail
 generalize World.alloc _ _=W0 at *;have HCP:Hid (∀wy,Below W0.drew.heap.size W0.drew wy→_):=fun wy hy=>HS0.out.kept (bR.drew.trans hy)
 clear HS0;refine aN [5,6,7,8,9,10,11,12,13,14,15,16,17,18] (by kernel_rfl) (by kernel_rfl) ?_;iterate 14 (apply bC.u rfl;(·intro K' a wy ho hd hb hK;simp[aS,aF,aD,Region.binds]at ho hd;have hst:=HCP.out wy hb;have kC:=(hst.at eB).c5;clear hst;go_simp;first|((try go_bits);exact hK _ _ rfl bQ)|(refine(HP.out wy).mono ?_;rintro e wz ⟨rfl,hz⟩;exact hK _ _ rfl hz));dsimp only[nA,cA])
 intro X wz hR hz;simp only[UB,UC,eW,aF]at hR;simp only[aE,hR];clear hR;have V7:Hid (dX w [(w.heap.size+1+1,(eO 0 false ⟨#[]⟩ 0 ⟨#[]⟩ 0 0)),(w.heap.size+1,(dA UU src dst sp dp))] wz):=HCP.out wz hz;clear hz HCP HP;have HHz:=V7.out.at cO;obtain⟨z0,z1,z2,z3,z4,z5,z6⟩:=HHz.c7;obtain⟨zf0,zf1,zf2,zf3,zf4,zf5,zf6⟩:=HHz.f7;obtain⟨HRR,RB⟩:=TD HHz V7.out.b hRw (iV UU) (.bool false) (.string dst) (iV dp) (.string src) (iV pv) (iV 0);clear HHz;clear V7;intro K10 hK10;go_simp;refine hK10 _ _ ?_;simp only[fO];go_wp2_with fail
 exact UQ (aG Tryz.results205 _ _ _ _ _ rfl HRR.out Tryz.underlying89 rfl (show (Tryz.prog.info? 89).map (·.size)=some 7 by kernel_rfl)) rfl (And.intro rfl RB.out)
theorem DE(f:Fl)(c:Bd)(w:World) :
  Cb 203 #[.agg #[],gQ f,jI c] w (gQ ⟨f.UU,c.out,f.dst,c.UX,if aJ f.UU=true then c.UX else f.dp⟩):=by
 have HE:Hid (∀W,Cw 100 #[iV f.UU] W (.bool (aJ f.UU))):=fun W=>fQ _ W
 generalize aJ f.UU=b at *;obtain⟨UU,src,dst,sp,dp⟩:=f;obtain⟨cp,ci,cn,co,cm⟩:=c;unfold gQ jI;dsimp only at *;have HS0:Hid (dX w [(w.heap.size+1+1+1,(dA 0 ⟨#[]⟩ ⟨#[]⟩ 0 0)),(w.heap.size+1+1,(iW cp ci cn co cm)),(w.heap.size+1,(dA UU src dst sp dp))] ((aW (aW (aW w [] 65) (dA UU src dst sp dp) 43) (iW cp ci cn co cm) 48).alloc (.cells (dA 0 ⟨#[]⟩ ⟨#[]⟩ 0 0).toArray 43))):=by
  have h:=(((⟨fun e he=>(by cases he),bR.alloc lR _,fun e he=>(by cases he)⟩: dX w [] (w.alloc (.cells #[] 65))).push (dA UU src dst sp dp) (by simp) 43).push (iW cp ci cn co cm) (by simp) 48).push (dA 0 ⟨#[]⟩ ⟨#[]⟩ 0 0) (by simp) 43;simp only[TQ]at h;exact h
 have hRw:w.heap.size≤w.heap.size+1+1+1:=by omega
 have hFw:w.heap.size≤w.heap.size+1:=by omega
 go_enter Tryz.func203,Tryz.ntmps203
 go_upto_region 1 with fail
 generalize World.alloc _ _=W0 at *;have HSET:Hid (∀wx,dX w [(w.heap.size+1+1+1,(dA 0 ⟨#[]⟩ ⟨#[]⟩ 0 0)),(w.heap.size+1+1,(iW cp ci cn co cm)),(w.heap.size+1,(dA UU src dst sp dp))] wx→dX w [(w.heap.size+1+1+1,(dA 0 ⟨#[]⟩ ⟨#[]⟩ 0 0)),(w.heap.size+1+1,(iW cp ci cn co cm)),(w.heap.size+1,(dA UU co dst cm dp))] ((sW wx (w.heap.size+1) 1 (.string co)).setCell ⟨w.heap.size+1,3,none⟩ (iV cm))):=fun wx h=>⟨fun e he=>by
  simp only[TW,TV,or_false]at he;rcases he with rfl|rfl|rfl
  ·exact(aA.setOther (aA.setOther (h.k _ cO) (by show w.heap.size+1+1+1≠w.heap.size+1;omega) _) (by show w.heap.size+1+1+1≠w.heap.size+1;omega) _)
  ·exact(aA.setOther (aA.setOther (h.k _ eB) (by show w.heap.size+1+1≠w.heap.size+1;omega) _) (by show w.heap.size+1+1≠w.heap.size+1;omega) _)
  ·exact(aA.set (aA.set (h.k _ eX) 1 (.string co)) 3 (iV cm)),(sCl (sCl h.b hFw) hFw),fun e he=>by
  simp only[TW,TV,or_false]at he;rcases he with rfl|rfl|rfl<;>simp⟩
 go_cut [12] (fun v wx=>dX w [(w.heap.size+1+1+1,(dA 0 ⟨#[]⟩ ⟨#[]⟩ 0 0)),(w.heap.size+1+1,(iW cp ci cn co cm)),(w.heap.size+1,(dA UU co dst cm dp))] wx)
 case first=>
  rename_i J K2 hJ hK2;have HHk:=HS0.out.at eX;obtain⟨k0,k1,k2,k3,k4⟩:=HHk.c5;obtain⟨kf0,kf1,kf2,kf3,kf4⟩:=HHk.f5;have HHl:=HS0.out.at eB;obtain⟨l0,l1,l2,l3,l4⟩:=HHl.c5;clear HHl;have HD:Hid _:=(HSET.out W0 HS0.out).kept bR.drew;clear HHk HS0 HSET;go_region
  all_goals refine hK2 _ _ (hJ _ _ ?_)
  all_goals (repeat apply Exists.intro)
  all_goals exact⟨HD.out,rfl⟩
 case rest=>
 have S1:Hid (dX w [(w.heap.size+1+1+1,(dA 0 ⟨#[]⟩ ⟨#[]⟩ 0 0)),(w.heap.size+1+1,(iW cp ci cn co cm)),(w.heap.size+1,(dA UU co dst cm dp))] wc):=hcut;clear hcut HS0 HSET;generalize wc=W1 at *;have HHk:=S1.out.at eX;obtain⟨k0,k1,k2,k3,k4⟩:=HHk.c5;clear HHk;go_wp2_with fail
 refine(HE.out _).mono ?_;rintro e W1 ⟨rfl,rfl⟩
 cases b with
 | false=>
  have HHz:=S1.out.at cO;obtain⟨z0,z1,z2,z3,z4⟩:=HHz.c5;obtain⟨zf0,zf1,zf2,zf3,zf4⟩:=HHz.f5;obtain⟨HRR,RB⟩:=PJ HHz S1.out.b hRw (iV UU) (.string co) (.string dst) (iV cm) (iV dp);clear HHz;go_wp2_with fail
  exact UQ (aG Tryz.results203 _ _ _ _ _ rfl HRR.out Tryz.underlying43 rfl (show (Tryz.prog.info? 43).map (·.size)=some 5 by kernel_rfl)) rfl (And.intro rfl RB.out)
 | true=>
  have S2:Hid (dX w [(w.heap.size+1+1+1,(dA 0 ⟨#[]⟩ ⟨#[]⟩ 0 0)),(w.heap.size+1+1,(iW cp ci cn co cm)),(w.heap.size+1,(dA UU co dst cm cm))] (W1.setCell ⟨w.heap.size+1,4,none⟩ (iV cm))):=⟨fun e he=>by
   simp only[TW,TV,or_false]at he;rcases he with rfl|rfl|rfl
   ·exact(aA.setOther (S1.out.k _ cO) (by show w.heap.size+1+1+1≠w.heap.size+1;omega) _)
   ·exact(aA.setOther (S1.out.k _ eB) (by show w.heap.size+1+1≠w.heap.size+1;omega) _)
   ·exact(aA.set (S1.out.k _ eX) 4 (iV cm)),(sCl S1.out.b hFw),fun e he=>by
   simp only[TW,TV,or_false]at he;rcases he with rfl|rfl|rfl<;>simp⟩
  have kf:=(S1.out.k _ eX).free (j:=4) (by simp);have HHl:=S1.out.at eB;obtain⟨l0,l1,l2,l3,l4⟩:=HHl.c5;clear HHl;go_upto_region 4 with fail
  generalize (W1.setCell ⟨w.heap.size+1,4,none⟩ (iV cm))=W2 at *;clear S1 kf k0 k1 k2 k3 k4 l0 l1 l2 l3 l4;have HHk:=S2.out.at eX;obtain⟨k0,k1,k2,k3,k4⟩:=HHk.c5;clear HHk;have HHz:=S2.out.at cO;obtain⟨z0,z1,z2,z3,z4⟩:=HHz.c5;obtain⟨zf0,zf1,zf2,zf3,zf4⟩:=HHz.f5;obtain⟨HRR,RB⟩:=PJ HHz S2.out.b hRw (iV UU) (.string co) (.string dst) (iV cm) (iV cm);clear HHz;go_wp2_with fail
  exact UQ (aG Tryz.results203 _ _ _ _ _ rfl HRR.out Tryz.underlying43 rfl (show (Tryz.prog.info? 43).map (·.size)=some 5 by kernel_rfl)) rfl (And.intro rfl RB.out)
theorem DC(f:Fl)(c:Bd)(ra:OA)(la ca:Nat)(w:World) :
  Cb 206 #[.agg #[.slice ra la ca],gQ f,jI c] w (gQ ⟨f.UU,f.src,c.inn,if aJ f.UU=true then c.UW else f.sp,c.UW⟩):=by
 have HE:Hid (∀W,Cw 100 #[iV f.UU] W (.bool (aJ f.UU))):=fun W=>fQ _ W
 generalize aJ f.UU=b at *;obtain⟨UU,src,dst,sp,dp⟩:=f;obtain⟨cp,ci,cn,co,cm⟩:=c;unfold gQ jI;dsimp only at *;have HS0:Hid (dX w [(w.heap.size+1+1+1,(dA 0 ⟨#[]⟩ ⟨#[]⟩ 0 0)),(w.heap.size+1+1,(iW cp ci cn co cm)),(w.heap.size+1,(dA UU src dst sp dp))] ((aW (aW (aW w [.slice ra la ca] 82) (dA UU src dst sp dp) 43) (iW cp ci cn co cm) 48).alloc (.cells (dA 0 ⟨#[]⟩ ⟨#[]⟩ 0 0).toArray 43))):=by
  have h:=(((⟨fun e he=>(by cases he),bR.alloc lR _,fun e he=>(by cases he)⟩: dX w [] (w.alloc (.cells #[.slice ra la ca] 82))).push (dA UU src dst sp dp) (by simp) 43).push (iW cp ci cn co cm) (by simp) 48).push (dA 0 ⟨#[]⟩ ⟨#[]⟩ 0 0) (by simp) 43;simp only[TQ]at h;exact h
 have hRw:w.heap.size≤w.heap.size+1+1+1:=by omega
 have hFw:w.heap.size≤w.heap.size+1:=by omega
 go_enter Tryz.func206,Tryz.ntmps206
 go_upto_region 1 with fail
 generalize World.alloc _ _=W0 at *;have HSET:Hid (∀wx,dX w [(w.heap.size+1+1+1,(dA 0 ⟨#[]⟩ ⟨#[]⟩ 0 0)),(w.heap.size+1+1,(iW cp ci cn co cm)),(w.heap.size+1,(dA UU src dst sp dp))] wx→dX w [(w.heap.size+1+1+1,(dA 0 ⟨#[]⟩ ⟨#[]⟩ 0 0)),(w.heap.size+1+1,(iW cp ci cn co cm)),(w.heap.size+1,(dA UU src ci sp cn))] ((sW wx (w.heap.size+1) 2 (.string ci)).setCell ⟨w.heap.size+1,4,none⟩ (iV cn))):=fun wx h=>⟨fun e he=>by
  simp only[TW,TV,or_false]at he;rcases he with rfl|rfl|rfl
  ·exact(aA.setOther (aA.setOther (h.k _ cO) (by show w.heap.size+1+1+1≠w.heap.size+1;omega) _) (by show w.heap.size+1+1+1≠w.heap.size+1;omega) _)
  ·exact(aA.setOther (aA.setOther (h.k _ eB) (by show w.heap.size+1+1≠w.heap.size+1;omega) _) (by show w.heap.size+1+1≠w.heap.size+1;omega) _)
  ·exact(aA.set (aA.set (h.k _ eX) 2 (.string ci)) 4 (iV cn)),(sCl (sCl h.b hFw) hFw),fun e he=>by
  simp only[TW,TV,or_false]at he;rcases he with rfl|rfl|rfl<;>simp⟩
 go_cut [12] (fun v wx=>dX w [(w.heap.size+1+1+1,(dA 0 ⟨#[]⟩ ⟨#[]⟩ 0 0)),(w.heap.size+1+1,(iW cp ci cn co cm)),(w.heap.size+1,(dA UU src ci sp cn))] wx)
 case first=>
  rename_i J K2 hJ hK2;have HHk:=HS0.out.at eX;obtain⟨k0,k1,k2,k3,k4⟩:=HHk.c5;obtain⟨kf0,kf1,kf2,kf3,kf4⟩:=HHk.f5;have HHl:=HS0.out.at eB;obtain⟨l0,l1,l2,l3,l4⟩:=HHl.c5;clear HHl;have HD:Hid _:=(HSET.out W0 HS0.out).kept bR.drew;clear HHk HS0 HSET;go_region
  all_goals refine hK2 _ _ (hJ _ _ ?_)
  all_goals (repeat apply Exists.intro)
  all_goals exact⟨HD.out,rfl⟩
 case rest=>
 have S1:Hid (dX w [(w.heap.size+1+1+1,(dA 0 ⟨#[]⟩ ⟨#[]⟩ 0 0)),(w.heap.size+1+1,(iW cp ci cn co cm)),(w.heap.size+1,(dA UU src ci sp cn))] wc):=hcut;clear hcut HS0 HSET;generalize wc=W1 at *;have HHk:=S1.out.at eX;obtain⟨k0,k1,k2,k3,k4⟩:=HHk.c5;clear HHk;go_wp2_with fail
 refine(HE.out _).mono ?_;rintro e W1 ⟨rfl,rfl⟩
 cases b with
 | false=>
  have HHz:=S1.out.at cO;obtain⟨z0,z1,z2,z3,z4⟩:=HHz.c5;obtain⟨zf0,zf1,zf2,zf3,zf4⟩:=HHz.f5;obtain⟨HRR,RB⟩:=PJ HHz S1.out.b hRw (iV UU) (.string src) (.string ci) (iV sp) (iV cn);clear HHz;go_wp2_with fail
  exact UQ (aG Tryz.results206 _ _ _ _ _ rfl HRR.out Tryz.underlying43 rfl (show (Tryz.prog.info? 43).map (·.size)=some 5 by kernel_rfl)) rfl (And.intro rfl RB.out)
 | true=>
  have S2:Hid (dX w [(w.heap.size+1+1+1,(dA 0 ⟨#[]⟩ ⟨#[]⟩ 0 0)),(w.heap.size+1+1,(iW cp ci cn co cm)),(w.heap.size+1,(dA UU src ci cn cn))] (W1.setCell ⟨w.heap.size+1,3,none⟩ (iV cn))):=⟨fun e he=>by
   simp only[TW,TV,or_false]at he;rcases he with rfl|rfl|rfl
   ·exact(aA.setOther (S1.out.k _ cO) (by show w.heap.size+1+1+1≠w.heap.size+1;omega) _)
   ·exact(aA.setOther (S1.out.k _ eB) (by show w.heap.size+1+1≠w.heap.size+1;omega) _)
   ·exact(aA.set (S1.out.k _ eX) 3 (iV cn)),(sCl S1.out.b hFw),fun e he=>by
   simp only[TW,TV,or_false]at he;rcases he with rfl|rfl|rfl<;>simp⟩
  have kf:=(S1.out.k _ eX).free (j:=3) (by simp);have HHl:=S1.out.at eB;obtain⟨l0,l1,l2,l3,l4⟩:=HHl.c5;clear HHl;go_upto_region 4 with fail
  generalize (W1.setCell ⟨w.heap.size+1,3,none⟩ (iV cn))=W2 at *;clear S1 kf k0 k1 k2 k3 k4 l0 l1 l2 l3 l4;have HHk:=S2.out.at eX;obtain⟨k0,k1,k2,k3,k4⟩:=HHk.c5;clear HHk;have HHz:=S2.out.at cO;obtain⟨z0,z1,z2,z3,z4⟩:=HHz.c5;obtain⟨zf0,zf1,zf2,zf3,zf4⟩:=HHz.f5;obtain⟨HRR,RB⟩:=PJ HHz S2.out.b hRw (iV UU) (.string src) (.string ci) (iV cn) (iV cn);clear HHz;go_wp2_with fail
  exact UQ (aG Tryz.results206 _ _ _ _ _ rfl HRR.out Tryz.underlying43 rfl (show (Tryz.prog.info? 43).map (·.size)=some 5 by kernel_rfl)) rfl (And.intro rfl RB.out)
def rX(x y:Int):Value→World→Prop:=fun v w=>∃b,v=.slice (some ⟨b,0,none⟩) 4 4∧w.cell? ⟨b,0,none⟩=some (.int .u8 x)∧w.cell? ⟨b,1,none⟩=some (.int .u8 0)∧w.cell? ⟨b,2,none⟩=some (.int .u8 0)∧w.cell? ⟨b,3,none⟩=some (.int .u8 y)
theorem qC(x y:Int):eZ (rX x y):=fun v w w' ⟨b,h1,h2,h3,h4,h5⟩ hb=>by
 have hlt:=UH w _ h2;exact⟨b,h1,((iI hb).1 b 0 hlt).trans h2,((iI hb).1 b 1 hlt).trans h3,((iI hb).1 b 2 hlt).trans h4,((iI hb).1 b 3 hlt).trans h5⟩
theorem wC{w:World}{b cap:Nat}{x y:Int}(hx:0≤x∧x≤255)(hy:0≤y∧y≤255)(h0:w.cell? ⟨b,0,none⟩=some (.int .u8 x))(h1:w.cell? ⟨b,1,none⟩=some (.int .u8 0))(h2:w.cell? ⟨b,2,none⟩=some (.int .u8 0))(h3:w.cell? ⟨b,3,none⟩=some (.int .u8 y)) :
  (convert 22 9 (.slice (some ⟨b,0,none⟩) 4 cap)).run Tryz.prog w=.ok (.string (oW x y)) w :=
 run_convert_bytes_back (P:=Tryz.prog) w 22 9 5 ⟨b,0,none⟩ cap [UInt8.ofNat x.toNat,0,0,UInt8.ofNat y.toNat] Tryz.underlying22 Tryz.underlying5 Tryz.underlying9 (by
  intro j hj;match j,hj with
  | 0,_=>simp only[Addr.add,Nat.add_zero,UO];rw[fI _ hx.1 hx.2];exact h0
  | 1,_=>simp only[Addr.add,TX,List.getElem_cons_succ,UO];exact h1
  | 2,_=>simp only[Addr.add,TX,List.getElem_cons_succ,UO];exact h2
  | 3,_=>simp only[Addr.add,TX,List.getElem_cons_succ,UO];rw[fI _ hy.1 hy.2];exact h3)
theorem sV(s d:BA)(p:Int)(n:Nat)(w:World)(hs:s.size≤16)(hd:d.size≤16)(hp:0≤p∧p≤255)(hn:n≤65535) :
  Cb 71 #[.string s,.string d,iV p,iV n] w (.string (aO s d p n)):=by
 have hun:undef=Value.tuple #[]:=rfl;have n1:¬9223372036854775807 < s.size+d.size:=by omega
 have z1:=mT 0 p;have z2:=aP (n:Int);by_cases h1:p=1∧s.size=4
 ·obtain⟨rfl,h4⟩:=h1;have d4:((s.size:Int)==4)=true:=by simp;omega
  have HV:Hid (aO s d 1 n=⟨#[]⟩):=by unfold Hid aO;rw[if_pos ⟨rfl,h4⟩]
  generalize aO s d 1 n=ans at *;clear h4;go_enter Tryz.func71,Tryz.ntmps71
  go_wp2_with fail
  go_ret;exact⟨by rw[HV.out];rfl,Below.refl _ _⟩
 by_cases h4:s.size=4
 ·have d4:((s.size:Int)==4)=true:=by simp;omega
  have d1:(p==1)=false:=by simp;exact fun e=>h1 ⟨e,h4⟩
  have HZ:Hid (aO s d p n=s++d++kE 0 p++aQ (n:Int)):=by unfold Hid aO;rw[if_neg h1,if_pos h4]
  generalize aO s d p n=ans at *;clear h1 h4;have n2:¬9223372036854775807 < s.size+d.size+(kE 0 p).size:=by omega
  have n3:¬9223372036854775807 < s.size+d.size+(kE 0 p).size+(aQ (n:Int)).size:=by omega
  have n2b:¬9223372036854775807 < s.size+d.size+2:=by omega
  have n3b:¬9223372036854775807 < s.size+d.size+2+2:=by omega
  go_enter Tryz.func71,Tryz.ntmps71
  go_upto_region 4 with fail
  go_cut [8] (fun v wx=>v=.string ans∧Below w.heap.size w wx)
  case first=>
   rename_i J K2 hJ hK2;clear hun;refine cZ (Rs:=[aF (.string s),aF (.string d),aF (.string (s++d)),aF (iV p),aF (.int .u8 p),tW (0) (p),aF (.string (kE 0 p)),aF (.string (s++d++kE 0 p)),aF (iV (n:Int)),aF (.string (aQ (n:Int))),aF (.string (s++d++kE 0 p++aQ (n:Int))),aF (.string (s++d++kE 0 p++aQ (n:Int)))]) [19,20,21,22,23,24,25,26,27,28,29,8] (by kernel_rfl) (by kernel_rfl) rfl ?st ?steps ?done
   case st=>simp[cC,kU]
   case steps=>
    refine⟨?s0,?s1,?s2,?s3,?s4,?s5,?s6,?s7,?s8,?s9,?s10,?s11,trivial⟩
    case s0=>
     intro K' a wy ho hd hb hK;have h3:=ho 0 (by decide);simp[aD]at h3;clear hd;go_simp;try go_bits
     exact hK _ _ rfl bR
    case s1=>
     intro K' a wy ho hd hb hK;have h3:=ho 1 (by decide);simp[aD]at h3;clear hd;go_simp;try go_bits
     exact hK _ _ rfl bR
    case s2=>
     intro K' a wy ho hd hb hK;simp[Region.binds,aS,aF,aD]at hd;go_simp;try go_bits
     exact hK _ _ rfl bR
    case s3=>
     intro K' a wy ho hd hb hK;have h3:=ho 2 (by decide);simp[aD]at h3;clear hd;go_simp;try go_bits
     exact hK _ _ rfl bR
    case s4=>
     intro K' a wy ho hd hb hK;simp[Region.binds,aS,aF,aD]at hd;go_simp;try go_bits
     exact hK _ _ rfl bR
    case s5=>
     intro K' a wy ho hd hb hK;simp[Region.binds,aS,aF,aD]at hd;go_simp;exact hK _ _ ⟨wy.heap.size,rfl,by simp,by simp⟩ (bR.alloc lR _)
    case s6=>
     intro K' a wy ho hd hb hK;simp only[List.forall_mem_singleton,Array.mem_def,List.mem_singleton,forall_eq]at hd;obtain⟨b,hd1,hd2,hd3⟩: tW (0) (p) (aD a 24) wy:=hd rfl;have hcv:=tN (cap:=2) (by omega) (by omega) hd2 hd3;simp[aD]at hd1;go_simp;try go_bits
     exact hK _ _ rfl bR
    case s7=>
     intro K' a wy ho hd hb hK;simp[Region.binds,aS,aF,aD]at hd;go_simp;try go_bits
     exact hK _ _ rfl bR
    case s8=>
     intro K' a wy ho hd hb hK;have h3:=ho 3 (by decide);simp[aD]at h3;clear hd;go_simp;try go_bits
     exact hK _ _ rfl bR
    case s9=>
     intro K' a wy ho hd hb hK;simp[Region.binds,aS,aF,aD]at hd;go_simp;refine(bV (n:Int) wy (by omega) (by omega)).mono ?_;rintro e wz ⟨rfl,hz⟩;exact hK _ _ rfl hz
    case s10=>
     intro K' a wy ho hd hb hK;simp[Region.binds,aS,aF,aD]at hd;go_simp;try go_bits
     exact hK _ _ rfl bR
    case s11=>
     intro K' a wy ho hd hb hK;simp[Region.binds,aS,aF,aD]at hd;go_simp;try go_bits
     exact hK _ _ rfl bR
   case done=>
    intro X wz hR hz;obtain⟨x0,x1,x2,x3,x4,⟨b5,x5,-,-⟩,x6,x7,x8,x9,x10,x11,-⟩:=hR;simp only[aF]at x0 x1 x2 x3 x4 x6 x7 x8 x9 x10 x11;simp only[aE,x0,x1,x2,x3,x4,x5,x6,x7,x8,x9,x10,x11];clear x0 x1 x2 x3 x4 x5 x6 x7 x8 x9 x10 x11;go_simp;refine hK2 _ _ (hJ _ _ ?_);(repeat apply Exists.intro)
    refine⟨⟨by rw[HZ.out],(Below.refl _ w).drew.trans hz⟩,rfl⟩
  case rest=>
  obtain⟨rfl,hb⟩:=hcut;go_wp2_with fail
  go_ret;exact⟨rfl,hb⟩
 ·have d4:((s.size:Int)==4)=false:=by simp;omega
  have HZ:Hid (aO s d p n=s++d++aQ ((n:Int) / 65536)++aQ ((n:Int) % 65536)++oW 0 p):=by unfold Hid aO;rw[if_neg h1,if_neg h4]
  generalize aO s d p n=ans at *;clear h1;have a1:=qH (n:Int);have n2:¬9223372036854775807 < s.size+d.size+(aQ ((n:Int) / 65536)).size:=by rw[aP];omega
  have n3:¬9223372036854775807 < s.size+d.size+(aQ ((n:Int) / 65536)).size+(aQ ((n:Int) % 65536)).size:=by rw[aP,aP];omega
  have n4:¬9223372036854775807 < s.size+d.size+(aQ ((n:Int) / 65536)).size+(aQ ((n:Int) % 65536)).size+(oW 0 p).size:=by rw[aP,aP,wD];omega
  by_cases dp:p=1
  ·have d1:(p==1)=true:=by simp[dp]
   clear dp;go_enter Tryz.func71,Tryz.ntmps71
   go_upto_region 5 with fail
   go_cut [8] (fun v wx=>v=.string ans∧Below w.heap.size w wx)
   case first=>
    rename_i J K2 hJ hK2;clear hun;refine cZ (Rs:=[aF (.string s),aF (.string d),aF (.string (s++d)),aF (iV (n:Int)),aF (iV ((n:Int) / 65536)),aF (.string (aQ ((n:Int) / 65536))),aF (.string (s++d++aQ ((n:Int) / 65536))),aF (iV (n:Int)),aF (iV ((n:Int) % 65536)),aF (.string (aQ ((n:Int) % 65536))),aF (.string (s++d++aQ ((n:Int) / 65536)++aQ ((n:Int) % 65536))),aF (iV p),aF (.int .u8 p),rX (0) (p),aF (.string (oW 0 p)),aF (.string (s++d++aQ ((n:Int) / 65536)++aQ ((n:Int) % 65536)++oW 0 p)),aF (.string (s++d++aQ ((n:Int) / 65536)++aQ ((n:Int) % 65536)++oW 0 p))]) [30,31,32,33,34,35,36,37,38,39,40,41,42,43,44,45,8] (by kernel_rfl) (by kernel_rfl) rfl ?st ?steps ?done
    case st=>simp[cC,qC]
    case steps=>
     refine⟨?s0,?s1,?s2,?s3,?s4,?s5,?s6,?s7,?s8,?s9,?s10,?s11,?s12,?s13,?s14,?s15,?s16,trivial⟩
     case s0=>
      intro K' a wy ho hd hb hK;have h3:=ho 0 (by decide);simp[aD]at h3;clear hd;go_simp;try go_bits
      exact hK _ _ rfl bR
     case s1=>
      intro K' a wy ho hd hb hK;have h3:=ho 1 (by decide);simp[aD]at h3;clear hd;go_simp;try go_bits
      exact hK _ _ rfl bR
     case s2=>
      intro K' a wy ho hd hb hK;simp[Region.binds,aS,aF,aD]at hd;go_simp;try go_bits
      exact hK _ _ rfl bR
     case s3=>
      intro K' a wy ho hd hb hK;have h3:=ho 3 (by decide);simp[aD]at h3;clear hd;go_simp;try go_bits
      exact hK _ _ rfl bR
     case s4=>
      intro K' a wy ho hd hb hK;simp[Region.binds,aS,aF,aD]at hd;go_simp;try go_bits
      exact hK _ _ rfl bR
     case s5=>
      intro K' a wy ho hd hb hK;simp[Region.binds,aS,aF,aD]at hd;go_simp;refine(bV ((n:Int) / 65536) wy (by omega) (by omega)).mono ?_;rintro e wz ⟨rfl,hz⟩;exact hK _ _ rfl hz
     case s6=>
      intro K' a wy ho hd hb hK;simp[Region.binds,aS,aF,aD]at hd;go_simp;try go_bits
      exact hK _ _ rfl bR
     case s7=>
      intro K' a wy ho hd hb hK;have h3:=ho 3 (by decide);simp[aD]at h3;clear hd;go_simp;try go_bits
      exact hK _ _ rfl bR
     case s8=>
      intro K' a wy ho hd hb hK;simp[Region.binds,aS,aF,aD]at hd;go_simp;try go_bits
      exact hK _ _ rfl bR
     case s9=>
      intro K' a wy ho hd hb hK;simp[Region.binds,aS,aF,aD]at hd;go_simp;refine(bV ((n:Int) % 65536) wy (by omega) (by omega)).mono ?_;rintro e wz ⟨rfl,hz⟩;exact hK _ _ rfl hz
     case s10=>
      intro K' a wy ho hd hb hK;simp[Region.binds,aS,aF,aD]at hd;go_simp;try go_bits
      exact hK _ _ rfl bR
     case s11=>
      intro K' a wy ho hd hb hK;have h3:=ho 2 (by decide);simp[aD]at h3;clear hd;go_simp;try go_bits
      exact hK _ _ rfl bR
     case s12=>
      intro K' a wy ho hd hb hK;simp[Region.binds,aS,aF,aD]at hd;go_simp;try go_bits
      exact hK _ _ rfl bR
     case s13=>
      intro K' a wy ho hd hb hK;simp[Region.binds,aS,aF,aD]at hd;go_simp;exact hK _ _ ⟨wy.heap.size,rfl,by simp,by simp,by simp,by simp⟩ (bR.alloc lR _)
     case s14=>
      intro K' a wy ho hd hb hK;simp only[List.forall_mem_singleton,Array.mem_def,List.mem_singleton,forall_eq]at hd;obtain⟨b,hd1,hd2,hd3,hd4,hd5⟩: rX (0) (p) (aD a 43) wy:=hd rfl;have hcv:=wC (cap:=4) (by omega) (by omega) hd2 hd3 hd4 hd5;simp[aD]at hd1;go_simp;try go_bits
      exact hK _ _ rfl bR
     case s15=>
      intro K' a wy ho hd hb hK;simp[Region.binds,aS,aF,aD]at hd;go_simp;try go_bits
      exact hK _ _ rfl bR
     case s16=>
      intro K' a wy ho hd hb hK;simp[Region.binds,aS,aF,aD]at hd;go_simp;try go_bits
      exact hK _ _ rfl bR
    case done=>
     intro X wz hR hz;obtain⟨x0,x1,x2,x3,x4,x5,x6,x7,x8,x9,x10,x11,x12,⟨b13,x13,-,-,-,-⟩,x14,x15,x16,-⟩:=hR;simp only[aF]at x0 x1 x2 x3 x4 x5 x6 x7 x8 x9 x10 x11 x12 x14 x15 x16;simp only[aE,x0,x1,x2,x3,x4,x5,x6,x7,x8,x9,x10,x11,x12,x13,x14,x15,x16];clear x0 x1 x2 x3 x4 x5 x6 x7 x8 x9 x10 x11 x12 x13 x14 x15 x16;go_simp;refine hK2 _ _ (hJ _ _ ?_);(repeat apply Exists.intro)
     refine⟨⟨by rw[HZ.out],(Below.refl _ w).drew.trans hz⟩,rfl⟩
   case rest=>
   obtain⟨rfl,hb⟩:=hcut;go_wp2_with fail
   go_ret;exact⟨rfl,hb⟩
  ·have d1:(p==1)=false:=by simp[dp]
   go_enter Tryz.func71,Tryz.ntmps71
   go_upto_region 5 with fail
   go_cut [8] (fun v wx=>v=.string ans∧Below w.heap.size w wx)
   case first=>
    rename_i J K2 hJ hK2;clear hun;refine cZ (Rs:=[aF (.string s),aF (.string d),aF (.string (s++d)),aF (iV (n:Int)),aF (iV ((n:Int) / 65536)),aF (.string (aQ ((n:Int) / 65536))),aF (.string (s++d++aQ ((n:Int) / 65536))),aF (iV (n:Int)),aF (iV ((n:Int) % 65536)),aF (.string (aQ ((n:Int) % 65536))),aF (.string (s++d++aQ ((n:Int) / 65536)++aQ ((n:Int) % 65536))),aF (iV p),aF (.int .u8 p),rX (0) (p),aF (.string (oW 0 p)),aF (.string (s++d++aQ ((n:Int) / 65536)++aQ ((n:Int) % 65536)++oW 0 p)),aF (.string (s++d++aQ ((n:Int) / 65536)++aQ ((n:Int) % 65536)++oW 0 p))]) [30,31,32,33,34,35,36,37,38,39,40,41,42,43,44,45,8] (by kernel_rfl) (by kernel_rfl) rfl ?st ?steps ?done
    case st=>simp[cC,qC]
    case steps=>
     refine⟨?s0,?s1,?s2,?s3,?s4,?s5,?s6,?s7,?s8,?s9,?s10,?s11,?s12,?s13,?s14,?s15,?s16,trivial⟩
     case s0=>
      intro K' a wy ho hd hb hK;have h3:=ho 0 (by decide);simp[aD]at h3;clear hd;go_simp;try go_bits
      exact hK _ _ rfl bR
     case s1=>
      intro K' a wy ho hd hb hK;have h3:=ho 1 (by decide);simp[aD]at h3;clear hd;go_simp;try go_bits
      exact hK _ _ rfl bR
     case s2=>
      intro K' a wy ho hd hb hK;simp[Region.binds,aS,aF,aD]at hd;go_simp;try go_bits
      exact hK _ _ rfl bR
     case s3=>
      intro K' a wy ho hd hb hK;have h3:=ho 3 (by decide);simp[aD]at h3;clear hd;go_simp;try go_bits
      exact hK _ _ rfl bR
     case s4=>
      intro K' a wy ho hd hb hK;simp[Region.binds,aS,aF,aD]at hd;go_simp;try go_bits
      exact hK _ _ rfl bR
     case s5=>
      intro K' a wy ho hd hb hK;simp[Region.binds,aS,aF,aD]at hd;go_simp;refine(bV ((n:Int) / 65536) wy (by omega) (by omega)).mono ?_;rintro e wz ⟨rfl,hz⟩;exact hK _ _ rfl hz
     case s6=>
      intro K' a wy ho hd hb hK;simp[Region.binds,aS,aF,aD]at hd;go_simp;try go_bits
      exact hK _ _ rfl bR
     case s7=>
      intro K' a wy ho hd hb hK;have h3:=ho 3 (by decide);simp[aD]at h3;clear hd;go_simp;try go_bits
      exact hK _ _ rfl bR
     case s8=>
      intro K' a wy ho hd hb hK;simp[Region.binds,aS,aF,aD]at hd;go_simp;try go_bits
      exact hK _ _ rfl bR
     case s9=>
      intro K' a wy ho hd hb hK;simp[Region.binds,aS,aF,aD]at hd;go_simp;refine(bV ((n:Int) % 65536) wy (by omega) (by omega)).mono ?_;rintro e wz ⟨rfl,hz⟩;exact hK _ _ rfl hz
     case s10=>
      intro K' a wy ho hd hb hK;simp[Region.binds,aS,aF,aD]at hd;go_simp;try go_bits
      exact hK _ _ rfl bR
     case s11=>
      intro K' a wy ho hd hb hK;have h3:=ho 2 (by decide);simp[aD]at h3;clear hd;go_simp;try go_bits
      exact hK _ _ rfl bR
     case s12=>
      intro K' a wy ho hd hb hK;simp[Region.binds,aS,aF,aD]at hd;go_simp;try go_bits
      exact hK _ _ rfl bR
     case s13=>
      intro K' a wy ho hd hb hK;simp[Region.binds,aS,aF,aD]at hd;go_simp;exact hK _ _ ⟨wy.heap.size,rfl,by simp,by simp,by simp,by simp⟩ (bR.alloc lR _)
     case s14=>
      intro K' a wy ho hd hb hK;simp only[List.forall_mem_singleton,Array.mem_def,List.mem_singleton,forall_eq]at hd;obtain⟨b,hd1,hd2,hd3,hd4,hd5⟩: rX (0) (p) (aD a 43) wy:=hd rfl;have hcv:=wC (cap:=4) (by omega) (by omega) hd2 hd3 hd4 hd5;simp[aD]at hd1;go_simp;try go_bits
      exact hK _ _ rfl bR
     case s15=>
      intro K' a wy ho hd hb hK;simp[Region.binds,aS,aF,aD]at hd;go_simp;try go_bits
      exact hK _ _ rfl bR
     case s16=>
      intro K' a wy ho hd hb hK;simp[Region.binds,aS,aF,aD]at hd;go_simp;try go_bits
      exact hK _ _ rfl bR
    case done=>
     intro X wz hR hz;obtain⟨x0,x1,x2,x3,x4,x5,x6,x7,x8,x9,x10,x11,x12,⟨b13,x13,-,-,-,-⟩,x14,x15,x16,-⟩:=hR;simp only[aF]at x0 x1 x2 x3 x4 x5 x6 x7 x8 x9 x10 x11 x12 x14 x15 x16;simp only[aE,x0,x1,x2,x3,x4,x5,x6,x7,x8,x9,x10,x11,x12,x13,x14,x15,x16];clear x0 x1 x2 x3 x4 x5 x6 x7 x8 x9 x10 x11 x12 x13 x14 x15 x16;go_simp;refine hK2 _ _ (hJ _ _ ?_);(repeat apply Exists.intro)
     refine⟨⟨by rw[HZ.out],(Below.refl _ w).drew.trans hz⟩,rfl⟩
   case rest=>
   obtain⟨rfl,hb⟩:=hcut;go_wp2_with fail
   go_ret;exact⟨rfl,hb⟩
theorem KP(s d:BA)(p:Int)(t:BA)(w:World)(hs:s.size≤16)(hd:d.size≤16)(hp:0≤p∧p≤255)(ht:t.size≤65535) :
  Cb 41 #[.string s,.string d,iV p,.string t] w (iV (xE s d p t)):=by
 have HP:Hid (∀W,Cb 71 #[.string s,.string d,iV p,iV t.size] W (.string (aO s d p t.size))):=fun W=>sV s d p t.size W hs hd hp ht
 have hu:=kR s d p t.size hs hd;have HV:Hid (xE s d p t=bI (aO s d p t.size++t)):=rfl;generalize aO s d p t.size=u at *;generalize xE s d p t=ans at *;have n1:¬9223372036854775807 < u.size+t.size:=by omega
 go_enter Tryz.func41,Tryz.ntmps41
 go_wp2_with fail
 refine(HP.out _).mono ?_;rintro e w1 ⟨rfl,hb⟩;have HB:Hid (Below w.heap.size w w1):=hb;clear hb;go_wp2_with fail
 refine(kT (u++t) _ (by rw[UF];omega)).mono ?_;rintro e w2 ⟨rfl,rfl⟩;go_wp2_with fail
 go_ret;exact⟨aK HV.out.symm,HB.out⟩
theorem iP(s d:BA)(p:Int)(t:BA)(w:World)(hs:s.size≤1048576)(hd:d.size≤1048576)(ht:t.size≤1048576) :
  Cb 15 #[.string s,.string d,iV p,.string t] w (.bool (dJ s d p t)):=by
 have HN:Hid (QH s d p t=false→dJ s d p t=false):=fun h=>by unfold dJ;rw[h];rfl
 have HD:Hid (QH s d p t=(decide (t.size≤20000)&&decide (s.size≤20000)&&decide (d.size≤20000)&&dV s d&&aM p 0 255)):=rfl;by_cases lt:20000 < t.size
 ·have HV:Hid (dJ s d p t=false):=HN.out (by rw[HD.out,TR (show ¬t.size≤20000 by omega)];simp);clear HN HD;generalize dJ s d p t=ans at *;go_enter Tryz.func15,Tryz.ntmps15
  go_wp2_with fail
  go_ret;exact⟨aB HV.out.symm,Below.refl _ _⟩
 by_cases ls:20000 < s.size
 ·have HV:Hid (dJ s d p t=false):=HN.out (by rw[HD.out,TR (show ¬s.size≤20000 by omega)];simp);clear HN HD;generalize dJ s d p t=ans at *;go_enter Tryz.func15,Tryz.ntmps15
  go_wp2_with fail
  go_ret;exact⟨aB HV.out.symm,Below.refl _ _⟩
 by_cases ld:20000 < d.size
 ·have HV:Hid (dJ s d p t=false):=HN.out (by rw[HD.out,TR (show ¬d.size≤20000 by omega)];simp);clear HN HD;generalize dJ s d p t=ans at *;go_enter Tryz.func15,Tryz.ntmps15
  go_wp2_with fail
  go_ret;exact⟨aB HV.out.symm,Below.refl _ _⟩
 have HB1:Hid (∀W,Cw 31 #[.string s,.string d] W (.bool (dV s d))):=fun W=>rR _ _ W (by unfold maxLen;omega) (by unfold maxLen;omega)
 have HB2:Hid (∀W,Cw 38 #[iV p] W (.bool (aM p 0 255))):=fun W=>gU _ W
 cases a1:dV s d with
 | false=>
  have HV:Hid (dJ s d p t=false):=HN.out (by rw[HD.out,a1];simp);rw[a1]at HB1;clear HN HD a1;generalize dJ s d p t=ans at *;go_enter Tryz.func15,Tryz.ntmps15
  go_wp2_with fail
  refine(HB1.out _).mono ?_;rintro e w2 ⟨rfl,rfl⟩;go_wp2_with fail
  go_ret;exact⟨aB HV.out.symm,Below.refl _ _⟩
 | true=>
 cases a2:aM p 0 255 with
 | false=>
  have HV:Hid (dJ s d p t=false):=HN.out (by rw[HD.out,a2];simp);rw[a1]at HB1;rw[a2]at HB2;clear HN HD a1 a2;generalize dJ s d p t=ans at *;go_enter Tryz.func15,Tryz.ntmps15
  go_wp2_with fail
  refine(HB1.out _).mono ?_;rintro e w2 ⟨rfl,rfl⟩;go_wp2_with fail
  refine(HB2.out _).mono ?_;rintro e w2 ⟨rfl,rfl⟩;go_wp2_with fail
  go_ret;exact⟨aB HV.out.symm,Below.refl _ _⟩
 | true=>
  have hin:QH s d p t=true:=by rw[HD.out,a1,a2];simp;omega
  obtain⟨z1,z2⟩:=jM a1;have HB3:Hid (∀W,Cb 41 #[.string s,.string d,iV p,.string t] W (iV (xE s d p t))):=fun W=>KP s d p t W (by omega) (by omega) (eD a2) (by omega)
  rw[a1]at HB1;rw[a2]at HB2;have HV:Hid (dJ s d p t=(decide (xE s d p t=65535)||(decide (p=17)&&decide (s.size=4)&&decide (8≤t.size)&&decide (aL (bt t) 6=0)))):=by unfold Hid dJ;rw[hin];rfl
  have HW:Hid (8≤t.size→∀W,Cb 42 #[.string t,iV 6] W (iV (aL (bt t) 6))):=fun h W=>oO t 6 W (by omega) (by unfold maxLen;omega)
  clear HN HD a1 a2 hin z1 z2;generalize dJ s d p t=ans at *;generalize xE s d p t=sm at *;generalize aL (bt t) 6=wd at *;by_cases e1:sm=65535
  ·have d1:(sm==65535)=true:=by simp[e1]
   have HV2:Hid (ans=true):=by unfold Hid;rw[HV.out,TT e1];rfl
   clear HV HW e1;go_enter Tryz.func15,Tryz.ntmps15
   go_wp2_with fail
   refine(HB1.out _).mono ?_;rintro e w2 ⟨rfl,rfl⟩;go_wp2_with fail
   refine(HB2.out _).mono ?_;rintro e w2 ⟨rfl,rfl⟩;go_wp2_with fail
   refine(HB3.out _).mono ?_;rintro e w3 ⟨rfl,q3⟩;have Q3:Hid (Below w2.heap.size w2 w3):=q3;clear q3;go_wp2_with fail
   go_ret;exact⟨aB HV2.out.symm,Q3.out⟩
  have d1:(sm==65535)=false:=by simp[e1]
  by_cases e2:p=17
  ·have d2:(p==17)=true:=by simp[e2]
   by_cases e3:s.size=4
   ·have d3:((s.size:Int)==4)=true:=by simp;omega
    by_cases e4:8≤t.size
    ·have HW2:Hid _:=HW.out e4;have d5:(wd==0)=decide (wd=0):=rfl;have HV2:Hid (ans=decide (wd=0)):=by unfold Hid;rw[HV.out,TR e1,TT e2,TT e3,TT e4];rfl
     clear HV HW e1 e2 e3;generalize decide (wd=0)=q at *;go_enter Tryz.func15,Tryz.ntmps15
     go_wp2_with fail
     refine(HB1.out _).mono ?_;rintro e w2 ⟨rfl,rfl⟩;go_wp2_with fail
     refine(HB2.out _).mono ?_;rintro e w2 ⟨rfl,rfl⟩;go_wp2_with fail
     refine(HB3.out _).mono ?_;rintro e w3 ⟨rfl,q3⟩;have Q3:Hid (Below w2.heap.size w2 w3):=q3;clear q3;go_wp2_with fail
     refine(HW2.out _).mono ?_;rintro e w4 ⟨rfl,q4⟩;have Q4:Hid _:=Q3.out.trans (q4.mono Q3.out.size);clear q4;go_wp2_with fail
     go_ret;exact⟨aB HV2.out.symm,Q4.out⟩
    ·have HV2:Hid (ans=false):=by unfold Hid;rw[HV.out,TR e1,TR e4];simp
     clear HV HW e1 e2 e3;go_enter Tryz.func15,Tryz.ntmps15
     go_wp2_with fail
     refine(HB1.out _).mono ?_;rintro e w2 ⟨rfl,rfl⟩;go_wp2_with fail
     refine(HB2.out _).mono ?_;rintro e w2 ⟨rfl,rfl⟩;go_wp2_with fail
     refine(HB3.out _).mono ?_;rintro e w3 ⟨rfl,q3⟩;have Q3:Hid (Below w2.heap.size w2 w3):=q3;clear q3;go_wp2_with fail
     go_ret;exact⟨aB HV2.out.symm,Q3.out⟩
   ·have d3:((s.size:Int)==4)=false:=by simp;omega
    have HV2:Hid (ans=false):=by unfold Hid;rw[HV.out,TR e1,TR e3];simp
    clear HV HW e1 e2 e3;go_enter Tryz.func15,Tryz.ntmps15
    go_wp2_with fail
    refine(HB1.out _).mono ?_;rintro e w2 ⟨rfl,rfl⟩;go_wp2_with fail
    refine(HB2.out _).mono ?_;rintro e w2 ⟨rfl,rfl⟩;go_wp2_with fail
    refine(HB3.out _).mono ?_;rintro e w3 ⟨rfl,q3⟩;have Q3:Hid (Below w2.heap.size w2 w3):=q3;clear q3;go_wp2_with fail
    go_ret;exact⟨aB HV2.out.symm,Q3.out⟩
  ·have d2:(p==17)=false:=by simp[e2]
   have HV2:Hid (ans=false):=by unfold Hid;rw[HV.out,TR e1,TR e2];simp
   clear HV HW e1 e2;go_enter Tryz.func15,Tryz.ntmps15
   go_wp2_with fail
   refine(HB1.out _).mono ?_;rintro e w2 ⟨rfl,rfl⟩;go_wp2_with fail
   refine(HB2.out _).mono ?_;rintro e w2 ⟨rfl,rfl⟩;go_wp2_with fail
   refine(HB3.out _).mono ?_;rintro e w3 ⟨rfl,q3⟩;have Q3:Hid (Below w2.heap.size w2 w3):=q3;clear q3;go_wp2_with fail
   go_ret;exact⟨aB HV2.out.symm,Q3.out⟩
end Go.Proofs.YtdkepkaflielhaaGreatDoor
