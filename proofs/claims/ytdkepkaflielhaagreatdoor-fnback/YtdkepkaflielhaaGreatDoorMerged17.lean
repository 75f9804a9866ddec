import Derived.Test.YtdkepkaflielhaaGreatDoorMerged12
import Derived.Test.YtdkepkaflielhaaGreatDoorMerged15
import Derived.DeepKeys5
set_option linter.unusedVariables false
set_option linter.unusedSimpArgs false
set_option maxRecDepth 100000
set_option maxHeartbeats 8000000
namespace Go.Proofs.YtdkepkaflielhaaGreatDoor
open Go.RowKit Go.PlainAid
theorem jF(s:BA)(w:World)(h:s.size≤1048576) :
  Cb 119 #[.string s] w (.string s):=by
 have HC:Hid (∀W,Cb 162 #[.string s] W (.string s)):=fun W=>Tryz.stringslite_Clone s W (by omega)
 go_enter Tryz.func119,Tryz.ntmps119
 go_wp2_with fail
 refine(HC.out _).mono ?_;rintro e w1 ⟨rfl,b1⟩;go_wp2_with fail
 go_ret;exact⟨rfl,b1⟩
theorem kR(p:Bd)(w:World)(h1:p.inn.size≤1048576)(h2:p.out.size≤1048576) :
  Cb 82 #[gW p] w (gW p):=by
 have H1:Hid (∀W,Cb 119 #[.string p.inn] W (.string p.inn)):=fun W=>jF _ W h1
 have H2:Hid (∀W,Cb 119 #[.string p.out] W (.string p.out)):=fun W=>jF _ W h2
 have hun:undef=Value.tuple #[]:=rfl;clear h1 h2;have HP:Hid (aA ((aW w (cZ p) 48).alloc (.cells (gB 0 ⟨#[]⟩ 0 ⟨#[]⟩ 0).toArray 48)) w.heap.size (dP p)):=(aA.new w (dP p) _).alloc _;have HO:Hid (aA ((aW w (cZ p) 48).alloc (.cells (gB 0 ⟨#[]⟩ 0 ⟨#[]⟩ 0).toArray 48)) (w.heap.size+1) (gB 0 ⟨#[]⟩ 0 ⟨#[]⟩ 0)):=by
  have h:=aA.new (w.alloc (.cells (cZ p).toArray 48)) (gB 0 ⟨#[]⟩ 0 ⟨#[]⟩ 0) 48;rwa [UC]at h
 have HZ:Hid (Below w.heap.size w ((aW w (cZ p) 48).alloc (.cells (gB 0 ⟨#[]⟩ 0 ⟨#[]⟩ 0).toArray 48))):=(bR.alloc lR _).alloc (by simp) _;unfold gW;go_enter Tryz.func82,Tryz.ntmps82
 go_upto_region 1 with fail
 generalize World.alloc _ _=W at *;go_cut [3] (fun v wx=>aA wx w.heap.size (dP p)∧aA wx (w.heap.size+1) (gB 0 ⟨#[]⟩ 0 ⟨#[]⟩ 0)∧Below w.heap.size w wx)
 case first=>
  rename_i J K2 hJ hK2;clear hun;have HCP:Hid (∀wy,Below W.drew.heap.size W.drew wy→aA wy w.heap.size (dP p)∧aA wy (w.heap.size+1) (gB 0 ⟨#[]⟩ 0 ⟨#[]⟩ 0)):=fun wy hy=>⟨HP.out.drew.kept (by simp[dP]) hy,HO.out.drew.kept (by simp) hy⟩
  refine aN [3,4,5,6,7,8,9] (by kernel_rfl) (by kernel_rfl) ?_;iterate 5 (apply bC.u rfl;(·intro K' a wy ho hd hb hK;simp[aU,aG,aD,Region.binds]at ho hd;have hld:=(HCP.out wy hb).1;have kC:=hld.c5;go_simp;first|((try go_bits);exact hK _ _ rfl bQ)|(refine(H1.out wy).mono ?_;rintro e wz ⟨rfl,hz⟩;exact hK _ _ rfl hz));dsimp only[nA,cA])
  iterate 2 (apply bC.u rfl;(·intro K' a wy ho hd hb hK;simp[aU,aG,aD,Region.binds]at ho hd;go_simp;first|((try go_bits);exact hK _ _ rfl bQ)|(refine(H2.out wy).mono ?_;rintro e wz ⟨rfl,hz⟩;exact hK _ _ rfl hz));dsimp only[nA,cA])
  intro X wz hR hz;simp only[UM,UN,eY,aG]at hR;simp only[aE,hR];clear hR;obtain⟨hh,hz0⟩:=HCP.out wz hz;have HB:Hid (Below w.heap.size w wz):=HZ.out.drew.trans (hz.mono HZ.out.size);have f1:wz.frozen? ⟨w.heap.size,1,none⟩=false:=hh.free (j:=1) (by simp[dP]);have f3:wz.frozen? ⟨w.heap.size,3,none⟩=false:=hh.free (j:=3) (by simp[dP]);obtain⟨k0,k1,k2,k3,k4⟩:=hh.c5;have HH:Hid (aA wz w.heap.size (dP p)):=hh;have HH0:Hid (aA wz (w.heap.size+1) (gB 0 ⟨#[]⟩ 0 ⟨#[]⟩ 0)):=hz0;clear hh hz0;intro K10 hK10;go_simp;refine hK10 _ _ ?_;intro K11 hK11;go_simp;refine hK11 _ _ ?_;intro K12 hK12;go_simp;refine hK12 _ _ ?_;show Exit.then _ _ _ _ _;refine hK2 _ _ (hJ _ _ ?_);(repeat apply Exists.intro)
  refine⟨⟨(HH.out.set 1 _).set 3 _,(eO HH0.out).setOther (by omega) _,?_⟩,rfl⟩;exact(sCl HB.out lR).setCell (p:=⟨w.heap.size,3,none⟩) lR _
 case rest=>
  obtain⟨hh,h0,hb⟩:=hcut;have HB:Hid (Below w.heap.size w wc):=hb;obtain⟨k0,k1,k2,k3,k4⟩:=hh.c5;obtain⟨y0,y1,y2,y3,y4⟩:=h0.f5;obtain⟨z0,z1,z2,z3,z4⟩:=h0.c5;clear hh h0 hb;go_wp2_with fail
  refine VB (v:=.agg (cZ p).toArray) (by simp[results,Tryz.results82,go_sem,z0,z1,z2,z3,z4]) rfl ⟨rfl,?_⟩;have hsz:w.heap.size≤w.heap.size+1:=Nat.le_succ _;exact(sCl (sCl (sCl (sCl (sCl HB.out hsz) hsz) hsz) hsz) hsz)
theorem oZ(p:Ss)(w:World)(h1:p.inn.size≤1048576)(h2:p.peer.size≤1048576) :
  Cb 142 #[xL p] w (xL p):=by
 have H1:Hid (∀W,Cb 119 #[.string p.inn] W (.string p.inn)):=fun W=>jF _ W h1
 have H2:Hid (∀W,Cb 119 #[.string p.peer] W (.string p.peer)):=fun W=>jF _ W h2
 have hun:undef=Value.tuple #[]:=rfl;clear h1 h2;have HP:Hid (aA ((aW w (iE p) 59).alloc (.cells (sA 0 ⟨#[]⟩ 0 ⟨#[]⟩ 0 0 0).toArray 59)) w.heap.size (fZ p)):=(aA.new w (fZ p) _).alloc _;have HO:Hid (aA ((aW w (iE p) 59).alloc (.cells (sA 0 ⟨#[]⟩ 0 ⟨#[]⟩ 0 0 0).toArray 59)) (w.heap.size+1) (sA 0 ⟨#[]⟩ 0 ⟨#[]⟩ 0 0 0)):=by
  have h:=aA.new (w.alloc (.cells (iE p).toArray 59)) (sA 0 ⟨#[]⟩ 0 ⟨#[]⟩ 0 0 0) 59;rwa [UC]at h
 have HZ:Hid (Below w.heap.size w ((aW w (iE p) 59).alloc (.cells (sA 0 ⟨#[]⟩ 0 ⟨#[]⟩ 0 0 0).toArray 59))):=(bR.alloc lR _).alloc (by simp) _;unfold xL;go_enter Tryz.func142,Tryz.ntmps142
 go_upto_region 1 with fail
 generalize World.alloc _ _=W at *;go_cut [3] (fun v wx=>aA wx w.heap.size (fZ p)∧aA wx (w.heap.size+1) (sA 0 ⟨#[]⟩ 0 ⟨#[]⟩ 0 0 0)∧Below w.heap.size w wx)
 case first=>
  rename_i J K2 hJ hK2;clear hun;have HCP:Hid (∀wy,Below W.drew.heap.size W.drew wy→aA wy w.heap.size (fZ p)∧aA wy (w.heap.size+1) (sA 0 ⟨#[]⟩ 0 ⟨#[]⟩ 0 0 0)):=fun wy hy=>⟨HP.out.drew.kept (by simp[fZ]) hy,HO.out.drew.kept (by simp) hy⟩
  refine aN [3,4,5,6,7,8,9] (by kernel_rfl) (by kernel_rfl) ?_;iterate 5 (apply bC.u rfl;(·intro K' a wy ho hd hb hK;simp[aU,aG,aD,Region.binds]at ho hd;have hld:=(HCP.out wy hb).1;have kC:=hld.c7;go_simp;first|((try go_bits);exact hK _ _ rfl bQ)|(refine(H1.out wy).mono ?_;rintro e wz ⟨rfl,hz⟩;exact hK _ _ rfl hz));dsimp only[nA,cA])
  iterate 2 (apply bC.u rfl;(·intro K' a wy ho hd hb hK;simp[aU,aG,aD,Region.binds]at ho hd;go_simp;first|((try go_bits);exact hK _ _ rfl bQ)|(refine(H2.out wy).mono ?_;rintro e wz ⟨rfl,hz⟩;exact hK _ _ rfl hz));dsimp only[nA,cA])
  intro X wz hR hz;simp only[UM,UN,eY,aG]at hR;simp only[aE,hR];clear hR;obtain⟨hh,hz0⟩:=HCP.out wz hz;have HB:Hid (Below w.heap.size w wz):=HZ.out.drew.trans (hz.mono HZ.out.size);have f1:wz.frozen? ⟨w.heap.size,1,none⟩=false:=hh.free (j:=1) (by simp[fZ]);have f3:wz.frozen? ⟨w.heap.size,3,none⟩=false:=hh.free (j:=3) (by simp[fZ]);obtain⟨k0,k1,k2,k3,k4,k5,k6⟩:=hh.c7;have HH:Hid (aA wz w.heap.size (fZ p)):=hh;have HH0:Hid (aA wz (w.heap.size+1) (sA 0 ⟨#[]⟩ 0 ⟨#[]⟩ 0 0 0)):=hz0;clear hh hz0;intro K10 hK10;go_simp;refine hK10 _ _ ?_;intro K11 hK11;go_simp;refine hK11 _ _ ?_;intro K12 hK12;go_simp;refine hK12 _ _ ?_;show Exit.then _ _ _ _ _;refine hK2 _ _ (hJ _ _ ?_);(repeat apply Exists.intro)
  refine⟨⟨(HH.out.set 1 _).set 3 _,(eO HH0.out).setOther (by omega) _,?_⟩,rfl⟩;exact(sCl HB.out lR).setCell (p:=⟨w.heap.size,3,none⟩) lR _
 case rest=>
  obtain⟨hh,h0,hb⟩:=hcut;have HB:Hid (Below w.heap.size w wc):=hb;obtain⟨k0,k1,k2,k3,k4,k5,k6⟩:=hh.c7;obtain⟨y0,y1,y2,y3,y4,y5,y6⟩:=h0.f7;obtain⟨z0,z1,z2,z3,z4,z5,z6⟩:=h0.c7;clear hh h0 hb;go_wp2_with fail
  refine VB (v:=.agg (iE p).toArray) (by simp[results,Tryz.results142,go_sem,z0,z1,z2,z3,z4,z5,z6]) rfl ⟨rfl,?_⟩;have hsz:w.heap.size≤w.heap.size+1:=Nat.le_succ _;exact(sCl (sCl (sCl (sCl (sCl (sCl (sCl HB.out hsz) hsz) hsz) hsz) hsz) hsz) hsz)
def vU(xs:List Bd):Prop:=xs.length≤1048576∧∀q∈xs,q.inn.size≤1048576∧q.out.size≤1048576
theorem OS(f:Bd→Bool)(xs:List Bd){i:Nat}(hi:i < xs.length)(h:bD f xs=i):xs.find? f=some xs[i]:=by
 obtain⟨j,hj,h1,h2⟩:=nR f xs (by omega);have:j=i:=by omega
 subst this;exact h2
theorem rA(E:Bd→En)(F:Nat)(hG:nM F)(p:En)(xs:List Bd)(a:OA)(cap:Nat)(w:World)(hF:∀q W,Calls Tryz.prog F #[gW q] W fun e w'=>e=.returned (pG (E q))∧Below W.heap.size W w')(hin:vU xs)(hr:bP dP 5 w a xs) :
  Cb 47 #[.slice a xs.length cap,.func (.func F) #[] #[],pG p] w (gW (kF (fun q=>bB (E q) p) xs p.addr)):=by
 have jD:=hin.1;have W3Z:Hid (Below w.heap.size w ((aW (aW w [.func (.func F) #[] #[]] 84) (gT p.VF p.addr p.port) 86).alloc (.cells (gB 0 ⟨#[]⟩ 0 ⟨#[]⟩ 0).toArray 48))):=((bR.alloc lR _).alloc (by simp) _).alloc (by simp;omega) _;have HK1:Hid (aA ((aW (aW w [.func (.func F) #[] #[]] 84) (gT p.VF p.addr p.port) 86).alloc (.cells (gB 0 ⟨#[]⟩ 0 ⟨#[]⟩ 0).toArray 48)) w.heap.size [.func (.func F) #[] #[]]):=((aA.new w _ _).alloc _).alloc _;have HK2:Hid (aA ((aW (aW w [.func (.func F) #[] #[]] 84) (gT p.VF p.addr p.port) 86).alloc (.cells (gB 0 ⟨#[]⟩ 0 ⟨#[]⟩ 0).toArray 48)) (w.heap.size+1) (xW p)):=by
  have h:=(aA.new (w.alloc (.cells #[.func (.func F) #[] #[]] 84)) (xW p) 86).alloc (.cells (gB 0 ⟨#[]⟩ 0 ⟨#[]⟩ 0).toArray 48);rw[UC]at h;exact h
 have HK3:Hid (aA ((aW (aW w [.func (.func F) #[] #[]] 84) (gT p.VF p.addr p.port) 86).alloc (.cells (gB 0 ⟨#[]⟩ 0 ⟨#[]⟩ 0).toArray 48)) (w.heap.size+1+1) (gB 0 ⟨#[]⟩ 0 ⟨#[]⟩ 0)):=by
  have h:=aA.new ((aW w [.func (.func F) #[] #[]] 84).alloc (.cells (gT p.VF p.addr p.port).toArray 86)) (gB 0 ⟨#[]⟩ 0 ⟨#[]⟩ 0) 48;rw[UC,UC]at h;exact h
 have HR:Hid (bP dP 5 w a xs):=hr;have HIN:Hid (vU xs):=hin;have HV:Hid (kF (fun q=>bB (E q) p) xs p.addr=if 20000 < p.addr.size then lB else (xs.find? (fun q=>bB (E q) p)).getD lB):=rfl;have HI:Hid (∀W,Below w.heap.size w W→aA W w.heap.size [.func (.func F) #[] #[]]→aA W (w.heap.size+1) (xW p)→Cb 79 #[.slice a xs.length cap,.func (.func 80) #[] #[.pointer (some ⟨w.heap.size,0,none⟩),.pointer (some ⟨w.heap.size+1,0,none⟩)]] W (iV (bD (fun q=>bB (E q) p) xs))):=fun W hW h1 h2=>uC (fun q=>bB (E q) p) 80 (fun args W=>by kernel_rfl) _ xs a cap W jD (hr.below hW) (fun W' hW' q hq=>FX E F hG q p _ _ W' hF (h1.kept (by simp) hW') (h2.kept (by simp[xW]) hW'))
 have HFO:Hid (∀i,(hi:i < xs.length)→bD (fun q=>bB (E q) p) xs=i→xs.find? (fun q=>bB (E q) p)=some xs[i]):=fun i hi h=>OS _ xs hi h
 have HAT:Hid (¬bD (fun q=>bB (E q) p) xs < 0→∃i:Nat,∃hi:i < xs.length,bD (fun q=>bB (E q) p) xs=i∧xs.find? (fun q=>bB (E q) p)=some xs[i]):=nR _ xs;have HNO:Hid (bD (fun q=>bB (E q) p) xs < 0→xs.find? (fun q=>bB (E q) p)=none):=vO _ xs;have HTL:Hid (∀W,Cw 81 #[.string p.addr] W (.bool (decide (20000 < p.addr.size)))):=fun W=>jM p.addr W
 generalize kF (fun q=>bB (E q) p) xs p.addr=ans at *;generalize xs.find? (fun q=>bB (E q) p)=fd at *;generalize bD (fun q=>bB (E q) p) xs=fi at *;clear hr hin hF hG;unfold pG;have hun:undef=Value.tuple #[]:=rfl;go_enter Tryz.func47,Tryz.ntmps47
 go_upto_region 1 with fail
 generalize World.alloc _ _=W3 at *;go_wp2_with fail
 refine(HI.out _ W3Z.out HK1.out HK2.out).mono ?_;rintro e w1 ⟨rfl,q1⟩;have B1:Hid _:=W3Z.out.trans (q1.mono W3Z.out.size);have K2:=HK2.out.kept (by simp[xW]) q1;have K3:Hid _:=HK3.out.kept (by simp) q1;have k21:=K2.cell (j:=1) rfl;clear q1 K2 HK1 HK2 HK3 W3Z HI;go_wp2_with fail
 refine(HTL.out _).mono ?_;rintro e w1 ⟨rfl,rfl⟩;have hRw:w.heap.size≤w.heap.size+1+1:=by omega
 obtain⟨y0,y1,y2,y3,y4⟩:=K3.out.f5;obtain⟨z0,z1,z2,z3,z4⟩:=K3.out.c5;by_cases hs:20000 < p.addr.size
 ·have HX:Hid (ans=lB):=by unfold Hid;rw[HV.out,if_pos hs]
  have hd:decide (20000 < p.addr.size)=true:=UE hs;rw[hd];go_wp2_with fail
  refine VB (v:=.agg (gB 0 ⟨#[]⟩ 0 ⟨#[]⟩ 0).toArray) (by simp[results,Tryz.results47,go_sem,z0,z1,z2,z3,z4]) rfl (And.intro (congrArg (fun x=>Ending.returned (gW x)) HX.out.symm) ?_);exact(sCl (sCl (sCl (sCl (sCl B1.out hRw) hRw) hRw) hRw) hRw)
 ·have hd:decide (20000 < p.addr.size)=false:=UD hs;rw[hd];by_cases hk:fi < 0
  ·have HX:Hid (ans=lB):=by unfold Hid;rw[HV.out,if_neg hs,HNO.out hk];rfl
   go_wp2_with fail
   refine VB (v:=.agg (gB 0 ⟨#[]⟩ 0 ⟨#[]⟩ 0).toArray) (by simp[results,Tryz.results47,go_sem,z0,z1,z2,z3,z4]) rfl (And.intro (congrArg (fun x=>Ending.returned (gW x)) HX.out.symm) ?_);exact(sCl (sCl (sCl (sCl (sCl B1.out hRw) hRw) hRw) hRw) hRw)
  ·obtain⟨i,hi,hfi,hfd⟩:=HAT.out (by omega);subst hfi;obtain⟨b,off,rfl,hb,hat⟩:=HR.out.at hi;have hA:=(hat.below hb B1.out) i hi;have hsz:=HIN.out.2 xs[i] (UJ hi);obtain⟨q,hq⟩: ∃q,xs[i]=q:=⟨_,rfl⟩;rw[hq]at hA hfd hsz;have HX:Hid (ans=q):=by unfold Hid;rw[HV.out,if_neg hs,hfd];rfl
   obtain⟨c0,c1,c2,c3,c4⟩:=LH hA;have HCY:Hid (∀W,Cb 82 #[.agg (cZ q).toArray] W (.agg (cZ q).toArray)):=fun W=>kR q W hsz.1 hsz.2
   clear hA hat hq hfd hsz HAT HNO HFO HV z0 z1 z2 z3 z4 y0 y1 y2 y3 y4;have hiI:(i:Int) < (xs.length:Int):=by omega
   go_wp2_with fail
   refine(HCY.out _).mono ?_;rintro e w3 ⟨rfl,q3⟩;have B3:Hid _:=B1.out.trans (q3.mono B1.out.size);have K4:Hid _:=K3.out.kept (by simp) q3;obtain⟨y0,y1,y2,y3,y4⟩:=K4.out.f5;obtain⟨z0,z1,z2,z3,z4⟩:=K4.out.c5;clear q3 c0 c1 c2 c3 c4;go_wp2_with fail
   refine VB (v:=.agg (cZ q).toArray) (by simp[results,Tryz.results47,go_sem,z0,z1,z2,z3,z4]) rfl (And.intro (congrArg (fun x=>Ending.returned (gW x)) HX.out.symm) ?_);exact(sCl (sCl (sCl (sCl (sCl B3.out hRw) hRw) hRw) hRw) hRw)
theorem wG(xs:List Bd)(VF:Int)(s:BA)(port:Int)(a:OA)(cap:Nat)(sv:Value)(hsv:sv.oneCell'=true)(w:World)(hin:vU xs)(hr:bP dP 5 w a xs) :
  Cb 24 #[.agg #[.slice a xs.length cap,sv],iV VF,.string s,iV port] w (gW (kF (cD VF s port) xs s)):=by
 have hR:∀W,Below w.heap.size w W→Cb 47 #[.slice a xs.length cap,.func (.func 53) #[] #[],.agg (gT VF s port).toArray] W (gW (kF (cD VF s port) xs s)):=fun W hW=>by
  have h:=rA bO 53 (fun args W=>by kernel_rfl) ⟨VF,s,port⟩ xs a cap W (fun q W=>lN q W) hin (hr.below hW);rw[show (fun q=>bB (bO q) ⟨VF,s,port⟩)=cD VF s port from funext fun q=>nE VF s port q]at h;exact h
 have HR:Hid _:=hR;have HB:Hid (Below w.heap.size w ((aW w [.slice a xs.length cap,sv] 31).alloc (.cells (gB 0 ⟨#[]⟩ 0 ⟨#[]⟩ 0).toArray 48))):=(bR.alloc lR _).alloc (by simp) _;have HK:Hid (aA ((aW w [.slice a xs.length cap,sv] 31).alloc (.cells (gB 0 ⟨#[]⟩ 0 ⟨#[]⟩ 0).toArray 48)) w.heap.size [.slice a xs.length cap,sv]):=(aA.new w _ _).alloc _;have HK3:Hid (aA ((aW w [.slice a xs.length cap,sv] 31).alloc (.cells (gB 0 ⟨#[]⟩ 0 ⟨#[]⟩ 0).toArray 48)) (w.heap.size+1) (gB 0 ⟨#[]⟩ 0 ⟨#[]⟩ 0)):=by
  have h:=aA.new (w.alloc (.cells #[.slice a xs.length cap,sv] 31)) (gB 0 ⟨#[]⟩ 0 ⟨#[]⟩ 0) 48;rw[UC]at h;exact h
 generalize kF (cD VF s port) xs s=ans at *;unfold gW at HR;clear hin hr hR;go_enter Tryz.func24,Tryz.ntmps24
 go_upto_region 1 with fail
 generalize World.alloc _ _=W at *;have k0:=HK.out.cell (j:=0) rfl;go_wp2_with fail
 refine(HR.out _ HB.out).mono ?_;rintro e w1 ⟨rfl,q1⟩;have B1:Hid _:=HB.out.trans (q1.mono HB.out.size);have K3:Hid _:=HK3.out.kept (by simp) q1;have hRw:w.heap.size≤w.heap.size+1:=by omega
 obtain⟨y0,y1,y2,y3,y4⟩:=K3.out.f5;obtain⟨z0,z1,z2,z3,z4⟩:=K3.out.c5;clear q1 k0 HK HK3 HB HR;go_wp2_with fail
 refine VB (v:=.agg (cZ ans).toArray) (by simp[results,Tryz.results24,go_sem,z0,z1,z2,z3,z4]) rfl ⟨rfl,?_⟩;exact(sCl (sCl (sCl (sCl (sCl B1.out hRw) hRw) hRw) hRw) hRw)
theorem wF(xs:List Bd)(VF:Int)(s:BA)(port:Int)(a:OA)(cap:Nat)(sv:Value)(hsv:sv.oneCell'=true)(w:World)(hin:vU xs)(hr:bP dP 5 w a xs) :
  Cb 20 #[.agg #[.slice a xs.length cap,sv],iV VF,.string s,iV port] w (gW (kF (cV VF s port) xs s)):=by
 have hR:∀W,Below w.heap.size w W→Cb 47 #[.slice a xs.length cap,.func (.func 48) #[] #[],.agg (gT VF s port).toArray] W (gW (kF (cV VF s port) xs s)):=fun W hW=>by
  have h:=rA iP 48 (fun args W=>by kernel_rfl) ⟨VF,s,port⟩ xs a cap W (fun q W=>pW q W) hin (hr.below hW);rw[show (fun q=>bB (iP q) ⟨VF,s,port⟩)=cV VF s port from funext fun q=>pX VF s port q]at h;exact h
 have HR:Hid _:=hR;have HB:Hid (Below w.heap.size w ((aW w [.slice a xs.length cap,sv] 31).alloc (.cells (gB 0 ⟨#[]⟩ 0 ⟨#[]⟩ 0).toArray 48))):=(bR.alloc lR _).alloc (by simp) _;have HK:Hid (aA ((aW w [.slice a xs.length cap,sv] 31).alloc (.cells (gB 0 ⟨#[]⟩ 0 ⟨#[]⟩ 0).toArray 48)) w.heap.size [.slice a xs.length cap,sv]):=(aA.new w _ _).alloc _;have HK3:Hid (aA ((aW w [.slice a xs.length cap,sv] 31).alloc (.cells (gB 0 ⟨#[]⟩ 0 ⟨#[]⟩ 0).toArray 48)) (w.heap.size+1) (gB 0 ⟨#[]⟩ 0 ⟨#[]⟩ 0)):=by
  have h:=aA.new (w.alloc (.cells #[.slice a xs.length cap,sv] 31)) (gB 0 ⟨#[]⟩ 0 ⟨#[]⟩ 0) 48;rw[UC]at h;exact h
 generalize kF (cV VF s port) xs s=ans at *;unfold gW at HR;clear hin hr hR;go_enter Tryz.func20,Tryz.ntmps20
 go_upto_region 1 with fail
 generalize World.alloc _ _=W at *;have k0:=HK.out.cell (j:=0) rfl;go_wp2_with fail
 refine(HR.out _ HB.out).mono ?_;rintro e w1 ⟨rfl,q1⟩;have B1:Hid _:=HB.out.trans (q1.mono HB.out.size);have K3:Hid _:=HK3.out.kept (by simp) q1;have hRw:w.heap.size≤w.heap.size+1:=by omega
 obtain⟨y0,y1,y2,y3,y4⟩:=K3.out.f5;obtain⟨z0,z1,z2,z3,z4⟩:=K3.out.c5;clear q1 k0 HK HK3 HB HR;go_wp2_with fail
 refine VB (v:=.agg (cZ ans).toArray) (by simp[results,Tryz.results20,go_sem,z0,z1,z2,z3,z4]) rfl ⟨rfl,?_⟩;exact(sCl (sCl (sCl (sCl (sCl B1.out hRw) hRw) hRw) hRw) hRw)
theorem sF{α:Type}(f:α→Bool)(xs:List α): -1≤bD f xs∧bD f xs < xs.length:=by
 unfold bD
 cases h:xs.findIdx? f with
 | none=>simp;omega
 | some i=>
  obtain⟨hi,_,_⟩:=List.findIdx?_eq_some_iff_getElem.1 h;simp;omega
theorem wZ(p:Sk)(xs:List Ss)(a:OA)(cap:Nat)(w:World)(hl:xs.length≤1048576)(hr:bP fZ 7 w a xs) :
  Cb 107 #[.slice a xs.length cap,SN p] w (iV (bD (fun q=>dK (eA q) p) xs)):=by
 have HZ:Hid (Below w.heap.size w (w.alloc (.cells (gB p.host.VF p.host.addr p.host.port p.peer p.VG).toArray 147))):=bR.alloc lR _;have HK:Hid (aA (w.alloc (.cells (gB p.host.VF p.host.addr p.host.port p.peer p.VG).toArray 147)) w.heap.size (NN p)):=aA.new w (NN p) 147;have HI:Hid (∀W,Below w.heap.size w W→aA W w.heap.size (NN p)→Cb 137 #[.slice a xs.length cap,.func (.func 138) #[] #[.pointer (some ⟨w.heap.size,0,none⟩)]] W (iV (bD (fun q=>dK (eA q) p) xs))):=fun W hW h1=>pQ (fun q=>dK (eA q) p) 138 (fun args W=>by kernel_rfl) _ xs a cap W hl (hr.below hW) (fun W' hW' q hq=>DZ q p _ W' (h1.kept (by simp[NN]) hW'))
 obtain⟨hf1,hf2⟩:=sF (fun q=>dK (eA q) p) xs;generalize bD (fun q=>dK (eA q) p) xs=fi at *;clear hr;unfold SN;go_enter Tryz.func107,Tryz.ntmps107
 go_upto_region 1 with fail
 generalize (w.alloc (.cells (gB p.host.VF p.host.addr p.host.port p.peer p.VG).toArray 147))=W at *;go_wp2_with fail
 refine(HI.out _ HZ.out HK.out).mono ?_;rintro e w1 ⟨rfl,q1⟩;have B1:Hid _:=HZ.out.trans (q1.mono HZ.out.size);clear q1;go_wp2_with fail
 go_ret;exact⟨rfl,B1.out⟩
theorem uB(f:Ss→Bool)(F:Nat)(hG:nM F)(caps:Array Value)(xs:List Ss)(a:OA)(cap:Nat)(w:World)(hl:xs.length≤1048576)(hr:bP fZ 7 w a xs)(hC:∀W,Below w.heap.size w W→∀q,q∈xs→Calls Tryz.prog F (#[xL q]++caps) W fun e w'=>e=.returned (.bool (f q))∧Below W.heap.size W w') :
  Cb 168 #[.slice a xs.length cap,.func (.func F) #[] caps] w (.bool (xs.any f)):=by
 have HI:Hid _:=pQ f F hG caps xs a cap w hl hr hC;have HF:Hid (decide (0≤bD f xs)=xs.any f):=mN f xs;obtain⟨hf1,hf2⟩:=sF f xs;generalize xs.any f=ans at *;generalize bD f xs=fi at *;clear hr hC hG;go_enter Tryz.func168,Tryz.ntmps168
 go_wp2_with fail
 refine Calls.mono HI.out ?_;rintro e w1 ⟨rfl,b1⟩;have B1:Hid _:=b1;clear b1;go_wp2_with fail
 go_ret;exact⟨aC HF.out,B1.out⟩
theorem DE(b:Bd)(xs:List Ss)(a:OA)(cap:Nat)(w:World)(hl:xs.length≤1048576)(hr:bP fZ 7 w a xs) :
  Cb 166 #[.slice a xs.length cap,gW b] w (.bool (xs.any (gR b))):=by
 have HZ:Hid (Below w.heap.size w (w.alloc (.cells (cZ b).toArray 48))):=bR.alloc lR _;have HH:Hid (∀W,Cb 53 #[.agg (cZ b).toArray] W (.agg (gT b.VF b.inn b.VH).toArray)):=fun W=>lN b W
 have HC:Hid (∀W B,Below w.heap.size w W→aA W B (xW (bO b))→Cb 168 #[.slice a xs.length cap,.func (.func 181) #[] #[.pointer (some ⟨B,0,none⟩)]] W (.bool (xs.any (gR b)))):=fun W B hW hB=>by
  have h:=uB (fun q=>bB (hH q) (bO b)) 181 (fun args W=>by kernel_rfl) #[.pointer (some ⟨B,0,none⟩)] xs a cap W hl (hr.below hW) (fun W' hW' q hq=>AN q (bO b) B W' (hB.kept (by simp[xW]) hW'));rw[show (fun q=>bB (hH q) (bO b))=gR b from funext fun q=>sR b q]at h;exact h
 generalize xs.any (gR b)=ans at *;clear hr;unfold gW;go_enter Tryz.func166,Tryz.ntmps166
 go_wp2_with fail
 refine(HH.out _).mono ?_;rintro e w1 ⟨rfl,q1⟩;have B1:Below w.heap.size w w1:=HZ.out.trans (q1.mono HZ.out.size);go_upto_region 2 with fail
 have B2:Hid (Below w.heap.size w (w1.alloc (.cells (gT b.VF b.inn b.VH).toArray 86))):=B1.alloc B1.size _;have K2:Hid (aA (w1.alloc (.cells (gT b.VF b.inn b.VH).toArray 86)) w1.heap.size (xW (bO b))):=aA.new w1 (xW (bO b)) 86;generalize (w1.alloc (.cells (gT b.VF b.inn b.VH).toArray 86))=W2 at *;clear q1 B1 HZ HH;go_wp2_with fail
 refine(HC.out _ _ B2.out K2.out).mono ?_;rintro e w3 ⟨rfl,q3⟩;have B3:Hid _:=B2.out.trans (q3.mono B2.out.size);clear q3;go_wp2_with fail
 go_ret;exact⟨rfl,B3.out⟩
theorem GZ(q:Bd)(s:BA)(B:Nat)(w:World)(hB:aA w B [.string s]) :
  Cb 180 #[gW q,.pointer (some ⟨B,0,none⟩)] w (.bool (cY s q)):=by
 have HZ:Hid (Below w.heap.size w (w.alloc (.cells (cZ q).toArray 48))):=bR.alloc lR _;have K1:=hB.alloc (.cells (cZ q).toArray 48);have K2:aA (w.alloc (.cells (cZ q).toArray 48)) w.heap.size (dP q):=aA.new w (dP q) 48;have HV:Hid (cY s q=decide (q.inn.toList=s.toList)):=rfl;generalize cY s q=ans at *;unfold gW;go_enter Tryz.func180,Tryz.ntmps180
 go_upto_region 1 with fail
 generalize (w.alloc (.cells (cZ q).toArray 48))=W at *;have c1:=K2.cell (j:=1) rfl;have k0:=K1.cell (j:=0) rfl;clear K1 K2 hB;go_wp2_with fail
 go_ret;exact⟨aC (by rw[HV.out];first | rfl | (rw[Bool.eq_iff_iff];simp)),HZ.out⟩
theorem zB(s:BA)(xs:List Bd)(a:OA)(cap:Nat)(w:World)(hl:xs.length≤1048576)(hr:bP dP 5 w a xs) :
  Cb 164 #[.slice a xs.length cap,.string s] w (.tuple #[.string (dV xs ⟨#[]⟩ s),.bool (xs.find? (cY s)).isSome]):=by
 have HZ:Hid (Below w.heap.size w (w.alloc (.cells #[.string s] 9))):=bR.alloc lR _;have HK:Hid (aA (w.alloc (.cells #[.string s] 9)) w.heap.size [.string s]):=aA.new w _ _;have HI:Hid (∀W,Below w.heap.size w W→aA W w.heap.size [.string s]→Cb 79 #[.slice a xs.length cap,.func (.func 180) #[] #[.pointer (some ⟨w.heap.size,0,none⟩)]] W (iV (bD (cY s) xs))):=fun W hW h1=>uC (cY s) 180 (fun args W=>by kernel_rfl) _ xs a cap W hl (hr.below hW) (fun W' hW' q hq=>GZ q s _ W' (h1.kept (by simp) hW'))
 have HR:Hid (bP dP 5 w a xs):=hr;have HV:Hid (dV xs ⟨#[]⟩ s=match xs.find? (cY s) with | some c=>c.out | none=>⟨#[]⟩):=rfl;have HAT:Hid (0≤bD (cY s) xs→∃i:Nat,∃hi:i < xs.length,bD (cY s) xs=i∧xs.find? (cY s)=some xs[i]):=fun h=>nR _ xs (by omega)
 have HNO:Hid (bD (cY s) xs < 0→xs.find? (cY s)=none):=vO _ xs;obtain⟨hf1,hf2⟩:=sF (cY s) xs;generalize dV xs ⟨#[]⟩ s=ans at *;generalize xs.find? (cY s)=fd at *;generalize bD (cY s) xs=fi at *;clear hr;go_enter Tryz.func164,Tryz.ntmps164
 go_upto_region 1 with fail
 generalize (w.alloc (.cells #[.string s] 9))=W at *;go_wp2_with fail
 refine(HI.out _ HZ.out HK.out).mono ?_;rintro e w1 ⟨rfl,q1⟩;have B1:Hid _:=HZ.out.trans (q1.mono HZ.out.size);clear q1 HI HK HZ;by_cases hk:fi < 0
 ·have HX:=HNO.out hk;have HA:Hid (ans=⟨#[]⟩∧fd.isSome=false):=by unfold Hid;rw[HV.out,HX];exact⟨rfl,rfl⟩
  clear HX HNO HAT HV;go_wp2_with fail
  go_ret2
  exact⟨by rw[HA.out.1,HA.out.2];rfl,B1.out⟩
 ·obtain⟨i,hi,hfi,hfd⟩:=HAT.out (by omega);subst hfi;obtain⟨b,off,rfl,hb,hat⟩:=HR.out.at hi;have hA:=(hat.below hb B1.out) i hi;obtain⟨q,hq⟩: ∃q,xs[i]=q:=⟨_,rfl⟩;rw[hq]at hA hfd;have HA:Hid (ans=q.out∧fd.isSome=true):=by unfold Hid;rw[HV.out,hfd];exact⟨rfl,rfl⟩
  have c3:w1.cell? ⟨b,off+i*5+3,none⟩=some (.string q.out):=hA 3 _ rfl;have hiI:(i:Int) < (xs.length:Int):=by omega
  clear hA hat hq hfd HAT HNO HV;go_wp2_with fail
  go_ret2
  exact⟨by rw[HA.out.1,HA.out.2];rfl,B1.out⟩
theorem yK(q:Ss)(w:World)(hs:q.peer.size≤1048576) :
  Cb 135 #[xL q] w (.bool (sP q)):=by
 have HZ:Hid (Below w.heap.size w (w.alloc (.cells (iE q).toArray 59))):=bR.alloc lR _;have K2:aA (w.alloc (.cells (iE q).toArray 59)) w.heap.size (fZ q):=aA.new w (fZ q) 59;have HW:Hid (∀W,Cw 122 #[iV q.VG] W (.bool (jS q.VG))):=fun W=>dU _ W
 have HT:Hid (∀W,Cw 144 #[iV q.state] W (.bool (aO q.state 1 7))):=fun W=>uH _ W
 have HO:Hid (∀W,Cw 143 #[iV q.VF] W (.bool (dF q.VF))):=fun W=>nO _ W
 have HV:Hid (sP q=(decide (q.peer.size=4)&&jS q.VG&&aO q.state 1 7&&(decide (q.state=3)||!dF q.VF)&&(decide (0≤q.untl)&&decide (q.untl≤2000000000)))):=rfl;generalize sP q=ans at *;generalize jS q.VG=b1 at *;generalize aO q.state 1 7=b2 at *;generalize dF q.VF=b3 at *;have hun:undef=Value.tuple #[]:=rfl;unfold xL;go_enter Tryz.func135,Tryz.ntmps135
 go_upto_region 1 with fail
 generalize (w.alloc (.cells (iE q).toArray 59))=W at *;obtain⟨c0,c1,c2,c3,c4,c5,c6⟩:=K2.c7;clear K2;by_cases h4:q.peer.size=4
 case neg=>
  have HX:Hid (ans=false):=by unfold Hid;rw[HV.out,UD h4];rfl
  have h4i:¬(q.peer.size:Int)=4:=by omega
  have d1:((q.peer.size:Int)==4)=false:=by simp[h4i]
  go_wp2_with fail
  go_ret;exact⟨aC HX.out.symm,HZ.out⟩
 have h4i:(q.peer.size:Int)=4:=by omega
 have d1:((q.peer.size:Int)==4)=true:=by simp[h4i]
 clear h4i;go_wp2_with fail
 refine(HW.out _).mono ?_;rintro e W ⟨rfl,rfl⟩
 cases b1 with
 | false=>
  have HX:Hid (ans=false):=by unfold Hid;rw[HV.out];simp
  go_wp2_with fail
  go_ret;exact⟨aC HX.out.symm,HZ.out⟩
 | true=>
 go_wp2_with fail
 refine(HT.out _).mono ?_;rintro e W ⟨rfl,rfl⟩
 cases b2 with
 | false=>
  have HX:Hid (ans=false):=by unfold Hid;rw[HV.out];simp
  go_wp2_with fail
  go_ret;exact⟨aC HX.out.symm,HZ.out⟩
 | true=>
 by_cases h3:q.state=3
 ·have e3:(q.state==3)=true:=by simp[h3]
  have HV2:Hid (ans=(decide (0≤q.untl)&&decide (q.untl≤2000000000))):=by unfold Hid;rw[HV.out,UE h4,UE h3];rfl
  have HH3:Hid (q.state=3):=h3;clear h3 HV;by_cases t0:0≤q.untl
  case neg=>
   have HX:Hid (ans=false):=by unfold Hid;rw[HV2.out,UD t0];simp
   have d0:decide (0≤q.untl)=false:=UD t0;go_wp2_with fail
   go_ret;exact⟨aC HX.out.symm,HZ.out⟩
  have d0:decide (0≤q.untl)=true:=UE t0;by_cases t1:q.untl≤2000000000
  case neg=>
   have HX:Hid (ans=false):=by unfold Hid;rw[HV2.out,UD t1];simp
   have d9:decide (q.untl≤2000000000)=false:=UD t1;go_wp2_with fail
   go_ret;exact⟨aC HX.out.symm,HZ.out⟩
  have d9:decide (q.untl≤2000000000)=true:=UE t1;have HX:Hid (ans=true):=by unfold Hid;rw[HV2.out,UE t0,UE t1];rfl
  go_wp2_with fail
  go_ret;exact⟨aC HX.out.symm,HZ.out⟩
 ·have e3:(q.state==3)=false:=by simp[h3]
  have HV2:Hid (ans=(!b3&&(decide (0≤q.untl)&&decide (q.untl≤2000000000)))):=by unfold Hid;rw[HV.out,UE h4,UD h3];rfl
  clear HV;go_wp2_with fail
  refine(HO.out _).mono ?_;rintro e W ⟨rfl,rfl⟩
  cases b3 with
  | true=>
   have HX:Hid (ans=false):=by unfold Hid;rw[HV2.out];rfl
   go_wp2_with fail
   go_ret;exact⟨aC HX.out.symm,HZ.out⟩
  | false=>
  by_cases t0:0≤q.untl
  case neg=>
   have HX:Hid (ans=false):=by unfold Hid;rw[HV2.out,UD t0];simp
   have d0:decide (0≤q.untl)=false:=UD t0;go_wp2_with fail
   go_ret;exact⟨aC HX.out.symm,HZ.out⟩
  have d0:decide (0≤q.untl)=true:=UE t0;by_cases t1:q.untl≤2000000000
  case neg=>
   have HX:Hid (ans=false):=by unfold Hid;rw[HV2.out,UD t1];simp
   have d9:decide (q.untl≤2000000000)=false:=UD t1;go_wp2_with fail
   go_ret;exact⟨aC HX.out.symm,HZ.out⟩
  have d9:decide (q.untl≤2000000000)=true:=UE t1;have HX:Hid (ans=true):=by unfold Hid;rw[HV2.out,UE t0,UE t1];rfl
  go_wp2_with fail
  go_ret;exact⟨aC HX.out.symm,HZ.out⟩
open Go.Maps (Keyed)
def CO(pa:OA)(pc:Nat)(p:Pl)(a b:OA)(ca cb:Nat)(x:Bb)(m1 m2:Nat):Value:=.agg (iM pa pc p a ca b cb x m1 m2).toArray
def qX(e:En):Prop:=e.addr.size≤1048576∧gV e.VF∧gV e.port
def fG(q:Bd):Prop:=q.inn.size≤1048576∧q.out.size≤1048576∧gV q.VF∧gV q.VH∧gV q.VI
def iI(s:Ss):Prop:=s.inn.size≤1048576∧s.peer.size≤1048576∧gV s.VF∧gV s.VH
theorem wE{q:Bd}(h:fG q):qX (bO q):=⟨h.1,h.2.2.1,h.2.2.2.1⟩
theorem DM{q:Bd}(h:fG q):qX (iP q):=⟨h.2.1,h.2.2.1,h.2.2.2.2⟩
theorem NG{s:Ss}(h:iI s):qX (hH s):=⟨h.1,h.2.2.1,h.2.2.2⟩
theorem wX(q p:En):bB q p=true↔q=p:=by
 rw[mQ];simp only[UB,UF];constructor
 ·rintro⟨⟨h1,h2⟩,h3⟩;have h4:q.addr=p.addr:=by
   rw[ByteArray.toList_eq,ByteArray.toList_eq]at h2;apply ByteArray.ext;exact Array.toList_inj.1 h2
  cases q;cases p;simp_all
 ·rintro rfl;simp
theorem OQ{q p:En}(h:pG q=pG p):q=p:=by
 unfold pG at h;simp at h
 cases q;cases p;simp_all
theorem iZ{α:Type}(f:α→Bool)(xs:List α):(xs.find? f).isSome=xs.any f:=by
 rw[Bool.eq_iff_iff,List.find?_isSome,List.any_eq_true]
theorem pU:Keyed Tryz.prog 86:=Keyed.of_law (deep_law_gate (by kernel_rfl) (of_decide_eq_true (by kernel_rfl)) (of_decide_eq_true (by kernel_rfl)) (by kernel_rfl) (by kernel_rfl))
theorem PY{n:Int}(h:gV n):(Lit.int .i64 n).wf=true:=by
 simp[Lit.wf];exact⟨h.1,h.2⟩
theorem pS(e:En)(h:qX e):∃l,keyOf Tryz.prog 86 (pG e)=some l:=by
 obtain⟨h1,h3,h4⟩:=h;have h1:e.addr.size≤maxLen:=by unfold maxLen;omega
 have k1:Tryz.prog.keyType 86=true:=by kernel_rfl
 have k2:Tryz.prog.cellsOf 86=3:=by kernel_rfl
 have k3:Tryz.prog.cellsOf 9=1:=by kernel_rfl
 have k4:Tryz.prog.cellsOf 2=1:=by kernel_rfl
 have k5:∃m,Tryz.prog.types.size+1=m+2:=⟨Tryz.prog.types.size-1,by have:1≤Tryz.prog.types.size:=of_decide_eq_true (by kernel_rfl);omega⟩;obtain⟨m,k5⟩:=k5;have w3:=PY h3;have w4:=PY h4;unfold keyOf;rw[Tryz.underlying86];simp only[k1,Value.formed,pG,Tryz.underlying86,k2,Value.cells,k5];simp[Program.keyLits,Tryz.underlying86,Tryz.underlying9,Tryz.underlying2,k2,k3,k4,h1,w3,w4]
theorem CC(w:World):(zeroValue 48).run Tryz.prog w=.ok (gW lB) w:=by kernel_rfl
structure QC(w:World)(m1 m2:Nat)(xs ys:List Bd)(M1 M2:Value→Option Value):Prop where
 h1:jQ Tryz.prog 86 w m1 M1
 h2:jQ Tryz.prog 86 w m2 M2
 v1:∀e:En,M1 (pG e)=(xs.find? fun q=>bB (bO q) e).map gW
 v2:∀e:En,M2 (pG e)=(ys.find? fun q=>bB (iP q) e).map gW
 ne:m1≠m2
def dJ(w:World)(m1 m2:Nat)(xs ys:List Bd):Prop:=∃M1 M2,QC w m1 m2 xs ys M1 M2
section
variable {w W:World} {m1 m2:Nat} {xs ys:List Bd}
theorem dJ.kept(h:dJ w m1 m2 xs ys)(hb:Below w.heap.size w W):dJ W m1 m2 xs ys:=by
 obtain⟨M1,M2,h⟩:=h;exact⟨M1,M2,h.h1.below hb,h.h2.below hb,h.v1,h.v2,h.ne⟩
theorem dJ.lt(h:dJ w m1 m2 xs ys):m1 < w.heap.size∧m2 < w.heap.size∧m1≠m2:=by
 obtain⟨M1,M2,h⟩:=h;exact⟨h.h1.lt,h.h2.lt,h.ne⟩
theorem dJ.made{w:World}:dJ ((w.alloc (.map #[] 0)).alloc (.map #[] 0)) w.heap.size (w.heap.size+1) [] []:=by
 have h2:=jQ.made (P:=Tryz.prog) (k:=86) (w.alloc (.map #[] 0));rw[UC]at h2;refine⟨fun _=>none,fun _=>none,(jQ.made w).below (bR.alloc lR _),h2,fun e=>rfl,fun e=>rfl,by omega⟩
theorem BB(o:Option Bd):(o.map gW).getD (gW lB)=gW (o.getD lB):=by cases o<;>rfl
theorem dJ.look1(h:dJ w m1 m2 xs ys){e:En}(he:qX e):(Instr.lookup 137 (.map (some m1)) (pG e) true).run Tryz.prog w=.ok (.tuple #[gW ((xs.find? fun q=>bB (bO q) e).getD lB),.bool (xs.find? fun q=>bB (bO q) e).isSome]) w:=by
 obtain⟨M1,M2,h⟩:=h;obtain⟨l,hl⟩:=pS e he;have h1:=(h.h1.look (t:=137) pU Tryz.underlying137 hl (CC w)).2;rw[h.v1,BB,Option.isSome_map]at h1;exact h1
theorem dJ.get1(h:dJ w m1 m2 xs ys){e:En}(he:qX e):(Instr.lookup 137 (.map (some m1)) (pG e) false).run Tryz.prog w=.ok (gW ((xs.find? fun q=>bB (bO q) e).getD lB)) w:=by
 obtain⟨M1,M2,h⟩:=h;obtain⟨l,hl⟩:=pS e he;have h1:=(h.h1.look (t:=137) pU Tryz.underlying137 hl (CC w)).1;rw[h.v1,BB]at h1;exact h1
theorem dJ.look2(h:dJ w m1 m2 xs ys){e:En}(he:qX e):(Instr.lookup 137 (.map (some m2)) (pG e) true).run Tryz.prog w=.ok (.tuple #[gW ((ys.find? fun q=>bB (iP q) e).getD lB),.bool (ys.find? fun q=>bB (iP q) e).isSome]) w:=by
 obtain⟨M1,M2,h⟩:=h;obtain⟨l,hl⟩:=pS e he;have h1:=(h.h2.look (t:=137) pU Tryz.underlying137 hl (CC w)).2;rw[h.v2,BB,Option.isSome_map]at h1;exact h1
theorem yR(E:Bd→En)(xs:List Bd)(q:Bd)(hn:xs.any (fun c=>bB (E c) (E q))=false)(M M':Value→Option Value)(hM:∀e:En,M (pG e)=(xs.find? fun c=>bB (E c) e).map gW)(h1:M' (pG (E q))=some (gW q))(h2:∀y,y≠pG (E q)→M' y=M y)(e:En):M' (pG e)=((xs++[q]).find? fun c=>bB (E c) e).map gW:=by
 rw[List.find?_append];by_cases he:e=E q
 ·subst he;have h0:xs.find? (fun c=>bB (E c) (E q))=none:=List.find?_eq_none.2 (fun c hc=>List.any_eq_false.1 hn c hc);have hs:bB (E q) (E q)=true:=(wX _ _).2 rfl;rw[h0,h1];simp[hs]
 ·have hs:bB (E q) e=false:=by
   cases h:bB (E q) e with
   | false=>rfl
   | true=>exact absurd ((wX _ _).1 h).symm he
  rw[h2 _ (fun h=>he (OQ h)),hM];simp[hs]
theorem dJ.put1(h:dJ w m1 m2 xs ys){q:Bd}(hq:qX (bO q))(hn:xs.any (fun c=>bB (bO c) (bO q))=false) :
  ∃W,(Instr.mapUpdate 137 (.map (some m1)) (pG (bO q)) (gW q)).run Tryz.prog w=.ok () W∧dJ W m1 m2 (xs++[q]) ys∧w.grownBy W (some m1):=by
 obtain⟨M1,M2,h⟩:=h;obtain⟨l,hl⟩:=pS _ hq;obtain⟨W,M',hup,hM',hx,hoth,hg,hs⟩:=h.h1.put (v:=gW q) pU Tryz.underlying137 hl;exact⟨W,hup,⟨M',M2,hM',h.h2.grown hg (by simp;exact fun e=>h.ne e.symm),yR bO xs q hn M1 M' h.v1 hx hoth,h.v2,h.ne⟩,hg⟩
theorem dJ.put2(h:dJ w m1 m2 xs ys){q:Bd}(hq:qX (iP q))(hn:ys.any (fun c=>bB (iP c) (iP q))=false) :
  ∃W,(Instr.mapUpdate 137 (.map (some m2)) (pG (iP q)) (gW q)).run Tryz.prog w=.ok () W∧dJ W m1 m2 xs (ys++[q])∧w.grownBy W (some m2):=by
 obtain⟨M1,M2,h⟩:=h;obtain⟨l,hl⟩:=pS _ hq;obtain⟨W,M',hup,hM',hx,hoth,hg,hs⟩:=h.h2.put (v:=gW q) pU Tryz.underlying137 hl;exact⟨W,hup,⟨M1,M',h.h1.grown hg (by simp;exact h.ne),hM',h.v1,yR iP ys q hn M2 M' h.v2 hx hoth,h.ne⟩,hg⟩
end
def LN(base:Nat):Value→World→Prop:=fun v w=>∃g,v=.pointer (some ⟨g,0,none⟩)∧base≤g∧aA w g (dP lB)
theorem uS(base:Nat):eZ (LN base):=fun v w w' ⟨g,h1,h2,h3⟩ hb=>⟨g,h1,h2,h3.kept (by simp[dP]) hb⟩
theorem GH(xs:List BA)(s:BA)(a:OA)(cap:Nat)(w:World)(jD:xs.length≤1048576)(hr:bP cB 1 w a xs) :
  Calls Tryz.prog 128 #[.slice a xs.length cap,.string s] w fun e w'=>(∃r:Int,e=.returned (iV r)∧decide (0≤r)=mW xs s)∧Below w.heap.size w w':=by
 have HR:Hid (bP cB 1 w a xs):=hr;have HV:Hid (mW xs s=xs.any fun t=>decide (t.toList=s.toList)):=rfl;generalize mW xs s=ans at *;clear hr;go_enter Tryz.func128,Tryz.ntmps128
 go_wp2_with fail
 go_loopw [8] (fun iv wr=>∃i:Nat,i≤xs.length∧iv=iV i∧(xs.take i).any (fun t=>decide (t.toList=s.toList))=false∧Below w.heap.size w wr) (fun iv _=>xs.length-(intOf iv).toNat)
 case atStart=>exact⟨0,VC _,rfl,rfl,Below.refl _ _⟩
 case round=>
  obtain⟨i,hi,rfl,hn,hbel⟩:=hrel;have HN:Hid ((xs.take i).any (fun t=>decide (t.toList=s.toList))=false):=hn;have HL:Hid (Below w.heap.size w wr):=hbel;clear hn hbel;by_cases hlt:i < xs.length
  ·obtain⟨b,off,rfl,hb,hat⟩:=HR.out.at hlt;have hA:=(hat.below hb HL.out) i hlt;have HST:Hid _:=jW (fun t:BA=>decide (t.toList=s.toList)) xs i hlt;have HAT:Hid _:=tF (fun t:BA=>decide (t.toList=s.toList)) xs i hlt;obtain⟨t,ht⟩: ∃t,xs[i]=t:=⟨_,rfl⟩;rw[ht]at hA HST HAT;have c0:wr.cell? ⟨b,off+i,none⟩=some (.string t):=by have:=hA 0 _ rfl;simpa using this
   have c0':wr.cell? ⟨b,off+i*1,none⟩=some (.string t):=by simpa using c0
   clear hA hat ht;by_cases he:t.toList=s.toList
   ·have HX:Hid (ans=true):=by unfold Hid;rw[HV.out];exact HAT.out (UE he)
    have hbq:(s.toList==t.toList)=true:=by simp[he]
    clear he;go_wp2_with fail
    go_ret;exact⟨⟨i,rfl,by rw[HX.out];simp⟩,HL.out⟩
   ·have HN2:Hid ((xs.take (i+1)).any (fun t=>decide (t.toList=s.toList))=false):=by unfold Hid;rw[HST.out,HN.out,UD he];rfl
    have hbq:(s.toList==t.toList)=false:=by simp;exact fun h=>he h.symm
    clear he;go_wp2_with fail
    go_roundw
    case rel=>exact⟨i+1,by omega,by go_num,HN2.out,HL.out⟩
    case measure=>simp[intOf];omega
  ·have hie:i=xs.length:=by omega
   have HX:Hid (ans=false):=by unfold Hid;have:=HN.out;rw[hie,List.take_length]at this;rw[HV.out];exact this
   go_wp2_with fail
   go_ret;exact⟨⟨-1,rfl,by rw[HX.out];rfl⟩,HL.out⟩
theorem xY(xs:List BA)(s:BA)(a:OA)(cap:Nat)(w:World)(jD:xs.length≤1048576)(hr:bP cB 1 w a xs) :
  Cb 96 #[.slice a xs.length cap,.string s] w (.bool (mW xs s)):=by
 have HC:Hid _:=GH xs s a cap w jD hr;clear hr;go_enter Tryz.func96,Tryz.ntmps96
 go_wp2_with fail
 refine Calls.mono HC.out ?_;rintro e w1 ⟨⟨r,rfl,hr⟩,b1⟩;have HR:Hid (decide (0≤r)=mW xs s):=hr;clear hr HC;go_wp2_with fail
 go_ret;exact⟨aC HR.out,b1⟩
def SD:Value:=.iface 65 (.agg #[])
def SC(pa:OA)(n pc:Nat):Value:=.iface 82 (.agg #[.slice pa n pc])
theorem GL(s:BA)(w:World) :
  Cb 57 #[SD,.string s] w (.bool true):=by
 have t1:∀W,(Instr.typeAssert (.iface 65 (.agg #[])) 99 82 true).run Tryz.prog W=.ok (.tuple #[.agg #[.slice none 0 0],.bool false]) W:=fun W=>by kernel_rfl
 have t2:∀W,(Instr.typeAssert (.iface 65 (.agg #[])) 99 65 true).run Tryz.prog W=.ok (.tuple #[.agg #[],.bool true]) W:=fun W=>by kernel_rfl
 unfold SD;go_enter Tryz.func57,Tryz.ntmps57
 go_wp2_with fail
 go_ret;exact⟨rfl,bR.alloc lR _⟩
theorem GK(xs:List BA)(s:BA)(pa:OA)(pc:Nat)(w:World)(jD:xs.length≤1048576)(hr:bP cB 1 w pa xs) :
  Cb 57 #[SC pa xs.length pc,.string s] w (.bool (mW xs s)):=by
 have t1:∀W,(Instr.typeAssert (.iface 82 (.agg #[.slice pa xs.length pc])) 99 82 true).run Tryz.prog W=.ok (.tuple #[.agg #[.slice pa xs.length pc],.bool true]) W:=fun W=>by kernel_rfl
 have HC:Hid (∀W,Below w.heap.size w W→Cb 96 #[.slice pa xs.length pc,.string s] W (.bool (mW xs s))):=fun W hW=>xY xs s pa pc W jD (hr.below hW)
 have HB:Hid (Below w.heap.size w (w.alloc (.cells #[.slice pa xs.length pc] 82))):=bR.alloc lR _;clear hr;unfold SC;go_enter Tryz.func57,Tryz.ntmps57
 go_wp2_with fail
 refine(HC.out _ HB.out).mono ?_;rintro e w1 ⟨rfl,b1⟩;have HB1:Hid _:=HB.out.trans (b1.mono HB.out.size);clear b1 HC;go_wp2_with fail
 go_ret;exact⟨rfl,HB1.out⟩
end Go.Proofs.YtdkepkaflielhaaGreatDoor
