import Derived.Test.YtdkepkaflielhaaGreatDoorSz
import Derived.Test.YtdkepkaflielhaaGreatDoorAb
import Derived.Test.YtdkepkaflielhaaGreatDoorUni
import Derived.Test.YtdkepkaflielhaaGreatDoorIBk2
set_option linter.unusedVariables false
set_option linter.unusedSimpArgs false
set_option maxRecDepth 100000
set_option maxHeartbeats 8000000
namespace Go.Proofs.YtdkepkaflielhaaGreatDoor
open Go.RowKit Go.PlainAid
theorem cloneS_any (s:ByteArray) (w:World) (h:s.size≤1048576) :
  Cb 119 #[.string s] w (.string s):=by
 have HC:Hid (∀ W,Cb 162 #[.string s] W (.string s)):=fun W=>Tryz.stringslite_Clone s W (by omega)
 go_enter Tryz.func119,Tryz.ntmps119
 go_wp2_with fail
 refine (HC.out _).mono ?_;rintro e w1 ⟨rfl,b1⟩;go_wp2_with fail
 go_ret;exact ⟨rfl,b1⟩
theorem copyBind_any (p:Bd) (w:World) (h1:p.inn.size≤1048576) (h2:p.out.size≤1048576) :
  Cb 82 #[bdC p] w (bdC p):=by
 have H1:Hid (∀ W,Cb 119 #[.string p.inn] W (.string p.inn)):=fun W=>cloneS_any _ W h1
 have H2:Hid (∀ W,Cb 119 #[.string p.out] W (.string p.out)):=fun W=>cloneS_any _ W h2
 have hun:undef=Value.tuple #[]:=rfl;clear h1 h2;have HP:Hid (HoldsL ((aW w (BdV p) 48).alloc (.cells (BdR 0 ⟨#[]⟩ 0 ⟨#[]⟩ 0).toArray 48)) w.z (bdL p)):=(HoldsL.new w (bdL p) _).alloc _;have HO:Hid (HoldsL ((aW w (BdV p) 48).alloc (.cells (BdR 0 ⟨#[]⟩ 0 ⟨#[]⟩ 0).toArray 48)) (w.z+1) (BdR 0 ⟨#[]⟩ 0 ⟨#[]⟩ 0)):=by
  have h:=HoldsL.new (w.alloc (.cells (BdV p).toArray 48)) (BdR 0 ⟨#[]⟩ 0 ⟨#[]⟩ 0) 48;rwa [World.size_alloc] at h
 have HZ:Hid (Below w.z w ((aW w (BdV p) 48).alloc (.cells (BdR 0 ⟨#[]⟩ 0 ⟨#[]⟩ 0).toArray 48))):=(bR.alloc lR _).alloc (by simp) _;unfold bdC;go_enter Tryz.func82,Tryz.ntmps82
 go_upto_region 1 with fail
 generalize World.alloc _ _=W at *;go_cut [3] (fun v wx=>HoldsL wx w.z (bdL p)∧HoldsL wx (w.z+1) (BdR 0 ⟨#[]⟩ 0 ⟨#[]⟩ 0)∧Below w.z w wx)
 case first =>
  rename_i J K2 hJ hK2;clear hun;have HCP:Hid (∀ wy,Below W.drew.heap.size W.drew wy→HoldsL wy w.z (bdL p)∧HoldsL wy (w.z+1) (BdR 0 ⟨#[]⟩ 0 ⟨#[]⟩ 0)):=fun wy hy=>⟨HP.out.drew.kept (by simp [bdL]) hy,HO.out.drew.kept (by simp) hy⟩
  refine wp_region_growV [3,4,5,6,7,8,9] (by kernel_rfl) (by kernel_rfl) ?_;iterate 5 (apply GChV.u rfl;(·intro K' a wy ho hd hb hK;simp [rAt,IsV,slot,Region.binds] at ho hd;have hld:=(HCP.out wy hb).1;have kC:=hld.c5;go_simp;first|((try go_bits);exact hK _ _ rfl bQ)|(refine (H1.out wy).mono ?_;rintro e wz ⟨rfl,hz⟩;exact hK _ _ rfl hz));dsimp only [nA,cA])
  iterate 2 (apply GChV.u rfl;(·intro K' a wy ho hd hb hK;simp [rAt,IsV,slot,Region.binds] at ho hd;go_simp;first|((try go_bits);exact hK _ _ rfl bQ)|(refine (H2.out wy).mono ?_;rintro e wz ⟨rfl,hz⟩;exact hK _ _ rfl hz));dsimp only [nA,cA])
  intro X wz hR hz;simp only [List.nil_append,List.cons_append,RAll,IsV] at hR;simp only [putsFrom,hR];clear hR;obtain ⟨hh,hz0⟩:=HCP.out wz hz;have HB:Hid (Below w.z w wz):=HZ.out.drew.trans (hz.mono HZ.out.size);have f1:wz.frozen? ⟨w.z,1,none⟩=false:=hh.free (j:=1) (by simp [bdL]);have f3:wz.frozen? ⟨w.z,3,none⟩=false:=hh.free (j:=3) (by simp [bdL]);obtain ⟨k0,k1,k2,k3,k4⟩:=hh.c5;have HH:Hid (HoldsL wz w.z (bdL p)):=hh;have HH0:Hid (HoldsL wz (w.z+1) (BdR 0 ⟨#[]⟩ 0 ⟨#[]⟩ 0)):=hz0;clear hh hz0;intro K10 hK10;go_simp;refine hK10 _ _ ?_;intro K11 hK11;go_simp;refine hK11 _ _ ?_;intro K12 hK12;go_simp;refine hK12 _ _ ?_;show Exit.then _ _ _ _ _;refine hK2 _ _ (hJ _ _ ?_);(repeat apply Exists.intro)
  refine ⟨⟨(HH.out.set 1 _).set 3 _,(HH0.out.setOther (by omega) _).setOther (by omega) _,?_⟩,rfl⟩;exact (HB.out.setCell (p:=⟨w.z,1,none⟩) lR _).setCell (p:=⟨w.z,3,none⟩) lR _
 case rest =>
  obtain ⟨hh,h0,hb⟩:=hcut;have HB:Hid (Below w.z w wc):=hb;obtain ⟨k0,k1,k2,k3,k4⟩:=hh.c5;obtain ⟨y0,y1,y2,y3,y4⟩:=h0.f5;obtain ⟨z0,z1,z2,z3,z4⟩:=h0.c5;clear hh h0 hb;go_wp2_with fail
  refine bodyPost_ret (v:=.agg (BdV p).toArray) (by simp [results,Tryz.results82,go_sem,z0,z1,z2,z3,z4]) rfl ⟨rfl,?_⟩;have hsz:w.z≤w.z+1:=Nat.le_succ _;exact (((((HB.out.setCell (p:=⟨w.z+1,0,none⟩) hsz _).setCell (p:=⟨w.z+1,1,none⟩) hsz _).setCell (p:=⟨w.z+1,2,none⟩) hsz _).setCell (p:=⟨w.z+1,3,none⟩) hsz _).setCell (p:=⟨w.z+1,4,none⟩) hsz _)
theorem copySession_any (p:Ss) (w:World) (h1:p.inn.size≤1048576) (h2:p.peer.size≤1048576) :
  Cb 142 #[ssC p] w (ssC p):=by
 have H1:Hid (∀ W,Cb 119 #[.string p.inn] W (.string p.inn)):=fun W=>cloneS_any _ W h1
 have H2:Hid (∀ W,Cb 119 #[.string p.peer] W (.string p.peer)):=fun W=>cloneS_any _ W h2
 have hun:undef=Value.tuple #[]:=rfl;clear h1 h2;have HP:Hid (HoldsL ((aW w (SsV p) 59).alloc (.cells (SsR 0 ⟨#[]⟩ 0 ⟨#[]⟩ 0 0 0).toArray 59)) w.z (ssL p)):=(HoldsL.new w (ssL p) _).alloc _;have HO:Hid (HoldsL ((aW w (SsV p) 59).alloc (.cells (SsR 0 ⟨#[]⟩ 0 ⟨#[]⟩ 0 0 0).toArray 59)) (w.z+1) (SsR 0 ⟨#[]⟩ 0 ⟨#[]⟩ 0 0 0)):=by
  have h:=HoldsL.new (w.alloc (.cells (SsV p).toArray 59)) (SsR 0 ⟨#[]⟩ 0 ⟨#[]⟩ 0 0 0) 59;rwa [World.size_alloc] at h
 have HZ:Hid (Below w.z w ((aW w (SsV p) 59).alloc (.cells (SsR 0 ⟨#[]⟩ 0 ⟨#[]⟩ 0 0 0).toArray 59))):=(bR.alloc lR _).alloc (by simp) _;unfold ssC;go_enter Tryz.func142,Tryz.ntmps142
 go_upto_region 1 with fail
 generalize World.alloc _ _=W at *;go_cut [3] (fun v wx=>HoldsL wx w.z (ssL p)∧HoldsL wx (w.z+1) (SsR 0 ⟨#[]⟩ 0 ⟨#[]⟩ 0 0 0)∧Below w.z w wx)
 case first =>
  rename_i J K2 hJ hK2;clear hun;have HCP:Hid (∀ wy,Below W.drew.heap.size W.drew wy→HoldsL wy w.z (ssL p)∧HoldsL wy (w.z+1) (SsR 0 ⟨#[]⟩ 0 ⟨#[]⟩ 0 0 0)):=fun wy hy=>⟨HP.out.drew.kept (by simp [ssL]) hy,HO.out.drew.kept (by simp) hy⟩
  refine wp_region_growV [3,4,5,6,7,8,9] (by kernel_rfl) (by kernel_rfl) ?_;iterate 5 (apply GChV.u rfl;(·intro K' a wy ho hd hb hK;simp [rAt,IsV,slot,Region.binds] at ho hd;have hld:=(HCP.out wy hb).1;have kC:=hld.c7;go_simp;first|((try go_bits);exact hK _ _ rfl bQ)|(refine (H1.out wy).mono ?_;rintro e wz ⟨rfl,hz⟩;exact hK _ _ rfl hz));dsimp only [nA,cA])
  iterate 2 (apply GChV.u rfl;(·intro K' a wy ho hd hb hK;simp [rAt,IsV,slot,Region.binds] at ho hd;go_simp;first|((try go_bits);exact hK _ _ rfl bQ)|(refine (H2.out wy).mono ?_;rintro e wz ⟨rfl,hz⟩;exact hK _ _ rfl hz));dsimp only [nA,cA])
  intro X wz hR hz;simp only [List.nil_append,List.cons_append,RAll,IsV] at hR;simp only [putsFrom,hR];clear hR;obtain ⟨hh,hz0⟩:=HCP.out wz hz;have HB:Hid (Below w.z w wz):=HZ.out.drew.trans (hz.mono HZ.out.size);have f1:wz.frozen? ⟨w.z,1,none⟩=false:=hh.free (j:=1) (by simp [ssL]);have f3:wz.frozen? ⟨w.z,3,none⟩=false:=hh.free (j:=3) (by simp [ssL]);obtain ⟨k0,k1,k2,k3,k4,k5,k6⟩:=hh.c7;have HH:Hid (HoldsL wz w.z (ssL p)):=hh;have HH0:Hid (HoldsL wz (w.z+1) (SsR 0 ⟨#[]⟩ 0 ⟨#[]⟩ 0 0 0)):=hz0;clear hh hz0;intro K10 hK10;go_simp;refine hK10 _ _ ?_;intro K11 hK11;go_simp;refine hK11 _ _ ?_;intro K12 hK12;go_simp;refine hK12 _ _ ?_;show Exit.then _ _ _ _ _;refine hK2 _ _ (hJ _ _ ?_);(repeat apply Exists.intro)
  refine ⟨⟨(HH.out.set 1 _).set 3 _,(HH0.out.setOther (by omega) _).setOther (by omega) _,?_⟩,rfl⟩;exact (HB.out.setCell (p:=⟨w.z,1,none⟩) lR _).setCell (p:=⟨w.z,3,none⟩) lR _
 case rest =>
  obtain ⟨hh,h0,hb⟩:=hcut;have HB:Hid (Below w.z w wc):=hb;obtain ⟨k0,k1,k2,k3,k4,k5,k6⟩:=hh.c7;obtain ⟨y0,y1,y2,y3,y4,y5,y6⟩:=h0.f7;obtain ⟨z0,z1,z2,z3,z4,z5,z6⟩:=h0.c7;clear hh h0 hb;go_wp2_with fail
  refine bodyPost_ret (v:=.agg (SsV p).toArray) (by simp [results,Tryz.results142,go_sem,z0,z1,z2,z3,z4,z5,z6]) rfl ⟨rfl,?_⟩;have hsz:w.z≤w.z+1:=Nat.le_succ _;exact (((((((HB.out.setCell (p:=⟨w.z+1,0,none⟩) hsz _).setCell (p:=⟨w.z+1,1,none⟩) hsz _).setCell (p:=⟨w.z+1,2,none⟩) hsz _).setCell (p:=⟨w.z+1,3,none⟩) hsz _).setCell (p:=⟨w.z+1,4,none⟩) hsz _).setCell (p:=⟨w.z+1,5,none⟩) hsz _).setCell (p:=⟨w.z+1,6,none⟩) hsz _)
def BdsIn (xs:List Bd):Prop:=xs.length≤1048576∧∀ q∈xs,q.inn.size≤1048576∧q.out.size≤1048576
theorem find_of (f:Bd→Bool) (xs:List Bd) {i:Nat} (hi:i < xs.length) (h:findI f xs=i):xs.find? f=some xs[i]:=by
 obtain ⟨j,hj,h1,h2⟩:=findBd_at f xs (by omega);have:j=i:=by omega
 subst this; exact h2
theorem firstBind_any (E:Bd→En) (F:Nat) (hG:Enters F) (p:En) (xs:List Bd) (a:Option Addr) (cap:Nat) (w:World) (hF:∀ q W,Calls Tryz.prog F #[bdC q] W fun e w'=>e=.returned (enC (E q))∧Below W.heap.size W w') (hin:BdsIn xs) (hr:SlIs bdL 5 w a xs) :
  Cb 47 #[.slice a xs.length cap,.func (.func F) #[] #[],enC p] w (bdC (bindV (fun q=>sameEn (E q) p) xs p.addr)):=by
 have hlen:=hin.1;have W3Z:Hid (Below w.z w ((aW (aW w [.func (.func F) #[] #[]] 84) (EnV p.proto p.addr p.port) 86).alloc (.cells (BdR 0 ⟨#[]⟩ 0 ⟨#[]⟩ 0).toArray 48))):=((bR.alloc lR _).alloc (by simp) _).alloc (by simp; omega) _;have HK1:Hid (HoldsL ((aW (aW w [.func (.func F) #[] #[]] 84) (EnV p.proto p.addr p.port) 86).alloc (.cells (BdR 0 ⟨#[]⟩ 0 ⟨#[]⟩ 0).toArray 48)) w.z [.func (.func F) #[] #[]]):=((HoldsL.new w _ _).alloc _).alloc _;have HK2:Hid (HoldsL ((aW (aW w [.func (.func F) #[] #[]] 84) (EnV p.proto p.addr p.port) 86).alloc (.cells (BdR 0 ⟨#[]⟩ 0 ⟨#[]⟩ 0).toArray 48)) (w.z+1) (enL p)):=by
  have h:=(HoldsL.new (w.alloc (.cells #[.func (.func F) #[] #[]] 84)) (enL p) 86).alloc (.cells (BdR 0 ⟨#[]⟩ 0 ⟨#[]⟩ 0).toArray 48);rw [World.size_alloc] at h; exact h
 have HK3:Hid (HoldsL ((aW (aW w [.func (.func F) #[] #[]] 84) (EnV p.proto p.addr p.port) 86).alloc (.cells (BdR 0 ⟨#[]⟩ 0 ⟨#[]⟩ 0).toArray 48)) (w.z+1+1) (BdR 0 ⟨#[]⟩ 0 ⟨#[]⟩ 0)):=by
  have h:=HoldsL.new ((aW w [.func (.func F) #[] #[]] 84).alloc (.cells (EnV p.proto p.addr p.port).toArray 86)) (BdR 0 ⟨#[]⟩ 0 ⟨#[]⟩ 0) 48;rw [World.size_alloc,World.size_alloc] at h; exact h
 have HR:Hid (SlIs bdL 5 w a xs):=hr;have HIN:Hid (BdsIn xs):=hin;have HV:Hid (bindV (fun q=>sameEn (E q) p) xs p.addr=if 20000 < p.addr.size then bdZ else (xs.find? (fun q=>sameEn (E q) p)).getD bdZ):=rfl;have HI:Hid (∀ W,Below w.z w W→HoldsL W w.z [.func (.func F) #[] #[]]→HoldsL W (w.z+1) (enL p)→Cb 79 #[.slice a xs.length cap,.func (.func 80) #[] #[.pointer (some ⟨w.z,0,none⟩),.pointer (some ⟨w.z+1,0,none⟩)]] W (iV (findI (fun q=>sameEn (E q) p) xs))):=fun W hW h1 h2=>idxBind_any (fun q=>sameEn (E q) p) 80 (fun args W=>by kernel_rfl) _ xs a cap W hlen (hr.below hW) (fun W' hW' q hq=>first1_any E F hG q p _ _ W' hF (h1.kept (by simp) hW') (h2.kept (by simp [enL]) hW'))
 have HFO:Hid (∀ i,(hi:i < xs.length)→findI (fun q=>sameEn (E q) p) xs=i→xs.find? (fun q=>sameEn (E q) p)=some xs[i]):=fun i hi h=>find_of _ xs hi h
 have HAT:Hid (¬ findI (fun q=>sameEn (E q) p) xs < 0→∃ i:Nat,∃ hi:i < xs.length,findI (fun q=>sameEn (E q) p) xs=i∧xs.find? (fun q=>sameEn (E q) p)=some xs[i]):=findBd_at _ xs;have HNO:Hid (findI (fun q=>sameEn (E q) p) xs < 0→xs.find? (fun q=>sameEn (E q) p)=none):=find_no _ xs;have HTL:Hid (∀ W,Cw 81 #[.string p.addr] W (.bool (decide (20000 < p.addr.size)))):=fun W=>implLong_any p.addr W
 generalize bindV (fun q=>sameEn (E q) p) xs p.addr=ans at *;generalize xs.find? (fun q=>sameEn (E q) p)=fd at *;generalize findI (fun q=>sameEn (E q) p) xs=fi at *;clear hr hin hF hG;unfold enC;have hun:undef=Value.tuple #[]:=rfl;go_enter Tryz.func47,Tryz.ntmps47
 go_upto_region 1 with fail
 generalize World.alloc _ _=W3 at *;go_wp2_with fail
 refine (HI.out _ W3Z.out HK1.out HK2.out).mono ?_;rintro e w1 ⟨rfl,q1⟩;have B1:Hid _:=W3Z.out.trans (q1.mono W3Z.out.size);have K2:=HK2.out.kept (by simp [enL]) q1;have K3:Hid _:=HK3.out.kept (by simp) q1;have k21:=K2.cell (j:=1) rfl;clear q1 K2 HK1 HK2 HK3 W3Z HI;go_wp2_with fail
 refine (HTL.out _).mono ?_;rintro e w1 ⟨rfl,rfl⟩;have hRw:w.z≤w.z+1+1:=by omega
 obtain ⟨y0,y1,y2,y3,y4⟩:=K3.out.f5;obtain ⟨z0,z1,z2,z3,z4⟩:=K3.out.c5;by_cases hs:20000 < p.addr.size
 ·have HX:Hid (ans=bdZ):=by unfold Hid; rw [HV.out,if_pos hs]
  have hd:decide (20000 < p.addr.size)=true:=decide_eq_true hs;rw [hd];go_wp2_with fail
  refine bodyPost_ret (v:=.agg (BdR 0 ⟨#[]⟩ 0 ⟨#[]⟩ 0).toArray) (by simp [results,Tryz.results47,go_sem,z0,z1,z2,z3,z4]) rfl (And.intro (congrArg (fun x=>Ending.returned (bdC x)) HX.out.symm) ?_);exact (((((B1.out.setCell (p:=⟨w.z+1+1,0,none⟩) hRw _).setCell (p:=⟨w.z+1+1,1,none⟩) hRw _).setCell (p:=⟨w.z+1+1,2,none⟩) hRw _).setCell (p:=⟨w.z+1+1,3,none⟩) hRw _).setCell (p:=⟨w.z+1+1,4,none⟩) hRw _)
 ·have hd:decide (20000 < p.addr.size)=false:=decide_eq_false hs;rw [hd];by_cases hk:fi < 0
  ·have HX:Hid (ans=bdZ):=by unfold Hid; rw [HV.out,if_neg hs,HNO.out hk]; rfl
   go_wp2_with fail
   refine bodyPost_ret (v:=.agg (BdR 0 ⟨#[]⟩ 0 ⟨#[]⟩ 0).toArray) (by simp [results,Tryz.results47,go_sem,z0,z1,z2,z3,z4]) rfl (And.intro (congrArg (fun x=>Ending.returned (bdC x)) HX.out.symm) ?_);exact (((((B1.out.setCell (p:=⟨w.z+1+1,0,none⟩) hRw _).setCell (p:=⟨w.z+1+1,1,none⟩) hRw _).setCell (p:=⟨w.z+1+1,2,none⟩) hRw _).setCell (p:=⟨w.z+1+1,3,none⟩) hRw _).setCell (p:=⟨w.z+1+1,4,none⟩) hRw _)
  ·obtain ⟨i,hi,hfi,hfd⟩:=HAT.out (by omega);subst hfi;obtain ⟨b,off,rfl,hb,hat⟩:=HR.out.at hi;have hA:=(hat.below hb B1.out) i hi;have hsz:=HIN.out.2 xs[i] (List.getElem_mem hi);obtain ⟨q,hq⟩ : ∃ q,xs[i]=q:=⟨_,rfl⟩;rw [hq] at hA hfd hsz;have HX:Hid (ans=q):=by unfold Hid; rw [HV.out,if_neg hs,hfd]; rfl
   obtain ⟨c0,c1,c2,c3,c4⟩:=rc5 hA;have HCY:Hid (∀ W,Cb 82 #[.agg (BdV q).toArray] W (.agg (BdV q).toArray)):=fun W=>copyBind_any q W hsz.1 hsz.2
   clear hA hat hq hfd hsz HAT HNO HFO HV z0 z1 z2 z3 z4 y0 y1 y2 y3 y4;have hiI:(i:Int) < (xs.length:Int):=by omega
   go_wp2_with fail
   refine (HCY.out _).mono ?_;rintro e w3 ⟨rfl,q3⟩;have B3:Hid _:=B1.out.trans (q3.mono B1.out.size);have K4:Hid _:=K3.out.kept (by simp) q3;obtain ⟨y0,y1,y2,y3,y4⟩:=K4.out.f5;obtain ⟨z0,z1,z2,z3,z4⟩:=K4.out.c5;clear q3 c0 c1 c2 c3 c4;go_wp2_with fail
   refine bodyPost_ret (v:=.agg (BdV q).toArray) (by simp [results,Tryz.results47,go_sem,z0,z1,z2,z3,z4]) rfl (And.intro (congrArg (fun x=>Ending.returned (bdC x)) HX.out.symm) ?_);exact (((((B3.out.setCell (p:=⟨w.z+1+1,0,none⟩) hRw _).setCell (p:=⟨w.z+1+1,1,none⟩) hRw _).setCell (p:=⟨w.z+1+1,2,none⟩) hRw _).setCell (p:=⟨w.z+1+1,3,none⟩) hRw _).setCell (p:=⟨w.z+1+1,4,none⟩) hRw _)
theorem implBindAt_any (xs:List Bd) (proto:Int) (s:ByteArray) (port:Int) (a:Option Addr) (cap:Nat) (sv:Value) (hsv:sv.oneCell'=true) (w:World) (hin:BdsIn xs) (hr:SlIs bdL 5 w a xs) :
  Cb 20 #[.agg #[.slice a xs.length cap,sv],iV proto,.string s,iV port] w (bdC (bindV (ofOut proto s port) xs s)):=by
 have hR:∀ W,Below w.z w W→Cb 47 #[.slice a xs.length cap,.func (.func 48) #[] #[],.agg (EnV proto s port).toArray] W (bdC (bindV (ofOut proto s port) xs s)):=fun W hW=>by
  have h:=firstBind_any lentE 48 (fun args W=>by kernel_rfl) ⟨proto,s,port⟩ xs a cap W (fun q W=>lentEnd_any q W) hin (hr.below hW);rw [show (fun q=>sameEn (lentE q) ⟨proto,s,port⟩)=ofOut proto s port from funext fun q=>lent_out proto s port q] at h;exact h
 have HR:Hid _:=hR;have HB:Hid (Below w.z w ((aW w [.slice a xs.length cap,sv] 31).alloc (.cells (BdR 0 ⟨#[]⟩ 0 ⟨#[]⟩ 0).toArray 48))):=(bR.alloc lR _).alloc (by simp) _;have HK:Hid (HoldsL ((aW w [.slice a xs.length cap,sv] 31).alloc (.cells (BdR 0 ⟨#[]⟩ 0 ⟨#[]⟩ 0).toArray 48)) w.z [.slice a xs.length cap,sv]):=(HoldsL.new w _ _).alloc _;have HK3:Hid (HoldsL ((aW w [.slice a xs.length cap,sv] 31).alloc (.cells (BdR 0 ⟨#[]⟩ 0 ⟨#[]⟩ 0).toArray 48)) (w.z+1) (BdR 0 ⟨#[]⟩ 0 ⟨#[]⟩ 0)):=by
  have h:=HoldsL.new (w.alloc (.cells #[.slice a xs.length cap,sv] 31)) (BdR 0 ⟨#[]⟩ 0 ⟨#[]⟩ 0) 48;rw [World.size_alloc] at h; exact h
 generalize bindV (ofOut proto s port) xs s=ans at *;unfold bdC at HR;clear hin hr hR;go_enter Tryz.func20,Tryz.ntmps20
 go_upto_region 1 with fail
 generalize World.alloc _ _=W at *;have k0:=HK.out.cell (j:=0) rfl;go_wp2_with fail
 refine (HR.out _ HB.out).mono ?_;rintro e w1 ⟨rfl,q1⟩;have B1:Hid _:=HB.out.trans (q1.mono HB.out.size);have K3:Hid _:=HK3.out.kept (by simp) q1;have hRw:w.z≤w.z+1:=by omega
 obtain ⟨y0,y1,y2,y3,y4⟩:=K3.out.f5;obtain ⟨z0,z1,z2,z3,z4⟩:=K3.out.c5;clear q1 k0 HK HK3 HB HR;go_wp2_with fail
 refine bodyPost_ret (v:=.agg (BdV ans).toArray) (by simp [results,Tryz.results20,go_sem,z0,z1,z2,z3,z4]) rfl ⟨rfl,?_⟩;exact (((((B1.out.setCell (p:=⟨w.z+1,0,none⟩) hRw _).setCell (p:=⟨w.z+1,1,none⟩) hRw _).setCell (p:=⟨w.z+1,2,none⟩) hRw _).setCell (p:=⟨w.z+1,3,none⟩) hRw _).setCell (p:=⟨w.z+1,4,none⟩) hRw _)
end Go.Proofs.YtdkepkaflielhaaGreatDoor
