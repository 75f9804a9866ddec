import Derived.Test.YtdkepkaflielhaaGreatDoorAb
import Derived.Test.YtdkepkaflielhaaGreatDoorMerged6
import Derived.Test.YtdkepkaflielhaaGreatDoorMerged9
import Derived.Test.YtdkepkaflielhaaGreatDoorMerged4
import Derived.Test.YtdkepkaflielhaaGreatDoorMerged8
import Derived.Test.YtdkepkaflielhaaGreatDoorGrowV
import Derived.Test.YtdkepkaflielhaaGreatDoorMerged5
set_option linter.unusedVariables false
set_option linter.unusedSimpArgs false
set_option maxRecDepth 100000
set_option maxHeartbeats 8000000
namespace Go.Proofs.YtdkepkaflielhaaGreatDoor
open Go.RowKit Go.PlainAid
theorem cloneS_any (s:ByteArray) (w:World) (h:s.size≤1048576) :
  Cb 119 #[.string s] w (.string s):=by
 have HC:Hid (∀ W,Cb 162 #[.string s] W (.string s)):=fun W=>Tryz.stringslite_Clone s W (by omega)
 go_enter Tryz.func119,Tryz.ntmps119
 go_wp2_with fail
 refine (HC.out _).mono ?_;rintro e w1 ⟨rfl,b1⟩;go_wp2_with fail
 go_ret;exact ⟨rfl,b1⟩
theorem copyBind_any (p:Bd) (w:World) (h1:p.inn.size≤1048576) (h2:p.out.size≤1048576) :
  Cb 82 #[bdC p] w (bdC p):=by
 have H1:Hid (∀ W,Cb 119 #[.string p.inn] W (.string p.inn)):=fun W=>cloneS_any _ W h1
 have H2:Hid (∀ W,Cb 119 #[.string p.out] W (.string p.out)):=fun W=>cloneS_any _ W h2
 have hun:undef=Value.tuple #[]:=rfl;clear h1 h2;have HP:Hid (HoldsL ((aW w (BdV p) 48).alloc (.cells (BdR 0 ⟨#[]⟩ 0 ⟨#[]⟩ 0).toArray 48)) w.heap.size (bdL p)):=(HoldsL.new w (bdL p) _).alloc _;have HO:Hid (HoldsL ((aW w (BdV p) 48).alloc (.cells (BdR 0 ⟨#[]⟩ 0 ⟨#[]⟩ 0).toArray 48)) (w.heap.size+1) (BdR 0 ⟨#[]⟩ 0 ⟨#[]⟩ 0)):=by
  have h:=HoldsL.new (w.alloc (.cells (BdV p).toArray 48)) (BdR 0 ⟨#[]⟩ 0 ⟨#[]⟩ 0) 48;rwa [World.size_alloc] at h
 have HZ:Hid (Below w.heap.size w ((aW w (BdV p) 48).alloc (.cells (BdR 0 ⟨#[]⟩ 0 ⟨#[]⟩ 0).toArray 48))):=((Below.refl _ _).alloc (Nat.le_refl _) _).alloc (by simp) _;unfold bdC;go_enter Tryz.func82,Tryz.ntmps82
 go_upto_region 1 with fail
 generalize ((aW w (BdV p) 48).alloc (.cells (BdR 0 ⟨#[]⟩ 0 ⟨#[]⟩ 0).toArray 48))=W at *;go_cut [3] (fun v wx=>HoldsL wx w.heap.size (bdL p)∧HoldsL wx (w.heap.size+1) (BdR 0 ⟨#[]⟩ 0 ⟨#[]⟩ 0)∧Below w.heap.size w wx)
 case first =>
  rename_i J K2 hJ hK2;clear hun;have HCP:Hid (∀ wy,Below W.drew.heap.size W.drew wy→HoldsL wy w.heap.size (bdL p)∧HoldsL wy (w.heap.size+1) (BdR 0 ⟨#[]⟩ 0 ⟨#[]⟩ 0)):=fun wy hy=>⟨HP.out.drew.kept (by simp [bdL]) hy,HO.out.drew.kept (by simp) hy⟩
  refine wp_region_growV [3,4,5,6,7,8,9] (by kernel_rfl) (by kernel_rfl) ?_;iterate 5 (apply GChV.u rfl;(·intro K' a wy ho hd hb hK;simp [rAt,IsV,slot,Region.binds] at ho hd;have hld:=(HCP.out wy hb).1;have kC:=hld.c5;go_simp;first|((try go_bits);exact hK _ _ rfl bQ)|(refine (H1.out wy).mono ?_;rintro e wz ⟨rfl,hz⟩;exact hK _ _ rfl hz));dsimp only [nA,cA])
  iterate 2 (apply GChV.u rfl;(·intro K' a wy ho hd hb hK;simp [rAt,IsV,slot,Region.binds] at ho hd;go_simp;first|((try go_bits);exact hK _ _ rfl bQ)|(refine (H2.out wy).mono ?_;rintro e wz ⟨rfl,hz⟩;exact hK _ _ rfl hz));dsimp only [nA,cA])
  intro X wz hR hz;simp only [List.nil_append,List.cons_append,RAll,IsV] at hR;simp only [putsFrom,hR];clear hR;obtain ⟨hh,hz0⟩:=HCP.out wz hz;have HB:Hid (Below w.heap.size w wz):=HZ.out.drew.trans (hz.mono HZ.out.size);have f1:wz.frozen? ⟨w.heap.size,1,none⟩=false:=hh.free (j:=1) (by simp [bdL]);have f3:wz.frozen? ⟨w.heap.size,3,none⟩=false:=hh.free (j:=3) (by simp [bdL]);obtain ⟨k0,k1,k2,k3,k4⟩:=hh.c5;have HH:Hid (HoldsL wz w.heap.size (bdL p)):=hh;have HH0:Hid (HoldsL wz (w.heap.size+1) (BdR 0 ⟨#[]⟩ 0 ⟨#[]⟩ 0)):=hz0;clear hh hz0;intro K10 hK10;go_simp;refine hK10 _ _ ?_;intro K11 hK11;go_simp;refine hK11 _ _ ?_;intro K12 hK12;go_simp;refine hK12 _ _ ?_;show Exit.then _ _ _ _ _;refine hK2 _ _ (hJ _ _ ?_);(repeat apply Exists.intro)
  refine ⟨⟨(HH.out.set 1 _).set 3 _,(HH0.out.setOther (by omega) _).setOther (by omega) _,?_⟩,rfl⟩;exact (HB.out.setCell (p:=⟨w.heap.size,1,none⟩) (Nat.le_refl _) _).setCell (p:=⟨w.heap.size,3,none⟩) (Nat.le_refl _) _
 case rest =>
  obtain ⟨hh,h0,hb⟩:=hcut;have HB:Hid (Below w.heap.size w wc):=hb;obtain ⟨k0,k1,k2,k3,k4⟩:=hh.c5;obtain ⟨y0,y1,y2,y3,y4⟩:=h0.f5;obtain ⟨z0,z1,z2,z3,z4⟩:=h0.c5;clear hh h0 hb;go_wp2_with fail
  refine bodyPost_ret (v:=.agg (BdV p).toArray) (by simp [results,Tryz.results82,go_sem,z0,z1,z2,z3,z4]) rfl ⟨rfl,?_⟩;have hsz:w.heap.size≤w.heap.size+1:=Nat.le_succ _;exact (((((HB.out.setCell (p:=⟨w.heap.size+1,0,none⟩) hsz _).setCell (p:=⟨w.heap.size+1,1,none⟩) hsz _).setCell (p:=⟨w.heap.size+1,2,none⟩) hsz _).setCell (p:=⟨w.heap.size+1,3,none⟩) hsz _).setCell (p:=⟨w.heap.size+1,4,none⟩) hsz _)
theorem copySession_any (p:Ss) (w:World) (h1:p.inn.size≤1048576) (h2:p.peer.size≤1048576) :
  Cb 142 #[ssC p] w (ssC p):=by
 have H1:Hid (∀ W,Cb 119 #[.string p.inn] W (.string p.inn)):=fun W=>cloneS_any _ W h1
 have H2:Hid (∀ W,Cb 119 #[.string p.peer] W (.string p.peer)):=fun W=>cloneS_any _ W h2
 have hun:undef=Value.tuple #[]:=rfl;clear h1 h2;have HP:Hid (HoldsL ((aW w (SsV p) 59).alloc (.cells (SsR 0 ⟨#[]⟩ 0 ⟨#[]⟩ 0 0 0).toArray 59)) w.heap.size (ssL p)):=(HoldsL.new w (ssL p) _).alloc _;have HO:Hid (HoldsL ((aW w (SsV p) 59).alloc (.cells (SsR 0 ⟨#[]⟩ 0 ⟨#[]⟩ 0 0 0).toArray 59)) (w.heap.size+1) (SsR 0 ⟨#[]⟩ 0 ⟨#[]⟩ 0 0 0)):=by
  have h:=HoldsL.new (w.alloc (.cells (SsV p).toArray 59)) (SsR 0 ⟨#[]⟩ 0 ⟨#[]⟩ 0 0 0) 59;rwa [World.size_alloc] at h
 have HZ:Hid (Below w.heap.size w ((aW w (SsV p) 59).alloc (.cells (SsR 0 ⟨#[]⟩ 0 ⟨#[]⟩ 0 0 0).toArray 59))):=((Below.refl _ _).alloc (Nat.le_refl _) _).alloc (by simp) _;unfold ssC;go_enter Tryz.func142,Tryz.ntmps142
 go_upto_region 1 with fail
 generalize ((aW w (SsV p) 59).alloc (.cells (SsR 0 ⟨#[]⟩ 0 ⟨#[]⟩ 0 0 0).toArray 59))=W at *;go_cut [3] (fun v wx=>HoldsL wx w.heap.size (ssL p)∧HoldsL wx (w.heap.size+1) (SsR 0 ⟨#[]⟩ 0 ⟨#[]⟩ 0 0 0)∧Below w.heap.size w wx)
 case first =>
  rename_i J K2 hJ hK2;clear hun;have HCP:Hid (∀ wy,Below W.drew.heap.size W.drew wy→HoldsL wy w.heap.size (ssL p)∧HoldsL wy (w.heap.size+1) (SsR 0 ⟨#[]⟩ 0 ⟨#[]⟩ 0 0 0)):=fun wy hy=>⟨HP.out.drew.kept (by simp [ssL]) hy,HO.out.drew.kept (by simp) hy⟩
  refine wp_region_growV [3,4,5,6,7,8,9] (by kernel_rfl) (by kernel_rfl) ?_;iterate 5 (apply GChV.u rfl;(·intro K' a wy ho hd hb hK;simp [rAt,IsV,slot,Region.binds] at ho hd;have hld:=(HCP.out wy hb).1;have kC:=hld.c7;go_simp;first|((try go_bits);exact hK _ _ rfl bQ)|(refine (H1.out wy).mono ?_;rintro e wz ⟨rfl,hz⟩;exact hK _ _ rfl hz));dsimp only [nA,cA])
  iterate 2 (apply GChV.u rfl;(·intro K' a wy ho hd hb hK;simp [rAt,IsV,slot,Region.binds] at ho hd;go_simp;first|((try go_bits);exact hK _ _ rfl bQ)|(refine (H2.out wy).mono ?_;rintro e wz ⟨rfl,hz⟩;exact hK _ _ rfl hz));dsimp only [nA,cA])
  intro X wz hR hz;simp only [List.nil_append,List.cons_append,RAll,IsV] at hR;simp only [putsFrom,hR];clear hR;obtain ⟨hh,hz0⟩:=HCP.out wz hz;have HB:Hid (Below w.heap.size w wz):=HZ.out.drew.trans (hz.mono HZ.out.size);have f1:wz.frozen? ⟨w.heap.size,1,none⟩=false:=hh.free (j:=1) (by simp [ssL]);have f3:wz.frozen? ⟨w.heap.size,3,none⟩=false:=hh.free (j:=3) (by simp [ssL]);obtain ⟨k0,k1,k2,k3,k4,k5,k6⟩:=hh.c7;have HH:Hid (HoldsL wz w.heap.size (ssL p)):=hh;have HH0:Hid (HoldsL wz (w.heap.size+1) (SsR 0 ⟨#[]⟩ 0 ⟨#[]⟩ 0 0 0)):=hz0;clear hh hz0;intro K10 hK10;go_simp;refine hK10 _ _ ?_;intro K11 hK11;go_simp;refine hK11 _ _ ?_;intro K12 hK12;go_simp;refine hK12 _ _ ?_;show Exit.then _ _ _ _ _;refine hK2 _ _ (hJ _ _ ?_);(repeat apply Exists.intro)
  refine ⟨⟨(HH.out.set 1 _).set 3 _,(HH0.out.setOther (by omega) _).setOther (by omega) _,?_⟩,rfl⟩;exact (HB.out.setCell (p:=⟨w.heap.size,1,none⟩) (Nat.le_refl _) _).setCell (p:=⟨w.heap.size,3,none⟩) (Nat.le_refl _) _
 case rest =>
  obtain ⟨hh,h0,hb⟩:=hcut;have HB:Hid (Below w.heap.size w wc):=hb;obtain ⟨k0,k1,k2,k3,k4,k5,k6⟩:=hh.c7;obtain ⟨y0,y1,y2,y3,y4,y5,y6⟩:=h0.f7;obtain ⟨z0,z1,z2,z3,z4,z5,z6⟩:=h0.c7;clear hh h0 hb;go_wp2_with fail
  refine bodyPost_ret (v:=.agg (SsV p).toArray) (by simp [results,Tryz.results142,go_sem,z0,z1,z2,z3,z4,z5,z6]) rfl ⟨rfl,?_⟩;have hsz:w.heap.size≤w.heap.size+1:=Nat.le_succ _;exact (((((((HB.out.setCell (p:=⟨w.heap.size+1,0,none⟩) hsz _).setCell (p:=⟨w.heap.size+1,1,none⟩) hsz _).setCell (p:=⟨w.heap.size+1,2,none⟩) hsz _).setCell (p:=⟨w.heap.size+1,3,none⟩) hsz _).setCell (p:=⟨w.heap.size+1,4,none⟩) hsz _).setCell (p:=⟨w.heap.size+1,5,none⟩) hsz _).setCell (p:=⟨w.heap.size+1,6,none⟩) hsz _)
def BdsIn (xs:List Bd):Prop:=xs.length≤1048576∧∀ q∈xs,q.inn.size≤1048576∧q.out.size≤1048576
theorem find_of (f:Bd→Bool) (xs:List Bd) {i:Nat} (hi:i < xs.length) (h:findI f xs=i):xs.find? f=some xs[i]:=by
 obtain ⟨j,hj,h1,h2⟩:=findBd_at f xs (by omega);have:j=i:=by omega
 subst this; exact h2
theorem firstBind_any (E:Bd→En) (F:Nat) (hG:Enters F) (p:En) (xs:List Bd) (a:Option Addr) (cap:Nat) (w:World) (hF:∀ q W,Calls Tryz.prog F #[bdC q] W fun e w'=>e=.returned (enC (E q))∧Below W.heap.size W w') (hin:BdsIn xs) (hr:SlIs bdL 5 w a xs) :
  Cb 47 #[.slice a xs.length cap,.func (.func F) #[] #[],enC p] w (bdC (bindV (fun q=>sameEn (E q) p) xs p.addr)):=by
 have hlen:=hin.1;have W3Z:Hid (Below w.heap.size w ((aW (aW w [.func (.func F) #[] #[]] 84) (EnV p.proto p.addr p.port) 86).alloc (.cells (BdR 0 ⟨#[]⟩ 0 ⟨#[]⟩ 0).toArray 48))):=(((Below.refl _ _).alloc (Nat.le_refl _) _).alloc (by simp) _).alloc (by simp; omega) _;have HK1:Hid (HoldsL ((aW (aW w [.func (.func F) #[] #[]] 84) (EnV p.proto p.addr p.port) 86).alloc (.cells (BdR 0 ⟨#[]⟩ 0 ⟨#[]⟩ 0).toArray 48)) w.heap.size [.func (.func F) #[] #[]]):=((HoldsL.new w _ _).alloc _).alloc _;have HK2:Hid (HoldsL ((aW (aW w [.func (.func F) #[] #[]] 84) (EnV p.proto p.addr p.port) 86).alloc (.cells (BdR 0 ⟨#[]⟩ 0 ⟨#[]⟩ 0).toArray 48)) (w.heap.size+1) (enL p)):=by
  have h:=(HoldsL.new (w.alloc (.cells #[.func (.func F) #[] #[]] 84)) (enL p) 86).alloc (.cells (BdR 0 ⟨#[]⟩ 0 ⟨#[]⟩ 0).toArray 48);rw [World.size_alloc] at h; exact h
 have HK3:Hid (HoldsL ((aW (aW w [.func (.func F) #[] #[]] 84) (EnV p.proto p.addr p.port) 86).alloc (.cells (BdR 0 ⟨#[]⟩ 0 ⟨#[]⟩ 0).toArray 48)) (w.heap.size+1+1) (BdR 0 ⟨#[]⟩ 0 ⟨#[]⟩ 0)):=by
  have h:=HoldsL.new ((aW w [.func (.func F) #[] #[]] 84).alloc (.cells (EnV p.proto p.addr p.port).toArray 86)) (BdR 0 ⟨#[]⟩ 0 ⟨#[]⟩ 0) 48;rw [World.size_alloc,World.size_alloc] at h; exact h
 have HR:Hid (SlIs bdL 5 w a xs):=hr;have HIN:Hid (BdsIn xs):=hin;have HV:Hid (bindV (fun q=>sameEn (E q) p) xs p.addr=if 20000 < p.addr.size then bdZ else (xs.find? (fun q=>sameEn (E q) p)).getD bdZ):=rfl;have HI:Hid (∀ W,Below w.heap.size w W→HoldsL W w.heap.size [.func (.func F) #[] #[]]→HoldsL W (w.heap.size+1) (enL p)→Cb 79 #[.slice a xs.length cap,.func (.func 80) #[] #[.pointer (some ⟨w.heap.size,0,none⟩),.pointer (some ⟨w.heap.size+1,0,none⟩)]] W (iV (findI (fun q=>sameEn (E q) p) xs))):=fun W hW h1 h2=>idxBind_any (fun q=>sameEn (E q) p) 80 (fun args W=>by kernel_rfl) _ xs a cap W hlen (hr.below hW) (fun W' hW' q hq=>first1_any E F hG q p _ _ W' hF (h1.kept (by simp) hW') (h2.kept (by simp [enL]) hW'))
 have HFO:Hid (∀ i,(hi:i < xs.length)→findI (fun q=>sameEn (E q) p) xs=i→xs.find? (fun q=>sameEn (E q) p)=some xs[i]):=fun i hi h=>find_of _ xs hi h
 have HAT:Hid (¬ findI (fun q=>sameEn (E q) p) xs < 0→∃ i:Nat,∃ hi:i < xs.length,findI (fun q=>sameEn (E q) p) xs=i∧xs.find? (fun q=>sameEn (E q) p)=some xs[i]):=findBd_at _ xs;have HNO:Hid (findI (fun q=>sameEn (E q) p) xs < 0→xs.find? (fun q=>sameEn (E q) p)=none):=find_no _ xs;have HTL:Hid (∀ W,Cw 81 #[.string p.addr] W (.bool (decide (20000 < p.addr.size)))):=fun W=>implLong_any p.addr W
 generalize bindV (fun q=>sameEn (E q) p) xs p.addr=ans at *;generalize xs.find? (fun q=>sameEn (E q) p)=fd at *;generalize findI (fun q=>sameEn (E q) p) xs=fi at *;clear hr hin hF hG;unfold enC;have hun:undef=Value.tuple #[]:=rfl;go_enter Tryz.func47,Tryz.ntmps47
 go_upto_region 1 with fail
 generalize ((aW (aW w [.func (.func F) #[] #[]] 84) (EnV p.proto p.addr p.port) 86).alloc (.cells (BdR 0 ⟨#[]⟩ 0 ⟨#[]⟩ 0).toArray 48))=W3 at *;go_wp2_with fail
 refine (HI.out _ W3Z.out HK1.out HK2.out).mono ?_;rintro e w1 ⟨rfl,q1⟩;have B1:Hid _:=W3Z.out.trans (q1.mono W3Z.out.size);have K2:=HK2.out.kept (by simp [enL]) q1;have K3:Hid _:=HK3.out.kept (by simp) q1;have k21:=K2.cell (j:=1) rfl;clear q1 K2 HK1 HK2 HK3 W3Z HI;go_wp2_with fail
 refine (HTL.out _).mono ?_;rintro e w1 ⟨rfl,rfl⟩;have hRw:w.heap.size≤w.heap.size+1+1:=by omega
 obtain ⟨y0,y1,y2,y3,y4⟩:=K3.out.f5;obtain ⟨z0,z1,z2,z3,z4⟩:=K3.out.c5;by_cases hs:20000 < p.addr.size
 ·have HX:Hid (ans=bdZ):=by unfold Hid; rw [HV.out,if_pos hs]
  have hd:decide (20000 < p.addr.size)=true:=decide_eq_true hs;rw [hd];go_wp2_with fail
  refine bodyPost_ret (v:=.agg (BdR 0 ⟨#[]⟩ 0 ⟨#[]⟩ 0).toArray) (by simp [results,Tryz.results47,go_sem,z0,z1,z2,z3,z4]) rfl (And.intro (congrArg (fun x=>Ending.returned (bdC x)) HX.out.symm) ?_);exact (((((B1.out.setCell (p:=⟨w.heap.size+1+1,0,none⟩) hRw _).setCell (p:=⟨w.heap.size+1+1,1,none⟩) hRw _).setCell (p:=⟨w.heap.size+1+1,2,none⟩) hRw _).setCell (p:=⟨w.heap.size+1+1,3,none⟩) hRw _).setCell (p:=⟨w.heap.size+1+1,4,none⟩) hRw _)
 ·have hd:decide (20000 < p.addr.size)=false:=decide_eq_false hs;rw [hd];by_cases hk:fi < 0
  ·have HX:Hid (ans=bdZ):=by unfold Hid; rw [HV.out,if_neg hs,HNO.out hk]; rfl
   go_wp2_with fail
   refine bodyPost_ret (v:=.agg (BdR 0 ⟨#[]⟩ 0 ⟨#[]⟩ 0).toArray) (by simp [results,Tryz.results47,go_sem,z0,z1,z2,z3,z4]) rfl (And.intro (congrArg (fun x=>Ending.returned (bdC x)) HX.out.symm) ?_);exact (((((B1.out.setCell (p:=⟨w.heap.size+1+1,0,none⟩) hRw _).setCell (p:=⟨w.heap.size+1+1,1,none⟩) hRw _).setCell (p:=⟨w.heap.size+1+1,2,none⟩) hRw _).setCell (p:=⟨w.heap.size+1+1,3,none⟩) hRw _).setCell (p:=⟨w.heap.size+1+1,4,none⟩) hRw _)
  ·obtain ⟨i,hi,hfi,hfd⟩:=HAT.out (by omega);subst hfi;obtain ⟨b,off,rfl,hb,hat⟩:=HR.out.at hi;have hA:=(hat.below hb B1.out) i hi;have hsz:=HIN.out.2 xs[i] (List.getElem_mem hi);obtain ⟨q,hq⟩ : ∃ q,xs[i]=q:=⟨_,rfl⟩;rw [hq] at hA hfd hsz;have HX:Hid (ans=q):=by unfold Hid; rw [HV.out,if_neg hs,hfd]; rfl
   have c0:w1.cell? ⟨b,off+i*5,none⟩=some (iV q.proto):=hA 0 _ rfl;have c1:w1.cell? ⟨b,off+i*5+1,none⟩=some (.string q.inn):=hA 1 _ rfl;have c2:w1.cell? ⟨b,off+i*5+2,none⟩=some (iV q.inPort):=hA 2 _ rfl;have c3:w1.cell? ⟨b,off+i*5+3,none⟩=some (.string q.out):=hA 3 _ rfl;have c4:w1.cell? ⟨b,off+i*5+4,none⟩=some (iV q.outPort):=hA 4 _ rfl;have HCY:Hid (∀ W,Cb 82 #[.agg (BdV q).toArray] W (.agg (BdV q).toArray)):=fun W=>copyBind_any q W hsz.1 hsz.2
   clear hA hat hq hfd hsz HAT HNO HFO HV z0 z1 z2 z3 z4 y0 y1 y2 y3 y4;have hiI:(i:Int) < (xs.length:Int):=by omega
   go_wp2_with fail
   refine (HCY.out _).mono ?_;rintro e w3 ⟨rfl,q3⟩;have B3:Hid _:=B1.out.trans (q3.mono B1.out.size);have K4:Hid _:=K3.out.kept (by simp) q3;obtain ⟨y0,y1,y2,y3,y4⟩:=K4.out.f5;obtain ⟨z0,z1,z2,z3,z4⟩:=K4.out.c5;clear q3 c0 c1 c2 c3 c4;go_wp2_with fail
   refine bodyPost_ret (v:=.agg (BdV q).toArray) (by simp [results,Tryz.results47,go_sem,z0,z1,z2,z3,z4]) rfl (And.intro (congrArg (fun x=>Ending.returned (bdC x)) HX.out.symm) ?_);exact (((((B3.out.setCell (p:=⟨w.heap.size+1+1,0,none⟩) hRw _).setCell (p:=⟨w.heap.size+1+1,1,none⟩) hRw _).setCell (p:=⟨w.heap.size+1+1,2,none⟩) hRw _).setCell (p:=⟨w.heap.size+1+1,3,none⟩) hRw _).setCell (p:=⟨w.heap.size+1+1,4,none⟩) hRw _)
theorem implBindAt_any (xs:List Bd) (proto:Int) (s:ByteArray) (port:Int) (a:Option Addr) (cap:Nat) (sv:Value) (hsv:sv.oneCell'=true) (w:World) (hin:BdsIn xs) (hr:SlIs bdL 5 w a xs) :
  Cb 20 #[.agg #[.slice a xs.length cap,sv],iV proto,.string s,iV port] w (bdC (bindV (ofOut proto s port) xs s)):=by
 have hR:∀ W,Below w.heap.size w W→Cb 47 #[.slice a xs.length cap,.func (.func 48) #[] #[],.agg (EnV proto s port).toArray] W (bdC (bindV (ofOut proto s port) xs s)):=fun W hW=>by
  have h:=firstBind_any lentE 48 (fun args W=>by kernel_rfl) ⟨proto,s,port⟩ xs a cap W (fun q W=>lentEnd_any q W) hin (hr.below hW);rw [show (fun q=>sameEn (lentE q) ⟨proto,s,port⟩)=ofOut proto s port from funext fun q=>lent_out proto s port q] at h;exact h
 have HR:Hid _:=hR;have HB:Hid (Below w.heap.size w ((aW w [.slice a xs.length cap,sv] 31).alloc (.cells (BdR 0 ⟨#[]⟩ 0 ⟨#[]⟩ 0).toArray 48))):=((Below.refl _ _).alloc (Nat.le_refl _) _).alloc (by simp) _;have HK:Hid (HoldsL ((aW w [.slice a xs.length cap,sv] 31).alloc (.cells (BdR 0 ⟨#[]⟩ 0 ⟨#[]⟩ 0).toArray 48)) w.heap.size [.slice a xs.length cap,sv]):=(HoldsL.new w _ _).alloc _;have HK3:Hid (HoldsL ((aW w [.slice a xs.length cap,sv] 31).alloc (.cells (BdR 0 ⟨#[]⟩ 0 ⟨#[]⟩ 0).toArray 48)) (w.heap.size+1) (BdR 0 ⟨#[]⟩ 0 ⟨#[]⟩ 0)):=by
  have h:=HoldsL.new (w.alloc (.cells #[.slice a xs.length cap,sv] 31)) (BdR 0 ⟨#[]⟩ 0 ⟨#[]⟩ 0) 48;rw [World.size_alloc] at h; exact h
 generalize bindV (ofOut proto s port) xs s=ans at *;unfold bdC at HR;clear hin hr hR;go_enter Tryz.func20,Tryz.ntmps20
 go_upto_region 1 with fail
 generalize ((aW w [.slice a xs.length cap,sv] 31).alloc (.cells (BdR 0 ⟨#[]⟩ 0 ⟨#[]⟩ 0).toArray 48))=W at *;have k0:=HK.out.cell (j:=0) rfl;go_wp2_with fail
 refine (HR.out _ HB.out).mono ?_;rintro e w1 ⟨rfl,q1⟩;have B1:Hid _:=HB.out.trans (q1.mono HB.out.size);have K3:Hid _:=HK3.out.kept (by simp) q1;have hRw:w.heap.size≤w.heap.size+1:=by omega
 obtain ⟨y0,y1,y2,y3,y4⟩:=K3.out.f5;obtain ⟨z0,z1,z2,z3,z4⟩:=K3.out.c5;clear q1 k0 HK HK3 HB HR;go_wp2_with fail
 refine bodyPost_ret (v:=.agg (BdV ans).toArray) (by simp [results,Tryz.results20,go_sem,z0,z1,z2,z3,z4]) rfl ⟨rfl,?_⟩;exact (((((B1.out.setCell (p:=⟨w.heap.size+1,0,none⟩) hRw _).setCell (p:=⟨w.heap.size+1,1,none⟩) hRw _).setCell (p:=⟨w.heap.size+1,2,none⟩) hRw _).setCell (p:=⟨w.heap.size+1,3,none⟩) hRw _).setCell (p:=⟨w.heap.size+1,4,none⟩) hRw _)
open Go.ChangeShapes Go.WideShapes
structure OutOf (lo hi:Nat) (w W:World):Prop where
 os:W.os=w.os
 tape:W.tape=w.tape
 output:W.output=w.output
 size:w.heap.size≤W.heap.size
 block:∀ k,k < w.heap.size→(k < lo∨hi≤k)→W.heap[k]?=w.heap[k]?
section
variable {lo hi lo2 hi2 B:Nat} {w w1 W:World}
theorem OutOf.trans (h:OutOf lo hi w w1) (h2:OutOf lo hi w1 W):OutOf lo hi w W :=
 ⟨h2.os.trans h.os,h2.tape.trans h.tape,h2.output.trans h.output,Nat.le_trans h.size h2.size,fun k hk hb=>(h2.block k (Nat.lt_of_lt_of_le hk h.size) hb).trans (h.block k hk hb)⟩
theorem OutOf.below (h:OutOf lo hi w W) {m:Nat} (hm:m≤lo) (hl:m≤w.heap.size):Below m w W:=⟨h.os,h.tape,h.output,h.size,fun k hk=>h.block k (by omega) (.inl (by omega))⟩
end
section
variable {α:Type} {en:α→List Value} {n:Nat} {lo hi lo2 hi2:Nat} {w W:World} {a:Option Addr} {xs:List α}
theorem SlLaid.of_block {B L k:Nat} (h:SlLaid en n w B xs L k) (hb:W.heap[B]?=w.heap[B]?) (hs:w.heap.size≤W.heap.size):SlLaid en n W B xs L k:=by
 have hc:∀ o,W.cell? ⟨B,o,none⟩=w.cell? ⟨B,o,none⟩:=fun o=>by unfold World.cell?; rw [show (⟨B,o,none⟩ : Addr).block=B from rfl,hb]
 have hf:∀ o,W.frozen? ⟨B,o,none⟩=w.frozen? ⟨B,o,none⟩:=fun o=>World.frozen?_of_block (a:=⟨B,o,none⟩) hb
 exact ⟨Nat.lt_of_lt_of_le h.blk hs,fun i hi hk j v hv=>(hc _).trans (h.at0 i hi hk j v hv),fun i hi=>by rw [hc]; exact h.there i hi,fun i hi=>by rw [hf]; exact h.free i hi⟩
def SlIn (en:α→List Value) (n lo hi:Nat) (w:World) (a:Option Addr) (xs:List α):Prop:=xs=[]∨∃ g,a=some ⟨g,0,none⟩∧lo≤g∧g < hi∧SlLaid en n w g xs xs.length xs.length
theorem SlIn.own (h:SlIn en n lo hi w a xs):SlOwn en n lo w a xs:=by
 rcases h with h | ⟨g,h1,h2,h3,h4⟩
 ·exact .inl h
 ·exact .inr ⟨g,h1,h2,h4⟩
theorem SlIn.is (h:SlIn en n lo hi w a xs):SlIs en n w a xs:=h.own.is
theorem SlIn.kept (h:SlIn en n lo hi w a xs) (hb:Below w.heap.size w W):SlIn en n lo hi W a xs:=by
 rcases h with h | ⟨g,h1,h2,h3,h4⟩
 ·exact .inl h
 ·exact .inr ⟨g,h1,h2,h3,h4.kept hb⟩
end
structure BbIn (lo hi:Nat) (w:World) (a b:Option Addr) (x:Bb):Prop where
 bd:SlIn bdL 5 lo hi w a x.binds
 ss:SlIn ssL 7 lo hi w b x.sess
 ne:∀ g h,a=some ⟨g,0,none⟩→b=some ⟨h,0,none⟩→x.binds≠[]→x.sess≠[]→g≠h
section
variable {lo hi lo2 hi2:Nat} {w W:World} {a b:Option Addr} {x:Bb}
theorem BbIn.own (h:BbIn lo hi w a b x):BbOwn lo w a b x:=⟨h.bd.own,h.ss.own,h.ne⟩
theorem BbIn.is (h:BbIn lo hi w a b x):BbIs w a b x:=⟨h.bd.is,h.ss.is⟩
theorem BbIn.kept (h:BbIn lo hi w a b x) (hb:Below w.heap.size w W):BbIn lo hi W a b x:=⟨h.bd.kept hb,h.ss.kept hb,h.ne⟩
theorem BbOwn.low {base:Nat} (h:BbOwn base w a b x) {m:Nat} (hm:m≤base):BbOwn m w a b x:=⟨h.bd.down hm,h.ss.down hm,h.ne⟩
end
end Go.Proofs.YtdkepkaflielhaaGreatDoor
namespace Go.Proofs.YtdkepkaflielhaaGreatDoor
open Go.RowKit Go.PlainAid
theorem findI_in {α:Type} (f:α→Bool) (xs:List α) : -1≤findI f xs∧findI f xs < xs.length:=by
 unfold findI
 cases h:xs.findIdx? f with
 | none=>simp; omega
 | some i =>
  obtain ⟨hi,_,_⟩:=List.findIdx?_eq_some_iff_getElem.1 h;simp; omega
theorem sessAt_any (p:Sk) (xs:List Ss) (a:Option Addr) (cap:Nat) (w:World) (hl:xs.length≤1048576) (hr:SlIs ssL 7 w a xs) :
  Cb 107 #[.slice a xs.length cap,skC p] w (iV (findI (fun q=>sameSk (sessK q) p) xs)):=by
 have HZ:Hid (Below w.heap.size w (w.alloc (.cells (BdR p.host.proto p.host.addr p.host.port p.peer p.peerPort).toArray 147))):=(Below.refl _ _).alloc (Nat.le_refl _) _;have HK:Hid (HoldsL (w.alloc (.cells (BdR p.host.proto p.host.addr p.host.port p.peer p.peerPort).toArray 147)) w.heap.size (skL p)):=HoldsL.new w (skL p) 147;have HI:Hid (∀ W,Below w.heap.size w W→HoldsL W w.heap.size (skL p)→Cb 137 #[.slice a xs.length cap,.func (.func 138) #[] #[.pointer (some ⟨w.heap.size,0,none⟩)]] W (iV (findI (fun q=>sameSk (sessK q) p) xs))):=fun W hW h1=>idxSession_any (fun q=>sameSk (sessK q) p) 138 (fun args W=>by kernel_rfl) _ xs a cap W hl (hr.below hW) (fun W' hW' q hq=>sessAt1_any q p _ W' (h1.kept (by simp [skL]) hW'))
 obtain ⟨hf1,hf2⟩:=findI_in (fun q=>sameSk (sessK q) p) xs;generalize findI (fun q=>sameSk (sessK q) p) xs=fi at *;clear hr;unfold skC;go_enter Tryz.func107,Tryz.ntmps107
 go_upto_region 1 with fail
 generalize (w.alloc (.cells (BdR p.host.proto p.host.addr p.host.port p.peer p.peerPort).toArray 147))=W at *;go_wp2_with fail
 refine (HI.out _ HZ.out HK.out).mono ?_;rintro e w1 ⟨rfl,q1⟩;have B1:Hid _:=HZ.out.trans (q1.mono HZ.out.size);clear q1;go_wp2_with fail
 go_ret;exact ⟨rfl,B1.out⟩
theorem hasFunc_any (f:Ss→Bool) (F:Nat) (hG:Enters F) (caps:Array Value) (xs:List Ss) (a:Option Addr) (cap:Nat) (w:World) (hl:xs.length≤1048576) (hr:SlIs ssL 7 w a xs) (hC:∀ W,Below w.heap.size w W→∀ q,q∈xs→Calls Tryz.prog F (#[ssC q]++caps) W fun e w'=>e=.returned (.bool (f q))∧Below W.heap.size W w') :
  Cb 168 #[.slice a xs.length cap,.func (.func F) #[] caps] w (.bool (xs.any f)):=by
 have HI:Hid _:=idxSession_any f F hG caps xs a cap w hl hr hC;have HF:Hid (decide (0≤findI f xs)=xs.any f):=findI_any f xs;obtain ⟨hf1,hf2⟩:=findI_in f xs;generalize xs.any f=ans at *;generalize findI f xs=fi at *;clear hr hC hG;go_enter Tryz.func168,Tryz.ntmps168
 go_wp2_with fail
 refine Calls.mono HI.out ?_;rintro e w1 ⟨rfl,b1⟩;have B1:Hid _:=b1;clear b1;go_wp2_with fail
 go_ret;exact ⟨ret_bool HF.out,B1.out⟩
theorem hasSess_any (b:Bd) (xs:List Ss) (a:Option Addr) (cap:Nat) (w:World) (hl:xs.length≤1048576) (hr:SlIs ssL 7 w a xs) :
  Cb 166 #[.slice a xs.length cap,bdC b] w (.bool (xs.any (hasS b))):=by
 have HZ:Hid (Below w.heap.size w (w.alloc (.cells (BdV b).toArray 48))):=(Below.refl _ _).alloc (Nat.le_refl _) _;have HH:Hid (∀ W,Cb 53 #[.agg (BdV b).toArray] W (.agg (EnV b.proto b.inn b.inPort).toArray)):=fun W=>hostEnd_any b W
 have HC:Hid (∀ W B,Below w.heap.size w W→HoldsL W B (enL (hostE b))→Cb 168 #[.slice a xs.length cap,.func (.func 181) #[] #[.pointer (some ⟨B,0,none⟩)]] W (.bool (xs.any (hasS b)))):=fun W B hW hB=>by
  have h:=hasFunc_any (fun q=>sameEn (sessE q) (hostE b)) 181 (fun args W=>by kernel_rfl) #[.pointer (some ⟨B,0,none⟩)] xs a cap W hl (hr.below hW) (fun W' hW' q hq=>hasSess1_any q (hostE b) B W' (hB.kept (by simp [enL]) hW'));rw [show (fun q=>sameEn (sessE q) (hostE b))=hasS b from funext fun q=>sess_has b q] at h;exact h
 generalize xs.any (hasS b)=ans at *;clear hr;unfold bdC;go_enter Tryz.func166,Tryz.ntmps166
 go_wp2_with fail
 refine (HH.out _).mono ?_;rintro e w1 ⟨rfl,q1⟩;have B1:Below w.heap.size w w1:=HZ.out.trans (q1.mono HZ.out.size);go_upto_region 2 with fail
 have B2:Hid (Below w.heap.size w (w1.alloc (.cells (EnV b.proto b.inn b.inPort).toArray 86))):=B1.alloc B1.size _;have K2:Hid (HoldsL (w1.alloc (.cells (EnV b.proto b.inn b.inPort).toArray 86)) w1.heap.size (enL (hostE b))):=HoldsL.new w1 (enL (hostE b)) 86;generalize (w1.alloc (.cells (EnV b.proto b.inn b.inPort).toArray 86))=W2 at *;clear q1 B1 HZ HH;go_wp2_with fail
 refine (HC.out _ _ B2.out K2.out).mono ?_;rintro e w3 ⟨rfl,q3⟩;have B3:Hid _:=B2.out.trans (q3.mono B2.out.size);clear q3;go_wp2_with fail
 go_ret;exact ⟨rfl,B3.out⟩
theorem outOf1_any (q:Bd) (s:ByteArray) (B:Nat) (w:World) (hB:HoldsL w B [.string s]) :
  Cb 180 #[bdC q,.pointer (some ⟨B,0,none⟩)] w (.bool (ofHost s q)):=by
 have HZ:Hid (Below w.heap.size w (w.alloc (.cells (BdV q).toArray 48))):=(Below.refl _ _).alloc (Nat.le_refl _) _;have K1:=hB.alloc (.cells (BdV q).toArray 48);have K2:HoldsL (w.alloc (.cells (BdV q).toArray 48)) w.heap.size (bdL q):=HoldsL.new w (bdL q) 48;have HV:Hid (ofHost s q=decide (q.inn.toList=s.toList)):=rfl;generalize ofHost s q=ans at *;unfold bdC;go_enter Tryz.func180,Tryz.ntmps180
 go_upto_region 1 with fail
 generalize (w.alloc (.cells (BdV q).toArray 48))=W at *;have c1:=K2.cell (j:=1) rfl;have k0:=K1.cell (j:=0) rfl;clear K1 K2 hB;go_wp2_with fail
 go_ret;exact ⟨ret_bool (by rw [HV.out]; first | rfl | (rw [Bool.eq_iff_iff]; simp)),HZ.out⟩
theorem outOf_any (s:ByteArray) (xs:List Bd) (a:Option Addr) (cap:Nat) (w:World) (hl:xs.length≤1048576) (hr:SlIs bdL 5 w a xs) :
  Cb 164 #[.slice a xs.length cap,.string s] w (.tuple #[.string (outIn xs ⟨#[]⟩ s),.bool (xs.find? (ofHost s)).isSome]):=by
 have HZ:Hid (Below w.heap.size w (w.alloc (.cells #[.string s] 9))):=(Below.refl _ _).alloc (Nat.le_refl _) _;have HK:Hid (HoldsL (w.alloc (.cells #[.string s] 9)) w.heap.size [.string s]):=HoldsL.new w _ _;have HI:Hid (∀ W,Below w.heap.size w W→HoldsL W w.heap.size [.string s]→Cb 79 #[.slice a xs.length cap,.func (.func 180) #[] #[.pointer (some ⟨w.heap.size,0,none⟩)]] W (iV (findI (ofHost s) xs))):=fun W hW h1=>idxBind_any (ofHost s) 180 (fun args W=>by kernel_rfl) _ xs a cap W hl (hr.below hW) (fun W' hW' q hq=>outOf1_any q s _ W' (h1.kept (by simp) hW'))
 have HR:Hid (SlIs bdL 5 w a xs):=hr;have HV:Hid (outIn xs ⟨#[]⟩ s=match xs.find? (ofHost s) with | some c=>c.out | none=>⟨#[]⟩):=rfl;have HAT:Hid (0≤findI (ofHost s) xs→∃ i:Nat,∃ hi:i < xs.length,findI (ofHost s) xs=i∧xs.find? (ofHost s)=some xs[i]):=fun h=>findBd_at _ xs (by omega)
 have HNO:Hid (findI (ofHost s) xs < 0→xs.find? (ofHost s)=none):=find_no _ xs;obtain ⟨hf1,hf2⟩:=findI_in (ofHost s) xs;generalize outIn xs ⟨#[]⟩ s=ans at *;generalize xs.find? (ofHost s)=fd at *;generalize findI (ofHost s) xs=fi at *;clear hr;go_enter Tryz.func164,Tryz.ntmps164
 go_upto_region 1 with fail
 generalize (w.alloc (.cells #[.string s] 9))=W at *;go_wp2_with fail
 refine (HI.out _ HZ.out HK.out).mono ?_;rintro e w1 ⟨rfl,q1⟩;have B1:Hid _:=HZ.out.trans (q1.mono HZ.out.size);clear q1 HI HK HZ;by_cases hk:fi < 0
 ·have HX:=HNO.out hk;have HA:Hid (ans=⟨#[]⟩∧fd.isSome=false):=by unfold Hid; rw [HV.out,HX]; exact ⟨rfl,rfl⟩
  clear HX HNO HAT HV;go_wp2_with fail
  go_ret2
  exact ⟨by rw [HA.out.1,HA.out.2]; rfl,B1.out⟩
 ·obtain ⟨i,hi,hfi,hfd⟩:=HAT.out (by omega);subst hfi;obtain ⟨b,off,rfl,hb,hat⟩:=HR.out.at hi;have hA:=(hat.below hb B1.out) i hi;obtain ⟨q,hq⟩ : ∃ q,xs[i]=q:=⟨_,rfl⟩;rw [hq] at hA hfd;have HA:Hid (ans=q.out∧fd.isSome=true):=by unfold Hid; rw [HV.out,hfd]; exact ⟨rfl,rfl⟩
  have c3:w1.cell? ⟨b,off+i*5+3,none⟩=some (.string q.out):=hA 3 _ rfl;have hiI:(i:Int) < (xs.length:Int):=by omega
  clear hA hat hq hfd HAT HNO HV;go_wp2_with fail
  go_ret2
  exact ⟨by rw [HA.out.1,HA.out.2]; rfl,B1.out⟩
theorem sessRight_any (q:Ss) (w:World) (hs:q.peer.size≤1048576) :
  Cb 135 #[ssC q] w (.bool (sessR q)):=by
 have HZ:Hid (Below w.heap.size w (w.alloc (.cells (SsV q).toArray 59))):=(Below.refl _ _).alloc (Nat.le_refl _) _;have K2:HoldsL (w.alloc (.cells (SsV q).toArray 59)) w.heap.size (ssL q):=HoldsL.new w (ssL q) 59;have HW:Hid (∀ W,Cw 122 #[iV q.peerPort] W (.bool (isW q.peerPort))):=fun W=>implWordIs_any _ W
 have HT:Hid (∀ W,Cw 144 #[iV q.state] W (.bool (isIn q.state 1 7))):=fun W=>isState_any _ W
 have HO:Hid (∀ W,Cw 143 #[iV q.proto] W (.bool (stillP q.proto))):=fun W=>implStill_any _ W
 have HV:Hid (sessR q=(decide (q.peer.size=4)&&isW q.peerPort&&isIn q.state 1 7&&(decide (q.state=3)||!stillP q.proto)&&(decide (0≤q.untl)&&decide (q.untl≤2000000000)))):=rfl;generalize sessR q=ans at *;generalize isW q.peerPort=b1 at *;generalize isIn q.state 1 7=b2 at *;generalize stillP q.proto=b3 at *;have hun:undef=Value.tuple #[]:=rfl;unfold ssC;go_enter Tryz.func135,Tryz.ntmps135
 go_upto_region 1 with fail
 generalize (w.alloc (.cells (SsV q).toArray 59))=W at *;obtain ⟨c0,c1,c2,c3,c4,c5,c6⟩:=K2.c7;clear K2;by_cases h4:q.peer.size=4
 case neg =>
  have HX:Hid (ans=false):=by unfold Hid; rw [HV.out,decide_eq_false h4]; rfl
  have h4i:¬ (q.peer.size:Int)=4:=by omega
  have d1:((q.peer.size:Int)==4)=false:=by simp [h4i]
  go_wp2_with fail
  go_ret;exact ⟨ret_bool HX.out.symm,HZ.out⟩
 have h4i:(q.peer.size:Int)=4:=by omega
 have d1:((q.peer.size:Int)==4)=true:=by simp [h4i]
 clear h4i;go_wp2_with fail
 refine (HW.out _).mono ?_;rintro e W ⟨rfl,rfl⟩
 cases b1 with
 | false =>
  have HX:Hid (ans=false):=by unfold Hid; rw [HV.out]; simp
  go_wp2_with fail
  go_ret;exact ⟨ret_bool HX.out.symm,HZ.out⟩
 | true =>
 go_wp2_with fail
 refine (HT.out _).mono ?_;rintro e W ⟨rfl,rfl⟩
 cases b2 with
 | false =>
  have HX:Hid (ans=false):=by unfold Hid; rw [HV.out]; simp
  go_wp2_with fail
  go_ret;exact ⟨ret_bool HX.out.symm,HZ.out⟩
 | true =>
 by_cases h3:q.state=3
 ·have e3:(q.state==3)=true:=by simp [h3]
  have HV2:Hid (ans=(decide (0≤q.untl)&&decide (q.untl≤2000000000))):=by unfold Hid; rw [HV.out,decide_eq_true h4,decide_eq_true h3]; rfl
  have HH3:Hid (q.state=3):=h3;clear h3 HV;by_cases t0:0≤q.untl
  case neg =>
   have HX:Hid (ans=false):=by unfold Hid; rw [HV2.out,decide_eq_false t0]; simp
   have d0:decide (0≤q.untl)=false:=decide_eq_false t0;go_wp2_with fail
   go_ret;exact ⟨ret_bool HX.out.symm,HZ.out⟩
  have d0:decide (0≤q.untl)=true:=decide_eq_true t0;by_cases t1:q.untl≤2000000000
  case neg =>
   have HX:Hid (ans=false):=by unfold Hid; rw [HV2.out,decide_eq_false t1]; simp
   have d9:decide (q.untl≤2000000000)=false:=decide_eq_false t1;go_wp2_with fail
   go_ret;exact ⟨ret_bool HX.out.symm,HZ.out⟩
  have d9:decide (q.untl≤2000000000)=true:=decide_eq_true t1;have HX:Hid (ans=true):=by unfold Hid; rw [HV2.out,decide_eq_true t0,decide_eq_true t1]; rfl
  go_wp2_with fail
  go_ret;exact ⟨ret_bool HX.out.symm,HZ.out⟩
 ·have e3:(q.state==3)=false:=by simp [h3]
  have HV2:Hid (ans=(!b3&&(decide (0≤q.untl)&&decide (q.untl≤2000000000)))):=by unfold Hid; rw [HV.out,decide_eq_true h4,decide_eq_false h3]; rfl
  clear HV;go_wp2_with fail
  refine (HO.out _).mono ?_;rintro e W ⟨rfl,rfl⟩
  cases b3 with
  | true =>
   have HX:Hid (ans=false):=by unfold Hid; rw [HV2.out]; rfl
   go_wp2_with fail
   go_ret;exact ⟨ret_bool HX.out.symm,HZ.out⟩
  | false =>
  by_cases t0:0≤q.untl
  case neg =>
   have HX:Hid (ans=false):=by unfold Hid; rw [HV2.out,decide_eq_false t0]; simp
   have d0:decide (0≤q.untl)=false:=decide_eq_false t0;go_wp2_with fail
   go_ret;exact ⟨ret_bool HX.out.symm,HZ.out⟩
  have d0:decide (0≤q.untl)=true:=decide_eq_true t0;by_cases t1:q.untl≤2000000000
  case neg =>
   have HX:Hid (ans=false):=by unfold Hid; rw [HV2.out,decide_eq_false t1]; simp
   have d9:decide (q.untl≤2000000000)=false:=decide_eq_false t1;go_wp2_with fail
   go_ret;exact ⟨ret_bool HX.out.symm,HZ.out⟩
  have d9:decide (q.untl≤2000000000)=true:=decide_eq_true t1;have HX:Hid (ans=true):=by unfold Hid; rw [HV2.out,decide_eq_true t0,decide_eq_true t1]; rfl
  go_wp2_with fail
  go_ret;exact ⟨ret_bool HX.out.symm,HZ.out⟩
end Go.Proofs.YtdkepkaflielhaaGreatDoor
