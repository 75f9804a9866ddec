import Derived.Test.YtdkepkaflielhaaGreatDoorMerged24
set_option linter.unusedVariables false
set_option linter.unusedSimpArgs false
set_option maxRecDepth 100000
set_option maxHeartbeats 8000000
namespace Go.Proofs.YtdkepkaflielhaaGreatDoor
open Go.RowKit Go.PlainAid
structure jR(w:World)(X:Nat)(f:Fl):Prop where
 c0:w.cell? ⟨X,0,none⟩=some (iV f.UU)
 f0:w.frozen? ⟨X,0,none⟩=false
 c1:w.cell? ⟨X,1,none⟩=some (.string f.src)
 f1:w.frozen? ⟨X,1,none⟩=false
 c2:w.cell? ⟨X,2,none⟩=some (.string f.dst)
 f2:w.frozen? ⟨X,2,none⟩=false
 c3:w.cell? ⟨X,3,none⟩=some (iV f.sp)
 f3:w.frozen? ⟨X,3,none⟩=false
 c4:w.cell? ⟨X,4,none⟩=some (iV f.dp)
 f4:w.frozen? ⟨X,4,none⟩=false
section
variable {w w':World} {X:Nat} {f:Fl}
theorem jR.new(w:World)(f:Fl){t:TypeId}:jR (w.alloc (.cells (gE f).toArray t)) w.heap.size f:=⟨bW rfl,by simp,bW rfl,by simp,bW rfl,by simp,bW rfl,by simp,bW rfl,by simp⟩
theorem jR.kept(h:jR w X f)(q:Below w.heap.size w w'):jR w' X f:=by
 have hb:=UH w _ h.c0;obtain⟨hc,hf⟩:=iI q;exact⟨(hc X 0 hb).trans h.c0,(hf X 0 hb).trans h.f0,(hc X 1 hb).trans h.c1,(hf X 1 hb).trans h.f1,(hc X 2 hb).trans h.c2,(hf X 2 hb).trans h.f2,(hc X 3 hb).trans h.c3,(hf X 3 hb).trans h.f3,(hc X 4 hb).trans h.c4,(hf X 4 hb).trans h.f4⟩
theorem jR.other(h:jR w X f){C o:Nat}(v:Value)(hC:C≠X):jR (w.setCell ⟨C,o,none⟩ v) X f:=by
 have hc:∀j,(w.setCell ⟨C,o,none⟩ v).cell? ⟨X,j,none⟩=w.cell? ⟨X,j,none⟩:=fun j=>World.cell?_setCell_other w _ _ v (fun e=>hC (congrArg Addr.block e))
 have hf:∀j,(w.setCell ⟨C,o,none⟩ v).frozen? ⟨X,j,none⟩=w.frozen? ⟨X,j,none⟩:=fun j=>by simp
 exact⟨(hc 0).trans h.c0,(hf 0).trans h.f0,(hc 1).trans h.c1,(hf 1).trans h.f1,(hc 2).trans h.c2,(hf 2).trans h.f2,(hc 3).trans h.c3,(hf 3).trans h.f3,(hc 4).trans h.c4,(hf 4).trans h.f4⟩
theorem jR.set3(h:jR w X f)(q:Int):jR (w.setCell ⟨X,3,none⟩ (iV q)) X ⟨f.UU,f.src,f.dst,q,f.dp⟩:=by
 obtain⟨c0,f0,c1,f1,c2,f2,c3,f3,c4,f4⟩:=h;constructor<;>simp[go_sem,c0,f0,c1,f1,c2,f2,c3,f3,c4,f4]
end
theorem wM(s d:BA)(p:Int)(t:BA)(w:World)(hs:s.size≤1048576)(ht:t.size≤1048576) :
  Cb 32 #[.string s,.string d,iV p,.string t] w (.tuple #[gQ (aR s d p t),iV (aU s.size p t)]):=by
 have HB1:Hid (∀W,Cw 66 #[iV p,iV s.size] W (.bool (cB p s.size))):=fun W=>uL _ _ W (by unfold maxLen;omega)
 have HB2:Hid (∀W,Cw 44 #[iV p] W (.bool (aJ p))):=fun W=>jG _ W
 have HN:Hid (aU s.size p t≠0→gQ (aR s d p t)=.agg (dA p s d 0 0).toArray):=fun h=>by unfold aR;rw[if_neg h];rfl
 cases a1:cB p s.size with
 | false=>
  have HV:Hid (aU s.size p t=11):=by unfold Hid aU;rw[if_pos a1]
  have HW:Hid (gQ (aR s d p t)=.agg (dA p s d 0 0).toArray):=HN.out (by rw[HV.out];decide);rw[a1]at HB1;rw[HV.out,HW.out];clear HN HV HW HB2;go_enter Tryz.func32,Tryz.ntmps32
  go_wp2_with fail
  refine(HB1.out _).mono ?_;rintro e w2 ⟨rfl,rfl⟩;go_wp2_with fail
  refine UQ (v:=.tuple #[.agg (dA p s d 0 0).toArray,iV 11]) (by simp[results,Tryz.results32,go_sem]) rfl ⟨rfl,?_⟩;exact(bR.alloc lR _).alloc (by simp) _
 | true=>
  have hb:=get_bt t;have b12:=bD t 12;have b0:=bD t 0;have b1:=bD t 1;have HC:Hid (∀k:Nat,k+1 < t.size→∀W,Cb 42 #[.string t,iV k] W (iV (aL (bt t) k))):=fun k hk W=>oO t k W hk (by unfold maxLen;omega)
  have HS:Hid (gA p t=((decide (p=6)&&(decide (t.size < 20)||decide (bt t 12 / 16 < 5)||decide ((t.size:Int) < 4*(bt t 12 / 16))))||decide (t.size < 8))):=rfl;have HV:Hid (aU s.size p t=if gA p t=true then 4 else if aJ p=true then (if (bt t 0≠iH p∧bt t 0≠jV p)∨bt t 1≠0 then 11 else 0) else 0):=by unfold Hid aU;rw[if_neg (by rw[a1];decide)]
  have HY:Hid (aU s.size p t=0→gQ (aR s d p t)=.agg (dA p s d (if aJ p=true then aL (bt t) 4 else aL (bt t) 0) (if aJ p=true then aL (bt t) 4 else aL (bt t) 2)).toArray):=fun h=>by
   unfold aR;rw[if_pos h];split<;>rfl
  have HL:Hid (gA p t=false→8≤t.size):=fun h=>by
   unfold gA at h;rw[Bool.or_eq_false_iff,decide_eq_false_iff_not]at h;omega
  rw[a1]at HB1;generalize aU s.size p t=code at *;generalize gQ (aR s d p t)=out at *;generalize gA p t=sh at *;clear a1;go_enter Tryz.func32,Tryz.ntmps32
  go_wp2_with fail
  refine(HB1.out _).mono ?_;rintro e w2 ⟨rfl,rfl⟩;clear HB1;go_upto_region 4 with fail
  have HWB:Hid (Below w.heap.size w ((aW w (dA 0 ⟨#[]⟩ ⟨#[]⟩ 0 0) 43).alloc (.cells (dA p s d 0 0).toArray 43))):=(bR.alloc lR _).alloc (by simp) _;have KF:Hid (jR ((aW w (dA 0 ⟨#[]⟩ ⟨#[]⟩ 0 0) 43).alloc (.cells (dA p s d 0 0).toArray 43)) (w.heap.size+1) ⟨p,s,d,0,0⟩):=by
   have h:=jR.new (w.alloc (.cells (dA 0 ⟨#[]⟩ ⟨#[]⟩ 0 0).toArray 43)) ⟨p,s,d,0,0⟩ (t:=43);rw[show (w.alloc (.cells (dA 0 ⟨#[]⟩ ⟨#[]⟩ 0 0).toArray 43)).heap.size=w.heap.size+1 by simp]at h;exact h
  have KR:Hid (jR ((aW w (dA 0 ⟨#[]⟩ ⟨#[]⟩ 0 0) 43).alloc (.cells (dA p s d 0 0).toArray 43)) w.heap.size ⟨0,⟨#[]⟩,⟨#[]⟩,0,0⟩):=(jR.new w ⟨0,⟨#[]⟩,⟨#[]⟩,0,0⟩).kept (bR.alloc lR _);go_cut [24] (fun c wx=>c=.bool sh∧wx=(aW w (dA 0 ⟨#[]⟩ ⟨#[]⟩ 0 0) 43).alloc (.cells (dA p s d 0 0).toArray 43))
  case first=>
   clear HV HY HN HL HC HB2 HWB KF KR;by_cases c1:p=6
   ·have d1:(p==6)=true:=by simp[c1]
    by_cases c2:t.size < 20
    ·have hB:sh=true:=by rw[HS.out,TT c1,TT c2];rfl
     clear HS c1;subst hB;go_wp2_with fail
     go_meet;exact⟨rfl,rfl⟩
    ·by_cases c3:bt t 12 / 16 < 5
     ·have hB:sh=true:=by rw[HS.out,TT c1,TT c3];simp
      clear HS c1;subst hB;go_wp2_with fail
      go_meet;exact⟨rfl,rfl⟩
     ·by_cases c4:(t.size:Int) < 4*(bt t 12 / 16)
      ·have hB:sh=true:=by rw[HS.out,TT c1,TT c4];simp
       clear HS c1;subst hB;go_wp2_with fail
       go_meet;exact⟨rfl,rfl⟩
      ·have hB:sh=false:=by rw[HS.out,TR c2,TR c3,TR c4,TR (show ¬t.size < 8 by omega)];simp
       clear HS c1;subst hB;go_wp2_with fail
       go_meet;exact⟨congrArg Value.bool (by simp;omega),rfl⟩
   ·have d1:(p==6)=false:=by simp[c1]
    by_cases c2:t.size < 8
    ·have hB:sh=true:=by rw[HS.out,TT c2];simp
     clear HS c1;subst hB;go_wp2_with fail
     go_meet;exact⟨congrArg Value.bool (by simp;omega),rfl⟩
    ·have hB:sh=false:=by rw[HS.out,TR c1,TR c2];rfl
     clear HS c1;subst hB;go_wp2_with fail
     go_meet;exact⟨congrArg Value.bool (by simp;omega),rfl⟩
  case rest=>
  obtain⟨rfl,rfl⟩:=hcut;clear HS
  cases sh with
  | true=>
   have HV2:Hid (code=4):=HV.out;have HO:Hid (out=.agg (dA p s d 0 0).toArray):=HN.out (by rw[HV2.out];decide);clear HV HY HN HL HC HB2 HWB KF KR;go_wp2_with fail
   refine UQ (v:=.tuple #[.agg (dA p s d 0 0).toArray,iV 4]) (by simp[results,Tryz.results32,go_sem]) rfl ⟨by rw[HV2.out,HO.out],?_⟩;exact(bR.alloc lR _).alloc (by simp) _
  | false=>
   have hl:=HL.out rfl;replace HV:Hid (code=if aJ p=true then (if (bt t 0≠iH p∧bt t 0≠jV p)∨bt t 1≠0 then 11 else 0) else 0):=HV.out;have HC4:Hid _:=HC.out 4 (by omega);have HC0:Hid _:=HC.out 0 (by omega);have HC2:Hid _:=HC.out 2 (by omega);clear HL HC
   cases a2:aJ p with
   | false=>
    have HV2:Hid (code=0):=by unfold Hid;rw[HV.out,a2];rfl
    have HO:Hid (out=.agg (dA p s d (aL (bt t) 0) (aL (bt t) 2)).toArray):=by unfold Hid;rw[HY.out HV2.out,a2];rfl
    rw[a2]at HB2;clear HV HY HN HC4 a2;generalize aL (bt t) 0=x0 at *;generalize aL (bt t) 2=x2 at *;go_wp2_with fail
    refine(HB2.out _).mono ?_;rintro e w2 ⟨rfl,rfl⟩;go_wp2_with fail
    refine(HC0.out _).mono ?_;rintro e w3 ⟨rfl,q3⟩;have G3:Hid _:=HWB.out.trans (q3.mono HWB.out.size);have K3:Hid (jR w3 (w.heap.size+1) ⟨p,s,d,0,0⟩):=KF.out.kept q3;have R3:Hid (jR w3 w.heap.size ⟨0,⟨#[]⟩,⟨#[]⟩,0,0⟩):=KR.out.kept q3;clear q3 HWB KF KR;obtain⟨k0,y0,k1,y1,k2,y2,k3,y3,k4,y4⟩:=K3.out;go_wp2_with fail
    refine(HC2.out _).mono ?_;rintro e w4 ⟨rfl,q4⟩;have G4:Hid (Below w.heap.size w w4):=(G3.out.setCell (Nat.le_succ _) _).trans (q4.mono (G3.out.setCell (Nat.le_succ _) _).size);have K4:Hid (jR w4 (w.heap.size+1) ⟨p,s,d,x0,0⟩):=(K3.out.set3 x0).kept q4;have R4:Hid (jR w4 w.heap.size ⟨0,⟨#[]⟩,⟨#[]⟩,0,0⟩):=(R3.out.other _ (by omega)).kept q4;clear q4 G3 K3 R3 k0 y0 k1 y1 k2 y2 k3 y3 k4 y4;obtain⟨k0,y0,k1,y1,k2,y2,k3,y3,k4,y4⟩:=K4.out;obtain⟨o0,z0,o1,z1,o2,z2,o3,z3,o4,z4⟩:=R4.out;go_wp2_with fail
    refine UQ (v:=.tuple #[.agg (dA p s d x0 x2).toArray,iV 0]) (by simp[results,Tryz.results32,go_sem,k0,o0,k1,o1,k2,o2,k3,o3,k4,o4]) rfl ⟨by rw[HV2.out,HO.out],?_⟩;exact(((((G4.out.setCell (Nat.le_succ _) _).setCell lR _).setCell lR _).setCell lR _).setCell lR _).setCell lR _
   | true=>
    have hp:p=1∨p=58:=by unfold aJ at a2;simpa using a2
    rw[a2]at HB2 HV HY;clear HC0 HC2 a2;generalize aL (bt t) 4=x4 at *;rcases hp with rfl|rfl
    ·have HV3:Hid (code=if (bt t 0≠8∧bt t 0≠0)∨bt t 1≠0 then 11 else 0):=HV.out;clear HV;by_cases e0:bt t 0=8
     ·have d0:(bt t 0 != 8)=false:=by simp[e0]
      by_cases e1:bt t 1=0
      ·have d1:(bt t 1 != 0)=false:=by simp[e1]
       have HV2:Hid (code=0):=by unfold Hid;rw[HV3.out,if_neg (fun h=>h.elim (fun q=>q.1 e0) (fun q=>q e1))]
       have HO:Hid (out=.agg (dA 1 s d x4 x4).toArray):=HY.out HV2.out;clear HV3 HY HN;go_wp2_with fail
       refine(HB2.out _).mono ?_;rintro e w2 ⟨rfl,rfl⟩;go_wp2_with fail
       refine(HC4.out _).mono ?_;rintro e w3 ⟨rfl,q3⟩;have G3:Hid _:=HWB.out.trans (q3.mono HWB.out.size);have K3:Hid (jR w3 (w.heap.size+1) ⟨1,s,d,0,0⟩):=KF.out.kept q3;have R3:Hid (jR w3 w.heap.size ⟨0,⟨#[]⟩,⟨#[]⟩,0,0⟩):=KR.out.kept q3;clear q3 HWB KF KR;obtain⟨k0,y0,k1,y1,k2,y2,k3,y3,k4,y4⟩:=K3.out;obtain⟨o0,z0,o1,z1,o2,z2,o3,z3,o4,z4⟩:=R3.out;go_wp2_with fail
       refine UQ (v:=.tuple #[.agg (dA 1 s d x4 x4).toArray,iV 0]) (by simp[results,Tryz.results32,go_sem,k0,o0,k1,o1,k2,o2,k3,o3,k4,o4]) rfl ⟨by rw[HV2.out,HO.out],?_⟩;exact((((((G3.out.setCell (Nat.le_succ _) _).setCell (Nat.le_succ _) _).setCell lR _).setCell lR _).setCell lR _).setCell lR _).setCell lR _
      ·have d1:(bt t 1 != 0)=true:=by simp[e1]
       have HV2:Hid (code=11):=by unfold Hid;rw[HV3.out,if_pos (Or.inr e1)]
       have HO:Hid (out=.agg (dA 1 s d 0 0).toArray):=HN.out (by rw[HV2.out];decide);clear HV3 HY HN HC4 KF KR HWB;go_wp2_with fail
       refine(HB2.out _).mono ?_;rintro e w2 ⟨rfl,rfl⟩;go_wp2_with fail
       refine UQ (v:=.tuple #[.agg (dA 1 s d 0 0).toArray,iV 11]) (by simp[results,Tryz.results32,go_sem]) rfl ⟨by rw[HV2.out,HO.out],?_⟩;exact(bR.alloc lR _).alloc (by simp) _
     ·have d0:(bt t 0 != 8)=true:=by simp[e0]
      by_cases e2:bt t 0=0
      ·have d2:(bt t 0 != 0)=false:=by simp[e2]
       by_cases e1:bt t 1=0
       ·have d1:(bt t 1 != 0)=false:=by simp[e1]
        have HV2:Hid (code=0):=by unfold Hid;rw[HV3.out,if_neg (fun h=>h.elim (fun q=>q.2 e2) (fun q=>q e1))]
        have HO:Hid (out=.agg (dA 1 s d x4 x4).toArray):=HY.out HV2.out;clear HV3 HY HN;go_wp2_with fail
        refine(HB2.out _).mono ?_;rintro e w2 ⟨rfl,rfl⟩;go_wp2_with fail
        refine(HC4.out _).mono ?_;rintro e w3 ⟨rfl,q3⟩;have G3:Hid _:=HWB.out.trans (q3.mono HWB.out.size);have K3:Hid (jR w3 (w.heap.size+1) ⟨1,s,d,0,0⟩):=KF.out.kept q3;have R3:Hid (jR w3 w.heap.size ⟨0,⟨#[]⟩,⟨#[]⟩,0,0⟩):=KR.out.kept q3;clear q3 HWB KF KR;obtain⟨k0,y0,k1,y1,k2,y2,k3,y3,k4,y4⟩:=K3.out;obtain⟨o0,z0,o1,z1,o2,z2,o3,z3,o4,z4⟩:=R3.out;go_wp2_with fail
        refine UQ (v:=.tuple #[.agg (dA 1 s d x4 x4).toArray,iV 0]) (by simp[results,Tryz.results32,go_sem,k0,o0,k1,o1,k2,o2,k3,o3,k4,o4]) rfl ⟨by rw[HV2.out,HO.out],?_⟩;exact((((((G3.out.setCell (Nat.le_succ _) _).setCell (Nat.le_succ _) _).setCell lR _).setCell lR _).setCell lR _).setCell lR _).setCell lR _
       ·have d1:(bt t 1 != 0)=true:=by simp[e1]
        have HV2:Hid (code=11):=by unfold Hid;rw[HV3.out,if_pos (Or.inr e1)]
        have HO:Hid (out=.agg (dA 1 s d 0 0).toArray):=HN.out (by rw[HV2.out];decide);clear HV3 HY HN HC4 KF KR HWB;go_wp2_with fail
        refine(HB2.out _).mono ?_;rintro e w2 ⟨rfl,rfl⟩;go_wp2_with fail
        refine UQ (v:=.tuple #[.agg (dA 1 s d 0 0).toArray,iV 11]) (by simp[results,Tryz.results32,go_sem]) rfl ⟨by rw[HV2.out,HO.out],?_⟩;exact(bR.alloc lR _).alloc (by simp) _
      ·have d2:(bt t 0 != 0)=true:=by simp[e2]
       have HV2:Hid (code=11):=by unfold Hid;rw[HV3.out,if_pos (Or.inl ⟨e0,e2⟩)]
       have HO:Hid (out=.agg (dA 1 s d 0 0).toArray):=HN.out (by rw[HV2.out];decide);clear HV3 HY HN HC4 KF KR HWB;go_wp2_with fail
       refine(HB2.out _).mono ?_;rintro e w2 ⟨rfl,rfl⟩;go_wp2_with fail
       refine UQ (v:=.tuple #[.agg (dA 1 s d 0 0).toArray,iV 11]) (by simp[results,Tryz.results32,go_sem]) rfl ⟨by rw[HV2.out,HO.out],?_⟩;exact(bR.alloc lR _).alloc (by simp) _
    ·have HV3:Hid (code=if (bt t 0≠128∧bt t 0≠129)∨bt t 1≠0 then 11 else 0):=HV.out;clear HV;by_cases e0:bt t 0=128
     ·have d0:(bt t 0 != 128)=false:=by simp[e0]
      by_cases e1:bt t 1=0
      ·have d1:(bt t 1 != 0)=false:=by simp[e1]
       have HV2:Hid (code=0):=by unfold Hid;rw[HV3.out,if_neg (fun h=>h.elim (fun q=>q.1 e0) (fun q=>q e1))]
       have HO:Hid (out=.agg (dA 58 s d x4 x4).toArray):=HY.out HV2.out;clear HV3 HY HN;go_wp2_with fail
       refine(HB2.out _).mono ?_;rintro e w2 ⟨rfl,rfl⟩;go_wp2_with fail
       refine(HC4.out _).mono ?_;rintro e w3 ⟨rfl,q3⟩;have G3:Hid _:=HWB.out.trans (q3.mono HWB.out.size);have K3:Hid (jR w3 (w.heap.size+1) ⟨58,s,d,0,0⟩):=KF.out.kept q3;have R3:Hid (jR w3 w.heap.size ⟨0,⟨#[]⟩,⟨#[]⟩,0,0⟩):=KR.out.kept q3;clear q3 HWB KF KR;obtain⟨k0,y0,k1,y1,k2,y2,k3,y3,k4,y4⟩:=K3.out;obtain⟨o0,z0,o1,z1,o2,z2,o3,z3,o4,z4⟩:=R3.out;go_wp2_with fail
       refine UQ (v:=.tuple #[.agg (dA 58 s d x4 x4).toArray,iV 0]) (by simp[results,Tryz.results32,go_sem,k0,o0,k1,o1,k2,o2,k3,o3,k4,o4]) rfl ⟨by rw[HV2.out,HO.out],?_⟩;exact((((((G3.out.setCell (Nat.le_succ _) _).setCell (Nat.le_succ _) _).setCell lR _).setCell lR _).setCell lR _).setCell lR _).setCell lR _
      ·have d1:(bt t 1 != 0)=true:=by simp[e1]
       have HV2:Hid (code=11):=by unfold Hid;rw[HV3.out,if_pos (Or.inr e1)]
       have HO:Hid (out=.agg (dA 58 s d 0 0).toArray):=HN.out (by rw[HV2.out];decide);clear HV3 HY HN HC4 KF KR HWB;go_wp2_with fail
       refine(HB2.out _).mono ?_;rintro e w2 ⟨rfl,rfl⟩;go_wp2_with fail
       refine UQ (v:=.tuple #[.agg (dA 58 s d 0 0).toArray,iV 11]) (by simp[results,Tryz.results32,go_sem]) rfl ⟨by rw[HV2.out,HO.out],?_⟩;exact(bR.alloc lR _).alloc (by simp) _
     ·have d0:(bt t 0 != 128)=true:=by simp[e0]
      by_cases e2:bt t 0=129
      ·have d2:(bt t 0 != 129)=false:=by simp[e2]
       by_cases e1:bt t 1=0
       ·have d1:(bt t 1 != 0)=false:=by simp[e1]
        have HV2:Hid (code=0):=by unfold Hid;rw[HV3.out,if_neg (fun h=>h.elim (fun q=>q.2 e2) (fun q=>q e1))]
        have HO:Hid (out=.agg (dA 58 s d x4 x4).toArray):=HY.out HV2.out;clear HV3 HY HN;go_wp2_with fail
        refine(HB2.out _).mono ?_;rintro e w2 ⟨rfl,rfl⟩;go_wp2_with fail
        refine(HC4.out _).mono ?_;rintro e w3 ⟨rfl,q3⟩;have G3:Hid _:=HWB.out.trans (q3.mono HWB.out.size);have K3:Hid (jR w3 (w.heap.size+1) ⟨58,s,d,0,0⟩):=KF.out.kept q3;have R3:Hid (jR w3 w.heap.size ⟨0,⟨#[]⟩,⟨#[]⟩,0,0⟩):=KR.out.kept q3;clear q3 HWB KF KR;obtain⟨k0,y0,k1,y1,k2,y2,k3,y3,k4,y4⟩:=K3.out;obtain⟨o0,z0,o1,z1,o2,z2,o3,z3,o4,z4⟩:=R3.out;go_wp2_with fail
        refine UQ (v:=.tuple #[.agg (dA 58 s d x4 x4).toArray,iV 0]) (by simp[results,Tryz.results32,go_sem,k0,o0,k1,o1,k2,o2,k3,o3,k4,o4]) rfl ⟨by rw[HV2.out,HO.out],?_⟩;exact((((((G3.out.setCell (Nat.le_succ _) _).setCell (Nat.le_succ _) _).setCell lR _).setCell lR _).setCell lR _).setCell lR _).setCell lR _
       ·have d1:(bt t 1 != 0)=true:=by simp[e1]
        have HV2:Hid (code=11):=by unfold Hid;rw[HV3.out,if_pos (Or.inr e1)]
        have HO:Hid (out=.agg (dA 58 s d 0 0).toArray):=HN.out (by rw[HV2.out];decide);clear HV3 HY HN HC4 KF KR HWB;go_wp2_with fail
        refine(HB2.out _).mono ?_;rintro e w2 ⟨rfl,rfl⟩;go_wp2_with fail
        refine UQ (v:=.tuple #[.agg (dA 58 s d 0 0).toArray,iV 11]) (by simp[results,Tryz.results32,go_sem]) rfl ⟨by rw[HV2.out,HO.out],?_⟩;exact(bR.alloc lR _).alloc (by simp) _
      ·have d2:(bt t 0 != 129)=true:=by simp[e2]
       have HV2:Hid (code=11):=by unfold Hid;rw[HV3.out,if_pos (Or.inl ⟨e0,e2⟩)]
       have HO:Hid (out=.agg (dA 58 s d 0 0).toArray):=HN.out (by rw[HV2.out];decide);clear HV3 HY HN HC4 KF KR HWB;go_wp2_with fail
       refine(HB2.out _).mono ?_;rintro e w2 ⟨rfl,rfl⟩;go_wp2_with fail
       refine UQ (v:=.tuple #[.agg (dA 58 s d 0 0).toArray,iV 11]) (by simp[results,Tryz.results32,go_sem]) rfl ⟨by rw[HV2.out,HO.out],?_⟩;exact(bR.alloc lR _).alloc (by simp) _
structure uT(X:Nat)(w:World)(f:Fl)(code:Int):Prop where
 c0:w.cell? ⟨X,0,none⟩=some (iV f.UU)
 f0:w.frozen? ⟨X,0,none⟩=false
 c1:w.cell? ⟨X,1,none⟩=some (.string f.src)
 f1:w.frozen? ⟨X,1,none⟩=false
 c2:w.cell? ⟨X,2,none⟩=some (.string f.dst)
 f2:w.frozen? ⟨X,2,none⟩=false
 c3:w.cell? ⟨X,3,none⟩=some (iV f.sp)
 f3:w.frozen? ⟨X,3,none⟩=false
 c4:w.cell? ⟨X,4,none⟩=some (iV f.dp)
 f4:w.frozen? ⟨X,4,none⟩=false
 c5:w.cell? ⟨X,5,none⟩=some (iV code)
 f5:w.frozen? ⟨X,5,none⟩=false
theorem uT.new(w:World)(f:Fl)(code:Int){t:TypeId}:uT w.heap.size (w.alloc (.cells #[iV f.UU,.string f.src,.string f.dst,iV f.sp,iV f.dp,iV code] t)) f code:=⟨bW rfl,by simp,bW rfl,by simp,bW rfl,by simp,bW rfl,by simp,bW rfl,by simp,bW rfl,by simp⟩
theorem uT.kept{w w':World}{X:Nat}{f:Fl}{code:Int}(h:uT X w f code)(q:Below w.heap.size w w'):uT X w' f code:=by
 have hb:=UH w _ h.c0;obtain⟨hc,hf⟩:=iI q;exact⟨(hc X 0 hb).trans h.c0,(hf X 0 hb).trans h.f0,(hc X 1 hb).trans h.c1,(hf X 1 hb).trans h.f1,(hc X 2 hb).trans h.c2,(hf X 2 hb).trans h.f2,(hc X 3 hb).trans h.c3,(hf X 3 hb).trans h.f3,(hc X 4 hb).trans h.c4,(hf X 4 hb).trans h.f4,(hc X 5 hb).trans h.c5,(hf X 5 hb).trans h.f5⟩
theorem mV(s d:BA)(p:Int)(t:BA)(w:World)(hs:s.size≤1048576)(hd:d.size≤1048576)(ht:t.size≤1048576) :
  Cb 10 #[.string s,.string d,iV p,.string t] w (mX (bK s d p t) (aX s d p t)):=by
 have HN:Hid (∀c:Int,aX s d p t=c→c≠0→mX (bK s d p t) (aX s d p t)=.agg #[iV 0,eS,eS,iV 0,iV 0,iV c]):=fun c h hc=>by unfold bK;rw[h,if_neg hc];rfl
 have HY:Hid (aX s d p t=0→mX (bK s d p t) (aX s d p t)=mX (aR s d p t) 0):=fun h=>by unfold bK;rw[h,if_pos rfl]
 have HD:Hid (aX s d p t=if 20000 < t.size∨20000 < s.size∨20000 < d.size then 2 else if dV s d=false then 1 else aU s.size p t):=rfl;generalize mX (bK s d p t) (aX s d p t)=ans at *;generalize aX s d p t=code at *;by_cases lt:20000 < t.size
 ·have HV:Hid (ans=.agg #[iV 0,eS,eS,iV 0,iV 0,iV 2]):=HN.out 2 (by rw[HD.out,if_pos (Or.inl lt)]) (by decide);clear HN HY HD;go_enter Tryz.func10,Tryz.ntmps10
  go_wp2_with fail
  refine UQ (v:=.agg #[iV 0,eS,eS,iV 0,iV 0,iV 2]) (by simp[results,Tryz.results10,go_sem]) rfl ⟨by rw[HV.out],?_⟩;exact bR.alloc lR _
 by_cases ls:20000 < s.size
 ·have HV:Hid (ans=.agg #[iV 0,eS,eS,iV 0,iV 0,iV 2]):=HN.out 2 (by rw[HD.out,if_pos (Or.inr (Or.inl ls))]) (by decide);clear HN HY HD;go_enter Tryz.func10,Tryz.ntmps10
  go_wp2_with fail
  refine UQ (v:=.agg #[iV 0,eS,eS,iV 0,iV 0,iV 2]) (by simp[results,Tryz.results10,go_sem]) rfl ⟨by rw[HV.out],?_⟩;exact bR.alloc lR _
 by_cases ld:20000 < d.size
 ·have HV:Hid (ans=.agg #[iV 0,eS,eS,iV 0,iV 0,iV 2]):=HN.out 2 (by rw[HD.out,if_pos (Or.inr (Or.inr ld))]) (by decide);clear HN HY HD;go_enter Tryz.func10,Tryz.ntmps10
  go_wp2_with fail
  refine UQ (v:=.agg #[iV 0,eS,eS,iV 0,iV 0,iV 2]) (by simp[results,Tryz.results10,go_sem]) rfl ⟨by rw[HV.out],?_⟩;exact bR.alloc lR _
 replace HD:Hid (code=if dV s d=false then 1 else aU s.size p t):=by unfold Hid;rw[HD.out,if_neg (by omega)]
 have HB1:Hid (∀W,Cw 31 #[.string s,.string d] W (.bool (dV s d))):=fun W=>rR _ _ W (by unfold maxLen;omega) (by unfold maxLen;omega)
 cases a1:dV s d with
 | false=>
  have HV:Hid (ans=.agg #[iV 0,eS,eS,iV 0,iV 0,iV 1]):=HN.out 1 (by rw[HD.out,if_pos a1]) (by decide);rw[a1]at HB1;clear HN HY HD a1;go_enter Tryz.func10,Tryz.ntmps10
  go_wp2_with fail
  refine(HB1.out _).mono ?_;rintro e w2 ⟨rfl,rfl⟩;go_wp2_with fail
  refine UQ (v:=.agg #[iV 0,eS,eS,iV 0,iV 0,iV 1]) (by simp[results,Tryz.results10,go_sem]) rfl ⟨by rw[HV.out],?_⟩;exact bR.alloc lR _
 | true=>
  have HB2:Hid (∀W,Cb 32 #[.string s,.string d,iV p,.string t] W (.tuple #[gQ (aR s d p t),iV (aU s.size p t)])):=fun W=>wM s d p t W hs ht
  replace HD:Hid (code=aU s.size p t):=by unfold Hid;rw[HD.out,if_neg (by rw[a1];decide)]
  rw[a1]at HB1;rw[←HD.out]at HB2;clear HD a1;have KR:Hid (uT w.heap.size (w.alloc (.cells #[iV 0,eS,eS,iV 0,iV 0,iV 0] 45)) ⟨0,⟨#[]⟩,⟨#[]⟩,0,0⟩ 0):=uT.new w ⟨0,⟨#[]⟩,⟨#[]⟩,0,0⟩ 0;have GR:Hid (Below w.heap.size w (w.alloc (.cells #[iV 0,eS,eS,iV 0,iV 0,iV 0] 45))):=bR.alloc lR _;generalize aR s d p t=fl at *;obtain⟨p',s',d',x,y⟩:=fl;unfold gQ mX at *;dsimp only at *;by_cases c0:code=0
  ·have HV:=HY.out c0;have HV:Hid _:=HV;subst c0;clear HN HY;go_enter Tryz.func10,Tryz.ntmps10
   go_wp2_with fail
   refine(HB1.out _).mono ?_;rintro e w2 ⟨rfl,rfl⟩;go_wp2_with fail
   refine(HB2.out _).mono ?_;rintro e w3 ⟨rfl,q3⟩;have G3:Hid _:=GR.out.trans (q3.mono GR.out.size);have R3:Hid (uT w.heap.size w3 ⟨0,⟨#[]⟩,⟨#[]⟩,0,0⟩ 0):=KR.out.kept q3;clear q3 GR KR;have hlt:=UH w3 _ R3.out.c0;obtain⟨k0,y0,k1,y1,k2,y2,k3,y3,k4,y4,k5,y5⟩:=R3.out;dsimp only at k0 k1 k2 k3 k4 k5;go_wp2_with fail
   have hne:w.heap.size≠w3.heap.size:=by omega
   refine UQ (v:=.agg #[iV p',.string s',.string d',iV x,iV y,iV 0]) (by simp[results,Tryz.results10,go_sem,k0,k1,k2,k3,k4,k5,hlt,hne]) rfl ⟨by rw[HV.out],?_⟩;exact((((((G3.out.setCell lR _).setCell lR _).setCell lR _).setCell lR _).setCell lR _).setCell lR _).alloc (by simp;omega) _
  ·have HV:Hid _:=HN.out code rfl c0;have dc:(code != 0)=true:=by simp[c0]
   clear HN HY;go_enter Tryz.func10,Tryz.ntmps10
   go_wp2_with fail
   refine(HB1.out _).mono ?_;rintro e w2 ⟨rfl,rfl⟩;go_wp2_with fail
   refine(HB2.out _).mono ?_;rintro e w3 ⟨rfl,q3⟩;have G3:Hid _:=GR.out.trans (q3.mono GR.out.size);have R3:Hid (uT w.heap.size w3 ⟨0,⟨#[]⟩,⟨#[]⟩,0,0⟩ 0):=KR.out.kept q3;clear q3 GR KR;have hlt:=UH w3 _ R3.out.c0;obtain⟨k0,y0,k1,y1,k2,y2,k3,y3,k4,y4,k5,y5⟩:=R3.out;dsimp only at k0 k1 k2 k3 k4 k5;go_wp2_with fail
   have hne:w.heap.size≠w3.heap.size:=by omega
   refine UQ (v:=.agg #[iV 0,eS,eS,iV 0,iV 0,iV code]) (by simp[results,Tryz.results10,go_sem,k0,k1,k2,k3,k4,k5,hlt,hne]) rfl ⟨by rw[HV.out],?_⟩;exact((((((G3.out.setCell lR _).setCell lR _).setCell lR _).setCell lR _).setCell lR _).setCell lR _).alloc (by simp;omega) _
theorem EC(p:Int)(w:World) :
  Cw 74 #[iV p] w (iV (aY p:Nat)):=by
 by_cases h1:p=6
 ·subst h1;go_enter Tryz.func74,Tryz.ntmps74
  go_wp2_with fail
  go_ret;exact⟨rfl,rfl⟩
 ·have d1:(p==6)=false:=by simp[h1]
  by_cases h2:p=17
  ·subst h2;go_enter Tryz.func74,Tryz.ntmps74
   go_wp2_with fail
   go_ret;exact⟨rfl,rfl⟩
  ·have d2:(p==17)=false:=by simp[h2]
   have HV:Hid (aY p=2):=by unfold Hid aY;rw[if_neg h1,if_neg h2]
   generalize aY p=ans at *;go_enter Tryz.func74,Tryz.ntmps74
   go_wp2_with fail
   go_ret;exact⟨aK (by rw[HV.out];rfl),rfl⟩
theorem qQ(s:BA)(k:Nat)(t:BA)(w:World)(h:k+t.size≤s.size)(hs:s.size≤100000) :
  Cb 72 #[.string s,iV k,.string t] w (.string (dW s k t)):=by
 have HV:Hid (dW s k t=s.extract 0 k++t++s.extract (k+t.size) s.size):=rfl;generalize dW s k t=ans at *;have L1:∀W,(Instr.slice 9 (.string s) none (some (iV k)) none).run Tryz.prog W=.ok (.string (s.extract 0 k)) W:=fun W=>by
  rw[run_slice_string_h (P:=Tryz.prog) (t:=9) (s:=s) (w:=W) (ht:=Tryz.underlying9) .i64 (k:Int) (by omega) (by omega),show ((k:Int)).toNat=k by omega]
 have L2:∀W,(Instr.slice 9 (.string s) (some (iV ((k:Int)+t.size))) none none).run Tryz.prog W=.ok (.string (s.extract (k+t.size) s.size)) W:=fun W=>by
  rw[run_slice_string_l (P:=Tryz.prog) (t:=9) (s:=s) (w:=W) (ht:=Tryz.underlying9) .i64 ((k:Int)+t.size) (by omega) (by omega),show ((k:Int)+t.size).toNat=k+t.size by omega]
 have z1:(s.extract 0 k).size=k:=by rw[UG];omega
 have z2:(s.extract (k+t.size) s.size).size=s.size-(k+t.size):=by rw[UG];omega
 generalize s.extract 0 k=u1 at *;generalize s.extract (k+t.size) s.size=u2 at *;have n1:¬9223372036854775807 < u1.size+t.size:=by omega
 have n2:¬9223372036854775807 < u1.size+t.size+u2.size:=by omega
 have hw:IntKind.i64.wrap ((k:Int)+t.size)=(k:Int)+t.size:=by rw[IntKind.wrap_i64];omega
 have HZ1:Hid (u1.size=k):=z1;have HZ2:Hid (u2.size=s.size-(k+t.size)):=z2;clear z1 z2;go_enter Tryz.func72,Tryz.ntmps72
 go_wp2_with fail
 go_region
 all_goals go_wp2_with fail
 all_goals go_ret
 all_goals exact⟨by rw[HV.out];rfl,bR.drew⟩
theorem wT(t:BA)(l h:Nat)(W:World)(h1:l≤h)(h2:h≤t.size):(Instr.slice 9 (.string t) (some (iV l)) (some (iV h)) none).run Tryz.prog W=.ok (.string (t.extract l h)) W:=by
 have:=run_slice_string (P:=Tryz.prog) W 9 t .i64 .i64 (l:Int) (h:Int) Tryz.underlying9 (by omega) (by omega) (by omega);simpa using this
theorem wO(f:Fl)(t:BA)(w:World)(hs:f.src.size≤16)(hd:f.dst.size≤16)(hp:0≤f.UU∧f.UU≤255)(ht:t.size≤65535)(h8:8≤t.size) :
  Cb 76 #[gQ f,.string t] w (.string (eL f t)):=by
 have HB1:Hid (∀W,Cw 44 #[iV f.UU] W (.bool (aJ f.UU))):=fun W=>jG _ W
 have HB2:Hid (∀W,Cb 71 #[.string f.src,.string f.dst,iV f.UU,iV t.size] W (.string (aO f.src f.dst f.UU t.size))):=fun W=>sV _ _ _ _ W hs hd hp ht
 have HV:Hid (eL f t=(if aJ f.UU=true then t.extract 0 2++t.extract 4 6 else t.extract 0 4)++aO f.src f.dst f.UU t.size):=rfl;have hz:=kR f.src f.dst f.UU t.size hs hd;have L1:∀W,(Instr.slice 9 (.string t) none (some (iV 4)) none).run Tryz.prog W=.ok (.string (t.extract 0 4)) W:=fun W=>run_slice_string_h (P:=Tryz.prog) (t:=9) (s:=t) (w:=W) (ht:=Tryz.underlying9) .i64 (4:Int) (by omega) (by omega)
 have L2:∀W,(Instr.slice 9 (.string t) none (some (iV 2)) none).run Tryz.prog W=.ok (.string (t.extract 0 2)) W:=fun W=>run_slice_string_h (P:=Tryz.prog) (t:=9) (s:=t) (w:=W) (ht:=Tryz.underlying9) .i64 (2:Int) (by omega) (by omega)
 have L3:∀W,(Instr.slice 9 (.string t) (some (iV 4)) (some (iV 6)) none).run Tryz.prog W=.ok (.string (t.extract 4 6)) W:=fun W=>wT t 4 6 W (by omega) (by omega)
 have z1:(t.extract 0 4).size=4:=by rw[UG];omega
 have z2:(t.extract 0 2).size=2:=by rw[UG];omega
 have z3:(t.extract 4 6).size=2:=by rw[UG];omega
 generalize t.extract 0 4=u1 at *;generalize t.extract 0 2=u2 at *;generalize t.extract 4 6=u3 at *;generalize aO f.src f.dst f.UU t.size=ps at *;generalize eL f t=ans at *;have n1:¬9223372036854775807 < u2.size+u3.size:=by omega
 have n2:¬9223372036854775807 < u1.size+ps.size:=by omega
 have n3:¬9223372036854775807 < u2.size+u3.size+ps.size:=by omega
 have n4:¬9223372036854775807 < (u2++u3).size+ps.size:=by rw[UF];omega
 have KF:Hid (jR (w.alloc (.cells (gE f).toArray 43)) w.heap.size f):=jR.new w f;have HZ:Hid (Below w.heap.size w (w.alloc (.cells (gE f).toArray 43))):=bR.alloc lR _;generalize aJ f.UU=b at *;obtain⟨UU,src,dst,sp,dp⟩:=f;unfold gQ;dsimp only at *
 cases b with
 | false=>
  replace HV:Hid (ans=u1++ps):=HV.out;go_enter Tryz.func76,Tryz.ntmps76
  go_wp2_with fail
  refine(HB1.out _).mono ?_;rintro e w2 ⟨rfl,rfl⟩;go_wp2_with fail
  refine(HB2.out _).mono ?_;rintro e w3 ⟨rfl,q3⟩;have G3:Hid _:=HZ.out.trans (q3.mono HZ.out.size);clear q3;go_wp2_with fail
  go_ret;exact⟨by rw[HV.out];rfl,G3.out⟩
 | true=>
  replace HV:Hid (ans=u2++u3++ps):=HV.out;go_enter Tryz.func76,Tryz.ntmps76
  go_wp2_with fail
  refine(HB1.out _).mono ?_;rintro e w2 ⟨rfl,rfl⟩;go_wp2_with fail
  go_region
  all_goals go_wp2_with fail
  all_goals refine(HB2.out _).mono ?_
  all_goals rintro e w3 ⟨rfl,q3⟩
  all_goals have G3:Hid (Below w.heap.size w w3):=HZ.out.drew.trans (q3.mono HZ.out.size)
  all_goals clear q3
  all_goals go_wp2_with fail
  all_goals go_ret
  all_goals exact⟨by rw[HV.out];rfl,G3.out⟩
structure rY(w:World)(f g:Fl)(W:World):Prop where
 bf:jR W w.heap.size f
 bg:jR W (w.heap.size+1) g
 c0:W.cell? ⟨w.heap.size+1+1,0,none⟩=some eS
 f0:W.frozen? ⟨w.heap.size+1+1,0,none⟩=false
 c1:W.cell? ⟨w.heap.size+1+1,1,none⟩=some (iV 0)
 f1:W.frozen? ⟨w.heap.size+1+1,1,none⟩=false
 gr:Below w.heap.size w W
theorem rY.kept{w W W':World}{f g:Fl}(h:rY w f g W)(q:Below W.heap.size W W'):rY w f g W':=by
 have hb:=UH W _ h.c0;obtain⟨hc,hf⟩:=iI q;exact⟨h.bf.kept q,h.bg.kept q,(hc _ 0 hb).trans h.c0,(hf _ 0 hb).trans h.f0,(hc _ 1 hb).trans h.c1,(hf _ 1 hb).trans h.f1,h.gr.trans (q.mono h.gr.size)⟩
theorem rY.new(w:World)(f g:Fl):rY w f g (((w.alloc (.cells (gE f).toArray 43)).alloc (.cells (gE g).toArray 43)).alloc (.cells #[eS,iV 0] 55)):=by
 have q1:∀(W:World) o,Below W.heap.size W (W.alloc o):=fun W o=>bR.alloc lR _
 have h0:Below w.heap.size w ((w.alloc (.cells (gE f).toArray 43)).alloc (.cells (gE g).toArray 43)):=(bR.alloc lR _).alloc (by simp) _;have z1:∀(W:World) o,(W.alloc o).heap.size=W.heap.size+1:=fun W o=>by simp
 have h1:=((jR.new w f (t:=43)).kept (q1 _ (.cells (gE g).toArray 43))).kept (q1 _ (.cells #[eS,iV 0] 55));have h2:=(jR.new (w.alloc (.cells (gE f).toArray 43)) g (t:=43)).kept (q1 _ (.cells #[eS,iV 0] 55));rw[z1]at h2;have z3:((w.alloc (.cells (gE f).toArray 43)).alloc (.cells (gE g).toArray 43)).heap.size=w.heap.size+1+1:=by rw[z1,z1]
 generalize (w.alloc (.cells (gE f).toArray 43)).alloc (.cells (gE g).toArray 43)=V at *;refine⟨h1,h2,by rw[←z3];exact bW rfl,by rw[←z3];simp,by rw[←z3];exact bW rfl,by rw[←z3];simp,h0.trans ((q1 V _).mono h0.size)⟩
def LF(x:Int):Value→World→Prop:=fun v w=>∃b,v=.slice (some ⟨b,0,none⟩) 1 1∧w.cell? ⟨b,0,none⟩=some (.int .u8 x)
theorem BG(x:Int):eZ (LF x):=fun v w w' ⟨b,h1,h2⟩ hb=>⟨b,h1,((iI hb).1 b 0 (UH w _ h2)).trans h2⟩
theorem KE{w:World}{b cap:Nat}{x:Int}(hx:0≤x∧x≤255)(h0:w.cell? ⟨b,0,none⟩=some (.int .u8 x)) :
  (convert 22 9 (.slice (some ⟨b,0,none⟩) 1 cap)).run Tryz.prog w=.ok (.string (lL x)) w :=
 run_convert_bytes_back (P:=Tryz.prog) w 22 9 5 ⟨b,0,none⟩ cap [UInt8.ofNat x.toNat] Tryz.underlying22 Tryz.underlying5 Tryz.underlying9 (by
  intro j hj;match j,hj with
  | 0,_=>simp only[Addr.add,Nat.add_zero,UO];rw[fI _ hx.1 hx.2];exact h0)
theorem wA(f:Fl)(t:BA)(hs:f.src.size≤16)(hd:f.dst.size≤16):(eL f t).size≤44:=by
 have h:=kR f.src f.dst f.UU t.size hs hd;unfold eL;split
 ·simp only[UF,UG];omega
 ·simp only[UF,UG];omega
theorem yU(f g:Fl)(t:BA)(w:World)(ht:t.size≤20000)(h8:8≤t.size)(hp:f.UU=6→20≤t.size)(fs:f.src.size≤16∧f.dst.size≤16)(gs:g.src.size≤16∧g.dst.size≤16)(fp:0≤f.UU∧f.UU≤255)(gp:0≤g.UU∧g.UU≤255)(gw:(0≤g.sp∧g.sp≤65535)∧(0≤g.dp∧g.dp≤65535)) :
  Cb 45 #[gQ f,gQ g,.string t] w (if eF f t=true then (if g.src.size=16 then eJ ⟨#[]⟩ 5 else eJ (bJ f g t) 0) else eJ (dW (bJ f g t) (aY f.UU) (aQ (cL f g t))) 0):=by
 have HT1:Hid (∀W,Cb 73 #[iV g.sp] W (.string (aQ g.sp))):=fun W=>bV _ W gw.1.1 gw.1.2
 have HT2:Hid (∀W,Cb 73 #[iV g.dp] W (.string (aQ g.dp))):=fun W=>bV _ W gw.2.1 gw.2.2
 have hz:(aQ g.sp++aQ g.dp).size=4:=by rw[UF];rfl
 have HP1:Hid (∀W,Cb 72 #[.string t,iV 0,.string (aQ g.sp++aQ g.dp)] W (.string (dW t 0 (aQ g.sp++aQ g.dp)))):=fun W=>qQ t 0 _ W (by omega) (by omega)
 have HE:Hid (∀W,Cw 44 #[iV f.UU] W (.bool (aJ f.UU))):=fun W=>jG _ W
 have KW:Hid (rY w f g (((w.alloc (.cells (gE f).toArray 43)).alloc (.cells (gE g).toArray 43)).alloc (.cells #[eS,iV 0] 55))):=rY.new w f g;have n1:¬9223372036854775807 < (aQ g.sp).size+(aQ g.dp).size:=by rw[aP,aP];omega
 have z1:=aP g.sp;have z2:=aP g.dp;generalize hans:(if eF f t=true then (if g.src.size=16 then eJ ⟨#[]⟩ 5 else eJ (bJ f g t) 0) else eJ (dW (bJ f g t) (aY f.UU) (aQ (cL f g t))) 0)=ans;have HA:Hid _:=hans;clear hans;obtain⟨UU,src,dst,sp,dp⟩:=f;obtain⟨proto',src',dst',sp',dp'⟩:=g;unfold gQ;dsimp only at *;go_enter Tryz.func45,Tryz.ntmps45
 go_upto_region 1 with fail
 go_cut [7] (fun v wx=>v=.string (dW t 0 (aQ sp'++aQ dp'))∧rY w ⟨UU,src,dst,sp,dp⟩ ⟨proto',src',dst',sp',dp'⟩ wx)
 case first=>
  rename_i J K2 hJ hK2;refine cZ (Rs:=[aF (.string t),aF (.pointer (some ⟨w.heap.size+1,3,none⟩)),aF (iV sp'),aF (.string (aQ sp')),aF (.pointer (some ⟨w.heap.size+1,4,none⟩)),aF (iV dp'),aF (.string (aQ dp')),aF (.string (aQ sp'++aQ dp')),aF (.string (dW t 0 (aQ sp'++aQ dp'))),aF (.string (dW t 0 (aQ sp'++aQ dp')))]) [12,13,14,15,16,17,18,19,20,7] (by kernel_rfl) (by kernel_rfl) rfl ?st ?steps ?done
  case st=>simp[cC,kU]
  case steps=>
   refine⟨?s0,?s1,?s2,?s3,?s4,?s5,?s6,?s7,?s8,?s9,trivial⟩
   case s0=>
    intro K' a wy ho hd hb hK;have h3:=ho 2 (by decide);simp[aD]at h3;clear hd;go_simp;try go_bits
    exact hK _ _ rfl bR
   case s1=>
    intro K' a wy ho hd hb hK;have h3:=ho 4 (by decide);simp[aD]at h3;clear hd;go_simp;try go_bits
    exact hK _ _ rfl bR
   case s2=>
    intro K' a wy ho hd hb hK;simp[Region.binds,aS,aF,aD]at hd;obtain⟨k0,y0,k1,y1,k2,y2,k3,y3,k4,y4⟩:=(KW.out.kept (Below.trans bR.drew hb)).bg;go_simp;try go_bits
    exact hK _ _ rfl bR
   case s3=>
    intro K' a wy ho hd hb hK;simp[Region.binds,aS,aF,aD]at hd;go_simp;refine(HT1.out wy).mono ?_;rintro e wz ⟨rfl,hz⟩;exact hK _ _ rfl hz
   case s4=>
    intro K' a wy ho hd hb hK;have h3:=ho 4 (by decide);simp[aD]at h3;clear hd;go_simp;try go_bits
    exact hK _ _ rfl bR
   case s5=>
    intro K' a wy ho hd hb hK;simp[Region.binds,aS,aF,aD]at hd;obtain⟨k0,y0,k1,y1,k2,y2,k3,y3,k4,y4⟩:=(KW.out.kept (Below.trans bR.drew hb)).bg;go_simp;try go_bits
    exact hK _ _ rfl bR
   case s6=>
    intro K' a wy ho hd hb hK;simp[Region.binds,aS,aF,aD]at hd;go_simp;refine(HT2.out wy).mono ?_;rintro e wz ⟨rfl,hz⟩;exact hK _ _ rfl hz
   case s7=>
    intro K' a wy ho hd hb hK;simp[Region.binds,aS,aF,aD]at hd;go_simp;try go_bits
    exact hK _ _ rfl bR
   case s8=>
    intro K' a wy ho hd hb hK;simp[Region.binds,aS,aF,aD]at hd;go_simp;refine(HP1.out wy).mono ?_;rintro e wz ⟨rfl,hz⟩;exact hK _ _ rfl hz
   case s9=>
    intro K' a wy ho hd hb hK;simp[Region.binds,aS,aF,aD]at hd;go_simp;try go_bits
    exact hK _ _ rfl bR
  case done=>
   intro X wz hR hz;simp only[UB,UC,eW,aF]at hR;simp only[aE,hR];clear hR;go_simp;refine hK2 _ _ (hJ _ _ ?_);(repeat apply Exists.intro)
   refine⟨⟨rfl,KW.out.kept (bR.drew.trans hz)⟩,rfl⟩
 case rest=>
 obtain⟨rfl,hKW⟩:=hcut;have KW1:Hid _:=hKW;clear hKW KW HT2 HP1 n1;have HO:Hid (bJ ⟨UU,src,dst,sp,dp⟩ ⟨proto',src',dst',sp',dp'⟩ t=if aJ UU=true then dW (dW t 0 (lL (lI ⟨UU,src,dst,sp,dp⟩ ⟨proto',src',dst',sp',dp'⟩ t))) 4 (aQ sp') else dW t 0 (aQ sp'++aQ dp')):=rfl;have HNC:Hid (cL ⟨UU,src,dst,sp,dp⟩ ⟨proto',src',dst',sp',dp'⟩ t=if 65535-gC (gC (65535-aL (bt t) (aY UU)) (65535-bI (eL ⟨UU,src,dst,sp,dp⟩ t))) (bI (eL ⟨proto',src',dst',sp',dp'⟩ (bJ ⟨UU,src,dst,sp,dp⟩ ⟨proto',src',dst',sp',dp'⟩ t)))=0 then 65535 else 65535-gC (gC (65535-aL (bt t) (aY UU)) (65535-bI (eL ⟨UU,src,dst,sp,dp⟩ t))) (bI (eL ⟨proto',src',dst',sp',dp'⟩ (bJ ⟨UU,src,dst,sp,dp⟩ ⟨proto',src',dst',sp',dp'⟩ t)))):=rfl;have hoz:(bJ ⟨UU,src,dst,sp,dp⟩ ⟨proto',src',dst',sp',dp'⟩ t).size=t.size:=by
  rw[HO.out];have q1:∀x,(dW t 0 (lL x)).size=t.size:=fun x=>eQ (by rw[show (lL x).size=1 from rfl];omega)
  split
  ·rw[eQ (by rw[q1,z1];omega),q1]
  ·exact eQ (by omega)
 have HF:Hid (lI ⟨UU,src,dst,sp,dp⟩ ⟨proto',src',dst',sp',dp'⟩ t=if UU≠proto' then (if bt t 0=8 then 128 else if bt t 0=0 then 129 else if bt t 0=128 then 8 else 0) else bt t 0):=rfl;generalize bJ ⟨UU,src,dst,sp,dp⟩ ⟨proto',src',dst',sp',dp'⟩ t=out at *;generalize lI ⟨UU,src,dst,sp,dp⟩ ⟨proto',src',dst',sp',dp'⟩ t=fi at *;obtain⟨k0,y0,k1,y1,k2,y2,k3,y3,k4,y4⟩:=KW1.out.bf;dsimp only at k0 k1 k2 k3 k4;go_wp2_with fail
 refine(HE.out _).mono ?_;rintro e w2 ⟨rfl,rfl⟩;go_upto_if 23 with fail
 go_cut [7] (fun v wx=>v=.string out∧rY w ⟨UU,src,dst,sp,dp⟩ ⟨proto',src',dst',sp',dp'⟩ wx)
 case first=>
  clear HA HNC HE
  cases a:aJ UU with
  | false=>
   replace HO:Hid (out=dW t 0 (aQ sp'++aQ dp')):=by unfold Hid;rw[HO.out,if_neg (by rw[a];decide)]
   go_wp2_with fail
   go_meet;exact⟨by rw[HO.out],KW1.out⟩
  | true=>
   replace HO:Hid (out=dW (dW t 0 (lL fi)) 4 (aQ sp')):=by unfold Hid;rw[HO.out,if_pos a]
   obtain⟨j0,x0,j1,x1,j2,x2,j3,x3,j4,x4⟩:=KW1.out.bg;dsimp only at j0 j1 j2 j3 j4;have hb:=get_bt t;have b0:=bD t 0;have hfi:0≤fi∧fi≤255:=by
    rw[HF.out];split
    ·split
     ·omega
     ·split
      ·omega
      ·split<;>omega
    ·exact b0
   go_upto_if 30 with fail
   go_cut [8] (fun v wx=>v=.int .u8 fi∧wx=w2)
   case first=>
    clear HO;by_cases e1:UU=proto'
    ·have d1:(UU != proto')=false:=by simp[e1]
     have hB:fi=bt t 0:=by rw[HF.out,if_neg (by simp[e1])]
     clear HF e1;subst hB;go_wp2_with fail
     go_meet;exact⟨rfl,rfl⟩
    ·have d1:(UU != proto')=true:=by simp[e1]
     have hB:fi=(if bt t 0=8 then 128 else if bt t 0=0 then 129 else if bt t 0=128 then 8 else 0):=by rw[HF.out,if_pos e1]
     clear HF e1;by_cases c1:bt t 0=8
     ·have d2:(bt t 0==8)=true:=by simp[c1]
      rw[if_pos c1]at hB;clear c1;subst hB;go_wp2_with fail
      go_meet;exact⟨rfl,rfl⟩
     ·have d2:(bt t 0==8)=false:=by simp[c1]
      rw[if_neg c1]at hB;by_cases c2:bt t 0=0
      ·have d3:(bt t 0==0)=true:=by simp[c2]
       rw[if_pos c2]at hB;clear c1 c2;subst hB;go_wp2_with fail
       go_meet;exact⟨rfl,rfl⟩
      ·have d3:(bt t 0==0)=false:=by simp[c2]
       rw[if_neg c2]at hB;by_cases c3:bt t 0=128
       ·have d4:(bt t 0==128)=true:=by simp[c3]
        rw[if_pos c3]at hB;clear c1 c2 c3;subst hB;go_wp2_with fail
        go_meet;exact⟨rfl,rfl⟩
       ·have d4:(bt t 0==128)=false:=by simp[c3]
        rw[if_neg c3]at hB;clear c1 c2 c3;subst hB;go_wp2_with fail
        go_meet;exact⟨rfl,rfl⟩
   case rest=>
   obtain⟨rfl,rfl⟩:=hcut;clear HF;have q1:(dW t 0 (lL fi)).size=t.size:=eQ (by rw[show (lL fi).size=1 from rfl];omega);have HP2:Hid (∀W,Cb 72 #[.string t,iV 0,.string (lL fi)] W (.string (dW t 0 (lL fi)))):=fun W=>qQ t 0 _ W (by rw[show (lL fi).size=1 from rfl];omega) (by omega)
   have HP3:Hid (∀W,Cb 72 #[.string (dW t 0 (lL fi)),iV 4,.string (aQ sp')] W (.string (dW (dW t 0 (lL fi)) 4 (aQ sp')))):=fun W=>qQ _ 4 _ W (by omega) (by omega)
   rw[←HO.out]at HP3;clear HO;generalize dW t 0 (lL fi)=out0 at *;go_upto_region 13 with fail
   go_cut [7] (fun v wx=>v=.string out∧rY w ⟨UU,src,dst,sp,dp⟩ ⟨proto',src',dst',sp',dp'⟩ wx)
   case first=>
    rename_i J K2 hJ hK2;clear k0 y0 k1 y1 k2 y2 k3 y3 k4 y4 j0 x0 j1 x1 j2 x2 j3 x3 j4 x4;refine cZ (Rs:=[aF (.string t),aF (.int .u8 fi),LF fi,aF (.string (lL fi)),aF (.string out0),aF (.pointer (some ⟨w.heap.size+1,3,none⟩)),aF (iV sp'),aF (.string (aQ sp')),aF (.string out),aF (.string out)]) [39,40,41,42,43,44,45,46,47,7] (by kernel_rfl) (by kernel_rfl) rfl ?st ?steps ?done
    case st=>simp[cC,BG]
    case steps=>
     refine⟨?s0,?s1,?s2,?s3,?s4,?s5,?s6,?s7,?s8,?s9,trivial⟩
     case s0=>
      intro K' a wy ho hd hb hK;have h3:=ho 2 (by decide);simp[aD]at h3;clear hd;go_simp;try go_bits
      exact hK _ _ rfl bR
     case s1=>
      intro K' a wy ho hd hb hK;have h3:=ho 8 (by decide);simp[aD]at h3;clear hd;go_simp;try go_bits
      exact hK _ _ rfl bR
     case s2=>
      intro K' a wy ho hd hb hK;simp[Region.binds,aS,aF,aD]at hd;go_simp;exact hK _ _ ⟨wy.heap.size,rfl,by simp⟩ (bR.alloc lR _)
     case s3=>
      intro K' a wy ho hd hb hK;simp only[List.forall_mem_singleton,Array.mem_def,List.mem_singleton,forall_eq]at hd;obtain⟨b,hd1,hd2⟩: LF fi (aD a 41) wy:=hd rfl;have hcv:=KE (cap:=1) hfi hd2;simp[aD]at hd1;go_simp;try go_bits
      exact hK _ _ rfl bR
     case s4=>
      intro K' a wy ho hd hb hK;simp[Region.binds,aS,aF,aD]at hd;go_simp;refine(HP2.out wy).mono ?_;rintro e wz ⟨rfl,hz⟩;exact hK _ _ rfl hz
     case s5=>
      intro K' a wy ho hd hb hK;have h3:=ho 4 (by decide);simp[aD]at h3;clear hd;go_simp;try go_bits
      exact hK _ _ rfl bR
     case s6=>
      intro K' a wy ho hd hb hK;simp[Region.binds,aS,aF,aD]at hd;obtain⟨k0,y0,k1,y1,k2,y2,k3,y3,k4,y4⟩:=(KW1.out.kept (Below.trans bR.drew hb)).bg;go_simp;try go_bits
      exact hK _ _ rfl bR
     case s7=>
      intro K' a wy ho hd hb hK;simp[Region.binds,aS,aF,aD]at hd;go_simp;refine(HT1.out wy).mono ?_;rintro e wz ⟨rfl,hz⟩;exact hK _ _ rfl hz
     case s8=>
      intro K' a wy ho hd hb hK;simp[Region.binds,aS,aF,aD]at hd;go_simp;refine(HP3.out wy).mono ?_;rintro e wz ⟨rfl,hz⟩;exact hK _ _ rfl hz
     case s9=>
      intro K' a wy ho hd hb hK;simp[Region.binds,aS,aF,aD]at hd;go_simp;try go_bits
      exact hK _ _ rfl bR
    case done=>
     intro X wz hR hz;obtain⟨x0,x1,⟨b2,x2,-⟩,x3,x4,x5,x6,x7,x8,x9,-⟩:=hR;simp only[aF]at x0 x1 x3 x4 x5 x6 x7 x8 x9;simp only[aE,x0,x1,x2,x3,x4,x5,x6,x7,x8,x9];clear x0 x1 x2 x3 x4 x5 x6 x7 x8 x9;go_simp;refine hK2 _ _ (hJ _ _ ?_);(repeat apply Exists.intro)
     refine⟨⟨rfl,KW1.out.kept (bR.drew.trans hz)⟩,rfl⟩
   case rest=>
   obtain⟨rfl,hKW⟩:=hcut;go_wp2_with fail
   go_meet;exact⟨rfl,hKW⟩
 case rest=>
 obtain⟨rfl,hKW⟩:=hcut;clear KW1 k0 y0 k1 y1 k2 y2 k3 y3 k4 y4 HO HF HE HT1;have KW1:Hid _:=hKW;clear hKW;obtain⟨k0,y0,k1,y1,k2,y2,k3,y3,k4,y4⟩:=KW1.out.bf;dsimp only at k0 k1 k2 k3 k4
 ·have HK:Hid (∀W,Cw 74 #[iV UU] W (iV (aY UU:Nat))):=fun W=>EC _ W
  have hck:aY UU+1 < t.size:=by
   unfold aY;split
   ·have:=hp (by assumption);omega
   ·split<;>omega
  have HAt:Hid (∀W,Cb 42 #[.string t,iV (aY UU:Nat)] W (iV (aL (bt t) (aY UU)))):=fun W=>oO t _ W hck (by unfold maxLen;omega)
  have hcw:=cN (bD t) (aY UU);have HPut:Hid (∀(n:Int) W,Cb 72 #[.string out,iV (aY UU:Nat),.string (aQ n)] W (.string (dW out (aY UU) (aQ n)))):=fun n W=>qQ out _ _ W (by rw[aP];omega) (by omega)
  have HBd:Hid (eF ⟨UU,src,dst,sp,dp⟩ t=(decide (UU=17)&&decide (aL (bt t) (aY UU)=0)&&decide (src.size=4))):=rfl;generalize aY UU=ck at *;generalize aL (bt t) ck=cw at *;generalize eF ⟨UU,src,dst,sp,dp⟩ t=bare at *;go_wp2_with fail
  refine(HK.out _).mono ?_;rintro e w3 ⟨rfl,rfl⟩;go_wp2_with fail
  refine(HAt.out _).mono ?_;rintro e w4 ⟨rfl,q4⟩;have KW4:Hid _:=KW1.out.kept q4;clear q4 KW1 k0 y0 k1 y1 k2 y2 k3 y3 k4 y4 HK HAt;obtain⟨k0,y0,k1,y1,k2,y2,k3,y3,k4,y4⟩:=KW4.out.bf;dsimp only at k0 k1 k2 k3 k4;go_upto_region 16 with fail
  go_cut [66] (fun c wx=>c=.bool bare∧wx=w4)
  case first=>
   clear HA HNC HPut;by_cases c1:UU=17
   ·have d1:(UU==17)=true:=by simp[c1]
    by_cases c2:cw=0
    ·have d2:(cw==0)=true:=by simp[c2]
     by_cases c3:src.size=4
     ·have d3:((src.size:Int)==4)=true:=by simp;omega
      have hB:bare=true:=by rw[HBd.out,TT c1,TT c2,TT c3];rfl
      clear HBd c1 c2 c3;subst hB;go_wp2_with fail
      go_meet;exact⟨rfl,rfl⟩
     ·have d3:((src.size:Int)==4)=false:=by simp;omega
      have hB:bare=false:=by rw[HBd.out,TR c3];simp
      clear HBd c1 c2 c3;subst hB;go_wp2_with fail
      go_meet;exact⟨rfl,rfl⟩
    ·have d2:(cw==0)=false:=by simp[c2]
     have hB:bare=false:=by rw[HBd.out,TR c2];simp
     clear HBd c1 c2;subst hB;go_wp2_with fail
     go_meet;exact⟨rfl,rfl⟩
   ·have d1:(UU==17)=false:=by simp[c1]
    have hB:bare=false:=by rw[HBd.out,TR c1];simp
    clear HBd c1;subst hB;go_wp2_with fail
    go_meet;exact⟨rfl,rfl⟩
  case rest=>
  obtain⟨rfl,rfl⟩:=hcut;clear HBd
  cases bare with
  | true=>
   clear HNC HPut;obtain⟨j0,x0,j1,x1,j2,x2,j3,x3,j4,x4⟩:=KW4.out.bg;dsimp only at j0 j1 j2 j3 j4;have o0:=KW4.out.c0;have o1:=KW4.out.c1;have v0:=KW4.out.f0;have v1:=KW4.out.f1;have G4:Hid _:=KW4.out.gr;by_cases c5:src'.size=16
   ·have d5:((src'.size:Int)==16)=true:=by simp;omega
    replace HA:Hid (eJ ⟨#[]⟩ 5=ans):=by have h:=HA.out;rw[if_pos rfl,if_pos c5]at h;exact h
    go_wp2_with fail
    refine UQ (v:=eJ ⟨#[]⟩ 5) (by simp[results,Tryz.results45,go_sem,eJ,o0,o1]) rfl ⟨by rw[HA.out],?_⟩;exact(G4.out.setCell (Nat.le_add_right _ 2) _).setCell (Nat.le_add_right _ 2) _
   ·have d5:((src'.size:Int)==16)=false:=by simp;omega
    replace HA:Hid (eJ out 0=ans):=by have h:=HA.out;rw[if_pos rfl,if_neg c5]at h;exact h
    go_wp2_with fail
    refine UQ (v:=eJ out 0) (by simp[results,Tryz.results45,go_sem,eJ,o0,o1]) rfl ⟨by rw[HA.out],?_⟩;exact(G4.out.setCell (Nat.le_add_right _ 2) _).setCell (Nat.le_add_right _ 2) _
  | false=>
   replace HA:Hid (eJ (dW out ck (aQ (cL ⟨UU,src,dst,sp,dp⟩ ⟨proto',src',dst',sp',dp'⟩ t))) 0=ans):=HA.out;have HPf:Hid (∀W,Cb 76 #[.agg (dA UU src dst sp dp).toArray,.string t] W (.string (eL ⟨UU,src,dst,sp,dp⟩ t))):=fun W=>wO ⟨UU,src,dst,sp,dp⟩ t W fs.1 fs.2 fp (by omega) h8
   have HPg:Hid (∀W,Cb 76 #[.agg (dA proto' src' dst' sp' dp').toArray,.string out] W (.string (eL ⟨proto',src',dst',sp',dp'⟩ out))):=fun W=>wO ⟨proto',src',dst',sp',dp'⟩ out W gs.1 gs.2 gp (by omega) (by omega)
   have HSf:Hid (∀W,Cb 70 #[.string (eL ⟨UU,src,dst,sp,dp⟩ t)] W (iV (bI (eL ⟨UU,src,dst,sp,dp⟩ t)))):=fun W=>(kT _ W (by have:=wA ⟨UU,src,dst,sp,dp⟩ t fs.1 fs.2;omega)).mono (fun e w' h=>⟨h.1,h.2 ▸ Below.refl _ _⟩)
   have HSg:Hid (∀W,Cb 70 #[.string (eL ⟨proto',src',dst',sp',dp'⟩ out)] W (iV (bI (eL ⟨proto',src',dst',sp',dp'⟩ out)))):=fun W=>(kT _ W (by have:=wA ⟨proto',src',dst',sp',dp'⟩ out gs.1 gs.2;omega)).mono (fun e w' h=>⟨h.1,h.2 ▸ Below.refl _ _⟩)
   have r1:=cV (eL ⟨UU,src,dst,sp,dp⟩ t);have r2:=cV (eL ⟨proto',src',dst',sp',dp'⟩ out);generalize bI (eL ⟨UU,src,dst,sp,dp⟩ t)=s1 at *;generalize bI (eL ⟨proto',src',dst',sp',dp'⟩ out)=s2 at *;generalize eL ⟨UU,src,dst,sp,dp⟩ t=pf at *;generalize eL ⟨proto',src',dst',sp',dp'⟩ out=pg at *;generalize cL ⟨UU,src,dst,sp,dp⟩ ⟨proto',src',dst',sp',dp'⟩ t=nc at *;have ra:=iN (a:=65535-cw) (b:=65535-s1) (by omega) (by omega) (by omega) (by omega);have HAd1:Hid (∀W,Cb 75 #[iV (65535-cw),iV (65535-s1)] W (iV (gC (65535-cw) (65535-s1)))):=fun W=>(kG _ _ W (by omega) (by omega) (by omega) (by omega)).mono (fun e w' h=>⟨h.1,h.2 ▸ Below.refl _ _⟩)
   generalize gC (65535-cw) (65535-s1)=a1 at *;have rb:=iN (a:=a1) (b:=s2) (by omega) (by omega) (by omega) (by omega);have HAd2:Hid (∀W,Cb 75 #[iV a1,iV s2] W (iV (gC a1 s2))):=fun W=>(kG _ _ W (by omega) (by omega) (by omega) (by omega)).mono (fun e w' h=>⟨h.1,h.2 ▸ Below.refl _ _⟩)
   generalize gC a1 s2=a2 at *;clear k0 y0 k1 y1 k2 y2 k3 y3 k4 y4;go_upto_region 20 with fail
   go_cut [11] (fun v wx=>v=iV (65535-a2)∧rY w ⟨UU,src,dst,sp,dp⟩ ⟨proto',src',dst',sp',dp'⟩ wx)
   case first=>
    rename_i J K2 hJ hK2;refine cZ (Rs:=[aF (iV cw),aF (iV (65535-cw)),aF (.agg (dA UU src dst sp dp).toArray),aF (.string t),aF (.string pf),aF (iV s1),aF (iV (65535-s1)),aF (iV a1),aF (.agg (dA proto' src' dst' sp' dp').toArray),aF (.string out),aF (.string pg),aF (iV s2),aF (iV a2),aF (iV (65535-a2)),aF (iV (65535-a2))]) [74,75,76,77,78,79,80,81,82,83,84,85,86,87,11] (by kernel_rfl) (by kernel_rfl) rfl ?st ?steps ?done
    case st=>simp[cC,kU]
    case steps=>
     refine⟨?s0,?s1,?s2,?s3,?s4,?s5,?s6,?s7,?s8,?s9,?s10,?s11,?s12,?s13,?s14,trivial⟩
     case s0=>
      intro K' a wy ho hd hb hK;have h3:=ho 10 (by decide);simp[aD]at h3;clear hd;go_simp;try go_bits
      exact hK _ _ rfl bR
     case s1=>
      intro K' a wy ho hd hb hK;simp[Region.binds,aS,aF,aD]at hd;go_simp;try go_bits
      exact hK _ _ rfl bR
     case s2=>
      intro K' a wy ho hd hb hK;have h3:=ho 3 (by decide);simp[aD]at h3;clear hd;obtain⟨k0,y0,k1,y1,k2,y2,k3,y3,k4,y4⟩:=(KW4.out.kept (Below.trans bR.drew hb)).bf;go_simp;try go_bits
      exact hK _ _ rfl bR
     case s3=>
      intro K' a wy ho hd hb hK;have h3:=ho 2 (by decide);simp[aD]at h3;clear hd;go_simp;try go_bits
      exact hK _ _ rfl bR
     case s4=>
      intro K' a wy ho hd hb hK;simp[Region.binds,aS,aF,aD]at hd;go_simp;refine(HPf.out wy).mono ?_;rintro e wz ⟨rfl,hz⟩;exact hK _ _ rfl hz
     case s5=>
      intro K' a wy ho hd hb hK;simp[Region.binds,aS,aF,aD]at hd;go_simp;refine(HSf.out wy).mono ?_;rintro e wz ⟨rfl,hz⟩;exact hK _ _ rfl hz
     case s6=>
      intro K' a wy ho hd hb hK;simp[Region.binds,aS,aF,aD]at hd;go_simp;try go_bits
      exact hK _ _ rfl bR
     case s7=>
      intro K' a wy ho hd hb hK;simp[Region.binds,aS,aF,aD]at hd;go_simp;refine(HAd1.out wy).mono ?_;rintro e wz ⟨rfl,hz⟩;exact hK _ _ rfl hz
     case s8=>
      intro K' a wy ho hd hb hK;have h3:=ho 4 (by decide);simp[aD]at h3;clear hd;obtain⟨k0,y0,k1,y1,k2,y2,k3,y3,k4,y4⟩:=(KW4.out.kept (Below.trans bR.drew hb)).bg;go_simp;try go_bits
      exact hK _ _ rfl bR
     case s9=>
      intro K' a wy ho hd hb hK;have h3:=ho 7 (by decide);simp[aD]at h3;clear hd;go_simp;try go_bits
      exact hK _ _ rfl bR
     case s10=>
      intro K' a wy ho hd hb hK;simp[Region.binds,aS,aF,aD]at hd;go_simp;refine(HPg.out wy).mono ?_;rintro e wz ⟨rfl,hz⟩;exact hK _ _ rfl hz
     case s11=>
      intro K' a wy ho hd hb hK;simp[Region.binds,aS,aF,aD]at hd;go_simp;refine(HSg.out wy).mono ?_;rintro e wz ⟨rfl,hz⟩;exact hK _ _ rfl hz
     case s12=>
      intro K' a wy ho hd hb hK;simp[Region.binds,aS,aF,aD]at hd;go_simp;refine(HAd2.out wy).mono ?_;rintro e wz ⟨rfl,hz⟩;exact hK _ _ rfl hz
     case s13=>
      intro K' a wy ho hd hb hK;simp[Region.binds,aS,aF,aD]at hd;go_simp;try go_bits
      exact hK _ _ rfl bR
     case s14=>
      intro K' a wy ho hd hb hK;simp[Region.binds,aS,aF,aD]at hd;go_simp;try go_bits
      exact hK _ _ rfl bR
    case done=>
     intro X wz hR hz;simp only[UB,UC,eW,aF]at hR;simp only[aE,hR];clear hR;go_simp;refine hK2 _ _ (hJ _ _ ?_);(repeat apply Exists.intro)
     refine⟨⟨rfl,KW4.out.kept (bR.drew.trans hz)⟩,rfl⟩
   case rest=>
   obtain⟨rfl,hKW⟩:=hcut;have KW5:Hid _:=hKW;clear hKW KW4 HPf HPg HSf HSg HAd1 HAd2;have o0:=KW5.out.c0;have o1:=KW5.out.c1;have v0:=KW5.out.f0;have v1:=KW5.out.f1;have HTn:Hid (∀W,Cb 73 #[iV nc] W (.string (aQ nc))):=fun W=>bV _ W (by rw[HNC.out];split<;>omega) (by rw[HNC.out];split<;>omega)
   have HPn:Hid _:=HPut.out nc;clear HPut;by_cases c6:65535-a2=0
   ·have d6:(65535-a2==0)=true:=by simp;omega
    have hnc:nc=65535:=by rw[HNC.out,if_pos c6]
    clear HNC;subst hnc;go_wp2_with fail
    refine(HTn.out _).mono ?_;rintro e w6 ⟨rfl,q6⟩;have KW6:Hid _:=KW5.out.kept q6;clear q6;go_wp2_with fail
    refine(HPn.out _).mono ?_;rintro e w7 ⟨rfl,q7⟩;have KW7:Hid _:=KW6.out.kept q7;clear q7 KW6 KW5 o0 o1 v0 v1;have o0:=KW7.out.c0;have o1:=KW7.out.c1;have v0:=KW7.out.f0;have v1:=KW7.out.f1;go_wp2_with fail
    refine UQ (v:=eJ (dW out ck (aQ 65535)) 0) (by simp[results,Tryz.results45,go_sem,eJ,o0,o1]) rfl ⟨by rw[←HA.out],?_⟩;exact(KW7.out.gr.setCell (Nat.le_add_right _ 2) _).setCell (Nat.le_add_right _ 2) _
   ·have d6:(65535-a2==0)=false:=by simp;omega
    have hnc:nc=65535-a2:=by rw[HNC.out,if_neg c6]
    clear HNC;subst hnc;go_wp2_with fail
    refine(HTn.out _).mono ?_;rintro e w6 ⟨rfl,q6⟩;have KW6:Hid _:=KW5.out.kept q6;clear q6;go_wp2_with fail
    refine(HPn.out _).mono ?_;rintro e w7 ⟨rfl,q7⟩;have KW7:Hid _:=KW6.out.kept q7;clear q7 KW6 KW5 o0 o1 v0 v1;have o0:=KW7.out.c0;have o1:=KW7.out.c1;have v0:=KW7.out.f0;have v1:=KW7.out.f1;go_wp2_with fail
    refine UQ (v:=eJ (dW out ck (aQ (65535-a2))) 0) (by simp[results,Tryz.results45,go_sem,eJ,o0,o1]) rfl ⟨by rw[←HA.out],?_⟩;exact(KW7.out.gr.setCell (Nat.le_add_right _ 2) _).setCell (Nat.le_add_right _ 2) _
end Go.Proofs.YtdkepkaflielhaaGreatDoor
