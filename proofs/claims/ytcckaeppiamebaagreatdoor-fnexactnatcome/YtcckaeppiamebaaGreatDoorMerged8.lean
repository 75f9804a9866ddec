import Derived.Test.YtcckaeppiamebaaGreatDoorAb
import Derived.Test.YtcckaeppiamebaaGreatDoorMerged7
import Derived.Test.YtcckaeppiamebaaGreatDoorMerged5
import Derived.RegionTactic
import Derived.Deep.RegionWith
import Derived.Deep.DeepCutAuto
import Derived.Test.YtcckaeppiamebaaGreatDoorMerged1
import Derived.Test.YtcckaeppiamebaaGreatDoorProg
import Derived.Laws.StructEq
import Derived.Test.YtcckaeppiamebaaGreatDoorMerged3
import Derived.Test.YtcckaeppiamebaaGreatDoorMerged6
import Derived.Deep.MidRow
import Derived.WalkKit
set_option linter.unusedVariables false
set_option linter.unusedSimpArgs false
set_option maxRecDepth 100000
set_option maxHeartbeats 8000000
namespace Go.Proofs.YtcckaeppiamebaaGreatDoor
open Go.RowKit Go.PlainAid
structure BoxG (w:World) (X:Nat) (f:Fl):Prop where
 c0:w.cell? ⟨X,0,none⟩=some (iV f.proto)
 f0:w.frozen? ⟨X,0,none⟩=false
 c1:w.cell? ⟨X,1,none⟩=some (.string f.src)
 f1:w.frozen? ⟨X,1,none⟩=false
 c2:w.cell? ⟨X,2,none⟩=some (.string f.dst)
 f2:w.frozen? ⟨X,2,none⟩=false
 c3:w.cell? ⟨X,3,none⟩=some (iV f.sp)
 f3:w.frozen? ⟨X,3,none⟩=false
 c4:w.cell? ⟨X,4,none⟩=some (iV f.dp)
 f4:w.frozen? ⟨X,4,none⟩=false
section
variable {w w':World} {X:Nat} {f:Fl}
theorem BoxG.new (w:World) (f:Fl) {t:TypeId}:BoxG (w.alloc (.cells (FlV f).toArray t)) w.heap.size f:=⟨cell_new rfl,by simp,cell_new rfl,by simp,cell_new rfl,by simp,cell_new rfl,by simp,cell_new rfl,by simp⟩
theorem BoxG.kept (h:BoxG w X f) (q:Below w.heap.size w w'):BoxG w' X f:=by
 have hb:=World.block_lt_of_cell? w _ h.c0;obtain ⟨hc,hf⟩:=bcell q;exact ⟨(hc X 0 hb).trans h.c0,(hf X 0 hb).trans h.f0,(hc X 1 hb).trans h.c1,(hf X 1 hb).trans h.f1,(hc X 2 hb).trans h.c2,(hf X 2 hb).trans h.f2,(hc X 3 hb).trans h.c3,(hf X 3 hb).trans h.f3,(hc X 4 hb).trans h.c4,(hf X 4 hb).trans h.f4⟩
theorem BoxG.other (h:BoxG w X f) {C o:Nat} (v:Value) (hC:C≠X):BoxG (w.setCell ⟨C,o,none⟩ v) X f:=by
 have hc:∀ j,(w.setCell ⟨C,o,none⟩ v).cell? ⟨X,j,none⟩=w.cell? ⟨X,j,none⟩:=fun j=>World.cell?_setCell_other w _ _ v (fun e=>hC (congrArg Addr.block e))
 have hf:∀ j,(w.setCell ⟨C,o,none⟩ v).frozen? ⟨X,j,none⟩=w.frozen? ⟨X,j,none⟩:=fun j=>by simp
 exact ⟨(hc 0).trans h.c0,(hf 0).trans h.f0,(hc 1).trans h.c1,(hf 1).trans h.f1,(hc 2).trans h.c2,(hf 2).trans h.f2,(hc 3).trans h.c3,(hf 3).trans h.f3,(hc 4).trans h.c4,(hf 4).trans h.f4⟩
theorem BoxG.set3 (h:BoxG w X f) (q:Int):BoxG (w.setCell ⟨X,3,none⟩ (iV q)) X ⟨f.proto,f.src,f.dst,q,f.dp⟩:=by
 obtain ⟨c0,f0,c1,f1,c2,f2,c3,f3,c4,f4⟩:=h;constructor<;>simp [go_sem,c0,f0,c1,f1,c2,f2,c3,f3,c4,f4]
end
theorem spOf_any (s d:ByteArray) (p:Int) (t:ByteArray) (w:World) (hs:s.size≤1048576) (ht:t.size≤1048576) :
  Cb 53 #[.string s,.string d,iV p,.string t] w (.tuple #[fwC (ofFl s d p t),iV (ofCode s.size p t)]):=by
 have HB1:Hid (∀ W,Cw 82 #[iV p,iV s.size] W (.bool (protoOk p s.size))):=fun W=>spProto_any _ _ W (by unfold maxLen; omega)
 have HB2:Hid (∀ W,Cw 83 #[iV p] W (.bool (echoP p))):=fun W=>spEcho_any _ W
 have HN:Hid (ofCode s.size p t≠0→fwC (ofFl s d p t)=.agg (FlR p s d 0 0).toArray):=fun h=>by unfold ofFl; rw [if_neg h]; rfl
 cases a1:protoOk p s.size with
 | false =>
  have HV:Hid (ofCode s.size p t=11):=by unfold Hid ofCode; rw [if_pos a1]
  have HW:Hid (fwC (ofFl s d p t)=.agg (FlR p s d 0 0).toArray):=HN.out (by rw [HV.out]; decide);rw [a1] at HB1;rw [HV.out,HW.out];clear HN HV HW HB2;go_enter Tryz.func53,Tryz.ntmps53
  go_wp2_with fail
  refine (HB1.out _).mono ?_;rintro e w2 ⟨rfl,rfl⟩;go_wp2_with fail
  refine bodyPost_ret (v:=.tuple #[.agg (FlR p s d 0 0).toArray,iV 11]) (by simp [results,Tryz.results53,go_sem]) rfl ⟨rfl,?_⟩;exact ((Below.refl _ _).alloc (Nat.le_refl _) _).alloc (by simp) _
 | true =>
  have hb:=get_bt t;have b12:=bt_isByte t 12;have b0:=bt_isByte t 0;have b1:=bt_isByte t 1;have HC:Hid (∀ k:Nat,k+1 < t.size→∀ W,Cb 84 #[.string t,iV k] W (iV (wordN (bt t) k))):=fun k hk W=>specAt_any t k W hk (by unfold maxLen; omega)
  have HS:Hid (shortP p t=((decide (p=6)&&(decide (t.size < 20)||decide (bt t 12 / 16 < 5)||decide ((t.size:Int) < 4*(bt t 12 / 16))))||decide (t.size < 8))):=rfl;have HV:Hid (ofCode s.size p t=if shortP p t=true then 4 else if echoP p=true then (if (bt t 0≠askP p∧bt t 0≠ansP p)∨bt t 1≠0 then 11 else 0) else 0):=by unfold Hid ofCode; rw [if_neg (by rw [a1]; decide)]
  have HY:Hid (ofCode s.size p t=0→fwC (ofFl s d p t)=.agg (FlR p s d (if echoP p=true then wordN (bt t) 4 else wordN (bt t) 0) (if echoP p=true then wordN (bt t) 4 else wordN (bt t) 2)).toArray):=fun h=>by
   unfold ofFl; rw [if_pos h]; split<;>rfl
  have HL:Hid (shortP p t=false→8≤t.size):=fun h=>by
   unfold shortP at h; rw [Bool.or_eq_false_iff,decide_eq_false_iff_not] at h; omega
  rw [a1] at HB1;generalize ofCode s.size p t=code at *;generalize fwC (ofFl s d p t)=out at *;generalize shortP p t=sh at *;clear a1;go_enter Tryz.func53,Tryz.ntmps53
  go_wp2_with fail
  refine (HB1.out _).mono ?_;rintro e w2 ⟨rfl,rfl⟩;clear HB1;go_upto_region 4 with fail
  have HWB:Hid (Below w.heap.size w ((aW w (FlR 0 ⟨#[]⟩ ⟨#[]⟩ 0 0) 91).alloc (.cells (FlR p s d 0 0).toArray 91))):=((Below.refl _ _).alloc (Nat.le_refl _) _).alloc (by simp) _;have KF:Hid (BoxG ((aW w (FlR 0 ⟨#[]⟩ ⟨#[]⟩ 0 0) 91).alloc (.cells (FlR p s d 0 0).toArray 91)) (w.heap.size+1) ⟨p,s,d,0,0⟩):=by
   have h:=BoxG.new (w.alloc (.cells (FlR 0 ⟨#[]⟩ ⟨#[]⟩ 0 0).toArray 91)) ⟨p,s,d,0,0⟩ (t:=91);rw [show (w.alloc (.cells (FlR 0 ⟨#[]⟩ ⟨#[]⟩ 0 0).toArray 91)).heap.size=w.heap.size+1 by simp] at h;exact h
  have KR:Hid (BoxG ((aW w (FlR 0 ⟨#[]⟩ ⟨#[]⟩ 0 0) 91).alloc (.cells (FlR p s d 0 0).toArray 91)) w.heap.size ⟨0,⟨#[]⟩,⟨#[]⟩,0,0⟩):=(BoxG.new w ⟨0,⟨#[]⟩,⟨#[]⟩,0,0⟩).kept ((Below.refl _ _).alloc (Nat.le_refl _) _);go_cut [24] (fun c wx=>c=.bool sh∧wx=(aW w (FlR 0 ⟨#[]⟩ ⟨#[]⟩ 0 0) 91).alloc (.cells (FlR p s d 0 0).toArray 91))
  case first =>
   clear HV HY HN HL HC HB2 HWB KF KR;by_cases c1:p=6
   ·have d1:(p==6)=true:=by simp [c1]
    by_cases c2:t.size < 20
    ·have hB:sh=true:=by rw [HS.out,decide_eq_true c1,decide_eq_true c2]; rfl
     clear HS c1;subst hB;go_wp2_with fail
     go_meet;exact ⟨rfl,rfl⟩
    ·by_cases c3:bt t 12 / 16 < 5
     ·have hB:sh=true:=by rw [HS.out,decide_eq_true c1,decide_eq_true c3]; simp
      clear HS c1;subst hB;go_wp2_with fail
      go_meet;exact ⟨rfl,rfl⟩
     ·by_cases c4:(t.size:Int) < 4*(bt t 12 / 16)
      ·have hB:sh=true:=by rw [HS.out,decide_eq_true c1,decide_eq_true c4]; simp
       clear HS c1;subst hB;go_wp2_with fail
       go_meet;exact ⟨rfl,rfl⟩
      ·have hB:sh=false:=by rw [HS.out,decide_eq_false c2,decide_eq_false c3,decide_eq_false c4,decide_eq_false (show ¬ t.size < 8 by omega)]; simp
       clear HS c1;subst hB;go_wp2_with fail
       go_meet;exact ⟨congrArg Value.bool (by simp; omega),rfl⟩
   ·have d1:(p==6)=false:=by simp [c1]
    by_cases c2:t.size < 8
    ·have hB:sh=true:=by rw [HS.out,decide_eq_true c2]; simp
     clear HS c1;subst hB;go_wp2_with fail
     go_meet;exact ⟨congrArg Value.bool (by simp; omega),rfl⟩
    ·have hB:sh=false:=by rw [HS.out,decide_eq_false c1,decide_eq_false c2]; rfl
     clear HS c1;subst hB;go_wp2_with fail
     go_meet;exact ⟨congrArg Value.bool (by simp; omega),rfl⟩
  case rest =>
  obtain ⟨rfl,rfl⟩:=hcut;clear HS
  cases sh with
  | true =>
   have HV2:Hid (code=4):=HV.out;have HO:Hid (out=.agg (FlR p s d 0 0).toArray):=HN.out (by rw [HV2.out]; decide);clear HV HY HN HL HC HB2 HWB KF KR;go_wp2_with fail
   refine bodyPost_ret (v:=.tuple #[.agg (FlR p s d 0 0).toArray,iV 4]) (by simp [results,Tryz.results53,go_sem]) rfl ⟨by rw [HV2.out,HO.out],?_⟩;exact ((Below.refl _ _).alloc (Nat.le_refl _) _).alloc (by simp) _
  | false =>
   have hl:=HL.out rfl;replace HV:Hid (code=if echoP p=true then (if (bt t 0≠askP p∧bt t 0≠ansP p)∨bt t 1≠0 then 11 else 0) else 0):=HV.out;have HC4:Hid _:=HC.out 4 (by omega);have HC0:Hid _:=HC.out 0 (by omega);have HC2:Hid _:=HC.out 2 (by omega);clear HL HC
   cases a2:echoP p with
   | false =>
    have HV2:Hid (code=0):=by unfold Hid; rw [HV.out,a2]; rfl
    have HO:Hid (out=.agg (FlR p s d (wordN (bt t) 0) (wordN (bt t) 2)).toArray):=by unfold Hid; rw [HY.out HV2.out,a2]; rfl
    rw [a2] at HB2;clear HV HY HN HC4 a2;generalize wordN (bt t) 0=x0 at *;generalize wordN (bt t) 2=x2 at *;go_wp2_with fail
    refine (HB2.out _).mono ?_;rintro e w2 ⟨rfl,rfl⟩;go_wp2_with fail
    refine (HC0.out _).mono ?_;rintro e w3 ⟨rfl,q3⟩;have G3:Hid _:=HWB.out.trans (q3.mono HWB.out.size);have K3:Hid (BoxG w3 (w.heap.size+1) ⟨p,s,d,0,0⟩):=KF.out.kept q3;have R3:Hid (BoxG w3 w.heap.size ⟨0,⟨#[]⟩,⟨#[]⟩,0,0⟩):=KR.out.kept q3;clear q3 HWB KF KR;obtain ⟨k0,y0,k1,y1,k2,y2,k3,y3,k4,y4⟩:=K3.out;go_wp2_with fail
    refine (HC2.out _).mono ?_;rintro e w4 ⟨rfl,q4⟩;have G4:Hid (Below w.heap.size w w4):=(G3.out.setCell (Nat.le_succ _) _).trans (q4.mono (G3.out.setCell (Nat.le_succ _) _).size);have K4:Hid (BoxG w4 (w.heap.size+1) ⟨p,s,d,x0,0⟩):=(K3.out.set3 x0).kept q4;have R4:Hid (BoxG w4 w.heap.size ⟨0,⟨#[]⟩,⟨#[]⟩,0,0⟩):=(R3.out.other _ (by omega)).kept q4;clear q4 G3 K3 R3 k0 y0 k1 y1 k2 y2 k3 y3 k4 y4;obtain ⟨k0,y0,k1,y1,k2,y2,k3,y3,k4,y4⟩:=K4.out;obtain ⟨o0,z0,o1,z1,o2,z2,o3,z3,o4,z4⟩:=R4.out;go_wp2_with fail
    refine bodyPost_ret (v:=.tuple #[.agg (FlR p s d x0 x2).toArray,iV 0]) (by simp [results,Tryz.results53,go_sem,k0,o0,k1,o1,k2,o2,k3,o3,k4,o4]) rfl ⟨by rw [HV2.out,HO.out],?_⟩;exact (((((G4.out.setCell (Nat.le_succ _) _).setCell (Nat.le_refl _) _).setCell (Nat.le_refl _) _).setCell (Nat.le_refl _) _).setCell (Nat.le_refl _) _).setCell (Nat.le_refl _) _
   | true =>
    have hp:p=1∨p=58:=by unfold echoP at a2; simpa using a2
    rw [a2] at HB2 HV HY;clear HC0 HC2 a2;generalize wordN (bt t) 4=x4 at *;rcases hp with rfl | rfl
    ·have HV3:Hid (code=if (bt t 0≠8∧bt t 0≠0)∨bt t 1≠0 then 11 else 0):=HV.out;clear HV;by_cases e0:bt t 0=8
     ·have d0:(bt t 0 != 8)=false:=by simp [e0]
      by_cases e1:bt t 1=0
      ·have d1:(bt t 1 != 0)=false:=by simp [e1]
       have HV2:Hid (code=0):=by unfold Hid; rw [HV3.out,if_neg (fun h=>h.elim (fun q=>q.1 e0) (fun q=>q e1))]
       have HO:Hid (out=.agg (FlR 1 s d x4 x4).toArray):=HY.out HV2.out;clear HV3 HY HN;go_wp2_with fail
       refine (HB2.out _).mono ?_;rintro e w2 ⟨rfl,rfl⟩;go_wp2_with fail
       refine (HC4.out _).mono ?_;rintro e w3 ⟨rfl,q3⟩;have G3:Hid _:=HWB.out.trans (q3.mono HWB.out.size);have K3:Hid (BoxG w3 (w.heap.size+1) ⟨1,s,d,0,0⟩):=KF.out.kept q3;have R3:Hid (BoxG w3 w.heap.size ⟨0,⟨#[]⟩,⟨#[]⟩,0,0⟩):=KR.out.kept q3;clear q3 HWB KF KR;obtain ⟨k0,y0,k1,y1,k2,y2,k3,y3,k4,y4⟩:=K3.out;obtain ⟨o0,z0,o1,z1,o2,z2,o3,z3,o4,z4⟩:=R3.out;go_wp2_with fail
       refine bodyPost_ret (v:=.tuple #[.agg (FlR 1 s d x4 x4).toArray,iV 0]) (by simp [results,Tryz.results53,go_sem,k0,o0,k1,o1,k2,o2,k3,o3,k4,o4]) rfl ⟨by rw [HV2.out,HO.out],?_⟩;exact ((((((G3.out.setCell (Nat.le_succ _) _).setCell (Nat.le_succ _) _).setCell (Nat.le_refl _) _).setCell (Nat.le_refl _) _).setCell (Nat.le_refl _) _).setCell (Nat.le_refl _) _).setCell (Nat.le_refl _) _
      ·have d1:(bt t 1 != 0)=true:=by simp [e1]
       have HV2:Hid (code=11):=by unfold Hid; rw [HV3.out,if_pos (Or.inr e1)]
       have HO:Hid (out=.agg (FlR 1 s d 0 0).toArray):=HN.out (by rw [HV2.out]; decide);clear HV3 HY HN HC4 KF KR HWB;go_wp2_with fail
       refine (HB2.out _).mono ?_;rintro e w2 ⟨rfl,rfl⟩;go_wp2_with fail
       refine bodyPost_ret (v:=.tuple #[.agg (FlR 1 s d 0 0).toArray,iV 11]) (by simp [results,Tryz.results53,go_sem]) rfl ⟨by rw [HV2.out,HO.out],?_⟩;exact ((Below.refl _ _).alloc (Nat.le_refl _) _).alloc (by simp) _
     ·have d0:(bt t 0 != 8)=true:=by simp [e0]
      by_cases e2:bt t 0=0
      ·have d2:(bt t 0 != 0)=false:=by simp [e2]
       by_cases e1:bt t 1=0
       ·have d1:(bt t 1 != 0)=false:=by simp [e1]
        have HV2:Hid (code=0):=by unfold Hid; rw [HV3.out,if_neg (fun h=>h.elim (fun q=>q.2 e2) (fun q=>q e1))]
        have HO:Hid (out=.agg (FlR 1 s d x4 x4).toArray):=HY.out HV2.out;clear HV3 HY HN;go_wp2_with fail
        refine (HB2.out _).mono ?_;rintro e w2 ⟨rfl,rfl⟩;go_wp2_with fail
        refine (HC4.out _).mono ?_;rintro e w3 ⟨rfl,q3⟩;have G3:Hid _:=HWB.out.trans (q3.mono HWB.out.size);have K3:Hid (BoxG w3 (w.heap.size+1) ⟨1,s,d,0,0⟩):=KF.out.kept q3;have R3:Hid (BoxG w3 w.heap.size ⟨0,⟨#[]⟩,⟨#[]⟩,0,0⟩):=KR.out.kept q3;clear q3 HWB KF KR;obtain ⟨k0,y0,k1,y1,k2,y2,k3,y3,k4,y4⟩:=K3.out;obtain ⟨o0,z0,o1,z1,o2,z2,o3,z3,o4,z4⟩:=R3.out;go_wp2_with fail
        refine bodyPost_ret (v:=.tuple #[.agg (FlR 1 s d x4 x4).toArray,iV 0]) (by simp [results,Tryz.results53,go_sem,k0,o0,k1,o1,k2,o2,k3,o3,k4,o4]) rfl ⟨by rw [HV2.out,HO.out],?_⟩;exact ((((((G3.out.setCell (Nat.le_succ _) _).setCell (Nat.le_succ _) _).setCell (Nat.le_refl _) _).setCell (Nat.le_refl _) _).setCell (Nat.le_refl _) _).setCell (Nat.le_refl _) _).setCell (Nat.le_refl _) _
       ·have d1:(bt t 1 != 0)=true:=by simp [e1]
        have HV2:Hid (code=11):=by unfold Hid; rw [HV3.out,if_pos (Or.inr e1)]
        have HO:Hid (out=.agg (FlR 1 s d 0 0).toArray):=HN.out (by rw [HV2.out]; decide);clear HV3 HY HN HC4 KF KR HWB;go_wp2_with fail
        refine (HB2.out _).mono ?_;rintro e w2 ⟨rfl,rfl⟩;go_wp2_with fail
        refine bodyPost_ret (v:=.tuple #[.agg (FlR 1 s d 0 0).toArray,iV 11]) (by simp [results,Tryz.results53,go_sem]) rfl ⟨by rw [HV2.out,HO.out],?_⟩;exact ((Below.refl _ _).alloc (Nat.le_refl _) _).alloc (by simp) _
      ·have d2:(bt t 0 != 0)=true:=by simp [e2]
       have HV2:Hid (code=11):=by unfold Hid; rw [HV3.out,if_pos (Or.inl ⟨e0,e2⟩)]
       have HO:Hid (out=.agg (FlR 1 s d 0 0).toArray):=HN.out (by rw [HV2.out]; decide);clear HV3 HY HN HC4 KF KR HWB;go_wp2_with fail
       refine (HB2.out _).mono ?_;rintro e w2 ⟨rfl,rfl⟩;go_wp2_with fail
       refine bodyPost_ret (v:=.tuple #[.agg (FlR 1 s d 0 0).toArray,iV 11]) (by simp [results,Tryz.results53,go_sem]) rfl ⟨by rw [HV2.out,HO.out],?_⟩;exact ((Below.refl _ _).alloc (Nat.le_refl _) _).alloc (by simp) _
    ·have HV3:Hid (code=if (bt t 0≠128∧bt t 0≠129)∨bt t 1≠0 then 11 else 0):=HV.out;clear HV;by_cases e0:bt t 0=128
     ·have d0:(bt t 0 != 128)=false:=by simp [e0]
      by_cases e1:bt t 1=0
      ·have d1:(bt t 1 != 0)=false:=by simp [e1]
       have HV2:Hid (code=0):=by unfold Hid; rw [HV3.out,if_neg (fun h=>h.elim (fun q=>q.1 e0) (fun q=>q e1))]
       have HO:Hid (out=.agg (FlR 58 s d x4 x4).toArray):=HY.out HV2.out;clear HV3 HY HN;go_wp2_with fail
       refine (HB2.out _).mono ?_;rintro e w2 ⟨rfl,rfl⟩;go_wp2_with fail
       refine (HC4.out _).mono ?_;rintro e w3 ⟨rfl,q3⟩;have G3:Hid _:=HWB.out.trans (q3.mono HWB.out.size);have K3:Hid (BoxG w3 (w.heap.size+1) ⟨58,s,d,0,0⟩):=KF.out.kept q3;have R3:Hid (BoxG w3 w.heap.size ⟨0,⟨#[]⟩,⟨#[]⟩,0,0⟩):=KR.out.kept q3;clear q3 HWB KF KR;obtain ⟨k0,y0,k1,y1,k2,y2,k3,y3,k4,y4⟩:=K3.out;obtain ⟨o0,z0,o1,z1,o2,z2,o3,z3,o4,z4⟩:=R3.out;go_wp2_with fail
       refine bodyPost_ret (v:=.tuple #[.agg (FlR 58 s d x4 x4).toArray,iV 0]) (by simp [results,Tryz.results53,go_sem,k0,o0,k1,o1,k2,o2,k3,o3,k4,o4]) rfl ⟨by rw [HV2.out,HO.out],?_⟩;exact ((((((G3.out.setCell (Nat.le_succ _) _).setCell (Nat.le_succ _) _).setCell (Nat.le_refl _) _).setCell (Nat.le_refl _) _).setCell (Nat.le_refl _) _).setCell (Nat.le_refl _) _).setCell (Nat.le_refl _) _
      ·have d1:(bt t 1 != 0)=true:=by simp [e1]
       have HV2:Hid (code=11):=by unfold Hid; rw [HV3.out,if_pos (Or.inr e1)]
       have HO:Hid (out=.agg (FlR 58 s d 0 0).toArray):=HN.out (by rw [HV2.out]; decide);clear HV3 HY HN HC4 KF KR HWB;go_wp2_with fail
       refine (HB2.out _).mono ?_;rintro e w2 ⟨rfl,rfl⟩;go_wp2_with fail
       refine bodyPost_ret (v:=.tuple #[.agg (FlR 58 s d 0 0).toArray,iV 11]) (by simp [results,Tryz.results53,go_sem]) rfl ⟨by rw [HV2.out,HO.out],?_⟩;exact ((Below.refl _ _).alloc (Nat.le_refl _) _).alloc (by simp) _
     ·have d0:(bt t 0 != 128)=true:=by simp [e0]
      by_cases e2:bt t 0=129
      ·have d2:(bt t 0 != 129)=false:=by simp [e2]
       by_cases e1:bt t 1=0
       ·have d1:(bt t 1 != 0)=false:=by simp [e1]
        have HV2:Hid (code=0):=by unfold Hid; rw [HV3.out,if_neg (fun h=>h.elim (fun q=>q.2 e2) (fun q=>q e1))]
        have HO:Hid (out=.agg (FlR 58 s d x4 x4).toArray):=HY.out HV2.out;clear HV3 HY HN;go_wp2_with fail
        refine (HB2.out _).mono ?_;rintro e w2 ⟨rfl,rfl⟩;go_wp2_with fail
        refine (HC4.out _).mono ?_;rintro e w3 ⟨rfl,q3⟩;have G3:Hid _:=HWB.out.trans (q3.mono HWB.out.size);have K3:Hid (BoxG w3 (w.heap.size+1) ⟨58,s,d,0,0⟩):=KF.out.kept q3;have R3:Hid (BoxG w3 w.heap.size ⟨0,⟨#[]⟩,⟨#[]⟩,0,0⟩):=KR.out.kept q3;clear q3 HWB KF KR;obtain ⟨k0,y0,k1,y1,k2,y2,k3,y3,k4,y4⟩:=K3.out;obtain ⟨o0,z0,o1,z1,o2,z2,o3,z3,o4,z4⟩:=R3.out;go_wp2_with fail
        refine bodyPost_ret (v:=.tuple #[.agg (FlR 58 s d x4 x4).toArray,iV 0]) (by simp [results,Tryz.results53,go_sem,k0,o0,k1,o1,k2,o2,k3,o3,k4,o4]) rfl ⟨by rw [HV2.out,HO.out],?_⟩;exact ((((((G3.out.setCell (Nat.le_succ _) _).setCell (Nat.le_succ _) _).setCell (Nat.le_refl _) _).setCell (Nat.le_refl _) _).setCell (Nat.le_refl _) _).setCell (Nat.le_refl _) _).setCell (Nat.le_refl _) _
       ·have d1:(bt t 1 != 0)=true:=by simp [e1]
        have HV2:Hid (code=11):=by unfold Hid; rw [HV3.out,if_pos (Or.inr e1)]
        have HO:Hid (out=.agg (FlR 58 s d 0 0).toArray):=HN.out (by rw [HV2.out]; decide);clear HV3 HY HN HC4 KF KR HWB;go_wp2_with fail
        refine (HB2.out _).mono ?_;rintro e w2 ⟨rfl,rfl⟩;go_wp2_with fail
        refine bodyPost_ret (v:=.tuple #[.agg (FlR 58 s d 0 0).toArray,iV 11]) (by simp [results,Tryz.results53,go_sem]) rfl ⟨by rw [HV2.out,HO.out],?_⟩;exact ((Below.refl _ _).alloc (Nat.le_refl _) _).alloc (by simp) _
      ·have d2:(bt t 0 != 129)=true:=by simp [e2]
       have HV2:Hid (code=11):=by unfold Hid; rw [HV3.out,if_pos (Or.inl ⟨e0,e2⟩)]
       have HO:Hid (out=.agg (FlR 58 s d 0 0).toArray):=HN.out (by rw [HV2.out]; decide);clear HV3 HY HN HC4 KF KR HWB;go_wp2_with fail
       refine (HB2.out _).mono ?_;rintro e w2 ⟨rfl,rfl⟩;go_wp2_with fail
       refine bodyPost_ret (v:=.tuple #[.agg (FlR 58 s d 0 0).toArray,iV 11]) (by simp [results,Tryz.results53,go_sem]) rfl ⟨by rw [HV2.out,HO.out],?_⟩;exact ((Below.refl _ _).alloc (Nat.le_refl _) _).alloc (by simp) _
structure BoxO (X:Nat) (w:World) (f:Fl) (code:Int):Prop where
 c0:w.cell? ⟨X,0,none⟩=some (iV f.proto)
 f0:w.frozen? ⟨X,0,none⟩=false
 c1:w.cell? ⟨X,1,none⟩=some (.string f.src)
 f1:w.frozen? ⟨X,1,none⟩=false
 c2:w.cell? ⟨X,2,none⟩=some (.string f.dst)
 f2:w.frozen? ⟨X,2,none⟩=false
 c3:w.cell? ⟨X,3,none⟩=some (iV f.sp)
 f3:w.frozen? ⟨X,3,none⟩=false
 c4:w.cell? ⟨X,4,none⟩=some (iV f.dp)
 f4:w.frozen? ⟨X,4,none⟩=false
 c5:w.cell? ⟨X,5,none⟩=some (iV code)
 f5:w.frozen? ⟨X,5,none⟩=false
theorem BoxO.new (w:World) (f:Fl) (code:Int) {t:TypeId}:BoxO w.heap.size (w.alloc (.cells #[iV f.proto,.string f.src,.string f.dst,iV f.sp,iV f.dp,iV code] t)) f code:=⟨cell_new rfl,by simp,cell_new rfl,by simp,cell_new rfl,by simp,cell_new rfl,by simp,cell_new rfl,by simp,cell_new rfl,by simp⟩
theorem BoxO.kept {w w':World} {X:Nat} {f:Fl} {code:Int} (h:BoxO X w f code) (q:Below w.heap.size w w'):BoxO X w' f code:=by
 have hb:=World.block_lt_of_cell? w _ h.c0;obtain ⟨hc,hf⟩:=bcell q;exact ⟨(hc X 0 hb).trans h.c0,(hf X 0 hb).trans h.f0,(hc X 1 hb).trans h.c1,(hf X 1 hb).trans h.f1,(hc X 2 hb).trans h.c2,(hf X 2 hb).trans h.f2,(hc X 3 hb).trans h.c3,(hf X 3 hb).trans h.f3,(hc X 4 hb).trans h.c4,(hf X 4 hb).trans h.f4,(hc X 5 hb).trans h.c5,(hf X 5 hb).trans h.f5⟩
theorem spCheck_any (p:Int) (w:World) :
  Cw 91 #[iV p] w (iV (checkP p:Nat)):=by
 by_cases h1:p=6
 ·subst h1;go_enter Tryz.func91,Tryz.ntmps91
  go_wp2_with fail
  go_ret;exact ⟨rfl,rfl⟩
 ·have d1:(p==6)=false:=by simp [h1]
  by_cases h2:p=17
  ·subst h2;go_enter Tryz.func91,Tryz.ntmps91
   go_wp2_with fail
   go_ret;exact ⟨rfl,rfl⟩
  ·have d2:(p==17)=false:=by simp [h2]
   have HV:Hid (checkP p=2):=by unfold Hid checkP; rw [if_neg h1,if_neg h2]
   generalize checkP p=ans at *;go_enter Tryz.func91,Tryz.ntmps91
   go_wp2_with fail
   go_ret;exact ⟨ret_int (by rw [HV.out]; rfl),rfl⟩
theorem spPut_any (s:ByteArray) (k:Nat) (t:ByteArray) (w:World) (h:k+t.size≤s.size) (hs:s.size≤100000) :
  Cb 89 #[.string s,iV k,.string t] w (.string (putV s k t)):=by
 have HV:Hid (putV s k t=s.extract 0 k++t++s.extract (k+t.size) s.size):=rfl;generalize putV s k t=ans at *;have L1:∀ W,(Instr.slice 9 (.string s) none (some (iV k)) none).run Tryz.prog W=.ok (.string (s.extract 0 k)) W:=fun W=>by
  rw [run_slice_string_h (P:=Tryz.prog) (t:=9) (s:=s) (w:=W) (ht:=Tryz.underlying9) .i64 (k:Int) (by omega) (by omega),show ((k:Int)).toNat=k by omega]
 have L2:∀ W,(Instr.slice 9 (.string s) (some (iV ((k:Int)+t.size))) none none).run Tryz.prog W=.ok (.string (s.extract (k+t.size) s.size)) W:=fun W=>by
  rw [run_slice_string_l (P:=Tryz.prog) (t:=9) (s:=s) (w:=W) (ht:=Tryz.underlying9) .i64 ((k:Int)+t.size) (by omega) (by omega),show ((k:Int)+t.size).toNat=k+t.size by omega]
 have z1:(s.extract 0 k).size=k:=by rw [ByteArray.size_extract]; omega
 have z2:(s.extract (k+t.size) s.size).size=s.size-(k+t.size):=by rw [ByteArray.size_extract]; omega
 generalize s.extract 0 k=u1 at *;generalize s.extract (k+t.size) s.size=u2 at *;have n1:¬ 9223372036854775807 < u1.size+t.size:=by omega
 have n2:¬ 9223372036854775807 < u1.size+t.size+u2.size:=by omega
 have hw:IntKind.i64.wrap ((k:Int)+t.size)=(k:Int)+t.size:=by rw [IntKind.wrap_i64]; omega
 have HZ1:Hid (u1.size=k):=z1;have HZ2:Hid (u2.size=s.size-(k+t.size)):=z2;clear z1 z2;go_enter Tryz.func89,Tryz.ntmps89
 go_wp2_with fail
 go_region
 all_goals go_wp2_with fail
 all_goals go_ret
 all_goals exact ⟨by rw [HV.out]; rfl,(Below.refl _ _).drew⟩
theorem str_slice5 (t:ByteArray) (l h:Nat) (W:World) (h1:l≤h) (h2:h≤t.size):(Instr.slice 9 (.string t) (some (iV l)) (some (iV h)) none).run Tryz.prog W=.ok (.string (t.extract l h)) W:=by
 have:=run_slice_string (P:=Tryz.prog) W 9 t .i64 .i64 (l:Int) (h:Int) Tryz.underlying9 (by omega) (by omega) (by omega);simpa using this
theorem spPart_any (f:Fl) (t:ByteArray) (w:World) (hs:f.src.size≤16) (hd:f.dst.size≤16) (hp:0≤f.proto∧f.proto≤255) (ht:t.size≤65535) (h8:8≤t.size) :
  Cb 94 #[fwC f,.string t] w (.string (partV f t)):=by
 have HB1:Hid (∀ W,Cw 83 #[iV f.proto] W (.bool (echoP f.proto))):=fun W=>spEcho_any _ W
 have HB2:Hid (∀ W,Cb 130 #[.string f.src,.string f.dst,iV f.proto,iV t.size] W (.string (pseudoV f.src f.dst f.proto t.size))):=fun W=>spPseudo_any _ _ _ _ W hs hd hp ht
 have HV:Hid (partV f t=(if echoP f.proto=true then t.extract 0 2++t.extract 4 6 else t.extract 0 4)++pseudoV f.src f.dst f.proto t.size):=rfl;have hz:=pseudoV_size f.src f.dst f.proto t.size hs hd;have L1:∀ W,(Instr.slice 9 (.string t) none (some (iV 4)) none).run Tryz.prog W=.ok (.string (t.extract 0 4)) W:=fun W=>run_slice_string_h (P:=Tryz.prog) (t:=9) (s:=t) (w:=W) (ht:=Tryz.underlying9) .i64 (4:Int) (by omega) (by omega)
 have L2:∀ W,(Instr.slice 9 (.string t) none (some (iV 2)) none).run Tryz.prog W=.ok (.string (t.extract 0 2)) W:=fun W=>run_slice_string_h (P:=Tryz.prog) (t:=9) (s:=t) (w:=W) (ht:=Tryz.underlying9) .i64 (2:Int) (by omega) (by omega)
 have L3:∀ W,(Instr.slice 9 (.string t) (some (iV 4)) (some (iV 6)) none).run Tryz.prog W=.ok (.string (t.extract 4 6)) W:=fun W=>str_slice5 t 4 6 W (by omega) (by omega)
 have z1:(t.extract 0 4).size=4:=by rw [ByteArray.size_extract]; omega
 have z2:(t.extract 0 2).size=2:=by rw [ByteArray.size_extract]; omega
 have z3:(t.extract 4 6).size=2:=by rw [ByteArray.size_extract]; omega
 generalize t.extract 0 4=u1 at *;generalize t.extract 0 2=u2 at *;generalize t.extract 4 6=u3 at *;generalize pseudoV f.src f.dst f.proto t.size=ps at *;generalize partV f t=ans at *;have n1:¬ 9223372036854775807 < u2.size+u3.size:=by omega
 have n2:¬ 9223372036854775807 < u1.size+ps.size:=by omega
 have n3:¬ 9223372036854775807 < u2.size+u3.size+ps.size:=by omega
 have n4:¬ 9223372036854775807 < (u2++u3).size+ps.size:=by rw [ByteArray.size_append]; omega
 have KF:Hid (BoxG (w.alloc (.cells (FlV f).toArray 91)) w.heap.size f):=BoxG.new w f;have HZ:Hid (Below w.heap.size w (w.alloc (.cells (FlV f).toArray 91))):=(Below.refl _ _).alloc (Nat.le_refl _) _;generalize echoP f.proto=b at *;obtain ⟨proto,src,dst,sp,dp⟩:=f;unfold fwC;dsimp only at *
 cases b with
 | false =>
  replace HV:Hid (ans=u1++ps):=HV.out;go_enter Tryz.func94,Tryz.ntmps94
  go_wp2_with fail
  refine (HB1.out _).mono ?_;rintro e w2 ⟨rfl,rfl⟩;go_wp2_with fail
  refine (HB2.out _).mono ?_;rintro e w3 ⟨rfl,q3⟩;have G3:Hid _:=HZ.out.trans (q3.mono HZ.out.size);clear q3;go_wp2_with fail
  go_ret;exact ⟨by rw [HV.out]; rfl,G3.out⟩
 | true =>
  replace HV:Hid (ans=u2++u3++ps):=HV.out;go_enter Tryz.func94,Tryz.ntmps94
  go_wp2_with fail
  refine (HB1.out _).mono ?_;rintro e w2 ⟨rfl,rfl⟩;go_wp2_with fail
  go_region
  all_goals go_wp2_with fail
  all_goals refine (HB2.out _).mono ?_
  all_goals rintro e w3 ⟨rfl,q3⟩
  all_goals have G3:Hid (Below w.heap.size w w3):=HZ.out.drew.trans (q3.mono HZ.out.size)
  all_goals clear q3
  all_goals go_wp2_with fail
  all_goals go_ret
  all_goals exact ⟨by rw [HV.out]; rfl,G3.out⟩
structure SetW (w:World) (f g:Fl) (W:World):Prop where
 bf:BoxG W w.heap.size f
 bg:BoxG W (w.heap.size+1) g
 c0:W.cell? ⟨w.heap.size+1+1,0,none⟩=some (.string ⟨#[]⟩)
 f0:W.frozen? ⟨w.heap.size+1+1,0,none⟩=false
 c1:W.cell? ⟨w.heap.size+1+1,1,none⟩=some (iV 0)
 f1:W.frozen? ⟨w.heap.size+1+1,1,none⟩=false
 gr:Below w.heap.size w W
theorem SetW.kept {w W W':World} {f g:Fl} (h:SetW w f g W) (q:Below W.heap.size W W'):SetW w f g W':=by
 have hb:=World.block_lt_of_cell? W _ h.c0;obtain ⟨hc,hf⟩:=bcell q;exact ⟨h.bf.kept q,h.bg.kept q,(hc _ 0 hb).trans h.c0,(hf _ 0 hb).trans h.f0,(hc _ 1 hb).trans h.c1,(hf _ 1 hb).trans h.f1,h.gr.trans (q.mono h.gr.size)⟩
theorem SetW.new (w:World) (f g:Fl):SetW w f g (((w.alloc (.cells (FlV f).toArray 91)).alloc (.cells (FlV g).toArray 91)).alloc (.cells #[.string ⟨#[]⟩,iV 0] 99)):=by
 have q1:∀ (W:World) o,Below W.heap.size W (W.alloc o):=fun W o=>(Below.refl _ _).alloc (Nat.le_refl _) _
 have h0:Below w.heap.size w ((w.alloc (.cells (FlV f).toArray 91)).alloc (.cells (FlV g).toArray 91)):=((Below.refl _ _).alloc (Nat.le_refl _) _).alloc (by simp) _;have z1:∀ (W:World) o,(W.alloc o).heap.size=W.heap.size+1:=fun W o=>by simp
 have h1:=((BoxG.new w f (t:=91)).kept (q1 _ (.cells (FlV g).toArray 91))).kept (q1 _ (.cells #[.string ⟨#[]⟩,iV 0] 99));have h2:=(BoxG.new (w.alloc (.cells (FlV f).toArray 91)) g (t:=91)).kept (q1 _ (.cells #[.string ⟨#[]⟩,iV 0] 99));rw [z1] at h2;have z3:((w.alloc (.cells (FlV f).toArray 91)).alloc (.cells (FlV g).toArray 91)).heap.size=w.heap.size+1+1:=by rw [z1,z1]
 generalize (w.alloc (.cells (FlV f).toArray 91)).alloc (.cells (FlV g).toArray 91)=V at *;refine ⟨h1,h2,by rw [← z3]; exact cell_new rfl,by rw [← z3]; simp,by rw [← z3]; exact cell_new rfl,by rw [← z3]; simp,h0.trans ((q1 V _).mono h0.size)⟩
def IsOne (x:Int):Value→World→Prop:=fun v w=>∃ b,v=.slice (some ⟨b,0,none⟩) 1 1∧w.cell? ⟨b,0,none⟩=some (.int .u8 x)
theorem stable_isOne (x:Int):Stable (IsOne x):=fun v w w' ⟨b,h1,h2⟩ hb=>⟨b,h1,((bcell hb).1 b 0 (World.block_lt_of_cell? w _ h2)).trans h2⟩
theorem one5_conv {w:World} {b cap:Nat} {x:Int} (hx:0≤x∧x≤255) (h0:w.cell? ⟨b,0,none⟩=some (.int .u8 x)) :
  (convert 137 9 (.slice (some ⟨b,0,none⟩) 1 cap)).run Tryz.prog w=.ok (.string (oneV x)) w :=
 run_convert_bytes_back (P:=Tryz.prog) w 137 9 5 ⟨b,0,none⟩ cap [UInt8.ofNat x.toNat] Tryz.underlying137 Tryz.underlying5 Tryz.underlying9 (by
  intro j hj;match j,hj with
  | 0,_=>simp only [Addr.add,Nat.add_zero,List.getElem_cons_zero]; rw [u8_ofNat _ hx.1 hx.2]; exact h0)
theorem partV_size (f:Fl) (t:ByteArray) (hs:f.src.size≤16) (hd:f.dst.size≤16):(partV f t).size≤44:=by
 have h:=pseudoV_size f.src f.dst f.proto t.size hs hd;unfold partV;split
 ·simp only [ByteArray.size_append,ByteArray.size_extract]; omega
 ·simp only [ByteArray.size_append,ByteArray.size_extract]; omega
theorem spSet_any (f g:Fl) (t:ByteArray) (w:World) (ht:t.size≤20000) (h8:8≤t.size) (hp:f.proto=6→20≤t.size) (fs:f.src.size≤16∧f.dst.size≤16) (gs:g.src.size≤16∧g.dst.size≤16) (fp:0≤f.proto∧f.proto≤255) (gp:0≤g.proto∧g.proto≤255) (gw:(0≤g.sp∧g.sp≤65535)∧(0≤g.dp∧g.dp≤65535)) :
  Cb 55 #[fwC f,fwC g,.string t] w (if bareUdp f t=true then (if g.src.size=16 then dtCO ⟨#[]⟩ 5 else dtCO (setOut f g t) 0) else dtCO (putV (setOut f g t) (checkP f.proto) (twoV (newCheck f g t))) 0):=by
 have HT1:Hid (∀ W,Cb 90 #[iV g.sp] W (.string (twoV g.sp))):=fun W=>specTwo_any _ W gw.1.1 gw.1.2
 have HT2:Hid (∀ W,Cb 90 #[iV g.dp] W (.string (twoV g.dp))):=fun W=>specTwo_any _ W gw.2.1 gw.2.2
 have hz:(twoV g.sp++twoV g.dp).size=4:=by rw [ByteArray.size_append]; rfl
 have HP1:Hid (∀ W,Cb 89 #[.string t,iV 0,.string (twoV g.sp++twoV g.dp)] W (.string (putV t 0 (twoV g.sp++twoV g.dp)))):=fun W=>spPut_any t 0 _ W (by omega) (by omega)
 have HE:Hid (∀ W,Cw 83 #[iV f.proto] W (.bool (echoP f.proto))):=fun W=>spEcho_any _ W
 have KW:Hid (SetW w f g (((w.alloc (.cells (FlV f).toArray 91)).alloc (.cells (FlV g).toArray 91)).alloc (.cells #[.string ⟨#[]⟩,iV 0] 99))):=SetW.new w f g;have n1:¬ 9223372036854775807 < (twoV g.sp).size+(twoV g.dp).size:=by rw [twoV_size,twoV_size]; omega
 have z1:=twoV_size g.sp;have z2:=twoV_size g.dp;generalize hans:(if bareUdp f t=true then (if g.src.size=16 then dtCO ⟨#[]⟩ 5 else dtCO (setOut f g t) 0) else dtCO (putV (setOut f g t) (checkP f.proto) (twoV (newCheck f g t))) 0)=ans;have HA:Hid _:=hans;clear hans;obtain ⟨proto,src,dst,sp,dp⟩:=f;obtain ⟨proto',src',dst',sp',dp'⟩:=g;unfold fwC;dsimp only at *;go_enter Tryz.func55,Tryz.ntmps55
 go_upto_region 1 with fail
 go_cut [7] (fun v wx=>v=.string (putV t 0 (twoV sp'++twoV dp'))∧SetW w ⟨proto,src,dst,sp,dp⟩ ⟨proto',src',dst',sp',dp'⟩ wx)
 case first =>
  rename_i J K2 hJ hK2;refine wp_region_growL (Rs:=[IsV (.string t),IsV (.pointer (some ⟨w.heap.size+1,3,none⟩)),IsV (iV sp'),IsV (.string (twoV sp')),IsV (.pointer (some ⟨w.heap.size+1,4,none⟩)),IsV (iV dp'),IsV (.string (twoV dp')),IsV (.string (twoV sp'++twoV dp')),IsV (.string (putV t 0 (twoV sp'++twoV dp'))),IsV (.string (putV t 0 (twoV sp'++twoV dp')))]) [12,13,14,15,16,17,18,19,20,7] (by kernel_rfl) (by kernel_rfl) rfl ?st ?steps ?done
  case st=>simp [stable_isV,stable_isRow]
  case steps =>
   refine ⟨?s0,?s1,?s2,?s3,?s4,?s5,?s6,?s7,?s8,?s9,trivial⟩
   case s0 =>
    intro K' a wy ho hd hb hK;have h3:=ho 2 (by decide);simp [slot] at h3;clear hd;go_simp;try go_bits
    exact hK _ _ rfl (Below.refl _ _)
   case s1 =>
    intro K' a wy ho hd hb hK;have h3:=ho 4 (by decide);simp [slot] at h3;clear hd;go_simp;try go_bits
    exact hK _ _ rfl (Below.refl _ _)
   case s2 =>
    intro K' a wy ho hd hb hK;simp [Region.binds,rAt,IsV,slot] at hd;obtain ⟨k0,y0,k1,y1,k2,y2,k3,y3,k4,y4⟩:=(KW.out.kept (Below.trans (Below.refl _ _).drew hb)).bg;go_simp;try go_bits
    exact hK _ _ rfl (Below.refl _ _)
   case s3 =>
    intro K' a wy ho hd hb hK;simp [Region.binds,rAt,IsV,slot] at hd;go_simp;refine (HT1.out wy).mono ?_;rintro e wz ⟨rfl,hz⟩;exact hK _ _ rfl hz
   case s4 =>
    intro K' a wy ho hd hb hK;have h3:=ho 4 (by decide);simp [slot] at h3;clear hd;go_simp;try go_bits
    exact hK _ _ rfl (Below.refl _ _)
   case s5 =>
    intro K' a wy ho hd hb hK;simp [Region.binds,rAt,IsV,slot] at hd;obtain ⟨k0,y0,k1,y1,k2,y2,k3,y3,k4,y4⟩:=(KW.out.kept (Below.trans (Below.refl _ _).drew hb)).bg;go_simp;try go_bits
    exact hK _ _ rfl (Below.refl _ _)
   case s6 =>
    intro K' a wy ho hd hb hK;simp [Region.binds,rAt,IsV,slot] at hd;go_simp;refine (HT2.out wy).mono ?_;rintro e wz ⟨rfl,hz⟩;exact hK _ _ rfl hz
   case s7 =>
    intro K' a wy ho hd hb hK;simp [Region.binds,rAt,IsV,slot] at hd;go_simp;try go_bits
    exact hK _ _ rfl (Below.refl _ _)
   case s8 =>
    intro K' a wy ho hd hb hK;simp [Region.binds,rAt,IsV,slot] at hd;go_simp;refine (HP1.out wy).mono ?_;rintro e wz ⟨rfl,hz⟩;exact hK _ _ rfl hz
   case s9 =>
    intro K' a wy ho hd hb hK;simp [Region.binds,rAt,IsV,slot] at hd;go_simp;try go_bits
    exact hK _ _ rfl (Below.refl _ _)
  case done =>
   intro X wz hR hz;obtain ⟨x0,x1,x2,x3,x4,x5,x6,x7,x8,x9,-⟩:=hR;simp only [IsV] at x0 x1 x2 x3 x4 x5 x6 x7 x8 x9;simp only [putsFrom,x0,x1,x2,x3,x4,x5,x6,x7,x8,x9];clear x0 x1 x2 x3 x4 x5 x6 x7 x8 x9;go_simp;refine hK2 _ _ (hJ _ _ ?_);(repeat apply Exists.intro)
   refine ⟨⟨rfl,KW.out.kept ((Below.refl _ _).drew.trans hz)⟩,rfl⟩
 case rest =>
 obtain ⟨rfl,hKW⟩:=hcut;have KW1:Hid _:=hKW;clear hKW KW HT2 HP1 n1;have HO:Hid (setOut ⟨proto,src,dst,sp,dp⟩ ⟨proto',src',dst',sp',dp'⟩ t=if echoP proto=true then putV (putV t 0 (oneV (firstV8 ⟨proto,src,dst,sp,dp⟩ ⟨proto',src',dst',sp',dp'⟩ t))) 4 (twoV sp') else putV t 0 (twoV sp'++twoV dp')):=rfl;have HNC:Hid (newCheck ⟨proto,src,dst,sp,dp⟩ ⟨proto',src',dst',sp',dp'⟩ t=if 65535-add1 (add1 (65535-wordN (bt t) (checkP proto)) (65535-sumV (partV ⟨proto,src,dst,sp,dp⟩ t))) (sumV (partV ⟨proto',src',dst',sp',dp'⟩ (setOut ⟨proto,src,dst,sp,dp⟩ ⟨proto',src',dst',sp',dp'⟩ t)))=0 then 65535 else 65535-add1 (add1 (65535-wordN (bt t) (checkP proto)) (65535-sumV (partV ⟨proto,src,dst,sp,dp⟩ t))) (sumV (partV ⟨proto',src',dst',sp',dp'⟩ (setOut ⟨proto,src,dst,sp,dp⟩ ⟨proto',src',dst',sp',dp'⟩ t)))):=rfl;have hoz:(setOut ⟨proto,src,dst,sp,dp⟩ ⟨proto',src',dst',sp',dp'⟩ t).size=t.size:=by
  rw [HO.out];have q1:∀ x,(putV t 0 (oneV x)).size=t.size:=fun x=>putV_size (by rw [show (oneV x).size=1 from rfl]; omega)
  split
  ·rw [putV_size (by rw [q1,z1]; omega),q1]
  ·exact putV_size (by omega)
 have HF:Hid (firstV8 ⟨proto,src,dst,sp,dp⟩ ⟨proto',src',dst',sp',dp'⟩ t=if proto≠proto' then (if bt t 0=8 then 128 else if bt t 0=0 then 129 else if bt t 0=128 then 8 else 0) else bt t 0):=rfl;generalize setOut ⟨proto,src,dst,sp,dp⟩ ⟨proto',src',dst',sp',dp'⟩ t=out at *;generalize firstV8 ⟨proto,src,dst,sp,dp⟩ ⟨proto',src',dst',sp',dp'⟩ t=fi at *;obtain ⟨k0,y0,k1,y1,k2,y2,k3,y3,k4,y4⟩:=KW1.out.bf;dsimp only at k0 k1 k2 k3 k4;go_wp2_with fail
 refine (HE.out _).mono ?_;rintro e w2 ⟨rfl,rfl⟩;go_upto_if 23 with fail
 go_cut [7] (fun v wx=>v=.string out∧SetW w ⟨proto,src,dst,sp,dp⟩ ⟨proto',src',dst',sp',dp'⟩ wx)
 case first =>
  clear HA HNC HE
  cases a:echoP proto with
  | false =>
   replace HO:Hid (out=putV t 0 (twoV sp'++twoV dp')):=by unfold Hid; rw [HO.out,if_neg (by rw [a]; decide)]
   go_wp2_with fail
   go_meet;exact ⟨by rw [HO.out],KW1.out⟩
  | true =>
   replace HO:Hid (out=putV (putV t 0 (oneV fi)) 4 (twoV sp')):=by unfold Hid; rw [HO.out,if_pos a]
   obtain ⟨j0,x0,j1,x1,j2,x2,j3,x3,j4,x4⟩:=KW1.out.bg;dsimp only at j0 j1 j2 j3 j4;have hb:=get_bt t;have b0:=bt_isByte t 0;have hfi:0≤fi∧fi≤255:=by
    rw [HF.out];split
    ·split
     ·omega
     ·split
      ·omega
      ·split<;>omega
    ·exact b0
   go_upto_if 30 with fail
   go_cut [8] (fun v wx=>v=.int .u8 fi∧wx=w2)
   case first =>
    clear HO;by_cases e1:proto=proto'
    ·have d1:(proto != proto')=false:=by simp [e1]
     have hB:fi=bt t 0:=by rw [HF.out,if_neg (by simp [e1])]
     clear HF e1;subst hB;go_wp2_with fail
     go_meet;exact ⟨rfl,rfl⟩
    ·have d1:(proto != proto')=true:=by simp [e1]
     have hB:fi=(if bt t 0=8 then 128 else if bt t 0=0 then 129 else if bt t 0=128 then 8 else 0):=by rw [HF.out,if_pos e1]
     clear HF e1;by_cases c1:bt t 0=8
     ·have d2:(bt t 0==8)=true:=by simp [c1]
      rw [if_pos c1] at hB;clear c1;subst hB;go_wp2_with fail
      go_meet;exact ⟨rfl,rfl⟩
     ·have d2:(bt t 0==8)=false:=by simp [c1]
      rw [if_neg c1] at hB;by_cases c2:bt t 0=0
      ·have d3:(bt t 0==0)=true:=by simp [c2]
       rw [if_pos c2] at hB;clear c1 c2;subst hB;go_wp2_with fail
       go_meet;exact ⟨rfl,rfl⟩
      ·have d3:(bt t 0==0)=false:=by simp [c2]
       rw [if_neg c2] at hB;by_cases c3:bt t 0=128
       ·have d4:(bt t 0==128)=true:=by simp [c3]
        rw [if_pos c3] at hB;clear c1 c2 c3;subst hB;go_wp2_with fail
        go_meet;exact ⟨rfl,rfl⟩
       ·have d4:(bt t 0==128)=false:=by simp [c3]
        rw [if_neg c3] at hB;clear c1 c2 c3;subst hB;go_wp2_with fail
        go_meet;exact ⟨rfl,rfl⟩
   case rest =>
   obtain ⟨rfl,rfl⟩:=hcut;clear HF;have q1:(putV t 0 (oneV fi)).size=t.size:=putV_size (by rw [show (oneV fi).size=1 from rfl]; omega);have HP2:Hid (∀ W,Cb 89 #[.string t,iV 0,.string (oneV fi)] W (.string (putV t 0 (oneV fi)))):=fun W=>spPut_any t 0 _ W (by rw [show (oneV fi).size=1 from rfl]; omega) (by omega)
   have HP3:Hid (∀ W,Cb 89 #[.string (putV t 0 (oneV fi)),iV 4,.string (twoV sp')] W (.string (putV (putV t 0 (oneV fi)) 4 (twoV sp')))):=fun W=>spPut_any _ 4 _ W (by omega) (by omega)
   rw [← HO.out] at HP3;clear HO;generalize putV t 0 (oneV fi)=out0 at *;go_upto_region 13 with fail
   go_cut [7] (fun v wx=>v=.string out∧SetW w ⟨proto,src,dst,sp,dp⟩ ⟨proto',src',dst',sp',dp'⟩ wx)
   case first =>
    rename_i J K2 hJ hK2;clear k0 y0 k1 y1 k2 y2 k3 y3 k4 y4 j0 x0 j1 x1 j2 x2 j3 x3 j4 x4;refine wp_region_growL (Rs:=[IsV (.string t),IsV (.int .u8 fi),IsOne fi,IsV (.string (oneV fi)),IsV (.string out0),IsV (.pointer (some ⟨w.heap.size+1,3,none⟩)),IsV (iV sp'),IsV (.string (twoV sp')),IsV (.string out),IsV (.string out)]) [39,40,41,42,43,44,45,46,47,7] (by kernel_rfl) (by kernel_rfl) rfl ?st ?steps ?done
    case st=>simp [stable_isV,stable_isOne]
    case steps =>
     refine ⟨?s0,?s1,?s2,?s3,?s4,?s5,?s6,?s7,?s8,?s9,trivial⟩
     case s0 =>
      intro K' a wy ho hd hb hK;have h3:=ho 2 (by decide);simp [slot] at h3;clear hd;go_simp;try go_bits
      exact hK _ _ rfl (Below.refl _ _)
     case s1 =>
      intro K' a wy ho hd hb hK;have h3:=ho 8 (by decide);simp [slot] at h3;clear hd;go_simp;try go_bits
      exact hK _ _ rfl (Below.refl _ _)
     case s2 =>
      intro K' a wy ho hd hb hK;simp [Region.binds,rAt,IsV,slot] at hd;go_simp;exact hK _ _ ⟨wy.heap.size,rfl,by simp⟩ ((Below.refl _ _).alloc (Nat.le_refl _) _)
     case s3 =>
      intro K' a wy ho hd hb hK;simp only [List.forall_mem_singleton,Array.mem_def,List.mem_singleton,forall_eq] at hd;obtain ⟨b,hd1,hd2⟩ : IsOne fi (slot a 41) wy:=hd rfl;have hcv:=one5_conv (cap:=1) hfi hd2;simp [slot] at hd1;go_simp;try go_bits
      exact hK _ _ rfl (Below.refl _ _)
     case s4 =>
      intro K' a wy ho hd hb hK;simp [Region.binds,rAt,IsV,slot] at hd;go_simp;refine (HP2.out wy).mono ?_;rintro e wz ⟨rfl,hz⟩;exact hK _ _ rfl hz
     case s5 =>
      intro K' a wy ho hd hb hK;have h3:=ho 4 (by decide);simp [slot] at h3;clear hd;go_simp;try go_bits
      exact hK _ _ rfl (Below.refl _ _)
     case s6 =>
      intro K' a wy ho hd hb hK;simp [Region.binds,rAt,IsV,slot] at hd;obtain ⟨k0,y0,k1,y1,k2,y2,k3,y3,k4,y4⟩:=(KW1.out.kept (Below.trans (Below.refl _ _).drew hb)).bg;go_simp;try go_bits
      exact hK _ _ rfl (Below.refl _ _)
     case s7 =>
      intro K' a wy ho hd hb hK;simp [Region.binds,rAt,IsV,slot] at hd;go_simp;refine (HT1.out wy).mono ?_;rintro e wz ⟨rfl,hz⟩;exact hK _ _ rfl hz
     case s8 =>
      intro K' a wy ho hd hb hK;simp [Region.binds,rAt,IsV,slot] at hd;go_simp;refine (HP3.out wy).mono ?_;rintro e wz ⟨rfl,hz⟩;exact hK _ _ rfl hz
     case s9 =>
      intro K' a wy ho hd hb hK;simp [Region.binds,rAt,IsV,slot] at hd;go_simp;try go_bits
      exact hK _ _ rfl (Below.refl _ _)
    case done =>
     intro X wz hR hz;obtain ⟨x0,x1,⟨b2,x2,-⟩,x3,x4,x5,x6,x7,x8,x9,-⟩:=hR;simp only [IsV] at x0 x1 x3 x4 x5 x6 x7 x8 x9;simp only [putsFrom,x0,x1,x2,x3,x4,x5,x6,x7,x8,x9];clear x0 x1 x2 x3 x4 x5 x6 x7 x8 x9;go_simp;refine hK2 _ _ (hJ _ _ ?_);(repeat apply Exists.intro)
     refine ⟨⟨rfl,KW1.out.kept ((Below.refl _ _).drew.trans hz)⟩,rfl⟩
   case rest =>
   obtain ⟨rfl,hKW⟩:=hcut;go_wp2_with fail
   go_meet;exact ⟨rfl,hKW⟩
 case rest =>
 obtain ⟨rfl,hKW⟩:=hcut;clear KW1 k0 y0 k1 y1 k2 y2 k3 y3 k4 y4 HO HF HE HT1;have KW1:Hid _:=hKW;clear hKW;obtain ⟨k0,y0,k1,y1,k2,y2,k3,y3,k4,y4⟩:=KW1.out.bf;dsimp only at k0 k1 k2 k3 k4
 ·have HK:Hid (∀ W,Cw 91 #[iV proto] W (iV (checkP proto:Nat))):=fun W=>spCheck_any _ W
  have hck:checkP proto+1 < t.size:=by
   unfold checkP;split
   ·have:=hp (by assumption); omega
   ·split<;>omega
  have HAt:Hid (∀ W,Cb 84 #[.string t,iV (checkP proto:Nat)] W (iV (wordN (bt t) (checkP proto)))):=fun W=>specAt_any t _ W hck (by unfold maxLen; omega)
  have hcw:=wordN_range (bt_isByte t) (checkP proto);have HPut:Hid (∀ (n:Int) W,Cb 89 #[.string out,iV (checkP proto:Nat),.string (twoV n)] W (.string (putV out (checkP proto) (twoV n)))):=fun n W=>spPut_any out _ _ W (by rw [twoV_size]; omega) (by omega)
  have HBd:Hid (bareUdp ⟨proto,src,dst,sp,dp⟩ t=(decide (proto=17)&&decide (wordN (bt t) (checkP proto)=0)&&decide (src.size=4))):=rfl;generalize checkP proto=ck at *;generalize wordN (bt t) ck=cw at *;generalize bareUdp ⟨proto,src,dst,sp,dp⟩ t=bare at *;go_wp2_with fail
  refine (HK.out _).mono ?_;rintro e w3 ⟨rfl,rfl⟩;go_wp2_with fail
  refine (HAt.out _).mono ?_;rintro e w4 ⟨rfl,q4⟩;have KW4:Hid _:=KW1.out.kept q4;clear q4 KW1 k0 y0 k1 y1 k2 y2 k3 y3 k4 y4 HK HAt;obtain ⟨k0,y0,k1,y1,k2,y2,k3,y3,k4,y4⟩:=KW4.out.bf;dsimp only at k0 k1 k2 k3 k4;go_upto_region 16 with fail
  go_cut [66] (fun c wx=>c=.bool bare∧wx=w4)
  case first =>
   clear HA HNC HPut;by_cases c1:proto=17
   ·have d1:(proto==17)=true:=by simp [c1]
    by_cases c2:cw=0
    ·have d2:(cw==0)=true:=by simp [c2]
     by_cases c3:src.size=4
     ·have d3:((src.size:Int)==4)=true:=by simp; omega
      have hB:bare=true:=by rw [HBd.out,decide_eq_true c1,decide_eq_true c2,decide_eq_true c3]; rfl
      clear HBd c1 c2 c3;subst hB;go_wp2_with fail
      go_meet;exact ⟨rfl,rfl⟩
     ·have d3:((src.size:Int)==4)=false:=by simp; omega
      have hB:bare=false:=by rw [HBd.out,decide_eq_false c3]; simp
      clear HBd c1 c2 c3;subst hB;go_wp2_with fail
      go_meet;exact ⟨rfl,rfl⟩
    ·have d2:(cw==0)=false:=by simp [c2]
     have hB:bare=false:=by rw [HBd.out,decide_eq_false c2]; simp
     clear HBd c1 c2;subst hB;go_wp2_with fail
     go_meet;exact ⟨rfl,rfl⟩
   ·have d1:(proto==17)=false:=by simp [c1]
    have hB:bare=false:=by rw [HBd.out,decide_eq_false c1]; simp
    clear HBd c1;subst hB;go_wp2_with fail
    go_meet;exact ⟨rfl,rfl⟩
  case rest =>
  obtain ⟨rfl,rfl⟩:=hcut;clear HBd
  cases bare with
  | true =>
   clear HNC HPut;obtain ⟨j0,x0,j1,x1,j2,x2,j3,x3,j4,x4⟩:=KW4.out.bg;dsimp only at j0 j1 j2 j3 j4;have o0:=KW4.out.c0;have o1:=KW4.out.c1;have v0:=KW4.out.f0;have v1:=KW4.out.f1;have G4:Hid _:=KW4.out.gr;by_cases c5:src'.size=16
   ·have d5:((src'.size:Int)==16)=true:=by simp; omega
    replace HA:Hid (dtCO ⟨#[]⟩ 5=ans):=by have h:=HA.out; rw [if_pos rfl,if_pos c5] at h; exact h
    go_wp2_with fail
    refine bodyPost_ret (v:=dtCO ⟨#[]⟩ 5) (by simp [results,Tryz.results55,go_sem,dtCO,o0,o1]) rfl ⟨by rw [HA.out],?_⟩;exact (G4.out.setCell (Nat.le_add_right _ 2) _).setCell (Nat.le_add_right _ 2) _
   ·have d5:((src'.size:Int)==16)=false:=by simp; omega
    replace HA:Hid (dtCO out 0=ans):=by have h:=HA.out; rw [if_pos rfl,if_neg c5] at h; exact h
    go_wp2_with fail
    refine bodyPost_ret (v:=dtCO out 0) (by simp [results,Tryz.results55,go_sem,dtCO,o0,o1]) rfl ⟨by rw [HA.out],?_⟩;exact (G4.out.setCell (Nat.le_add_right _ 2) _).setCell (Nat.le_add_right _ 2) _
  | false =>
   replace HA:Hid (dtCO (putV out ck (twoV (newCheck ⟨proto,src,dst,sp,dp⟩ ⟨proto',src',dst',sp',dp'⟩ t))) 0=ans):=HA.out;have HPf:Hid (∀ W,Cb 94 #[.agg (FlR proto src dst sp dp).toArray,.string t] W (.string (partV ⟨proto,src,dst,sp,dp⟩ t))):=fun W=>spPart_any ⟨proto,src,dst,sp,dp⟩ t W fs.1 fs.2 fp (by omega) h8
   have HPg:Hid (∀ W,Cb 94 #[.agg (FlR proto' src' dst' sp' dp').toArray,.string out] W (.string (partV ⟨proto',src',dst',sp',dp'⟩ out))):=fun W=>spPart_any ⟨proto',src',dst',sp',dp'⟩ out W gs.1 gs.2 gp (by omega) (by omega)
   have HSf:Hid (∀ W,Cb 93 #[.string (partV ⟨proto,src,dst,sp,dp⟩ t)] W (iV (sumV (partV ⟨proto,src,dst,sp,dp⟩ t)))):=fun W=>(specSum1_any _ W (by have:=partV_size ⟨proto,src,dst,sp,dp⟩ t fs.1 fs.2; omega)).mono (fun e w' h=>⟨h.1,h.2 ▸ Below.refl _ _⟩)
   have HSg:Hid (∀ W,Cb 93 #[.string (partV ⟨proto',src',dst',sp',dp'⟩ out)] W (iV (sumV (partV ⟨proto',src',dst',sp',dp'⟩ out)))):=fun W=>(specSum1_any _ W (by have:=partV_size ⟨proto',src',dst',sp',dp'⟩ out gs.1 gs.2; omega)).mono (fun e w' h=>⟨h.1,h.2 ▸ Below.refl _ _⟩)
   have r1:=sumV_range (partV ⟨proto,src,dst,sp,dp⟩ t);have r2:=sumV_range (partV ⟨proto',src',dst',sp',dp'⟩ out);generalize sumV (partV ⟨proto,src,dst,sp,dp⟩ t)=s1 at *;generalize sumV (partV ⟨proto',src',dst',sp',dp'⟩ out)=s2 at *;generalize partV ⟨proto,src,dst,sp,dp⟩ t=pf at *;generalize partV ⟨proto',src',dst',sp',dp'⟩ out=pg at *;generalize newCheck ⟨proto,src,dst,sp,dp⟩ ⟨proto',src',dst',sp',dp'⟩ t=nc at *;have ra:=add1_range (a:=65535-cw) (b:=65535-s1) (by omega) (by omega) (by omega) (by omega);have HAd1:Hid (∀ W,Cb 92 #[iV (65535-cw),iV (65535-s1)] W (iV (add1 (65535-cw) (65535-s1)))):=fun W=>(specAdd_any _ _ W (by omega) (by omega) (by omega) (by omega)).mono (fun e w' h=>⟨h.1,h.2 ▸ Below.refl _ _⟩)
   generalize add1 (65535-cw) (65535-s1)=a1 at *;have rb:=add1_range (a:=a1) (b:=s2) (by omega) (by omega) (by omega) (by omega);have HAd2:Hid (∀ W,Cb 92 #[iV a1,iV s2] W (iV (add1 a1 s2))):=fun W=>(specAdd_any _ _ W (by omega) (by omega) (by omega) (by omega)).mono (fun e w' h=>⟨h.1,h.2 ▸ Below.refl _ _⟩)
   generalize add1 a1 s2=a2 at *;clear k0 y0 k1 y1 k2 y2 k3 y3 k4 y4;go_upto_region 20 with fail
   go_cut [11] (fun v wx=>v=iV (65535-a2)∧SetW w ⟨proto,src,dst,sp,dp⟩ ⟨proto',src',dst',sp',dp'⟩ wx)
   case first =>
    rename_i J K2 hJ hK2;refine wp_region_growL (Rs:=[IsV (iV cw),IsV (iV (65535-cw)),IsV (.agg (FlR proto src dst sp dp).toArray),IsV (.string t),IsV (.string pf),IsV (iV s1),IsV (iV (65535-s1)),IsV (iV a1),IsV (.agg (FlR proto' src' dst' sp' dp').toArray),IsV (.string out),IsV (.string pg),IsV (iV s2),IsV (iV a2),IsV (iV (65535-a2)),IsV (iV (65535-a2))]) [74,75,76,77,78,79,80,81,82,83,84,85,86,87,11] (by kernel_rfl) (by kernel_rfl) rfl ?st ?steps ?done
    case st=>simp [stable_isV,stable_isRow]
    case steps =>
     refine ⟨?s0,?s1,?s2,?s3,?s4,?s5,?s6,?s7,?s8,?s9,?s10,?s11,?s12,?s13,?s14,trivial⟩
     case s0 =>
      intro K' a wy ho hd hb hK;have h3:=ho 10 (by decide);simp [slot] at h3;clear hd;go_simp;try go_bits
      exact hK _ _ rfl (Below.refl _ _)
     case s1 =>
      intro K' a wy ho hd hb hK;simp [Region.binds,rAt,IsV,slot] at hd;go_simp;try go_bits
      exact hK _ _ rfl (Below.refl _ _)
     case s2 =>
      intro K' a wy ho hd hb hK;have h3:=ho 3 (by decide);simp [slot] at h3;clear hd;obtain ⟨k0,y0,k1,y1,k2,y2,k3,y3,k4,y4⟩:=(KW4.out.kept (Below.trans (Below.refl _ _).drew hb)).bf;go_simp;try go_bits
      exact hK _ _ rfl (Below.refl _ _)
     case s3 =>
      intro K' a wy ho hd hb hK;have h3:=ho 2 (by decide);simp [slot] at h3;clear hd;go_simp;try go_bits
      exact hK _ _ rfl (Below.refl _ _)
     case s4 =>
      intro K' a wy ho hd hb hK;simp [Region.binds,rAt,IsV,slot] at hd;go_simp;refine (HPf.out wy).mono ?_;rintro e wz ⟨rfl,hz⟩;exact hK _ _ rfl hz
     case s5 =>
      intro K' a wy ho hd hb hK;simp [Region.binds,rAt,IsV,slot] at hd;go_simp;refine (HSf.out wy).mono ?_;rintro e wz ⟨rfl,hz⟩;exact hK _ _ rfl hz
     case s6 =>
      intro K' a wy ho hd hb hK;simp [Region.binds,rAt,IsV,slot] at hd;go_simp;try go_bits
      exact hK _ _ rfl (Below.refl _ _)
     case s7 =>
      intro K' a wy ho hd hb hK;simp [Region.binds,rAt,IsV,slot] at hd;go_simp;refine (HAd1.out wy).mono ?_;rintro e wz ⟨rfl,hz⟩;exact hK _ _ rfl hz
     case s8 =>
      intro K' a wy ho hd hb hK;have h3:=ho 4 (by decide);simp [slot] at h3;clear hd;obtain ⟨k0,y0,k1,y1,k2,y2,k3,y3,k4,y4⟩:=(KW4.out.kept (Below.trans (Below.refl _ _).drew hb)).bg;go_simp;try go_bits
      exact hK _ _ rfl (Below.refl _ _)
     case s9 =>
      intro K' a wy ho hd hb hK;have h3:=ho 7 (by decide);simp [slot] at h3;clear hd;go_simp;try go_bits
      exact hK _ _ rfl (Below.refl _ _)
     case s10 =>
      intro K' a wy ho hd hb hK;simp [Region.binds,rAt,IsV,slot] at hd;go_simp;refine (HPg.out wy).mono ?_;rintro e wz ⟨rfl,hz⟩;exact hK _ _ rfl hz
     case s11 =>
      intro K' a wy ho hd hb hK;simp [Region.binds,rAt,IsV,slot] at hd;go_simp;refine (HSg.out wy).mono ?_;rintro e wz ⟨rfl,hz⟩;exact hK _ _ rfl hz
     case s12 =>
      intro K' a wy ho hd hb hK;simp [Region.binds,rAt,IsV,slot] at hd;go_simp;refine (HAd2.out wy).mono ?_;rintro e wz ⟨rfl,hz⟩;exact hK _ _ rfl hz
     case s13 =>
      intro K' a wy ho hd hb hK;simp [Region.binds,rAt,IsV,slot] at hd;go_simp;try go_bits
      exact hK _ _ rfl (Below.refl _ _)
     case s14 =>
      intro K' a wy ho hd hb hK;simp [Region.binds,rAt,IsV,slot] at hd;go_simp;try go_bits
      exact hK _ _ rfl (Below.refl _ _)
    case done =>
     intro X wz hR hz;obtain ⟨x0,x1,x2,x3,x4,x5,x6,x7,x8,x9,x10,x11,x12,x13,x14,-⟩:=hR;simp only [IsV] at x0 x1 x2 x3 x4 x5 x6 x7 x8 x9 x10 x11 x12 x13 x14;simp only [putsFrom,x0,x1,x2,x3,x4,x5,x6,x7,x8,x9,x10,x11,x12,x13,x14];clear x0 x1 x2 x3 x4 x5 x6 x7 x8 x9 x10 x11 x12 x13 x14;go_simp;refine hK2 _ _ (hJ _ _ ?_);(repeat apply Exists.intro)
     refine ⟨⟨rfl,KW4.out.kept ((Below.refl _ _).drew.trans hz)⟩,rfl⟩
   case rest =>
   obtain ⟨rfl,hKW⟩:=hcut;have KW5:Hid _:=hKW;clear hKW KW4 HPf HPg HSf HSg HAd1 HAd2;have o0:=KW5.out.c0;have o1:=KW5.out.c1;have v0:=KW5.out.f0;have v1:=KW5.out.f1;have HTn:Hid (∀ W,Cb 90 #[iV nc] W (.string (twoV nc))):=fun W=>specTwo_any _ W (by rw [HNC.out]; split<;>omega) (by rw [HNC.out]; split<;>omega)
   have HPn:Hid _:=HPut.out nc;clear HPut;by_cases c6:65535-a2=0
   ·have d6:(65535-a2==0)=true:=by simp; omega
    have hnc:nc=65535:=by rw [HNC.out,if_pos c6]
    clear HNC;subst hnc;go_wp2_with fail
    refine (HTn.out _).mono ?_;rintro e w6 ⟨rfl,q6⟩;have KW6:Hid _:=KW5.out.kept q6;clear q6;go_wp2_with fail
    refine (HPn.out _).mono ?_;rintro e w7 ⟨rfl,q7⟩;have KW7:Hid _:=KW6.out.kept q7;clear q7 KW6 KW5 o0 o1 v0 v1;have o0:=KW7.out.c0;have o1:=KW7.out.c1;have v0:=KW7.out.f0;have v1:=KW7.out.f1;go_wp2_with fail
    refine bodyPost_ret (v:=dtCO (putV out ck (twoV 65535)) 0) (by simp [results,Tryz.results55,go_sem,dtCO,o0,o1]) rfl ⟨by rw [← HA.out],?_⟩;exact (KW7.out.gr.setCell (Nat.le_add_right _ 2) _).setCell (Nat.le_add_right _ 2) _
   ·have d6:(65535-a2==0)=false:=by simp; omega
    have hnc:nc=65535-a2:=by rw [HNC.out,if_neg c6]
    clear HNC;subst hnc;go_wp2_with fail
    refine (HTn.out _).mono ?_;rintro e w6 ⟨rfl,q6⟩;have KW6:Hid _:=KW5.out.kept q6;clear q6;go_wp2_with fail
    refine (HPn.out _).mono ?_;rintro e w7 ⟨rfl,q7⟩;have KW7:Hid _:=KW6.out.kept q7;clear q7 KW6 KW5 o0 o1 v0 v1;have o0:=KW7.out.c0;have o1:=KW7.out.c1;have v0:=KW7.out.f0;have v1:=KW7.out.f1;go_wp2_with fail
    refine bodyPost_ret (v:=dtCO (putV out ck (twoV (65535-a2))) 0) (by simp [results,Tryz.results55,go_sem,dtCO,o0,o1]) rfl ⟨by rw [← HA.out],?_⟩;exact (KW7.out.gr.setCell (Nat.le_add_right _ 2) _).setCell (Nat.le_add_right _ 2) _
end Go.Proofs.YtcckaeppiamebaaGreatDoor
namespace Go.Proofs.YtcckaeppiamebaaGreatDoor
open Go.RowKit
def sameFlow (q p:Fl):Bool:=(q.proto==p.proto)&&((q.src.toList==p.src.toList)&&((q.dst.toList==p.dst.toList)&&((q.sp==p.sp)&&((q.dp==p.dp)))))
theorem eqFlow_run (D:Nat) (q p:Fl) (W:World):(Op.equalIn (D+2) 91 (.agg (FlV q).toArray) (.agg (FlV p).toArray)).run Tryz.prog W=.ok (sameFlow q p) W:=by
 have h1:Tryz.prog.underlying 91=some (.struct (Tryz.prog.fieldsOf 91)):=by kernel_rfl
 have h2:Tryz.prog.stoodInHeld 91=false:=by kernel_rfl
 rw [run_equalIn_agg _ _ _ _ _ h1 h2];have h3:(Tryz.prog.fieldsOf 91).toList.length=5:=by kernel_rfl
 have h4 : ((Tryz.prog.fieldsOf 91).toList.map fun f => (f.type, f.offset, f.name == "_")) = [(2, 0, false), (9, 1, false), (9, 2, false), (2, 3, false), (2, 4, false)] := by kernel_rfl
 generalize (Tryz.prog.fieldsOf 91).toList=fs at *;match fs,h3 with
 | [f0,f1,f2,f3,f4],_ =>
  simp only [List.map_cons,List.map_nil,List.cons.injEq,Prod.mk.injEq,and_true] at h4;obtain ⟨⟨a0,b0,c0⟩,⟨a1,b1,c1⟩,⟨a2,b2,c2⟩,⟨a3,b3,c3⟩,⟨a4,b4,c4⟩⟩:=h4
  have d0 : (f0.name ≠ "_") = True := by simpa using c0
  have q0:∀ W,(part 2 (FlV q).toArray 0).run Tryz.prog W=.ok (iV q.proto) W:=fun W=>by kernel_rfl
  have p0:∀ W,(part 2 (FlV p).toArray 0).run Tryz.prog W=.ok (iV p.proto) W:=fun W=>by kernel_rfl
  have d1 : (f1.name ≠ "_") = True := by simpa using c1
  have q1:∀ W,(part 9 (FlV q).toArray 1).run Tryz.prog W=.ok (.string q.src) W:=fun W=>by kernel_rfl
  have p1:∀ W,(part 9 (FlV p).toArray 1).run Tryz.prog W=.ok (.string p.src) W:=fun W=>by kernel_rfl
  have d2 : (f2.name ≠ "_") = True := by simpa using c2
  have q2:∀ W,(part 9 (FlV q).toArray 2).run Tryz.prog W=.ok (.string q.dst) W:=fun W=>by kernel_rfl
  have p2:∀ W,(part 9 (FlV p).toArray 2).run Tryz.prog W=.ok (.string p.dst) W:=fun W=>by kernel_rfl
  have d3 : (f3.name ≠ "_") = True := by simpa using c3
  have q3:∀ W,(part 2 (FlV q).toArray 3).run Tryz.prog W=.ok (iV q.sp) W:=fun W=>by kernel_rfl
  have p3:∀ W,(part 2 (FlV p).toArray 3).run Tryz.prog W=.ok (iV p.sp) W:=fun W=>by kernel_rfl
  have d4 : (f4.name ≠ "_") = True := by simpa using c4
  have q4:∀ W,(part 2 (FlV q).toArray 4).run Tryz.prog W=.ok (iV q.dp) W:=fun W=>by kernel_rfl
  have p4:∀ W,(part 2 (FlV p).toArray 4).run Tryz.prog W=.ok (iV p.dp) W:=fun W=>by kernel_rfl
  unfold sameFlow;simp only [Op.eqFields,a0,b0,d0,q0,p0,a1,b1,d1,q1,p1,a2,b2,d2,q2,p2,a3,b3,d3,q3,p3,a4,b4,d4,q4,p4,if_true,Sem.run_bind,Sem.run_ite,Sem.run_pure,Result.andThen_ok,run_equalIn_string _ _ _ _ _ Tryz.underlying9,run_equalIn_int _ _ _ _ _ _ _ Tryz.underlying2,run_equalIn_bool' _ _ _ _ _ Tryz.underlying4];generalize (q.proto==p.proto)=g0;generalize (q.src.toList==p.src.toList)=g1;generalize (q.dst.toList==p.dst.toList)=g2;generalize (q.sp==p.sp)=g3;generalize (q.dp==p.dp)=g4
  cases g0
  ·simp
  simp only [Bool.not_true,Bool.false_eq_true,if_false,Bool.true_and]
  cases g1
  ·simp
  simp only [Bool.not_true,Bool.false_eq_true,if_false,Bool.true_and]
  cases g2
  ·simp
  simp only [Bool.not_true,Bool.false_eq_true,if_false,Bool.true_and]
  cases g3
  ·simp
  simp only [Bool.not_true,Bool.false_eq_true,if_false,Bool.true_and]
  cases g4<;>simp
open Go.PlainAid
theorem ofFl_keeps (s d:ByteArray) (p:Int) (t:ByteArray):(ofFl s d p t).proto=p∧(ofFl s d p t).src=s∧(ofFl s d p t).dst=d:=by
 unfold ofFl;split
 ·split<;>exact ⟨rfl,rfl,rfl⟩
 ·exact ⟨rfl,rfl,rfl⟩
theorem sameFlow_of (f:Fl) (t:ByteArray):sameFlow (ofFl f.src f.dst f.proto t) f=(decide ((ofFl f.src f.dst f.proto t).sp=f.sp)&&decide ((ofFl f.src f.dst f.proto t).dp=f.dp)):=by
 obtain ⟨h1,h2,h3⟩:=ofFl_keeps f.src f.dst f.proto t;unfold sameFlow;rw [h1,h2,h3];simp;rfl
theorem ofCode_size {n:Nat} {p:Int} {t:ByteArray} (h:ofCode n p t=0):8≤t.size∧(p=6→20≤t.size):=by
 unfold ofCode at h;split at h
 ·omega
 split at h
 ·omega
 rename_i h1 h2;have h3:shortP p t=false:=by simpa using h2
 unfold shortP at h3;rw [Bool.or_eq_false_iff,decide_eq_false_iff_not] at h3;refine ⟨by omega,fun hp=>?_⟩;have h4:=h3.1;rw [decide_eq_true hp,Bool.true_and,Bool.or_eq_false_iff,Bool.or_eq_false_iff,decide_eq_false_iff_not] at h4;omega
theorem flowOk_parts {f:Fl} (h:flowOk f=true):(f.src.size≤16∧f.dst.size≤16)∧(0≤f.proto∧f.proto≤255)∧((0≤f.sp∧f.sp≤65535)∧(0≤f.dp∧f.dp≤65535)):=by
 unfold flowOk at h;simp only [Bool.and_eq_true] at h;obtain ⟨⟨⟨⟨h1,h2⟩,h3⟩,h4⟩,h5⟩:=h;obtain ⟨a,b⟩:=pairOk_parts h1;refine ⟨by omega,?_,by simpa [isW] using h3,by simpa [isW] using h4⟩;unfold protoOk at h2;simp only [Bool.or_eq_true,Bool.and_eq_true,decide_eq_true_iff] at h2;omega
theorem shortP_six (t:ByteArray):shortP 6 t=(decide (t.size < 20)||(decide (bt t 12 / 16 < 5)||decide ((t.size:Int) < 4*(bt t 12 / 16)))):=by
 unfold shortP;rw [Bool.eq_iff_iff];simp only [decide_true,Bool.true_and,Bool.or_eq_true,decide_eq_true_eq];constructor
 ·rintro (((h | h) | h) | h)
  ·exact .inl h
  ·exact .inr (.inl h)
  ·exact .inr (.inr h)
  ·exact .inl (by omega)
 ·rintro (h | h | h)
  ·exact .inl (.inl (.inl h))
  ·exact .inl (.inl (.inr h))
  ·exact .inl (.inr h)
theorem shortP_not (p:Int) (t:ByteArray) (h:p≠6):shortP p t=decide (t.size < 8):=by
 unfold shortP;rw [decide_eq_false h]; rfl
theorem ipHeader_any (p:Int) (t:ByteArray) (w:World) (ht:t.size≤1048576) :
  Cw 100 #[iV p,.string t] w (.bool (!shortP p t)):=by
 by_cases h6:p=6
 ·subst h6;rw [shortP_six];by_cases h1:t.size < 20
  ·rw [decide_eq_true h1];go_enter Tryz.func100,Tryz.ntmps100
   go_wp2_with fail
   go_ret;exact ⟨rfl,rfl⟩
  ·rw [decide_eq_false h1];have hb:=get_bt t;have b12:=bt_isByte t 12;by_cases h2:bt t 12 / 16 < 5
   ·rw [decide_eq_true h2];have d2:decide ((20:Int)≤4*(bt t 12 / 16))=false:=by simp; omega
    go_enter Tryz.func100,Tryz.ntmps100
    go_wp2_with fail
    go_ret;exact ⟨rfl,rfl⟩
   ·rw [decide_eq_false h2];have d2:decide ((20:Int)≤4*(bt t 12 / 16))=true:=by simp; omega
    have HQ:Hid ((!decide ((t.size:Int) < 4*(bt t 12 / 16)))=decide (4*(bt t 12 / 16)≤(t.size:Int))):=by
     unfold Hid; rw [Bool.eq_iff_iff]; simp
    go_enter Tryz.func100,Tryz.ntmps100
    go_wp2_with fail
    go_ret;exact ⟨ret_bool HQ.out.symm,rfl⟩
 ·rw [shortP_not p t h6];have d6:(p != 6)=true:=by simp [h6]
  have HQ:Hid ((!decide (t.size < 8))=decide ((8:Int)≤(t.size:Int))):=by
   unfold Hid; rw [Bool.eq_iff_iff]; simp; omega
  clear h6;go_enter Tryz.func100,Tryz.ntmps100
  go_wp2_with fail
  go_ret;exact ⟨ret_bool HQ.out.symm,rfl⟩
theorem ipEchoBytes_any (p:Int) (w:World) (hp:echoP p=true) :
  Cw 133 #[iV p] w (.tuple #[.int .u8 (askP p),.int .u8 (ansP p)]):=by
 have h:p=1∨p=58:=by unfold echoP at hp; simpa using hp
 clear hp;rcases h with rfl | rfl
 ·rw [show askP 1=8 from rfl,show ansP 1=0 from rfl];go_enter Tryz.func133,Tryz.ntmps133
  go_wp2_with fail
  go_ret2
  exact ⟨rfl,rfl⟩
 ·rw [show askP 58=128 from rfl,show ansP 58=129 from rfl];go_enter Tryz.func133,Tryz.ntmps133
  go_wp2_with fail
  go_ret2
  exact ⟨rfl,rfl⟩
def beginsV (p:Int) (t:ByteArray):Bool:=(decide (bt t 0=askP p)||decide (bt t 0=ansP p))&&decide (bt t 1=0)
theorem ipBegins_any (p:Int) (t:ByteArray) (w:World) (hp:echoP p=true) (h8:8≤t.size) (ht:t.size≤1048576) :
  Cw 102 #[iV p,.string t] w (.bool (beginsV p t)):=by
 have HE:Hid (∀ W,Cw 133 #[iV p] W (.tuple #[.int .u8 (askP p),.int .u8 (ansP p)])):=fun W=>ipEchoBytes_any p W hp
 have hb:=get_bt t;have b0:=bt_isByte t 0;have b1:=bt_isByte t 1;have q0:(bt t 0==askP p)=decide (bt t 0=askP p):=rfl;have q1:(bt t 0==ansP p)=decide (bt t 0=ansP p):=rfl;have q2:(bt t 1==0)=decide (bt t 1=0):=rfl;unfold beginsV;generalize decide (bt t 0=askP p)=c0 at *;generalize decide (bt t 0=ansP p)=c1 at *;generalize decide (bt t 1=0)=c2 at *;generalize askP p=a at *;generalize ansP p=b at *;have hun:undef=Value.tuple #[]:=rfl
 cases c0
 ·cases c1
  ·go_enter Tryz.func102,Tryz.ntmps102
   go_wp2_with fail
   refine (HE.out _).mono ?_;rintro e w2 ⟨rfl,rfl⟩;go_wp2_with fail
   go_ret;exact ⟨rfl,rfl⟩
  ·go_enter Tryz.func102,Tryz.ntmps102
   go_wp2_with fail
   refine (HE.out _).mono ?_;rintro e w2 ⟨rfl,rfl⟩;go_wp2_with fail
   go_ret;exact ⟨rfl,rfl⟩
 ·go_enter Tryz.func102,Tryz.ntmps102
  go_wp2_with fail
  refine (HE.out _).mono ?_;rintro e w2 ⟨rfl,rfl⟩;go_wp2_with fail
  go_ret;exact ⟨rfl,rfl⟩
theorem ipPorts_any (p:Int) (t:ByteArray) (w:World) (h8:8≤t.size) (ht:t.size≤1048576) :
  Cw 103 #[iV p,.string t] w (.tuple #[iV (if echoP p=true then wordN (bt t) 4 else wordN (bt t) 0),iV (if echoP p=true then wordN (bt t) 4 else wordN (bt t) 2)]):=by
 have HB:Hid (∀ W,Cw 101 #[iV p] W (.bool (echoP p))):=fun W=>implEcho_any _ W
 have HW:Hid (∀ k:Nat,k < 8→∀ W,Cw 134 #[.string t,iV k] W (iV (wordN (bt t) k))):=fun k hk W=>wordFromS_any t k W (by omega) (by unfold maxLen; omega)
 cases h:echoP p with
 | true =>
  rw [h] at HB;rw [if_pos rfl,if_pos rfl];go_enter Tryz.func103,Tryz.ntmps103
  go_wp2_with fail
  refine (HB.out _).mono ?_;rintro e w2 ⟨rfl,rfl⟩;go_wp2_with fail
  refine (HW.out 4 (by omega) _).mono ?_;rintro e w2 ⟨rfl,rfl⟩;go_wp2_with fail
  go_ret2
  exact ⟨rfl,rfl⟩
 | false =>
  rw [h] at HB;rw [if_neg (by decide),if_neg (by decide)];go_enter Tryz.func103,Tryz.ntmps103
  go_wp2_with fail
  refine (HB.out _).mono ?_;rintro e w2 ⟨rfl,rfl⟩;go_wp2_with fail
  refine (HW.out 0 (by omega) _).mono ?_;rintro e w2 ⟨rfl,rfl⟩;go_wp2_with fail
  refine (HW.out 2 (by omega) _).mono ?_;rintro e w2 ⟨rfl,rfl⟩;go_wp2_with fail
  go_ret2
  exact ⟨rfl,rfl⟩
theorem bytesOf_self (s:ByteArray):bytesOf s.size (bt s)=s:=by
 refine ba_ext (bytesOf_size _ _) fun i hi=>?_
 rw [bytesOf_size] at hi;exact bytesOf_bt hi (bt_nonneg s i) (bt_le s i)
theorem implFlowOf_any (s d:ByteArray) (p:Int) (t:ByteArray) (w:World) (hs:s.size≤1048576) (hd:d.size≤1048576) (ht:t.size≤1048576) :
  Cb 60 #[.string s,.string d,iV p,.string t] w (fwCO (flowOfV s d p t) (flowCode s d p t)):=by
 have HN:Hid (∀ c:Int,flowCode s d p t=c→c≠0→fwCO (flowOfV s d p t) (flowCode s d p t)=.agg #[iV 0,.string ⟨#[]⟩,.string ⟨#[]⟩,iV 0,iV 0,iV c]):=fun c h hc=>by unfold flowOfV; rw [h,if_neg hc]; rfl
 have HY:Hid (flowCode s d p t=0→ofCode s.size p t=0→fwCO (flowOfV s d p t) (flowCode s d p t)=.agg #[iV p,.string s,.string d,iV (if echoP p=true then wordN (bt t) 4 else wordN (bt t) 0),iV (if echoP p=true then wordN (bt t) 4 else wordN (bt t) 2),iV 0]):=fun h h2=>by
  unfold flowOfV; rw [h,if_pos rfl]; unfold ofFl; rw [if_pos h2]; split<;>rfl
 have HD:Hid (flowCode s d p t=if 20000 < t.size∨20000 < s.size∨20000 < d.size then 2 else if pairOk s d=false then 1 else ofCode s.size p t):=rfl;have HA1:Hid (∀ W,Cw 97 #[.string s] W (.bool (decide (20000 < s.size)))):=fun W=>implLong_any s W
 have HA2:Hid (∀ W,Cw 97 #[.string d] W (.bool (decide (20000 < d.size)))):=fun W=>implLong_any d W
 have HA3:Hid (∀ W,Cw 97 #[.string t] W (.bool (decide (20000 < t.size)))):=fun W=>implLong_any t W
 have HB:Hid (∀ W,Cw 98 #[.string s,.string d] W (.bool (pairOk s d))):=fun W=>implPair_any _ _ W (by unfold maxLen; omega) (by unfold maxLen; omega)
 have HC:Hid (∀ W,Cw 99 #[iV p,.string s] W (.bool (protoOk p s.size))):=fun W=>implCarried_any _ _ W (by unfold maxLen; omega)
 have HE:Hid (∀ W,Cw 100 #[iV p,.string t] W (.bool (!shortP p t))):=fun W=>ipHeader_any _ _ W ht
 have HF:Hid (∀ W,Cw 101 #[iV p] W (.bool (echoP p))):=fun W=>implEcho_any _ W
 generalize fwCO (flowOfV s d p t) (flowCode s d p t)=ans at *;generalize flowCode s d p t=code at *;by_cases ls:20000 < s.size
 ·have HV:Hid (ans=.agg #[iV 0,.string ⟨#[]⟩,.string ⟨#[]⟩,iV 0,iV 0,iV 2]):=HN.out 2 (by rw [HD.out,if_pos (Or.inr (Or.inl ls))]) (by decide);rw [decide_eq_true ls] at HA1;clear HN HY HD;go_enter Tryz.func60,Tryz.ntmps60
  go_wp2_with fail
  refine (HA1.out _).mono ?_;rintro e w2 ⟨rfl,rfl⟩;go_wp2_with fail
  refine bodyPost_ret (v:=.agg #[iV 0,.string ⟨#[]⟩,.string ⟨#[]⟩,iV 0,iV 0,iV 2]) (by simp [results,Tryz.results60,go_sem]) rfl ⟨by rw [HV.out],?_⟩;exact (Below.refl _ _).alloc (Nat.le_refl _) _
 rw [decide_eq_false ls] at HA1;by_cases ld:20000 < d.size
 ·have HV:Hid (ans=.agg #[iV 0,.string ⟨#[]⟩,.string ⟨#[]⟩,iV 0,iV 0,iV 2]):=HN.out 2 (by rw [HD.out,if_pos (Or.inr (Or.inr ld))]) (by decide);rw [decide_eq_true ld] at HA2;clear HN HY HD;go_enter Tryz.func60,Tryz.ntmps60
  go_wp2_with fail
  refine (HA1.out _).mono ?_;rintro e w2 ⟨rfl,rfl⟩;go_wp2_with fail
  refine (HA2.out _).mono ?_;rintro e w2 ⟨rfl,rfl⟩;go_wp2_with fail
  refine bodyPost_ret (v:=.agg #[iV 0,.string ⟨#[]⟩,.string ⟨#[]⟩,iV 0,iV 0,iV 2]) (by simp [results,Tryz.results60,go_sem]) rfl ⟨by rw [HV.out],?_⟩;exact (Below.refl _ _).alloc (Nat.le_refl _) _
 rw [decide_eq_false ld] at HA2;by_cases lt:20000 < t.size
 ·have HV:Hid (ans=.agg #[iV 0,.string ⟨#[]⟩,.string ⟨#[]⟩,iV 0,iV 0,iV 2]):=HN.out 2 (by rw [HD.out,if_pos (Or.inl lt)]) (by decide);rw [decide_eq_true lt] at HA3;clear HN HY HD;go_enter Tryz.func60,Tryz.ntmps60
  go_wp2_with fail
  refine (HA1.out _).mono ?_;rintro e w2 ⟨rfl,rfl⟩;go_wp2_with fail
  refine (HA2.out _).mono ?_;rintro e w2 ⟨rfl,rfl⟩;go_wp2_with fail
  refine (HA3.out _).mono ?_;rintro e w2 ⟨rfl,rfl⟩;go_wp2_with fail
  refine bodyPost_ret (v:=.agg #[iV 0,.string ⟨#[]⟩,.string ⟨#[]⟩,iV 0,iV 0,iV 2]) (by simp [results,Tryz.results60,go_sem]) rfl ⟨by rw [HV.out],?_⟩;exact (Below.refl _ _).alloc (Nat.le_refl _) _
 rw [decide_eq_false lt] at HA3;replace HD:Hid (code=if pairOk s d=false then 1 else ofCode s.size p t):=by unfold Hid; rw [HD.out,if_neg (by omega)]
 cases a1:pairOk s d with
 | false =>
  have HV:Hid (ans=.agg #[iV 0,.string ⟨#[]⟩,.string ⟨#[]⟩,iV 0,iV 0,iV 1]):=HN.out 1 (by rw [HD.out,if_pos a1]) (by decide);rw [a1] at HB;clear HN HY HD a1;go_enter Tryz.func60,Tryz.ntmps60
  go_wp2_with fail
  refine (HA1.out _).mono ?_;rintro e w2 ⟨rfl,rfl⟩;go_wp2_with fail
  refine (HA2.out _).mono ?_;rintro e w2 ⟨rfl,rfl⟩;go_wp2_with fail
  refine (HA3.out _).mono ?_;rintro e w2 ⟨rfl,rfl⟩;go_wp2_with fail
  refine (HB.out _).mono ?_;rintro e w2 ⟨rfl,rfl⟩;go_wp2_with fail
  refine bodyPost_ret (v:=.agg #[iV 0,.string ⟨#[]⟩,.string ⟨#[]⟩,iV 0,iV 0,iV 1]) (by simp [results,Tryz.results60,go_sem]) rfl ⟨by rw [HV.out],?_⟩;exact (Below.refl _ _).alloc (Nat.le_refl _) _
 | true =>
 replace HD:Hid (code=ofCode s.size p t):=by unfold Hid; rw [HD.out,if_neg (by rw [a1]; decide)]
 rw [a1] at HB;clear a1
 cases a2:protoOk p s.size with
 | false =>
  have HD2:Hid (ofCode s.size p t=11):=by unfold Hid ofCode; rw [if_pos a2]
  have HV:Hid (ans=.agg #[iV 0,.string ⟨#[]⟩,.string ⟨#[]⟩,iV 0,iV 0,iV 11]):=HN.out 11 (by rw [HD.out,HD2.out]) (by decide);rw [a2] at HC;clear HN HY HD HD2 a2;go_enter Tryz.func60,Tryz.ntmps60
  go_wp2_with fail
  refine (HA1.out _).mono ?_;rintro e w2 ⟨rfl,rfl⟩;go_wp2_with fail
  refine (HA2.out _).mono ?_;rintro e w2 ⟨rfl,rfl⟩;go_wp2_with fail
  refine (HA3.out _).mono ?_;rintro e w2 ⟨rfl,rfl⟩;go_wp2_with fail
  refine (HB.out _).mono ?_;rintro e w2 ⟨rfl,rfl⟩;go_wp2_with fail
  refine (HC.out _).mono ?_;rintro e w2 ⟨rfl,rfl⟩;go_wp2_with fail
  refine bodyPost_ret (v:=.agg #[iV 0,.string ⟨#[]⟩,.string ⟨#[]⟩,iV 0,iV 0,iV 11]) (by simp [results,Tryz.results60,go_sem]) rfl ⟨by rw [HV.out],?_⟩;exact (Below.refl _ _).alloc (Nat.le_refl _) _
 | true =>
 have HO:Hid (ofCode s.size p t=if shortP p t=true then 4 else if echoP p=true then (if (bt t 0≠askP p∧bt t 0≠ansP p)∨bt t 1≠0 then 11 else 0) else 0):=by unfold Hid ofCode; rw [if_neg (by rw [a2]; decide)]
 rw [a2] at HC;clear a2
 cases a3:shortP p t with
 | true =>
  have HD2:Hid (ofCode s.size p t=4):=by unfold Hid; rw [HO.out,if_pos a3]
  have HV:Hid (ans=.agg #[iV 0,.string ⟨#[]⟩,.string ⟨#[]⟩,iV 0,iV 0,iV 4]):=HN.out 4 (by rw [HD.out,HD2.out]) (by decide);rw [a3] at HE;clear HN HY HD HD2 HO a3;go_enter Tryz.func60,Tryz.ntmps60
  go_wp2_with fail
  refine (HA1.out _).mono ?_;rintro e w2 ⟨rfl,rfl⟩;go_wp2_with fail
  refine (HA2.out _).mono ?_;rintro e w2 ⟨rfl,rfl⟩;go_wp2_with fail
  refine (HA3.out _).mono ?_;rintro e w2 ⟨rfl,rfl⟩;go_wp2_with fail
  refine (HB.out _).mono ?_;rintro e w2 ⟨rfl,rfl⟩;go_wp2_with fail
  refine (HC.out _).mono ?_;rintro e w2 ⟨rfl,rfl⟩;go_wp2_with fail
  refine (HE.out _).mono ?_;rintro e w2 ⟨rfl,rfl⟩;go_wp2_with fail
  refine bodyPost_ret (v:=.agg #[iV 0,.string ⟨#[]⟩,.string ⟨#[]⟩,iV 0,iV 0,iV 4]) (by simp [results,Tryz.results60,go_sem]) rfl ⟨by rw [HV.out],?_⟩;exact (Below.refl _ _).alloc (Nat.le_refl _) _
 | false =>
 replace HO:Hid (ofCode s.size p t=if echoP p=true then (if (bt t 0≠askP p∧bt t 0≠ansP p)∨bt t 1≠0 then 11 else 0) else 0):=by unfold Hid; rw [HO.out,if_neg (by rw [a3]; decide)]
 have h8:8≤t.size:=by
  unfold shortP at a3; rw [Bool.or_eq_false_iff,decide_eq_false_iff_not] at a3; omega
 rw [a3] at HE;clear a3;have HP:Hid (∀ W,Cw 103 #[iV p,.string t] W (.tuple #[iV (if echoP p=true then wordN (bt t) 4 else wordN (bt t) 0),iV (if echoP p=true then wordN (bt t) 4 else wordN (bt t) 2)])):=fun W=>ipPorts_any p t W h8 ht
 have HG:Hid (echoP p=true→∀ W,Cw 102 #[iV p,.string t] W (.bool (beginsV p t))):=fun h W=>ipBegins_any p t W h h8 ht
 by_cases hbad:echoP p=true∧beginsV p t=false
 ·obtain ⟨a4,a5⟩:=hbad;have HD2:Hid (ofCode s.size p t=11):=by
   unfold Hid; rw [HO.out,if_pos a4,if_pos];unfold beginsV at a5;rw [Bool.and_eq_false_iff,Bool.or_eq_false_iff] at a5;simpa using a5
  have HG2:Hid _:=HG.out a4;rw [a5] at HG2;have HV:Hid (ans=.agg #[iV 0,.string ⟨#[]⟩,.string ⟨#[]⟩,iV 0,iV 0,iV 11]):=HN.out 11 (by rw [HD.out,HD2.out]) (by decide);rw [a4] at HF;clear HN HY HD HD2 HO HG HP a4 a5;go_enter Tryz.func60,Tryz.ntmps60
  go_wp2_with fail
  refine (HA1.out _).mono ?_;rintro e w2 ⟨rfl,rfl⟩;go_wp2_with fail
  refine (HA2.out _).mono ?_;rintro e w2 ⟨rfl,rfl⟩;go_wp2_with fail
  refine (HA3.out _).mono ?_;rintro e w2 ⟨rfl,rfl⟩;go_wp2_with fail
  refine (HB.out _).mono ?_;rintro e w2 ⟨rfl,rfl⟩;go_wp2_with fail
  refine (HC.out _).mono ?_;rintro e w2 ⟨rfl,rfl⟩;go_wp2_with fail
  refine (HE.out _).mono ?_;rintro e w2 ⟨rfl,rfl⟩;go_wp2_with fail
  refine (HF.out _).mono ?_;rintro e w2 ⟨rfl,rfl⟩;go_wp2_with fail
  refine (HG2.out _).mono ?_;rintro e w2 ⟨rfl,rfl⟩;go_wp2_with fail
  refine bodyPost_ret (v:=.agg #[iV 0,.string ⟨#[]⟩,.string ⟨#[]⟩,iV 0,iV 0,iV 11]) (by simp [results,Tryz.results60,go_sem]) rfl ⟨by rw [HV.out],?_⟩;exact (Below.refl _ _).alloc (Nat.le_refl _) _
 have HD2:Hid (ofCode s.size p t=0):=by
  unfold Hid; rw [HO.out];by_cases a4:echoP p=true
  ·rw [if_pos a4,if_neg];have a5:beginsV p t=true:=by
    cases h:beginsV p t
    ·exact absurd ⟨a4,h⟩ hbad
    ·rfl
   unfold beginsV at a5;rw [Bool.and_eq_true,Bool.or_eq_true] at a5;simp only [decide_eq_true_eq] at a5;omega
  ·rw [if_neg a4]
 have HV:Hid _:=HY.out (HD.out.trans HD2.out) HD2.out;have HG2:Hid (echoP p=true→beginsV p t=true):=fun h=>by
  cases h2:beginsV p t
  ·exact absurd ⟨h,h2⟩ hbad
  ·rfl
 clear HN HY HD HD2 HO hbad;have GR:Hid (Below w.heap.size w (w.alloc (.cells #[iV 0,.string ⟨#[]⟩,.string ⟨#[]⟩,iV 0,iV 0,iV 0] 109))):=(Below.refl _ _).alloc (Nat.le_refl _) _;have KR:Hid (BoxO w.heap.size (w.alloc (.cells #[iV 0,.string ⟨#[]⟩,.string ⟨#[]⟩,iV 0,iV 0,iV 0] 109)) ⟨0,⟨#[]⟩,⟨#[]⟩,0,0⟩ 0):=BoxO.new w ⟨0,⟨#[]⟩,⟨#[]⟩,0,0⟩ 0;obtain ⟨cp1,W1,hcv1,hh1,hb1,_⟩:=bytes_new (w.alloc (.cells #[iV 0,.string ⟨#[]⟩,.string ⟨#[]⟩,iV 0,iV 0,iV 0] 109)) s;have hcw1:=hh1.conv (cap:=cp1) (bt_isByte s)
 rw [bytesOf_self] at hcw1;rw [show (w.alloc (.cells #[iV 0,.string ⟨#[]⟩,.string ⟨#[]⟩,iV 0,iV 0,iV 0] 109)).heap.size=w.heap.size+1 by simp] at hcv1 hcw1;obtain ⟨cp2,W2,hcv2,hh2,hb2,_⟩:=bytes_new W1 d;have hcw2:=hh2.conv (cap:=cp2) (bt_isByte d)
 rw [bytesOf_self] at hcw2;have G2:Hid (Below w.heap.size w W2):=(GR.out.trans (hb1.mono GR.out.size)).trans (hb2.mono (Nat.le_trans GR.out.size hb1.size));have R2:Hid (BoxO w.heap.size W2 ⟨0,⟨#[]⟩,⟨#[]⟩,0,0⟩ 0):=(KR.out.kept hb1).kept hb2;clear hh1 hh2 hb1 hb2 GR KR;generalize (if echoP p=true then wordN (bt t) 4 else wordN (bt t) 0)=x at *;generalize (if echoP p=true then wordN (bt t) 4 else wordN (bt t) 2)=y at *;have hlt:=World.block_lt_of_cell? W2 _ R2.out.c0;have fin:∀ q:Bool,echoP p=q→Calls Tryz.prog 60 #[.string s,.string d,iV p,.string t] w fun e w'=>e=.returned ans∧Below w.heap.size w w':=by
  intro q hq;rw [hq] at HF
  cases q with
  | true =>
   have HG3:Hid _:=HG.out hq;rw [HG2.out hq] at HG3;clear HG HG2 hq;go_enter Tryz.func60,Tryz.ntmps60
   go_wp2_with fail
   refine (HA1.out _).mono ?_;rintro e w2 ⟨rfl,rfl⟩;go_wp2_with fail
   refine (HA2.out _).mono ?_;rintro e w2 ⟨rfl,rfl⟩;go_wp2_with fail
   refine (HA3.out _).mono ?_;rintro e w2 ⟨rfl,rfl⟩;go_wp2_with fail
   refine (HB.out _).mono ?_;rintro e w2 ⟨rfl,rfl⟩;go_wp2_with fail
   refine (HC.out _).mono ?_;rintro e w2 ⟨rfl,rfl⟩;go_wp2_with fail
   refine (HE.out _).mono ?_;rintro e w2 ⟨rfl,rfl⟩;go_wp2_with fail
   refine (HF.out _).mono ?_;rintro e w2 ⟨rfl,rfl⟩;go_wp2_with fail
   refine (HG3.out _).mono ?_;rintro e w2 ⟨rfl,rfl⟩;go_wp2_with fail
   refine (HP.out _).mono ?_;rintro e w2 ⟨rfl,rfl⟩;obtain ⟨k0,y0,k1,y1,k2,y2,k3,y3,k4,y4,k5,y5⟩:=R2.out;dsimp only at k0 k1 k2 k3 k4 k5;go_wp2_with fail
   have hne:w.heap.size≠W2.heap.size:=by omega
   refine bodyPost_ret (v:=.agg #[iV p,.string s,.string d,iV x,iV y,iV 0]) (by simp [results,Tryz.results60,go_sem,k0,k1,k2,k3,k4,k5,hlt,hne]) rfl ⟨by rw [HV.out],?_⟩;have hz:=G2.out.size;exact ((((((G2.out.setCell (Nat.le_refl _) _).setCell (Nat.le_refl _) _).setCell (Nat.le_refl _) _).setCell (Nat.le_refl _) _).setCell (Nat.le_refl _) _).setCell (Nat.le_refl _) _).alloc (by simp; omega) _
  | false =>
   clear HG HG2 hq;go_enter Tryz.func60,Tryz.ntmps60
   go_wp2_with fail
   refine (HA1.out _).mono ?_;rintro e w2 ⟨rfl,rfl⟩;go_wp2_with fail
   refine (HA2.out _).mono ?_;rintro e w2 ⟨rfl,rfl⟩;go_wp2_with fail
   refine (HA3.out _).mono ?_;rintro e w2 ⟨rfl,rfl⟩;go_wp2_with fail
   refine (HB.out _).mono ?_;rintro e w2 ⟨rfl,rfl⟩;go_wp2_with fail
   refine (HC.out _).mono ?_;rintro e w2 ⟨rfl,rfl⟩;go_wp2_with fail
   refine (HE.out _).mono ?_;rintro e w2 ⟨rfl,rfl⟩;go_wp2_with fail
   refine (HF.out _).mono ?_;rintro e w2 ⟨rfl,rfl⟩;go_wp2_with fail
   refine (HP.out _).mono ?_;rintro e w2 ⟨rfl,rfl⟩;obtain ⟨k0,y0,k1,y1,k2,y2,k3,y3,k4,y4,k5,y5⟩:=R2.out;dsimp only at k0 k1 k2 k3 k4 k5;go_wp2_with fail
   have hne:w.heap.size≠W2.heap.size:=by omega
   refine bodyPost_ret (v:=.agg #[iV p,.string s,.string d,iV x,iV y,iV 0]) (by simp [results,Tryz.results60,go_sem,k0,k1,k2,k3,k4,k5,hlt,hne]) rfl ⟨by rw [HV.out],?_⟩;have hz:=G2.out.size;exact ((((((G2.out.setCell (Nat.le_refl _) _).setCell (Nat.le_refl _) _).setCell (Nat.le_refl _) _).setCell (Nat.le_refl _) _).setCell (Nat.le_refl _) _).setCell (Nat.le_refl _) _).alloc (by simp; omega) _
 exact fin _ rfl
theorem sumN_app {f:Nat→Int} (K:Nat):∀ m,∃ z,sumN f (K+m)=sumN f K+sumN (fun i=>f (2*K+i)) m+65535*z
 | 0=>⟨0,by simp [sumN]⟩
 | m+1=>by
  obtain ⟨z,e⟩:=sumN_app (f:=f) K m;obtain ⟨z1,e1⟩:=add1_mod (sumN f (K+m)) (wordN f (2*(K+m)));obtain ⟨z2,e2⟩:=add1_mod (sumN (fun i=>f (2*K+i)) m) (wordN (fun i=>f (2*K+i)) (2*m));have ew:wordN (fun i=>f (2*K+i)) (2*m)=wordN f (2*(K+m)):=by
   unfold wordN;show f (2*K+2*m)*256+f (2*K+(2*m+1))=_;rw [show 2*K+2*m=2*(K+m) by omega,show 2*K+(2*m+1)=2*(K+m)+1 by omega]
  refine ⟨z+z1-z2,?_⟩;show add1 (sumN f (K+m)) (wordN f (2*(K+m)))=sumN f K+add1 (sumN (fun i=>f (2*K+i)) m) (wordN (fun i=>f (2*K+i)) (2*m))+65535*(z+z1-z2);rw [ew] at e2 ⊢;rw [e1,e2,e]; omega
theorem sumV_app {a b:ByteArray} {K:Nat} (ha:a.size=2*K):∃ z,sumV (a++b)=sumV a+sumV b+65535*z:=by
 obtain ⟨z,e⟩:=sumN_app (f:=bt (a++b)) K ((b.size+1) / 2);have e1:sumV (a++b)=sumN (bt (a++b)) (K+(b.size+1) / 2):=by unfold sumV; rw [ByteArray.size_append,ha,show (2*K+b.size+1) / 2=K+(b.size+1) / 2 by omega]
 have e2:sumN (bt (a++b)) K=sumV a:=by
  unfold sumV; rw [ha,show (2*K+1) / 2=K by omega];exact sumN_congr K (fun i hi=>by rw [bt_append,if_pos (by omega)])
 have e3:sumN (fun i=>bt (a++b) (2*K+i)) ((b.size+1) / 2)=sumV b:=by
  unfold sumV;refine sumN_congr _ (fun i hi=>?_);show bt (a++b) (2*K+i)=bt b i;rw [bt_append,if_neg (by omega),ha,show 2*K+i-2*K=i by omega]
 exact ⟨z,by rw [e1,e,e2,e3]⟩
def turn1 (c o n:Int):Int:=65535-add1 (add1 (65535-c) (65535-o)) n
theorem turn1_range {c o n:Int} (hc:0≤c∧c≤65535) (ho:0≤o∧o≤65535) (hn:0≤n∧n≤65535):0≤turn1 c o n∧turn1 c o n≤65535:=by
 unfold turn1;have h1:=add1_range (a:=65535-c) (b:=65535-o) (by omega) (by omega) (by omega) (by omega);have h2:=add1_range h1.1 h1.2 hn.1 hn.2;omega
theorem turn1_mod (c o n:Int):∃ z,turn1 c o n=c+o-n+65535*z:=by
 unfold turn1;obtain ⟨z1,e1⟩:=add1_mod (65535-c) (65535-o);obtain ⟨z2,e2⟩:=add1_mod (add1 (65535-c) (65535-o)) n;exact ⟨-1-z1-z2,by rw [e2,e1]; omega⟩
theorem turnV_of {c o n:Int} (hc:0≤c∧c≤65535) (ho:0≤o∧o≤65535) (hn:0≤n∧n≤65535):sumTurnV c o n=turn1 c o n:=by
 unfold sumTurnV turn1; rw [if_pos ⟨hc,ho,hn⟩]
def setPartV (p:Int) (t:ByteArray):ByteArray:=if echoP p=true then t.extract 0 2++t.extract 4 6 else t.extract 0 4
theorem setPartV_size (p:Int) {t:ByteArray} (h:8≤t.size):(setPartV p t).size=4:=by
 unfold setPartV;split
 ·rw [ByteArray.size_append,ByteArray.size_extract,ByteArray.size_extract]; omega
 ·rw [ByteArray.size_extract]; omega
def checkI (f g:Fl) (t u:ByteArray):Int :=
 let c:=turn1 (turn1 (wordN (bt t) (checkP f.proto)) (sumV (setPartV f.proto t)) (sumV (setPartV g.proto u))) (sumV (pseudoV f.src f.dst f.proto t.size)) (sumV (pseudoV g.src g.dst g.proto u.size))
 if c=0 then 65535 else c
theorem checkI_eq (f g:Fl) (t:ByteArray) (h8:8≤t.size) (h8':8≤(setOut f g t).size):checkI f g t (setOut f g t)=newCheck f g t:=by
 unfold checkI newCheck;obtain ⟨z1,e1⟩:=sumV_app (a:=setPartV f.proto t) (b:=pseudoV f.src f.dst f.proto t.size) (K:=2) (setPartV_size _ h8);obtain ⟨z2,e2⟩:=sumV_app (a:=setPartV g.proto (setOut f g t)) (b:=pseudoV g.src g.dst g.proto (setOut f g t).size) (K:=2) (setPartV_size _ h8');have p1:partV f t=setPartV f.proto t++pseudoV f.src f.dst f.proto t.size:=rfl;have p2:partV g (setOut f g t)=setPartV g.proto (setOut f g t)++pseudoV g.src g.dst g.proto (setOut f g t).size:=rfl;rw [p1,p2];have rc:=wordN_range (bt_isByte t) (checkP f.proto);have r1:=sumV_range (setPartV f.proto t);have r2:=sumV_range (setPartV g.proto (setOut f g t));have r3:=sumV_range (pseudoV f.src f.dst f.proto t.size);have r4:=sumV_range (pseudoV g.src g.dst g.proto (setOut f g t).size);have r5:=sumV_range (setPartV f.proto t++pseudoV f.src f.dst f.proto t.size);have r6:=sumV_range (setPartV g.proto (setOut f g t)++pseudoV g.src g.dst g.proto (setOut f g t).size);generalize sumV (setPartV f.proto t++pseudoV f.src f.dst f.proto t.size)=o at *;generalize sumV (setPartV g.proto (setOut f g t)++pseudoV g.src g.dst g.proto (setOut f g t).size)=n at *;generalize sumV (setPartV f.proto t)=o1 at *;generalize sumV (setPartV g.proto (setOut f g t))=n1 at *;generalize sumV (pseudoV f.src f.dst f.proto t.size)=o2 at *;generalize sumV (pseudoV g.src g.dst g.proto (setOut f g t).size)=n2 at *;generalize wordN (bt t) (checkP f.proto)=c at *;have q1:=turn1_range rc r1 r2;have q2:=turn1_range q1 r3 r4;have q3:=turn1_range rc r5 r6;obtain ⟨y1,d1⟩:=turn1_mod c o1 n1;obtain ⟨y2,d2⟩:=turn1_mod (turn1 c o1 n1) o2 n2;obtain ⟨y3,d3⟩:=turn1_mod c o n;show (if turn1 (turn1 c o1 n1) o2 n2=0 then (65535:Int) else turn1 (turn1 c o1 n1) o2 n2)=if turn1 c o n=0 then 65535 else turn1 c o n;generalize turn1 (turn1 c o1 n1) o2 n2=a at *;generalize turn1 c o1 n1=b at *;generalize turn1 c o n=e at *;split<;>split<;>omega
theorem newCheck_range (f g:Fl) (t:ByteArray):0≤newCheck f g t∧newCheck f g t≤65535:=by
 unfold newCheck;have rc:=wordN_range (bt_isByte t) (checkP f.proto);have r1:=sumV_range (partV f t);have r2:=sumV_range (partV g (setOut f g t));have q:=turn1_range rc r1 r2;unfold turn1 at q;dsimp only;split<;>omega
theorem bt_put {t u:ByteArray} {k:Nat} (h:k+u.size≤t.size) (i:Nat):bt (putV t k u) i=if i < k then bt t i else if i < k+u.size then bt u (i-k) else bt t i:=by
 unfold putV;have s1:(t.extract 0 k).size=k:=by rw [ByteArray.size_extract]; omega
 rw [bt_append,bt_append,ByteArray.size_append,s1];by_cases h1:i < k
 ·rw [if_pos (by omega),if_pos h1,if_pos h1,bt_extract _ _ _ _ (by omega),if_pos (by omega),Nat.zero_add]
 ·by_cases h2:i < k+u.size
  ·rw [if_pos h2,if_neg h1,if_neg h1,if_pos h2]
  ·rw [if_neg h2,if_neg h1,if_neg h2,bt_extract _ _ _ _ (Nat.le_refl _)];by_cases h3:i < t.size
   ·rw [if_pos (by omega),show k+u.size+(i-(k+u.size))=i by omega]
   ·rw [if_neg (by omega)];unfold bt; rw [dif_neg (by omega)]
def layV (p:Int) (g:Fl) (t:ByteArray):ByteArray :=
 if echoP g.proto=true then putV (putV t 4 (twoV g.sp)) 0 (oneV (if bt t 0=askP p then askP g.proto else ansP g.proto)) else putV t 0 (twoV g.sp++twoV g.dp)
theorem oneV_size (x:Int):(oneV x).size=1:=rfl
theorem put_swap {t u v:ByteArray} (hu:u.size=2) (hv:v.size=1) (ht:8≤t.size):putV (putV t 4 u) 0 v=putV (putV t 0 v) 4 u:=by
 have s1:=putV_size (t:=t) (u:=u) (k:=4) (by omega);have s2:=putV_size (t:=t) (u:=v) (k:=0) (by omega);refine ba_ext ?_ (fun i hi=>?_)
 ·have a1:=putV_size (t:=putV t 4 u) (u:=v) (k:=0) (by omega);have a2:=putV_size (t:=putV t 0 v) (u:=u) (k:=4) (by omega);omega
 ·rw [bt_put (by omega),bt_put (by omega),bt_put (by omega),bt_put (by omega),hu,hv];(repeat' split)<;>first | rfl | (exfalso; omega)
theorem first_same {f g:Fl} {t:ByteArray} (hf:echoP f.proto=true) (hg:echoP g.proto=true) (hb:bt t 0=askP f.proto∨bt t 0=ansP f.proto):(if bt t 0=askP f.proto then askP g.proto else ansP g.proto)=firstV8 f g t:=by
 unfold echoP at hf hg;simp only [Bool.or_eq_true,decide_eq_true_iff] at hf hg;unfold firstV8;rcases hf with hf | hf<;>rcases hg with hg | hg<;>rw [hf] at hb ⊢<;>rw [hg]<;>rcases hb with hb | hb<;>rw [hb]<;>decide
theorem setIn_parts {f g:Fl} {t:ByteArray} (h:setIn f g t=true):flowOk f=true∧flowOk g=true∧(f.proto=g.proto∨echoP f.proto=true∧echoP g.proto=true)∧ofCode f.src.size f.proto t=0:=by
 unfold setIn at h;simp only [Bool.and_eq_true,decide_eq_true_iff,Bool.or_eq_true] at h;exact ⟨h.1.1.1.1.1,h.1.1.1.1.2,h.1.1.1.2,h.1.1.2⟩
theorem begins_of {n:Nat} {p:Int} {t:ByteArray} (h:ofCode n p t=0) (he:echoP p=true):bt t 0=askP p∨bt t 0=ansP p:=by
 unfold ofCode at h;by_cases h1:protoOk p n=false
 ·rw [if_pos h1] at h; simp at h
 rw [if_neg h1] at h;by_cases h2:shortP p t=true
 ·rw [if_pos h2] at h; simp at h
 rw [if_neg h2,if_pos he] at h;by_cases h3:(bt t 0≠askP p∧bt t 0≠ansP p)∨bt t 1≠0
 ·rw [if_pos h3] at h; simp at h
 ·by_cases h4:bt t 0=askP p
  ·exact .inl h4
  ·refine .inr (Classical.byContradiction fun h5=>h3 (.inl ⟨h4,h5⟩))
theorem lay_set {f g:Fl} {t:ByteArray} (h:setIn f g t=true):layV f.proto g t=setOut f g t:=by
 obtain ⟨h1,h2,h3,h4⟩:=setIn_parts h;have h8:=(ofCode_size h4).1;have he:echoP g.proto=echoP f.proto:=by
  rcases h3 with h3 | h3
  ·rw [h3]
  ·rw [h3.1,h3.2]
 unfold layV setOut;rw [he];by_cases hf:echoP f.proto=true
 ·rw [if_pos hf,if_pos hf,first_same hf (he.trans hf) (begins_of h4 hf)];exact put_swap (twoV_size _) (oneV_size _) h8
 ·rw [if_neg hf,if_neg hf]
theorem setOut_size {f g:Fl} {t:ByteArray} (h8:8≤t.size):(setOut f g t).size=t.size:=by
 unfold setOut;split
 ·rw [putV_size,putV_size]
  ·rw [oneV_size]; omega
  ·rw [putV_size,twoV_size]
   ·omega
   ·rw [oneV_size]; omega
 ·rw [putV_size];rw [ByteArray.size_append,twoV_size,twoV_size]; omega
theorem setIn_prog {f g:Fl} {t:ByteArray} (ht:t.size≤20000):setIn f g t=((decide (flowCode f.src f.dst f.proto t=0)&&sameFlow (flowOfV f.src f.dst f.proto t) f)&&(flowOk g&&(decide (f.proto=g.proto)||(echoP f.proto&&echoP g.proto)))):=by
 unfold setIn;by_cases hc:flowCode f.src f.dst f.proto t=0
 ·have hfo:flowOfV f.src f.dst f.proto t=ofFl f.src f.dst f.proto t:=by unfold flowOfV; rw [if_pos hc]
  rw [decide_eq_true hc,hfo,sameFlow_of];have hc2:=hc;unfold flowCode at hc2;by_cases h1:20000 < t.size∨20000 < f.src.size∨20000 < f.dst.size
  ·rw [if_pos h1] at hc2; simp at hc2
  rw [if_neg h1] at hc2;by_cases h2:pairOk f.src f.dst=false
  ·rw [if_pos h2] at hc2; simp at hc2
  rw [if_neg h2] at hc2;have h2':pairOk f.src f.dst=true:=by simpa using h2
  have hpo:protoOk f.proto f.src.size=true:=by
   unfold ofCode at hc2;by_cases h3:protoOk f.proto f.src.size=false
   ·rw [if_pos h3] at hc2; simp at hc2
   ·simpa using h3
  by_cases h4:(ofFl f.src f.dst f.proto t).sp=f.sp
  ·by_cases h5:(ofFl f.src f.dst f.proto t).dp=f.dp
   ·have hfk:flowOk f=true:=by
     unfold flowOk;unfold ofFl at h4 h5;rw [if_pos hc2] at h4 h5;have w0:=wordN_range (bt_isByte t) 0;have w2:=wordN_range (bt_isByte t) 2;have w4:=wordN_range (bt_isByte t) 4;by_cases he:echoP f.proto=true
     ·rw [if_pos he] at h4 h5;dsimp only at h4 h5;rw [h2',hpo,he,← h4,← h5,isW_yes w4.1 w4.2]; simp
     ·rw [if_neg he] at h4 h5;dsimp only at h4 h5;rw [h2',hpo,← h4,← h5,isW_yes w0.1 w0.2,isW_yes w2.1 w2.2]; simp [he]
    simp [hfk,hc2,h4,h5,Bool.and_assoc]
   ·simp [h5]
  ·simp [h4]
 ·rw [decide_eq_false hc,Bool.false_and,Bool.false_and];by_cases hf:flowOk f=true
  ·have hp:pairOk f.src f.dst=true:=by unfold flowOk at hf; simp only [Bool.and_eq_true] at hf; exact hf.1.1.1.1
   obtain ⟨hs,hd⟩:=pairOk_parts hp;have:ofCode f.src.size f.proto t≠0:=fun h0=>hc (by
    unfold flowCode;rw [if_neg (by omega),if_neg (by rw [hp]; simp)]; exact h0)
   simp [this]
  ·simp [hf]
def lacksV (f:Fl) (t:ByteArray):Bool:=decide (f.proto=17)&&decide (wordN (bt t) 6=0)
theorem bare_lacks (f:Fl) (t:ByteArray):bareUdp f t=(lacksV f t&&decide (f.src.size=4)):=by
 unfold bareUdp lacksV;by_cases h:f.proto=17
 ·rw [h]; rfl
 ·simp [h]
theorem ofFl_zero {s d:ByteArray} {p:Int} {t:ByteArray} (h:ofCode s.size p t=0):(ofFl s d p t).proto=p∧(ofFl s d p t).src=s∧(ofFl s d p t).dst=d∧(0≤(ofFl s d p t).sp∧(ofFl s d p t).sp≤65535)∧(0≤(ofFl s d p t).dp∧(ofFl s d p t).dp≤65535)∧(echoP p=true→(ofFl s d p t).sp=(ofFl s d p t).dp):=by
 unfold ofFl;rw [if_pos h];have w0:=wordN_range (bt_isByte t) 0;have w2:=wordN_range (bt_isByte t) 2;have w4:=wordN_range (bt_isByte t) 4;by_cases he:echoP p=true
 ·rw [if_pos he]; exact ⟨rfl,rfl,rfl,w4,w4,fun _=>rfl⟩
 ·rw [if_neg he]; exact ⟨rfl,rfl,rfl,w0,w2,fun h=>absurd h he⟩
theorem proto_of {n:Nat} {p:Int} {t:ByteArray} (h:ofCode n p t=0):protoOk p n=true:=by
 unfold ofCode at h;by_cases h3:protoOk p n=false
 ·rw [if_pos h3] at h; simp at h
 ·simpa using h3
theorem proto_four {p:Int} (h:protoOk p 4=true):p=6∨p=17∨p=1:=by
 unfold protoOk at h;simp only [Bool.or_eq_true,Bool.and_eq_true,decide_eq_true_iff] at h;omega
theorem flowOk_of {s d:ByteArray} {p:Int} {t:ByteArray} (h:ofCode s.size p t=0) (hp:pairOk s d=true):flowOk (ofFl s d p t)=true:=by
 obtain ⟨h1,h2,h3,h4,h5,h6⟩:=ofFl_zero (d:=d) h;unfold flowOk;rw [h1,h2,h3,hp,proto_of h,isW_yes h4.1 h4.2,isW_yes h5.1 h5.2];by_cases he:echoP p=true
 ·simp [he,h6 he]
 ·simp [he]
theorem flag_byte (p:Int) (t:ByteArray):isIn (flagV p t) 0 255=true:=by
 unfold flagV isIn;have:=bt_isByte t 13;split<;>simp<;>omega
theorem peer_word {p n:Int} (h:0≤n∧n≤65535):isW (peerV p n)=true:=by
 unfold peerV; split
 ·decide
 ·exact isW_yes h.1 h.2
theorem addr_four {s:ByteArray} (h:s.size=4):addrOk s=true:=by unfold addrOk; simp [h]
theorem pair_four {s d:ByteArray} (hs:s.size=4) (hd:d.size=4):pairOk s d=true:=by unfold pairOk; rw [addr_four hs]; simp [hs,hd]
theorem protoB_four {p:Int} (h:p=6∨p=17∨p=1):protoB p=true∧protoN p=p:=by
 rcases h with rfl | rfl | rfl<;>decide
theorem comeT_ok {s d:ByteArray} {p:Int} {t:ByteArray} (hs:s.size=4) (hd:d.size=4) (h:ofCode s.size p t=0):touchOk (comeT (ofFl s d p t) t)=true:=by
 obtain ⟨h1,h2,h3,h4,h5,h6⟩:=ofFl_zero (d:=d) h;have hp:=proto_four (hs ▸ proto_of h);unfold touchOk comeT;dsimp only;rw [h1,h2,h3,(protoB_four hp).1,addr_four hd,isW_yes h5.1 h5.2,peer_word h4,flag_byte];simp [hs,hd]
theorem bind_ends {p:Pl} {x:Bb} {t:Tc} {now:Int} (h:bibOk p x=true) (hn:isTime now=true) (ht:touchOk t=true) (hc:(goV p x t now).code=0) :
  (goV p x t now).bind.out.size=4∧(0≤(goV p x t now).bind.outPort∧(goV p x t now).bind.outPort≤65535)∧((goV p x t now).bind.inn.size=4∨(goV p x t now).bind.inn.size=16)∧(0≤(goV p x t now).bind.inPort∧(goV p x t now).bind.inPort≤65535)∧(t.inside=true→(goV p x t now).bind.inn=t.addr):=by
 obtain ⟨g1,g2,g3,g4,g5⟩:=go_right (bibR_iff.1 h) hn ht hc;have hb:=(bind_iff.1 g1.bind).1 _ g3;unfold bindP at hb;simp only [Bool.and_eq_true] at hb;have hpl:=g1.pool;have hpo:1≤p.low∧p.high≤65535:=by
  unfold poolOk at hpl;simp only [Bool.and_eq_true,decide_eq_true_iff] at hpl;exact ⟨hpl.1.1.1.1.1.1.2,hpl.1.1.1.1.2⟩
 have ho:=isIn_parts hb.2;have hw:0≤(goV p x t now).bind.inPort∧(goV p x t now).bind.inPort≤65535:=by simpa [isW] using hb.1.1.2
 have hsz:(goV p x t now).bind.out.size=4:=by
  unfold poolOk at hpl;simp only [Bool.and_eq_true] at hpl;have hu:=upN_iff.1 hpl.2;have hs:=hb.1.2;unfold inL at hs;obtain ⟨u,hu1,hu2⟩:=List.any_eq_true.1 hs;obtain ⟨i,hi,rfl⟩:=List.getElem_of_mem hu1;have h1:=hu i hi;unfold addrOne at h1;simp only [Bool.and_eq_true,decide_eq_true_iff] at h1 hu2;have:p.addrs[i].size=(goV p x t now).bind.out.size:=by
   have:=congrArg List.length hu2;simpa [ByteArray.toList_eq] using this
  omega
 exact ⟨hsz,⟨by omega,by omega⟩,addrOk_size hb.1.1.1.2,hw,fun hi=>congrArg En.addr (g4 hi)⟩
theorem kind_right {f g:Fl} (hf:flowOk f=true) (hfs:f.src.size=4) (hgs:g.src.size=4) (hgd:g.dst.size=4) (hp:g.proto=f.proto) (h1:0≤g.sp∧g.sp≤65535) (h2:0≤g.dp∧g.dp≤65535):flowOk (kindF f g)=true∧(kindF f g).proto=f.proto∧(kindF f g).src=g.src∧(kindF f g).dst=g.dst:=by
 have hpo:protoOk f.proto 4=true:=by unfold flowOk at hf; simp only [Bool.and_eq_true] at hf; rw [hfs] at hf; exact hf.1.1.1.2
 unfold kindF;by_cases he:echoP f.proto=true
 ·rw [if_pos he];have e1:f.proto=1:=by
   have:=proto_four hpo;unfold echoP at he;simp only [Bool.or_eq_true,decide_eq_true_iff] at he;omega
  rw [if_neg (by omega)];refine ⟨?_,e1.symm,rfl,rfl⟩;unfold flowOk;dsimp only;rw [pair_four hgs hgd,isW_yes h1.1 h1.2,hgs,show protoOk 1 4=true by decide]; simp
 ·rw [if_neg he];refine ⟨?_,hp,rfl,rfl⟩;unfold flowOk;rw [pair_four hgs hgd,hp,hgs,hpo,isW_yes h1.1 h1.2,isW_yes h2.1 h2.2]; simp [he]
theorem setD_four {s d:ByteArray} {p:Int} {t:ByteArray} {g:Fl} (h:ofCode s.size p t=0) (hs:s.size=4) (hd:d.size=4) (ht:t.size≤20000) (hg:flowOk g=true) (hp:g.proto=p) (hgs:g.src.size=4):setData (ofFl s d p t) g t=setD (ofFl s d p t) g t∧setCode (ofFl s d p t) g t=0:=by
 obtain ⟨h1,h2,h3,h4,h5,h6⟩:=ofFl_zero (d:=d) h;have hin:setIn (ofFl s d p t) g t=true:=by
  unfold setIn;rw [flowOk_of h (pair_four hs hd),hg,h1,h2,h3,hp,h]; simp
 have hc:setCode (ofFl s d p t) g t=0:=by
  unfold setCode;rw [if_neg (by omega),if_neg (by rw [hin]; simp),if_neg];rintro ⟨_,h16⟩; omega
 refine ⟨?_,hc⟩;unfold setData setD;rw [hc,if_pos rfl];by_cases hb:bareUdp (ofFl s d p t) t=true
 ·rw [if_pos hb,if_pos hb,if_neg (by omega)]
 ·rw [if_neg hb,if_neg hb]
theorem nat_parts {p:Pl} {x:Bb} {q:P4} {now:Int} (h:natFt p x q now=0):bibOk p x=true∧v4Ok q=true∧isTime now=true:=by
 unfold natFt at h;split at h
 ·omega
 ·rename_i h2;simp only [Bool.not_eq_false,Bool.and_eq_true] at h2;exact ⟨h2.1.1,h2.1.2,h2.2⟩
theorem v4_sizes {q:P4} (h:v4Ok q=true):q.src.size=4∧q.dst.size=4∧q.opts.size≤40∧q.data.size≤1400:=by
 have hA:v4A q=true:=by unfold v4Ok at h; simp only [Bool.and_eq_true] at h; exact h.1.1
 have hB:v4B q=true:=by unfold v4Ok at h; simp only [Bool.and_eq_true] at h; exact h.1.2
 have h1:=v4A_parts hA; have h2:=v4B_parts hB;exact ⟨h1.2.2.2.2.2.1,h1.2.2.2.2.2.2,h2.1,h2.2.2.1⟩
theorem flow_four {q:P4} (h:v4Ok q=true):flowCode q.src q.dst q.proto q.data=ofCode q.src.size q.proto q.data∧(ofCode q.src.size q.proto q.data=0→flowOfV q.src q.dst q.proto q.data=ofFl q.src q.dst q.proto q.data):=by
 obtain ⟨h1,h2,h3,h4⟩:=v4_sizes h;have e:flowCode q.src q.dst q.proto q.data=ofCode q.src.size q.proto q.data:=by
  unfold flowCode; rw [if_neg (by omega),if_neg (by rw [pair_four h1 h2]; simp)]
 exact ⟨e,fun hc=>by unfold flowOfV; rw [e,if_pos hc]⟩
theorem tcp_long {n:Nat} {t:ByteArray} (h:ofCode n 6 t=0):20≤t.size:=by
 unfold ofCode at h;split at h
 ·omega
 ·split at h
  ·omega
  ·rename_i _ h2;unfold shortP at h2;simp at h2; omega
theorem touch_go {p:Pl} {x:Bb} {t:Tc} {now:Int} (h:bibOk p x=true) (hn:isTime now=true) (ht:touchOk t=true):bibTouchV p x t now=goV p x t now:=by
 unfold bibTouchV; rw [h,hn,ht]; rfl
theorem pass_in {p:Pl} {x:Bb} {q:P4} {now:Int} (h:natFt p x q now=0) (hc:ofCode q.src.size q.proto q.data=0) (F:Fl) (hF:F=ofFl q.src q.dst q.proto q.data) (Y:Bo) (hY:Y=goV p x (comeT F q.data) now) :
  bibTouchV p x ⟨F.proto,false,F.dst,F.dp,F.src,peerV F.proto F.sp,flagV q.proto q.data⟩ now=Y∧F.src.size=4∧F.dst.size=4∧(Y.code=0→Y.bind.inn.size≤16∧(Y.bind.inn.size=4→∃ G:Fl,(⟨F.proto,F.src,Y.bind.inn,if echoP F.proto=true then Y.bind.inPort else F.sp,Y.bind.inPort⟩ : Fl)=G∧G=toF F q.src Y.bind.inn Y.bind.inPort∧setData F G q.data=setD F G q.data∧G.src=q.src∧G.dst=Y.bind.inn)):=by
 obtain ⟨h1,h2,h3⟩:=nat_parts h;obtain ⟨s1,s2,s3,s4⟩:=v4_sizes h2;obtain ⟨z1,z2,z3,z4,z5,z6⟩:=@ofFl_zero q.src q.dst q.proto q.data hc;have hp:=proto_of hc;rw [s1] at hp;have hp4:=proto_four hp;have ht:=comeT_ok s1 s2 hc;rw [← hF] at z1 z2 z3 z4 z5 z6 ht;have eT:(⟨F.proto,false,F.dst,F.dp,F.src,peerV F.proto F.sp,flagV q.proto q.data⟩ : Tc)=comeT F q.data:=by
  unfold comeT; rw [z1]
 refine ⟨by rw [eT,touch_go h1 h3 ht,hY],by rw [z2]; exact s1,by rw [z3]; exact s2,fun y0=>?_⟩;rw [hY] at y0;obtain ⟨e1,e2,e3,e4,e5⟩:=bind_ends h1 h3 ht y0;rw [← hY] at e1 e2 e3 e4 e5;refine ⟨by omega,fun e6=>?_⟩;have hG:(⟨F.proto,F.src,Y.bind.inn,if echoP F.proto=true then Y.bind.inPort else F.sp,Y.bind.inPort⟩ : Fl)=toF F q.src Y.bind.inn Y.bind.inPort:=by
  unfold toF kindF;split
  ·rename_i he;have he2:=he;rw [z1] at he;have:q.proto=1:=by
    rcases hp4 with h6 | h6 | h6
    ·rw [h6] at he; simp [echoP] at he
    ·rw [h6] at he; simp [echoP] at he
    ·exact h6
   dsimp only;rw [if_neg (by omega),z1,z2,this]
  ·rw [z2]
 refine ⟨_,hG,rfl,?_,?_,?_⟩
 ·have hfo:=flowOk_of hc (pair_four s1 s2);rw [← hF] at hfo;obtain ⟨k1,k2,k3,k4⟩:=kind_right (f:=F) (g:=⟨F.proto,q.src,Y.bind.inn,if echoP F.proto=true then Y.bind.inPort else F.sp,Y.bind.inPort⟩) hfo (by rw [z2]; exact s1) s1 e6 rfl (by dsimp only; split<;>omega) e4;have:=(setD_four (g:=toF F q.src Y.bind.inn Y.bind.inPort) hc s1 s2 (by omega) k1 (by rw [← z1]; exact k2) (by show (kindF _ _).src.size=4; rw [k3]; exact s1)).1;rw [← hF] at this;exact this
 ·rw [← hG]; exact z2
 ·rw [← hG]
end Go.Proofs.YtcckaeppiamebaaGreatDoor
namespace Go.Proofs.YtcckaeppiamebaaGreatDoor
open Go.RowKit
def stor (b:Nat):World→Nat→List Value→World
 | W,_,[]=>W
 | W,j,v::l=>stor b (W.setCell ⟨b,j,none⟩ v) (j+1) l
theorem HoldsL.storAt {b:Nat}:∀ (vs:List Value) {W:World} {pre olds:List Value},HoldsL W b (pre++olds)→olds.length=vs.length→HoldsL (stor b W pre.length vs) b (pre++vs)
 | [],W,pre,[],h,_=>h
 | [],W,pre,_::_,h,hl=>by simp at hl
 | v::vs,W,pre,[],h,hl=>by simp at hl
 | v::vs,W,pre,o::os,h,hl=>by
  have h2:=h.set pre.length v;rw [List.set_append_right _ _ (Nat.le_refl _),Nat.sub_self,List.set_cons_zero] at h2;have h3:HoldsL (W.setCell ⟨b,pre.length,none⟩ v) b ((pre++[v])++os):=by rw [List.append_assoc]; exact h2
  have:=HoldsL.storAt vs h3 (by simpa using hl);rw [List.length_append,List.append_assoc] at this;exact this
theorem HoldsL.stor {b:Nat} {W:World} {olds:List Value} (h:HoldsL W b olds) (vs:List Value) (hl:olds.length=vs.length):HoldsL (stor b W 0 vs) b vs:=HoldsL.storAt vs (pre:=[]) h hl
theorem Below.stor {n b:Nat} {w:World} (hb:n≤b):∀ (vs:List Value) {W:World} {j:Nat},Below n w W→Below n w (Go.Proofs.YtcckaeppiamebaaGreatDoor.stor b W j vs)
 | [],W,j,h=>h
 | v::vs,W,j,h=>Below.stor hb vs (h.setCell (p:=⟨b,j,none⟩) hb v)
theorem HoldsL.storOther {b c:Nat} {cs:List Value} (hne:c≠b):∀ (vs:List Value) {W:World} {j:Nat},HoldsL W c cs→HoldsL (Go.Proofs.YtcckaeppiamebaaGreatDoor.stor b W j vs) c cs
 | [],W,j,h=>h
 | v::vs,W,j,h=>HoldsL.storOther hne vs (h.setOther hne v)
theorem Bxs.stor {w W:World} {ks:List (Nat × List Value)} {b j:Nat} (h:Bxs w ks W) (hb:w.heap.size≤b) (hks:∀ e∈ks,e.1≠b) (vs:List Value):Bxs w ks (Go.Proofs.YtcckaeppiamebaaGreatDoor.stor b W j vs):=⟨fun e he=>HoldsL.storOther (hks e he) vs (h.k e he),Below.stor hb vs h.b,h.z⟩
theorem grown_stor {b:Nat}:∀ (vs:List Value) {w W:World} {j:Nat},w.grownBy W (some b)→w.grownBy (Go.Proofs.YtcckaeppiamebaaGreatDoor.stor b W j vs) (some b)
 | [],w,W,j,h=>h
 | v::vs,w,W,j,h=>grown_stor vs (grown_set h v)
theorem BbOwn.stor {base b j:Nat} {W:World} {a a':Option Addr} {y:Bb} (h:BbOwn base W a a' y) (hb:b < base) (vs:List Value):BbOwn base (Go.Proofs.YtcckaeppiamebaaGreatDoor.stor b W j vs) a a' y :=
 ⟨h.bd.grown (grown_stor vs (World.grownBy.refl _ _)) hb,h.ss.grown (grown_stor vs (World.grownBy.refl _ _)) hb,h.ne⟩
theorem BbOwn.lowN {base base':Nat} {W:World} {a a':Option Addr} {y:Bb} (h:BbOwn base W a a' y) (hb:base'≤base):BbOwn base' W a a' y:=⟨h.bd.down hb,h.ss.down hb,h.ne⟩
theorem stor_cells (b:Nat):∀ (vs:List Value) (W:World) (j:Nat),stor b W j vs=W.setCells b j vs
 | [],W,j=>rfl
 | v::vs,W,j=>by
  show stor b (W.setCell ⟨b,j,none⟩ v) (j+1) vs=_;rw [stor_cells b vs]; rfl
theorem noL_len (a b:Option Addr) (ca cb:Nat) (o:No):(noL a b ca cb o).length=25:=rfl
theorem noL_one (a b:Option Addr) (ca cb:Nat) (o:No):(noL a b ca cb o).toArray.all (·.oneCell')=true:=all_oneCell_toArray (by unfold noL; simp [Value.oneCell'])
theorem HoldsL.mid {W:World} {b:Nat} {olds vs:List Value} (h:HoldsL W b olds) (hl:olds.length=vs.length):HoldsL (W.setCells b 0 vs.toArray.toList) b vs:=by
 rw [List.toList_toArray,← stor_cells]; exact h.stor vs hl
theorem Below.mid {n b:Nat} {w W:World} (h:Below n w W) (hb:n≤b) (vs:List Value):Below n w (W.setCells b 0 vs.toArray.toList):=by
 rw [List.toList_toArray,← stor_cells]; exact Below.stor hb vs h
theorem BbOwn.mid {base b:Nat} {W:World} {a a':Option Addr} {y:Bb} (h:BbOwn base W a a' y) (hb:b < base) (vs:List Value):BbOwn base (W.setCells b 0 vs.toArray.toList) a a' y:=by
 rw [List.toList_toArray,← stor_cells]; exact h.stor hb vs
theorem noL_there {W:World} {b:Nat} {a a':Option Addr} {ca cb:Nat} {o:No} (h:HoldsL W b (noL a a' ca cb o)) (x x':Option Addr) (cx cy:Nat) (y:No):W.there b 0 (noL x x' cx cy y).toArray.size:=by
 have:=h.th;rw [noL_len] at this;exact this
open Go.PlainAid
theorem sz_of_list {a b:ByteArray} (h:a.toList=b.toList):a.size=b.size:=by rw [baT_ext h]
theorem in64_of {n:Int} (h0:0≤n) (h1:n≤100000):In64t n:=by unfold In64t; omega
theorem in64_isIn {n a b:Int} (h:isIn n a b=true) (ha:0≤a) (hb:b≤100000):In64t n:=by
 have:=isIn_parts h; exact in64_of (by omega) (by omega)
theorem bib_small {p:Pl} {x:Bb} (h:BibR p x) (hsz:∀ s∈p.addrs,s.size≤1048576):x.binds.length≤1048576∧x.sess.length≤1048576∧(∀ q∈x.binds,BdGood q)∧(∀ s∈x.sess,SsGood s):=by
 have hp:=h.pool;unfold poolOk at hp;simp only [Bool.and_eq_true,decide_eq_true_iff] at hp;have hm:=isIn_parts hp.1.1.1.2;have hb:∀ q∈x.binds,BdGood q:=fun q hq=>by
  obtain ⟨i,hi,rfl⟩:=List.getElem_of_mem hq;have h1:=h.bind i hi;unfold bindOne at h1;simp only [Bool.and_eq_true] at h1;obtain ⟨⟨⟨⟨⟨a1,a2⟩,a3⟩,a4⟩,a5⟩,-⟩:=h1;have a2':x.binds[i].inn.size≤16:=by unfold addrOk at a2; simp at a2; omega
  unfold inL at a4;unfold isW at a3;obtain ⟨s,hs,e⟩:=List.any_eq_true.1 a4;have hz:=sz_of_list (of_decide_eq_true e);have:=hsz s hs;unfold protoB at a1;simp only [Bool.or_eq_true,decide_eq_true_iff] at a1;exact ⟨by omega,by omega,by unfold In64t; rcases a1 with (a | a) | a<;>omega,in64_isIn a3 (by omega) (by omega),in64_isIn a5 (by omega) (by omega)⟩
 refine ⟨by have:=h.len; omega,by have:=h.most; omega,hb,fun s hs=>?_⟩;obtain ⟨c,hc,ho⟩:=List.any_eq_true.1 (h.has s hs);have hcd:=hb c hc;have hv:=h.sess s hs;unfold sessV at hv;simp only [Bool.and_eq_true,decide_eq_true_iff] at hv;unfold ofIn at ho;simp only [Bool.and_eq_true,decide_eq_true_iff] at ho;have hi:=sz_of_list ho.1.2;exact ⟨by have:=hcd.1; omega,by have:=hv.1.1.1.1; omega,ho.1.1 ▸ hcd.2.2.1,ho.2 ▸ hcd.2.2.2.1⟩
structure Back (p:Pl) (x:Bb) (q:P4) (now:Int) (ans:No) (ft:Int) (nv:No):Prop where
 a1:ft≠0→ans=noE ft
 a2:ft=0→q.proto=1→ans=noE 11
 a3:ft=0→q.proto≠1→nv.code≠0→ans=nv
 a4:ft=0→q.proto≠1→nv.code=0→ans=natComeV p nv.bib nv.four now
 go:ft=0→natGoV p x q now=nv
 sm:ft=0→nv.code=0→(nv.bib.binds.length≤1048576∧nv.bib.sess.length≤1048576∧(∀ q∈nv.bib.binds,BdGood q)∧(∀ s∈nv.bib.sess,SsGood s))∧nv.four.src.size≤1048576∧nv.four.dst.size≤1048576∧nv.four.opts.size≤1048576∧nv.four.data.size≤1048576
section
variable {w W:World} {base:Nat} {a b:Option Addr} {x:Bb}
theorem BbOwn.fresh (h:BbOwn base w a b x):∀ g o,(x.binds≠[]∧a=some ⟨g,o,none⟩)∨(x.sess≠[]∧b=some ⟨g,o,none⟩)→g≠w.heap.size:=by
 rintro g o (⟨h1,h2⟩ | ⟨h1,h2⟩)
 ·rcases h.bd with e | ⟨g',e,_,hl⟩
  ·exact absurd e h1
  ·rw [h2] at e; injection e with e; injection e with e _; have:=hl.blk; omega
 ·rcases h.ss with e | ⟨g',e,_,hl⟩
  ·exact absurd e h1
  ·rw [h2] at e; injection e with e; injection e with e _; have:=hl.blk; omega
theorem BbOwn.midNe {X:Nat} (h:BbOwn base w a b x) (hn:∀ g o,(x.binds≠[]∧a=some ⟨g,o,none⟩)∨(x.sess≠[]∧b=some ⟨g,o,none⟩)→g≠X) (vs:List Value):BbOwn base (w.setCells X 0 vs.toArray.toList) a b x:=by
 rw [List.toList_toArray,← stor_cells]; exact h.grownNe (grown_stor vs (World.grownBy.refl _ _)) hn
theorem Bxs.mid {ks:List (Nat × List Value)} {X:Nat} (h:Bxs w ks W) (hb:w.heap.size≤X) (hks:∀ e∈ks,e.1≠X) (vs:List Value):Bxs w ks (W.setCells X 0 vs.toArray.toList):=by
 rw [List.toList_toArray,← stor_cells]; exact h.stor hb hks vs
end
theorem noE_len (c:Int):(noE c).bib.binds.length≤1048576∧(noE c).bib.sess.length≤1048576:=⟨by simp [noE,bbZ],by simp [noE,bbZ]⟩
theorem no_len_NatCome (p:Pl) (x:Bb) (q:P4) (now:Int) (hsz:∀ s∈p.addrs,s.size≤1048576):(natComeV p x q now).bib.binds.length≤1048576∧(natComeV p x q now).bib.sess.length≤1048576:=by
 unfold natComeV;split
 ·exact noE_len _
 ·rename_i h;have h0:natFt p x q now=0:=by simpa using h
  obtain ⟨h1,h2,h3⟩:=nat_parts h0;obtain ⟨s1,s2,s3,s4⟩:=v4_sizes h2;unfold natComeIn;split
  ·exact noE_len _
  ·split
   ·exact noE_len _
   ·rename_i hc;split
    ·exact noE_len _
    ·rename_i hn;split
     ·exact noE_len _
     ·have hc0:ofCode q.src.size q.proto q.data=0:=by simpa using hc
      have hn0:(goV p x (comeT (ofFl q.src q.dst q.proto q.data) q.data) now).code=0:=by simpa using hn
      have hg:=go_right (bibR_iff.1 h1) h3 (comeT_ok s1 s2 hc0) hn0;have:=bib_small hg.1 hsz;exact ⟨this.1,this.2.1⟩
end Go.Proofs.YtcckaeppiamebaaGreatDoor
namespace Go.Proofs.YtcckaeppiamebaaGreatDoor
open Go.RowKit
theorem wpList_load_g {P:Program} {ops:Array Oper} {rest:List Oper} {op:Oper} {a:Act} {w:World} {Q:Exit→Act→World→Prop} (hw:Region.wanted op (yielded ops a.tmps)=true) (ty:TypeId) (x:Operand) (ho:op.op=.load ty x)
  (b o:Nat) (hx:a.eval x=.pointer (some ⟨b,o,none⟩)) (cs:List Value) (d:TypeDesc) (hc:w.rangeAt b o cs)
  (hu:P.underlying ty=some d) (hd:d.isRow=true) (hi:(P.info? ty).map (·.size)=some cs.length)
  (h:wpList P ops Q rest (a.put op.dst (.agg cs.toArray)) w):wpList P ops Q (op::rest) a w :=
 wpList_step fun K hK=>by rw [if_pos hw]; exact wp_load_mid ty x ho b o hx cs d hc hu hd hi (hK _ _ h)
open Go.PlainAid
theorem sp9Port_any (f:Fl) (n:Int) (w:World) :
  Cb 87 #[fwC f,iV n] w (iV (peerV f.proto n)):=by
 have HE:Hid (∀ W,Cw 83 #[iV f.proto] W (.bool (echoP f.proto))):=fun W=>spEcho_any _ W
 have HV:Hid (peerV f.proto n=if echoP f.proto=true then 0 else n):=rfl;generalize peerV f.proto n=ans at *;generalize echoP f.proto=b at *;obtain ⟨proto,src,dst,sp,dp⟩:=f;unfold fwC;dsimp only at *;have HS0:=bx1 w (FlR proto src dst sp dp) 91 (by simp)
 skip;have HB:Hid _:=HS0.out.b;clear HS0;go_enter Tryz.func87,Tryz.ntmps87
 go_wp2_with fail
 refine (HE.out _).mono ?_;rintro e w2 ⟨rfl,rfl⟩
 cases b with
 | false =>
  go_wp2_with fail
  go_ret;exact ⟨ret_int (by rw [HV.out]; rfl),HB.out⟩
 | true =>
  go_wp2_with fail
  go_ret;exact ⟨ret_int (by rw [HV.out]; rfl),HB.out⟩
theorem sp9Flags_any (f:Fl) (t:ByteArray) (w:World) (ht:t.size≤1048576) (h20:f.proto=6→20≤t.size) :
  Cb 88 #[fwC f,.string t] w (iV (flagV f.proto t)):=by
 obtain ⟨proto,src,dst,sp,dp⟩:=f;unfold fwC;dsimp only at *;have HS0:=bx1 w (FlR proto src dst sp dp) 91 (by simp)
 skip;have HB:Hid _:=HS0.out.b;clear HS0;by_cases h:proto=6
 case pos =>
  have h20':=h20 h;subst h;have HV:Hid (flagV 6 t=bt t 13):=rfl;have hb:=get_bt t;have b1:=bt_isByte t 13;generalize flagV 6 t=ans at *;have hi:¬ (t.size:Int)≤13:=by omega
  have hj:(13:Int) < t.size:=by omega
  go_enter Tryz.func88,Tryz.ntmps88
  go_wp2_with fail
  go_ret;exact ⟨ret_int HV.out.symm,HB.out⟩
 have HV:Hid (flagV proto t=0):=if_neg h;generalize flagV proto t=ans at *;have d0:(proto != 6)=true:=by simp [h]
 go_enter Tryz.func88,Tryz.ntmps88
 go_wp2_with fail
 go_ret;exact ⟨ret_int (by rw [HV.out]),HB.out⟩
theorem sp9Kind_any (f g:Fl) (w:World) (hg:g.src.size≤1048576) :
  Cb 95 #[fwC f,fwC g] w (fwC (kindF f g)):=by
 have HE:Hid (∀ W,Cw 83 #[iV f.proto] W (.bool (echoP f.proto))):=fun W=>spEcho_any _ W
 have HV:Hid (kindF f g=if echoP f.proto=true then ⟨if g.src.size=16 then 58 else 1,g.src,g.dst,g.sp,g.sp⟩ else g):=rfl;generalize kindF f g=ans at *;generalize echoP f.proto=b at *;obtain ⟨proto,src,dst,sp,dp⟩:=f;obtain ⟨proto',src',dst',sp',dp'⟩:=g;unfold fwC;dsimp only at *;have HS0:=bx3 w (FlR proto src dst sp dp) 91 (FlR proto' src' dst' sp' dp') 91 (FlR 0 ⟨#[]⟩ ⟨#[]⟩ 0 0) 91 (by simp) (by simp) (by simp)
 skip;have hRw:w.heap.size≤w.heap.size+1+1:=by omega
 have hGw:w.heap.size≤w.heap.size+1:=by omega
 go_enter Tryz.func95,Tryz.ntmps95
 go_upto_region 1 with fail
 generalize ((aW (aW w (FlR proto src dst sp dp) 91) (FlR proto' src' dst' sp' dp') 91).alloc (.cells (FlR 0 ⟨#[]⟩ ⟨#[]⟩ 0 0).toArray 91))=W0 at *;have HHk:=HS0.out.at mE0;obtain ⟨k0,k1,k2,k3,k4⟩:=HHk.c5;clear HHk;go_wp2_with fail
 refine (HE.out _).mono ?_;rintro e W0 ⟨rfl,rfl⟩
 cases b with
 | false =>
  have HX:Hid (ans=⟨proto',src',dst',sp',dp'⟩):=HV.out;clear HV;have HHl:=HS0.out.at mE1;obtain ⟨l0,l1,l2,l3,l4⟩:=HHl.c5;clear HHl;have HHz:=HS0.out.at mE2;obtain ⟨z0,z1,z2,z3,z4⟩:=HHz.c5;obtain ⟨zf0,zf1,zf2,zf3,zf4⟩:=HHz.f5;have HRR:Hid (HoldsL ((sW (sW (sW (sW W0 (w.heap.size+1+1) 0 (iV proto')) (w.heap.size+1+1) 1 (.string src')) (w.heap.size+1+1) 2 (.string dst')) (w.heap.size+1+1) 3 (iV sp')).setCell ⟨w.heap.size+1+1,4,none⟩ (iV dp')) (w.heap.size+1+1) (FlR proto' src' dst' sp' dp')):=(((((HHz.set 0 (iV proto')).set 1 (.string src')).set 2 (.string dst')).set 3 (iV sp')).set 4 (iV dp'));have RB:Hid _:=(((((HS0.out.b.setCell (p:=⟨w.heap.size+1+1,0,none⟩) hRw (iV proto')).setCell (p:=⟨w.heap.size+1+1,1,none⟩) hRw (.string src')).setCell (p:=⟨w.heap.size+1+1,2,none⟩) hRw (.string dst')).setCell (p:=⟨w.heap.size+1+1,3,none⟩) hRw (iV sp')).setCell (p:=⟨w.heap.size+1+1,4,none⟩) hRw (iV dp'));clear HHz;go_wp2_with fail
  exact bodyPost_ret (results_mid Tryz.results95 _ _ (w.heap.size+1+1) (FlR proto' src' dst' sp' dp') _ rfl HRR.out Tryz.underlying91 rfl (show (Tryz.prog.info? 91).map (·.size)=some 5 by kernel_rfl)) rfl (And.intro (by rw [HX.out]) RB.out)
 | true =>
  by_cases h16:src'.size=16
  case pos =>
   have HX:Hid (ans=⟨58,src',dst',sp',sp'⟩):=by unfold Hid; rw [HV.out,if_pos rfl]; simp [h16]
   have d16:((src'.size:Int)==16)=true:=by rw [h16]; rfl
   clear HV h16;have HHg:=HS0.out.at mE1;obtain ⟨l0,l1,l2,l3,l4⟩:=HHg.c5;obtain ⟨lf0,lf1,lf2,lf3,lf4⟩:=HHg.f5;have S2:Hid (Bxs w [(w.heap.size+1,(FlR 58 src' dst' sp' sp')),(w.heap.size+1+1,(FlR 0 ⟨#[]⟩ ⟨#[]⟩ 0 0))] ((sW (sW W0 (w.heap.size+1) 4 (iV sp')) (w.heap.size+1) 0 (iV 1)).setCell ⟨w.heap.size+1,0,none⟩ (iV 58))):=⟨fun e he=>by
    simp only [List.mem_cons,List.not_mem_nil,or_false] at he;rcases he with rfl | rfl
    ·exact ((HHg.set 4 (iV sp')).set 0 (iV 1)).set 0 (iV 58)
    ·exact (HoldsL.setOther (HoldsL.setOther (HoldsL.setOther (HS0.out.k _ mE2) (by show w.heap.size+1+1≠w.heap.size+1; omega) _) (by show w.heap.size+1+1≠w.heap.size+1; omega) _) (by show w.heap.size+1+1≠w.heap.size+1; omega) _),(((HS0.out.b.setCell (p:=⟨w.heap.size+1,4,none⟩) hGw _).setCell (p:=⟨w.heap.size+1,0,none⟩) hGw _).setCell (p:=⟨w.heap.size+1,0,none⟩) hGw _),fun e he=>by
    simp only [List.mem_cons,List.not_mem_nil,or_false] at he;rcases he with rfl | rfl<;>simp⟩
   clear HHg;go_upto_region 7 with fail
   generalize ((sW (sW W0 (w.heap.size+1) 4 (iV sp')) (w.heap.size+1) 0 (iV 1)).setCell ⟨w.heap.size+1,0,none⟩ (iV 58))=W2 at *;clear l0 lf0 l1 lf1 l2 lf2 l3 lf3 l4 lf4 HS0 k0 k1 k2 k3 k4;have HHl:=S2.out.at mE0;obtain ⟨l0,l1,l2,l3,l4⟩:=HHl.c5;clear HHl;have HHz:=S2.out.at mE1;obtain ⟨z0,z1,z2,z3,z4⟩:=HHz.c5;obtain ⟨zf0,zf1,zf2,zf3,zf4⟩:=HHz.f5;have HRR:Hid (HoldsL ((sW (sW (sW (sW W2 (w.heap.size+1+1) 0 (iV 58)) (w.heap.size+1+1) 1 (.string src')) (w.heap.size+1+1) 2 (.string dst')) (w.heap.size+1+1) 3 (iV sp')).setCell ⟨w.heap.size+1+1,4,none⟩ (iV sp')) (w.heap.size+1+1) (FlR 58 src' dst' sp' sp')):=(((((HHz.set 0 (iV 58)).set 1 (.string src')).set 2 (.string dst')).set 3 (iV sp')).set 4 (iV sp'));have RB:Hid _:=(((((S2.out.b.setCell (p:=⟨w.heap.size+1+1,0,none⟩) hRw (iV 58)).setCell (p:=⟨w.heap.size+1+1,1,none⟩) hRw (.string src')).setCell (p:=⟨w.heap.size+1+1,2,none⟩) hRw (.string dst')).setCell (p:=⟨w.heap.size+1+1,3,none⟩) hRw (iV sp')).setCell (p:=⟨w.heap.size+1+1,4,none⟩) hRw (iV sp'));clear HHz;go_wp2_with fail
   exact bodyPost_ret (results_mid Tryz.results95 _ _ (w.heap.size+1+1) (FlR 58 src' dst' sp' sp') _ rfl HRR.out Tryz.underlying91 rfl (show (Tryz.prog.info? 91).map (·.size)=some 5 by kernel_rfl)) rfl (And.intro (by rw [HX.out]) RB.out)
  case neg =>
   have HX:Hid (ans=⟨1,src',dst',sp',sp'⟩):=by unfold Hid; rw [HV.out,if_pos rfl]; simp [h16]
   have d16:((src'.size:Int)==16)=false:=by simp; omega
   clear HV h16;have HHg:=HS0.out.at mE1;obtain ⟨l0,l1,l2,l3,l4⟩:=HHg.c5;obtain ⟨lf0,lf1,lf2,lf3,lf4⟩:=HHg.f5;have S2:Hid (Bxs w [(w.heap.size+1,(FlR 1 src' dst' sp' sp')),(w.heap.size+1+1,(FlR 0 ⟨#[]⟩ ⟨#[]⟩ 0 0))] ((sW W0 (w.heap.size+1) 4 (iV sp')).setCell ⟨w.heap.size+1,0,none⟩ (iV 1))):=⟨fun e he=>by
    simp only [List.mem_cons,List.not_mem_nil,or_false] at he;rcases he with rfl | rfl
    ·exact ((HHg.set 4 (iV sp')).set 0 (iV 1))
    ·exact (HoldsL.setOther (HoldsL.setOther (HS0.out.k _ mE2) (by show w.heap.size+1+1≠w.heap.size+1; omega) _) (by show w.heap.size+1+1≠w.heap.size+1; omega) _),((HS0.out.b.setCell (p:=⟨w.heap.size+1,4,none⟩) hGw _).setCell (p:=⟨w.heap.size+1,0,none⟩) hGw _),fun e he=>by
    simp only [List.mem_cons,List.not_mem_nil,or_false] at he;rcases he with rfl | rfl<;>simp⟩
   clear HHg;go_upto_region 7 with fail
   generalize ((sW W0 (w.heap.size+1) 4 (iV sp')).setCell ⟨w.heap.size+1,0,none⟩ (iV 1))=W2 at *;clear l0 lf0 l1 lf1 l2 lf2 l3 lf3 l4 lf4 HS0 k0 k1 k2 k3 k4;have HHl:=S2.out.at mE0;obtain ⟨l0,l1,l2,l3,l4⟩:=HHl.c5;clear HHl;have HHz:=S2.out.at mE1;obtain ⟨z0,z1,z2,z3,z4⟩:=HHz.c5;obtain ⟨zf0,zf1,zf2,zf3,zf4⟩:=HHz.f5;have HRR:Hid (HoldsL ((sW (sW (sW (sW W2 (w.heap.size+1+1) 0 (iV 1)) (w.heap.size+1+1) 1 (.string src')) (w.heap.size+1+1) 2 (.string dst')) (w.heap.size+1+1) 3 (iV sp')).setCell ⟨w.heap.size+1+1,4,none⟩ (iV sp')) (w.heap.size+1+1) (FlR 1 src' dst' sp' sp')):=(((((HHz.set 0 (iV 1)).set 1 (.string src')).set 2 (.string dst')).set 3 (iV sp')).set 4 (iV sp'));have RB:Hid _:=(((((S2.out.b.setCell (p:=⟨w.heap.size+1+1,0,none⟩) hRw (iV 1)).setCell (p:=⟨w.heap.size+1+1,1,none⟩) hRw (.string src')).setCell (p:=⟨w.heap.size+1+1,2,none⟩) hRw (.string dst')).setCell (p:=⟨w.heap.size+1+1,3,none⟩) hRw (iV sp')).setCell (p:=⟨w.heap.size+1+1,4,none⟩) hRw (iV sp'));clear HHz;go_wp2_with fail
   exact bodyPost_ret (results_mid Tryz.results95 _ _ (w.heap.size+1+1) (FlR 1 src' dst' sp' sp') _ rfl HRR.out Tryz.underlying91 rfl (show (Tryz.prog.info? 91).map (·.size)=some 5 by kernel_rfl)) rfl (And.intro (by rw [HX.out]) RB.out)
theorem sp9To_any (f:Fl) (s d:ByteArray) (n:Int) (w:World) (hs:s.size≤1048576) :
  Cb 71 #[fwC f,.string s,.string d,iV n] w (fwC (toF f s d n)):=by
 have HE:Hid (∀ W,Cw 83 #[iV f.proto] W (.bool (echoP f.proto))):=fun W=>spEcho_any _ W
 have HK:Hid (∀ W,Cb 95 #[fwC f,fwC ⟨f.proto,s,d,if echoP f.proto=true then n else f.sp,n⟩] W (fwC (toF f s d n))):=fun W=>sp9Kind_any f ⟨f.proto,s,d,_,n⟩ W hs
 generalize toF f s d n=ans at *;generalize echoP f.proto=b at *;obtain ⟨proto,src,dst,sp,dp⟩:=f;unfold fwC at *;dsimp only at *;have HS0:=bx2 w (FlR proto src dst sp dp) 91 (FlR 0 ⟨#[]⟩ ⟨#[]⟩ 0 0) 91 (by simp) (by simp)
 skip;have hRw:w.heap.size≤w.heap.size+1:=by omega
 go_enter Tryz.func71,Tryz.ntmps71
 go_upto_region 1 with fail
 generalize ((aW w (FlR proto src dst sp dp) 91).alloc (.cells (FlR 0 ⟨#[]⟩ ⟨#[]⟩ 0 0).toArray 91))=W0 at *;have HHk:=HS0.out.at mE0;obtain ⟨k0,k1,k2,k3,k4⟩:=HHk.c5;clear HHk;have S1:Hid (Bxs w ((W0.heap.size,(FlR proto s d sp n))::[(w.heap.size,(FlR proto src dst sp dp)),(w.heap.size+1,(FlR 0 ⟨#[]⟩ ⟨#[]⟩ 0 0))]) (W0.alloc (.cells (FlR proto s d sp n).toArray 91))):=HS0.out.push (FlR proto s d sp n) (by simp) _;have hrg:w.heap.size+1 < W0.heap.size:=(HS0.out.k _ mE1).lt (by simp);go_upto_region 2 with fail
 clear HS0 k0 k1 k2 k3 k4;generalize (W0.alloc (.cells (FlR proto s d sp n).toArray 91))=W1 at *;generalize W0.heap.size=G at *;have HHk:=S1.out.at mE1;obtain ⟨k0,k1,k2,k3,k4⟩:=HHk.c5;clear HHk;go_wp2_with fail
 refine (HE.out _).mono ?_;rintro e W1 ⟨rfl,rfl⟩
 cases b with
 | false =>
  clear k0 k1 k2 k3 k4;have HHk:=S1.out.at mE1;obtain ⟨k0,k1,k2,k3,k4⟩:=HHk.c5;clear HHk;have HHl:=S1.out.at mE0;obtain ⟨l0,l1,l2,l3,l4⟩:=HHl.c5;clear HHl;go_wp2_with fail
  refine (HK.out _).mono ?_;rintro e W2 ⟨rfl,q2⟩;have S2:Hid _:=S1.out.kept q2;clear q2 k0 k1 k2 k3 k4 l0 l1 l2 l3 l4;have HHz:=S2.out.at mE2;obtain ⟨z0,z1,z2,z3,z4⟩:=HHz.c5;obtain ⟨zf0,zf1,zf2,zf3,zf4⟩:=HHz.f5;have HRR:Hid (HoldsL ((sW (sW (sW (sW W2 (w.heap.size+1) 0 (iV ans.proto)) (w.heap.size+1) 1 (.string ans.src)) (w.heap.size+1) 2 (.string ans.dst)) (w.heap.size+1) 3 (iV ans.sp)).setCell ⟨w.heap.size+1,4,none⟩ (iV ans.dp)) (w.heap.size+1) (FlV ans)):=(((((HHz.set 0 (iV ans.proto)).set 1 (.string ans.src)).set 2 (.string ans.dst)).set 3 (iV ans.sp)).set 4 (iV ans.dp));have RB:Hid _:=(((((S2.out.b.setCell (p:=⟨w.heap.size+1,0,none⟩) hRw (iV ans.proto)).setCell (p:=⟨w.heap.size+1,1,none⟩) hRw (.string ans.src)).setCell (p:=⟨w.heap.size+1,2,none⟩) hRw (.string ans.dst)).setCell (p:=⟨w.heap.size+1,3,none⟩) hRw (iV ans.sp)).setCell (p:=⟨w.heap.size+1,4,none⟩) hRw (iV ans.dp));clear HHz;go_wp2_with fail
  exact bodyPost_ret (results_mid Tryz.results71 _ _ (w.heap.size+1) (FlV ans) _ rfl HRR.out Tryz.underlying91 rfl (show (Tryz.prog.info? 91).map (·.size)=some 5 by kernel_rfl)) rfl (And.intro rfl RB.out)
 | true =>
  have HHg:=S1.out.at mE0;have l3:=HHg.cell (j:=3) rfl;have lf3:=HHg.free (j:=3) (by simp);have S1':Hid (Bxs w [(G,(FlR proto s d n n)),(w.heap.size,(FlR proto src dst sp dp)),(w.heap.size+1,(FlR 0 ⟨#[]⟩ ⟨#[]⟩ 0 0))] (W1.setCell ⟨G,3,none⟩ (iV n))):=⟨fun e he=>by
   simp only [List.mem_cons,List.not_mem_nil,or_false] at he;rcases he with rfl | rfl | rfl
   ·exact HHg.set 3 _
   ·exact HoldsL.setOther (S1.out.k _ mE1) (by show w.heap.size≠G; omega) _
   ·exact HoldsL.setOther (S1.out.k _ mE2) (by show w.heap.size+1≠G; omega) _,S1.out.b.setCell (p:=⟨G,3,none⟩) (by show w.heap.size≤G; omega) _,fun e he=>by
   simp only [List.mem_cons,List.not_mem_nil,or_false] at he;rcases he with rfl | rfl | rfl<;>simp⟩
  clear HHg S1;go_upto_region 4 with fail
  generalize (W1.setCell ⟨G,3,none⟩ (iV n))=W3 at *;clear l3 lf3 k0 k1 k2 k3 k4;have HHk:=S1'.out.at mE1;obtain ⟨k0,k1,k2,k3,k4⟩:=HHk.c5;clear HHk;have HHl:=S1'.out.at mE0;obtain ⟨l0,l1,l2,l3,l4⟩:=HHl.c5;clear HHl;go_wp2_with fail
  refine (HK.out _).mono ?_;rintro e W2 ⟨rfl,q2⟩;have S2:Hid (Bxs w [(G,(FlR proto s d n n)),(w.heap.size,(FlR proto src dst sp dp)),(w.heap.size+1,(FlR 0 ⟨#[]⟩ ⟨#[]⟩ 0 0))] W2):=S1'.out.kept q2;clear q2 k0 k1 k2 k3 k4 l0 l1 l2 l3 l4;have HHz:=S2.out.at mE2;obtain ⟨z0,z1,z2,z3,z4⟩:=HHz.c5;obtain ⟨zf0,zf1,zf2,zf3,zf4⟩:=HHz.f5;have HRR:Hid (HoldsL ((sW (sW (sW (sW W2 (w.heap.size+1) 0 (iV ans.proto)) (w.heap.size+1) 1 (.string ans.src)) (w.heap.size+1) 2 (.string ans.dst)) (w.heap.size+1) 3 (iV ans.sp)).setCell ⟨w.heap.size+1,4,none⟩ (iV ans.dp)) (w.heap.size+1) (FlV ans)):=(((((HHz.set 0 (iV ans.proto)).set 1 (.string ans.src)).set 2 (.string ans.dst)).set 3 (iV ans.sp)).set 4 (iV ans.dp));have RB:Hid _:=(((((S2.out.b.setCell (p:=⟨w.heap.size+1,0,none⟩) hRw (iV ans.proto)).setCell (p:=⟨w.heap.size+1,1,none⟩) hRw (.string ans.src)).setCell (p:=⟨w.heap.size+1,2,none⟩) hRw (.string ans.dst)).setCell (p:=⟨w.heap.size+1,3,none⟩) hRw (iV ans.sp)).setCell (p:=⟨w.heap.size+1,4,none⟩) hRw (iV ans.dp));clear HHz;go_wp2_with fail
  exact bodyPost_ret (results_mid Tryz.results71 _ _ (w.heap.size+1) (FlV ans) _ rfl HRR.out Tryz.underlying91 rfl (show (Tryz.prog.info? 91).map (·.size)=some 5 by kernel_rfl)) rfl (And.intro rfl RB.out)
end Go.Proofs.YtcckaeppiamebaaGreatDoor
