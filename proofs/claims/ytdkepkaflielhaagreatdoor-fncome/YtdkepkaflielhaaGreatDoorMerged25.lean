import Derived.Test.YtdkepkaflielhaaGreatDoorMerged24
set_option linter.unusedVariables false
set_option linter.unusedSimpArgs false
set_option maxRecDepth 100000
set_option maxHeartbeats 8000000
namespace Go.Proofs.YtdkepkaflielhaaGreatDoor
open Go.RowKit Go.PlainAid
structure BoxG (w:World) (X:Nat) (f:Fl):Prop where
 c0:w.cell? ⟨X,0,none⟩=some (iV f.proto)
 f0:w.frozen? ⟨X,0,none⟩=false
 c1:w.cell? ⟨X,1,none⟩=some (.string f.src)
 f1:w.frozen? ⟨X,1,none⟩=false
 c2:w.cell? ⟨X,2,none⟩=some (.string f.dst)
 f2:w.frozen? ⟨X,2,none⟩=false
 c3:w.cell? ⟨X,3,none⟩=some (iV f.sp)
 f3:w.frozen? ⟨X,3,none⟩=false
 c4:w.cell? ⟨X,4,none⟩=some (iV f.dp)
 f4:w.frozen? ⟨X,4,none⟩=false
section
variable {w w':World} {X:Nat} {f:Fl}
theorem BoxG.new (w:World) (f:Fl) {t:TypeId}:BoxG (w.alloc (.cells (FlV f).toArray t)) w.heap.size f:=⟨cell_new rfl,by simp,cell_new rfl,by simp,cell_new rfl,by simp,cell_new rfl,by simp,cell_new rfl,by simp⟩
theorem BoxG.kept (h:BoxG w X f) (q:Below w.heap.size w w'):BoxG w' X f:=by
 have hb:=World.block_lt_of_cell? w _ h.c0;obtain ⟨hc,hf⟩:=bcell q;exact ⟨(hc X 0 hb).trans h.c0,(hf X 0 hb).trans h.f0,(hc X 1 hb).trans h.c1,(hf X 1 hb).trans h.f1,(hc X 2 hb).trans h.c2,(hf X 2 hb).trans h.f2,(hc X 3 hb).trans h.c3,(hf X 3 hb).trans h.f3,(hc X 4 hb).trans h.c4,(hf X 4 hb).trans h.f4⟩
theorem BoxG.other (h:BoxG w X f) {C o:Nat} (v:Value) (hC:C≠X):BoxG (w.setCell ⟨C,o,none⟩ v) X f:=by
 have hc:∀ j,(w.setCell ⟨C,o,none⟩ v).cell? ⟨X,j,none⟩=w.cell? ⟨X,j,none⟩:=fun j=>World.cell?_setCell_other w _ _ v (fun e=>hC (congrArg Addr.block e))
 have hf:∀ j,(w.setCell ⟨C,o,none⟩ v).frozen? ⟨X,j,none⟩=w.frozen? ⟨X,j,none⟩:=fun j=>by simp
 exact ⟨(hc 0).trans h.c0,(hf 0).trans h.f0,(hc 1).trans h.c1,(hf 1).trans h.f1,(hc 2).trans h.c2,(hf 2).trans h.f2,(hc 3).trans h.c3,(hf 3).trans h.f3,(hc 4).trans h.c4,(hf 4).trans h.f4⟩
theorem BoxG.set3 (h:BoxG w X f) (q:Int):BoxG (w.setCell ⟨X,3,none⟩ (iV q)) X ⟨f.proto,f.src,f.dst,q,f.dp⟩:=by
 obtain ⟨c0,f0,c1,f1,c2,f2,c3,f3,c4,f4⟩:=h;constructor<;>simp [go_sem,c0,f0,c1,f1,c2,f2,c3,f3,c4,f4]
end
theorem spOf_any (s d:ByteArray) (p:Int) (t:ByteArray) (w:World) (hs:s.size≤1048576) (ht:t.size≤1048576) :
  Cb 32 #[.string s,.string d,iV p,.string t] w (.tuple #[fwC (ofFl s d p t),iV (ofCode s.size p t)]):=by
 have HB1:Hid (∀ W,Cw 66 #[iV p,iV s.size] W (.bool (protoOk p s.size))):=fun W=>spProto_any _ _ W (by unfold maxLen; omega)
 have HB2:Hid (∀ W,Cw 44 #[iV p] W (.bool (echoP p))):=fun W=>spEcho_any _ W
 have HN:Hid (ofCode s.size p t≠0→fwC (ofFl s d p t)=.agg (FlR p s d 0 0).toArray):=fun h=>by unfold ofFl; rw [if_neg h]; rfl
 cases a1:protoOk p s.size with
 | false =>
  have HV:Hid (ofCode s.size p t=11):=by unfold Hid ofCode; rw [if_pos a1]
  have HW:Hid (fwC (ofFl s d p t)=.agg (FlR p s d 0 0).toArray):=HN.out (by rw [HV.out]; decide);rw [a1] at HB1;rw [HV.out,HW.out];clear HN HV HW HB2;go_enter Tryz.func32,Tryz.ntmps32
  go_wp2_with fail
  refine (HB1.out _).mono ?_;rintro e w2 ⟨rfl,rfl⟩;go_wp2_with fail
  refine bodyPost_ret (v:=.tuple #[.agg (FlR p s d 0 0).toArray,iV 11]) (by simp [results,Tryz.results32,go_sem]) rfl ⟨rfl,?_⟩;exact (bR.alloc lR _).alloc (by simp) _
 | true =>
  have hb:=get_bt t;have b12:=bt_isByte t 12;have b0:=bt_isByte t 0;have b1:=bt_isByte t 1;have HC:Hid (∀ k:Nat,k+1 < t.size→∀ W,Cb 42 #[.string t,iV k] W (iV (wordN (bt t) k))):=fun k hk W=>specAt_any t k W hk (by unfold maxLen; omega)
  have HS:Hid (shortP p t=((decide (p=6)&&(decide (t.size < 20)||decide (bt t 12 / 16 < 5)||decide ((t.size:Int) < 4*(bt t 12 / 16))))||decide (t.size < 8))):=rfl;have HV:Hid (ofCode s.size p t=if shortP p t=true then 4 else if echoP p=true then (if (bt t 0≠askP p∧bt t 0≠ansP p)∨bt t 1≠0 then 11 else 0) else 0):=by unfold Hid ofCode; rw [if_neg (by rw [a1]; decide)]
  have HY:Hid (ofCode s.size p t=0→fwC (ofFl s d p t)=.agg (FlR p s d (if echoP p=true then wordN (bt t) 4 else wordN (bt t) 0) (if echoP p=true then wordN (bt t) 4 else wordN (bt t) 2)).toArray):=fun h=>by
   unfold ofFl; rw [if_pos h]; split<;>rfl
  have HL:Hid (shortP p t=false→8≤t.size):=fun h=>by
   unfold shortP at h; rw [Bool.or_eq_false_iff,decide_eq_false_iff_not] at h; omega
  rw [a1] at HB1;generalize ofCode s.size p t=code at *;generalize fwC (ofFl s d p t)=out at *;generalize shortP p t=sh at *;clear a1;go_enter Tryz.func32,Tryz.ntmps32
  go_wp2_with fail
  refine (HB1.out _).mono ?_;rintro e w2 ⟨rfl,rfl⟩;clear HB1;go_upto_region 4 with fail
  have HWB:Hid (Below w.heap.size w ((aW w (FlR 0 ⟨#[]⟩ ⟨#[]⟩ 0 0) 43).alloc (.cells (FlR p s d 0 0).toArray 43))):=(bR.alloc lR _).alloc (by simp) _;have KF:Hid (BoxG ((aW w (FlR 0 ⟨#[]⟩ ⟨#[]⟩ 0 0) 43).alloc (.cells (FlR p s d 0 0).toArray 43)) (w.heap.size+1) ⟨p,s,d,0,0⟩):=by
   have h:=BoxG.new (w.alloc (.cells (FlR 0 ⟨#[]⟩ ⟨#[]⟩ 0 0).toArray 43)) ⟨p,s,d,0,0⟩ (t:=43);rw [show (w.alloc (.cells (FlR 0 ⟨#[]⟩ ⟨#[]⟩ 0 0).toArray 43)).heap.size=w.heap.size+1 by simp] at h;exact h
  have KR:Hid (BoxG ((aW w (FlR 0 ⟨#[]⟩ ⟨#[]⟩ 0 0) 43).alloc (.cells (FlR p s d 0 0).toArray 43)) w.heap.size ⟨0,⟨#[]⟩,⟨#[]⟩,0,0⟩):=(BoxG.new w ⟨0,⟨#[]⟩,⟨#[]⟩,0,0⟩).kept (bR.alloc lR _);go_cut [24] (fun c wx=>c=.bool sh∧wx=(aW w (FlR 0 ⟨#[]⟩ ⟨#[]⟩ 0 0) 43).alloc (.cells (FlR p s d 0 0).toArray 43))
  case first =>
   clear HV HY HN HL HC HB2 HWB KF KR;by_cases c1:p=6
   ·have d1:(p==6)=true:=by simp [c1]
    by_cases c2:t.size < 20
    ·have hB:sh=true:=by rw [HS.out,decide_eq_true c1,decide_eq_true c2]; rfl
     clear HS c1;subst hB;go_wp2_with fail
     go_meet;exact ⟨rfl,rfl⟩
    ·by_cases c3:bt t 12 / 16 < 5
     ·have hB:sh=true:=by rw [HS.out,decide_eq_true c1,decide_eq_true c3]; simp
      clear HS c1;subst hB;go_wp2_with fail
      go_meet;exact ⟨rfl,rfl⟩
     ·by_cases c4:(t.size:Int) < 4*(bt t 12 / 16)
      ·have hB:sh=true:=by rw [HS.out,decide_eq_true c1,decide_eq_true c4]; simp
       clear HS c1;subst hB;go_wp2_with fail
       go_meet;exact ⟨rfl,rfl⟩
      ·have hB:sh=false:=by rw [HS.out,decide_eq_false c2,decide_eq_false c3,decide_eq_false c4,decide_eq_false (show ¬ t.size < 8 by omega)]; simp
       clear HS c1;subst hB;go_wp2_with fail
       go_meet;exact ⟨congrArg Value.bool (by simp; omega),rfl⟩
   ·have d1:(p==6)=false:=by simp [c1]
    by_cases c2:t.size < 8
    ·have hB:sh=true:=by rw [HS.out,decide_eq_true c2]; simp
     clear HS c1;subst hB;go_wp2_with fail
     go_meet;exact ⟨congrArg Value.bool (by simp; omega),rfl⟩
    ·have hB:sh=false:=by rw [HS.out,decide_eq_false c1,decide_eq_false c2]; rfl
     clear HS c1;subst hB;go_wp2_with fail
     go_meet;exact ⟨congrArg Value.bool (by simp; omega),rfl⟩
  case rest =>
  obtain ⟨rfl,rfl⟩:=hcut;clear HS
  cases sh with
  | true =>
   have HV2:Hid (code=4):=HV.out;have HO:Hid (out=.agg (FlR p s d 0 0).toArray):=HN.out (by rw [HV2.out]; decide);clear HV HY HN HL HC HB2 HWB KF KR;go_wp2_with fail
   refine bodyPost_ret (v:=.tuple #[.agg (FlR p s d 0 0).toArray,iV 4]) (by simp [results,Tryz.results32,go_sem]) rfl ⟨by rw [HV2.out,HO.out],?_⟩;exact (bR.alloc lR _).alloc (by simp) _
  | false =>
   have hl:=HL.out rfl;replace HV:Hid (code=if echoP p=true then (if (bt t 0≠askP p∧bt t 0≠ansP p)∨bt t 1≠0 then 11 else 0) else 0):=HV.out;have HC4:Hid _:=HC.out 4 (by omega);have HC0:Hid _:=HC.out 0 (by omega);have HC2:Hid _:=HC.out 2 (by omega);clear HL HC
   cases a2:echoP p with
   | false =>
    have HV2:Hid (code=0):=by unfold Hid; rw [HV.out,a2]; rfl
    have HO:Hid (out=.agg (FlR p s d (wordN (bt t) 0) (wordN (bt t) 2)).toArray):=by unfold Hid; rw [HY.out HV2.out,a2]; rfl
    rw [a2] at HB2;clear HV HY HN HC4 a2;generalize wordN (bt t) 0=x0 at *;generalize wordN (bt t) 2=x2 at *;go_wp2_with fail
    refine (HB2.out _).mono ?_;rintro e w2 ⟨rfl,rfl⟩;go_wp2_with fail
    refine (HC0.out _).mono ?_;rintro e w3 ⟨rfl,q3⟩;have G3:Hid _:=HWB.out.trans (q3.mono HWB.out.size);have K3:Hid (BoxG w3 (w.heap.size+1) ⟨p,s,d,0,0⟩):=KF.out.kept q3;have R3:Hid (BoxG w3 w.heap.size ⟨0,⟨#[]⟩,⟨#[]⟩,0,0⟩):=KR.out.kept q3;clear q3 HWB KF KR;obtain ⟨k0,y0,k1,y1,k2,y2,k3,y3,k4,y4⟩:=K3.out;go_wp2_with fail
    refine (HC2.out _).mono ?_;rintro e w4 ⟨rfl,q4⟩;have G4:Hid (Below w.heap.size w w4):=(G3.out.setCell (Nat.le_succ _) _).trans (q4.mono (G3.out.setCell (Nat.le_succ _) _).size);have K4:Hid (BoxG w4 (w.heap.size+1) ⟨p,s,d,x0,0⟩):=(K3.out.set3 x0).kept q4;have R4:Hid (BoxG w4 w.heap.size ⟨0,⟨#[]⟩,⟨#[]⟩,0,0⟩):=(R3.out.other _ (by omega)).kept q4;clear q4 G3 K3 R3 k0 y0 k1 y1 k2 y2 k3 y3 k4 y4;obtain ⟨k0,y0,k1,y1,k2,y2,k3,y3,k4,y4⟩:=K4.out;obtain ⟨o0,z0,o1,z1,o2,z2,o3,z3,o4,z4⟩:=R4.out;go_wp2_with fail
    refine bodyPost_ret (v:=.tuple #[.agg (FlR p s d x0 x2).toArray,iV 0]) (by simp [results,Tryz.results32,go_sem,k0,o0,k1,o1,k2,o2,k3,o3,k4,o4]) rfl ⟨by rw [HV2.out,HO.out],?_⟩;exact (((((G4.out.setCell (Nat.le_succ _) _).setCell lR _).setCell lR _).setCell lR _).setCell lR _).setCell lR _
   | true =>
    have hp:p=1∨p=58:=by unfold echoP at a2; simpa using a2
    rw [a2] at HB2 HV HY;clear HC0 HC2 a2;generalize wordN (bt t) 4=x4 at *;rcases hp with rfl | rfl
    ·have HV3:Hid (code=if (bt t 0≠8∧bt t 0≠0)∨bt t 1≠0 then 11 else 0):=HV.out;clear HV;by_cases e0:bt t 0=8
     ·have d0:(bt t 0 != 8)=false:=by simp [e0]
      by_cases e1:bt t 1=0
      ·have d1:(bt t 1 != 0)=false:=by simp [e1]
       have HV2:Hid (code=0):=by unfold Hid; rw [HV3.out,if_neg (fun h=>h.elim (fun q=>q.1 e0) (fun q=>q e1))]
       have HO:Hid (out=.agg (FlR 1 s d x4 x4).toArray):=HY.out HV2.out;clear HV3 HY HN;go_wp2_with fail
       refine (HB2.out _).mono ?_;rintro e w2 ⟨rfl,rfl⟩;go_wp2_with fail
       refine (HC4.out _).mono ?_;rintro e w3 ⟨rfl,q3⟩;have G3:Hid _:=HWB.out.trans (q3.mono HWB.out.size);have K3:Hid (BoxG w3 (w.heap.size+1) ⟨1,s,d,0,0⟩):=KF.out.kept q3;have R3:Hid (BoxG w3 w.heap.size ⟨0,⟨#[]⟩,⟨#[]⟩,0,0⟩):=KR.out.kept q3;clear q3 HWB KF KR;obtain ⟨k0,y0,k1,y1,k2,y2,k3,y3,k4,y4⟩:=K3.out;obtain ⟨o0,z0,o1,z1,o2,z2,o3,z3,o4,z4⟩:=R3.out;go_wp2_with fail
       refine bodyPost_ret (v:=.tuple #[.agg (FlR 1 s d x4 x4).toArray,iV 0]) (by simp [results,Tryz.results32,go_sem,k0,o0,k1,o1,k2,o2,k3,o3,k4,o4]) rfl ⟨by rw [HV2.out,HO.out],?_⟩;exact ((((((G3.out.setCell (Nat.le_succ _) _).setCell (Nat.le_succ _) _).setCell lR _).setCell lR _).setCell lR _).setCell lR _).setCell lR _
      ·have d1:(bt t 1 != 0)=true:=by simp [e1]
       have HV2:Hid (code=11):=by unfold Hid; rw [HV3.out,if_pos (Or.inr e1)]
       have HO:Hid (out=.agg (FlR 1 s d 0 0).toArray):=HN.out (by rw [HV2.out]; decide);clear HV3 HY HN HC4 KF KR HWB;go_wp2_with fail
       refine (HB2.out _).mono ?_;rintro e w2 ⟨rfl,rfl⟩;go_wp2_with fail
       refine bodyPost_ret (v:=.tuple #[.agg (FlR 1 s d 0 0).toArray,iV 11]) (by simp [results,Tryz.results32,go_sem]) rfl ⟨by rw [HV2.out,HO.out],?_⟩;exact (bR.alloc lR _).alloc (by simp) _
     ·have d0:(bt t 0 != 8)=true:=by simp [e0]
      by_cases e2:bt t 0=0
      ·have d2:(bt t 0 != 0)=false:=by simp [e2]
       by_cases e1:bt t 1=0
       ·have d1:(bt t 1 != 0)=false:=by simp [e1]
        have HV2:Hid (code=0):=by unfold Hid; rw [HV3.out,if_neg (fun h=>h.elim (fun q=>q.2 e2) (fun q=>q e1))]
        have HO:Hid (out=.agg (FlR 1 s d x4 x4).toArray):=HY.out HV2.out;clear HV3 HY HN;go_wp2_with fail
        refine (HB2.out _).mono ?_;rintro e w2 ⟨rfl,rfl⟩;go_wp2_with fail
        refine (HC4.out _).mono ?_;rintro e w3 ⟨rfl,q3⟩;have G3:Hid _:=HWB.out.trans (q3.mono HWB.out.size);have K3:Hid (BoxG w3 (w.heap.size+1) ⟨1,s,d,0,0⟩):=KF.out.kept q3;have R3:Hid (BoxG w3 w.heap.size ⟨0,⟨#[]⟩,⟨#[]⟩,0,0⟩):=KR.out.kept q3;clear q3 HWB KF KR;obtain ⟨k0,y0,k1,y1,k2,y2,k3,y3,k4,y4⟩:=K3.out;obtain ⟨o0,z0,o1,z1,o2,z2,o3,z3,o4,z4⟩:=R3.out;go_wp2_with fail
        refine bodyPost_ret (v:=.tuple #[.agg (FlR 1 s d x4 x4).toArray,iV 0]) (by simp [results,Tryz.results32,go_sem,k0,o0,k1,o1,k2,o2,k3,o3,k4,o4]) rfl ⟨by rw [HV2.out,HO.out],?_⟩;exact ((((((G3.out.setCell (Nat.le_succ _) _).setCell (Nat.le_succ _) _).setCell lR _).setCell lR _).setCell lR _).setCell lR _).setCell lR _
       ·have d1:(bt t 1 != 0)=true:=by simp [e1]
        have HV2:Hid (code=11):=by unfold Hid; rw [HV3.out,if_pos (Or.inr e1)]
        have HO:Hid (out=.agg (FlR 1 s d 0 0).toArray):=HN.out (by rw [HV2.out]; decide);clear HV3 HY HN HC4 KF KR HWB;go_wp2_with fail
        refine (HB2.out _).mono ?_;rintro e w2 ⟨rfl,rfl⟩;go_wp2_with fail
        refine bodyPost_ret (v:=.tuple #[.agg (FlR 1 s d 0 0).toArray,iV 11]) (by simp [results,Tryz.results32,go_sem]) rfl ⟨by rw [HV2.out,HO.out],?_⟩;exact (bR.alloc lR _).alloc (by simp) _
      ·have d2:(bt t 0 != 0)=true:=by simp [e2]
       have HV2:Hid (code=11):=by unfold Hid; rw [HV3.out,if_pos (Or.inl ⟨e0,e2⟩)]
       have HO:Hid (out=.agg (FlR 1 s d 0 0).toArray):=HN.out (by rw [HV2.out]; decide);clear HV3 HY HN HC4 KF KR HWB;go_wp2_with fail
       refine (HB2.out _).mono ?_;rintro e w2 ⟨rfl,rfl⟩;go_wp2_with fail
       refine bodyPost_ret (v:=.tuple #[.agg (FlR 1 s d 0 0).toArray,iV 11]) (by simp [results,Tryz.results32,go_sem]) rfl ⟨by rw [HV2.out,HO.out],?_⟩;exact (bR.alloc lR _).alloc (by simp) _
    ·have HV3:Hid (code=if (bt t 0≠128∧bt t 0≠129)∨bt t 1≠0 then 11 else 0):=HV.out;clear HV;by_cases e0:bt t 0=128
     ·have d0:(bt t 0 != 128)=false:=by simp [e0]
      by_cases e1:bt t 1=0
      ·have d1:(bt t 1 != 0)=false:=by simp [e1]
       have HV2:Hid (code=0):=by unfold Hid; rw [HV3.out,if_neg (fun h=>h.elim (fun q=>q.1 e0) (fun q=>q e1))]
       have HO:Hid (out=.agg (FlR 58 s d x4 x4).toArray):=HY.out HV2.out;clear HV3 HY HN;go_wp2_with fail
       refine (HB2.out _).mono ?_;rintro e w2 ⟨rfl,rfl⟩;go_wp2_with fail
       refine (HC4.out _).mono ?_;rintro e w3 ⟨rfl,q3⟩;have G3:Hid _:=HWB.out.trans (q3.mono HWB.out.size);have K3:Hid (BoxG w3 (w.heap.size+1) ⟨58,s,d,0,0⟩):=KF.out.kept q3;have R3:Hid (BoxG w3 w.heap.size ⟨0,⟨#[]⟩,⟨#[]⟩,0,0⟩):=KR.out.kept q3;clear q3 HWB KF KR;obtain ⟨k0,y0,k1,y1,k2,y2,k3,y3,k4,y4⟩:=K3.out;obtain ⟨o0,z0,o1,z1,o2,z2,o3,z3,o4,z4⟩:=R3.out;go_wp2_with fail
       refine bodyPost_ret (v:=.tuple #[.agg (FlR 58 s d x4 x4).toArray,iV 0]) (by simp [results,Tryz.results32,go_sem,k0,o0,k1,o1,k2,o2,k3,o3,k4,o4]) rfl ⟨by rw [HV2.out,HO.out],?_⟩;exact ((((((G3.out.setCell (Nat.le_succ _) _).setCell (Nat.le_succ _) _).setCell lR _).setCell lR _).setCell lR _).setCell lR _).setCell lR _
      ·have d1:(bt t 1 != 0)=true:=by simp [e1]
       have HV2:Hid (code=11):=by unfold Hid; rw [HV3.out,if_pos (Or.inr e1)]
       have HO:Hid (out=.agg (FlR 58 s d 0 0).toArray):=HN.out (by rw [HV2.out]; decide);clear HV3 HY HN HC4 KF KR HWB;go_wp2_with fail
       refine (HB2.out _).mono ?_;rintro e w2 ⟨rfl,rfl⟩;go_wp2_with fail
       refine bodyPost_ret (v:=.tuple #[.agg (FlR 58 s d 0 0).toArray,iV 11]) (by simp [results,Tryz.results32,go_sem]) rfl ⟨by rw [HV2.out,HO.out],?_⟩;exact (bR.alloc lR _).alloc (by simp) _
     ·have d0:(bt t 0 != 128)=true:=by simp [e0]
      by_cases e2:bt t 0=129
      ·have d2:(bt t 0 != 129)=false:=by simp [e2]
       by_cases e1:bt t 1=0
       ·have d1:(bt t 1 != 0)=false:=by simp [e1]
        have HV2:Hid (code=0):=by unfold Hid; rw [HV3.out,if_neg (fun h=>h.elim (fun q=>q.2 e2) (fun q=>q e1))]
        have HO:Hid (out=.agg (FlR 58 s d x4 x4).toArray):=HY.out HV2.out;clear HV3 HY HN;go_wp2_with fail
        refine (HB2.out _).mono ?_;rintro e w2 ⟨rfl,rfl⟩;go_wp2_with fail
        refine (HC4.out _).mono ?_;rintro e w3 ⟨rfl,q3⟩;have G3:Hid _:=HWB.out.trans (q3.mono HWB.out.size);have K3:Hid (BoxG w3 (w.heap.size+1) ⟨58,s,d,0,0⟩):=KF.out.kept q3;have R3:Hid (BoxG w3 w.heap.size ⟨0,⟨#[]⟩,⟨#[]⟩,0,0⟩):=KR.out.kept q3;clear q3 HWB KF KR;obtain ⟨k0,y0,k1,y1,k2,y2,k3,y3,k4,y4⟩:=K3.out;obtain ⟨o0,z0,o1,z1,o2,z2,o3,z3,o4,z4⟩:=R3.out;go_wp2_with fail
        refine bodyPost_ret (v:=.tuple #[.agg (FlR 58 s d x4 x4).toArray,iV 0]) (by simp [results,Tryz.results32,go_sem,k0,o0,k1,o1,k2,o2,k3,o3,k4,o4]) rfl ⟨by rw [HV2.out,HO.out],?_⟩;exact ((((((G3.out.setCell (Nat.le_succ _) _).setCell (Nat.le_succ _) _).setCell lR _).setCell lR _).setCell lR _).setCell lR _).setCell lR _
       ·have d1:(bt t 1 != 0)=true:=by simp [e1]
        have HV2:Hid (code=11):=by unfold Hid; rw [HV3.out,if_pos (Or.inr e1)]
        have HO:Hid (out=.agg (FlR 58 s d 0 0).toArray):=HN.out (by rw [HV2.out]; decide);clear HV3 HY HN HC4 KF KR HWB;go_wp2_with fail
        refine (HB2.out _).mono ?_;rintro e w2 ⟨rfl,rfl⟩;go_wp2_with fail
        refine bodyPost_ret (v:=.tuple #[.agg (FlR 58 s d 0 0).toArray,iV 11]) (by simp [results,Tryz.results32,go_sem]) rfl ⟨by rw [HV2.out,HO.out],?_⟩;exact (bR.alloc lR _).alloc (by simp) _
      ·have d2:(bt t 0 != 129)=true:=by simp [e2]
       have HV2:Hid (code=11):=by unfold Hid; rw [HV3.out,if_pos (Or.inl ⟨e0,e2⟩)]
       have HO:Hid (out=.agg (FlR 58 s d 0 0).toArray):=HN.out (by rw [HV2.out]; decide);clear HV3 HY HN HC4 KF KR HWB;go_wp2_with fail
       refine (HB2.out _).mono ?_;rintro e w2 ⟨rfl,rfl⟩;go_wp2_with fail
       refine bodyPost_ret (v:=.tuple #[.agg (FlR 58 s d 0 0).toArray,iV 11]) (by simp [results,Tryz.results32,go_sem]) rfl ⟨by rw [HV2.out,HO.out],?_⟩;exact (bR.alloc lR _).alloc (by simp) _
structure BoxO (X:Nat) (w:World) (f:Fl) (code:Int):Prop where
 c0:w.cell? ⟨X,0,none⟩=some (iV f.proto)
 f0:w.frozen? ⟨X,0,none⟩=false
 c1:w.cell? ⟨X,1,none⟩=some (.string f.src)
 f1:w.frozen? ⟨X,1,none⟩=false
 c2:w.cell? ⟨X,2,none⟩=some (.string f.dst)
 f2:w.frozen? ⟨X,2,none⟩=false
 c3:w.cell? ⟨X,3,none⟩=some (iV f.sp)
 f3:w.frozen? ⟨X,3,none⟩=false
 c4:w.cell? ⟨X,4,none⟩=some (iV f.dp)
 f4:w.frozen? ⟨X,4,none⟩=false
 c5:w.cell? ⟨X,5,none⟩=some (iV code)
 f5:w.frozen? ⟨X,5,none⟩=false
theorem BoxO.new (w:World) (f:Fl) (code:Int) {t:TypeId}:BoxO w.heap.size (w.alloc (.cells #[iV f.proto,.string f.src,.string f.dst,iV f.sp,iV f.dp,iV code] t)) f code:=⟨cell_new rfl,by simp,cell_new rfl,by simp,cell_new rfl,by simp,cell_new rfl,by simp,cell_new rfl,by simp,cell_new rfl,by simp⟩
theorem BoxO.kept {w w':World} {X:Nat} {f:Fl} {code:Int} (h:BoxO X w f code) (q:Below w.heap.size w w'):BoxO X w' f code:=by
 have hb:=World.block_lt_of_cell? w _ h.c0;obtain ⟨hc,hf⟩:=bcell q;exact ⟨(hc X 0 hb).trans h.c0,(hf X 0 hb).trans h.f0,(hc X 1 hb).trans h.c1,(hf X 1 hb).trans h.f1,(hc X 2 hb).trans h.c2,(hf X 2 hb).trans h.f2,(hc X 3 hb).trans h.c3,(hf X 3 hb).trans h.f3,(hc X 4 hb).trans h.c4,(hf X 4 hb).trans h.f4,(hc X 5 hb).trans h.c5,(hf X 5 hb).trans h.f5⟩
theorem specFlowOf_any (s d:ByteArray) (p:Int) (t:ByteArray) (w:World) (hs:s.size≤1048576) (hd:d.size≤1048576) (ht:t.size≤1048576) :
  Cb 10 #[.string s,.string d,iV p,.string t] w (fwCO (flowOfV s d p t) (flowCode s d p t)):=by
 have HN:Hid (∀ c:Int,flowCode s d p t=c→c≠0→fwCO (flowOfV s d p t) (flowCode s d p t)=.agg #[iV 0,eS,eS,iV 0,iV 0,iV c]):=fun c h hc=>by unfold flowOfV; rw [h,if_neg hc]; rfl
 have HY:Hid (flowCode s d p t=0→fwCO (flowOfV s d p t) (flowCode s d p t)=fwCO (ofFl s d p t) 0):=fun h=>by unfold flowOfV; rw [h,if_pos rfl]
 have HD:Hid (flowCode s d p t=if 20000 < t.size∨20000 < s.size∨20000 < d.size then 2 else if pairOk s d=false then 1 else ofCode s.size p t):=rfl;generalize fwCO (flowOfV s d p t) (flowCode s d p t)=ans at *;generalize flowCode s d p t=code at *;by_cases lt:20000 < t.size
 ·have HV:Hid (ans=.agg #[iV 0,eS,eS,iV 0,iV 0,iV 2]):=HN.out 2 (by rw [HD.out,if_pos (Or.inl lt)]) (by decide);clear HN HY HD;go_enter Tryz.func10,Tryz.ntmps10
  go_wp2_with fail
  refine bodyPost_ret (v:=.agg #[iV 0,eS,eS,iV 0,iV 0,iV 2]) (by simp [results,Tryz.results10,go_sem]) rfl ⟨by rw [HV.out],?_⟩;exact bR.alloc lR _
 by_cases ls:20000 < s.size
 ·have HV:Hid (ans=.agg #[iV 0,eS,eS,iV 0,iV 0,iV 2]):=HN.out 2 (by rw [HD.out,if_pos (Or.inr (Or.inl ls))]) (by decide);clear HN HY HD;go_enter Tryz.func10,Tryz.ntmps10
  go_wp2_with fail
  refine bodyPost_ret (v:=.agg #[iV 0,eS,eS,iV 0,iV 0,iV 2]) (by simp [results,Tryz.results10,go_sem]) rfl ⟨by rw [HV.out],?_⟩;exact bR.alloc lR _
 by_cases ld:20000 < d.size
 ·have HV:Hid (ans=.agg #[iV 0,eS,eS,iV 0,iV 0,iV 2]):=HN.out 2 (by rw [HD.out,if_pos (Or.inr (Or.inr ld))]) (by decide);clear HN HY HD;go_enter Tryz.func10,Tryz.ntmps10
  go_wp2_with fail
  refine bodyPost_ret (v:=.agg #[iV 0,eS,eS,iV 0,iV 0,iV 2]) (by simp [results,Tryz.results10,go_sem]) rfl ⟨by rw [HV.out],?_⟩;exact bR.alloc lR _
 replace HD:Hid (code=if pairOk s d=false then 1 else ofCode s.size p t):=by unfold Hid; rw [HD.out,if_neg (by omega)]
 have HB1:Hid (∀ W,Cw 31 #[.string s,.string d] W (.bool (pairOk s d))):=fun W=>spPair_any _ _ W (by unfold maxLen; omega) (by unfold maxLen; omega)
 cases a1:pairOk s d with
 | false =>
  have HV:Hid (ans=.agg #[iV 0,eS,eS,iV 0,iV 0,iV 1]):=HN.out 1 (by rw [HD.out,if_pos a1]) (by decide);rw [a1] at HB1;clear HN HY HD a1;go_enter Tryz.func10,Tryz.ntmps10
  go_wp2_with fail
  refine (HB1.out _).mono ?_;rintro e w2 ⟨rfl,rfl⟩;go_wp2_with fail
  refine bodyPost_ret (v:=.agg #[iV 0,eS,eS,iV 0,iV 0,iV 1]) (by simp [results,Tryz.results10,go_sem]) rfl ⟨by rw [HV.out],?_⟩;exact bR.alloc lR _
 | true =>
  have HB2:Hid (∀ W,Cb 32 #[.string s,.string d,iV p,.string t] W (.tuple #[fwC (ofFl s d p t),iV (ofCode s.size p t)])):=fun W=>spOf_any s d p t W hs ht
  replace HD:Hid (code=ofCode s.size p t):=by unfold Hid; rw [HD.out,if_neg (by rw [a1]; decide)]
  rw [a1] at HB1;rw [← HD.out] at HB2;clear HD a1;have KR:Hid (BoxO w.heap.size (w.alloc (.cells #[iV 0,eS,eS,iV 0,iV 0,iV 0] 45)) ⟨0,⟨#[]⟩,⟨#[]⟩,0,0⟩ 0):=BoxO.new w ⟨0,⟨#[]⟩,⟨#[]⟩,0,0⟩ 0;have GR:Hid (Below w.heap.size w (w.alloc (.cells #[iV 0,eS,eS,iV 0,iV 0,iV 0] 45))):=bR.alloc lR _;generalize ofFl s d p t=fl at *;obtain ⟨p',s',d',x,y⟩:=fl;unfold fwC fwCO at *;dsimp only at *;by_cases c0:code=0
  ·have HV:=HY.out c0;have HV:Hid _:=HV;subst c0;clear HN HY;go_enter Tryz.func10,Tryz.ntmps10
   go_wp2_with fail
   refine (HB1.out _).mono ?_;rintro e w2 ⟨rfl,rfl⟩;go_wp2_with fail
   refine (HB2.out _).mono ?_;rintro e w3 ⟨rfl,q3⟩;have G3:Hid _:=GR.out.trans (q3.mono GR.out.size);have R3:Hid (BoxO w.heap.size w3 ⟨0,⟨#[]⟩,⟨#[]⟩,0,0⟩ 0):=KR.out.kept q3;clear q3 GR KR;have hlt:=World.block_lt_of_cell? w3 _ R3.out.c0;obtain ⟨k0,y0,k1,y1,k2,y2,k3,y3,k4,y4,k5,y5⟩:=R3.out;dsimp only at k0 k1 k2 k3 k4 k5;go_wp2_with fail
   have hne:w.heap.size≠w3.heap.size:=by omega
   refine bodyPost_ret (v:=.agg #[iV p',.string s',.string d',iV x,iV y,iV 0]) (by simp [results,Tryz.results10,go_sem,k0,k1,k2,k3,k4,k5,hlt,hne]) rfl ⟨by rw [HV.out],?_⟩;exact ((((((G3.out.setCell lR _).setCell lR _).setCell lR _).setCell lR _).setCell lR _).setCell lR _).alloc (by simp; omega) _
  ·have HV:Hid _:=HN.out code rfl c0;have dc:(code != 0)=true:=by simp [c0]
   clear HN HY;go_enter Tryz.func10,Tryz.ntmps10
   go_wp2_with fail
   refine (HB1.out _).mono ?_;rintro e w2 ⟨rfl,rfl⟩;go_wp2_with fail
   refine (HB2.out _).mono ?_;rintro e w3 ⟨rfl,q3⟩;have G3:Hid _:=GR.out.trans (q3.mono GR.out.size);have R3:Hid (BoxO w.heap.size w3 ⟨0,⟨#[]⟩,⟨#[]⟩,0,0⟩ 0):=KR.out.kept q3;clear q3 GR KR;have hlt:=World.block_lt_of_cell? w3 _ R3.out.c0;obtain ⟨k0,y0,k1,y1,k2,y2,k3,y3,k4,y4,k5,y5⟩:=R3.out;dsimp only at k0 k1 k2 k3 k4 k5;go_wp2_with fail
   have hne:w.heap.size≠w3.heap.size:=by omega
   refine bodyPost_ret (v:=.agg #[iV 0,eS,eS,iV 0,iV 0,iV code]) (by simp [results,Tryz.results10,go_sem,k0,k1,k2,k3,k4,k5,hlt,hne]) rfl ⟨by rw [HV.out],?_⟩;exact ((((((G3.out.setCell lR _).setCell lR _).setCell lR _).setCell lR _).setCell lR _).setCell lR _).alloc (by simp; omega) _
theorem spCheck_any (p:Int) (w:World) :
  Cw 74 #[iV p] w (iV (checkP p:Nat)):=by
 by_cases h1:p=6
 ·subst h1;go_enter Tryz.func74,Tryz.ntmps74
  go_wp2_with fail
  go_ret;exact ⟨rfl,rfl⟩
 ·have d1:(p==6)=false:=by simp [h1]
  by_cases h2:p=17
  ·subst h2;go_enter Tryz.func74,Tryz.ntmps74
   go_wp2_with fail
   go_ret;exact ⟨rfl,rfl⟩
  ·have d2:(p==17)=false:=by simp [h2]
   have HV:Hid (checkP p=2):=by unfold Hid checkP; rw [if_neg h1,if_neg h2]
   generalize checkP p=ans at *;go_enter Tryz.func74,Tryz.ntmps74
   go_wp2_with fail
   go_ret;exact ⟨ret_int (by rw [HV.out]; rfl),rfl⟩
theorem spPut_any (s:ByteArray) (k:Nat) (t:ByteArray) (w:World) (h:k+t.size≤s.size) (hs:s.size≤100000) :
  Cb 72 #[.string s,iV k,.string t] w (.string (putV s k t)):=by
 have HV:Hid (putV s k t=s.extract 0 k++t++s.extract (k+t.size) s.size):=rfl;generalize putV s k t=ans at *;have L1:∀ W,(Instr.slice 9 (.string s) none (some (iV k)) none).run Tryz.prog W=.ok (.string (s.extract 0 k)) W:=fun W=>by
  rw [run_slice_string_h (P:=Tryz.prog) (t:=9) (s:=s) (w:=W) (ht:=Tryz.underlying9) .i64 (k:Int) (by omega) (by omega),show ((k:Int)).toNat=k by omega]
 have L2:∀ W,(Instr.slice 9 (.string s) (some (iV ((k:Int)+t.size))) none none).run Tryz.prog W=.ok (.string (s.extract (k+t.size) s.size)) W:=fun W=>by
  rw [run_slice_string_l (P:=Tryz.prog) (t:=9) (s:=s) (w:=W) (ht:=Tryz.underlying9) .i64 ((k:Int)+t.size) (by omega) (by omega),show ((k:Int)+t.size).toNat=k+t.size by omega]
 have z1:(s.extract 0 k).size=k:=by rw [ByteArray.size_extract]; omega
 have z2:(s.extract (k+t.size) s.size).size=s.size-(k+t.size):=by rw [ByteArray.size_extract]; omega
 generalize s.extract 0 k=u1 at *;generalize s.extract (k+t.size) s.size=u2 at *;have n1:¬ 9223372036854775807 < u1.size+t.size:=by omega
 have n2:¬ 9223372036854775807 < u1.size+t.size+u2.size:=by omega
 have hw:IntKind.i64.wrap ((k:Int)+t.size)=(k:Int)+t.size:=by rw [IntKind.wrap_i64]; omega
 have HZ1:Hid (u1.size=k):=z1;have HZ2:Hid (u2.size=s.size-(k+t.size)):=z2;clear z1 z2;go_enter Tryz.func72,Tryz.ntmps72
 go_wp2_with fail
 go_region
 all_goals go_wp2_with fail
 all_goals go_ret
 all_goals exact ⟨by rw [HV.out]; rfl,bR.drew⟩
theorem str_slice5 (t:ByteArray) (l h:Nat) (W:World) (h1:l≤h) (h2:h≤t.size):(Instr.slice 9 (.string t) (some (iV l)) (some (iV h)) none).run Tryz.prog W=.ok (.string (t.extract l h)) W:=by
 have:=run_slice_string (P:=Tryz.prog) W 9 t .i64 .i64 (l:Int) (h:Int) Tryz.underlying9 (by omega) (by omega) (by omega);simpa using this
theorem spPart_any (f:Fl) (t:ByteArray) (w:World) (hs:f.src.size≤16) (hd:f.dst.size≤16) (hp:0≤f.proto∧f.proto≤255) (ht:t.size≤65535) (h8:8≤t.size) :
  Cb 76 #[fwC f,.string t] w (.string (partV f t)):=by
 have HB1:Hid (∀ W,Cw 44 #[iV f.proto] W (.bool (echoP f.proto))):=fun W=>spEcho_any _ W
 have HB2:Hid (∀ W,Cb 71 #[.string f.src,.string f.dst,iV f.proto,iV t.size] W (.string (pseudoV f.src f.dst f.proto t.size))):=fun W=>spPseudo_any _ _ _ _ W hs hd hp ht
 have HV:Hid (partV f t=(if echoP f.proto=true then t.extract 0 2++t.extract 4 6 else t.extract 0 4)++pseudoV f.src f.dst f.proto t.size):=rfl;have hz:=pseudoV_size f.src f.dst f.proto t.size hs hd;have L1:∀ W,(Instr.slice 9 (.string t) none (some (iV 4)) none).run Tryz.prog W=.ok (.string (t.extract 0 4)) W:=fun W=>run_slice_string_h (P:=Tryz.prog) (t:=9) (s:=t) (w:=W) (ht:=Tryz.underlying9) .i64 (4:Int) (by omega) (by omega)
 have L2:∀ W,(Instr.slice 9 (.string t) none (some (iV 2)) none).run Tryz.prog W=.ok (.string (t.extract 0 2)) W:=fun W=>run_slice_string_h (P:=Tryz.prog) (t:=9) (s:=t) (w:=W) (ht:=Tryz.underlying9) .i64 (2:Int) (by omega) (by omega)
 have L3:∀ W,(Instr.slice 9 (.string t) (some (iV 4)) (some (iV 6)) none).run Tryz.prog W=.ok (.string (t.extract 4 6)) W:=fun W=>str_slice5 t 4 6 W (by omega) (by omega)
 have z1:(t.extract 0 4).size=4:=by rw [ByteArray.size_extract]; omega
 have z2:(t.extract 0 2).size=2:=by rw [ByteArray.size_extract]; omega
 have z3:(t.extract 4 6).size=2:=by rw [ByteArray.size_extract]; omega
 generalize t.extract 0 4=u1 at *;generalize t.extract 0 2=u2 at *;generalize t.extract 4 6=u3 at *;generalize pseudoV f.src f.dst f.proto t.size=ps at *;generalize partV f t=ans at *;have n1:¬ 9223372036854775807 < u2.size+u3.size:=by omega
 have n2:¬ 9223372036854775807 < u1.size+ps.size:=by omega
 have n3:¬ 9223372036854775807 < u2.size+u3.size+ps.size:=by omega
 have n4:¬ 9223372036854775807 < (u2++u3).size+ps.size:=by rw [ByteArray.size_append]; omega
 have KF:Hid (BoxG (w.alloc (.cells (FlV f).toArray 43)) w.heap.size f):=BoxG.new w f;have HZ:Hid (Below w.heap.size w (w.alloc (.cells (FlV f).toArray 43))):=bR.alloc lR _;generalize echoP f.proto=b at *;obtain ⟨proto,src,dst,sp,dp⟩:=f;unfold fwC;dsimp only at *
 cases b with
 | false =>
  replace HV:Hid (ans=u1++ps):=HV.out;go_enter Tryz.func76,Tryz.ntmps76
  go_wp2_with fail
  refine (HB1.out _).mono ?_;rintro e w2 ⟨rfl,rfl⟩;go_wp2_with fail
  refine (HB2.out _).mono ?_;rintro e w3 ⟨rfl,q3⟩;have G3:Hid _:=HZ.out.trans (q3.mono HZ.out.size);clear q3;go_wp2_with fail
  go_ret;exact ⟨by rw [HV.out]; rfl,G3.out⟩
 | true =>
  replace HV:Hid (ans=u2++u3++ps):=HV.out;go_enter Tryz.func76,Tryz.ntmps76
  go_wp2_with fail
  refine (HB1.out _).mono ?_;rintro e w2 ⟨rfl,rfl⟩;go_wp2_with fail
  go_region
  all_goals go_wp2_with fail
  all_goals refine (HB2.out _).mono ?_
  all_goals rintro e w3 ⟨rfl,q3⟩
  all_goals have G3:Hid (Below w.heap.size w w3):=HZ.out.drew.trans (q3.mono HZ.out.size)
  all_goals clear q3
  all_goals go_wp2_with fail
  all_goals go_ret
  all_goals exact ⟨by rw [HV.out]; rfl,G3.out⟩
end Go.Proofs.YtdkepkaflielhaaGreatDoor
