import Derived.Test.YtdkepkaflielhaaGreatDoorSz
import Derived.Test.YtdkepkaflielhaaGreatDoorAb
import Derived.Test.YtdkepkaflielhaaGreatDoorSBib
import Derived.Test.YtdkepkaflielhaaGreatDoorLawSession
import Derived.Deep.DeepCutAuto
set_option linter.unusedVariables false
set_option linter.unusedSimpArgs false
set_option maxRecDepth 100000
set_option maxHeartbeats 8000000
namespace Go.Proofs.YtdkepkaflielhaaGreatDoor
open Go.RowKit Go.PlainAid
def bdZ:Bd:=⟨0,⟨#[]⟩,0,⟨#[]⟩,0⟩
def bindV (f:Bd→Bool) (xs:List Bd) (s:ByteArray):Bd:=if 20000 < s.size then bdZ else (xs.find? f).getD bdZ
theorem findBd_at (f:Bd→Bool) (xs:List Bd) (h:¬ findI f xs < 0):∃ i:Nat,∃ hi:i < xs.length,findI f xs=i∧xs.find? f=some xs[i]:=by
 unfold findI at *
 cases hf:xs.findIdx? f with
 | none=>rw [hf] at h; exact absurd (by decide) h
 | some i =>
  obtain ⟨hi,hfi,hn⟩:=List.findIdx?_eq_some_iff_getElem.1 hf;exact ⟨i,hi,rfl,List.find?_eq_some_iff_getElem.2 ⟨hfi,i,hi,rfl,fun j hj=>by simpa using hn j hj⟩⟩
theorem find_no (f:Bd→Bool) (xs:List Bd) (h:findI f xs < 0):xs.find? f=none:=by
 unfold findI at h
 cases hf:xs.findIdx? f with
 | none=>exact List.find?_eq_none.2 (fun x hx=>by have:=List.findIdx?_eq_none_iff.1 hf x hx; simp [this])
 | some i=>rw [hf] at h; simp only at h; omega
theorem specBindOf_any (xs:List Bd) (proto:Int) (s:ByteArray) (port:Int) (a:Option Addr) (cap:Nat) (sv:Value) (w:World) (hlen:xs.length≤1048576) (hr:SlIs bdL 5 w a xs) :
  Cb 11 #[.agg #[.slice a xs.length cap,sv],iV proto,.string s,iV port] w (bdC (bindV (ofIn proto s port) xs s)):=by
 have HB0:Hid (HoldsL (w.alloc (.cells #[.slice a xs.length cap,sv] 31)) w.z [.slice a xs.length cap,sv]):=HoldsL.new w _ _;rw [show [.slice a xs.length cap,sv].toArray=#[.slice a xs.length cap,sv] from rfl] at HB0;have HZ0:Hid (Below w.z w (w.alloc (.cells #[.slice a xs.length cap,sv] 31))):=bR.alloc lR _;have HRB:Hid (HoldsL ((aW w [.slice a xs.length cap,sv] 31).alloc (.cells (bdL bdZ).toArray 48)) (w.alloc (.cells #[.slice a xs.length cap,sv] 31)).heap.size (bdL bdZ)):=HoldsL.new _ _ _;rw [show (bdL bdZ).toArray=(BdR 0 ⟨#[]⟩ 0 ⟨#[]⟩ 0).toArray from rfl] at HRB;have HB1:Hid (HoldsL ((aW w [.slice a xs.length cap,sv] 31).alloc (.cells (BdR 0 ⟨#[]⟩ 0 ⟨#[]⟩ 0).toArray 48)) w.z [.slice a xs.length cap,sv]):=HB0.out.alloc _;have HZ:Hid (Below w.z w ((aW w [.slice a xs.length cap,sv] 31).alloc (.cells (BdR 0 ⟨#[]⟩ 0 ⟨#[]⟩ 0).toArray 48))):=HZ0.out.alloc HZ0.out.size _;rw [World.size_alloc] at HRB;have hRw:w.z≤w.z+1:=Nat.le_succ _;have HSI:Hid (SlIs bdL 5 ((aW w [.slice a xs.length cap,sv] 31).alloc (.cells (BdR 0 ⟨#[]⟩ 0 ⟨#[]⟩ 0).toArray 48)) a xs):=hr.below HZ.out;have HC:Hid (∀ W,SlIs bdL 5 W a xs→Cb 33 #[.agg #[.slice a xs.length cap,sv],iV proto,.string s,iV port] W (iV (findI (ofIn proto s port) xs))):=fun W hW=>spBind_any xs proto s port a cap sv W hlen hW
 have HV:Hid (bindV (ofIn proto s port) xs s=if 20000 < s.size then bdZ else (xs.find? (ofIn proto s port)).getD bdZ):=rfl;generalize bindV (ofIn proto s port) xs s=ans at *;generalize ofIn proto s port=f at *;clear hr HB0 HZ0;obtain ⟨b0,b1⟩ : _∧_:=⟨HB1.out.cell (j:=0) rfl,HB1.out.cell (j:=1) rfl⟩;go_enter Tryz.func11,Tryz.ntmps11
 go_wp2_with fail
 generalize World.alloc _ _=W0 at *;refine (HC.out W0 HSI.out).mono ?_;rintro e w1 ⟨rfl,q1⟩;have HW:Hid _:=HZ.out.trans (q1.mono HZ.out.size);have HB2:=HB1.out.kept (by simp) q1;have HR2:=HRB.out.kept (by simp [bdL]) q1;have HS2:Hid (SlIs bdL 5 w1 a xs):=HSI.out.below q1;clear b0 b1 HZ HC HSI q1;have b0:=HB2.cell (j:=0) rfl;have z0:=HR2.cell (j:=0) rfl;have zf0:=HR2.free (j:=0) (by simp [bdL]);have z1:=HR2.cell (j:=1) rfl;have zf1:=HR2.free (j:=1) (by simp [bdL]);have z2:=HR2.cell (j:=2) rfl;have zf2:=HR2.free (j:=2) (by simp [bdL]);have z3:=HR2.cell (j:=3) rfl;have zf3:=HR2.free (j:=3) (by simp [bdL]);have z4:=HR2.cell (j:=4) rfl;have zf4:=HR2.free (j:=4) (by simp [bdL]);have PF:Hid (∀ v0 v1 v2 v3 v4,Below w.z w ((sW (sW (sW (sW w1 (w.z+1) 0 v0) (w.z+1) 1 v1) (w.z+1) 2 v2) (w.z+1) 3 v3).setCell ⟨w.z+1,4,none⟩ v4)):=fun v0 v1 v2 v3 v4=>(((((HW.out.setCell (p:=⟨w.z+1,0,none⟩) hRw v0).setCell (p:=⟨w.z+1,1,none⟩) hRw v1).setCell (p:=⟨w.z+1,2,none⟩) hRw v2).setCell (p:=⟨w.z+1,3,none⟩) hRw v3).setCell (p:=⟨w.z+1,4,none⟩) hRw v4)
 clear HB1 HRB HB2 HR2;by_cases hk:findI f xs < 0
 ·have HX:Hid (ans=bdZ):=by unfold Hid; rw [HV.out,find_no f xs hk]; split<;>rfl
  generalize findI f xs=k at *;go_wp2_with fail
  refine bodyPost_ret (v:=.agg (BdR 0 ⟨#[]⟩ 0 ⟨#[]⟩ 0).toArray) (by simp [results,Tryz.results11,go_sem,z0,z1,z2,z3,z4]) rfl (And.intro (congrArg (fun x=>Ending.returned (bdC x)) HX.out.symm) (PF.out _ _ _ _ _))
 ·obtain ⟨i,hi,hfi,hfd⟩:=findBd_at f xs hk;rw [hfi];clear hk hfi;by_cases hs:20000 < s.size
  ·have HX:Hid (ans=bdZ):=by unfold Hid; rw [HV.out,if_pos hs]
   have hs':(20000:Int) < (s.size:Int):=by omega
   go_wp2_with fail
   refine bodyPost_ret (v:=.agg (BdR 0 ⟨#[]⟩ 0 ⟨#[]⟩ 0).toArray) (by simp [results,Tryz.results11,go_sem,z0,z1,z2,z3,z4]) rfl (And.intro (congrArg (fun x=>Ending.returned (bdC x)) HX.out.symm) (PF.out _ _ _ _ _))
  ·obtain ⟨b,off,rfl,hb,hat⟩:=HS2.out.at hi;have hA:=hat i hi;obtain ⟨q,hq⟩ : ∃ q,xs[i]=q:=⟨_,rfl⟩;rw [hq] at hA hfd;have HX:Hid (ans=q):=by unfold Hid; rw [HV.out,if_neg hs,hfd]; rfl
   obtain ⟨c0,c1,c2,c3,c4⟩:=rc5 hA;have hs':¬ (20000:Int) < (s.size:Int):=by omega
   clear hA hat hq hfd;go_wp2_with fail
   refine bodyPost_ret (v:=.agg (BdV q).toArray) (by simp [results,Tryz.results11,go_sem,z0,z1,z2,z3,z4]) rfl (And.intro (congrArg (fun x=>Ending.returned (bdC x)) HX.out.symm) (PF.out _ _ _ _ _))
theorem spHas_any (p:Bd) (q:Ss) (w:World) :
  Cb 37 #[bdC p,ssC q] w (.bool (hasS p q)):=by
 have HV:Hid (hasS p q=(decide (p.proto=q.proto)&&decide (p.inn.toList=q.inn.toList)&&decide (p.inPort=q.inPort))):=rfl;generalize hasS p q=ans at *;obtain ⟨proto,inn,inPort,out,outPort⟩:=p;obtain ⟨proto',inn',inPort',peer',peerPort',state',untl'⟩:=q;unfold bdC ssC;dsimp only at *;have HZ:Hid (∀ o1 o2,Below w.z w ((w.alloc o1).alloc o2)):=fun o1 o2=>(bR.alloc lR _).alloc (by simp) _
 go_enter Tryz.func37,Tryz.ntmps37
 go_wp2_with fail
 all_goals go_ret
 all_goals exact ⟨ret_bool (by rw [HV.out]; simp_all; try rfl),HZ.out _ _⟩
end Go.Proofs.YtdkepkaflielhaaGreatDoor
