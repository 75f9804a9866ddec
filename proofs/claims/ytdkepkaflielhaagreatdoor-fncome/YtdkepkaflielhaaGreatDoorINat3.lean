import Derived.Test.YtdkepkaflielhaaGreatDoorSz
import Derived.Test.YtdkepkaflielhaaGreatDoorAb
import Derived.Test.YtdkepkaflielhaaGreatDoorUni
import Derived.Test.YtdkepkaflielhaaGreatDoorSt
import Derived.Test.YtdkepkaflielhaaGreatDoorINat2
set_option linter.unusedVariables false
set_option linter.unusedSimpArgs false
set_option maxRecDepth 100000
set_option maxHeartbeats 8000000
namespace Go.Proofs.YtdkepkaflielhaaGreatDoor
open Go.RowKit Go.PlainAid
theorem ipTurnI_any (f:Fl) (c:Bd) (ra:Option Addr) (la ca:Nat) (w:World) :
  Cb 206 #[.agg #[.slice ra la ca],fwC f,bdC c] w (fwC ⟨f.proto,f.src,c.inn,if echoP f.proto=true then c.inPort else f.sp,c.inPort⟩):=by
 have HE:Hid (∀ W,Cw 100 #[iV f.proto] W (.bool (echoP f.proto))):=fun W=>implEcho_any _ W
 generalize echoP f.proto=b at *;obtain ⟨proto,src,dst,sp,dp⟩:=f;obtain ⟨cp,ci,cn,co,cm⟩:=c;unfold fwC bdC;dsimp only at *;have HS0:Hid (Bxs w [(w.z+1+1+1,(FlR 0 ⟨#[]⟩ ⟨#[]⟩ 0 0)),(w.z+1+1,(BdR cp ci cn co cm)),(w.z+1,(FlR proto src dst sp dp))] ((aW (aW (aW w [.slice ra la ca] 82) (FlR proto src dst sp dp) 43) (BdR cp ci cn co cm) 48).alloc (.cells (FlR 0 ⟨#[]⟩ ⟨#[]⟩ 0 0).toArray 43))):=by
  have h:=(((⟨fun e he=>(by cases he),bR.alloc lR _,fun e he=>(by cases he)⟩ : Bxs w [] (w.alloc (.cells #[.slice ra la ca] 82))).push (FlR proto src dst sp dp) (by simp) 43).push (BdR cp ci cn co cm) (by simp) 48).push (FlR 0 ⟨#[]⟩ ⟨#[]⟩ 0 0) (by simp) 43;simp only [World.size_alloc] at h;exact h
 have hRw:w.z≤w.z+1+1+1:=by omega
 have hFw:w.z≤w.z+1:=by omega
 go_enter Tryz.func206,Tryz.ntmps206
 go_upto_region 1 with fail
 generalize World.alloc _ _=W0 at *;have HSET:Hid (∀ wx,Bxs w [(w.z+1+1+1,(FlR 0 ⟨#[]⟩ ⟨#[]⟩ 0 0)),(w.z+1+1,(BdR cp ci cn co cm)),(w.z+1,(FlR proto src dst sp dp))] wx→Bxs w [(w.z+1+1+1,(FlR 0 ⟨#[]⟩ ⟨#[]⟩ 0 0)),(w.z+1+1,(BdR cp ci cn co cm)),(w.z+1,(FlR proto src ci sp cn))] ((sW wx (w.z+1) 2 (.string ci)).setCell ⟨w.z+1,4,none⟩ (iV cn))):=fun wx h=>⟨fun e he=>by
  simp only [List.mem_cons,List.not_mem_nil,or_false] at he;rcases he with rfl | rfl | rfl
  ·exact (HoldsL.setOther (HoldsL.setOther (h.k _ mE0) (by show w.z+1+1+1≠w.z+1; omega) _) (by show w.z+1+1+1≠w.z+1; omega) _)
  ·exact (HoldsL.setOther (HoldsL.setOther (h.k _ mE1) (by show w.z+1+1≠w.z+1; omega) _) (by show w.z+1+1≠w.z+1; omega) _)
  ·exact (HoldsL.set (HoldsL.set (h.k _ mE2) 2 (.string ci)) 4 (iV cn)),((h.b.setCell (p:=⟨w.z+1,2,none⟩) hFw _).setCell (p:=⟨w.z+1,4,none⟩) hFw _),fun e he=>by
  simp only [List.mem_cons,List.not_mem_nil,or_false] at he;rcases he with rfl | rfl | rfl<;>simp⟩
 go_cut [12] (fun v wx=>Bxs w [(w.z+1+1+1,(FlR 0 ⟨#[]⟩ ⟨#[]⟩ 0 0)),(w.z+1+1,(BdR cp ci cn co cm)),(w.z+1,(FlR proto src ci sp cn))] wx)
 case first =>
  rename_i J K2 hJ hK2;have HHk:=HS0.out.at mE2;obtain ⟨k0,k1,k2,k3,k4⟩:=HHk.c5;obtain ⟨kf0,kf1,kf2,kf3,kf4⟩:=HHk.f5;have HHl:=HS0.out.at mE1;obtain ⟨l0,l1,l2,l3,l4⟩:=HHl.c5;clear HHl;have HD:Hid _:=(HSET.out W0 HS0.out).kept bR.drew;clear HHk HS0 HSET;go_region
  all_goals refine hK2 _ _ (hJ _ _ ?_)
  all_goals (repeat apply Exists.intro)
  all_goals exact ⟨HD.out,rfl⟩
 case rest =>
 have S1:Hid (Bxs w [(w.z+1+1+1,(FlR 0 ⟨#[]⟩ ⟨#[]⟩ 0 0)),(w.z+1+1,(BdR cp ci cn co cm)),(w.z+1,(FlR proto src ci sp cn))] wc):=hcut;clear hcut HS0 HSET;generalize wc=W1 at *;have HHk:=S1.out.at mE2;obtain ⟨k0,k1,k2,k3,k4⟩:=HHk.c5;clear HHk;go_wp2_with fail
 refine (HE.out _).mono ?_;rintro e W1 ⟨rfl,rfl⟩
 cases b with
 | false =>
  have HHz:=S1.out.at mE0;obtain ⟨z0,z1,z2,z3,z4⟩:=HHz.c5;obtain ⟨zf0,zf1,zf2,zf3,zf4⟩:=HHz.f5;obtain ⟨HRR,RB⟩:=st5 HHz S1.out.b hRw (iV proto) (.string src) (.string ci) (iV sp) (iV cn);clear HHz;go_wp2_with fail
  exact bodyPost_ret (results_mid Tryz.results206 _ _ _ _ _ rfl HRR.out Tryz.underlying43 rfl (show (Tryz.prog.info? 43).map (·.size)=some 5 by kernel_rfl)) rfl (And.intro rfl RB.out)
 | true =>
  have S2:Hid (Bxs w [(w.z+1+1+1,(FlR 0 ⟨#[]⟩ ⟨#[]⟩ 0 0)),(w.z+1+1,(BdR cp ci cn co cm)),(w.z+1,(FlR proto src ci cn cn))] (W1.setCell ⟨w.z+1,3,none⟩ (iV cn))):=⟨fun e he=>by
   simp only [List.mem_cons,List.not_mem_nil,or_false] at he;rcases he with rfl | rfl | rfl
   ·exact (HoldsL.setOther (S1.out.k _ mE0) (by show w.z+1+1+1≠w.z+1; omega) _)
   ·exact (HoldsL.setOther (S1.out.k _ mE1) (by show w.z+1+1≠w.z+1; omega) _)
   ·exact (HoldsL.set (S1.out.k _ mE2) 3 (iV cn)),(S1.out.b.setCell (p:=⟨w.z+1,3,none⟩) hFw _),fun e he=>by
   simp only [List.mem_cons,List.not_mem_nil,or_false] at he;rcases he with rfl | rfl | rfl<;>simp⟩
  have kf:=(S1.out.k _ mE2).free (j:=3) (by simp);have HHl:=S1.out.at mE1;obtain ⟨l0,l1,l2,l3,l4⟩:=HHl.c5;clear HHl;go_upto_region 4 with fail
  generalize (W1.setCell ⟨w.z+1,3,none⟩ (iV cn))=W2 at *;clear S1 kf k0 k1 k2 k3 k4 l0 l1 l2 l3 l4;have HHk:=S2.out.at mE2;obtain ⟨k0,k1,k2,k3,k4⟩:=HHk.c5;clear HHk;have HHz:=S2.out.at mE0;obtain ⟨z0,z1,z2,z3,z4⟩:=HHz.c5;obtain ⟨zf0,zf1,zf2,zf3,zf4⟩:=HHz.f5;obtain ⟨HRR,RB⟩:=st5 HHz S2.out.b hRw (iV proto) (.string src) (.string ci) (iV cn) (iV cn);clear HHz;go_wp2_with fail
  exact bodyPost_ret (results_mid Tryz.results206 _ _ _ _ _ rfl HRR.out Tryz.underlying43 rfl (show (Tryz.prog.info? 43).map (·.size)=some 5 by kernel_rfl)) rfl (And.intro rfl RB.out)
end Go.Proofs.YtdkepkaflielhaaGreatDoor
