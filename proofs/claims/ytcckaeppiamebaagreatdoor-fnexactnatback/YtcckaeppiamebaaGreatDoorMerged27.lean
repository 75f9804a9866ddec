import Derived.Test.YtcckaeppiamebaaGreatDoorAb
import Derived.Test.YtcckaeppiamebaaGreatDoorMerged26
import Derived.Test.YtcckaeppiamebaaGreatDoorMerged12
import Derived.Test.YtcckaeppiamebaaGreatDoorMerged14
import Derived.Test.YtcckaeppiamebaaGreatDoorMerged2
import Derived.Test.YtcckaeppiamebaaGreatDoorMerged1
import Derived.Test.YtcckaeppiamebaaGreatDoorMerged20
import Derived.WalkLawsBesides
import Derived.RegionTactic
import Derived.Deep.QuietTactic
import Derived.Deep.RegionWith
import Derived.Deep.DeepCutAuto
import Derived.Test.YtcckaeppiamebaaGreatDoorMerged8
import Derived.Test.YtcckaeppiamebaaGreatDoorMerged3
import Derived.Lib.AppendStr
import Derived.Test.YtcckaeppiamebaaGreatDoorMerged19
import Derived.Laws.IdiomCopy
import Derived.Deep.OwnRows
import Derived.Lib.LazyBuf
import Derived.Lib.BufferWrite
import Derived.Test.YtcckaeppiamebaaGreatDoorMerged22
import Derived.Test.YtcckaeppiamebaaGreatDoorMerged21
import Derived.Test.YtcckaeppiamebaaGreatDoorMerged5
set_option linter.unusedVariables false
set_option linter.unusedSimpArgs false
set_option maxRecDepth 100000
set_option maxHeartbeats 8000000
namespace Go.Proofs.YtcckaeppiamebaaGreatDoor
open Go.RowKit Go.PlainAid
theorem ipTurnO_any (f:Fl) (c:Bd) (w:World) :
  Cb 204 #[.agg #[],fwC f,bdC c] w (fwC ⟨f.proto,c.out,f.dst,c.outPort,if echoP f.proto=true then c.outPort else f.dp⟩):=by
 have HE:Hid (∀ W,Cw 101 #[iV f.proto] W (.bool (echoP f.proto))):=fun W=>implEcho_any _ W
 generalize echoP f.proto=b at *;obtain ⟨proto,src,dst,sp,dp⟩:=f;obtain ⟨cp,ci,cn,co,cm⟩:=c;unfold fwC bdC;dsimp only at *;have HS0:Hid (Bxs w [(w.heap.size+1+1+1,(FlR 0 ⟨#[]⟩ ⟨#[]⟩ 0 0)),(w.heap.size+1+1,(BdR cp ci cn co cm)),(w.heap.size+1,(FlR proto src dst sp dp))] ((aW (aW (aW w [] 70) (FlR proto src dst sp dp) 91) (BdR cp ci cn co cm) 94).alloc (.cells (FlR 0 ⟨#[]⟩ ⟨#[]⟩ 0 0).toArray 91))):=by
  have h:=(((⟨fun e he=>(by cases he),(Below.refl _ _).alloc (Nat.le_refl _) _,fun e he=>(by cases he)⟩ : Bxs w [] (w.alloc (.cells #[] 70))).push (FlR proto src dst sp dp) (by simp) 91).push (BdR cp ci cn co cm) (by simp) 94).push (FlR 0 ⟨#[]⟩ ⟨#[]⟩ 0 0) (by simp) 91;simp only [World.size_alloc] at h;exact h
 have hRw:w.heap.size≤w.heap.size+1+1+1:=by omega
 have hFw:w.heap.size≤w.heap.size+1:=by omega
 go_enter Tryz.func204,Tryz.ntmps204
 go_upto_region 1 with fail
 generalize ((aW (aW (aW w [] 70) (FlR proto src dst sp dp) 91) (BdR cp ci cn co cm) 94).alloc (.cells (FlR 0 ⟨#[]⟩ ⟨#[]⟩ 0 0).toArray 91))=W0 at *;have HSET:Hid (∀ wx,Bxs w [(w.heap.size+1+1+1,(FlR 0 ⟨#[]⟩ ⟨#[]⟩ 0 0)),(w.heap.size+1+1,(BdR cp ci cn co cm)),(w.heap.size+1,(FlR proto src dst sp dp))] wx→Bxs w [(w.heap.size+1+1+1,(FlR 0 ⟨#[]⟩ ⟨#[]⟩ 0 0)),(w.heap.size+1+1,(BdR cp ci cn co cm)),(w.heap.size+1,(FlR proto co dst cm dp))] ((sW wx (w.heap.size+1) 1 (.string co)).setCell ⟨w.heap.size+1,3,none⟩ (iV cm))):=fun wx h=>⟨fun e he=>by
  simp only [List.mem_cons,List.not_mem_nil,or_false] at he;rcases he with rfl | rfl | rfl
  ·exact (HoldsL.setOther (HoldsL.setOther (h.k _ mE0) (by show w.heap.size+1+1+1≠w.heap.size+1; omega) _) (by show w.heap.size+1+1+1≠w.heap.size+1; omega) _)
  ·exact (HoldsL.setOther (HoldsL.setOther (h.k _ mE1) (by show w.heap.size+1+1≠w.heap.size+1; omega) _) (by show w.heap.size+1+1≠w.heap.size+1; omega) _)
  ·exact (HoldsL.set (HoldsL.set (h.k _ mE2) 1 (.string co)) 3 (iV cm)),((h.b.setCell (p:=⟨w.heap.size+1,1,none⟩) hFw _).setCell (p:=⟨w.heap.size+1,3,none⟩) hFw _),fun e he=>by
  simp only [List.mem_cons,List.not_mem_nil,or_false] at he;rcases he with rfl | rfl | rfl<;>simp⟩
 go_cut [12] (fun v wx=>Bxs w [(w.heap.size+1+1+1,(FlR 0 ⟨#[]⟩ ⟨#[]⟩ 0 0)),(w.heap.size+1+1,(BdR cp ci cn co cm)),(w.heap.size+1,(FlR proto co dst cm dp))] wx)
 case first =>
  rename_i J K2 hJ hK2;have HHk:=HS0.out.at mE2;obtain ⟨k0,k1,k2,k3,k4⟩:=HHk.c5;obtain ⟨kf0,kf1,kf2,kf3,kf4⟩:=HHk.f5;have HHl:=HS0.out.at mE1;obtain ⟨l0,l1,l2,l3,l4⟩:=HHl.c5;clear HHl;have HD:Hid _:=(HSET.out W0 HS0.out).kept (Below.refl _ _).drew;clear HHk HS0 HSET;go_region
  all_goals refine hK2 _ _ (hJ _ _ ?_)
  all_goals (repeat apply Exists.intro)
  all_goals exact ⟨HD.out,rfl⟩
 case rest =>
 have S1:Hid (Bxs w [(w.heap.size+1+1+1,(FlR 0 ⟨#[]⟩ ⟨#[]⟩ 0 0)),(w.heap.size+1+1,(BdR cp ci cn co cm)),(w.heap.size+1,(FlR proto co dst cm dp))] wc):=hcut;clear hcut HS0 HSET;generalize wc=W1 at *;have HHk:=S1.out.at mE2;obtain ⟨k0,k1,k2,k3,k4⟩:=HHk.c5;clear HHk;go_wp2_with fail
 refine (HE.out _).mono ?_;rintro e W1 ⟨rfl,rfl⟩
 cases b with
 | false =>
  have HHz:=S1.out.at mE0;obtain ⟨z0,z1,z2,z3,z4⟩:=HHz.c5;obtain ⟨zf0,zf1,zf2,zf3,zf4⟩:=HHz.f5;have HRR:Hid (HoldsL ((sW (sW (sW (sW W1 (w.heap.size+1+1+1) 0 (iV proto)) (w.heap.size+1+1+1) 1 (.string co)) (w.heap.size+1+1+1) 2 (.string dst)) (w.heap.size+1+1+1) 3 (iV cm)).setCell ⟨w.heap.size+1+1+1,4,none⟩ (iV dp)) (w.heap.size+1+1+1) (FlR proto co dst cm dp)):=(((((HHz.set 0 (iV proto)).set 1 (.string co)).set 2 (.string dst)).set 3 (iV cm)).set 4 (iV dp));have RB:Hid _:=(((((S1.out.b.setCell (p:=⟨w.heap.size+1+1+1,0,none⟩) hRw (iV proto)).setCell (p:=⟨w.heap.size+1+1+1,1,none⟩) hRw (.string co)).setCell (p:=⟨w.heap.size+1+1+1,2,none⟩) hRw (.string dst)).setCell (p:=⟨w.heap.size+1+1+1,3,none⟩) hRw (iV cm)).setCell (p:=⟨w.heap.size+1+1+1,4,none⟩) hRw (iV dp));clear HHz;go_wp2_with fail
  exact bodyPost_ret (results_mid Tryz.results204 _ _ (w.heap.size+1+1+1) (FlR proto co dst cm dp) _ rfl HRR.out Tryz.underlying91 rfl (show (Tryz.prog.info? 91).map (·.size)=some 5 by kernel_rfl)) rfl (And.intro rfl RB.out)
 | true =>
  have S2:Hid (Bxs w [(w.heap.size+1+1+1,(FlR 0 ⟨#[]⟩ ⟨#[]⟩ 0 0)),(w.heap.size+1+1,(BdR cp ci cn co cm)),(w.heap.size+1,(FlR proto co dst cm cm))] (W1.setCell ⟨w.heap.size+1,4,none⟩ (iV cm))):=⟨fun e he=>by
   simp only [List.mem_cons,List.not_mem_nil,or_false] at he;rcases he with rfl | rfl | rfl
   ·exact (HoldsL.setOther (S1.out.k _ mE0) (by show w.heap.size+1+1+1≠w.heap.size+1; omega) _)
   ·exact (HoldsL.setOther (S1.out.k _ mE1) (by show w.heap.size+1+1≠w.heap.size+1; omega) _)
   ·exact (HoldsL.set (S1.out.k _ mE2) 4 (iV cm)),(S1.out.b.setCell (p:=⟨w.heap.size+1,4,none⟩) hFw _),fun e he=>by
   simp only [List.mem_cons,List.not_mem_nil,or_false] at he;rcases he with rfl | rfl | rfl<;>simp⟩
  have kf:=(S1.out.k _ mE2).free (j:=4) (by simp);have HHl:=S1.out.at mE1;obtain ⟨l0,l1,l2,l3,l4⟩:=HHl.c5;clear HHl;go_upto_region 4 with fail
  generalize (W1.setCell ⟨w.heap.size+1,4,none⟩ (iV cm))=W2 at *;clear S1 kf k0 k1 k2 k3 k4 l0 l1 l2 l3 l4;have HHk:=S2.out.at mE2;obtain ⟨k0,k1,k2,k3,k4⟩:=HHk.c5;clear HHk;have HHz:=S2.out.at mE0;obtain ⟨z0,z1,z2,z3,z4⟩:=HHz.c5;obtain ⟨zf0,zf1,zf2,zf3,zf4⟩:=HHz.f5;have HRR:Hid (HoldsL ((sW (sW (sW (sW W2 (w.heap.size+1+1+1) 0 (iV proto)) (w.heap.size+1+1+1) 1 (.string co)) (w.heap.size+1+1+1) 2 (.string dst)) (w.heap.size+1+1+1) 3 (iV cm)).setCell ⟨w.heap.size+1+1+1,4,none⟩ (iV cm)) (w.heap.size+1+1+1) (FlR proto co dst cm cm)):=(((((HHz.set 0 (iV proto)).set 1 (.string co)).set 2 (.string dst)).set 3 (iV cm)).set 4 (iV cm));have RB:Hid _:=(((((S2.out.b.setCell (p:=⟨w.heap.size+1+1+1,0,none⟩) hRw (iV proto)).setCell (p:=⟨w.heap.size+1+1+1,1,none⟩) hRw (.string co)).setCell (p:=⟨w.heap.size+1+1+1,2,none⟩) hRw (.string dst)).setCell (p:=⟨w.heap.size+1+1+1,3,none⟩) hRw (iV cm)).setCell (p:=⟨w.heap.size+1+1+1,4,none⟩) hRw (iV cm));clear HHz;go_wp2_with fail
  exact bodyPost_ret (results_mid Tryz.results204 _ _ (w.heap.size+1+1+1) (FlR proto co dst cm cm) _ rfl HRR.out Tryz.underlying91 rfl (show (Tryz.prog.info? 91).map (·.size)=some 5 by kernel_rfl)) rfl (And.intro rfl RB.out)
theorem ipTurnI_any (f:Fl) (c:Bd) (ra:Option Addr) (la ca:Nat) (w:World) :
  Cb 207 #[.agg #[.slice ra la ca],fwC f,bdC c] w (fwC ⟨f.proto,f.src,c.inn,if echoP f.proto=true then c.inPort else f.sp,c.inPort⟩):=by
 have HE:Hid (∀ W,Cw 101 #[iV f.proto] W (.bool (echoP f.proto))):=fun W=>implEcho_any _ W
 generalize echoP f.proto=b at *;obtain ⟨proto,src,dst,sp,dp⟩:=f;obtain ⟨cp,ci,cn,co,cm⟩:=c;unfold fwC bdC;dsimp only at *;have HS0:Hid (Bxs w [(w.heap.size+1+1+1,(FlR 0 ⟨#[]⟩ ⟨#[]⟩ 0 0)),(w.heap.size+1+1,(BdR cp ci cn co cm)),(w.heap.size+1,(FlR proto src dst sp dp))] ((aW (aW (aW w [.slice ra la ca] 80) (FlR proto src dst sp dp) 91) (BdR cp ci cn co cm) 94).alloc (.cells (FlR 0 ⟨#[]⟩ ⟨#[]⟩ 0 0).toArray 91))):=by
  have h:=(((⟨fun e he=>(by cases he),(Below.refl _ _).alloc (Nat.le_refl _) _,fun e he=>(by cases he)⟩ : Bxs w [] (w.alloc (.cells #[.slice ra la ca] 80))).push (FlR proto src dst sp dp) (by simp) 91).push (BdR cp ci cn co cm) (by simp) 94).push (FlR 0 ⟨#[]⟩ ⟨#[]⟩ 0 0) (by simp) 91;simp only [World.size_alloc] at h;exact h
 have hRw:w.heap.size≤w.heap.size+1+1+1:=by omega
 have hFw:w.heap.size≤w.heap.size+1:=by omega
 go_enter Tryz.func207,Tryz.ntmps207
 go_upto_region 1 with fail
 generalize ((aW (aW (aW w [.slice ra la ca] 80) (FlR proto src dst sp dp) 91) (BdR cp ci cn co cm) 94).alloc (.cells (FlR 0 ⟨#[]⟩ ⟨#[]⟩ 0 0).toArray 91))=W0 at *;have HSET:Hid (∀ wx,Bxs w [(w.heap.size+1+1+1,(FlR 0 ⟨#[]⟩ ⟨#[]⟩ 0 0)),(w.heap.size+1+1,(BdR cp ci cn co cm)),(w.heap.size+1,(FlR proto src dst sp dp))] wx→Bxs w [(w.heap.size+1+1+1,(FlR 0 ⟨#[]⟩ ⟨#[]⟩ 0 0)),(w.heap.size+1+1,(BdR cp ci cn co cm)),(w.heap.size+1,(FlR proto src ci sp cn))] ((sW wx (w.heap.size+1) 2 (.string ci)).setCell ⟨w.heap.size+1,4,none⟩ (iV cn))):=fun wx h=>⟨fun e he=>by
  simp only [List.mem_cons,List.not_mem_nil,or_false] at he;rcases he with rfl | rfl | rfl
  ·exact (HoldsL.setOther (HoldsL.setOther (h.k _ mE0) (by show w.heap.size+1+1+1≠w.heap.size+1; omega) _) (by show w.heap.size+1+1+1≠w.heap.size+1; omega) _)
  ·exact (HoldsL.setOther (HoldsL.setOther (h.k _ mE1) (by show w.heap.size+1+1≠w.heap.size+1; omega) _) (by show w.heap.size+1+1≠w.heap.size+1; omega) _)
  ·exact (HoldsL.set (HoldsL.set (h.k _ mE2) 2 (.string ci)) 4 (iV cn)),((h.b.setCell (p:=⟨w.heap.size+1,2,none⟩) hFw _).setCell (p:=⟨w.heap.size+1,4,none⟩) hFw _),fun e he=>by
  simp only [List.mem_cons,List.not_mem_nil,or_false] at he;rcases he with rfl | rfl | rfl<;>simp⟩
 go_cut [12] (fun v wx=>Bxs w [(w.heap.size+1+1+1,(FlR 0 ⟨#[]⟩ ⟨#[]⟩ 0 0)),(w.heap.size+1+1,(BdR cp ci cn co cm)),(w.heap.size+1,(FlR proto src ci sp cn))] wx)
 case first =>
  rename_i J K2 hJ hK2;have HHk:=HS0.out.at mE2;obtain ⟨k0,k1,k2,k3,k4⟩:=HHk.c5;obtain ⟨kf0,kf1,kf2,kf3,kf4⟩:=HHk.f5;have HHl:=HS0.out.at mE1;obtain ⟨l0,l1,l2,l3,l4⟩:=HHl.c5;clear HHl;have HD:Hid _:=(HSET.out W0 HS0.out).kept (Below.refl _ _).drew;clear HHk HS0 HSET;go_region
  all_goals refine hK2 _ _ (hJ _ _ ?_)
  all_goals (repeat apply Exists.intro)
  all_goals exact ⟨HD.out,rfl⟩
 case rest =>
 have S1:Hid (Bxs w [(w.heap.size+1+1+1,(FlR 0 ⟨#[]⟩ ⟨#[]⟩ 0 0)),(w.heap.size+1+1,(BdR cp ci cn co cm)),(w.heap.size+1,(FlR proto src ci sp cn))] wc):=hcut;clear hcut HS0 HSET;generalize wc=W1 at *;have HHk:=S1.out.at mE2;obtain ⟨k0,k1,k2,k3,k4⟩:=HHk.c5;clear HHk;go_wp2_with fail
 refine (HE.out _).mono ?_;rintro e W1 ⟨rfl,rfl⟩
 cases b with
 | false =>
  have HHz:=S1.out.at mE0;obtain ⟨z0,z1,z2,z3,z4⟩:=HHz.c5;obtain ⟨zf0,zf1,zf2,zf3,zf4⟩:=HHz.f5;have HRR:Hid (HoldsL ((sW (sW (sW (sW W1 (w.heap.size+1+1+1) 0 (iV proto)) (w.heap.size+1+1+1) 1 (.string src)) (w.heap.size+1+1+1) 2 (.string ci)) (w.heap.size+1+1+1) 3 (iV sp)).setCell ⟨w.heap.size+1+1+1,4,none⟩ (iV cn)) (w.heap.size+1+1+1) (FlR proto src ci sp cn)):=(((((HHz.set 0 (iV proto)).set 1 (.string src)).set 2 (.string ci)).set 3 (iV sp)).set 4 (iV cn));have RB:Hid _:=(((((S1.out.b.setCell (p:=⟨w.heap.size+1+1+1,0,none⟩) hRw (iV proto)).setCell (p:=⟨w.heap.size+1+1+1,1,none⟩) hRw (.string src)).setCell (p:=⟨w.heap.size+1+1+1,2,none⟩) hRw (.string ci)).setCell (p:=⟨w.heap.size+1+1+1,3,none⟩) hRw (iV sp)).setCell (p:=⟨w.heap.size+1+1+1,4,none⟩) hRw (iV cn));clear HHz;go_wp2_with fail
  exact bodyPost_ret (results_mid Tryz.results207 _ _ (w.heap.size+1+1+1) (FlR proto src ci sp cn) _ rfl HRR.out Tryz.underlying91 rfl (show (Tryz.prog.info? 91).map (·.size)=some 5 by kernel_rfl)) rfl (And.intro rfl RB.out)
 | true =>
  have S2:Hid (Bxs w [(w.heap.size+1+1+1,(FlR 0 ⟨#[]⟩ ⟨#[]⟩ 0 0)),(w.heap.size+1+1,(BdR cp ci cn co cm)),(w.heap.size+1,(FlR proto src ci cn cn))] (W1.setCell ⟨w.heap.size+1,3,none⟩ (iV cn))):=⟨fun e he=>by
   simp only [List.mem_cons,List.not_mem_nil,or_false] at he;rcases he with rfl | rfl | rfl
   ·exact (HoldsL.setOther (S1.out.k _ mE0) (by show w.heap.size+1+1+1≠w.heap.size+1; omega) _)
   ·exact (HoldsL.setOther (S1.out.k _ mE1) (by show w.heap.size+1+1≠w.heap.size+1; omega) _)
   ·exact (HoldsL.set (S1.out.k _ mE2) 3 (iV cn)),(S1.out.b.setCell (p:=⟨w.heap.size+1,3,none⟩) hFw _),fun e he=>by
   simp only [List.mem_cons,List.not_mem_nil,or_false] at he;rcases he with rfl | rfl | rfl<;>simp⟩
  have kf:=(S1.out.k _ mE2).free (j:=3) (by simp);have HHl:=S1.out.at mE1;obtain ⟨l0,l1,l2,l3,l4⟩:=HHl.c5;clear HHl;go_upto_region 4 with fail
  generalize (W1.setCell ⟨w.heap.size+1,3,none⟩ (iV cn))=W2 at *;clear S1 kf k0 k1 k2 k3 k4 l0 l1 l2 l3 l4;have HHk:=S2.out.at mE2;obtain ⟨k0,k1,k2,k3,k4⟩:=HHk.c5;clear HHk;have HHz:=S2.out.at mE0;obtain ⟨z0,z1,z2,z3,z4⟩:=HHz.c5;obtain ⟨zf0,zf1,zf2,zf3,zf4⟩:=HHz.f5;have HRR:Hid (HoldsL ((sW (sW (sW (sW W2 (w.heap.size+1+1+1) 0 (iV proto)) (w.heap.size+1+1+1) 1 (.string src)) (w.heap.size+1+1+1) 2 (.string ci)) (w.heap.size+1+1+1) 3 (iV cn)).setCell ⟨w.heap.size+1+1+1,4,none⟩ (iV cn)) (w.heap.size+1+1+1) (FlR proto src ci cn cn)):=(((((HHz.set 0 (iV proto)).set 1 (.string src)).set 2 (.string ci)).set 3 (iV cn)).set 4 (iV cn));have RB:Hid _:=(((((S2.out.b.setCell (p:=⟨w.heap.size+1+1+1,0,none⟩) hRw (iV proto)).setCell (p:=⟨w.heap.size+1+1+1,1,none⟩) hRw (.string src)).setCell (p:=⟨w.heap.size+1+1+1,2,none⟩) hRw (.string ci)).setCell (p:=⟨w.heap.size+1+1+1,3,none⟩) hRw (iV cn)).setCell (p:=⟨w.heap.size+1+1+1,4,none⟩) hRw (iV cn));clear HHz;go_wp2_with fail
  exact bodyPost_ret (results_mid Tryz.results207 _ _ (w.heap.size+1+1+1) (FlR proto src ci cn cn) _ rfl HRR.out Tryz.underlying91 rfl (show (Tryz.prog.info? 91).map (·.size)=some 5 by kernel_rfl)) rfl (And.intro rfl RB.out)
def wordsB (ws:List Int):ByteArray:=⟨((layL ws).map (fun x=>UInt8.ofNat x.toNat)).toArray⟩
theorem wordsB_size (ws:List Int):(wordsB ws).size=2*ws.length:=by
 unfold wordsB ByteArray.size;simp [layL_length]
theorem words_conv {w:World} {b cap n:Nat} {ws:List Int} (hn:n=2*ws.length) (hw:∀ m∈ws,0≤m∧m≤65535) (hc:∀ i,i < n→w.cell? ⟨b,i,none⟩=some (.int .u8 (fL ws i))) :
  (convert 137 9 (.slice (some ⟨b,0,none⟩) n cap)).run Tryz.prog w=.ok (.string (wordsB ws)) w:=by
 have hl:=layL_length ws;have e:n=((layL ws).map (fun x=>UInt8.ofNat x.toNat)).length:=by simp [hl,hn]
 rw [e];refine run_convert_bytes_back (P:=Tryz.prog) w 137 9 5 ⟨b,0,none⟩ cap ((layL ws).map (fun x=>UInt8.ofNat x.toNat)) Tryz.underlying137 Tryz.underlying5 Tryz.underlying9 ?_;intro j hj;have hj2:j < (layL ws).length:=by simpa using hj
 have hb:=fL_byte ws hw j;have e2:fL ws j=(layL ws)[j]:=by simp [fL,List.getD,hj2]
 rw [e2] at hb;have e3:Addr.add ⟨b,0,none⟩ j=⟨b,j,none⟩:=by simp [Addr.add]; omega
 rw [e3,List.getElem_map,u8_ofNat _ hb.1 hb.2,← e2];exact hc j (by omega)
theorem wordsB_four (p n:Int) (hp:0≤p∧p≤255):pairV 0 p++twoV n=wordsB [p,n]:=by
 have e1:p / 256=0:=by omega
 have e2:p % 256=p:=by omega
 simp only [wordsB,layL,e1,e2];rfl
theorem wordsB_six (p n:Int) (hp:0≤p∧p≤255) (hn:0≤n∧n≤65535):twoV (n / 65536)++twoV (n % 65536)++quadW 0 p=wordsB [n / 65536,n,0,p]:=by
 have e1:p / 256=0:=by omega
 have e2:p % 256=p:=by omega
 have e3:n % 65536=n:=by omega
 simp only [wordsB,layL,e1,e2,e3];rfl
theorem ipPseudo_any (s d:ByteArray) (p:Int) (n:Nat) (w:World) (hs:s.size=4∨s.size=16) (hd:d.size≤16) (hp:0≤p∧p≤255) (hn:n≤65535) :
  Cb 179 #[.string s,.string d,iV p,iV n] w (.string (pseudoV s d p n)):=by
 have n1:¬ 9223372036854775807 < s.size+d.size:=by omega
 rcases hs with hs | hs
 ·have d4:((s.size:Int)==16)=false:=by simp; omega
  by_cases h1:p=1
  ·have d1:(p==1)=true:=by simp [h1]
   have HV:Hid (pseudoV s d p n=⟨#[]⟩):=by unfold Hid pseudoV; rw [if_pos ⟨h1,hs⟩]
   generalize pseudoV s d p n=ans at *;clear h1;go_enter Tryz.func179,Tryz.ntmps179
   go_wp2_with fail
   go_ret;exact ⟨ret_string HV.out.symm,Below.refl _ _⟩
  ·have d1:(p==1)=false:=by simp [h1]
   have HV:Hid (pseudoV s d p n=s++d++wordsB [p,(n:Int)]):=by
    unfold Hid pseudoV;rw [if_neg (fun h=>h1 h.1),if_pos hs,← wordsB_four p n hp,ByteArray.append_assoc (a:=s++d)]
   generalize pseudoV s d p n=ans at *;have hws:∀ m∈[p,(n:Int)],0≤m∧m≤65535:=by intro m hm; simp at hm; rcases hm with rfl | rfl<;>omega
   have HL:Hid (Calls Tryz.prog 160 #[.slice (some ⟨w.heap.size,0,none⟩) 2 2] (w.alloc (.cells #[iV p,iV n] 2)) fun e w' =>
    e=.returned (.slice (some ⟨w.heap.size+1,0,none⟩) 4 4)∧(∀ i,i < 4→w'.cell? ⟨w.heap.size+1,i,none⟩=some (.int .u8 (fL [p,(n:Int)] i)))∧Below w.heap.size w w'):=layAt [p,(n:Int)] w (by simp) hws
   have HW:Hid (∀ m∈[p,(n:Int)],0≤m∧m≤65535):=hws;have z:=wordsB_size [p,(n:Int)];simp at z;have n2:¬ 9223372036854775807 < s.size+d.size+(wordsB [p,(n:Int)]).size:=by omega
   clear hws h1;go_enter Tryz.func179,Tryz.ntmps179
   go_wp2_with fail
   refine HL.out.mono ?_;rintro e w1 ⟨rfl,hc,hB⟩;have hcv:=words_conv (cap:=4) (by simp) HW.out hc;have HB:Hid (Below w.heap.size w w1):=hB;clear hc hB HL;generalize wordsB [p,(n:Int)]=u at *;go_wp2_with fail
   go_ret;exact ⟨ret_string HV.out.symm,HB.out⟩
 ·have d4:((s.size:Int)==16)=true:=by simp; omega
  have HV:Hid (pseudoV s d p n=s++d++wordsB [(n:Int) / 65536,(n:Int),0,p]):=by
   unfold Hid pseudoV;rw [if_neg (by omega),if_neg (by omega),← wordsB_six p n hp (by omega),ByteArray.append_assoc (a:=s++d),ByteArray.append_assoc (a:=s++d)]
  generalize pseudoV s d p n=ans at *;have hws:∀ m∈[(n:Int) / 65536,(n:Int),0,p],0≤m∧m≤65535:=by intro m hm; simp at hm; rcases hm with rfl | rfl | rfl | rfl<;>omega
  have HL:Hid (Calls Tryz.prog 160 #[.slice (some ⟨w.heap.size,0,none⟩) 4 4] (w.alloc (.cells #[iV ((n:Int) / 65536),iV n,iV 0,iV p] 2)) fun e w' =>
   e=.returned (.slice (some ⟨w.heap.size+1,0,none⟩) 8 8)∧(∀ i,i < 8→w'.cell? ⟨w.heap.size+1,i,none⟩=some (.int .u8 (fL [(n:Int) / 65536,(n:Int),0,p] i)))∧Below w.heap.size w w'):=layAt [(n:Int) / 65536,(n:Int),0,p] w (by simp) hws
  have HW:Hid (∀ m∈[(n:Int) / 65536,(n:Int),0,p],0≤m∧m≤65535):=hws;have z:=wordsB_size [(n:Int) / 65536,(n:Int),0,p];simp at z;have n2:¬ 9223372036854775807 < s.size+d.size+(wordsB [(n:Int) / 65536,(n:Int),0,p]).size:=by omega
  clear hws;go_enter Tryz.func179,Tryz.ntmps179
  go_wp2_with fail
  refine HL.out.mono ?_;rintro e w1 ⟨rfl,hc,hB⟩;have hcv:=words_conv (cap:=8) (by simp) HW.out hc;have HB:Hid (Below w.heap.size w w1):=hB;clear hc hB HL;generalize wordsB [(n:Int) / 65536,(n:Int),0,p]=u at *;go_wp2_with fail
  go_ret;exact ⟨ret_string HV.out.symm,HB.out⟩
theorem ipLacks_any (p:Int) (t:ByteArray) (w:World) (h8:8≤t.size) (ht:t.size≤1048576) :
  Cw 157 #[iV p,.string t] w (.bool (decide (p=17)&&decide (wordN (bt t) 6=0))):=by
 have HW:Hid (∀ W,Cw 134 #[.string t,iV (6:Nat)] W (iV (wordN (bt t) 6))):=fun W=>wordFromS_any t 6 W (by omega) (by unfold maxLen; omega)
 have dq:(wordN (bt t) 6==0)=decide (wordN (bt t) 6=0):=rfl;generalize decide (wordN (bt t) 6=0)=q at *;generalize wordN (bt t) 6=x at *;by_cases h:p=17
 ·have d1:(p==17)=true:=by simp [h]
  rw [decide_eq_true h];clear h;go_enter Tryz.func157,Tryz.ntmps157
  go_wp2_with fail
  refine (HW.out _).mono ?_;rintro e w2 ⟨rfl,rfl⟩;go_wp2_with fail
  go_ret;exact ⟨rfl,rfl⟩
 ·have d1:(p==17)=false:=by simp [h]
  rw [decide_eq_false h];clear h;go_enter Tryz.func157,Tryz.ntmps157
  go_wp2_with fail
  go_ret;exact ⟨rfl,rfl⟩
structure CurAt (w:World) (B b cap:Nat) (t:ByteArray) (k:Nat):Prop where
 c0:w.cell? ⟨B,0,none⟩=some (.slice (some ⟨b,0,none⟩) t.size cap)
 f0:w.frozen? ⟨B,0,none⟩=false
 c1:w.cell? ⟨B,1,none⟩=some (iV k)
 f1:w.frozen? ⟨B,1,none⟩=false
 bs:∀ i,i < t.size→w.cell? ⟨b,i,none⟩=some (.int .u8 (bt t i))
 ne:b≠B
 lt:b < w.heap.size
 cp:t.size≤cap
theorem CurAt.kept {w W:World} {B b cap:Nat} {t:ByteArray} {k:Nat} (h:CurAt w B b cap t k) (hB:Below w.heap.size w W):CurAt W B b cap t k:=by
 have hb:=World.block_lt_of_cell? w _ h.c0;exact ⟨((bcell hB).1 B 0 hb).trans h.c0,((bcell hB).2 B 0 hb).trans h.f0,((bcell hB).1 B 1 hb).trans h.c1,((bcell hB).2 B 1 hb).trans h.f1,fun i hi=>((bcell hB).1 b i h.lt).trans (h.bs i hi),h.ne,Nat.lt_of_lt_of_le h.lt hB.size,h.cp⟩
theorem CurAt.step {w:World} {B b cap:Nat} {t:ByteArray} {k:Nat} (h:CurAt w B b cap t k) (k':Nat):CurAt (w.setCell ⟨B,1,none⟩ (iV k')) B b cap t k':=by
 refine ⟨?_,by simpa using h.f0,World.cell?_setCell_same _ _ _ h.c1,by simpa using h.f1,fun i hi=>?_,h.ne,by simpa using h.lt,h.cp⟩
 ·rw [World.cell?_setCell_other _ _ _ _ (fun e=>by injection e with _ h2; omega)]; exact h.c0
 ·rw [World.cell?_setCell_other _ _ _ _ (fun e=>by injection e with h1 _; exact h.ne h1.symm)]; exact h.bs i hi
theorem CurAt.other {w:World} {B b cap:Nat} {t:ByteArray} {k:Nat} (h:CurAt w B b cap t k) {C o:Nat} (v:Value) (h1:C≠B) (h2:C≠b):CurAt (w.setCell ⟨C,o,none⟩ v) B b cap t k:=by
 have hc:∀ X j,C≠X→(w.setCell ⟨C,o,none⟩ v).cell? ⟨X,j,none⟩=w.cell? ⟨X,j,none⟩:=fun X j hX=>World.cell?_setCell_other w _ _ v (fun e=>hX (congrArg Addr.block e))
 exact ⟨(hc B 0 h1).trans h.c0,by simpa using h.f0,(hc B 1 h1).trans h.c1,by simpa using h.f1,fun i hi=>(hc b i h2).trans (h.bs i hi),h.ne,by simpa using h.lt,h.cp⟩
theorem bt_list {s:ByteArray} {j:Nat} (h:j < s.data.toList.length):(s.data.toList[j].toNat:Int)=bt s j:=by
 have h':j < s.size:=by rw [Array.length_toList] at h; exact h
 unfold bt;rw [dif_pos h',ByteArray.getElem_eq_getElem_data];simp
open Go.Lib
theorem strCells_append (a b:ByteArray):strCells (a++b)=strCells a++strCells b:=by
 unfold strCells; rw [ByteArray.data_append]; simp
theorem strCells_two (n:Int) (h0:0≤n) (h1:n≤65535):strCells (twoV n)=[.int .u8 (n / 256),.int .u8 (n % 256)]:=by
 have e1:=u8_ofNat (n / 256) (by omega) (by omega);have e2:=u8_ofNat (n % 256) (by omega) (by omega);simp only [strCells,twoV,twoL,List.map_cons,List.map_nil,e1,e2]
theorem strCells_at (s:ByteArray) (i:Nat) (h:i < s.size):(strCells s)[i]?=some (.int .u8 (bt s i)):=by
 have h':i < s.data.toList.length:=by rw [Array.length_toList]; exact h
 unfold strCells;rw [List.getElem?_map,List.getElem?_eq_getElem h',Option.map_some,bt_list h']
def IsWords (ws:List Int):Value→World→Prop:=fun v w=>∃ b,v=.slice (some ⟨b,0,none⟩) ws.length ws.length∧b < w.heap.size∧∀ k,k < ws.length→w.cell? ⟨b,k,none⟩=some (iV (ws.getD k 0))
theorem stable_isWords (ws:List Int):Stable (IsWords ws):=fun v w w' ⟨b,h1,h2,h3⟩ hb=>⟨b,h1,Nat.lt_of_lt_of_le h2 hb.size,fun k hk=>((bcell hb).1 b k h2).trans (h3 k hk)⟩
theorem owns_kept {w W:World} {base e n:Nat} {v:Value} {xs:List Value} (h:w.ownsRow base e 1 v n xs) (hB:Below w.heap.size w W):W.ownsRow base e 1 v n xs:=by
 obtain ⟨h1,h2⟩:=h;refine ⟨h1,?_⟩;rcases h2 with h2 | ⟨g,cap,cur,q1,q2,q3,q4⟩
 ·exact .inl h2
 ·exact .inr ⟨g,cap,cur,q1,q2,by rw [hB.block g (Array.getElem?_eq_some_iff.1 q3).1]; exact q3,q4⟩
theorem owns_base {w:World} {base base' e n:Nat} {v:Value} {xs:List Value} (h:w.ownsRow base e 1 v n xs) (hB:base'≤base):w.ownsRow base' e 1 v n xs:=by
 obtain ⟨h1,h2⟩:=h;refine ⟨h1,?_⟩;rcases h2 with h2 | ⟨g,cap,cur,q1,q2,q3,q4⟩
 ·exact .inl h2
 ·exact .inr ⟨g,cap,cur,q1,Nat.le_trans hB q2,q3,q4⟩
def IsOwn (base e n:Nat) (xs:List Value):Value→World→Prop:=fun v w=>∃ g,v=.slice (some ⟨g,0,none⟩) n n∧w.ownsRow base e 1 v n xs
theorem stable_isOwn (base e n:Nat) (xs:List Value):Stable (IsOwn base e n xs):=fun v w w' ⟨g,h1,h2⟩ hb=>⟨g,h1,owns_kept h2 hb⟩
def zs (n:Nat):ByteArray:=⟨Array.replicate n 0⟩
theorem lay_at {w:World} {g o:Nat} {A Z B s:ByteArray} (h:HoldsL w g (strCells (A++Z++B))) (hA:A.size=o) (hZ:Z.size=s.size):HoldsL (w.setCells g o (strCells s)) g (strCells (A++s++B)):=by
 have hl:(strCells (A++Z++B)).length=o+s.size+B.size:=by rw [strCells_length]; simp only [ByteArray.size_append]; omega
 have:=h.setRange o (strCells s) (by rw [hl,strCells_length]; omega);rw [strCells_length] at this;rw [strCells_append,strCells_append] at this ⊢;rw [List.append_assoc (strCells A),List.take_left' (by rw [strCells_length]; exact hA),← List.append_assoc,List.drop_left' (by rw [List.length_append,strCells_length,strCells_length]; omega)] at this;exact this
theorem below_setCells {w W:World} {B g:Nat} (h:Below B w W) (hg:B≤g):∀ (cs:List Value) (o:Nat),Below B w (W.setCells g o cs)
 | [],o=>h
 | c::cs,o=>by rw [World.setCells]; exact below_setCells (h.setCell (p:=⟨g,o,none⟩) hg c) hg cs (o+1)
theorem Bxs.cells {w wx:World} {ks:List (Nat × List Value)} (h:Bxs w ks wx) {g:Nat} (hne:∀ e∈ks,e.1≠g) (hg:w.heap.size≤g) {o:Nat} {cs:List Value}:Bxs w ks (wx.setCells g o cs) :=
 ⟨fun e he=>(h.k e he).setCellsOther (hne e he) cs,below_setCells h.b hg cs o,h.z⟩
theorem hold_bt {w:World} {g:Nat} {t:ByteArray} (h:HoldsL w g (strCells t)) (i:Nat) (hi:i < t.size):w.cell? ⟨g,i,none⟩=some (.int .u8 (bt t i)):=h.cell (strCells_at t i hi)
end Go.Proofs.YtcckaeppiamebaaGreatDoor
namespace Go.Proofs.YtcckaeppiamebaaGreatDoor
open Go.RowKit Go.PlainAid
theorem ipPlace_any (p:Int) (w:World) :
  Cw 159 #[iV p] w (iV (checkP p:Nat)):=by
 by_cases h1:p=6
 ·subst h1;go_enter Tryz.func159,Tryz.ntmps159
  go_wp2_with fail
  go_ret;exact ⟨rfl,rfl⟩
 ·have d1:(p==6)=false:=by simp [h1]
  by_cases h2:p=17
  ·subst h2;go_enter Tryz.func159,Tryz.ntmps159
   go_wp2_with fail
   go_ret;exact ⟨rfl,rfl⟩
  ·have d2:(p==17)=false:=by simp [h2]
   have HV:Hid (checkP p=2):=by unfold Hid checkP; rw [if_neg h1,if_neg h2]
   generalize checkP p=ans at *;go_enter Tryz.func159,Tryz.ntmps159
   go_wp2_with fail
   go_ret;exact ⟨ret_int (by rw [HV.out]; rfl),rfl⟩
theorem ipLike_any (a b:Int) (w:World) :
  Cw 156 #[iV a,iV b] w (.bool (decide (a=b)||(echoP a&&echoP b))):=by
 have HA:Hid (∀ W,Cw 101 #[iV a] W (.bool (echoP a))):=fun W=>implEcho_any a W
 have HB:Hid (∀ W,Cw 101 #[iV b] W (.bool (echoP b))):=fun W=>implEcho_any b W
 have hun:undef=Value.tuple #[]:=rfl;by_cases h:a=b
 ·have d1:(a==b)=true:=by simp [h]
  have HV:Hid ((decide (a=b)||(echoP a&&echoP b))=true):=by unfold Hid; simp [h]
  generalize (decide (a=b)||(echoP a&&echoP b))=ans at *;clear h HA HB;go_enter Tryz.func156,Tryz.ntmps156
  go_wp2_with fail
  go_ret;exact ⟨ret_bool (by rw [HV.out]),rfl⟩
 ·have d1:(a==b)=false:=by simp [h]
  have HV:Hid ((decide (a=b)||(echoP a&&echoP b))=(echoP a&&echoP b)):=by unfold Hid; simp [h]
  generalize (decide (a=b)||(echoP a&&echoP b))=ans at *;generalize echoP a=ea at *;generalize echoP b=eb at *;clear h
  cases ea with
  | false =>
   go_enter Tryz.func156,Tryz.ntmps156
   go_wp2_with fail
   refine (HA.out _).mono ?_;rintro e w2 ⟨rfl,rfl⟩;go_wp2_with fail
   go_ret;exact ⟨ret_bool (by rw [HV.out]; rfl),rfl⟩
  | true =>
   go_enter Tryz.func156,Tryz.ntmps156
   go_wp2_with fail
   refine (HA.out _).mono ?_;rintro e w2 ⟨rfl,rfl⟩;go_wp2_with fail
   refine (HB.out _).mono ?_;rintro e w3 ⟨rfl,rfl⟩;go_wp2_with fail
   go_ret;exact ⟨ret_bool (by rw [HV.out]; rfl),rfl⟩
theorem ipSetPart_any (p:Int) (t:ByteArray) (w:World) (h8:8≤t.size) (ht:t.size≤1048576) :
  Cb 178 #[iV p,.string t] w (.string (setPartV p t)):=by
 have HE:Hid (∀ W,Cw 101 #[iV p] W (.bool (echoP p))):=fun W=>implEcho_any p W
 have L1:∀ W,(Instr.slice 9 (.string t) none (some (iV 4)) none).run Tryz.prog W=.ok (.string (t.extract 0 4)) W:=fun W=>run_slice_string_h (P:=Tryz.prog) (t:=9) (s:=t) (w:=W) (ht:=Tryz.underlying9) .i64 (4:Int) (by omega) (by omega)
 have L2:∀ W,(Instr.slice 9 (.string t) none (some (iV 2)) none).run Tryz.prog W=.ok (.string (t.extract 0 2)) W:=fun W=>run_slice_string_h (P:=Tryz.prog) (t:=9) (s:=t) (w:=W) (ht:=Tryz.underlying9) .i64 (2:Int) (by omega) (by omega)
 have L3:∀ W,(Instr.slice 9 (.string t) (some (iV 4)) (some (iV 6)) none).run Tryz.prog W=.ok (.string (t.extract 4 6)) W:=fun W=>str_slice5 t 4 6 W (by omega) (by omega)
 have z1:(t.extract 0 4).size=4:=by rw [ByteArray.size_extract]; omega
 have z2:(t.extract 0 2).size=2:=by rw [ByteArray.size_extract]; omega
 have z3:(t.extract 4 6).size=2:=by rw [ByteArray.size_extract]; omega
 have HV:Hid (setPartV p t=if echoP p=true then t.extract 0 2++t.extract 4 6 else t.extract 0 4):=rfl;generalize t.extract 0 4=u1 at *;generalize t.extract 0 2=u2 at *;generalize t.extract 4 6=u3 at *;generalize setPartV p t=ans at *;have n1:¬ 9223372036854775807 < u2.size+u3.size:=by omega
 generalize echoP p=b at *
 cases b with
 | false =>
  replace HV:Hid (ans=u1):=HV.out;go_enter Tryz.func178,Tryz.ntmps178
  go_wp2_with fail
  refine (HE.out _).mono ?_;rintro e w2 ⟨rfl,rfl⟩;go_wp2_with fail
  go_ret;exact ⟨by rw [HV.out]; rfl,Below.refl _ _⟩
 | true =>
  replace HV:Hid (ans=u2++u3):=HV.out;go_enter Tryz.func178,Tryz.ntmps178
  go_wp2_with fail
  refine (HE.out _).mono ?_;rintro e w2 ⟨rfl,rfl⟩;go_wp2_with fail
  go_region
  all_goals go_wp2_with fail
  all_goals go_ret
  all_goals exact ⟨by rw [HV.out]; rfl,(Below.refl _ _).drew⟩
end Go.Proofs.YtcckaeppiamebaaGreatDoor
