import Derived.Test.YtcckaeppiamebaaGreatDoorMerged11
import Derived.Test.YtcckaeppiamebaaGreatDoorMerged19
import Derived.Test.YtcckaeppiamebaaGreatDoorMerged18
import Derived.Test.YtcckaeppiamebaaGreatDoorGrowV
import Derived.Deep.DeepCutAuto
import Derived.RegionTactic
set_option linter.unusedVariables false
set_option linter.unusedSimpArgs false
set_option maxRecDepth 100000
set_option maxHeartbeats 8000000
namespace Go.Proofs.YtcckaeppiamebaaGreatDoor
open Go.RowKit Go.PlainAid
theorem sp9Proto_any (n:Int) (w:World) :
  Calls Tryz.prog 86 #[.int .i64 n] w fun e w'=>e=.returned (.int .i64 (protoN n))∧w'=w:=by
 by_cases h:n=58
 ·subst h;go_enter Tryz.func86,Tryz.ntmps86
  go_wp2_with fail
  go_ret;exact ⟨rfl,rfl⟩
 ·have HV:Hid (protoN n=n):=if_neg h;have d0:(n==58)=false:=by simp [h]
  go_enter Tryz.func86,Tryz.ntmps86
  go_wp2_with fail
  go_ret;exact ⟨ret_int (by rw [HV.out]),rfl⟩
theorem sp9Port_any (f:Fl) (n:Int) (w:World) :
  Calls Tryz.prog 87 #[fwC f,.int .i64 n] w fun e w'=>e=.returned (.int .i64 (peerV f.proto n))∧Below w.heap.size w w':=by
 have HE:Hid (∀ W,Calls Tryz.prog 83 #[.int .i64 f.proto] W fun e w'=>e=.returned (.bool (echoP f.proto))∧w'=W):=fun W=>spEcho_any _ W
 have HV:Hid (peerV f.proto n=if echoP f.proto=true then 0 else n):=rfl;generalize peerV f.proto n=ans at *;generalize echoP f.proto=b at *;obtain ⟨proto,src,dst,sp,dp⟩:=f;unfold fwC;dsimp only at *;have e0:HoldsL (w.alloc (.cells #[.int .i64 proto,.string src,.string dst,.int .i64 sp,.int .i64 dp] 91)) (w.heap.size) [.int .i64 proto,.string src,.string dst,.int .i64 sp,.int .i64 dp]:=by
  have h:=HoldsL.new w [.int .i64 proto,.string src,.string dst,.int .i64 sp,.int .i64 dp] 91;try simp only [World.size_alloc] at h
  exact h
 have HS0:Hid (Bxs w [(w.heap.size,[.int .i64 proto,.string src,.string dst,.int .i64 sp,.int .i64 dp])] (w.alloc (.cells #[.int .i64 proto,.string src,.string dst,.int .i64 sp,.int .i64 dp] 91))):=by
  refine ⟨fun e he=>?_,((Below.refl _ _).alloc (by (try simp only [World.size_alloc]); omega) _),fun e he=>?_⟩
  ·simp only [List.mem_cons,List.not_mem_nil,or_false] at he;rcases he with rfl
   ·exact e0
  ·simp only [List.mem_cons,List.not_mem_nil,or_false] at he;rcases he with rfl<;>simp
 clear e0;have HB:Hid _:=HS0.out.b;clear HS0;go_enter Tryz.func87,Tryz.ntmps87
 go_wp2_with fail
 refine (HE.out _).mono ?_;rintro e w2 ⟨rfl,rfl⟩
 cases b with
 | false =>
  go_wp2_with fail
  go_ret;exact ⟨ret_int (by rw [HV.out]; rfl),HB.out⟩
 | true =>
  go_wp2_with fail
  go_ret;exact ⟨ret_int (by rw [HV.out]; rfl),HB.out⟩
theorem sp9Flags_any (f:Fl) (t:ByteArray) (w:World) (ht:t.size≤1048576) (h20:f.proto=6→20≤t.size) :
  Calls Tryz.prog 88 #[fwC f,.string t] w fun e w'=>e=.returned (.int .i64 (flagV f.proto t))∧Below w.heap.size w w':=by
 obtain ⟨proto,src,dst,sp,dp⟩:=f;unfold fwC;dsimp only at *;have e0:HoldsL (w.alloc (.cells #[.int .i64 proto,.string src,.string dst,.int .i64 sp,.int .i64 dp] 91)) (w.heap.size) [.int .i64 proto,.string src,.string dst,.int .i64 sp,.int .i64 dp]:=by
  have h:=HoldsL.new w [.int .i64 proto,.string src,.string dst,.int .i64 sp,.int .i64 dp] 91;try simp only [World.size_alloc] at h
  exact h
 have HS0:Hid (Bxs w [(w.heap.size,[.int .i64 proto,.string src,.string dst,.int .i64 sp,.int .i64 dp])] (w.alloc (.cells #[.int .i64 proto,.string src,.string dst,.int .i64 sp,.int .i64 dp] 91))):=by
  refine ⟨fun e he=>?_,((Below.refl _ _).alloc (by (try simp only [World.size_alloc]); omega) _),fun e he=>?_⟩
  ·simp only [List.mem_cons,List.not_mem_nil,or_false] at he;rcases he with rfl
   ·exact e0
  ·simp only [List.mem_cons,List.not_mem_nil,or_false] at he;rcases he with rfl<;>simp
 clear e0;have HB:Hid _:=HS0.out.b;clear HS0;by_cases h:proto=6
 case pos =>
  have h20':=h20 h;subst h;have HV:Hid (flagV 6 t=bt t 13):=rfl;have hb:=get_bt t;have b1:=bt_isByte t 13;generalize flagV 6 t=ans at *;have hi:¬ (t.size:Int)≤13:=by omega
  have hj:(13:Int) < t.size:=by omega
  go_enter Tryz.func88,Tryz.ntmps88
  go_wp2_with fail
  go_ret;exact ⟨ret_int HV.out.symm,HB.out⟩
 have HV:Hid (flagV proto t=0):=if_neg h;generalize flagV proto t=ans at *;have d0:(proto != 6)=true:=by simp [h]
 go_enter Tryz.func88,Tryz.ntmps88
 go_wp2_with fail
 go_ret;exact ⟨ret_int (by rw [HV.out]),HB.out⟩
theorem sp9Kind_any (f g:Fl) (w:World) (hg:g.src.size≤1048576) :
  Calls Tryz.prog 95 #[fwC f,fwC g] w fun e w'=>e=.returned (fwC (kindF f g))∧Below w.heap.size w w':=by
 have HE:Hid (∀ W,Calls Tryz.prog 83 #[.int .i64 f.proto] W fun e w'=>e=.returned (.bool (echoP f.proto))∧w'=W):=fun W=>spEcho_any _ W
 have HV:Hid (kindF f g=if echoP f.proto=true then ⟨if g.src.size=16 then 58 else 1,g.src,g.dst,g.sp,g.sp⟩ else g):=rfl;generalize kindF f g=ans at *;generalize echoP f.proto=b at *;obtain ⟨proto,src,dst,sp,dp⟩:=f;obtain ⟨proto',src',dst',sp',dp'⟩:=g;unfold fwC;dsimp only at *;have e0:HoldsL (((w.alloc (.cells #[.int .i64 proto,.string src,.string dst,.int .i64 sp,.int .i64 dp] 91)).alloc (.cells #[.int .i64 proto',.string src',.string dst',.int .i64 sp',.int .i64 dp'] 91)).alloc (.cells #[.int .i64 0,.string ⟨#[]⟩,.string ⟨#[]⟩,.int .i64 0,.int .i64 0] 91)) (w.heap.size) [.int .i64 proto,.string src,.string dst,.int .i64 sp,.int .i64 dp]:=by
  have h:=HoldsL.new w [.int .i64 proto,.string src,.string dst,.int .i64 sp,.int .i64 dp] 91;try simp only [World.size_alloc] at h
  exact ((h.alloc _).alloc _)
 have e1:HoldsL (((w.alloc (.cells #[.int .i64 proto,.string src,.string dst,.int .i64 sp,.int .i64 dp] 91)).alloc (.cells #[.int .i64 proto',.string src',.string dst',.int .i64 sp',.int .i64 dp'] 91)).alloc (.cells #[.int .i64 0,.string ⟨#[]⟩,.string ⟨#[]⟩,.int .i64 0,.int .i64 0] 91)) (w.heap.size+1) [.int .i64 proto',.string src',.string dst',.int .i64 sp',.int .i64 dp']:=by
  have h:=HoldsL.new (w.alloc (.cells #[.int .i64 proto,.string src,.string dst,.int .i64 sp,.int .i64 dp] 91)) [.int .i64 proto',.string src',.string dst',.int .i64 sp',.int .i64 dp'] 91;try simp only [World.size_alloc] at h
  exact (h.alloc _)
 have e2:HoldsL (((w.alloc (.cells #[.int .i64 proto,.string src,.string dst,.int .i64 sp,.int .i64 dp] 91)).alloc (.cells #[.int .i64 proto',.string src',.string dst',.int .i64 sp',.int .i64 dp'] 91)).alloc (.cells #[.int .i64 0,.string ⟨#[]⟩,.string ⟨#[]⟩,.int .i64 0,.int .i64 0] 91)) (w.heap.size+1+1) [.int .i64 0,.string ⟨#[]⟩,.string ⟨#[]⟩,.int .i64 0,.int .i64 0]:=by
  have h:=HoldsL.new ((w.alloc (.cells #[.int .i64 proto,.string src,.string dst,.int .i64 sp,.int .i64 dp] 91)).alloc (.cells #[.int .i64 proto',.string src',.string dst',.int .i64 sp',.int .i64 dp'] 91)) [.int .i64 0,.string ⟨#[]⟩,.string ⟨#[]⟩,.int .i64 0,.int .i64 0] 91;try simp only [World.size_alloc] at h
  exact h
 have HS0:Hid (Bxs w [(w.heap.size,[.int .i64 proto,.string src,.string dst,.int .i64 sp,.int .i64 dp]),(w.heap.size+1,[.int .i64 proto',.string src',.string dst',.int .i64 sp',.int .i64 dp']),(w.heap.size+1+1,[.int .i64 0,.string ⟨#[]⟩,.string ⟨#[]⟩,.int .i64 0,.int .i64 0])] (((w.alloc (.cells #[.int .i64 proto,.string src,.string dst,.int .i64 sp,.int .i64 dp] 91)).alloc (.cells #[.int .i64 proto',.string src',.string dst',.int .i64 sp',.int .i64 dp'] 91)).alloc (.cells #[.int .i64 0,.string ⟨#[]⟩,.string ⟨#[]⟩,.int .i64 0,.int .i64 0] 91))):=by
  refine ⟨fun e he=>?_,((((Below.refl _ _).alloc (by (try simp only [World.size_alloc]); omega) _).alloc (by (try simp only [World.size_alloc]); omega) _).alloc (by (try simp only [World.size_alloc]); omega) _),fun e he=>?_⟩
  ·simp only [List.mem_cons,List.not_mem_nil,or_false] at he;rcases he with rfl | rfl | rfl
   ·exact e0
   ·exact e1
   ·exact e2
  ·simp only [List.mem_cons,List.not_mem_nil,or_false] at he;rcases he with rfl | rfl | rfl<;>simp
 clear e0 e1 e2;have hRw:w.heap.size≤w.heap.size+1+1:=by omega
 have hGw:w.heap.size≤w.heap.size+1:=by omega
 go_enter Tryz.func95,Tryz.ntmps95
 go_upto_region 1 with fail
 generalize (((w.alloc (.cells #[.int .i64 proto,.string src,.string dst,.int .i64 sp,.int .i64 dp] 91)).alloc (.cells #[.int .i64 proto',.string src',.string dst',.int .i64 sp',.int .i64 dp'] 91)).alloc (.cells #[.int .i64 0,.string ⟨#[]⟩,.string ⟨#[]⟩,.int .i64 0,.int .i64 0] 91))=W0 at *;have HHk:=HS0.out.at (.head _);obtain ⟨k0,k1,k2,k3,k4⟩:=HHk.c5;clear HHk;go_wp2_with fail
 refine (HE.out _).mono ?_;rintro e W0 ⟨rfl,rfl⟩
 cases b with
 | false =>
  have HX:Hid (ans=⟨proto',src',dst',sp',dp'⟩):=HV.out;clear HV;have HHl:=HS0.out.at (.tail _ (.head _));obtain ⟨l0,l1,l2,l3,l4⟩:=HHl.c5;clear HHl;have HHz:=HS0.out.at (.tail _ (.tail _ (.head _)));obtain ⟨z0,z1,z2,z3,z4⟩:=HHz.c5;obtain ⟨zf0,zf1,zf2,zf3,zf4⟩:=HHz.f5;have HRR:Hid (HoldsL (((((W0.setCell ⟨w.heap.size+1+1,0,none⟩ (.int .i64 proto')).setCell ⟨w.heap.size+1+1,1,none⟩ (.string src')).setCell ⟨w.heap.size+1+1,2,none⟩ (.string dst')).setCell ⟨w.heap.size+1+1,3,none⟩ (.int .i64 sp')).setCell ⟨w.heap.size+1+1,4,none⟩ (.int .i64 dp')) (w.heap.size+1+1) [.int .i64 proto',.string src',.string dst',.int .i64 sp',.int .i64 dp']):=(((((HHz.set 0 (.int .i64 proto')).set 1 (.string src')).set 2 (.string dst')).set 3 (.int .i64 sp')).set 4 (.int .i64 dp'));have RB:Hid _:=(((((HS0.out.b.setCell (p:=⟨w.heap.size+1+1,0,none⟩) hRw (.int .i64 proto')).setCell (p:=⟨w.heap.size+1+1,1,none⟩) hRw (.string src')).setCell (p:=⟨w.heap.size+1+1,2,none⟩) hRw (.string dst')).setCell (p:=⟨w.heap.size+1+1,3,none⟩) hRw (.int .i64 sp')).setCell (p:=⟨w.heap.size+1+1,4,none⟩) hRw (.int .i64 dp'));clear HHz;go_wp2_with fail
  exact bodyPost_ret (results_mid Tryz.results95 _ _ (w.heap.size+1+1) [.int .i64 proto',.string src',.string dst',.int .i64 sp',.int .i64 dp'] _ rfl HRR.out Tryz.underlying91 rfl (show (Tryz.prog.info? 91).map (·.size)=some 5 by kernel_rfl)) rfl (And.intro (by rw [HX.out]) RB.out)
 | true =>
  by_cases h16:src'.size=16
  case pos =>
   have HX:Hid (ans=⟨58,src',dst',sp',sp'⟩):=by unfold Hid; rw [HV.out,if_pos rfl]; simp [h16]
   have d16:((src'.size:Int)==16)=true:=by rw [h16]; rfl
   clear HV h16;have HHg:=HS0.out.at (.tail _ (.head _));obtain ⟨l0,l1,l2,l3,l4⟩:=HHg.c5;obtain ⟨lf0,lf1,lf2,lf3,lf4⟩:=HHg.f5;have S2:Hid (Bxs w [(w.heap.size+1,[.int .i64 58,.string src',.string dst',.int .i64 sp',.int .i64 sp']),(w.heap.size+1+1,[.int .i64 0,.string ⟨#[]⟩,.string ⟨#[]⟩,.int .i64 0,.int .i64 0])] (((W0.setCell ⟨w.heap.size+1,4,none⟩ (.int .i64 sp')).setCell ⟨w.heap.size+1,0,none⟩ (.int .i64 1)).setCell ⟨w.heap.size+1,0,none⟩ (.int .i64 58))):=⟨fun e he=>by
    simp only [List.mem_cons,List.not_mem_nil,or_false] at he;rcases he with rfl | rfl
    ·exact ((HHg.set 4 (.int .i64 sp')).set 0 (.int .i64 1)).set 0 (.int .i64 58)
    ·exact (HoldsL.setOther (HoldsL.setOther (HoldsL.setOther (HS0.out.k _ (.tail _ (.tail _ (.head _)))) (by show w.heap.size+1+1≠w.heap.size+1; omega) _) (by show w.heap.size+1+1≠w.heap.size+1; omega) _) (by show w.heap.size+1+1≠w.heap.size+1; omega) _),(((HS0.out.b.setCell (p:=⟨w.heap.size+1,4,none⟩) hGw _).setCell (p:=⟨w.heap.size+1,0,none⟩) hGw _).setCell (p:=⟨w.heap.size+1,0,none⟩) hGw _),fun e he=>by
    simp only [List.mem_cons,List.not_mem_nil,or_false] at he;rcases he with rfl | rfl<;>simp⟩
   clear HHg;go_upto_region 7 with fail
   generalize ((W0.setCell ⟨w.heap.size+1,4,none⟩ (.int .i64 sp')).setCell ⟨w.heap.size+1,0,none⟩ (.int .i64 1)).setCell ⟨w.heap.size+1,0,none⟩ (.int .i64 58)=W2 at *;clear l0 lf0 l1 lf1 l2 lf2 l3 lf3 l4 lf4 HS0 k0 k1 k2 k3 k4;have HHl:=S2.out.at (.head _);obtain ⟨l0,l1,l2,l3,l4⟩:=HHl.c5;clear HHl;have HHz:=S2.out.at (.tail _ (.head _));obtain ⟨z0,z1,z2,z3,z4⟩:=HHz.c5;obtain ⟨zf0,zf1,zf2,zf3,zf4⟩:=HHz.f5;have HRR:Hid (HoldsL (((((W2.setCell ⟨w.heap.size+1+1,0,none⟩ (.int .i64 58)).setCell ⟨w.heap.size+1+1,1,none⟩ (.string src')).setCell ⟨w.heap.size+1+1,2,none⟩ (.string dst')).setCell ⟨w.heap.size+1+1,3,none⟩ (.int .i64 sp')).setCell ⟨w.heap.size+1+1,4,none⟩ (.int .i64 sp')) (w.heap.size+1+1) [.int .i64 58,.string src',.string dst',.int .i64 sp',.int .i64 sp']):=(((((HHz.set 0 (.int .i64 58)).set 1 (.string src')).set 2 (.string dst')).set 3 (.int .i64 sp')).set 4 (.int .i64 sp'));have RB:Hid _:=(((((S2.out.b.setCell (p:=⟨w.heap.size+1+1,0,none⟩) hRw (.int .i64 58)).setCell (p:=⟨w.heap.size+1+1,1,none⟩) hRw (.string src')).setCell (p:=⟨w.heap.size+1+1,2,none⟩) hRw (.string dst')).setCell (p:=⟨w.heap.size+1+1,3,none⟩) hRw (.int .i64 sp')).setCell (p:=⟨w.heap.size+1+1,4,none⟩) hRw (.int .i64 sp'));clear HHz;go_wp2_with fail
   exact bodyPost_ret (results_mid Tryz.results95 _ _ (w.heap.size+1+1) [.int .i64 58,.string src',.string dst',.int .i64 sp',.int .i64 sp'] _ rfl HRR.out Tryz.underlying91 rfl (show (Tryz.prog.info? 91).map (·.size)=some 5 by kernel_rfl)) rfl (And.intro (by rw [HX.out]) RB.out)
  case neg =>
   have HX:Hid (ans=⟨1,src',dst',sp',sp'⟩):=by unfold Hid; rw [HV.out,if_pos rfl]; simp [h16]
   have d16:((src'.size:Int)==16)=false:=by simp; omega
   clear HV h16;have HHg:=HS0.out.at (.tail _ (.head _));obtain ⟨l0,l1,l2,l3,l4⟩:=HHg.c5;obtain ⟨lf0,lf1,lf2,lf3,lf4⟩:=HHg.f5;have S2:Hid (Bxs w [(w.heap.size+1,[.int .i64 1,.string src',.string dst',.int .i64 sp',.int .i64 sp']),(w.heap.size+1+1,[.int .i64 0,.string ⟨#[]⟩,.string ⟨#[]⟩,.int .i64 0,.int .i64 0])] ((W0.setCell ⟨w.heap.size+1,4,none⟩ (.int .i64 sp')).setCell ⟨w.heap.size+1,0,none⟩ (.int .i64 1))):=⟨fun e he=>by
    simp only [List.mem_cons,List.not_mem_nil,or_false] at he;rcases he with rfl | rfl
    ·exact ((HHg.set 4 (.int .i64 sp')).set 0 (.int .i64 1))
    ·exact (HoldsL.setOther (HoldsL.setOther (HS0.out.k _ (.tail _ (.tail _ (.head _)))) (by show w.heap.size+1+1≠w.heap.size+1; omega) _) (by show w.heap.size+1+1≠w.heap.size+1; omega) _),((HS0.out.b.setCell (p:=⟨w.heap.size+1,4,none⟩) hGw _).setCell (p:=⟨w.heap.size+1,0,none⟩) hGw _),fun e he=>by
    simp only [List.mem_cons,List.not_mem_nil,or_false] at he;rcases he with rfl | rfl<;>simp⟩
   clear HHg;go_upto_region 7 with fail
   generalize (W0.setCell ⟨w.heap.size+1,4,none⟩ (.int .i64 sp')).setCell ⟨w.heap.size+1,0,none⟩ (.int .i64 1)=W2 at *;clear l0 lf0 l1 lf1 l2 lf2 l3 lf3 l4 lf4 HS0 k0 k1 k2 k3 k4;have HHl:=S2.out.at (.head _);obtain ⟨l0,l1,l2,l3,l4⟩:=HHl.c5;clear HHl;have HHz:=S2.out.at (.tail _ (.head _));obtain ⟨z0,z1,z2,z3,z4⟩:=HHz.c5;obtain ⟨zf0,zf1,zf2,zf3,zf4⟩:=HHz.f5;have HRR:Hid (HoldsL (((((W2.setCell ⟨w.heap.size+1+1,0,none⟩ (.int .i64 1)).setCell ⟨w.heap.size+1+1,1,none⟩ (.string src')).setCell ⟨w.heap.size+1+1,2,none⟩ (.string dst')).setCell ⟨w.heap.size+1+1,3,none⟩ (.int .i64 sp')).setCell ⟨w.heap.size+1+1,4,none⟩ (.int .i64 sp')) (w.heap.size+1+1) [.int .i64 1,.string src',.string dst',.int .i64 sp',.int .i64 sp']):=(((((HHz.set 0 (.int .i64 1)).set 1 (.string src')).set 2 (.string dst')).set 3 (.int .i64 sp')).set 4 (.int .i64 sp'));have RB:Hid _:=(((((S2.out.b.setCell (p:=⟨w.heap.size+1+1,0,none⟩) hRw (.int .i64 1)).setCell (p:=⟨w.heap.size+1+1,1,none⟩) hRw (.string src')).setCell (p:=⟨w.heap.size+1+1,2,none⟩) hRw (.string dst')).setCell (p:=⟨w.heap.size+1+1,3,none⟩) hRw (.int .i64 sp')).setCell (p:=⟨w.heap.size+1+1,4,none⟩) hRw (.int .i64 sp'));clear HHz;go_wp2_with fail
   exact bodyPost_ret (results_mid Tryz.results95 _ _ (w.heap.size+1+1) [.int .i64 1,.string src',.string dst',.int .i64 sp',.int .i64 sp'] _ rfl HRR.out Tryz.underlying91 rfl (show (Tryz.prog.info? 91).map (·.size)=some 5 by kernel_rfl)) rfl (And.intro (by rw [HX.out]) RB.out)
theorem sp9From_any (f:Fl) (s:ByteArray) (n:Int) (d:ByteArray) (w:World) (hs:s.size≤1048576) :
  Calls Tryz.prog 56 #[fwC f,.string s,.int .i64 n,.string d] w fun e w'=>e=.returned (fwC (fromF f s n d))∧Below w.heap.size w w':=by
 have HK:Hid (∀ W,Calls Tryz.prog 95 #[fwC f,fwC ⟨f.proto,s,d,n,f.dp⟩] W fun e w'=>e=.returned (fwC (fromF f s n d))∧Below W.heap.size W w'):=fun W=>sp9Kind_any f ⟨f.proto,s,d,n,f.dp⟩ W hs
 generalize fromF f s n d=ans at *;obtain ⟨proto,src,dst,sp,dp⟩:=f;unfold fwC at *;dsimp only at *;have e0:HoldsL ((w.alloc (.cells #[.int .i64 proto,.string src,.string dst,.int .i64 sp,.int .i64 dp] 91)).alloc (.cells #[.int .i64 0,.string ⟨#[]⟩,.string ⟨#[]⟩,.int .i64 0,.int .i64 0] 91)) (w.heap.size) [.int .i64 proto,.string src,.string dst,.int .i64 sp,.int .i64 dp]:=by
  have h:=HoldsL.new w [.int .i64 proto,.string src,.string dst,.int .i64 sp,.int .i64 dp] 91;try simp only [World.size_alloc] at h
  exact (h.alloc _)
 have e1:HoldsL ((w.alloc (.cells #[.int .i64 proto,.string src,.string dst,.int .i64 sp,.int .i64 dp] 91)).alloc (.cells #[.int .i64 0,.string ⟨#[]⟩,.string ⟨#[]⟩,.int .i64 0,.int .i64 0] 91)) (w.heap.size+1) [.int .i64 0,.string ⟨#[]⟩,.string ⟨#[]⟩,.int .i64 0,.int .i64 0]:=by
  have h:=HoldsL.new (w.alloc (.cells #[.int .i64 proto,.string src,.string dst,.int .i64 sp,.int .i64 dp] 91)) [.int .i64 0,.string ⟨#[]⟩,.string ⟨#[]⟩,.int .i64 0,.int .i64 0] 91;try simp only [World.size_alloc] at h
  exact h
 have HS0:Hid (Bxs w [(w.heap.size,[.int .i64 proto,.string src,.string dst,.int .i64 sp,.int .i64 dp]),(w.heap.size+1,[.int .i64 0,.string ⟨#[]⟩,.string ⟨#[]⟩,.int .i64 0,.int .i64 0])] ((w.alloc (.cells #[.int .i64 proto,.string src,.string dst,.int .i64 sp,.int .i64 dp] 91)).alloc (.cells #[.int .i64 0,.string ⟨#[]⟩,.string ⟨#[]⟩,.int .i64 0,.int .i64 0] 91))):=by
  refine ⟨fun e he=>?_,(((Below.refl _ _).alloc (by (try simp only [World.size_alloc]); omega) _).alloc (by (try simp only [World.size_alloc]); omega) _),fun e he=>?_⟩
  ·simp only [List.mem_cons,List.not_mem_nil,or_false] at he;rcases he with rfl | rfl
   ·exact e0
   ·exact e1
  ·simp only [List.mem_cons,List.not_mem_nil,or_false] at he;rcases he with rfl | rfl<;>simp
 clear e0 e1;have hRw:w.heap.size≤w.heap.size+1:=by omega
 go_enter Tryz.func56,Tryz.ntmps56
 go_upto_region 1 with fail
 generalize ((w.alloc (.cells #[.int .i64 proto,.string src,.string dst,.int .i64 sp,.int .i64 dp] 91)).alloc (.cells #[.int .i64 0,.string ⟨#[]⟩,.string ⟨#[]⟩,.int .i64 0,.int .i64 0] 91))=W0 at *;have HHk:=HS0.out.at (.head _);obtain ⟨k0,k1,k2,k3,k4⟩:=HHk.c5;clear HHk;have S1:Hid (Bxs w ((W0.heap.size,[.int .i64 proto,.string s,.string d,.int .i64 n,.int .i64 dp])::[(w.heap.size,[.int .i64 proto,.string src,.string dst,.int .i64 sp,.int .i64 dp]),(w.heap.size+1,[.int .i64 0,.string ⟨#[]⟩,.string ⟨#[]⟩,.int .i64 0,.int .i64 0])]) (W0.alloc (.cells #[.int .i64 proto,.string s,.string d,.int .i64 n,.int .i64 dp] 91))):=HS0.out.push [.int .i64 proto,.string s,.string d,.int .i64 n,.int .i64 dp] (by simp) _;go_upto_region 2 with fail
 clear HS0 k0 k1 k2 k3 k4;generalize W0.alloc (.cells #[.int .i64 proto,.string s,.string d,.int .i64 n,.int .i64 dp] 91)=W1 at *;generalize W0.heap.size=G at *;have HHk:=S1.out.at (.tail _ (.head _));obtain ⟨k0,k1,k2,k3,k4⟩:=HHk.c5;clear HHk;have HHl:=S1.out.at (.head _);obtain ⟨l0,l1,l2,l3,l4⟩:=HHl.c5;clear HHl;go_wp2_with fail
 refine (HK.out _).mono ?_;rintro e W2 ⟨rfl,q2⟩;have S2:Hid _:=S1.out.kept q2;clear q2 S1 k0 k1 k2 k3 k4 l0 l1 l2 l3 l4;have HHz:=S2.out.at (.tail _ (.tail _ (.head _)));obtain ⟨z0,z1,z2,z3,z4⟩:=HHz.c5;obtain ⟨zf0,zf1,zf2,zf3,zf4⟩:=HHz.f5;have HRR:Hid (HoldsL (((((W2.setCell ⟨w.heap.size+1,0,none⟩ (.int .i64 ans.proto)).setCell ⟨w.heap.size+1,1,none⟩ (.string ans.src)).setCell ⟨w.heap.size+1,2,none⟩ (.string ans.dst)).setCell ⟨w.heap.size+1,3,none⟩ (.int .i64 ans.sp)).setCell ⟨w.heap.size+1,4,none⟩ (.int .i64 ans.dp)) (w.heap.size+1) [.int .i64 ans.proto,.string ans.src,.string ans.dst,.int .i64 ans.sp,.int .i64 ans.dp]):=(((((HHz.set 0 (.int .i64 ans.proto)).set 1 (.string ans.src)).set 2 (.string ans.dst)).set 3 (.int .i64 ans.sp)).set 4 (.int .i64 ans.dp));have RB:Hid _:=(((((S2.out.b.setCell (p:=⟨w.heap.size+1,0,none⟩) hRw (.int .i64 ans.proto)).setCell (p:=⟨w.heap.size+1,1,none⟩) hRw (.string ans.src)).setCell (p:=⟨w.heap.size+1,2,none⟩) hRw (.string ans.dst)).setCell (p:=⟨w.heap.size+1,3,none⟩) hRw (.int .i64 ans.sp)).setCell (p:=⟨w.heap.size+1,4,none⟩) hRw (.int .i64 ans.dp));clear HHz;go_wp2_with fail
 exact bodyPost_ret (results_mid Tryz.results56 _ _ (w.heap.size+1) [.int .i64 ans.proto,.string ans.src,.string ans.dst,.int .i64 ans.sp,.int .i64 ans.dp] _ rfl HRR.out Tryz.underlying91 rfl (show (Tryz.prog.info? 91).map (·.size)=some 5 by kernel_rfl)) rfl (And.intro rfl RB.out)
end Go.Proofs.YtcckaeppiamebaaGreatDoor
