import Derived.Test.YtcckaeppiamebaaGreatDoorAb
import Derived.Test.YtcckaeppiamebaaGreatDoorMerged12
import Derived.Test.YtcckaeppiamebaaGreatDoorMerged20
import Derived.Test.YtcckaeppiamebaaGreatDoorMerged19
import Derived.Test.YtcckaeppiamebaaGreatDoorMerged5
import Derived.Deep.DeepCutAuto
import Derived.RegionTactic
set_option linter.unusedVariables false
set_option linter.unusedSimpArgs false
set_option maxRecDepth 100000
set_option maxHeartbeats 8000000
namespace Go.Proofs.YtcckaeppiamebaaGreatDoor
open Go.RowKit Go.PlainAid
theorem sp9Proto_any (n:Int) (w:World) :
  Cw 86 #[iV n] w (iV (protoN n)):=by
 by_cases h:n=58
 ·subst h;go_enter Tryz.func86,Tryz.ntmps86
  go_wp2_with fail
  go_ret;exact ⟨rfl,rfl⟩
 ·have HV:Hid (protoN n=n):=if_neg h;have d0:(n==58)=false:=by simp [h]
  go_enter Tryz.func86,Tryz.ntmps86
  go_wp2_with fail
  go_ret;exact ⟨ret_int (by rw [HV.out]),rfl⟩
theorem sp9Port_any (f:Fl) (n:Int) (w:World) :
  Cb 87 #[fwC f,iV n] w (iV (peerV f.proto n)):=by
 have HE:Hid (∀ W,Cw 83 #[iV f.proto] W (.bool (echoP f.proto))):=fun W=>spEcho_any _ W
 have HV:Hid (peerV f.proto n=if echoP f.proto=true then 0 else n):=rfl;generalize peerV f.proto n=ans at *;generalize echoP f.proto=b at *;obtain ⟨proto,src,dst,sp,dp⟩:=f;unfold fwC;dsimp only at *;have HS0:=bx1 w (FlR proto src dst sp dp) 91 (by simp)
 skip;have HB:Hid _:=HS0.out.b;clear HS0;go_enter Tryz.func87,Tryz.ntmps87
 go_wp2_with fail
 refine (HE.out _).mono ?_;rintro e w2 ⟨rfl,rfl⟩
 cases b with
 | false =>
  go_wp2_with fail
  go_ret;exact ⟨ret_int (by rw [HV.out]; rfl),HB.out⟩
 | true =>
  go_wp2_with fail
  go_ret;exact ⟨ret_int (by rw [HV.out]; rfl),HB.out⟩
theorem sp9Flags_any (f:Fl) (t:ByteArray) (w:World) (ht:t.size≤1048576) (h20:f.proto=6→20≤t.size) :
  Cb 88 #[fwC f,.string t] w (iV (flagV f.proto t)):=by
 obtain ⟨proto,src,dst,sp,dp⟩:=f;unfold fwC;dsimp only at *;have HS0:=bx1 w (FlR proto src dst sp dp) 91 (by simp)
 skip;have HB:Hid _:=HS0.out.b;clear HS0;by_cases h:proto=6
 case pos =>
  have h20':=h20 h;subst h;have HV:Hid (flagV 6 t=bt t 13):=rfl;have hb:=get_bt t;have b1:=bt_isByte t 13;generalize flagV 6 t=ans at *;have hi:¬ (t.size:Int)≤13:=by omega
  have hj:(13:Int) < t.size:=by omega
  go_enter Tryz.func88,Tryz.ntmps88
  go_wp2_with fail
  go_ret;exact ⟨ret_int HV.out.symm,HB.out⟩
 have HV:Hid (flagV proto t=0):=if_neg h;generalize flagV proto t=ans at *;have d0:(proto != 6)=true:=by simp [h]
 go_enter Tryz.func88,Tryz.ntmps88
 go_wp2_with fail
 go_ret;exact ⟨ret_int (by rw [HV.out]),HB.out⟩
theorem sp9Kind_any (f g:Fl) (w:World) (hg:g.src.size≤1048576) :
  Cb 95 #[fwC f,fwC g] w (fwC (kindF f g)):=by
 have HE:Hid (∀ W,Cw 83 #[iV f.proto] W (.bool (echoP f.proto))):=fun W=>spEcho_any _ W
 have HV:Hid (kindF f g=if echoP f.proto=true then ⟨if g.src.size=16 then 58 else 1,g.src,g.dst,g.sp,g.sp⟩ else g):=rfl;generalize kindF f g=ans at *;generalize echoP f.proto=b at *;obtain ⟨proto,src,dst,sp,dp⟩:=f;obtain ⟨proto',src',dst',sp',dp'⟩:=g;unfold fwC;dsimp only at *;have HS0:=bx3 w (FlR proto src dst sp dp) 91 (FlR proto' src' dst' sp' dp') 91 (FlR 0 ⟨#[]⟩ ⟨#[]⟩ 0 0) 91 (by simp) (by simp) (by simp)
 skip;have hRw:w.heap.size≤w.heap.size+1+1:=by omega
 have hGw:w.heap.size≤w.heap.size+1:=by omega
 go_enter Tryz.func95,Tryz.ntmps95
 go_upto_region 1 with fail
 generalize ((aW (aW w (FlR proto src dst sp dp) 91) (FlR proto' src' dst' sp' dp') 91).alloc (.cells (FlR 0 ⟨#[]⟩ ⟨#[]⟩ 0 0).toArray 91))=W0 at *;have HHk:=HS0.out.at mE0;obtain ⟨k0,k1,k2,k3,k4⟩:=HHk.c5;clear HHk;go_wp2_with fail
 refine (HE.out _).mono ?_;rintro e W0 ⟨rfl,rfl⟩
 cases b with
 | false =>
  have HX:Hid (ans=⟨proto',src',dst',sp',dp'⟩):=HV.out;clear HV;have HHl:=HS0.out.at mE1;obtain ⟨l0,l1,l2,l3,l4⟩:=HHl.c5;clear HHl;have HHz:=HS0.out.at mE2;obtain ⟨z0,z1,z2,z3,z4⟩:=HHz.c5;obtain ⟨zf0,zf1,zf2,zf3,zf4⟩:=HHz.f5;have HRR:Hid (HoldsL ((sW (sW (sW (sW W0 (w.heap.size+1+1) 0 (iV proto')) (w.heap.size+1+1) 1 (.string src')) (w.heap.size+1+1) 2 (.string dst')) (w.heap.size+1+1) 3 (iV sp')).setCell ⟨w.heap.size+1+1,4,none⟩ (iV dp')) (w.heap.size+1+1) (FlR proto' src' dst' sp' dp')):=(((((HHz.set 0 (iV proto')).set 1 (.string src')).set 2 (.string dst')).set 3 (iV sp')).set 4 (iV dp'));have RB:Hid _:=(((((HS0.out.b.setCell (p:=⟨w.heap.size+1+1,0,none⟩) hRw (iV proto')).setCell (p:=⟨w.heap.size+1+1,1,none⟩) hRw (.string src')).setCell (p:=⟨w.heap.size+1+1,2,none⟩) hRw (.string dst')).setCell (p:=⟨w.heap.size+1+1,3,none⟩) hRw (iV sp')).setCell (p:=⟨w.heap.size+1+1,4,none⟩) hRw (iV dp'));clear HHz;go_wp2_with fail
  exact bodyPost_ret (results_mid Tryz.results95 _ _ (w.heap.size+1+1) (FlR proto' src' dst' sp' dp') _ rfl HRR.out Tryz.underlying91 rfl (show (Tryz.prog.info? 91).map (·.size)=some 5 by kernel_rfl)) rfl (And.intro (by rw [HX.out]) RB.out)
 | true =>
  by_cases h16:src'.size=16
  case pos =>
   have HX:Hid (ans=⟨58,src',dst',sp',sp'⟩):=by unfold Hid; rw [HV.out,if_pos rfl]; simp [h16]
   have d16:((src'.size:Int)==16)=true:=by rw [h16]; rfl
   clear HV h16;have HHg:=HS0.out.at mE1;obtain ⟨l0,l1,l2,l3,l4⟩:=HHg.c5;obtain ⟨lf0,lf1,lf2,lf3,lf4⟩:=HHg.f5;have S2:Hid (Bxs w [(w.heap.size+1,(FlR 58 src' dst' sp' sp')),(w.heap.size+1+1,(FlR 0 ⟨#[]⟩ ⟨#[]⟩ 0 0))] ((sW (sW W0 (w.heap.size+1) 4 (iV sp')) (w.heap.size+1) 0 (iV 1)).setCell ⟨w.heap.size+1,0,none⟩ (iV 58))):=⟨fun e he=>by
    simp only [List.mem_cons,List.not_mem_nil,or_false] at he;rcases he with rfl | rfl
    ·exact ((HHg.set 4 (iV sp')).set 0 (iV 1)).set 0 (iV 58)
    ·exact (HoldsL.setOther (HoldsL.setOther (HoldsL.setOther (HS0.out.k _ mE2) (by show w.heap.size+1+1≠w.heap.size+1; omega) _) (by show w.heap.size+1+1≠w.heap.size+1; omega) _) (by show w.heap.size+1+1≠w.heap.size+1; omega) _),(((HS0.out.b.setCell (p:=⟨w.heap.size+1,4,none⟩) hGw _).setCell (p:=⟨w.heap.size+1,0,none⟩) hGw _).setCell (p:=⟨w.heap.size+1,0,none⟩) hGw _),fun e he=>by
    simp only [List.mem_cons,List.not_mem_nil,or_false] at he;rcases he with rfl | rfl<;>simp⟩
   clear HHg;go_upto_region 7 with fail
   generalize ((sW (sW W0 (w.heap.size+1) 4 (iV sp')) (w.heap.size+1) 0 (iV 1)).setCell ⟨w.heap.size+1,0,none⟩ (iV 58))=W2 at *;clear l0 lf0 l1 lf1 l2 lf2 l3 lf3 l4 lf4 HS0 k0 k1 k2 k3 k4;have HHl:=S2.out.at mE0;obtain ⟨l0,l1,l2,l3,l4⟩:=HHl.c5;clear HHl;have HHz:=S2.out.at mE1;obtain ⟨z0,z1,z2,z3,z4⟩:=HHz.c5;obtain ⟨zf0,zf1,zf2,zf3,zf4⟩:=HHz.f5;have HRR:Hid (HoldsL ((sW (sW (sW (sW W2 (w.heap.size+1+1) 0 (iV 58)) (w.heap.size+1+1) 1 (.string src')) (w.heap.size+1+1) 2 (.string dst')) (w.heap.size+1+1) 3 (iV sp')).setCell ⟨w.heap.size+1+1,4,none⟩ (iV sp')) (w.heap.size+1+1) (FlR 58 src' dst' sp' sp')):=(((((HHz.set 0 (iV 58)).set 1 (.string src')).set 2 (.string dst')).set 3 (iV sp')).set 4 (iV sp'));have RB:Hid _:=(((((S2.out.b.setCell (p:=⟨w.heap.size+1+1,0,none⟩) hRw (iV 58)).setCell (p:=⟨w.heap.size+1+1,1,none⟩) hRw (.string src')).setCell (p:=⟨w.heap.size+1+1,2,none⟩) hRw (.string dst')).setCell (p:=⟨w.heap.size+1+1,3,none⟩) hRw (iV sp')).setCell (p:=⟨w.heap.size+1+1,4,none⟩) hRw (iV sp'));clear HHz;go_wp2_with fail
   exact bodyPost_ret (results_mid Tryz.results95 _ _ (w.heap.size+1+1) (FlR 58 src' dst' sp' sp') _ rfl HRR.out Tryz.underlying91 rfl (show (Tryz.prog.info? 91).map (·.size)=some 5 by kernel_rfl)) rfl (And.intro (by rw [HX.out]) RB.out)
  case neg =>
   have HX:Hid (ans=⟨1,src',dst',sp',sp'⟩):=by unfold Hid; rw [HV.out,if_pos rfl]; simp [h16]
   have d16:((src'.size:Int)==16)=false:=by simp; omega
   clear HV h16;have HHg:=HS0.out.at mE1;obtain ⟨l0,l1,l2,l3,l4⟩:=HHg.c5;obtain ⟨lf0,lf1,lf2,lf3,lf4⟩:=HHg.f5;have S2:Hid (Bxs w [(w.heap.size+1,(FlR 1 src' dst' sp' sp')),(w.heap.size+1+1,(FlR 0 ⟨#[]⟩ ⟨#[]⟩ 0 0))] ((sW W0 (w.heap.size+1) 4 (iV sp')).setCell ⟨w.heap.size+1,0,none⟩ (iV 1))):=⟨fun e he=>by
    simp only [List.mem_cons,List.not_mem_nil,or_false] at he;rcases he with rfl | rfl
    ·exact ((HHg.set 4 (iV sp')).set 0 (iV 1))
    ·exact (HoldsL.setOther (HoldsL.setOther (HS0.out.k _ mE2) (by show w.heap.size+1+1≠w.heap.size+1; omega) _) (by show w.heap.size+1+1≠w.heap.size+1; omega) _),((HS0.out.b.setCell (p:=⟨w.heap.size+1,4,none⟩) hGw _).setCell (p:=⟨w.heap.size+1,0,none⟩) hGw _),fun e he=>by
    simp only [List.mem_cons,List.not_mem_nil,or_false] at he;rcases he with rfl | rfl<;>simp⟩
   clear HHg;go_upto_region 7 with fail
   generalize ((sW W0 (w.heap.size+1) 4 (iV sp')).setCell ⟨w.heap.size+1,0,none⟩ (iV 1))=W2 at *;clear l0 lf0 l1 lf1 l2 lf2 l3 lf3 l4 lf4 HS0 k0 k1 k2 k3 k4;have HHl:=S2.out.at mE0;obtain ⟨l0,l1,l2,l3,l4⟩:=HHl.c5;clear HHl;have HHz:=S2.out.at mE1;obtain ⟨z0,z1,z2,z3,z4⟩:=HHz.c5;obtain ⟨zf0,zf1,zf2,zf3,zf4⟩:=HHz.f5;have HRR:Hid (HoldsL ((sW (sW (sW (sW W2 (w.heap.size+1+1) 0 (iV 1)) (w.heap.size+1+1) 1 (.string src')) (w.heap.size+1+1) 2 (.string dst')) (w.heap.size+1+1) 3 (iV sp')).setCell ⟨w.heap.size+1+1,4,none⟩ (iV sp')) (w.heap.size+1+1) (FlR 1 src' dst' sp' sp')):=(((((HHz.set 0 (iV 1)).set 1 (.string src')).set 2 (.string dst')).set 3 (iV sp')).set 4 (iV sp'));have RB:Hid _:=(((((S2.out.b.setCell (p:=⟨w.heap.size+1+1,0,none⟩) hRw (iV 1)).setCell (p:=⟨w.heap.size+1+1,1,none⟩) hRw (.string src')).setCell (p:=⟨w.heap.size+1+1,2,none⟩) hRw (.string dst')).setCell (p:=⟨w.heap.size+1+1,3,none⟩) hRw (iV sp')).setCell (p:=⟨w.heap.size+1+1,4,none⟩) hRw (iV sp'));clear HHz;go_wp2_with fail
   exact bodyPost_ret (results_mid Tryz.results95 _ _ (w.heap.size+1+1) (FlR 1 src' dst' sp' sp') _ rfl HRR.out Tryz.underlying91 rfl (show (Tryz.prog.info? 91).map (·.size)=some 5 by kernel_rfl)) rfl (And.intro (by rw [HX.out]) RB.out)
theorem sp9From_any (f:Fl) (s:ByteArray) (n:Int) (d:ByteArray) (w:World) (hs:s.size≤1048576) :
  Cb 56 #[fwC f,.string s,iV n,.string d] w (fwC (fromF f s n d)):=by
 have HK:Hid (∀ W,Cb 95 #[fwC f,fwC ⟨f.proto,s,d,n,f.dp⟩] W (fwC (fromF f s n d))):=fun W=>sp9Kind_any f ⟨f.proto,s,d,n,f.dp⟩ W hs
 generalize fromF f s n d=ans at *;obtain ⟨proto,src,dst,sp,dp⟩:=f;unfold fwC at *;dsimp only at *;have HS0:=bx2 w (FlR proto src dst sp dp) 91 (FlR 0 ⟨#[]⟩ ⟨#[]⟩ 0 0) 91 (by simp) (by simp)
 skip;have hRw:w.heap.size≤w.heap.size+1:=by omega
 go_enter Tryz.func56,Tryz.ntmps56
 go_upto_region 1 with fail
 generalize ((aW w (FlR proto src dst sp dp) 91).alloc (.cells (FlR 0 ⟨#[]⟩ ⟨#[]⟩ 0 0).toArray 91))=W0 at *;have HHk:=HS0.out.at mE0;obtain ⟨k0,k1,k2,k3,k4⟩:=HHk.c5;clear HHk;have S1:Hid (Bxs w ((W0.heap.size,(FlR proto s d n dp))::[(w.heap.size,(FlR proto src dst sp dp)),(w.heap.size+1,(FlR 0 ⟨#[]⟩ ⟨#[]⟩ 0 0))]) (W0.alloc (.cells (FlR proto s d n dp).toArray 91))):=HS0.out.push (FlR proto s d n dp) (by simp) _;go_upto_region 2 with fail
 clear HS0 k0 k1 k2 k3 k4;generalize (W0.alloc (.cells (FlR proto s d n dp).toArray 91))=W1 at *;generalize W0.heap.size=G at *;have HHk:=S1.out.at mE1;obtain ⟨k0,k1,k2,k3,k4⟩:=HHk.c5;clear HHk;have HHl:=S1.out.at mE0;obtain ⟨l0,l1,l2,l3,l4⟩:=HHl.c5;clear HHl;go_wp2_with fail
 refine (HK.out _).mono ?_;rintro e W2 ⟨rfl,q2⟩;have S2:Hid _:=S1.out.kept q2;clear q2 S1 k0 k1 k2 k3 k4 l0 l1 l2 l3 l4;have HHz:=S2.out.at mE2;obtain ⟨z0,z1,z2,z3,z4⟩:=HHz.c5;obtain ⟨zf0,zf1,zf2,zf3,zf4⟩:=HHz.f5;have HRR:Hid (HoldsL ((sW (sW (sW (sW W2 (w.heap.size+1) 0 (iV ans.proto)) (w.heap.size+1) 1 (.string ans.src)) (w.heap.size+1) 2 (.string ans.dst)) (w.heap.size+1) 3 (iV ans.sp)).setCell ⟨w.heap.size+1,4,none⟩ (iV ans.dp)) (w.heap.size+1) (FlV ans)):=(((((HHz.set 0 (iV ans.proto)).set 1 (.string ans.src)).set 2 (.string ans.dst)).set 3 (iV ans.sp)).set 4 (iV ans.dp));have RB:Hid _:=(((((S2.out.b.setCell (p:=⟨w.heap.size+1,0,none⟩) hRw (iV ans.proto)).setCell (p:=⟨w.heap.size+1,1,none⟩) hRw (.string ans.src)).setCell (p:=⟨w.heap.size+1,2,none⟩) hRw (.string ans.dst)).setCell (p:=⟨w.heap.size+1,3,none⟩) hRw (iV ans.sp)).setCell (p:=⟨w.heap.size+1,4,none⟩) hRw (iV ans.dp));clear HHz;go_wp2_with fail
 exact bodyPost_ret (results_mid Tryz.results56 _ _ (w.heap.size+1) (FlV ans) _ rfl HRR.out Tryz.underlying91 rfl (show (Tryz.prog.info? 91).map (·.size)=some 5 by kernel_rfl)) rfl (And.intro rfl RB.out)
theorem sp9To_any (f:Fl) (s d:ByteArray) (n:Int) (w:World) (hs:s.size≤1048576) :
  Cb 71 #[fwC f,.string s,.string d,iV n] w (fwC (toF f s d n)):=by
 have HE:Hid (∀ W,Cw 83 #[iV f.proto] W (.bool (echoP f.proto))):=fun W=>spEcho_any _ W
 have HK:Hid (∀ W,Cb 95 #[fwC f,fwC ⟨f.proto,s,d,if echoP f.proto=true then n else f.sp,n⟩] W (fwC (toF f s d n))):=fun W=>sp9Kind_any f ⟨f.proto,s,d,_,n⟩ W hs
 generalize toF f s d n=ans at *;generalize echoP f.proto=b at *;obtain ⟨proto,src,dst,sp,dp⟩:=f;unfold fwC at *;dsimp only at *;have HS0:=bx2 w (FlR proto src dst sp dp) 91 (FlR 0 ⟨#[]⟩ ⟨#[]⟩ 0 0) 91 (by simp) (by simp)
 skip;have hRw:w.heap.size≤w.heap.size+1:=by omega
 go_enter Tryz.func71,Tryz.ntmps71
 go_upto_region 1 with fail
 generalize ((aW w (FlR proto src dst sp dp) 91).alloc (.cells (FlR 0 ⟨#[]⟩ ⟨#[]⟩ 0 0).toArray 91))=W0 at *;have HHk:=HS0.out.at mE0;obtain ⟨k0,k1,k2,k3,k4⟩:=HHk.c5;clear HHk;have S1:Hid (Bxs w ((W0.heap.size,(FlR proto s d sp n))::[(w.heap.size,(FlR proto src dst sp dp)),(w.heap.size+1,(FlR 0 ⟨#[]⟩ ⟨#[]⟩ 0 0))]) (W0.alloc (.cells (FlR proto s d sp n).toArray 91))):=HS0.out.push (FlR proto s d sp n) (by simp) _;have hrg:w.heap.size+1 < W0.heap.size:=(HS0.out.k _ mE1).lt (by simp);go_upto_region 2 with fail
 clear HS0 k0 k1 k2 k3 k4;generalize (W0.alloc (.cells (FlR proto s d sp n).toArray 91))=W1 at *;generalize W0.heap.size=G at *;have HHk:=S1.out.at mE1;obtain ⟨k0,k1,k2,k3,k4⟩:=HHk.c5;clear HHk;go_wp2_with fail
 refine (HE.out _).mono ?_;rintro e W1 ⟨rfl,rfl⟩
 cases b with
 | false =>
  clear k0 k1 k2 k3 k4;have HHk:=S1.out.at mE1;obtain ⟨k0,k1,k2,k3,k4⟩:=HHk.c5;clear HHk;have HHl:=S1.out.at mE0;obtain ⟨l0,l1,l2,l3,l4⟩:=HHl.c5;clear HHl;go_wp2_with fail
  refine (HK.out _).mono ?_;rintro e W2 ⟨rfl,q2⟩;have S2:Hid _:=S1.out.kept q2;clear q2 k0 k1 k2 k3 k4 l0 l1 l2 l3 l4;have HHz:=S2.out.at mE2;obtain ⟨z0,z1,z2,z3,z4⟩:=HHz.c5;obtain ⟨zf0,zf1,zf2,zf3,zf4⟩:=HHz.f5;have HRR:Hid (HoldsL ((sW (sW (sW (sW W2 (w.heap.size+1) 0 (iV ans.proto)) (w.heap.size+1) 1 (.string ans.src)) (w.heap.size+1) 2 (.string ans.dst)) (w.heap.size+1) 3 (iV ans.sp)).setCell ⟨w.heap.size+1,4,none⟩ (iV ans.dp)) (w.heap.size+1) (FlV ans)):=(((((HHz.set 0 (iV ans.proto)).set 1 (.string ans.src)).set 2 (.string ans.dst)).set 3 (iV ans.sp)).set 4 (iV ans.dp));have RB:Hid _:=(((((S2.out.b.setCell (p:=⟨w.heap.size+1,0,none⟩) hRw (iV ans.proto)).setCell (p:=⟨w.heap.size+1,1,none⟩) hRw (.string ans.src)).setCell (p:=⟨w.heap.size+1,2,none⟩) hRw (.string ans.dst)).setCell (p:=⟨w.heap.size+1,3,none⟩) hRw (iV ans.sp)).setCell (p:=⟨w.heap.size+1,4,none⟩) hRw (iV ans.dp));clear HHz;go_wp2_with fail
  exact bodyPost_ret (results_mid Tryz.results71 _ _ (w.heap.size+1) (FlV ans) _ rfl HRR.out Tryz.underlying91 rfl (show (Tryz.prog.info? 91).map (·.size)=some 5 by kernel_rfl)) rfl (And.intro rfl RB.out)
 | true =>
  have HHg:=S1.out.at mE0;have l3:=HHg.cell (j:=3) rfl;have lf3:=HHg.free (j:=3) (by simp);have S1':Hid (Bxs w [(G,(FlR proto s d n n)),(w.heap.size,(FlR proto src dst sp dp)),(w.heap.size+1,(FlR 0 ⟨#[]⟩ ⟨#[]⟩ 0 0))] (W1.setCell ⟨G,3,none⟩ (iV n))):=⟨fun e he=>by
   simp only [List.mem_cons,List.not_mem_nil,or_false] at he;rcases he with rfl | rfl | rfl
   ·exact HHg.set 3 _
   ·exact HoldsL.setOther (S1.out.k _ mE1) (by show w.heap.size≠G; omega) _
   ·exact HoldsL.setOther (S1.out.k _ mE2) (by show w.heap.size+1≠G; omega) _,S1.out.b.setCell (p:=⟨G,3,none⟩) (by show w.heap.size≤G; omega) _,fun e he=>by
   simp only [List.mem_cons,List.not_mem_nil,or_false] at he;rcases he with rfl | rfl | rfl<;>simp⟩
  clear HHg S1;go_upto_region 4 with fail
  generalize (W1.setCell ⟨G,3,none⟩ (iV n))=W3 at *;clear l3 lf3 k0 k1 k2 k3 k4;have HHk:=S1'.out.at mE1;obtain ⟨k0,k1,k2,k3,k4⟩:=HHk.c5;clear HHk;have HHl:=S1'.out.at mE0;obtain ⟨l0,l1,l2,l3,l4⟩:=HHl.c5;clear HHl;go_wp2_with fail
  refine (HK.out _).mono ?_;rintro e W2 ⟨rfl,q2⟩;have S2:Hid (Bxs w [(G,(FlR proto s d n n)),(w.heap.size,(FlR proto src dst sp dp)),(w.heap.size+1,(FlR 0 ⟨#[]⟩ ⟨#[]⟩ 0 0))] W2):=S1'.out.kept q2;clear q2 k0 k1 k2 k3 k4 l0 l1 l2 l3 l4;have HHz:=S2.out.at mE2;obtain ⟨z0,z1,z2,z3,z4⟩:=HHz.c5;obtain ⟨zf0,zf1,zf2,zf3,zf4⟩:=HHz.f5;have HRR:Hid (HoldsL ((sW (sW (sW (sW W2 (w.heap.size+1) 0 (iV ans.proto)) (w.heap.size+1) 1 (.string ans.src)) (w.heap.size+1) 2 (.string ans.dst)) (w.heap.size+1) 3 (iV ans.sp)).setCell ⟨w.heap.size+1,4,none⟩ (iV ans.dp)) (w.heap.size+1) (FlV ans)):=(((((HHz.set 0 (iV ans.proto)).set 1 (.string ans.src)).set 2 (.string ans.dst)).set 3 (iV ans.sp)).set 4 (iV ans.dp));have RB:Hid _:=(((((S2.out.b.setCell (p:=⟨w.heap.size+1,0,none⟩) hRw (iV ans.proto)).setCell (p:=⟨w.heap.size+1,1,none⟩) hRw (.string ans.src)).setCell (p:=⟨w.heap.size+1,2,none⟩) hRw (.string ans.dst)).setCell (p:=⟨w.heap.size+1,3,none⟩) hRw (iV ans.sp)).setCell (p:=⟨w.heap.size+1,4,none⟩) hRw (iV ans.dp));clear HHz;go_wp2_with fail
  exact bodyPost_ret (results_mid Tryz.results71 _ _ (w.heap.size+1) (FlV ans) _ rfl HRR.out Tryz.underlying91 rfl (show (Tryz.prog.info? 91).map (·.size)=some 5 by kernel_rfl)) rfl (And.intro rfl RB.out)
theorem spSession_any (x:Bb) (c:Bd) (peer:ByteArray) (port:Int) (ba bo:Option Addr) (ca cb:Nat) (w:World) (hl2:x.sess.length≤1048576) (hr:BbIs w ba bo x) :
  Cb 125 #[bbC ba bo ca cb x,bdC c,.string peer,iV port] w (iV (findI (withP c peer port) x.sess)):=by
 have HZ0:Hid (Below w.heap.size w ((aW w (BbV ba ca bo cb x) 39).alloc (.cells (BdV c).toArray 94))):=((Below.refl _ _).alloc (Nat.le_refl _) _).alloc (by simp) _;have HB:Hid (HoldsL ((aW w (BbV ba ca bo cb x) 39).alloc (.cells (BdV c).toArray 94)) w.heap.size (BbV ba ca bo cb x)):=(HoldsL.new w (BbV ba ca bo cb x) 39).alloc _;have HC:Hid (HoldsL ((aW w (BbV ba ca bo cb x) 39).alloc (.cells (BdV c).toArray 94)) (w.heap.size+1) (BdV c)):=by
  have h:=HoldsL.new (w.alloc (.cells (BbV ba ca bo cb x).toArray 39)) (BdV c) 94;rw [World.size_alloc] at h; exact h
 have HR:Hid (BbIs w ba bo x):=hr;obtain ⟨ans,hans⟩ : ∃ y,y=findI (withP c peer port) x.sess:=⟨_,rfl⟩;have HA:Hid (ans=findI (withP c peer port) x.sess):=hans;rw [← hans];have hun:undef=Value.tuple #[]:=rfl;clear hr hans;unfold bbC bdC;go_enter Tryz.func125,Tryz.ntmps125
 go_upto_region 1 with fail
 generalize ((aW w (BbV ba ca bo cb x) 39).alloc (.cells (BdV c).toArray 94))=W0 at *;go_wp2_with fail
 go_loopw [9] (fun iv wr=>∃ i:Nat,i≤x.sess.length∧iv=iV i∧(x.sess.take i).any (withP c peer port)=false∧HoldsL wr w.heap.size (BbV ba ca bo cb x)∧HoldsL wr (w.heap.size+1) (BdV c)∧Below w.heap.size w wr) (fun iv _=>x.sess.length-(intOf iv).toNat)
 case atStart=>exact ⟨0,Nat.zero_le _,rfl,by simp,HB.out,HC.out,HZ0.out⟩
 case round =>
  obtain ⟨i,hi,rfl,hn,hB,hC,hb0⟩:=hrel;have HN:Hid ((x.sess.take i).any (withP c peer port)=false):=hn;have HBr:Hid _:=hB;have HCr:Hid _:=hC;have HW:Hid (Below w.heap.size w wr):=hb0;clear hn hB hC hb0 HB HC HZ0;generalize wr=w1 at *;have z1:=HBr.out.cell (j:=1) rfl;by_cases hlt:i < x.sess.length
  ·obtain ⟨bb,off,rfl,hb,hat⟩:=HR.out.ss.at hlt;have hA:=(hat.below hb HW.out) i hlt;have HT:Hid _:=any_take (withP c peer port) x.sess i hlt;have HF:Hid (withP c peer port x.sess[i]=true→findI (withP c peer port) x.sess=i):=fun h=>findI_at _ x.sess i hlt HN.out h
   obtain ⟨s,hs⟩ : ∃ s,s=x.sess[i]:=⟨_,rfl⟩;rw [← hs] at hA HT HF;have HPV:Hid (withP c peer port s=(hasS c s&&decide (s.peer.toList=peer.toList)&&decide (s.peerPort=port))):=rfl;have hltI:(i:Int) < (x.sess.length:Int):=by omega
   have s0:w1.cell? ⟨bb,off+i*7,none⟩=some (iV s.proto):=hA 0 _ rfl;have s1:w1.cell? ⟨bb,off+i*7+1,none⟩=some (.string s.inn):=hA 1 _ rfl;have s2:w1.cell? ⟨bb,off+i*7+2,none⟩=some (iV s.inPort):=hA 2 _ rfl;have s3:w1.cell? ⟨bb,off+i*7+3,none⟩=some (.string s.peer):=hA 3 _ rfl;have s4:w1.cell? ⟨bb,off+i*7+4,none⟩=some (iV s.peerPort):=hA 4 _ rfl;have s5:w1.cell? ⟨bb,off+i*7+5,none⟩=some (iV s.state):=hA 5 _ rfl;have s6:w1.cell? ⟨bb,off+i*7+6,none⟩=some (iV s.untl):=hA 6 _ rfl;clear hA hat hs hb;have HH:Hid (∀ W,Cb 78 #[.agg (BdV c).toArray,.agg (SsV s).toArray] W (.bool (hasS c s))):=fun W=>spHas_any c s W
   generalize withP c peer port s=pv at *;generalize hasS c s=hv at *;go_upto_region 5 with fail
   have bn:Below w1.heap.size w1 (w1.alloc (.cells (SsV s).toArray 103)):=(Below.refl _ _).alloc (Nat.le_refl _) _;have hn:HoldsL (w1.alloc (.cells (SsV s).toArray 103)) w1.heap.size (SsV s):=HoldsL.new w1 (SsV s) 103;have HB2:Hid _:=HBr.out.kept (by simp) bn;have HC2:Hid _:=HCr.out.kept (by simp) bn;have HW2:Hid _:=HW.out.trans (bn.mono HW.out.size);have HS2:Hid _:=hn;generalize (w1.alloc (.cells (SsV s).toArray 103))=W2 at *;clear bn hn HBr HCr HW z1 s0 s1 s2 s3 s4 s5 s6;generalize w1.heap.size=Bs at *;obtain ⟨c0,c1,c2,c3,c4⟩:=HC2.out.c5;obtain ⟨s0,s1,s2,s3,s4,s5,s6⟩:=HS2.out.c7;go_wp2_with fail
   refine (HH.out _).mono ?_;rintro e w3 ⟨rfl,q3⟩;have HB3:Hid _:=HB2.out.kept (by simp) q3;have HC3:Hid _:=HC2.out.kept (by simp) q3;have HS3:Hid _:=HS2.out.kept (by simp) q3;have HW3:Hid _:=HW2.out.trans (q3.mono HW2.out.size);clear q3 HB2 HC2 HW2 HS2 HH c0 c1 c2 c3 c4 s0 s1 s2 s3 s4 s5 s6;obtain ⟨-,-,-,s3,s4⟩:=HS3.out.c5
   cases hv with
   | false =>
    have HX:Hid (pv=false):=by unfold Hid; rw [HPV.out]; rfl
    have HN2:Hid ((x.sess.take (i+1)).any (withP c peer port)=false):=by unfold Hid; rw [HT.out,HN.out,HX.out]; rfl
    go_wp2_with fail
    go_roundw
    case rel =>
     first | exact ⟨i+1,by omega,by go_num,HN2.out,HB3.out,HC3.out,HW3.out⟩ | ((repeat apply Exists.intro); exact ⟨⟨i+1,by omega,by go_num,HN2.out,HB3.out,HC3.out,HW3.out⟩,rfl⟩)
    case measure=>simp [intOf]<;>omega
   | true =>
   by_cases h1:s.peer.toList=peer.toList
   case neg =>
    have e1:(s.peer.toList==peer.toList)=false:=by simp [h1]
    have HX:Hid (pv=false):=by unfold Hid; rw [HPV.out,decide_eq_false h1]; rfl
    clear h1;have HN2:Hid ((x.sess.take (i+1)).any (withP c peer port)=false):=by unfold Hid; rw [HT.out,HN.out,HX.out]; rfl
    go_wp2_with fail
    go_roundw
    case rel =>
     first | exact ⟨i+1,by omega,by go_num,HN2.out,HB3.out,HC3.out,HW3.out⟩ | ((repeat apply Exists.intro); exact ⟨⟨i+1,by omega,by go_num,HN2.out,HB3.out,HC3.out,HW3.out⟩,rfl⟩)
    case measure=>simp [intOf]<;>omega
   have e1:(s.peer.toList==peer.toList)=true:=by simp [h1]
   by_cases h2:s.peerPort=port
   case neg =>
    have e2:(s.peerPort==port)=false:=by simp [h2]
    have HX:Hid (pv=false):=by unfold Hid; rw [HPV.out,decide_eq_false h2]; simp
    clear h1;have HN2:Hid ((x.sess.take (i+1)).any (withP c peer port)=false):=by unfold Hid; rw [HT.out,HN.out,HX.out]; rfl
    go_wp2_with fail
    go_roundw
    case rel =>
     first | exact ⟨i+1,by omega,by go_num,HN2.out,HB3.out,HC3.out,HW3.out⟩ | ((repeat apply Exists.intro); exact ⟨⟨i+1,by omega,by go_num,HN2.out,HB3.out,HC3.out,HW3.out⟩,rfl⟩)
    case measure=>simp [intOf]<;>omega
   have e2:(s.peerPort==port)=true:=by simp [h2]
   have HX:Hid ((i:Int)=ans):=by unfold Hid; rw [HA.out,HF.out (by rw [HPV.out,decide_eq_true h1,decide_eq_true h2]; rfl)]
   clear h1 h2;go_wp2_with fail
   go_ret;exact ⟨ret_int HX.out,HW3.out⟩
  ·have hie:i=x.sess.length:=by omega
   have HX:Hid ((-1:Int)=ans):=by unfold Hid; have:=HN.out; rw [hie,List.take_length] at this; rw [HA.out,findI_no _ _ this]
   have hge:¬ (i:Int) < (x.sess.length:Int):=by omega
   clear hie hlt;go_wp2_with fail
   go_ret;exact ⟨ret_int HX.out,HW.out⟩
theorem spKnows_any (x:Bb) (c:Bd) (peer:ByteArray) (ba bo:Option Addr) (ca cb:Nat) (w:World) (hl2:x.sess.length≤1048576) (hr:BbIs w ba bo x) :
  Cb 126 #[bbC ba bo ca cb x,bdC c,.string peer] w (.bool (x.sess.any (withA c peer))):=by
 have HZ0:Hid (Below w.heap.size w ((aW w (BbV ba ca bo cb x) 39).alloc (.cells (BdV c).toArray 94))):=((Below.refl _ _).alloc (Nat.le_refl _) _).alloc (by simp) _;have HB:Hid (HoldsL ((aW w (BbV ba ca bo cb x) 39).alloc (.cells (BdV c).toArray 94)) w.heap.size (BbV ba ca bo cb x)):=(HoldsL.new w (BbV ba ca bo cb x) 39).alloc _;have HC:Hid (HoldsL ((aW w (BbV ba ca bo cb x) 39).alloc (.cells (BdV c).toArray 94)) (w.heap.size+1) (BdV c)):=by
  have h:=HoldsL.new (w.alloc (.cells (BbV ba ca bo cb x).toArray 39)) (BdV c) 94;rw [World.size_alloc] at h; exact h
 have HR:Hid (BbIs w ba bo x):=hr;obtain ⟨ans,hans⟩ : ∃ y,y=x.sess.any (withA c peer):=⟨_,rfl⟩;have HA:Hid (ans=x.sess.any (withA c peer)):=hans;rw [← hans];clear hr hans;unfold bbC bdC;go_enter Tryz.func126,Tryz.ntmps126
 go_upto_region 1 with fail
 generalize ((aW w (BbV ba ca bo cb x) 39).alloc (.cells (BdV c).toArray 94))=W0 at *;go_wp2_with fail
 go_loopw [7] (fun iv wr=>∃ i:Nat,i≤x.sess.length∧iv=iV i∧(x.sess.take i).any (withA c peer)=false∧HoldsL wr w.heap.size (BbV ba ca bo cb x)∧HoldsL wr (w.heap.size+1) (BdV c)∧Below w.heap.size w wr) (fun iv _=>x.sess.length-(intOf iv).toNat)
 case atStart=>exact ⟨0,Nat.zero_le _,rfl,by simp,HB.out,HC.out,HZ0.out⟩
 case round =>
  obtain ⟨i,hi,rfl,hn,hB,hC,hb0⟩:=hrel;have HN:Hid ((x.sess.take i).any (withA c peer)=false):=hn;have HBr:Hid _:=hB;have HCr:Hid _:=hC;have HW:Hid (Below w.heap.size w wr):=hb0;clear hn hB hC hb0 HB HC HZ0;generalize wr=w1 at *;have z1:=HBr.out.cell (j:=1) rfl;by_cases hlt:i < x.sess.length
  ·obtain ⟨bb,off,rfl,hb,hat⟩:=HR.out.ss.at hlt;have HAT:Hid (∀ W,Below w.heap.size w W→W.rangeAt bb (off+i*7) (ssL x.sess[i])):=fun W hW=>(hat.below hb hW) i hlt
   have HT:Hid _:=any_take (withA c peer) x.sess i hlt;have HF:Hid (withA c peer x.sess[i]=true→x.sess.any (withA c peer)=true):=any_at _ x.sess i hlt;obtain ⟨s,hs⟩ : ∃ s,s=x.sess[i]:=⟨_,rfl⟩;rw [← hs] at HAT HT HF;have HPV:Hid (withA c peer s=(hasS c s&&decide (s.peer.toList=peer.toList))):=rfl;have hltI:(i:Int) < (x.sess.length:Int):=by omega
   have HH:Hid (∀ W,Cb 78 #[.agg (BdV c).toArray,.agg (SsV s).toArray] W (.bool (hasS c s))):=fun W=>spHas_any c s W
   generalize withA c peer s=pv at *;generalize hasS c s=hv at *;clear hat hs hb;go_upto_region 4 with fail
   clear z1;go_cut [31] (fun v wx=>v=.bool pv∧Below w1.heap.size w1 wx)
   case first =>
    rename_i J K2 hJ hK2;have HCP:Hid (∀ wy,Below w1.drew.heap.size w1.drew wy→HoldsL wy w.heap.size (BbV ba ca (some ⟨bb,off,none⟩) cb x)∧HoldsL wy (w.heap.size+1) (BdV c)∧Below w.heap.size w wy):=fun wy hy=>⟨HBr.out.drew.kept (by simp) hy,HCr.out.drew.kept (by simp) hy,HW.out.drew.trans (hy.mono HW.out.size)⟩
    cases hv with
    | false =>
     refine wp_region_growH [15,16,17,18,19,20,21,22,23,24,25,26,27,28,29,30,31] (by kernel_rfl) (by kernel_rfl) ?_;iterate 17 ((first|(refine GCh.n rfl rfl rfl rfl rfl (by simp) ?_)|(apply GCh.u rfl;(·intro K' a wy ho hd hb2 hK;simp [rAt,IsV,slot,Region.binds] at ho hd;obtain ⟨hB,hC,hbw⟩:=HCP.out wy hb2;have hA:=HAT.out wy hbw;have kC:=hB.c2;have kC:=hC.c5;have s0:wy.cell? ⟨bb,off+i*7,none⟩=some (iV s.proto):=hA 0 _ rfl;have s1:wy.cell? ⟨bb,off+i*7+1,none⟩=some (.string s.inn):=hA 1 _ rfl;have s2:wy.cell? ⟨bb,off+i*7+2,none⟩=some (iV s.inPort):=hA 2 _ rfl;have s3:wy.cell? ⟨bb,off+i*7+3,none⟩=some (.string s.peer):=hA 3 _ rfl;have s4:wy.cell? ⟨bb,off+i*7+4,none⟩=some (iV s.peerPort):=hA 4 _ rfl;have s5:wy.cell? ⟨bb,off+i*7+5,none⟩=some (iV s.state):=hA 5 _ rfl;have s6:wy.cell? ⟨bb,off+i*7+6,none⟩=some (iV s.untl):=hA 6 _ rfl;go_simp;first|((try go_bits);exact hK _ _ rfl bQ)|(refine (HH.out wy).mono ?_;rintro e wz ⟨rfl,hz⟩;exact hK _ _ rfl hz))));dsimp only [nA,cA])
     intro X wz hR hz;simp only [List.nil_append,List.cons_append,RAll,IsV] at hR;simp only [putsFrom,hR];clear hR;go_simp;refine hK2 _ _ (hJ _ _ ?_);(repeat apply Exists.intro)
     refine ⟨⟨by rw [HPV.out]; simp,(Below.refl _ _).drew.trans hz⟩,rfl⟩
    | true =>
     by_cases h1:s.peer.toList=peer.toList
     ·have e1:(s.peer.toList==peer.toList)=true:=by simp [h1]
      refine wp_region_growH [15,16,17,18,19,20,21,22,23,24,25,26,27,28,29,30,31] (by kernel_rfl) (by kernel_rfl) ?_;iterate 17 ((first|apply GCh.u rfl|apply GCh.g rfl rfl rfl rfl rfl (by simp));(·intro K' a wy ho hd hb2 hK;simp [rAt,IsV,slot,Region.binds] at ho hd;obtain ⟨hB,hC,hbw⟩:=HCP.out wy hb2;have hA:=HAT.out wy hbw;have kC:=hB.c2;have kC:=hC.c5;have s0:wy.cell? ⟨bb,off+i*7,none⟩=some (iV s.proto):=hA 0 _ rfl;have s1:wy.cell? ⟨bb,off+i*7+1,none⟩=some (.string s.inn):=hA 1 _ rfl;have s2:wy.cell? ⟨bb,off+i*7+2,none⟩=some (iV s.inPort):=hA 2 _ rfl;have s3:wy.cell? ⟨bb,off+i*7+3,none⟩=some (.string s.peer):=hA 3 _ rfl;have s4:wy.cell? ⟨bb,off+i*7+4,none⟩=some (iV s.peerPort):=hA 4 _ rfl;have s5:wy.cell? ⟨bb,off+i*7+5,none⟩=some (iV s.state):=hA 5 _ rfl;have s6:wy.cell? ⟨bb,off+i*7+6,none⟩=some (iV s.untl):=hA 6 _ rfl;go_simp;first|((try go_bits);exact hK _ _ rfl bQ)|(refine (HH.out wy).mono ?_;rintro e wz ⟨rfl,hz⟩;exact hK _ _ rfl hz));dsimp only [nA,cA])
      intro X wz hR hz;simp only [List.nil_append,List.cons_append,RAll,IsV] at hR;simp only [putsFrom,hR];clear hR;go_simp;refine hK2 _ _ (hJ _ _ ?_);(repeat apply Exists.intro)
      refine ⟨⟨by rw [HPV.out]; simp [h1],(Below.refl _ _).drew.trans hz⟩,rfl⟩
     ·have e1:(s.peer.toList==peer.toList)=false:=by simp [h1]
      refine wp_region_growH [15,16,17,18,19,20,21,22,23,24,25,26,27,28,29,30,31] (by kernel_rfl) (by kernel_rfl) ?_;iterate 17 ((first|apply GCh.u rfl|apply GCh.g rfl rfl rfl rfl rfl (by simp));(·intro K' a wy ho hd hb2 hK;simp [rAt,IsV,slot,Region.binds] at ho hd;obtain ⟨hB,hC,hbw⟩:=HCP.out wy hb2;have hA:=HAT.out wy hbw;have kC:=hB.c2;have kC:=hC.c5;have s0:wy.cell? ⟨bb,off+i*7,none⟩=some (iV s.proto):=hA 0 _ rfl;have s1:wy.cell? ⟨bb,off+i*7+1,none⟩=some (.string s.inn):=hA 1 _ rfl;have s2:wy.cell? ⟨bb,off+i*7+2,none⟩=some (iV s.inPort):=hA 2 _ rfl;have s3:wy.cell? ⟨bb,off+i*7+3,none⟩=some (.string s.peer):=hA 3 _ rfl;have s4:wy.cell? ⟨bb,off+i*7+4,none⟩=some (iV s.peerPort):=hA 4 _ rfl;have s5:wy.cell? ⟨bb,off+i*7+5,none⟩=some (iV s.state):=hA 5 _ rfl;have s6:wy.cell? ⟨bb,off+i*7+6,none⟩=some (iV s.untl):=hA 6 _ rfl;go_simp;first|((try go_bits);exact hK _ _ rfl bQ)|(refine (HH.out wy).mono ?_;rintro e wz ⟨rfl,hz⟩;exact hK _ _ rfl hz));dsimp only [nA,cA])
      intro X wz hR hz;simp only [List.nil_append,List.cons_append,RAll,IsV] at hR;simp only [putsFrom,hR];clear hR;go_simp;refine hK2 _ _ (hJ _ _ ?_);(repeat apply Exists.intro)
      refine ⟨⟨by rw [HPV.out]; simp [h1],(Below.refl _ _).drew.trans hz⟩,rfl⟩
   case rest =>
   obtain ⟨rfl,qc⟩:=hcut;generalize wc=w3 at *;have HB3:Hid _:=HBr.out.kept (by simp) qc;have HC3:Hid _:=HCr.out.kept (by simp) qc;have HW3:Hid _:=HW.out.trans (qc.mono HW.out.size);clear qc HBr HCr HW
   cases pv with
   | true =>
    have HX:Hid (true=ans):=by unfold Hid; rw [HA.out,HF.out rfl]
    go_wp2_with fail
    go_ret;exact ⟨ret_bool HX.out,HW3.out⟩
   | false =>
    have HN2:Hid ((x.sess.take (i+1)).any (withA c peer)=false):=by unfold Hid; rw [HT.out,HN.out]; rfl
    go_wp2_with fail
    go_roundw
    case rel =>
     first | exact ⟨i+1,by omega,by go_num,HN2.out,HB3.out,HC3.out,HW3.out⟩ | ((repeat apply Exists.intro); exact ⟨⟨i+1,by omega,by go_num,HN2.out,HB3.out,HC3.out,HW3.out⟩,rfl⟩)
    case measure=>simp [intOf]<;>omega
  ·have hie:i=x.sess.length:=by omega
   have HX:Hid (false=ans):=by unfold Hid; have:=HN.out; rw [hie,List.take_length] at this; rw [HA.out,this]
   have hge:¬ (i:Int) < (x.sess.length:Int):=by omega
   clear hie hlt;go_wp2_with fail
   go_ret;exact ⟨ret_bool HX.out,HW.out⟩
end Go.Proofs.YtcckaeppiamebaaGreatDoor
