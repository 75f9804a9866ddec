import Derived.Test.YtdkepkaflielhaaGreatDoorSz
import Derived.Test.YtdkepkaflielhaaGreatDoorAb
import Derived.Test.YtdkepkaflielhaaGreatDoorUni
import Derived.Test.YtdkepkaflielhaaGreatDoorSt
import Derived.Test.YtdkepkaflielhaaGreatDoorNatM
import Derived.Test.YtdkepkaflielhaaGreatDoorSFlow
import Derived.Test.YtdkepkaflielhaaGreatDoorBoxes
import Derived.Test.YtdkepkaflielhaaGreatDoorGrowV
import Derived.Deep.DeepCutAuto
import Derived.RegionTactic
set_option linter.unusedVariables false
set_option linter.unusedSimpArgs false
set_option maxRecDepth 100000
set_option maxHeartbeats 8000000
namespace Go.Proofs.YtdkepkaflielhaaGreatDoor
open Go.RowKit Go.PlainAid
theorem sp9Port_any (f:Fl) (n:Int) (w:World) :
  Cb 116 #[fwC f,iV n] w (iV (peerV f.proto n)):=by
 have HE:Hid (∀ W,Cw 44 #[iV f.proto] W (.bool (echoP f.proto))):=fun W=>spEcho_any _ W
 have HV:Hid (peerV f.proto n=if echoP f.proto=true then 0 else n):=rfl;generalize peerV f.proto n=ans at *;generalize echoP f.proto=b at *;obtain ⟨proto,src,dst,sp,dp⟩:=f;unfold fwC;dsimp only at *;have HS0:=bx1 w (FlR proto src dst sp dp) 43 (by simp)
 skip;have HB:Hid _:=HS0.out.b;clear HS0;go_enter Tryz.func116,Tryz.ntmps116
 go_wp2_with fail
 refine (HE.out _).mono ?_;rintro e w2 ⟨rfl,rfl⟩
 cases b with
 | false =>
  go_wp2_with fail
  go_ret;exact ⟨ret_int (by rw [HV.out]; rfl),HB.out⟩
 | true =>
  go_wp2_with fail
  go_ret;exact ⟨ret_int (by rw [HV.out]; rfl),HB.out⟩
theorem sp9Flags_any (f:Fl) (t:ByteArray) (w:World) (ht:t.size≤1048576) (h20:f.proto=6→20≤t.size) :
  Cb 117 #[fwC f,.string t] w (iV (flagV f.proto t)):=by
 obtain ⟨proto,src,dst,sp,dp⟩:=f;unfold fwC;dsimp only at *;have HS0:=bx1 w (FlR proto src dst sp dp) 43 (by simp)
 skip;have HB:Hid _:=HS0.out.b;clear HS0;by_cases h:proto=6
 case pos =>
  have h20':=h20 h;subst h;have HV:Hid (flagV 6 t=bt t 13):=rfl;have hb:=get_bt t;have b1:=bt_isByte t 13;generalize flagV 6 t=ans at *;have hi:¬ (t.size:Int)≤13:=by omega
  have hj:(13:Int) < t.size:=by omega
  go_enter Tryz.func117,Tryz.ntmps117
  go_wp2_with fail
  go_ret;exact ⟨ret_int HV.out.symm,HB.out⟩
 have HV:Hid (flagV proto t=0):=if_neg h;generalize flagV proto t=ans at *;have d0:(proto != 6)=true:=by simp [h]
 go_enter Tryz.func117,Tryz.ntmps117
 go_wp2_with fail
 go_ret;exact ⟨ret_int (by rw [HV.out]),HB.out⟩
theorem sp9Kind_any (f g:Fl) (w:World) (hg:g.src.size≤1048576) :
  Cb 118 #[fwC f,fwC g] w (fwC (kindF f g)):=by
 have HE:Hid (∀ W,Cw 44 #[iV f.proto] W (.bool (echoP f.proto))):=fun W=>spEcho_any _ W
 have HV:Hid (kindF f g=if echoP f.proto=true then ⟨if g.src.size=16 then 58 else 1,g.src,g.dst,g.sp,g.sp⟩ else g):=rfl;generalize kindF f g=ans at *;generalize echoP f.proto=b at *;obtain ⟨proto,src,dst,sp,dp⟩:=f;obtain ⟨proto',src',dst',sp',dp'⟩:=g;unfold fwC;dsimp only at *;have HS0:=bx3 w (FlR proto src dst sp dp) 43 (FlR proto' src' dst' sp' dp') 43 (FlR 0 ⟨#[]⟩ ⟨#[]⟩ 0 0) 43 (by simp) (by simp) (by simp)
 skip;have hRw:w.z≤w.z+1+1:=by omega
 have hGw:w.z≤w.z+1:=by omega
 go_enter Tryz.func118,Tryz.ntmps118
 go_upto_region 1 with fail
 generalize World.alloc _ _=W0 at *;have HHk:=HS0.out.at mE0;obtain ⟨k0,k1,k2,k3,k4⟩:=HHk.c5;clear HHk;go_wp2_with fail
 refine (HE.out _).mono ?_;rintro e W0 ⟨rfl,rfl⟩
 cases b with
 | false =>
  have HX:Hid (ans=⟨proto',src',dst',sp',dp'⟩):=HV.out;clear HV;have HHl:=HS0.out.at mE1;obtain ⟨l0,l1,l2,l3,l4⟩:=HHl.c5;clear HHl;have HHz:=HS0.out.at mE2;obtain ⟨z0,z1,z2,z3,z4⟩:=HHz.c5;obtain ⟨zf0,zf1,zf2,zf3,zf4⟩:=HHz.f5;obtain ⟨HRR,RB⟩:=st5 HHz HS0.out.b hRw (iV proto') (.string src') (.string dst') (iV sp') (iV dp');clear HHz;go_wp2_with fail
  exact bodyPost_ret (results_mid Tryz.results118 _ _ _ _ _ rfl HRR.out Tryz.underlying43 rfl (show (Tryz.prog.info? 43).map (·.size)=some 5 by kernel_rfl)) rfl (And.intro (by rw [HX.out]) RB.out)
 | true =>
  by_cases h16:src'.size=16
  case pos =>
   have HX:Hid (ans=⟨58,src',dst',sp',sp'⟩):=by unfold Hid; rw [HV.out,if_pos rfl]; simp [h16]
   have d16:((src'.size:Int)==16)=true:=by rw [h16]; rfl
   clear HV h16;have HHg:=HS0.out.at mE1;obtain ⟨l0,l1,l2,l3,l4⟩:=HHg.c5;obtain ⟨lf0,lf1,lf2,lf3,lf4⟩:=HHg.f5;have S2:Hid (Bxs w [(w.z+1,(FlR 58 src' dst' sp' sp')),(w.z+1+1,(FlR 0 ⟨#[]⟩ ⟨#[]⟩ 0 0))] ((sW (sW W0 (w.z+1) 4 (iV sp')) (w.z+1) 0 (iV 1)).setCell ⟨w.z+1,0,none⟩ (iV 58))):=⟨fun e he=>by
    simp only [List.mem_cons,List.not_mem_nil,or_false] at he;rcases he with rfl | rfl
    ·exact ((HHg.set 4 (iV sp')).set 0 (iV 1)).set 0 (iV 58)
    ·exact (HoldsL.setOther (HoldsL.setOther (HoldsL.setOther (HS0.out.k _ mE2) (by show w.z+1+1≠w.z+1; omega) _) (by show w.z+1+1≠w.z+1; omega) _) (by show w.z+1+1≠w.z+1; omega) _),(((HS0.out.b.setCell (p:=⟨w.z+1,4,none⟩) hGw _).setCell (p:=⟨w.z+1,0,none⟩) hGw _).setCell (p:=⟨w.z+1,0,none⟩) hGw _),fun e he=>by
    simp only [List.mem_cons,List.not_mem_nil,or_false] at he;rcases he with rfl | rfl<;>simp⟩
   clear HHg;go_upto_region 7 with fail
   generalize ((sW (sW W0 (w.z+1) 4 (iV sp')) (w.z+1) 0 (iV 1)).setCell ⟨w.z+1,0,none⟩ (iV 58))=W2 at *;clear l0 lf0 l1 lf1 l2 lf2 l3 lf3 l4 lf4 HS0 k0 k1 k2 k3 k4;have HHl:=S2.out.at mE0;obtain ⟨l0,l1,l2,l3,l4⟩:=HHl.c5;clear HHl;have HHz:=S2.out.at mE1;obtain ⟨z0,z1,z2,z3,z4⟩:=HHz.c5;obtain ⟨zf0,zf1,zf2,zf3,zf4⟩:=HHz.f5;obtain ⟨HRR,RB⟩:=st5 HHz S2.out.b hRw (iV 58) (.string src') (.string dst') (iV sp') (iV sp');clear HHz;go_wp2_with fail
   exact bodyPost_ret (results_mid Tryz.results118 _ _ _ _ _ rfl HRR.out Tryz.underlying43 rfl (show (Tryz.prog.info? 43).map (·.size)=some 5 by kernel_rfl)) rfl (And.intro (by rw [HX.out]) RB.out)
  case neg =>
   have HX:Hid (ans=⟨1,src',dst',sp',sp'⟩):=by unfold Hid; rw [HV.out,if_pos rfl]; simp [h16]
   have d16:((src'.size:Int)==16)=false:=by simp; omega
   clear HV h16;have HHg:=HS0.out.at mE1;obtain ⟨l0,l1,l2,l3,l4⟩:=HHg.c5;obtain ⟨lf0,lf1,lf2,lf3,lf4⟩:=HHg.f5;have S2:Hid (Bxs w [(w.z+1,(FlR 1 src' dst' sp' sp')),(w.z+1+1,(FlR 0 ⟨#[]⟩ ⟨#[]⟩ 0 0))] ((sW W0 (w.z+1) 4 (iV sp')).setCell ⟨w.z+1,0,none⟩ (iV 1))):=⟨fun e he=>by
    simp only [List.mem_cons,List.not_mem_nil,or_false] at he;rcases he with rfl | rfl
    ·exact ((HHg.set 4 (iV sp')).set 0 (iV 1))
    ·exact (HoldsL.setOther (HoldsL.setOther (HS0.out.k _ mE2) (by show w.z+1+1≠w.z+1; omega) _) (by show w.z+1+1≠w.z+1; omega) _),((HS0.out.b.setCell (p:=⟨w.z+1,4,none⟩) hGw _).setCell (p:=⟨w.z+1,0,none⟩) hGw _),fun e he=>by
    simp only [List.mem_cons,List.not_mem_nil,or_false] at he;rcases he with rfl | rfl<;>simp⟩
   clear HHg;go_upto_region 7 with fail
   generalize ((sW W0 (w.z+1) 4 (iV sp')).setCell ⟨w.z+1,0,none⟩ (iV 1))=W2 at *;clear l0 lf0 l1 lf1 l2 lf2 l3 lf3 l4 lf4 HS0 k0 k1 k2 k3 k4;have HHl:=S2.out.at mE0;obtain ⟨l0,l1,l2,l3,l4⟩:=HHl.c5;clear HHl;have HHz:=S2.out.at mE1;obtain ⟨z0,z1,z2,z3,z4⟩:=HHz.c5;obtain ⟨zf0,zf1,zf2,zf3,zf4⟩:=HHz.f5;obtain ⟨HRR,RB⟩:=st5 HHz S2.out.b hRw (iV 1) (.string src') (.string dst') (iV sp') (iV sp');clear HHz;go_wp2_with fail
   exact bodyPost_ret (results_mid Tryz.results118 _ _ _ _ _ rfl HRR.out Tryz.underlying43 rfl (show (Tryz.prog.info? 43).map (·.size)=some 5 by kernel_rfl)) rfl (And.intro (by rw [HX.out]) RB.out)
theorem sp9To_any (f:Fl) (s d:ByteArray) (n:Int) (w:World) (hs:s.size≤1048576) :
  Cb 78 #[fwC f,.string s,.string d,iV n] w (fwC (toF f s d n)):=by
 have HE:Hid (∀ W,Cw 44 #[iV f.proto] W (.bool (echoP f.proto))):=fun W=>spEcho_any _ W
 have HK:Hid (∀ W,Cb 118 #[fwC f,fwC ⟨f.proto,s,d,if echoP f.proto=true then n else f.sp,n⟩] W (fwC (toF f s d n))):=fun W=>sp9Kind_any f ⟨f.proto,s,d,_,n⟩ W hs
 generalize toF f s d n=ans at *;generalize echoP f.proto=b at *;obtain ⟨proto,src,dst,sp,dp⟩:=f;unfold fwC at *;dsimp only at *;have HS0:=bx2 w (FlR proto src dst sp dp) 43 (FlR 0 ⟨#[]⟩ ⟨#[]⟩ 0 0) 43 (by simp) (by simp)
 skip;have hRw:w.z≤w.z+1:=by omega
 go_enter Tryz.func78,Tryz.ntmps78
 go_upto_region 1 with fail
 generalize World.alloc _ _=W0 at *;have HHk:=HS0.out.at mE0;obtain ⟨k0,k1,k2,k3,k4⟩:=HHk.c5;clear HHk;have S1:Hid (Bxs w ((W0.heap.size,(FlR proto s d sp n))::[(w.z,(FlR proto src dst sp dp)),(w.z+1,(FlR 0 ⟨#[]⟩ ⟨#[]⟩ 0 0))]) (W0.alloc (.cells (FlR proto s d sp n).toArray 43))):=HS0.out.push (FlR proto s d sp n) (by simp) _;have hrg:w.z+1 < W0.heap.size:=(HS0.out.k _ mE1).lt (by simp);go_upto_region 2 with fail
 clear HS0 k0 k1 k2 k3 k4;generalize (W0.alloc (.cells (FlR proto s d sp n).toArray 43))=W1 at *;generalize W0.heap.size=G at *;have HHk:=S1.out.at mE1;obtain ⟨k0,k1,k2,k3,k4⟩:=HHk.c5;clear HHk;go_wp2_with fail
 refine (HE.out _).mono ?_;rintro e W1 ⟨rfl,rfl⟩
 cases b with
 | false =>
  clear k0 k1 k2 k3 k4;have HHk:=S1.out.at mE1;obtain ⟨k0,k1,k2,k3,k4⟩:=HHk.c5;clear HHk;have HHl:=S1.out.at mE0;obtain ⟨l0,l1,l2,l3,l4⟩:=HHl.c5;clear HHl;go_wp2_with fail
  refine (HK.out _).mono ?_;rintro e W2 ⟨rfl,q2⟩;have S2:Hid _:=S1.out.kept q2;clear q2 k0 k1 k2 k3 k4 l0 l1 l2 l3 l4;have HHz:=S2.out.at mE2;obtain ⟨z0,z1,z2,z3,z4⟩:=HHz.c5;obtain ⟨zf0,zf1,zf2,zf3,zf4⟩:=HHz.f5;obtain ⟨HRR,RB⟩:=st5 HHz S2.out.b hRw (iV ans.proto) (.string ans.src) (.string ans.dst) (iV ans.sp) (iV ans.dp);clear HHz;go_wp2_with fail
  exact bodyPost_ret (results_mid Tryz.results78 _ _ _ _ _ rfl HRR.out Tryz.underlying43 rfl (show (Tryz.prog.info? 43).map (·.size)=some 5 by kernel_rfl)) rfl (And.intro rfl RB.out)
 | true =>
  have HHg:=S1.out.at mE0;have l3:=HHg.cell (j:=3) rfl;have lf3:=HHg.free (j:=3) (by simp);have S1':Hid (Bxs w [(G,(FlR proto s d n n)),(w.z,(FlR proto src dst sp dp)),(w.z+1,(FlR 0 ⟨#[]⟩ ⟨#[]⟩ 0 0))] (W1.setCell ⟨G,3,none⟩ (iV n))):=⟨fun e he=>by
   simp only [List.mem_cons,List.not_mem_nil,or_false] at he;rcases he with rfl | rfl | rfl
   ·exact HHg.set 3 _
   ·exact HoldsL.setOther (S1.out.k _ mE1) (by show w.z≠G; omega) _
   ·exact HoldsL.setOther (S1.out.k _ mE2) (by show w.z+1≠G; omega) _,S1.out.b.setCell (p:=⟨G,3,none⟩) (by show w.z≤G; omega) _,fun e he=>by
   simp only [List.mem_cons,List.not_mem_nil,or_false] at he;rcases he with rfl | rfl | rfl<;>simp⟩
  clear HHg S1;go_upto_region 4 with fail
  generalize (W1.setCell ⟨G,3,none⟩ (iV n))=W3 at *;clear l3 lf3 k0 k1 k2 k3 k4;have HHk:=S1'.out.at mE1;obtain ⟨k0,k1,k2,k3,k4⟩:=HHk.c5;clear HHk;have HHl:=S1'.out.at mE0;obtain ⟨l0,l1,l2,l3,l4⟩:=HHl.c5;clear HHl;go_wp2_with fail
  refine (HK.out _).mono ?_;rintro e W2 ⟨rfl,q2⟩;have S2:Hid (Bxs w [(G,(FlR proto s d n n)),(w.z,(FlR proto src dst sp dp)),(w.z+1,(FlR 0 ⟨#[]⟩ ⟨#[]⟩ 0 0))] W2):=S1'.out.kept q2;clear q2 k0 k1 k2 k3 k4 l0 l1 l2 l3 l4;have HHz:=S2.out.at mE2;obtain ⟨z0,z1,z2,z3,z4⟩:=HHz.c5;obtain ⟨zf0,zf1,zf2,zf3,zf4⟩:=HHz.f5;obtain ⟨HRR,RB⟩:=st5 HHz S2.out.b hRw (iV ans.proto) (.string ans.src) (.string ans.dst) (iV ans.sp) (iV ans.dp);clear HHz;go_wp2_with fail
  exact bodyPost_ret (results_mid Tryz.results78 _ _ _ _ _ rfl HRR.out Tryz.underlying43 rfl (show (Tryz.prog.info? 43).map (·.size)=some 5 by kernel_rfl)) rfl (And.intro rfl RB.out)
end Go.Proofs.YtdkepkaflielhaaGreatDoor
