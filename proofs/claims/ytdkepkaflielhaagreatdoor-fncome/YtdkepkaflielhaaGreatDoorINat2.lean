import Derived.Test.YtdkepkaflielhaaGreatDoorSz
import Derived.Test.YtdkepkaflielhaaGreatDoorAb
import Derived.Test.YtdkepkaflielhaaGreatDoorUni
import Derived.Test.YtdkepkaflielhaaGreatDoorSt
import Derived.Test.YtdkepkaflielhaaGreatDoorINat1
set_option linter.unusedVariables false
set_option linter.unusedSimpArgs false
set_option maxRecDepth 100000
set_option maxHeartbeats 8000000
namespace Go.Proofs.YtdkepkaflielhaaGreatDoor
open Go.RowKit Go.PlainAid
theorem ipTouchI_any (f:Fl) (ra:Option Addr) (la ca:Nat) (w:World) :
  Cb 205 #[.agg #[.slice ra la ca],fwC f] w (tcC ⟨f.proto,false,f.dst,f.dp,f.src,peerV f.proto f.sp,0⟩):=by
 have HP:Hid (∀ W,Cb 204 #[iV f.proto,iV f.sp] W (iV (peerV f.proto f.sp))):=fun W=>ipPeer_any _ _ W
 generalize peerV f.proto f.sp=pv at *;obtain ⟨proto,src,dst,sp,dp⟩:=f;unfold fwC tcC;dsimp only at *;have HS0:Hid (Bxs w [(w.z+1+1,(TcR 0 false ⟨#[]⟩ 0 ⟨#[]⟩ 0 0)),(w.z+1,(FlR proto src dst sp dp))] ((aW (aW w [.slice ra la ca] 82) (FlR proto src dst sp dp) 43).alloc (.cells (TcR 0 false ⟨#[]⟩ 0 ⟨#[]⟩ 0 0).toArray 89))):=by
  have h:=((⟨fun e he=>(by cases he),bR.alloc lR _,fun e he=>(by cases he)⟩ : Bxs w [] (w.alloc (.cells #[.slice ra la ca] 82))).push (FlR proto src dst sp dp) (by simp) 43).push (TcR 0 false ⟨#[]⟩ 0 ⟨#[]⟩ 0 0) (by simp) 89;simp only [World.size_alloc] at h;exact h
 have hRw:w.z≤w.z+1+1:=by omega
 go_enter Tryz.func205,Tryz.ntmps205
 go_upto_region 1 with fail
 generalize World.alloc _ _=W0 at *;have HCP:Hid (∀ wy,Below W0.drew.heap.size W0.drew wy→_):=fun wy hy=>HS0.out.kept (bR.drew.trans hy)
 clear HS0;refine wp_region_growV [5,6,7,8,9,10,11,12,13,14,15,16,17,18] (by kernel_rfl) (by kernel_rfl) ?_;iterate 14 (apply GChV.u rfl;(·intro K' a wy ho hd hb hK;simp [rAt,IsV,slot,Region.binds] at ho hd;have hst:=HCP.out wy hb;have kC:=(hst.at mE1).c5;clear hst;go_simp;first|((try go_bits);exact hK _ _ rfl bQ)|(refine (HP.out wy).mono ?_;rintro e wz ⟨rfl,hz⟩;exact hK _ _ rfl hz));dsimp only [nA,cA])
 intro X wz hR hz;simp only [List.nil_append,List.cons_append,RAll,IsV] at hR;simp only [putsFrom,hR];clear hR;have V7:Hid (Bxs w [(w.z+1+1,(TcR 0 false ⟨#[]⟩ 0 ⟨#[]⟩ 0 0)),(w.z+1,(FlR proto src dst sp dp))] wz):=HCP.out wz hz;clear hz HCP HP;have HHz:=V7.out.at mE0;obtain ⟨z0,z1,z2,z3,z4,z5,z6⟩:=HHz.c7;obtain ⟨zf0,zf1,zf2,zf3,zf4,zf5,zf6⟩:=HHz.f7;obtain ⟨HRR,RB⟩:=st7 HHz V7.out.b hRw (iV proto) (.bool false) (.string dst) (iV dp) (.string src) (iV pv) (iV 0);clear HHz;clear V7;intro K10 hK10;go_simp;refine hK10 _ _ ?_;simp only [wpSeq];go_wp2_with fail
 exact bodyPost_ret (results_mid Tryz.results205 _ _ _ _ _ rfl HRR.out Tryz.underlying89 rfl (show (Tryz.prog.info? 89).map (·.size)=some 7 by kernel_rfl)) rfl (And.intro rfl RB.out)
end Go.Proofs.YtdkepkaflielhaaGreatDoor
