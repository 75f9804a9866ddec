import Derived.Test.YtdkepkaflielhaaGreatDoorSz
import Derived.Test.YtdkepkaflielhaaGreatDoorAb
import Derived.Test.YtdkepkaflielhaaGreatDoorUni
import Derived.Test.YtdkepkaflielhaaGreatDoorBdSame
import Derived.Test.YtdkepkaflielhaaGreatDoorLawBib
import Derived.Test.YtdkepkaflielhaaGreatDoorGrowH
set_option linter.unusedVariables false
set_option linter.unusedSimpArgs false
set_option maxRecDepth 100000
set_option maxHeartbeats 8000000
namespace Go.Proofs.YtdkepkaflielhaaGreatDoor
open Go.RowKit Go.PlainAid
theorem lwSame_same (x:Bb) (a1 b1 a2 b2:Option Addr) (ca1 cb1 ca2 cb2:Nat) (w:World) (hl1:x.binds.length≤1048576) (hl2:x.sess.length≤1048576) (h1:BbIs w a1 b1 x) (h2:BbIs w a2 b2 x) :
  Cb 9 #[bbC a1 b1 ca1 cb1 x,bbC a2 b2 ca2 cb2 x] w (.bool true):=by
 have HB:Hid (Below w.z w ((aW w (BbV a1 ca1 b1 cb1 x) 31).alloc (.cells (BbV a2 ca2 b2 cb2 x).toArray 31))):=(bR.alloc lR _).alloc (by simp) _;have H0:=(HoldsL.new w (BbV a1 ca1 b1 cb1 x) 31).alloc (.cells (BbV a2 ca2 b2 cb2 x).toArray 31);have H1:=HoldsL.new (w.alloc (.cells (BbV a1 ca1 b1 cb1 x).toArray 31)) (BbV a2 ca2 b2 cb2 x) 31;rw [World.size_alloc] at H1;have G0:Hid _:=H0;have G1:Hid _:=H1;have R1:Hid (BbIs w a1 b1 x):=h1;have R2:Hid (BbIs w a2 b2 x):=h2;unfold bbC;clear h1 h2 H0 H1;go_enter Tryz.func9,Tryz.ntmps9
 go_upto_region 1 with fail
 generalize World.alloc _ _=W2 at *;have HCL:Hid (∀ wy,Below W2.heap.size W2 wy→wy.cell? ⟨w.z,0,none⟩=some (.slice a1 x.binds.length ca1)∧wy.cell? ⟨w.z,1,none⟩=some (.slice b1 x.sess.length cb1)∧wy.cell? ⟨w.z+1,0,none⟩=some (.slice a2 x.binds.length ca2)∧wy.cell? ⟨w.z+1,1,none⟩=some (.slice b2 x.sess.length cb2)) :=
  fun wy hy=>⟨(G0.out.kept (by simp) hy).cell rfl,(G0.out.kept (by simp) hy).cell rfl,(G1.out.kept (by simp) hy).cell rfl,(G1.out.kept (by simp) hy).cell rfl⟩
 obtain ⟨k0,k1,k2,k3⟩:=HCL.out W2 bR;go_wp2_with fail
 go_loopw [5] (fun i wr=>∃ k:Nat,k≤x.binds.length∧i=iV k∧Below W2.heap.size W2 wr) (fun i _=>x.binds.length-(intOf i).toNat)
 case atStart=>exact ⟨0,Nat.zero_le _,rfl,Below.refl _ _⟩
 case round =>
  obtain ⟨k,hk,rfl,hbel⟩:=hrel;have HL:Hid (Below W2.heap.size W2 wr):=hbel;clear hbel;obtain ⟨k0,k1,k2,k3⟩:=HCL.out wr HL.out;by_cases hlt:k < x.binds.length
  ·obtain ⟨c1,o1,rfl,hc1,hA⟩:=R1.out.bd.at hlt;obtain ⟨c2,o2,rfl,hc2,hB⟩:=R2.out.bd.at hlt;have HW:Hid _:=HB.out.trans (HL.out.mono HB.out.size);obtain ⟨q,hq⟩ : ∃ q,q=x.binds[k]:=⟨_,rfl⟩;have CA:Hid (∀ wy,Below wr.heap.size wr wy→wy.cell? ⟨c1,o1+k*5,none⟩=some (iV q.proto)∧wy.cell? ⟨c1,o1+k*5+1,none⟩=some (.string q.inn)∧wy.cell? ⟨c1,o1+k*5+2,none⟩=some (iV q.inPort)∧wy.cell? ⟨c1,o1+k*5+3,none⟩=some (.string q.out)∧wy.cell? ⟨c1,o1+k*5+4,none⟩=some (iV q.outPort)):=fun wy hy=>by
    have h3:=(hA.below hc1 (HW.out.trans (hy.mono HW.out.size))) k hlt;rw [← hq] at h3;exact ⟨h3 0 _ rfl,h3 1 _ rfl,h3 2 _ rfl,h3 3 _ rfl,h3 4 _ rfl⟩
   have CB:Hid (∀ wy,Below wr.heap.size wr wy→wy.cell? ⟨c2,o2+k*5,none⟩=some (iV q.proto)∧wy.cell? ⟨c2,o2+k*5+1,none⟩=some (.string q.inn)∧wy.cell? ⟨c2,o2+k*5+2,none⟩=some (iV q.inPort)∧wy.cell? ⟨c2,o2+k*5+3,none⟩=some (.string q.out)∧wy.cell? ⟨c2,o2+k*5+4,none⟩=some (iV q.outPort)):=fun wy hy=>by
    have h3:=(hB.below hc2 (HW.out.trans (hy.mono HW.out.size))) k hlt;rw [← hq] at h3;exact ⟨h3 0 _ rfl,h3 1 _ rfl,h3 2 _ rfl,h3 3 _ rfl,h3 4 _ rfl⟩
   have HNE:Hid (∀ W,(binOp .neq 48 (.agg (BdV q).toArray) (.agg (BdV q).toArray)).run Tryz.prog W=.ok (.bool false) W):=fun W=>by rw [neBdW_bin q q W,sameBd_self]; rfl
   clear hq hA hB;have hk2:¬ (x.binds.length:Int)≤(k:Int):=by omega
   go_upto_region 6 with fail
   go_cut [40] (fun v wx=>v=.bool false∧Below wr.heap.size wr wx)
   case first =>
    rename_i J K2 hJ hK2;refine wp_region_growH [30,31,32,33,34,35,36,37,38,39,40] (by kernel_rfl) (by kernel_rfl) ?_;iterate 10 (apply GCh.u rfl;(·intro K' a wy ho hd hb hK;simp [rAt,IsV,slot,Region.binds] at ho hd;have hb:=(Below.refl _ wr).drew.trans hb;have hld:=HCL.out wy (HL.out.trans (hb.mono HL.out.size));obtain ⟨k0,k1,k2,k3⟩:=hld;have hca:=CA.out wy hb;have hcb:=CB.out wy hb;obtain ⟨m0,m1,m2,m3,m4⟩:=hca;obtain ⟨n0,n1,n2,n3,n4⟩:=hcb;go_simp;(try go_bits);exact hK _ _ rfl bQ);dsimp only [nA,cA])
    (apply GCh.u rfl;(·intro K' a wy ho hd hb hK;simp [rAt,IsV,slot,Region.binds] at ho hd;have hne:=HNE.out wy;go_simp;(try go_bits);exact hK _ _ rfl bQ);dsimp only [nA,cA])
    intro X wz hR hz;simp only [List.nil_append,List.cons_append,RAll,IsV] at hR;simp only [putsFrom,hR];clear hR;go_simp;refine hK2 _ _ (hJ _ _ ?_);(repeat apply Exists.intro)
    refine ⟨⟨rfl,(Below.refl _ wr).drew.trans hz⟩,rfl⟩
   case rest =>
   obtain ⟨rfl,hbd⟩:=hcut;have HL2:Hid _:=HL.out.trans (hbd.mono HL.out.size);clear hbd;go_wp2_with fail
   go_roundw
   case rel=>exact ⟨k+1,by omega,by go_num,HL2.out⟩
   case measure=>simp [intOf]; omega
  ·have hk2:(x.binds.length:Int)≤(k:Int):=by omega
   go_wp2_with fail
   go_loopw [6] (fun i wr=>∃ k:Nat,k≤x.sess.length∧i=iV k∧Below W2.heap.size W2 wr) (fun i _=>x.sess.length-(intOf i).toNat)
   case atStart=>exact ⟨0,Nat.zero_le _,rfl,HL.out⟩
   case round =>
    obtain ⟨k,hk,rfl,hbel⟩:=hrel;have HL:Hid (Below W2.heap.size W2 wr):=hbel;clear hbel;obtain ⟨k0,k1,k2,k3⟩:=HCL.out wr HL.out;by_cases hlt:k < x.sess.length
    ·obtain ⟨c1,o1,rfl,hc1,hA⟩:=R1.out.ss.at hlt;obtain ⟨c2,o2,rfl,hc2,hB⟩:=R2.out.ss.at hlt;have HW:Hid _:=HB.out.trans (HL.out.mono HB.out.size);obtain ⟨q,hq⟩ : ∃ q,q=x.sess[k]:=⟨_,rfl⟩;have CA:Hid (∀ wy,Below wr.heap.size wr wy→wy.cell? ⟨c1,o1+k*7,none⟩=some (iV q.proto)∧wy.cell? ⟨c1,o1+k*7+1,none⟩=some (.string q.inn)∧wy.cell? ⟨c1,o1+k*7+2,none⟩=some (iV q.inPort)∧wy.cell? ⟨c1,o1+k*7+3,none⟩=some (.string q.peer)∧wy.cell? ⟨c1,o1+k*7+4,none⟩=some (iV q.peerPort)∧wy.cell? ⟨c1,o1+k*7+5,none⟩=some (iV q.state)∧wy.cell? ⟨c1,o1+k*7+6,none⟩=some (iV q.untl)):=fun wy hy=>by
      have h3:=(hA.below hc1 (HW.out.trans (hy.mono HW.out.size))) k hlt;rw [← hq] at h3;exact ⟨h3 0 _ rfl,h3 1 _ rfl,h3 2 _ rfl,h3 3 _ rfl,h3 4 _ rfl,h3 5 _ rfl,h3 6 _ rfl⟩
     have CB:Hid (∀ wy,Below wr.heap.size wr wy→wy.cell? ⟨c2,o2+k*7,none⟩=some (iV q.proto)∧wy.cell? ⟨c2,o2+k*7+1,none⟩=some (.string q.inn)∧wy.cell? ⟨c2,o2+k*7+2,none⟩=some (iV q.inPort)∧wy.cell? ⟨c2,o2+k*7+3,none⟩=some (.string q.peer)∧wy.cell? ⟨c2,o2+k*7+4,none⟩=some (iV q.peerPort)∧wy.cell? ⟨c2,o2+k*7+5,none⟩=some (iV q.state)∧wy.cell? ⟨c2,o2+k*7+6,none⟩=some (iV q.untl)):=fun wy hy=>by
      have h3:=(hB.below hc2 (HW.out.trans (hy.mono HW.out.size))) k hlt;rw [← hq] at h3;exact ⟨h3 0 _ rfl,h3 1 _ rfl,h3 2 _ rfl,h3 3 _ rfl,h3 4 _ rfl,h3 5 _ rfl,h3 6 _ rfl⟩
     have HNE:Hid (∀ W,(binOp .neq 59 (.agg (SsV q).toArray) (.agg (SsV q).toArray)).run Tryz.prog W=.ok (.bool false) W):=fun W=>by rw [neSsW_bin q q W,sameSs_self]; rfl
     clear hq hA hB;have hk2:¬ (x.sess.length:Int)≤(k:Int):=by omega
     go_upto_region 11 with fail
     go_cut [58] (fun v wx=>v=.bool false∧Below wr.heap.size wr wx)
     case first =>
      rename_i J K2 hJ hK2;refine wp_region_growH [48,49,50,51,52,53,54,55,56,57,58] (by kernel_rfl) (by kernel_rfl) ?_;iterate 10 (apply GCh.u rfl;(·intro K' a wy ho hd hb hK;simp [rAt,IsV,slot,Region.binds] at ho hd;have hb:=(Below.refl _ wr).drew.trans hb;have hld:=HCL.out wy (HL.out.trans (hb.mono HL.out.size));obtain ⟨k0,k1,k2,k3⟩:=hld;have hca:=CA.out wy hb;have hcb:=CB.out wy hb;obtain ⟨m0,m1,m2,m3,m4,m5,m6⟩:=hca;obtain ⟨n0,n1,n2,n3,n4,n5,n6⟩:=hcb;go_simp;(try go_bits);exact hK _ _ rfl bQ);dsimp only [nA,cA])
      (apply GCh.u rfl;(·intro K' a wy ho hd hb hK;simp [rAt,IsV,slot,Region.binds] at ho hd;have hne:=HNE.out wy;go_simp;(try go_bits);exact hK _ _ rfl bQ);dsimp only [nA,cA])
      intro X wz hR hz;simp only [List.nil_append,List.cons_append,RAll,IsV] at hR;simp only [putsFrom,hR];clear hR;go_simp;refine hK2 _ _ (hJ _ _ ?_);(repeat apply Exists.intro)
      refine ⟨⟨rfl,(Below.refl _ wr).drew.trans hz⟩,rfl⟩
     case rest =>
     obtain ⟨rfl,hbd⟩:=hcut;have HL2:Hid _:=HL.out.trans (hbd.mono HL.out.size);clear hbd;go_wp2_with fail
     go_roundw
     case rel=>exact ⟨k+1,by omega,by go_num,HL2.out⟩
     case measure=>simp [intOf]; omega
    ·have hk2:(x.sess.length:Int)≤(k:Int):=by omega
     go_wp2_with fail
     go_ret;exact ⟨rfl,HB.out.trans (HL.out.mono HB.out.size)⟩
end Go.Proofs.YtdkepkaflielhaaGreatDoor
