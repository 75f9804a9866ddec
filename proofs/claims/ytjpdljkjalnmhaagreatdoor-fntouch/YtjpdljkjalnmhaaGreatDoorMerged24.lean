import Derived.Test.YtjpdljkjalnmhaaGreatDoorBdSame
import Derived.Test.YtjpdljkjalnmhaaGreatDoorMerged7
import Derived.Test.YtjpdljkjalnmhaaGreatDoorMerged5
import Derived.Test.YtjpdljkjalnmhaaGreatDoorTouchR
import Derived.Test.YtjpdljkjalnmhaaGreatDoorMerged23
import Derived.Test.YtjpdljkjalnmhaaGreatDoorMerged15
import Derived.Test.YtjpdljkjalnmhaaGreatDoorMerged3
set_option linter.unusedVariables false
set_option linter.unusedSimpArgs false
set_option maxRecDepth 100000
set_option maxHeartbeats 8000000
namespace Go.Proofs.YtjpdljkjalnmhaaGreatDoor
open Go.RowKit Go.PlainAid
theorem lwSame_same (x:Bb) (a1 b1 a2 b2:Option Addr) (ca1 cb1 ca2 cb2:Nat) (w:World) (hl1:x.binds.length≤1048576) (hl2:x.sess.length≤1048576) (h1:BbIs w a1 b1 x) (h2:BbIs w a2 b2 x) :
  Calls Tryz.prog 7 #[bbC a1 b1 ca1 cb1 x,bbC a2 b2 ca2 cb2 x] w fun e w'=>e=.returned (.bool true)∧Below w.heap.size w w':=by
 have HB:Hid (Below w.heap.size w ((w.alloc (.cells #[.slice a1 x.binds.length ca1,.slice b1 x.sess.length cb1] 31)).alloc (.cells #[.slice a2 x.binds.length ca2,.slice b2 x.sess.length cb2] 31))):=((Below.refl _ _).alloc (Nat.le_refl _) _).alloc (by simp) _;have H0:=(HoldsL.new w [.slice a1 x.binds.length ca1,.slice b1 x.sess.length cb1] 31).alloc (.cells #[.slice a2 x.binds.length ca2,.slice b2 x.sess.length cb2] 31);have H1:=HoldsL.new (w.alloc (.cells #[.slice a1 x.binds.length ca1,.slice b1 x.sess.length cb1] 31)) [.slice a2 x.binds.length ca2,.slice b2 x.sess.length cb2] 31;rw [World.size_alloc] at H1;have G0:Hid _:=H0;have G1:Hid _:=H1;have R1:Hid (BbIs w a1 b1 x):=h1;have R2:Hid (BbIs w a2 b2 x):=h2;unfold bbC;clear h1 h2 H0 H1;go_enter Tryz.func7,Tryz.ntmps7
 go_upto_region 1 with fail
 generalize (w.alloc (.cells #[.slice a1 x.binds.length ca1,.slice b1 x.sess.length cb1] 31)).alloc (.cells #[.slice a2 x.binds.length ca2,.slice b2 x.sess.length cb2] 31)=W2 at *;have HCL:Hid (∀ wy,Below W2.heap.size W2 wy→wy.cell? ⟨w.heap.size,0,none⟩=some (.slice a1 x.binds.length ca1)∧wy.cell? ⟨w.heap.size,1,none⟩=some (.slice b1 x.sess.length cb1)∧wy.cell? ⟨w.heap.size+1,0,none⟩=some (.slice a2 x.binds.length ca2)∧wy.cell? ⟨w.heap.size+1,1,none⟩=some (.slice b2 x.sess.length cb2)) :=
  fun wy hy=>⟨(G0.out.kept (by simp) hy).cell rfl,(G0.out.kept (by simp) hy).cell rfl,(G1.out.kept (by simp) hy).cell rfl,(G1.out.kept (by simp) hy).cell rfl⟩
 obtain ⟨k0,k1,k2,k3⟩:=HCL.out W2 (Below.refl _ _);go_wp2_with fail
 go_loopw [5] (fun i wr=>∃ k:Nat,k≤x.binds.length∧i=.int .i64 k∧Below W2.heap.size W2 wr) (fun i _=>x.binds.length-(intOf i).toNat)
 case atStart=>exact ⟨0,Nat.zero_le _,rfl,Below.refl _ _⟩
 case round =>
  obtain ⟨k,hk,rfl,hbel⟩:=hrel;have HL:Hid (Below W2.heap.size W2 wr):=hbel;clear hbel;obtain ⟨k0,k1,k2,k3⟩:=HCL.out wr HL.out;by_cases hlt:k < x.binds.length
  ·obtain ⟨c1,o1,rfl,hc1,hA⟩:=R1.out.bd.at hlt;obtain ⟨c2,o2,rfl,hc2,hB⟩:=R2.out.bd.at hlt;have HW:Hid (Below w.heap.size w wr):=HB.out.trans (HL.out.mono HB.out.size);obtain ⟨q,hq⟩ : ∃ q,q=x.binds[k]:=⟨_,rfl⟩;have CA:Hid (∀ wy,Below wr.heap.size wr wy→wy.cell? ⟨c1,o1+k*5,none⟩=some (.int .i64 q.proto)∧wy.cell? ⟨c1,o1+k*5+1,none⟩=some (.string q.inn)∧wy.cell? ⟨c1,o1+k*5+2,none⟩=some (.int .i64 q.inPort)∧wy.cell? ⟨c1,o1+k*5+3,none⟩=some (.string q.out)∧wy.cell? ⟨c1,o1+k*5+4,none⟩=some (.int .i64 q.outPort)):=fun wy hy=>by
    have h3:=(hA.below hc1 (HW.out.trans (hy.mono HW.out.size))) k hlt;rw [← hq] at h3;exact ⟨h3 0 _ rfl,h3 1 _ rfl,h3 2 _ rfl,h3 3 _ rfl,h3 4 _ rfl⟩
   have CB:Hid (∀ wy,Below wr.heap.size wr wy→wy.cell? ⟨c2,o2+k*5,none⟩=some (.int .i64 q.proto)∧wy.cell? ⟨c2,o2+k*5+1,none⟩=some (.string q.inn)∧wy.cell? ⟨c2,o2+k*5+2,none⟩=some (.int .i64 q.inPort)∧wy.cell? ⟨c2,o2+k*5+3,none⟩=some (.string q.out)∧wy.cell? ⟨c2,o2+k*5+4,none⟩=some (.int .i64 q.outPort)):=fun wy hy=>by
    have h3:=(hB.below hc2 (HW.out.trans (hy.mono HW.out.size))) k hlt;rw [← hq] at h3;exact ⟨h3 0 _ rfl,h3 1 _ rfl,h3 2 _ rfl,h3 3 _ rfl,h3 4 _ rfl⟩
   have HNE:Hid (∀ W,(binOp .neq 37 (.agg #[.int .i64 q.proto,.string q.inn,.int .i64 q.inPort,.string q.out,.int .i64 q.outPort]) (.agg #[.int .i64 q.proto,.string q.inn,.int .i64 q.inPort,.string q.out,.int .i64 q.outPort])).run Tryz.prog W=.ok (.bool false) W):=fun W=>by rw [neBdW_bin q q W,sameBd_self]; rfl
   clear hq hA hB;have hk2:¬ (x.binds.length:Int)≤(k:Int):=by omega
   go_upto_region 6 with fail
   go_cut [40] (fun v wx=>v=.bool false∧Below wr.heap.size wr wx)
   case first =>
    rename_i J K2 hJ hK2;refine wp_region_growH [30,31,32,33,34,35,36,37,38,39,40] (by kernel_rfl) (by kernel_rfl) ?_;apply GCh.v0
    ·rfl
    ·intro K' a wy ho hd hb hK kz;have o2:=ho 2 (by decide);simp [slot] at o2;clear hd ho;go_simp;try go_bits
     exact kz _ rfl
    apply GCh.v1
    ·rfl
    ·intro K' a wy ho hd hb hK kz;have q0:=hd ⟨0,.data⟩ (by simp) rfl;simp [rAt,IsV,slot] at q0;clear hd ho;have hb:=(Below.refl _ wr).drew.trans hb;have hld:=HCL.out wy (HL.out.trans (hb.mono HL.out.size));obtain ⟨k0,k1,k2,k3⟩:=hld;have hca:=CA.out wy hb;have hcb:=CB.out wy hb;obtain ⟨m0,m1,m2,m3,m4⟩:=hca;obtain ⟨n0,n1,n2,n3,n4⟩:=hcb;go_simp;try go_bits
     exact kz _ rfl
    apply GCh.v2
    ·rfl
    ·intro K' a wy ho hd hb hK kz;have o5:=ho 5 (by decide);simp [slot] at o5;clear hd ho;go_simp;try go_bits
     exact kz _ rfl
    apply GCh.v3
    ·rfl
    ·intro K' a wy ho hd hb hK kz;have q1:=hd ⟨1,.data⟩ (by simp) rfl;simp [rAt,IsV,slot] at q1;have q2:=hd ⟨2,.data⟩ (by simp) rfl;simp [rAt,IsV,slot] at q2;clear hd ho;go_simp;try go_bits
     exact kz _ rfl
    apply GCh.v4
    ·rfl
    ·intro K' a wy ho hd hb hK kz;have q3:=hd ⟨3,.data⟩ (by simp) rfl;simp [rAt,IsV,slot] at q3;clear hd ho;have hb:=(Below.refl _ wr).drew.trans hb;have hld:=HCL.out wy (HL.out.trans (hb.mono HL.out.size));obtain ⟨k0,k1,k2,k3⟩:=hld;have hca:=CA.out wy hb;have hcb:=CB.out wy hb;obtain ⟨m0,m1,m2,m3,m4⟩:=hca;obtain ⟨n0,n1,n2,n3,n4⟩:=hcb;go_simp;try go_bits
     exact kz _ rfl
    apply GCh.v5
    ·rfl
    ·intro K' a wy ho hd hb hK kz;have o3:=ho 3 (by decide);simp [slot] at o3;clear hd ho;go_simp;try go_bits
     exact kz _ rfl
    apply GCh.v6
    ·rfl
    ·intro K' a wy ho hd hb hK kz;have q5:=hd ⟨5,.data⟩ (by simp) rfl;simp [rAt,IsV,slot] at q5;clear hd ho;have hb:=(Below.refl _ wr).drew.trans hb;have hld:=HCL.out wy (HL.out.trans (hb.mono HL.out.size));obtain ⟨k0,k1,k2,k3⟩:=hld;have hca:=CA.out wy hb;have hcb:=CB.out wy hb;obtain ⟨m0,m1,m2,m3,m4⟩:=hca;obtain ⟨n0,n1,n2,n3,n4⟩:=hcb;go_simp;try go_bits
     exact kz _ rfl
    apply GCh.v7
    ·rfl
    ·intro K' a wy ho hd hb hK kz;have o5:=ho 5 (by decide);simp [slot] at o5;clear hd ho;go_simp;try go_bits
     exact kz _ rfl
    apply GCh.v8
    ·rfl
    ·intro K' a wy ho hd hb hK kz;have q6:=hd ⟨6,.data⟩ (by simp) rfl;simp [rAt,IsV,slot] at q6;have q7:=hd ⟨7,.data⟩ (by simp) rfl;simp [rAt,IsV,slot] at q7;clear hd ho;go_simp;try go_bits
     exact kz _ rfl
    apply GCh.v9
    ·rfl
    ·intro K' a wy ho hd hb hK kz;have q8:=hd ⟨8,.data⟩ (by simp) rfl;simp [rAt,IsV,slot] at q8;clear hd ho;have hb:=(Below.refl _ wr).drew.trans hb;have hld:=HCL.out wy (HL.out.trans (hb.mono HL.out.size));obtain ⟨k0,k1,k2,k3⟩:=hld;have hca:=CA.out wy hb;have hcb:=CB.out wy hb;obtain ⟨m0,m1,m2,m3,m4⟩:=hca;obtain ⟨n0,n1,n2,n3,n4⟩:=hcb;go_simp;try go_bits
     exact kz _ rfl
    apply GCh.v10
    ·rfl
    ·intro K' a wy ho hd hb hK kz;have q4:=hd ⟨4,.data⟩ (by simp) rfl;simp [rAt,IsV,slot] at q4;have q9:=hd ⟨9,.data⟩ (by simp) rfl;simp [rAt,IsV,slot] at q9;clear hd ho;have hne:=HNE.out wy;go_simp;try go_bits
     exact kz _ rfl
    intro X wz hR hz;obtain ⟨x0,x1,x2,x3,x4,x5,x6,x7,x8,x9,x10,-⟩:=hR;simp only [IsV] at x0 x1 x2 x3 x4 x5 x6 x7 x8 x9 x10;simp only [putsFrom,x0,x1,x2,x3,x4,x5,x6,x7,x8,x9,x10];clear x0 x1 x2 x3 x4 x5 x6 x7 x8 x9 x10;go_simp;refine hK2 _ _ (hJ _ _ ?_);(repeat apply Exists.intro)
    refine ⟨⟨rfl,(Below.refl _ wr).drew.trans hz⟩,rfl⟩
   case rest =>
   obtain ⟨rfl,hbd⟩:=hcut;have HL2:Hid (Below W2.heap.size W2 wc):=HL.out.trans (hbd.mono HL.out.size);clear hbd;go_wp2_with fail
   go_roundw
   case rel=>exact ⟨k+1,by omega,by go_num,HL2.out⟩
   case measure=>simp [intOf]; omega
  ·have hk2:(x.binds.length:Int)≤(k:Int):=by omega
   go_wp2_with fail
   go_loopw [6] (fun i wr=>∃ k:Nat,k≤x.sess.length∧i=.int .i64 k∧Below W2.heap.size W2 wr) (fun i _=>x.sess.length-(intOf i).toNat)
   case atStart=>exact ⟨0,Nat.zero_le _,rfl,HL.out⟩
   case round =>
    obtain ⟨k,hk,rfl,hbel⟩:=hrel;have HL:Hid (Below W2.heap.size W2 wr):=hbel;clear hbel;obtain ⟨k0,k1,k2,k3⟩:=HCL.out wr HL.out;by_cases hlt:k < x.sess.length
    ·obtain ⟨c1,o1,rfl,hc1,hA⟩:=R1.out.ss.at hlt;obtain ⟨c2,o2,rfl,hc2,hB⟩:=R2.out.ss.at hlt;have HW:Hid (Below w.heap.size w wr):=HB.out.trans (HL.out.mono HB.out.size);obtain ⟨q,hq⟩ : ∃ q,q=x.sess[k]:=⟨_,rfl⟩;have CA:Hid (∀ wy,Below wr.heap.size wr wy→wy.cell? ⟨c1,o1+k*7,none⟩=some (.int .i64 q.proto)∧wy.cell? ⟨c1,o1+k*7+1,none⟩=some (.string q.inn)∧wy.cell? ⟨c1,o1+k*7+2,none⟩=some (.int .i64 q.inPort)∧wy.cell? ⟨c1,o1+k*7+3,none⟩=some (.string q.peer)∧wy.cell? ⟨c1,o1+k*7+4,none⟩=some (.int .i64 q.peerPort)∧wy.cell? ⟨c1,o1+k*7+5,none⟩=some (.int .i64 q.state)∧wy.cell? ⟨c1,o1+k*7+6,none⟩=some (.int .i64 q.untl)):=fun wy hy=>by
      have h3:=(hA.below hc1 (HW.out.trans (hy.mono HW.out.size))) k hlt;rw [← hq] at h3;exact ⟨h3 0 _ rfl,h3 1 _ rfl,h3 2 _ rfl,h3 3 _ rfl,h3 4 _ rfl,h3 5 _ rfl,h3 6 _ rfl⟩
     have CB:Hid (∀ wy,Below wr.heap.size wr wy→wy.cell? ⟨c2,o2+k*7,none⟩=some (.int .i64 q.proto)∧wy.cell? ⟨c2,o2+k*7+1,none⟩=some (.string q.inn)∧wy.cell? ⟨c2,o2+k*7+2,none⟩=some (.int .i64 q.inPort)∧wy.cell? ⟨c2,o2+k*7+3,none⟩=some (.string q.peer)∧wy.cell? ⟨c2,o2+k*7+4,none⟩=some (.int .i64 q.peerPort)∧wy.cell? ⟨c2,o2+k*7+5,none⟩=some (.int .i64 q.state)∧wy.cell? ⟨c2,o2+k*7+6,none⟩=some (.int .i64 q.untl)):=fun wy hy=>by
      have h3:=(hB.below hc2 (HW.out.trans (hy.mono HW.out.size))) k hlt;rw [← hq] at h3;exact ⟨h3 0 _ rfl,h3 1 _ rfl,h3 2 _ rfl,h3 3 _ rfl,h3 4 _ rfl,h3 5 _ rfl,h3 6 _ rfl⟩
     have HNE:Hid (∀ W,(binOp .neq 70 (.agg #[.int .i64 q.proto,.string q.inn,.int .i64 q.inPort,.string q.peer,.int .i64 q.peerPort,.int .i64 q.state,.int .i64 q.untl]) (.agg #[.int .i64 q.proto,.string q.inn,.int .i64 q.inPort,.string q.peer,.int .i64 q.peerPort,.int .i64 q.state,.int .i64 q.untl])).run Tryz.prog W=.ok (.bool false) W):=fun W=>by rw [neSsW_bin q q W,sameSs_self]; rfl
     clear hq hA hB;have hk2:¬ (x.sess.length:Int)≤(k:Int):=by omega
     go_upto_region 11 with fail
     go_cut [58] (fun v wx=>v=.bool false∧Below wr.heap.size wr wx)
     case first =>
      rename_i J K2 hJ hK2;refine wp_region_growH [48,49,50,51,52,53,54,55,56,57,58] (by kernel_rfl) (by kernel_rfl) ?_;apply GCh.v0
      ·rfl
      ·intro K' a wy ho hd hb hK kz;have o2:=ho 2 (by decide);simp [slot] at o2;clear hd ho;go_simp;try go_bits
       exact kz _ rfl
      apply GCh.v1
      ·rfl
      ·intro K' a wy ho hd hb hK kz;have q0:=hd ⟨0,.data⟩ (by simp) rfl;simp [rAt,IsV,slot] at q0;clear hd ho;have hb:=(Below.refl _ wr).drew.trans hb;have hld:=HCL.out wy (HL.out.trans (hb.mono HL.out.size));obtain ⟨k0,k1,k2,k3⟩:=hld;have hca:=CA.out wy hb;have hcb:=CB.out wy hb;obtain ⟨m0,m1,m2,m3,m4,m5,m6⟩:=hca;obtain ⟨n0,n1,n2,n3,n4,n5,n6⟩:=hcb;go_simp;try go_bits
       exact kz _ rfl
      apply GCh.v2
      ·rfl
      ·intro K' a wy ho hd hb hK kz;have o6:=ho 6 (by decide);simp [slot] at o6;clear hd ho;go_simp;try go_bits
       exact kz _ rfl
      apply GCh.v3
      ·rfl
      ·intro K' a wy ho hd hb hK kz;have q1:=hd ⟨1,.data⟩ (by simp) rfl;simp [rAt,IsV,slot] at q1;have q2:=hd ⟨2,.data⟩ (by simp) rfl;simp [rAt,IsV,slot] at q2;clear hd ho;go_simp;try go_bits
       exact kz _ rfl
      apply GCh.v4
      ·rfl
      ·intro K' a wy ho hd hb hK kz;have q3:=hd ⟨3,.data⟩ (by simp) rfl;simp [rAt,IsV,slot] at q3;clear hd ho;have hb:=(Below.refl _ wr).drew.trans hb;have hld:=HCL.out wy (HL.out.trans (hb.mono HL.out.size));obtain ⟨k0,k1,k2,k3⟩:=hld;have hca:=CA.out wy hb;have hcb:=CB.out wy hb;obtain ⟨m0,m1,m2,m3,m4,m5,m6⟩:=hca;obtain ⟨n0,n1,n2,n3,n4,n5,n6⟩:=hcb;go_simp;try go_bits
       exact kz _ rfl
      apply GCh.v5
      ·rfl
      ·intro K' a wy ho hd hb hK kz;have o3:=ho 3 (by decide);simp [slot] at o3;clear hd ho;go_simp;try go_bits
       exact kz _ rfl
      apply GCh.v6
      ·rfl
      ·intro K' a wy ho hd hb hK kz;have q5:=hd ⟨5,.data⟩ (by simp) rfl;simp [rAt,IsV,slot] at q5;clear hd ho;have hb:=(Below.refl _ wr).drew.trans hb;have hld:=HCL.out wy (HL.out.trans (hb.mono HL.out.size));obtain ⟨k0,k1,k2,k3⟩:=hld;have hca:=CA.out wy hb;have hcb:=CB.out wy hb;obtain ⟨m0,m1,m2,m3,m4,m5,m6⟩:=hca;obtain ⟨n0,n1,n2,n3,n4,n5,n6⟩:=hcb;go_simp;try go_bits
       exact kz _ rfl
      apply GCh.v7
      ·rfl
      ·intro K' a wy ho hd hb hK kz;have o6:=ho 6 (by decide);simp [slot] at o6;clear hd ho;go_simp;try go_bits
       exact kz _ rfl
      apply GCh.v8
      ·rfl
      ·intro K' a wy ho hd hb hK kz;have q6:=hd ⟨6,.data⟩ (by simp) rfl;simp [rAt,IsV,slot] at q6;have q7:=hd ⟨7,.data⟩ (by simp) rfl;simp [rAt,IsV,slot] at q7;clear hd ho;go_simp;try go_bits
       exact kz _ rfl
      apply GCh.v9
      ·rfl
      ·intro K' a wy ho hd hb hK kz;have q8:=hd ⟨8,.data⟩ (by simp) rfl;simp [rAt,IsV,slot] at q8;clear hd ho;have hb:=(Below.refl _ wr).drew.trans hb;have hld:=HCL.out wy (HL.out.trans (hb.mono HL.out.size));obtain ⟨k0,k1,k2,k3⟩:=hld;have hca:=CA.out wy hb;have hcb:=CB.out wy hb;obtain ⟨m0,m1,m2,m3,m4,m5,m6⟩:=hca;obtain ⟨n0,n1,n2,n3,n4,n5,n6⟩:=hcb;go_simp;try go_bits
       exact kz _ rfl
      apply GCh.v10
      ·rfl
      ·intro K' a wy ho hd hb hK kz;have q4:=hd ⟨4,.data⟩ (by simp) rfl;simp [rAt,IsV,slot] at q4;have q9:=hd ⟨9,.data⟩ (by simp) rfl;simp [rAt,IsV,slot] at q9;clear hd ho;have hne:=HNE.out wy;go_simp;try go_bits
       exact kz _ rfl
      intro X wz hR hz;obtain ⟨x0,x1,x2,x3,x4,x5,x6,x7,x8,x9,x10,-⟩:=hR;simp only [IsV] at x0 x1 x2 x3 x4 x5 x6 x7 x8 x9 x10;simp only [putsFrom,x0,x1,x2,x3,x4,x5,x6,x7,x8,x9,x10];clear x0 x1 x2 x3 x4 x5 x6 x7 x8 x9 x10;go_simp;refine hK2 _ _ (hJ _ _ ?_);(repeat apply Exists.intro)
      refine ⟨⟨rfl,(Below.refl _ wr).drew.trans hz⟩,rfl⟩
     case rest =>
     obtain ⟨rfl,hbd⟩:=hcut;have HL2:Hid (Below W2.heap.size W2 wc):=HL.out.trans (hbd.mono HL.out.size);clear hbd;go_wp2_with fail
     go_roundw
     case rel=>exact ⟨k+1,by omega,by go_num,HL2.out⟩
     case measure=>simp [intOf]; omega
    ·have hk2:(x.sess.length:Int)≤(k:Int):=by omega
     go_wp2_with fail
     go_ret;exact ⟨rfl,HB.out.trans (HL.out.mono HB.out.size)⟩
end Go.Proofs.YtjpdljkjalnmhaaGreatDoor
namespace Go.Proofs.YtjpdljkjalnmhaaGreatDoor
open Go.RowKit
def bindP (p:Pl) (b:Bd):Bool:=protoB b.proto&&addrOk b.inn&&isW b.inPort&&inL p.addrs b.out&&isIn b.outPort p.low p.high
theorem bind_iff {p:Pl} {xs:List Bd}:(∀ i (h:i < xs.length),bindOne p (xs.take i) xs[i]=true)↔(∀ c∈xs,bindP p c=true)∧xs.Pairwise (fun c b=>clashB c b=false):=by
 have e:∀ ys b,bindOne p ys b=(bindP p b&&!ys.any fun c=>clashB c b):=fun ys b=>rfl
 rw [List.pairwise_iff_getElem];constructor
 ·intro h;refine ⟨fun c hc=>?_,fun i j hi hj hij=>?_⟩
  ·obtain ⟨i,hi,rfl⟩:=List.getElem_of_mem hc;have:=h i hi;rw [e] at this;simp only [Bool.and_eq_true] at this;exact this.1
  ·have:=h j hj;rw [e] at this;simp only [Bool.and_eq_true,Bool.not_eq_true'] at this;have:=List.any_eq_false.1 this.2 xs[i] (take_mem hi hij);simpa using this
 ·rintro ⟨h1,h2⟩ i hi;rw [e];simp only [Bool.and_eq_true,Bool.not_eq_true'];refine ⟨h1 _ (List.getElem_mem hi),?_⟩;rw [List.any_eq_false];intro c hc;obtain ⟨k,hk,hki,rfl⟩:=mem_take hc;rw [h2 k i hk hi hki]; decide
open Go.PlainAid
theorem newV_err {p:Pl} {x:Bb} {t:Tc} {c:Bd} {now:Int} (h:(newV p x t c now).code≠0):∃ n,newV p x t c now=boE n:=by
 unfold newV at h ⊢;split at h
 ·rename_i h1; exact ⟨6,if_pos h1⟩
 ·rename_i h1;rw [if_neg h1];split at h
  ·rename_i h2; exact ⟨9,if_pos h2⟩
  ·rename_i h2;rw [if_neg h2];by_cases h3:(if t.inside=true then (lendV p x.binds t.proto t.addr t.port).2 else 0)≠0
   ·exact ⟨_,if_pos h3⟩
   ·rw [if_neg h3] at h; exact absurd rfl h
theorem goV_err {p:Pl} {x:Bb} {t:Tc} {now:Int} (h:(goV p x t now).code≠0):∃ n,goV p x t now=boE n:=by
 unfold goV at h ⊢
 cases hf:x.binds.find? (if t.inside=true then ofIn t.proto t.addr t.port else ofOut t.proto t.addr t.port) with
 | none =>
  rw [hf] at h;dsimp only at h ⊢
  cases hi:t.inside with
  | true=>rw [hi] at h; simp only [if_true] at h ⊢; exact newV_err h
  | false=>exact ⟨6,by simp⟩
 | some c =>
  rw [hf] at h;dsimp only at h ⊢
  cases hs:x.sess.findIdx? (withP c t.peer t.peerPort) with
  | none =>
   rw [hs] at h;dsimp only at h ⊢
   cases hg:goneB p x t c with
   | true=>exact ⟨6,by simp⟩
   | false=>rw [hg] at h; simp only [Bool.false_eq_true,if_false] at h ⊢; exact newV_err h
  | some i=>rw [hs] at h; exact absurd rfl h
theorem touch_err {p:Pl} {x:Bb} {t:Tc} {now:Int} (h:(bibTouchV p x t now).code≠0):(bibTouchV p x t now).bib=bbZ∧(bibTouchV p x t now).bind=bdZ:=by
 unfold bibTouchV at h ⊢;by_cases hc:(bibOk p x&&isTime now&&touchOk t)=true
 ·rw [if_pos hc] at h ⊢;obtain ⟨n,hn⟩:=goV_err h;rw [hn]; exact ⟨rfl,rfl⟩
 ·rw [if_neg hc]; exact ⟨rfl,rfl⟩
theorem out_find {p:Pl} {x:Bb} (h:BibR p x) {c:Bd} (hc:c∈x.binds):x.binds.find? (ofOut c.proto c.out c.outPort)=some c:=by
 have hp:=(bind_iff.1 h.bind).2;rw [List.find?_eq_some_iff_append];refine ⟨by unfold ofOut; simp,?_⟩;obtain ⟨us,vs,e⟩:=List.append_of_mem hc;refine ⟨us,vs,e,fun a ha=>?_⟩;rw [e,List.pairwise_append] at hp;have hcl:=hp.2.2 a ha c (List.mem_cons_self);unfold clashB at hcl;unfold ofOut
 cases h1:decide (a.proto=c.proto) with
 | false=>rfl
 | true =>
  rw [h1] at hcl;simp only [Bool.true_and,Bool.or_eq_false_iff] at hcl;simp only [Bool.true_and,hcl.2.2,Bool.not_false]
theorem in_size {p:Pl} (h:poolOk p=true) {s:ByteArray} (hs:inL p.addrs s=true):s.size≤20000:=by
 unfold poolOk at h;simp only [Bool.and_eq_true] at h;have hu:=upN_iff.1 h.2;unfold inL at hs;obtain ⟨u,hu1,hu2⟩:=List.any_eq_true.1 hs;obtain ⟨i,hi,rfl⟩:=List.getElem_of_mem hu1;have h1:=hu i hi;unfold addrOne at h1;simp only [Bool.and_eq_true,decide_eq_true_iff] at h1 hu2;have:p.addrs[i].size=s.size:=by
  have:=congrArg List.length hu2;simpa [ByteArray.toList_eq] using this
 omega
theorem touch_ok {p:Pl} {x:Bb} {t:Tc} {now:Int} (h:(bibTouchV p x t now).code=0) :
  bibOk p (bibTouchV p x t now).bib=true∧x.binds.length≤(bibTouchV p x t now).bib.binds.length∧(bibTouchV p x t now).bib.binds.length≤x.binds.length+1∧(bibTouchV p x t now).bib.sess.length≤x.sess.length+1∧(∀ i (hi:i < x.binds.length),(bibTouchV p x t now).bib.binds[i]?=some x.binds[i])∧(t.inside=true→bindV (ofIn t.proto t.addr t.port) (bibTouchV p x t now).bib.binds t.addr=(bibTouchV p x t now).bind∧bindV (ofOut t.proto (bibTouchV p x t now).bind.out (bibTouchV p x t now).bind.outPort) (bibTouchV p x t now).bib.binds (bibTouchV p x t now).bind.out=(bibTouchV p x t now).bind)∧(t.inside=false→bindV (ofOut t.proto t.addr t.port) x.binds t.addr=(bibTouchV p x t now).bind∧(bibTouchV p x t now).bib.binds.length=x.binds.length):=by
 have hc:(bibOk p x&&isTime now&&touchOk t)=true:=by
  by_cases hc:(bibOk p x&&isTime now&&touchOk t)=true
  ·exact hc
  ·unfold bibTouchV at h; rw [if_neg hc] at h; simp [boE] at h
 have e:bibTouchV p x t now=goV p x t now:=by unfold bibTouchV; rw [if_pos hc]
 rw [e] at h ⊢;simp only [Bool.and_eq_true] at hc;obtain ⟨⟨c1,c2⟩,c3⟩:=hc;have hR:=bibR_iff.1 c1;obtain ⟨g1,⟨k,g2⟩,g3,g4,g5⟩:=go_right hR c2 c3 h;have hl:=goV_len p x t now;have hts:t.addr.size≤20000:=by
  unfold touchOk at c3;simp only [Bool.and_eq_true] at c3;rcases addrOk_size c3.1.1.1.1.1.2 with hh | hh<;>omega
 have hbo:inL p.addrs (goV p x t now).bind.out=true:=by
  have:=(bind_iff.1 g1.bind).1 _ g3;unfold bindP at this;simp only [Bool.and_eq_true] at this;exact this.1.2
 refine ⟨bibR_iff.2 g1,?_,hl.1,hl.2,fun i hi=>?_,fun hin=>?_,fun hin=>?_⟩
 ·rcases g2 with g2 | ⟨_,g2⟩<;>rw [g2]<;>simp
 ·rcases g2 with g2 | ⟨_,g2⟩
  ·rw [g2,List.getElem?_eq_getElem hi]
  ·rw [g2,List.getElem?_append_left hi,List.getElem?_eq_getElem hi]
 ·have hb:=g4 hin;have hbk:bookOk p (goV p x t now).bib=true:=by rw [book_bib]; exact bibR_iff.2 g1
  have f1:=book_find hbk g3 hb;have f2:=out_find g1 g3;have hpr:(goV p x t now).bind.proto=t.proto:=congrArg En.proto hb;rw [hpr] at f2;unfold bindV;refine ⟨?_,?_⟩
  ·rw [if_neg (by omega),f1]; rfl
  ·rw [if_neg (by have:=in_size g1.pool hbo; omega),f2]; rfl
 ·obtain ⟨g6,g7⟩:=g5 hin;unfold bindV;exact ⟨by rw [if_neg (by omega),g6]; rfl,by rw [g7]⟩
end Go.Proofs.YtjpdljkjalnmhaaGreatDoor
