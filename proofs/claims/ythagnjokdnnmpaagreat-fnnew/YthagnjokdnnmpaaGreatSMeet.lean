import Derived.Test.YthagnjokdnnmpaaGreatMerged17
import Derived.Test.YthagnjokdnnmpaaGreatMerged8
import Derived.Deep.DeepCutAuto
set_option linter.unusedVariables false
set_option linter.unusedSimpArgs false
set_option maxRecDepth 100000
set_option maxHeartbeats 8000000
namespace Go.Proofs.YthagnjokdnnmpaaGreat
open Go.RowKit Go.PlainAid
theorem spMeet_any (p q:Pc) (w:World) (h1:0≤p.off∧p.off≤8191) (h2:0≤q.off∧q.off≤8191) (h3:p.data.size≤1048576) (h4:q.data.size≤1048576) :
  Calls Tryz.prog 146 #[pcC p,pcC q] w fun e w'=>e=.returned (.bool (meetPc p q))∧Below w.heap.size w w':=by
 have HEa:Hid (∀ W,Calls Tryz.prog 166 #[pcC p] W fun e w'=>e=.returned (.int .i64 (endPc p))∧Below W.heap.size W w'):=fun W=>spEnd_any p W h1 h3
 have HEb:Hid (∀ W,Calls Tryz.prog 166 #[pcC q] W fun e w'=>e=.returned (.int .i64 (endPc q))∧Below W.heap.size W w'):=fun W=>spEnd_any q W h2 h4
 have HV:Hid (meetPc p q=((decide (8*p.off < endPc q)&&decide (8*q.off < endPc p))||(!p.more&&(!q.more||decide (endPc p≤8*q.off)))||(!q.more&&decide (endPc q≤8*p.off)))):=rfl;generalize meetPc p q=ans at *;generalize endPc p=ea at *;generalize endPc q=eb at *;have KA:Hid (BoxPiece ((w.alloc (.cells (pcL p).toArray 128)).alloc (.cells (pcL q).toArray 128)) w.heap.size p):=(BoxPiece.new w p (t:=128)).kept ((Below.refl _ _).alloc (Nat.le_refl _) _);have KB:Hid (BoxPiece ((w.alloc (.cells (pcL p).toArray 128)).alloc (.cells (pcL q).toArray 128)) (w.heap.size+1) q):=by
  have h:=BoxPiece.new (w.alloc (.cells (pcL p).toArray 128)) q (t:=128);rw [World.size_alloc] at h;exact h
 have GB:Hid (Below w.heap.size w ((w.alloc (.cells (pcL p).toArray 128)).alloc (.cells (pcL q).toArray 128))):=two_pieces w;obtain ⟨src,dst,proto,id,off,more,data,since⟩:=p;obtain ⟨src',dst',proto',id',off',more',data',since'⟩:=q;unfold pcC at *;unfold pcL at KA KB GB;dsimp only at *;go_enter Tryz.func146,Tryz.ntmps146
 go_upto_region 1 with fail
 generalize (w.alloc (.cells #[.string src,.string dst,.int .i64 proto,.int .i64 id,.int .i64 off,.bool more,.string data,.int .i64 since] 128)).alloc (.cells #[.string src',.string dst',.int .i64 proto',.int .i64 id',.int .i64 off',.bool more',.string data',.int .i64 since'] 128)=W at *;go_cut [18] (fun v wx=>v=.bool (decide (8*off < eb)&&decide (8*off' < ea))∧Below W.heap.size W wx)
 case first =>
  rename_i J K2 hJ hK2;clear HV;have hgr:Below W.heap.size W W:=Below.refl _ _;have GB:Hid (Below W.heap.size W W):=hgr;clear hgr;by_cases c1:8*off < eb
  ·have d1:decide (8*off < eb)=true:=decide_eq_true c1;rw [d1] at hJ;clear c1;by_cases c2:8*off' < ea
   ·have d2:decide (8*off' < ea)=true:=decide_eq_true c2;rw [d2] at hJ;clear c2;refine wp_region_growH [5,6,7,8,9,10,11,12,13,14,15,16,17,18] (by kernel_rfl) (by kernel_rfl) ?_;refine GCh.val (n:=0) (fun v=>[IsV v]) (fun _=>rfl) rfl ?_;apply Exists.intro;refine And.intro ?_ ?_
    ·intro K' a wy ho hd hb hK;rw [if_pos (wanted_none rfl)];have o2:=ho 2 (by decide);simp [slot] at o2;clear hd ho;go_simp;try go_bits
     exact hK _ _ rfl (Below.refl _ _)
    refine GCh.val (n:=1) (fun v=>[_,IsV v]) (fun _=>rfl) rfl ?_;apply Exists.intro;refine And.intro ?_ ?_
    ·intro K' a wy ho hd hb hK;rw [if_pos (wanted_none rfl)];have q0:=hd ⟨0,.data⟩ (by simp) rfl;simp [rAt,IsV,slot] at q0;clear hd ho;obtain ⟨k0,k1,k2,k3,k4,k5,k6,k7⟩:=(KA.out).kept ((Below.refl _ _).drew.trans hb); obtain ⟨j0,j1,j2,j3,j4,j5,j6,j7⟩:=(KB.out).kept ((Below.refl _ _).drew.trans hb); dsimp only at k0 k1 k2 k3 k4 k5 k6 k7 j0 j1 j2 j3 j4 j5 j6 j7;go_simp;try go_bits
     exact hK _ _ rfl (Below.refl _ _)
    refine GCh.val (n:=2) (fun v=>[_,_,IsV v]) (fun _=>rfl) rfl ?_;apply Exists.intro;refine And.intro ?_ ?_
    ·intro K' a wy ho hd hb hK;rw [if_pos (wanted_none rfl)];have q1:=hd ⟨1,.data⟩ (by simp) rfl;simp [rAt,IsV,slot] at q1;clear hd ho;go_simp;try go_bits
     exact hK _ _ rfl (Below.refl _ _)
    refine GCh.val (n:=3) (fun v=>[_,_,_,IsV v]) (fun _=>rfl) rfl ?_;apply Exists.intro;refine And.intro ?_ ?_
    ·intro K' a wy ho hd hb hK;rw [if_pos (wanted_none rfl)];have o3:=ho 3 (by decide);simp [slot] at o3;clear hd ho;obtain ⟨k0,k1,k2,k3,k4,k5,k6,k7⟩:=(KA.out).kept ((Below.refl _ _).drew.trans hb); obtain ⟨j0,j1,j2,j3,j4,j5,j6,j7⟩:=(KB.out).kept ((Below.refl _ _).drew.trans hb); dsimp only at k0 k1 k2 k3 k4 k5 k6 k7 j0 j1 j2 j3 j4 j5 j6 j7;go_simp;try go_bits
     exact hK _ _ rfl (Below.refl _ _)
    refine GCh.val (n:=4) (fun v=>[_,_,_,_,IsV v]) (fun _=>rfl) rfl ?_;apply Exists.intro;refine And.intro ?_ ?_
    ·intro K' a wy ho hd hb hK;rw [if_pos (wanted_none rfl)];have q3:=hd ⟨3,.data⟩ (by simp) rfl;simp [rAt,IsV,slot] at q3;clear hd ho;go_simp;refine (HEb.out wy).mono ?_;rintro e wz ⟨rfl,hz⟩;exact hK _ _ rfl hz
    refine GCh.val (n:=5) (fun v=>[_,_,_,_,_,IsV v]) (fun _=>rfl) rfl ?_;apply Exists.intro;refine And.intro ?_ ?_
    ·intro K' a wy ho hd hb hK;rw [if_pos (wanted_none rfl)];have q2:=hd ⟨2,.data⟩ (by simp) rfl;simp [rAt,IsV,slot] at q2;have q4:=hd ⟨4,.data⟩ (by simp) rfl;simp [rAt,IsV,slot] at q4;clear hd ho;go_simp;try go_bits
     exact hK _ _ rfl (Below.refl _ _)
    refine GCh.val (n:=6) (fun v=>[_,_,_,_,_,_,IsV v]) (fun _=>rfl) rfl ?_;apply Exists.intro;refine And.intro ?_ ?_
    ·intro K' a wy ho hd hb hK;rw [if_pos (wanted_none rfl)];have q5:=hd ⟨5,.data⟩ (by simp) rfl;simp [rAt,IsV,slot] at q5;clear hd ho;go_simp;try go_bits
     exact hK _ _ rfl (Below.refl _ _)
    refine GCh.val (n:=7) (fun v=>[_,_,_,_,_,_,_,IsV v]) (fun _=>rfl) rfl ?_;apply Exists.intro;refine And.intro ?_ ?_
    ·intro K' a wy ho hd hb hK;have hgs:IsV (.bool true) (slot a 11) wy:=hd ⟨6,.guard⟩ (by simp) rfl;rw [wanted_of (j:=6) (d:=11) (b:=true) (want:=true) (hg:=rfl) (ho:=rfl) (hd:=rfl) (hs:=hgs)];rw [if_pos (by decide)];clear hgs;have o3:=ho 3 (by decide);simp [slot] at o3;clear hd ho;go_simp;try go_bits
     exact hK _ _ rfl (Below.refl _ _)
    refine GCh.val (n:=8) (fun v=>[_,_,_,_,_,_,_,_,IsV v]) (fun _=>rfl) rfl ?_;apply Exists.intro;refine And.intro ?_ ?_
    ·intro K' a wy ho hd hb hK;have hgs:IsV (.bool true) (slot a 11) wy:=hd ⟨6,.guard⟩ (by simp) rfl;rw [wanted_of (j:=6) (d:=11) (b:=true) (want:=true) (hg:=rfl) (ho:=rfl) (hd:=rfl) (hs:=hgs)];rw [if_pos (by decide)];clear hgs;have q7:=hd ⟨7,.data⟩ (by simp) rfl;simp [rAt,IsV,slot] at q7;clear hd ho;obtain ⟨k0,k1,k2,k3,k4,k5,k6,k7⟩:=(KA.out).kept ((Below.refl _ _).drew.trans hb); obtain ⟨j0,j1,j2,j3,j4,j5,j6,j7⟩:=(KB.out).kept ((Below.refl _ _).drew.trans hb); dsimp only at k0 k1 k2 k3 k4 k5 k6 k7 j0 j1 j2 j3 j4 j5 j6 j7;go_simp;try go_bits
     exact hK _ _ rfl (Below.refl _ _)
    refine GCh.val (n:=9) (fun v=>[_,_,_,_,_,_,_,_,_,IsV v]) (fun _=>rfl) rfl ?_;apply Exists.intro;refine And.intro ?_ ?_
    ·intro K' a wy ho hd hb hK;have hgs:IsV (.bool true) (slot a 11) wy:=hd ⟨6,.guard⟩ (by simp) rfl;rw [wanted_of (j:=6) (d:=11) (b:=true) (want:=true) (hg:=rfl) (ho:=rfl) (hd:=rfl) (hs:=hgs)];rw [if_pos (by decide)];clear hgs;have q8:=hd ⟨8,.data⟩ (by simp) rfl;simp [rAt,IsV,slot] at q8;clear hd ho;go_simp;try go_bits
     exact hK _ _ rfl (Below.refl _ _)
    refine GCh.val (n:=10) (fun v=>[_,_,_,_,_,_,_,_,_,_,IsV v]) (fun _=>rfl) rfl ?_;apply Exists.intro;refine And.intro ?_ ?_
    ·intro K' a wy ho hd hb hK;have hgs:IsV (.bool true) (slot a 11) wy:=hd ⟨6,.guard⟩ (by simp) rfl;rw [wanted_of (j:=6) (d:=11) (b:=true) (want:=true) (hg:=rfl) (ho:=rfl) (hd:=rfl) (hs:=hgs)];rw [if_pos (by decide)];clear hgs;have o2:=ho 2 (by decide);simp [slot] at o2;clear hd ho;obtain ⟨k0,k1,k2,k3,k4,k5,k6,k7⟩:=(KA.out).kept ((Below.refl _ _).drew.trans hb); obtain ⟨j0,j1,j2,j3,j4,j5,j6,j7⟩:=(KB.out).kept ((Below.refl _ _).drew.trans hb); dsimp only at k0 k1 k2 k3 k4 k5 k6 k7 j0 j1 j2 j3 j4 j5 j6 j7;go_simp;try go_bits
     exact hK _ _ rfl (Below.refl _ _)
    refine GCh.val (n:=11) (fun v=>[_,_,_,_,_,_,_,_,_,_,_,IsV v]) (fun _=>rfl) rfl ?_;apply Exists.intro;refine And.intro ?_ ?_
    ·intro K' a wy ho hd hb hK;have hgs:IsV (.bool true) (slot a 11) wy:=hd ⟨6,.guard⟩ (by simp) rfl;rw [wanted_of (j:=6) (d:=11) (b:=true) (want:=true) (hg:=rfl) (ho:=rfl) (hd:=rfl) (hs:=hgs)];rw [if_pos (by decide)];clear hgs;have q10:=hd ⟨10,.data⟩ (by simp) rfl;simp [rAt,IsV,slot] at q10;clear hd ho;go_simp;refine (HEa.out wy).mono ?_;rintro e wz ⟨rfl,hz⟩;exact hK _ _ rfl hz
    refine GCh.val (n:=12) (fun v=>[_,_,_,_,_,_,_,_,_,_,_,_,IsV v]) (fun _=>rfl) rfl ?_;apply Exists.intro;refine And.intro ?_ ?_
    ·intro K' a wy ho hd hb hK;have hgs:IsV (.bool true) (slot a 11) wy:=hd ⟨6,.guard⟩ (by simp) rfl;rw [wanted_of (j:=6) (d:=11) (b:=true) (want:=true) (hg:=rfl) (ho:=rfl) (hd:=rfl) (hs:=hgs)];rw [if_pos (by decide)];clear hgs;have q9:=hd ⟨9,.data⟩ (by simp) rfl;simp [rAt,IsV,slot] at q9;have q11:=hd ⟨11,.data⟩ (by simp) rfl;simp [rAt,IsV,slot] at q11;clear hd ho;go_simp;try go_bits
     exact hK _ _ rfl (Below.refl _ _)
    refine GCh.val (n:=13) (fun v=>[_,_,_,_,_,_,_,_,_,_,_,_,_,IsV v]) (fun _=>rfl) rfl ?_;apply Exists.intro;refine And.intro ?_ ?_
    ·intro K' a wy ho hd hb hK;rw [if_pos (wanted_none rfl)];have q6:=hd ⟨6,.data⟩ (by simp) rfl;simp [rAt,IsV,slot] at q6;have q12:=hd ⟨12,.data⟩ (by simp) rfl;simp [rAt,IsV,slot] at q12;clear hd ho;go_simp;try go_bits
     exact hK _ _ rfl (Below.refl _ _)
    intro X wz hR hz;obtain ⟨x0,x1,x2,x3,x4,x5,x6,x7,x8,x9,x10,x11,x12,x13,-⟩:=hR;simp only [IsV] at x0 x1 x2 x3 x4 x5 x6 x7 x8 x9 x10 x11 x12 x13;simp only [putsFrom,x0,x1,x2,x3,x4,x5,x6,x7,x8,x9,x10,x11,x12,x13];clear x0 x1 x2 x3 x4 x5 x6 x7 x8 x9 x10 x11 x12 x13;go_simp;refine hK2 _ _ (hJ _ _ ?_);(repeat apply Exists.intro)
    refine ⟨⟨rfl,GB.out.drew.trans (hz.mono GB.out.size)⟩,rfl⟩
   ·have d2:decide (8*off' < ea)=false:=decide_eq_false c2;rw [d2] at hJ;clear c2;refine wp_region_growH [5,6,7,8,9,10,11,12,13,14,15,16,17,18] (by kernel_rfl) (by kernel_rfl) ?_;refine GCh.val (n:=0) (fun v=>[IsV v]) (fun _=>rfl) rfl ?_;apply Exists.intro;refine And.intro ?_ ?_
    ·intro K' a wy ho hd hb hK;rw [if_pos (wanted_none rfl)];have o2:=ho 2 (by decide);simp [slot] at o2;clear hd ho;go_simp;try go_bits
     exact hK _ _ rfl (Below.refl _ _)
    refine GCh.val (n:=1) (fun v=>[_,IsV v]) (fun _=>rfl) rfl ?_;apply Exists.intro;refine And.intro ?_ ?_
    ·intro K' a wy ho hd hb hK;rw [if_pos (wanted_none rfl)];have q0:=hd ⟨0,.data⟩ (by simp) rfl;simp [rAt,IsV,slot] at q0;clear hd ho;obtain ⟨k0,k1,k2,k3,k4,k5,k6,k7⟩:=(KA.out).kept ((Below.refl _ _).drew.trans hb); obtain ⟨j0,j1,j2,j3,j4,j5,j6,j7⟩:=(KB.out).kept ((Below.refl _ _).drew.trans hb); dsimp only at k0 k1 k2 k3 k4 k5 k6 k7 j0 j1 j2 j3 j4 j5 j6 j7;go_simp;try go_bits
     exact hK _ _ rfl (Below.refl _ _)
    refine GCh.val (n:=2) (fun v=>[_,_,IsV v]) (fun _=>rfl) rfl ?_;apply Exists.intro;refine And.intro ?_ ?_
    ·intro K' a wy ho hd hb hK;rw [if_pos (wanted_none rfl)];have q1:=hd ⟨1,.data⟩ (by simp) rfl;simp [rAt,IsV,slot] at q1;clear hd ho;go_simp;try go_bits
     exact hK _ _ rfl (Below.refl _ _)
    refine GCh.val (n:=3) (fun v=>[_,_,_,IsV v]) (fun _=>rfl) rfl ?_;apply Exists.intro;refine And.intro ?_ ?_
    ·intro K' a wy ho hd hb hK;rw [if_pos (wanted_none rfl)];have o3:=ho 3 (by decide);simp [slot] at o3;clear hd ho;obtain ⟨k0,k1,k2,k3,k4,k5,k6,k7⟩:=(KA.out).kept ((Below.refl _ _).drew.trans hb); obtain ⟨j0,j1,j2,j3,j4,j5,j6,j7⟩:=(KB.out).kept ((Below.refl _ _).drew.trans hb); dsimp only at k0 k1 k2 k3 k4 k5 k6 k7 j0 j1 j2 j3 j4 j5 j6 j7;go_simp;try go_bits
     exact hK _ _ rfl (Below.refl _ _)
    refine GCh.val (n:=4) (fun v=>[_,_,_,_,IsV v]) (fun _=>rfl) rfl ?_;apply Exists.intro;refine And.intro ?_ ?_
    ·intro K' a wy ho hd hb hK;rw [if_pos (wanted_none rfl)];have q3:=hd ⟨3,.data⟩ (by simp) rfl;simp [rAt,IsV,slot] at q3;clear hd ho;go_simp;refine (HEb.out wy).mono ?_;rintro e wz ⟨rfl,hz⟩;exact hK _ _ rfl hz
    refine GCh.val (n:=5) (fun v=>[_,_,_,_,_,IsV v]) (fun _=>rfl) rfl ?_;apply Exists.intro;refine And.intro ?_ ?_
    ·intro K' a wy ho hd hb hK;rw [if_pos (wanted_none rfl)];have q2:=hd ⟨2,.data⟩ (by simp) rfl;simp [rAt,IsV,slot] at q2;have q4:=hd ⟨4,.data⟩ (by simp) rfl;simp [rAt,IsV,slot] at q4;clear hd ho;go_simp;try go_bits
     exact hK _ _ rfl (Below.refl _ _)
    refine GCh.val (n:=6) (fun v=>[_,_,_,_,_,_,IsV v]) (fun _=>rfl) rfl ?_;apply Exists.intro;refine And.intro ?_ ?_
    ·intro K' a wy ho hd hb hK;rw [if_pos (wanted_none rfl)];have q5:=hd ⟨5,.data⟩ (by simp) rfl;simp [rAt,IsV,slot] at q5;clear hd ho;go_simp;try go_bits
     exact hK _ _ rfl (Below.refl _ _)
    refine GCh.val (n:=7) (fun v=>[_,_,_,_,_,_,_,IsV v]) (fun _=>rfl) rfl ?_;apply Exists.intro;refine And.intro ?_ ?_
    ·intro K' a wy ho hd hb hK;have hgs:IsV (.bool true) (slot a 11) wy:=hd ⟨6,.guard⟩ (by simp) rfl;rw [wanted_of (j:=6) (d:=11) (b:=true) (want:=true) (hg:=rfl) (ho:=rfl) (hd:=rfl) (hs:=hgs)];rw [if_pos (by decide)];clear hgs;have o3:=ho 3 (by decide);simp [slot] at o3;clear hd ho;go_simp;try go_bits
     exact hK _ _ rfl (Below.refl _ _)
    refine GCh.val (n:=8) (fun v=>[_,_,_,_,_,_,_,_,IsV v]) (fun _=>rfl) rfl ?_;apply Exists.intro;refine And.intro ?_ ?_
    ·intro K' a wy ho hd hb hK;have hgs:IsV (.bool true) (slot a 11) wy:=hd ⟨6,.guard⟩ (by simp) rfl;rw [wanted_of (j:=6) (d:=11) (b:=true) (want:=true) (hg:=rfl) (ho:=rfl) (hd:=rfl) (hs:=hgs)];rw [if_pos (by decide)];clear hgs;have q7:=hd ⟨7,.data⟩ (by simp) rfl;simp [rAt,IsV,slot] at q7;clear hd ho;obtain ⟨k0,k1,k2,k3,k4,k5,k6,k7⟩:=(KA.out).kept ((Below.refl _ _).drew.trans hb); obtain ⟨j0,j1,j2,j3,j4,j5,j6,j7⟩:=(KB.out).kept ((Below.refl _ _).drew.trans hb); dsimp only at k0 k1 k2 k3 k4 k5 k6 k7 j0 j1 j2 j3 j4 j5 j6 j7;go_simp;try go_bits
     exact hK _ _ rfl (Below.refl _ _)
    refine GCh.val (n:=9) (fun v=>[_,_,_,_,_,_,_,_,_,IsV v]) (fun _=>rfl) rfl ?_;apply Exists.intro;refine And.intro ?_ ?_
    ·intro K' a wy ho hd hb hK;have hgs:IsV (.bool true) (slot a 11) wy:=hd ⟨6,.guard⟩ (by simp) rfl;rw [wanted_of (j:=6) (d:=11) (b:=true) (want:=true) (hg:=rfl) (ho:=rfl) (hd:=rfl) (hs:=hgs)];rw [if_pos (by decide)];clear hgs;have q8:=hd ⟨8,.data⟩ (by simp) rfl;simp [rAt,IsV,slot] at q8;clear hd ho;go_simp;try go_bits
     exact hK _ _ rfl (Below.refl _ _)
    refine GCh.val (n:=10) (fun v=>[_,_,_,_,_,_,_,_,_,_,IsV v]) (fun _=>rfl) rfl ?_;apply Exists.intro;refine And.intro ?_ ?_
    ·intro K' a wy ho hd hb hK;have hgs:IsV (.bool true) (slot a 11) wy:=hd ⟨6,.guard⟩ (by simp) rfl;rw [wanted_of (j:=6) (d:=11) (b:=true) (want:=true) (hg:=rfl) (ho:=rfl) (hd:=rfl) (hs:=hgs)];rw [if_pos (by decide)];clear hgs;have o2:=ho 2 (by decide);simp [slot] at o2;clear hd ho;obtain ⟨k0,k1,k2,k3,k4,k5,k6,k7⟩:=(KA.out).kept ((Below.refl _ _).drew.trans hb); obtain ⟨j0,j1,j2,j3,j4,j5,j6,j7⟩:=(KB.out).kept ((Below.refl _ _).drew.trans hb); dsimp only at k0 k1 k2 k3 k4 k5 k6 k7 j0 j1 j2 j3 j4 j5 j6 j7;go_simp;try go_bits
     exact hK _ _ rfl (Below.refl _ _)
    refine GCh.val (n:=11) (fun v=>[_,_,_,_,_,_,_,_,_,_,_,IsV v]) (fun _=>rfl) rfl ?_;apply Exists.intro;refine And.intro ?_ ?_
    ·intro K' a wy ho hd hb hK;have hgs:IsV (.bool true) (slot a 11) wy:=hd ⟨6,.guard⟩ (by simp) rfl;rw [wanted_of (j:=6) (d:=11) (b:=true) (want:=true) (hg:=rfl) (ho:=rfl) (hd:=rfl) (hs:=hgs)];rw [if_pos (by decide)];clear hgs;have q10:=hd ⟨10,.data⟩ (by simp) rfl;simp [rAt,IsV,slot] at q10;clear hd ho;go_simp;refine (HEa.out wy).mono ?_;rintro e wz ⟨rfl,hz⟩;exact hK _ _ rfl hz
    refine GCh.val (n:=12) (fun v=>[_,_,_,_,_,_,_,_,_,_,_,_,IsV v]) (fun _=>rfl) rfl ?_;apply Exists.intro;refine And.intro ?_ ?_
    ·intro K' a wy ho hd hb hK;have hgs:IsV (.bool true) (slot a 11) wy:=hd ⟨6,.guard⟩ (by simp) rfl;rw [wanted_of (j:=6) (d:=11) (b:=true) (want:=true) (hg:=rfl) (ho:=rfl) (hd:=rfl) (hs:=hgs)];rw [if_pos (by decide)];clear hgs;have q9:=hd ⟨9,.data⟩ (by simp) rfl;simp [rAt,IsV,slot] at q9;have q11:=hd ⟨11,.data⟩ (by simp) rfl;simp [rAt,IsV,slot] at q11;clear hd ho;go_simp;try go_bits
     exact hK _ _ rfl (Below.refl _ _)
    refine GCh.val (n:=13) (fun v=>[_,_,_,_,_,_,_,_,_,_,_,_,_,IsV v]) (fun _=>rfl) rfl ?_;apply Exists.intro;refine And.intro ?_ ?_
    ·intro K' a wy ho hd hb hK;rw [if_pos (wanted_none rfl)];have q6:=hd ⟨6,.data⟩ (by simp) rfl;simp [rAt,IsV,slot] at q6;have q12:=hd ⟨12,.data⟩ (by simp) rfl;simp [rAt,IsV,slot] at q12;clear hd ho;go_simp;try go_bits
     exact hK _ _ rfl (Below.refl _ _)
    intro X wz hR hz;obtain ⟨x0,x1,x2,x3,x4,x5,x6,x7,x8,x9,x10,x11,x12,x13,-⟩:=hR;simp only [IsV] at x0 x1 x2 x3 x4 x5 x6 x7 x8 x9 x10 x11 x12 x13;simp only [putsFrom,x0,x1,x2,x3,x4,x5,x6,x7,x8,x9,x10,x11,x12,x13];clear x0 x1 x2 x3 x4 x5 x6 x7 x8 x9 x10 x11 x12 x13;go_simp;refine hK2 _ _ (hJ _ _ ?_);(repeat apply Exists.intro)
    refine ⟨⟨rfl,GB.out.drew.trans (hz.mono GB.out.size)⟩,rfl⟩
  ·have d1:decide (8*off < eb)=false:=decide_eq_false c1;rw [d1] at hJ;clear c1;refine wp_region_growH [5,6,7,8,9,10,11,12,13,14,15,16,17,18] (by kernel_rfl) (by kernel_rfl) ?_;refine GCh.val (n:=0) (fun v=>[IsV v]) (fun _=>rfl) rfl ?_;apply Exists.intro;refine And.intro ?_ ?_
   ·intro K' a wy ho hd hb hK;rw [if_pos (wanted_none rfl)];have o2:=ho 2 (by decide);simp [slot] at o2;clear hd ho;go_simp;try go_bits
    exact hK _ _ rfl (Below.refl _ _)
   refine GCh.val (n:=1) (fun v=>[_,IsV v]) (fun _=>rfl) rfl ?_;apply Exists.intro;refine And.intro ?_ ?_
   ·intro K' a wy ho hd hb hK;rw [if_pos (wanted_none rfl)];have q0:=hd ⟨0,.data⟩ (by simp) rfl;simp [rAt,IsV,slot] at q0;clear hd ho;obtain ⟨k0,k1,k2,k3,k4,k5,k6,k7⟩:=(KA.out).kept ((Below.refl _ _).drew.trans hb); obtain ⟨j0,j1,j2,j3,j4,j5,j6,j7⟩:=(KB.out).kept ((Below.refl _ _).drew.trans hb); dsimp only at k0 k1 k2 k3 k4 k5 k6 k7 j0 j1 j2 j3 j4 j5 j6 j7;go_simp;try go_bits
    exact hK _ _ rfl (Below.refl _ _)
   refine GCh.val (n:=2) (fun v=>[_,_,IsV v]) (fun _=>rfl) rfl ?_;apply Exists.intro;refine And.intro ?_ ?_
   ·intro K' a wy ho hd hb hK;rw [if_pos (wanted_none rfl)];have q1:=hd ⟨1,.data⟩ (by simp) rfl;simp [rAt,IsV,slot] at q1;clear hd ho;go_simp;try go_bits
    exact hK _ _ rfl (Below.refl _ _)
   refine GCh.val (n:=3) (fun v=>[_,_,_,IsV v]) (fun _=>rfl) rfl ?_;apply Exists.intro;refine And.intro ?_ ?_
   ·intro K' a wy ho hd hb hK;rw [if_pos (wanted_none rfl)];have o3:=ho 3 (by decide);simp [slot] at o3;clear hd ho;obtain ⟨k0,k1,k2,k3,k4,k5,k6,k7⟩:=(KA.out).kept ((Below.refl _ _).drew.trans hb); obtain ⟨j0,j1,j2,j3,j4,j5,j6,j7⟩:=(KB.out).kept ((Below.refl _ _).drew.trans hb); dsimp only at k0 k1 k2 k3 k4 k5 k6 k7 j0 j1 j2 j3 j4 j5 j6 j7;go_simp;try go_bits
    exact hK _ _ rfl (Below.refl _ _)
   refine GCh.val (n:=4) (fun v=>[_,_,_,_,IsV v]) (fun _=>rfl) rfl ?_;apply Exists.intro;refine And.intro ?_ ?_
   ·intro K' a wy ho hd hb hK;rw [if_pos (wanted_none rfl)];have q3:=hd ⟨3,.data⟩ (by simp) rfl;simp [rAt,IsV,slot] at q3;clear hd ho;go_simp;refine (HEb.out wy).mono ?_;rintro e wz ⟨rfl,hz⟩;exact hK _ _ rfl hz
   refine GCh.val (n:=5) (fun v=>[_,_,_,_,_,IsV v]) (fun _=>rfl) rfl ?_;apply Exists.intro;refine And.intro ?_ ?_
   ·intro K' a wy ho hd hb hK;rw [if_pos (wanted_none rfl)];have q2:=hd ⟨2,.data⟩ (by simp) rfl;simp [rAt,IsV,slot] at q2;have q4:=hd ⟨4,.data⟩ (by simp) rfl;simp [rAt,IsV,slot] at q4;clear hd ho;go_simp;try go_bits
    exact hK _ _ rfl (Below.refl _ _)
   refine GCh.val (n:=6) (fun v=>[_,_,_,_,_,_,IsV v]) (fun _=>rfl) rfl ?_;apply Exists.intro;refine And.intro ?_ ?_
   ·intro K' a wy ho hd hb hK;rw [if_pos (wanted_none rfl)];have q5:=hd ⟨5,.data⟩ (by simp) rfl;simp [rAt,IsV,slot] at q5;clear hd ho;go_simp;try go_bits
    exact hK _ _ rfl (Below.refl _ _)
   refine GCh.val (n:=7) (fun v=>[_,_,_,_,_,_,_,IsV v]) (fun _=>rfl) rfl ?_;apply Exists.intro;refine And.intro ?_ ?_
   ·intro K' a wy ho hd hb hK;have hgs:IsV (.bool false) (slot a 11) wy:=hd ⟨6,.guard⟩ (by simp) rfl;rw [wanted_of (j:=6) (d:=11) (b:=false) (want:=true) (hg:=rfl) (ho:=rfl) (hd:=rfl) (hs:=hgs)];rw [if_neg (by decide)];exact hK undef _ rfl (Below.refl _ _)
   refine GCh.val (n:=8) (fun v=>[_,_,_,_,_,_,_,_,IsV v]) (fun _=>rfl) rfl ?_;apply Exists.intro;refine And.intro ?_ ?_
   ·intro K' a wy ho hd hb hK;have hgs:IsV (.bool false) (slot a 11) wy:=hd ⟨6,.guard⟩ (by simp) rfl;rw [wanted_of (j:=6) (d:=11) (b:=false) (want:=true) (hg:=rfl) (ho:=rfl) (hd:=rfl) (hs:=hgs)];rw [if_neg (by decide)];exact hK undef _ rfl (Below.refl _ _)
   refine GCh.val (n:=9) (fun v=>[_,_,_,_,_,_,_,_,_,IsV v]) (fun _=>rfl) rfl ?_;apply Exists.intro;refine And.intro ?_ ?_
   ·intro K' a wy ho hd hb hK;have hgs:IsV (.bool false) (slot a 11) wy:=hd ⟨6,.guard⟩ (by simp) rfl;rw [wanted_of (j:=6) (d:=11) (b:=false) (want:=true) (hg:=rfl) (ho:=rfl) (hd:=rfl) (hs:=hgs)];rw [if_neg (by decide)];exact hK undef _ rfl (Below.refl _ _)
   refine GCh.val (n:=10) (fun v=>[_,_,_,_,_,_,_,_,_,_,IsV v]) (fun _=>rfl) rfl ?_;apply Exists.intro;refine And.intro ?_ ?_
   ·intro K' a wy ho hd hb hK;have hgs:IsV (.bool false) (slot a 11) wy:=hd ⟨6,.guard⟩ (by simp) rfl;rw [wanted_of (j:=6) (d:=11) (b:=false) (want:=true) (hg:=rfl) (ho:=rfl) (hd:=rfl) (hs:=hgs)];rw [if_neg (by decide)];exact hK undef _ rfl (Below.refl _ _)
   refine GCh.val (n:=11) (fun v=>[_,_,_,_,_,_,_,_,_,_,_,IsV v]) (fun _=>rfl) rfl ?_;apply Exists.intro;refine And.intro ?_ ?_
   ·intro K' a wy ho hd hb hK;have hgs:IsV (.bool false) (slot a 11) wy:=hd ⟨6,.guard⟩ (by simp) rfl;rw [wanted_of (j:=6) (d:=11) (b:=false) (want:=true) (hg:=rfl) (ho:=rfl) (hd:=rfl) (hs:=hgs)];rw [if_neg (by decide)];exact hK undef _ rfl (Below.refl _ _)
   refine GCh.val (n:=12) (fun v=>[_,_,_,_,_,_,_,_,_,_,_,_,IsV v]) (fun _=>rfl) rfl ?_;apply Exists.intro;refine And.intro ?_ ?_
   ·intro K' a wy ho hd hb hK;have hgs:IsV (.bool false) (slot a 11) wy:=hd ⟨6,.guard⟩ (by simp) rfl;rw [wanted_of (j:=6) (d:=11) (b:=false) (want:=true) (hg:=rfl) (ho:=rfl) (hd:=rfl) (hs:=hgs)];rw [if_neg (by decide)];exact hK undef _ rfl (Below.refl _ _)
   refine GCh.val (n:=13) (fun v=>[_,_,_,_,_,_,_,_,_,_,_,_,_,IsV v]) (fun _=>rfl) rfl ?_;apply Exists.intro;refine And.intro ?_ ?_
   ·intro K' a wy ho hd hb hK;rw [if_pos (wanted_none rfl)];have q6:=hd ⟨6,.data⟩ (by simp) rfl;simp [rAt,IsV,slot] at q6;have q12:=hd ⟨12,.data⟩ (by simp) rfl;simp [rAt,IsV,slot] at q12;clear hd ho;go_simp;try go_bits
    exact hK _ _ rfl (Below.refl _ _)
   intro X wz hR hz;obtain ⟨x0,x1,x2,x3,x4,x5,x6,x7,x8,x9,x10,x11,x12,x13,-⟩:=hR;simp only [IsV] at x0 x1 x2 x3 x4 x5 x6 x7 x8 x9 x10 x11 x12 x13;simp only [putsFrom,x0,x1,x2,x3,x4,x5,x6,x7,x8,x9,x10,x11,x12,x13];clear x0 x1 x2 x3 x4 x5 x6 x7 x8 x9 x10 x11 x12 x13;go_simp;refine hK2 _ _ (hJ _ _ ?_);(repeat apply Exists.intro)
   refine ⟨⟨rfl,GB.out.drew.trans (hz.mono GB.out.size)⟩,rfl⟩
 case rest =>
 obtain ⟨rfl,hb⟩:=hcut;generalize (decide (8*off < eb)&&decide (8*off' < ea))=b1 at *
 cases b1 with
 | true =>
  have HA:Hid (ans=true):=by unfold Hid; rw [HV.out]; rfl
  have HB:Hid (Below w.heap.size w wc):=GB.out.trans (hb.mono GB.out.size);clear HV hb;go_wp2_with fail
  go_ret;exact ⟨ret_bool HA.out.symm,HB.out⟩
 | false =>
 have KA2:Hid (BoxPiece wc w.heap.size ⟨src,dst,proto,id,off,more,data,since⟩):=KA.out.kept hb;have KB2:Hid (BoxPiece wc (w.heap.size+1) ⟨src',dst',proto',id',off',more',data',since'⟩):=KB.out.kept hb;have GC:Hid (Below w.heap.size w wc):=GB.out.trans (hb.mono GB.out.size);clear KA KB GB hb;go_upto_region 3 with fail
 go_cut [4] (fun v wx=>v=.bool ans∧Below w.heap.size w wx)
 case first =>
  rename_i J K2 hJ hK2
  cases more with
  | true =>
   cases more' with
   | true =>
    have HA:Hid (ans=false):=by unfold Hid; rw [HV.out]; rfl
    rw [HA.out] at hJ;clear HV HA;refine wp_region_growH [19,20,21,22,23,24,25,26,27,28,29,30,31,32,33,34,35,36,37,38,39,40,41,42,43,44,45,46,47,4] (by kernel_rfl) (by kernel_rfl) ?_;refine GCh.val (n:=0) (fun v=>[IsV v]) (fun _=>rfl) rfl ?_;apply Exists.intro;refine And.intro ?_ ?_
    ·intro K' a wy ho hd hb hK;rw [if_pos (wanted_none rfl)];have o2:=ho 2 (by decide);simp [slot] at o2;clear hd ho;go_simp;try go_bits
     exact hK _ _ rfl (Below.refl _ _)
    refine GCh.val (n:=1) (fun v=>[_,IsV v]) (fun _=>rfl) rfl ?_;apply Exists.intro;refine And.intro ?_ ?_
    ·intro K' a wy ho hd hb hK;rw [if_pos (wanted_none rfl)];have q0:=hd ⟨0,.data⟩ (by simp) rfl;simp [rAt,IsV,slot] at q0;clear hd ho;obtain ⟨k0,k1,k2,k3,k4,k5,k6,k7⟩:=(KA2.out).kept ((Below.refl _ _).drew.trans hb); obtain ⟨j0,j1,j2,j3,j4,j5,j6,j7⟩:=(KB2.out).kept ((Below.refl _ _).drew.trans hb); dsimp only at k0 k1 k2 k3 k4 k5 k6 k7 j0 j1 j2 j3 j4 j5 j6 j7;go_simp;try go_bits
     exact hK _ _ rfl (Below.refl _ _)
    refine GCh.val (n:=2) (fun v=>[_,_,IsV v]) (fun _=>rfl) rfl ?_;apply Exists.intro;refine And.intro ?_ ?_
    ·intro K' a wy ho hd hb hK;rw [if_pos (wanted_none rfl)];have q1:=hd ⟨1,.data⟩ (by simp) rfl;simp [rAt,IsV,slot] at q1;clear hd ho;go_simp;try go_bits
     exact hK _ _ rfl (Below.refl _ _)
    refine GCh.val (n:=3) (fun v=>[_,_,_,IsV v]) (fun _=>rfl) rfl ?_;apply Exists.intro;refine And.intro ?_ ?_
    ·intro K' a wy ho hd hb hK;rw [if_pos (wanted_none rfl)];have q2:=hd ⟨2,.data⟩ (by simp) rfl;simp [rAt,IsV,slot] at q2;clear hd ho;go_simp;try go_bits
     exact hK _ _ rfl (Below.refl _ _)
    refine GCh.val (n:=4) (fun v=>[_,_,_,_,IsV v]) (fun _=>rfl) rfl ?_;apply Exists.intro;refine And.intro ?_ ?_
    ·intro K' a wy ho hd hb hK;have hgs:IsV (.bool false) (slot a 22) wy:=hd ⟨3,.guard⟩ (by simp) rfl;rw [wanted_of (j:=3) (d:=22) (b:=false) (want:=true) (hg:=rfl) (ho:=rfl) (hd:=rfl) (hs:=hgs)];rw [if_neg (by decide)];exact hK undef _ rfl (Below.refl _ _)
    refine GCh.val (n:=5) (fun v=>[_,_,_,_,_,IsV v]) (fun _=>rfl) rfl ?_;apply Exists.intro;refine And.intro ?_ ?_
    ·intro K' a wy ho hd hb hK;have hgs:IsV (.bool false) (slot a 22) wy:=hd ⟨3,.guard⟩ (by simp) rfl;rw [wanted_of (j:=3) (d:=22) (b:=false) (want:=true) (hg:=rfl) (ho:=rfl) (hd:=rfl) (hs:=hgs)];rw [if_neg (by decide)];exact hK undef _ rfl (Below.refl _ _)
    refine GCh.val (n:=6) (fun v=>[_,_,_,_,_,_,IsV v]) (fun _=>rfl) rfl ?_;apply Exists.intro;refine And.intro ?_ ?_
    ·intro K' a wy ho hd hb hK;have hgs:IsV (.bool false) (slot a 22) wy:=hd ⟨3,.guard⟩ (by simp) rfl;rw [wanted_of (j:=3) (d:=22) (b:=false) (want:=true) (hg:=rfl) (ho:=rfl) (hd:=rfl) (hs:=hgs)];rw [if_neg (by decide)];exact hK undef _ rfl (Below.refl _ _)
    refine GCh.val (n:=7) (fun v=>[_,_,_,_,_,_,_,IsV v]) (fun _=>rfl) rfl ?_;apply Exists.intro;refine And.intro ?_ ?_
    ·intro K' a wy ho hd hb hK;have hgs:IsV (.bool false) (slot a 22) wy:=hd ⟨3,.guard⟩ (by simp) rfl;rw [wanted_of (j:=3) (d:=22) (b:=false) (want:=true) (hg:=rfl) (ho:=rfl) (hd:=rfl) (hs:=hgs)];rw [if_neg (by decide)];exact hK undef _ rfl (Below.refl _ _)
    refine GCh.val (n:=8) (fun v=>[_,_,_,_,_,_,_,_,IsV v]) (fun _=>rfl) rfl ?_;apply Exists.intro;refine And.intro ?_ ?_
    ·intro K' a wy ho hd hb hK;have hgs:IsV undef (slot a 26) wy:=hd ⟨7,.guard⟩ (by simp) rfl;rw [wanted_undef (j:=7) (d:=26) (hg:=rfl) (ho:=rfl) (hd:=rfl) (hs:=hgs)];rw [if_neg (by decide)];exact hK undef _ rfl (Below.refl _ _)
    refine GCh.val (n:=9) (fun v=>[_,_,_,_,_,_,_,_,_,IsV v]) (fun _=>rfl) rfl ?_;apply Exists.intro;refine And.intro ?_ ?_
    ·intro K' a wy ho hd hb hK;have hgs:IsV undef (slot a 26) wy:=hd ⟨7,.guard⟩ (by simp) rfl;rw [wanted_undef (j:=7) (d:=26) (hg:=rfl) (ho:=rfl) (hd:=rfl) (hs:=hgs)];rw [if_neg (by decide)];exact hK undef _ rfl (Below.refl _ _)
    refine GCh.val (n:=10) (fun v=>[_,_,_,_,_,_,_,_,_,_,IsV v]) (fun _=>rfl) rfl ?_;apply Exists.intro;refine And.intro ?_ ?_
    ·intro K' a wy ho hd hb hK;have hgs:IsV undef (slot a 26) wy:=hd ⟨7,.guard⟩ (by simp) rfl;rw [wanted_undef (j:=7) (d:=26) (hg:=rfl) (ho:=rfl) (hd:=rfl) (hs:=hgs)];rw [if_neg (by decide)];exact hK undef _ rfl (Below.refl _ _)
    refine GCh.val (n:=11) (fun v=>[_,_,_,_,_,_,_,_,_,_,_,IsV v]) (fun _=>rfl) rfl ?_;apply Exists.intro;refine And.intro ?_ ?_
    ·intro K' a wy ho hd hb hK;have hgs:IsV undef (slot a 26) wy:=hd ⟨7,.guard⟩ (by simp) rfl;rw [wanted_undef (j:=7) (d:=26) (hg:=rfl) (ho:=rfl) (hd:=rfl) (hs:=hgs)];rw [if_neg (by decide)];exact hK undef _ rfl (Below.refl _ _)
    refine GCh.val (n:=12) (fun v=>[_,_,_,_,_,_,_,_,_,_,_,_,IsV v]) (fun _=>rfl) rfl ?_;apply Exists.intro;refine And.intro ?_ ?_
    ·intro K' a wy ho hd hb hK;have hgs:IsV undef (slot a 26) wy:=hd ⟨7,.guard⟩ (by simp) rfl;rw [wanted_undef (j:=7) (d:=26) (hg:=rfl) (ho:=rfl) (hd:=rfl) (hs:=hgs)];rw [if_neg (by decide)];exact hK undef _ rfl (Below.refl _ _)
    refine GCh.val (n:=13) (fun v=>[_,_,_,_,_,_,_,_,_,_,_,_,_,IsV v]) (fun _=>rfl) rfl ?_;apply Exists.intro;refine And.intro ?_ ?_
    ·intro K' a wy ho hd hb hK;have hgs:IsV undef (slot a 26) wy:=hd ⟨7,.guard⟩ (by simp) rfl;rw [wanted_undef (j:=7) (d:=26) (hg:=rfl) (ho:=rfl) (hd:=rfl) (hs:=hgs)];rw [if_neg (by decide)];exact hK undef _ rfl (Below.refl _ _)
    refine GCh.val (n:=14) (fun v=>[_,_,_,_,_,_,_,_,_,_,_,_,_,_,IsV v]) (fun _=>rfl) rfl ?_;apply Exists.intro;refine And.intro ?_ ?_
    ·intro K' a wy ho hd hb hK;have hgs:IsV (.bool false) (slot a 22) wy:=hd ⟨3,.guard⟩ (by simp) rfl;rw [wanted_of (j:=3) (d:=22) (b:=false) (want:=true) (hg:=rfl) (ho:=rfl) (hd:=rfl) (hs:=hgs)];rw [if_neg (by decide)];exact hK undef _ rfl (Below.refl _ _)
    refine GCh.val (n:=15) (fun v=>[_,_,_,_,_,_,_,_,_,_,_,_,_,_,_,IsV v]) (fun _=>rfl) rfl ?_;apply Exists.intro;refine And.intro ?_ ?_
    ·intro K' a wy ho hd hb hK;rw [if_pos (wanted_none rfl)];have q3:=hd ⟨3,.data⟩ (by simp) rfl;simp [rAt,IsV,slot] at q3;have q14:=hd ⟨14,.data⟩ (by simp) rfl;simp [rAt,IsV,slot] at q14;clear hd ho;go_simp;try go_bits
     exact hK _ _ rfl (Below.refl _ _)
    refine GCh.val (n:=16) (fun v=>[_,_,_,_,_,_,_,_,_,_,_,_,_,_,_,_,IsV v]) (fun _=>rfl) rfl ?_;apply Exists.intro;refine And.intro ?_ ?_
    ·intro K' a wy ho hd hb hK;rw [if_pos (wanted_none rfl)];have q15:=hd ⟨15,.data⟩ (by simp) rfl;simp [rAt,IsV,slot] at q15;clear hd ho;go_simp;try go_bits
     exact hK _ _ rfl (Below.refl _ _)
    refine GCh.val (n:=17) (fun v=>[_,_,_,_,_,_,_,_,_,_,_,_,_,_,_,_,_,IsV v]) (fun _=>rfl) rfl ?_;apply Exists.intro;refine And.intro ?_ ?_
    ·intro K' a wy ho hd hb hK;have hgs:IsV (.bool false) (slot a 35) wy:=hd ⟨16,.guard⟩ (by simp) rfl;rw [wanted_of (j:=16) (d:=35) (b:=false) (want:=false) (hg:=rfl) (ho:=rfl) (hd:=rfl) (hs:=hgs)];rw [if_pos (by decide)];clear hgs;have o3:=ho 3 (by decide);simp [slot] at o3;clear hd ho;go_simp;try go_bits
     exact hK _ _ rfl (Below.refl _ _)
    refine GCh.val (n:=18) (fun v=>[_,_,_,_,_,_,_,_,_,_,_,_,_,_,_,_,_,_,IsV v]) (fun _=>rfl) rfl ?_;apply Exists.intro;refine And.intro ?_ ?_
    ·intro K' a wy ho hd hb hK;have hgs:IsV (.bool false) (slot a 35) wy:=hd ⟨16,.guard⟩ (by simp) rfl;rw [wanted_of (j:=16) (d:=35) (b:=false) (want:=false) (hg:=rfl) (ho:=rfl) (hd:=rfl) (hs:=hgs)];rw [if_pos (by decide)];clear hgs;have q17:=hd ⟨17,.data⟩ (by simp) rfl;simp [rAt,IsV,slot] at q17;clear hd ho;obtain ⟨k0,k1,k2,k3,k4,k5,k6,k7⟩:=(KA2.out).kept ((Below.refl _ _).drew.trans hb); obtain ⟨j0,j1,j2,j3,j4,j5,j6,j7⟩:=(KB2.out).kept ((Below.refl _ _).drew.trans hb); dsimp only at k0 k1 k2 k3 k4 k5 k6 k7 j0 j1 j2 j3 j4 j5 j6 j7;go_simp;try go_bits
     exact hK _ _ rfl (Below.refl _ _)
    refine GCh.val (n:=19) (fun v=>[_,_,_,_,_,_,_,_,_,_,_,_,_,_,_,_,_,_,_,IsV v]) (fun _=>rfl) rfl ?_;apply Exists.intro;refine And.intro ?_ ?_
    ·intro K' a wy ho hd hb hK;have hgs:IsV (.bool false) (slot a 35) wy:=hd ⟨16,.guard⟩ (by simp) rfl;rw [wanted_of (j:=16) (d:=35) (b:=false) (want:=false) (hg:=rfl) (ho:=rfl) (hd:=rfl) (hs:=hgs)];rw [if_pos (by decide)];clear hgs;have q18:=hd ⟨18,.data⟩ (by simp) rfl;simp [rAt,IsV,slot] at q18;clear hd ho;go_simp;try go_bits
     exact hK _ _ rfl (Below.refl _ _)
    refine GCh.val (n:=20) (fun v=>[_,_,_,_,_,_,_,_,_,_,_,_,_,_,_,_,_,_,_,_,IsV v]) (fun _=>rfl) rfl ?_;apply Exists.intro;refine And.intro ?_ ?_
    ·intro K' a wy ho hd hb hK;have hgs:IsV (.bool false) (slot a 35) wy:=hd ⟨16,.guard⟩ (by simp) rfl;rw [wanted_of (j:=16) (d:=35) (b:=false) (want:=false) (hg:=rfl) (ho:=rfl) (hd:=rfl) (hs:=hgs)];rw [if_pos (by decide)];clear hgs;have q19:=hd ⟨19,.data⟩ (by simp) rfl;simp [rAt,IsV,slot] at q19;clear hd ho;go_simp;try go_bits
     exact hK _ _ rfl (Below.refl _ _)
    refine GCh.val (n:=21) (fun v=>[_,_,_,_,_,_,_,_,_,_,_,_,_,_,_,_,_,_,_,_,_,IsV v]) (fun _=>rfl) rfl ?_;apply Exists.intro;refine And.intro ?_ ?_
    ·intro K' a wy ho hd hb hK;have hgs:IsV (.bool false) (slot a 39) wy:=hd ⟨20,.guard⟩ (by simp) rfl;rw [wanted_of (j:=20) (d:=39) (b:=false) (want:=true) (hg:=rfl) (ho:=rfl) (hd:=rfl) (hs:=hgs)];rw [if_neg (by decide)];exact hK undef _ rfl (Below.refl _ _)
    refine GCh.val (n:=22) (fun v=>[_,_,_,_,_,_,_,_,_,_,_,_,_,_,_,_,_,_,_,_,_,_,IsV v]) (fun _=>rfl) rfl ?_;apply Exists.intro;refine And.intro ?_ ?_
    ·intro K' a wy ho hd hb hK;have hgs:IsV (.bool false) (slot a 39) wy:=hd ⟨20,.guard⟩ (by simp) rfl;rw [wanted_of (j:=20) (d:=39) (b:=false) (want:=true) (hg:=rfl) (ho:=rfl) (hd:=rfl) (hs:=hgs)];rw [if_neg (by decide)];exact hK undef _ rfl (Below.refl _ _)
    refine GCh.val (n:=23) (fun v=>[_,_,_,_,_,_,_,_,_,_,_,_,_,_,_,_,_,_,_,_,_,_,_,IsV v]) (fun _=>rfl) rfl ?_;apply Exists.intro;refine And.intro ?_ ?_
    ·intro K' a wy ho hd hb hK;have hgs:IsV (.bool false) (slot a 39) wy:=hd ⟨20,.guard⟩ (by simp) rfl;rw [wanted_of (j:=20) (d:=39) (b:=false) (want:=true) (hg:=rfl) (ho:=rfl) (hd:=rfl) (hs:=hgs)];rw [if_neg (by decide)];exact hK undef _ rfl (Below.refl _ _)
    refine GCh.val (n:=24) (fun v=>[_,_,_,_,_,_,_,_,_,_,_,_,_,_,_,_,_,_,_,_,_,_,_,_,IsV v]) (fun _=>rfl) rfl ?_;apply Exists.intro;refine And.intro ?_ ?_
    ·intro K' a wy ho hd hb hK;have hgs:IsV (.bool false) (slot a 39) wy:=hd ⟨20,.guard⟩ (by simp) rfl;rw [wanted_of (j:=20) (d:=39) (b:=false) (want:=true) (hg:=rfl) (ho:=rfl) (hd:=rfl) (hs:=hgs)];rw [if_neg (by decide)];exact hK undef _ rfl (Below.refl _ _)
    refine GCh.val (n:=25) (fun v=>[_,_,_,_,_,_,_,_,_,_,_,_,_,_,_,_,_,_,_,_,_,_,_,_,_,IsV v]) (fun _=>rfl) rfl ?_;apply Exists.intro;refine And.intro ?_ ?_
    ·intro K' a wy ho hd hb hK;have hgs:IsV (.bool false) (slot a 39) wy:=hd ⟨20,.guard⟩ (by simp) rfl;rw [wanted_of (j:=20) (d:=39) (b:=false) (want:=true) (hg:=rfl) (ho:=rfl) (hd:=rfl) (hs:=hgs)];rw [if_neg (by decide)];exact hK undef _ rfl (Below.refl _ _)
    refine GCh.val (n:=26) (fun v=>[_,_,_,_,_,_,_,_,_,_,_,_,_,_,_,_,_,_,_,_,_,_,_,_,_,_,IsV v]) (fun _=>rfl) rfl ?_;apply Exists.intro;refine And.intro ?_ ?_
    ·intro K' a wy ho hd hb hK;have hgs:IsV (.bool false) (slot a 39) wy:=hd ⟨20,.guard⟩ (by simp) rfl;rw [wanted_of (j:=20) (d:=39) (b:=false) (want:=true) (hg:=rfl) (ho:=rfl) (hd:=rfl) (hs:=hgs)];rw [if_neg (by decide)];exact hK undef _ rfl (Below.refl _ _)
    refine GCh.val (n:=27) (fun v=>[_,_,_,_,_,_,_,_,_,_,_,_,_,_,_,_,_,_,_,_,_,_,_,_,_,_,_,IsV v]) (fun _=>rfl) rfl ?_;apply Exists.intro;refine And.intro ?_ ?_
    ·intro K' a wy ho hd hb hK;have hgs:IsV (.bool false) (slot a 35) wy:=hd ⟨16,.guard⟩ (by simp) rfl;rw [wanted_of (j:=16) (d:=35) (b:=false) (want:=false) (hg:=rfl) (ho:=rfl) (hd:=rfl) (hs:=hgs)];rw [if_pos (by decide)];clear hgs;have q20:=hd ⟨20,.data⟩ (by simp) rfl;simp [rAt,IsV,slot] at q20;have q26:=hd ⟨26,.data⟩ (by simp) rfl;simp [rAt,IsV,slot] at q26;clear hd ho;go_simp;try go_bits
     exact hK _ _ rfl (Below.refl _ _)
    refine GCh.val (n:=28) (fun v=>[_,_,_,_,_,_,_,_,_,_,_,_,_,_,_,_,_,_,_,_,_,_,_,_,_,_,_,_,IsV v]) (fun _=>rfl) rfl ?_;apply Exists.intro;refine And.intro ?_ ?_
    ·intro K' a wy ho hd hb hK;rw [if_pos (wanted_none rfl)];have q16:=hd ⟨16,.data⟩ (by simp) rfl;simp [rAt,IsV,slot] at q16;have q27:=hd ⟨27,.data⟩ (by simp) rfl;simp [rAt,IsV,slot] at q27;clear hd ho;go_simp;try go_bits
     exact hK _ _ rfl (Below.refl _ _)
    refine GCh.val (n:=29) (fun v=>[_,_,_,_,_,_,_,_,_,_,_,_,_,_,_,_,_,_,_,_,_,_,_,_,_,_,_,_,_,IsV v]) (fun _=>rfl) rfl ?_;apply Exists.intro;refine And.intro ?_ ?_
    ·intro K' a wy ho hd hb hK;rw [if_pos (wanted_none rfl)];have q28:=hd ⟨28,.data⟩ (by simp) rfl;simp [rAt,IsV,slot] at q28;clear hd ho;go_simp;try go_bits
     exact hK _ _ rfl (Below.refl _ _)
    intro X wz hR hz;obtain ⟨x0,x1,x2,x3,x4,x5,x6,x7,x8,x9,x10,x11,x12,x13,x14,x15,x16,x17,x18,x19,x20,x21,x22,x23,x24,x25,x26,x27,x28,x29,-⟩:=hR;simp only [IsV] at x0 x1 x2 x3 x4 x5 x6 x7 x8 x9 x10 x11 x12 x13 x14 x15 x16 x17 x18 x19 x20 x21 x22 x23 x24 x25 x26 x27 x28 x29;simp only [putsFrom,x0,x1,x2,x3,x4,x5,x6,x7,x8,x9,x10,x11,x12,x13,x14,x15,x16,x17,x18,x19,x20,x21,x22,x23,x24,x25,x26,x27,x28,x29];clear x0 x1 x2 x3 x4 x5 x6 x7 x8 x9 x10 x11 x12 x13 x14 x15 x16 x17 x18 x19 x20 x21 x22 x23 x24 x25 x26 x27 x28 x29;go_simp;refine hK2 _ _ (hJ _ _ ?_);(repeat apply Exists.intro)
    refine ⟨⟨rfl,GC.out.drew.trans (hz.mono GC.out.size)⟩,rfl⟩
   | false =>
    have HA:Hid (ans=decide (eb≤8*off)):=by unfold Hid; rw [HV.out]; simp
    rw [HA.out] at hJ;clear HV HA;refine wp_region_growH [19,20,21,22,23,24,25,26,27,28,29,30,31,32,33,34,35,36,37,38,39,40,41,42,43,44,45,46,47,4] (by kernel_rfl) (by kernel_rfl) ?_;refine GCh.val (n:=0) (fun v=>[IsV v]) (fun _=>rfl) rfl ?_;apply Exists.intro;refine And.intro ?_ ?_
    ·intro K' a wy ho hd hb hK;rw [if_pos (wanted_none rfl)];have o2:=ho 2 (by decide);simp [slot] at o2;clear hd ho;go_simp;try go_bits
     exact hK _ _ rfl (Below.refl _ _)
    refine GCh.val (n:=1) (fun v=>[_,IsV v]) (fun _=>rfl) rfl ?_;apply Exists.intro;refine And.intro ?_ ?_
    ·intro K' a wy ho hd hb hK;rw [if_pos (wanted_none rfl)];have q0:=hd ⟨0,.data⟩ (by simp) rfl;simp [rAt,IsV,slot] at q0;clear hd ho;obtain ⟨k0,k1,k2,k3,k4,k5,k6,k7⟩:=(KA2.out).kept ((Below.refl _ _).drew.trans hb); obtain ⟨j0,j1,j2,j3,j4,j5,j6,j7⟩:=(KB2.out).kept ((Below.refl _ _).drew.trans hb); dsimp only at k0 k1 k2 k3 k4 k5 k6 k7 j0 j1 j2 j3 j4 j5 j6 j7;go_simp;try go_bits
     exact hK _ _ rfl (Below.refl _ _)
    refine GCh.val (n:=2) (fun v=>[_,_,IsV v]) (fun _=>rfl) rfl ?_;apply Exists.intro;refine And.intro ?_ ?_
    ·intro K' a wy ho hd hb hK;rw [if_pos (wanted_none rfl)];have q1:=hd ⟨1,.data⟩ (by simp) rfl;simp [rAt,IsV,slot] at q1;clear hd ho;go_simp;try go_bits
     exact hK _ _ rfl (Below.refl _ _)
    refine GCh.val (n:=3) (fun v=>[_,_,_,IsV v]) (fun _=>rfl) rfl ?_;apply Exists.intro;refine And.intro ?_ ?_
    ·intro K' a wy ho hd hb hK;rw [if_pos (wanted_none rfl)];have q2:=hd ⟨2,.data⟩ (by simp) rfl;simp [rAt,IsV,slot] at q2;clear hd ho;go_simp;try go_bits
     exact hK _ _ rfl (Below.refl _ _)
    refine GCh.val (n:=4) (fun v=>[_,_,_,_,IsV v]) (fun _=>rfl) rfl ?_;apply Exists.intro;refine And.intro ?_ ?_
    ·intro K' a wy ho hd hb hK;have hgs:IsV (.bool false) (slot a 22) wy:=hd ⟨3,.guard⟩ (by simp) rfl;rw [wanted_of (j:=3) (d:=22) (b:=false) (want:=true) (hg:=rfl) (ho:=rfl) (hd:=rfl) (hs:=hgs)];rw [if_neg (by decide)];exact hK undef _ rfl (Below.refl _ _)
    refine GCh.val (n:=5) (fun v=>[_,_,_,_,_,IsV v]) (fun _=>rfl) rfl ?_;apply Exists.intro;refine And.intro ?_ ?_
    ·intro K' a wy ho hd hb hK;have hgs:IsV (.bool false) (slot a 22) wy:=hd ⟨3,.guard⟩ (by simp) rfl;rw [wanted_of (j:=3) (d:=22) (b:=false) (want:=true) (hg:=rfl) (ho:=rfl) (hd:=rfl) (hs:=hgs)];rw [if_neg (by decide)];exact hK undef _ rfl (Below.refl _ _)
    refine GCh.val (n:=6) (fun v=>[_,_,_,_,_,_,IsV v]) (fun _=>rfl) rfl ?_;apply Exists.intro;refine And.intro ?_ ?_
    ·intro K' a wy ho hd hb hK;have hgs:IsV (.bool false) (slot a 22) wy:=hd ⟨3,.guard⟩ (by simp) rfl;rw [wanted_of (j:=3) (d:=22) (b:=false) (want:=true) (hg:=rfl) (ho:=rfl) (hd:=rfl) (hs:=hgs)];rw [if_neg (by decide)];exact hK undef _ rfl (Below.refl _ _)
    refine GCh.val (n:=7) (fun v=>[_,_,_,_,_,_,_,IsV v]) (fun _=>rfl) rfl ?_;apply Exists.intro;refine And.intro ?_ ?_
    ·intro K' a wy ho hd hb hK;have hgs:IsV (.bool false) (slot a 22) wy:=hd ⟨3,.guard⟩ (by simp) rfl;rw [wanted_of (j:=3) (d:=22) (b:=false) (want:=true) (hg:=rfl) (ho:=rfl) (hd:=rfl) (hs:=hgs)];rw [if_neg (by decide)];exact hK undef _ rfl (Below.refl _ _)
    refine GCh.val (n:=8) (fun v=>[_,_,_,_,_,_,_,_,IsV v]) (fun _=>rfl) rfl ?_;apply Exists.intro;refine And.intro ?_ ?_
    ·intro K' a wy ho hd hb hK;have hgs:IsV undef (slot a 26) wy:=hd ⟨7,.guard⟩ (by simp) rfl;rw [wanted_undef (j:=7) (d:=26) (hg:=rfl) (ho:=rfl) (hd:=rfl) (hs:=hgs)];rw [if_neg (by decide)];exact hK undef _ rfl (Below.refl _ _)
    refine GCh.val (n:=9) (fun v=>[_,_,_,_,_,_,_,_,_,IsV v]) (fun _=>rfl) rfl ?_;apply Exists.intro;refine And.intro ?_ ?_
    ·intro K' a wy ho hd hb hK;have hgs:IsV undef (slot a 26) wy:=hd ⟨7,.guard⟩ (by simp) rfl;rw [wanted_undef (j:=7) (d:=26) (hg:=rfl) (ho:=rfl) (hd:=rfl) (hs:=hgs)];rw [if_neg (by decide)];exact hK undef _ rfl (Below.refl _ _)
    refine GCh.val (n:=10) (fun v=>[_,_,_,_,_,_,_,_,_,_,IsV v]) (fun _=>rfl) rfl ?_;apply Exists.intro;refine And.intro ?_ ?_
    ·intro K' a wy ho hd hb hK;have hgs:IsV undef (slot a 26) wy:=hd ⟨7,.guard⟩ (by simp) rfl;rw [wanted_undef (j:=7) (d:=26) (hg:=rfl) (ho:=rfl) (hd:=rfl) (hs:=hgs)];rw [if_neg (by decide)];exact hK undef _ rfl (Below.refl _ _)
    refine GCh.val (n:=11) (fun v=>[_,_,_,_,_,_,_,_,_,_,_,IsV v]) (fun _=>rfl) rfl ?_;apply Exists.intro;refine And.intro ?_ ?_
    ·intro K' a wy ho hd hb hK;have hgs:IsV undef (slot a 26) wy:=hd ⟨7,.guard⟩ (by simp) rfl;rw [wanted_undef (j:=7) (d:=26) (hg:=rfl) (ho:=rfl) (hd:=rfl) (hs:=hgs)];rw [if_neg (by decide)];exact hK undef _ rfl (Below.refl _ _)
    refine GCh.val (n:=12) (fun v=>[_,_,_,_,_,_,_,_,_,_,_,_,IsV v]) (fun _=>rfl) rfl ?_;apply Exists.intro;refine And.intro ?_ ?_
    ·intro K' a wy ho hd hb hK;have hgs:IsV undef (slot a 26) wy:=hd ⟨7,.guard⟩ (by simp) rfl;rw [wanted_undef (j:=7) (d:=26) (hg:=rfl) (ho:=rfl) (hd:=rfl) (hs:=hgs)];rw [if_neg (by decide)];exact hK undef _ rfl (Below.refl _ _)
    refine GCh.val (n:=13) (fun v=>[_,_,_,_,_,_,_,_,_,_,_,_,_,IsV v]) (fun _=>rfl) rfl ?_;apply Exists.intro;refine And.intro ?_ ?_
    ·intro K' a wy ho hd hb hK;have hgs:IsV undef (slot a 26) wy:=hd ⟨7,.guard⟩ (by simp) rfl;rw [wanted_undef (j:=7) (d:=26) (hg:=rfl) (ho:=rfl) (hd:=rfl) (hs:=hgs)];rw [if_neg (by decide)];exact hK undef _ rfl (Below.refl _ _)
    refine GCh.val (n:=14) (fun v=>[_,_,_,_,_,_,_,_,_,_,_,_,_,_,IsV v]) (fun _=>rfl) rfl ?_;apply Exists.intro;refine And.intro ?_ ?_
    ·intro K' a wy ho hd hb hK;have hgs:IsV (.bool false) (slot a 22) wy:=hd ⟨3,.guard⟩ (by simp) rfl;rw [wanted_of (j:=3) (d:=22) (b:=false) (want:=true) (hg:=rfl) (ho:=rfl) (hd:=rfl) (hs:=hgs)];rw [if_neg (by decide)];exact hK undef _ rfl (Below.refl _ _)
    refine GCh.val (n:=15) (fun v=>[_,_,_,_,_,_,_,_,_,_,_,_,_,_,_,IsV v]) (fun _=>rfl) rfl ?_;apply Exists.intro;refine And.intro ?_ ?_
    ·intro K' a wy ho hd hb hK;rw [if_pos (wanted_none rfl)];have q3:=hd ⟨3,.data⟩ (by simp) rfl;simp [rAt,IsV,slot] at q3;have q14:=hd ⟨14,.data⟩ (by simp) rfl;simp [rAt,IsV,slot] at q14;clear hd ho;go_simp;try go_bits
     exact hK _ _ rfl (Below.refl _ _)
    refine GCh.val (n:=16) (fun v=>[_,_,_,_,_,_,_,_,_,_,_,_,_,_,_,_,IsV v]) (fun _=>rfl) rfl ?_;apply Exists.intro;refine And.intro ?_ ?_
    ·intro K' a wy ho hd hb hK;rw [if_pos (wanted_none rfl)];have q15:=hd ⟨15,.data⟩ (by simp) rfl;simp [rAt,IsV,slot] at q15;clear hd ho;go_simp;try go_bits
     exact hK _ _ rfl (Below.refl _ _)
    refine GCh.val (n:=17) (fun v=>[_,_,_,_,_,_,_,_,_,_,_,_,_,_,_,_,_,IsV v]) (fun _=>rfl) rfl ?_;apply Exists.intro;refine And.intro ?_ ?_
    ·intro K' a wy ho hd hb hK;have hgs:IsV (.bool false) (slot a 35) wy:=hd ⟨16,.guard⟩ (by simp) rfl;rw [wanted_of (j:=16) (d:=35) (b:=false) (want:=false) (hg:=rfl) (ho:=rfl) (hd:=rfl) (hs:=hgs)];rw [if_pos (by decide)];clear hgs;have o3:=ho 3 (by decide);simp [slot] at o3;clear hd ho;go_simp;try go_bits
     exact hK _ _ rfl (Below.refl _ _)
    refine GCh.val (n:=18) (fun v=>[_,_,_,_,_,_,_,_,_,_,_,_,_,_,_,_,_,_,IsV v]) (fun _=>rfl) rfl ?_;apply Exists.intro;refine And.intro ?_ ?_
    ·intro K' a wy ho hd hb hK;have hgs:IsV (.bool false) (slot a 35) wy:=hd ⟨16,.guard⟩ (by simp) rfl;rw [wanted_of (j:=16) (d:=35) (b:=false) (want:=false) (hg:=rfl) (ho:=rfl) (hd:=rfl) (hs:=hgs)];rw [if_pos (by decide)];clear hgs;have q17:=hd ⟨17,.data⟩ (by simp) rfl;simp [rAt,IsV,slot] at q17;clear hd ho;obtain ⟨k0,k1,k2,k3,k4,k5,k6,k7⟩:=(KA2.out).kept ((Below.refl _ _).drew.trans hb); obtain ⟨j0,j1,j2,j3,j4,j5,j6,j7⟩:=(KB2.out).kept ((Below.refl _ _).drew.trans hb); dsimp only at k0 k1 k2 k3 k4 k5 k6 k7 j0 j1 j2 j3 j4 j5 j6 j7;go_simp;try go_bits
     exact hK _ _ rfl (Below.refl _ _)
    refine GCh.val (n:=19) (fun v=>[_,_,_,_,_,_,_,_,_,_,_,_,_,_,_,_,_,_,_,IsV v]) (fun _=>rfl) rfl ?_;apply Exists.intro;refine And.intro ?_ ?_
    ·intro K' a wy ho hd hb hK;have hgs:IsV (.bool false) (slot a 35) wy:=hd ⟨16,.guard⟩ (by simp) rfl;rw [wanted_of (j:=16) (d:=35) (b:=false) (want:=false) (hg:=rfl) (ho:=rfl) (hd:=rfl) (hs:=hgs)];rw [if_pos (by decide)];clear hgs;have q18:=hd ⟨18,.data⟩ (by simp) rfl;simp [rAt,IsV,slot] at q18;clear hd ho;go_simp;try go_bits
     exact hK _ _ rfl (Below.refl _ _)
    refine GCh.val (n:=20) (fun v=>[_,_,_,_,_,_,_,_,_,_,_,_,_,_,_,_,_,_,_,_,IsV v]) (fun _=>rfl) rfl ?_;apply Exists.intro;refine And.intro ?_ ?_
    ·intro K' a wy ho hd hb hK;have hgs:IsV (.bool false) (slot a 35) wy:=hd ⟨16,.guard⟩ (by simp) rfl;rw [wanted_of (j:=16) (d:=35) (b:=false) (want:=false) (hg:=rfl) (ho:=rfl) (hd:=rfl) (hs:=hgs)];rw [if_pos (by decide)];clear hgs;have q19:=hd ⟨19,.data⟩ (by simp) rfl;simp [rAt,IsV,slot] at q19;clear hd ho;go_simp;try go_bits
     exact hK _ _ rfl (Below.refl _ _)
    refine GCh.val (n:=21) (fun v=>[_,_,_,_,_,_,_,_,_,_,_,_,_,_,_,_,_,_,_,_,_,IsV v]) (fun _=>rfl) rfl ?_;apply Exists.intro;refine And.intro ?_ ?_
    ·intro K' a wy ho hd hb hK;have hgs:IsV (.bool true) (slot a 39) wy:=hd ⟨20,.guard⟩ (by simp) rfl;rw [wanted_of (j:=20) (d:=39) (b:=true) (want:=true) (hg:=rfl) (ho:=rfl) (hd:=rfl) (hs:=hgs)];rw [if_pos (by decide)];clear hgs;have o2:=ho 2 (by decide);simp [slot] at o2;clear hd ho;go_simp;try go_bits
     exact hK _ _ rfl (Below.refl _ _)
    refine GCh.val (n:=22) (fun v=>[_,_,_,_,_,_,_,_,_,_,_,_,_,_,_,_,_,_,_,_,_,_,IsV v]) (fun _=>rfl) rfl ?_;apply Exists.intro;refine And.intro ?_ ?_
    ·intro K' a wy ho hd hb hK;have hgs:IsV (.bool true) (slot a 39) wy:=hd ⟨20,.guard⟩ (by simp) rfl;rw [wanted_of (j:=20) (d:=39) (b:=true) (want:=true) (hg:=rfl) (ho:=rfl) (hd:=rfl) (hs:=hgs)];rw [if_pos (by decide)];clear hgs;have q21:=hd ⟨21,.data⟩ (by simp) rfl;simp [rAt,IsV,slot] at q21;clear hd ho;obtain ⟨k0,k1,k2,k3,k4,k5,k6,k7⟩:=(KA2.out).kept ((Below.refl _ _).drew.trans hb); obtain ⟨j0,j1,j2,j3,j4,j5,j6,j7⟩:=(KB2.out).kept ((Below.refl _ _).drew.trans hb); dsimp only at k0 k1 k2 k3 k4 k5 k6 k7 j0 j1 j2 j3 j4 j5 j6 j7;go_simp;try go_bits
     exact hK _ _ rfl (Below.refl _ _)
    refine GCh.val (n:=23) (fun v=>[_,_,_,_,_,_,_,_,_,_,_,_,_,_,_,_,_,_,_,_,_,_,_,IsV v]) (fun _=>rfl) rfl ?_;apply Exists.intro;refine And.intro ?_ ?_
    ·intro K' a wy ho hd hb hK;have hgs:IsV (.bool true) (slot a 39) wy:=hd ⟨20,.guard⟩ (by simp) rfl;rw [wanted_of (j:=20) (d:=39) (b:=true) (want:=true) (hg:=rfl) (ho:=rfl) (hd:=rfl) (hs:=hgs)];rw [if_pos (by decide)];clear hgs;have q22:=hd ⟨22,.data⟩ (by simp) rfl;simp [rAt,IsV,slot] at q22;clear hd ho;go_simp;try go_bits
     exact hK _ _ rfl (Below.refl _ _)
    refine GCh.val (n:=24) (fun v=>[_,_,_,_,_,_,_,_,_,_,_,_,_,_,_,_,_,_,_,_,_,_,_,_,IsV v]) (fun _=>rfl) rfl ?_;apply Exists.intro;refine And.intro ?_ ?_
    ·intro K' a wy ho hd hb hK;have hgs:IsV (.bool true) (slot a 39) wy:=hd ⟨20,.guard⟩ (by simp) rfl;rw [wanted_of (j:=20) (d:=39) (b:=true) (want:=true) (hg:=rfl) (ho:=rfl) (hd:=rfl) (hs:=hgs)];rw [if_pos (by decide)];clear hgs;have o3:=ho 3 (by decide);simp [slot] at o3;clear hd ho;obtain ⟨k0,k1,k2,k3,k4,k5,k6,k7⟩:=(KA2.out).kept ((Below.refl _ _).drew.trans hb); obtain ⟨j0,j1,j2,j3,j4,j5,j6,j7⟩:=(KB2.out).kept ((Below.refl _ _).drew.trans hb); dsimp only at k0 k1 k2 k3 k4 k5 k6 k7 j0 j1 j2 j3 j4 j5 j6 j7;go_simp;try go_bits
     exact hK _ _ rfl (Below.refl _ _)
    refine GCh.val (n:=25) (fun v=>[_,_,_,_,_,_,_,_,_,_,_,_,_,_,_,_,_,_,_,_,_,_,_,_,_,IsV v]) (fun _=>rfl) rfl ?_;apply Exists.intro;refine And.intro ?_ ?_
    ·intro K' a wy ho hd hb hK;have hgs:IsV (.bool true) (slot a 39) wy:=hd ⟨20,.guard⟩ (by simp) rfl;rw [wanted_of (j:=20) (d:=39) (b:=true) (want:=true) (hg:=rfl) (ho:=rfl) (hd:=rfl) (hs:=hgs)];rw [if_pos (by decide)];clear hgs;have q24:=hd ⟨24,.data⟩ (by simp) rfl;simp [rAt,IsV,slot] at q24;clear hd ho;go_simp;refine (HEb.out wy).mono ?_;rintro e wz ⟨rfl,hz⟩;exact hK _ _ rfl hz
    refine GCh.val (n:=26) (fun v=>[_,_,_,_,_,_,_,_,_,_,_,_,_,_,_,_,_,_,_,_,_,_,_,_,_,_,IsV v]) (fun _=>rfl) rfl ?_;apply Exists.intro;refine And.intro ?_ ?_
    ·intro K' a wy ho hd hb hK;have hgs:IsV (.bool true) (slot a 39) wy:=hd ⟨20,.guard⟩ (by simp) rfl;rw [wanted_of (j:=20) (d:=39) (b:=true) (want:=true) (hg:=rfl) (ho:=rfl) (hd:=rfl) (hs:=hgs)];rw [if_pos (by decide)];clear hgs;have q23:=hd ⟨23,.data⟩ (by simp) rfl;simp [rAt,IsV,slot] at q23;have q25:=hd ⟨25,.data⟩ (by simp) rfl;simp [rAt,IsV,slot] at q25;clear hd ho;go_simp;try go_bits
     exact hK _ _ rfl (Below.refl _ _)
    refine GCh.val (n:=27) (fun v=>[_,_,_,_,_,_,_,_,_,_,_,_,_,_,_,_,_,_,_,_,_,_,_,_,_,_,_,IsV v]) (fun _=>rfl) rfl ?_;apply Exists.intro;refine And.intro ?_ ?_
    ·intro K' a wy ho hd hb hK;have hgs:IsV (.bool false) (slot a 35) wy:=hd ⟨16,.guard⟩ (by simp) rfl;rw [wanted_of (j:=16) (d:=35) (b:=false) (want:=false) (hg:=rfl) (ho:=rfl) (hd:=rfl) (hs:=hgs)];rw [if_pos (by decide)];clear hgs;have q20:=hd ⟨20,.data⟩ (by simp) rfl;simp [rAt,IsV,slot] at q20;have q26:=hd ⟨26,.data⟩ (by simp) rfl;simp [rAt,IsV,slot] at q26;clear hd ho;go_simp;try go_bits
     exact hK _ _ rfl (Below.refl _ _)
    refine GCh.val (n:=28) (fun v=>[_,_,_,_,_,_,_,_,_,_,_,_,_,_,_,_,_,_,_,_,_,_,_,_,_,_,_,_,IsV v]) (fun _=>rfl) rfl ?_;apply Exists.intro;refine And.intro ?_ ?_
    ·intro K' a wy ho hd hb hK;rw [if_pos (wanted_none rfl)];have q16:=hd ⟨16,.data⟩ (by simp) rfl;simp [rAt,IsV,slot] at q16;have q27:=hd ⟨27,.data⟩ (by simp) rfl;simp [rAt,IsV,slot] at q27;clear hd ho;go_simp;try go_bits
     exact hK _ _ rfl (Below.refl _ _)
    refine GCh.val (n:=29) (fun v=>[_,_,_,_,_,_,_,_,_,_,_,_,_,_,_,_,_,_,_,_,_,_,_,_,_,_,_,_,_,IsV v]) (fun _=>rfl) rfl ?_;apply Exists.intro;refine And.intro ?_ ?_
    ·intro K' a wy ho hd hb hK;rw [if_pos (wanted_none rfl)];have q28:=hd ⟨28,.data⟩ (by simp) rfl;simp [rAt,IsV,slot] at q28;clear hd ho;go_simp;try go_bits
     exact hK _ _ rfl (Below.refl _ _)
    intro X wz hR hz;obtain ⟨x0,x1,x2,x3,x4,x5,x6,x7,x8,x9,x10,x11,x12,x13,x14,x15,x16,x17,x18,x19,x20,x21,x22,x23,x24,x25,x26,x27,x28,x29,-⟩:=hR;simp only [IsV] at x0 x1 x2 x3 x4 x5 x6 x7 x8 x9 x10 x11 x12 x13 x14 x15 x16 x17 x18 x19 x20 x21 x22 x23 x24 x25 x26 x27 x28 x29;simp only [putsFrom,x0,x1,x2,x3,x4,x5,x6,x7,x8,x9,x10,x11,x12,x13,x14,x15,x16,x17,x18,x19,x20,x21,x22,x23,x24,x25,x26,x27,x28,x29];clear x0 x1 x2 x3 x4 x5 x6 x7 x8 x9 x10 x11 x12 x13 x14 x15 x16 x17 x18 x19 x20 x21 x22 x23 x24 x25 x26 x27 x28 x29;go_simp;refine hK2 _ _ (hJ _ _ ?_);(repeat apply Exists.intro)
    refine ⟨⟨rfl,GC.out.drew.trans (hz.mono GC.out.size)⟩,rfl⟩
  | false =>
   cases more' with
   | false =>
    have HA:Hid (ans=true):=by unfold Hid; rw [HV.out]; simp
    rw [HA.out] at hJ;clear HV HA;refine wp_region_growH [19,20,21,22,23,24,25,26,27,28,29,30,31,32,33,34,35,36,37,38,39,40,41,42,43,44,45,46,47,4] (by kernel_rfl) (by kernel_rfl) ?_;refine GCh.val (n:=0) (fun v=>[IsV v]) (fun _=>rfl) rfl ?_;apply Exists.intro;refine And.intro ?_ ?_
    ·intro K' a wy ho hd hb hK;rw [if_pos (wanted_none rfl)];have o2:=ho 2 (by decide);simp [slot] at o2;clear hd ho;go_simp;try go_bits
     exact hK _ _ rfl (Below.refl _ _)
    refine GCh.val (n:=1) (fun v=>[_,IsV v]) (fun _=>rfl) rfl ?_;apply Exists.intro;refine And.intro ?_ ?_
    ·intro K' a wy ho hd hb hK;rw [if_pos (wanted_none rfl)];have q0:=hd ⟨0,.data⟩ (by simp) rfl;simp [rAt,IsV,slot] at q0;clear hd ho;obtain ⟨k0,k1,k2,k3,k4,k5,k6,k7⟩:=(KA2.out).kept ((Below.refl _ _).drew.trans hb); obtain ⟨j0,j1,j2,j3,j4,j5,j6,j7⟩:=(KB2.out).kept ((Below.refl _ _).drew.trans hb); dsimp only at k0 k1 k2 k3 k4 k5 k6 k7 j0 j1 j2 j3 j4 j5 j6 j7;go_simp;try go_bits
     exact hK _ _ rfl (Below.refl _ _)
    refine GCh.val (n:=2) (fun v=>[_,_,IsV v]) (fun _=>rfl) rfl ?_;apply Exists.intro;refine And.intro ?_ ?_
    ·intro K' a wy ho hd hb hK;rw [if_pos (wanted_none rfl)];have q1:=hd ⟨1,.data⟩ (by simp) rfl;simp [rAt,IsV,slot] at q1;clear hd ho;go_simp;try go_bits
     exact hK _ _ rfl (Below.refl _ _)
    refine GCh.val (n:=3) (fun v=>[_,_,_,IsV v]) (fun _=>rfl) rfl ?_;apply Exists.intro;refine And.intro ?_ ?_
    ·intro K' a wy ho hd hb hK;rw [if_pos (wanted_none rfl)];have q2:=hd ⟨2,.data⟩ (by simp) rfl;simp [rAt,IsV,slot] at q2;clear hd ho;go_simp;try go_bits
     exact hK _ _ rfl (Below.refl _ _)
    refine GCh.val (n:=4) (fun v=>[_,_,_,_,IsV v]) (fun _=>rfl) rfl ?_;apply Exists.intro;refine And.intro ?_ ?_
    ·intro K' a wy ho hd hb hK;have hgs:IsV (.bool true) (slot a 22) wy:=hd ⟨3,.guard⟩ (by simp) rfl;rw [wanted_of (j:=3) (d:=22) (b:=true) (want:=true) (hg:=rfl) (ho:=rfl) (hd:=rfl) (hs:=hgs)];rw [if_pos (by decide)];clear hgs;have o3:=ho 3 (by decide);simp [slot] at o3;clear hd ho;go_simp;try go_bits
     exact hK _ _ rfl (Below.refl _ _)
    refine GCh.val (n:=5) (fun v=>[_,_,_,_,_,IsV v]) (fun _=>rfl) rfl ?_;apply Exists.intro;refine And.intro ?_ ?_
    ·intro K' a wy ho hd hb hK;have hgs:IsV (.bool true) (slot a 22) wy:=hd ⟨3,.guard⟩ (by simp) rfl;rw [wanted_of (j:=3) (d:=22) (b:=true) (want:=true) (hg:=rfl) (ho:=rfl) (hd:=rfl) (hs:=hgs)];rw [if_pos (by decide)];clear hgs;have q4:=hd ⟨4,.data⟩ (by simp) rfl;simp [rAt,IsV,slot] at q4;clear hd ho;obtain ⟨k0,k1,k2,k3,k4,k5,k6,k7⟩:=(KA2.out).kept ((Below.refl _ _).drew.trans hb); obtain ⟨j0,j1,j2,j3,j4,j5,j6,j7⟩:=(KB2.out).kept ((Below.refl _ _).drew.trans hb); dsimp only at k0 k1 k2 k3 k4 k5 k6 k7 j0 j1 j2 j3 j4 j5 j6 j7;go_simp;try go_bits
     exact hK _ _ rfl (Below.refl _ _)
    refine GCh.val (n:=6) (fun v=>[_,_,_,_,_,_,IsV v]) (fun _=>rfl) rfl ?_;apply Exists.intro;refine And.intro ?_ ?_
    ·intro K' a wy ho hd hb hK;have hgs:IsV (.bool true) (slot a 22) wy:=hd ⟨3,.guard⟩ (by simp) rfl;rw [wanted_of (j:=3) (d:=22) (b:=true) (want:=true) (hg:=rfl) (ho:=rfl) (hd:=rfl) (hs:=hgs)];rw [if_pos (by decide)];clear hgs;have q5:=hd ⟨5,.data⟩ (by simp) rfl;simp [rAt,IsV,slot] at q5;clear hd ho;go_simp;try go_bits
     exact hK _ _ rfl (Below.refl _ _)
    refine GCh.val (n:=7) (fun v=>[_,_,_,_,_,_,_,IsV v]) (fun _=>rfl) rfl ?_;apply Exists.intro;refine And.intro ?_ ?_
    ·intro K' a wy ho hd hb hK;have hgs:IsV (.bool true) (slot a 22) wy:=hd ⟨3,.guard⟩ (by simp) rfl;rw [wanted_of (j:=3) (d:=22) (b:=true) (want:=true) (hg:=rfl) (ho:=rfl) (hd:=rfl) (hs:=hgs)];rw [if_pos (by decide)];clear hgs;have q6:=hd ⟨6,.data⟩ (by simp) rfl;simp [rAt,IsV,slot] at q6;clear hd ho;go_simp;try go_bits
     exact hK _ _ rfl (Below.refl _ _)
    refine GCh.val (n:=8) (fun v=>[_,_,_,_,_,_,_,_,IsV v]) (fun _=>rfl) rfl ?_;apply Exists.intro;refine And.intro ?_ ?_
    ·intro K' a wy ho hd hb hK;have hgs:IsV (.bool true) (slot a 26) wy:=hd ⟨7,.guard⟩ (by simp) rfl;rw [wanted_of (j:=7) (d:=26) (b:=true) (want:=false) (hg:=rfl) (ho:=rfl) (hd:=rfl) (hs:=hgs)];rw [if_neg (by decide)];exact hK undef _ rfl (Below.refl _ _)
    refine GCh.val (n:=9) (fun v=>[_,_,_,_,_,_,_,_,_,IsV v]) (fun _=>rfl) rfl ?_;apply Exists.intro;refine And.intro ?_ ?_
    ·intro K' a wy ho hd hb hK;have hgs:IsV (.bool true) (slot a 26) wy:=hd ⟨7,.guard⟩ (by simp) rfl;rw [wanted_of (j:=7) (d:=26) (b:=true) (want:=false) (hg:=rfl) (ho:=rfl) (hd:=rfl) (hs:=hgs)];rw [if_neg (by decide)];exact hK undef _ rfl (Below.refl _ _)
    refine GCh.val (n:=10) (fun v=>[_,_,_,_,_,_,_,_,_,_,IsV v]) (fun _=>rfl) rfl ?_;apply Exists.intro;refine And.intro ?_ ?_
    ·intro K' a wy ho hd hb hK;have hgs:IsV (.bool true) (slot a 26) wy:=hd ⟨7,.guard⟩ (by simp) rfl;rw [wanted_of (j:=7) (d:=26) (b:=true) (want:=false) (hg:=rfl) (ho:=rfl) (hd:=rfl) (hs:=hgs)];rw [if_neg (by decide)];exact hK undef _ rfl (Below.refl _ _)
    refine GCh.val (n:=11) (fun v=>[_,_,_,_,_,_,_,_,_,_,_,IsV v]) (fun _=>rfl) rfl ?_;apply Exists.intro;refine And.intro ?_ ?_
    ·intro K' a wy ho hd hb hK;have hgs:IsV (.bool true) (slot a 26) wy:=hd ⟨7,.guard⟩ (by simp) rfl;rw [wanted_of (j:=7) (d:=26) (b:=true) (want:=false) (hg:=rfl) (ho:=rfl) (hd:=rfl) (hs:=hgs)];rw [if_neg (by decide)];exact hK undef _ rfl (Below.refl _ _)
    refine GCh.val (n:=12) (fun v=>[_,_,_,_,_,_,_,_,_,_,_,_,IsV v]) (fun _=>rfl) rfl ?_;apply Exists.intro;refine And.intro ?_ ?_
    ·intro K' a wy ho hd hb hK;have hgs:IsV (.bool true) (slot a 26) wy:=hd ⟨7,.guard⟩ (by simp) rfl;rw [wanted_of (j:=7) (d:=26) (b:=true) (want:=false) (hg:=rfl) (ho:=rfl) (hd:=rfl) (hs:=hgs)];rw [if_neg (by decide)];exact hK undef _ rfl (Below.refl _ _)
    refine GCh.val (n:=13) (fun v=>[_,_,_,_,_,_,_,_,_,_,_,_,_,IsV v]) (fun _=>rfl) rfl ?_;apply Exists.intro;refine And.intro ?_ ?_
    ·intro K' a wy ho hd hb hK;have hgs:IsV (.bool true) (slot a 26) wy:=hd ⟨7,.guard⟩ (by simp) rfl;rw [wanted_of (j:=7) (d:=26) (b:=true) (want:=false) (hg:=rfl) (ho:=rfl) (hd:=rfl) (hs:=hgs)];rw [if_neg (by decide)];exact hK undef _ rfl (Below.refl _ _)
    refine GCh.val (n:=14) (fun v=>[_,_,_,_,_,_,_,_,_,_,_,_,_,_,IsV v]) (fun _=>rfl) rfl ?_;apply Exists.intro;refine And.intro ?_ ?_
    ·intro K' a wy ho hd hb hK;have hgs:IsV (.bool true) (slot a 22) wy:=hd ⟨3,.guard⟩ (by simp) rfl;rw [wanted_of (j:=3) (d:=22) (b:=true) (want:=true) (hg:=rfl) (ho:=rfl) (hd:=rfl) (hs:=hgs)];rw [if_pos (by decide)];clear hgs;have q7:=hd ⟨7,.data⟩ (by simp) rfl;simp [rAt,IsV,slot] at q7;have q13:=hd ⟨13,.data⟩ (by simp) rfl;simp [rAt,IsV,slot] at q13;clear hd ho;go_simp;try go_bits
     exact hK _ _ rfl (Below.refl _ _)
    refine GCh.val (n:=15) (fun v=>[_,_,_,_,_,_,_,_,_,_,_,_,_,_,_,IsV v]) (fun _=>rfl) rfl ?_;apply Exists.intro;refine And.intro ?_ ?_
    ·intro K' a wy ho hd hb hK;rw [if_pos (wanted_none rfl)];have q3:=hd ⟨3,.data⟩ (by simp) rfl;simp [rAt,IsV,slot] at q3;have q14:=hd ⟨14,.data⟩ (by simp) rfl;simp [rAt,IsV,slot] at q14;clear hd ho;go_simp;try go_bits
     exact hK _ _ rfl (Below.refl _ _)
    refine GCh.val (n:=16) (fun v=>[_,_,_,_,_,_,_,_,_,_,_,_,_,_,_,_,IsV v]) (fun _=>rfl) rfl ?_;apply Exists.intro;refine And.intro ?_ ?_
    ·intro K' a wy ho hd hb hK;rw [if_pos (wanted_none rfl)];have q15:=hd ⟨15,.data⟩ (by simp) rfl;simp [rAt,IsV,slot] at q15;clear hd ho;go_simp;try go_bits
     exact hK _ _ rfl (Below.refl _ _)
    refine GCh.val (n:=17) (fun v=>[_,_,_,_,_,_,_,_,_,_,_,_,_,_,_,_,_,IsV v]) (fun _=>rfl) rfl ?_;apply Exists.intro;refine And.intro ?_ ?_
    ·intro K' a wy ho hd hb hK;have hgs:IsV (.bool true) (slot a 35) wy:=hd ⟨16,.guard⟩ (by simp) rfl;rw [wanted_of (j:=16) (d:=35) (b:=true) (want:=false) (hg:=rfl) (ho:=rfl) (hd:=rfl) (hs:=hgs)];rw [if_neg (by decide)];exact hK undef _ rfl (Below.refl _ _)
    refine GCh.val (n:=18) (fun v=>[_,_,_,_,_,_,_,_,_,_,_,_,_,_,_,_,_,_,IsV v]) (fun _=>rfl) rfl ?_;apply Exists.intro;refine And.intro ?_ ?_
    ·intro K' a wy ho hd hb hK;have hgs:IsV (.bool true) (slot a 35) wy:=hd ⟨16,.guard⟩ (by simp) rfl;rw [wanted_of (j:=16) (d:=35) (b:=true) (want:=false) (hg:=rfl) (ho:=rfl) (hd:=rfl) (hs:=hgs)];rw [if_neg (by decide)];exact hK undef _ rfl (Below.refl _ _)
    refine GCh.val (n:=19) (fun v=>[_,_,_,_,_,_,_,_,_,_,_,_,_,_,_,_,_,_,_,IsV v]) (fun _=>rfl) rfl ?_;apply Exists.intro;refine And.intro ?_ ?_
    ·intro K' a wy ho hd hb hK;have hgs:IsV (.bool true) (slot a 35) wy:=hd ⟨16,.guard⟩ (by simp) rfl;rw [wanted_of (j:=16) (d:=35) (b:=true) (want:=false) (hg:=rfl) (ho:=rfl) (hd:=rfl) (hs:=hgs)];rw [if_neg (by decide)];exact hK undef _ rfl (Below.refl _ _)
    refine GCh.val (n:=20) (fun v=>[_,_,_,_,_,_,_,_,_,_,_,_,_,_,_,_,_,_,_,_,IsV v]) (fun _=>rfl) rfl ?_;apply Exists.intro;refine And.intro ?_ ?_
    ·intro K' a wy ho hd hb hK;have hgs:IsV (.bool true) (slot a 35) wy:=hd ⟨16,.guard⟩ (by simp) rfl;rw [wanted_of (j:=16) (d:=35) (b:=true) (want:=false) (hg:=rfl) (ho:=rfl) (hd:=rfl) (hs:=hgs)];rw [if_neg (by decide)];exact hK undef _ rfl (Below.refl _ _)
    refine GCh.val (n:=21) (fun v=>[_,_,_,_,_,_,_,_,_,_,_,_,_,_,_,_,_,_,_,_,_,IsV v]) (fun _=>rfl) rfl ?_;apply Exists.intro;refine And.intro ?_ ?_
    ·intro K' a wy ho hd hb hK;have hgs:IsV undef (slot a 39) wy:=hd ⟨20,.guard⟩ (by simp) rfl;rw [wanted_undef (j:=20) (d:=39) (hg:=rfl) (ho:=rfl) (hd:=rfl) (hs:=hgs)];rw [if_neg (by decide)];exact hK undef _ rfl (Below.refl _ _)
    refine GCh.val (n:=22) (fun v=>[_,_,_,_,_,_,_,_,_,_,_,_,_,_,_,_,_,_,_,_,_,_,IsV v]) (fun _=>rfl) rfl ?_;apply Exists.intro;refine And.intro ?_ ?_
    ·intro K' a wy ho hd hb hK;have hgs:IsV undef (slot a 39) wy:=hd ⟨20,.guard⟩ (by simp) rfl;rw [wanted_undef (j:=20) (d:=39) (hg:=rfl) (ho:=rfl) (hd:=rfl) (hs:=hgs)];rw [if_neg (by decide)];exact hK undef _ rfl (Below.refl _ _)
    refine GCh.val (n:=23) (fun v=>[_,_,_,_,_,_,_,_,_,_,_,_,_,_,_,_,_,_,_,_,_,_,_,IsV v]) (fun _=>rfl) rfl ?_;apply Exists.intro;refine And.intro ?_ ?_
    ·intro K' a wy ho hd hb hK;have hgs:IsV undef (slot a 39) wy:=hd ⟨20,.guard⟩ (by simp) rfl;rw [wanted_undef (j:=20) (d:=39) (hg:=rfl) (ho:=rfl) (hd:=rfl) (hs:=hgs)];rw [if_neg (by decide)];exact hK undef _ rfl (Below.refl _ _)
    refine GCh.val (n:=24) (fun v=>[_,_,_,_,_,_,_,_,_,_,_,_,_,_,_,_,_,_,_,_,_,_,_,_,IsV v]) (fun _=>rfl) rfl ?_;apply Exists.intro;refine And.intro ?_ ?_
    ·intro K' a wy ho hd hb hK;have hgs:IsV undef (slot a 39) wy:=hd ⟨20,.guard⟩ (by simp) rfl;rw [wanted_undef (j:=20) (d:=39) (hg:=rfl) (ho:=rfl) (hd:=rfl) (hs:=hgs)];rw [if_neg (by decide)];exact hK undef _ rfl (Below.refl _ _)
    refine GCh.val (n:=25) (fun v=>[_,_,_,_,_,_,_,_,_,_,_,_,_,_,_,_,_,_,_,_,_,_,_,_,_,IsV v]) (fun _=>rfl) rfl ?_;apply Exists.intro;refine And.intro ?_ ?_
    ·intro K' a wy ho hd hb hK;have hgs:IsV undef (slot a 39) wy:=hd ⟨20,.guard⟩ (by simp) rfl;rw [wanted_undef (j:=20) (d:=39) (hg:=rfl) (ho:=rfl) (hd:=rfl) (hs:=hgs)];rw [if_neg (by decide)];exact hK undef _ rfl (Below.refl _ _)
    refine GCh.val (n:=26) (fun v=>[_,_,_,_,_,_,_,_,_,_,_,_,_,_,_,_,_,_,_,_,_,_,_,_,_,_,IsV v]) (fun _=>rfl) rfl ?_;apply Exists.intro;refine And.intro ?_ ?_
    ·intro K' a wy ho hd hb hK;have hgs:IsV undef (slot a 39) wy:=hd ⟨20,.guard⟩ (by simp) rfl;rw [wanted_undef (j:=20) (d:=39) (hg:=rfl) (ho:=rfl) (hd:=rfl) (hs:=hgs)];rw [if_neg (by decide)];exact hK undef _ rfl (Below.refl _ _)
    refine GCh.val (n:=27) (fun v=>[_,_,_,_,_,_,_,_,_,_,_,_,_,_,_,_,_,_,_,_,_,_,_,_,_,_,_,IsV v]) (fun _=>rfl) rfl ?_;apply Exists.intro;refine And.intro ?_ ?_
    ·intro K' a wy ho hd hb hK;have hgs:IsV (.bool true) (slot a 35) wy:=hd ⟨16,.guard⟩ (by simp) rfl;rw [wanted_of (j:=16) (d:=35) (b:=true) (want:=false) (hg:=rfl) (ho:=rfl) (hd:=rfl) (hs:=hgs)];rw [if_neg (by decide)];exact hK undef _ rfl (Below.refl _ _)
    refine GCh.val (n:=28) (fun v=>[_,_,_,_,_,_,_,_,_,_,_,_,_,_,_,_,_,_,_,_,_,_,_,_,_,_,_,_,IsV v]) (fun _=>rfl) rfl ?_;apply Exists.intro;refine And.intro ?_ ?_
    ·intro K' a wy ho hd hb hK;rw [if_pos (wanted_none rfl)];have q16:=hd ⟨16,.data⟩ (by simp) rfl;simp [rAt,IsV,slot] at q16;have q27:=hd ⟨27,.data⟩ (by simp) rfl;simp [rAt,IsV,slot] at q27;clear hd ho;go_simp;try go_bits
     exact hK _ _ rfl (Below.refl _ _)
    refine GCh.val (n:=29) (fun v=>[_,_,_,_,_,_,_,_,_,_,_,_,_,_,_,_,_,_,_,_,_,_,_,_,_,_,_,_,_,IsV v]) (fun _=>rfl) rfl ?_;apply Exists.intro;refine And.intro ?_ ?_
    ·intro K' a wy ho hd hb hK;rw [if_pos (wanted_none rfl)];have q28:=hd ⟨28,.data⟩ (by simp) rfl;simp [rAt,IsV,slot] at q28;clear hd ho;go_simp;try go_bits
     exact hK _ _ rfl (Below.refl _ _)
    intro X wz hR hz;obtain ⟨x0,x1,x2,x3,x4,x5,x6,x7,x8,x9,x10,x11,x12,x13,x14,x15,x16,x17,x18,x19,x20,x21,x22,x23,x24,x25,x26,x27,x28,x29,-⟩:=hR;simp only [IsV] at x0 x1 x2 x3 x4 x5 x6 x7 x8 x9 x10 x11 x12 x13 x14 x15 x16 x17 x18 x19 x20 x21 x22 x23 x24 x25 x26 x27 x28 x29;simp only [putsFrom,x0,x1,x2,x3,x4,x5,x6,x7,x8,x9,x10,x11,x12,x13,x14,x15,x16,x17,x18,x19,x20,x21,x22,x23,x24,x25,x26,x27,x28,x29];clear x0 x1 x2 x3 x4 x5 x6 x7 x8 x9 x10 x11 x12 x13 x14 x15 x16 x17 x18 x19 x20 x21 x22 x23 x24 x25 x26 x27 x28 x29;go_simp;refine hK2 _ _ (hJ _ _ ?_);(repeat apply Exists.intro)
    refine ⟨⟨rfl,GC.out.drew.trans (hz.mono GC.out.size)⟩,rfl⟩
   | true =>
    by_cases c3:ea≤8*off'
    ·have d3:decide (ea≤8*off')=true:=decide_eq_true c3;have HA:Hid (ans=true):=by unfold Hid; rw [HV.out,d3]; simp
     rw [HA.out] at hJ;clear HV HA c3;refine wp_region_growH [19,20,21,22,23,24,25,26,27,28,29,30,31,32,33,34,35,36,37,38,39,40,41,42,43,44,45,46,47,4] (by kernel_rfl) (by kernel_rfl) ?_;refine GCh.val (n:=0) (fun v=>[IsV v]) (fun _=>rfl) rfl ?_;apply Exists.intro;refine And.intro ?_ ?_
     ·intro K' a wy ho hd hb hK;rw [if_pos (wanted_none rfl)];have o2:=ho 2 (by decide);simp [slot] at o2;clear hd ho;go_simp;try go_bits
      exact hK _ _ rfl (Below.refl _ _)
     refine GCh.val (n:=1) (fun v=>[_,IsV v]) (fun _=>rfl) rfl ?_;apply Exists.intro;refine And.intro ?_ ?_
     ·intro K' a wy ho hd hb hK;rw [if_pos (wanted_none rfl)];have q0:=hd ⟨0,.data⟩ (by simp) rfl;simp [rAt,IsV,slot] at q0;clear hd ho;obtain ⟨k0,k1,k2,k3,k4,k5,k6,k7⟩:=(KA2.out).kept ((Below.refl _ _).drew.trans hb); obtain ⟨j0,j1,j2,j3,j4,j5,j6,j7⟩:=(KB2.out).kept ((Below.refl _ _).drew.trans hb); dsimp only at k0 k1 k2 k3 k4 k5 k6 k7 j0 j1 j2 j3 j4 j5 j6 j7;go_simp;try go_bits
      exact hK _ _ rfl (Below.refl _ _)
     refine GCh.val (n:=2) (fun v=>[_,_,IsV v]) (fun _=>rfl) rfl ?_;apply Exists.intro;refine And.intro ?_ ?_
     ·intro K' a wy ho hd hb hK;rw [if_pos (wanted_none rfl)];have q1:=hd ⟨1,.data⟩ (by simp) rfl;simp [rAt,IsV,slot] at q1;clear hd ho;go_simp;try go_bits
      exact hK _ _ rfl (Below.refl _ _)
     refine GCh.val (n:=3) (fun v=>[_,_,_,IsV v]) (fun _=>rfl) rfl ?_;apply Exists.intro;refine And.intro ?_ ?_
     ·intro K' a wy ho hd hb hK;rw [if_pos (wanted_none rfl)];have q2:=hd ⟨2,.data⟩ (by simp) rfl;simp [rAt,IsV,slot] at q2;clear hd ho;go_simp;try go_bits
      exact hK _ _ rfl (Below.refl _ _)
     refine GCh.val (n:=4) (fun v=>[_,_,_,_,IsV v]) (fun _=>rfl) rfl ?_;apply Exists.intro;refine And.intro ?_ ?_
     ·intro K' a wy ho hd hb hK;have hgs:IsV (.bool true) (slot a 22) wy:=hd ⟨3,.guard⟩ (by simp) rfl;rw [wanted_of (j:=3) (d:=22) (b:=true) (want:=true) (hg:=rfl) (ho:=rfl) (hd:=rfl) (hs:=hgs)];rw [if_pos (by decide)];clear hgs;have o3:=ho 3 (by decide);simp [slot] at o3;clear hd ho;go_simp;try go_bits
      exact hK _ _ rfl (Below.refl _ _)
     refine GCh.val (n:=5) (fun v=>[_,_,_,_,_,IsV v]) (fun _=>rfl) rfl ?_;apply Exists.intro;refine And.intro ?_ ?_
     ·intro K' a wy ho hd hb hK;have hgs:IsV (.bool true) (slot a 22) wy:=hd ⟨3,.guard⟩ (by simp) rfl;rw [wanted_of (j:=3) (d:=22) (b:=true) (want:=true) (hg:=rfl) (ho:=rfl) (hd:=rfl) (hs:=hgs)];rw [if_pos (by decide)];clear hgs;have q4:=hd ⟨4,.data⟩ (by simp) rfl;simp [rAt,IsV,slot] at q4;clear hd ho;obtain ⟨k0,k1,k2,k3,k4,k5,k6,k7⟩:=(KA2.out).kept ((Below.refl _ _).drew.trans hb); obtain ⟨j0,j1,j2,j3,j4,j5,j6,j7⟩:=(KB2.out).kept ((Below.refl _ _).drew.trans hb); dsimp only at k0 k1 k2 k3 k4 k5 k6 k7 j0 j1 j2 j3 j4 j5 j6 j7;go_simp;try go_bits
      exact hK _ _ rfl (Below.refl _ _)
     refine GCh.val (n:=6) (fun v=>[_,_,_,_,_,_,IsV v]) (fun _=>rfl) rfl ?_;apply Exists.intro;refine And.intro ?_ ?_
     ·intro K' a wy ho hd hb hK;have hgs:IsV (.bool true) (slot a 22) wy:=hd ⟨3,.guard⟩ (by simp) rfl;rw [wanted_of (j:=3) (d:=22) (b:=true) (want:=true) (hg:=rfl) (ho:=rfl) (hd:=rfl) (hs:=hgs)];rw [if_pos (by decide)];clear hgs;have q5:=hd ⟨5,.data⟩ (by simp) rfl;simp [rAt,IsV,slot] at q5;clear hd ho;go_simp;try go_bits
      exact hK _ _ rfl (Below.refl _ _)
     refine GCh.val (n:=7) (fun v=>[_,_,_,_,_,_,_,IsV v]) (fun _=>rfl) rfl ?_;apply Exists.intro;refine And.intro ?_ ?_
     ·intro K' a wy ho hd hb hK;have hgs:IsV (.bool true) (slot a 22) wy:=hd ⟨3,.guard⟩ (by simp) rfl;rw [wanted_of (j:=3) (d:=22) (b:=true) (want:=true) (hg:=rfl) (ho:=rfl) (hd:=rfl) (hs:=hgs)];rw [if_pos (by decide)];clear hgs;have q6:=hd ⟨6,.data⟩ (by simp) rfl;simp [rAt,IsV,slot] at q6;clear hd ho;go_simp;try go_bits
      exact hK _ _ rfl (Below.refl _ _)
     refine GCh.val (n:=8) (fun v=>[_,_,_,_,_,_,_,_,IsV v]) (fun _=>rfl) rfl ?_;apply Exists.intro;refine And.intro ?_ ?_
     ·intro K' a wy ho hd hb hK;have hgs:IsV (.bool false) (slot a 26) wy:=hd ⟨7,.guard⟩ (by simp) rfl;rw [wanted_of (j:=7) (d:=26) (b:=false) (want:=false) (hg:=rfl) (ho:=rfl) (hd:=rfl) (hs:=hgs)];rw [if_pos (by decide)];clear hgs;have o3:=ho 3 (by decide);simp [slot] at o3;clear hd ho;go_simp;try go_bits
      exact hK _ _ rfl (Below.refl _ _)
     refine GCh.val (n:=9) (fun v=>[_,_,_,_,_,_,_,_,_,IsV v]) (fun _=>rfl) rfl ?_;apply Exists.intro;refine And.intro ?_ ?_
     ·intro K' a wy ho hd hb hK;have hgs:IsV (.bool false) (slot a 26) wy:=hd ⟨7,.guard⟩ (by simp) rfl;rw [wanted_of (j:=7) (d:=26) (b:=false) (want:=false) (hg:=rfl) (ho:=rfl) (hd:=rfl) (hs:=hgs)];rw [if_pos (by decide)];clear hgs;have q8:=hd ⟨8,.data⟩ (by simp) rfl;simp [rAt,IsV,slot] at q8;clear hd ho;obtain ⟨k0,k1,k2,k3,k4,k5,k6,k7⟩:=(KA2.out).kept ((Below.refl _ _).drew.trans hb); obtain ⟨j0,j1,j2,j3,j4,j5,j6,j7⟩:=(KB2.out).kept ((Below.refl _ _).drew.trans hb); dsimp only at k0 k1 k2 k3 k4 k5 k6 k7 j0 j1 j2 j3 j4 j5 j6 j7;go_simp;try go_bits
      exact hK _ _ rfl (Below.refl _ _)
     refine GCh.val (n:=10) (fun v=>[_,_,_,_,_,_,_,_,_,_,IsV v]) (fun _=>rfl) rfl ?_;apply Exists.intro;refine And.intro ?_ ?_
     ·intro K' a wy ho hd hb hK;have hgs:IsV (.bool false) (slot a 26) wy:=hd ⟨7,.guard⟩ (by simp) rfl;rw [wanted_of (j:=7) (d:=26) (b:=false) (want:=false) (hg:=rfl) (ho:=rfl) (hd:=rfl) (hs:=hgs)];rw [if_pos (by decide)];clear hgs;have q9:=hd ⟨9,.data⟩ (by simp) rfl;simp [rAt,IsV,slot] at q9;clear hd ho;go_simp;try go_bits
      exact hK _ _ rfl (Below.refl _ _)
     refine GCh.val (n:=11) (fun v=>[_,_,_,_,_,_,_,_,_,_,_,IsV v]) (fun _=>rfl) rfl ?_;apply Exists.intro;refine And.intro ?_ ?_
     ·intro K' a wy ho hd hb hK;have hgs:IsV (.bool false) (slot a 26) wy:=hd ⟨7,.guard⟩ (by simp) rfl;rw [wanted_of (j:=7) (d:=26) (b:=false) (want:=false) (hg:=rfl) (ho:=rfl) (hd:=rfl) (hs:=hgs)];rw [if_pos (by decide)];clear hgs;have o2:=ho 2 (by decide);simp [slot] at o2;clear hd ho;obtain ⟨k0,k1,k2,k3,k4,k5,k6,k7⟩:=(KA2.out).kept ((Below.refl _ _).drew.trans hb); obtain ⟨j0,j1,j2,j3,j4,j5,j6,j7⟩:=(KB2.out).kept ((Below.refl _ _).drew.trans hb); dsimp only at k0 k1 k2 k3 k4 k5 k6 k7 j0 j1 j2 j3 j4 j5 j6 j7;go_simp;try go_bits
      exact hK _ _ rfl (Below.refl _ _)
     refine GCh.val (n:=12) (fun v=>[_,_,_,_,_,_,_,_,_,_,_,_,IsV v]) (fun _=>rfl) rfl ?_;apply Exists.intro;refine And.intro ?_ ?_
     ·intro K' a wy ho hd hb hK;have hgs:IsV (.bool false) (slot a 26) wy:=hd ⟨7,.guard⟩ (by simp) rfl;rw [wanted_of (j:=7) (d:=26) (b:=false) (want:=false) (hg:=rfl) (ho:=rfl) (hd:=rfl) (hs:=hgs)];rw [if_pos (by decide)];clear hgs;have q11:=hd ⟨11,.data⟩ (by simp) rfl;simp [rAt,IsV,slot] at q11;clear hd ho;go_simp;refine (HEa.out wy).mono ?_;rintro e wz ⟨rfl,hz⟩;exact hK _ _ rfl hz
     refine GCh.val (n:=13) (fun v=>[_,_,_,_,_,_,_,_,_,_,_,_,_,IsV v]) (fun _=>rfl) rfl ?_;apply Exists.intro;refine And.intro ?_ ?_
     ·intro K' a wy ho hd hb hK;have hgs:IsV (.bool false) (slot a 26) wy:=hd ⟨7,.guard⟩ (by simp) rfl;rw [wanted_of (j:=7) (d:=26) (b:=false) (want:=false) (hg:=rfl) (ho:=rfl) (hd:=rfl) (hs:=hgs)];rw [if_pos (by decide)];clear hgs;have q10:=hd ⟨10,.data⟩ (by simp) rfl;simp [rAt,IsV,slot] at q10;have q12:=hd ⟨12,.data⟩ (by simp) rfl;simp [rAt,IsV,slot] at q12;clear hd ho;go_simp;try go_bits
      exact hK _ _ rfl (Below.refl _ _)
     refine GCh.val (n:=14) (fun v=>[_,_,_,_,_,_,_,_,_,_,_,_,_,_,IsV v]) (fun _=>rfl) rfl ?_;apply Exists.intro;refine And.intro ?_ ?_
     ·intro K' a wy ho hd hb hK;have hgs:IsV (.bool true) (slot a 22) wy:=hd ⟨3,.guard⟩ (by simp) rfl;rw [wanted_of (j:=3) (d:=22) (b:=true) (want:=true) (hg:=rfl) (ho:=rfl) (hd:=rfl) (hs:=hgs)];rw [if_pos (by decide)];clear hgs;have q7:=hd ⟨7,.data⟩ (by simp) rfl;simp [rAt,IsV,slot] at q7;have q13:=hd ⟨13,.data⟩ (by simp) rfl;simp [rAt,IsV,slot] at q13;clear hd ho;go_simp;try go_bits
      exact hK _ _ rfl (Below.refl _ _)
     refine GCh.val (n:=15) (fun v=>[_,_,_,_,_,_,_,_,_,_,_,_,_,_,_,IsV v]) (fun _=>rfl) rfl ?_;apply Exists.intro;refine And.intro ?_ ?_
     ·intro K' a wy ho hd hb hK;rw [if_pos (wanted_none rfl)];have q3:=hd ⟨3,.data⟩ (by simp) rfl;simp [rAt,IsV,slot] at q3;have q14:=hd ⟨14,.data⟩ (by simp) rfl;simp [rAt,IsV,slot] at q14;clear hd ho;go_simp;try go_bits
      exact hK _ _ rfl (Below.refl _ _)
     refine GCh.val (n:=16) (fun v=>[_,_,_,_,_,_,_,_,_,_,_,_,_,_,_,_,IsV v]) (fun _=>rfl) rfl ?_;apply Exists.intro;refine And.intro ?_ ?_
     ·intro K' a wy ho hd hb hK;rw [if_pos (wanted_none rfl)];have q15:=hd ⟨15,.data⟩ (by simp) rfl;simp [rAt,IsV,slot] at q15;clear hd ho;go_simp;try go_bits
      exact hK _ _ rfl (Below.refl _ _)
     refine GCh.val (n:=17) (fun v=>[_,_,_,_,_,_,_,_,_,_,_,_,_,_,_,_,_,IsV v]) (fun _=>rfl) rfl ?_;apply Exists.intro;refine And.intro ?_ ?_
     ·intro K' a wy ho hd hb hK;have hgs:IsV (.bool true) (slot a 35) wy:=hd ⟨16,.guard⟩ (by simp) rfl;rw [wanted_of (j:=16) (d:=35) (b:=true) (want:=false) (hg:=rfl) (ho:=rfl) (hd:=rfl) (hs:=hgs)];rw [if_neg (by decide)];exact hK undef _ rfl (Below.refl _ _)
     refine GCh.val (n:=18) (fun v=>[_,_,_,_,_,_,_,_,_,_,_,_,_,_,_,_,_,_,IsV v]) (fun _=>rfl) rfl ?_;apply Exists.intro;refine And.intro ?_ ?_
     ·intro K' a wy ho hd hb hK;have hgs:IsV (.bool true) (slot a 35) wy:=hd ⟨16,.guard⟩ (by simp) rfl;rw [wanted_of (j:=16) (d:=35) (b:=true) (want:=false) (hg:=rfl) (ho:=rfl) (hd:=rfl) (hs:=hgs)];rw [if_neg (by decide)];exact hK undef _ rfl (Below.refl _ _)
     refine GCh.val (n:=19) (fun v=>[_,_,_,_,_,_,_,_,_,_,_,_,_,_,_,_,_,_,_,IsV v]) (fun _=>rfl) rfl ?_;apply Exists.intro;refine And.intro ?_ ?_
     ·intro K' a wy ho hd hb hK;have hgs:IsV (.bool true) (slot a 35) wy:=hd ⟨16,.guard⟩ (by simp) rfl;rw [wanted_of (j:=16) (d:=35) (b:=true) (want:=false) (hg:=rfl) (ho:=rfl) (hd:=rfl) (hs:=hgs)];rw [if_neg (by decide)];exact hK undef _ rfl (Below.refl _ _)
     refine GCh.val (n:=20) (fun v=>[_,_,_,_,_,_,_,_,_,_,_,_,_,_,_,_,_,_,_,_,IsV v]) (fun _=>rfl) rfl ?_;apply Exists.intro;refine And.intro ?_ ?_
     ·intro K' a wy ho hd hb hK;have hgs:IsV (.bool true) (slot a 35) wy:=hd ⟨16,.guard⟩ (by simp) rfl;rw [wanted_of (j:=16) (d:=35) (b:=true) (want:=false) (hg:=rfl) (ho:=rfl) (hd:=rfl) (hs:=hgs)];rw [if_neg (by decide)];exact hK undef _ rfl (Below.refl _ _)
     refine GCh.val (n:=21) (fun v=>[_,_,_,_,_,_,_,_,_,_,_,_,_,_,_,_,_,_,_,_,_,IsV v]) (fun _=>rfl) rfl ?_;apply Exists.intro;refine And.intro ?_ ?_
     ·intro K' a wy ho hd hb hK;have hgs:IsV undef (slot a 39) wy:=hd ⟨20,.guard⟩ (by simp) rfl;rw [wanted_undef (j:=20) (d:=39) (hg:=rfl) (ho:=rfl) (hd:=rfl) (hs:=hgs)];rw [if_neg (by decide)];exact hK undef _ rfl (Below.refl _ _)
     refine GCh.val (n:=22) (fun v=>[_,_,_,_,_,_,_,_,_,_,_,_,_,_,_,_,_,_,_,_,_,_,IsV v]) (fun _=>rfl) rfl ?_;apply Exists.intro;refine And.intro ?_ ?_
     ·intro K' a wy ho hd hb hK;have hgs:IsV undef (slot a 39) wy:=hd ⟨20,.guard⟩ (by simp) rfl;rw [wanted_undef (j:=20) (d:=39) (hg:=rfl) (ho:=rfl) (hd:=rfl) (hs:=hgs)];rw [if_neg (by decide)];exact hK undef _ rfl (Below.refl _ _)
     refine GCh.val (n:=23) (fun v=>[_,_,_,_,_,_,_,_,_,_,_,_,_,_,_,_,_,_,_,_,_,_,_,IsV v]) (fun _=>rfl) rfl ?_;apply Exists.intro;refine And.intro ?_ ?_
     ·intro K' a wy ho hd hb hK;have hgs:IsV undef (slot a 39) wy:=hd ⟨20,.guard⟩ (by simp) rfl;rw [wanted_undef (j:=20) (d:=39) (hg:=rfl) (ho:=rfl) (hd:=rfl) (hs:=hgs)];rw [if_neg (by decide)];exact hK undef _ rfl (Below.refl _ _)
     refine GCh.val (n:=24) (fun v=>[_,_,_,_,_,_,_,_,_,_,_,_,_,_,_,_,_,_,_,_,_,_,_,_,IsV v]) (fun _=>rfl) rfl ?_;apply Exists.intro;refine And.intro ?_ ?_
     ·intro K' a wy ho hd hb hK;have hgs:IsV undef (slot a 39) wy:=hd ⟨20,.guard⟩ (by simp) rfl;rw [wanted_undef (j:=20) (d:=39) (hg:=rfl) (ho:=rfl) (hd:=rfl) (hs:=hgs)];rw [if_neg (by decide)];exact hK undef _ rfl (Below.refl _ _)
     refine GCh.val (n:=25) (fun v=>[_,_,_,_,_,_,_,_,_,_,_,_,_,_,_,_,_,_,_,_,_,_,_,_,_,IsV v]) (fun _=>rfl) rfl ?_;apply Exists.intro;refine And.intro ?_ ?_
     ·intro K' a wy ho hd hb hK;have hgs:IsV undef (slot a 39) wy:=hd ⟨20,.guard⟩ (by simp) rfl;rw [wanted_undef (j:=20) (d:=39) (hg:=rfl) (ho:=rfl) (hd:=rfl) (hs:=hgs)];rw [if_neg (by decide)];exact hK undef _ rfl (Below.refl _ _)
     refine GCh.val (n:=26) (fun v=>[_,_,_,_,_,_,_,_,_,_,_,_,_,_,_,_,_,_,_,_,_,_,_,_,_,_,IsV v]) (fun _=>rfl) rfl ?_;apply Exists.intro;refine And.intro ?_ ?_
     ·intro K' a wy ho hd hb hK;have hgs:IsV undef (slot a 39) wy:=hd ⟨20,.guard⟩ (by simp) rfl;rw [wanted_undef (j:=20) (d:=39) (hg:=rfl) (ho:=rfl) (hd:=rfl) (hs:=hgs)];rw [if_neg (by decide)];exact hK undef _ rfl (Below.refl _ _)
     refine GCh.val (n:=27) (fun v=>[_,_,_,_,_,_,_,_,_,_,_,_,_,_,_,_,_,_,_,_,_,_,_,_,_,_,_,IsV v]) (fun _=>rfl) rfl ?_;apply Exists.intro;refine And.intro ?_ ?_
     ·intro K' a wy ho hd hb hK;have hgs:IsV (.bool true) (slot a 35) wy:=hd ⟨16,.guard⟩ (by simp) rfl;rw [wanted_of (j:=16) (d:=35) (b:=true) (want:=false) (hg:=rfl) (ho:=rfl) (hd:=rfl) (hs:=hgs)];rw [if_neg (by decide)];exact hK undef _ rfl (Below.refl _ _)
     refine GCh.val (n:=28) (fun v=>[_,_,_,_,_,_,_,_,_,_,_,_,_,_,_,_,_,_,_,_,_,_,_,_,_,_,_,_,IsV v]) (fun _=>rfl) rfl ?_;apply Exists.intro;refine And.intro ?_ ?_
     ·intro K' a wy ho hd hb hK;rw [if_pos (wanted_none rfl)];have q16:=hd ⟨16,.data⟩ (by simp) rfl;simp [rAt,IsV,slot] at q16;have q27:=hd ⟨27,.data⟩ (by simp) rfl;simp [rAt,IsV,slot] at q27;clear hd ho;go_simp;try go_bits
      exact hK _ _ rfl (Below.refl _ _)
     refine GCh.val (n:=29) (fun v=>[_,_,_,_,_,_,_,_,_,_,_,_,_,_,_,_,_,_,_,_,_,_,_,_,_,_,_,_,_,IsV v]) (fun _=>rfl) rfl ?_;apply Exists.intro;refine And.intro ?_ ?_
     ·intro K' a wy ho hd hb hK;rw [if_pos (wanted_none rfl)];have q28:=hd ⟨28,.data⟩ (by simp) rfl;simp [rAt,IsV,slot] at q28;clear hd ho;go_simp;try go_bits
      exact hK _ _ rfl (Below.refl _ _)
     intro X wz hR hz;obtain ⟨x0,x1,x2,x3,x4,x5,x6,x7,x8,x9,x10,x11,x12,x13,x14,x15,x16,x17,x18,x19,x20,x21,x22,x23,x24,x25,x26,x27,x28,x29,-⟩:=hR;simp only [IsV] at x0 x1 x2 x3 x4 x5 x6 x7 x8 x9 x10 x11 x12 x13 x14 x15 x16 x17 x18 x19 x20 x21 x22 x23 x24 x25 x26 x27 x28 x29;simp only [putsFrom,x0,x1,x2,x3,x4,x5,x6,x7,x8,x9,x10,x11,x12,x13,x14,x15,x16,x17,x18,x19,x20,x21,x22,x23,x24,x25,x26,x27,x28,x29];clear x0 x1 x2 x3 x4 x5 x6 x7 x8 x9 x10 x11 x12 x13 x14 x15 x16 x17 x18 x19 x20 x21 x22 x23 x24 x25 x26 x27 x28 x29;go_simp;refine hK2 _ _ (hJ _ _ ?_);(repeat apply Exists.intro)
     refine ⟨⟨rfl,GC.out.drew.trans (hz.mono GC.out.size)⟩,rfl⟩
    ·have d3:decide (ea≤8*off')=false:=decide_eq_false c3;have HA:Hid (ans=false):=by unfold Hid; rw [HV.out,d3]; simp
     rw [HA.out] at hJ;clear HV HA c3;refine wp_region_growH [19,20,21,22,23,24,25,26,27,28,29,30,31,32,33,34,35,36,37,38,39,40,41,42,43,44,45,46,47,4] (by kernel_rfl) (by kernel_rfl) ?_;refine GCh.val (n:=0) (fun v=>[IsV v]) (fun _=>rfl) rfl ?_;apply Exists.intro;refine And.intro ?_ ?_
     ·intro K' a wy ho hd hb hK;rw [if_pos (wanted_none rfl)];have o2:=ho 2 (by decide);simp [slot] at o2;clear hd ho;go_simp;try go_bits
      exact hK _ _ rfl (Below.refl _ _)
     refine GCh.val (n:=1) (fun v=>[_,IsV v]) (fun _=>rfl) rfl ?_;apply Exists.intro;refine And.intro ?_ ?_
     ·intro K' a wy ho hd hb hK;rw [if_pos (wanted_none rfl)];have q0:=hd ⟨0,.data⟩ (by simp) rfl;simp [rAt,IsV,slot] at q0;clear hd ho;obtain ⟨k0,k1,k2,k3,k4,k5,k6,k7⟩:=(KA2.out).kept ((Below.refl _ _).drew.trans hb); obtain ⟨j0,j1,j2,j3,j4,j5,j6,j7⟩:=(KB2.out).kept ((Below.refl _ _).drew.trans hb); dsimp only at k0 k1 k2 k3 k4 k5 k6 k7 j0 j1 j2 j3 j4 j5 j6 j7;go_simp;try go_bits
      exact hK _ _ rfl (Below.refl _ _)
     refine GCh.val (n:=2) (fun v=>[_,_,IsV v]) (fun _=>rfl) rfl ?_;apply Exists.intro;refine And.intro ?_ ?_
     ·intro K' a wy ho hd hb hK;rw [if_pos (wanted_none rfl)];have q1:=hd ⟨1,.data⟩ (by simp) rfl;simp [rAt,IsV,slot] at q1;clear hd ho;go_simp;try go_bits
      exact hK _ _ rfl (Below.refl _ _)
     refine GCh.val (n:=3) (fun v=>[_,_,_,IsV v]) (fun _=>rfl) rfl ?_;apply Exists.intro;refine And.intro ?_ ?_
     ·intro K' a wy ho hd hb hK;rw [if_pos (wanted_none rfl)];have q2:=hd ⟨2,.data⟩ (by simp) rfl;simp [rAt,IsV,slot] at q2;clear hd ho;go_simp;try go_bits
      exact hK _ _ rfl (Below.refl _ _)
     refine GCh.val (n:=4) (fun v=>[_,_,_,_,IsV v]) (fun _=>rfl) rfl ?_;apply Exists.intro;refine And.intro ?_ ?_
     ·intro K' a wy ho hd hb hK;have hgs:IsV (.bool true) (slot a 22) wy:=hd ⟨3,.guard⟩ (by simp) rfl;rw [wanted_of (j:=3) (d:=22) (b:=true) (want:=true) (hg:=rfl) (ho:=rfl) (hd:=rfl) (hs:=hgs)];rw [if_pos (by decide)];clear hgs;have o3:=ho 3 (by decide);simp [slot] at o3;clear hd ho;go_simp;try go_bits
      exact hK _ _ rfl (Below.refl _ _)
     refine GCh.val (n:=5) (fun v=>[_,_,_,_,_,IsV v]) (fun _=>rfl) rfl ?_;apply Exists.intro;refine And.intro ?_ ?_
     ·intro K' a wy ho hd hb hK;have hgs:IsV (.bool true) (slot a 22) wy:=hd ⟨3,.guard⟩ (by simp) rfl;rw [wanted_of (j:=3) (d:=22) (b:=true) (want:=true) (hg:=rfl) (ho:=rfl) (hd:=rfl) (hs:=hgs)];rw [if_pos (by decide)];clear hgs;have q4:=hd ⟨4,.data⟩ (by simp) rfl;simp [rAt,IsV,slot] at q4;clear hd ho;obtain ⟨k0,k1,k2,k3,k4,k5,k6,k7⟩:=(KA2.out).kept ((Below.refl _ _).drew.trans hb); obtain ⟨j0,j1,j2,j3,j4,j5,j6,j7⟩:=(KB2.out).kept ((Below.refl _ _).drew.trans hb); dsimp only at k0 k1 k2 k3 k4 k5 k6 k7 j0 j1 j2 j3 j4 j5 j6 j7;go_simp;try go_bits
      exact hK _ _ rfl (Below.refl _ _)
     refine GCh.val (n:=6) (fun v=>[_,_,_,_,_,_,IsV v]) (fun _=>rfl) rfl ?_;apply Exists.intro;refine And.intro ?_ ?_
     ·intro K' a wy ho hd hb hK;have hgs:IsV (.bool true) (slot a 22) wy:=hd ⟨3,.guard⟩ (by simp) rfl;rw [wanted_of (j:=3) (d:=22) (b:=true) (want:=true) (hg:=rfl) (ho:=rfl) (hd:=rfl) (hs:=hgs)];rw [if_pos (by decide)];clear hgs;have q5:=hd ⟨5,.data⟩ (by simp) rfl;simp [rAt,IsV,slot] at q5;clear hd ho;go_simp;try go_bits
      exact hK _ _ rfl (Below.refl _ _)
     refine GCh.val (n:=7) (fun v=>[_,_,_,_,_,_,_,IsV v]) (fun _=>rfl) rfl ?_;apply Exists.intro;refine And.intro ?_ ?_
     ·intro K' a wy ho hd hb hK;have hgs:IsV (.bool true) (slot a 22) wy:=hd ⟨3,.guard⟩ (by simp) rfl;rw [wanted_of (j:=3) (d:=22) (b:=true) (want:=true) (hg:=rfl) (ho:=rfl) (hd:=rfl) (hs:=hgs)];rw [if_pos (by decide)];clear hgs;have q6:=hd ⟨6,.data⟩ (by simp) rfl;simp [rAt,IsV,slot] at q6;clear hd ho;go_simp;try go_bits
      exact hK _ _ rfl (Below.refl _ _)
     refine GCh.val (n:=8) (fun v=>[_,_,_,_,_,_,_,_,IsV v]) (fun _=>rfl) rfl ?_;apply Exists.intro;refine And.intro ?_ ?_
     ·intro K' a wy ho hd hb hK;have hgs:IsV (.bool false) (slot a 26) wy:=hd ⟨7,.guard⟩ (by simp) rfl;rw [wanted_of (j:=7) (d:=26) (b:=false) (want:=false) (hg:=rfl) (ho:=rfl) (hd:=rfl) (hs:=hgs)];rw [if_pos (by decide)];clear hgs;have o3:=ho 3 (by decide);simp [slot] at o3;clear hd ho;go_simp;try go_bits
      exact hK _ _ rfl (Below.refl _ _)
     refine GCh.val (n:=9) (fun v=>[_,_,_,_,_,_,_,_,_,IsV v]) (fun _=>rfl) rfl ?_;apply Exists.intro;refine And.intro ?_ ?_
     ·intro K' a wy ho hd hb hK;have hgs:IsV (.bool false) (slot a 26) wy:=hd ⟨7,.guard⟩ (by simp) rfl;rw [wanted_of (j:=7) (d:=26) (b:=false) (want:=false) (hg:=rfl) (ho:=rfl) (hd:=rfl) (hs:=hgs)];rw [if_pos (by decide)];clear hgs;have q8:=hd ⟨8,.data⟩ (by simp) rfl;simp [rAt,IsV,slot] at q8;clear hd ho;obtain ⟨k0,k1,k2,k3,k4,k5,k6,k7⟩:=(KA2.out).kept ((Below.refl _ _).drew.trans hb); obtain ⟨j0,j1,j2,j3,j4,j5,j6,j7⟩:=(KB2.out).kept ((Below.refl _ _).drew.trans hb); dsimp only at k0 k1 k2 k3 k4 k5 k6 k7 j0 j1 j2 j3 j4 j5 j6 j7;go_simp;try go_bits
      exact hK _ _ rfl (Below.refl _ _)
     refine GCh.val (n:=10) (fun v=>[_,_,_,_,_,_,_,_,_,_,IsV v]) (fun _=>rfl) rfl ?_;apply Exists.intro;refine And.intro ?_ ?_
     ·intro K' a wy ho hd hb hK;have hgs:IsV (.bool false) (slot a 26) wy:=hd ⟨7,.guard⟩ (by simp) rfl;rw [wanted_of (j:=7) (d:=26) (b:=false) (want:=false) (hg:=rfl) (ho:=rfl) (hd:=rfl) (hs:=hgs)];rw [if_pos (by decide)];clear hgs;have q9:=hd ⟨9,.data⟩ (by simp) rfl;simp [rAt,IsV,slot] at q9;clear hd ho;go_simp;try go_bits
      exact hK _ _ rfl (Below.refl _ _)
     refine GCh.val (n:=11) (fun v=>[_,_,_,_,_,_,_,_,_,_,_,IsV v]) (fun _=>rfl) rfl ?_;apply Exists.intro;refine And.intro ?_ ?_
     ·intro K' a wy ho hd hb hK;have hgs:IsV (.bool false) (slot a 26) wy:=hd ⟨7,.guard⟩ (by simp) rfl;rw [wanted_of (j:=7) (d:=26) (b:=false) (want:=false) (hg:=rfl) (ho:=rfl) (hd:=rfl) (hs:=hgs)];rw [if_pos (by decide)];clear hgs;have o2:=ho 2 (by decide);simp [slot] at o2;clear hd ho;obtain ⟨k0,k1,k2,k3,k4,k5,k6,k7⟩:=(KA2.out).kept ((Below.refl _ _).drew.trans hb); obtain ⟨j0,j1,j2,j3,j4,j5,j6,j7⟩:=(KB2.out).kept ((Below.refl _ _).drew.trans hb); dsimp only at k0 k1 k2 k3 k4 k5 k6 k7 j0 j1 j2 j3 j4 j5 j6 j7;go_simp;try go_bits
      exact hK _ _ rfl (Below.refl _ _)
     refine GCh.val (n:=12) (fun v=>[_,_,_,_,_,_,_,_,_,_,_,_,IsV v]) (fun _=>rfl) rfl ?_;apply Exists.intro;refine And.intro ?_ ?_
     ·intro K' a wy ho hd hb hK;have hgs:IsV (.bool false) (slot a 26) wy:=hd ⟨7,.guard⟩ (by simp) rfl;rw [wanted_of (j:=7) (d:=26) (b:=false) (want:=false) (hg:=rfl) (ho:=rfl) (hd:=rfl) (hs:=hgs)];rw [if_pos (by decide)];clear hgs;have q11:=hd ⟨11,.data⟩ (by simp) rfl;simp [rAt,IsV,slot] at q11;clear hd ho;go_simp;refine (HEa.out wy).mono ?_;rintro e wz ⟨rfl,hz⟩;exact hK _ _ rfl hz
     refine GCh.val (n:=13) (fun v=>[_,_,_,_,_,_,_,_,_,_,_,_,_,IsV v]) (fun _=>rfl) rfl ?_;apply Exists.intro;refine And.intro ?_ ?_
     ·intro K' a wy ho hd hb hK;have hgs:IsV (.bool false) (slot a 26) wy:=hd ⟨7,.guard⟩ (by simp) rfl;rw [wanted_of (j:=7) (d:=26) (b:=false) (want:=false) (hg:=rfl) (ho:=rfl) (hd:=rfl) (hs:=hgs)];rw [if_pos (by decide)];clear hgs;have q10:=hd ⟨10,.data⟩ (by simp) rfl;simp [rAt,IsV,slot] at q10;have q12:=hd ⟨12,.data⟩ (by simp) rfl;simp [rAt,IsV,slot] at q12;clear hd ho;go_simp;try go_bits
      exact hK _ _ rfl (Below.refl _ _)
     refine GCh.val (n:=14) (fun v=>[_,_,_,_,_,_,_,_,_,_,_,_,_,_,IsV v]) (fun _=>rfl) rfl ?_;apply Exists.intro;refine And.intro ?_ ?_
     ·intro K' a wy ho hd hb hK;have hgs:IsV (.bool true) (slot a 22) wy:=hd ⟨3,.guard⟩ (by simp) rfl;rw [wanted_of (j:=3) (d:=22) (b:=true) (want:=true) (hg:=rfl) (ho:=rfl) (hd:=rfl) (hs:=hgs)];rw [if_pos (by decide)];clear hgs;have q7:=hd ⟨7,.data⟩ (by simp) rfl;simp [rAt,IsV,slot] at q7;have q13:=hd ⟨13,.data⟩ (by simp) rfl;simp [rAt,IsV,slot] at q13;clear hd ho;go_simp;try go_bits
      exact hK _ _ rfl (Below.refl _ _)
     refine GCh.val (n:=15) (fun v=>[_,_,_,_,_,_,_,_,_,_,_,_,_,_,_,IsV v]) (fun _=>rfl) rfl ?_;apply Exists.intro;refine And.intro ?_ ?_
     ·intro K' a wy ho hd hb hK;rw [if_pos (wanted_none rfl)];have q3:=hd ⟨3,.data⟩ (by simp) rfl;simp [rAt,IsV,slot] at q3;have q14:=hd ⟨14,.data⟩ (by simp) rfl;simp [rAt,IsV,slot] at q14;clear hd ho;go_simp;try go_bits
      exact hK _ _ rfl (Below.refl _ _)
     refine GCh.val (n:=16) (fun v=>[_,_,_,_,_,_,_,_,_,_,_,_,_,_,_,_,IsV v]) (fun _=>rfl) rfl ?_;apply Exists.intro;refine And.intro ?_ ?_
     ·intro K' a wy ho hd hb hK;rw [if_pos (wanted_none rfl)];have q15:=hd ⟨15,.data⟩ (by simp) rfl;simp [rAt,IsV,slot] at q15;clear hd ho;go_simp;try go_bits
      exact hK _ _ rfl (Below.refl _ _)
     refine GCh.val (n:=17) (fun v=>[_,_,_,_,_,_,_,_,_,_,_,_,_,_,_,_,_,IsV v]) (fun _=>rfl) rfl ?_;apply Exists.intro;refine And.intro ?_ ?_
     ·intro K' a wy ho hd hb hK;have hgs:IsV (.bool false) (slot a 35) wy:=hd ⟨16,.guard⟩ (by simp) rfl;rw [wanted_of (j:=16) (d:=35) (b:=false) (want:=false) (hg:=rfl) (ho:=rfl) (hd:=rfl) (hs:=hgs)];rw [if_pos (by decide)];clear hgs;have o3:=ho 3 (by decide);simp [slot] at o3;clear hd ho;go_simp;try go_bits
      exact hK _ _ rfl (Below.refl _ _)
     refine GCh.val (n:=18) (fun v=>[_,_,_,_,_,_,_,_,_,_,_,_,_,_,_,_,_,_,IsV v]) (fun _=>rfl) rfl ?_;apply Exists.intro;refine And.intro ?_ ?_
     ·intro K' a wy ho hd hb hK;have hgs:IsV (.bool false) (slot a 35) wy:=hd ⟨16,.guard⟩ (by simp) rfl;rw [wanted_of (j:=16) (d:=35) (b:=false) (want:=false) (hg:=rfl) (ho:=rfl) (hd:=rfl) (hs:=hgs)];rw [if_pos (by decide)];clear hgs;have q17:=hd ⟨17,.data⟩ (by simp) rfl;simp [rAt,IsV,slot] at q17;clear hd ho;obtain ⟨k0,k1,k2,k3,k4,k5,k6,k7⟩:=(KA2.out).kept ((Below.refl _ _).drew.trans hb); obtain ⟨j0,j1,j2,j3,j4,j5,j6,j7⟩:=(KB2.out).kept ((Below.refl _ _).drew.trans hb); dsimp only at k0 k1 k2 k3 k4 k5 k6 k7 j0 j1 j2 j3 j4 j5 j6 j7;go_simp;try go_bits
      exact hK _ _ rfl (Below.refl _ _)
     refine GCh.val (n:=19) (fun v=>[_,_,_,_,_,_,_,_,_,_,_,_,_,_,_,_,_,_,_,IsV v]) (fun _=>rfl) rfl ?_;apply Exists.intro;refine And.intro ?_ ?_
     ·intro K' a wy ho hd hb hK;have hgs:IsV (.bool false) (slot a 35) wy:=hd ⟨16,.guard⟩ (by simp) rfl;rw [wanted_of (j:=16) (d:=35) (b:=false) (want:=false) (hg:=rfl) (ho:=rfl) (hd:=rfl) (hs:=hgs)];rw [if_pos (by decide)];clear hgs;have q18:=hd ⟨18,.data⟩ (by simp) rfl;simp [rAt,IsV,slot] at q18;clear hd ho;go_simp;try go_bits
      exact hK _ _ rfl (Below.refl _ _)
     refine GCh.val (n:=20) (fun v=>[_,_,_,_,_,_,_,_,_,_,_,_,_,_,_,_,_,_,_,_,IsV v]) (fun _=>rfl) rfl ?_;apply Exists.intro;refine And.intro ?_ ?_
     ·intro K' a wy ho hd hb hK;have hgs:IsV (.bool false) (slot a 35) wy:=hd ⟨16,.guard⟩ (by simp) rfl;rw [wanted_of (j:=16) (d:=35) (b:=false) (want:=false) (hg:=rfl) (ho:=rfl) (hd:=rfl) (hs:=hgs)];rw [if_pos (by decide)];clear hgs;have q19:=hd ⟨19,.data⟩ (by simp) rfl;simp [rAt,IsV,slot] at q19;clear hd ho;go_simp;try go_bits
      exact hK _ _ rfl (Below.refl _ _)
     refine GCh.val (n:=21) (fun v=>[_,_,_,_,_,_,_,_,_,_,_,_,_,_,_,_,_,_,_,_,_,IsV v]) (fun _=>rfl) rfl ?_;apply Exists.intro;refine And.intro ?_ ?_
     ·intro K' a wy ho hd hb hK;have hgs:IsV (.bool false) (slot a 39) wy:=hd ⟨20,.guard⟩ (by simp) rfl;rw [wanted_of (j:=20) (d:=39) (b:=false) (want:=true) (hg:=rfl) (ho:=rfl) (hd:=rfl) (hs:=hgs)];rw [if_neg (by decide)];exact hK undef _ rfl (Below.refl _ _)
     refine GCh.val (n:=22) (fun v=>[_,_,_,_,_,_,_,_,_,_,_,_,_,_,_,_,_,_,_,_,_,_,IsV v]) (fun _=>rfl) rfl ?_;apply Exists.intro;refine And.intro ?_ ?_
     ·intro K' a wy ho hd hb hK;have hgs:IsV (.bool false) (slot a 39) wy:=hd ⟨20,.guard⟩ (by simp) rfl;rw [wanted_of (j:=20) (d:=39) (b:=false) (want:=true) (hg:=rfl) (ho:=rfl) (hd:=rfl) (hs:=hgs)];rw [if_neg (by decide)];exact hK undef _ rfl (Below.refl _ _)
     refine GCh.val (n:=23) (fun v=>[_,_,_,_,_,_,_,_,_,_,_,_,_,_,_,_,_,_,_,_,_,_,_,IsV v]) (fun _=>rfl) rfl ?_;apply Exists.intro;refine And.intro ?_ ?_
     ·intro K' a wy ho hd hb hK;have hgs:IsV (.bool false) (slot a 39) wy:=hd ⟨20,.guard⟩ (by simp) rfl;rw [wanted_of (j:=20) (d:=39) (b:=false) (want:=true) (hg:=rfl) (ho:=rfl) (hd:=rfl) (hs:=hgs)];rw [if_neg (by decide)];exact hK undef _ rfl (Below.refl _ _)
     refine GCh.val (n:=24) (fun v=>[_,_,_,_,_,_,_,_,_,_,_,_,_,_,_,_,_,_,_,_,_,_,_,_,IsV v]) (fun _=>rfl) rfl ?_;apply Exists.intro;refine And.intro ?_ ?_
     ·intro K' a wy ho hd hb hK;have hgs:IsV (.bool false) (slot a 39) wy:=hd ⟨20,.guard⟩ (by simp) rfl;rw [wanted_of (j:=20) (d:=39) (b:=false) (want:=true) (hg:=rfl) (ho:=rfl) (hd:=rfl) (hs:=hgs)];rw [if_neg (by decide)];exact hK undef _ rfl (Below.refl _ _)
     refine GCh.val (n:=25) (fun v=>[_,_,_,_,_,_,_,_,_,_,_,_,_,_,_,_,_,_,_,_,_,_,_,_,_,IsV v]) (fun _=>rfl) rfl ?_;apply Exists.intro;refine And.intro ?_ ?_
     ·intro K' a wy ho hd hb hK;have hgs:IsV (.bool false) (slot a 39) wy:=hd ⟨20,.guard⟩ (by simp) rfl;rw [wanted_of (j:=20) (d:=39) (b:=false) (want:=true) (hg:=rfl) (ho:=rfl) (hd:=rfl) (hs:=hgs)];rw [if_neg (by decide)];exact hK undef _ rfl (Below.refl _ _)
     refine GCh.val (n:=26) (fun v=>[_,_,_,_,_,_,_,_,_,_,_,_,_,_,_,_,_,_,_,_,_,_,_,_,_,_,IsV v]) (fun _=>rfl) rfl ?_;apply Exists.intro;refine And.intro ?_ ?_
     ·intro K' a wy ho hd hb hK;have hgs:IsV (.bool false) (slot a 39) wy:=hd ⟨20,.guard⟩ (by simp) rfl;rw [wanted_of (j:=20) (d:=39) (b:=false) (want:=true) (hg:=rfl) (ho:=rfl) (hd:=rfl) (hs:=hgs)];rw [if_neg (by decide)];exact hK undef _ rfl (Below.refl _ _)
     refine GCh.val (n:=27) (fun v=>[_,_,_,_,_,_,_,_,_,_,_,_,_,_,_,_,_,_,_,_,_,_,_,_,_,_,_,IsV v]) (fun _=>rfl) rfl ?_;apply Exists.intro;refine And.intro ?_ ?_
     ·intro K' a wy ho hd hb hK;have hgs:IsV (.bool false) (slot a 35) wy:=hd ⟨16,.guard⟩ (by simp) rfl;rw [wanted_of (j:=16) (d:=35) (b:=false) (want:=false) (hg:=rfl) (ho:=rfl) (hd:=rfl) (hs:=hgs)];rw [if_pos (by decide)];clear hgs;have q20:=hd ⟨20,.data⟩ (by simp) rfl;simp [rAt,IsV,slot] at q20;have q26:=hd ⟨26,.data⟩ (by simp) rfl;simp [rAt,IsV,slot] at q26;clear hd ho;go_simp;try go_bits
      exact hK _ _ rfl (Below.refl _ _)
     refine GCh.val (n:=28) (fun v=>[_,_,_,_,_,_,_,_,_,_,_,_,_,_,_,_,_,_,_,_,_,_,_,_,_,_,_,_,IsV v]) (fun _=>rfl) rfl ?_;apply Exists.intro;refine And.intro ?_ ?_
     ·intro K' a wy ho hd hb hK;rw [if_pos (wanted_none rfl)];have q16:=hd ⟨16,.data⟩ (by simp) rfl;simp [rAt,IsV,slot] at q16;have q27:=hd ⟨27,.data⟩ (by simp) rfl;simp [rAt,IsV,slot] at q27;clear hd ho;go_simp;try go_bits
      exact hK _ _ rfl (Below.refl _ _)
     refine GCh.val (n:=29) (fun v=>[_,_,_,_,_,_,_,_,_,_,_,_,_,_,_,_,_,_,_,_,_,_,_,_,_,_,_,_,_,IsV v]) (fun _=>rfl) rfl ?_;apply Exists.intro;refine And.intro ?_ ?_
     ·intro K' a wy ho hd hb hK;rw [if_pos (wanted_none rfl)];have q28:=hd ⟨28,.data⟩ (by simp) rfl;simp [rAt,IsV,slot] at q28;clear hd ho;go_simp;try go_bits
      exact hK _ _ rfl (Below.refl _ _)
     intro X wz hR hz;obtain ⟨x0,x1,x2,x3,x4,x5,x6,x7,x8,x9,x10,x11,x12,x13,x14,x15,x16,x17,x18,x19,x20,x21,x22,x23,x24,x25,x26,x27,x28,x29,-⟩:=hR;simp only [IsV] at x0 x1 x2 x3 x4 x5 x6 x7 x8 x9 x10 x11 x12 x13 x14 x15 x16 x17 x18 x19 x20 x21 x22 x23 x24 x25 x26 x27 x28 x29;simp only [putsFrom,x0,x1,x2,x3,x4,x5,x6,x7,x8,x9,x10,x11,x12,x13,x14,x15,x16,x17,x18,x19,x20,x21,x22,x23,x24,x25,x26,x27,x28,x29];clear x0 x1 x2 x3 x4 x5 x6 x7 x8 x9 x10 x11 x12 x13 x14 x15 x16 x17 x18 x19 x20 x21 x22 x23 x24 x25 x26 x27 x28 x29;go_simp;refine hK2 _ _ (hJ _ _ ?_);(repeat apply Exists.intro)
     refine ⟨⟨rfl,GC.out.drew.trans (hz.mono GC.out.size)⟩,rfl⟩
 case rest =>
 obtain ⟨rfl,hb⟩:=hcut;go_wp2_with fail
 go_ret;exact ⟨rfl,hb⟩
end Go.Proofs.YthagnjokdnnmpaaGreat
