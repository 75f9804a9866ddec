import Derived.Test.YthagnjokdnnmpaaGreatMerged1
import Derived.Test.YthagnjokdnnmpaaGreatMerged2
import Derived.Test.YthagnjokdnnmpaaGreatMerged5
import Derived.Test.YthagnjokdnnmpaaGreatMerged3
import Derived.Deep.RegionWith
import Derived.Deep.DeepCutAuto
set_option linter.unusedVariables false
set_option linter.unusedSimpArgs false
set_option maxRecDepth 100000
set_option maxHeartbeats 8000000
namespace Go.Proofs.YthagnjokdnnmpaaGreat
open Go.RowKit Go.PlainAid Go.ChangeShapes Go.WideShapes
def PcsWf (xs:List Pc):Prop:=xs.length≤maxLen∧∀ q∈xs,PcWf q
section
variable {H:Type} {enc:TypeId × Value→H} {w:World} {base:Nat} {spare:Nat→Bool} {held:Bool}
end
theorem eqPieceS_same (xs:List Pc) (a1 a2:Option Addr) (cap1 cap2:Nat) (w:World) (hlen:xs.length≤1048576) (h1:SlIs pcL 8 w a1 xs) (h2:SlIs pcL 8 w a2 xs) :
  Calls Tryz.prog 51 #[.slice a1 xs.length cap1,.slice a2 xs.length cap2] w fun e w'=>e=.returned (.bool true)∧Below w.heap.size w w':=by
 have H1:Hid (SlIs pcL 8 w a1 xs):=h1;have H2:Hid (SlIs pcL 8 w a2 xs):=h2;clear h1 h2;go_enter Tryz.func51,Tryz.ntmps51
 go_wp2_with fail
 go_loopw [5] (fun i wr=>∃ k:Nat,k≤xs.length∧i=.int .i64 k∧Below w.heap.size w wr) (fun i _=>xs.length-(intOf i).toNat)
 case atStart=>exact ⟨0,Nat.zero_le _,rfl,Below.refl _ _⟩
 case round =>
  obtain ⟨k,hk,rfl,hbel⟩:=hrel;have HL:Hid (Below w.heap.size w wr):=hbel;clear hbel;by_cases hlt:k < xs.length
  ·obtain ⟨b1,o1,rfl,hb1,hA⟩:=H1.out.at hlt;obtain ⟨b2,o2,rfl,hb2,hB⟩:=H2.out.at hlt;have hA:=(hA.below hb1 HL.out) k hlt;have hB:=(hB.below hb2 HL.out) k hlt;obtain ⟨q,hq⟩ : ∃ q,q=xs[k]:=⟨_,rfl⟩;rw [← hq] at hA hB;have c0:wr.cell? ⟨b1,o1+k*8,none⟩=some (.string q.src):=hA 0 _ rfl;have c1:wr.cell? ⟨b1,o1+k*8+1,none⟩=some (.string q.dst):=hA 1 _ rfl;have c2:wr.cell? ⟨b1,o1+k*8+2,none⟩=some (.int .i64 q.proto):=hA 2 _ rfl;have c3:wr.cell? ⟨b1,o1+k*8+3,none⟩=some (.int .i64 q.id):=hA 3 _ rfl;have c4:wr.cell? ⟨b1,o1+k*8+4,none⟩=some (.int .i64 q.off):=hA 4 _ rfl;have c5:wr.cell? ⟨b1,o1+k*8+5,none⟩=some (.bool q.more):=hA 5 _ rfl;have c6:wr.cell? ⟨b1,o1+k*8+6,none⟩=some (.string q.data):=hA 6 _ rfl;have c7:wr.cell? ⟨b1,o1+k*8+7,none⟩=some (.int .i64 q.since):=hA 7 _ rfl;have d0:wr.cell? ⟨b2,o2+k*8,none⟩=some (.string q.src):=hB 0 _ rfl;have d1:wr.cell? ⟨b2,o2+k*8+1,none⟩=some (.string q.dst):=hB 1 _ rfl;have d2:wr.cell? ⟨b2,o2+k*8+2,none⟩=some (.int .i64 q.proto):=hB 2 _ rfl;have d3:wr.cell? ⟨b2,o2+k*8+3,none⟩=some (.int .i64 q.id):=hB 3 _ rfl;have d4:wr.cell? ⟨b2,o2+k*8+4,none⟩=some (.int .i64 q.off):=hB 4 _ rfl;have d5:wr.cell? ⟨b2,o2+k*8+5,none⟩=some (.bool q.more):=hB 5 _ rfl;have d6:wr.cell? ⟨b2,o2+k*8+6,none⟩=some (.string q.data):=hB 6 _ rfl;have d7:wr.cell? ⟨b2,o2+k*8+7,none⟩=some (.int .i64 q.since):=hB 7 _ rfl;have HC:Hid (∀ W,Calls Tryz.prog 93 #[pcC q,pcC q] W fun e w'=>e=.returned (.bool true)∧Below W.heap.size W w'):=fun W=>eqPiece_same q W
   unfold pcC at HC;clear hq hA hB;go_wp2_with fail
   go_region_with (go_at_call 93; refine (HC.out _).mono ?_; rintro e w2 ⟨rfl,q2⟩)
   all_goals
    have HL2:Hid (Below w.heap.size w w2):=HL.out.trans ((below_undrew q2).mono HL.out.size);clear q2;go_wp2_with fail
    go_roundw
    case rel=>exact ⟨k+1,by omega,by go_num,HL2.out⟩
    case measure=>simp [intOf]; omega
  ·go_wp2_with fail
   go_ret;exact ⟨rfl,HL.out⟩
def pieceM (k:Nat):List Value:=[.string (markV (k)),.string (markV (k+1)),.int .i64 ((k+2:Nat):Int),.int .i64 ((k+3:Nat):Int),.int .i64 ((k+4:Nat):Int),.bool (((k+5:Nat):Int) % 3==0),.string (markV (k+6)),.int .i64 ((k+7:Nat):Int)]
theorem pieceM_length (k:Nat):(pieceM k).length=8:=rfl
theorem markPieceS_any (B L cap k:Nat) (w:World) (hk:0 < k) (hL:k+8*L≤1073741824) (hs:SlLaid pieceM 8 w B (marksOf 8 k L) L 0) :
  Calls Tryz.prog 59 #[.slice (some ⟨B,0,none⟩) L cap,.int .i64 k] w fun e w'=>e=.returned (.int .i64 ((k+8*L:Nat):Int))∧SlLaid pieceM 8 w' B (marksOf 8 k L) L L∧w.grownBy w' (some B):=by
 have HS:Hid _:=hs;clear hs;go_enter Tryz.func59,Tryz.ntmps59
 go_wp2_with fail
 go_loopw [1,5] (fun kv i wr=>∃ m:Nat,m≤L∧i=.int .i64 m∧kv=.int .i64 ((k+8*m:Nat):Int)∧SlLaid pieceM 8 wr B (marksOf 8 k L) L m∧w.grownBy wr (some B)) (fun _ i _=>L-(intOf i).toNat)
 case atStart=>exact ⟨0,Nat.zero_le _,rfl,rfl,HS.out,World.grownBy.refl _ _⟩
 case round =>
  obtain ⟨m,hm,rfl,rfl,hy,hg⟩:=hrel;have HK:Hid (MkSt pieceM 8 w B k L m [] wr):=MkSt.new hy hg;clear hy hg HS;by_cases hlt:m < L
  ·obtain ⟨kk,hkk⟩ : ∃ kk,kk=k+8*m:=⟨_,rfl⟩;have HKK:Hid (kk=k+8*m):=hkk;rw [← hkk];have hk1:0 < kk:=by omega
   have hk2:kk+8≤1073741824:=by omega
   clear hkk;go_wp2_with fail
   refine (markText_at _ (kk+0) _ (by omega) (by omega) (by omega)).mono ?_;rintro e wA0 ⟨rfl,qA0⟩;have HA0:Hid (MkSt pieceM 8 w B k L m [] wA0):=(HK.out).call qA0;clear qA0 HK;obtain ⟨v0,t0⟩:=HA0.out.there (j:=0) hlt (by omega);have f0:=HA0.out.free (j:=0) hlt (by omega);rw [Nat.add_zero] at t0 f0;go_wp2_with fail
   refine (markText_at _ (kk+1) _ (by omega) (by omega) (by omega)).mono ?_;rintro e wA1 ⟨rfl,qA1⟩;have HA1:Hid (MkSt pieceM 8 w B k L m [.string (markV (kk))] wA1):=((HA0.out.put pieceM_length (by simp) hlt (.string (markV (kk))))).call qA1;clear qA1 HA0;clear t0 f0;obtain ⟨v1,t1⟩:=HA1.out.there (j:=1) hlt (by omega);have f1:=HA1.out.free (j:=1) hlt (by omega);obtain ⟨v2,t2⟩:=HA1.out.there (j:=2) hlt (by omega);have f2:=HA1.out.free (j:=2) hlt (by omega);obtain ⟨v3,t3⟩:=HA1.out.there (j:=3) hlt (by omega);have f3:=HA1.out.free (j:=3) hlt (by omega);obtain ⟨v4,t4⟩:=HA1.out.there (j:=4) hlt (by omega);have f4:=HA1.out.free (j:=4) hlt (by omega);obtain ⟨v5,t5⟩:=HA1.out.there (j:=5) hlt (by omega);have f5:=HA1.out.free (j:=5) hlt (by omega);go_wp2_with fail
   refine (markText_at _ (kk+6) _ (by omega) (by omega) (by omega)).mono ?_;rintro e wA6 ⟨rfl,qA6⟩;have HA6:Hid (MkSt pieceM 8 w B k L m [.string (markV (kk)),.string (markV (kk+1)),.int .i64 ((kk+2:Nat):Int),.int .i64 ((kk+3:Nat):Int),.int .i64 ((kk+4:Nat):Int),.bool (((kk+5:Nat):Int) % 3==0)] wA6):=((((((HA1.out.put pieceM_length (by simp) hlt (.string (markV (kk+1)))).put pieceM_length (by simp) hlt (.int .i64 ((kk+2:Nat):Int))).put pieceM_length (by simp) hlt (.int .i64 ((kk+3:Nat):Int))).put pieceM_length (by simp) hlt (.int .i64 ((kk+4:Nat):Int))).put pieceM_length (by simp) hlt (.bool (((kk+5:Nat):Int) % 3==0)))).call qA6;clear qA6 HA1;clear t1 f1 t2 f2 t3 f3 t4 f4 t5 f5;obtain ⟨v6,t6⟩:=HA6.out.there (j:=6) hlt (by omega);have f6:=HA6.out.free (j:=6) hlt (by omega);obtain ⟨v7,t7⟩:=HA6.out.there (j:=7) hlt (by omega);have f7:=HA6.out.free (j:=7) hlt (by omega);go_wp2_with fail
   go_roundw
   case rel =>
    have hF:MkSt pieceM 8 w B k L m (pieceM kk) _:=((HA6.out.put pieceM_length (by simp) hlt (.string (markV (kk+6)))).put pieceM_length (by simp) hlt (.int .i64 ((kk+7:Nat):Int)));exact ⟨m+1,by omega,by go_num,by have:=HKK.out; congr 1; omega,hF.next pieceM_length (by rw [HKK.out]) hlt,hF.grown⟩
   case measure=>simp [intOf]; omega
  ·have hml:m=L:=by omega
   have HE:Hid (SlLaid pieceM 8 wr B (marksOf 8 k L) L L∧w.grownBy wr (some B)):=⟨by have h:=HK.out.laid; rw [hml] at h; exact h,HK.out.grown⟩;clear HK;go_wp2_with fail
   go_ret;exact ⟨ret_int (by rw [hml]),HE.out.1,HE.out.2⟩
theorem heldPieceS_any (B L cap k:Nat) (w:World) (hk:0 < k) (hL:k+8*L≤1073741824) (hs:SlLaid pieceM 8 w B (marksOf 8 k L) L L) :
  Calls Tryz.prog 63 #[.slice (some ⟨B,0,none⟩) L cap,.int .i64 k] w fun e w'=>e=.returned (.int .i64 ((k+8*L:Nat):Int))∧Below w.heap.size w w':=by
 have hblk:=hs.blk;have HS:Hid _:=hs;clear hs;go_enter Tryz.func63,Tryz.ntmps63
 go_wp2_with fail
 go_loopw [1,5] (fun kv i wr=>∃ m:Nat,m≤L∧i=.int .i64 m∧kv=.int .i64 ((k+8*m:Nat):Int)∧Below w.heap.size w wr) (fun _ i _=>L-(intOf i).toNat)
 case atStart=>exact ⟨0,Nat.zero_le _,rfl,rfl,Below.refl _ _⟩
 case round =>
  obtain ⟨m,hm,rfl,rfl,hbel⟩:=hrel;have HL:Hid (Below w.heap.size w wr):=hbel;clear hbel;by_cases hlt:m < L
  ·have hR:=(HS.out.kept HL.out).at0 m (by rw [marksOf_length]; exact hlt) hlt;rw [marksOf_get] at hR;have hbr:B < wr.heap.size:=Nat.lt_of_lt_of_le hblk HL.out.size;obtain ⟨kk,hkk⟩ : ∃ kk,kk=k+8*m:=⟨_,rfl⟩;have HKK:Hid (kk=k+8*m):=hkk;rw [← hkk] at hR ⊢;have hk1:0 < kk:=by omega
   have hk2:kk+8≤1073741824:=by omega
   clear hkk;have c0:wr.cell? ⟨B,m*8,none⟩=some (.string (markV (kk))):=hR 0 _ rfl;have c1:wr.cell? ⟨B,m*8+1,none⟩=some (.string (markV (kk+1))):=hR 1 _ rfl;have c2:wr.cell? ⟨B,m*8+2,none⟩=some (.int .i64 ((kk:Int)+1+1)):=hR 2 _ rfl;have c3:wr.cell? ⟨B,m*8+3,none⟩=some (.int .i64 ((kk:Int)+1+1+1)):=hR 3 _ rfl;have c4:wr.cell? ⟨B,m*8+4,none⟩=some (.int .i64 ((kk:Int)+1+1+1+1)):=hR 4 _ rfl;have c5:wr.cell? ⟨B,m*8+5,none⟩=some (.bool (((kk:Int)+1+1+1+1+1) % 3==0)):=hR 5 _ rfl;have c6:wr.cell? ⟨B,m*8+6,none⟩=some (.string (markV (kk+6))):=hR 6 _ rfl;have c7:wr.cell? ⟨B,m*8+7,none⟩=some (.int .i64 ((kk:Int)+1+1+1+1+1+1+1)):=hR 7 _ rfl;clear hR;go_upto_region 4 with fail
   go_cut [19] (fun v wx=>v=.bool false∧Below wr.heap.size wr wx)
   case first =>
    rename_i J K2 hJ hK2;refine wp_region_growL (Rs:=[IsV (.slice (some ⟨B,0,none⟩) L cap),IsV (.int .i64 (m:Int)),IsV (.pointer (some ⟨B,m*8,none⟩)),IsV (.pointer (some ⟨B,m*8,none⟩)),IsV (.string (markV (kk))),IsV (.int .i64 ((kk:Int))),IsV (.string (markV (kk))),IsV (.bool false)]) [12,13,14,15,16,17,18,19] (by kernel_rfl) (by kernel_rfl) rfl ?st ?steps ?done
    case st=>simp [stable_isV,stable_isRow]
    case steps =>
     refine ⟨?s0,?s1,?s2,?s3,?s4,?s5,?s6,?s7,trivial⟩
     case s0 =>
      intro K' a wy ho hd hb hK;have h3:=ho 0 (by decide);simp [slot] at h3;clear hd;go_simp;try go_bits
      exact hK _ _ rfl (Below.refl _ _)
     case s1 =>
      intro K' a wy ho hd hb hK;have h3:=ho 5 (by decide);simp [slot] at h3;clear hd;go_simp;try go_bits
      exact hK _ _ rfl (Below.refl _ _)
     case s2 =>
      intro K' a wy ho hd hb hK;simp [Region.binds,rAt,IsV,slot] at hd;go_simp;try go_bits
      exact hK _ _ rfl (Below.refl _ _)
     case s3 =>
      intro K' a wy ho hd hb hK;simp [Region.binds,rAt,IsV,slot] at hd;go_simp;try go_bits
      exact hK _ _ rfl (Below.refl _ _)
     case s4 =>
      intro K' a wy ho hd hb hK;simp [Region.binds,rAt,IsV,slot] at hd;have hcx:=((bcell (Below.trans (Below.refl _ _).drew hb)).1 B _ hbr).trans c0;go_simp;try go_bits
      exact hK _ _ rfl (Below.refl _ _)
     case s5 =>
      intro K' a wy ho hd hb hK;have h3:=ho 1 (by decide);simp [slot] at h3;clear hd;go_simp;try go_bits
      exact hK _ _ rfl (Below.refl _ _)
     case s6 =>
      intro K' a wy ho hd hb hK;simp [Region.binds,rAt,IsV,slot] at hd;go_simp;refine (markText_at _ (kk) wy (by omega) (by omega) (by omega)).mono ?_;rintro e wz ⟨rfl,hz⟩;exact hK _ _ rfl hz
     case s7 =>
      intro K' a wy ho hd hb hK;simp [Region.binds,rAt,IsV,slot] at hd;go_simp;try go_bits
      exact hK _ _ rfl (Below.refl _ _)
    case done =>
     intro X wz hR hz;obtain ⟨x0,x1,x2,x3,x4,x5,x6,x7,-⟩:=hR;simp only [IsV] at x0 x1 x2 x3 x4 x5 x6 x7;simp only [putsFrom,x0,x1,x2,x3,x4,x5,x6,x7];clear x0 x1 x2 x3 x4 x5 x6 x7;go_simp;refine hK2 _ _ (hJ _ _ ?_);(repeat apply Exists.intro)
     refine ⟨⟨rfl,(Below.refl _ wr).drew.trans hz⟩,rfl⟩
   case rest =>
   obtain ⟨rfl,hb0⟩:=hcut;generalize wc=wx0 at *;have HL0:Hid (Below w.heap.size w wx0):=HL.out.trans (hb0.mono HL.out.size);replace c1:=((bcell hb0).1 B _ hbr).trans c1;replace c2:=((bcell hb0).1 B _ hbr).trans c2;replace c3:=((bcell hb0).1 B _ hbr).trans c3;replace c4:=((bcell hb0).1 B _ hbr).trans c4;replace c5:=((bcell hb0).1 B _ hbr).trans c5;replace c6:=((bcell hb0).1 B _ hbr).trans c6;replace c7:=((bcell hb0).1 B _ hbr).trans c7;replace hbr:=Nat.lt_of_lt_of_le hbr hb0.size;clear hb0  c0;go_upto_region 7 with fail
   go_cut [29] (fun v wx=>v=.bool false∧Below wx0.heap.size wx0 wx)
   case first =>
    rename_i J K2 hJ hK2;refine wp_region_growL (Rs:=[IsV (.slice (some ⟨B,0,none⟩) L cap),IsV (.int .i64 (m:Int)),IsV (.pointer (some ⟨B,m*8,none⟩)),IsV (.pointer (some ⟨B,m*8+1,none⟩)),IsV (.string (markV (kk+1))),IsV (.int .i64 ((kk:Int)+1)),IsV (.string (markV (kk+1))),IsV (.bool false)]) [22,23,24,25,26,27,28,29] (by kernel_rfl) (by kernel_rfl) rfl ?st ?steps ?done
    case st=>simp [stable_isV,stable_isRow]
    case steps =>
     refine ⟨?s0,?s1,?s2,?s3,?s4,?s5,?s6,?s7,trivial⟩
     case s0 =>
      intro K' a wy ho hd hb hK;have h3:=ho 0 (by decide);simp [slot] at h3;clear hd;go_simp;try go_bits
      exact hK _ _ rfl (Below.refl _ _)
     case s1 =>
      intro K' a wy ho hd hb hK;have h3:=ho 5 (by decide);simp [slot] at h3;clear hd;go_simp;try go_bits
      exact hK _ _ rfl (Below.refl _ _)
     case s2 =>
      intro K' a wy ho hd hb hK;simp [Region.binds,rAt,IsV,slot] at hd;go_simp;try go_bits
      exact hK _ _ rfl (Below.refl _ _)
     case s3 =>
      intro K' a wy ho hd hb hK;simp [Region.binds,rAt,IsV,slot] at hd;go_simp;try go_bits
      exact hK _ _ rfl (Below.refl _ _)
     case s4 =>
      intro K' a wy ho hd hb hK;simp [Region.binds,rAt,IsV,slot] at hd;have hcx:=((bcell (Below.trans (Below.refl _ _).drew hb)).1 B _ hbr).trans c1;go_simp;try go_bits
      exact hK _ _ rfl (Below.refl _ _)
     case s5 =>
      intro K' a wy ho hd hb hK;have h3:=ho 1 (by decide);simp [slot] at h3;clear hd;go_simp;try go_bits
      exact hK _ _ rfl (Below.refl _ _)
     case s6 =>
      intro K' a wy ho hd hb hK;simp [Region.binds,rAt,IsV,slot] at hd;go_simp;refine (markText_at _ (kk+1) wy (by omega) (by omega) (by omega)).mono ?_;rintro e wz ⟨rfl,hz⟩;exact hK _ _ rfl hz
     case s7 =>
      intro K' a wy ho hd hb hK;simp [Region.binds,rAt,IsV,slot] at hd;go_simp;try go_bits
      exact hK _ _ rfl (Below.refl _ _)
    case done =>
     intro X wz hR hz;obtain ⟨x0,x1,x2,x3,x4,x5,x6,x7,-⟩:=hR;simp only [IsV] at x0 x1 x2 x3 x4 x5 x6 x7;simp only [putsFrom,x0,x1,x2,x3,x4,x5,x6,x7];clear x0 x1 x2 x3 x4 x5 x6 x7;go_simp;refine hK2 _ _ (hJ _ _ ?_);(repeat apply Exists.intro)
     refine ⟨⟨rfl,(Below.refl _ wx0).drew.trans hz⟩,rfl⟩
   case rest =>
   obtain ⟨rfl,hb1⟩:=hcut;generalize wc=wx1 at *;have HL1:Hid (Below w.heap.size w wx1):=HL0.out.trans (hb1.mono HL0.out.size);replace c2:=((bcell hb1).1 B _ hbr).trans c2;replace c3:=((bcell hb1).1 B _ hbr).trans c3;replace c4:=((bcell hb1).1 B _ hbr).trans c4;replace c5:=((bcell hb1).1 B _ hbr).trans c5;replace c6:=((bcell hb1).1 B _ hbr).trans c6;replace c7:=((bcell hb1).1 B _ hbr).trans c7;replace hbr:=Nat.lt_of_lt_of_le hbr hb1.size;clear hb1 HL0 c1;go_upto_region 22 with fail
   go_cut [77] (fun v wx=>v=.bool false∧Below wx1.heap.size wx1 wx)
   case first =>
    rename_i J K2 hJ hK2;refine wp_region_growL (Rs:=[IsV (.slice (some ⟨B,0,none⟩) L cap),IsV (.int .i64 (m:Int)),IsV (.pointer (some ⟨B,m*8,none⟩)),IsV (.pointer (some ⟨B,m*8+6,none⟩)),IsV (.string (markV (kk+6))),IsV (.int .i64 ((kk:Int)+1+1+1+1+1+1)),IsV (.string (markV (kk+6))),IsV (.bool false)]) [70,71,72,73,74,75,76,77] (by kernel_rfl) (by kernel_rfl) rfl ?st ?steps ?done
    case st=>simp [stable_isV,stable_isRow]
    case steps =>
     refine ⟨?s0,?s1,?s2,?s3,?s4,?s5,?s6,?s7,trivial⟩
     case s0 =>
      intro K' a wy ho hd hb hK;have h3:=ho 0 (by decide);simp [slot] at h3;clear hd;go_simp;try go_bits
      exact hK _ _ rfl (Below.refl _ _)
     case s1 =>
      intro K' a wy ho hd hb hK;have h3:=ho 5 (by decide);simp [slot] at h3;clear hd;go_simp;try go_bits
      exact hK _ _ rfl (Below.refl _ _)
     case s2 =>
      intro K' a wy ho hd hb hK;simp [Region.binds,rAt,IsV,slot] at hd;go_simp;try go_bits
      exact hK _ _ rfl (Below.refl _ _)
     case s3 =>
      intro K' a wy ho hd hb hK;simp [Region.binds,rAt,IsV,slot] at hd;go_simp;try go_bits
      exact hK _ _ rfl (Below.refl _ _)
     case s4 =>
      intro K' a wy ho hd hb hK;simp [Region.binds,rAt,IsV,slot] at hd;have hcx:=((bcell (Below.trans (Below.refl _ _).drew hb)).1 B _ hbr).trans c6;go_simp;try go_bits
      exact hK _ _ rfl (Below.refl _ _)
     case s5 =>
      intro K' a wy ho hd hb hK;have h3:=ho 1 (by decide);simp [slot] at h3;clear hd;go_simp;try go_bits
      exact hK _ _ rfl (Below.refl _ _)
     case s6 =>
      intro K' a wy ho hd hb hK;simp [Region.binds,rAt,IsV,slot] at hd;go_simp;refine (markText_at _ (kk+6) wy (by omega) (by omega) (by omega)).mono ?_;rintro e wz ⟨rfl,hz⟩;exact hK _ _ rfl hz
     case s7 =>
      intro K' a wy ho hd hb hK;simp [Region.binds,rAt,IsV,slot] at hd;go_simp;try go_bits
      exact hK _ _ rfl (Below.refl _ _)
    case done =>
     intro X wz hR hz;obtain ⟨x0,x1,x2,x3,x4,x5,x6,x7,-⟩:=hR;simp only [IsV] at x0 x1 x2 x3 x4 x5 x6 x7;simp only [putsFrom,x0,x1,x2,x3,x4,x5,x6,x7];clear x0 x1 x2 x3 x4 x5 x6 x7;go_simp;refine hK2 _ _ (hJ _ _ ?_);(repeat apply Exists.intro)
     refine ⟨⟨rfl,(Below.refl _ wx1).drew.trans hz⟩,rfl⟩
   case rest =>
   obtain ⟨rfl,hb6⟩:=hcut;generalize wc=wx6 at *;have HL6:Hid (Below w.heap.size w wx6):=HL1.out.trans (hb6.mono HL1.out.size);replace c7:=((bcell hb6).1 B _ hbr).trans c7;replace hbr:=Nat.lt_of_lt_of_le hbr hb6.size;clear hb6 HL1 c6;go_wp2_with fail
   go_roundw
   case rel=>exact ⟨m+1,by omega,by go_num,by have:=HKK.out; congr 1; omega,HL6.out⟩
   case measure=>simp [intOf]; omega
  ·have hml:m=L:=by omega
   go_wp2_with fail
   go_ret;exact ⟨ret_int (by rw [hml]),HL.out⟩
theorem markPieceS_nil (a:Option Addr) (cap k:Nat) (w:World) (hL:k≤1073741824) :
  Calls Tryz.prog 59 #[.slice a 0 cap,.int .i64 k] w fun e w'=>e=.returned (.int .i64 (k:Int))∧w'=w:=by
 go_enter Tryz.func59,Tryz.ntmps59
 go_wp2_with fail
 go_loopw [1,5] (fun kv i wr=>kv=.int .i64 k∧i=.int .i64 0∧wr=w) (fun _ _ _=>0)
 case atStart=>exact ⟨rfl,rfl,rfl⟩
 case round =>
  obtain ⟨rfl,rfl,rfl⟩:=hrel;go_wp2_with fail
  go_ret;exact ⟨rfl,rfl⟩
theorem heldPieceS_nil (a:Option Addr) (cap k:Nat) (w:World) (hL:k≤1073741824) :
  Calls Tryz.prog 63 #[.slice a 0 cap,.int .i64 k] w fun e w'=>e=.returned (.int .i64 (k:Int))∧w'=w:=by
 go_enter Tryz.func63,Tryz.ntmps63
 go_wp2_with fail
 go_loopw [1,5] (fun kv i wr=>kv=.int .i64 k∧i=.int .i64 0∧wr=w) (fun _ _ _=>0)
 case atStart=>exact ⟨rfl,rfl,rfl⟩
 case round =>
  obtain ⟨rfl,rfl,rfl⟩:=hrel;go_wp2_with fail
  go_ret;exact ⟨rfl,rfl⟩
theorem heldPieceS_own (base L:Nat) (a:Option Addr) (cap k:Nat) (w:World) (hk:0 < k) (hL:k+8*L≤1073741824) (hs:MkOwn 8 pieceM base w a k L) :
  Calls Tryz.prog 63 #[.slice a L cap,.int .i64 k] w fun e w'=>e=.returned (.int .i64 ((k+8*L:Nat):Int))∧Below w.heap.size w w':=by
 rcases hs with rfl | ⟨g,rfl,hb,hl⟩
 ·refine (heldPieceS_nil a cap k w (by omega)).mono ?_;rintro e w' ⟨rfl,rfl⟩;exact ⟨rfl,Below.refl _ _⟩
 ·exact heldPieceS_any g L cap k w hk hL hl
end Go.Proofs.YthagnjokdnnmpaaGreat
