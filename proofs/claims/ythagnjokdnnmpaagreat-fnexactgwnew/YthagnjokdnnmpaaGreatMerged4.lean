import Derived.Test.YthagnjokdnnmpaaGreatMerged1
import Derived.Test.YthagnjokdnnmpaaGreatMerged2
import Derived.Test.YthagnjokdnnmpaaGreatMerged3
import Derived.Deep.RegionWith
import Derived.Deep.DeepCutAuto
set_option linter.unusedVariables false
set_option linter.unusedSimpArgs false
set_option maxRecDepth 100000
set_option maxHeartbeats 8000000
namespace Go.Proofs.YthagnjokdnnmpaaGreat
open Go.RowKit Go.PlainAid Go.ChangeShapes Go.WideShapes
def BdsWf (xs:List Bd):Prop:=xs.length≤maxLen∧∀ q∈xs,BdWf q
section
variable {H:Type} {enc:TypeId × Value→H} {w:World} {base:Nat} {spare:Nat→Bool} {held:Bool}
end
theorem Tryz.infoBd:(Tryz.prog.info? 153).map (fun i=>(i.zero,i.size,i.bytes))=some (some (.agg #[.int .i64 0,.string ⟨#[]⟩,.int .i64 0,.string ⟨#[]⟩,.int .i64 0]),5,56):=by kernel_rfl
theorem eqBindS_same (xs:List Bd) (a1 a2:Option Addr) (cap1 cap2:Nat) (w:World) (hlen:xs.length≤1048576) (h1:SlIs bdL 5 w a1 xs) (h2:SlIs bdL 5 w a2 xs) :
  Calls Tryz.prog 91 #[.slice a1 xs.length cap1,.slice a2 xs.length cap2] w fun e w'=>e=.returned (.bool true)∧Below w.heap.size w w':=by
 have H1:Hid (SlIs bdL 5 w a1 xs):=h1;have H2:Hid (SlIs bdL 5 w a2 xs):=h2;clear h1 h2;go_enter Tryz.func91,Tryz.ntmps91
 go_wp2_with fail
 go_loopw [5] (fun i wr=>∃ k:Nat,k≤xs.length∧i=.int .i64 k∧Below w.heap.size w wr) (fun i _=>xs.length-(intOf i).toNat)
 case atStart=>exact ⟨0,Nat.zero_le _,rfl,Below.refl _ _⟩
 case round =>
  obtain ⟨k,hk,rfl,hbel⟩:=hrel;have HL:Hid (Below w.heap.size w wr):=hbel;clear hbel;by_cases hlt:k < xs.length
  ·obtain ⟨b1,o1,rfl,hb1,hA⟩:=H1.out.at hlt;obtain ⟨b2,o2,rfl,hb2,hB⟩:=H2.out.at hlt;have hA:=(hA.below hb1 HL.out) k hlt;have hB:=(hB.below hb2 HL.out) k hlt;obtain ⟨q,hq⟩ : ∃ q,q=xs[k]:=⟨_,rfl⟩;rw [← hq] at hA hB;have c0:wr.cell? ⟨b1,o1+k*5,none⟩=some (.int .i64 q.proto):=hA 0 _ rfl;have c1:wr.cell? ⟨b1,o1+k*5+1,none⟩=some (.string q.inn):=hA 1 _ rfl;have c2:wr.cell? ⟨b1,o1+k*5+2,none⟩=some (.int .i64 q.inPort):=hA 2 _ rfl;have c3:wr.cell? ⟨b1,o1+k*5+3,none⟩=some (.string q.out):=hA 3 _ rfl;have c4:wr.cell? ⟨b1,o1+k*5+4,none⟩=some (.int .i64 q.outPort):=hA 4 _ rfl;have d0:wr.cell? ⟨b2,o2+k*5,none⟩=some (.int .i64 q.proto):=hB 0 _ rfl;have d1:wr.cell? ⟨b2,o2+k*5+1,none⟩=some (.string q.inn):=hB 1 _ rfl;have d2:wr.cell? ⟨b2,o2+k*5+2,none⟩=some (.int .i64 q.inPort):=hB 2 _ rfl;have d3:wr.cell? ⟨b2,o2+k*5+3,none⟩=some (.string q.out):=hB 3 _ rfl;have d4:wr.cell? ⟨b2,o2+k*5+4,none⟩=some (.int .i64 q.outPort):=hB 4 _ rfl;have HC:Hid (∀ W,Calls Tryz.prog 129 #[bdC q,bdC q] W fun e w'=>e=.returned (.bool true)∧Below W.heap.size W w'):=fun W=>eqBind_same q W
   unfold bdC at HC;clear hq hA hB;go_wp2_with fail
   go_region_with (go_at_call 129; refine (HC.out _).mono ?_; rintro e w2 ⟨rfl,q2⟩)
   all_goals
    have HL2:Hid (Below w.heap.size w w2):=HL.out.trans ((below_undrew q2).mono HL.out.size);clear q2;go_wp2_with fail
    go_roundw
    case rel=>exact ⟨k+1,by omega,by go_num,HL2.out⟩
    case measure=>simp [intOf]; omega
  ·go_wp2_with fail
   go_ret;exact ⟨rfl,HL.out⟩
def bindM (k:Nat):List Value:=[.int .i64 ((k:Nat):Int),.string (markV (k+1)),.int .i64 ((k+2:Nat):Int),.string (markV (k+3)),.int .i64 ((k+4:Nat):Int)]
theorem bindM_length (k:Nat):(bindM k).length=5:=rfl
theorem markBindS_any (B L cap k:Nat) (w:World) (hk:0 < k) (hL:k+5*L≤1073741824) (hs:SlLaid bindM 5 w B (marksOf 5 k L) L 0) :
  Calls Tryz.prog 94 #[.slice (some ⟨B,0,none⟩) L cap,.int .i64 k] w fun e w'=>e=.returned (.int .i64 ((k+5*L:Nat):Int))∧SlLaid bindM 5 w' B (marksOf 5 k L) L L∧w.grownBy w' (some B):=by
 have HS:Hid _:=hs;clear hs;go_enter Tryz.func94,Tryz.ntmps94
 go_wp2_with fail
 go_loopw [1,5] (fun kv i wr=>∃ m:Nat,m≤L∧i=.int .i64 m∧kv=.int .i64 ((k+5*m:Nat):Int)∧SlLaid bindM 5 wr B (marksOf 5 k L) L m∧w.grownBy wr (some B)) (fun _ i _=>L-(intOf i).toNat)
 case atStart=>exact ⟨0,Nat.zero_le _,rfl,rfl,HS.out,World.grownBy.refl _ _⟩
 case round =>
  obtain ⟨m,hm,rfl,rfl,hy,hg⟩:=hrel;have HK:Hid (MkSt bindM 5 w B k L m [] wr):=MkSt.new hy hg;clear hy hg HS;by_cases hlt:m < L
  ·obtain ⟨kk,hkk⟩ : ∃ kk,kk=k+5*m:=⟨_,rfl⟩;have HKK:Hid (kk=k+5*m):=hkk;rw [← hkk];have hk1:0 < kk:=by omega
   have hk2:kk+5≤1073741824:=by omega
   clear hkk;obtain ⟨v0,t0⟩:=HK.out.there (j:=0) hlt (by omega);have f0:=HK.out.free (j:=0) hlt (by omega);rw [Nat.add_zero] at t0 f0;go_wp2_with fail
   refine (markText_at _ (kk+1) _ (by omega) (by omega) (by omega)).mono ?_;rintro e wA1 ⟨rfl,qA1⟩;have HA1:Hid (MkSt bindM 5 w B k L m [.int .i64 ((kk:Nat):Int)] wA1):=((HK.out.put bindM_length (by simp) hlt (.int .i64 ((kk:Nat):Int)))).call qA1;clear qA1 HK;obtain ⟨v1,t1⟩:=HA1.out.there (j:=1) hlt (by omega);have f1:=HA1.out.free (j:=1) hlt (by omega);obtain ⟨v2,t2⟩:=HA1.out.there (j:=2) hlt (by omega);have f2:=HA1.out.free (j:=2) hlt (by omega);go_wp2_with fail
   refine (markText_at _ (kk+3) _ (by omega) (by omega) (by omega)).mono ?_;rintro e wA3 ⟨rfl,qA3⟩;have HA3:Hid (MkSt bindM 5 w B k L m [.int .i64 ((kk:Nat):Int),.string (markV (kk+1)),.int .i64 ((kk+2:Nat):Int)] wA3):=(((HA1.out.put bindM_length (by simp) hlt (.string (markV (kk+1)))).put bindM_length (by simp) hlt (.int .i64 ((kk+2:Nat):Int)))).call qA3;clear qA3 HA1;clear t1 f1 t2 f2;obtain ⟨v3,t3⟩:=HA3.out.there (j:=3) hlt (by omega);have f3:=HA3.out.free (j:=3) hlt (by omega);obtain ⟨v4,t4⟩:=HA3.out.there (j:=4) hlt (by omega);have f4:=HA3.out.free (j:=4) hlt (by omega);go_wp2_with fail
   go_roundw
   case rel =>
    have hF:MkSt bindM 5 w B k L m (bindM kk) _:=((HA3.out.put bindM_length (by simp) hlt (.string (markV (kk+3)))).put bindM_length (by simp) hlt (.int .i64 ((kk+4:Nat):Int)));exact ⟨m+1,by omega,by go_num,by have:=HKK.out; congr 1; omega,hF.next bindM_length (by rw [HKK.out]) hlt,hF.grown⟩
   case measure=>simp [intOf]; omega
  ·have hml:m=L:=by omega
   have HE:Hid (SlLaid bindM 5 wr B (marksOf 5 k L) L L∧w.grownBy wr (some B)):=⟨by have h:=HK.out.laid; rw [hml] at h; exact h,HK.out.grown⟩;clear HK;go_wp2_with fail
   go_ret;exact ⟨ret_int (by rw [hml]),HE.out.1,HE.out.2⟩
theorem heldBindS_any (B L cap k:Nat) (w:World) (hk:0 < k) (hL:k+5*L≤1073741824) (hs:SlLaid bindM 5 w B (marksOf 5 k L) L L) :
  Calls Tryz.prog 97 #[.slice (some ⟨B,0,none⟩) L cap,.int .i64 k] w fun e w'=>e=.returned (.int .i64 ((k+5*L:Nat):Int))∧Below w.heap.size w w':=by
 have hblk:=hs.blk;have HS:Hid _:=hs;clear hs;go_enter Tryz.func97,Tryz.ntmps97
 go_wp2_with fail
 go_loopw [1,5] (fun kv i wr=>∃ m:Nat,m≤L∧i=.int .i64 m∧kv=.int .i64 ((k+5*m:Nat):Int)∧Below w.heap.size w wr) (fun _ i _=>L-(intOf i).toNat)
 case atStart=>exact ⟨0,Nat.zero_le _,rfl,rfl,Below.refl _ _⟩
 case round =>
  obtain ⟨m,hm,rfl,rfl,hbel⟩:=hrel;have HL:Hid (Below w.heap.size w wr):=hbel;clear hbel;by_cases hlt:m < L
  ·have hR:=(HS.out.kept HL.out).at0 m (by rw [marksOf_length]; exact hlt) hlt;rw [marksOf_get] at hR;have hbr:B < wr.heap.size:=Nat.lt_of_lt_of_le hblk HL.out.size;obtain ⟨kk,hkk⟩ : ∃ kk,kk=k+5*m:=⟨_,rfl⟩;have HKK:Hid (kk=k+5*m):=hkk;rw [← hkk] at hR ⊢;have hk1:0 < kk:=by omega
   have hk2:kk+5≤1073741824:=by omega
   clear hkk;have c0:wr.cell? ⟨B,m*5,none⟩=some (.int .i64 ((kk:Int))):=hR 0 _ rfl;have c1:wr.cell? ⟨B,m*5+1,none⟩=some (.string (markV (kk+1))):=hR 1 _ rfl;have c2:wr.cell? ⟨B,m*5+2,none⟩=some (.int .i64 ((kk:Int)+1+1)):=hR 2 _ rfl;have c3:wr.cell? ⟨B,m*5+3,none⟩=some (.string (markV (kk+3))):=hR 3 _ rfl;have c4:wr.cell? ⟨B,m*5+4,none⟩=some (.int .i64 ((kk:Int)+1+1+1+1)):=hR 4 _ rfl;clear hR;go_upto_region 7 with fail
   go_cut [28] (fun v wx=>v=.bool false∧Below wr.heap.size wr wx)
   case first =>
    rename_i J K2 hJ hK2;refine wp_region_growL (Rs:=[IsV (.slice (some ⟨B,0,none⟩) L cap),IsV (.int .i64 (m:Int)),IsV (.pointer (some ⟨B,m*5,none⟩)),IsV (.pointer (some ⟨B,m*5+1,none⟩)),IsV (.string (markV (kk+1))),IsV (.int .i64 ((kk:Int)+1)),IsV (.string (markV (kk+1))),IsV (.bool false)]) [21,22,23,24,25,26,27,28] (by kernel_rfl) (by kernel_rfl) rfl ?st ?steps ?done
    case st=>simp [stable_isV,stable_isRow]
    case steps =>
     refine ⟨?s0,?s1,?s2,?s3,?s4,?s5,?s6,?s7,trivial⟩
     case s0 =>
      intro K' a wy ho hd hb hK;have h3:=ho 0 (by decide);simp [slot] at h3;clear hd;go_simp;try go_bits
      exact hK _ _ rfl (Below.refl _ _)
     case s1 =>
      intro K' a wy ho hd hb hK;have h3:=ho 5 (by decide);simp [slot] at h3;clear hd;go_simp;try go_bits
      exact hK _ _ rfl (Below.refl _ _)
     case s2 =>
      intro K' a wy ho hd hb hK;simp [Region.binds,rAt,IsV,slot] at hd;go_simp;try go_bits
      exact hK _ _ rfl (Below.refl _ _)
     case s3 =>
      intro K' a wy ho hd hb hK;simp [Region.binds,rAt,IsV,slot] at hd;go_simp;try go_bits
      exact hK _ _ rfl (Below.refl _ _)
     case s4 =>
      intro K' a wy ho hd hb hK;simp [Region.binds,rAt,IsV,slot] at hd;have hcx:=((bcell (Below.trans (Below.refl _ _).drew hb)).1 B _ hbr).trans c1;go_simp;try go_bits
      exact hK _ _ rfl (Below.refl _ _)
     case s5 =>
      intro K' a wy ho hd hb hK;have h3:=ho 1 (by decide);simp [slot] at h3;clear hd;go_simp;try go_bits
      exact hK _ _ rfl (Below.refl _ _)
     case s6 =>
      intro K' a wy ho hd hb hK;simp [Region.binds,rAt,IsV,slot] at hd;go_simp;refine (markText_at _ (kk+1) wy (by omega) (by omega) (by omega)).mono ?_;rintro e wz ⟨rfl,hz⟩;exact hK _ _ rfl hz
     case s7 =>
      intro K' a wy ho hd hb hK;simp [Region.binds,rAt,IsV,slot] at hd;go_simp;try go_bits
      exact hK _ _ rfl (Below.refl _ _)
    case done =>
     intro X wz hR hz;obtain ⟨x0,x1,x2,x3,x4,x5,x6,x7,-⟩:=hR;simp only [IsV] at x0 x1 x2 x3 x4 x5 x6 x7;simp only [putsFrom,x0,x1,x2,x3,x4,x5,x6,x7];clear x0 x1 x2 x3 x4 x5 x6 x7;go_simp;refine hK2 _ _ (hJ _ _ ?_);(repeat apply Exists.intro)
     refine ⟨⟨rfl,(Below.refl _ wr).drew.trans hz⟩,rfl⟩
   case rest =>
   obtain ⟨rfl,hb1⟩:=hcut;generalize wc=wx1 at *;have HL1:Hid (Below w.heap.size w wx1):=HL.out.trans (hb1.mono HL.out.size);replace c2:=((bcell hb1).1 B _ hbr).trans c2;replace c3:=((bcell hb1).1 B _ hbr).trans c3;replace c4:=((bcell hb1).1 B _ hbr).trans c4;replace hbr:=Nat.lt_of_lt_of_le hbr hb1.size;clear hb1  c1;go_upto_region 13 with fail
   go_cut [47] (fun v wx=>v=.bool false∧Below wx1.heap.size wx1 wx)
   case first =>
    rename_i J K2 hJ hK2;refine wp_region_growL (Rs:=[IsV (.slice (some ⟨B,0,none⟩) L cap),IsV (.int .i64 (m:Int)),IsV (.pointer (some ⟨B,m*5,none⟩)),IsV (.pointer (some ⟨B,m*5+3,none⟩)),IsV (.string (markV (kk+3))),IsV (.int .i64 ((kk:Int)+1+1+1)),IsV (.string (markV (kk+3))),IsV (.bool false)]) [40,41,42,43,44,45,46,47] (by kernel_rfl) (by kernel_rfl) rfl ?st ?steps ?done
    case st=>simp [stable_isV,stable_isRow]
    case steps =>
     refine ⟨?s0,?s1,?s2,?s3,?s4,?s5,?s6,?s7,trivial⟩
     case s0 =>
      intro K' a wy ho hd hb hK;have h3:=ho 0 (by decide);simp [slot] at h3;clear hd;go_simp;try go_bits
      exact hK _ _ rfl (Below.refl _ _)
     case s1 =>
      intro K' a wy ho hd hb hK;have h3:=ho 5 (by decide);simp [slot] at h3;clear hd;go_simp;try go_bits
      exact hK _ _ rfl (Below.refl _ _)
     case s2 =>
      intro K' a wy ho hd hb hK;simp [Region.binds,rAt,IsV,slot] at hd;go_simp;try go_bits
      exact hK _ _ rfl (Below.refl _ _)
     case s3 =>
      intro K' a wy ho hd hb hK;simp [Region.binds,rAt,IsV,slot] at hd;go_simp;try go_bits
      exact hK _ _ rfl (Below.refl _ _)
     case s4 =>
      intro K' a wy ho hd hb hK;simp [Region.binds,rAt,IsV,slot] at hd;have hcx:=((bcell (Below.trans (Below.refl _ _).drew hb)).1 B _ hbr).trans c3;go_simp;try go_bits
      exact hK _ _ rfl (Below.refl _ _)
     case s5 =>
      intro K' a wy ho hd hb hK;have h3:=ho 1 (by decide);simp [slot] at h3;clear hd;go_simp;try go_bits
      exact hK _ _ rfl (Below.refl _ _)
     case s6 =>
      intro K' a wy ho hd hb hK;simp [Region.binds,rAt,IsV,slot] at hd;go_simp;refine (markText_at _ (kk+3) wy (by omega) (by omega) (by omega)).mono ?_;rintro e wz ⟨rfl,hz⟩;exact hK _ _ rfl hz
     case s7 =>
      intro K' a wy ho hd hb hK;simp [Region.binds,rAt,IsV,slot] at hd;go_simp;try go_bits
      exact hK _ _ rfl (Below.refl _ _)
    case done =>
     intro X wz hR hz;obtain ⟨x0,x1,x2,x3,x4,x5,x6,x7,-⟩:=hR;simp only [IsV] at x0 x1 x2 x3 x4 x5 x6 x7;simp only [putsFrom,x0,x1,x2,x3,x4,x5,x6,x7];clear x0 x1 x2 x3 x4 x5 x6 x7;go_simp;refine hK2 _ _ (hJ _ _ ?_);(repeat apply Exists.intro)
     refine ⟨⟨rfl,(Below.refl _ wx1).drew.trans hz⟩,rfl⟩
   case rest =>
   obtain ⟨rfl,hb3⟩:=hcut;generalize wc=wx3 at *;have HL3:Hid (Below w.heap.size w wx3):=HL1.out.trans (hb3.mono HL1.out.size);replace c4:=((bcell hb3).1 B _ hbr).trans c4;replace hbr:=Nat.lt_of_lt_of_le hbr hb3.size;clear hb3 HL1 c3;go_wp2_with fail
   go_roundw
   case rel=>exact ⟨m+1,by omega,by go_num,by have:=HKK.out; congr 1; omega,HL3.out⟩
   case measure=>simp [intOf]; omega
  ·have hml:m=L:=by omega
   go_wp2_with fail
   go_ret;exact ⟨ret_int (by rw [hml]),HL.out⟩
theorem markBindS_nil (a:Option Addr) (cap k:Nat) (w:World) (hL:k≤1073741824) :
  Calls Tryz.prog 94 #[.slice a 0 cap,.int .i64 k] w fun e w'=>e=.returned (.int .i64 (k:Int))∧w'=w:=by
 go_enter Tryz.func94,Tryz.ntmps94
 go_wp2_with fail
 go_loopw [1,5] (fun kv i wr=>kv=.int .i64 k∧i=.int .i64 0∧wr=w) (fun _ _ _=>0)
 case atStart=>exact ⟨rfl,rfl,rfl⟩
 case round =>
  obtain ⟨rfl,rfl,rfl⟩:=hrel;go_wp2_with fail
  go_ret;exact ⟨rfl,rfl⟩
theorem heldBindS_nil (a:Option Addr) (cap k:Nat) (w:World) (hL:k≤1073741824) :
  Calls Tryz.prog 97 #[.slice a 0 cap,.int .i64 k] w fun e w'=>e=.returned (.int .i64 (k:Int))∧w'=w:=by
 go_enter Tryz.func97,Tryz.ntmps97
 go_wp2_with fail
 go_loopw [1,5] (fun kv i wr=>kv=.int .i64 k∧i=.int .i64 0∧wr=w) (fun _ _ _=>0)
 case atStart=>exact ⟨rfl,rfl,rfl⟩
 case round =>
  obtain ⟨rfl,rfl,rfl⟩:=hrel;go_wp2_with fail
  go_ret;exact ⟨rfl,rfl⟩
theorem heldBindS_own (base L:Nat) (a:Option Addr) (cap k:Nat) (w:World) (hk:0 < k) (hL:k+5*L≤1073741824) (hs:MkOwn 5 bindM base w a k L) :
  Calls Tryz.prog 97 #[.slice a L cap,.int .i64 k] w fun e w'=>e=.returned (.int .i64 ((k+5*L:Nat):Int))∧Below w.heap.size w w':=by
 rcases hs with rfl | ⟨g,rfl,hb,hl⟩
 ·refine (heldBindS_nil a cap k w (by omega)).mono ?_;rintro e w' ⟨rfl,rfl⟩;exact ⟨rfl,Below.refl _ _⟩
 ·exact heldBindS_any g L cap k w hk hL hl
def SsWf (p:Ss):Prop:=In64t p.proto∧p.inn.size≤maxLen∧In64t p.inPort∧p.peer.size≤maxLen∧In64t p.peerPort∧In64t p.state∧In64t p.untl
structure BoxSession (w:World) (B:Nat) (p:Ss):Prop where
 c0:w.cell? ⟨B,0,none⟩=some (.int .i64 p.proto)
 c1:w.cell? ⟨B,1,none⟩=some (.string p.inn)
 c2:w.cell? ⟨B,2,none⟩=some (.int .i64 p.inPort)
 c3:w.cell? ⟨B,3,none⟩=some (.string p.peer)
 c4:w.cell? ⟨B,4,none⟩=some (.int .i64 p.peerPort)
 c5:w.cell? ⟨B,5,none⟩=some (.int .i64 p.state)
 c6:w.cell? ⟨B,6,none⟩=some (.int .i64 p.untl)
theorem BoxSession.kept {w W:World} {B:Nat} {p:Ss} (h:BoxSession w B p) (hB:Below w.heap.size w W):BoxSession W B p:=by
 have hb:=World.block_lt_of_cell? w _ h.c0;exact ⟨((bcell hB).1 B 0 hb).trans h.c0,((bcell hB).1 B 1 hb).trans h.c1,((bcell hB).1 B 2 hb).trans h.c2,((bcell hB).1 B 3 hb).trans h.c3,((bcell hB).1 B 4 hb).trans h.c4,((bcell hB).1 B 5 hb).trans h.c5,((bcell hB).1 B 6 hb).trans h.c6⟩
theorem BoxSession.new (w:World) (p:Ss) {t:TypeId}:BoxSession (w.alloc (.cells #[.int .i64 p.proto,.string p.inn,.int .i64 p.inPort,.string p.peer,.int .i64 p.peerPort,.int .i64 p.state,.int .i64 p.untl] t)) w.heap.size p:=⟨cell_new rfl,cell_new rfl,cell_new rfl,cell_new rfl,cell_new rfl,cell_new rfl,cell_new rfl⟩
section
variable {H:Type} {enc:TypeId × Value→H} {w:World} {base:Nat} {spare:Nat→Bool} {held:Bool}
end
theorem eqSession_same (p:Ss) (w:World) :
  Calls Tryz.prog 130 #[ssC p,ssC p] w fun e w'=>e=.returned (.bool true)∧Below w.heap.size w w':=by
 obtain ⟨proto,inn,inPort,peer,peerPort,state,untl⟩:=p;unfold ssC;dsimp only;have HZ:Hid (Below w.heap.size w ((w.alloc (.cells #[.int .i64 proto,.string inn,.int .i64 inPort,.string peer,.int .i64 peerPort,.int .i64 state,.int .i64 untl] 150)).alloc (.cells #[.int .i64 proto,.string inn,.int .i64 inPort,.string peer,.int .i64 peerPort,.int .i64 state,.int .i64 untl] 150))):=((Below.refl _ _).alloc (Nat.le_refl _) _).alloc (by simp) _;go_enter Tryz.func130,Tryz.ntmps130
 go_wp2_with fail
 go_ret;exact ⟨rfl,HZ.out⟩
def SssWf (xs:List Ss):Prop:=xs.length≤maxLen∧∀ q∈xs,SsWf q
section
variable {H:Type} {enc:TypeId × Value→H} {w:World} {base:Nat} {spare:Nat→Bool} {held:Bool}
end
theorem Tryz.infoSs:(Tryz.prog.info? 150).map (fun i=>(i.zero,i.size,i.bytes))=some (some (.agg #[.int .i64 0,.string ⟨#[]⟩,.int .i64 0,.string ⟨#[]⟩,.int .i64 0,.int .i64 0,.int .i64 0]),7,72):=by kernel_rfl
theorem eqSessionS_same (xs:List Ss) (a1 a2:Option Addr) (cap1 cap2:Nat) (w:World) (hlen:xs.length≤1048576) (h1:SlIs ssL 7 w a1 xs) (h2:SlIs ssL 7 w a2 xs) :
  Calls Tryz.prog 92 #[.slice a1 xs.length cap1,.slice a2 xs.length cap2] w fun e w'=>e=.returned (.bool true)∧Below w.heap.size w w':=by
 have H1:Hid (SlIs ssL 7 w a1 xs):=h1;have H2:Hid (SlIs ssL 7 w a2 xs):=h2;clear h1 h2;go_enter Tryz.func92,Tryz.ntmps92
 go_wp2_with fail
 go_loopw [5] (fun i wr=>∃ k:Nat,k≤xs.length∧i=.int .i64 k∧Below w.heap.size w wr) (fun i _=>xs.length-(intOf i).toNat)
 case atStart=>exact ⟨0,Nat.zero_le _,rfl,Below.refl _ _⟩
 case round =>
  obtain ⟨k,hk,rfl,hbel⟩:=hrel;have HL:Hid (Below w.heap.size w wr):=hbel;clear hbel;by_cases hlt:k < xs.length
  ·obtain ⟨b1,o1,rfl,hb1,hA⟩:=H1.out.at hlt;obtain ⟨b2,o2,rfl,hb2,hB⟩:=H2.out.at hlt;have hA:=(hA.below hb1 HL.out) k hlt;have hB:=(hB.below hb2 HL.out) k hlt;obtain ⟨q,hq⟩ : ∃ q,q=xs[k]:=⟨_,rfl⟩;rw [← hq] at hA hB;have c0:wr.cell? ⟨b1,o1+k*7,none⟩=some (.int .i64 q.proto):=hA 0 _ rfl;have c1:wr.cell? ⟨b1,o1+k*7+1,none⟩=some (.string q.inn):=hA 1 _ rfl;have c2:wr.cell? ⟨b1,o1+k*7+2,none⟩=some (.int .i64 q.inPort):=hA 2 _ rfl;have c3:wr.cell? ⟨b1,o1+k*7+3,none⟩=some (.string q.peer):=hA 3 _ rfl;have c4:wr.cell? ⟨b1,o1+k*7+4,none⟩=some (.int .i64 q.peerPort):=hA 4 _ rfl;have c5:wr.cell? ⟨b1,o1+k*7+5,none⟩=some (.int .i64 q.state):=hA 5 _ rfl;have c6:wr.cell? ⟨b1,o1+k*7+6,none⟩=some (.int .i64 q.untl):=hA 6 _ rfl;have d0:wr.cell? ⟨b2,o2+k*7,none⟩=some (.int .i64 q.proto):=hB 0 _ rfl;have d1:wr.cell? ⟨b2,o2+k*7+1,none⟩=some (.string q.inn):=hB 1 _ rfl;have d2:wr.cell? ⟨b2,o2+k*7+2,none⟩=some (.int .i64 q.inPort):=hB 2 _ rfl;have d3:wr.cell? ⟨b2,o2+k*7+3,none⟩=some (.string q.peer):=hB 3 _ rfl;have d4:wr.cell? ⟨b2,o2+k*7+4,none⟩=some (.int .i64 q.peerPort):=hB 4 _ rfl;have d5:wr.cell? ⟨b2,o2+k*7+5,none⟩=some (.int .i64 q.state):=hB 5 _ rfl;have d6:wr.cell? ⟨b2,o2+k*7+6,none⟩=some (.int .i64 q.untl):=hB 6 _ rfl;have HC:Hid (∀ W,Calls Tryz.prog 130 #[ssC q,ssC q] W fun e w'=>e=.returned (.bool true)∧Below W.heap.size W w'):=fun W=>eqSession_same q W
   unfold ssC at HC;clear hq hA hB;go_wp2_with fail
   go_region_with (go_at_call 130; refine (HC.out _).mono ?_; rintro e w2 ⟨rfl,q2⟩)
   all_goals
    have HL2:Hid (Below w.heap.size w w2):=HL.out.trans ((below_undrew q2).mono HL.out.size);clear q2;go_wp2_with fail
    go_roundw
    case rel=>exact ⟨k+1,by omega,by go_num,HL2.out⟩
    case measure=>simp [intOf]; omega
  ·go_wp2_with fail
   go_ret;exact ⟨rfl,HL.out⟩
def sessionM (k:Nat):List Value:=[.int .i64 ((k:Nat):Int),.string (markV (k+1)),.int .i64 ((k+2:Nat):Int),.string (markV (k+3)),.int .i64 ((k+4:Nat):Int),.int .i64 ((k+5:Nat):Int),.int .i64 ((k+6:Nat):Int)]
theorem sessionM_length (k:Nat):(sessionM k).length=7:=rfl
theorem markSessionS_any (B L cap k:Nat) (w:World) (hk:0 < k) (hL:k+7*L≤1073741824) (hs:SlLaid sessionM 7 w B (marksOf 7 k L) L 0) :
  Calls Tryz.prog 95 #[.slice (some ⟨B,0,none⟩) L cap,.int .i64 k] w fun e w'=>e=.returned (.int .i64 ((k+7*L:Nat):Int))∧SlLaid sessionM 7 w' B (marksOf 7 k L) L L∧w.grownBy w' (some B):=by
 have HS:Hid _:=hs;clear hs;go_enter Tryz.func95,Tryz.ntmps95
 go_wp2_with fail
 go_loopw [1,5] (fun kv i wr=>∃ m:Nat,m≤L∧i=.int .i64 m∧kv=.int .i64 ((k+7*m:Nat):Int)∧SlLaid sessionM 7 wr B (marksOf 7 k L) L m∧w.grownBy wr (some B)) (fun _ i _=>L-(intOf i).toNat)
 case atStart=>exact ⟨0,Nat.zero_le _,rfl,rfl,HS.out,World.grownBy.refl _ _⟩
 case round =>
  obtain ⟨m,hm,rfl,rfl,hy,hg⟩:=hrel;have HK:Hid (MkSt sessionM 7 w B k L m [] wr):=MkSt.new hy hg;clear hy hg HS;by_cases hlt:m < L
  ·obtain ⟨kk,hkk⟩ : ∃ kk,kk=k+7*m:=⟨_,rfl⟩;have HKK:Hid (kk=k+7*m):=hkk;rw [← hkk];have hk1:0 < kk:=by omega
   have hk2:kk+7≤1073741824:=by omega
   clear hkk;obtain ⟨v0,t0⟩:=HK.out.there (j:=0) hlt (by omega);have f0:=HK.out.free (j:=0) hlt (by omega);rw [Nat.add_zero] at t0 f0;go_wp2_with fail
   refine (markText_at _ (kk+1) _ (by omega) (by omega) (by omega)).mono ?_;rintro e wA1 ⟨rfl,qA1⟩;have HA1:Hid (MkSt sessionM 7 w B k L m [.int .i64 ((kk:Nat):Int)] wA1):=((HK.out.put sessionM_length (by simp) hlt (.int .i64 ((kk:Nat):Int)))).call qA1;clear qA1 HK;obtain ⟨v1,t1⟩:=HA1.out.there (j:=1) hlt (by omega);have f1:=HA1.out.free (j:=1) hlt (by omega);obtain ⟨v2,t2⟩:=HA1.out.there (j:=2) hlt (by omega);have f2:=HA1.out.free (j:=2) hlt (by omega);go_wp2_with fail
   refine (markText_at _ (kk+3) _ (by omega) (by omega) (by omega)).mono ?_;rintro e wA3 ⟨rfl,qA3⟩;have HA3:Hid (MkSt sessionM 7 w B k L m [.int .i64 ((kk:Nat):Int),.string (markV (kk+1)),.int .i64 ((kk+2:Nat):Int)] wA3):=(((HA1.out.put sessionM_length (by simp) hlt (.string (markV (kk+1)))).put sessionM_length (by simp) hlt (.int .i64 ((kk+2:Nat):Int)))).call qA3;clear qA3 HA1;clear t1 f1 t2 f2;obtain ⟨v3,t3⟩:=HA3.out.there (j:=3) hlt (by omega);have f3:=HA3.out.free (j:=3) hlt (by omega);obtain ⟨v4,t4⟩:=HA3.out.there (j:=4) hlt (by omega);have f4:=HA3.out.free (j:=4) hlt (by omega);obtain ⟨v5,t5⟩:=HA3.out.there (j:=5) hlt (by omega);have f5:=HA3.out.free (j:=5) hlt (by omega);obtain ⟨v6,t6⟩:=HA3.out.there (j:=6) hlt (by omega);have f6:=HA3.out.free (j:=6) hlt (by omega);go_wp2_with fail
   go_roundw
   case rel =>
    have hF:MkSt sessionM 7 w B k L m (sessionM kk) _:=((((HA3.out.put sessionM_length (by simp) hlt (.string (markV (kk+3)))).put sessionM_length (by simp) hlt (.int .i64 ((kk+4:Nat):Int))).put sessionM_length (by simp) hlt (.int .i64 ((kk+5:Nat):Int))).put sessionM_length (by simp) hlt (.int .i64 ((kk+6:Nat):Int)));exact ⟨m+1,by omega,by go_num,by have:=HKK.out; congr 1; omega,hF.next sessionM_length (by rw [HKK.out]) hlt,hF.grown⟩
   case measure=>simp [intOf]; omega
  ·have hml:m=L:=by omega
   have HE:Hid (SlLaid sessionM 7 wr B (marksOf 7 k L) L L∧w.grownBy wr (some B)):=⟨by have h:=HK.out.laid; rw [hml] at h; exact h,HK.out.grown⟩;clear HK;go_wp2_with fail
   go_ret;exact ⟨ret_int (by rw [hml]),HE.out.1,HE.out.2⟩
theorem heldSessionS_any (B L cap k:Nat) (w:World) (hk:0 < k) (hL:k+7*L≤1073741824) (hs:SlLaid sessionM 7 w B (marksOf 7 k L) L L) :
  Calls Tryz.prog 98 #[.slice (some ⟨B,0,none⟩) L cap,.int .i64 k] w fun e w'=>e=.returned (.int .i64 ((k+7*L:Nat):Int))∧Below w.heap.size w w':=by
 have hblk:=hs.blk;have HS:Hid _:=hs;clear hs;go_enter Tryz.func98,Tryz.ntmps98
 go_wp2_with fail
 go_loopw [1,5] (fun kv i wr=>∃ m:Nat,m≤L∧i=.int .i64 m∧kv=.int .i64 ((k+7*m:Nat):Int)∧Below w.heap.size w wr) (fun _ i _=>L-(intOf i).toNat)
 case atStart=>exact ⟨0,Nat.zero_le _,rfl,rfl,Below.refl _ _⟩
 case round =>
  obtain ⟨m,hm,rfl,rfl,hbel⟩:=hrel;have HL:Hid (Below w.heap.size w wr):=hbel;clear hbel;by_cases hlt:m < L
  ·have hR:=(HS.out.kept HL.out).at0 m (by rw [marksOf_length]; exact hlt) hlt;rw [marksOf_get] at hR;have hbr:B < wr.heap.size:=Nat.lt_of_lt_of_le hblk HL.out.size;obtain ⟨kk,hkk⟩ : ∃ kk,kk=k+7*m:=⟨_,rfl⟩;have HKK:Hid (kk=k+7*m):=hkk;rw [← hkk] at hR ⊢;have hk1:0 < kk:=by omega
   have hk2:kk+7≤1073741824:=by omega
   clear hkk;have c0:wr.cell? ⟨B,m*7,none⟩=some (.int .i64 ((kk:Int))):=hR 0 _ rfl;have c1:wr.cell? ⟨B,m*7+1,none⟩=some (.string (markV (kk+1))):=hR 1 _ rfl;have c2:wr.cell? ⟨B,m*7+2,none⟩=some (.int .i64 ((kk:Int)+1+1)):=hR 2 _ rfl;have c3:wr.cell? ⟨B,m*7+3,none⟩=some (.string (markV (kk+3))):=hR 3 _ rfl;have c4:wr.cell? ⟨B,m*7+4,none⟩=some (.int .i64 ((kk:Int)+1+1+1+1)):=hR 4 _ rfl;have c5:wr.cell? ⟨B,m*7+5,none⟩=some (.int .i64 ((kk:Int)+1+1+1+1+1)):=hR 5 _ rfl;have c6:wr.cell? ⟨B,m*7+6,none⟩=some (.int .i64 ((kk:Int)+1+1+1+1+1+1)):=hR 6 _ rfl;clear hR;go_upto_region 7 with fail
   go_cut [28] (fun v wx=>v=.bool false∧Below wr.heap.size wr wx)
   case first =>
    rename_i J K2 hJ hK2;refine wp_region_growL (Rs:=[IsV (.slice (some ⟨B,0,none⟩) L cap),IsV (.int .i64 (m:Int)),IsV (.pointer (some ⟨B,m*7,none⟩)),IsV (.pointer (some ⟨B,m*7+1,none⟩)),IsV (.string (markV (kk+1))),IsV (.int .i64 ((kk:Int)+1)),IsV (.string (markV (kk+1))),IsV (.bool false)]) [21,22,23,24,25,26,27,28] (by kernel_rfl) (by kernel_rfl) rfl ?st ?steps ?done
    case st=>simp [stable_isV,stable_isRow]
    case steps =>
     refine ⟨?s0,?s1,?s2,?s3,?s4,?s5,?s6,?s7,trivial⟩
     case s0 =>
      intro K' a wy ho hd hb hK;have h3:=ho 0 (by decide);simp [slot] at h3;clear hd;go_simp;try go_bits
      exact hK _ _ rfl (Below.refl _ _)
     case s1 =>
      intro K' a wy ho hd hb hK;have h3:=ho 5 (by decide);simp [slot] at h3;clear hd;go_simp;try go_bits
      exact hK _ _ rfl (Below.refl _ _)
     case s2 =>
      intro K' a wy ho hd hb hK;simp [Region.binds,rAt,IsV,slot] at hd;go_simp;try go_bits
      exact hK _ _ rfl (Below.refl _ _)
     case s3 =>
      intro K' a wy ho hd hb hK;simp [Region.binds,rAt,IsV,slot] at hd;go_simp;try go_bits
      exact hK _ _ rfl (Below.refl _ _)
     case s4 =>
      intro K' a wy ho hd hb hK;simp [Region.binds,rAt,IsV,slot] at hd;have hcx:=((bcell (Below.trans (Below.refl _ _).drew hb)).1 B _ hbr).trans c1;go_simp;try go_bits
      exact hK _ _ rfl (Below.refl _ _)
     case s5 =>
      intro K' a wy ho hd hb hK;have h3:=ho 1 (by decide);simp [slot] at h3;clear hd;go_simp;try go_bits
      exact hK _ _ rfl (Below.refl _ _)
     case s6 =>
      intro K' a wy ho hd hb hK;simp [Region.binds,rAt,IsV,slot] at hd;go_simp;refine (markText_at _ (kk+1) wy (by omega) (by omega) (by omega)).mono ?_;rintro e wz ⟨rfl,hz⟩;exact hK _ _ rfl hz
     case s7 =>
      intro K' a wy ho hd hb hK;simp [Region.binds,rAt,IsV,slot] at hd;go_simp;try go_bits
      exact hK _ _ rfl (Below.refl _ _)
    case done =>
     intro X wz hR hz;obtain ⟨x0,x1,x2,x3,x4,x5,x6,x7,-⟩:=hR;simp only [IsV] at x0 x1 x2 x3 x4 x5 x6 x7;simp only [putsFrom,x0,x1,x2,x3,x4,x5,x6,x7];clear x0 x1 x2 x3 x4 x5 x6 x7;go_simp;refine hK2 _ _ (hJ _ _ ?_);(repeat apply Exists.intro)
     refine ⟨⟨rfl,(Below.refl _ wr).drew.trans hz⟩,rfl⟩
   case rest =>
   obtain ⟨rfl,hb1⟩:=hcut;generalize wc=wx1 at *;have HL1:Hid (Below w.heap.size w wx1):=HL.out.trans (hb1.mono HL.out.size);replace c2:=((bcell hb1).1 B _ hbr).trans c2;replace c3:=((bcell hb1).1 B _ hbr).trans c3;replace c4:=((bcell hb1).1 B _ hbr).trans c4;replace c5:=((bcell hb1).1 B _ hbr).trans c5;replace c6:=((bcell hb1).1 B _ hbr).trans c6;replace hbr:=Nat.lt_of_lt_of_le hbr hb1.size;clear hb1  c1;go_upto_region 13 with fail
   go_cut [47] (fun v wx=>v=.bool false∧Below wx1.heap.size wx1 wx)
   case first =>
    rename_i J K2 hJ hK2;refine wp_region_growL (Rs:=[IsV (.slice (some ⟨B,0,none⟩) L cap),IsV (.int .i64 (m:Int)),IsV (.pointer (some ⟨B,m*7,none⟩)),IsV (.pointer (some ⟨B,m*7+3,none⟩)),IsV (.string (markV (kk+3))),IsV (.int .i64 ((kk:Int)+1+1+1)),IsV (.string (markV (kk+3))),IsV (.bool false)]) [40,41,42,43,44,45,46,47] (by kernel_rfl) (by kernel_rfl) rfl ?st ?steps ?done
    case st=>simp [stable_isV,stable_isRow]
    case steps =>
     refine ⟨?s0,?s1,?s2,?s3,?s4,?s5,?s6,?s7,trivial⟩
     case s0 =>
      intro K' a wy ho hd hb hK;have h3:=ho 0 (by decide);simp [slot] at h3;clear hd;go_simp;try go_bits
      exact hK _ _ rfl (Below.refl _ _)
     case s1 =>
      intro K' a wy ho hd hb hK;have h3:=ho 5 (by decide);simp [slot] at h3;clear hd;go_simp;try go_bits
      exact hK _ _ rfl (Below.refl _ _)
     case s2 =>
      intro K' a wy ho hd hb hK;simp [Region.binds,rAt,IsV,slot] at hd;go_simp;try go_bits
      exact hK _ _ rfl (Below.refl _ _)
     case s3 =>
      intro K' a wy ho hd hb hK;simp [Region.binds,rAt,IsV,slot] at hd;go_simp;try go_bits
      exact hK _ _ rfl (Below.refl _ _)
     case s4 =>
      intro K' a wy ho hd hb hK;simp [Region.binds,rAt,IsV,slot] at hd;have hcx:=((bcell (Below.trans (Below.refl _ _).drew hb)).1 B _ hbr).trans c3;go_simp;try go_bits
      exact hK _ _ rfl (Below.refl _ _)
     case s5 =>
      intro K' a wy ho hd hb hK;have h3:=ho 1 (by decide);simp [slot] at h3;clear hd;go_simp;try go_bits
      exact hK _ _ rfl (Below.refl _ _)
     case s6 =>
      intro K' a wy ho hd hb hK;simp [Region.binds,rAt,IsV,slot] at hd;go_simp;refine (markText_at _ (kk+3) wy (by omega) (by omega) (by omega)).mono ?_;rintro e wz ⟨rfl,hz⟩;exact hK _ _ rfl hz
     case s7 =>
      intro K' a wy ho hd hb hK;simp [Region.binds,rAt,IsV,slot] at hd;go_simp;try go_bits
      exact hK _ _ rfl (Below.refl _ _)
    case done =>
     intro X wz hR hz;obtain ⟨x0,x1,x2,x3,x4,x5,x6,x7,-⟩:=hR;simp only [IsV] at x0 x1 x2 x3 x4 x5 x6 x7;simp only [putsFrom,x0,x1,x2,x3,x4,x5,x6,x7];clear x0 x1 x2 x3 x4 x5 x6 x7;go_simp;refine hK2 _ _ (hJ _ _ ?_);(repeat apply Exists.intro)
     refine ⟨⟨rfl,(Below.refl _ wx1).drew.trans hz⟩,rfl⟩
   case rest =>
   obtain ⟨rfl,hb3⟩:=hcut;generalize wc=wx3 at *;have HL3:Hid (Below w.heap.size w wx3):=HL1.out.trans (hb3.mono HL1.out.size);replace c4:=((bcell hb3).1 B _ hbr).trans c4;replace c5:=((bcell hb3).1 B _ hbr).trans c5;replace c6:=((bcell hb3).1 B _ hbr).trans c6;replace hbr:=Nat.lt_of_lt_of_le hbr hb3.size;clear hb3 HL1 c3;go_wp2_with fail
   go_roundw
   case rel=>exact ⟨m+1,by omega,by go_num,by have:=HKK.out; congr 1; omega,HL3.out⟩
   case measure=>simp [intOf]; omega
  ·have hml:m=L:=by omega
   go_wp2_with fail
   go_ret;exact ⟨ret_int (by rw [hml]),HL.out⟩
theorem markSessionS_nil (a:Option Addr) (cap k:Nat) (w:World) (hL:k≤1073741824) :
  Calls Tryz.prog 95 #[.slice a 0 cap,.int .i64 k] w fun e w'=>e=.returned (.int .i64 (k:Int))∧w'=w:=by
 go_enter Tryz.func95,Tryz.ntmps95
 go_wp2_with fail
 go_loopw [1,5] (fun kv i wr=>kv=.int .i64 k∧i=.int .i64 0∧wr=w) (fun _ _ _=>0)
 case atStart=>exact ⟨rfl,rfl,rfl⟩
 case round =>
  obtain ⟨rfl,rfl,rfl⟩:=hrel;go_wp2_with fail
  go_ret;exact ⟨rfl,rfl⟩
theorem heldSessionS_nil (a:Option Addr) (cap k:Nat) (w:World) (hL:k≤1073741824) :
  Calls Tryz.prog 98 #[.slice a 0 cap,.int .i64 k] w fun e w'=>e=.returned (.int .i64 (k:Int))∧w'=w:=by
 go_enter Tryz.func98,Tryz.ntmps98
 go_wp2_with fail
 go_loopw [1,5] (fun kv i wr=>kv=.int .i64 k∧i=.int .i64 0∧wr=w) (fun _ _ _=>0)
 case atStart=>exact ⟨rfl,rfl,rfl⟩
 case round =>
  obtain ⟨rfl,rfl,rfl⟩:=hrel;go_wp2_with fail
  go_ret;exact ⟨rfl,rfl⟩
theorem heldSessionS_own (base L:Nat) (a:Option Addr) (cap k:Nat) (w:World) (hk:0 < k) (hL:k+7*L≤1073741824) (hs:MkOwn 7 sessionM base w a k L) :
  Calls Tryz.prog 98 #[.slice a L cap,.int .i64 k] w fun e w'=>e=.returned (.int .i64 ((k+7*L:Nat):Int))∧Below w.heap.size w w':=by
 rcases hs with rfl | ⟨g,rfl,hb,hl⟩
 ·refine (heldSessionS_nil a cap k w (by omega)).mono ?_;rintro e w' ⟨rfl,rfl⟩;exact ⟨rfl,Below.refl _ _⟩
 ·exact heldSessionS_any g L cap k w hk hL hl
end Go.Proofs.YthagnjokdnnmpaaGreat
