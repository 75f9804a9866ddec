import Derived.Test.YthpopipedamciaaGreatIAdd
import Derived.Deep.DeepCutAuto
import Derived.Test.YthpopipedamciaaGreatMerged5
import Derived.Test.YthpopipedamciaaGreatMerged15
import Derived.Test.YthpopipedamciaaGreatMerged9
set_option linter.unusedVariables false
set_option linter.unusedSimpArgs false
set_option maxRecDepth 100000
set_option maxHeartbeats 8000000
namespace Go.Proofs.YthpopipedamciaaGreat
open Go.RowKit Go.PlainAid
def GatherPost (w:World) (xs:List Pc):Ending→World→Prop:=fun e w' =>
 Below w.heap.size w w'∧((piecesOk xs=false∧e=.returned (.tuple #[.map none,.bool false]))∨(piecesOk xs=true∧e=.returned (.tuple #[.map (some w.heap.size),.bool true])∧GrpAt (w.heap.size+1) w' w.heap.size xs∧w.heap.size+1≤w'.heap.size))
theorem implGather_any (xs:List Pc) (a:Option Addr) (cap:Nat) (w:World) (hin:PcsIn xs) (hr:SlIs pcL 8 w a xs) :
  Calls Tryz.prog 91 #[.slice a xs.length cap] w (GatherPost w xs):=by
 have hlen:=hin.1;have HIN:Hid (PcsIn xs):=hin;have HR:Hid (SlIs pcL 8 w a xs):=hr;have hun:undef=Value.tuple #[]:=rfl;clear hin hr;by_cases h40:xs.length≤40
 ·have h40':¬ 40 < xs.length:=by omega
  have HPO:Hid (piecesOk xs=allPc xs):=by unfold Hid piecesOk; rw [decide_eq_true h40]; rfl
  have hmm:=run_makeMap (P:=Tryz.prog) 138 w;go_enter Tryz.func91,Tryz.ntmps91
  go_wp2_with fail
  clear hmm;have HB0:Hid (Below w.heap.size w (w.alloc (.map #[] 0))):=(Below.refl _ _).alloc (Nat.le_refl _) _;have HG0:Hid (GrpAt (w.heap.size+1) (w.alloc (.map #[] 0)) w.heap.size []):=GrpAt.made w (by omega);have hz0:w.heap.size+1≤(w.alloc (.map #[] 0)).heap.size:=by simp
  generalize w.alloc (.map #[] 0)=W0 at *;go_loopw [13] (fun iv wr=>∃ i:Nat,i≤xs.length∧iv=.int .i64 i∧allN xs i=true∧GrpAt (w.heap.size+1) wr w.heap.size (xs.take i)∧Below w.heap.size w wr∧w.heap.size+1≤wr.heap.size) (fun iv _=>xs.length-(intOf iv).toNat)
  case atStart=>exact ⟨0,Nat.zero_le _,rfl,rfl,by simpa using HG0.out,HB0.out,hz0⟩
  case round =>
   obtain ⟨i,hil,rfl,hn,hg,hb,hsz⟩:=hrel;have HN:Hid (allN xs i=true):=hn;have HG:Hid (GrpAt (w.heap.size+1) wr w.heap.size (xs.take i)):=hg;have HW:Hid (Below w.heap.size w wr):=hb;clear hn hg hb HG0 HB0 hz0;by_cases hlt:i < xs.length
   ·obtain ⟨b,off,rfl,hb,hat⟩:=HR.out.at hlt;have hA:=(hat.below hb HW.out) i hlt;have HQS:Hid (PcSm xs[i]):=HIN.out.2 _ (List.getElem_mem hlt);have HTK:Hid (xs.take (i+1)=xs.take i++[xs[i]]):=List.take_succ_eq_append_getElem hlt;have HPR:Hid (∀ W,Calls Tryz.prog 128 #[pcC xs[i]] W fun e w'=>e=.returned (.bool (pieceOk xs[i]))∧Below W.heap.size W w'):=fun W=>implPieceRight_any xs[i] W HQS.out.1 HQS.out.2.1 HQS.out.2.2
    have HOK:Hid (∀ q∈xs.take i,pieceOk q=true):=allN_take_ok i (by omega) HN.out;have HNO:Hid (pieceOk xs[i]=false→piecesOk xs=false):=fun h=>by
     rw [HPO.out];refine allN_down (i+1) (by omega) ?_;rw [allN_succ hlt,h]; simp
    have HST:Hid (pieceOk xs[i]=true→allN xs (i+1)=!(grpPc (xs.take i) xs[i]).any (fun q=>clashPc xs[i] q)):=fun h=>by
     rw [allN_grp hlt HOK.out h,HN.out,Bool.true_and]
    have HN2:Hid (allN xs (i+1)=false→piecesOk xs=false):=fun h=>by rw [HPO.out]; exact allN_down (i+1) (by omega) h
    have HAD:Hid (pieceOk xs[i]=true→∀ W,GrpAt (w.heap.size+1) W w.heap.size (xs.take i)→w.heap.size+1≤W.heap.size→Calls Tryz.prog 129 #[.map (some w.heap.size),pcC xs[i]] W (AddPost (w.heap.size+1) w.heap.size W (xs.take i) xs[i])):=fun h W hG hz=>implAdd_any (xs.take i) xs[i] w.heap.size (w.heap.size+1) W hG hz (by simp; omega) h HQS.out HOK.out
    generalize xs[i]=q at *;have c0:wr.cell? ⟨b,off+i*8,none⟩=some (.string q.src):=hA 0 _ rfl;have c1:wr.cell? ⟨b,off+i*8+1,none⟩=some (.string q.dst):=hA 1 _ rfl;have c2:wr.cell? ⟨b,off+i*8+2,none⟩=some (.int .i64 q.proto):=hA 2 _ rfl;have c3:wr.cell? ⟨b,off+i*8+3,none⟩=some (.int .i64 q.id):=hA 3 _ rfl;have c4:wr.cell? ⟨b,off+i*8+4,none⟩=some (.int .i64 q.off):=hA 4 _ rfl;have c5:wr.cell? ⟨b,off+i*8+5,none⟩=some (.bool q.more):=hA 5 _ rfl;have c6:wr.cell? ⟨b,off+i*8+6,none⟩=some (.string q.data):=hA 6 _ rfl;have c7:wr.cell? ⟨b,off+i*8+7,none⟩=some (.int .i64 q.since):=hA 7 _ rfl;clear hA hat HQS HIN;have HPN:Hid (HoldsL (wr.alloc (.cells (pcL q).toArray 129)) wr.heap.size (pcL q)):=HoldsL.new wr (pcL q) _;have HZ:Hid (Below wr.heap.size wr (wr.alloc (.cells (pcL q).toArray 129))):=(Below.refl _ _).alloc (Nat.le_refl _) _;rw [show (pcL q).toArray=#[.string q.src,.string q.dst,.int .i64 q.proto,.int .i64 q.id,.int .i64 q.off,.bool q.more,.string q.data,.int .i64 q.since] from rfl] at HPN HZ;unfold pcC at HPR HAD;generalize pieceOk q=ok at *;go_wp2_with fail
    refine (HPR.out _).mono ?_;rintro e w1 ⟨rfl,b1⟩;have P1:=HPN.out.kept (by simp [pcL]) b1;have B1:Hid (Below wr.heap.size wr w1):=HZ.out.trans (b1.mono (by simp));have hs1:w.heap.size+1≤w1.heap.size:=Nat.le_trans hsz B1.out.size;have B2:Hid (Below w.heap.size w w1):=HW.out.trans (B1.out.mono HW.out.size);clear b1 c0 c1 c2 c3 c4 c5 c6 c7 HPR HPN HZ
    cases ok with
    | false =>
     have HX:Hid (piecesOk xs=false):=HNO.out rfl;clear P1 HNO HAD HST;go_wp2_with fail
     go_ret2
     exact ⟨B2.out,.inl ⟨HX.out,rfl⟩⟩
    | true =>
     have G1:Hid (GrpAt (w.heap.size+1) w1 w.heap.size (xs.take i)):=HG.out.kept B1.out;have HA2:Hid _:=HAD.out rfl w1 G1.out hs1;have HS2:Hid _:=HST.out rfl;clear HAD HST HNO;obtain ⟨k0,k1,k2,k3,k4,k5,k6,k7⟩:=cells8 P1;clear P1;go_wp2_with fail
     refine Calls.mono HA2.out ?_;rintro e w2 ⟨rfl,hga,hfr⟩;have B3:Hid (Below w.heap.size w w2):=B2.out.trans (hfr.below (by omega) (Nat.le_refl _) (by omega));have hs2:w.heap.size+1≤w2.heap.size:=Nat.le_trans hs1 hfr.size;have HGA:Hid _:=hga;clear hga hfr k0 k1 k2 k3 k4 k5 k6 k7 G1 HA2;generalize (grpPc (xs.take i) q).any (fun x=>clashPc q x)=cl at *
     cases cl with
     | true =>
      have HX:Hid (piecesOk xs=false):=HN2.out (by rw [HS2.out]; rfl);clear HS2 HN2;go_wp2_with fail
      go_ret2
      exact ⟨B3.out,.inl ⟨HX.out,rfl⟩⟩
     | false =>
      have HS3:Hid (allN xs (i+1)=true):=by unfold Hid; rw [HS2.out]; rfl
      have HG3:Hid (GrpAt (w.heap.size+1) w2 w.heap.size (xs.take (i+1))):=by unfold Hid; rw [HTK.out]; exact HGA.out
      clear HS2 HN2 HGA;go_wp2_with fail
      go_roundw
      case rel =>
       (repeat apply Exists.intro)
       refine ⟨?_,rfl⟩;exact ⟨i+1,by omega,by go_num,HS3.out,HG3.out,B3.out,hs2⟩
      case measure=>simp [intOf]; omega
   ·have hie:i=xs.length:=by omega
    have HX:Hid (piecesOk xs=true):=by
     have:=HN.out;rw [hie] at this;unfold Hid; rw [HPO.out]; exact this
    have HGX:Hid (GrpAt (w.heap.size+1) wr w.heap.size xs):=by
     have:=HG.out;rw [hie,List.take_of_length_le (Nat.le_refl _)] at this;exact this
    go_wp2_with fail
    go_ret2
    exact ⟨HW.out,.inr ⟨HX.out,rfl,HGX.out,hsz⟩⟩
 ·have HX:Hid (piecesOk xs=false):=by unfold Hid piecesOk; rw [decide_eq_false h40]; rfl
  go_enter Tryz.func91,Tryz.ntmps91
  go_wp2_with fail
  go_ret2
  exact ⟨Below.refl _ _,.inl ⟨HX.out,rfl⟩⟩
theorem implPiecesRight_any (xs:List Pc) (a:Option Addr) (cap:Nat) (w:World) (hin:PcsIn xs) (hr:SlIs pcL 8 w a xs) :
  Calls Tryz.prog 42 #[.slice a xs.length cap] w fun e w'=>e=.returned (.bool (piecesOk xs))∧Below w.heap.size w w':=by
 have HA:Hid _:=implGather_any xs a cap w hin hr;clear hin hr;generalize hok:piecesOk xs=ok;have HOK:Hid (piecesOk xs=ok):=hok;clear hok;go_enter Tryz.func42,Tryz.ntmps42
 go_wp2_with fail
 refine Calls.mono HA.out ?_;rintro e w1 ⟨hb,⟨h1,rfl⟩ | ⟨h1,rfl,hg,hz⟩⟩
 ·have HB:Hid _:=hb;have HE:Hid (ok=false):=by unfold Hid; rw [← HOK.out]; exact h1
  clear hb h1;go_wp2_with fail
  go_ret;exact ⟨ret_bool HE.out.symm,HB.out⟩
 ·have HB:Hid _:=hb;have HE:Hid (ok=true):=by unfold Hid; rw [← HOK.out]; exact h1
  clear hb h1 hg hz;go_wp2_with fail
  go_ret;exact ⟨ret_bool HE.out.symm,HB.out⟩
theorem implBkTime_any (n:Int) (w:World) :
  Calls Tryz.prog 44 #[.int .i64 n] w fun e w'=>e=.returned (.bool (bkTime n))∧w'=w:=by
 by_cases h1:0≤n
 ·by_cases h2:n≤1000000000
  ·have HV:Hid (bkTime n=true):=by unfold Hid bkTime isIn; simp [h1,h2]
   go_enter Tryz.func44,Tryz.ntmps44
   go_wp2_with fail
   go_ret;exact ⟨ret_bool (by rw [HV.out]),rfl⟩
  ·have HV:Hid (bkTime n=false):=by unfold Hid bkTime isIn; simp [h2]
   go_enter Tryz.func44,Tryz.ntmps44
   go_wp2_with fail
   go_ret;exact ⟨ret_bool (by rw [HV.out]),rfl⟩
 ·have HV:Hid (bkTime n=false):=by unfold Hid bkTime isIn; simp [h1]
  have h1':n < 0:=by omega
  go_enter Tryz.func44,Tryz.ntmps44
  go_wp2_with fail
  go_ret;exact ⟨ret_bool (by rw [HV.out]),rfl⟩
theorem implBucketRight_any (b:Bk) (w:World) :
  Calls Tryz.prog 43 #[buC b] w fun e w'=>e=.returned (.bool (bucketOk b))∧Below w.heap.size w w':=by
 have HC:Hid (∀ W,Calls Tryz.prog 44 #[.int .i64 b.since] W fun e w'=>e=.returned (.bool (bkTime b.since))∧w'=W):=fun W=>implBkTime_any _ W
 have HV:Hid (bucketOk b=(decide (1≤b.most)&&decide (b.most≤100)&&(decide (0≤b.left)&&decide (b.left≤b.most))&&(decide (1≤b.each)&&decide (b.each≤1000))&&bkTime b.since)):=rfl;generalize bucketOk b=ans at *;generalize bkTime b.since=bs at *;have HZ:Hid (Below w.heap.size w (w.alloc (.cells #[.int .i64 b.left,.int .i64 b.most,.int .i64 b.each,.int .i64 b.since] 39))):=(Below.refl _ _).alloc (Nat.le_refl _) _;unfold buC;obtain ⟨left,most,each,since⟩:=b;dsimp only at *;by_cases h0:1≤most
 case neg =>
  replace HV:Hid (ans=false):=by unfold Hid; rw [HV.out]; simp [h0]
  have d0:¬ 1≤most:=h0;go_enter Tryz.func43,Tryz.ntmps43
  go_wp2_with fail
  go_ret;exact ⟨ret_bool HV.out.symm,HZ.out⟩
 by_cases h1:most≤100
 case neg =>
  replace HV:Hid (ans=false):=by unfold Hid; rw [HV.out]; simp [h0,h1]
  have d1:¬ most≤100:=h1;go_enter Tryz.func43,Tryz.ntmps43
  go_wp2_with fail
  go_ret;exact ⟨ret_bool HV.out.symm,HZ.out⟩
 by_cases h2:0≤left
 case neg =>
  replace HV:Hid (ans=false):=by unfold Hid; rw [HV.out]; simp [h0,h1,h2]
  have d2:¬ 0≤left:=h2;go_enter Tryz.func43,Tryz.ntmps43
  go_wp2_with fail
  go_ret;exact ⟨ret_bool HV.out.symm,HZ.out⟩
 by_cases h3:left≤most
 case neg =>
  replace HV:Hid (ans=false):=by unfold Hid; rw [HV.out]; simp [h0,h1,h2,h3]
  have d3:¬ left≤most:=h3;go_enter Tryz.func43,Tryz.ntmps43
  go_wp2_with fail
  go_ret;exact ⟨ret_bool HV.out.symm,HZ.out⟩
 by_cases h4:1≤each
 case neg =>
  replace HV:Hid (ans=false):=by unfold Hid; rw [HV.out]; simp [h0,h1,h2,h3,h4]
  have d4:¬ 1≤each:=h4;go_enter Tryz.func43,Tryz.ntmps43
  go_wp2_with fail
  go_ret;exact ⟨ret_bool HV.out.symm,HZ.out⟩
 by_cases h5:each≤1000
 case neg =>
  replace HV:Hid (ans=false):=by unfold Hid; rw [HV.out]; simp [h0,h1,h2,h3,h4,h5]
  have d5:¬ each≤1000:=h5;go_enter Tryz.func43,Tryz.ntmps43
  go_wp2_with fail
  go_ret;exact ⟨ret_bool HV.out.symm,HZ.out⟩
 replace HV:Hid (ans=bs):=by unfold Hid; rw [HV.out]; simp [h0,h1,h2,h3,h4,h5]
 go_enter Tryz.func43,Tryz.ntmps43
 go_wp2_with fail
 refine (HC.out _).mono ?_;rintro e w1 ⟨rfl,rfl⟩;go_wp2_with fail
 go_ret;exact ⟨ret_bool HV.out.symm,HZ.out⟩
end Go.Proofs.YthpopipedamciaaGreat
