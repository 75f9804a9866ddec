import Derived.Test.YthagnjokdnnmpaaGreatLawGwM
import Derived.Test.YthagnjokdnnmpaaGreatSCopyGw
import Derived.Test.YthagnjokdnnmpaaGreatMerged12
import Derived.Test.YthagnjokdnnmpaaGreatMerged13
import Derived.Test.YthagnjokdnnmpaaGreatSAll
import Derived.Test.YthagnjokdnnmpaaGreatMerged1
import Derived.Deep.DeepCutAuto
import Derived.Great.BuildSlice
import Derived.Deep.AppendLies
import Derived.Test.YthagnjokdnnmpaaGreatMerged5
import Derived.Test.YthagnjokdnnmpaaGreatMerged11
import Derived.Test.YthagnjokdnnmpaaGreatMerged6
import Derived.Test.YthagnjokdnnmpaaGreatSBibR
set_option linter.unusedVariables false
set_option linter.unusedSimpArgs false
set_option maxRecDepth 100000
set_option maxHeartbeats 8000000
namespace Go.Proofs.YthagnjokdnnmpaaGreat
open Go.RowKit Go.PlainAid
structure GwX (lo hi:Nat) (w:World) (A:Ga) (g:Gw):Prop where
 rt:SlIn rtL 3 lo hi w A.ra g.routes
 pl:SlIn strL1 1 lo hi w A.pa g.pool.addrs
 bd:SlIn bdL 5 lo hi w A.ba g.bib.binds
 ss:SlIn ssL 7 lo hi w A.bo g.bib.sess
 ps:SlIn pcL 8 lo hi w A.qa g.pcs
section
variable {lo hi l h:Nat} {w W:World} {A:Ga} {g:Gw}
theorem GwX.of (h:GwB lo w A g):GwX lo w.heap.size w A g:=⟨SlIn.of_own h.rt (Nat.le_refl _),SlIn.of_own h.pl (Nat.le_refl _),SlIn.of_own h.bd (Nat.le_refl _),SlIn.of_own h.ss (Nat.le_refl _),SlIn.of_own h.ps (Nat.le_refl _)⟩
theorem GwX.kept (h:GwX lo hi w A g) (hb:Below w.heap.size w W):GwX lo hi W A g:=⟨h.rt.kept hb,h.pl.kept hb,h.bd.kept hb,h.ss.kept hb,h.ps.kept hb⟩
theorem GwX.outOf (H:GwX lo hi w A g) (ho:OutOf l h w W) (hb:hi≤l∨h≤lo):GwX lo hi W A g:=⟨H.rt.outOf ho hb,H.pl.outOf ho hb,H.bd.outOf ho hb,H.ss.outOf ho hb,H.ps.outOf ho hb⟩
theorem GwX.is (h:GwX lo hi w A g):GwIs w A g:=⟨rts_is.2 h.rt.is,h.pl.is,⟨h.bd.is,h.ss.is⟩,h.ps.is⟩
end
structure GwLn (g:Gw):Prop where
 r:g.routes.length≤1048576
 p:g.pool.addrs.length≤1048576
 b:g.bib.binds.length≤1048576
 s:g.bib.sess.length≤1048576
 q:g.pcs.length≤1048576
theorem GwLn.n {g:Gw} (h:GwLn g):1+gwN g≤1073741824:=by
 have:=h.r; have:=h.p; have:=h.b; have:=h.s; have:=h.q;unfold gwN; omega
theorem gwLn_of {g:Gw} (h:0≤szGwV g):GwLn g:=by
 obtain ⟨⟨r1,r2⟩,⟨p1,p2⟩,sx,f1,s1,hq,pi⟩:=szGw_in h;exact ⟨r1,p1,hq.1,hq.2.1,pi.1⟩
theorem gwLn_tick {g:Gw} (n:Int) (h:GwLn g):GwLn (gwTickV g n):=by
 unfold gwTickV;split
 ·refine ⟨h.r,h.p,?_,?_,?_⟩
  ·exact Nat.le_trans (List.length_filter_le _ _) h.b
  ·exact Nat.le_trans (List.length_filter_le _ _) h.s
  ·show (tickPc g.pcs (g.now+n)).length≤1048576;unfold tickPc;split
   ·exact Nat.le_trans (List.length_filter_le _ _) h.q
   ·exact Nat.zero_le _
 ·exact h
theorem gw_infoL:(Tryz.prog.info? 70).map (·.size)=some 24:=by kernel_rfl
theorem filter_take {α:Type} (p:α→Bool) (xs:List α) (i:Nat) (h:i < xs.length):(xs.take (i+1)).filter p=if p xs[i]=true then (xs.take i).filter p++[xs[i]] else (xs.take i).filter p:=by
 rw [List.take_succ_eq_append_getElem h,List.filter_append];by_cases hp:p xs[i]=true
 ·rw [if_pos hp]; simp [hp]
 ·rw [if_neg hp]; simp [hp]
theorem filter_le {α:Type} (p:α→Bool) (xs:List α) (i:Nat):((xs.take i).filter p).length≤i:=Nat.le_trans (List.length_filter_le _ _) (by simp; omega)
theorem specPiecesRight_any (xs:List Pc) (a:Option Addr) (cap:Nat) (w:World) (hin:PcsIn xs) (hr:SlIs pcL 8 w a xs) :
  Calls Tryz.prog 84 #[.slice a xs.length cap] w fun e w'=>e=.returned (.bool (piecesOk xs))∧Below w.heap.size w w':=by
 have HC:Hid (∀ W,Below w.heap.size w W→Calls Tryz.prog 116 #[.slice a xs.length cap] W fun e w'=>e=.returned (.bool (allPc xs))∧Below W.heap.size W w'):=fun W hW=>spAll_any xs a cap W hin (hr.below hW)
 have hlen:=hin.1;unfold piecesOk;generalize allPc xs=b at *;clear hin hr;have hun:undef=Value.tuple #[]:=rfl;by_cases h:xs.length≤40
 ·rw [decide_eq_true h];go_enter Tryz.func84,Tryz.ntmps84
  go_wp2_with fail
  refine (HC.out _ (Below.refl _ _)).mono ?_;rintro e w1 ⟨rfl,q1⟩;go_wp2_with fail
  go_ret;exact ⟨rfl,q1⟩
 ·rw [decide_eq_false h];go_enter Tryz.func84,Tryz.ntmps84
  go_wp2_with fail
  go_ret;exact ⟨rfl,Below.refl _ _⟩
theorem Tryz.infoPt:(Tryz.prog.info? 128).map (fun i=>(i.zero,i.size,i.bytes))=some (some (.agg #[.string ⟨#[]⟩,.string ⟨#[]⟩,.int .i64 0,.int .i64 0,.int .i64 0,.bool false,.string ⟨#[]⟩,.int .i64 0]),8,88):=by kernel_rfl
theorem news8 (w:World) (q:Pc) (t:TypeId):∀ j u,(pcL q)[j]?=some u→(w.alloc (.cells #[.string q.src,.string q.dst,.int .i64 q.proto,.int .i64 q.id,.int .i64 q.off,.bool q.more,.string q.data,.int .i64 q.since] t)).cell? ((⟨w.heap.size,0,none⟩ : Addr).add j)=some u:=World.news_of_block (heap_alloc_new w _)
theorem pcL_one (q:Pc):∀ u∈pcL q,u.oneCell'=true:=fun u hu=>by simp [pcL] at hu; rcases hu with rfl | rfl | rfl | rfl | rfl | rfl | rfl | rfl<;>rfl
theorem specPieceTick_any (xs:List Pc) (a:Option Addr) (cap:Nat) (now:Int) (w:World) (hin:PcsIn xs) (hr:SlIs pcL 8 w a xs) :
  Calls Tryz.prog 67 #[.slice a xs.length cap,.int .i64 now] w (SlRet pcL 8 w (tickPc xs now)):=by
 have hlen:=hin.1;have HA:Hid (∀ W,Below w.heap.size w W→Calls Tryz.prog 84 #[.slice a xs.length cap] W fun e w'=>e=.returned (.bool (piecesOk xs))∧Below W.heap.size W w'):=fun W hW=>specPiecesRight_any xs a cap W hin (hr.below hW)
 have HT:Hid (∀ W,Calls Tryz.prog 86 #[.int .i64 now] W fun e w'=>e=.returned (.bool (isTime now))∧w'=W):=fun W=>spTime_any now W
 have HR:Hid (SlIs pcL 8 w a xs):=hr;have HOK:Hid (piecesOk xs=true→∀ i (h:i < xs.length),pieceOk xs[i]=true):=fun h i hi=>by
  unfold piecesOk at h;rw [Bool.and_eq_true] at h;exact allN_ok h.2 i hi hi
 have HV:Hid (tickPc xs now=if (decide (xs.length≤400)&&piecesOk xs&&isTime now)=true then xs.filter (fun q=>decide (now < q.since+30)) else []):=rfl;have HTM:Hid (isTime now=true→0≤now∧now≤1000000000):=fun h=>isIn_parts h
 generalize tickPc xs now=ys at *;generalize piecesOk xs=ok at *;generalize isTime now=tm at *;have hun:undef=Value.tuple #[]:=rfl;obtain ⟨i0,hi,hz0,hz1,hz2⟩:=info_parts Tryz.infoPt;clear hin hr;have H0:Hid (Row pcL 8 w.heap.size 128 (.slice (some ⟨w.heap.size,0,none⟩) 0 0) [] w (w.alloc (.cells #[] 128))):=⟨World.ownsRow_made w #[] 0 (Nat.le_refl _) (by unfold maxLen; omega) rfl,(Below.refl _ _).alloc (Nat.le_refl _) _⟩;have HE:Hid (ys=[]→∀ W,Below (w.alloc (.cells #[] 128)).heap.size (w.alloc (.cells #[] 128)) W→Below w.heap.size w W):=fun _ W hW=>((Below.refl _ w).alloc (Nat.le_refl _) _).trans (hW.mono (by simp))
 by_cases h4:xs.length≤400
 ·cases ok with
  | false =>
   have HY:Hid (ys=[]):=by unfold Hid; rw [HV.out]; simp
   rw [HY.out];go_enter Tryz.func67,Tryz.ntmps67
   go_wp2_with fail
   refine (HA.out _ ((Below.refl _ _).alloc (Nat.le_refl _) _)).mono ?_;rintro e w1 ⟨rfl,q1⟩;have HQ:Hid (Below w.heap.size w w1):=HE.out HY.out _ q1;clear q1;go_wp2_with fail
   go_ret;exact SlRet.nil rfl HQ.out
  | true =>
  cases tm with
  | false =>
   have HY:Hid (ys=[]):=by unfold Hid; rw [HV.out]; simp
   rw [HY.out];go_enter Tryz.func67,Tryz.ntmps67
   go_wp2_with fail
   refine (HA.out _ ((Below.refl _ _).alloc (Nat.le_refl _) _)).mono ?_;rintro e w1 ⟨rfl,q1⟩;have HQ:Hid (Below w.heap.size w w1):=HE.out HY.out _ q1;clear q1;go_wp2_with fail
   refine (HT.out _).mono ?_;rintro e w2 ⟨rfl,rfl⟩;go_wp2_with fail
   go_ret;exact SlRet.nil rfl HQ.out
  | true =>
   have HY:Hid (ys=xs.filter (fun q=>decide (now < q.since+30))):=by unfold Hid; rw [HV.out,decide_eq_true h4]; rfl
   have htm:=HTM.out rfl;have HOK2:Hid (∀ i (h:i < xs.length),pieceOk xs[i]=true):=HOK.out rfl;clear HV HOK HTM HE;go_enter Tryz.func67,Tryz.ntmps67
   go_wp2_with fail
   refine (HA.out _ ((Below.refl _ _).alloc (Nat.le_refl _) _)).mono ?_;rintro e w1 ⟨rfl,q1⟩;have H1:Hid (Row pcL 8 w.heap.size 128 (.slice (some ⟨w.heap.size,0,none⟩) 0 0) [] w w1):=H0.out.kept q1 (by simp);clear q1 H0;go_wp2_with fail
   refine (HT.out _).mono ?_;rintro e w2 ⟨rfl,rfl⟩;go_wp2_with fail
   go_loopw [5,6] (fun v iv wr=>∃ i:Nat,i≤xs.length∧iv=.int .i64 i∧Row pcL 8 w.heap.size 128 v ((xs.take i).filter (fun q=>decide (now < q.since+30))) w wr) (fun _ iv _=>xs.length-(intOf iv).toNat)
   case atStart=>exact ⟨0,Nat.zero_le _,rfl,by simpa using H1.out⟩
   case round =>
    obtain ⟨i,hil,rfl,hrow⟩:=hrel;have HW:Hid (Row pcL 8 w.heap.size 128 u5 ((xs.take i).filter (fun q=>decide (now < q.since+30))) w wr):=hrow;have hsz:w.heap.size≤wr.heap.size:=hrow.bel.size;clear hrow H1;by_cases hlt:i < xs.length
    ·obtain ⟨b,off,rfl,hb,hat⟩:=HR.out.at hlt;have hA:=(hat.below hb HW.out.bel) i hlt;have hok:=HOK2.out i hlt;have hft:=filter_take (fun q:Pc=>decide (now < q.since+30)) xs i hlt;have hfl:=filter_le (fun q:Pc=>decide (now < q.since+30)) xs i;obtain ⟨q,hq⟩ : ∃ q,q=xs[i]:=⟨_,rfl⟩;rw [← hq] at hA hok hft;have HFT:Hid _:=hft;have hsn:0≤q.since∧q.since≤1000000000:=by
      unfold pieceOk at hok;simp only [Bool.and_eq_true] at hok;exact isIn_parts hok.2
     have c0:wr.cell? ⟨b,off+i*8,none⟩=some (.string q.src):=hA 0 _ rfl;have c1:wr.cell? ⟨b,off+i*8+1,none⟩=some (.string q.dst):=hA 1 _ rfl;have c2:wr.cell? ⟨b,off+i*8+2,none⟩=some (.int .i64 q.proto):=hA 2 _ rfl;have c3:wr.cell? ⟨b,off+i*8+3,none⟩=some (.int .i64 q.id):=hA 3 _ rfl;have c4:wr.cell? ⟨b,off+i*8+4,none⟩=some (.int .i64 q.off):=hA 4 _ rfl;have c5:wr.cell? ⟨b,off+i*8+5,none⟩=some (.bool q.more):=hA 5 _ rfl;have c6:wr.cell? ⟨b,off+i*8+6,none⟩=some (.string q.data):=hA 6 _ rfl;have c7:wr.cell? ⟨b,off+i*8+7,none⟩=some (.int .i64 q.since):=hA 7 _ rfl;clear hq hA hat hok hft;by_cases hp:now < q.since+30
     ·have HF2:Hid ((xs.take (i+1)).filter (fun q=>decide (now < q.since+30))=(xs.take i).filter (fun q=>decide (now < q.since+30))++[q]):=by unfold Hid; rw [HFT.out,if_pos (by simpa using hp)]
      have hown:=HW.out.own;generalize (xs.take i).filter (fun q=>decide (now < q.since+30))=zs at *;go_wp2_with (at_builtin; refine wpList_append_own _ rfl (.tmp 36) (.tmp 41) 37 rfl w.heap.size 128 i0 (.agg #[.string ⟨#[]⟩,.string ⟨#[]⟩,.int .i64 0,.int .i64 0,.int .i64 0,.bool false,.string ⟨#[]⟩,.int .i64 0]) 8 88 Tryz.underlying37 hi hz0 hz1 hz2 rfl (by decide) _ _ _ rfl (hown.alloc _) ⟨wr.heap.size,0,none⟩ 1 1 (pcL q) rfl rfl (news8 wr q _) (pcL_one q) (by unfold maxLen; omega) (by omega) (by simp; omega) ?_)
      ·intro v' w12 hown2 hgrow hnil;have R:Hid (Row pcL 8 w.heap.size 128 v' (zs++[q]) w w12):=HW.out.append hsz hown2 hgrow;clear hown2 hgrow hnil hown;go_wp2_with fail
       go_roundw
       case rel=>exact ⟨i+1,by omega,by go_num,by rw [HF2.out]; exact R.out⟩
       case measure=>simp [intOf]; omega
     ·have HF2:Hid ((xs.take (i+1)).filter (fun q=>decide (now < q.since+30))=(xs.take i).filter (fun q=>decide (now < q.since+30))):=by unfold Hid; rw [HFT.out,if_neg (by simpa using hp)]
      generalize (xs.take i).filter (fun q=>decide (now < q.since+30))=zs at *;go_wp2_with fail
      go_roundw
      case rel=>exact ⟨i+1,by omega,by go_num,by rw [HF2.out]; exact HW.out⟩
      case measure=>simp [intOf]; omega
    ·have hie:i=xs.length:=by omega
     have HE:Hid (Row pcL 8 w.heap.size 128 u5 ys w wr):=by
      have h:=HW.out;rw [hie,List.take_of_length_le (Nat.le_refl _),← HY.out] at h;exact h
     go_wp2_with fail
     go_ret;exact SlRet.row pcL_length HE.out
 ·have HY:Hid (ys=[]):=by unfold Hid; rw [HV.out,decide_eq_false h4]; rfl
  rw [HY.out];go_enter Tryz.func67,Tryz.ntmps67
  go_wp2_with fail
  go_ret;exact SlRet.nil rfl ((Below.refl _ _).alloc (Nat.le_refl _) _)
theorem specBkTime_any (n:Int) (w:World) :
  Calls Tryz.prog 86 #[.int .i64 n] w fun e w'=>e=.returned (.bool (bkTime n))∧w'=w:=by
 by_cases h1:0≤n
 ·by_cases h2:n≤1000000000
  ·have HV:Hid (bkTime n=true):=by unfold Hid bkTime isIn; simp [h1,h2]
   go_enter Tryz.func86,Tryz.ntmps86
   go_wp2_with fail
   go_ret;exact ⟨ret_bool (by rw [HV.out]),rfl⟩
  ·have HV:Hid (bkTime n=false):=by unfold Hid bkTime isIn; simp [h2]
   go_enter Tryz.func86,Tryz.ntmps86
   go_wp2_with fail
   go_ret;exact ⟨ret_bool (by rw [HV.out]),rfl⟩
 ·have HV:Hid (bkTime n=false):=by unfold Hid bkTime isIn; simp [h1]
  have h1':n < 0:=by omega
  go_enter Tryz.func86,Tryz.ntmps86
  go_wp2_with fail
  go_ret;exact ⟨ret_bool (by rw [HV.out]),rfl⟩
theorem specBucketRight_any (b:Bk) (w:World) :
  Calls Tryz.prog 85 #[buC b] w fun e w'=>e=.returned (.bool (bucketOk b))∧Below w.heap.size w w':=by
 have HC0:Hid (∀ W,Calls Tryz.prog 66 #[.int .i64 b.most,.int .i64 1,.int .i64 100] W fun e w'=>e=.returned (.bool (isIn b.most 1 100))∧w'=W):=fun W=>specIs_any _ _ _ W
 have HC1:Hid (∀ W,Calls Tryz.prog 66 #[.int .i64 b.left,.int .i64 0,.int .i64 b.most] W fun e w'=>e=.returned (.bool (isIn b.left 0 b.most))∧w'=W):=fun W=>specIs_any _ _ _ W
 have HC2:Hid (∀ W,Calls Tryz.prog 66 #[.int .i64 b.each,.int .i64 1,.int .i64 1000] W fun e w'=>e=.returned (.bool (isIn b.each 1 1000))∧w'=W):=fun W=>specIs_any _ _ _ W
 have HC3:Hid (∀ W,Calls Tryz.prog 86 #[.int .i64 b.since] W fun e w'=>e=.returned (.bool (bkTime b.since))∧w'=W):=fun W=>specBkTime_any _ W
 have HV:Hid (bucketOk b=(isIn b.most 1 100&&isIn b.left 0 b.most&&isIn b.each 1 1000&&bkTime b.since)):=rfl;generalize bucketOk b=ans at *;generalize isIn b.most 1 100=b0 at *;generalize isIn b.left 0 b.most=b1 at *;generalize isIn b.each 1 1000=b2 at *;generalize bkTime b.since=b3 at *;have HZ:Hid (Below w.heap.size w (w.alloc (.cells #[.int .i64 b.left,.int .i64 b.most,.int .i64 b.each,.int .i64 b.since] 39))):=(Below.refl _ _).alloc (Nat.le_refl _) _;unfold buC;go_enter Tryz.func85,Tryz.ntmps85
 go_wp2_with fail
 cases b0 with
 | false =>
  refine (HC0.out _).mono ?_;rintro e w0 ⟨rfl,rfl⟩;go_wp2_with fail
  go_ret;exact ⟨ret_bool (by rw [HV.out]; rfl),HZ.out⟩
 | true =>
  refine (HC0.out _).mono ?_;rintro e w0 ⟨rfl,rfl⟩;go_wp2_with fail
  cases b1 with
  | false =>
   refine (HC1.out _).mono ?_;rintro e w1 ⟨rfl,rfl⟩;go_wp2_with fail
   go_ret;exact ⟨ret_bool (by rw [HV.out]; rfl),HZ.out⟩
  | true =>
   refine (HC1.out _).mono ?_;rintro e w1 ⟨rfl,rfl⟩;go_wp2_with fail
   cases b2 with
   | false =>
    refine (HC2.out _).mono ?_;rintro e w2 ⟨rfl,rfl⟩;go_wp2_with fail
    go_ret;exact ⟨ret_bool (by rw [HV.out]; rfl),HZ.out⟩
   | true =>
    refine (HC2.out _).mono ?_;rintro e w2 ⟨rfl,rfl⟩;go_wp2_with fail
    cases b3 with
    | false =>
     refine (HC3.out _).mono ?_;rintro e w3 ⟨rfl,rfl⟩;go_wp2_with fail
     go_ret;exact ⟨ret_bool (by rw [HV.out]; rfl),HZ.out⟩
    | true =>
     refine (HC3.out _).mono ?_;rintro e w3 ⟨rfl,rfl⟩;go_wp2_with fail
     go_ret;exact ⟨ret_bool (by rw [HV.out]; rfl),HZ.out⟩
theorem specRoutesRight_nil (a:Option Addr) (cap:Nat) (w:World) :
  Calls Tryz.prog 81 #[.slice a 0 cap] w fun e w'=>e=.returned (.bool true)∧Below w.heap.size w w':=by
 go_enter Tryz.func81,Tryz.ntmps81
 go_wp2_with fail
 go_loopw [3] (fun i wr=>i=.int .i64 0∧wr=w) (fun _ _=>0)
 case atStart=>exact ⟨rfl,rfl⟩
 case round =>
  obtain ⟨rfl,rfl⟩:=hrel;go_wp2_with fail
  go_ret;exact ⟨rfl,Below.refl _ _⟩
theorem specRoutesRight_is (rs:List Rt) (a:Option Addr) (cap:Nat) (w:World) (hcap:rs.length≤cap) (hin:RtsIn rs) (hr:RtsIs w a rs) :
  Calls Tryz.prog 81 #[.slice a rs.length cap] w fun e w'=>e=.returned (.bool (routesOk rs))∧Below w.heap.size w w':=by
 rcases hr with rfl | ⟨b,off,rfl,hb,hr⟩
 ·exact specRoutesRight_nil a cap w
 ·exact specRoutesRight_any rs b off cap w hb hin hr
theorem specGwRight_any (A:Ga) (g:Gw) (w:World) (hs:GwSm A g) (hg:GwIs w A g) :
  Calls Tryz.prog 36 #[gwC A g] w fun e w'=>e=.returned (.bool (gwOk g))∧Below w.heap.size w w':=by
 have C0:Hid (∀ W,GwIs W A g→Calls Tryz.prog 81 #[.slice A.ra g.routes.length A.rc] W fun e w'=>e=.returned (.bool (routesOk g.routes))∧Below W.heap.size W w'):=fun W h=>specRoutesRight_is _ _ _ W hs.rc hs.rt h.rt
 have C1:Hid (∀ W,Calls Tryz.prog 82 #[.agg #[.string g.sixA,.int .i64 g.sixB]] W fun e w'=>e=.returned (.bool (natOk g.sixA g.sixB))∧Below W.heap.size W w'):=fun W=>specNat_any _ _ W hs.sx
 have C2:Hid (∀ W,Calls Tryz.prog 66 #[.int .i64 g.mtu,.int .i64 1280,.int .i64 1500] W fun e w'=>e=.returned (.bool (isIn g.mtu 1280 1500))∧w'=W):=fun W=>specIs_any _ _ _ W
 have C3:Hid (∀ W,GwIs W A g→Calls Tryz.prog 83 #[plC A.pa A.pc g.pool,bbC A.ba A.bo A.ca A.cb g.bib] W fun e w'=>e=.returned (.bool (bibOk g.pool g.bib))∧Below W.heap.size W w'):=fun W h=>specBib_any g.pool g.bib A.pa A.pc A.ba A.bo A.ca A.cb W hs.pl hs.pc hs.ps hs.b1 hs.b2 h.pl h.bb
 have C4:Hid (∀ W,GwIs W A g→Calls Tryz.prog 84 #[.slice A.qa g.pcs.length A.qc] W fun e w'=>e=.returned (.bool (piecesOk g.pcs))∧Below W.heap.size W w'):=fun W h=>specPiecesRight_any _ _ _ W hs.pi h.pc
 have C5:Hid (∀ W,Calls Tryz.prog 85 #[buC g.bk] W fun e w'=>e=.returned (.bool (bucketOk g.bk))∧Below W.heap.size W w'):=fun W=>specBucketRight_any _ W
 have C6:Hid (∀ W,Calls Tryz.prog 86 #[.int .i64 g.now] W fun e w'=>e=.returned (.bool (isTime g.now))∧w'=W):=fun W=>specBkTime_any _ W
 have HV:Hid (gwOk g=(routesOk g.routes&&natOk g.sixA g.sixB&&decide (g.four1.size=4)&&decide (g.six1.size=16)&&isIn g.mtu 1280 1500&&bibOk g.pool g.bib&&piecesOk g.pcs&&bucketOk g.bk&&isTime g.now&&decide (g.bk.since≤g.now))):=rfl;have HMT:Hid (isIn g.mtu 1280 1500=(decide (1280≤g.mtu)&&decide (g.mtu≤1500))):=rfl;have HG0:Hid (GwIs (w.alloc (.cells #[.slice A.ra g.routes.length A.rc,.slice A.pa g.pool.addrs.length A.pc,.int .i64 g.pool.low,.int .i64 g.pool.high,.int .i64 g.pool.most,.int .i64 g.pool.filter,.int .i64 g.pool.lv.udp,.int .i64 g.pool.lv.echo,.int .i64 g.pool.lv.opening,.int .i64 g.pool.lv.opn,.int .i64 g.pool.lv.closing,.string g.sixA,.int .i64 g.sixB,.string g.four1,.string g.six1,.int .i64 g.mtu,.slice A.ba g.bib.binds.length A.ca,.slice A.bo g.bib.sess.length A.cb,.slice A.qa g.pcs.length A.qc,.int .i64 g.bk.left,.int .i64 g.bk.most,.int .i64 g.bk.each,.int .i64 g.bk.since,.int .i64 g.now] 41)) A g):=hg.below ((Below.refl _ _).alloc (Nat.le_refl _) _);have S0:Hid (Bxs w [(w.heap.size,[.slice A.ra g.routes.length A.rc,.slice A.pa g.pool.addrs.length A.pc,.int .i64 g.pool.low,.int .i64 g.pool.high,.int .i64 g.pool.most,.int .i64 g.pool.filter,.int .i64 g.pool.lv.udp,.int .i64 g.pool.lv.echo,.int .i64 g.pool.lv.opening,.int .i64 g.pool.lv.opn,.int .i64 g.pool.lv.closing,.string g.sixA,.int .i64 g.sixB,.string g.four1,.string g.six1,.int .i64 g.mtu,.slice A.ba g.bib.binds.length A.ca,.slice A.bo g.bib.sess.length A.cb,.slice A.qa g.pcs.length A.qc,.int .i64 g.bk.left,.int .i64 g.bk.most,.int .i64 g.bk.each,.int .i64 g.bk.since,.int .i64 g.now])] (w.alloc (.cells #[.slice A.ra g.routes.length A.rc,.slice A.pa g.pool.addrs.length A.pc,.int .i64 g.pool.low,.int .i64 g.pool.high,.int .i64 g.pool.most,.int .i64 g.pool.filter,.int .i64 g.pool.lv.udp,.int .i64 g.pool.lv.echo,.int .i64 g.pool.lv.opening,.int .i64 g.pool.lv.opn,.int .i64 g.pool.lv.closing,.string g.sixA,.int .i64 g.sixB,.string g.four1,.string g.six1,.int .i64 g.mtu,.slice A.ba g.bib.binds.length A.ca,.slice A.bo g.bib.sess.length A.cb,.slice A.qa g.pcs.length A.qc,.int .i64 g.bk.left,.int .i64 g.bk.most,.int .i64 g.bk.each,.int .i64 g.bk.since,.int .i64 g.now] 41))):=(⟨fun e he=>(by cases he),Below.refl _ _,fun e he=>(by cases he)⟩ : Bxs w [] w).push [.slice A.ra g.routes.length A.rc,.slice A.pa g.pool.addrs.length A.pc,.int .i64 g.pool.low,.int .i64 g.pool.high,.int .i64 g.pool.most,.int .i64 g.pool.filter,.int .i64 g.pool.lv.udp,.int .i64 g.pool.lv.echo,.int .i64 g.pool.lv.opening,.int .i64 g.pool.lv.opn,.int .i64 g.pool.lv.closing,.string g.sixA,.int .i64 g.sixB,.string g.four1,.string g.six1,.int .i64 g.mtu,.slice A.ba g.bib.binds.length A.ca,.slice A.bo g.bib.sess.length A.cb,.slice A.qa g.pcs.length A.qc,.int .i64 g.bk.left,.int .i64 g.bk.most,.int .i64 g.bk.each,.int .i64 g.bk.since,.int .i64 g.now] (by simp) 41;have f1:g.four1.size≤1048576:=hs.f1;have s1:g.six1.size≤1048576:=hs.s1;clear hs hg;have hun:undef=Value.tuple #[]:=rfl;generalize gwOk g=b0 at *;generalize routesOk g.routes=b1 at *;generalize natOk g.sixA g.sixB=b2 at *;generalize isIn g.mtu 1280 1500=b3 at *;generalize bibOk g.pool g.bib=b4 at *;generalize piecesOk g.pcs=b5 at *;generalize bucketOk g.bk=b6 at *;generalize isTime g.now=b7 at *;unfold gwC gwL plC bbC buC at *;go_enter Tryz.func36,Tryz.ntmps36
 go_upto_region 1 with fail
 generalize w.alloc (.cells #[.slice A.ra g.routes.length A.rc,.slice A.pa g.pool.addrs.length A.pc,.int .i64 g.pool.low,.int .i64 g.pool.high,.int .i64 g.pool.most,.int .i64 g.pool.filter,.int .i64 g.pool.lv.udp,.int .i64 g.pool.lv.echo,.int .i64 g.pool.lv.opening,.int .i64 g.pool.lv.opn,.int .i64 g.pool.lv.closing,.string g.sixA,.int .i64 g.sixB,.string g.four1,.string g.six1,.int .i64 g.mtu,.slice A.ba g.bib.binds.length A.ca,.slice A.bo g.bib.sess.length A.cb,.slice A.qa g.pcs.length A.qc,.int .i64 g.bk.left,.int .i64 g.bk.most,.int .i64 g.bk.each,.int .i64 g.bk.since,.int .i64 g.now] 41)=W0 at *;have HHq:=S0.out.at (.head _);obtain ⟨k0,k1,k2,k3,k4,k5,k6,k7,k8,k9,k10,k11,k12,k13,k14,k15,k16,k17,k18,k19,k20,k21,k22,k23⟩ : W0.cell? ⟨w.heap.size,0,none⟩=some (.slice A.ra g.routes.length A.rc)∧W0.cell? ⟨w.heap.size,1,none⟩=some (.slice A.pa g.pool.addrs.length A.pc)∧W0.cell? ⟨w.heap.size,2,none⟩=some (.int .i64 g.pool.low)∧W0.cell? ⟨w.heap.size,3,none⟩=some (.int .i64 g.pool.high)∧W0.cell? ⟨w.heap.size,4,none⟩=some (.int .i64 g.pool.most)∧W0.cell? ⟨w.heap.size,5,none⟩=some (.int .i64 g.pool.filter)∧W0.cell? ⟨w.heap.size,6,none⟩=some (.int .i64 g.pool.lv.udp)∧W0.cell? ⟨w.heap.size,7,none⟩=some (.int .i64 g.pool.lv.echo)∧W0.cell? ⟨w.heap.size,8,none⟩=some (.int .i64 g.pool.lv.opening)∧W0.cell? ⟨w.heap.size,9,none⟩=some (.int .i64 g.pool.lv.opn)∧W0.cell? ⟨w.heap.size,10,none⟩=some (.int .i64 g.pool.lv.closing)∧W0.cell? ⟨w.heap.size,11,none⟩=some (.string g.sixA)∧W0.cell? ⟨w.heap.size,12,none⟩=some (.int .i64 g.sixB)∧W0.cell? ⟨w.heap.size,13,none⟩=some (.string g.four1)∧W0.cell? ⟨w.heap.size,14,none⟩=some (.string g.six1)∧W0.cell? ⟨w.heap.size,15,none⟩=some (.int .i64 g.mtu)∧W0.cell? ⟨w.heap.size,16,none⟩=some (.slice A.ba g.bib.binds.length A.ca)∧W0.cell? ⟨w.heap.size,17,none⟩=some (.slice A.bo g.bib.sess.length A.cb)∧W0.cell? ⟨w.heap.size,18,none⟩=some (.slice A.qa g.pcs.length A.qc)∧W0.cell? ⟨w.heap.size,19,none⟩=some (.int .i64 g.bk.left)∧W0.cell? ⟨w.heap.size,20,none⟩=some (.int .i64 g.bk.most)∧W0.cell? ⟨w.heap.size,21,none⟩=some (.int .i64 g.bk.each)∧W0.cell? ⟨w.heap.size,22,none⟩=some (.int .i64 g.bk.since)∧W0.cell? ⟨w.heap.size,23,none⟩=some (.int .i64 g.now):=⟨HHq.cell rfl,HHq.cell rfl,HHq.cell rfl,HHq.cell rfl,HHq.cell rfl,HHq.cell rfl,HHq.cell rfl,HHq.cell rfl,HHq.cell rfl,HHq.cell rfl,HHq.cell rfl,HHq.cell rfl,HHq.cell rfl,HHq.cell rfl,HHq.cell rfl,HHq.cell rfl,HHq.cell rfl,HHq.cell rfl,HHq.cell rfl,HHq.cell rfl,HHq.cell rfl,HHq.cell rfl,HHq.cell rfl,HHq.cell rfl⟩;clear HHq;go_wp2_with fail
 refine (C0.out W0 HG0.out).mono ?_;rintro e w1 ⟨rfl,qq⟩;have S1:Hid _:=S0.out.kept qq;have HG1:Hid (GwIs w1 A g):=HG0.out.below qq;clear qq S0 HG0 k0 k1 k2 k3 k4 k5 k6 k7 k8 k9 k10 k11 k12 k13 k14 k15 k16 k17 k18 k19 k20 k21 k22 k23;have HHq:=S1.out.at (.head _);obtain ⟨k0,k1,k2,k3,k4,k5,k6,k7,k8,k9,k10,k11,k12,k13,k14,k15,k16,k17,k18,k19,k20,k21,k22,k23⟩ : w1.cell? ⟨w.heap.size,0,none⟩=some (.slice A.ra g.routes.length A.rc)∧w1.cell? ⟨w.heap.size,1,none⟩=some (.slice A.pa g.pool.addrs.length A.pc)∧w1.cell? ⟨w.heap.size,2,none⟩=some (.int .i64 g.pool.low)∧w1.cell? ⟨w.heap.size,3,none⟩=some (.int .i64 g.pool.high)∧w1.cell? ⟨w.heap.size,4,none⟩=some (.int .i64 g.pool.most)∧w1.cell? ⟨w.heap.size,5,none⟩=some (.int .i64 g.pool.filter)∧w1.cell? ⟨w.heap.size,6,none⟩=some (.int .i64 g.pool.lv.udp)∧w1.cell? ⟨w.heap.size,7,none⟩=some (.int .i64 g.pool.lv.echo)∧w1.cell? ⟨w.heap.size,8,none⟩=some (.int .i64 g.pool.lv.opening)∧w1.cell? ⟨w.heap.size,9,none⟩=some (.int .i64 g.pool.lv.opn)∧w1.cell? ⟨w.heap.size,10,none⟩=some (.int .i64 g.pool.lv.closing)∧w1.cell? ⟨w.heap.size,11,none⟩=some (.string g.sixA)∧w1.cell? ⟨w.heap.size,12,none⟩=some (.int .i64 g.sixB)∧w1.cell? ⟨w.heap.size,13,none⟩=some (.string g.four1)∧w1.cell? ⟨w.heap.size,14,none⟩=some (.string g.six1)∧w1.cell? ⟨w.heap.size,15,none⟩=some (.int .i64 g.mtu)∧w1.cell? ⟨w.heap.size,16,none⟩=some (.slice A.ba g.bib.binds.length A.ca)∧w1.cell? ⟨w.heap.size,17,none⟩=some (.slice A.bo g.bib.sess.length A.cb)∧w1.cell? ⟨w.heap.size,18,none⟩=some (.slice A.qa g.pcs.length A.qc)∧w1.cell? ⟨w.heap.size,19,none⟩=some (.int .i64 g.bk.left)∧w1.cell? ⟨w.heap.size,20,none⟩=some (.int .i64 g.bk.most)∧w1.cell? ⟨w.heap.size,21,none⟩=some (.int .i64 g.bk.each)∧w1.cell? ⟨w.heap.size,22,none⟩=some (.int .i64 g.bk.since)∧w1.cell? ⟨w.heap.size,23,none⟩=some (.int .i64 g.now):=⟨HHq.cell rfl,HHq.cell rfl,HHq.cell rfl,HHq.cell rfl,HHq.cell rfl,HHq.cell rfl,HHq.cell rfl,HHq.cell rfl,HHq.cell rfl,HHq.cell rfl,HHq.cell rfl,HHq.cell rfl,HHq.cell rfl,HHq.cell rfl,HHq.cell rfl,HHq.cell rfl,HHq.cell rfl,HHq.cell rfl,HHq.cell rfl,HHq.cell rfl,HHq.cell rfl,HHq.cell rfl,HHq.cell rfl,HHq.cell rfl⟩;clear HHq
 cases b1 with
 | false =>
  obtain rfl:b0=false:=by rw [HV.out]; simp
  go_wp2_with fail
  go_ret;exact ⟨rfl,S1.out.b⟩
 | true =>
 go_wp2_with fail
 refine (C1.out w1).mono ?_;rintro e w2 ⟨rfl,qq⟩;have S2:Hid _:=S1.out.kept qq;have HG2:Hid (GwIs w2 A g):=HG1.out.below qq;clear qq S1 HG1 k0 k1 k2 k3 k4 k5 k6 k7 k8 k9 k10 k11 k12 k13 k14 k15 k16 k17 k18 k19 k20 k21 k22 k23;have HHq:=S2.out.at (.head _);obtain ⟨k0,k1,k2,k3,k4,k5,k6,k7,k8,k9,k10,k11,k12,k13,k14,k15,k16,k17,k18,k19,k20,k21,k22,k23⟩ : w2.cell? ⟨w.heap.size,0,none⟩=some (.slice A.ra g.routes.length A.rc)∧w2.cell? ⟨w.heap.size,1,none⟩=some (.slice A.pa g.pool.addrs.length A.pc)∧w2.cell? ⟨w.heap.size,2,none⟩=some (.int .i64 g.pool.low)∧w2.cell? ⟨w.heap.size,3,none⟩=some (.int .i64 g.pool.high)∧w2.cell? ⟨w.heap.size,4,none⟩=some (.int .i64 g.pool.most)∧w2.cell? ⟨w.heap.size,5,none⟩=some (.int .i64 g.pool.filter)∧w2.cell? ⟨w.heap.size,6,none⟩=some (.int .i64 g.pool.lv.udp)∧w2.cell? ⟨w.heap.size,7,none⟩=some (.int .i64 g.pool.lv.echo)∧w2.cell? ⟨w.heap.size,8,none⟩=some (.int .i64 g.pool.lv.opening)∧w2.cell? ⟨w.heap.size,9,none⟩=some (.int .i64 g.pool.lv.opn)∧w2.cell? ⟨w.heap.size,10,none⟩=some (.int .i64 g.pool.lv.closing)∧w2.cell? ⟨w.heap.size,11,none⟩=some (.string g.sixA)∧w2.cell? ⟨w.heap.size,12,none⟩=some (.int .i64 g.sixB)∧w2.cell? ⟨w.heap.size,13,none⟩=some (.string g.four1)∧w2.cell? ⟨w.heap.size,14,none⟩=some (.string g.six1)∧w2.cell? ⟨w.heap.size,15,none⟩=some (.int .i64 g.mtu)∧w2.cell? ⟨w.heap.size,16,none⟩=some (.slice A.ba g.bib.binds.length A.ca)∧w2.cell? ⟨w.heap.size,17,none⟩=some (.slice A.bo g.bib.sess.length A.cb)∧w2.cell? ⟨w.heap.size,18,none⟩=some (.slice A.qa g.pcs.length A.qc)∧w2.cell? ⟨w.heap.size,19,none⟩=some (.int .i64 g.bk.left)∧w2.cell? ⟨w.heap.size,20,none⟩=some (.int .i64 g.bk.most)∧w2.cell? ⟨w.heap.size,21,none⟩=some (.int .i64 g.bk.each)∧w2.cell? ⟨w.heap.size,22,none⟩=some (.int .i64 g.bk.since)∧w2.cell? ⟨w.heap.size,23,none⟩=some (.int .i64 g.now):=⟨HHq.cell rfl,HHq.cell rfl,HHq.cell rfl,HHq.cell rfl,HHq.cell rfl,HHq.cell rfl,HHq.cell rfl,HHq.cell rfl,HHq.cell rfl,HHq.cell rfl,HHq.cell rfl,HHq.cell rfl,HHq.cell rfl,HHq.cell rfl,HHq.cell rfl,HHq.cell rfl,HHq.cell rfl,HHq.cell rfl,HHq.cell rfl,HHq.cell rfl,HHq.cell rfl,HHq.cell rfl,HHq.cell rfl,HHq.cell rfl⟩;clear HHq
 cases b2 with
 | false =>
  obtain rfl:b0=false:=by rw [HV.out]; simp
  go_wp2_with fail
  go_ret;exact ⟨rfl,S2.out.b⟩
 | true =>
 by_cases hfour1:g.four1.size=4
 case neg =>
  have ifour1:((g.four1.size:Int)==4)=false:=by rw [beq_eq_false_iff_ne]; omega
  obtain rfl:b0=false:=by rw [HV.out]; simp [hfour1]
  go_wp2_with fail
  go_ret;exact ⟨rfl,S2.out.b⟩
 have ifour1:((g.four1.size:Int)==4)=true:=by rw [beq_iff_eq]; omega
 by_cases hsix1:g.six1.size=16
 case neg =>
  have isix1:((g.six1.size:Int)==16)=false:=by rw [beq_eq_false_iff_ne]; omega
  obtain rfl:b0=false:=by rw [HV.out]; simp [hsix1]
  go_wp2_with fail
  go_ret;exact ⟨rfl,S2.out.b⟩
 have isix1:((g.six1.size:Int)==16)=true:=by rw [beq_iff_eq]; omega
 go_wp2_with fail
 refine (C2.out w2).mono ?_;rintro e w3 ⟨rfl,hw3⟩;subst hw3
 cases b3 with
 | false =>
  obtain rfl:b0=false:=by rw [HV.out]; simp
  go_wp2_with fail
  go_ret;exact ⟨rfl,S2.out.b⟩
 | true =>
 go_wp2_with fail
 refine (C3.out w3 HG2.out).mono ?_;rintro e w4 ⟨rfl,qq⟩;have S4:Hid _:=S2.out.kept qq;have HG4:Hid (GwIs w4 A g):=HG2.out.below qq;clear qq S2 HG2 k0 k1 k2 k3 k4 k5 k6 k7 k8 k9 k10 k11 k12 k13 k14 k15 k16 k17 k18 k19 k20 k21 k22 k23;have HHq:=S4.out.at (.head _);obtain ⟨k0,k1,k2,k3,k4,k5,k6,k7,k8,k9,k10,k11,k12,k13,k14,k15,k16,k17,k18,k19,k20,k21,k22,k23⟩ : w4.cell? ⟨w.heap.size,0,none⟩=some (.slice A.ra g.routes.length A.rc)∧w4.cell? ⟨w.heap.size,1,none⟩=some (.slice A.pa g.pool.addrs.length A.pc)∧w4.cell? ⟨w.heap.size,2,none⟩=some (.int .i64 g.pool.low)∧w4.cell? ⟨w.heap.size,3,none⟩=some (.int .i64 g.pool.high)∧w4.cell? ⟨w.heap.size,4,none⟩=some (.int .i64 g.pool.most)∧w4.cell? ⟨w.heap.size,5,none⟩=some (.int .i64 g.pool.filter)∧w4.cell? ⟨w.heap.size,6,none⟩=some (.int .i64 g.pool.lv.udp)∧w4.cell? ⟨w.heap.size,7,none⟩=some (.int .i64 g.pool.lv.echo)∧w4.cell? ⟨w.heap.size,8,none⟩=some (.int .i64 g.pool.lv.opening)∧w4.cell? ⟨w.heap.size,9,none⟩=some (.int .i64 g.pool.lv.opn)∧w4.cell? ⟨w.heap.size,10,none⟩=some (.int .i64 g.pool.lv.closing)∧w4.cell? ⟨w.heap.size,11,none⟩=some (.string g.sixA)∧w4.cell? ⟨w.heap.size,12,none⟩=some (.int .i64 g.sixB)∧w4.cell? ⟨w.heap.size,13,none⟩=some (.string g.four1)∧w4.cell? ⟨w.heap.size,14,none⟩=some (.string g.six1)∧w4.cell? ⟨w.heap.size,15,none⟩=some (.int .i64 g.mtu)∧w4.cell? ⟨w.heap.size,16,none⟩=some (.slice A.ba g.bib.binds.length A.ca)∧w4.cell? ⟨w.heap.size,17,none⟩=some (.slice A.bo g.bib.sess.length A.cb)∧w4.cell? ⟨w.heap.size,18,none⟩=some (.slice A.qa g.pcs.length A.qc)∧w4.cell? ⟨w.heap.size,19,none⟩=some (.int .i64 g.bk.left)∧w4.cell? ⟨w.heap.size,20,none⟩=some (.int .i64 g.bk.most)∧w4.cell? ⟨w.heap.size,21,none⟩=some (.int .i64 g.bk.each)∧w4.cell? ⟨w.heap.size,22,none⟩=some (.int .i64 g.bk.since)∧w4.cell? ⟨w.heap.size,23,none⟩=some (.int .i64 g.now):=⟨HHq.cell rfl,HHq.cell rfl,HHq.cell rfl,HHq.cell rfl,HHq.cell rfl,HHq.cell rfl,HHq.cell rfl,HHq.cell rfl,HHq.cell rfl,HHq.cell rfl,HHq.cell rfl,HHq.cell rfl,HHq.cell rfl,HHq.cell rfl,HHq.cell rfl,HHq.cell rfl,HHq.cell rfl,HHq.cell rfl,HHq.cell rfl,HHq.cell rfl,HHq.cell rfl,HHq.cell rfl,HHq.cell rfl,HHq.cell rfl⟩;clear HHq
 cases b4 with
 | false =>
  obtain rfl:b0=false:=by rw [HV.out]; simp
  go_wp2_with fail
  go_ret;exact ⟨rfl,S4.out.b⟩
 | true =>
 go_wp2_with fail
 refine (C4.out w4 HG4.out).mono ?_;rintro e w5 ⟨rfl,qq⟩;have S5:Hid _:=S4.out.kept qq;have HG5:Hid (GwIs w5 A g):=HG4.out.below qq;clear qq S4 HG4 k0 k1 k2 k3 k4 k5 k6 k7 k8 k9 k10 k11 k12 k13 k14 k15 k16 k17 k18 k19 k20 k21 k22 k23;have HHq:=S5.out.at (.head _);obtain ⟨k0,k1,k2,k3,k4,k5,k6,k7,k8,k9,k10,k11,k12,k13,k14,k15,k16,k17,k18,k19,k20,k21,k22,k23⟩ : w5.cell? ⟨w.heap.size,0,none⟩=some (.slice A.ra g.routes.length A.rc)∧w5.cell? ⟨w.heap.size,1,none⟩=some (.slice A.pa g.pool.addrs.length A.pc)∧w5.cell? ⟨w.heap.size,2,none⟩=some (.int .i64 g.pool.low)∧w5.cell? ⟨w.heap.size,3,none⟩=some (.int .i64 g.pool.high)∧w5.cell? ⟨w.heap.size,4,none⟩=some (.int .i64 g.pool.most)∧w5.cell? ⟨w.heap.size,5,none⟩=some (.int .i64 g.pool.filter)∧w5.cell? ⟨w.heap.size,6,none⟩=some (.int .i64 g.pool.lv.udp)∧w5.cell? ⟨w.heap.size,7,none⟩=some (.int .i64 g.pool.lv.echo)∧w5.cell? ⟨w.heap.size,8,none⟩=some (.int .i64 g.pool.lv.opening)∧w5.cell? ⟨w.heap.size,9,none⟩=some (.int .i64 g.pool.lv.opn)∧w5.cell? ⟨w.heap.size,10,none⟩=some (.int .i64 g.pool.lv.closing)∧w5.cell? ⟨w.heap.size,11,none⟩=some (.string g.sixA)∧w5.cell? ⟨w.heap.size,12,none⟩=some (.int .i64 g.sixB)∧w5.cell? ⟨w.heap.size,13,none⟩=some (.string g.four1)∧w5.cell? ⟨w.heap.size,14,none⟩=some (.string g.six1)∧w5.cell? ⟨w.heap.size,15,none⟩=some (.int .i64 g.mtu)∧w5.cell? ⟨w.heap.size,16,none⟩=some (.slice A.ba g.bib.binds.length A.ca)∧w5.cell? ⟨w.heap.size,17,none⟩=some (.slice A.bo g.bib.sess.length A.cb)∧w5.cell? ⟨w.heap.size,18,none⟩=some (.slice A.qa g.pcs.length A.qc)∧w5.cell? ⟨w.heap.size,19,none⟩=some (.int .i64 g.bk.left)∧w5.cell? ⟨w.heap.size,20,none⟩=some (.int .i64 g.bk.most)∧w5.cell? ⟨w.heap.size,21,none⟩=some (.int .i64 g.bk.each)∧w5.cell? ⟨w.heap.size,22,none⟩=some (.int .i64 g.bk.since)∧w5.cell? ⟨w.heap.size,23,none⟩=some (.int .i64 g.now):=⟨HHq.cell rfl,HHq.cell rfl,HHq.cell rfl,HHq.cell rfl,HHq.cell rfl,HHq.cell rfl,HHq.cell rfl,HHq.cell rfl,HHq.cell rfl,HHq.cell rfl,HHq.cell rfl,HHq.cell rfl,HHq.cell rfl,HHq.cell rfl,HHq.cell rfl,HHq.cell rfl,HHq.cell rfl,HHq.cell rfl,HHq.cell rfl,HHq.cell rfl,HHq.cell rfl,HHq.cell rfl,HHq.cell rfl,HHq.cell rfl⟩;clear HHq
 cases b5 with
 | false =>
  obtain rfl:b0=false:=by rw [HV.out]; simp
  go_wp2_with fail
  go_ret;exact ⟨rfl,S5.out.b⟩
 | true =>
 go_wp2_with fail
 refine (C5.out w5).mono ?_;rintro e w6 ⟨rfl,qq⟩;have S6:Hid _:=S5.out.kept qq;have HG6:Hid (GwIs w6 A g):=HG5.out.below qq;clear qq S5 HG5 k0 k1 k2 k3 k4 k5 k6 k7 k8 k9 k10 k11 k12 k13 k14 k15 k16 k17 k18 k19 k20 k21 k22 k23;have HHq:=S6.out.at (.head _);obtain ⟨k0,k1,k2,k3,k4,k5,k6,k7,k8,k9,k10,k11,k12,k13,k14,k15,k16,k17,k18,k19,k20,k21,k22,k23⟩ : w6.cell? ⟨w.heap.size,0,none⟩=some (.slice A.ra g.routes.length A.rc)∧w6.cell? ⟨w.heap.size,1,none⟩=some (.slice A.pa g.pool.addrs.length A.pc)∧w6.cell? ⟨w.heap.size,2,none⟩=some (.int .i64 g.pool.low)∧w6.cell? ⟨w.heap.size,3,none⟩=some (.int .i64 g.pool.high)∧w6.cell? ⟨w.heap.size,4,none⟩=some (.int .i64 g.pool.most)∧w6.cell? ⟨w.heap.size,5,none⟩=some (.int .i64 g.pool.filter)∧w6.cell? ⟨w.heap.size,6,none⟩=some (.int .i64 g.pool.lv.udp)∧w6.cell? ⟨w.heap.size,7,none⟩=some (.int .i64 g.pool.lv.echo)∧w6.cell? ⟨w.heap.size,8,none⟩=some (.int .i64 g.pool.lv.opening)∧w6.cell? ⟨w.heap.size,9,none⟩=some (.int .i64 g.pool.lv.opn)∧w6.cell? ⟨w.heap.size,10,none⟩=some (.int .i64 g.pool.lv.closing)∧w6.cell? ⟨w.heap.size,11,none⟩=some (.string g.sixA)∧w6.cell? ⟨w.heap.size,12,none⟩=some (.int .i64 g.sixB)∧w6.cell? ⟨w.heap.size,13,none⟩=some (.string g.four1)∧w6.cell? ⟨w.heap.size,14,none⟩=some (.string g.six1)∧w6.cell? ⟨w.heap.size,15,none⟩=some (.int .i64 g.mtu)∧w6.cell? ⟨w.heap.size,16,none⟩=some (.slice A.ba g.bib.binds.length A.ca)∧w6.cell? ⟨w.heap.size,17,none⟩=some (.slice A.bo g.bib.sess.length A.cb)∧w6.cell? ⟨w.heap.size,18,none⟩=some (.slice A.qa g.pcs.length A.qc)∧w6.cell? ⟨w.heap.size,19,none⟩=some (.int .i64 g.bk.left)∧w6.cell? ⟨w.heap.size,20,none⟩=some (.int .i64 g.bk.most)∧w6.cell? ⟨w.heap.size,21,none⟩=some (.int .i64 g.bk.each)∧w6.cell? ⟨w.heap.size,22,none⟩=some (.int .i64 g.bk.since)∧w6.cell? ⟨w.heap.size,23,none⟩=some (.int .i64 g.now):=⟨HHq.cell rfl,HHq.cell rfl,HHq.cell rfl,HHq.cell rfl,HHq.cell rfl,HHq.cell rfl,HHq.cell rfl,HHq.cell rfl,HHq.cell rfl,HHq.cell rfl,HHq.cell rfl,HHq.cell rfl,HHq.cell rfl,HHq.cell rfl,HHq.cell rfl,HHq.cell rfl,HHq.cell rfl,HHq.cell rfl,HHq.cell rfl,HHq.cell rfl,HHq.cell rfl,HHq.cell rfl,HHq.cell rfl,HHq.cell rfl⟩;clear HHq
 cases b6 with
 | false =>
  obtain rfl:b0=false:=by rw [HV.out]; simp
  go_wp2_with fail
  go_ret;exact ⟨rfl,S6.out.b⟩
 | true =>
 go_wp2_with fail
 refine (C6.out w6).mono ?_;rintro e w7 ⟨rfl,hw7⟩;subst hw7
 cases b7 with
 | false =>
  obtain rfl:b0=false:=by rw [HV.out]; simp
  go_wp2_with fail
  go_ret;exact ⟨rfl,S6.out.b⟩
 | true =>
 have HV2:Hid (b0=decide (g.bk.since≤g.now)):=by unfold Hid; rw [HV.out]; simp [hfour1,hsix1]
 clear HV HMT;go_wp2_with fail
 go_ret;exact ⟨ret_bool HV2.out.symm,S6.out.b⟩
end Go.Proofs.YthagnjokdnnmpaaGreat
