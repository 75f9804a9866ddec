import Derived.Test.YthpopipedamciaaGreatSAll
import Derived.Test.YthpopipedamciaaGreatMerged2
import Derived.Deep.DeepCutAuto
import Derived.Great.BuildSlice
import Derived.Deep.AppendLies
import Derived.Test.YthpopipedamciaaGreatMerged5
import Derived.Test.YthpopipedamciaaGreatMerged15
import Derived.Test.YthpopipedamciaaGreatMerged9
set_option linter.unusedVariables false
set_option linter.unusedSimpArgs false
set_option maxRecDepth 100000
set_option maxHeartbeats 8000000
namespace Go.Proofs.YthpopipedamciaaGreat
open Go.RowKit Go.PlainAid
theorem specPiecesRight_any (xs:List Pc) (a:Option Addr) (cap:Nat) (w:World) (hin:PcsIn xs) (hr:SlIs pcL 8 w a xs) :
  Calls Tryz.prog 51 #[.slice a xs.length cap] w fun e w'=>e=.returned (.bool (piecesOk xs))∧Below w.heap.size w w':=by
 have HC:Hid (∀ W,Below w.heap.size w W→Calls Tryz.prog 100 #[.slice a xs.length cap] W fun e w'=>e=.returned (.bool (allPc xs))∧Below W.heap.size W w'):=fun W hW=>spAll_any xs a cap W hin (hr.below hW)
 have hlen:=hin.1;unfold piecesOk;generalize allPc xs=b at *;clear hin hr;have hun:undef=Value.tuple #[]:=rfl;by_cases h:xs.length≤40
 ·rw [decide_eq_true h];go_enter Tryz.func51,Tryz.ntmps51
  go_wp2_with fail
  refine (HC.out _ (Below.refl _ _)).mono ?_;rintro e w1 ⟨rfl,q1⟩;go_wp2_with fail
  go_ret;exact ⟨rfl,q1⟩
 ·rw [decide_eq_false h];go_enter Tryz.func51,Tryz.ntmps51
  go_wp2_with fail
  go_ret;exact ⟨rfl,Below.refl _ _⟩
theorem Tryz.infoPt:(Tryz.prog.info? 129).map (fun i=>(i.zero,i.size,i.bytes))=some (some (.agg #[.string ⟨#[]⟩,.string ⟨#[]⟩,.int .i64 0,.int .i64 0,.int .i64 0,.bool false,.string ⟨#[]⟩,.int .i64 0]),8,88):=by kernel_rfl
theorem news8 (w:World) (q:Pc) (t:TypeId):∀ j u,(pcL q)[j]?=some u→(w.alloc (.cells #[.string q.src,.string q.dst,.int .i64 q.proto,.int .i64 q.id,.int .i64 q.off,.bool q.more,.string q.data,.int .i64 q.since] t)).cell? ((⟨w.heap.size,0,none⟩ : Addr).add j)=some u:=World.news_of_block (heap_alloc_new w _)
theorem pcL_one (q:Pc):∀ u∈pcL q,u.oneCell'=true:=fun u hu=>by simp [pcL] at hu; rcases hu with rfl | rfl | rfl | rfl | rfl | rfl | rfl | rfl<;>rfl
theorem specBkTime_any (n:Int) (w:World) :
  Calls Tryz.prog 53 #[.int .i64 n] w fun e w'=>e=.returned (.bool (bkTime n))∧w'=w:=by
 by_cases h1:0≤n
 ·by_cases h2:n≤1000000000
  ·have HV:Hid (bkTime n=true):=by unfold Hid bkTime isIn; simp [h1,h2]
   go_enter Tryz.func53,Tryz.ntmps53
   go_wp2_with fail
   go_ret;exact ⟨ret_bool (by rw [HV.out]),rfl⟩
  ·have HV:Hid (bkTime n=false):=by unfold Hid bkTime isIn; simp [h2]
   go_enter Tryz.func53,Tryz.ntmps53
   go_wp2_with fail
   go_ret;exact ⟨ret_bool (by rw [HV.out]),rfl⟩
 ·have HV:Hid (bkTime n=false):=by unfold Hid bkTime isIn; simp [h1]
  have h1':n < 0:=by omega
  go_enter Tryz.func53,Tryz.ntmps53
  go_wp2_with fail
  go_ret;exact ⟨ret_bool (by rw [HV.out]),rfl⟩
theorem specBucketRight_any (b:Bk) (w:World) :
  Calls Tryz.prog 52 #[buC b] w fun e w'=>e=.returned (.bool (bucketOk b))∧Below w.heap.size w w':=by
 have HC0:Hid (∀ W,Calls Tryz.prog 49 #[.int .i64 b.most,.int .i64 1,.int .i64 100] W fun e w'=>e=.returned (.bool (isIn b.most 1 100))∧w'=W):=fun W=>specIs_any _ _ _ W
 have HC1:Hid (∀ W,Calls Tryz.prog 49 #[.int .i64 b.left,.int .i64 0,.int .i64 b.most] W fun e w'=>e=.returned (.bool (isIn b.left 0 b.most))∧w'=W):=fun W=>specIs_any _ _ _ W
 have HC2:Hid (∀ W,Calls Tryz.prog 49 #[.int .i64 b.each,.int .i64 1,.int .i64 1000] W fun e w'=>e=.returned (.bool (isIn b.each 1 1000))∧w'=W):=fun W=>specIs_any _ _ _ W
 have HC3:Hid (∀ W,Calls Tryz.prog 53 #[.int .i64 b.since] W fun e w'=>e=.returned (.bool (bkTime b.since))∧w'=W):=fun W=>specBkTime_any _ W
 have HV:Hid (bucketOk b=(isIn b.most 1 100&&isIn b.left 0 b.most&&isIn b.each 1 1000&&bkTime b.since)):=rfl;generalize bucketOk b=ans at *;generalize isIn b.most 1 100=b0 at *;generalize isIn b.left 0 b.most=b1 at *;generalize isIn b.each 1 1000=b2 at *;generalize bkTime b.since=b3 at *;have HZ:Hid (Below w.heap.size w (w.alloc (.cells #[.int .i64 b.left,.int .i64 b.most,.int .i64 b.each,.int .i64 b.since] 39))):=(Below.refl _ _).alloc (Nat.le_refl _) _;unfold buC;go_enter Tryz.func52,Tryz.ntmps52
 go_wp2_with fail
 cases b0 with
 | false =>
  refine (HC0.out _).mono ?_;rintro e w0 ⟨rfl,rfl⟩;go_wp2_with fail
  go_ret;exact ⟨ret_bool (by rw [HV.out]; rfl),HZ.out⟩
 | true =>
  refine (HC0.out _).mono ?_;rintro e w0 ⟨rfl,rfl⟩;go_wp2_with fail
  cases b1 with
  | false =>
   refine (HC1.out _).mono ?_;rintro e w1 ⟨rfl,rfl⟩;go_wp2_with fail
   go_ret;exact ⟨ret_bool (by rw [HV.out]; rfl),HZ.out⟩
  | true =>
   refine (HC1.out _).mono ?_;rintro e w1 ⟨rfl,rfl⟩;go_wp2_with fail
   cases b2 with
   | false =>
    refine (HC2.out _).mono ?_;rintro e w2 ⟨rfl,rfl⟩;go_wp2_with fail
    go_ret;exact ⟨ret_bool (by rw [HV.out]; rfl),HZ.out⟩
   | true =>
    refine (HC2.out _).mono ?_;rintro e w2 ⟨rfl,rfl⟩;go_wp2_with fail
    cases b3 with
    | false =>
     refine (HC3.out _).mono ?_;rintro e w3 ⟨rfl,rfl⟩;go_wp2_with fail
     go_ret;exact ⟨ret_bool (by rw [HV.out]; rfl),HZ.out⟩
    | true =>
     refine (HC3.out _).mono ?_;rintro e w3 ⟨rfl,rfl⟩;go_wp2_with fail
     go_ret;exact ⟨ret_bool (by rw [HV.out]; rfl),HZ.out⟩
end Go.Proofs.YthpopipedamciaaGreat
