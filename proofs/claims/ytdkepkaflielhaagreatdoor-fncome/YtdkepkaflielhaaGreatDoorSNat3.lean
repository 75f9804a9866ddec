import Derived.Test.YtdkepkaflielhaaGreatDoorSz
import Derived.Test.YtdkepkaflielhaaGreatDoorAb
import Derived.Test.YtdkepkaflielhaaGreatDoorUni
import Derived.Test.YtdkepkaflielhaaGreatDoorStN
import Derived.Test.YtdkepkaflielhaaGreatDoorSNat2
import Derived.Test.YtdkepkaflielhaaGreatDoorNoBox
import Derived.Test.YtdkepkaflielhaaGreatDoorNatR
import Derived.Test.YtdkepkaflielhaaGreatDoorSSet
import Derived.Test.YtdkepkaflielhaaGreatDoorSFlowOf
set_option linter.unusedVariables false
set_option linter.unusedSimpArgs false
set_option maxRecDepth 100000
set_option maxHeartbeats 8000000
namespace Go.Proofs.YtdkepkaflielhaaGreatDoor
open Go.RowKit Go.PlainAid
def NoRet (base:Nat) (o:No) (e:Ending) (w':World):Prop:=∃ a b ca cb,e=.returned (noC a b ca cb o)∧BbOwn base w' a b o.bib
theorem noRet_ill {base:Nat} {w:World} (c:Int):NoRet base (noE c) (.returned (noC none none 0 0 (noE c))) w:=⟨none,none,0,0,rfl,.inl rfl,.inl rfl,fun g h e1=>by simp at e1⟩
theorem no_info:(Tryz.prog.info? 39).map (·.size)=some 25:=by kernel_rfl
theorem sp9Ill_any (c:Int) (w:World) :
  Cb 29 #[iV c] w (noC none none 0 0 (noE c)):=by
 have H0:Hid (HoldsL (w.alloc (.cells Z25V.toArray 39)) w.z (noL none none 0 0 (noE 0))):=HoldsL.new w Z25V 39;have B0:Hid (Below w.z w (w.alloc (.cells Z25V.toArray 39))):=bR.alloc lR _;go_enter Tryz.func29,Tryz.ntmps29
 go_upto_region 1 with fail
 generalize (w.alloc (.cells Z25V.toArray 39))=W0 at *;have HTH:Hid (W0.there w.z 0 (noL none none 0 0 (noE c)).toArray.size):=noL_there H0.out _ _ _ _ _;have HRR:Hid (HoldsL (W0.setCells w.z 0 (noL none none 0 0 (noE c)).toArray.toList) w.z (noL none none 0 0 (noE c))):=H0.out.mid rfl;have RB:Hid (Below w.z w (W0.setCells w.z 0 (noL none none 0 0 (noE c)).toArray.toList)):=Below.mid B0.out lR _;clear H0 B0;go_wp2_with (refine wpList_store_mid (by rfl) 39 (.tmp 2) (.tmp 4) (by rfl) _ _ _ (by rfl) (by rfl) HTH.out no_info (noL_one _ _ _ _ _) ?_)
 exact bodyPost_ret (results_mid Tryz.results29 _ _ _ _ _ rfl HRR.out Tryz.underlying39 rfl no_info) rfl (And.intro rfl RB.out)
end Go.Proofs.YtdkepkaflielhaaGreatDoor
