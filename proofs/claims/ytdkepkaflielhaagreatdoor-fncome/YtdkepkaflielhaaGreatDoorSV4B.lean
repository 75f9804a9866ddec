import Derived.Test.YtdkepkaflielhaaGreatDoorAb
import Derived.Test.YtdkepkaflielhaaGreatDoorSmV
import Derived.Test.YtdkepkaflielhaaGreatDoorGrow
import Derived.Deep.RegionWith
import Derived.Deep.DeepCutAuto
set_option linter.unusedVariables false
set_option linter.unusedSimpArgs false
set_option maxRecDepth 100000
set_option maxHeartbeats 8000000
namespace Go.Proofs.YtdkepkaflielhaaGreatDoor
open Go.RowKit Go.PlainAid
def pairL (x y:Int):List UInt8:=[UInt8.ofNat x.toNat,UInt8.ofNat y.toNat]
theorem pair_cells {w:World} {b:Nat} {x y:Int} (hx:0≤x∧x≤255) (hy:0≤y∧y≤255)
  (hc0:w.cell? ⟨b,0,none⟩=some (.int .u8 x)) (hc1:w.cell? ⟨b,1,none⟩=some (.int .u8 y)) :
  ∀ j (hj:j < (pairL x y).length),w.cell? (Addr.add ⟨b,0,none⟩ j)=some (.int .u8 ((pairL x y)[j].toNat:Int)):=by
 intro j hj;match j,hj with
 | 0,_=>simp only [Addr.add,Nat.add_zero,pairL,List.getElem_cons_zero]; rw [u8_ofNat _ hx.1 hx.2]; exact hc0
 | 1,_=>simp only [Addr.add,Nat.zero_add,pairL,List.getElem_cons_succ,List.getElem_cons_zero]; rw [u8_ofNat _ hy.1 hy.2]; exact hc1
theorem pair_conv {w:World} {b cap:Nat} {x y:Int} (hx:0≤x∧x≤255) (hy:0≤y∧y≤255)
  (hc0:w.cell? ⟨b,0,none⟩=some (.int .u8 x)) (hc1:w.cell? ⟨b,1,none⟩=some (.int .u8 y)) :
  (convert 22 9 (.slice (some ⟨b,0,none⟩) 2 cap)).run Tryz.prog w=.ok (.string (pairV x y)) w :=
 run_convert_bytes_back (P:=Tryz.prog) w 22 9 5 ⟨b,0,none⟩ cap (pairL x y) Tryz.underlying22 Tryz.underlying5 Tryz.underlying9 (pair_cells hx hy hc0 hc1)
end Go.Proofs.YtdkepkaflielhaaGreatDoor
