import Derived.Test.YtdkepkaflielhaaGreatDoorAb
import Derived.Test.YtdkepkaflielhaaGreatDoorDrawBytes
set_option linter.unusedVariables false
set_option linter.unusedSimpArgs false
set_option maxRecDepth 100000
set_option maxHeartbeats 8000000
namespace Go.Proofs.YtdkepkaflielhaaGreatDoor
open Go.RowKit
theorem bytes_of_row {w:World} {a:Option Addr} {len cap:Nat} {zs:List Int}
  (h:(a=none∧len=0∧cap=0∧zs=[])∨∃ x,a=some x∧len≤cap∧cap≤maxLen∧zs.length=cap∧(∀ i,i < zs.length→w.cell? (x.add i)=some (.int .u8 (zs.getD i 0)))∧∀ n∈zs,(Lit.int .u8 n).wf=true) :
  Bytes w a len w.heap.size:=by
 refine ⟨fun i hi=>?_⟩;rcases h with ⟨_,h0,_⟩ | ⟨⟨b,off,spot⟩,rfl,hl,_,hz,hc,hw⟩
 ·omega
 ·have hci:=hc i (by omega);have hsp:spot=none:=by
   have:=hc 0 (by omega);simpa [Addr.add] using World.cell?_spot this
  subst hsp;have hwf:=hw (zs.getD i 0) (by rw [List.getD,List.getElem?_eq_getElem (by omega)]; exact List.getElem_mem _);have hbd:0≤zs.getD i 0∧zs.getD i 0≤255:=by simpa [Lit.wf,IntKind.min,IntKind.max,IntKind.signed,IntKind.bits] using hwf
  have hci':w.cell? ⟨b,off+i,none⟩=some (.int .u8 (zs.getD i 0)):=by
   have e:Addr.add ⟨b,off,none⟩ i=⟨b,off+i,none⟩:=by simp only [Addr.add]; split<;>simp_all
   rw [← e]; exact hci
  exact ⟨b,off,rfl,World.block_lt_of_cell? w _ hci',zs.getD i 0,hbd.1,hbd.2,hci'⟩
end Go.Proofs.YtdkepkaflielhaaGreatDoor
