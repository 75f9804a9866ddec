import Derived.Test.YtellgkeakiikkaaMerged3
import Derived.RegionTactic
import Derived.BigQuiet
import Derived.Deep.QuietTactic
import Derived.Deep.DeepCutAuto
import Derived.Laws.IdiomStrings
set_option linter.unusedVariables false
set_option linter.unusedSimpArgs false
set_option maxRecDepth 100000
set_option maxHeartbeats 8000000
namespace Go.Proofs.Ytellgkeakiikkaa
open Go.RowKit Go.PlainAid
theorem ba_ext {a b:ByteArray} (hs:a.size=b.size) (h:∀ i,i < a.size→bt a i=bt b i):a=b:=by
 apply ByteArray.ext;apply Array.ext
 ·exact hs
 ·intro i h1 h2;have hi:=h i h1;unfold bt at hi;rw [dif_pos (show i < a.size from h1),dif_pos (show i < b.size from h2),ByteArray.getElem_eq_getElem_data,ByteArray.getElem_eq_getElem_data] at hi;exact UInt8.toNat_inj.1 (by exact_mod_cast hi)
structure Holds (w:World) (B n:Nat) (f:Nat→Int):Prop where
 get:∀ i,i < n→w.cell? ⟨B,i,none⟩=some (.int .u8 (f i))∧w.frozen? ⟨B,i,none⟩=false
theorem Holds.set {w:World} {B n:Nat} {f:Nat→Int} (h:Holds w B n f) (j:Nat) (hj:j < n) (x:Int):Holds (w.setCell ⟨B,j,none⟩ (.int .u8 x)) B n (fun i=>if i=j then x else f i):=by
 refine ⟨fun i hi=>⟨?_,by rw [World.frozen?_setCell]; exact (h.get i hi).2⟩⟩;by_cases e:i=j
 ·subst e; show _=some (Value.int .u8 (if i=i then x else f i)); rw [if_pos rfl]; exact World.cell?_setCell_same _ _ _ (h.get i hi).1
 ·show _=some (Value.int .u8 (if i=j then x else f i)); rw [if_neg e,World.cell?_setCell_other _ _ _ _ (fun e2=>e (by injection e2 with _ h2; exact h2.symm))]; exact (h.get i hi).1
end Go.Proofs.Ytellgkeakiikkaa
