import Derived.Test.YtdkepkaflielhaaGreatDoorSz
import Derived.Test.YtdkepkaflielhaaGreatDoorAb
import Derived.Test.YtdkepkaflielhaaGreatDoorPrefix
import Derived.Laws.IdiomStrings
set_option linter.unusedVariables false
set_option linter.unusedSimpArgs false
set_option maxRecDepth 100000
set_option maxHeartbeats 8000000
namespace Go.Proofs.YtdkepkaflielhaaGreatDoor
open Go.RowKit Go.PlainAid
def bytesOf (n:Nat) (f:Nat→Int):ByteArray:=⟨((List.range n).map fun i=>UInt8.ofNat (f i).toNat).toArray⟩
theorem bytesOf_size (n:Nat) (f:Nat→Int):(bytesOf n f).size=n:=by simp [bytesOf,ByteArray.size]
theorem bytesOf_bt {n:Nat} {f:Nat→Int} {i:Nat} (hi:i < n) (h0:0≤f i) (h1:f i≤255):bt (bytesOf n f) i=f i:=by
 have hs:=bytesOf_size n f;unfold bt;rw [dif_pos (by omega),ByteArray.getElem_eq_getElem_data];simp only [bytesOf,List.getElem_toArray,List.getElem_map,List.getElem_range,UInt8.toNat_ofNat'];omega
theorem ba_ext {a b:ByteArray} (hs:a.size=b.size) (h:∀ i,i < a.size→bt a i=bt b i):a=b:=by
 apply ByteArray.ext;apply Array.ext
 ·exact hs
 ·intro i h1 h2;have hi:=h i h1;unfold bt at hi;rw [dif_pos (show i < a.size from h1),dif_pos (show i < b.size from h2),ByteArray.getElem_eq_getElem_data,ByteArray.getElem_eq_getElem_data] at hi;exact UInt8.toNat_inj.1 (by exact_mod_cast hi)
structure Holds (w:World) (B n:Nat) (f:Nat→Int):Prop where
 get:∀ i,i < n→w.cell? ⟨B,i,none⟩=some (.int .u8 (f i))∧w.frozen? ⟨B,i,none⟩=false
theorem Holds.conv {w:World} {B n cap:Nat} {f:Nat→Int} (h:Holds w B n f) (hf:isByte f) :
  (convert 22 9 (.slice (some ⟨B,0,none⟩) n cap)).run Tryz.prog w=.ok (.string (bytesOf n f)) w:=by
 have hl:((List.range n).map fun i=>UInt8.ofNat (f i).toNat).length=n:=by simp
 have:=run_convert_bytes_back (P:=Tryz.prog) w 22 9 5 ⟨B,0,none⟩ cap ((List.range n).map fun i=>UInt8.ofNat (f i).toNat) Tryz.underlying22 Tryz.underlying5 Tryz.underlying9 (by
  intro j hj;have hj':j < n:=by simpa using hj
  have ha:Addr.add ⟨B,0,none⟩ j=⟨B,j,none⟩:=by simp only [Addr.add,Nat.zero_add]; split<;>simp_all
  rw [ha,(h.get j hj').1];have:=hf j;simp only [List.getElem_map,List.getElem_range,UInt8.toNat_ofNat'];congr 2; omega)
 rw [hl] at this;exact this
theorem bytes_new (w:World) (s:ByteArray):∃ cap W2,(convert 9 22 (.string s)).run Tryz.prog w=.ok (.slice (some ⟨w.heap.size,0,none⟩) s.size cap) W2∧Holds W2 w.heap.size s.size (bt s)∧Below w.heap.size w W2∧s.size≤cap:=by
 refine ⟨grownCap w s.size 0 5,_,run_bytes_of_string (P:=Tryz.prog) w 9 22 5 s Tryz.underlying9 Tryz.underlying22 Tryz.underlying5,?_,?_,?_⟩
 ·refine ⟨fun i hi=>?_⟩;have hz:(bytesRow s (grownCap w s.size 0 5)).size=s.size+(grownCap w s.size 0 5-s.size):=by unfold bytesRow; rw [Array.size_append,Array.size_map,Array.size_replicate]; rfl
  constructor
  ·refine (World.cell?_alloc_mark w.drew _ _ _ i).trans ?_;rw [bytesRow_at s _ i hi,← get_bt s i hi]; rfl
  ·refine (World.frozen?_alloc_mark w.drew _ _ _ _ i).trans ?_;simp; omega
 ·exact (Below.refl _ w).drew.alloc lR _
 ·exact grownCap_ge _ _ _ _
end Go.Proofs.YtdkepkaflielhaaGreatDoor
