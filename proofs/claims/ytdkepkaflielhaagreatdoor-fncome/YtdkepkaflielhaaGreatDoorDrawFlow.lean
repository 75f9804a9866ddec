import Derived.Test.YtdkepkaflielhaaGreatDoorAb
import Derived.Test.YtdkepkaflielhaaGreatDoorDrawCarry
set_option linter.unusedVariables false
set_option linter.unusedSimpArgs false
set_option maxRecDepth 100000
set_option maxHeartbeats 8000000
namespace Go.Proofs.YtdkepkaflielhaaGreatDoor
open Go.RowKit Go.PlainAid
def EB (B:Nat) (w w':World):Prop:=w.grownBy w' (some B)
theorem EB.cell {B:Nat} {w w':World} (h:EB B w w') {b o:Nat} {v:Value} (hc:w.cell? ⟨b,o,none⟩=some v) (hb:b≠B):w'.cell? ⟨b,o,none⟩=some v:=World.grownBy.cell h hc (by simp; exact hb)
theorem EB.of {B:Nat} {w w':World} (h:Below w.heap.size w w'):EB B w w':=grown_of_below h
theorem pick_cell {w w1:World} {B k:Nat} {cs:List Value} {t:TypeId} {p:Value→Prop} (hg:(w.alloc (.cells cs.toArray t)).grownBy w1 (some B)) (hB:B < w.heap.size) (hk:k < cs.length) (hp:∀ v∈cs,p v):∃ v,w1.cell? ⟨w.heap.size,k,none⟩=some v∧p v :=
 ⟨cs[k],hg.cell (cell_new (by simp [hk])) (by simp; omega),hp _ (List.getElem_mem hk)⟩
def XV (x:Value):Value→World→Prop:=fun v _=>v=x
def XR (lo hi:Int):Value→World→Prop:=fun v _=>∃ r,v=iV r∧lo≤r∧r≤hi
def XInts (B n:Nat) (lo hi:Int):Value→World→Prop:=fun v w=>∃ b,v=.slice (some ⟨b,0,none⟩) n n∧b≠B∧∀ k,k < n→∃ x,w.cell? ⟨b,k,none⟩=some (iV x)∧lo≤x∧x≤hi
def XCell (B:Nat) (lo hi:Int):Value→World→Prop:=fun v w=>∃ b k x,v=.pointer (some ⟨b,k,none⟩)∧b≠B∧w.cell? ⟨b,k,none⟩=some (iV x)∧lo≤x∧x≤hi
theorem st_XV (B:Nat) (x:Value):StableX (EB B) (XV x):=fun _ _ _ h _=>h
theorem st_XR (B:Nat) (lo hi:Int):StableX (EB B) (XR lo hi):=fun _ _ _ h _=>h
theorem st_XInts (B n:Nat) (lo hi:Int):StableX (EB B) (XInts B n lo hi):=fun v w w' ⟨b,h1,h2,h3⟩ he=>⟨b,h1,h2,fun k hk=>by obtain ⟨x,hx,hr⟩:=h3 k hk; exact ⟨x,he.cell hx h2,hr⟩⟩
theorem st_XCell (B:Nat) (lo hi:Int):StableX (EB B) (XCell B lo hi):=fun v w w' ⟨b,k,x,h1,h2,h3,h4⟩ he=>⟨b,k,x,h1,h2,he.cell h3 h2,h4⟩
def flC (p:Int) (s d:ByteArray) (x y:Int):Value:=.agg (FlR p s d x y).toArray
structure BoxF (w:World) (X:Nat) (p:Int) (s d:ByteArray) (x y:Int):Prop where
 c0:w.cell? ⟨X,0,none⟩=some (iV p)
 f0:w.frozen? ⟨X,0,none⟩=false
 c1:w.cell? ⟨X,1,none⟩=some (.string s)
 f1:w.frozen? ⟨X,1,none⟩=false
 c2:w.cell? ⟨X,2,none⟩=some (.string d)
 f2:w.frozen? ⟨X,2,none⟩=false
 c3:w.cell? ⟨X,3,none⟩=some (iV x)
 f3:w.frozen? ⟨X,3,none⟩=false
 c4:w.cell? ⟨X,4,none⟩=some (iV y)
 f4:w.frozen? ⟨X,4,none⟩=false
section
variable {w w':World} {X B:Nat} {p x y:Int} {s d:ByteArray}
theorem BoxF.new (w:World) {t:TypeId}:BoxF (w.alloc (.cells (FlR p s d x y).toArray t)) w.heap.size p s d x y:=⟨cell_new rfl,by simp,cell_new rfl,by simp,cell_new rfl,by simp,cell_new rfl,by simp,cell_new rfl,by simp⟩
theorem BoxF.drawn (h:BoxF w X p s d x y) (he:EB B w w') (hX:X≠B):BoxF w' X p s d x y:=by
 have hb:=World.block_lt_of_cell? w _ h.c0;have hk:w'.heap[X]?=w.heap[X]?:=World.grownBy.block he X hb (by simp; exact hX);have hc:∀ j,w'.cell? ⟨X,j,none⟩=w.cell? ⟨X,j,none⟩:=fun j=>World.cell?_of_block hk
 have hf:∀ j,w'.frozen? ⟨X,j,none⟩=w.frozen? ⟨X,j,none⟩:=fun j=>World.frozen?_of_block hk
 exact ⟨(hc 0).trans h.c0,(hf 0).trans h.f0,(hc 1).trans h.c1,(hf 1).trans h.f1,(hc 2).trans h.c2,(hf 2).trans h.f2,(hc 3).trans h.c3,(hf 3).trans h.f3,(hc 4).trans h.c4,(hf 4).trans h.f4⟩
end
end Go.Proofs.YtdkepkaflielhaaGreatDoor
