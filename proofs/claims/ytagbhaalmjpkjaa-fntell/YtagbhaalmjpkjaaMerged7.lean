import Derived.Test.YtagbhaalmjpkjaaMerged1
import Derived.Test.YtagbhaalmjpkjaaHoldL
import Derived.Test.YtagbhaalmjpkjaaMerged4
import Derived.Test.YtagbhaalmjpkjaaDrawFlow
import Derived.Test.YtagbhaalmjpkjaaMerged6
import Derived.Deep.DeepCutAuto
import Derived.Great.BuildSlice
import Derived.RegionTactic
import Derived.BigQuiet
import Derived.Deep.QuietTactic
import Derived.Laws.IdiomStrings
import Derived.Deep.RegionHeld
set_option linter.unusedVariables false
set_option linter.unusedSimpArgs false
set_option maxRecDepth 100000
set_option maxHeartbeats 8000000
namespace Go.Proofs.Ytagbhaalmjpkjaa
open Go.RowKit Go.PlainAid
def bkL (b:Bk):List Value:=[.int .i64 b.left,.int .i64 b.most,.int .i64 b.each,.int .i64 b.since]
def bkZ:List Value:=[.int .i64 0,.int .i64 0,.int .i64 0,.int .i64 0]
theorem pickBk {w w1:World} {B k:Nat} (xs:List Int) {t:TypeId} (hg:(w.alloc (.cells (xs.map (fun x=>Value.int .i64 x)).toArray t)).grownBy w1 (some B)) (hB:B < w.heap.size) (hk:k < xs.length):∃ r,w1.cell? ⟨w.heap.size,k,none⟩=some (.int .i64 r)∧r∈xs :=
 ⟨xs[k],hg.cell (cell_new (by simp [hk])) (by simp; omega),List.getElem_mem hk⟩
structure BkS (w:World) (B:Nat) (sa:Option Addr) (len cap:Nat) (size:Int) (PX:Nat) (b:Bk) (wx:World):Prop where
 dr:Dr w B sa len cap size wx
 out:HoldsL wx w.heap.size bkZ
 box:HoldsL wx PX (bkL b)
 hX:w.heap.size < PX
theorem BkS.below {w wx wy:World} {B len cap PX:Nat} {sa:Option Addr} {size:Int} {b:Bk} (h:BkS w B sa len cap size PX b wx) (hb:Below wx.heap.size wx wy):BkS w B sa len cap size PX b wy :=
 ⟨h.dr.below hb,h.out.kept (by simp [bkZ]) hb,h.box.kept (by simp [bkL]) hb,h.hX⟩
theorem BkS.draw {w wx wy:World} {B len cap PX:Nat} {sa:Option Addr} {size:Int} {b:Bk} (h:BkS w B sa len cap size PX b wx) (hs:Src wy B sa len cap size) (hg:wx.grownBy wy (some B)):BkS w B sa len cap size PX b wy:=by
 have hB:=h.dr.hB;have hX:=h.hX;exact ⟨h.dr.draw hs hg,h.out.grown (by simp [bkZ]) hg (by simp; omega),h.box.grown (by simp [bkL]) hg (by simp; omega),h.hX⟩
theorem BkS.set {w wx:World} {B len cap PX:Nat} {sa:Option Addr} {size:Int} {b:Bk} (h:BkS w B sa len cap size PX b wx) (j:Nat) (v:Value) (b':Bk) (hv:(bkL b).set j v=bkL b'):BkS w B sa len cap size PX b' (wx.setCell ⟨PX,j,none⟩ v) :=
 ⟨h.dr.set PX j v (by have:=h.hX; omega),h.out.setOther (by have:=h.hX; omega) _,by have:=h.box.set j v; rwa [hv] at this,h.hX⟩
def bytesOf (n:Nat) (f:Nat→Int):ByteArray:=⟨((List.range n).map fun i=>UInt8.ofNat (f i).toNat).toArray⟩
theorem ba_ext {a b:ByteArray} (hs:a.size=b.size) (h:∀ i,i < a.size→bt a i=bt b i):a=b:=by
 apply ByteArray.ext;apply Array.ext
 ·exact hs
 ·intro i h1 h2;have hi:=h i h1;unfold bt at hi;rw [dif_pos (show i < a.size from h1),dif_pos (show i < b.size from h2),ByteArray.getElem_eq_getElem_data,ByteArray.getElem_eq_getElem_data] at hi;exact UInt8.toNat_inj.1 (by exact_mod_cast hi)
structure Holds (w:World) (B n:Nat) (f:Nat→Int):Prop where
 get:∀ i,i < n→w.cell? ⟨B,i,none⟩=some (.int .u8 (f i))∧w.frozen? ⟨B,i,none⟩=false
theorem Holds.set {w:World} {B n:Nat} {f:Nat→Int} (h:Holds w B n f) (j:Nat) (hj:j < n) (x:Int):Holds (w.setCell ⟨B,j,none⟩ (.int .u8 x)) B n (fun i=>if i=j then x else f i):=by
 refine ⟨fun i hi=>⟨?_,by rw [World.frozen?_setCell]; exact (h.get i hi).2⟩⟩;by_cases e:i=j
 ·subst e; show _=some (Value.int .u8 (if i=i then x else f i)); rw [if_pos rfl]; exact World.cell?_setCell_same _ _ _ (h.get i hi).1
 ·show _=some (Value.int .u8 (if i=j then x else f i)); rw [if_neg e,World.cell?_setCell_other _ _ _ _ (fun e2=>e (by injection e2 with _ h2; exact h2.symm))]; exact (h.get i hi).1
theorem Holds.conv {w:World} {B n cap:Nat} {f:Nat→Int} (h:Holds w B n f) (hf:isByte f) :
  (convert 22 9 (.slice (some ⟨B,0,none⟩) n cap)).run Try.prog w=.ok (.string (bytesOf n f)) w:=by
 have hl:((List.range n).map fun i=>UInt8.ofNat (f i).toNat).length=n:=by simp
 have:=run_convert_bytes_back (P:=Try.prog) w 22 9 5 ⟨B,0,none⟩ cap ((List.range n).map fun i=>UInt8.ofNat (f i).toNat) Try.underlying22 Try.underlying5 Try.underlying9 (by
  intro j hj;have hj':j < n:=by simpa using hj
  have ha:Addr.add ⟨B,0,none⟩ j=⟨B,j,none⟩:=by simp only [Addr.add,Nat.zero_add]; split<;>simp_all
  rw [ha,(h.get j hj').1];have:=hf j;simp only [List.getElem_map,List.getElem_range,UInt8.toNat_ofNat'];congr 2; omega)
 rw [hl] at this;exact this
structure BoxP (w:World) (P:Nat) (s:ByteArray) (b:Int):Prop where
 c0:w.cell? ⟨P,0,none⟩=some (.string s)
 c1:w.cell? ⟨P,1,none⟩=some (.int .i64 b)
 f0:w.frozen? ⟨P,0,none⟩=false
 f1:w.frozen? ⟨P,1,none⟩=false
section
variable {w wx wy:World} {B P:Nat} {s:ByteArray} {b:Int} {a:Option Addr} {len cap:Nat} {size:Int}
theorem BoxP.new (w:World) (s:ByteArray) (b:Int) (t:TypeId):BoxP (w.alloc (.cells #[.string s,.int .i64 b] t)) w.heap.size s b:=⟨by simp,by simp,by simp,by simp⟩
theorem BoxP.lt (h:BoxP w P s b):P < w.heap.size:=World.block_lt_of_cell? w _ h.c0
theorem BoxP.kept {row:Option Nat} (h:BoxP wx P s b) (hg:wx.grownBy wy row) (hr:some P≠row):BoxP wy P s b :=
 have hb:=hg.block P h.lt hr;⟨hg.cell h.c0 hr,hg.cell h.c1 hr,(World.frozen?_of_block (a:=⟨P,0,none⟩) hb).trans h.f0,(World.frozen?_of_block (a:=⟨P,1,none⟩) hb).trans h.f1⟩
theorem BoxP.set0 (h:BoxP wx P s b) (u:ByteArray):BoxP (wx.setCell ⟨P,0,none⟩ (.string u)) P u b :=
 ⟨World.cell?_setCell_same _ _ _ h.c0,(World.cell?_setCell_other _ _ _ _ (by simp)).trans h.c1,by rw [World.frozen?_setCell]; exact h.f0,by rw [World.frozen?_setCell]; exact h.f1⟩
theorem BoxP.set1 (h:BoxP wx P s b) (n:Int):BoxP (wx.setCell ⟨P,1,none⟩ (.int .i64 n)) P s n :=
 ⟨(World.cell?_setCell_other _ _ _ _ (by simp)).trans h.c0,World.cell?_setCell_same _ _ _ h.c1,by rw [World.frozen?_setCell]; exact h.f0,by rw [World.frozen?_setCell]; exact h.f1⟩
end
theorem bel_grownK {n:Nat} {w w1 W:World} {B:Nat} (h:Below n w w1) (hg:w1.grownBy W (some B)) (hB:n≤B) (hn:n≤w1.heap.size):Below n w W :=
 ⟨hg.os.trans h.os,hg.tape.trans h.tape,hg.output.trans h.output,Nat.le_trans h.size hg.size,fun k hk=>by rw [hg.block k (by omega) (by simp; omega),h.block k hk]⟩
structure BT (w1:World) (B:Nat) (sa:Option Addr) (len cap:Nat) (size:Int) (R P:Nat) (b:Bk) (wx:World):Prop where
 dr:Dr w1 B sa len cap size wx
 r:HoldsL wx R [.int .i64 0,.int .i64 0,.int .i64 0,.int .i64 0]
 p:HoldsL wx P [.int .i64 b.left,.int .i64 b.most,.int .i64 b.each,.int .i64 b.since]
 hP:R < B∧w1.heap.size≤P
theorem BT.draw {w1 wx:World} {B:Nat} {sa:Option Addr} {len cap:Nat} {size:Int} {R P:Nat} {b:Bk} {wy:World} (h:BT w1 B sa len cap size R P b wx) (hs:Src wy B sa len cap size) (hg:wx.grownBy wy (some B)):BT w1 B sa len cap size R P b wy:=by
 have hB:=h.dr.hB;obtain ⟨h1,h2⟩:=h.hP;exact ⟨h.dr.draw hs hg,h.r.grown (by simp) hg (by simp; omega),h.p.grown (by simp) hg (by simp; omega),h1,h2⟩
theorem BT.below {w1 wx:World} {B:Nat} {sa:Option Addr} {len cap:Nat} {size:Int} {R P:Nat} {b:Bk} {wy:World} (h:BT w1 B sa len cap size R P b wx) (hb:Below wx.heap.size wx wy):BT w1 B sa len cap size R P b wy :=
 ⟨h.dr.below hb,h.r.kept (by simp) hb,h.p.kept (by simp) hb,h.hP⟩
end Go.Proofs.Ytagbhaalmjpkjaa
