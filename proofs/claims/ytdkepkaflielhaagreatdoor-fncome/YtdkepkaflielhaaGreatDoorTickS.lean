import Derived.Test.YtdkepkaflielhaaGreatDoorAb
import Derived.Test.YtdkepkaflielhaaGreatDoorLawBib
import Derived.Test.YtdkepkaflielhaaGreatDoorOpRun
set_option linter.unusedVariables false
set_option linter.unusedSimpArgs false
set_option maxRecDepth 100000
set_option maxHeartbeats 8000000
namespace Go.Proofs.YtdkepkaflielhaaGreatDoor
open Go.RowKit Go.PlainAid
theorem ownC_cell {w:World} {base n s X j:Nat} {e:TypeId} {v u:Value} {xs:List Value} (h:w.ownsRow base e s v n xs) (hne:v.ownBlock≠some X):(w.setCell ⟨X,j,none⟩ u).ownsRow base e s v n xs:=by
 obtain ⟨h1,h2⟩:=h;refine ⟨h1,?_⟩;rcases h2 with h2 | ⟨g,cap,cur,rfl,hg,hh,h3⟩
 ·exact .inl h2
 ·exact .inr ⟨g,cap,cur,rfl,hg,(Below.heap_setCell w _ u g (fun e=>hne (by simpa [Value.ownBlock] using e))).trans hh,h3⟩
theorem ownC_in {w:World} {base n s g:Nat} {e:TypeId} {v:Value} {xs:List Value} (h:w.ownsRow base e s v n xs) (hg:v.ownBlock=some g):base≤g∧g < w.heap.size:=by
 rcases h.2 with ⟨rfl,_⟩ | ⟨g',cap,cur,rfl,hb,hh,_⟩
 ·simp [Value.ownBlock] at hg
 ·simp [Value.ownBlock] at hg; subst hg; exact ⟨hb,(Array.getElem?_eq_some_iff.1 hh).1⟩
theorem ownC_ne {w:World} {base n s:Nat} {e:TypeId} {v:Value} {xs:List Value} (h:w.ownsRow base e s v n xs) {X:Nat} (hX:X < base):v.ownBlock≠some X:=fun e=>by have:=(ownC_in h e).1; omega
theorem bdL_one (q:Bd):∀ u∈bdL q,u.oneCell'=true:=fun u hu=>by simp [bdL] at hu; rcases hu with rfl | rfl | rfl | rfl | rfl<;>rfl
theorem ssL_one (q:Ss):∀ u∈ssL q,u.oneCell'=true:=fun u hu=>by simp [ssL] at hu; rcases hu with rfl | rfl | rfl | rfl | rfl | rfl | rfl<;>rfl
theorem add_at (g i:Nat):(⟨g,0,none⟩ : Addr).add i=⟨g,i,none⟩:=by cases i<;>simp [Addr.add]
structure TickSt (w:World) (cs:List Value) (bv sv:Value) (ys:List Bd) (zs:List Ss) (wx:World):Prop where
 x:HoldsL wx w.heap.size cs
 r:HoldsL wx (w.heap.size+1) [.slice none 0 0,.slice none 0 0]
 o:HoldsL wx (w.heap.size+1+1) [bv,sv]
 bo:wx.ownsRow (w.heap.size+1+1+1) 48 5 bv ys.length (flatS bdL ys)
 so:wx.ownsRow (w.heap.size+1+1+1) 59 7 sv zs.length (flatS ssL zs)
 b:Below w.heap.size w wx
 ne:∀ g,bv.ownBlock=some g→sv.ownBlock=some g→False
section
variable {w:World} {cs:List Value} {bv sv:Value} {ys:List Bd} {zs:List Ss} {wx wy:World}
theorem below_grow {row:Option Nat} (hb:Below w.heap.size w wx) (hg:wx.grownBy wy row) (hr:∀ g,row=some g→w.heap.size≤g):Below w.heap.size w wy :=
 ⟨hg.os.trans hb.os,hg.tape.trans hb.tape,hg.output.trans hb.output,Nat.le_trans hb.size hg.size,fun k hk=>by
  rw [hg.block k (Nat.lt_of_lt_of_le hk hb.size) (fun e=>by have:=hr k e.symm; omega)]; exact hb.block k hk⟩
end
end Go.Proofs.YtdkepkaflielhaaGreatDoor
