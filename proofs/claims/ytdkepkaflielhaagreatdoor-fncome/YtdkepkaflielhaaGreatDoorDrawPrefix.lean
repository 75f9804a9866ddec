import Derived.Test.YtdkepkaflielhaaGreatDoorSz
import Derived.Test.YtdkepkaflielhaaGreatDoorAb
import Derived.Test.YtdkepkaflielhaaGreatDoorDrState
import Derived.Test.YtdkepkaflielhaaGreatDoorEmbed
set_option linter.unusedVariables false
set_option linter.unusedSimpArgs false
set_option maxRecDepth 100000
set_option maxHeartbeats 8000000
namespace Go.Proofs.YtdkepkaflielhaaGreatDoor
open Go.RowKit Go.PlainAid
def In64 (r:Int):Prop:=-9223372036854775808≤r∧r≤9223372036854775807
theorem drawEdge_any (B:Nat) (a:Option Addr) (len cap:Nat) (size:Int) (w:World) (hl:len≤1048576) (hs:Src w B a len cap size) :
  Calls Tryz.prog 56 #[.pointer (some ⟨B,0,none⟩)] w fun e w'=>∃ r,e=.returned (iV r)∧In64 r∧Src w' B a len cap size∧w.grownBy w' (some B):=by
 have hB:B < w.z:=by obtain ⟨_,_,_,h⟩:=hs; exact World.block_lt_of_cell? w _ h.cb
 have HS:Hid (Src w B a len cap size):=hs;clear hs;go_enter Tryz.func56,Tryz.ntmps56
 go_wp2_with fail
 refine (drawN_more 14 B a len cap size _ (by omega) (by omega) hl (HS.out.kept (World.grownBy_alloc _ _ none) (by simp))).mono ?_;rintro e w1 ⟨q,rfl,q0,q1,hs1,hg1⟩;obtain ⟨k,rfl⟩:=Int.eq_ofNat_of_zero_le q0;have hc:∃ r,w1.cell? ⟨w.z,k,none⟩=some (iV r)∧In64 r:=by
  have hk:k < 14:=by omega
  match k,hk with
  | 0,_=>exact ⟨_,hg1.cell ((World.cell?_alloc_mark w _ _ _ 0).trans rfl) (by simp; omega),by unfold In64; omega⟩
  | 1,_=>exact ⟨_,hg1.cell ((World.cell?_alloc_mark w _ _ _ 1).trans rfl) (by simp; omega),by unfold In64; omega⟩
  | 2,_=>exact ⟨_,hg1.cell ((World.cell?_alloc_mark w _ _ _ 2).trans rfl) (by simp; omega),by unfold In64; omega⟩
  | 3,_=>exact ⟨_,hg1.cell ((World.cell?_alloc_mark w _ _ _ 3).trans rfl) (by simp; omega),by unfold In64; omega⟩
  | 4,_=>exact ⟨_,hg1.cell ((World.cell?_alloc_mark w _ _ _ 4).trans rfl) (by simp; omega),by unfold In64; omega⟩
  | 5,_=>exact ⟨_,hg1.cell ((World.cell?_alloc_mark w _ _ _ 5).trans rfl) (by simp; omega),by unfold In64; omega⟩
  | 6,_=>exact ⟨_,hg1.cell ((World.cell?_alloc_mark w _ _ _ 6).trans rfl) (by simp; omega),by unfold In64; omega⟩
  | 7,_=>exact ⟨_,hg1.cell ((World.cell?_alloc_mark w _ _ _ 7).trans rfl) (by simp; omega),by unfold In64; omega⟩
  | 8,_=>exact ⟨_,hg1.cell ((World.cell?_alloc_mark w _ _ _ 8).trans rfl) (by simp; omega),by unfold In64; omega⟩
  | 9,_=>exact ⟨_,hg1.cell ((World.cell?_alloc_mark w _ _ _ 9).trans rfl) (by simp; omega),by unfold In64; omega⟩
  | 10,_=>exact ⟨_,hg1.cell ((World.cell?_alloc_mark w _ _ _ 10).trans rfl) (by simp; omega),by unfold In64; omega⟩
  | 11,_=>exact ⟨_,hg1.cell ((World.cell?_alloc_mark w _ _ _ 11).trans rfl) (by simp; omega),by unfold In64; omega⟩
  | 12,_=>exact ⟨_,hg1.cell ((World.cell?_alloc_mark w _ _ _ 12).trans rfl) (by simp; omega),by unfold In64; omega⟩
  | 13,_=>exact ⟨_,hg1.cell ((World.cell?_alloc_mark w _ _ _ 13).trans rfl) (by simp; omega),by unfold In64; omega⟩
 obtain ⟨r,hc,hr⟩:=hc;have H1:Hid (In64 r∧Src w1 B a len cap size∧w.grownBy w1 (some B)):=⟨hr,hs1,grown_trans (World.grownBy_alloc _ _ _) hg1⟩;clear hr hs1 hg1;go_wp2
 go_ret;exact ⟨r,rfl,H1.out.1,H1.out.2.1,H1.out.2.2⟩
structure BoxP (w:World) (P:Nat) (s:ByteArray) (b:Int):Prop where
 c0:w.cell? ⟨P,0,none⟩=some (.string s)
 c1:w.cell? ⟨P,1,none⟩=some (iV b)
 f0:w.frozen? ⟨P,0,none⟩=false
 f1:w.frozen? ⟨P,1,none⟩=false
section
variable {w wx wy:World} {B P:Nat} {s:ByteArray} {b:Int} {a:Option Addr} {len cap:Nat} {size:Int}
end
end Go.Proofs.YtdkepkaflielhaaGreatDoor
