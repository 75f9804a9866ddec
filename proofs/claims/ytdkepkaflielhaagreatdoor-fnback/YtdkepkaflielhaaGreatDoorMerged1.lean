import Derived.Test.YtdkepkaflielhaaGreatDoorProg
import Derived.PlainAid
import Derived.WalkKit
import Derived.Below
import Derived.RegionTactic
import Derived.Deep.MidRow
set_option linter.unusedVariables false
set_option linter.unusedSimpArgs false
set_option maxRecDepth 100000
set_option maxHeartbeats 8000000
namespace Go.Proofs.YtdkepkaflielhaaGreatDoor
open Go.RowKit Go.PlainAid
abbrev OA:=Option Addr
abbrev BA:=ByteArray
abbrev UB:=@Bool.and_eq_true
abbrev UC:=@World.size_alloc
abbrev UD:=@decide_eq_false
abbrev UE:=@decide_eq_true
abbrev UF:=@decide_eq_true_iff
abbrev UG:=@List.not_mem_nil
abbrev UH:=@List.mem_cons
abbrev UI:=@Nat.zero_add
abbrev UJ:=@List.getElem_mem
abbrev UK:=@Int.eq_ofNat_of_zero_le
abbrev UL:=@Nat.le_trans
abbrev UM:=@List.nil_append
abbrev UN:=@List.cons_append
abbrev UO:=@Bool.false_eq_true
abbrev UP:=@Bool.true_and
abbrev UQ:=@ByteArray.size_append
abbrev UR:=@ByteArray.size_extract
abbrev US:=@World.block_lt_of_cell?
abbrev UT:=@Array.getElem?_eq_some_iff
abbrev UU:=@List.getElem?_eq_getElem
abbrev UV:=@Bool.or_eq_true
abbrev UW:=@Bool.not_true
abbrev UX:=@Nat.lt_of_lt_of_le
abbrev UY:=@List.getElem_of_mem
abbrev UZ:=@List.getElem_cons_zero
abbrev VA:=@List.mem_of_find?_eq_some
abbrev VB:=@bodyPost_ret
abbrev VC:=@Nat.zero_le
abbrev VD:=@World.cell?_alloc_mark
abbrev VE:=@List.find?_some
theorem sCl{n:Nat}{w W:World}{B:Nat}(h:Below n w W)(hb:n≤B){j:Nat}{v:Value}:Below n w (W.setCell ⟨B,j,none⟩ v):=h.setCell (p:=⟨B,j,none⟩) hb v
abbrev eS:Value:=.string ⟨#[]⟩
theorem lR{n:Nat}:n≤n:=Nat.le_refl n
theorem UA{W:World}{b o:Nat}{v0 v1 v2:Value}(h:W.rangeAt b o [v0,v1,v2]):W.cell? ⟨b,o,none⟩=some v0∧W.cell? ⟨b,o+1,none⟩=some v1∧W.cell? ⟨b,o+2,none⟩=some v2:=⟨h 0 _ rfl,h 1 _ rfl,h 2 _ rfl⟩
theorem LH{W:World}{b o:Nat}{v0 v1 v2 v3 v4:Value}(h:W.rangeAt b o [v0,v1,v2,v3,v4]):W.cell? ⟨b,o,none⟩=some v0∧W.cell? ⟨b,o+1,none⟩=some v1∧W.cell? ⟨b,o+2,none⟩=some v2∧W.cell? ⟨b,o+3,none⟩=some v3∧W.cell? ⟨b,o+4,none⟩=some v4:=⟨h 0 _ rfl,h 1 _ rfl,h 2 _ rfl,h 3 _ rfl,h 4 _ rfl⟩
theorem NE{W:World}{b o:Nat}{v0 v1 v2 v3 v4 v5 v6:Value}(h:W.rangeAt b o [v0,v1,v2,v3,v4,v5,v6]):W.cell? ⟨b,o,none⟩=some v0∧W.cell? ⟨b,o+1,none⟩=some v1∧W.cell? ⟨b,o+2,none⟩=some v2∧W.cell? ⟨b,o+3,none⟩=some v3∧W.cell? ⟨b,o+4,none⟩=some v4∧W.cell? ⟨b,o+5,none⟩=some v5∧W.cell? ⟨b,o+6,none⟩=some v6:=⟨h 0 _ rfl,h 1 _ rfl,h 2 _ rfl,h 3 _ rfl,h 4 _ rfl,h 5 _ rfl,h 6 _ rfl⟩
abbrev iV(n:Int):Value := .int .i64 n
abbrev aW(w:World)(l:List Value)(T:TypeId):World := w.alloc (.cells l.toArray T)
abbrev sW(w:World)(b j:Nat)(v:Value):World := w.setCell ⟨b,j,none⟩ v
abbrev Cb(f:FuncId)(xs:Array Value)(w:World)(v:Value):Prop := Calls Tryz.prog f xs w fun e w' =>e = .returned v ∧ Below w.heap.size w w'
abbrev Cw(f:FuncId)(xs:Array Value)(w:World)(v:Value):Prop := Calls Tryz.prog f xs w fun e w' =>e = .returned v ∧ w' = w
theorem wN{ops:Array Oper}{a:Act}{o:Oper}{A B:Prop}(hg:o.guard = none):(if Region.wanted o (yielded ops a.tmps) = true then A else B) = A := if_pos (by unfold Region.wanted;rw[hg])
abbrev bK:List Value := [.slice none 0 0,.slice none 0 0,iV 0,iV 0,.bool false,.bool false,iV 0,iV 0,iV 0,eS,eS,eS,eS,iV 0,iV 0,iV 0,iV 0,eS,eS,.bool false,.bool false,iV 0,iV 0,eS,iV 0]
abbrev pF:List Value := [.slice none 0 0,iV 0,iV 0,iV 0,iV 0,iV 0,iV 0,iV 0,iV 0,iV 0,.slice none 0 0,.slice none 0 0,.map none,.map none]
abbrev gU:List Value := [.slice none 0 0,.slice none 0 0,iV 0,eS,iV 0,eS,iV 0,iV 0]
abbrev jU:List Value := [.slice none 0 0,iV 0,iV 0,iV 0,iV 0,iV 0,iV 0,iV 0,iV 0,iV 0]
theorem bR{n:Nat}{w:World}:Below n w w := Below.refl n w
abbrev gT(a:Int)(b:BA)(c:Int):List Value := [iV a,.string b,iV c]
abbrev eP(a b:Int)(c d:Bool)(e f g:Int)(h i j k:BA):List Value := [iV a,iV b,.bool c,.bool d,iV e,iV f,iV g,.string h,.string i,.string j,.string k]
abbrev eH(a:Int)(b:Bool)(c:BA)(d:Int)(e:BA)(f g:Int):List Value := [iV a,.bool b,.string c,iV d,.string e,iV f,iV g]
abbrev cR(a:Int)(b c:BA)(d e:Int):List Value := [iV a,.string b,.string c,iV d,iV e]
abbrev sA(a:Int)(b:BA)(c:Int)(d:BA)(e f g:Int):List Value := [iV a,.string b,iV c,.string d,iV e,iV f,iV g]
abbrev gB(a:Int)(b:BA)(c:Int)(d:BA)(e:Int):List Value := [iV a,.string b,iV c,.string d,iV e]
theorem cM{α:Type}{a0:α}{l:List α}:a0 ∈ a0 :: l := .head _
theorem dZ{α:Type}{a0 a1:α}{l:List α}:a1 ∈ a0 :: a1 :: l := .tail _ (.head _)
theorem eL{α:Type}{a0 a1 a2:α}{l:List α}:a2 ∈ a0 :: a1 :: a2 :: l := .tail _ (.tail _ (.head _))
theorem iF{α:Type}{a0 a1 a2 a3:α}{l:List α}:a3 ∈ a0 :: a1 :: a2 :: a3 :: l := .tail _ (.tail _ (.tail _ (.head _)))
theorem nH{α:Type}{a0 a1 a2 a3 a4:α}{l:List α}:a4 ∈ a0 :: a1 :: a2 :: a3 :: a4 :: l := .tail _ (.tail _ (.tail _ (.tail _ (.head _))))
theorem CD{α:Type}{a0 a1 a2 a3 a4 a5:α}{l:List α}:a5 ∈ a0 :: a1 :: a2 :: a3 :: a4 :: a5 :: l := .tail _ (.tail _ (.tail _ (.tail _ (.tail _ (.head _)))))
theorem QV{α:Type}{a0 a1 a2 a3 a4 a5 a6:α}{l:List α}:a6 ∈ a0 :: a1 :: a2 :: a3 :: a4 :: a5 :: a6 :: l := .tail _ (.tail _ (.tail _ (.tail _ (.tail _ (.tail _ (.head _))))))
theorem TN{α:Type}{a0 a1 a2 a3 a4 a5 a6 a7:α}{l:List α}:a7 ∈ a0 :: a1 :: a2 :: a3 :: a4 :: a5 :: a6 :: a7 :: l := .tail _ (.tail _ (.tail _ (.tail _ (.tail _ (.tail _ (.tail _ (.head _)))))))
end Go.Proofs.YtdkepkaflielhaaGreatDoor
