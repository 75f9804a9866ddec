import Derived.Test.YtdkepkaflielhaaGreatDoorProg
import Derived.WalkKit
import Derived.Below
import Derived.RegionTactic
import Derived.Deep.MidRow
set_option linter.unusedVariables false
set_option linter.unusedSimpArgs false
set_option maxRecDepth 100000
set_option maxHeartbeats 8000000
namespace Go.Proofs.YtdkepkaflielhaaGreatDoor
open Go.RowKit
abbrev eS:Value:=.string ⟨#[]⟩
theorem lR {n:Nat}:n≤n:=Nat.le_refl n
theorem rc3 {W:World} {b o:Nat} {v0 v1 v2:Value} (h:W.rangeAt b o [v0,v1,v2]):W.cell? ⟨b,o,none⟩=some v0∧W.cell? ⟨b,o+1,none⟩=some v1∧W.cell? ⟨b,o+2,none⟩=some v2:=⟨h 0 _ rfl,h 1 _ rfl,h 2 _ rfl⟩
theorem rc5 {W:World} {b o:Nat} {v0 v1 v2 v3 v4:Value} (h:W.rangeAt b o [v0,v1,v2,v3,v4]):W.cell? ⟨b,o,none⟩=some v0∧W.cell? ⟨b,o+1,none⟩=some v1∧W.cell? ⟨b,o+2,none⟩=some v2∧W.cell? ⟨b,o+3,none⟩=some v3∧W.cell? ⟨b,o+4,none⟩=some v4:=⟨h 0 _ rfl,h 1 _ rfl,h 2 _ rfl,h 3 _ rfl,h 4 _ rfl⟩
theorem rc7 {W:World} {b o:Nat} {v0 v1 v2 v3 v4 v5 v6:Value} (h:W.rangeAt b o [v0,v1,v2,v3,v4,v5,v6]):W.cell? ⟨b,o,none⟩=some v0∧W.cell? ⟨b,o+1,none⟩=some v1∧W.cell? ⟨b,o+2,none⟩=some v2∧W.cell? ⟨b,o+3,none⟩=some v3∧W.cell? ⟨b,o+4,none⟩=some v4∧W.cell? ⟨b,o+5,none⟩=some v5∧W.cell? ⟨b,o+6,none⟩=some v6:=⟨h 0 _ rfl,h 1 _ rfl,h 2 _ rfl,h 3 _ rfl,h 4 _ rfl,h 5 _ rfl,h 6 _ rfl⟩
abbrev iV (n : Int) : Value := .int .i64 n
abbrev aW (w : World) (l : List Value) (T : TypeId) : World := w.alloc (.cells l.toArray T)
abbrev sW (w : World) (b j : Nat) (v : Value) : World := w.setCell ⟨b, j, none⟩ v
abbrev Cb (f : FuncId) (xs : Array Value) (w : World) (v : Value) : Prop := Calls Tryz.prog f xs w fun e w' => e = .returned v ∧ Below w.heap.size w w'
abbrev Cw (f : FuncId) (xs : Array Value) (w : World) (v : Value) : Prop := Calls Tryz.prog f xs w fun e w' => e = .returned v ∧ w' = w
theorem wN {ops : Array Oper} {a : Act} {o : Oper} {A B : Prop} (hg : o.guard = none) : (if Region.wanted o (yielded ops a.tmps) = true then A else B) = A := if_pos (by unfold Region.wanted; rw [hg])
abbrev Z25V : List Value := [.slice none 0 0,.slice none 0 0,iV 0,iV 0,.bool false,.bool false,iV 0,iV 0,iV 0,eS,eS,eS,eS,iV 0,iV 0,iV 0,iV 0,eS,eS,.bool false,.bool false,iV 0,iV 0,eS,iV 0]
abbrev Z14V : List Value := [.slice none 0 0,iV 0,iV 0,iV 0,iV 0,iV 0,iV 0,iV 0,iV 0,iV 0,.slice none 0 0,.slice none 0 0,.map none,.map none]
abbrev Z8V : List Value := [.slice none 0 0,.slice none 0 0,iV 0,eS,iV 0,eS,iV 0,iV 0]
abbrev Z10V : List Value := [.slice none 0 0,iV 0,iV 0,iV 0,iV 0,iV 0,iV 0,iV 0,iV 0,iV 0]
theorem bR {n : Nat} {w : World} : Below n w w := Below.refl n w
abbrev EnV (a : Int) (b : ByteArray) (c : Int) : List Value := [iV a,.string b,iV c]
abbrev P4R (a b : Int) (c d : Bool) (e f g : Int) (h i j k : ByteArray) : List Value := [iV a,iV b,.bool c,.bool d,iV e,iV f,iV g,.string h,.string i,.string j,.string k]
abbrev TcR (a : Int) (b : Bool) (c : ByteArray) (d : Int) (e : ByteArray) (f g : Int) : List Value := [iV a,.bool b,.string c,iV d,.string e,iV f,iV g]
abbrev FlR (a : Int) (b c : ByteArray) (d e : Int) : List Value := [iV a,.string b,.string c,iV d,iV e]
abbrev SsR (a : Int) (b : ByteArray) (c : Int) (d : ByteArray) (e f g : Int) : List Value := [iV a,.string b,iV c,.string d,iV e,iV f,iV g]
abbrev BdR (a : Int) (b : ByteArray) (c : Int) (d : ByteArray) (e : Int) : List Value := [iV a,.string b,iV c,.string d,iV e]
theorem mE0 {α : Type} {a0 : α} {l : List α} : a0 ∈ a0 :: l := .head _
theorem mE1 {α : Type} {a0 a1 : α} {l : List α} : a1 ∈ a0 :: a1 :: l := .tail _ (.head _)
theorem mE2 {α : Type} {a0 a1 a2 : α} {l : List α} : a2 ∈ a0 :: a1 :: a2 :: l := .tail _ (.tail _ (.head _))
theorem mE3 {α : Type} {a0 a1 a2 a3 : α} {l : List α} : a3 ∈ a0 :: a1 :: a2 :: a3 :: l := .tail _ (.tail _ (.tail _ (.head _)))
theorem mE4 {α : Type} {a0 a1 a2 a3 a4 : α} {l : List α} : a4 ∈ a0 :: a1 :: a2 :: a3 :: a4 :: l := .tail _ (.tail _ (.tail _ (.tail _ (.head _))))
theorem mE5 {α : Type} {a0 a1 a2 a3 a4 a5 : α} {l : List α} : a5 ∈ a0 :: a1 :: a2 :: a3 :: a4 :: a5 :: l := .tail _ (.tail _ (.tail _ (.tail _ (.tail _ (.head _)))))
theorem mE6 {α : Type} {a0 a1 a2 a3 a4 a5 a6 : α} {l : List α} : a6 ∈ a0 :: a1 :: a2 :: a3 :: a4 :: a5 :: a6 :: l := .tail _ (.tail _ (.tail _ (.tail _ (.tail _ (.tail _ (.head _))))))
theorem mE7 {α : Type} {a0 a1 a2 a3 a4 a5 a6 a7 : α} {l : List α} : a7 ∈ a0 :: a1 :: a2 :: a3 :: a4 :: a5 :: a6 :: a7 :: l := .tail _ (.tail _ (.tail _ (.tail _ (.tail _ (.tail _ (.tail _ (.head _)))))))
end Go.Proofs.YtdkepkaflielhaaGreatDoor
