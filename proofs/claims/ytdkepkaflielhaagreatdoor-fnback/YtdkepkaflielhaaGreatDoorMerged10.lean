import Derived.Test.YtdkepkaflielhaaGreatDoorMerged7
import Derived.Lib.AppendStr
import Derived.Laws.IdiomCopy
import Derived.Deep.OwnRows
import Derived.Lib.BufferWrite
import Derived.Test.YtdkepkaflielhaaGreatDoorMerged8
import Derived.Great.BuildSlice
import Derived.Test.YtdkepkaflielhaaGreatDoorMerged3
set_option linter.unusedVariables false
set_option linter.unusedSimpArgs false
set_option maxRecDepth 100000
set_option maxHeartbeats 8000000
namespace Go.Proofs.YtdkepkaflielhaaGreatDoor
open Go.RowKit Go.PlainAid Go.Lib
theorem gA(a b:BA):strCells (a++b)=strCells a++strCells b:=by
 unfold strCells;rw[ByteArray.data_append];simp
theorem mK(n:Int)(h0:0≤n)(h1:n≤65535):strCells (aR n)=[.int .u8 (n / 256),.int .u8 (n % 256)]:=by
 have e1:=fM (n / 256) (by omega) (by omega);have e2:=fM (n % 256) (by omega) (by omega);simp only[strCells,aR,IM,List.map_cons,List.map_nil,e1,e2]
theorem uU(s:BA)(i:Nat)(h:i < s.size):(strCells s)[i]?=some (.int .u8 (bt s i)):=by
 have h':i < s.data.toList.length:=by rw[Array.length_toList];exact h
 unfold strCells;rw[List.getElem?_map,UU h',Option.map_some,OO h']
def oG(ws:List Int):Value→World→Prop:=fun v w=>∃b,v=.slice (some ⟨b,0,none⟩) ws.length ws.length∧b < w.heap.size∧∀k,k < ws.length→w.cell? ⟨b,k,none⟩=some (iV (ws.getD k 0))
theorem qI(ws:List Int):eZ (oG ws):=fun v w w' ⟨b,h1,h2,h3⟩ hb=>⟨b,h1,UX h2 hb.size,fun k hk=>((iO hb).1 b k h2).trans (h3 k hk)⟩
theorem KN{w W:World}{base e n:Nat}{v:Value}{xs:List Value}(h:w.ownsRow base e 1 v n xs)(hB:Below w.heap.size w W):W.ownsRow base e 1 v n xs:=by
 obtain⟨h1,h2⟩:=h;refine⟨h1,?_⟩;rcases h2 with h2|⟨g,cap,cur,q1,q2,q3,q4⟩
 ·exact .inl h2
 ·exact .inr ⟨g,cap,cur,q1,q2,by rw[hB.block g (UT.1 q3).1];exact q3,q4⟩
theorem zC{w:World}{base base' e n:Nat}{v:Value}{xs:List Value}(h:w.ownsRow base e 1 v n xs)(hB:base'≤base):w.ownsRow base' e 1 v n xs:=by
 obtain⟨h1,h2⟩:=h;refine⟨h1,?_⟩;rcases h2 with h2|⟨g,cap,cur,q1,q2,q3,q4⟩
 ·exact .inl h2
 ·exact .inr ⟨g,cap,cur,q1,UL hB q2,q3,q4⟩
def CG(base e n:Nat)(xs:List Value):Value→World→Prop:=fun v w=>∃g,v=.slice (some ⟨g,0,none⟩) n n∧w.ownsRow base e 1 v n xs
theorem sY(base e n:Nat)(xs:List Value):eZ (CG base e n xs):=fun v w w' ⟨g,h1,h2⟩ hb=>⟨g,h1,KN h2 hb⟩
def zs(n:Nat):BA:=⟨Array.replicate n 0⟩
theorem QT{w:World}{g o:Nat}{A Z B s:BA}(h:aA w g (strCells (A++Z++B)))(hA:A.size=o)(hZ:Z.size=s.size):aA (w.setCells g o (strCells s)) g (strCells (A++s++B)):=by
 have hl:(strCells (A++Z++B)).length=o+s.size+B.size:=by rw[strCells_length];simp only[UQ];omega
 have:=h.setRange o (strCells s) (by rw[hl,strCells_length];omega);rw[strCells_length]at this;rw[gA,gA]at this ⊢;rw[List.append_assoc (strCells A),List.take_left' (by rw[strCells_length];exact hA),←List.append_assoc,List.drop_left' (by rw[List.length_append,strCells_length,strCells_length];omega)]at this;exact this
theorem mS{w W:World}{B g:Nat}(h:Below B w W)(hg:B≤g):∀(cs:List Value) (o:Nat),Below B w (W.setCells g o cs)
 | [],o=>h
 | c::cs,o=>by rw[World.setCells];exact mS (h.setCell (p:=⟨g,o,none⟩) hg c) hg cs (o+1)
theorem dD.cells{w wx:World}{ks:List (Nat × List Value)}(h:dD w ks wx){g:Nat}(hne:∀e∈ks,e.1≠g)(hg:w.heap.size≤g){o:Nat}{cs:List Value}:dD w ks (wx.setCells g o cs) :=
 ⟨fun e he=>(h.k e he).setCellsOther (hne e he) cs,mS h.b hg cs o,h.z⟩
theorem IZ{w:World}{g:Nat}{t:BA}(h:aA w g (strCells t))(i:Nat)(hi:i < t.size):w.cell? ⟨g,i,none⟩=some (.int .u8 (bt t i)):=h.cell (uU t i hi)
section
variable {w W:World} {B o:Nat} {xs ys:List Value}
end
section
variable {w W:World} {n E:Nat} {mv:Value} {ms:List Rt}
end
structure TZ(w:World)(m X:Nat)(cs zs:List Value)(mv:Value)(wx:World):Prop where
 x:aA wx X cs
 z:aA wx (w.heap.size+1) zs
 c:wx.cell? ⟨w.heap.size,m,none⟩=some mv
 b:Below w.heap.size w wx
 le:w.heap.size+1+1≤X
section
variable {w wx wy:World} {m X:Nat} {cs zs:List Value} {mv:Value}
end
theorem uX{P:Program}{Q:Exit→Act→World→Prop}{op:Oper}{a:Act}{w:World}(ty:TypeId)(x y:Operand)(ho:op.op=.store ty x y)(b o:Nat)(cells:Array Value)(hx:a.eval x=.pointer (some ⟨b,o,none⟩))(hy:a.eval y=.agg cells)
  (ht:w.there b o cells.size) (hi:(P.info? ty).map (·.size)=some cells.size) (h1:cells.all (·.oneCell')=true) (h:Q .normal (a.put op.dst undef) (w.setCells b o cells.toList)):fN P Q [op] a w :=
 fun K' hK=>wp_store_mid ty x y ho b o cells hx hy ht hi h1 (hK _ _ h)
end Go.Proofs.YtdkepkaflielhaaGreatDoor
