import Derived.Test.YtdkepkaflielhaaGreatDoorAb
import Derived.Test.YtdkepkaflielhaaGreatDoorAdd
import Derived.Test.YtdkepkaflielhaaGreatDoorLawV4
import Derived.Test.YtdkepkaflielhaaGreatDoorGrow
import Derived.Test.YtdkepkaflielhaaGreatDoorICur
import Derived.Lib.AppendStr
set_option linter.unusedVariables false
set_option linter.unusedSimpArgs false
set_option maxRecDepth 100000
set_option maxHeartbeats 8000000
namespace Go.Proofs.YtdkepkaflielhaaGreatDoor
open Go.RowKit Go.PlainAid Go.Lib
theorem strCells_append (a b:ByteArray):strCells (a++b)=strCells a++strCells b:=by
 unfold strCells; rw [ByteArray.data_append]; simp
theorem strCells_two (n:Int) (h0:0≤n) (h1:n≤65535):strCells (twoV n)=[.int .u8 (n / 256),.int .u8 (n % 256)]:=by
 have e1:=u8_ofNat (n / 256) (by omega) (by omega);have e2:=u8_ofNat (n % 256) (by omega) (by omega);simp only [strCells,twoV,twoL,List.map_cons,List.map_nil,e1,e2]
theorem strCells_at (s:ByteArray) (i:Nat) (h:i < s.size):(strCells s)[i]?=some (.int .u8 (bt s i)):=by
 have h':i < s.data.toList.length:=by rw [Array.length_toList]; exact h
 unfold strCells;rw [List.getElem?_map,List.getElem?_eq_getElem h',Option.map_some,bt_list h']
def IsWords (ws:List Int):Value→World→Prop:=fun v w=>∃ b,v=.slice (some ⟨b,0,none⟩) ws.length ws.length∧b < w.heap.size∧∀ k,k < ws.length→w.cell? ⟨b,k,none⟩=some (iV (ws.getD k 0))
theorem stable_isWords (ws:List Int):Stable (IsWords ws):=fun v w w' ⟨b,h1,h2,h3⟩ hb=>⟨b,h1,Nat.lt_of_lt_of_le h2 hb.size,fun k hk=>((bcell hb).1 b k h2).trans (h3 k hk)⟩
theorem owns_kept {w W:World} {base e n:Nat} {v:Value} {xs:List Value} (h:w.ownsRow base e 1 v n xs) (hB:Below w.heap.size w W):W.ownsRow base e 1 v n xs:=by
 obtain ⟨h1,h2⟩:=h;refine ⟨h1,?_⟩;rcases h2 with h2 | ⟨g,cap,cur,q1,q2,q3,q4⟩
 ·exact .inl h2
 ·exact .inr ⟨g,cap,cur,q1,q2,by rw [hB.block g (Array.getElem?_eq_some_iff.1 q3).1]; exact q3,q4⟩
theorem owns_base {w:World} {base base' e n:Nat} {v:Value} {xs:List Value} (h:w.ownsRow base e 1 v n xs) (hB:base'≤base):w.ownsRow base' e 1 v n xs:=by
 obtain ⟨h1,h2⟩:=h;refine ⟨h1,?_⟩;rcases h2 with h2 | ⟨g,cap,cur,q1,q2,q3,q4⟩
 ·exact .inl h2
 ·exact .inr ⟨g,cap,cur,q1,Nat.le_trans hB q2,q3,q4⟩
def IsOwn (base e n:Nat) (xs:List Value):Value→World→Prop:=fun v w=>∃ g,v=.slice (some ⟨g,0,none⟩) n n∧w.ownsRow base e 1 v n xs
theorem stable_isOwn (base e n:Nat) (xs:List Value):Stable (IsOwn base e n xs):=fun v w w' ⟨g,h1,h2⟩ hb=>⟨g,h1,owns_kept h2 hb⟩
end Go.Proofs.YtdkepkaflielhaaGreatDoor
