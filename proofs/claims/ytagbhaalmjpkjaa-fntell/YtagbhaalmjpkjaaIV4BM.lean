import Derived.Test.YtagbhaalmjpkjaaMerged3
import Derived.Test.YtagbhaalmjpkjaaMerged5
import Derived.Test.YtagbhaalmjpkjaaGrow
import Derived.Test.YtagbhaalmjpkjaaICur
import Derived.Lib.AppendStr
set_option linter.unusedVariables false
set_option linter.unusedSimpArgs false
set_option maxRecDepth 100000
set_option maxHeartbeats 8000000
namespace Go.Proofs.Ytagbhaalmjpkjaa
open Go.RowKit Go.PlainAid Go.Lib
theorem strCells_append (a b:ByteArray):strCells (a++b)=strCells a++strCells b:=by
 unfold strCells; rw [ByteArray.data_append]; simp
theorem strCells_two (n:Int) (h0:0≤n) (h1:n≤65535):strCells (twoV n)=[.int .u8 (n / 256),.int .u8 (n % 256)]:=by
 have e1:=u8_ofNat (n / 256) (by omega) (by omega);have e2:=u8_ofNat (n % 256) (by omega) (by omega);simp only [strCells,twoV,twoL,List.map_cons,List.map_nil,e1,e2]
theorem strCells_pair (x y:Int) (hx:0≤x∧x≤255) (hy:0≤y∧y≤255):strCells (pairV x y)=[.int .u8 x,.int .u8 y]:=by
 have e1:=u8_ofNat x hx.1 hx.2;have e2:=u8_ofNat y hy.1 hy.2;simp only [strCells,pairV,List.map_cons,List.map_nil,e1,e2]
theorem strCells_at (s:ByteArray) (i:Nat) (h:i < s.size):(strCells s)[i]?=some (.int .u8 (bt s i)):=by
 have h':i < s.data.toList.length:=by rw [Array.length_toList]; exact h
 unfold strCells;rw [List.getElem?_map,List.getElem?_eq_getElem h',Option.map_some,bt_list h']
theorem bt_out {s:ByteArray} {i:Nat} (h:s.size≤i):bt s i=0:=by unfold bt; rw [dif_neg (by omega)]
theorem sumV_zero (a b:ByteArray) (K:Nat) (ha:a.size=2*K):sumV (a++twoV 0++b)=sumV (a++b):=by
 have hz:(twoV 0).size=2:=rfl;have h0:bt (twoV 0) 0=0∧bt (twoV 0) 1=0:=bt_two 0 (by decide) (by decide);have f1:∀ i,i < 2*K→bt (a++twoV 0++b) i=bt (a++b) i:=fun i hi=>by
  rw [bt_append,bt_append,if_pos (by rw [ByteArray.size_append]; omega),bt_append,if_pos (by omega),if_pos (by omega)]
 have f2:bt (a++twoV 0++b) (2*K)=0∧bt (a++twoV 0++b) (2*K+1)=0:=by
  constructor
  ·rw [bt_append,if_pos (by rw [ByteArray.size_append]; omega),bt_append,if_neg (by omega),show 2*K-a.size=0 by omega]; exact h0.1
  ·rw [bt_append,if_pos (by rw [ByteArray.size_append]; omega),bt_append,if_neg (by omega),show 2*K+1-a.size=1 by omega]; exact h0.2
 have f3:∀ i,2*K≤i→bt (a++twoV 0++b) (i+2)=bt (a++b) i:=fun i hi=>by
  rw [bt_append,if_neg (by rw [ByteArray.size_append]; omega),bt_append,if_neg (by omega),ByteArray.size_append];congr 1; omega
 have key:∀ j,sumN (bt (a++twoV 0++b)) (K+1+j)=sumN (bt (a++b)) (K+j):=by
  intro j;induction j with
  | zero =>
   show add1 (sumN _ K) (wordN _ (2*K))=_;rw [sumN_congr K f1];unfold wordN;rw [f2.1,f2.2];have:=sumN_range (bt_isByte (a++b)) K;unfold add1;rw [if_neg (by omega)]; simp
  | succ j ih =>
   show add1 (sumN _ (K+1+j)) (wordN _ (2*(K+1+j)))=add1 (sumN _ (K+j)) (wordN _ (2*(K+j)));rw [ih];unfold wordN;rw [show 2*(K+1+j)=2*(K+j)+2 by omega,f3 (2*(K+j)) (by omega),show 2*(K+j)+2+1=2*(K+j)+1+2 by omega,f3 (2*(K+j)+1) (by omega)]
 unfold sumV;rw [ByteArray.size_append,ByteArray.size_append,ByteArray.size_append,hz,ha];have:=key ((b.size+1) / 2);rw [show (2*K+2+b.size+1) / 2=K+1+(b.size+1) / 2 by omega,show (2*K+b.size+1) / 2=K+(b.size+1) / 2 by omega];exact this
def IsWords (ws:List Int):Value→World→Prop:=fun v w=>∃ b,v=.slice (some ⟨b,0,none⟩) ws.length ws.length∧b < w.heap.size∧∀ k,k < ws.length→w.cell? ⟨b,k,none⟩=some (.int .i64 (ws.getD k 0))
theorem stable_isWords (ws:List Int):Stable (IsWords ws):=fun v w w' ⟨b,h1,h2,h3⟩ hb=>⟨b,h1,Nat.lt_of_lt_of_le h2 hb.size,fun k hk=>((bcell hb).1 b k h2).trans (h3 k hk)⟩
theorem owns_kept {w W:World} {base e n:Nat} {v:Value} {xs:List Value} (h:w.ownsRow base e 1 v n xs) (hB:Below w.heap.size w W):W.ownsRow base e 1 v n xs:=by
 obtain ⟨h1,h2⟩:=h;refine ⟨h1,?_⟩;rcases h2 with h2 | ⟨g,cap,cur,q1,q2,q3,q4⟩
 ·exact .inl h2
 ·exact .inr ⟨g,cap,cur,q1,q2,by rw [hB.block g (Array.getElem?_eq_some_iff.1 q3).1]; exact q3,q4⟩
theorem owns_base {w:World} {base base' e n:Nat} {v:Value} {xs:List Value} (h:w.ownsRow base e 1 v n xs) (hB:base'≤base):w.ownsRow base' e 1 v n xs:=by
 obtain ⟨h1,h2⟩:=h;refine ⟨h1,?_⟩;rcases h2 with h2 | ⟨g,cap,cur,q1,q2,q3,q4⟩
 ·exact .inl h2
 ·exact .inr ⟨g,cap,cur,q1,Nat.le_trans hB q2,q3,q4⟩
def IsOwn (base e n:Nat) (xs:List Value):Value→World→Prop:=fun v w=>∃ g,v=.slice (some ⟨g,0,none⟩) n n∧w.ownsRow base e 1 v n xs
theorem stable_isOwn (base e n:Nat) (xs:List Value):Stable (IsOwn base e n xs):=fun v w w' ⟨g,h1,h2⟩ hb=>⟨g,h1,owns_kept h2 hb⟩
theorem row_copied {w:World} {base e g m cap:Nat} {A Z B Y:ByteArray} (h:w.ownsRow base e 1 (.slice (some ⟨g,0,none⟩) m cap) m (strCells (A++Z++B))) (hA:A.size=10) (hZ:Z.size=2) (hY:Y.size=2) (hm:m=12+B.size) :
  ∃ cur,w.heap[g]?=some (.cells cur e (0,0))∧base≤g∧12≤cur.size∧m≤cap∧∀ i,i < m→(w.setRow g (cur.toList.take 10++strCells Y++cur.toList.drop (10+(strCells Y).length)).toArray).cell? ⟨g,i,none⟩=some (.int .u8 (bt (A++Y++B) i)):=by
 obtain ⟨h1,h2⟩:=h;rcases h2 with ⟨h2,_⟩ | ⟨g',cap',cur,q1,q2,q3,q4,q5,q6,q7⟩
 ·cases h2
 simp only [Value.slice.injEq,Option.some.injEq,Addr.mk.injEq,and_true,true_and] at q1;obtain ⟨rfl,rfl⟩:=q1;rw [Nat.mul_one] at q6 q7;have hl:cur.toList.length=cap:=by rw [Array.length_toList,q6]
 refine ⟨cur,q3,q2,by omega,q4,fun i hi=>?_⟩;rw [cell_setRow_same w g i cur _ e (0,0) q3];have hyl:(strCells Y).length=2:=by rw [strCells_length,hY]
 have hold:∀ j,j < m→cur.toList[j]?=some (.int .u8 (bt (A++Z++B) j)):=fun j hj=>by
  have:=strCells_at (A++Z++B) j (by simp only [ByteArray.size_append]; omega);rw [← q7,List.getElem?_take_of_lt hj] at this;exact this
 rw [List.getElem?_toArray,hyl];by_cases c1:i < 10
 ·rw [List.getElem?_append_left (by simp; omega),List.getElem?_append_left (by simp; omega),List.getElem?_take_of_lt c1,hold i hi,bt_append,if_pos (by rw [ByteArray.size_append]; omega),bt_append,if_pos (by omega),bt_append,if_pos (by rw [ByteArray.size_append]; omega),bt_append,if_pos (by omega)]
 ·by_cases c2:i < 12
  ·rw [List.getElem?_append_left (by simp; omega),List.getElem?_append_right (by simp; omega)];have e10:(cur.toList.take 10).length=10:=by simp; omega
   rw [e10,strCells_at Y (i-10) (by omega),bt_append,if_pos (by rw [ByteArray.size_append]; omega),bt_append,if_neg (by omega),hA]
  ·have e12:(cur.toList.take 10++strCells Y).length=12:=by simp [hyl]; omega
   rw [List.getElem?_append_right (by omega),e12,List.getElem?_drop,show 10+2+(i-12)=i by omega,hold i hi,bt_append,if_neg (by rw [ByteArray.size_append]; omega),bt_append,if_neg (by rw [ByteArray.size_append]; omega),ByteArray.size_append,ByteArray.size_append,hA,hZ,hY]
theorem or_16384 (n:Int) (h0:0≤n) (h1:n≤8191):bits .or .i64 n 16384=n+16384:=by
 obtain ⟨m,rfl⟩:=Int.eq_ofNat_of_zero_le h0;have h:=(bits_nat .i64 63 (by decide) wraps_i64 m 16384 (by omega) (by omega)).2;have e:m ||| 16384=16384+m:=by
  rw [Nat.or_comm]; exact (Nat.two_pow_add_eq_or_of_lt (i:=14) (b:=m) (by omega) 1).symm
 refine h.trans ?_;rw [e]; omega
theorem or_8192 (n:Int) (h0:0≤n) (h1:n≤8191):bits .or .i64 n 8192=n+8192:=by
 obtain ⟨m,rfl⟩:=Int.eq_ofNat_of_zero_le h0;have h:=(bits_nat .i64 63 (by decide) wraps_i64 m 8192 (by omega) (by omega)).2;have e:m ||| 8192=8192+m:=by
  rw [Nat.or_comm]; exact (Nat.two_pow_add_eq_or_of_lt (i:=13) (b:=m) (by omega) 1).symm
 refine h.trans ?_;rw [e]; omega
theorem or_8192b (n:Int) (h0:0≤n) (h1:n≤8191):bits .or .i64 (n+16384) 8192=n+16384+8192:=by
 obtain ⟨m,rfl⟩:=Int.eq_ofNat_of_zero_le h0;have h:=(bits_nat .i64 63 (by decide) wraps_i64 (m+16384) 8192 (by omega) (by omega)).2;have e1:m+16384=16384 ||| m:=by rw [← Nat.two_pow_add_eq_or_of_lt (i:=14) (b:=m) (by omega) 1]; omega
 have e2:m ||| 8192=8192+m:=by
  rw [Nat.or_comm]; exact (Nat.two_pow_add_eq_or_of_lt (i:=13) (b:=m) (by omega) 1).symm
 have e3:16384 ||| (8192+m)=16384+(8192+m):=(Nat.two_pow_add_eq_or_of_lt (i:=14) (b:=8192+m) (by omega) 1).symm
 have e:(m+16384) ||| 8192=m+16384+8192:=by rw [e1,Nat.or_assoc,e2,e3,← e1]; omega
 refine h.trans ?_;rw [e]; omega
end Go.Proofs.Ytagbhaalmjpkjaa
