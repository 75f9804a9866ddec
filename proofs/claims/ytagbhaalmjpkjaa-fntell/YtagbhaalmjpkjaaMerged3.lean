import Derived.Test.YtagbhaalmjpkjaaMerged1
import Derived.Laws.IdiomStrings
import Derived.Deep.DeepCutAuto
import Derived.Test.YtagbhaalmjpkjaaMerged2
set_option linter.unusedVariables false
set_option linter.unusedSimpArgs false
set_option maxRecDepth 100000
set_option maxHeartbeats 8000000
namespace Go.Proofs.Ytagbhaalmjpkjaa
open Go.RowKit Go.PlainAid
theorem wordFromB_any (f:Nat→Int) (b len cap k:Nat) (w:World) (hf:isByte f) (he:∀ i,len≤i→f i=0) (hl:len≤2000) (hk:k < len)
  (hc:∀ i,i < len→w.cell? ⟨b,i,none⟩=some (.int .u8 (f i))) :
  Calls Try.prog 77 #[.slice (some ⟨b,0,none⟩) len cap,.int .i64 k] w fun e w'=>e=.returned (.int .i64 (wordN f k))∧w'=w:=by
 have b1:=hf k;have b2:=hf (k+1);have hj:=join_word (f k) (f (k+1)) b1.1 b1.2 b2.1 b2.2;have c1:=hc k hk;by_cases h:k+1 < len
 ·have c2:=hc (k+1) h;clear hc he hf;go_enter Try.func77,Try.ntmps77
  go_wp2
  go_ret;exact ⟨ret_int rfl,rfl⟩
 ·have HE:Hid (f (k+1)=0):=he _ (by omega);clear hc he hf;go_enter Try.func77,Try.ntmps77
  go_wp2
  go_ret;exact ⟨ret_int (by unfold wordN; rw [HE.out]; omega),rfl⟩
theorem sumOfB_any (f:Nat→Int) (b len cap:Nat) (w:World) (hf:isByte f) (he:∀ i,len≤i→f i=0) (hl:len≤2000)
  (hc:∀ i,i < len→w.cell? ⟨b,i,none⟩=some (.int .u8 (f i))) :
  Calls Try.prog 68 #[.slice (some ⟨b,0,none⟩) len cap] w fun e w'=>e=.returned (.int .i64 (sumN f ((len+1) / 2)))∧w'=w:=by
 have HW:Hid (∀ k,k < len→Calls Try.prog 77 #[.slice (some ⟨b,0,none⟩) len cap,.int .i64 k] w fun e w'=>e=.returned (.int .i64 (wordN f k))∧w'=w):=fun k hk=>wordFromB_any f b len cap k w hf he hl hk hc
 clear hc he;go_enter Try.func68,Try.ntmps68
 go_wp2
 go_loop [3,9] (fun n i=>∃ k:Nat,k≤(len+1) / 2∧i=.int .i64 k∧n=.int .i64 (sumN f k)) (fun _ i=>(len+1) / 2-(intOf i).toNat)
 case atStart=>exact ⟨0,Nat.zero_le _,rfl,rfl⟩
 case round =>
  obtain ⟨k,hk,rfl,rfl⟩:=hrel;have hr:=sumN_range hf k;have hq:=wordN_range hf (2*k);have HN:Hid (sumN f (k+1)=add1 (sumN f k) (wordN f (2*k))):=rfl;have HF:Hid _:=fold_add (sumN f k) (wordN f (2*k)) hr.1 hr.2 hq.1 hq.2;have ha:=and_65535 (sumN f k+wordN f (2*k));clear hf;by_cases hlt:k < (len+1) / 2
  ·have h2:2*k < len:=by omega
   go_wp2_with (go_at_call 77; refine (HW.out (2*k) h2).mono ?_; rintro e w' ⟨rfl,rfl⟩)
   go_round
   case rel=>exact ⟨k+1,by omega,by go_num,by rw [HN.out,← HF.out]⟩
   case measure=>simp [intOf]; omega
  ·go_wp2
   go_ret;exact ⟨ret_int (by rw [show (len+1) / 2=k by omega]),rfl⟩
def fL (ws:List Int) (i:Nat):Int:=(layL ws).getD i 0
theorem fL_byte:∀ (ws:List Int),(∀ n∈ws,0≤n∧n≤65535)→isByte (fL ws)
 | [],_=>fun i=>by simp [fL,layL]
 | n::r,h=>fun i=>by
  have hn:=h n (by simp);match i with
  | 0=>simp only [fL,layL,List.getD_cons_zero]; omega
  | 1=>simp only [fL,layL,List.getD_cons_succ,List.getD_cons_zero]; omega
  | i+2=>simpa [fL,layL] using fL_byte r (fun m hm=>h m (by simp [hm])) i
theorem getD_word (ws:List Int) (h:∀ n∈ws,0≤n∧n≤65535) (k:Nat):0≤ws.getD k 0∧ws.getD k 0≤65535:=by
 by_cases hk:k < ws.length
 ·simp only [List.getD,List.getElem?_eq_getElem hk,Option.getD_some]; exact h _ (List.getElem_mem hk)
 ·simp [List.getD,List.getElem?_eq_none (show ws.length≤k by omega)]
theorem layAt (ws:List Int) (w:World) (hm:ws.length≤1000) (h:∀ n∈ws,0≤n∧n≤65535) :
  Calls Try.prog 65 #[.slice (some ⟨w.heap.size,0,none⟩) ws.length ws.length] (w.alloc (.cells (ws.map (Value.int .i64)).toArray 2)) fun e w' =>
   e=.returned (.slice (some ⟨w.heap.size+1,0,none⟩) (2*ws.length) (2*ws.length))∧(∀ i,i < 2*ws.length→w'.cell? ⟨w.heap.size+1,i,none⟩=some (.int .u8 (fL ws i)))∧Below w.heap.size w w':=by
 refine (layWords_any ws w.heap.size ws.length ws.length (w.alloc (.cells (ws.map (Value.int .i64)).toArray 2)) hm (by simp) rfl (getD_word ws h) (by intro k hk; simp [hk])).mono ?_;rintro e w' ⟨rfl,hown,hB⟩;have hz:(w.alloc (.cells (ws.map (Value.int .i64)).toArray 2)).heap.size=w.heap.size+1:=by simp
 rw [hz] at hown hB ⊢;refine ⟨rfl,fun i hi=>?_,((Below.refl _ _).alloc (Nat.le_refl _) _).trans (hB.mono (by omega))⟩;have hl:=layL_length ws;rw [hown.cellAt i (by omega)];simp [fL,show i < (layL ws).length by omega]
theorem bt_append (a b:ByteArray) (i:Nat):bt (a++b) i=if i < a.size then bt a i else bt b (i-a.size):=by
 have hs:(a++b).size=a.size+b.size:=ByteArray.size_append;by_cases h:i < a.size
 ·rw [if_pos h]; unfold bt; rw [dif_pos (by omega),dif_pos h,ByteArray.getElem_append_left h]
 ·rw [if_neg h]; unfold bt;by_cases h2:i < (a++b).size
  ·rw [dif_pos h2,dif_pos (by omega),ByteArray.getElem_append_right (by omega)]
  ·rw [dif_neg h2,dif_neg (by omega)]
theorem bt_extract (a:ByteArray) (s e i:Nat) (he:e≤a.size):bt (a.extract s e) i=if s+i < e then bt a (s+i) else 0:=by
 have hs:(a.extract s e).size=min e a.size-s:=ByteArray.size_extract;by_cases h:s+i < e
 ·rw [if_pos h]; unfold bt; rw [dif_pos (by omega),dif_pos (by omega),ByteArray.getElem_extract]
 ·rw [if_neg h]; unfold bt; rw [dif_neg (by omega)]
theorem twoV_size (n:Int):(twoV n).size=2:=rfl
theorem bt_two (n:Int) (h0:0≤n) (h1:n≤65535):bt (twoV n) 0=n / 256∧bt (twoV n) 1=n % 256:=by
 constructor
 ·unfold bt; rw [dif_pos (by rw [twoV_size]; omega)]; exact u8_ofNat _ (by omega) (by omega)
 ·unfold bt; rw [dif_pos (by rw [twoV_size]; omega)]; exact u8_ofNat _ (by omega) (by omega)
theorem sumN_congr {f g:Nat→Int}:∀ (k:Nat),(∀ i,i < 2*k→f i=g i)→sumN f k=sumN g k
 | 0,_=>rfl
 | k+1,h=>by
  unfold sumN;rw [sumN_congr k (fun i hi=>h i (by omega))];unfold wordN;rw [h (2*k) (by omega),h (2*k+1) (by omega)]
section
variable {t:ByteArray} {j K:Nat} {n:Int}
end
theorem add1_mod (a b:Int):∃ z,add1 a b=a+b+65535*z:=by
 unfold add1; split
 ·exact ⟨-1,by omega⟩
 ·exact ⟨0,by omega⟩
theorem sumN_turn {f g:Nat→Int} {j:Nat} (h:∀ i,(i < 2*j∨2*j+2≤i)→f i=g i):∀ k,j < k→∃ z,sumN g k=sumN f k-wordN f (2*j)+wordN g (2*j)+65535*z
 | 0,h0=>by omega
 | k+1,hk=>by
  obtain ⟨z1,e1⟩:=add1_mod (sumN f k) (wordN f (2*k));obtain ⟨z2,e2⟩:=add1_mod (sumN g k) (wordN g (2*k));unfold sumN;by_cases hjk:j=k
  ·subst hjk;have:=sumN_congr (f:=f) (g:=g) j (fun i hi=>h i (.inl hi));exact ⟨z2-z1,by rw [e1,e2]; omega⟩
  ·obtain ⟨z,e⟩:=sumN_turn h k (by omega);have e3:wordN f (2*k)=wordN g (2*k):=by unfold wordN; rw [h _ (.inr (by omega)),h _ (.inr (by omega))]
   exact ⟨z2-z1+z,by rw [e1,e2]; omega⟩
end Go.Proofs.Ytagbhaalmjpkjaa
