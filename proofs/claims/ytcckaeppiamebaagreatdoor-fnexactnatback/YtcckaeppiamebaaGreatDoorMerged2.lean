import Derived.Test.YtcckaeppiamebaaGreatDoorAb
import Derived.Test.YtcckaeppiamebaaGreatDoorMerged1
import Derived.Deep.RegionWith
import Derived.Laws.IdiomStrings
import Derived.Deep.DeepCutAuto
set_option linter.unusedVariables false
set_option linter.unusedSimpArgs false
set_option maxRecDepth 100000
set_option maxHeartbeats 8000000
namespace Go.Proofs.YtcckaeppiamebaaGreatDoor
open Go.RowKit Go.PlainAid
def oneM (x:Nat):ByteArray:=⟨#[UInt8.ofNat x]⟩
def markA (k:Nat) (o:ByteArray):ByteArray:=if h:k=0 then o else markA (k / 10) (oneM (48+k % 10)++o)
termination_by k
decreasing_by omega
theorem markA_zero (o:ByteArray):markA 0 o=o:=by rw [markA]; rfl
theorem markA_step {k:Nat} (h:0 < k) (o:ByteArray):markA k o=markA (k / 10) (oneM (48+k % 10)++o):=by rw [markA,dif_neg (by omega)]
def emM:ByteArray:=⟨#[109]⟩
def markV (k:Nat):ByteArray:=emM++markA k ⟨#[]⟩
theorem oneM_conv {w:World} {b cap:Nat} {x:Nat} (hx:x≤255) (h0:w.cell? ⟨b,0,none⟩=some (.int .u8 (x:Int))) :
  (convert 137 9 (.slice (some ⟨b,0,none⟩) 1 cap)).run Tryz.prog w=.ok (.string (oneM x)) w :=
 run_convert_bytes_back (P:=Tryz.prog) w 137 9 5 ⟨b,0,none⟩ cap [UInt8.ofNat x] Tryz.underlying137 Tryz.underlying5 Tryz.underlying9 (by
  intro j hj;match j,hj with
  | 0,_=>simp only [Addr.add,Nat.add_zero,List.getElem_cons_zero]; rw [UInt8.toNat_ofNat',Nat.mod_eq_of_lt (by omega)]; exact h0)
theorem markText_any (k:Nat) (w:World) (hk:0 < k) (hk2:k≤1073741824) :
  Cb 66 #[iV k] w (.string (markV k)):=by
 have HV:Hid (markV k=emM++markA k ⟨#[]⟩):=rfl;generalize markV k=ans at *;go_enter Tryz.func66,Tryz.ntmps66
 go_wp2_with fail
 go_loopw [0,3] (fun kv ov wr=>∃ (m:Nat) (o:ByteArray),kv=iV m∧ov=.string o∧markA m o=markA k ⟨#[]⟩∧m*2 ^ o.size≤k∧m≤1073741824∧o.size≤31∧Below w.heap.size w wr) (fun kv _ _=>(intOf kv).toNat)
 case atStart=>exact ⟨k,⟨#[]⟩,rfl,rfl,rfl,by simp [ByteArray.size],hk2,by simp [ByteArray.size],Below.refl _ _⟩
 case round =>
  obtain ⟨m,o,rfl,rfl,hm,hb,hm2,ho,hbel⟩:=hrel;have HM:Hid (markA m o=markA k ⟨#[]⟩):=hm;have HB:Hid (m*2 ^ o.size≤k):=hb;have HL:Hid (Below w.heap.size w wr):=hbel;clear hm hb hbel;by_cases h0:0 < m
  ·have hcv:(convert 137 9 (.slice (some ⟨wr.heap.size,0,none⟩) 1 1)).run Tryz.prog (wr.alloc (.cells #[.int .u8 (48+(m:Int) % 10)] 5))=.ok (.string (oneM (48+m % 10))) (wr.alloc (.cells #[.int .u8 (48+(m:Int) % 10)] 5)) :=
    oneM_conv (by omega) (by simp)
   have ho2:o.size≤30:=by
    by_cases hx:o.size≤30
    ·exact hx
    ·have h1:2 ^ 31≤2 ^ o.size:=Nat.pow_le_pow_right (by omega) (by omega);have h2:1*2 ^ o.size≤m*2 ^ o.size:=Nat.mul_le_mul_right _ h0;have:=HB.out;omega
   have HB2:Hid (m / 10*2 ^ (o.size+1)≤k):=by
    have h1:m / 10*2≤m:=by omega
    have h2:=Nat.mul_le_mul_right (2 ^ o.size) h1;have h3:=HB.out;unfold Hid;rw [Nat.pow_succ,Nat.mul_comm (2 ^ o.size) 2,← Nat.mul_assoc];omega
   have z1:(oneM (48+m % 10)).size=1:=rfl;have n1:¬ 9223372036854775807 < (oneM (48+m % 10)).size+o.size:=by omega
   have HM2:Hid (markA (m / 10) (oneM (48+m % 10)++o)=markA k ⟨#[]⟩):=by unfold Hid; rw [← HM.out,markA_step h0]
   have z2:(oneM (48+m % 10)++o).size=o.size+1:=by rw [ByteArray.size_append]; omega
   have hlt:m / 10 < m:=by omega
   generalize oneM (48+m % 10)=u at *;go_wp2_with fail
   go_roundw
   case rel=>exact ⟨m / 10,u++o,by go_num,rfl,HM2.out,by rw [z2]; exact HB2.out,by omega,by omega,HL.out.alloc HL.out.size _⟩
   case measure=>simp [intOf]; omega
  ·obtain rfl:m=0:=by omega
   have HO:Hid (ans=⟨#[109]⟩++o):=by unfold Hid; rw [HV.out,← HM.out,markA_zero]; rfl
   go_wp2_with fail
   go_ret;exact ⟨ret_string HO.out.symm,HL.out⟩
def marksOf (n k L:Nat):List Nat:=(List.range L).map fun i=>k+n*i
theorem marksOf_length (n k L:Nat):(marksOf n k L).length=L:=by simp [marksOf]
theorem marksOf_get (n k L i:Nat) (h:i < (marksOf n k L).length):(marksOf n k L)[i]=k+n*i:=by simp [marksOf]
structure MkSt (en:Nat→List Value) (n:Nat) (w0:World) (B k L m:Nat) (cs:List Value) (w:World):Prop where
 laid:SlLaid en n w B (marksOf n k L) L m
 part:w.rangeAt B (m*n) cs
 grown:w0.grownBy w (some B)
section
variable {en:Nat→List Value} {n:Nat} {w0 w w':World} {B k L m:Nat} {cs:List Value}
theorem MkSt.new (h:SlLaid en n w B (marksOf n k L) L m) (hg:w0.grownBy w (some B)):MkSt en n w0 B k L m [] w:=⟨h,fun j v hv=>by simp at hv,hg⟩
theorem MkSt.idx (hm:m < L) {j:Nat} (hj:j < n):m*n+j < L*n:=by
 have:=Nat.mul_le_mul_right n (show m+1≤L from hm); rw [Nat.succ_mul] at this; omega
theorem MkSt.put (h:MkSt en n w0 B k L m cs w) (hn:∀ x,(en x).length=n) (hc:cs.length < n) (hm:m < L) (v:Value):MkSt en n w0 B k L m (cs++[v]) (w.setCell ⟨B,m*n+cs.length,none⟩ v):=by
 have hix:=MkSt.idx hm hc;obtain ⟨x,hx⟩:=Option.isSome_iff_exists.1 (h.laid.there _ hix);have ho:∀ o,o≠m*n+cs.length→(w.setCell ⟨B,m*n+cs.length,none⟩ v).cell? ⟨B,o,none⟩=w.cell? ⟨B,o,none⟩:=fun o ho=>World.cell?_setCell_other _ _ _ _ (fun e=>ho (by injection e with _ e2; exact e2.symm))
 have hs:(w.setCell ⟨B,m*n+cs.length,none⟩ v).cell? ⟨B,m*n+cs.length,none⟩=some v:=World.cell?_setCell_same _ _ _ hx;refine ⟨⟨?_,fun i hi hk j u hu=>?_,fun i hi=>?_,fun i hi=>by rw [World.frozen?_setCell]; exact h.laid.free i hi⟩,fun j u hu=>?_,grown_set h.grown v⟩
 ·exact Nat.lt_of_lt_of_le h.laid.blk (((Below.refl 0 w).setCell (p:=⟨B,m*n+cs.length,none⟩) (Nat.zero_le _) v).size)
 ·have hj:=(List.getElem?_eq_some_iff.1 hu).1;rw [hn] at hj;have hle:i*n+n≤m*n:=by have:=Nat.mul_le_mul_right n (show i+1≤m by omega); rw [Nat.succ_mul] at this; exact this
  rw [ho _ (by omega)]; exact h.laid.at0 i hi hk j u hu
 ·by_cases e:i=m*n+cs.length
  ·rw [e,hs]; rfl
  ·rw [ho _ e]; exact h.laid.there i hi
 ·by_cases e:j < cs.length
  ·rw [List.getElem?_append_left e] at hu;rw [ho _ (by omega)]; exact h.part j u hu
  ·have hj:=(List.getElem?_eq_some_iff.1 hu).1;rw [List.length_append] at hj;have:j=cs.length:=by simp at hj; omega
   subst this;simp at hu;rw [hs,hu]
theorem MkSt.call (h:MkSt en n w0 B k L m cs w) (q:Below w.heap.size w w'):MkSt en n w0 B k L m cs w' :=
 ⟨h.laid.kept q,fun j v hv=>((bcell q).1 B _ h.laid.blk).trans (h.part j v hv),grown_trans h.grown (grown_of_below q)⟩
theorem MkSt.there (h:MkSt en n w0 B k L m cs w) (hm:m < L) {j:Nat} (hj:j < n):∃ v,w.cell? ⟨B,m*n+j,none⟩=some v:=Option.isSome_iff_exists.1 (h.laid.there _ (MkSt.idx hm hj))
theorem MkSt.free (h:MkSt en n w0 B k L m cs w) (hm:m < L) {j:Nat} (hj:j < n):w.frozen? ⟨B,m*n+j,none⟩=false:=h.laid.free _ (MkSt.idx hm hj)
theorem MkSt.next (hn:∀ x,(en x).length=n) (h:MkSt en n w0 B k L m cs w) (hc:cs=en (k+n*m)) (hm:m < L):SlLaid en n w B (marksOf n k L) L (m+1):=by
 refine ⟨h.laid.blk,fun i hi hk j v hv=>?_,h.laid.there,h.laid.free⟩;by_cases e:i=m
 ·subst e;rw [marksOf_get,← hc] at hv;exact h.part j v hv
 ·exact h.laid.at0 i hi (by omega) j v hv
end
theorem markText_at (x:Int) (y:Nat) (w:World) (h:x=(y:Int)) (h0:0 < y) (h1:y≤1073741824) :
  Cb 66 #[iV x] w (.string (markV y)):=by
 subst h; exact markText_any y w h0 h1
theorem wordFromB_any (f:Nat→Int) (b len cap k:Nat) (w:World) (hf:isByte f) (he:∀ i,len≤i→f i=0) (hl:len≤2000) (hk:k < len)
  (hc:∀ i,i < len→w.cell? ⟨b,i,none⟩=some (.int .u8 (f i))) :
  Cw 187 #[.slice (some ⟨b,0,none⟩) len cap,iV k] w (iV (wordN f k)):=by
 have b1:=hf k;have b2:=hf (k+1);have hj:=join_word (f k) (f (k+1)) b1.1 b1.2 b2.1 b2.2;have c1:=hc k hk;by_cases h:k+1 < len
 ·have c2:=hc (k+1) h;clear hc he hf;go_enter Tryz.func187,Tryz.ntmps187
  go_wp2
  go_ret;exact ⟨ret_int rfl,rfl⟩
 ·have HE:Hid (f (k+1)=0):=he _ (by omega);clear hc he hf;go_enter Tryz.func187,Tryz.ntmps187
  go_wp2
  go_ret;exact ⟨ret_int (by unfold wordN; rw [HE.out]; omega),rfl⟩
theorem sumOfB_any (f:Nat→Int) (b len cap:Nat) (w:World) (hf:isByte f) (he:∀ i,len≤i→f i=0) (hl:len≤2000)
  (hc:∀ i,i < len→w.cell? ⟨b,i,none⟩=some (.int .u8 (f i))) :
  Cw 186 #[.slice (some ⟨b,0,none⟩) len cap] w (iV (sumN f ((len+1) / 2))):=by
 have HW:Hid (∀ k,k < len→Cw 187 #[.slice (some ⟨b,0,none⟩) len cap,iV k] w (iV (wordN f k))):=fun k hk=>wordFromB_any f b len cap k w hf he hl hk hc
 clear hc he;go_enter Tryz.func186,Tryz.ntmps186
 go_wp2
 go_loop [3,9] (fun n i=>∃ k:Nat,k≤(len+1) / 2∧i=iV k∧n=iV (sumN f k)) (fun _ i=>(len+1) / 2-(intOf i).toNat)
 case atStart=>exact ⟨0,Nat.zero_le _,rfl,rfl⟩
 case round =>
  obtain ⟨k,hk,rfl,rfl⟩:=hrel;have hr:=sumN_range hf k;have hq:=wordN_range hf (2*k);have HN:Hid (sumN f (k+1)=add1 (sumN f k) (wordN f (2*k))):=rfl;have HF:Hid _:=fold_add (sumN f k) (wordN f (2*k)) hr.1 hr.2 hq.1 hq.2;have ha:=and_65535 (sumN f k+wordN f (2*k));clear hf;by_cases hlt:k < (len+1) / 2
  ·have h2:2*k < len:=by omega
   go_wp2_with (go_at_call 187; refine (HW.out (2*k) h2).mono ?_; rintro e w' ⟨rfl,rfl⟩)
   go_round
   case rel=>exact ⟨k+1,by omega,by go_num,by rw [HN.out,← HF.out]⟩
   case measure=>simp [intOf]; omega
  ·go_wp2
   go_ret;exact ⟨ret_int (by rw [show (len+1) / 2=k by omega]),rfl⟩
def fL (ws:List Int) (i:Nat):Int:=(layL ws).getD i 0
theorem fL_end (ws:List Int) (i:Nat) (h:2*ws.length≤i):fL ws i=0:=by
 have:=layL_length ws;simp [fL,List.getD,List.getElem?_eq_none (show (layL ws).length≤i by omega)]
theorem fL_byte:∀ (ws:List Int),(∀ n∈ws,0≤n∧n≤65535)→isByte (fL ws)
 | [],_=>fun i=>by simp [fL,layL]
 | n::r,h=>fun i=>by
  have hn:=h n (by simp);match i with
  | 0=>simp only [fL,layL,List.getD_cons_zero]; omega
  | 1=>simp only [fL,layL,List.getD_cons_succ,List.getD_cons_zero]; omega
  | i+2=>simpa [fL,layL] using fL_byte r (fun m hm=>h m (by simp [hm])) i
theorem add1_zero {a:Int} (h:a≤65535):add1 0 a=a:=by unfold add1; rw [if_neg (by omega)]; omega
theorem word_two (n:Int):n / 256*256+n % 256=n:=by omega
theorem sum_three {a b c:Int} (h:a≤65535):sumN (fL [a,b,c]) 3=add1 (add1 a b) c:=by
 simp only [sumN,wordN,fL,layL,Nat.mul_zero,Nat.mul_one,Nat.zero_add,List.getD_cons_zero,List.getD_cons_succ,word_two,show 2*2=4 from rfl];rw [add1_zero h]
theorem getD_word (ws:List Int) (h:∀ n∈ws,0≤n∧n≤65535) (k:Nat):0≤ws.getD k 0∧ws.getD k 0≤65535:=by
 by_cases hk:k < ws.length
 ·simp only [List.getD,List.getElem?_eq_getElem hk,Option.getD_some]; exact h _ (List.getElem_mem hk)
 ·simp [List.getD,List.getElem?_eq_none (show ws.length≤k by omega)]
theorem layAt (ws:List Int) (w:World) (hm:ws.length≤1000) (h:∀ n∈ws,0≤n∧n≤65535) :
  Calls Tryz.prog 160 #[.slice (some ⟨w.heap.size,0,none⟩) ws.length ws.length] (w.alloc (.cells (ws.map (Value.int .i64)).toArray 2)) fun e w' =>
   e=.returned (.slice (some ⟨w.heap.size+1,0,none⟩) (2*ws.length) (2*ws.length))∧(∀ i,i < 2*ws.length→w'.cell? ⟨w.heap.size+1,i,none⟩=some (.int .u8 (fL ws i)))∧Below w.heap.size w w':=by
 refine (layWords_any ws w.heap.size ws.length ws.length (w.alloc (.cells (ws.map (Value.int .i64)).toArray 2)) hm (by simp) rfl (getD_word ws h) (by intro k hk; simp [hk])).mono ?_;rintro e w' ⟨rfl,hown,hB⟩;have hz:(w.alloc (.cells (ws.map (Value.int .i64)).toArray 2)).heap.size=w.heap.size+1:=by simp
 rw [hz] at hown hB ⊢;refine ⟨rfl,fun i hi=>?_,((Below.refl _ _).alloc (Nat.le_refl _) _).trans (hB.mono (by omega))⟩;have hl:=layL_length ws;rw [hown.cellAt i (by omega)];simp [fL,show i < (layL ws).length by omega]
def sumTurnV (s o n:Int):Int:=if (0≤s∧s≤65535)∧(0≤o∧o≤65535)∧(0≤n∧n≤65535) then 65535-add1 (add1 (65535-s) (65535-o)) n else 0
theorem implSumTurn_any (s o n:Int) (w:World) :
  Cb 185 #[iV s,iV o,iV n] w (iV (sumTurnV s o n)):=by
 by_cases hs:0≤s∧s≤65535
 ·have i1:=isW_yes hs.1 hs.2;by_cases ho:0≤o∧o≤65535
  ·have i2:=isW_yes ho.1 ho.2;by_cases hn:0≤n∧n≤65535
   ·have i3:=isW_yes hn.1 hn.2;have HV:Hid (sumTurnV s o n=65535-sumN (fL [65535-s,65535-o,n]) 3):=(if_pos ⟨hs,ho,hn⟩ : sumTurnV s o n=65535-add1 (add1 (65535-s) (65535-o)) n).trans (by rw [sum_three (by omega)]);have hws:∀ m∈[65535-s,65535-o,n],0≤m∧m≤65535:=by intro m hm; simp at hm; rcases hm with rfl | rfl | rfl<;>omega
    have HL:Hid (Calls Tryz.prog 160 #[.slice (some ⟨w.heap.size,0,none⟩) 3 3] (w.alloc (.cells #[iV (65535-s),iV (65535-o),iV n] 2)) fun e w' =>
     e=.returned (.slice (some ⟨w.heap.size+1,0,none⟩) 6 6)∧(∀ i,i < 6→w'.cell? ⟨w.heap.size+1,i,none⟩=some (.int .u8 (fL [65535-s,65535-o,n] i)))∧Below w.heap.size w w'):=layAt [65535-s,65535-o,n] w (by simp) hws
    have HB:Hid (isByte (fL [65535-s,65535-o,n])):=fL_byte _ hws;have hr:=sumN_range HB.out 3;clear hws;go_enter Tryz.func185,Tryz.ntmps185
    go_wp2_with (first | (go_at_call 117; refine (implWordIs_any _ _).mono ?_; rintro e w' ⟨rfl,rfl⟩) | (go_at_call 160; refine HL.out.mono ?_; rintro e w' ⟨rfl,hc,hB⟩; have HC:Hid _:=hc; clear hc) | (go_at_call 186; refine (sumOfB_any (fL [65535-s,65535-o,n]) _ 6 6 _ HB.out (fL_end [65535-s,65535-o,n]) (by omega) HC.out).mono ?_; rintro e w' ⟨rfl,rfl⟩))
    go_ret;exact ⟨ret_int HV.out.symm,hB⟩
   ·have HV:Hid (sumTurnV s o n=0):=if_neg (fun h=>hn h.2.2);have i3:=isW_no hn;clear hn;go_enter Tryz.func185,Tryz.ntmps185
    go_wp2_with (go_at_call 117; refine (implWordIs_any _ _).mono ?_; rintro e w' ⟨rfl,rfl⟩)
    go_ret;exact ⟨ret_int HV.out.symm,Below.refl _ _⟩
  ·have HV:Hid (sumTurnV s o n=0):=if_neg (fun h=>ho h.2.1);have i2:=isW_no ho;clear ho;go_enter Tryz.func185,Tryz.ntmps185
   go_wp2_with (go_at_call 117; refine (implWordIs_any _ _).mono ?_; rintro e w' ⟨rfl,rfl⟩)
   go_ret;exact ⟨ret_int HV.out.symm,Below.refl _ _⟩
 ·have HV:Hid (sumTurnV s o n=0):=if_neg (fun h=>hs h.1);have i1:=isW_no hs;clear hs;go_enter Tryz.func185,Tryz.ntmps185
  go_wp2_with (go_at_call 117; refine (implWordIs_any _ _).mono ?_; rintro e w' ⟨rfl,rfl⟩)
  go_ret;exact ⟨ret_int HV.out.symm,Below.refl _ _⟩
theorem bt_append (a b:ByteArray) (i:Nat):bt (a++b) i=if i < a.size then bt a i else bt b (i-a.size):=by
 have hs:(a++b).size=a.size+b.size:=ByteArray.size_append;by_cases h:i < a.size
 ·rw [if_pos h]; unfold bt; rw [dif_pos (by omega),dif_pos h,ByteArray.getElem_append_left h]
 ·rw [if_neg h]; unfold bt;by_cases h2:i < (a++b).size
  ·rw [dif_pos h2,dif_pos (by omega),ByteArray.getElem_append_right (by omega)]
  ·rw [dif_neg h2,dif_neg (by omega)]
theorem bt_extract (a:ByteArray) (s e i:Nat) (he:e≤a.size):bt (a.extract s e) i=if s+i < e then bt a (s+i) else 0:=by
 have hs:(a.extract s e).size=min e a.size-s:=ByteArray.size_extract;by_cases h:s+i < e
 ·rw [if_pos h]; unfold bt; rw [dif_pos (by omega),dif_pos (by omega),ByteArray.getElem_extract]
 ·rw [if_neg h]; unfold bt; rw [dif_neg (by omega)]
theorem twoV_size (n:Int):(twoV n).size=2:=rfl
theorem sumN_congr {f g:Nat→Int}:∀ (k:Nat),(∀ i,i < 2*k→f i=g i)→sumN f k=sumN g k
 | 0,_=>rfl
 | k+1,h=>by
  unfold sumN;rw [sumN_congr k (fun i hi=>h i (by omega))];unfold wordN;rw [h (2*k) (by omega),h (2*k+1) (by omega)]
section
variable {t:ByteArray} {j K:Nat} {n:Int}
end
theorem add1_mod (a b:Int):∃ z,add1 a b=a+b+65535*z:=by
 unfold add1; split
 ·exact ⟨-1,by omega⟩
 ·exact ⟨0,by omega⟩
structure P4 where
 tos:Int
 id:Int
 whole:Bool
 more:Bool
 off:Int
 ttl:Int
 proto:Int
 src:ByteArray
 dst:ByteArray
 opts:ByteArray
 data:ByteArray
structure P6 where
 cls:Int
 flow:Int
 next:Int
 hops:Int
 src:ByteArray
 dst:ByteArray
 piece:Bool
 more:Bool
 off:Int
 id:Int
 data:ByteArray
def p4C (p:P4):Value:=.agg (P4R p.tos p.id p.whole p.more p.off p.ttl p.proto p.src p.dst p.opts p.data).toArray
def p6C (p:P6):Value:=.agg #[iV p.cls,iV p.flow,iV p.next,iV p.hops,.string p.src,.string p.dst,.bool p.piece,.bool p.more,iV p.off,iV p.id,.string p.data]
def isIn (n lo hi:Int):Bool:=decide (lo≤n)&&decide (n≤hi)
theorem isIn_parts {n lo hi:Int} (h:isIn n lo hi=true):lo≤n∧n≤hi:=by simpa [isIn] using h
def v4A (p:P4):Bool:=isIn p.tos 0 255&&isIn p.ttl 0 255&&isIn p.proto 0 255&&isIn p.id 0 65535&&isIn p.off 0 8191&&decide (p.src.size=4)&&decide (p.dst.size=4)
def v4B (p:P4):Bool:=decide (p.opts.size≤40)&&decide (p.opts.size % 4=0)&&decide (p.data.size≤1400)&&!(p.more&&!decide (p.data.size % 8=0))&&decide (8*p.off+p.data.size≤65515)
def v4C (p:P4):Bool:=!p.whole||(!p.more&&decide (p.off=0))
def v4Ok (p:P4):Bool:=v4A p&&v4B p&&v4C p
theorem v4A_parts {p:P4} (h:v4A p=true):(0≤p.tos∧p.tos≤255)∧(0≤p.ttl∧p.ttl≤255)∧(0≤p.proto∧p.proto≤255)∧(0≤p.id∧p.id≤65535)∧(0≤p.off∧p.off≤8191)∧p.src.size=4∧p.dst.size=4:=by
 unfold v4A at h;simp only [Bool.and_eq_true,decide_eq_true_iff] at h;obtain ⟨⟨⟨⟨⟨⟨h1,h2⟩,h3⟩,h4⟩,h5⟩,h6⟩,h7⟩:=h;exact ⟨isIn_parts h1,isIn_parts h2,isIn_parts h3,isIn_parts h4,isIn_parts h5,h6,h7⟩
theorem v4B_parts {p:P4} (h:v4B p=true):p.opts.size≤40∧p.opts.size % 4=0∧p.data.size≤1400∧(p.more=true→p.data.size % 8=0)∧8*p.off+p.data.size≤65515:=by
 unfold v4B at h;simp only [Bool.and_eq_true,Bool.not_eq_true',decide_eq_true_iff] at h;obtain ⟨⟨⟨⟨h1,h2⟩,h3⟩,h4⟩,h5⟩:=h;refine ⟨h1,h2,h3,fun hm=>?_,h5⟩;rw [hm,Bool.true_and,Bool.not_eq_false',decide_eq_true_iff] at h4;exact h4
def pairV (x y:Int):ByteArray:=⟨#[UInt8.ofNat x.toNat,UInt8.ofNat y.toNat]⟩
theorem pairV_size (x y:Int):(pairV x y).size=2:=rfl
def hlen (p:P4):Int:=20+p.opts.size
def p4Zero:P4:=⟨0,0,false,false,0,0,0,⟨#[]⟩,⟨#[]⟩,⟨#[]⟩,⟨#[]⟩⟩
def p6Zero:P6:=⟨0,0,0,0,⟨#[]⟩,⟨#[]⟩,false,false,0,0,⟨#[]⟩⟩
abbrev P4V (p : P4) : List Value := [iV p.tos,iV p.id,.bool p.whole,.bool p.more,iV p.off,iV p.ttl,iV p.proto,.string p.src,.string p.dst,.string p.opts,.string p.data]
end Go.Proofs.YtcckaeppiamebaaGreatDoor
namespace Go.Proofs.YtcckaeppiamebaaGreatDoor
open Go.RowKit
structure Bd where
 proto:Int
 inn:ByteArray
 inPort:Int
 out:ByteArray
 outPort:Int
def bdC (p:Bd):Value:=.agg (BdR p.proto p.inn p.inPort p.out p.outPort).toArray
def bdL (p:Bd):List Value:=(BdR p.proto p.inn p.inPort p.out p.outPort)
theorem bdL_length (p:Bd):(bdL p).length=5:=rfl
instance:Inhabited Bd:=⟨⟨0,⟨#[]⟩,0,⟨#[]⟩,0⟩⟩
structure Ss where
 proto:Int
 inn:ByteArray
 inPort:Int
 peer:ByteArray
 peerPort:Int
 state:Int
 untl:Int
def ssC (p:Ss):Value:=.agg (SsR p.proto p.inn p.inPort p.peer p.peerPort p.state p.untl).toArray
def ssL (p:Ss):List Value:=(SsR p.proto p.inn p.inPort p.peer p.peerPort p.state p.untl)
theorem ssL_length (p:Ss):(ssL p).length=7:=rfl
instance:Inhabited Ss:=⟨⟨0,⟨#[]⟩,0,⟨#[]⟩,0,0,0⟩⟩
structure Tc where
 proto:Int
 inside:Bool
 addr:ByteArray
 port:Int
 peer:ByteArray
 peerPort:Int
 flags:Int
def tcC (p:Tc):Value:=.agg (TcR p.proto p.inside p.addr p.port p.peer p.peerPort p.flags).toArray
abbrev TcV (p : Tc) : List Value := [iV p.proto,.bool p.inside,.string p.addr,iV p.port,.string p.peer,iV p.peerPort,iV p.flags]
abbrev BdV (p : Bd) : List Value := [iV p.proto,.string p.inn,iV p.inPort,.string p.out,iV p.outPort]
abbrev SsV (p : Ss) : List Value := [iV p.proto,.string p.inn,iV p.inPort,.string p.peer,iV p.peerPort,iV p.state,iV p.untl]
structure Lv where
 udp:Int
 echo:Int
 opening:Int
 opn:Int
 closing:Int
def lvC (l:Lv):Value:=.agg #[iV l.udp,iV l.echo,iV l.opening,iV l.opn,iV l.closing]
def livesOk (l:Lv):Bool:=isIn l.udp 1 10000&&isIn l.echo 1 10000&&isIn l.opening 1 10000&&isIn l.opn 1 10000&&isIn l.closing 1 10000
def stillP (proto:Int):Bool:=decide (proto=17)||decide (proto=1)
def flagB (flags:Int) (m:Int):Bool:=decide (bits .and .i64 flags m≠0)
def trackNewV (proto:Int) (inside:Bool) (flags:Int):Int :=
 if isIn flags 0 255=false then 0 else if stillP proto=true then 3
 else if proto=6∧flagB flags 2=true∧flagB flags 4=false∧flagB flags 16=false then (if inside=true then 1 else 2) else 0
def trackNextV (proto state:Int) (inside:Bool) (flags:Int):Int :=
 if stillP proto=true then 3
 else if proto=6∧isIn state 1 7=true∧isIn flags 0 255=true then
  if flagB flags 4=true then 7
  else if state=1 then (if inside=false∧flagB flags 2=true then 3 else 1)
  else if state=2 then (if inside=true∧flagB flags 2=true then 3 else 2)
  else if state=3 then (if flagB flags 1=true then (if inside=true then 4 else 5) else 3)
  else if state=4 then (if inside=false∧flagB flags 1=true then 6 else 4)
  else if state=5 then (if inside=true∧flagB flags 1=true then 6 else 5)
  else if state=7 then 3 else state
 else 0
def trackLifeV (l:Lv) (proto state:Int):Int :=
 if livesOk l=false then 0
 else if proto=17 then l.udp else if proto=1 then l.echo else if proto=6 then
  (if state=1∨state=2 then l.opening else if state=3∨state=4∨state=5 then l.opn else if state=6∨state=7 then l.closing else 0)
 else 0
open Go.PlainAid
def addrOk (s:ByteArray):Bool:=s.size==4||s.size==16
theorem addrOk_size {s:ByteArray} (h:addrOk s=true):s.size=4∨s.size=16:=by simpa [addrOk] using h
theorem addrOk_yes {s:ByteArray} (h:s.size=4∨s.size=16):addrOk s=true:=by simpa [addrOk] using h
theorem addrOk_no {s:ByteArray} (h:¬ (s.size=4∨s.size=16)):addrOk s=false:=by
 rw [Bool.eq_false_iff]; intro hh; exact h (addrOk_size hh)
theorem specAddrRight_any (s:ByteArray) (w:World) :
  Cw 121 #[.string s] w (.bool (addrOk s)):=by
 by_cases h4:s.size=4
 ·have HV:Hid (addrOk s=true):=addrOk_yes (.inl h4);have h4':(s.size:Int)=4:=by omega
  clear h4;go_enter Tryz.func121,Tryz.ntmps121
  go_wp2
  go_ret;exact ⟨ret_bool HV.out.symm,rfl⟩
 ·by_cases h16:s.size=16
  ·have HV:Hid (addrOk s=true):=addrOk_yes (.inr h16);have h16':(s.size:Int)=16:=by omega
   clear h16 h4;go_enter Tryz.func121,Tryz.ntmps121
   go_wp2
   go_ret;exact ⟨ret_bool HV.out.symm,rfl⟩
  ·have HV:Hid (addrOk s=false):=addrOk_no (by omega);have e1:((s.size:Int)==4)=false:=by simp; omega
   have e2:((s.size:Int)==16)=false:=by simp; omega
   go_enter Tryz.func121,Tryz.ntmps121
   go_wp2
   go_ret;exact ⟨ret_bool HV.out.symm,rfl⟩
end Go.Proofs.YtcckaeppiamebaaGreatDoor
namespace Go.Proofs.YtcckaeppiamebaaGreatDoor
open Go.RowKit
structure Pl where
 addrs:List ByteArray
 low:Int
 high:Int
 most:Int
 filter:Int
 lv:Lv
def plL (a:Option Addr) (cap:Nat) (p:Pl):List Value:=[.slice a p.addrs.length cap,iV p.low,iV p.high,iV p.most,iV p.filter,iV p.lv.udp,iV p.lv.echo,iV p.lv.opening,iV p.lv.opn,iV p.lv.closing]
def plC (a:Option Addr) (cap:Nat) (p:Pl):Value:=.agg #[.slice a p.addrs.length cap,iV p.low,iV p.high,iV p.most,iV p.filter,iV p.lv.udp,iV p.lv.echo,iV p.lv.opening,iV p.lv.opn,iV p.lv.closing]
structure Bb where
 binds:List Bd
 sess:List Ss
def bbC (a b:Option Addr) (ca cb:Nat) (x:Bb):Value:=.agg #[.slice a x.binds.length ca,.slice b x.sess.length cb]
def strL1 (s:ByteArray):List Value:=[.string s]
def protoB (proto:Int):Bool:=decide (proto=6)||decide (proto=17)||decide (proto=1)
def inL (xs:List ByteArray) (s:ByteArray):Bool:=xs.any fun t=>decide (t.toList=s.toList)
def findI {α:Type} (f:α→Bool) (xs:List α):Int:=match xs.findIdx? f with | some i=>i | none=>-1
def ofIn (proto:Int) (s:ByteArray) (port:Int) (q:Bd):Bool:=decide (q.proto=proto)&&decide (q.inn.toList=s.toList)&&decide (q.inPort=port)
def ofOut (proto:Int) (s:ByteArray) (port:Int) (q:Bd):Bool:=decide (q.proto=proto)&&decide (q.out.toList=s.toList)&&decide (q.outPort=port)
def hasS (p:Bd) (q:Ss):Bool:=decide (p.proto=q.proto)&&decide (p.inn.toList=q.inn.toList)&&decide (p.inPort=q.inPort)
def upN {α:Type} (f:List α→α→Bool) (xs:List α):Nat→Bool
 | 0=>true
 | n+1=>upN f xs n&&(match xs[n]? with | some x=>f (xs.take n) x | none=>true)
theorem upN_step {α:Type} {f:List α→α→Bool} {xs:List α} {n:Nat} (h:n < xs.length):upN f xs (n+1)=(upN f xs n&&f (xs.take n) xs[n]):=by
 show (upN f xs n&&_)=_;rw [List.getElem?_eq_getElem h]
theorem upN_false {α:Type} {f:List α→α→Bool} {xs:List α}:∀ {m n:Nat},n≤m→upN f xs n=false→upN f xs m=false
 | 0,n,h,hf=>by have e:n=0:=(by omega); rw [e] at hf; exact hf
 | m+1,n,h,hf=>by
  by_cases e:n=m+1
  ·subst e; exact hf
  ·show (upN f xs m&&_)=false;rw [upN_false (m:=m) (n:=n) (by omega) hf]; rfl
theorem upN_at {α:Type} {f:List α→α→Bool} {xs:List α} {i:Nat} (h:i < xs.length) (hf:f (xs.take i) xs[i]=false):upN f xs xs.length=false:=by
 refine upN_false (n:=i+1) (by omega) ?_;rw [upN_step h,hf,Bool.and_false]
def addrOne (ys:List ByteArray) (s:ByteArray):Bool:=decide (s.size=4)&&!inL ys s
def poolOk (p:Pl):Bool:=decide (1≤p.addrs.length)&&decide (p.addrs.length≤8)&&decide (1≤p.low)&&decide (p.low≤p.high)&&decide (p.high≤65535)&&isIn p.most 1 60&&isIn p.filter 0 2&&livesOk p.lv&&upN addrOne p.addrs p.addrs.length
def clashB (c b:Bd):Bool:=(decide (c.inn.toList=b.inn.toList)&&!decide (c.out.toList=b.out.toList))||(decide (c.proto=b.proto)&&((decide (c.inn.toList=b.inn.toList)&&decide (c.inPort=b.inPort))||(decide (c.out.toList=b.out.toList)&&decide (c.outPort=b.outPort))))
def bindOne (p:Pl) (ys:List Bd) (b:Bd):Bool:=protoB b.proto&&addrOk b.inn&&isW b.inPort&&inL p.addrs b.out&&isIn b.outPort p.low p.high&&!ys.any fun c=>clashB c b
def sameS (s t:Ss):Bool:=decide (s.proto=t.proto)&&decide (s.inn.toList=t.inn.toList)&&decide (s.inPort=t.inPort)&&decide (s.peer.toList=t.peer.toList)&&decide (s.peerPort=t.peerPort)
def sessOne (bs:List Bd) (ys:List Ss) (s:Ss):Bool:=decide (s.peer.size=4)&&isW s.peerPort&&isIn s.state 1 7&&(decide (s.proto=6)||decide (s.state=3))&&isIn s.untl 0 2000000000&&decide (0≤findI (ofIn s.proto s.inn s.inPort) bs)&&!ys.any fun t=>sameS s t
def bibOk (p:Pl) (b:Bb):Bool:=poolOk p&&decide ((b.sess.length:Int)≤p.most)&&decide (b.binds.length≤60)&&upN (bindOne p) b.binds b.binds.length&&upN (sessOne b.binds) b.sess b.sess.length&&b.binds.all fun x=>b.sess.any fun s=>hasS x s
abbrev KkV (a : Option Addr) (c : Nat) (p : Pl) (d : Option Addr) (e : Nat) (f : Option Addr) (g : Nat) (x : Bb) (m n : Nat) : List Value := [.slice a p.addrs.length c,iV p.low,iV p.high,iV p.most,iV p.filter,iV p.lv.udp,iV p.lv.echo,iV p.lv.opening,iV p.lv.opn,iV p.lv.closing,.slice d x.binds.length e,.slice f x.sess.length g,.map (some m),.map (some n)]
abbrev PlV (a : Option Addr) (c : Nat) (p : Pl) : List Value := [.slice a p.addrs.length c,iV p.low,iV p.high,iV p.most,iV p.filter,iV p.lv.udp,iV p.lv.echo,iV p.lv.opening,iV p.lv.opn,iV p.lv.closing]
abbrev BbV (d : Option Addr) (e : Nat) (f : Option Addr) (g : Nat) (x : Bb) : List Value := [.slice d x.binds.length e,.slice f x.sess.length g]
end Go.Proofs.YtcckaeppiamebaaGreatDoor
