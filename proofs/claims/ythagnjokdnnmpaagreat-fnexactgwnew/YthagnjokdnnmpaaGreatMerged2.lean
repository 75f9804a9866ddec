import Derived.Test.YthagnjokdnnmpaaGreatMerged1
import Derived.OwnWalk
import Derived.WalkKit
import Derived.PlainAid
import Derived.Laws.BitsLemmas
import Derived.Laws.Bits64
import Derived.Test.YthagnjokdnnmpaaGreatProg
import Derived.WalkLawsBesides
import Derived.RegionTactic
import Derived.ChangeAlike
import Derived.Laws.IdiomStrings
import Derived.Deep.RegionWith
import Derived.Deep.DeepCutAuto
set_option linter.unusedVariables false
set_option linter.unusedSimpArgs false
set_option maxRecDepth 100000
set_option maxHeartbeats 8000000
namespace Go.Proofs.YthagnjokdnnmpaaGreat
open Go.RowKit
theorem below_grown {n:Nat} {w w1 W:World} {B:Nat} (h:Below n w w1) (hg:w1.grownBy W (some B)) (hB:n≤B) (hn:n≤w1.heap.size:=by omega):Below n w W :=
 ⟨hg.os.trans h.os,hg.tape.trans h.tape,hg.output.trans h.output,Nat.le_trans h.size hg.size,fun k hk=>by rw [hg.block k (by omega) (by simp; omega),h.block k hk]⟩
section
variable {α:Type} (en:α→List Value) (n:Nat)
def flatS (xs:List α):List Value:=xs.flatMap en
def SlOwn (base:Nat) (w:World) (a:Option Addr) (xs:List α):Prop:=xs=[]∨∃ g,a=some ⟨g,0,none⟩∧base≤g∧SlLaid en n w g xs xs.length xs.length
def SlRet (w:World) (ys:List α):Ending→World→Prop:=fun e w'=>∃ a cap,e=.returned (.slice a ys.length cap)∧ys.length≤cap∧SlOwn en n w.heap.size w' a ys∧Below w.heap.size w w'
def MkOwn (em:Nat→List Value) (base:Nat) (w:World) (a:Option Addr) (k L:Nat):Prop:=L=0∨∃ g,a=some ⟨g,0,none⟩∧base≤g∧SlLaid em n w g ((List.range L).map fun i=>k+n*i) L L
structure Row (base:Nat) (e:TypeId) (v:Value) (xs:List α) (w0 w:World):Prop where
 own:w.ownsRow base e n v xs.length (flatS en xs)
 bel:Below base w0 w
end
section
variable {α:Type} {en:α→List Value} {n:Nat} {w w0 W:World} {base:Nat} {e:TypeId} {v:Value} {xs:List α}
theorem flatS_length (hn:∀ x,(en x).length=n):∀ xs:List α,(flatS en xs).length=xs.length*n
 | []=>by simp [flatS]
 | x::xs=>by
  have:=flatS_length hn xs;unfold flatS at *;rw [List.flatMap_cons,List.length_append,this,hn,List.length_cons,Nat.succ_mul]; omega
theorem flatS_snoc (xs:List α) (q:α):flatS en (xs++[q])=flatS en xs++en q:=by
 unfold flatS; rw [List.flatMap_append]; simp
theorem flatS_get (hn:∀ x,(en x).length=n):∀ (xs:List α) (i:Nat) (h:i < xs.length) (j:Nat) (u:Value),(en xs[i])[j]?=some u→(flatS en xs)[i*n+j]?=some u
 | [],i,h,_,_,_=>by simp at h
 | x::xs,0,h,j,u,hu=>by
  have hj:=(List.getElem?_eq_some_iff.1 hu).1;unfold flatS;rw [List.flatMap_cons,Nat.zero_mul,Nat.zero_add,List.getElem?_append_left (by simpa using hj)];simpa using hu
 | x::xs,i+1,h,j,u,hu=>by
  have:=flatS_get hn xs i (by simpa using h) j u (by simpa using hu);unfold flatS at *;rw [List.flatMap_cons,List.getElem?_append_right (by rw [hn,Nat.succ_mul]; omega),hn];rw [show (i+1)*n+j-n=i*n+j by rw [Nat.succ_mul]; omega];exact this
theorem flatS_cells (hn:∀ x,(en x).length=n) (hn0:0 < n) {b off:Nat} (h:SlAt en n w b off xs) (j:Nat) (u:Value) (hu:(flatS en xs)[j]?=some u):w.cell? ⟨b,off+j,none⟩=some u:=by
 have hj:=(List.getElem?_eq_some_iff.1 hu).1;rw [flatS_length hn] at hj;have hi:j / n < xs.length:=(Nat.div_lt_iff_lt_mul hn0).2 hj;have hr:j % n < (en xs[j / n]).length:=by rw [hn]; exact Nat.mod_lt _ hn0
 have h1:=flatS_get hn xs (j / n) hi (j % n) _ (List.getElem?_eq_getElem hr);have e:j / n*n+j % n=j:=by rw [Nat.mul_comm]; exact Nat.div_add_mod j n
 rw [e,hu] at h1;have h2:=h (j / n) hi (j % n) _ (List.getElem?_eq_getElem hr);rw [Nat.add_assoc,e] at h2;rw [h2,h1]
theorem Row.kept (h:Row en n base e v xs w0 w) (hb:Below w.heap.size w W) (hl:base≤w.heap.size):Row en n base e v xs w0 W :=
 ⟨h.own.kept (grown_of_below (r:=none) hb) (by cases v.ownBlock<;>simp),h.bel.trans (hb.mono hl)⟩
theorem Row.append (h:Row en n base e v xs w0 w) {o:Obj} {q:α} {v':Value} (hl:base≤w.heap.size) (hown:W.ownsRow base e n v' (xs.length+1) (flatS en xs++en q)) (hgrow:(w.alloc o).grownBy W v.ownBlock):Row en n base e v' (xs++[q]) w0 W:=by
 have hlo:∀ k,v.ownBlock=some k→base≤k:=fun k hk=>(h.own.lt k hk).1
 refine ⟨by rw [flatS_snoc]; simpa using hown,?_⟩;have h1:Below base w0 (w.alloc o):=h.bel.alloc hl o;refine ⟨hgrow.os.trans h1.os,hgrow.tape.trans h1.tape,hgrow.output.trans h1.output,Nat.le_trans h1.size hgrow.size,fun k hk=>?_⟩;rw [hgrow.block k (Nat.lt_of_lt_of_le hk (Nat.le_trans hl (by simp))) (fun e2=>by have:=hlo k e2.symm; omega),h1.block k hk]
theorem Row.down (h:Row en n base e v xs w W) {b0:Nat} (hb:Below b0 w0 w) (hle:b0≤base):Row en n b0 e v xs w0 W:=by
 refine ⟨⟨h.own.1,?_⟩,hb.trans (h.bel.mono hle)⟩;rcases h.own.2 with h1 | ⟨g,cap,cur,h1,h2,h3⟩
 ·exact .inl h1
 ·exact .inr ⟨g,cap,cur,h1,Nat.le_trans hle h2,h3⟩
theorem Row.laid (hn:∀ x,(en x).length=n) {g cap:Nat} (h:w.ownsRow base e n (.slice (some ⟨g,0,none⟩) xs.length cap) xs.length (flatS en xs)):SlLaid en n w g xs xs.length xs.length:=by
 have hs:SlLaid en n w g xs xs.length 0:=SlLaid.start h;refine ⟨hs.blk,fun i hi _ j u hu=>?_,hs.there,hs.free⟩;have hj:j < n:=by have:=(List.getElem?_eq_some_iff.1 hu).1; rwa [hn] at this
 have hb:i*n+j < xs.length*n:=by have:=Nat.mul_le_mul_right n (show i+1≤xs.length from hi); rw [Nat.succ_mul] at this; omega
 rw [h.cellAt _ hb];exact flatS_get hn xs i hi j u hu
theorem Row.shape (hn:∀ x,(en x).length=n) (h:Row en n base e v xs w0 w):∃ a cap,v=.slice a xs.length cap∧xs.length≤cap∧SlOwn en n base w a xs:=by
 rcases h.own.2 with ⟨h1,h2⟩ | ⟨g,cap,cur,h1,hb,hg,hc,_⟩
 ·have hx:xs.length=0:=by simpa using h2
  exact ⟨none,0,by rw [h1,hx],by omega,.inl (List.length_eq_zero_iff.1 hx)⟩
 ·refine ⟨some ⟨g,0,none⟩,cap,h1,hc,.inr ⟨g,rfl,hb,?_⟩⟩;have:=h.own;rw [h1] at this;exact Row.laid hn this
theorem SlRet.nil {cap:Nat} {a:Option Addr} {v:Value} (hv:v=.slice a 0 cap) (h:Below w.heap.size w W):SlRet en n w [] (.returned v) W:=⟨a,cap,by rw [hv]; rfl,Nat.zero_le _,.inl rfl,h⟩
theorem SlRet.row (hn:∀ x,(en x).length=n) (h:Row en n w.heap.size e v xs w W):SlRet en n w xs (.returned v) W:=by
 obtain ⟨a,cap,h1,h2,h3⟩:=h.shape hn;exact ⟨a,cap,by rw [h1],h2,h3,h.bel⟩
theorem SlOwn.is {a:Option Addr} (h:SlOwn en n base w a xs):SlIs en n w a xs:=by
 rcases h with h | ⟨g,rfl,_,h⟩
 ·exact .inl h
 ·exact h.is
theorem SlOwn.grown {a:Option Addr} (h:SlOwn en n base w a xs) {B:Nat} (hg:w.grownBy W (some B)) (hB:B < base):SlOwn en n base W a xs:=by
 rcases h with h | ⟨g,rfl,h1,h⟩
 ·exact .inl h
 ·refine .inr ⟨g,rfl,h1,?_⟩;have hb:=hg.block g h.blk (by simp; omega);have hc:∀ o,W.cell? ⟨g,o,none⟩=w.cell? ⟨g,o,none⟩:=fun o=>by unfold World.cell?; rw [show (⟨g,o,none⟩ : Addr).block=g from rfl,hb]
  have hf:∀ o,W.frozen? ⟨g,o,none⟩=w.frozen? ⟨g,o,none⟩:=fun o=>World.frozen?_of_block (a:=⟨g,o,none⟩) hb
  exact ⟨Nat.lt_of_lt_of_le h.blk hg.size,fun i hi hk j u hu=>(hc _).trans (h.at0 i hi hk j u hu),fun i hi=>by rw [hc]; exact h.there i hi,fun i hi=>by rw [hf]; exact h.free i hi⟩
theorem MkOwn.kept {em:Nat→List Value} {a:Option Addr} {k L:Nat} (h:MkOwn n em base w a k L) (hb:Below w.heap.size w W):MkOwn n em base W a k L:=by
 rcases h with h | ⟨g,rfl,h1,h⟩
 ·exact .inl h
 ·exact .inr ⟨g,rfl,h1,h.kept hb⟩
theorem SlOwn.down {a:Option Addr} (h:SlOwn en n base w a xs) {b0:Nat} (hb:b0≤base):SlOwn en n b0 w a xs:=by
 rcases h with h | ⟨g,rfl,h1,h⟩
 ·exact .inl h
 ·exact .inr ⟨g,rfl,Nat.le_trans hb h1,h⟩
theorem SlOwn.kept {a:Option Addr} (h:SlOwn en n base w a xs) (hb:Below w.heap.size w W):SlOwn en n base W a xs:=by
 rcases h with h | ⟨g,rfl,h1,h⟩
 ·exact .inl h
 ·exact .inr ⟨g,rfl,h1,h.kept hb⟩
end
end Go.Proofs.YthagnjokdnnmpaaGreat
namespace Go.Proofs.YthagnjokdnnmpaaGreat
open Go.PlainAid
def isByte (f:Nat→Int):Prop:=∀ i,0≤f i∧f i≤255
theorem bt_isByte (s:ByteArray):isByte (bt s):=fun i=>⟨bt_nonneg s i,bt_le s i⟩
open Go.RowKit
def isW (n:Int):Bool:=decide (0≤n)&&decide (n≤65535)
theorem isW_yes {n:Int} (h0:0≤n) (h1:n≤65535):isW n=true:=by simp [isW,h0,h1]
theorem isW_no {n:Int} (h:¬ (0≤n∧n≤65535)):isW n=false:=by
 rw [Bool.eq_false_iff]; intro hh; simp [isW] at hh; exact h hh
theorem specWordIs_any (n:Int) (w:World) :
  Calls Tryz.prog 142 #[.int .i64 n] w fun e w'=>e=.returned (.bool (isW n))∧w'=w:=by
 by_cases h0:0≤n
 ·by_cases h1:n≤65535
  ·have HV:Hid (isW n=true):=isW_yes h0 h1;go_enter Tryz.func142,Tryz.ntmps142
   go_wp2
   go_ret;exact ⟨ret_bool HV.out.symm,rfl⟩
  ·have HV:Hid (isW n=false):=isW_no (fun h=>h1 h.2);go_enter Tryz.func142,Tryz.ntmps142
   go_wp2
   go_ret;exact ⟨ret_bool HV.out.symm,rfl⟩
 ·have HV:Hid (isW n=false):=isW_no (fun h=>h0 h.1);go_enter Tryz.func142,Tryz.ntmps142
  go_wp2
  go_ret;exact ⟨ret_bool HV.out.symm,rfl⟩
theorem implWordIs_any (n:Int) (w:World) :
  Calls Tryz.prog 151 #[.int .i64 n] w fun e w'=>e=.returned (.bool (isW n))∧w'=w:=by
 by_cases h0:0≤n
 ·by_cases h1:n≤65535
  ·have HV:Hid (isW n=true):=isW_yes h0 h1;go_enter Tryz.func151,Tryz.ntmps151
   go_wp2
   go_ret;exact ⟨ret_bool HV.out.symm,rfl⟩
  ·have HV:Hid (isW n=false):=isW_no (fun h=>h1 h.2);go_enter Tryz.func151,Tryz.ntmps151
   go_wp2
   go_ret;exact ⟨ret_bool HV.out.symm,rfl⟩
 ·have HV:Hid (isW n=false):=isW_no (fun h=>h0 h.1);go_enter Tryz.func151,Tryz.ntmps151
  go_wp2
  go_ret;exact ⟨ret_bool HV.out.symm,rfl⟩
def oneM (x:Nat):ByteArray:=⟨#[UInt8.ofNat x]⟩
def markA (k:Nat) (o:ByteArray):ByteArray:=if h:k=0 then o else markA (k / 10) (oneM (48+k % 10)++o)
termination_by k
decreasing_by omega
theorem markA_zero (o:ByteArray):markA 0 o=o:=by rw [markA]; rfl
theorem markA_step {k:Nat} (h:0 < k) (o:ByteArray):markA k o=markA (k / 10) (oneM (48+k % 10)++o):=by rw [markA,dif_neg (by omega)]
def emM:ByteArray:=⟨#[109]⟩
def markV (k:Nat):ByteArray:=emM++markA k ⟨#[]⟩
theorem oneM_conv {w:World} {b cap:Nat} {x:Nat} (hx:x≤255) (h0:w.cell? ⟨b,0,none⟩=some (.int .u8 (x:Int))) :
  (convert 22 9 (.slice (some ⟨b,0,none⟩) 1 cap)).run Tryz.prog w=.ok (.string (oneM x)) w :=
 run_convert_bytes_back (P:=Tryz.prog) w 22 9 5 ⟨b,0,none⟩ cap [UInt8.ofNat x] Tryz.underlying22 Tryz.underlying5 Tryz.underlying9 (by
  intro j hj;match j,hj with
  | 0,_=>simp only [Addr.add,Nat.add_zero,List.getElem_cons_zero]; rw [UInt8.toNat_ofNat',Nat.mod_eq_of_lt (by omega)]; exact h0)
theorem markText_any (k:Nat) (w:World) (hk:0 < k) (hk2:k≤1073741824) :
  Calls Tryz.prog 56 #[.int .i64 k] w fun e w'=>e=.returned (.string (markV k))∧Below w.heap.size w w':=by
 have HV:Hid (markV k=emM++markA k ⟨#[]⟩):=rfl;generalize markV k=ans at *;go_enter Tryz.func56,Tryz.ntmps56
 go_wp2_with fail
 go_loopw [0,3] (fun kv ov wr=>∃ (m:Nat) (o:ByteArray),kv=.int .i64 m∧ov=.string o∧markA m o=markA k ⟨#[]⟩∧m*2 ^ o.size≤k∧m≤1073741824∧o.size≤31∧Below w.heap.size w wr) (fun kv _ _=>(intOf kv).toNat)
 case atStart=>exact ⟨k,⟨#[]⟩,rfl,rfl,rfl,by simp [ByteArray.size],hk2,by simp [ByteArray.size],Below.refl _ _⟩
 case round =>
  obtain ⟨m,o,rfl,rfl,hm,hb,hm2,ho,hbel⟩:=hrel;have HM:Hid (markA m o=markA k ⟨#[]⟩):=hm;have HB:Hid (m*2 ^ o.size≤k):=hb;have HL:Hid (Below w.heap.size w wr):=hbel;clear hm hb hbel;by_cases h0:0 < m
  ·have hcv:(convert 22 9 (.slice (some ⟨wr.heap.size,0,none⟩) 1 1)).run Tryz.prog (wr.alloc (.cells #[.int .u8 (48+(m:Int) % 10)] 5))=.ok (.string (oneM (48+m % 10))) (wr.alloc (.cells #[.int .u8 (48+(m:Int) % 10)] 5)) :=
    oneM_conv (by omega) (by simp)
   have ho2:o.size≤30:=by
    by_cases hx:o.size≤30
    ·exact hx
    ·have h1:2 ^ 31≤2 ^ o.size:=Nat.pow_le_pow_right (by omega) (by omega);have h2:1*2 ^ o.size≤m*2 ^ o.size:=Nat.mul_le_mul_right _ h0;have:=HB.out;omega
   have HB2:Hid (m / 10*2 ^ (o.size+1)≤k):=by
    have h1:m / 10*2≤m:=by omega
    have h2:=Nat.mul_le_mul_right (2 ^ o.size) h1;have h3:=HB.out;unfold Hid;rw [Nat.pow_succ,Nat.mul_comm (2 ^ o.size) 2,← Nat.mul_assoc];omega
   have z1:(oneM (48+m % 10)).size=1:=rfl;have n1:¬ 9223372036854775807 < (oneM (48+m % 10)).size+o.size:=by omega
   have HM2:Hid (markA (m / 10) (oneM (48+m % 10)++o)=markA k ⟨#[]⟩):=by unfold Hid; rw [← HM.out,markA_step h0]
   have z2:(oneM (48+m % 10)++o).size=o.size+1:=by rw [ByteArray.size_append]; omega
   have hlt:m / 10 < m:=by omega
   generalize oneM (48+m % 10)=u at *;go_wp2_with fail
   go_roundw
   case rel=>exact ⟨m / 10,u++o,by go_num,rfl,HM2.out,by rw [z2]; exact HB2.out,by omega,by omega,HL.out.alloc HL.out.size _⟩
   case measure=>simp [intOf]; omega
  ·obtain rfl:m=0:=by omega
   have HO:Hid (ans=⟨#[109]⟩++o):=by unfold Hid; rw [HV.out,← HM.out,markA_zero]; rfl
   go_wp2_with fail
   go_ret;exact ⟨ret_string HO.out.symm,HL.out⟩
def marksOf (n k L:Nat):List Nat:=(List.range L).map fun i=>k+n*i
theorem marksOf_length (n k L:Nat):(marksOf n k L).length=L:=by simp [marksOf]
theorem marksOf_get (n k L i:Nat) (h:i < (marksOf n k L).length):(marksOf n k L)[i]=k+n*i:=by simp [marksOf]
structure MkSt (en:Nat→List Value) (n:Nat) (w0:World) (B k L m:Nat) (cs:List Value) (w:World):Prop where
 laid:SlLaid en n w B (marksOf n k L) L m
 part:w.rangeAt B (m*n) cs
 grown:w0.grownBy w (some B)
section
variable {en:Nat→List Value} {n:Nat} {w0 w w':World} {B k L m:Nat} {cs:List Value}
theorem MkSt.new (h:SlLaid en n w B (marksOf n k L) L m) (hg:w0.grownBy w (some B)):MkSt en n w0 B k L m [] w:=⟨h,fun j v hv=>by simp at hv,hg⟩
theorem MkSt.idx (hm:m < L) {j:Nat} (hj:j < n):m*n+j < L*n:=by
 have:=Nat.mul_le_mul_right n (show m+1≤L from hm); rw [Nat.succ_mul] at this; omega
theorem MkSt.put (h:MkSt en n w0 B k L m cs w) (hn:∀ x,(en x).length=n) (hc:cs.length < n) (hm:m < L) (v:Value):MkSt en n w0 B k L m (cs++[v]) (w.setCell ⟨B,m*n+cs.length,none⟩ v):=by
 have hix:=MkSt.idx hm hc;obtain ⟨x,hx⟩:=Option.isSome_iff_exists.1 (h.laid.there _ hix);have ho:∀ o,o≠m*n+cs.length→(w.setCell ⟨B,m*n+cs.length,none⟩ v).cell? ⟨B,o,none⟩=w.cell? ⟨B,o,none⟩:=fun o ho=>World.cell?_setCell_other _ _ _ _ (fun e=>ho (by injection e with _ e2; exact e2.symm))
 have hs:(w.setCell ⟨B,m*n+cs.length,none⟩ v).cell? ⟨B,m*n+cs.length,none⟩=some v:=World.cell?_setCell_same _ _ _ hx;refine ⟨⟨?_,fun i hi hk j u hu=>?_,fun i hi=>?_,fun i hi=>by rw [World.frozen?_setCell]; exact h.laid.free i hi⟩,fun j u hu=>?_,grown_set h.grown v⟩
 ·exact Nat.lt_of_lt_of_le h.laid.blk (((Below.refl 0 w).setCell (p:=⟨B,m*n+cs.length,none⟩) (Nat.zero_le _) v).size)
 ·have hj:=(List.getElem?_eq_some_iff.1 hu).1;rw [hn] at hj;have hle:i*n+n≤m*n:=by have:=Nat.mul_le_mul_right n (show i+1≤m by omega); rw [Nat.succ_mul] at this; exact this
  rw [ho _ (by omega)]; exact h.laid.at0 i hi hk j u hu
 ·by_cases e:i=m*n+cs.length
  ·rw [e,hs]; rfl
  ·rw [ho _ e]; exact h.laid.there i hi
 ·by_cases e:j < cs.length
  ·rw [List.getElem?_append_left e] at hu;rw [ho _ (by omega)]; exact h.part j u hu
  ·have hj:=(List.getElem?_eq_some_iff.1 hu).1;rw [List.length_append] at hj;have:j=cs.length:=by simp at hj; omega
   subst this;simp at hu;rw [hs,hu]
theorem MkSt.call (h:MkSt en n w0 B k L m cs w) (q:Below w.heap.size w w'):MkSt en n w0 B k L m cs w' :=
 ⟨h.laid.kept q,fun j v hv=>((bcell q).1 B _ h.laid.blk).trans (h.part j v hv),grown_trans h.grown (grown_of_below q)⟩
theorem MkSt.there (h:MkSt en n w0 B k L m cs w) (hm:m < L) {j:Nat} (hj:j < n):∃ v,w.cell? ⟨B,m*n+j,none⟩=some v:=Option.isSome_iff_exists.1 (h.laid.there _ (MkSt.idx hm hj))
theorem MkSt.free (h:MkSt en n w0 B k L m cs w) (hm:m < L) {j:Nat} (hj:j < n):w.frozen? ⟨B,m*n+j,none⟩=false:=h.laid.free _ (MkSt.idx hm hj)
theorem MkSt.next (hn:∀ x,(en x).length=n) (h:MkSt en n w0 B k L m cs w) (hc:cs=en (k+n*m)) (hm:m < L):SlLaid en n w B (marksOf n k L) L (m+1):=by
 refine ⟨h.laid.blk,fun i hi hk j v hv=>?_,h.laid.there,h.laid.free⟩;by_cases e:i=m
 ·subst e;rw [marksOf_get,← hc] at hv;exact h.part j v hv
 ·exact h.laid.at0 i hi (by omega) j v hv
end
theorem markText_at (x:Int) (y:Nat) (w:World) (h:x=(y:Int)) (h0:0 < y) (h1:y≤1073741824) :
  Calls Tryz.prog 56 #[.int .i64 x] w fun e w'=>e=.returned (.string (markV y))∧Below w.heap.size w w':=by
 subst h; exact markText_any y w h0 h1
section
variable {t:ByteArray} {j K:Nat} {n:Int}
end
structure P4 where
 tos:Int
 id:Int
 whole:Bool
 more:Bool
 off:Int
 ttl:Int
 proto:Int
 src:ByteArray
 dst:ByteArray
 opts:ByteArray
 data:ByteArray
structure P6 where
 cls:Int
 flow:Int
 next:Int
 hops:Int
 src:ByteArray
 dst:ByteArray
 piece:Bool
 more:Bool
 off:Int
 id:Int
 data:ByteArray
def isIn (n lo hi:Int):Bool:=decide (lo≤n)&&decide (n≤hi)
theorem isIn_parts {n lo hi:Int} (h:isIn n lo hi=true):lo≤n∧n≤hi:=by simpa [isIn] using h
def hlen (p:P4):Int:=20+p.opts.size
end Go.Proofs.YthagnjokdnnmpaaGreat
namespace Go.Proofs.YthagnjokdnnmpaaGreat
open Go.RowKit
structure Bd where
 proto:Int
 inn:ByteArray
 inPort:Int
 out:ByteArray
 outPort:Int
def bdC (p:Bd):Value:=.agg #[.int .i64 p.proto,.string p.inn,.int .i64 p.inPort,.string p.out,.int .i64 p.outPort]
def bdL (p:Bd):List Value:=[.int .i64 p.proto,.string p.inn,.int .i64 p.inPort,.string p.out,.int .i64 p.outPort]
theorem bdL_length (p:Bd):(bdL p).length=5:=rfl
instance:Inhabited Bd:=⟨⟨0,⟨#[]⟩,0,⟨#[]⟩,0⟩⟩
structure Ss where
 proto:Int
 inn:ByteArray
 inPort:Int
 peer:ByteArray
 peerPort:Int
 state:Int
 untl:Int
def ssC (p:Ss):Value:=.agg #[.int .i64 p.proto,.string p.inn,.int .i64 p.inPort,.string p.peer,.int .i64 p.peerPort,.int .i64 p.state,.int .i64 p.untl]
def ssL (p:Ss):List Value:=[.int .i64 p.proto,.string p.inn,.int .i64 p.inPort,.string p.peer,.int .i64 p.peerPort,.int .i64 p.state,.int .i64 p.untl]
theorem ssL_length (p:Ss):(ssL p).length=7:=rfl
instance:Inhabited Ss:=⟨⟨0,⟨#[]⟩,0,⟨#[]⟩,0,0,0⟩⟩
structure Tc where
 proto:Int
 inside:Bool
 addr:ByteArray
 port:Int
 peer:ByteArray
 peerPort:Int
 flags:Int
structure Lv where
 udp:Int
 echo:Int
 opening:Int
 opn:Int
 closing:Int
def lvC (l:Lv):Value:=.agg #[.int .i64 l.udp,.int .i64 l.echo,.int .i64 l.opening,.int .i64 l.opn,.int .i64 l.closing]
def livesOk (l:Lv):Bool:=isIn l.udp 1 10000&&isIn l.echo 1 10000&&isIn l.opening 1 10000&&isIn l.opn 1 10000&&isIn l.closing 1 10000
def stillP (proto:Int):Bool:=decide (proto=17)||decide (proto=1)
open Go.PlainAid
def addrOk (s:ByteArray):Bool:=s.size==4||s.size==16
theorem addrOk_size {s:ByteArray} (h:addrOk s=true):s.size=4∨s.size=16:=by simpa [addrOk] using h
theorem addrOk_yes {s:ByteArray} (h:s.size=4∨s.size=16):addrOk s=true:=by simpa [addrOk] using h
theorem addrOk_no {s:ByteArray} (h:¬ (s.size=4∨s.size=16)):addrOk s=false:=by
 rw [Bool.eq_false_iff]; intro hh; exact h (addrOk_size hh)
theorem specAddrRight_any (s:ByteArray) (w:World) :
  Calls Tryz.prog 137 #[.string s] w fun e w'=>e=.returned (.bool (addrOk s))∧w'=w:=by
 by_cases h4:s.size=4
 ·have HV:Hid (addrOk s=true):=addrOk_yes (.inl h4);have h4':(s.size:Int)=4:=by omega
  clear h4;go_enter Tryz.func137,Tryz.ntmps137
  go_wp2
  go_ret;exact ⟨ret_bool HV.out.symm,rfl⟩
 ·by_cases h16:s.size=16
  ·have HV:Hid (addrOk s=true):=addrOk_yes (.inr h16);have h16':(s.size:Int)=16:=by omega
   clear h16 h4;go_enter Tryz.func137,Tryz.ntmps137
   go_wp2
   go_ret;exact ⟨ret_bool HV.out.symm,rfl⟩
  ·have HV:Hid (addrOk s=false):=addrOk_no (by omega);have e1:((s.size:Int)==4)=false:=by simp; omega
   have e2:((s.size:Int)==16)=false:=by simp; omega
   go_enter Tryz.func137,Tryz.ntmps137
   go_wp2
   go_ret;exact ⟨ret_bool HV.out.symm,rfl⟩
theorem specBits_any (s:ByteArray) (w:World) (hs:s.size≤1048576) :
  Calls Tryz.prog 109 #[.string s] w fun e w'=>e=.returned (.int .i64 (8*(s.size:Int)))∧w'=w:=by
 go_enter Tryz.func109,Tryz.ntmps109
 go_wp2
 go_ret;exact ⟨rfl,rfl⟩
theorem and_1 (n:Int):bits .and .i64 n 1=n % 2:=by
 have h127:(BitVec.ofInt 64 1).toNat=2 ^ 1-1:=by decide
 have key:(BitVec.ofInt 64 n &&& BitVec.ofInt 64 1).toNat=(n % ((2 ^ 64:Nat):Int)).toNat % 2 ^ 1:=by
  rw [BitVec.toNat_and,BitVec.toNat_ofInt,h127,Nat.and_two_pow_sub_one_eq_mod]
 show IntKind.i64.wrap ((BitVec.ofInt 64 n &&& BitVec.ofInt 64 1).toNat:Nat)=n % 2;rw [key,IntKind.wrap_i64];omega
theorem bit_of (x:Int) (m:Nat) (h0:0≤x) (h1:x≤255):bits .and .i64 (wrap64 (x / 2 ^ m)) 1=x / 2 ^ m % 2:=by
 have a0:0≤x / 2 ^ m:=Int.ediv_nonneg h0 (Int.le_of_lt (Int.pow_pos (by decide)));have a1:x / 2 ^ m≤x:=Int.ediv_le_self _ h0;rw [IntWalk.wrap64_in _ ⟨by omega,by omega⟩,and_1]
def bitN (f:Nat→Int) (k:Nat):Int:=f (k / 8) / 2 ^ (7-k % 8) % 2
theorem bitN_range (f:Nat→Int) (k:Nat):0≤bitN f k∧bitN f k≤1:=by unfold bitN; omega
theorem specBit_any (s:ByteArray) (k:Nat) (w:World) (hk:k < 8*s.size) (hs:s.size≤1048576) :
  Calls Tryz.prog 138 #[.string s,.int .i64 k] w fun e w'=>e=.returned (.int .i64 (bitN (bt s) k))∧w'=w:=by
 have hb:=get_bt s;have b1:=bt_isByte s (k / 8);have HB:Hid _:=bit_of (bt s (k / 8)) (7-k % 8) b1.1 b1.2;go_enter Tryz.func138,Tryz.ntmps138
 go_wp2
 go_ret;exact ⟨ret_int HB.out,rfl⟩
end Go.Proofs.YthagnjokdnnmpaaGreat
namespace Go.Proofs.YthagnjokdnnmpaaGreat
open Go.RowKit
structure Pl where
 addrs:List ByteArray
 low:Int
 high:Int
 most:Int
 filter:Int
 lv:Lv
def plL (a:Option Addr) (cap:Nat) (p:Pl):List Value:=[.slice a p.addrs.length cap,.int .i64 p.low,.int .i64 p.high,.int .i64 p.most,.int .i64 p.filter,.int .i64 p.lv.udp,.int .i64 p.lv.echo,.int .i64 p.lv.opening,.int .i64 p.lv.opn,.int .i64 p.lv.closing]
def plC (a:Option Addr) (cap:Nat) (p:Pl):Value:=.agg #[.slice a p.addrs.length cap,.int .i64 p.low,.int .i64 p.high,.int .i64 p.most,.int .i64 p.filter,.int .i64 p.lv.udp,.int .i64 p.lv.echo,.int .i64 p.lv.opening,.int .i64 p.lv.opn,.int .i64 p.lv.closing]
structure Bb where
 binds:List Bd
 sess:List Ss
def bbC (a b:Option Addr) (ca cb:Nat) (x:Bb):Value:=.agg #[.slice a x.binds.length ca,.slice b x.sess.length cb]
def strL1 (s:ByteArray):List Value:=[.string s]
def protoB (proto:Int):Bool:=decide (proto=6)||decide (proto=17)||decide (proto=1)
def inL (xs:List ByteArray) (s:ByteArray):Bool:=xs.any fun t=>decide (t.toList=s.toList)
def findI {α:Type} (f:α→Bool) (xs:List α):Int:=match xs.findIdx? f with | some i=>i | none=>-1
def ofIn (proto:Int) (s:ByteArray) (port:Int) (q:Bd):Bool:=decide (q.proto=proto)&&decide (q.inn.toList=s.toList)&&decide (q.inPort=port)
def ofOut (proto:Int) (s:ByteArray) (port:Int) (q:Bd):Bool:=decide (q.proto=proto)&&decide (q.out.toList=s.toList)&&decide (q.outPort=port)
def hasS (p:Bd) (q:Ss):Bool:=decide (p.proto=q.proto)&&decide (p.inn.toList=q.inn.toList)&&decide (p.inPort=q.inPort)
def upN {α:Type} (f:List α→α→Bool) (xs:List α):Nat→Bool
 | 0=>true
 | n+1=>upN f xs n&&(match xs[n]? with | some x=>f (xs.take n) x | none=>true)
theorem upN_step {α:Type} {f:List α→α→Bool} {xs:List α} {n:Nat} (h:n < xs.length):upN f xs (n+1)=(upN f xs n&&f (xs.take n) xs[n]):=by
 show (upN f xs n&&_)=_;rw [List.getElem?_eq_getElem h]
theorem upN_false {α:Type} {f:List α→α→Bool} {xs:List α}:∀ {m n:Nat},n≤m→upN f xs n=false→upN f xs m=false
 | 0,n,h,hf=>by have e:n=0:=(by omega); rw [e] at hf; exact hf
 | m+1,n,h,hf=>by
  by_cases e:n=m+1
  ·subst e; exact hf
  ·show (upN f xs m&&_)=false;rw [upN_false (m:=m) (n:=n) (by omega) hf]; rfl
theorem upN_at {α:Type} {f:List α→α→Bool} {xs:List α} {i:Nat} (h:i < xs.length) (hf:f (xs.take i) xs[i]=false):upN f xs xs.length=false:=by
 refine upN_false (n:=i+1) (by omega) ?_;rw [upN_step h,hf,Bool.and_false]
def addrOne (ys:List ByteArray) (s:ByteArray):Bool:=decide (s.size=4)&&!inL ys s
def poolOk (p:Pl):Bool:=decide (1≤p.addrs.length)&&decide (p.addrs.length≤8)&&decide (1≤p.low)&&decide (p.low≤p.high)&&decide (p.high≤65535)&&isIn p.most 1 60&&isIn p.filter 0 2&&livesOk p.lv&&upN addrOne p.addrs p.addrs.length
def clashB (c b:Bd):Bool:=(decide (c.inn.toList=b.inn.toList)&&!decide (c.out.toList=b.out.toList))||(decide (c.proto=b.proto)&&((decide (c.inn.toList=b.inn.toList)&&decide (c.inPort=b.inPort))||(decide (c.out.toList=b.out.toList)&&decide (c.outPort=b.outPort))))
def bindOne (p:Pl) (ys:List Bd) (b:Bd):Bool:=protoB b.proto&&addrOk b.inn&&isW b.inPort&&inL p.addrs b.out&&isIn b.outPort p.low p.high&&!ys.any fun c=>clashB c b
def sameS (s t:Ss):Bool:=decide (s.proto=t.proto)&&decide (s.inn.toList=t.inn.toList)&&decide (s.inPort=t.inPort)&&decide (s.peer.toList=t.peer.toList)&&decide (s.peerPort=t.peerPort)
def sessOne (bs:List Bd) (ys:List Ss) (s:Ss):Bool:=decide (s.peer.size=4)&&isW s.peerPort&&isIn s.state 1 7&&(decide (s.proto=6)||decide (s.state=3))&&isIn s.untl 0 2000000000&&decide (0≤findI (ofIn s.proto s.inn s.inPort) bs)&&!ys.any fun t=>sameS s t
def bibOk (p:Pl) (b:Bb):Bool:=poolOk p&&decide ((b.sess.length:Int)≤p.most)&&decide (b.binds.length≤60)&&upN (bindOne p) b.binds b.binds.length&&upN (sessOne b.binds) b.sess b.sess.length&&b.binds.all fun x=>b.sess.any fun s=>hasS x s
end Go.Proofs.YthagnjokdnnmpaaGreat
