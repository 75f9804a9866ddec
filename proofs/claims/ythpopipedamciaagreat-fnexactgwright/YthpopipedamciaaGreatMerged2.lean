import Derived.Test.YthpopipedamciaaGreatMerged1
import Derived.OwnWalk
import Derived.WalkKit
import Derived.PlainAid
import Derived.Laws.BitsLemmas
import Derived.Laws.Bits64
import Derived.Test.YthpopipedamciaaGreatProg
import Derived.WalkLawsBesides
import Derived.RegionTactic
import Derived.ChangeAlike
import Derived.Laws.IdiomStrings
import Derived.Deep.RegionWith
set_option linter.unusedVariables false
set_option linter.unusedSimpArgs false
set_option maxRecDepth 100000
set_option maxHeartbeats 8000000
namespace Go.Proofs.YthpopipedamciaaGreat
open Go.RowKit
theorem below_grown {n:Nat} {w w1 W:World} {B:Nat} (h:Below n w w1) (hg:w1.grownBy W (some B)) (hB:n≤B) (hn:n≤w1.heap.size:=by omega):Below n w W :=
 ⟨hg.os.trans h.os,hg.tape.trans h.tape,hg.output.trans h.output,Nat.le_trans h.size hg.size,fun k hk=>by rw [hg.block k (by omega) (by simp; omega),h.block k hk]⟩
section
variable {α:Type} (en:α→List Value) (n:Nat)
def flatS (xs:List α):List Value:=xs.flatMap en
def SlOwn (base:Nat) (w:World) (a:Option Addr) (xs:List α):Prop:=xs=[]∨∃ g,a=some ⟨g,0,none⟩∧base≤g∧SlLaid en n w g xs xs.length xs.length
def SlRet (w:World) (ys:List α):Ending→World→Prop:=fun e w'=>∃ a cap,e=.returned (.slice a ys.length cap)∧ys.length≤cap∧SlOwn en n w.heap.size w' a ys∧Below w.heap.size w w'
def MkOwn (em:Nat→List Value) (base:Nat) (w:World) (a:Option Addr) (k L:Nat):Prop:=L=0∨∃ g,a=some ⟨g,0,none⟩∧base≤g∧SlLaid em n w g ((List.range L).map fun i=>k+n*i) L L
structure Row (base:Nat) (e:TypeId) (v:Value) (xs:List α) (w0 w:World):Prop where
 own:w.ownsRow base e n v xs.length (flatS en xs)
 bel:Below base w0 w
end
section
variable {α:Type} {en:α→List Value} {n:Nat} {w w0 W:World} {base:Nat} {e:TypeId} {v:Value} {xs:List α}
theorem flatS_snoc (xs:List α) (q:α):flatS en (xs++[q])=flatS en xs++en q:=by
 unfold flatS; rw [List.flatMap_append]; simp
theorem flatS_get (hn:∀ x,(en x).length=n):∀ (xs:List α) (i:Nat) (h:i < xs.length) (j:Nat) (u:Value),(en xs[i])[j]?=some u→(flatS en xs)[i*n+j]?=some u
 | [],i,h,_,_,_=>by simp at h
 | x::xs,0,h,j,u,hu=>by
  have hj:=(List.getElem?_eq_some_iff.1 hu).1;unfold flatS;rw [List.flatMap_cons,Nat.zero_mul,Nat.zero_add,List.getElem?_append_left (by simpa using hj)];simpa using hu
 | x::xs,i+1,h,j,u,hu=>by
  have:=flatS_get hn xs i (by simpa using h) j u (by simpa using hu);unfold flatS at *;rw [List.flatMap_cons,List.getElem?_append_right (by rw [hn,Nat.succ_mul]; omega),hn];rw [show (i+1)*n+j-n=i*n+j by rw [Nat.succ_mul]; omega];exact this
theorem Row.kept (h:Row en n base e v xs w0 w) (hb:Below w.heap.size w W) (hl:base≤w.heap.size):Row en n base e v xs w0 W :=
 ⟨h.own.kept (grown_of_below (r:=none) hb) (by cases v.ownBlock<;>simp),h.bel.trans (hb.mono hl)⟩
theorem Row.append (h:Row en n base e v xs w0 w) {o:Obj} {q:α} {v':Value} (hl:base≤w.heap.size) (hown:W.ownsRow base e n v' (xs.length+1) (flatS en xs++en q)) (hgrow:(w.alloc o).grownBy W v.ownBlock):Row en n base e v' (xs++[q]) w0 W:=by
 have hlo:∀ k,v.ownBlock=some k→base≤k:=fun k hk=>(h.own.lt k hk).1
 refine ⟨by rw [flatS_snoc]; simpa using hown,?_⟩;have h1:Below base w0 (w.alloc o):=h.bel.alloc hl o;refine ⟨hgrow.os.trans h1.os,hgrow.tape.trans h1.tape,hgrow.output.trans h1.output,Nat.le_trans h1.size hgrow.size,fun k hk=>?_⟩;rw [hgrow.block k (Nat.lt_of_lt_of_le hk (Nat.le_trans hl (by simp))) (fun e2=>by have:=hlo k e2.symm; omega),h1.block k hk]
theorem Row.down (h:Row en n base e v xs w W) {b0:Nat} (hb:Below b0 w0 w) (hle:b0≤base):Row en n b0 e v xs w0 W:=by
 refine ⟨⟨h.own.1,?_⟩,hb.trans (h.bel.mono hle)⟩;rcases h.own.2 with h1 | ⟨g,cap,cur,h1,h2,h3⟩
 ·exact .inl h1
 ·exact .inr ⟨g,cap,cur,h1,Nat.le_trans hle h2,h3⟩
theorem Row.laid (hn:∀ x,(en x).length=n) {g cap:Nat} (h:w.ownsRow base e n (.slice (some ⟨g,0,none⟩) xs.length cap) xs.length (flatS en xs)):SlLaid en n w g xs xs.length xs.length:=by
 have hs:SlLaid en n w g xs xs.length 0:=SlLaid.start h;refine ⟨hs.blk,fun i hi _ j u hu=>?_,hs.there,hs.free⟩;have hj:j < n:=by have:=(List.getElem?_eq_some_iff.1 hu).1; rwa [hn] at this
 have hb:i*n+j < xs.length*n:=by have:=Nat.mul_le_mul_right n (show i+1≤xs.length from hi); rw [Nat.succ_mul] at this; omega
 rw [h.cellAt _ hb];exact flatS_get hn xs i hi j u hu
theorem Row.shape (hn:∀ x,(en x).length=n) (h:Row en n base e v xs w0 w):∃ a cap,v=.slice a xs.length cap∧xs.length≤cap∧SlOwn en n base w a xs:=by
 rcases h.own.2 with ⟨h1,h2⟩ | ⟨g,cap,cur,h1,hb,hg,hc,_⟩
 ·have hx:xs.length=0:=by simpa using h2
  exact ⟨none,0,by rw [h1,hx],by omega,.inl (List.length_eq_zero_iff.1 hx)⟩
 ·refine ⟨some ⟨g,0,none⟩,cap,h1,hc,.inr ⟨g,rfl,hb,?_⟩⟩;have:=h.own;rw [h1] at this;exact Row.laid hn this
theorem SlRet.nil {cap:Nat} {a:Option Addr} {v:Value} (hv:v=.slice a 0 cap) (h:Below w.heap.size w W):SlRet en n w [] (.returned v) W:=⟨a,cap,by rw [hv]; rfl,Nat.zero_le _,.inl rfl,h⟩
theorem SlRet.row (hn:∀ x,(en x).length=n) (h:Row en n w.heap.size e v xs w W):SlRet en n w xs (.returned v) W:=by
 obtain ⟨a,cap,h1,h2,h3⟩:=h.shape hn;exact ⟨a,cap,by rw [h1],h2,h3,h.bel⟩
theorem SlOwn.is {a:Option Addr} (h:SlOwn en n base w a xs):SlIs en n w a xs:=by
 rcases h with h | ⟨g,rfl,_,h⟩
 ·exact .inl h
 ·exact h.is
theorem SlOwn.grown {a:Option Addr} (h:SlOwn en n base w a xs) {B:Nat} (hg:w.grownBy W (some B)) (hB:B < base):SlOwn en n base W a xs:=by
 rcases h with h | ⟨g,rfl,h1,h⟩
 ·exact .inl h
 ·refine .inr ⟨g,rfl,h1,?_⟩;have hb:=hg.block g h.blk (by simp; omega);have hc:∀ o,W.cell? ⟨g,o,none⟩=w.cell? ⟨g,o,none⟩:=fun o=>by unfold World.cell?; rw [show (⟨g,o,none⟩ : Addr).block=g from rfl,hb]
  have hf:∀ o,W.frozen? ⟨g,o,none⟩=w.frozen? ⟨g,o,none⟩:=fun o=>World.frozen?_of_block (a:=⟨g,o,none⟩) hb
  exact ⟨Nat.lt_of_lt_of_le h.blk hg.size,fun i hi hk j u hu=>(hc _).trans (h.at0 i hi hk j u hu),fun i hi=>by rw [hc]; exact h.there i hi,fun i hi=>by rw [hf]; exact h.free i hi⟩
theorem MkOwn.kept {em:Nat→List Value} {a:Option Addr} {k L:Nat} (h:MkOwn n em base w a k L) (hb:Below w.heap.size w W):MkOwn n em base W a k L:=by
 rcases h with h | ⟨g,rfl,h1,h⟩
 ·exact .inl h
 ·exact .inr ⟨g,rfl,h1,h.kept hb⟩
theorem SlOwn.down {a:Option Addr} (h:SlOwn en n base w a xs) {b0:Nat} (hb:b0≤base):SlOwn en n b0 w a xs:=by
 rcases h with h | ⟨g,rfl,h1,h⟩
 ·exact .inl h
 ·exact .inr ⟨g,rfl,Nat.le_trans hb h1,h⟩
theorem SlOwn.kept {a:Option Addr} (h:SlOwn en n base w a xs) (hb:Below w.heap.size w W):SlOwn en n base W a xs:=by
 rcases h with h | ⟨g,rfl,h1,h⟩
 ·exact .inl h
 ·exact .inr ⟨g,rfl,h1,h.kept hb⟩
end
end Go.Proofs.YthpopipedamciaaGreat
namespace Go.Proofs.YthpopipedamciaaGreat
open Go.PlainAid
def isByte (f:Nat→Int):Prop:=∀ i,0≤f i∧f i≤255
theorem bt_isByte (s:ByteArray):isByte (bt s):=fun i=>⟨bt_nonneg s i,bt_le s i⟩
open Go.RowKit
def isW (n:Int):Bool:=decide (0≤n)&&decide (n≤65535)
theorem isW_yes {n:Int} (h0:0≤n) (h1:n≤65535):isW n=true:=by simp [isW,h0,h1]
theorem isW_no {n:Int} (h:¬ (0≤n∧n≤65535)):isW n=false:=by
 rw [Bool.eq_false_iff]; intro hh; simp [isW] at hh; exact h hh
theorem specWordIs_any (n:Int) (w:World) :
  Calls Tryz.prog 137 #[.int .i64 n] w fun e w'=>e=.returned (.bool (isW n))∧w'=w:=by
 by_cases h0:0≤n
 ·by_cases h1:n≤65535
  ·have HV:Hid (isW n=true):=isW_yes h0 h1;go_enter Tryz.func137,Tryz.ntmps137
   go_wp2
   go_ret;exact ⟨ret_bool HV.out.symm,rfl⟩
  ·have HV:Hid (isW n=false):=isW_no (fun h=>h1 h.2);go_enter Tryz.func137,Tryz.ntmps137
   go_wp2
   go_ret;exact ⟨ret_bool HV.out.symm,rfl⟩
 ·have HV:Hid (isW n=false):=isW_no (fun h=>h0 h.1);go_enter Tryz.func137,Tryz.ntmps137
  go_wp2
  go_ret;exact ⟨ret_bool HV.out.symm,rfl⟩
theorem implWordIs_any (n:Int) (w:World) :
  Calls Tryz.prog 152 #[.int .i64 n] w fun e w'=>e=.returned (.bool (isW n))∧w'=w:=by
 by_cases h0:0≤n
 ·by_cases h1:n≤65535
  ·have HV:Hid (isW n=true):=isW_yes h0 h1;go_enter Tryz.func152,Tryz.ntmps152
   go_wp2
   go_ret;exact ⟨ret_bool HV.out.symm,rfl⟩
  ·have HV:Hid (isW n=false):=isW_no (fun h=>h1 h.2);go_enter Tryz.func152,Tryz.ntmps152
   go_wp2
   go_ret;exact ⟨ret_bool HV.out.symm,rfl⟩
 ·have HV:Hid (isW n=false):=isW_no (fun h=>h0 h.1);go_enter Tryz.func152,Tryz.ntmps152
  go_wp2
  go_ret;exact ⟨ret_bool HV.out.symm,rfl⟩
def oneM (x:Nat):ByteArray:=⟨#[UInt8.ofNat x]⟩
def markA (k:Nat) (o:ByteArray):ByteArray:=if h:k=0 then o else markA (k / 10) (oneM (48+k % 10)++o)
termination_by k
decreasing_by omega
def emM:ByteArray:=⟨#[109]⟩
def markV (k:Nat):ByteArray:=emM++markA k ⟨#[]⟩
def marksOf (n k L:Nat):List Nat:=(List.range L).map fun i=>k+n*i
theorem marksOf_get (n k L i:Nat) (h:i < (marksOf n k L).length):(marksOf n k L)[i]=k+n*i:=by simp [marksOf]
structure MkSt (en:Nat→List Value) (n:Nat) (w0:World) (B k L m:Nat) (cs:List Value) (w:World):Prop where
 laid:SlLaid en n w B (marksOf n k L) L m
 part:w.rangeAt B (m*n) cs
 grown:w0.grownBy w (some B)
section
variable {en:Nat→List Value} {n:Nat} {w0 w w':World} {B k L m:Nat} {cs:List Value}
theorem MkSt.new (h:SlLaid en n w B (marksOf n k L) L m) (hg:w0.grownBy w (some B)):MkSt en n w0 B k L m [] w:=⟨h,fun j v hv=>by simp at hv,hg⟩
theorem MkSt.idx (hm:m < L) {j:Nat} (hj:j < n):m*n+j < L*n:=by
 have:=Nat.mul_le_mul_right n (show m+1≤L from hm); rw [Nat.succ_mul] at this; omega
theorem MkSt.put (h:MkSt en n w0 B k L m cs w) (hn:∀ x,(en x).length=n) (hc:cs.length < n) (hm:m < L) (v:Value):MkSt en n w0 B k L m (cs++[v]) (w.setCell ⟨B,m*n+cs.length,none⟩ v):=by
 have hix:=MkSt.idx hm hc;obtain ⟨x,hx⟩:=Option.isSome_iff_exists.1 (h.laid.there _ hix);have ho:∀ o,o≠m*n+cs.length→(w.setCell ⟨B,m*n+cs.length,none⟩ v).cell? ⟨B,o,none⟩=w.cell? ⟨B,o,none⟩:=fun o ho=>World.cell?_setCell_other _ _ _ _ (fun e=>ho (by injection e with _ e2; exact e2.symm))
 have hs:(w.setCell ⟨B,m*n+cs.length,none⟩ v).cell? ⟨B,m*n+cs.length,none⟩=some v:=World.cell?_setCell_same _ _ _ hx;refine ⟨⟨?_,fun i hi hk j u hu=>?_,fun i hi=>?_,fun i hi=>by rw [World.frozen?_setCell]; exact h.laid.free i hi⟩,fun j u hu=>?_,grown_set h.grown v⟩
 ·exact Nat.lt_of_lt_of_le h.laid.blk (((Below.refl 0 w).setCell (p:=⟨B,m*n+cs.length,none⟩) (Nat.zero_le _) v).size)
 ·have hj:=(List.getElem?_eq_some_iff.1 hu).1;rw [hn] at hj;have hle:i*n+n≤m*n:=by have:=Nat.mul_le_mul_right n (show i+1≤m by omega); rw [Nat.succ_mul] at this; exact this
  rw [ho _ (by omega)]; exact h.laid.at0 i hi hk j u hu
 ·by_cases e:i=m*n+cs.length
  ·rw [e,hs]; rfl
  ·rw [ho _ e]; exact h.laid.there i hi
 ·by_cases e:j < cs.length
  ·rw [List.getElem?_append_left e] at hu;rw [ho _ (by omega)]; exact h.part j u hu
  ·have hj:=(List.getElem?_eq_some_iff.1 hu).1;rw [List.length_append] at hj;have:j=cs.length:=by simp at hj; omega
   subst this;simp at hu;rw [hs,hu]
theorem MkSt.call (h:MkSt en n w0 B k L m cs w) (q:Below w.heap.size w w'):MkSt en n w0 B k L m cs w' :=
 ⟨h.laid.kept q,fun j v hv=>((bcell q).1 B _ h.laid.blk).trans (h.part j v hv),grown_trans h.grown (grown_of_below q)⟩
theorem MkSt.there (h:MkSt en n w0 B k L m cs w) (hm:m < L) {j:Nat} (hj:j < n):∃ v,w.cell? ⟨B,m*n+j,none⟩=some v:=Option.isSome_iff_exists.1 (h.laid.there _ (MkSt.idx hm hj))
theorem MkSt.free (h:MkSt en n w0 B k L m cs w) (hm:m < L) {j:Nat} (hj:j < n):w.frozen? ⟨B,m*n+j,none⟩=false:=h.laid.free _ (MkSt.idx hm hj)
theorem MkSt.next (hn:∀ x,(en x).length=n) (h:MkSt en n w0 B k L m cs w) (hc:cs=en (k+n*m)) (hm:m < L):SlLaid en n w B (marksOf n k L) L (m+1):=by
 refine ⟨h.laid.blk,fun i hi hk j v hv=>?_,h.laid.there,h.laid.free⟩;by_cases e:i=m
 ·subst e;rw [marksOf_get,← hc] at hv;exact h.part j v hv
 ·exact h.laid.at0 i hi (by omega) j v hv
end
end Go.Proofs.YthpopipedamciaaGreat
