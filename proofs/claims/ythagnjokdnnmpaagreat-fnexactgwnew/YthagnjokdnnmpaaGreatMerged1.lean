import Derived.WalkKit
import Derived.Deep.QuietTactic
import Derived.ChangeArms
import Derived.WideShapes
import Derived.ChangeShapes
import Derived.Deep.Slices
import Derived.Deep.MidRow
import Derived.OwnWalk
import Derived.WalkLawsBesides
import Derived.Lib.LazyBuf
set_option linter.unusedVariables false
set_option linter.unusedSimpArgs false
set_option maxRecDepth 100000
set_option maxHeartbeats 8000000
namespace Go.Proofs.YthagnjokdnnmpaaGreat
open Go.RowKit
theorem ret_int {k:IntKind} {a b:Int} (h:a=b):Ending.returned (.int k a)=.returned (.int k b):=by rw [h]
theorem ret_bool {a b:Bool} (h:a=b):Ending.returned (.bool a)=.returned (.bool b):=by rw [h]
theorem ret_string {a b:ByteArray} (h:a=b):Ending.returned (.string a)=.returned (.string b):=by rw [h]
theorem grown_trans {w w1 w2:World} {r:Option Nat} (h:w.grownBy w1 r) (h2:w1.grownBy w2 r):w.grownBy w2 r :=
 ⟨h2.os.trans h.os,h2.tape.trans h.tape,h2.output.trans h.output,Nat.le_trans h.size h2.size,fun k hk hne=>(h2.block k (Nat.lt_of_lt_of_le hk h.size) hne).trans (h.block k hk hne)⟩
theorem grown_set {w w1:World} {B o:Nat} (h:w.grownBy w1 (some B)) (v:Value):w.grownBy (w1.setCell ⟨B,o,none⟩ v) (some B) :=
 ⟨h.os,h.tape,h.output,by rw [World.size_setCell]; exact h.size,fun k hk hne=>(Below.heap_setCell w1 _ v k (fun e=>hne (by rw [e]))).trans (h.block k hk hne)⟩
theorem grown_of_below {w w1:World} {r:Option Nat} (h:Below w.heap.size w w1):w.grownBy w1 r:=⟨h.os,h.tape,h.output,h.size,fun k hk _=>h.block k hk⟩
theorem bcell {W w1:World} (hb:Below W.heap.size W w1):(∀ b o,b < W.heap.size→w1.cell? ⟨b,o,none⟩=W.cell? ⟨b,o,none⟩)∧(∀ b o,b < W.heap.size→w1.frozen? ⟨b,o,none⟩=W.frozen? ⟨b,o,none⟩) :=
 ⟨fun b o h=>hb.cell (p:=⟨b,o,none⟩) h,fun b o h=>hb.frozen (p:=⟨b,o,none⟩) h⟩
theorem below_undrew {B:Nat} {w w4:World} (h:Below B w.drew w4):Below B w w4:=⟨h.os,h.tape,h.output,h.size,h.block⟩
open Go.ChangeShapes Go.WideShapes
def In64t (n:Int):Prop:=-9223372036854775808≤n∧n≤9223372036854775807
theorem wf64s {n:Int} (h:(Lit.int .i64 n).wf=true) : -9223372036854775808≤n∧n≤9223372036854775807:=by
 have:=h; simp [Lit.wf] at this; exact ⟨this.1,this.2⟩
def szN:List Nat→Int→Int
 | [],left=>left
 | n::l,left=>if left < (n:Int) then -1 else szN l (left-n)
theorem szN_yes {n:Nat} {l:List Nat} {left:Int} (h:left < (n:Int)):szN (n::l) left=-1:=if_pos h
theorem szN_no {n:Nat} {l:List Nat} {left:Int} (h:¬ left < (n:Int)):szN (n::l) left=szN l (left-n):=if_neg h
theorem szN_bound:∀ (ns:List Nat) (left:Int),0≤szN ns left→∀ q∈ns,(q:Int)≤left
 | [],_,_,q,hq=>by simp at hq
 | p::l,left,h,q,hq=>by
  unfold szN at h;split at h
  ·omega
  ·simp only [List.mem_cons] at hq;rcases hq with rfl | hq
   ·omega
   ·have:=szN_bound l _ h q hq; omega
theorem cell_new {w:World} {cs:Array Value} {t:TypeId} {j:Nat} {v:Value} (h:cs[j]?=some v):(w.alloc (.cells cs t)).cell? ⟨w.heap.size,j,none⟩=some v:=by
 simp [h]
section
variable {H:Type} {enc:TypeId × Value→H} {P:Program} {w:World} {base:Nat} {spare:Nat→Bool} {held:Bool}
theorem flat_field {t:TypeId} {fs:Array Field} {n:Nat} {cs:List Value} {x:DataW H × List MemPlace} (ht:P.underlying t=some (.struct fs)) (h:DataW.trod enc P w base spare held n t cs=some x) (i:Nat) (f:Field) (hf:fs[i]?=some f) (ho:f.offset=i) (hc:P.cellsOf f.type=1) (c:Value) (hcs:cs[i]?=some c) :
  ∃ m y,DataW.trod enc P w base spare held m f.type [c]=some y:=by
 obtain ⟨xs,m,_,_,hl,hx,hg⟩:=DataW.trod_struct ht h;have h1:=hg i f hf;rw [ho,hc] at h1;have hi:i < xs.length:=by rw [hx]; exact (Array.getElem?_eq_some_iff.mp hf).1
 rw [List.getElem?_eq_getElem hi] at h1;obtain ⟨hlt,hcc⟩:=List.getElem?_eq_some_iff.mp hcs;have h2:(cs.drop i).take 1=[c]:=by rw [List.drop_eq_getElem_cons hlt,hcc]; rfl
 rw [h2] at h1;exact ⟨m,_,h1⟩
end
section
variable {α:Type} (en:α→List Value) (n:Nat)
def SlAt (w:World) (b off:Nat) (xs:List α):Prop:=∀ i (h:i < xs.length),w.rangeAt b (off+i*n) (en xs[i])
def SlIs (w:World) (a:Option Addr) (xs:List α):Prop:=xs=[]∨∃ b off,a=some ⟨b,off,none⟩∧b < w.heap.size∧SlAt en n w b off xs
structure SlLaid (w:World) (B:Nat) (xs:List α) (L k:Nat):Prop where
 blk:B < w.heap.size
 at0:∀ i (h:i < xs.length),i < k→w.rangeAt B (i*n) (en xs[i])
 there:∀ i,i < L*n→(w.cell? ⟨B,i,none⟩).isSome=true
 free:∀ i,i < L*n→w.frozen? ⟨B,i,none⟩=false
end
section
variable {α:Type} {en:α→List Value} {n:Nat} {w W:World}
theorem SlAt.below {b off:Nat} {xs:List α} (h:SlAt en n w b off xs) {m:Nat} (hb:b < m) (hB:Below m w W):SlAt en n W b off xs :=
 fun i hi j v hv=>(hB.cell (p:=⟨b,off+i*n+j,none⟩) hb).trans (h i hi j v hv)
theorem SlIs.below {a:Option Addr} {xs:List α} (h:SlIs en n w a xs) (hB:Below w.heap.size w W):SlIs en n W a xs:=by
 rcases h with h | ⟨b,off,ha,hb,hr⟩
 ·exact .inl h
 ·exact .inr ⟨b,off,ha,Nat.lt_of_lt_of_le hb hB.size,hr.below hb hB⟩
theorem SlIs.grown {a:Option Addr} {xs:List α} (h:SlIs en n w a xs) {B:Nat} (hg:w.grownBy W (some B)) (hne:xs=[]∨∀ g o,a=some ⟨g,o,none⟩→g≠B):SlIs en n W a xs:=by
 rcases h with h | ⟨b,off,ha,hb,hr⟩
 ·exact .inl h
 ·rcases hne with h0 | hne
  ·exact .inl h0
  ·have hbl:=hg.block b hb (by simp; exact hne b off ha);refine .inr ⟨b,off,ha,Nat.lt_of_lt_of_le hb hg.size,fun i hi j v hv=>?_⟩;have hc:∀ o,W.cell? ⟨b,o,none⟩=w.cell? ⟨b,o,none⟩:=fun o=>by unfold World.cell?; rw [show (⟨b,o,none⟩ : Addr).block=b from rfl,hbl]
   exact (hc _).trans (hr i hi j v hv)
theorem SlIs.at {a:Option Addr} {xs:List α} (h:SlIs en n w a xs) {k:Nat} (hk:k < xs.length):∃ b off,a=some ⟨b,off,none⟩∧b < w.heap.size∧SlAt en n w b off xs:=by
 rcases h with h | h
 ·rw [h] at hk; simp at hk
 ·exact h
theorem SlLaid.at {B:Nat} {xs:List α} {L:Nat} (h:SlLaid en n w B xs L xs.length):SlAt en n w B 0 xs:=fun i hi=>by
 rw [Nat.zero_add]; exact h.at0 i hi hi
theorem SlLaid.is {B:Nat} {xs:List α} {L:Nat} (h:SlLaid en n w B xs L xs.length):SlIs en n w (some ⟨B,0,none⟩) xs:=.inr ⟨B,0,rfl,h.blk,h.at⟩
theorem SlLaid.below {B:Nat} {xs:List α} {L k:Nat} (h:SlLaid en n w B xs L k) {m:Nat} (hm:B < m) (hB:Below m w W) (hs:w.heap.size≤W.heap.size):SlLaid en n W B xs L k:=by
 have hc:∀ o,W.cell? ⟨B,o,none⟩=w.cell? ⟨B,o,none⟩:=fun o=>hB.cell (p:=⟨B,o,none⟩) hm
 have hf:∀ o,W.frozen? ⟨B,o,none⟩=w.frozen? ⟨B,o,none⟩:=fun o=>hB.frozen (p:=⟨B,o,none⟩) hm
 exact ⟨Nat.lt_of_lt_of_le h.blk hs,fun i hi hk j v hv=>(hc _).trans (h.at0 i hi hk j v hv),fun i hi=>by rw [hc]; exact h.there i hi,fun i hi=>by rw [hf]; exact h.free i hi⟩
theorem SlLaid.kept {B:Nat} {xs:List α} {L k:Nat} (h:SlLaid en n w B xs L k) (hB:Below w.heap.size w W):SlLaid en n W B xs L k:=h.below h.blk hB hB.size
theorem SlLaid.mono {B:Nat} {xs:List α} {L k k':Nat} (h:SlLaid en n w B xs L k) (hk:k'≤k):SlLaid en n w B xs L k' :=
 ⟨h.blk,fun i hi hk'=>h.at0 i hi (by omega),h.there,h.free⟩
theorem SlLaid.other {β:Type} {en':β→List Value} {B:Nat} {xs:List α} {L k:Nat} (h:SlLaid en n w B xs L k) (ys:List β):SlLaid en' n w B ys L 0 :=
 ⟨h.blk,fun i hi hk=>by omega,h.there,h.free⟩
theorem SlLaid.set (hn:∀ x,(en x).length=n) {B:Nat} {xs:List α} {L k:Nat} (h:SlLaid en n w B xs L k) (hk:k < xs.length) (hL:k < L):SlLaid en n (w.setCells B (k*n) (en xs[k])) B xs L (k+1):=by
 have hb:k*n+n≤L*n:=by have:=Nat.mul_le_mul_right n (show k+1≤L from hL); rw [Nat.succ_mul] at this; exact this
 have hin:=World.cell?_setCells_in B (en xs[k]) (k*n) w (fun j hj=>h.there _ (by rw [hn] at hj; omega));refine ⟨Nat.lt_of_lt_of_le h.blk (below_setCells (B:=0) (Nat.zero_le _) _ _ _ (Below.refl 0 w)).size,fun i hi hk' j v hv=>?_,fun i hi=>?_,fun i hi=>by rw [World.frozen?_setCells]; exact h.free i hi⟩
 ·by_cases e:i=k
  ·subst e;obtain ⟨hj,hjv⟩:=List.getElem?_eq_some_iff.1 hv;rw [hin j hj,hjv]
  ·have hj:=(List.getElem?_eq_some_iff.1 hv).1;rw [hn] at hj;have hle:i*n+n≤k*n:=by have:=Nat.mul_le_mul_right n (show i+1≤k by omega); rw [Nat.succ_mul] at this; exact this
   rw [World.cell?_setCells_out B _ (k*n) w _ (fun _ _=>.inl (by show i*n+j < k*n; omega))];exact h.at0 i hi (by omega) j v hv
 ·by_cases e:k*n≤i∧i < k*n+n
  ·obtain ⟨j,rfl⟩ : ∃ j,i=k*n+j:=⟨i-k*n,by omega⟩;have hj:j < (en xs[k]).length:=by rw [hn]; omega
   rw [hin j hj]; rfl
  ·rw [World.cell?_setCells_out B _ (k*n) w _ (fun _ _=>by show i < k*n∨k*n+(en xs[k]).length≤i; rw [hn]; omega)]; exact h.there i hi
theorem SlLaid.start {base len cap g:Nat} {e:TypeId} {vs:List Value} {xs:List α} (h:w.ownsRow base e n (.slice (some ⟨g,0,none⟩) len cap) len vs):SlLaid en n w g xs len 0:=by
 obtain ⟨hl,h | ⟨g',cap',cur,hv,_,hh,hc,_,hsz,_⟩⟩:=h
 ·simp at h
 ·injection hv with hv _ hv3
  injection hv with hv
  injection hv with hv _
  subst hv hv3;have hlt:g < w.heap.size:=by
   by_cases hb:g < w.heap.size
   ·exact hb
   ·rw [Array.getElem?_eq_none (by omega)] at hh; simp at hh
  refine ⟨hlt,fun i hi hk=>by omega,fun i hi=>?_,fun i hi=>?_⟩
  ·have:i < cur.size:=by rw [hsz]; have:=Nat.mul_le_mul_right n hc; omega
   simp [World.cell?,hh,this]
  ·simp [World.frozen?,hh]
end
section
variable {H:Type} {enc:TypeId × Value→H} {P:Program} {w:World} {base:Nat} {spare:Nat→Bool} {held:Bool}
theorem open_flat {α:Type} [Inhabited α] {en:α→List Value} {n:Nat} (hn:∀ x,(en x).length=n) (hn0:0 < n) {t e:TypeId} (ht:P.underlying t=some (.slice e)) (hc:P.cellsOf e=n) (Wf:α→Prop)
  (hel:∀ m cs y,DataW.trod enc P w base spare held m e cs=some y→∃ q:α,cs=en q∧Wf q)
  {fuel:Nat} {a:Option Addr} {len cap:Nat} {x:DataW H × List MemPlace} (h:DataW.trod enc P w base spare held fuel t [.slice a len cap]=some x) :
  ∃ xs:List α,xs.length=len∧(xs.length≤maxLen∧∀ q∈xs,Wf q)∧SlIs en n w a xs:=by
 rcases Go.Deep.open_slice ht h with ⟨hcs,_⟩ | ⟨a',len',cap',m,n',D,Pl,hcs,_,hl,hm,hmm,_,hel2⟩
 ·simp at hcs;obtain ⟨rfl,rfl,rfl⟩:=hcs;exact ⟨[],rfl,⟨by simp,fun q hq=>by simp at hq⟩,.inl rfl⟩
 ·simp at hcs;obtain ⟨rfl,rfl,rfl⟩:=hcs;have hle:len≤m:=by rw [hmm]; split<;>omega
  rw [hc] at hel2;have hq:∀ i,i < len→∃ q:α,w.cells? base (a'.add (i*n)) n=some (en q)∧Wf q:=fun i hi=>by
   obtain ⟨cs',h1,h2⟩:=hel2 i (by omega);obtain ⟨q,rfl,hq⟩:=hel _ _ _ h2;exact ⟨q,h1,hq⟩
  obtain ⟨f,hf⟩:=Go.Deep.choose_lt hq;have hcell:∀ i,i < len→∀ j,j < n→w.cell? (a'.add (i*n+j))=(en (f i))[j]?:=fun i hi j hj=>by
   have:=(World.cells?_some (hf i hi).1).2.2 j hj;rwa [Go.Deep.add_add] at this
  refine ⟨(List.range len).map f,by simp,⟨by simp; omega,fun q hq=>?_⟩,?_⟩
  ·simp only [List.mem_map,List.mem_range] at hq;obtain ⟨i,hi,rfl⟩:=hq;exact (hf i hi).2
  ·by_cases h0:len=0
   ·subst h0; exact .inl rfl
   ·right
    have hc0:=hcell 0 (by omega) 0 hn0;obtain ⟨b,off,spot⟩:=a';rw [Nat.zero_mul,show ((⟨b,off,spot⟩ : Addr).add (0+0))=⟨b,off,spot⟩ from rfl,List.getElem?_eq_getElem (by rw [hn]; exact hn0)] at hc0;have hspot:spot=none:=by
     unfold World.cell? at hc0;split at hc0
     ·cases spot with
      | none=>rfl
      | some _=>simp at hc0
     ·simp at hc0
    subst hspot;have hblk:b < w.heap.size:=World.block_lt_of_cell? w _ hc0;have hadd:∀ k,((⟨b,off,none⟩ : Addr).add k)=⟨b,off+k,none⟩:=fun k=>by
     unfold Addr.add; split
     ·next e=>subst e; rfl
     ·rfl
    refine ⟨b,off,rfl,hblk,fun i hi j v hv=>?_⟩;have hi':i < len:=by simpa using hi
    simp only [List.getElem_map,List.getElem_range] at hv;have hj:j < n:=by have:=(List.getElem?_eq_some_iff.1 hv).1; rwa [hn] at this
    have:=hcell i hi' j hj;rw [hadd,hv] at this;rw [Nat.add_assoc]; exact this
end
def szL:List (List Nat)→Int→Int
 | [],left=>left
 | ns::l,left=>if szN ns left < 0 then -1 else szL l (szN ns left)
theorem szN_range:∀ (ns:List Nat) (left:Int),0≤left→-1≤szN ns left∧szN ns left≤left
 | [],left,h=>by unfold szN; omega
 | p::l,left,h=>by
  unfold szN;split
  ·omega
  ·have:=szN_range l (left-p) (by omega); omega
theorem szL_bound:∀ (l:List (List Nat)) (left:Int),0≤left→0≤szL l left→∀ ns∈l,∀ q∈ns,(q:Int)≤left
 | [],_,_,_,ns,hns,_,_=>by simp at hns
 | p::l,left,h0,h,ns,hns,q,hq=>by
  unfold szL at h;split at h
  ·omega
  ·next hp =>
   simp only [List.mem_cons] at hns;rcases hns with rfl | hns
   ·exact szN_bound _ _ (by omega) q hq
   ·have h1:=szL_bound l _ (by omega) h ns hns q hq;have h2:=szN_range p left h0;omega
theorem szL_range:∀ (l:List (List Nat)) (left:Int),0≤left→-1≤szL l left∧szL l left≤left
 | [],left,h=>by unfold szL; omega
 | p::l,left,h=>by
  unfold szL;have h2:=szN_range p left h;split
  ·omega
  ·have:=szL_range l (szN p left) (by omega); omega
theorem szL_drop {α:Type} {f:α→List Nat} {xs:List α} {k:Nat} (h:k < xs.length) (left:Int):szL ((xs.drop k).map f) left=if szN (f xs[k]) left < 0 then -1 else szL ((xs.drop (k+1)).map f) (szN (f xs[k]) left):=by
 rw [List.drop_eq_getElem_cons h]; rfl
theorem szL_end {α:Type} {f:α→List Nat} {xs:List α} {k:Nat} (h:xs.length≤k) (left:Int):szL ((xs.drop k).map f) left=left:=by
 rw [List.drop_eq_nil_of_le h]; rfl
def szSl {α:Type} (f:α→List Nat) (xs:List α) (left:Int):Int:=if left < (xs.length:Int) then -1 else szL (xs.map f) (left-xs.length)
theorem szSl_range {α:Type} (f:α→List Nat) (xs:List α) (left:Int) (h:0≤left) : -1≤szSl f xs left∧szSl f xs left≤left:=by
 unfold szSl;split
 ·omega
 ·have:=szL_range (xs.map f) (left-xs.length) (by omega); omega
theorem szSl_in {α:Type} {f:α→List Nat} {xs:List α} {left:Int} (h0:0≤left) (h:0≤szSl f xs left):(xs.length:Int)≤left∧∀ x∈xs,∀ q∈f x,(q:Int)≤left:=by
 unfold szSl at h;split at h
 ·omega
 ·refine ⟨by omega,fun x hx q hq=>?_⟩;have:=szL_bound (xs.map f) (left-xs.length) (by omega) h (f x) (List.mem_map_of_mem hx) q hq;omega
end Go.Proofs.YthagnjokdnnmpaaGreat
