import Derived.Test.YtcckaeppiamebaaGreatDoorAb
import Derived.HandedShaped
import Derived.WalkKit
import Derived.Deep.QuietTactic
import Derived.ChangeArms
import Derived.WideShapes
import Derived.ChangeShapes
import Derived.Deep.Slices
import Derived.Deep.MidRow
import Derived.OwnWalk
import Derived.WalkLawsBesides
import Derived.Lib.LazyBuf
import Derived.PlainAid
import Derived.Laws.BitsLemmas
import Derived.Laws.Bits64
import Derived.Test.YtcckaeppiamebaaGreatDoorProg
import Derived.RegionTactic
import Derived.ChangeAlike
import Derived.Laws.IdiomStrings
set_option linter.unusedVariables false
set_option linter.unusedSimpArgs false
set_option maxRecDepth 100000
set_option maxHeartbeats 8000000
namespace Go.Proofs.YtcckaeppiamebaaGreatDoor
open Go
variable {H:Type} {enc:TypeId × Value→H}
theorem returns_and_shaped {a:Assume} {C:Checked} {os:Os} {f:FuncId} {fn:Func} {s:ChangeSpec} {conds:List PathCond} {apart fresh handsOn again:Bool} {X:World→Array Value→Prop}
  (hX:∀ (w w':World) (args:Array Value),w.heap=w'.heap→X w args→X w' args)
  (own:ownKnob C.prog.godebug=none) (started:os.Started) (noInit:C.prog.inits.idxOf? f=none) (hfn:C.prog.funcs[f]?=some fn)
  (witness:∃ (w:World) (tape:Tape) (i:Input),w.os=os∧(w.forCall tape i).Shaped C.prog∧i.vars=[]∧Input.okWide C.prog (w.forCall tape i) .any w.heap.size f i ∧
   ((s.pre enc C.prog fn conds apart (w.forCall tape i).memory i.args∧X (w.forCall tape i).memory i.args)∧sizedMet enc C.prog fn (OpenSpec.ofChange s) apart (w.forCall tape i).memory i.args)∧a.holds C.prog (lone (Frame.enter C.prog f i.args .normal) [] (w.forCall tape i)))
  (contract:∀ (W:World) (base:Nat) (args:Array Value) (ds gs:List (DataW H)) (before:List MemPlace),
   (∀ (j:Nat) t v,fn.params[j]?=some t→args[j]?=some v→Value.okWide C.prog W .any base t v) →
   DataW.Whole enc C.prog fn.params.toList s.vars apart W args.toList ds gs before→X W args→W.ShapedOpen C.prog →
   Calls C.prog f args W fun e W'=>∃ v,e=.returned v∧s.post enc C.prog fn apart fresh handsOn again W args v W') :
  ReturnsInHanded a C os f .any (fun w args=>(s.pre enc C.prog fn conds apart w args∧X w args)∧sizedMet enc C.prog fn (OpenSpec.ofChange s) apart w args) (s.post enc C.prog fn apart fresh handsOn again):=by
 refine returnsInHanded_of_calls own started noInit witness ?_;intro w tape i _ hsh _ hok hpre hholds;obtain ⟨_,_,_,fn',hfn',_,_,_,_,hval⟩:=hok;have e:fn'=fn:=Option.some.inj (hfn'.symm.trans hfn);subst e;obtain ⟨⟨⟨ds,gs,before,hw,_⟩,hx⟩,_⟩:=hpre;refine (contract (w.forCall tape i) w.heap.size i.args ds gs before hval (DataW.Whole.of_heap (w':=w.forCall tape i) (by rfl) hw) (hX _ _ _ (by rfl) hx) hsh).mono fun e W' ⟨v,he,hp⟩=>?_
 subst he;exact ChangeSpec.post_blind hp
end Go.Proofs.YtcckaeppiamebaaGreatDoor
namespace Go.Proofs.YtcckaeppiamebaaGreatDoor
open Go.RowKit
theorem ret_int {k:IntKind} {a b:Int} (h:a=b):Ending.returned (.int k a)=.returned (.int k b):=by rw [h]
theorem ret_bool {a b:Bool} (h:a=b):Ending.returned (.bool a)=.returned (.bool b):=by rw [h]
theorem ret_string {a b:ByteArray} (h:a=b):Ending.returned (.string a)=.returned (.string b):=by rw [h]
theorem grown_trans {w w1 w2:World} {r:Option Nat} (h:w.grownBy w1 r) (h2:w1.grownBy w2 r):w.grownBy w2 r :=
 ⟨h2.os.trans h.os,h2.tape.trans h.tape,h2.output.trans h.output,Nat.le_trans h.size h2.size,fun k hk hne=>(h2.block k (Nat.lt_of_lt_of_le hk h.size) hne).trans (h.block k hk hne)⟩
theorem grown_set {w w1:World} {B o:Nat} (h:w.grownBy w1 (some B)) (v:Value):w.grownBy (w1.setCell ⟨B,o,none⟩ v) (some B) :=
 ⟨h.os,h.tape,h.output,by rw [World.size_setCell]; exact h.size,fun k hk hne=>(Below.heap_setCell w1 _ v k (fun e=>hne (by rw [e]))).trans (h.block k hk hne)⟩
theorem grown_of_below {w w1:World} {r:Option Nat} (h:Below w.heap.size w w1):w.grownBy w1 r:=⟨h.os,h.tape,h.output,h.size,fun k hk _=>h.block k hk⟩
theorem bcell {W w1:World} (hb:Below W.heap.size W w1):(∀ b o,b < W.heap.size→w1.cell? ⟨b,o,none⟩=W.cell? ⟨b,o,none⟩)∧(∀ b o,b < W.heap.size→w1.frozen? ⟨b,o,none⟩=W.frozen? ⟨b,o,none⟩) :=
 ⟨fun b o h=>hb.cell (p:=⟨b,o,none⟩) h,fun b o h=>hb.frozen (p:=⟨b,o,none⟩) h⟩
theorem below_undrew {B:Nat} {w w4:World} (h:Below B w.drew w4):Below B w w4:=⟨h.os,h.tape,h.output,h.size,h.block⟩
open Go.ChangeShapes Go.WideShapes
def In64t (n:Int):Prop:=-9223372036854775808≤n∧n≤9223372036854775807
theorem wf64s {n:Int} (h:(Lit.int .i64 n).wf=true) : -9223372036854775808≤n∧n≤9223372036854775807:=by
 have:=h; simp [Lit.wf] at this; exact ⟨this.1,this.2⟩
def szN:List Nat→Int→Int
 | [],left=>left
 | n::l,left=>if left < (n:Int) then -1 else szN l (left-n)
theorem szN_yes {n:Nat} {l:List Nat} {left:Int} (h:left < (n:Int)):szN (n::l) left=-1:=if_pos h
theorem szN_no {n:Nat} {l:List Nat} {left:Int} (h:¬ left < (n:Int)):szN (n::l) left=szN l (left-n):=if_neg h
theorem szN_bound:∀ (ns:List Nat) (left:Int),0≤szN ns left→∀ q∈ns,(q:Int)≤left
 | [],_,_,q,hq=>by simp at hq
 | p::l,left,h,q,hq=>by
  unfold szN at h;split at h
  ·omega
  ·simp only [List.mem_cons] at hq;rcases hq with rfl | hq
   ·omega
   ·have:=szN_bound l _ h q hq; omega
theorem cell_new {w:World} {cs:Array Value} {t:TypeId} {j:Nat} {v:Value} (h:cs[j]?=some v):(w.alloc (.cells cs t)).cell? ⟨w.heap.size,j,none⟩=some v:=by
 simp [h]
theorem arr11 {α:Type} {cs:Array α} (h:cs.size=11):∃ c0 c1 c2 c3 c4 c5 c6 c7 c8 c9 c10,cs=#[c0,c1,c2,c3,c4,c5,c6,c7,c8,c9,c10]:=by
 obtain ⟨l⟩:=cs;match l,h with
 | [c0,c1,c2,c3,c4,c5,c6,c7,c8,c9,c10],_=>exact ⟨c0,c1,c2,c3,c4,c5,c6,c7,c8,c9,c10,rfl⟩
section
variable {H:Type} {enc:TypeId × Value→H} {P:Program} {w:World} {base:Nat} {spare:Nat→Bool} {held:Bool}
theorem flat_field {t:TypeId} {fs:Array Field} {n:Nat} {cs:List Value} {x:DataW H × List MemPlace} (ht:P.underlying t=some (.struct fs)) (h:DataW.trod enc P w base spare held n t cs=some x) (i:Nat) (f:Field) (hf:fs[i]?=some f) (ho:f.offset=i) (hc:P.cellsOf f.type=1) (c:Value) (hcs:cs[i]?=some c) :
  ∃ m y,DataW.trod enc P w base spare held m f.type [c]=some y:=by
 obtain ⟨xs,m,_,_,hl,hx,hg⟩:=DataW.trod_struct ht h;have h1:=hg i f hf;rw [ho,hc] at h1;have hi:i < xs.length:=by rw [hx]; exact (Array.getElem?_eq_some_iff.mp hf).1
 rw [List.getElem?_eq_getElem hi] at h1;obtain ⟨hlt,hcc⟩:=List.getElem?_eq_some_iff.mp hcs;have h2:(cs.drop i).take 1=[c]:=by rw [List.drop_eq_getElem_cons hlt,hcc]; rfl
 rw [h2] at h1;exact ⟨m,_,h1⟩
end
section
variable {α:Type} (en:α→List Value) (n:Nat)
def SlAt (w:World) (b off:Nat) (xs:List α):Prop:=∀ i (h:i < xs.length),w.rangeAt b (off+i*n) (en xs[i])
def SlIs (w:World) (a:Option Addr) (xs:List α):Prop:=xs=[]∨∃ b off,a=some ⟨b,off,none⟩∧b < w.heap.size∧SlAt en n w b off xs
structure SlLaid (w:World) (B:Nat) (xs:List α) (L k:Nat):Prop where
 blk:B < w.heap.size
 at0:∀ i (h:i < xs.length),i < k→w.rangeAt B (i*n) (en xs[i])
 there:∀ i,i < L*n→(w.cell? ⟨B,i,none⟩).isSome=true
 free:∀ i,i < L*n→w.frozen? ⟨B,i,none⟩=false
end
section
variable {α:Type} {en:α→List Value} {n:Nat} {w W:World}
theorem SlAt.below {b off:Nat} {xs:List α} (h:SlAt en n w b off xs) {m:Nat} (hb:b < m) (hB:Below m w W):SlAt en n W b off xs :=
 fun i hi j v hv=>(hB.cell (p:=⟨b,off+i*n+j,none⟩) hb).trans (h i hi j v hv)
theorem SlIs.below {a:Option Addr} {xs:List α} (h:SlIs en n w a xs) (hB:Below w.heap.size w W):SlIs en n W a xs:=by
 rcases h with h | ⟨b,off,ha,hb,hr⟩
 ·exact .inl h
 ·exact .inr ⟨b,off,ha,Nat.lt_of_lt_of_le hb hB.size,hr.below hb hB⟩
theorem SlIs.grown {a:Option Addr} {xs:List α} (h:SlIs en n w a xs) {B:Nat} (hg:w.grownBy W (some B)) (hne:xs=[]∨∀ g o,a=some ⟨g,o,none⟩→g≠B):SlIs en n W a xs:=by
 rcases h with h | ⟨b,off,ha,hb,hr⟩
 ·exact .inl h
 ·rcases hne with h0 | hne
  ·exact .inl h0
  ·have hbl:=hg.block b hb (by simp; exact hne b off ha);refine .inr ⟨b,off,ha,Nat.lt_of_lt_of_le hb hg.size,fun i hi j v hv=>?_⟩;have hc:∀ o,W.cell? ⟨b,o,none⟩=w.cell? ⟨b,o,none⟩:=fun o=>by unfold World.cell?; rw [show (⟨b,o,none⟩ : Addr).block=b from rfl,hbl]
   exact (hc _).trans (hr i hi j v hv)
theorem SlIs.at {a:Option Addr} {xs:List α} (h:SlIs en n w a xs) {k:Nat} (hk:k < xs.length):∃ b off,a=some ⟨b,off,none⟩∧b < w.heap.size∧SlAt en n w b off xs:=by
 rcases h with h | h
 ·rw [h] at hk; simp at hk
 ·exact h
theorem SlLaid.at {B:Nat} {xs:List α} {L:Nat} (h:SlLaid en n w B xs L xs.length):SlAt en n w B 0 xs:=fun i hi=>by
 rw [Nat.zero_add]; exact h.at0 i hi hi
theorem SlLaid.is {B:Nat} {xs:List α} {L:Nat} (h:SlLaid en n w B xs L xs.length):SlIs en n w (some ⟨B,0,none⟩) xs:=.inr ⟨B,0,rfl,h.blk,h.at⟩
theorem SlLaid.below {B:Nat} {xs:List α} {L k:Nat} (h:SlLaid en n w B xs L k) {m:Nat} (hm:B < m) (hB:Below m w W) (hs:w.heap.size≤W.heap.size):SlLaid en n W B xs L k:=by
 have hc:∀ o,W.cell? ⟨B,o,none⟩=w.cell? ⟨B,o,none⟩:=fun o=>hB.cell (p:=⟨B,o,none⟩) hm
 have hf:∀ o,W.frozen? ⟨B,o,none⟩=w.frozen? ⟨B,o,none⟩:=fun o=>hB.frozen (p:=⟨B,o,none⟩) hm
 exact ⟨Nat.lt_of_lt_of_le h.blk hs,fun i hi hk j v hv=>(hc _).trans (h.at0 i hi hk j v hv),fun i hi=>by rw [hc]; exact h.there i hi,fun i hi=>by rw [hf]; exact h.free i hi⟩
theorem SlLaid.kept {B:Nat} {xs:List α} {L k:Nat} (h:SlLaid en n w B xs L k) (hB:Below w.heap.size w W):SlLaid en n W B xs L k:=h.below h.blk hB hB.size
theorem SlLaid.mono {B:Nat} {xs:List α} {L k k':Nat} (h:SlLaid en n w B xs L k) (hk:k'≤k):SlLaid en n w B xs L k' :=
 ⟨h.blk,fun i hi hk'=>h.at0 i hi (by omega),h.there,h.free⟩
theorem SlLaid.other {β:Type} {en':β→List Value} {B:Nat} {xs:List α} {L k:Nat} (h:SlLaid en n w B xs L k) (ys:List β):SlLaid en' n w B ys L 0 :=
 ⟨h.blk,fun i hi hk=>by omega,h.there,h.free⟩
theorem SlLaid.set (hn:∀ x,(en x).length=n) {B:Nat} {xs:List α} {L k:Nat} (h:SlLaid en n w B xs L k) (hk:k < xs.length) (hL:k < L):SlLaid en n (w.setCells B (k*n) (en xs[k])) B xs L (k+1):=by
 have hb:k*n+n≤L*n:=by have:=Nat.mul_le_mul_right n (show k+1≤L from hL); rw [Nat.succ_mul] at this; exact this
 have hin:=World.cell?_setCells_in B (en xs[k]) (k*n) w (fun j hj=>h.there _ (by rw [hn] at hj; omega));refine ⟨Nat.lt_of_lt_of_le h.blk (below_setCells (B:=0) (Nat.zero_le _) _ _ _ (Below.refl 0 w)).size,fun i hi hk' j v hv=>?_,fun i hi=>?_,fun i hi=>by rw [World.frozen?_setCells]; exact h.free i hi⟩
 ·by_cases e:i=k
  ·subst e;obtain ⟨hj,hjv⟩:=List.getElem?_eq_some_iff.1 hv;rw [hin j hj,hjv]
  ·have hj:=(List.getElem?_eq_some_iff.1 hv).1;rw [hn] at hj;have hle:i*n+n≤k*n:=by have:=Nat.mul_le_mul_right n (show i+1≤k by omega); rw [Nat.succ_mul] at this; exact this
   rw [World.cell?_setCells_out B _ (k*n) w _ (fun _ _=>.inl (by show i*n+j < k*n; omega))];exact h.at0 i hi (by omega) j v hv
 ·by_cases e:k*n≤i∧i < k*n+n
  ·obtain ⟨j,rfl⟩ : ∃ j,i=k*n+j:=⟨i-k*n,by omega⟩;have hj:j < (en xs[k]).length:=by rw [hn]; omega
   rw [hin j hj]; rfl
  ·rw [World.cell?_setCells_out B _ (k*n) w _ (fun _ _=>by show i < k*n∨k*n+(en xs[k]).length≤i; rw [hn]; omega)]; exact h.there i hi
theorem SlLaid.start {base len cap g:Nat} {e:TypeId} {vs:List Value} {xs:List α} (h:w.ownsRow base e n (.slice (some ⟨g,0,none⟩) len cap) len vs):SlLaid en n w g xs len 0:=by
 obtain ⟨hl,h | ⟨g',cap',cur,hv,_,hh,hc,_,hsz,_⟩⟩:=h
 ·simp at h
 ·injection hv with hv _ hv3
  injection hv with hv
  injection hv with hv _
  subst hv hv3;have hlt:g < w.heap.size:=by
   by_cases hb:g < w.heap.size
   ·exact hb
   ·rw [Array.getElem?_eq_none (by omega)] at hh; simp at hh
  refine ⟨hlt,fun i hi hk=>by omega,fun i hi=>?_,fun i hi=>?_⟩
  ·have:i < cur.size:=by rw [hsz]; have:=Nat.mul_le_mul_right n hc; omega
   simp [World.cell?,hh,this]
  ·simp [World.frozen?,hh]
end
section
variable {H:Type} {enc:TypeId × Value→H} {P:Program} {w:World} {base:Nat} {spare:Nat→Bool} {held:Bool}
theorem open_flat {α:Type} [Inhabited α] {en:α→List Value} {n:Nat} (hn:∀ x,(en x).length=n) (hn0:0 < n) {t e:TypeId} (ht:P.underlying t=some (.slice e)) (hc:P.cellsOf e=n) (Wf:α→Prop)
  (hel:∀ m cs y,DataW.trod enc P w base spare held m e cs=some y→∃ q:α,cs=en q∧Wf q)
  {fuel:Nat} {a:Option Addr} {len cap:Nat} {x:DataW H × List MemPlace} (h:DataW.trod enc P w base spare held fuel t [.slice a len cap]=some x) :
  ∃ xs:List α,xs.length=len∧(xs.length≤maxLen∧∀ q∈xs,Wf q)∧SlIs en n w a xs:=by
 rcases Go.Deep.open_slice ht h with ⟨hcs,_⟩ | ⟨a',len',cap',m,n',D,Pl,hcs,_,hl,hm,hmm,_,hel2⟩
 ·simp at hcs;obtain ⟨rfl,rfl,rfl⟩:=hcs;exact ⟨[],rfl,⟨by simp,fun q hq=>by simp at hq⟩,.inl rfl⟩
 ·simp at hcs;obtain ⟨rfl,rfl,rfl⟩:=hcs;have hle:len≤m:=by rw [hmm]; split<;>omega
  rw [hc] at hel2;have hq:∀ i,i < len→∃ q:α,w.cells? base (a'.add (i*n)) n=some (en q)∧Wf q:=fun i hi=>by
   obtain ⟨cs',h1,h2⟩:=hel2 i (by omega);obtain ⟨q,rfl,hq⟩:=hel _ _ _ h2;exact ⟨q,h1,hq⟩
  obtain ⟨f,hf⟩:=Go.Deep.choose_lt hq;have hcell:∀ i,i < len→∀ j,j < n→w.cell? (a'.add (i*n+j))=(en (f i))[j]?:=fun i hi j hj=>by
   have:=(World.cells?_some (hf i hi).1).2.2 j hj;rwa [Go.Deep.add_add] at this
  refine ⟨(List.range len).map f,by simp,⟨by simp; omega,fun q hq=>?_⟩,?_⟩
  ·simp only [List.mem_map,List.mem_range] at hq;obtain ⟨i,hi,rfl⟩:=hq;exact (hf i hi).2
  ·by_cases h0:len=0
   ·subst h0; exact .inl rfl
   ·right
    have hc0:=hcell 0 (by omega) 0 hn0;obtain ⟨b,off,spot⟩:=a';rw [Nat.zero_mul,show ((⟨b,off,spot⟩ : Addr).add (0+0))=⟨b,off,spot⟩ from rfl,List.getElem?_eq_getElem (by rw [hn]; exact hn0)] at hc0;have hspot:spot=none:=by
     unfold World.cell? at hc0;split at hc0
     ·cases spot with
      | none=>rfl
      | some _=>simp at hc0
     ·simp at hc0
    subst hspot;have hblk:b < w.heap.size:=World.block_lt_of_cell? w _ hc0;have hadd:∀ k,((⟨b,off,none⟩ : Addr).add k)=⟨b,off+k,none⟩:=fun k=>by
     unfold Addr.add; split
     ·next e=>subst e; rfl
     ·rfl
    refine ⟨b,off,rfl,hblk,fun i hi j v hv=>?_⟩;have hi':i < len:=by simpa using hi
    simp only [List.getElem_map,List.getElem_range] at hv;have hj:j < n:=by have:=(List.getElem?_eq_some_iff.1 hv).1; rwa [hn] at this
    have:=hcell i hi' j hj;rw [hadd,hv] at this;rw [Nat.add_assoc]; exact this
end
def szL:List (List Nat)→Int→Int
 | [],left=>left
 | ns::l,left=>if szN ns left < 0 then -1 else szL l (szN ns left)
theorem szN_range:∀ (ns:List Nat) (left:Int),0≤left→-1≤szN ns left∧szN ns left≤left
 | [],left,h=>by unfold szN; omega
 | p::l,left,h=>by
  unfold szN;split
  ·omega
  ·have:=szN_range l (left-p) (by omega); omega
theorem szL_bound:∀ (l:List (List Nat)) (left:Int),0≤left→0≤szL l left→∀ ns∈l,∀ q∈ns,(q:Int)≤left
 | [],_,_,_,ns,hns,_,_=>by simp at hns
 | p::l,left,h0,h,ns,hns,q,hq=>by
  unfold szL at h;split at h
  ·omega
  ·next hp =>
   simp only [List.mem_cons] at hns;rcases hns with rfl | hns
   ·exact szN_bound _ _ (by omega) q hq
   ·have h1:=szL_bound l _ (by omega) h ns hns q hq;have h2:=szN_range p left h0;omega
theorem szL_range:∀ (l:List (List Nat)) (left:Int),0≤left→-1≤szL l left∧szL l left≤left
 | [],left,h=>by unfold szL; omega
 | p::l,left,h=>by
  unfold szL;have h2:=szN_range p left h;split
  ·omega
  ·have:=szL_range l (szN p left) (by omega); omega
theorem szL_drop {α:Type} {f:α→List Nat} {xs:List α} {k:Nat} (h:k < xs.length) (left:Int):szL ((xs.drop k).map f) left=if szN (f xs[k]) left < 0 then -1 else szL ((xs.drop (k+1)).map f) (szN (f xs[k]) left):=by
 rw [List.drop_eq_getElem_cons h]; rfl
theorem szL_end {α:Type} {f:α→List Nat} {xs:List α} {k:Nat} (h:xs.length≤k) (left:Int):szL ((xs.drop k).map f) left=left:=by
 rw [List.drop_eq_nil_of_le h]; rfl
def szSl {α:Type} (f:α→List Nat) (xs:List α) (left:Int):Int:=if left < (xs.length:Int) then -1 else szL (xs.map f) (left-xs.length)
theorem szSl_range {α:Type} (f:α→List Nat) (xs:List α) (left:Int) (h:0≤left) : -1≤szSl f xs left∧szSl f xs left≤left:=by
 unfold szSl;split
 ·omega
 ·have:=szL_range (xs.map f) (left-xs.length) (by omega); omega
theorem szSl_in {α:Type} {f:α→List Nat} {xs:List α} {left:Int} (h0:0≤left) (h:0≤szSl f xs left):(xs.length:Int)≤left∧∀ x∈xs,∀ q∈f x,(q:Int)≤left:=by
 unfold szSl at h;split at h
 ·omega
 ·refine ⟨by omega,fun x hx q hq=>?_⟩;have:=szL_bound (xs.map f) (left-xs.length) (by omega) h (f x) (List.mem_map_of_mem hx) q hq;omega
end Go.Proofs.YtcckaeppiamebaaGreatDoor
namespace Go.Proofs.YtcckaeppiamebaaGreatDoor
open Go.RowKit
theorem below_grown {n:Nat} {w w1 W:World} {B:Nat} (h:Below n w w1) (hg:w1.grownBy W (some B)) (hB:n≤B) (hn:n≤w1.heap.size:=by omega):Below n w W :=
 ⟨hg.os.trans h.os,hg.tape.trans h.tape,hg.output.trans h.output,Nat.le_trans h.size hg.size,fun k hk=>by rw [hg.block k (by omega) (by simp; omega),h.block k hk]⟩
section
variable {α:Type} (en:α→List Value) (n:Nat)
def flatS (xs:List α):List Value:=xs.flatMap en
def SlOwn (base:Nat) (w:World) (a:Option Addr) (xs:List α):Prop:=xs=[]∨∃ g,a=some ⟨g,0,none⟩∧base≤g∧SlLaid en n w g xs xs.length xs.length
def SlRet (w:World) (ys:List α):Ending→World→Prop:=fun e w'=>∃ a cap,e=.returned (.slice a ys.length cap)∧ys.length≤cap∧SlOwn en n w.heap.size w' a ys∧Below w.heap.size w w'
def MkOwn (em:Nat→List Value) (base:Nat) (w:World) (a:Option Addr) (k L:Nat):Prop:=L=0∨∃ g,a=some ⟨g,0,none⟩∧base≤g∧SlLaid em n w g ((List.range L).map fun i=>k+n*i) L L
structure Row (base:Nat) (e:TypeId) (v:Value) (xs:List α) (w0 w:World):Prop where
 own:w.ownsRow base e n v xs.length (flatS en xs)
 bel:Below base w0 w
end
section
variable {α:Type} {en:α→List Value} {n:Nat} {w w0 W:World} {base:Nat} {e:TypeId} {v:Value} {xs:List α}
theorem flatS_length (hn:∀ x,(en x).length=n):∀ xs:List α,(flatS en xs).length=xs.length*n
 | []=>by simp [flatS]
 | x::xs=>by
  have:=flatS_length hn xs;unfold flatS at *;rw [List.flatMap_cons,List.length_append,this,hn,List.length_cons,Nat.succ_mul]; omega
theorem flatS_snoc (xs:List α) (q:α):flatS en (xs++[q])=flatS en xs++en q:=by
 unfold flatS; rw [List.flatMap_append]; simp
theorem flatS_get (hn:∀ x,(en x).length=n):∀ (xs:List α) (i:Nat) (h:i < xs.length) (j:Nat) (u:Value),(en xs[i])[j]?=some u→(flatS en xs)[i*n+j]?=some u
 | [],i,h,_,_,_=>by simp at h
 | x::xs,0,h,j,u,hu=>by
  have hj:=(List.getElem?_eq_some_iff.1 hu).1;unfold flatS;rw [List.flatMap_cons,Nat.zero_mul,Nat.zero_add,List.getElem?_append_left (by simpa using hj)];simpa using hu
 | x::xs,i+1,h,j,u,hu=>by
  have:=flatS_get hn xs i (by simpa using h) j u (by simpa using hu);unfold flatS at *;rw [List.flatMap_cons,List.getElem?_append_right (by rw [hn,Nat.succ_mul]; omega),hn];rw [show (i+1)*n+j-n=i*n+j by rw [Nat.succ_mul]; omega];exact this
theorem flatS_cells (hn:∀ x,(en x).length=n) (hn0:0 < n) {b off:Nat} (h:SlAt en n w b off xs) (j:Nat) (u:Value) (hu:(flatS en xs)[j]?=some u):w.cell? ⟨b,off+j,none⟩=some u:=by
 have hj:=(List.getElem?_eq_some_iff.1 hu).1;rw [flatS_length hn] at hj;have hi:j / n < xs.length:=(Nat.div_lt_iff_lt_mul hn0).2 hj;have hr:j % n < (en xs[j / n]).length:=by rw [hn]; exact Nat.mod_lt _ hn0
 have h1:=flatS_get hn xs (j / n) hi (j % n) _ (List.getElem?_eq_getElem hr);have e:j / n*n+j % n=j:=by rw [Nat.mul_comm]; exact Nat.div_add_mod j n
 rw [e,hu] at h1;have h2:=h (j / n) hi (j % n) _ (List.getElem?_eq_getElem hr);rw [Nat.add_assoc,e] at h2;rw [h2,h1]
theorem Row.kept (h:Row en n base e v xs w0 w) (hb:Below w.heap.size w W) (hl:base≤w.heap.size):Row en n base e v xs w0 W :=
 ⟨h.own.kept (grown_of_below (r:=none) hb) (by cases v.ownBlock<;>simp),h.bel.trans (hb.mono hl)⟩
theorem Row.append (h:Row en n base e v xs w0 w) {o:Obj} {q:α} {v':Value} (hl:base≤w.heap.size) (hown:W.ownsRow base e n v' (xs.length+1) (flatS en xs++en q)) (hgrow:(w.alloc o).grownBy W v.ownBlock):Row en n base e v' (xs++[q]) w0 W:=by
 have hlo:∀ k,v.ownBlock=some k→base≤k:=fun k hk=>(h.own.lt k hk).1
 refine ⟨by rw [flatS_snoc]; simpa using hown,?_⟩;have h1:Below base w0 (w.alloc o):=h.bel.alloc hl o;refine ⟨hgrow.os.trans h1.os,hgrow.tape.trans h1.tape,hgrow.output.trans h1.output,Nat.le_trans h1.size hgrow.size,fun k hk=>?_⟩;rw [hgrow.block k (Nat.lt_of_lt_of_le hk (Nat.le_trans hl (by simp))) (fun e2=>by have:=hlo k e2.symm; omega),h1.block k hk]
theorem Row.down (h:Row en n base e v xs w W) {b0:Nat} (hb:Below b0 w0 w) (hle:b0≤base):Row en n b0 e v xs w0 W:=by
 refine ⟨⟨h.own.1,?_⟩,hb.trans (h.bel.mono hle)⟩;rcases h.own.2 with h1 | ⟨g,cap,cur,h1,h2,h3⟩
 ·exact .inl h1
 ·exact .inr ⟨g,cap,cur,h1,Nat.le_trans hle h2,h3⟩
theorem Row.laid (hn:∀ x,(en x).length=n) {g cap:Nat} (h:w.ownsRow base e n (.slice (some ⟨g,0,none⟩) xs.length cap) xs.length (flatS en xs)):SlLaid en n w g xs xs.length xs.length:=by
 have hs:SlLaid en n w g xs xs.length 0:=SlLaid.start h;refine ⟨hs.blk,fun i hi _ j u hu=>?_,hs.there,hs.free⟩;have hj:j < n:=by have:=(List.getElem?_eq_some_iff.1 hu).1; rwa [hn] at this
 have hb:i*n+j < xs.length*n:=by have:=Nat.mul_le_mul_right n (show i+1≤xs.length from hi); rw [Nat.succ_mul] at this; omega
 rw [h.cellAt _ hb];exact flatS_get hn xs i hi j u hu
theorem Row.shape (hn:∀ x,(en x).length=n) (h:Row en n base e v xs w0 w):∃ a cap,v=.slice a xs.length cap∧xs.length≤cap∧SlOwn en n base w a xs:=by
 rcases h.own.2 with ⟨h1,h2⟩ | ⟨g,cap,cur,h1,hb,hg,hc,_⟩
 ·have hx:xs.length=0:=by simpa using h2
  exact ⟨none,0,by rw [h1,hx],by omega,.inl (List.length_eq_zero_iff.1 hx)⟩
 ·refine ⟨some ⟨g,0,none⟩,cap,h1,hc,.inr ⟨g,rfl,hb,?_⟩⟩;have:=h.own;rw [h1] at this;exact Row.laid hn this
theorem SlRet.nil {cap:Nat} {a:Option Addr} {v:Value} (hv:v=.slice a 0 cap) (h:Below w.heap.size w W):SlRet en n w [] (.returned v) W:=⟨a,cap,by rw [hv]; rfl,Nat.zero_le _,.inl rfl,h⟩
theorem SlRet.row (hn:∀ x,(en x).length=n) (h:Row en n w.heap.size e v xs w W):SlRet en n w xs (.returned v) W:=by
 obtain ⟨a,cap,h1,h2,h3⟩:=h.shape hn;exact ⟨a,cap,by rw [h1],h2,h3,h.bel⟩
theorem SlOwn.is {a:Option Addr} (h:SlOwn en n base w a xs):SlIs en n w a xs:=by
 rcases h with h | ⟨g,rfl,_,h⟩
 ·exact .inl h
 ·exact h.is
theorem SlOwn.grown {a:Option Addr} (h:SlOwn en n base w a xs) {B:Nat} (hg:w.grownBy W (some B)) (hB:B < base):SlOwn en n base W a xs:=by
 rcases h with h | ⟨g,rfl,h1,h⟩
 ·exact .inl h
 ·refine .inr ⟨g,rfl,h1,?_⟩;have hb:=hg.block g h.blk (by simp; omega);have hc:∀ o,W.cell? ⟨g,o,none⟩=w.cell? ⟨g,o,none⟩:=fun o=>by unfold World.cell?; rw [show (⟨g,o,none⟩ : Addr).block=g from rfl,hb]
  have hf:∀ o,W.frozen? ⟨g,o,none⟩=w.frozen? ⟨g,o,none⟩:=fun o=>World.frozen?_of_block (a:=⟨g,o,none⟩) hb
  exact ⟨Nat.lt_of_lt_of_le h.blk hg.size,fun i hi hk j u hu=>(hc _).trans (h.at0 i hi hk j u hu),fun i hi=>by rw [hc]; exact h.there i hi,fun i hi=>by rw [hf]; exact h.free i hi⟩
theorem MkOwn.kept {em:Nat→List Value} {a:Option Addr} {k L:Nat} (h:MkOwn n em base w a k L) (hb:Below w.heap.size w W):MkOwn n em base W a k L:=by
 rcases h with h | ⟨g,rfl,h1,h⟩
 ·exact .inl h
 ·exact .inr ⟨g,rfl,h1,h.kept hb⟩
theorem SlOwn.down {a:Option Addr} (h:SlOwn en n base w a xs) {b0:Nat} (hb:b0≤base):SlOwn en n b0 w a xs:=by
 rcases h with h | ⟨g,rfl,h1,h⟩
 ·exact .inl h
 ·exact .inr ⟨g,rfl,Nat.le_trans hb h1,h⟩
theorem SlOwn.kept {a:Option Addr} (h:SlOwn en n base w a xs) (hb:Below w.heap.size w W):SlOwn en n base W a xs:=by
 rcases h with h | ⟨g,rfl,h1,h⟩
 ·exact .inl h
 ·exact .inr ⟨g,rfl,h1,h.kept hb⟩
end
end Go.Proofs.YtcckaeppiamebaaGreatDoor
namespace Go.Proofs.YtcckaeppiamebaaGreatDoor
open Go.PlainAid
def add1 (a b:Int):Int:=if 65535 < a+b then a+b-65535 else a+b
theorem add1_range {a b:Int} (ha:0≤a) (ha':a≤65535) (hb:0≤b) (hb':b≤65535):0≤add1 a b∧add1 a b≤65535:=by
 unfold add1; split<;>omega
theorem wraps_i64 (n:Int) (h0:0≤n) (h1:n < 2 ^ 63):IntKind.i64.wrap n=n:=by rw [IntKind.wrap_i64]; omega
theorem join_word (a b:Int) (ha:0≤a) (ha':a≤255) (hb:0≤b) (hb':b≤255):bits .or .i64 (a*256) b=a*256+b :=
 bits_join .i64 63 (by decide) wraps_i64 8 (a*256) b (by omega) (by omega) (by omega) hb (by omega) (by omega)
theorem and_65535 (n:Int):bits .and .i64 n 65535=n % 65536:=by
 have h127:(BitVec.ofInt 64 65535).toNat=2 ^ 16-1:=by decide
 have key:(BitVec.ofInt 64 n &&& BitVec.ofInt 64 65535).toNat=(n % ((2 ^ 64:Nat):Int)).toNat % 2 ^ 16:=by
  rw [BitVec.toNat_and,BitVec.toNat_ofInt,h127,Nat.and_two_pow_sub_one_eq_mod]
 show IntKind.i64.wrap ((BitVec.ofInt 64 n &&& BitVec.ofInt 64 65535).toNat:Nat)=n % 65536;rw [key,IntKind.wrap_i64];omega
theorem fold_add (a b:Int) (ha:0≤a) (ha':a≤65535) (hb:0≤b) (hb':b≤65535):(a+b) % 65536+(a+b) / 65536=add1 a b:=by
 unfold add1; split<;>omega
def wordN (f:Nat→Int) (i:Nat):Int:=f i*256+f (i+1)
def sumN (f:Nat→Int):Nat→Int
 | 0=>0
 | k+1=>add1 (sumN f k) (wordN f (2*k))
def isByte (f:Nat→Int):Prop:=∀ i,0≤f i∧f i≤255
theorem wordN_range {f:Nat→Int} (h:isByte f) (i:Nat):0≤wordN f i∧wordN f i≤65535:=by
 have h1:=h i; have h2:=h (i+1); unfold wordN; omega
theorem sumN_range {f:Nat→Int} (h:isByte f) (k:Nat):0≤sumN f k∧sumN f k≤65535:=by
 induction k with
 | zero=>simp [sumN]
 | succ k ih=>have:=wordN_range h (2*k); exact add1_range ih.1 ih.2 this.1 this.2
theorem bt_isByte (s:ByteArray):isByte (bt s):=fun i=>⟨bt_nonneg s i,bt_le s i⟩
open Go.RowKit
theorem specAt_any (s:ByteArray) (k:Nat) (w:World) (hk:k+1 < s.size) (hs:s.size≤maxLen) :
  Cb 84 #[.string s,iV k] w (iV (wordN (bt s) k)):=by
 unfold maxLen at hs;have hb:=get_bt s;have b1:=bt_isByte s k;have b2:=bt_isByte s (k+1);have hj:=join_word (bt s k) (bt s (k+1)) b1.1 b1.2 b2.1 b2.2;go_enter Tryz.func84,Tryz.ntmps84
 go_wp2
 go_region
 all_goals
  go_wp2
  go_ret;exact ⟨ret_int rfl,(Below.refl _ _).drew⟩
theorem wordFromS_any (s:ByteArray) (k:Nat) (w:World) (hk:k < s.size) (hs:s.size≤maxLen) :
  Cw 134 #[.string s,iV k] w (iV (wordN (bt s) k)):=by
 unfold maxLen at hs;have hb:=get_bt s;have b1:=bt_isByte s k;have b2:=bt_isByte s (k+1);have hj:=join_word (bt s k) (bt s (k+1)) b1.1 b1.2 b2.1 b2.2;by_cases h:k+1 < s.size
 ·go_enter Tryz.func134,Tryz.ntmps134
  go_wp2
  go_ret;exact ⟨ret_int rfl,rfl⟩
 ·have h2:¬ (k:Int)+1 < s.size:=by omega
  have HE:Hid (bt s (k+1)=0):=bt_end s (by omega);go_enter Tryz.func134,Tryz.ntmps134
  go_wp2
  go_ret;exact ⟨ret_int (by unfold wordN; rw [HE.out]; omega),rfl⟩
theorem specAdd_any (a b:Int) (w:World) (ha:0≤a) (ha':a≤65535) (hb:0≤b) (hb':b≤65535) :
  Cw 92 #[iV a,iV b] w (iV (add1 a b)):=by
 by_cases h:65535 < a+b
 ·have HV:Hid (add1 a b=a+b-65535):=by unfold Hid add1; rw [if_pos h]
  go_enter Tryz.func92,Tryz.ntmps92
  go_wp2
  go_ret;exact ⟨ret_int HV.out.symm,rfl⟩
 ·have HV:Hid (add1 a b=a+b):=by unfold Hid add1; rw [if_neg h]
  go_enter Tryz.func92,Tryz.ntmps92
  go_wp2
  go_ret;exact ⟨ret_int HV.out.symm,rfl⟩
def sumV (s:ByteArray):Int:=sumN (bt s) ((s.size+1) / 2)
theorem sumV_range (s:ByteArray):0≤sumV s∧sumV s≤65535:=sumN_range (bt_isByte s) _
theorem specSum1_any (s:ByteArray) (w:World) (hs:s.size≤1048578) :
  Cw 93 #[.string s] w (iV (sumV s)):=by
 have hb:=get_bt s;go_enter Tryz.func93,Tryz.ntmps93
 go_wp2
 go_loop [3,4] (fun n i=>∃ k:Nat,2*k≤s.size+1∧i=iV (2*(k:Int))∧n=iV (sumN (bt s) k)) (fun _ i=>s.size+2-(intOf i).toNat)
 case atStart=>exact ⟨0,Nat.zero_le _,rfl,rfl⟩
 case round =>
  obtain ⟨k,hk,rfl,rfl⟩:=hrel;have hr:=sumN_range (bt_isByte s) k;have hq:=wordN_range (bt_isByte s) (2*k);have HW:Hid (wordN (bt s) (2*k)=bt s (2*k)*256+bt s (2*k+1)):=rfl;have HN:Hid (sumN (bt s) (k+1)=add1 (sumN (bt s) k) (wordN (bt s) (2*k))):=rfl;have b1:=bt_isByte s (2*k);have b2:=bt_isByte s (2*k+1);have hj:=join_word (bt s (2*k)) (bt s (2*k+1)) b1.1 b1.2 b2.1 b2.2;by_cases hlt:2*k < s.size
  ·by_cases h2:2*k+1 < s.size
   ·go_wp2_with (go_at_call 92; refine (specAdd_any _ _ _ hr.1 hr.2 (by omega) (by omega)).mono ?_; rintro e w' ⟨rfl,rfl⟩)
    go_round
    case rel=>exact ⟨k+1,by omega,by go_num,by rw [HN.out,HW.out]⟩
    case measure=>simp [intOf]; omega
   ·have HE:Hid (bt s (2*k+1)=0):=bt_end s (by omega);go_wp2_with (go_at_call 92; refine (specAdd_any _ _ _ hr.1 hr.2 (by omega) (by omega)).mono ?_; rintro e w' ⟨rfl,rfl⟩)
    go_round
    case rel=>exact ⟨k+1,by omega,by go_num,by rw [HN.out,HW.out,HE.out,Int.add_zero]⟩
    case measure=>simp [intOf]; omega
  ·go_wp2
   go_ret;exact ⟨ret_int (by unfold sumV; rw [show (s.size+1) / 2=k by omega]),rfl⟩
theorem sumOfS_any (s:ByteArray) (w:World) (hs:s.size≤1048578) :
  Cw 172 #[.string s] w (iV (sumV s)):=by
 have hs':s.size≤maxLen:=by unfold maxLen; omega
 go_enter Tryz.func172,Tryz.ntmps172
 go_wp2
 go_loop [3,9] (fun n i=>∃ k:Nat,k≤(s.size+1) / 2∧i=iV k∧n=iV (sumN (bt s) k)) (fun _ i=>(s.size+1) / 2-(intOf i).toNat)
 case atStart=>exact ⟨0,Nat.zero_le _,rfl,rfl⟩
 case round =>
  obtain ⟨k,hk,rfl,rfl⟩:=hrel;have hr:=sumN_range (bt_isByte s) k;have hq:=wordN_range (bt_isByte s) (2*k);have HN:Hid (sumN (bt s) (k+1)=add1 (sumN (bt s) k) (wordN (bt s) (2*k))):=rfl;have HF:Hid _:=fold_add (sumN (bt s) k) (wordN (bt s) (2*k)) hr.1 hr.2 hq.1 hq.2;have ha:=and_65535 (sumN (bt s) k+wordN (bt s) (2*k));by_cases hlt:k < (s.size+1) / 2
  ·have h2:2*k < s.size:=by omega
   go_wp2_with (go_at_call 134; refine (wordFromS_any s (2*k) _ h2 hs').mono ?_; rintro e w' ⟨rfl,rfl⟩)
   go_round
   case rel=>exact ⟨k+1,by omega,by go_num,by rw [HN.out,← HF.out]⟩
   case measure=>simp [intOf]; omega
  ·go_wp2
   go_ret;exact ⟨ret_int (by unfold sumV; rw [show (s.size+1) / 2=k by omega]),rfl⟩
def twoL (n:Int):List UInt8:=[UInt8.ofNat (n / 256).toNat,UInt8.ofNat (n % 256).toNat]
def twoV (n:Int):ByteArray:=⟨(twoL n).toArray⟩
theorem u8_ofNat (x:Int) (h0:0≤x) (h1:x≤255):((UInt8.ofNat x.toNat).toNat:Int)=x:=by
 rw [UInt8.toNat_ofNat']; omega
theorem two_cells {w:World} {b:Nat} {n:Int} (h0:0≤n) (h1:n≤65535)
  (hc0:w.cell? ⟨b,0,none⟩=some (.int .u8 (n / 256))) (hc1:w.cell? ⟨b,1,none⟩=some (.int .u8 (n % 256))) :
  ∀ j (hj:j < (twoL n).length),w.cell? (Addr.add ⟨b,0,none⟩ j)=some (.int .u8 ((twoL n)[j].toNat:Int)):=by
 intro j hj;match j,hj with
 | 0,_=>simp only [Addr.add,Nat.add_zero,twoL,List.getElem_cons_zero]; rw [u8_ofNat _ (by omega) (by omega)]; exact hc0
 | 1,_=>simp only [Addr.add,Nat.zero_add,twoL,List.getElem_cons_succ,List.getElem_cons_zero]; rw [u8_ofNat _ (by omega) (by omega)]; exact hc1
theorem two_conv {w:World} {b cap:Nat} {n:Int} (h0:0≤n) (h1:n≤65535)
  (hc0:w.cell? ⟨b,0,none⟩=some (.int .u8 (n / 256))) (hc1:w.cell? ⟨b,1,none⟩=some (.int .u8 (n % 256))) :
  (convert 137 9 (.slice (some ⟨b,0,none⟩) 2 cap)).run Tryz.prog w=.ok (.string (twoV n)) w :=
 run_convert_bytes_back (P:=Tryz.prog) w 137 9 5 ⟨b,0,none⟩ cap (twoL n) Tryz.underlying137 Tryz.underlying5 Tryz.underlying9 (two_cells h0 h1 hc0 hc1)
theorem specTwo_any (n:Int) (w:World) (h0:0≤n) (h1:n≤65535) :
  Cb 90 #[iV n] w (.string (twoV n)):=by
 have hcv:=two_conv (w:=w.alloc (.cells #[.int .u8 (n / 256),.int .u8 (n % 256)] 5)) (b:=w.heap.size) (cap:=2) h0 h1 (by simp) (by simp);go_enter Tryz.func90,Tryz.ntmps90
 go_wp2
 go_ret;exact ⟨rfl,(Below.refl _ _).alloc (Nat.le_refl _) _⟩
def isW (n:Int):Bool:=decide (0≤n)&&decide (n≤65535)
theorem isW_yes {n:Int} (h0:0≤n) (h1:n≤65535):isW n=true:=by simp [isW,h0,h1]
theorem isW_no {n:Int} (h:¬ (0≤n∧n≤65535)):isW n=false:=by
 rw [Bool.eq_false_iff]; intro hh; simp [isW] at hh; exact h hh
theorem specWordIs_any (n:Int) (w:World) :
  Cw 80 #[iV n] w (.bool (isW n)):=by
 by_cases h0:0≤n
 ·by_cases h1:n≤65535
  ·have HV:Hid (isW n=true):=isW_yes h0 h1;go_enter Tryz.func80,Tryz.ntmps80
   go_wp2
   go_ret;exact ⟨ret_bool HV.out.symm,rfl⟩
  ·have HV:Hid (isW n=false):=isW_no (fun h=>h1 h.2);go_enter Tryz.func80,Tryz.ntmps80
   go_wp2
   go_ret;exact ⟨ret_bool HV.out.symm,rfl⟩
 ·have HV:Hid (isW n=false):=isW_no (fun h=>h0 h.1);go_enter Tryz.func80,Tryz.ntmps80
  go_wp2
  go_ret;exact ⟨ret_bool HV.out.symm,rfl⟩
theorem implWordIs_any (n:Int) (w:World) :
  Cw 117 #[iV n] w (.bool (isW n)):=by
 by_cases h0:0≤n
 ·by_cases h1:n≤65535
  ·have HV:Hid (isW n=true):=isW_yes h0 h1;go_enter Tryz.func117,Tryz.ntmps117
   go_wp2
   go_ret;exact ⟨ret_bool HV.out.symm,rfl⟩
  ·have HV:Hid (isW n=false):=isW_no (fun h=>h1 h.2);go_enter Tryz.func117,Tryz.ntmps117
   go_wp2
   go_ret;exact ⟨ret_bool HV.out.symm,rfl⟩
 ·have HV:Hid (isW n=false):=isW_no (fun h=>h0 h.1);go_enter Tryz.func117,Tryz.ntmps117
  go_wp2
  go_ret;exact ⟨ret_bool HV.out.symm,rfl⟩
def layL:List Int→List Int
 | []=>[]
 | n::r=>n / 256::n % 256::layL r
theorem layL_length (ws:List Int):(layL ws).length=2*ws.length:=by
 induction ws with
 | nil=>rfl
 | cons n r ih=>simp [layL,ih]; omega
theorem layL_append (a:List Int) (n:Int):layL (a++[n])=layL a++[n / 256,n % 256]:=by
 induction a with
 | nil=>rfl
 | cons m r ih=>simp [layL,ih]
theorem lay_step {ws:List Int} {k:Nat} {n:Int} {w2:World} {B e:Nat} {v:Value} (hn:n=ws.getD k 0) (hk:k < ws.length)
  (h:w2.ownsRow B e 1 v (2*k+2) ((layL (ws.take k)).map (Value.int .u8)++[Value.int .u8 (n / 256),Value.int .u8 (n % 256)])) :
  w2.ownsRow B e 1 v (2*(k+1)) ((layL (ws.take (k+1))).map (Value.int .u8)):=by
 have e1:ws.take (k+1)=ws.take k++[n]:=by
  rw [List.take_succ_eq_append_getElem hk,hn]; simp [List.getD,hk]
 rw [e1,layL_append,List.map_append];exact h
theorem Tryz.info5:(Tryz.prog.info? 5).map (fun i=>(i.zero,i.size,i.bytes))=some (some (.int .u8 0),1,1):=by kernel_rfl
theorem layWords_any (ws:List Int) (b m cap:Nat) (w:World) (hm:m≤1000) (hb:b < w.heap.size) (hl:ws.length=m)
  (hw:∀ k,0≤ws.getD k 0∧ws.getD k 0≤65535) (hc:∀ k,k < m→w.cell? ⟨b,k,none⟩=some (iV (ws.getD k 0))) :
  Calls Tryz.prog 160 #[.slice (some ⟨b,0,none⟩) m cap] w fun e w'=>e=.returned (.slice (some ⟨w.heap.size,0,none⟩) (2*m) (2*m)) ∧
   w'.ownsRow w.heap.size 5 1 (.slice (some ⟨w.heap.size,0,none⟩) (2*m) (2*m)) (2*m) ((layL ws).map (Value.int .u8))∧Below w.heap.size w w':=by
 obtain ⟨i0,hi,hz0,hz1,hz2⟩:=info_parts Tryz.info5;go_enter Tryz.func160,Tryz.ntmps160
 go_wp2_with (at_make; refine wpList_make_own _ rfl _ _ 137 rfl w.heap.size 5 i0 (.int .u8 0) 1 Tryz.underlying137 hi hz0 hz1 .i64 .i64 _ (2*m) rfl rfl (by omega) (by rw [hz2]; omega) (by unfold maxLen; omega) (Nat.le_refl _) ?_; intro w1 hown hgrow)
 have hbel:Below w.heap.size w w1:=(Below.refl _ _).grown hgrow (Nat.le_refl _) (by simp);clear hgrow;go_loopw [3,12] (fun v i wr=>∃ k:Nat,k≤m∧i=iV k∧v=.slice (some ⟨w.heap.size,0,none⟩) (2*k) (2*m) ∧
   wr.ownsRow w.heap.size 5 1 (.slice (some ⟨w.heap.size,0,none⟩) (2*k) (2*m)) (2*k) ((layL (ws.take k)).map (Value.int .u8))∧Below w.heap.size w wr) (fun _ i _=>m-(intOf i).toNat)
 case atStart=>exact ⟨0,Nat.zero_le _,rfl,rfl,by simpa [layL] using hown,hbel⟩
 case round =>
  clear hown hbel;obtain ⟨k,hk,rfl,rfl,hown,hbel⟩:=hrel;by_cases hlt:k < m
  ·have hcx:wr.cell? ⟨b,k,none⟩=some (iV (ws.getD k 0)):=(hbel.cell (p:=⟨b,k,none⟩) hb).trans (hc k hlt);obtain ⟨n,hn⟩ : ∃ n,n=ws.getD k 0:=⟨_,rfl⟩;have hwn:=hw k;rw [← hn] at hcx hwn;have HN:Hid (n=ws.getD k 0):=hn;clear hn hw hc;have hsz:=hbel.size;go_wp2_with (at_builtin; refine wpList_append_fits _ rfl (.tmp 16) (.tmp 22) 137 rfl w.heap.size 5 i0 1 Tryz.underlying137 hi hz1 w.heap.size (2*k) (2*m) _ rfl (hown.alloc _) ⟨wr.heap.size,0,none⟩ 2 2 [.int .u8 (n / 256),.int .u8 (n % 256)] rfl rfl ?c1 ?c2 (by omega) ?_)
   case c1 =>
    intro j u hj;match j,hj with
    | 0,hj=>simp at hj; subst hj; simp [Addr.add]
    | 1,hj=>simp at hj; subst hj; simp [Addr.add]
   case c2=>intro u hu; simp at hu; rcases hu with rfl | rfl<;>rfl
   ·intro w2 hown2 hgrow2;have hbel2:Below w.heap.size w w2:=(hbel.alloc hsz _).grown hgrow2 (by simp; omega) (by simp);have R:=lay_step HN.out (by omega) hown2;clear hown2 hgrow2 hown hbel hcx;go_wp2
    go_roundw
    case rel=>exact ⟨k+1,by omega,by go_num,rfl,R,hbel2⟩
    case measure=>simp [intOf]; omega
  ·have hkm:k=m:=by omega
   subst hkm;have R:wr.ownsRow w.heap.size 5 1 (.slice (some ⟨w.heap.size,0,none⟩) (2*k) (2*k)) (2*k) ((layL ws).map (Value.int .u8)):=by
    rw [List.take_of_length_le (by omega)] at hown; exact hown
   clear hown;go_wp2
   go_ret;exact ⟨rfl,R,hbel⟩
end Go.Proofs.YtcckaeppiamebaaGreatDoor
