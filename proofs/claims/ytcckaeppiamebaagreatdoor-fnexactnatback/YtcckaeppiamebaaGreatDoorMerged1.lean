import Derived.Test.YtcckaeppiamebaaGreatDoorAb
import Derived.HandedShaped
import Derived.WalkKit
import Derived.Deep.QuietTactic
import Derived.ChangeArms
import Derived.WideShapes
import Derived.ChangeShapes
import Derived.Deep.Slices
import Derived.Deep.MidRow
import Derived.OwnWalk
import Derived.WalkLawsBesides
import Derived.Lib.LazyBuf
import Derived.PlainAid
import Derived.Laws.BitsLemmas
import Derived.Laws.Bits64
import Derived.Test.YtcckaeppiamebaaGreatDoorProg
import Derived.RegionTactic
import Derived.ChangeAlike
import Derived.Laws.IdiomStrings
import Derived.Deep.RegionWith
import Derived.Deep.DeepCutAuto
import Derived.Orders
set_option linter.unusedVariables false
set_option linter.unusedSimpArgs false
set_option maxRecDepth 100000
set_option maxHeartbeats 8000000
namespace Go.Proofs.YtcckaeppiamebaaGreatDoor
open Go
variable {H:Type} {enc:TypeId × Value→H}
theorem returns_and_shaped {a:Assume} {C:Checked} {os:Os} {f:FuncId} {fn:Func} {s:ChangeSpec} {conds:List PathCond} {apart fresh handsOn again:Bool} {X:World→Array Value→Prop}
  (hX:∀ (w w':World) (args:Array Value),w.heap=w'.heap→X w args→X w' args)
  (own:ownKnob C.prog.godebug=none) (started:os.Started) (noInit:C.prog.inits.idxOf? f=none) (hfn:C.prog.funcs[f]?=some fn)
  (witness:∃ (w:World) (tape:Tape) (i:Input),w.os=os∧(w.forCall tape i).Shaped C.prog∧i.vars=[]∧Input.okWide C.prog (w.forCall tape i) .any w.heap.size f i ∧
   ((s.pre enc C.prog fn conds apart (w.forCall tape i).memory i.args∧X (w.forCall tape i).memory i.args)∧sizedMet enc C.prog fn (OpenSpec.ofChange s) apart (w.forCall tape i).memory i.args)∧a.holds C.prog (lone (Frame.enter C.prog f i.args .normal) [] (w.forCall tape i)))
  (contract:∀ (W:World) (base:Nat) (args:Array Value) (ds gs:List (DataW H)) (before:List MemPlace),
   (∀ (j:Nat) t v,fn.params[j]?=some t→args[j]?=some v→Value.okWide C.prog W .any base t v) →
   DataW.Whole enc C.prog fn.params.toList s.vars apart W args.toList ds gs before→X W args→W.ShapedOpen C.prog →
   Calls C.prog f args W fun e W'=>∃ v,e=.returned v∧s.post enc C.prog fn apart fresh handsOn again W args v W') :
  ReturnsInHanded a C os f .any (fun w args=>(s.pre enc C.prog fn conds apart w args∧X w args)∧sizedMet enc C.prog fn (OpenSpec.ofChange s) apart w args) (s.post enc C.prog fn apart fresh handsOn again):=by
 refine returnsInHanded_of_calls own started noInit witness ?_;intro w tape i _ hsh _ hok hpre hholds;obtain ⟨_,_,_,fn',hfn',_,_,_,_,hval⟩:=hok;have e:fn'=fn:=Option.some.inj (hfn'.symm.trans hfn);subst e;obtain ⟨⟨⟨ds,gs,before,hw,_⟩,hx⟩,_⟩:=hpre;refine (contract (w.forCall tape i) w.heap.size i.args ds gs before hval (DataW.Whole.of_heap (w':=w.forCall tape i) (by rfl) hw) (hX _ _ _ (by rfl) hx) hsh).mono fun e W' ⟨v,he,hp⟩=>?_
 subst he;exact ChangeSpec.post_blind hp
end Go.Proofs.YtcckaeppiamebaaGreatDoor
namespace Go.Proofs.YtcckaeppiamebaaGreatDoor
open Go.RowKit
theorem ret_int {k:IntKind} {a b:Int} (h:a=b):Ending.returned (.int k a)=.returned (.int k b):=by rw [h]
theorem ret_bool {a b:Bool} (h:a=b):Ending.returned (.bool a)=.returned (.bool b):=by rw [h]
theorem ret_string {a b:ByteArray} (h:a=b):Ending.returned (.string a)=.returned (.string b):=by rw [h]
theorem grown_trans {w w1 w2:World} {r:Option Nat} (h:w.grownBy w1 r) (h2:w1.grownBy w2 r):w.grownBy w2 r :=
 ⟨h2.os.trans h.os,h2.tape.trans h.tape,h2.output.trans h.output,Nat.le_trans h.size h2.size,fun k hk hne=>(h2.block k (Nat.lt_of_lt_of_le hk h.size) hne).trans (h.block k hk hne)⟩
theorem grown_set {w w1:World} {B o:Nat} (h:w.grownBy w1 (some B)) (v:Value):w.grownBy (w1.setCell ⟨B,o,none⟩ v) (some B) :=
 ⟨h.os,h.tape,h.output,by rw [World.size_setCell]; exact h.size,fun k hk hne=>(Below.heap_setCell w1 _ v k (fun e=>hne (by rw [e]))).trans (h.block k hk hne)⟩
theorem grown_of_below {w w1:World} {r:Option Nat} (h:Below w.heap.size w w1):w.grownBy w1 r:=⟨h.os,h.tape,h.output,h.size,fun k hk _=>h.block k hk⟩
theorem bcell {W w1:World} (hb:Below W.heap.size W w1):(∀ b o,b < W.heap.size→w1.cell? ⟨b,o,none⟩=W.cell? ⟨b,o,none⟩)∧(∀ b o,b < W.heap.size→w1.frozen? ⟨b,o,none⟩=W.frozen? ⟨b,o,none⟩) :=
 ⟨fun b o h=>hb.cell (p:=⟨b,o,none⟩) h,fun b o h=>hb.frozen (p:=⟨b,o,none⟩) h⟩
theorem below_undrew {B:Nat} {w w4:World} (h:Below B w.drew w4):Below B w w4:=⟨h.os,h.tape,h.output,h.size,h.block⟩
open Go.ChangeShapes Go.WideShapes
def In64t (n:Int):Prop:=-9223372036854775808≤n∧n≤9223372036854775807
theorem wf64s {n:Int} (h:(Lit.int .i64 n).wf=true) : -9223372036854775808≤n∧n≤9223372036854775807:=by
 have:=h; simp [Lit.wf] at this; exact ⟨this.1,this.2⟩
def szN:List Nat→Int→Int
 | [],left=>left
 | n::l,left=>if left < (n:Int) then -1 else szN l (left-n)
theorem szN_yes {n:Nat} {l:List Nat} {left:Int} (h:left < (n:Int)):szN (n::l) left=-1:=if_pos h
theorem szN_no {n:Nat} {l:List Nat} {left:Int} (h:¬ left < (n:Int)):szN (n::l) left=szN l (left-n):=if_neg h
theorem szN_bound:∀ (ns:List Nat) (left:Int),0≤szN ns left→∀ q∈ns,(q:Int)≤left
 | [],_,_,q,hq=>by simp at hq
 | p::l,left,h,q,hq=>by
  unfold szN at h;split at h
  ·omega
  ·simp only [List.mem_cons] at hq;rcases hq with rfl | hq
   ·omega
   ·have:=szN_bound l _ h q hq; omega
theorem cell_new {w:World} {cs:Array Value} {t:TypeId} {j:Nat} {v:Value} (h:cs[j]?=some v):(w.alloc (.cells cs t)).cell? ⟨w.heap.size,j,none⟩=some v:=by
 simp [h]
theorem arr11 {α:Type} {cs:Array α} (h:cs.size=11):∃ c0 c1 c2 c3 c4 c5 c6 c7 c8 c9 c10,cs=#[c0,c1,c2,c3,c4,c5,c6,c7,c8,c9,c10]:=by
 obtain ⟨l⟩:=cs;match l,h with
 | [c0,c1,c2,c3,c4,c5,c6,c7,c8,c9,c10],_=>exact ⟨c0,c1,c2,c3,c4,c5,c6,c7,c8,c9,c10,rfl⟩
section
variable {H:Type} {enc:TypeId × Value→H} {P:Program} {w:World} {base:Nat} {spare:Nat→Bool} {held:Bool}
theorem flat_field {t:TypeId} {fs:Array Field} {n:Nat} {cs:List Value} {x:DataW H × List MemPlace} (ht:P.underlying t=some (.struct fs)) (h:DataW.trod enc P w base spare held n t cs=some x) (i:Nat) (f:Field) (hf:fs[i]?=some f) (ho:f.offset=i) (hc:P.cellsOf f.type=1) (c:Value) (hcs:cs[i]?=some c) :
  ∃ m y,DataW.trod enc P w base spare held m f.type [c]=some y:=by
 obtain ⟨xs,m,_,_,hl,hx,hg⟩:=DataW.trod_struct ht h;have h1:=hg i f hf;rw [ho,hc] at h1;have hi:i < xs.length:=by rw [hx]; exact (Array.getElem?_eq_some_iff.mp hf).1
 rw [List.getElem?_eq_getElem hi] at h1;obtain ⟨hlt,hcc⟩:=List.getElem?_eq_some_iff.mp hcs;have h2:(cs.drop i).take 1=[c]:=by rw [List.drop_eq_getElem_cons hlt,hcc]; rfl
 rw [h2] at h1;exact ⟨m,_,h1⟩
end
section
variable {α:Type} (en:α→List Value) (n:Nat)
def SlAt (w:World) (b off:Nat) (xs:List α):Prop:=∀ i (h:i < xs.length),w.rangeAt b (off+i*n) (en xs[i])
def SlIs (w:World) (a:Option Addr) (xs:List α):Prop:=xs=[]∨∃ b off,a=some ⟨b,off,none⟩∧b < w.heap.size∧SlAt en n w b off xs
structure SlLaid (w:World) (B:Nat) (xs:List α) (L k:Nat):Prop where
 blk:B < w.heap.size
 at0:∀ i (h:i < xs.length),i < k→w.rangeAt B (i*n) (en xs[i])
 there:∀ i,i < L*n→(w.cell? ⟨B,i,none⟩).isSome=true
 free:∀ i,i < L*n→w.frozen? ⟨B,i,none⟩=false
end
section
variable {α:Type} {en:α→List Value} {n:Nat} {w W:World}
theorem SlAt.below {b off:Nat} {xs:List α} (h:SlAt en n w b off xs) {m:Nat} (hb:b < m) (hB:Below m w W):SlAt en n W b off xs :=
 fun i hi j v hv=>(hB.cell (p:=⟨b,off+i*n+j,none⟩) hb).trans (h i hi j v hv)
theorem SlIs.below {a:Option Addr} {xs:List α} (h:SlIs en n w a xs) (hB:Below w.heap.size w W):SlIs en n W a xs:=by
 rcases h with h | ⟨b,off,ha,hb,hr⟩
 ·exact .inl h
 ·exact .inr ⟨b,off,ha,Nat.lt_of_lt_of_le hb hB.size,hr.below hb hB⟩
theorem SlIs.grown {a:Option Addr} {xs:List α} (h:SlIs en n w a xs) {B:Nat} (hg:w.grownBy W (some B)) (hne:xs=[]∨∀ g o,a=some ⟨g,o,none⟩→g≠B):SlIs en n W a xs:=by
 rcases h with h | ⟨b,off,ha,hb,hr⟩
 ·exact .inl h
 ·rcases hne with h0 | hne
  ·exact .inl h0
  ·have hbl:=hg.block b hb (by simp; exact hne b off ha);refine .inr ⟨b,off,ha,Nat.lt_of_lt_of_le hb hg.size,fun i hi j v hv=>?_⟩;have hc:∀ o,W.cell? ⟨b,o,none⟩=w.cell? ⟨b,o,none⟩:=fun o=>by unfold World.cell?; rw [show (⟨b,o,none⟩ : Addr).block=b from rfl,hbl]
   exact (hc _).trans (hr i hi j v hv)
theorem SlIs.at {a:Option Addr} {xs:List α} (h:SlIs en n w a xs) {k:Nat} (hk:k < xs.length):∃ b off,a=some ⟨b,off,none⟩∧b < w.heap.size∧SlAt en n w b off xs:=by
 rcases h with h | h
 ·rw [h] at hk; simp at hk
 ·exact h
theorem SlLaid.at {B:Nat} {xs:List α} {L:Nat} (h:SlLaid en n w B xs L xs.length):SlAt en n w B 0 xs:=fun i hi=>by
 rw [Nat.zero_add]; exact h.at0 i hi hi
theorem SlLaid.is {B:Nat} {xs:List α} {L:Nat} (h:SlLaid en n w B xs L xs.length):SlIs en n w (some ⟨B,0,none⟩) xs:=.inr ⟨B,0,rfl,h.blk,h.at⟩
theorem SlLaid.below {B:Nat} {xs:List α} {L k:Nat} (h:SlLaid en n w B xs L k) {m:Nat} (hm:B < m) (hB:Below m w W) (hs:w.heap.size≤W.heap.size):SlLaid en n W B xs L k:=by
 have hc:∀ o,W.cell? ⟨B,o,none⟩=w.cell? ⟨B,o,none⟩:=fun o=>hB.cell (p:=⟨B,o,none⟩) hm
 have hf:∀ o,W.frozen? ⟨B,o,none⟩=w.frozen? ⟨B,o,none⟩:=fun o=>hB.frozen (p:=⟨B,o,none⟩) hm
 exact ⟨Nat.lt_of_lt_of_le h.blk hs,fun i hi hk j v hv=>(hc _).trans (h.at0 i hi hk j v hv),fun i hi=>by rw [hc]; exact h.there i hi,fun i hi=>by rw [hf]; exact h.free i hi⟩
theorem SlLaid.kept {B:Nat} {xs:List α} {L k:Nat} (h:SlLaid en n w B xs L k) (hB:Below w.heap.size w W):SlLaid en n W B xs L k:=h.below h.blk hB hB.size
theorem SlLaid.mono {B:Nat} {xs:List α} {L k k':Nat} (h:SlLaid en n w B xs L k) (hk:k'≤k):SlLaid en n w B xs L k' :=
 ⟨h.blk,fun i hi hk'=>h.at0 i hi (by omega),h.there,h.free⟩
theorem SlLaid.other {β:Type} {en':β→List Value} {B:Nat} {xs:List α} {L k:Nat} (h:SlLaid en n w B xs L k) (ys:List β):SlLaid en' n w B ys L 0 :=
 ⟨h.blk,fun i hi hk=>by omega,h.there,h.free⟩
theorem SlLaid.set (hn:∀ x,(en x).length=n) {B:Nat} {xs:List α} {L k:Nat} (h:SlLaid en n w B xs L k) (hk:k < xs.length) (hL:k < L):SlLaid en n (w.setCells B (k*n) (en xs[k])) B xs L (k+1):=by
 have hb:k*n+n≤L*n:=by have:=Nat.mul_le_mul_right n (show k+1≤L from hL); rw [Nat.succ_mul] at this; exact this
 have hin:=World.cell?_setCells_in B (en xs[k]) (k*n) w (fun j hj=>h.there _ (by rw [hn] at hj; omega));refine ⟨Nat.lt_of_lt_of_le h.blk (below_setCells (B:=0) (Nat.zero_le _) _ _ _ (Below.refl 0 w)).size,fun i hi hk' j v hv=>?_,fun i hi=>?_,fun i hi=>by rw [World.frozen?_setCells]; exact h.free i hi⟩
 ·by_cases e:i=k
  ·subst e;obtain ⟨hj,hjv⟩:=List.getElem?_eq_some_iff.1 hv;rw [hin j hj,hjv]
  ·have hj:=(List.getElem?_eq_some_iff.1 hv).1;rw [hn] at hj;have hle:i*n+n≤k*n:=by have:=Nat.mul_le_mul_right n (show i+1≤k by omega); rw [Nat.succ_mul] at this; exact this
   rw [World.cell?_setCells_out B _ (k*n) w _ (fun _ _=>.inl (by show i*n+j < k*n; omega))];exact h.at0 i hi (by omega) j v hv
 ·by_cases e:k*n≤i∧i < k*n+n
  ·obtain ⟨j,rfl⟩ : ∃ j,i=k*n+j:=⟨i-k*n,by omega⟩;have hj:j < (en xs[k]).length:=by rw [hn]; omega
   rw [hin j hj]; rfl
  ·rw [World.cell?_setCells_out B _ (k*n) w _ (fun _ _=>by show i < k*n∨k*n+(en xs[k]).length≤i; rw [hn]; omega)]; exact h.there i hi
theorem SlLaid.start {base len cap g:Nat} {e:TypeId} {vs:List Value} {xs:List α} (h:w.ownsRow base e n (.slice (some ⟨g,0,none⟩) len cap) len vs):SlLaid en n w g xs len 0:=by
 obtain ⟨hl,h | ⟨g',cap',cur,hv,_,hh,hc,_,hsz,_⟩⟩:=h
 ·simp at h
 ·injection hv with hv _ hv3
  injection hv with hv
  injection hv with hv _
  subst hv hv3;have hlt:g < w.heap.size:=by
   by_cases hb:g < w.heap.size
   ·exact hb
   ·rw [Array.getElem?_eq_none (by omega)] at hh; simp at hh
  refine ⟨hlt,fun i hi hk=>by omega,fun i hi=>?_,fun i hi=>?_⟩
  ·have:i < cur.size:=by rw [hsz]; have:=Nat.mul_le_mul_right n hc; omega
   simp [World.cell?,hh,this]
  ·simp [World.frozen?,hh]
end
section
variable {H:Type} {enc:TypeId × Value→H} {P:Program} {w:World} {base:Nat} {spare:Nat→Bool} {held:Bool}
theorem open_flat {α:Type} [Inhabited α] {en:α→List Value} {n:Nat} (hn:∀ x,(en x).length=n) (hn0:0 < n) {t e:TypeId} (ht:P.underlying t=some (.slice e)) (hc:P.cellsOf e=n) (Wf:α→Prop)
  (hel:∀ m cs y,DataW.trod enc P w base spare held m e cs=some y→∃ q:α,cs=en q∧Wf q)
  {fuel:Nat} {a:Option Addr} {len cap:Nat} {x:DataW H × List MemPlace} (h:DataW.trod enc P w base spare held fuel t [.slice a len cap]=some x) :
  ∃ xs:List α,xs.length=len∧(xs.length≤maxLen∧∀ q∈xs,Wf q)∧SlIs en n w a xs:=by
 rcases Go.Deep.open_slice ht h with ⟨hcs,_⟩ | ⟨a',len',cap',m,n',D,Pl,hcs,_,hl,hm,hmm,_,hel2⟩
 ·simp at hcs;obtain ⟨rfl,rfl,rfl⟩:=hcs;exact ⟨[],rfl,⟨by simp,fun q hq=>by simp at hq⟩,.inl rfl⟩
 ·simp at hcs;obtain ⟨rfl,rfl,rfl⟩:=hcs;have hle:len≤m:=by rw [hmm]; split<;>omega
  rw [hc] at hel2;have hq:∀ i,i < len→∃ q:α,w.cells? base (a'.add (i*n)) n=some (en q)∧Wf q:=fun i hi=>by
   obtain ⟨cs',h1,h2⟩:=hel2 i (by omega);obtain ⟨q,rfl,hq⟩:=hel _ _ _ h2;exact ⟨q,h1,hq⟩
  obtain ⟨f,hf⟩:=Go.Deep.choose_lt hq;have hcell:∀ i,i < len→∀ j,j < n→w.cell? (a'.add (i*n+j))=(en (f i))[j]?:=fun i hi j hj=>by
   have:=(World.cells?_some (hf i hi).1).2.2 j hj;rwa [Go.Deep.add_add] at this
  refine ⟨(List.range len).map f,by simp,⟨by simp; omega,fun q hq=>?_⟩,?_⟩
  ·simp only [List.mem_map,List.mem_range] at hq;obtain ⟨i,hi,rfl⟩:=hq;exact (hf i hi).2
  ·by_cases h0:len=0
   ·subst h0; exact .inl rfl
   ·right
    have hc0:=hcell 0 (by omega) 0 hn0;obtain ⟨b,off,spot⟩:=a';rw [Nat.zero_mul,show ((⟨b,off,spot⟩ : Addr).add (0+0))=⟨b,off,spot⟩ from rfl,List.getElem?_eq_getElem (by rw [hn]; exact hn0)] at hc0;have hspot:spot=none:=by
     unfold World.cell? at hc0;split at hc0
     ·cases spot with
      | none=>rfl
      | some _=>simp at hc0
     ·simp at hc0
    subst hspot;have hblk:b < w.heap.size:=World.block_lt_of_cell? w _ hc0;have hadd:∀ k,((⟨b,off,none⟩ : Addr).add k)=⟨b,off+k,none⟩:=fun k=>by
     unfold Addr.add; split
     ·next e=>subst e; rfl
     ·rfl
    refine ⟨b,off,rfl,hblk,fun i hi j v hv=>?_⟩;have hi':i < len:=by simpa using hi
    simp only [List.getElem_map,List.getElem_range] at hv;have hj:j < n:=by have:=(List.getElem?_eq_some_iff.1 hv).1; rwa [hn] at this
    have:=hcell i hi' j hj;rw [hadd,hv] at this;rw [Nat.add_assoc]; exact this
end
def szL:List (List Nat)→Int→Int
 | [],left=>left
 | ns::l,left=>if szN ns left < 0 then -1 else szL l (szN ns left)
theorem szN_range:∀ (ns:List Nat) (left:Int),0≤left→-1≤szN ns left∧szN ns left≤left
 | [],left,h=>by unfold szN; omega
 | p::l,left,h=>by
  unfold szN;split
  ·omega
  ·have:=szN_range l (left-p) (by omega); omega
theorem szL_bound:∀ (l:List (List Nat)) (left:Int),0≤left→0≤szL l left→∀ ns∈l,∀ q∈ns,(q:Int)≤left
 | [],_,_,_,ns,hns,_,_=>by simp at hns
 | p::l,left,h0,h,ns,hns,q,hq=>by
  unfold szL at h;split at h
  ·omega
  ·next hp =>
   simp only [List.mem_cons] at hns;rcases hns with rfl | hns
   ·exact szN_bound _ _ (by omega) q hq
   ·have h1:=szL_bound l _ (by omega) h ns hns q hq;have h2:=szN_range p left h0;omega
theorem szL_range:∀ (l:List (List Nat)) (left:Int),0≤left→-1≤szL l left∧szL l left≤left
 | [],left,h=>by unfold szL; omega
 | p::l,left,h=>by
  unfold szL;have h2:=szN_range p left h;split
  ·omega
  ·have:=szL_range l (szN p left) (by omega); omega
theorem szL_drop {α:Type} {f:α→List Nat} {xs:List α} {k:Nat} (h:k < xs.length) (left:Int):szL ((xs.drop k).map f) left=if szN (f xs[k]) left < 0 then -1 else szL ((xs.drop (k+1)).map f) (szN (f xs[k]) left):=by
 rw [List.drop_eq_getElem_cons h]; rfl
theorem szL_end {α:Type} {f:α→List Nat} {xs:List α} {k:Nat} (h:xs.length≤k) (left:Int):szL ((xs.drop k).map f) left=left:=by
 rw [List.drop_eq_nil_of_le h]; rfl
def szSl {α:Type} (f:α→List Nat) (xs:List α) (left:Int):Int:=if left < (xs.length:Int) then -1 else szL (xs.map f) (left-xs.length)
theorem szSl_range {α:Type} (f:α→List Nat) (xs:List α) (left:Int) (h:0≤left) : -1≤szSl f xs left∧szSl f xs left≤left:=by
 unfold szSl;split
 ·omega
 ·have:=szL_range (xs.map f) (left-xs.length) (by omega); omega
theorem szSl_in {α:Type} {f:α→List Nat} {xs:List α} {left:Int} (h0:0≤left) (h:0≤szSl f xs left):(xs.length:Int)≤left∧∀ x∈xs,∀ q∈f x,(q:Int)≤left:=by
 unfold szSl at h;split at h
 ·omega
 ·refine ⟨by omega,fun x hx q hq=>?_⟩;have:=szL_bound (xs.map f) (left-xs.length) (by omega) h (f x) (List.mem_map_of_mem hx) q hq;omega
end Go.Proofs.YtcckaeppiamebaaGreatDoor
namespace Go.Proofs.YtcckaeppiamebaaGreatDoor
open Go.RowKit
theorem below_grown {n:Nat} {w w1 W:World} {B:Nat} (h:Below n w w1) (hg:w1.grownBy W (some B)) (hB:n≤B) (hn:n≤w1.heap.size:=by omega):Below n w W :=
 ⟨hg.os.trans h.os,hg.tape.trans h.tape,hg.output.trans h.output,Nat.le_trans h.size hg.size,fun k hk=>by rw [hg.block k (by omega) (by simp; omega),h.block k hk]⟩
section
variable {α:Type} (en:α→List Value) (n:Nat)
def flatS (xs:List α):List Value:=xs.flatMap en
def SlOwn (base:Nat) (w:World) (a:Option Addr) (xs:List α):Prop:=xs=[]∨∃ g,a=some ⟨g,0,none⟩∧base≤g∧SlLaid en n w g xs xs.length xs.length
def SlRet (w:World) (ys:List α):Ending→World→Prop:=fun e w'=>∃ a cap,e=.returned (.slice a ys.length cap)∧ys.length≤cap∧SlOwn en n w.heap.size w' a ys∧Below w.heap.size w w'
def MkOwn (em:Nat→List Value) (base:Nat) (w:World) (a:Option Addr) (k L:Nat):Prop:=L=0∨∃ g,a=some ⟨g,0,none⟩∧base≤g∧SlLaid em n w g ((List.range L).map fun i=>k+n*i) L L
structure Row (base:Nat) (e:TypeId) (v:Value) (xs:List α) (w0 w:World):Prop where
 own:w.ownsRow base e n v xs.length (flatS en xs)
 bel:Below base w0 w
end
section
variable {α:Type} {en:α→List Value} {n:Nat} {w w0 W:World} {base:Nat} {e:TypeId} {v:Value} {xs:List α}
theorem flatS_length (hn:∀ x,(en x).length=n):∀ xs:List α,(flatS en xs).length=xs.length*n
 | []=>by simp [flatS]
 | x::xs=>by
  have:=flatS_length hn xs;unfold flatS at *;rw [List.flatMap_cons,List.length_append,this,hn,List.length_cons,Nat.succ_mul]; omega
theorem flatS_snoc (xs:List α) (q:α):flatS en (xs++[q])=flatS en xs++en q:=by
 unfold flatS; rw [List.flatMap_append]; simp
theorem flatS_get (hn:∀ x,(en x).length=n):∀ (xs:List α) (i:Nat) (h:i < xs.length) (j:Nat) (u:Value),(en xs[i])[j]?=some u→(flatS en xs)[i*n+j]?=some u
 | [],i,h,_,_,_=>by simp at h
 | x::xs,0,h,j,u,hu=>by
  have hj:=(List.getElem?_eq_some_iff.1 hu).1;unfold flatS;rw [List.flatMap_cons,Nat.zero_mul,Nat.zero_add,List.getElem?_append_left (by simpa using hj)];simpa using hu
 | x::xs,i+1,h,j,u,hu=>by
  have:=flatS_get hn xs i (by simpa using h) j u (by simpa using hu);unfold flatS at *;rw [List.flatMap_cons,List.getElem?_append_right (by rw [hn,Nat.succ_mul]; omega),hn];rw [show (i+1)*n+j-n=i*n+j by rw [Nat.succ_mul]; omega];exact this
theorem flatS_cells (hn:∀ x,(en x).length=n) (hn0:0 < n) {b off:Nat} (h:SlAt en n w b off xs) (j:Nat) (u:Value) (hu:(flatS en xs)[j]?=some u):w.cell? ⟨b,off+j,none⟩=some u:=by
 have hj:=(List.getElem?_eq_some_iff.1 hu).1;rw [flatS_length hn] at hj;have hi:j / n < xs.length:=(Nat.div_lt_iff_lt_mul hn0).2 hj;have hr:j % n < (en xs[j / n]).length:=by rw [hn]; exact Nat.mod_lt _ hn0
 have h1:=flatS_get hn xs (j / n) hi (j % n) _ (List.getElem?_eq_getElem hr);have e:j / n*n+j % n=j:=by rw [Nat.mul_comm]; exact Nat.div_add_mod j n
 rw [e,hu] at h1;have h2:=h (j / n) hi (j % n) _ (List.getElem?_eq_getElem hr);rw [Nat.add_assoc,e] at h2;rw [h2,h1]
theorem Row.kept (h:Row en n base e v xs w0 w) (hb:Below w.heap.size w W) (hl:base≤w.heap.size):Row en n base e v xs w0 W :=
 ⟨h.own.kept (grown_of_below (r:=none) hb) (by cases v.ownBlock<;>simp),h.bel.trans (hb.mono hl)⟩
theorem Row.append (h:Row en n base e v xs w0 w) {o:Obj} {q:α} {v':Value} (hl:base≤w.heap.size) (hown:W.ownsRow base e n v' (xs.length+1) (flatS en xs++en q)) (hgrow:(w.alloc o).grownBy W v.ownBlock):Row en n base e v' (xs++[q]) w0 W:=by
 have hlo:∀ k,v.ownBlock=some k→base≤k:=fun k hk=>(h.own.lt k hk).1
 refine ⟨by rw [flatS_snoc]; simpa using hown,?_⟩;have h1:Below base w0 (w.alloc o):=h.bel.alloc hl o;refine ⟨hgrow.os.trans h1.os,hgrow.tape.trans h1.tape,hgrow.output.trans h1.output,Nat.le_trans h1.size hgrow.size,fun k hk=>?_⟩;rw [hgrow.block k (Nat.lt_of_lt_of_le hk (Nat.le_trans hl (by simp))) (fun e2=>by have:=hlo k e2.symm; omega),h1.block k hk]
theorem Row.down (h:Row en n base e v xs w W) {b0:Nat} (hb:Below b0 w0 w) (hle:b0≤base):Row en n b0 e v xs w0 W:=by
 refine ⟨⟨h.own.1,?_⟩,hb.trans (h.bel.mono hle)⟩;rcases h.own.2 with h1 | ⟨g,cap,cur,h1,h2,h3⟩
 ·exact .inl h1
 ·exact .inr ⟨g,cap,cur,h1,Nat.le_trans hle h2,h3⟩
theorem Row.laid (hn:∀ x,(en x).length=n) {g cap:Nat} (h:w.ownsRow base e n (.slice (some ⟨g,0,none⟩) xs.length cap) xs.length (flatS en xs)):SlLaid en n w g xs xs.length xs.length:=by
 have hs:SlLaid en n w g xs xs.length 0:=SlLaid.start h;refine ⟨hs.blk,fun i hi _ j u hu=>?_,hs.there,hs.free⟩;have hj:j < n:=by have:=(List.getElem?_eq_some_iff.1 hu).1; rwa [hn] at this
 have hb:i*n+j < xs.length*n:=by have:=Nat.mul_le_mul_right n (show i+1≤xs.length from hi); rw [Nat.succ_mul] at this; omega
 rw [h.cellAt _ hb];exact flatS_get hn xs i hi j u hu
theorem Row.shape (hn:∀ x,(en x).length=n) (h:Row en n base e v xs w0 w):∃ a cap,v=.slice a xs.length cap∧xs.length≤cap∧SlOwn en n base w a xs:=by
 rcases h.own.2 with ⟨h1,h2⟩ | ⟨g,cap,cur,h1,hb,hg,hc,_⟩
 ·have hx:xs.length=0:=by simpa using h2
  exact ⟨none,0,by rw [h1,hx],by omega,.inl (List.length_eq_zero_iff.1 hx)⟩
 ·refine ⟨some ⟨g,0,none⟩,cap,h1,hc,.inr ⟨g,rfl,hb,?_⟩⟩;have:=h.own;rw [h1] at this;exact Row.laid hn this
theorem SlRet.nil {cap:Nat} {a:Option Addr} {v:Value} (hv:v=.slice a 0 cap) (h:Below w.heap.size w W):SlRet en n w [] (.returned v) W:=⟨a,cap,by rw [hv]; rfl,Nat.zero_le _,.inl rfl,h⟩
theorem SlRet.row (hn:∀ x,(en x).length=n) (h:Row en n w.heap.size e v xs w W):SlRet en n w xs (.returned v) W:=by
 obtain ⟨a,cap,h1,h2,h3⟩:=h.shape hn;exact ⟨a,cap,by rw [h1],h2,h3,h.bel⟩
theorem SlOwn.is {a:Option Addr} (h:SlOwn en n base w a xs):SlIs en n w a xs:=by
 rcases h with h | ⟨g,rfl,_,h⟩
 ·exact .inl h
 ·exact h.is
theorem SlOwn.grown {a:Option Addr} (h:SlOwn en n base w a xs) {B:Nat} (hg:w.grownBy W (some B)) (hB:B < base):SlOwn en n base W a xs:=by
 rcases h with h | ⟨g,rfl,h1,h⟩
 ·exact .inl h
 ·refine .inr ⟨g,rfl,h1,?_⟩;have hb:=hg.block g h.blk (by simp; omega);have hc:∀ o,W.cell? ⟨g,o,none⟩=w.cell? ⟨g,o,none⟩:=fun o=>by unfold World.cell?; rw [show (⟨g,o,none⟩ : Addr).block=g from rfl,hb]
  have hf:∀ o,W.frozen? ⟨g,o,none⟩=w.frozen? ⟨g,o,none⟩:=fun o=>World.frozen?_of_block (a:=⟨g,o,none⟩) hb
  exact ⟨Nat.lt_of_lt_of_le h.blk hg.size,fun i hi hk j u hu=>(hc _).trans (h.at0 i hi hk j u hu),fun i hi=>by rw [hc]; exact h.there i hi,fun i hi=>by rw [hf]; exact h.free i hi⟩
theorem MkOwn.kept {em:Nat→List Value} {a:Option Addr} {k L:Nat} (h:MkOwn n em base w a k L) (hb:Below w.heap.size w W):MkOwn n em base W a k L:=by
 rcases h with h | ⟨g,rfl,h1,h⟩
 ·exact .inl h
 ·exact .inr ⟨g,rfl,h1,h.kept hb⟩
theorem SlOwn.down {a:Option Addr} (h:SlOwn en n base w a xs) {b0:Nat} (hb:b0≤base):SlOwn en n b0 w a xs:=by
 rcases h with h | ⟨g,rfl,h1,h⟩
 ·exact .inl h
 ·exact .inr ⟨g,rfl,Nat.le_trans hb h1,h⟩
theorem SlOwn.kept {a:Option Addr} (h:SlOwn en n base w a xs) (hb:Below w.heap.size w W):SlOwn en n base W a xs:=by
 rcases h with h | ⟨g,rfl,h1,h⟩
 ·exact .inl h
 ·exact .inr ⟨g,rfl,h1,h.kept hb⟩
end
end Go.Proofs.YtcckaeppiamebaaGreatDoor
namespace Go.Proofs.YtcckaeppiamebaaGreatDoor
open Go.PlainAid
def add1 (a b:Int):Int:=if 65535 < a+b then a+b-65535 else a+b
theorem add1_range {a b:Int} (ha:0≤a) (ha':a≤65535) (hb:0≤b) (hb':b≤65535):0≤add1 a b∧add1 a b≤65535:=by
 unfold add1; split<;>omega
theorem wraps_i64 (n:Int) (h0:0≤n) (h1:n < 2 ^ 63):IntKind.i64.wrap n=n:=by rw [IntKind.wrap_i64]; omega
theorem join_word (a b:Int) (ha:0≤a) (ha':a≤255) (hb:0≤b) (hb':b≤255):bits .or .i64 (a*256) b=a*256+b :=
 bits_join .i64 63 (by decide) wraps_i64 8 (a*256) b (by omega) (by omega) (by omega) hb (by omega) (by omega)
theorem and_65535 (n:Int):bits .and .i64 n 65535=n % 65536:=by
 have h127:(BitVec.ofInt 64 65535).toNat=2 ^ 16-1:=by decide
 have key:(BitVec.ofInt 64 n &&& BitVec.ofInt 64 65535).toNat=(n % ((2 ^ 64:Nat):Int)).toNat % 2 ^ 16:=by
  rw [BitVec.toNat_and,BitVec.toNat_ofInt,h127,Nat.and_two_pow_sub_one_eq_mod]
 show IntKind.i64.wrap ((BitVec.ofInt 64 n &&& BitVec.ofInt 64 65535).toNat:Nat)=n % 65536;rw [key,IntKind.wrap_i64];omega
theorem fold_add (a b:Int) (ha:0≤a) (ha':a≤65535) (hb:0≤b) (hb':b≤65535):(a+b) % 65536+(a+b) / 65536=add1 a b:=by
 unfold add1; split<;>omega
def wordN (f:Nat→Int) (i:Nat):Int:=f i*256+f (i+1)
def sumN (f:Nat→Int):Nat→Int
 | 0=>0
 | k+1=>add1 (sumN f k) (wordN f (2*k))
def isByte (f:Nat→Int):Prop:=∀ i,0≤f i∧f i≤255
theorem wordN_range {f:Nat→Int} (h:isByte f) (i:Nat):0≤wordN f i∧wordN f i≤65535:=by
 have h1:=h i; have h2:=h (i+1); unfold wordN; omega
theorem sumN_range {f:Nat→Int} (h:isByte f) (k:Nat):0≤sumN f k∧sumN f k≤65535:=by
 induction k with
 | zero=>simp [sumN]
 | succ k ih=>have:=wordN_range h (2*k); exact add1_range ih.1 ih.2 this.1 this.2
theorem bt_isByte (s:ByteArray):isByte (bt s):=fun i=>⟨bt_nonneg s i,bt_le s i⟩
open Go.RowKit
theorem specAt_any (s:ByteArray) (k:Nat) (w:World) (hk:k+1 < s.size) (hs:s.size≤maxLen) :
  Cb 84 #[.string s,iV k] w (iV (wordN (bt s) k)):=by
 unfold maxLen at hs;have hb:=get_bt s;have b1:=bt_isByte s k;have b2:=bt_isByte s (k+1);have hj:=join_word (bt s k) (bt s (k+1)) b1.1 b1.2 b2.1 b2.2;go_enter Tryz.func84,Tryz.ntmps84
 go_wp2
 go_region
 all_goals
  go_wp2
  go_ret;exact ⟨ret_int rfl,bR.drew⟩
theorem wordFromS_any (s:ByteArray) (k:Nat) (w:World) (hk:k < s.size) (hs:s.size≤maxLen) :
  Cw 134 #[.string s,iV k] w (iV (wordN (bt s) k)):=by
 unfold maxLen at hs;have hb:=get_bt s;have b1:=bt_isByte s k;have b2:=bt_isByte s (k+1);have hj:=join_word (bt s k) (bt s (k+1)) b1.1 b1.2 b2.1 b2.2;by_cases h:k+1 < s.size
 ·go_enter Tryz.func134,Tryz.ntmps134
  go_wp2
  go_ret;exact ⟨ret_int rfl,rfl⟩
 ·have h2:¬ (k:Int)+1 < s.size:=by omega
  have HE:Hid (bt s (k+1)=0):=bt_end s (by omega);go_enter Tryz.func134,Tryz.ntmps134
  go_wp2
  go_ret;exact ⟨ret_int (by unfold wordN; rw [HE.out]; omega),rfl⟩
theorem specAdd_any (a b:Int) (w:World) (ha:0≤a) (ha':a≤65535) (hb:0≤b) (hb':b≤65535) :
  Cw 92 #[iV a,iV b] w (iV (add1 a b)):=by
 by_cases h:65535 < a+b
 ·have HV:Hid (add1 a b=a+b-65535):=by unfold Hid add1; rw [if_pos h]
  go_enter Tryz.func92,Tryz.ntmps92
  go_wp2
  go_ret;exact ⟨ret_int HV.out.symm,rfl⟩
 ·have HV:Hid (add1 a b=a+b):=by unfold Hid add1; rw [if_neg h]
  go_enter Tryz.func92,Tryz.ntmps92
  go_wp2
  go_ret;exact ⟨ret_int HV.out.symm,rfl⟩
def sumV (s:ByteArray):Int:=sumN (bt s) ((s.size+1) / 2)
theorem sumV_range (s:ByteArray):0≤sumV s∧sumV s≤65535:=sumN_range (bt_isByte s) _
theorem specSum1_any (s:ByteArray) (w:World) (hs:s.size≤1048578) :
  Cw 93 #[.string s] w (iV (sumV s)):=by
 have hb:=get_bt s;go_enter Tryz.func93,Tryz.ntmps93
 go_wp2
 go_loop [3,4] (fun n i=>∃ k:Nat,2*k≤s.size+1∧i=iV (2*(k:Int))∧n=iV (sumN (bt s) k)) (fun _ i=>s.size+2-(intOf i).toNat)
 case atStart=>exact ⟨0,Nat.zero_le _,rfl,rfl⟩
 case round =>
  obtain ⟨k,hk,rfl,rfl⟩:=hrel;have hr:=sumN_range (bt_isByte s) k;have hq:=wordN_range (bt_isByte s) (2*k);have HW:Hid (wordN (bt s) (2*k)=bt s (2*k)*256+bt s (2*k+1)):=rfl;have HN:Hid (sumN (bt s) (k+1)=add1 (sumN (bt s) k) (wordN (bt s) (2*k))):=rfl;have b1:=bt_isByte s (2*k);have b2:=bt_isByte s (2*k+1);have hj:=join_word (bt s (2*k)) (bt s (2*k+1)) b1.1 b1.2 b2.1 b2.2;by_cases hlt:2*k < s.size
  ·by_cases h2:2*k+1 < s.size
   ·go_wp2_with (go_at_call 92; refine (specAdd_any _ _ _ hr.1 hr.2 (by omega) (by omega)).mono ?_; rintro e w' ⟨rfl,rfl⟩)
    go_round
    case rel=>exact ⟨k+1,by omega,by go_num,by rw [HN.out,HW.out]⟩
    case measure=>simp [intOf]; omega
   ·have HE:Hid (bt s (2*k+1)=0):=bt_end s (by omega);go_wp2_with (go_at_call 92; refine (specAdd_any _ _ _ hr.1 hr.2 (by omega) (by omega)).mono ?_; rintro e w' ⟨rfl,rfl⟩)
    go_round
    case rel=>exact ⟨k+1,by omega,by go_num,by rw [HN.out,HW.out,HE.out,Int.add_zero]⟩
    case measure=>simp [intOf]; omega
  ·go_wp2
   go_ret;exact ⟨ret_int (by unfold sumV; rw [show (s.size+1) / 2=k by omega]),rfl⟩
theorem sumOfS_any (s:ByteArray) (w:World) (hs:s.size≤1048578) :
  Cw 172 #[.string s] w (iV (sumV s)):=by
 have hs':s.size≤maxLen:=by unfold maxLen; omega
 go_enter Tryz.func172,Tryz.ntmps172
 go_wp2
 go_loop [3,9] (fun n i=>∃ k:Nat,k≤(s.size+1) / 2∧i=iV k∧n=iV (sumN (bt s) k)) (fun _ i=>(s.size+1) / 2-(intOf i).toNat)
 case atStart=>exact ⟨0,Nat.zero_le _,rfl,rfl⟩
 case round =>
  obtain ⟨k,hk,rfl,rfl⟩:=hrel;have hr:=sumN_range (bt_isByte s) k;have hq:=wordN_range (bt_isByte s) (2*k);have HN:Hid (sumN (bt s) (k+1)=add1 (sumN (bt s) k) (wordN (bt s) (2*k))):=rfl;have HF:Hid _:=fold_add (sumN (bt s) k) (wordN (bt s) (2*k)) hr.1 hr.2 hq.1 hq.2;have ha:=and_65535 (sumN (bt s) k+wordN (bt s) (2*k));by_cases hlt:k < (s.size+1) / 2
  ·have h2:2*k < s.size:=by omega
   go_wp2_with (go_at_call 134; refine (wordFromS_any s (2*k) _ h2 hs').mono ?_; rintro e w' ⟨rfl,rfl⟩)
   go_round
   case rel=>exact ⟨k+1,by omega,by go_num,by rw [HN.out,← HF.out]⟩
   case measure=>simp [intOf]; omega
  ·go_wp2
   go_ret;exact ⟨ret_int (by unfold sumV; rw [show (s.size+1) / 2=k by omega]),rfl⟩
def twoL (n:Int):List UInt8:=[UInt8.ofNat (n / 256).toNat,UInt8.ofNat (n % 256).toNat]
def twoV (n:Int):ByteArray:=⟨(twoL n).toArray⟩
theorem u8_ofNat (x:Int) (h0:0≤x) (h1:x≤255):((UInt8.ofNat x.toNat).toNat:Int)=x:=by
 rw [UInt8.toNat_ofNat']; omega
theorem two_cells {w:World} {b:Nat} {n:Int} (h0:0≤n) (h1:n≤65535)
  (hc0:w.cell? ⟨b,0,none⟩=some (.int .u8 (n / 256))) (hc1:w.cell? ⟨b,1,none⟩=some (.int .u8 (n % 256))) :
  ∀ j (hj:j < (twoL n).length),w.cell? (Addr.add ⟨b,0,none⟩ j)=some (.int .u8 ((twoL n)[j].toNat:Int)):=by
 intro j hj;match j,hj with
 | 0,_=>simp only [Addr.add,Nat.add_zero,twoL,List.getElem_cons_zero]; rw [u8_ofNat _ (by omega) (by omega)]; exact hc0
 | 1,_=>simp only [Addr.add,Nat.zero_add,twoL,List.getElem_cons_succ,List.getElem_cons_zero]; rw [u8_ofNat _ (by omega) (by omega)]; exact hc1
theorem two_conv {w:World} {b cap:Nat} {n:Int} (h0:0≤n) (h1:n≤65535)
  (hc0:w.cell? ⟨b,0,none⟩=some (.int .u8 (n / 256))) (hc1:w.cell? ⟨b,1,none⟩=some (.int .u8 (n % 256))) :
  (convert 137 9 (.slice (some ⟨b,0,none⟩) 2 cap)).run Tryz.prog w=.ok (.string (twoV n)) w :=
 run_convert_bytes_back (P:=Tryz.prog) w 137 9 5 ⟨b,0,none⟩ cap (twoL n) Tryz.underlying137 Tryz.underlying5 Tryz.underlying9 (two_cells h0 h1 hc0 hc1)
theorem specTwo_any (n:Int) (w:World) (h0:0≤n) (h1:n≤65535) :
  Cb 90 #[iV n] w (.string (twoV n)):=by
 have hcv:=two_conv (w:=w.alloc (.cells #[.int .u8 (n / 256),.int .u8 (n % 256)] 5)) (b:=w.heap.size) (cap:=2) h0 h1 (by simp) (by simp);go_enter Tryz.func90,Tryz.ntmps90
 go_wp2
 go_ret;exact ⟨rfl,bR.alloc (Nat.le_refl _) _⟩
def isW (n:Int):Bool:=decide (0≤n)&&decide (n≤65535)
theorem isW_yes {n:Int} (h0:0≤n) (h1:n≤65535):isW n=true:=by simp [isW,h0,h1]
theorem isW_no {n:Int} (h:¬ (0≤n∧n≤65535)):isW n=false:=by
 rw [Bool.eq_false_iff]; intro hh; simp [isW] at hh; exact h hh
theorem specWordIs_any (n:Int) (w:World) :
  Cw 80 #[iV n] w (.bool (isW n)):=by
 by_cases h0:0≤n
 ·by_cases h1:n≤65535
  ·have HV:Hid (isW n=true):=isW_yes h0 h1;go_enter Tryz.func80,Tryz.ntmps80
   go_wp2
   go_ret;exact ⟨ret_bool HV.out.symm,rfl⟩
  ·have HV:Hid (isW n=false):=isW_no (fun h=>h1 h.2);go_enter Tryz.func80,Tryz.ntmps80
   go_wp2
   go_ret;exact ⟨ret_bool HV.out.symm,rfl⟩
 ·have HV:Hid (isW n=false):=isW_no (fun h=>h0 h.1);go_enter Tryz.func80,Tryz.ntmps80
  go_wp2
  go_ret;exact ⟨ret_bool HV.out.symm,rfl⟩
theorem implWordIs_any (n:Int) (w:World) :
  Cw 117 #[iV n] w (.bool (isW n)):=by
 by_cases h0:0≤n
 ·by_cases h1:n≤65535
  ·have HV:Hid (isW n=true):=isW_yes h0 h1;go_enter Tryz.func117,Tryz.ntmps117
   go_wp2
   go_ret;exact ⟨ret_bool HV.out.symm,rfl⟩
  ·have HV:Hid (isW n=false):=isW_no (fun h=>h1 h.2);go_enter Tryz.func117,Tryz.ntmps117
   go_wp2
   go_ret;exact ⟨ret_bool HV.out.symm,rfl⟩
 ·have HV:Hid (isW n=false):=isW_no (fun h=>h0 h.1);go_enter Tryz.func117,Tryz.ntmps117
  go_wp2
  go_ret;exact ⟨ret_bool HV.out.symm,rfl⟩
def layL:List Int→List Int
 | []=>[]
 | n::r=>n / 256::n % 256::layL r
theorem layL_length (ws:List Int):(layL ws).length=2*ws.length:=by
 induction ws with
 | nil=>rfl
 | cons n r ih=>simp [layL,ih]; omega
theorem layL_append (a:List Int) (n:Int):layL (a++[n])=layL a++[n / 256,n % 256]:=by
 induction a with
 | nil=>rfl
 | cons m r ih=>simp [layL,ih]
theorem lay_step {ws:List Int} {k:Nat} {n:Int} {w2:World} {B e:Nat} {v:Value} (hn:n=ws.getD k 0) (hk:k < ws.length)
  (h:w2.ownsRow B e 1 v (2*k+2) ((layL (ws.take k)).map (Value.int .u8)++[Value.int .u8 (n / 256),Value.int .u8 (n % 256)])) :
  w2.ownsRow B e 1 v (2*(k+1)) ((layL (ws.take (k+1))).map (Value.int .u8)):=by
 have e1:ws.take (k+1)=ws.take k++[n]:=by
  rw [List.take_succ_eq_append_getElem hk,hn]; simp [List.getD,hk]
 rw [e1,layL_append,List.map_append];exact h
theorem Tryz.info5:(Tryz.prog.info? 5).map (fun i=>(i.zero,i.size,i.bytes))=some (some (.int .u8 0),1,1):=by kernel_rfl
theorem layWords_any (ws:List Int) (b m cap:Nat) (w:World) (hm:m≤1000) (hb:b < w.heap.size) (hl:ws.length=m)
  (hw:∀ k,0≤ws.getD k 0∧ws.getD k 0≤65535) (hc:∀ k,k < m→w.cell? ⟨b,k,none⟩=some (iV (ws.getD k 0))) :
  Calls Tryz.prog 160 #[.slice (some ⟨b,0,none⟩) m cap] w fun e w'=>e=.returned (.slice (some ⟨w.heap.size,0,none⟩) (2*m) (2*m)) ∧
   w'.ownsRow w.heap.size 5 1 (.slice (some ⟨w.heap.size,0,none⟩) (2*m) (2*m)) (2*m) ((layL ws).map (Value.int .u8))∧Below w.heap.size w w':=by
 obtain ⟨i0,hi,hz0,hz1,hz2⟩:=info_parts Tryz.info5;go_enter Tryz.func160,Tryz.ntmps160
 go_wp2_with (at_make; refine wpList_make_own _ rfl _ _ 137 rfl w.heap.size 5 i0 (.int .u8 0) 1 Tryz.underlying137 hi hz0 hz1 .i64 .i64 _ (2*m) rfl rfl (by omega) (by rw [hz2]; omega) (by unfold maxLen; omega) (Nat.le_refl _) ?_; intro w1 hown hgrow)
 have hbel:Below w.heap.size w w1:=bR.grown hgrow (Nat.le_refl _) (by simp);clear hgrow;go_loopw [3,12] (fun v i wr=>∃ k:Nat,k≤m∧i=iV k∧v=.slice (some ⟨w.heap.size,0,none⟩) (2*k) (2*m) ∧
   wr.ownsRow w.heap.size 5 1 (.slice (some ⟨w.heap.size,0,none⟩) (2*k) (2*m)) (2*k) ((layL (ws.take k)).map (Value.int .u8))∧Below w.heap.size w wr) (fun _ i _=>m-(intOf i).toNat)
 case atStart=>exact ⟨0,Nat.zero_le _,rfl,rfl,by simpa [layL] using hown,hbel⟩
 case round =>
  clear hown hbel;obtain ⟨k,hk,rfl,rfl,hown,hbel⟩:=hrel;by_cases hlt:k < m
  ·have hcx:wr.cell? ⟨b,k,none⟩=some (iV (ws.getD k 0)):=(hbel.cell (p:=⟨b,k,none⟩) hb).trans (hc k hlt);obtain ⟨n,hn⟩ : ∃ n,n=ws.getD k 0:=⟨_,rfl⟩;have hwn:=hw k;rw [← hn] at hcx hwn;have HN:Hid (n=ws.getD k 0):=hn;clear hn hw hc;have hsz:=hbel.size;go_wp2_with (at_builtin; refine wpList_append_fits _ rfl (.tmp 16) (.tmp 22) 137 rfl w.heap.size 5 i0 1 Tryz.underlying137 hi hz1 w.heap.size (2*k) (2*m) _ rfl (hown.alloc _) ⟨wr.heap.size,0,none⟩ 2 2 [.int .u8 (n / 256),.int .u8 (n % 256)] rfl rfl ?c1 ?c2 (by omega) ?_)
   case c1 =>
    intro j u hj;match j,hj with
    | 0,hj=>simp at hj; subst hj; simp [Addr.add]
    | 1,hj=>simp at hj; subst hj; simp [Addr.add]
   case c2=>intro u hu; simp at hu; rcases hu with rfl | rfl<;>rfl
   ·intro w2 hown2 hgrow2;have hbel2:Below w.heap.size w w2:=(hbel.alloc hsz _).grown hgrow2 (by simp; omega) (by simp);have R:=lay_step HN.out (by omega) hown2;clear hown2 hgrow2 hown hbel hcx;go_wp2
    go_roundw
    case rel=>exact ⟨k+1,by omega,by go_num,rfl,R,hbel2⟩
    case measure=>simp [intOf]; omega
  ·have hkm:k=m:=by omega
   subst hkm;have R:wr.ownsRow w.heap.size 5 1 (.slice (some ⟨w.heap.size,0,none⟩) (2*k) (2*k)) (2*k) ((layL ws).map (Value.int .u8)):=by
    rw [List.take_of_length_le (by omega)] at hown; exact hown
   clear hown;go_wp2
   go_ret;exact ⟨rfl,R,hbel⟩
def oneM (x:Nat):ByteArray:=⟨#[UInt8.ofNat x]⟩
def markA (k:Nat) (o:ByteArray):ByteArray:=if h:k=0 then o else markA (k / 10) (oneM (48+k % 10)++o)
termination_by k
decreasing_by omega
theorem markA_zero (o:ByteArray):markA 0 o=o:=by rw [markA]; rfl
theorem markA_step {k:Nat} (h:0 < k) (o:ByteArray):markA k o=markA (k / 10) (oneM (48+k % 10)++o):=by rw [markA,dif_neg (by omega)]
def emM:ByteArray:=⟨#[109]⟩
def markV (k:Nat):ByteArray:=emM++markA k ⟨#[]⟩
theorem oneM_conv {w:World} {b cap:Nat} {x:Nat} (hx:x≤255) (h0:w.cell? ⟨b,0,none⟩=some (.int .u8 (x:Int))) :
  (convert 137 9 (.slice (some ⟨b,0,none⟩) 1 cap)).run Tryz.prog w=.ok (.string (oneM x)) w :=
 run_convert_bytes_back (P:=Tryz.prog) w 137 9 5 ⟨b,0,none⟩ cap [UInt8.ofNat x] Tryz.underlying137 Tryz.underlying5 Tryz.underlying9 (by
  intro j hj;match j,hj with
  | 0,_=>simp only [Addr.add,Nat.add_zero,List.getElem_cons_zero]; rw [UInt8.toNat_ofNat',Nat.mod_eq_of_lt (by omega)]; exact h0)
theorem markText_any (k:Nat) (w:World) (hk:0 < k) (hk2:k≤1073741824) :
  Cb 66 #[iV k] w (.string (markV k)):=by
 have HV:Hid (markV k=emM++markA k ⟨#[]⟩):=rfl;generalize markV k=ans at *;go_enter Tryz.func66,Tryz.ntmps66
 go_wp2_with fail
 go_loopw [0,3] (fun kv ov wr=>∃ (m:Nat) (o:ByteArray),kv=iV m∧ov=.string o∧markA m o=markA k ⟨#[]⟩∧m*2 ^ o.size≤k∧m≤1073741824∧o.size≤31∧Below w.heap.size w wr) (fun kv _ _=>(intOf kv).toNat)
 case atStart=>exact ⟨k,⟨#[]⟩,rfl,rfl,rfl,by simp [ByteArray.size],hk2,by simp [ByteArray.size],Below.refl _ _⟩
 case round =>
  obtain ⟨m,o,rfl,rfl,hm,hb,hm2,ho,hbel⟩:=hrel;have HM:Hid (markA m o=markA k ⟨#[]⟩):=hm;have HB:Hid (m*2 ^ o.size≤k):=hb;have HL:Hid (Below w.heap.size w wr):=hbel;clear hm hb hbel;by_cases h0:0 < m
  ·have hcv:(convert 137 9 (.slice (some ⟨wr.heap.size,0,none⟩) 1 1)).run Tryz.prog (wr.alloc (.cells #[.int .u8 (48+(m:Int) % 10)] 5))=.ok (.string (oneM (48+m % 10))) (wr.alloc (.cells #[.int .u8 (48+(m:Int) % 10)] 5)) :=
    oneM_conv (by omega) (by simp)
   have ho2:o.size≤30:=by
    by_cases hx:o.size≤30
    ·exact hx
    ·have h1:2 ^ 31≤2 ^ o.size:=Nat.pow_le_pow_right (by omega) (by omega);have h2:1*2 ^ o.size≤m*2 ^ o.size:=Nat.mul_le_mul_right _ h0;have:=HB.out;omega
   have HB2:Hid (m / 10*2 ^ (o.size+1)≤k):=by
    have h1:m / 10*2≤m:=by omega
    have h2:=Nat.mul_le_mul_right (2 ^ o.size) h1;have h3:=HB.out;unfold Hid;rw [Nat.pow_succ,Nat.mul_comm (2 ^ o.size) 2,← Nat.mul_assoc];omega
   have z1:(oneM (48+m % 10)).size=1:=rfl;have n1:¬ 9223372036854775807 < (oneM (48+m % 10)).size+o.size:=by omega
   have HM2:Hid (markA (m / 10) (oneM (48+m % 10)++o)=markA k ⟨#[]⟩):=by unfold Hid; rw [← HM.out,markA_step h0]
   have z2:(oneM (48+m % 10)++o).size=o.size+1:=by rw [ByteArray.size_append]; omega
   have hlt:m / 10 < m:=by omega
   generalize oneM (48+m % 10)=u at *;go_wp2_with fail
   go_roundw
   case rel=>exact ⟨m / 10,u++o,by go_num,rfl,HM2.out,by rw [z2]; exact HB2.out,by omega,by omega,HL.out.alloc HL.out.size _⟩
   case measure=>simp [intOf]; omega
  ·obtain rfl:m=0:=by omega
   have HO:Hid (ans=⟨#[109]⟩++o):=by unfold Hid; rw [HV.out,← HM.out,markA_zero]; rfl
   go_wp2_with fail
   go_ret;exact ⟨ret_string HO.out.symm,HL.out⟩
def marksOf (n k L:Nat):List Nat:=(List.range L).map fun i=>k+n*i
theorem marksOf_length (n k L:Nat):(marksOf n k L).length=L:=by simp [marksOf]
theorem marksOf_get (n k L i:Nat) (h:i < (marksOf n k L).length):(marksOf n k L)[i]=k+n*i:=by simp [marksOf]
structure MkSt (en:Nat→List Value) (n:Nat) (w0:World) (B k L m:Nat) (cs:List Value) (w:World):Prop where
 laid:SlLaid en n w B (marksOf n k L) L m
 part:w.rangeAt B (m*n) cs
 grown:w0.grownBy w (some B)
section
variable {en:Nat→List Value} {n:Nat} {w0 w w':World} {B k L m:Nat} {cs:List Value}
theorem MkSt.new (h:SlLaid en n w B (marksOf n k L) L m) (hg:w0.grownBy w (some B)):MkSt en n w0 B k L m [] w:=⟨h,fun j v hv=>by simp at hv,hg⟩
theorem MkSt.idx (hm:m < L) {j:Nat} (hj:j < n):m*n+j < L*n:=by
 have:=Nat.mul_le_mul_right n (show m+1≤L from hm); rw [Nat.succ_mul] at this; omega
theorem MkSt.put (h:MkSt en n w0 B k L m cs w) (hn:∀ x,(en x).length=n) (hc:cs.length < n) (hm:m < L) (v:Value):MkSt en n w0 B k L m (cs++[v]) (w.setCell ⟨B,m*n+cs.length,none⟩ v):=by
 have hix:=MkSt.idx hm hc;obtain ⟨x,hx⟩:=Option.isSome_iff_exists.1 (h.laid.there _ hix);have ho:∀ o,o≠m*n+cs.length→(w.setCell ⟨B,m*n+cs.length,none⟩ v).cell? ⟨B,o,none⟩=w.cell? ⟨B,o,none⟩:=fun o ho=>World.cell?_setCell_other _ _ _ _ (fun e=>ho (by injection e with _ e2; exact e2.symm))
 have hs:(w.setCell ⟨B,m*n+cs.length,none⟩ v).cell? ⟨B,m*n+cs.length,none⟩=some v:=World.cell?_setCell_same _ _ _ hx;refine ⟨⟨?_,fun i hi hk j u hu=>?_,fun i hi=>?_,fun i hi=>by rw [World.frozen?_setCell]; exact h.laid.free i hi⟩,fun j u hu=>?_,grown_set h.grown v⟩
 ·exact Nat.lt_of_lt_of_le h.laid.blk (((Below.refl 0 w).setCell (p:=⟨B,m*n+cs.length,none⟩) (Nat.zero_le _) v).size)
 ·have hj:=(List.getElem?_eq_some_iff.1 hu).1;rw [hn] at hj;have hle:i*n+n≤m*n:=by have:=Nat.mul_le_mul_right n (show i+1≤m by omega); rw [Nat.succ_mul] at this; exact this
  rw [ho _ (by omega)]; exact h.laid.at0 i hi hk j u hu
 ·by_cases e:i=m*n+cs.length
  ·rw [e,hs]; rfl
  ·rw [ho _ e]; exact h.laid.there i hi
 ·by_cases e:j < cs.length
  ·rw [List.getElem?_append_left e] at hu;rw [ho _ (by omega)]; exact h.part j u hu
  ·have hj:=(List.getElem?_eq_some_iff.1 hu).1;rw [List.length_append] at hj;have:j=cs.length:=by simp at hj; omega
   subst this;simp at hu;rw [hs,hu]
theorem MkSt.call (h:MkSt en n w0 B k L m cs w) (q:Below w.heap.size w w'):MkSt en n w0 B k L m cs w' :=
 ⟨h.laid.kept q,fun j v hv=>((bcell q).1 B _ h.laid.blk).trans (h.part j v hv),grown_trans h.grown (grown_of_below q)⟩
theorem MkSt.there (h:MkSt en n w0 B k L m cs w) (hm:m < L) {j:Nat} (hj:j < n):∃ v,w.cell? ⟨B,m*n+j,none⟩=some v:=Option.isSome_iff_exists.1 (h.laid.there _ (MkSt.idx hm hj))
theorem MkSt.free (h:MkSt en n w0 B k L m cs w) (hm:m < L) {j:Nat} (hj:j < n):w.frozen? ⟨B,m*n+j,none⟩=false:=h.laid.free _ (MkSt.idx hm hj)
theorem MkSt.next (hn:∀ x,(en x).length=n) (h:MkSt en n w0 B k L m cs w) (hc:cs=en (k+n*m)) (hm:m < L):SlLaid en n w B (marksOf n k L) L (m+1):=by
 refine ⟨h.laid.blk,fun i hi hk j v hv=>?_,h.laid.there,h.laid.free⟩;by_cases e:i=m
 ·subst e;rw [marksOf_get,← hc] at hv;exact h.part j v hv
 ·exact h.laid.at0 i hi (by omega) j v hv
end
theorem markText_at (x:Int) (y:Nat) (w:World) (h:x=(y:Int)) (h0:0 < y) (h1:y≤1073741824) :
  Cb 66 #[iV x] w (.string (markV y)):=by
 subst h; exact markText_any y w h0 h1
theorem wordFromB_any (f:Nat→Int) (b len cap k:Nat) (w:World) (hf:isByte f) (he:∀ i,len≤i→f i=0) (hl:len≤2000) (hk:k < len)
  (hc:∀ i,i < len→w.cell? ⟨b,i,none⟩=some (.int .u8 (f i))) :
  Cw 187 #[.slice (some ⟨b,0,none⟩) len cap,iV k] w (iV (wordN f k)):=by
 have b1:=hf k;have b2:=hf (k+1);have hj:=join_word (f k) (f (k+1)) b1.1 b1.2 b2.1 b2.2;have c1:=hc k hk;by_cases h:k+1 < len
 ·have c2:=hc (k+1) h;clear hc he hf;go_enter Tryz.func187,Tryz.ntmps187
  go_wp2
  go_ret;exact ⟨ret_int rfl,rfl⟩
 ·have HE:Hid (f (k+1)=0):=he _ (by omega);clear hc he hf;go_enter Tryz.func187,Tryz.ntmps187
  go_wp2
  go_ret;exact ⟨ret_int (by unfold wordN; rw [HE.out]; omega),rfl⟩
theorem sumOfB_any (f:Nat→Int) (b len cap:Nat) (w:World) (hf:isByte f) (he:∀ i,len≤i→f i=0) (hl:len≤2000)
  (hc:∀ i,i < len→w.cell? ⟨b,i,none⟩=some (.int .u8 (f i))) :
  Cw 186 #[.slice (some ⟨b,0,none⟩) len cap] w (iV (sumN f ((len+1) / 2))):=by
 have HW:Hid (∀ k,k < len→Cw 187 #[.slice (some ⟨b,0,none⟩) len cap,iV k] w (iV (wordN f k))):=fun k hk=>wordFromB_any f b len cap k w hf he hl hk hc
 clear hc he;go_enter Tryz.func186,Tryz.ntmps186
 go_wp2
 go_loop [3,9] (fun n i=>∃ k:Nat,k≤(len+1) / 2∧i=iV k∧n=iV (sumN f k)) (fun _ i=>(len+1) / 2-(intOf i).toNat)
 case atStart=>exact ⟨0,Nat.zero_le _,rfl,rfl⟩
 case round =>
  obtain ⟨k,hk,rfl,rfl⟩:=hrel;have hr:=sumN_range hf k;have hq:=wordN_range hf (2*k);have HN:Hid (sumN f (k+1)=add1 (sumN f k) (wordN f (2*k))):=rfl;have HF:Hid _:=fold_add (sumN f k) (wordN f (2*k)) hr.1 hr.2 hq.1 hq.2;have ha:=and_65535 (sumN f k+wordN f (2*k));clear hf;by_cases hlt:k < (len+1) / 2
  ·have h2:2*k < len:=by omega
   go_wp2_with (go_at_call 187; refine (HW.out (2*k) h2).mono ?_; rintro e w' ⟨rfl,rfl⟩)
   go_round
   case rel=>exact ⟨k+1,by omega,by go_num,by rw [HN.out,← HF.out]⟩
   case measure=>simp [intOf]; omega
  ·go_wp2
   go_ret;exact ⟨ret_int (by rw [show (len+1) / 2=k by omega]),rfl⟩
def fL (ws:List Int) (i:Nat):Int:=(layL ws).getD i 0
theorem fL_end (ws:List Int) (i:Nat) (h:2*ws.length≤i):fL ws i=0:=by
 have:=layL_length ws;simp [fL,List.getD,List.getElem?_eq_none (show (layL ws).length≤i by omega)]
theorem fL_byte:∀ (ws:List Int),(∀ n∈ws,0≤n∧n≤65535)→isByte (fL ws)
 | [],_=>fun i=>by simp [fL,layL]
 | n::r,h=>fun i=>by
  have hn:=h n (by simp);match i with
  | 0=>simp only [fL,layL,List.getD_cons_zero]; omega
  | 1=>simp only [fL,layL,List.getD_cons_succ,List.getD_cons_zero]; omega
  | i+2=>simpa [fL,layL] using fL_byte r (fun m hm=>h m (by simp [hm])) i
theorem add1_zero {a:Int} (h:a≤65535):add1 0 a=a:=by unfold add1; rw [if_neg (by omega)]; omega
theorem word_two (n:Int):n / 256*256+n % 256=n:=by omega
theorem sum_three {a b c:Int} (h:a≤65535):sumN (fL [a,b,c]) 3=add1 (add1 a b) c:=by
 simp only [sumN,wordN,fL,layL,Nat.mul_zero,Nat.mul_one,Nat.zero_add,List.getD_cons_zero,List.getD_cons_succ,word_two,show 2*2=4 from rfl];rw [add1_zero h]
theorem getD_word (ws:List Int) (h:∀ n∈ws,0≤n∧n≤65535) (k:Nat):0≤ws.getD k 0∧ws.getD k 0≤65535:=by
 by_cases hk:k < ws.length
 ·simp only [List.getD,List.getElem?_eq_getElem hk,Option.getD_some]; exact h _ (List.getElem_mem hk)
 ·simp [List.getD,List.getElem?_eq_none (show ws.length≤k by omega)]
theorem layAt (ws:List Int) (w:World) (hm:ws.length≤1000) (h:∀ n∈ws,0≤n∧n≤65535) :
  Calls Tryz.prog 160 #[.slice (some ⟨w.heap.size,0,none⟩) ws.length ws.length] (w.alloc (.cells (ws.map (Value.int .i64)).toArray 2)) fun e w' =>
   e=.returned (.slice (some ⟨w.heap.size+1,0,none⟩) (2*ws.length) (2*ws.length))∧(∀ i,i < 2*ws.length→w'.cell? ⟨w.heap.size+1,i,none⟩=some (.int .u8 (fL ws i)))∧Below w.heap.size w w':=by
 refine (layWords_any ws w.heap.size ws.length ws.length (w.alloc (.cells (ws.map (Value.int .i64)).toArray 2)) hm (by simp) rfl (getD_word ws h) (by intro k hk; simp [hk])).mono ?_;rintro e w' ⟨rfl,hown,hB⟩;have hz:(w.alloc (.cells (ws.map (Value.int .i64)).toArray 2)).heap.size=w.heap.size+1:=by simp
 rw [hz] at hown hB ⊢;refine ⟨rfl,fun i hi=>?_,(bR.alloc (Nat.le_refl _) _).trans (hB.mono (by omega))⟩;have hl:=layL_length ws;rw [hown.cellAt i (by omega)];simp [fL,show i < (layL ws).length by omega]
def sumTurnV (s o n:Int):Int:=if (0≤s∧s≤65535)∧(0≤o∧o≤65535)∧(0≤n∧n≤65535) then 65535-add1 (add1 (65535-s) (65535-o)) n else 0
theorem implSumTurn_any (s o n:Int) (w:World) :
  Cb 185 #[iV s,iV o,iV n] w (iV (sumTurnV s o n)):=by
 by_cases hs:0≤s∧s≤65535
 ·have i1:=isW_yes hs.1 hs.2;by_cases ho:0≤o∧o≤65535
  ·have i2:=isW_yes ho.1 ho.2;by_cases hn:0≤n∧n≤65535
   ·have i3:=isW_yes hn.1 hn.2;have HV:Hid (sumTurnV s o n=65535-sumN (fL [65535-s,65535-o,n]) 3):=(if_pos ⟨hs,ho,hn⟩ : sumTurnV s o n=65535-add1 (add1 (65535-s) (65535-o)) n).trans (by rw [sum_three (by omega)]);have hws:∀ m∈[65535-s,65535-o,n],0≤m∧m≤65535:=by intro m hm; simp at hm; rcases hm with rfl | rfl | rfl<;>omega
    have HL:Hid (Calls Tryz.prog 160 #[.slice (some ⟨w.heap.size,0,none⟩) 3 3] (w.alloc (.cells #[iV (65535-s),iV (65535-o),iV n] 2)) fun e w' =>
     e=.returned (.slice (some ⟨w.heap.size+1,0,none⟩) 6 6)∧(∀ i,i < 6→w'.cell? ⟨w.heap.size+1,i,none⟩=some (.int .u8 (fL [65535-s,65535-o,n] i)))∧Below w.heap.size w w'):=layAt [65535-s,65535-o,n] w (by simp) hws
    have HB:Hid (isByte (fL [65535-s,65535-o,n])):=fL_byte _ hws;have hr:=sumN_range HB.out 3;clear hws;go_enter Tryz.func185,Tryz.ntmps185
    go_wp2_with (first | (go_at_call 117; refine (implWordIs_any _ _).mono ?_; rintro e w' ⟨rfl,rfl⟩) | (go_at_call 160; refine HL.out.mono ?_; rintro e w' ⟨rfl,hc,hB⟩; have HC:Hid _:=hc; clear hc) | (go_at_call 186; refine (sumOfB_any (fL [65535-s,65535-o,n]) _ 6 6 _ HB.out (fL_end [65535-s,65535-o,n]) (by omega) HC.out).mono ?_; rintro e w' ⟨rfl,rfl⟩))
    go_ret;exact ⟨ret_int HV.out.symm,hB⟩
   ·have HV:Hid (sumTurnV s o n=0):=if_neg (fun h=>hn h.2.2);have i3:=isW_no hn;clear hn;go_enter Tryz.func185,Tryz.ntmps185
    go_wp2_with (go_at_call 117; refine (implWordIs_any _ _).mono ?_; rintro e w' ⟨rfl,rfl⟩)
    go_ret;exact ⟨ret_int HV.out.symm,Below.refl _ _⟩
  ·have HV:Hid (sumTurnV s o n=0):=if_neg (fun h=>ho h.2.1);have i2:=isW_no ho;clear ho;go_enter Tryz.func185,Tryz.ntmps185
   go_wp2_with (go_at_call 117; refine (implWordIs_any _ _).mono ?_; rintro e w' ⟨rfl,rfl⟩)
   go_ret;exact ⟨ret_int HV.out.symm,Below.refl _ _⟩
 ·have HV:Hid (sumTurnV s o n=0):=if_neg (fun h=>hs h.1);have i1:=isW_no hs;clear hs;go_enter Tryz.func185,Tryz.ntmps185
  go_wp2_with (go_at_call 117; refine (implWordIs_any _ _).mono ?_; rintro e w' ⟨rfl,rfl⟩)
  go_ret;exact ⟨ret_int HV.out.symm,Below.refl _ _⟩
theorem bt_append (a b:ByteArray) (i:Nat):bt (a++b) i=if i < a.size then bt a i else bt b (i-a.size):=by
 have hs:(a++b).size=a.size+b.size:=ByteArray.size_append;by_cases h:i < a.size
 ·rw [if_pos h]; unfold bt; rw [dif_pos (by omega),dif_pos h,ByteArray.getElem_append_left h]
 ·rw [if_neg h]; unfold bt;by_cases h2:i < (a++b).size
  ·rw [dif_pos h2,dif_pos (by omega),ByteArray.getElem_append_right (by omega)]
  ·rw [dif_neg h2,dif_neg (by omega)]
theorem bt_extract (a:ByteArray) (s e i:Nat) (he:e≤a.size):bt (a.extract s e) i=if s+i < e then bt a (s+i) else 0:=by
 have hs:(a.extract s e).size=min e a.size-s:=ByteArray.size_extract;by_cases h:s+i < e
 ·rw [if_pos h]; unfold bt; rw [dif_pos (by omega),dif_pos (by omega),ByteArray.getElem_extract]
 ·rw [if_neg h]; unfold bt; rw [dif_neg (by omega)]
theorem twoV_size (n:Int):(twoV n).size=2:=rfl
theorem sumN_congr {f g:Nat→Int}:∀ (k:Nat),(∀ i,i < 2*k→f i=g i)→sumN f k=sumN g k
 | 0,_=>rfl
 | k+1,h=>by
  unfold sumN;rw [sumN_congr k (fun i hi=>h i (by omega))];unfold wordN;rw [h (2*k) (by omega),h (2*k+1) (by omega)]
section
variable {t:ByteArray} {j K:Nat} {n:Int}
end
theorem add1_mod (a b:Int):∃ z,add1 a b=a+b+65535*z:=by
 unfold add1; split
 ·exact ⟨-1,by omega⟩
 ·exact ⟨0,by omega⟩
structure P4 where
 tos:Int
 id:Int
 whole:Bool
 more:Bool
 off:Int
 ttl:Int
 proto:Int
 src:ByteArray
 dst:ByteArray
 opts:ByteArray
 data:ByteArray
structure P6 where
 cls:Int
 flow:Int
 next:Int
 hops:Int
 src:ByteArray
 dst:ByteArray
 piece:Bool
 more:Bool
 off:Int
 id:Int
 data:ByteArray
def p4C (p:P4):Value:=.agg (P4R p.tos p.id p.whole p.more p.off p.ttl p.proto p.src p.dst p.opts p.data).toArray
def p6C (p:P6):Value:=.agg #[iV p.cls,iV p.flow,iV p.next,iV p.hops,.string p.src,.string p.dst,.bool p.piece,.bool p.more,iV p.off,iV p.id,.string p.data]
def isIn (n lo hi:Int):Bool:=decide (lo≤n)&&decide (n≤hi)
theorem isIn_parts {n lo hi:Int} (h:isIn n lo hi=true):lo≤n∧n≤hi:=by simpa [isIn] using h
def v4A (p:P4):Bool:=isIn p.tos 0 255&&isIn p.ttl 0 255&&isIn p.proto 0 255&&isIn p.id 0 65535&&isIn p.off 0 8191&&decide (p.src.size=4)&&decide (p.dst.size=4)
def v4B (p:P4):Bool:=decide (p.opts.size≤40)&&decide (p.opts.size % 4=0)&&decide (p.data.size≤1400)&&!(p.more&&!decide (p.data.size % 8=0))&&decide (8*p.off+p.data.size≤65515)
def v4C (p:P4):Bool:=!p.whole||(!p.more&&decide (p.off=0))
def v4Ok (p:P4):Bool:=v4A p&&v4B p&&v4C p
theorem v4A_parts {p:P4} (h:v4A p=true):(0≤p.tos∧p.tos≤255)∧(0≤p.ttl∧p.ttl≤255)∧(0≤p.proto∧p.proto≤255)∧(0≤p.id∧p.id≤65535)∧(0≤p.off∧p.off≤8191)∧p.src.size=4∧p.dst.size=4:=by
 unfold v4A at h;simp only [Bool.and_eq_true,decide_eq_true_iff] at h;obtain ⟨⟨⟨⟨⟨⟨h1,h2⟩,h3⟩,h4⟩,h5⟩,h6⟩,h7⟩:=h;exact ⟨isIn_parts h1,isIn_parts h2,isIn_parts h3,isIn_parts h4,isIn_parts h5,h6,h7⟩
theorem v4B_parts {p:P4} (h:v4B p=true):p.opts.size≤40∧p.opts.size % 4=0∧p.data.size≤1400∧(p.more=true→p.data.size % 8=0)∧8*p.off+p.data.size≤65515:=by
 unfold v4B at h;simp only [Bool.and_eq_true,Bool.not_eq_true',decide_eq_true_iff] at h;obtain ⟨⟨⟨⟨h1,h2⟩,h3⟩,h4⟩,h5⟩:=h;refine ⟨h1,h2,h3,fun hm=>?_,h5⟩;rw [hm,Bool.true_and,Bool.not_eq_false',decide_eq_true_iff] at h4;exact h4
def pairV (x y:Int):ByteArray:=⟨#[UInt8.ofNat x.toNat,UInt8.ofNat y.toNat]⟩
theorem pairV_size (x y:Int):(pairV x y).size=2:=rfl
def hlen (p:P4):Int:=20+p.opts.size
def p4Zero:P4:=⟨0,0,false,false,0,0,0,⟨#[]⟩,⟨#[]⟩,⟨#[]⟩,⟨#[]⟩⟩
def p6Zero:P6:=⟨0,0,0,0,⟨#[]⟩,⟨#[]⟩,false,false,0,0,⟨#[]⟩⟩
abbrev P4V (p : P4) : List Value := [iV p.tos,iV p.id,.bool p.whole,.bool p.more,iV p.off,iV p.ttl,iV p.proto,.string p.src,.string p.dst,.string p.opts,.string p.data]
end Go.Proofs.YtcckaeppiamebaaGreatDoor
namespace Go.Proofs.YtcckaeppiamebaaGreatDoor
open Go.RowKit
structure Bd where
 proto:Int
 inn:ByteArray
 inPort:Int
 out:ByteArray
 outPort:Int
def bdC (p:Bd):Value:=.agg (BdR p.proto p.inn p.inPort p.out p.outPort).toArray
def bdL (p:Bd):List Value:=(BdR p.proto p.inn p.inPort p.out p.outPort)
theorem bdL_length (p:Bd):(bdL p).length=5:=rfl
instance:Inhabited Bd:=⟨⟨0,⟨#[]⟩,0,⟨#[]⟩,0⟩⟩
structure Ss where
 proto:Int
 inn:ByteArray
 inPort:Int
 peer:ByteArray
 peerPort:Int
 state:Int
 untl:Int
def ssC (p:Ss):Value:=.agg (SsR p.proto p.inn p.inPort p.peer p.peerPort p.state p.untl).toArray
def ssL (p:Ss):List Value:=(SsR p.proto p.inn p.inPort p.peer p.peerPort p.state p.untl)
theorem ssL_length (p:Ss):(ssL p).length=7:=rfl
instance:Inhabited Ss:=⟨⟨0,⟨#[]⟩,0,⟨#[]⟩,0,0,0⟩⟩
structure Tc where
 proto:Int
 inside:Bool
 addr:ByteArray
 port:Int
 peer:ByteArray
 peerPort:Int
 flags:Int
def tcC (p:Tc):Value:=.agg (TcR p.proto p.inside p.addr p.port p.peer p.peerPort p.flags).toArray
abbrev TcV (p : Tc) : List Value := [iV p.proto,.bool p.inside,.string p.addr,iV p.port,.string p.peer,iV p.peerPort,iV p.flags]
abbrev BdV (p : Bd) : List Value := [iV p.proto,.string p.inn,iV p.inPort,.string p.out,iV p.outPort]
abbrev SsV (p : Ss) : List Value := [iV p.proto,.string p.inn,iV p.inPort,.string p.peer,iV p.peerPort,iV p.state,iV p.untl]
structure Lv where
 udp:Int
 echo:Int
 opening:Int
 opn:Int
 closing:Int
def lvC (l:Lv):Value:=.agg #[iV l.udp,iV l.echo,iV l.opening,iV l.opn,iV l.closing]
def livesOk (l:Lv):Bool:=isIn l.udp 1 10000&&isIn l.echo 1 10000&&isIn l.opening 1 10000&&isIn l.opn 1 10000&&isIn l.closing 1 10000
def stillP (proto:Int):Bool:=decide (proto=17)||decide (proto=1)
def flagB (flags:Int) (m:Int):Bool:=decide (bits .and .i64 flags m≠0)
def trackNewV (proto:Int) (inside:Bool) (flags:Int):Int :=
 if isIn flags 0 255=false then 0 else if stillP proto=true then 3
 else if proto=6∧flagB flags 2=true∧flagB flags 4=false∧flagB flags 16=false then (if inside=true then 1 else 2) else 0
def trackNextV (proto state:Int) (inside:Bool) (flags:Int):Int :=
 if stillP proto=true then 3
 else if proto=6∧isIn state 1 7=true∧isIn flags 0 255=true then
  if flagB flags 4=true then 7
  else if state=1 then (if inside=false∧flagB flags 2=true then 3 else 1)
  else if state=2 then (if inside=true∧flagB flags 2=true then 3 else 2)
  else if state=3 then (if flagB flags 1=true then (if inside=true then 4 else 5) else 3)
  else if state=4 then (if inside=false∧flagB flags 1=true then 6 else 4)
  else if state=5 then (if inside=true∧flagB flags 1=true then 6 else 5)
  else if state=7 then 3 else state
 else 0
def trackLifeV (l:Lv) (proto state:Int):Int :=
 if livesOk l=false then 0
 else if proto=17 then l.udp else if proto=1 then l.echo else if proto=6 then
  (if state=1∨state=2 then l.opening else if state=3∨state=4∨state=5 then l.opn else if state=6∨state=7 then l.closing else 0)
 else 0
open Go.PlainAid
def addrOk (s:ByteArray):Bool:=s.size==4||s.size==16
theorem addrOk_size {s:ByteArray} (h:addrOk s=true):s.size=4∨s.size=16:=by simpa [addrOk] using h
theorem addrOk_yes {s:ByteArray} (h:s.size=4∨s.size=16):addrOk s=true:=by simpa [addrOk] using h
theorem addrOk_no {s:ByteArray} (h:¬ (s.size=4∨s.size=16)):addrOk s=false:=by
 rw [Bool.eq_false_iff]; intro hh; exact h (addrOk_size hh)
theorem specAddrRight_any (s:ByteArray) (w:World) :
  Cw 121 #[.string s] w (.bool (addrOk s)):=by
 by_cases h4:s.size=4
 ·have HV:Hid (addrOk s=true):=addrOk_yes (.inl h4);have h4':(s.size:Int)=4:=by omega
  clear h4;go_enter Tryz.func121,Tryz.ntmps121
  go_wp2
  go_ret;exact ⟨ret_bool HV.out.symm,rfl⟩
 ·by_cases h16:s.size=16
  ·have HV:Hid (addrOk s=true):=addrOk_yes (.inr h16);have h16':(s.size:Int)=16:=by omega
   clear h16 h4;go_enter Tryz.func121,Tryz.ntmps121
   go_wp2
   go_ret;exact ⟨ret_bool HV.out.symm,rfl⟩
  ·have HV:Hid (addrOk s=false):=addrOk_no (by omega);have e1:((s.size:Int)==4)=false:=by simp; omega
   have e2:((s.size:Int)==16)=false:=by simp; omega
   go_enter Tryz.func121,Tryz.ntmps121
   go_wp2
   go_ret;exact ⟨ret_bool HV.out.symm,rfl⟩
end Go.Proofs.YtcckaeppiamebaaGreatDoor
namespace Go.Proofs.YtcckaeppiamebaaGreatDoor
open Go.RowKit
structure Pl where
 addrs:List ByteArray
 low:Int
 high:Int
 most:Int
 filter:Int
 lv:Lv
def plL (a:Option Addr) (cap:Nat) (p:Pl):List Value:=[.slice a p.addrs.length cap,iV p.low,iV p.high,iV p.most,iV p.filter,iV p.lv.udp,iV p.lv.echo,iV p.lv.opening,iV p.lv.opn,iV p.lv.closing]
def plC (a:Option Addr) (cap:Nat) (p:Pl):Value:=.agg #[.slice a p.addrs.length cap,iV p.low,iV p.high,iV p.most,iV p.filter,iV p.lv.udp,iV p.lv.echo,iV p.lv.opening,iV p.lv.opn,iV p.lv.closing]
structure Bb where
 binds:List Bd
 sess:List Ss
def bbC (a b:Option Addr) (ca cb:Nat) (x:Bb):Value:=.agg #[.slice a x.binds.length ca,.slice b x.sess.length cb]
def strL1 (s:ByteArray):List Value:=[.string s]
def protoB (proto:Int):Bool:=decide (proto=6)||decide (proto=17)||decide (proto=1)
def inL (xs:List ByteArray) (s:ByteArray):Bool:=xs.any fun t=>decide (t.toList=s.toList)
def findI {α:Type} (f:α→Bool) (xs:List α):Int:=match xs.findIdx? f with | some i=>i | none=>-1
def ofIn (proto:Int) (s:ByteArray) (port:Int) (q:Bd):Bool:=decide (q.proto=proto)&&decide (q.inn.toList=s.toList)&&decide (q.inPort=port)
def ofOut (proto:Int) (s:ByteArray) (port:Int) (q:Bd):Bool:=decide (q.proto=proto)&&decide (q.out.toList=s.toList)&&decide (q.outPort=port)
def hasS (p:Bd) (q:Ss):Bool:=decide (p.proto=q.proto)&&decide (p.inn.toList=q.inn.toList)&&decide (p.inPort=q.inPort)
def upN {α:Type} (f:List α→α→Bool) (xs:List α):Nat→Bool
 | 0=>true
 | n+1=>upN f xs n&&(match xs[n]? with | some x=>f (xs.take n) x | none=>true)
theorem upN_step {α:Type} {f:List α→α→Bool} {xs:List α} {n:Nat} (h:n < xs.length):upN f xs (n+1)=(upN f xs n&&f (xs.take n) xs[n]):=by
 show (upN f xs n&&_)=_;rw [List.getElem?_eq_getElem h]
theorem upN_false {α:Type} {f:List α→α→Bool} {xs:List α}:∀ {m n:Nat},n≤m→upN f xs n=false→upN f xs m=false
 | 0,n,h,hf=>by have e:n=0:=(by omega); rw [e] at hf; exact hf
 | m+1,n,h,hf=>by
  by_cases e:n=m+1
  ·subst e; exact hf
  ·show (upN f xs m&&_)=false;rw [upN_false (m:=m) (n:=n) (by omega) hf]; rfl
theorem upN_at {α:Type} {f:List α→α→Bool} {xs:List α} {i:Nat} (h:i < xs.length) (hf:f (xs.take i) xs[i]=false):upN f xs xs.length=false:=by
 refine upN_false (n:=i+1) (by omega) ?_;rw [upN_step h,hf,Bool.and_false]
def addrOne (ys:List ByteArray) (s:ByteArray):Bool:=decide (s.size=4)&&!inL ys s
def poolOk (p:Pl):Bool:=decide (1≤p.addrs.length)&&decide (p.addrs.length≤8)&&decide (1≤p.low)&&decide (p.low≤p.high)&&decide (p.high≤65535)&&isIn p.most 1 60&&isIn p.filter 0 2&&livesOk p.lv&&upN addrOne p.addrs p.addrs.length
def clashB (c b:Bd):Bool:=(decide (c.inn.toList=b.inn.toList)&&!decide (c.out.toList=b.out.toList))||(decide (c.proto=b.proto)&&((decide (c.inn.toList=b.inn.toList)&&decide (c.inPort=b.inPort))||(decide (c.out.toList=b.out.toList)&&decide (c.outPort=b.outPort))))
def bindOne (p:Pl) (ys:List Bd) (b:Bd):Bool:=protoB b.proto&&addrOk b.inn&&isW b.inPort&&inL p.addrs b.out&&isIn b.outPort p.low p.high&&!ys.any fun c=>clashB c b
def sameS (s t:Ss):Bool:=decide (s.proto=t.proto)&&decide (s.inn.toList=t.inn.toList)&&decide (s.inPort=t.inPort)&&decide (s.peer.toList=t.peer.toList)&&decide (s.peerPort=t.peerPort)
def sessOne (bs:List Bd) (ys:List Ss) (s:Ss):Bool:=decide (s.peer.size=4)&&isW s.peerPort&&isIn s.state 1 7&&(decide (s.proto=6)||decide (s.state=3))&&isIn s.untl 0 2000000000&&decide (0≤findI (ofIn s.proto s.inn s.inPort) bs)&&!ys.any fun t=>sameS s t
def bibOk (p:Pl) (b:Bb):Bool:=poolOk p&&decide ((b.sess.length:Int)≤p.most)&&decide (b.binds.length≤60)&&upN (bindOne p) b.binds b.binds.length&&upN (sessOne b.binds) b.sess b.sess.length&&b.binds.all fun x=>b.sess.any fun s=>hasS x s
abbrev KkV (a : Option Addr) (c : Nat) (p : Pl) (d : Option Addr) (e : Nat) (f : Option Addr) (g : Nat) (x : Bb) (m n : Nat) : List Value := [.slice a p.addrs.length c,iV p.low,iV p.high,iV p.most,iV p.filter,iV p.lv.udp,iV p.lv.echo,iV p.lv.opening,iV p.lv.opn,iV p.lv.closing,.slice d x.binds.length e,.slice f x.sess.length g,.map (some m),.map (some n)]
abbrev PlV (a : Option Addr) (c : Nat) (p : Pl) : List Value := [.slice a p.addrs.length c,iV p.low,iV p.high,iV p.most,iV p.filter,iV p.lv.udp,iV p.lv.echo,iV p.lv.opening,iV p.lv.opn,iV p.lv.closing]
abbrev BbV (d : Option Addr) (e : Nat) (f : Option Addr) (g : Nat) (x : Bb) : List Value := [.slice d x.binds.length e,.slice f x.sess.length g]
open Go.ChangeShapes
def slot (a:Act) (t:Tmp):Value:=a.tmps.getD t undef
theorem slot_put_ne {a:Act} {d t:Tmp} {v:Value} (h:d≠t):slot (a.put (some d) v) t=slot a t:=by
 simp [slot,Act.put,Array.getElem?_setIfInBounds_ne h]
theorem slot_put_eq {a:Act} {d:Tmp} {v:Value} (h:d < a.tmps.size):slot (a.put (some d) v) d=v:=by
 simp [slot,Act.put,h]
def unl (listed:Array Bool):Nat→Nat
 | 0=>0
 | n+1=>unl listed n+(if listed.getD n true=true then 0 else 1)
theorem unl_le (listed:Array Bool):∀ n,unl listed n≤n
 | 0=>Nat.le_refl _
 | n+1=>by have:=unl_le listed n; unfold unl; split<;>omega
theorem unl_ge {listed:Array Bool} {i:Nat}:∀ n,n≤i→unl (listed.setIfInBounds i true) n=unl listed n
 | 0,_=>rfl
 | n+1,h=>by unfold unl; rw [unl_ge n (by omega),getD_set_ne true (by omega)]
theorem unl_set {listed:Array Bool} {i:Nat} (hf:listed.getD i true=false):∀ n,i < n→unl (listed.setIfInBounds i true) n+1=unl listed n
 | 0,h=>by omega
 | n+1,h=>by
  unfold unl;by_cases e:i=n
  ·subst e;have hlt:i < listed.size:=by
    rcases Nat.lt_or_ge i listed.size with h' | h'
    ·exact h'
    ·simp [Array.getElem?_eq_none h'] at hf
   have hs:(listed.setIfInBounds i true).getD i true=true:=by simp [hlt]
   rw [unl_ge i (Nat.le_refl _),hs,hf,if_pos rfl,if_neg (by simp)]
  ·rw [getD_set_ne true e,← unl_set hf n (by omega)]; omega
theorem unl_zero {listed:Array Bool}:∀ n,unl listed n=0→∀ i,i < n→listed.getD i true=true
 | 0,_,i,h=>by omega
 | n+1,h0,i,h=>by
  unfold unl at h0;by_cases e:i=n
  ·subst e;by_cases hh:listed.getD i true=true
   ·exact hh
   ·rw [if_neg hh] at h0; omega
  ·exact unl_zero n (by omega) i (by omega)
section
variable {P:Program} {ops:Array Oper} {Q:Exit→Act→World→Prop} {ds:List Tmp} {R:Nat→Value→World→Prop} {a0:Act} {w0:World}
structure GInv (ops:Array Oper) (ds:List Tmp) (R:Nat→Value→World→Prop) (a0:Act) (w0:World) (listed:Array Bool) (a:Act) (w:World):Prop where
 size:listed.size=ops.size
 tsize:a.tmps.size=a0.tmps.size
 defers:a.defers=a0.defers
 outer:∀ t,t ∉ ds→slot a t=slot a0 t
 inner:∀ i,listed.getD i false=true→R i (slot a (ds.getD i 0)) w
 below:Below w0.heap.size w0 w
def GStep (P:Program) (Q:Exit→Act→World→Prop) (ds:List Tmp) (R:Nat→Value→World→Prop) (a0:Act) (w0:World) (i:Nat) (o:Oper):Prop :=
 ∀ (K':Act→World→Prop) (a:Act) (w:World),(∀ t,t ∉ ds→slot a t=slot a0 t)→(∀ e∈o.after,Region.binds .any e=true→R e.on (slot a (ds.getD e.on 0)) w) →
  Below w0.heap.size w0 w→(∀ v w',R i v w'→Below w.heap.size w w'→K' (a.put o.dst v) w')→Oper.wp P o a w K' Q
structure GForm (ops:Array Oper) (ds:List Tmp) (n:Nat):Prop where
 len:ds.length=ops.size
 dst:∀ i o,ops[i]?=some o→o.dst=some (ds.getD i 0)∧o.guard=none
 nodup:ds.Nodup
 fits:∀ d∈ds,d < n
 topo:∀ i o,ops[i]?=some o→∀ e∈o.after,Region.binds .any e=true→e.on < i
def gform (ops:Array Oper) (ds:List Tmp) (n:Nat):Bool :=
 decide (ds.length=ops.size)&&(List.range ops.size).all (fun i=>match ops[i]? with
  | some o=>(match o.dst with | some d=>d==ds.getD i 0 | none=>false)&&o.guard.isNone&&o.after.all (fun e=>!Region.binds .any e||decide (e.on < i))
  | none=>true)&&decide ds.Nodup&&ds.all (fun d=>decide (d < n))
theorem GForm.of {n:Nat} (h:gform ops ds n=true):GForm ops ds n:=by
 unfold gform at h;simp only [Bool.and_eq_true,decide_eq_true_iff,List.all_eq_true,List.mem_range] at h;obtain ⟨⟨⟨h1,h2⟩,h3⟩,h4⟩:=h;refine ⟨h1,fun i o ho=>?_,h3,h4,fun i o ho e he hb=>?_⟩
 ·have:=h2 i (Array.getElem?_eq_some_iff.1 ho).1;rw [ho] at this;simp only [Bool.and_eq_true] at this;obtain ⟨⟨t1,t2⟩,_⟩:=this;refine ⟨?_,by simpa using t2⟩
  cases hd:o.dst with
  | none=>rw [hd] at t1; simp at t1
  | some d=>rw [hd] at t1; simp at t1; rw [t1]; simp
 ·have:=h2 i (Array.getElem?_eq_some_iff.1 ho).1;rw [ho] at this;simp only [Bool.and_eq_true] at this;obtain ⟨_,t3⟩:=this;have:=Array.all_eq_true_iff_forall_mem.1 t3 e he;simp [hb] at this;exact this
theorem getD_at {ds:List Tmp} {i:Nat} (h:i < ds.length):ds.getD i 0=ds[i]:=by simp [h]
theorem nodup_ne {ds:List Tmp} (h:ds.Nodup) {i j:Nat} (hi:i < ds.length) (hj:j < ds.length) (hne:i≠j):ds.getD i 0≠ds.getD j 0:=by
 intro e;rw [getD_at hi,getD_at hj] at e;have hp:=List.pairwise_iff_getElem.1 h;rcases Nat.lt_or_gt_of_ne hne with hlt | hlt
 ·exact hp i j hi hj hlt e
 ·exact hp j i hj hi hlt e.symm
theorem wpAny_grow (hF:GForm ops ds a0.tmps.size) (hst:∀ i v w w',R i v w→Below w.heap.size w w'→R i v w')
  (hstep:∀ i o,ops[i]?=some o→GStep P Q ds R a0 w0 i o)
  (hdone:∀ a w,a.tmps.size=a0.tmps.size→a.defers=a0.defers→(∀ t,t ∉ ds→slot a t=slot a0 t)→(∀ i,i < ops.size→R i (slot a (ds.getD i 0)) w)→Below w0.heap.size w0 w→Q .normal a w) :
  ∀ (fuel:Nat) (listed:Array Bool) (a:Act) (w:World),unl listed ops.size≤fuel→GInv ops ds R a0 w0 listed a w→wpAny P .any ops Q fuel listed a w:=by
 have hall:∀ (listed:Array Bool) (a:Act) (w:World),GInv ops ds R a0 w0 listed a w→Region.ready .any ops listed=[]→Q .normal a w:=by
  intro listed a w hI hr;refine hdone a w hI.tsize hI.defers hI.outer (fun i hi=>hI.inner i ?_) hI.below;have key:∀ i,i < ops.size→listed.getD i false=true:=by
   intro i;induction i using Nat.strongRecOn with
   | ind i ih =>
    intro hi;have hsz:=hI.size;by_cases hh:listed.getD i true=true
    ·have hlt:i < listed.size:=by omega
     simpa [hlt] using hh
    ·exfalso
     have hmem:i∈Region.ready .any ops listed:=by
      rw [mem_ready];refine ⟨by simpa using hh,ops[i],by simp [hi],fun e he hb=>?_⟩;have hlt:=hF.topo i ops[i] (by simp [hi]) e he hb;exact ih _ hlt (by omega)
     rw [hr] at hmem;simp at hmem
  exact key i hi
 intro fuel;induction fuel with
 | zero =>
  intro listed a w hu hI;have hr:Region.ready .any ops listed=[]:=by
   rw [List.eq_nil_iff_forall_not_mem];intro i hi;rw [mem_ready] at hi;obtain ⟨h0,o,ho,_⟩:=hi;have:=unl_zero (listed:=listed) ops.size (by omega) i (Array.getElem?_eq_some_iff.1 ho).1;rw [h0] at this;simp at this
  exact ⟨hr,hall listed a w hI hr⟩
 | succ fuel ih =>
  intro listed a w hu hI;refine ⟨fun hr=>hall listed a w hI hr,fun i hi=>?_⟩;rw [mem_ready] at hi;obtain ⟨h0,o,ho,hdeps⟩:=hi;have hi:i < ops.size:=(Array.getElem?_eq_some_iff.1 ho).1;obtain ⟨hd,hg⟩:=hF.dst i o ho;have hil:i < ds.length:=by rw [hF.len]; exact hi
  have hmem:ds.getD i 0∈ds:=by rw [getD_at hil]; exact List.getElem_mem hil
  refine wpOp_step ho (fun K' hK=>?_);rw [if_pos (by unfold Region.wanted; rw [hg])];refine hstep i o ho K' a w hI.outer (fun e he hb=>hI.inner _ (hdeps e he hb)) hI.below (fun v w' hR hB=>hK _ _ ?_);refine ih _ _ _ (by have:=unl_set h0 ops.size hi; omega) ⟨by simp [hI.size],?_,?_,fun t ht=>?_,fun j hj=>?_,hI.below.trans (hB.mono hI.below.size)⟩
  ·rw [hd]; simp [Act.put,hI.tsize]
  ·rw [hd]; simp [Act.put,hI.defers]
  ·rw [hd,slot_put_ne (show ds.getD i 0≠t from fun e=>ht (e ▸ hmem))]; exact hI.outer t ht
  ·rw [hd];by_cases e:i=j
   ·subst e;rw [slot_put_eq (by rw [hI.tsize]; exact hF.fits _ hmem)];exact hR
   ·rw [getD_set_ne false e] at hj;have hjl:j < ds.length:=by
     rw [hF.len,← hI.size];rcases Nat.lt_or_ge j listed.size with h' | h'
     ·exact h'
     ·simp [Array.getElem?_eq_none h'] at hj
    rw [slot_put_ne (nodup_ne hF.nodup hil hjl e)];exact hst _ _ _ _ (hI.inner j hj) hB
theorem wp_region_grow {id:Nat} (hm:P.follows .mixedOrders=true) (hF:GForm ops ds a0.tmps.size) (hst:∀ i v w w',R i v w→Below w.heap.size w w'→R i v w')
  (hstep:∀ i o,ops[i]?=some o→GStep P Q ds R a0 w0.drew i o)
  (hdone:∀ a w,a.tmps.size=a0.tmps.size→a.defers=a0.defers→(∀ t,t ∉ ds→slot a t=slot a0 t)→(∀ i,i < ops.size→R i (slot a (ds.getD i 0)) w)→Below w0.drew.heap.size w0.drew w→Q .normal a w) :
  (Code.region id ops true).wp P Q a0 w0:=by
 refine wp_region_any hm (wpAny_grow (w0:=w0.drew) hF hst hstep hdone ops.size _ a0 w0.drew (unl_le _ _) ⟨by simp,rfl,rfl,fun _ _=>rfl,fun i hi=>?_,Below.refl _ _⟩);exfalso
 by_cases h:i < ops.size
 ·simp [h] at hi
 ·simp [h] at hi
def rAt (Rs:List (Value→World→Prop)) (i:Nat) (v:Value) (w:World):Prop:=Rs.getD i (fun _ _=>True) v w
def GSteps (P:Program) (Q:Exit→Act→World→Prop) (ds:List Tmp) (R:Nat→Value→World→Prop) (a0:Act) (w0:World):Nat→List Oper→Prop
 | _,[]=>True
 | n,o::l=>GStep P Q ds R a0 w0 n o∧GSteps P Q ds R a0 w0 (n+1) l
theorem GSteps.at':∀ (l:List Oper) (n:Nat),GSteps P Q ds R a0 w0 n l→∀ i o,l[i]?=some o→GStep P Q ds R a0 w0 (n+i) o
 | [],_,_,i,o,h=>by simp at h
 | p::l,n,hs,0,o,h=>by simp at h; subst h; exact hs.1
 | p::l,n,hs,i+1,o,h=>by
  have:=GSteps.at' l (n+1) hs.2 i o (by simpa using h);rwa [show n+1+i=n+(i+1) by omega] at this
def RAll (X:Nat→Value) (w:World):Nat→List (Value→World→Prop)→Prop
 | _,[]=>True
 | n,r::l=>r (X n) w∧RAll X w (n+1) l
theorem RAll.mk {X:Nat→Value} {w:World}:∀ (l:List (Value→World→Prop)) (n:Nat),(∀ i,i < l.length→rAt l i (X (n+i)) w)→RAll X w n l
 | [],_,_=>trivial
 | r::l,n,h=>⟨h 0 (by simp),RAll.mk l (n+1) (fun i hi=>by have:=h (i+1) (by simp; omega); rw [show n+1+i=n+(i+1) by omega]; exact this)⟩
def Stable (r:Value→World→Prop):Prop:=∀ v w w',r v w→Below w.heap.size w w'→r v w'
def putsFrom (X:Nat→Value):Act→Nat→List Tmp→Act
 | a,_,[]=>a
 | a,k,d::l=>putsFrom X (a.put (some d) (X k)) (k+1) l
theorem act_ext {a b:Act} (h1:a.tmps.size=b.tmps.size) (h2:a.defers=b.defers) (h:∀ t,slot a t=slot b t):a=b:=by
 obtain ⟨ta,da⟩:=a;obtain ⟨tb,db⟩:=b;simp only at h1 h2;subst h2;congr 1
 refine Array.ext h1 (fun i hi hj=>?_);have:=h i;simpa [slot,hi,hj] using this
theorem puts_eq {X:Nat→Value} {a:Act}:∀ (l:List Tmp) (b:Act) (k:Nat),b.tmps.size=a.tmps.size→b.defers=a.defers→(∀ i,i < l.length→X (k+i)=slot a (l.getD i 0))→(∀ t,t ∉ l→slot b t=slot a t)→(∀ d∈l,d < a.tmps.size)→putsFrom X b k l=a
 | [],b,k,h1,h2,_,h4,_=>act_ext h1 h2 (fun t=>h4 t (by simp))
 | d::l,b,k,h1,h2,h3,h4,h5=>by
  refine puts_eq l _ (k+1) (by simp [Act.put,h1]) (by simp [Act.put,h2]) (fun i hi=>?_) (fun t ht=>?_) (fun e he=>h5 e (by simp [he]))
  ·have:=h3 (i+1) (by simp; omega);rw [show k+1+i=k+(i+1) by omega,this];simp
  ·by_cases e:d=t
   ·subst e;rw [slot_put_eq (by rw [h1]; exact h5 d (by simp))];have:=h3 0 (by simp);simpa using this
   ·rw [slot_put_ne e];exact h4 t (by simp; exact ⟨fun h=>e h.symm,ht⟩)
theorem wp_region_growL {id:Nat} {Rs:List (Value→World→Prop)} (ds:List Tmp) (hm:P.follows .mixedOrders=true) (hF:gform ops ds a0.tmps.size=true) (hl:Rs.length=ops.size) (hst:∀ r∈Rs,Stable r)
  (hstep:GSteps P Q ds (rAt Rs) a0 w0.drew 0 ops.toList)
  (hdone:∀ (X:Nat→Value) w,RAll X w 0 Rs→Below w0.drew.heap.size w0.drew w→Q .normal (putsFrom X a0 0 ds) w) :
  (Code.region id ops true).wp P Q a0 w0:=by
 have hG:=GForm.of hF;refine wp_region_grow (ds:=ds) (R:=rAt Rs) hm hG (fun i v w w' h hb=>?_) (fun i o ho=>?_) (fun a w h1 h2 h3 h4 h5=>?_)
 ·unfold rAt at *;by_cases hi:i < Rs.length
  ·have e:Rs.getD i (fun _ _=>True)=Rs[i]:=by simp [hi]
   rw [e] at h ⊢;exact hst _ (List.getElem_mem hi) v w w' h hb
  ·have e:Rs.getD i (fun _ _=>True)=fun _ _=>True:=by simp [Nat.le_of_not_lt hi]
   rw [e]; trivial
 ·have:=GSteps.at' ops.toList 0 hstep i o (by simpa using ho);rwa [Nat.zero_add] at this
 ·have hp:putsFrom (fun i=>slot a (ds.getD i 0)) a0 0 ds=a:=puts_eq ds a0 0 h1.symm h2.symm (fun i _=>by rw [Nat.zero_add]) (fun t ht=>(h3 t ht).symm) (fun d hd=>by rw [h1]; exact hG.fits d hd);rw [← hp];exact hdone (fun i=>slot a (ds.getD i 0)) w (RAll.mk Rs 0 (fun i hi=>by rw [Nat.zero_add]; exact h4 i (by omega))) h5
def IsV (x:Value):Value→World→Prop:=fun v _=>v=x
theorem stable_isV (x:Value):Stable (IsV x):=fun _ _ _ h _=>h
def IsRow (x y:Int):Value→World→Prop:=fun v w=>∃ b,v=.slice (some ⟨b,0,none⟩) 2 2∧w.cell? ⟨b,0,none⟩=some (.int .u8 x)∧w.cell? ⟨b,1,none⟩=some (.int .u8 y)
theorem stable_isRow (x y:Int):Stable (IsRow x y):=fun v w w' ⟨b,h1,h2,h3⟩ hb=>by
 have hlt:=World.block_lt_of_cell? w _ h2;exact ⟨b,h1,((bcell hb).1 b 0 hlt).trans h2,((bcell hb).1 b 1 hlt).trans h3⟩
end
open Go.PlainAid Go.WideShapes
theorem SlLaid.setOther {α:Type} {en:α→List Value} {n:Nat} {w:World} {B X o:Nat} {xs:List α} {L k:Nat} (h:SlLaid en n w B xs L k) (hne:B≠X) (v:Value):SlLaid en n (w.setCell ⟨X,o,none⟩ v) B xs L k:=by
 have ho:∀ i,(w.setCell ⟨X,o,none⟩ v).cell? ⟨B,i,none⟩=w.cell? ⟨B,i,none⟩:=fun i=>World.cell?_setCell_other _ _ _ _ (fun e=>hne (by injection e with h1 h2; exact h1.symm))
 exact ⟨Nat.lt_of_lt_of_le h.blk ((Below.refl 0 w).setCell (Nat.zero_le _) _).size,fun i hi hk j u hu=>(ho _).trans (h.at0 i hi hk j u hu),fun i hi=>by rw [ho]; exact h.there i hi,fun i hi=>by rw [World.frozen?_setCell]; exact h.free i hi⟩
theorem strL1_length (s:ByteArray):(strL1 s).length=1:=rfl
def strN (s:ByteArray):List Nat:=[s.size]
def StrWf (s:ByteArray):Prop:=s.size≤maxLen
def StrsWf (xs:List ByteArray):Prop:=xs.length≤maxLen∧∀ q∈xs,StrWf q
section
variable {H:Type} {enc:TypeId × Value→H} {w:World} {base:Nat} {spare:Nat→Bool} {held:Bool}
theorem elem_Str {m:Nat} {cs:List Value} {y:DataW H × List MemPlace} (h:DataW.trod enc Tryz.prog w base spare held m 9 cs=some y):∃ q:ByteArray,cs=strL1 q∧StrWf q:=by
 obtain ⟨x,e,_,g⟩:=DataW.trod_string Tryz.underlying9 h;exact ⟨x,e,g⟩
theorem open_StringS {fuel:Nat} {a:Option Addr} {len cap:Nat} {x:DataW H × List MemPlace} (h:DataW.trod enc Tryz.prog w base spare held fuel 22 [.slice a len cap]=some x):∃ xs:List ByteArray,xs.length=len∧StrsWf xs∧SlIs strL1 1 w a xs :=
 open_flat strL1_length (by omega) Tryz.underlying22 (by kernel_rfl) StrWf (fun m cs y h=>elem_Str h) h
end
theorem szStringS_at (xs:List ByteArray) (a:Option Addr) (cap:Nat) (left:Int) (w:World) (hwf:StrsWf xs) (hr:SlIs strL1 1 w a xs) (h0:0≤left) (h1:left≤1048576) :
  Cb 25 #[.slice a xs.length cap,iV left] w (iV (szSl strN xs left)):=by
 have hlm:=hwf.1;unfold maxLen at hlm;by_cases hlong:left < (xs.length:Int)
 ·have HV:Hid (szSl strN xs left=-1):=if_pos hlong;clear hr hwf;generalize szSl strN xs left=ans at *;go_enter Tryz.func25,Tryz.ntmps25
  go_wp2_with fail
  go_ret;exact ⟨ret_int HV.out.symm,Below.refl _ _⟩
 ·have HV:Hid (szSl strN xs left=szL (xs.map strN) (left-xs.length)):=if_neg hlong;have HR:Hid (SlIs strL1 1 w a xs):=hr;have HW:Hid (StrsWf xs):=hwf;clear hr hwf;generalize szSl strN xs left=ans at *;go_enter Tryz.func25,Tryz.ntmps25
  go_wp2_with fail
  go_loopw [1,5] (fun l i wr=>∃ (k:Nat) (lf:Int),k≤xs.length∧i=iV k∧l=iV lf∧0≤lf∧lf≤1048576∧szL (xs.map strN) (left-xs.length)=szL ((xs.drop k).map strN) lf∧Below w.heap.size w wr) (fun _ i _=>xs.length-(intOf i).toNat)
  case atStart=>exact ⟨0,left-xs.length,Nat.zero_le _,rfl,rfl,by omega,by omega,rfl,Below.refl _ _⟩
  case round =>
   obtain ⟨k,lf,hk,rfl,rfl,hl0,hl1,hz,hbel⟩:=hrel;have HK:Hid _:=hz;have HL:Hid (Below w.heap.size w wr):=hbel;clear hz hbel;by_cases hlt:k < xs.length
   ·obtain ⟨b,off,rfl,hb,hat⟩:=HR.out.at hlt;have HA:=(hat.below hb HL.out) k hlt;have hst:=szL_drop (f:=strN) hlt lf;have hq2:=HW.out.2 xs[k] (List.getElem_mem hlt);obtain ⟨q,hq⟩ : ∃ q,q=xs[k]:=⟨_,rfl⟩;rw [← hq] at HA hst hq2;unfold StrWf maxLen at hq2;have c0:wr.cell? ⟨b,off+k*1,none⟩=some (.string q):=HA 0 _ rfl;rw [Nat.mul_one] at c0;have HST:Hid _:=hst;clear hq HA hat hst;by_cases hs:lf < (q.size:Int)
    ·have HX:Hid (ans=-1):=by unfold Hid; rw [HV.out,HK.out,HST.out,show szN (strN q) lf=-1 from szN_yes hs]; rfl
     have hs':lf-(q.size:Int) < 0:=by omega
     go_wp2_with fail
     go_ret;exact ⟨ret_int HX.out.symm,HL.out⟩
    ·have hn:szN (strN q) lf=lf-q.size:=szN_no hs;have HX:Hid (szL ((xs.drop k).map strN) lf=szL ((xs.drop (k+1)).map strN) (lf-q.size)):=by unfold Hid; rw [HST.out,hn,if_neg (by omega)]
     have hs0:0≤lf-(q.size:Int):=by omega
     have hs1:lf-(q.size:Int)≤1048576:=by omega
     clear HST hn;go_wp2_with fail
     go_roundw
     case rel=>exact ⟨k+1,lf-q.size,by omega,by go_num,rfl,hs0,hs1,by rw [HK.out,HX.out],HL.out⟩
     case measure=>simp [intOf]; omega
   ·have HX:Hid (ans=lf):=by unfold Hid; rw [HV.out,HK.out,szL_end (by omega)]
    go_wp2_with fail
    go_ret;exact ⟨ret_int HX.out.symm,HL.out⟩
theorem Tryz.infoStr:(Tryz.prog.info? 9).map (fun i=>(i.zero,i.size,i.bytes))=some (some (.string ⟨#[]⟩),1,16):=by kernel_rfl
theorem toStringS_any (xs:List ByteArray) (a:Option Addr) (cap:Nat) (w:World) (hlen:xs.length≤1048576) (hr:SlIs strL1 1 w a xs) :
  Calls Tryz.prog 31 #[.slice a xs.length cap] w fun e w'=>e=.returned (.slice (some ⟨w.heap.size,0,none⟩) xs.length xs.length)∧Below w.heap.size w w'∧SlLaid strL1 1 w' w.heap.size xs xs.length xs.length:=by
 have HR:Hid (SlIs strL1 1 w a xs):=hr;clear hr;obtain ⟨i0,hi,hz0,hz1,hz2⟩:=info_parts Tryz.infoStr;go_enter Tryz.func31,Tryz.ntmps31
 go_wp2_with (at_make; refine wpList_make_full _ rfl _ _ 22 rfl w.heap.size 9 i0 (.string ⟨#[]⟩) 1 Tryz.underlying22 hi hz0 hz1 .i64 .i64 _ _ xs.length rfl rfl (by omega) (by omega) (by rw [hz2]; omega) (by unfold maxLen; omega) (Nat.le_refl _) ?_; intro w1 hown hgrow)
 have hlaid:SlLaid strL1 1 w1 w.heap.size xs xs.length 0:=SlLaid.start hown;have hbel:Below w.heap.size w w1:=⟨hgrow.os,hgrow.tape,hgrow.output,hgrow.size,fun k hk=>hgrow.block k hk (by simp)⟩;have HY:Hid (SlLaid strL1 1 w1 w.heap.size xs xs.length 0):=hlaid;have HB:Hid (Below w.heap.size w w1):=hbel;clear hown hgrow hlaid hbel hi hz0 hz1 hz2;go_wp2_with fail
 go_loopw [4] (fun i wr=>∃ k:Nat,k≤xs.length∧i=iV k∧SlLaid strL1 1 wr w.heap.size xs xs.length k∧Below w.heap.size w wr) (fun i _=>xs.length-(intOf i).toNat)
 case atStart=>exact ⟨0,Nat.zero_le _,rfl,HY.out,HB.out⟩
 case round =>
  obtain ⟨k,hk,rfl,hy,hbel⟩:=hrel;have HK:Hid (SlLaid strL1 1 wr w.heap.size xs xs.length k):=hy;have HL:Hid (Below w.heap.size w wr):=hbel;clear hy hbel;by_cases hlt:k < xs.length
  ·obtain ⟨b,off,rfl,hb,hat⟩:=HR.out.at hlt;have HA:=(hat.below hb HL.out) k hlt;obtain ⟨q,hq⟩ : ∃ q,q=xs[k]:=⟨_,rfl⟩;rw [← hq] at HA;have c0:wr.cell? ⟨b,off+k*1,none⟩=some (.string q):=HA 0 _ rfl;rw [Nat.mul_one] at c0;have HQ:Hid (q=xs[k]):=hq;clear hq HA hat;obtain ⟨v0,t0⟩:=Option.isSome_iff_exists.1 (HK.out.there (k*1) (by omega));have f0:=HK.out.free (k*1) (by omega);rw [Nat.mul_one] at t0 f0;have hset:=HK.out.set strL1_length hlt hlt;rw [← HQ.out] at hset;have HSET:Hid (SlLaid strL1 1 (wr.setCell ⟨w.heap.size,k,none⟩ (.string q)) w.heap.size xs xs.length (k+1)):=by
    have:=hset;simp only [Nat.mul_one] at this;exact this
   clear hset;go_wp2_with fail
   go_roundw
   case rel=>exact ⟨k+1,by omega,by go_num,HSET.out,HL.out.setCell (Nat.le_refl _) _⟩
   case measure=>simp [intOf]; omega
  ·have hkl:k=xs.length:=by omega
   have HE:Hid (SlLaid strL1 1 wr w.heap.size xs xs.length xs.length):=by have h:=HK.out; rw [hkl] at h; exact h
   clear HK;go_wp2_with fail
   go_ret;exact ⟨rfl,HL.out,HE.out⟩
theorem eqStringS_same (xs:List ByteArray) (a1 a2:Option Addr) (cap1 cap2:Nat) (w:World) (hlen:xs.length≤1048576) (h1:SlIs strL1 1 w a1 xs) (h2:SlIs strL1 1 w a2 xs) :
  Cb 38 #[.slice a1 xs.length cap1,.slice a2 xs.length cap2] w (.bool true):=by
 have H1:Hid (SlIs strL1 1 w a1 xs):=h1;have H2:Hid (SlIs strL1 1 w a2 xs):=h2;clear h1 h2;go_enter Tryz.func38,Tryz.ntmps38
 go_wp2_with fail
 go_loopw [5] (fun i wr=>∃ k:Nat,k≤xs.length∧i=iV k∧Below w.heap.size w wr) (fun i _=>xs.length-(intOf i).toNat)
 case atStart=>exact ⟨0,Nat.zero_le _,rfl,Below.refl _ _⟩
 case round =>
  obtain ⟨k,hk,rfl,hbel⟩:=hrel;have HL:Hid (Below w.heap.size w wr):=hbel;clear hbel;by_cases hlt:k < xs.length
  ·obtain ⟨b1,o1,rfl,hb1,hA⟩:=H1.out.at hlt;obtain ⟨b2,o2,rfl,hb2,hB⟩:=H2.out.at hlt;have hA:=(hA.below hb1 HL.out) k hlt;have hB:=(hB.below hb2 HL.out) k hlt;obtain ⟨q,hq⟩ : ∃ q,q=xs[k]:=⟨_,rfl⟩;rw [← hq] at hA hB;have c0:wr.cell? ⟨b1,o1+k*1,none⟩=some (.string q):=hA 0 _ rfl;have d0:wr.cell? ⟨b2,o2+k*1,none⟩=some (.string q):=hB 0 _ rfl;rw [Nat.mul_one] at c0 d0;clear hq hA hB;have hqq:(q.toList==q.toList)=true:=by simp
   go_wp2_with fail
   go_quiet (fail)
   go_wp2_with fail
   go_roundw
   case rel=>exact ⟨k+1,by omega,by go_num,⟨HL.out.os,HL.out.tape,HL.out.output,HL.out.size,HL.out.block⟩⟩
   case measure=>simp [intOf]; omega
  ·go_wp2_with fail
   go_ret;exact ⟨rfl,HL.out⟩
def strM (k:Nat):List Value:=[.string (markV k)]
theorem strM_length (k:Nat):(strM k).length=1:=rfl
theorem markStringS_any (B L cap k:Nat) (w:World) (hk:0 < k) (hL:k+1*L≤1073741824) (hs:SlLaid strM 1 w B (marksOf 1 k L) L 0) :
  Calls Tryz.prog 42 #[.slice (some ⟨B,0,none⟩) L cap,iV k] w fun e w'=>e=.returned (iV ((k+1*L:Nat):Int))∧SlLaid strM 1 w' B (marksOf 1 k L) L L∧w.grownBy w' (some B):=by
 have HS:Hid _:=hs;clear hs;go_enter Tryz.func42,Tryz.ntmps42
 go_wp2_with fail
 go_loopw [1,5] (fun kv i wr=>∃ m:Nat,m≤L∧i=iV m∧kv=iV ((k+1*m:Nat):Int)∧SlLaid strM 1 wr B (marksOf 1 k L) L m∧w.grownBy wr (some B)) (fun _ i _=>L-(intOf i).toNat)
 case atStart=>exact ⟨0,Nat.zero_le _,rfl,rfl,HS.out,World.grownBy.refl _ _⟩
 case round =>
  obtain ⟨m,hm,rfl,rfl,hy,hg⟩:=hrel;have HK:Hid (MkSt strM 1 w B k L m [] wr):=MkSt.new hy hg;clear hy hg HS;by_cases hlt:m < L
  ·obtain ⟨kk,hkk⟩ : ∃ kk,kk=k+1*m:=⟨_,rfl⟩;have HKK:Hid (kk=k+1*m):=hkk;rw [← hkk];have hk1:0 < kk:=by omega
   have hk2:kk+1≤1073741824:=by omega
   clear hkk;go_wp2_with fail
   refine (markText_at _ kk _ (by omega) (by omega) (by omega)).mono ?_;rintro e wA1 ⟨rfl,qA1⟩;have HA1:Hid (MkSt strM 1 w B k L m [] wA1):=HK.out.call qA1;clear qA1 HK;obtain ⟨v0,t0⟩:=HA1.out.there (j:=0) hlt (by omega);have f0:=HA1.out.free (j:=0) hlt (by omega);rw [Nat.add_zero,Nat.mul_one] at t0 f0;have hF:Hid (MkSt strM 1 w B k L m (strM kk) _):=HA1.out.put strM_length (by simp) hlt (.string (markV kk));go_wp2_with fail
   go_roundw
   case rel =>
    exact ⟨m+1,by omega,by go_num,by have:=HKK.out; congr 1; omega,by have:=hF.out.next strM_length (by rw [HKK.out]) hlt; simpa using this,by have:=hF.out.grown; simpa using this⟩
   case measure=>simp [intOf]; omega
  ·have hml:m=L:=by omega
   have HE:Hid (SlLaid strM 1 wr B (marksOf 1 k L) L L∧w.grownBy wr (some B)):=⟨by have h:=HK.out.laid; rw [hml] at h; exact h,HK.out.grown⟩;clear HK;go_wp2_with fail
   go_ret;exact ⟨ret_int (by rw [hml]),HE.out.1,HE.out.2⟩
theorem markStringS_nil (a:Option Addr) (cap k:Nat) (w:World) (hL:k≤1073741824) :
  Cw 42 #[.slice a 0 cap,iV k] w (iV (k:Int)):=by
 go_enter Tryz.func42,Tryz.ntmps42
 go_wp2_with fail
 go_loopw [1,5] (fun kv i wr=>kv=iV k∧i=iV 0∧wr=w) (fun _ _ _=>0)
 case atStart=>exact ⟨rfl,rfl,rfl⟩
 case round =>
  obtain ⟨rfl,rfl,rfl⟩:=hrel;go_wp2_with fail
  go_ret;exact ⟨rfl,rfl⟩
def LvWf (p:Lv):Prop:=In64t p.udp∧In64t p.echo∧In64t p.opening∧In64t p.opn∧In64t p.closing
structure BoxLives (w:World) (B:Nat) (p:Lv):Prop where
 c0:w.cell? ⟨B,0,none⟩=some (iV p.udp)
 c1:w.cell? ⟨B,1,none⟩=some (iV p.echo)
 c2:w.cell? ⟨B,2,none⟩=some (iV p.opening)
 c3:w.cell? ⟨B,3,none⟩=some (iV p.opn)
 c4:w.cell? ⟨B,4,none⟩=some (iV p.closing)
theorem BoxLives.kept {w W:World} {B:Nat} {p:Lv} (h:BoxLives w B p) (hB:Below w.heap.size w W):BoxLives W B p:=by
 have hb:=World.block_lt_of_cell? w _ h.c0;exact ⟨((bcell hB).1 B 0 hb).trans h.c0,((bcell hB).1 B 1 hb).trans h.c1,((bcell hB).1 B 2 hb).trans h.c2,((bcell hB).1 B 3 hb).trans h.c3,((bcell hB).1 B 4 hb).trans h.c4⟩
theorem BoxLives.new (w:World) (p:Lv) {t:TypeId}:BoxLives (w.alloc (.cells #[iV p.udp,iV p.echo,iV p.opening,iV p.opn,iV p.closing] t)) w.heap.size p:=⟨cell_new rfl,cell_new rfl,cell_new rfl,cell_new rfl,cell_new rfl⟩
section
variable {H:Type} {enc:TypeId × Value→H} {w:World} {base:Nat} {spare:Nat→Bool} {held:Bool}
end
theorem toLives_any (p:Lv) (w:World) :
  Cb 32 #[lvC p] w (lvC p):=by
 obtain ⟨udp,echo,opening,opn,closing⟩:=p;unfold lvC;dsimp only;go_enter Tryz.func32,Tryz.ntmps32
 go_wp2_with fail
 refine bodyPost_ret (v:=.agg #[iV udp,iV echo,iV opening,iV opn,iV closing]) (by simp [results,Tryz.results32,go_sem]) rfl ⟨rfl,?_⟩;exact ((bR.alloc (Nat.le_refl _) _).alloc (by simp) _).alloc (by simp; omega) _
theorem eqLives_same (p:Lv) (w:World) :
  Cb 39 #[lvC p,lvC p] w (.bool true):=by
 obtain ⟨udp,echo,opening,opn,closing⟩:=p;unfold lvC;dsimp only;have HZ:Hid (Below w.heap.size w ((aW w [iV udp,iV echo,iV opening,iV opn,iV closing] 46).alloc (.cells #[iV udp,iV echo,iV opening,iV opn,iV closing] 46))):=(bR.alloc (Nat.le_refl _) _).alloc (by simp) _;go_enter Tryz.func39,Tryz.ntmps39
 go_wp2_with fail
 go_ret;exact ⟨rfl,HZ.out⟩
end Go.Proofs.YtcckaeppiamebaaGreatDoor
