import Derived.Test.YtdkepkaflielhaaGreatDoorMerged2
set_option linter.unusedVariables false
set_option linter.unusedSimpArgs false
set_option maxRecDepth 100000
set_option maxHeartbeats 8000000
namespace Go.Proofs.YtdkepkaflielhaaGreatDoor
open Go.RowKit
theorem CK{n:Nat}{w w1 W:World}{B:Nat}(h:Below n w w1)(hg:w1.grownBy W (some B))(hB:n≤B)(hn:n≤w1.heap.size:=by omega):Below n w W :=
 ⟨hg.os.trans h.os,hg.tape.trans h.tape,hg.output.trans h.output,UL h.size hg.size,fun k hk=>by rw[hg.block k (by omega) (by simp;omega),h.block k hk]⟩
section
variable {α:Type} (en:α→List Value) (n:Nat)
def dL(xs:List α):List Value:=xs.flatMap en
def eX(base:Nat)(w:World)(a:OA)(xs:List α):Prop:=xs=[]∨∃g,a=some ⟨g,0,none⟩∧base≤g∧gQ en n w g xs xs.length xs.length
def PM(em:Nat→List Value)(base:Nat)(w:World)(a:OA)(k L:Nat):Prop:=L=0∨∃g,a=some ⟨g,0,none⟩∧base≤g∧gQ em n w g ((List.range L).map fun i=>k+n*i) L L
structure xV(base:Nat)(e:TypeId)(v:Value)(xs:List α)(w0 w:World):Prop where
 own:w.ownsRow base e n v xs.length (dL en xs)
 bel:Below base w0 w
end
section
variable {α:Type} {en:α→List Value} {n:Nat} {w w0 W:World} {base:Nat} {e:TypeId} {v:Value} {xs:List α}
theorem fR(hn:∀x,(en x).length=n):∀xs:List α,(dL en xs).length=xs.length*n
 | []=>by simp[dL]
 | x::xs=>by
  have:=fR hn xs;unfold dL at *;rw[List.flatMap_cons,List.length_append,this,hn,List.length_cons,Nat.succ_mul];omega
theorem kB(xs:List α)(q:α):dL en (xs++[q])=dL en xs++en q:=by
 unfold dL;rw[List.flatMap_append];simp
theorem tJ(hn:∀x,(en x).length=n):∀(xs:List α) (i:Nat) (h:i < xs.length) (j:Nat) (u:Value),(en xs[i])[j]?=some u→(dL en xs)[i*n+j]?=some u
 | [],i,h,_,_,_=>by simp at h
 | x::xs,0,h,j,u,hu=>by
  have hj:=(List.getElem?_eq_some_iff.1 hu).1;unfold dL;rw[List.flatMap_cons,Nat.zero_mul,UI,List.getElem?_append_left (by simpa using hj)];simpa using hu
 | x::xs,i+1,h,j,u,hu=>by
  have:=tJ hn xs i (by simpa using h) j u (by simpa using hu);unfold dL at *;rw[List.flatMap_cons,List.getElem?_append_right (by rw[hn,Nat.succ_mul];omega),hn];rw[show (i+1)*n+j-n=i*n+j by rw[Nat.succ_mul];omega];exact this
theorem pP(hn:∀x,(en x).length=n)(hn0:0 < n){b off:Nat}(h:FG en n w b off xs)(j:Nat)(u:Value)(hu:(dL en xs)[j]?=some u):w.cell? ⟨b,off+j,none⟩=some u:=by
 have hj:=(List.getElem?_eq_some_iff.1 hu).1;rw[fR hn]at hj;have hi:j / n < xs.length:=(Nat.div_lt_iff_lt_mul hn0).2 hj;have hr:j % n < (en xs[j / n]).length:=by rw[hn];exact Nat.mod_lt _ hn0
 have h1:=tJ hn xs (j / n) hi (j % n) _ (UU hr);have e:j / n*n+j % n=j:=by rw[Nat.mul_comm];exact Nat.div_add_mod j n
 rw[e,hu]at h1;have h2:=h (j / n) hi (j % n) _ (UU hr);rw[Nat.add_assoc,e]at h2;rw[h2,h1]
theorem xV.laid(hn:∀x,(en x).length=n){g cap:Nat}(h:w.ownsRow base e n (.slice (some ⟨g,0,none⟩) xs.length cap) xs.length (dL en xs)):gQ en n w g xs xs.length xs.length:=by
 have hs:gQ en n w g xs xs.length 0:=gQ.start h;refine⟨hs.blk,fun i hi _ j u hu=>?_,hs.there,hs.free⟩;have hj:j < n:=by have:=(List.getElem?_eq_some_iff.1 hu).1;rwa [hn]at this
 have hb:i*n+j < xs.length*n:=by have:=Nat.mul_le_mul_right n (show i+1≤xs.length from hi);rw[Nat.succ_mul]at this;omega
 rw[h.cellAt _ hb];exact tJ hn xs i hi j u hu
theorem xV.shape(hn:∀x,(en x).length=n)(h:xV en n base e v xs w0 w):∃a cap,v=.slice a xs.length cap∧xs.length≤cap∧eX en n base w a xs:=by
 rcases h.own.2 with ⟨h1,h2⟩|⟨g,cap,cur,h1,hb,hg,hc,_⟩
 ·have hx:xs.length=0:=by simpa using h2
  exact⟨none,0,by rw[h1,hx],by omega,.inl (List.length_eq_zero_iff.1 hx)⟩
 ·refine⟨some ⟨g,0,none⟩,cap,h1,hc,.inr ⟨g,rfl,hb,?_⟩⟩;have:=h.own;rw[h1]at this;exact xV.laid hn this
theorem eX.is{a:OA}(h:eX en n base w a xs):bP en n w a xs:=by
 rcases h with h|⟨g,rfl,_,h⟩
 ·exact .inl h
 ·exact h.is
theorem eX.grown{a:OA}(h:eX en n base w a xs){B:Nat}(hg:w.grownBy W (some B))(hB:B < base):eX en n base W a xs:=by
 rcases h with h|⟨g,rfl,h1,h⟩
 ·exact .inl h
 ·refine .inr ⟨g,rfl,h1,?_⟩;have hb:=hg.block g h.blk (by simp;omega);have hc:∀o,W.cell? ⟨g,o,none⟩=w.cell? ⟨g,o,none⟩:=fun o=>by unfold World.cell?;rw[show (⟨g,o,none⟩: Addr).block=g from rfl,hb]
  have hf:∀o,W.frozen? ⟨g,o,none⟩=w.frozen? ⟨g,o,none⟩:=fun o=>World.frozen?_of_block (a:=⟨g,o,none⟩) hb
  exact⟨UX h.blk hg.size,fun i hi hk j u hu=>(hc _).trans (h.at0 i hi hk j u hu),fun i hi=>by rw[hc];exact h.there i hi,fun i hi=>by rw[hf];exact h.free i hi⟩
theorem eX.down{a:OA}(h:eX en n base w a xs){b0:Nat}(hb:b0≤base):eX en n b0 w a xs:=by
 rcases h with h|⟨g,rfl,h1,h⟩
 ·exact .inl h
 ·exact .inr ⟨g,rfl,UL hb h1,h⟩
theorem eX.kept{a:OA}(h:eX en n base w a xs)(hb:Below w.heap.size w W):eX en n base W a xs:=by
 rcases h with h|⟨g,rfl,h1,h⟩
 ·exact .inl h
 ·exact .inr ⟨g,rfl,h1,h.kept hb⟩
end
theorem zZ{w:World}{a:OA}{len cap:Nat}{zs:List Int}
  (h:(a=none∧len=0∧cap=0∧zs=[])∨∃x,a=some x∧len≤cap∧cap≤maxLen∧zs.length=cap∧(∀i,i < zs.length→w.cell? (x.add i)=some (.int .u8 (zs.getD i 0)))∧∀n∈zs,(Lit.int .u8 n).wf=true) :
  mR w a len w.heap.size:=by
 refine⟨fun i hi=>?_⟩;rcases h with ⟨_,h0,_⟩|⟨⟨b,off,spot⟩,rfl,hl,_,hz,hc,hw⟩
 ·omega
 ·have hci:=hc i (by omega);have hsp:spot=none:=by
   have:=hc 0 (by omega);simpa[Addr.add] using World.cell?_spot this
  subst hsp;have hwf:=hw (zs.getD i 0) (by rw[List.getD,UU (by omega)];exact UJ _);have hbd:0≤zs.getD i 0∧zs.getD i 0≤255:=by simpa[Lit.wf,IntKind.min,IntKind.max,IntKind.signed,IntKind.bits] using hwf
  have hci':w.cell? ⟨b,off+i,none⟩=some (.int .u8 (zs.getD i 0)):=by
   have e:Addr.add ⟨b,off,none⟩ i=⟨b,off+i,none⟩:=by simp only[Addr.add];split<;>simp_all
   rw[←e];exact hci
  exact⟨b,off,rfl,US w _ hci',zs.getD i 0,hbd.1,hbd.2,hci'⟩
end Go.Proofs.YtdkepkaflielhaaGreatDoor
