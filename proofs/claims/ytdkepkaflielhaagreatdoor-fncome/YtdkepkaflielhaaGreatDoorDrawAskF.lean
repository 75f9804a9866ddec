import Derived.Test.YtdkepkaflielhaaGreatDoorSz
import Derived.Test.YtdkepkaflielhaaGreatDoorAb
import Derived.Test.YtdkepkaflielhaaGreatDoorDrawBtc
import Derived.Test.YtdkepkaflielhaaGreatDoorDrawPk9
set_option linter.unusedVariables false
set_option linter.unusedSimpArgs false
set_option maxRecDepth 100000
set_option maxHeartbeats 8000000
namespace Go.Proofs.YtdkepkaflielhaaGreatDoor
open Go.RowKit Go.PlainAid
def Off (n:Nat) (ks:List (Nat × List Value)) {α:Type} (xs:List α) (a:Option Addr):Prop:=xs=[]∨∀ g o,a=some ⟨g,o,none⟩→n≤g∧∀ e∈ks,e.1≠g
theorem slis_lt {α:Type} {en:α→List Value} {n:Nat} {w:World} {a:Option Addr} {xs:List α} (h:SlIs en n w a xs):xs=[]∨∀ g o,a=some ⟨g,o,none⟩→g < w.heap.size:=by
 rcases h with h | ⟨b,off,rfl,hb,-⟩
 ·exact .inl h
 ·exact .inr fun g o e=>by injection e with e; injection e with e1 _; omega
theorem Off.push {n N:Nat} {ks:List (Nat × List Value)} {α:Type} {xs:List α} {a:Option Addr} (h:Off n ks xs a) (hl:xs=[]∨∀ g o,a=some ⟨g,o,none⟩→g < N) (l:List Value):Off n ((N,l)::ks) xs a:=by
 rcases h with h | h
 ·exact .inl h
 ·rcases hl with hl | hl
  ·exact .inl hl
  ·exact .inr fun g o e=>⟨(h g o e).1,fun e' he=>(List.mem_cons.1 he).elim (fun x=>by rw [x]; have:=hl g o e; show N≠g; omega) (fun x=>(h g o e).2 e' x)⟩
theorem Off.re {n:Nat} {k k':Nat × List Value} {ks:List (Nat × List Value)} {α:Type} {xs:List α} {a:Option Addr} (h:Off n (k::ks) xs a) (e:k'.1=k.1):Off n (k'::ks) xs a :=
 h.imp id fun f g o x=>⟨(f g o x).1,fun e' he=>(List.mem_cons.1 he).elim (fun y=>by rw [y,e]; exact (f g o x).2 k mE0) (fun y=>(f g o x).2 e' (.tail _ y))⟩
theorem Off.tail {n:Nat} {k:Nat × List Value} {ks:List (Nat × List Value)} {α:Type} {xs:List α} {a:Option Addr} (h:Off n (k::ks) xs a):Off n ks xs a:=h.imp id fun f g o x=>⟨(f g o x).1,fun e' he=>(f g o x).2 e' (.tail _ he)⟩
theorem Off.ne {n:Nat} {ks:List (Nat × List Value)} {α:Type} {xs:List α} {a:Option Addr} (h:Off n ks xs a) {k:Nat × List Value} (hk:k∈ks):xs=[]∨∀ g o,a=some ⟨g,o,none⟩→g≠k.1:=h.imp id fun f g o x=>((f g o x).2 k hk).symm
structure AS (w:World) (B:Nat) (sa:Option Addr) (len cap:Nat) (size:Int) (ks:List (Nat × List Value)) (pa:Option Addr) (p:Pl) (a b:Option Addr) (x:Bb) (wx:World):Prop where
 db:DB w B sa len cap size ks wx
 pl:SlIs strL1 1 wx pa p.addrs
 bb:BbIs wx a b x
 fp:Off w.heap.size ks p.addrs pa
 fa:Off w.heap.size ks x.binds a
 fb:Off w.heap.size ks x.sess b
section
variable {w wx wy:World} {B:Nat} {sa:Option Addr} {len cap:Nat} {size:Int} {ks:List (Nat × List Value)} {pa:Option Addr} {p:Pl} {a b:Option Addr} {x:Bb}
theorem AS.src (h:AS w B sa len cap size ks pa p a b x wx) {α:Type} {xs:List α} {c:Option Addr} (hc:Off w.heap.size ks xs c):xs=[]∨∀ g o,c=some ⟨g,o,none⟩→g≠B:=hc.imp id fun f g o e=>by have:=(f g o e).1; have:=h.db.dr.hB; omega
theorem AS.draw (h:AS w B sa len cap size ks pa p a b x wx) (hs:Src wy B sa len cap size) (hg:wx.grownBy wy (some B)):AS w B sa len cap size ks pa p a b x wy :=
 ⟨h.db.draw hs hg,h.pl.grown hg (h.src h.fp),⟨h.bb.bd.grown hg (h.src h.fa),h.bb.ss.grown hg (h.src h.fb)⟩,h.fp,h.fa,h.fb⟩
theorem AS.below (h:AS w B sa len cap size ks pa p a b x wx) (hb:Below wx.heap.size wx wy):AS w B sa len cap size ks pa p a b x wy:=⟨h.db.below hb,h.pl.below hb,h.bb.below hb,h.fp,h.fa,h.fb⟩
theorem AS.push (h:AS w B sa len cap size ks pa p a b x wx) (vs:List Value) (hv:0 < vs.length) (T:TypeId):AS w B sa len cap size ((wx.heap.size,vs)::ks) pa p a b x (wx.alloc (.cells vs.toArray T)) :=
 have hb:Below wx.heap.size wx (wx.alloc (.cells vs.toArray T)):=bR.alloc lR _;⟨h.db.push vs hv T,h.pl.below hb,h.bb.below hb,h.fp.push (slis_lt h.pl) _,h.fa.push (slis_lt h.bb.bd) _,h.fb.push (slis_lt h.bb.ss) _⟩
theorem AS.set {X:Nat} {vs vs':List Value} (h:AS w B sa len cap size ((X,vs)::ks) pa p a b x wx) (j:Nat) (v:Value) (hv:vs.set j v=vs') (hne:∀ e∈ks,e.1≠X):AS w B sa len cap size ((X,vs')::ks) pa p a b x (wx.setCell ⟨X,j,none⟩ v) :=
 ⟨h.db.set j v hv hne,slis_setT h.pl (h.fp.ne mE0) j v,⟨slis_setT h.bb.bd (h.fa.ne mE0) j v,slis_setT h.bb.ss (h.fb.ne mE0) j v⟩,h.fp.re rfl,h.fa.re rfl,h.fb.re rfl⟩
theorem AS.tail {k:Nat × List Value} (h:AS w B sa len cap size (k::ks) pa p a b x wx):AS w B sa len cap size ks pa p a b x wx:=⟨h.db.tail,h.pl,h.bb,h.fp.tail,h.fa.tail,h.fb.tail⟩
theorem AS.perm {ks':List (Nat × List Value)} (h:AS w B sa len cap size ks pa p a b x wx) (hs:∀ e∈ks',e∈ks):AS w B sa len cap size ks' pa p a b x wx :=
 ⟨h.db.sub hs,h.pl,h.bb,h.fp.imp id fun f g o e=>⟨(f g o e).1,fun y hy=>(f g o e).2 y (hs y hy)⟩,h.fa.imp id fun f g o e=>⟨(f g o e).1,fun y hy=>(f g o e).2 y (hs y hy)⟩,h.fb.imp id fun f g o e=>⟨(f g o e).1,fun y hy=>(f g o e).2 y (hs y hy)⟩⟩
theorem AS.rot {e f g:Nat × List Value} (h:AS w B sa len cap size (e::f::g::ks) pa p a b x wx):AS w B sa len cap size (g::e::f::ks) pa p a b x wx:=h.perm fun y hy=>by simp at hy ⊢; rcases hy with h | h | h | h<;>simp [h]
end
abbrev plR (pa:Option Addr) (pc:Nat) (p:Pl):List Value:=(PlV pa pc p)
abbrev bbR (ba bo:Option Addr) (ca cb:Nat) (x:Bb):List Value:=(BbV ba ca bo cb x)
abbrev pzR:List Value:=Z10V
abbrev bzR:List Value:=[.slice none 0 0,.slice none 0 0]
abbrev K3 (w:World):List (Nat × List Value):=[(w.heap.size,pzR),(w.heap.size+1,bzR),(w.heap.size+1+1,p4R p4Zero)]
def AskRet (w:World) (B:Nat) (sa:Option Addr) (len cap:Nat) (size:Int) (e:Ending) (w':World):Prop:=∃ pa pc p ba bo ca cb x q now,e=.returned (.tuple #[plC pa pc p,bbC ba bo ca cb x,p4C q,iV now])∧PlDr p∧p.addrs.length≤pc∧BbDr x∧PkDr q∧In64t now∧AS w B sa len cap size [] pa p ba bo x w'
end Go.Proofs.YtdkepkaflielhaaGreatDoor
