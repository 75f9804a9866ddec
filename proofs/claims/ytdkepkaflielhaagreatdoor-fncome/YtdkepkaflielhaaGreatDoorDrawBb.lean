import Derived.Test.YtdkepkaflielhaaGreatDoorSz
import Derived.Test.YtdkepkaflielhaaGreatDoorAb
import Derived.Test.YtdkepkaflielhaaGreatDoorGrowXV
import Derived.Test.YtdkepkaflielhaaGreatDoorDrawFlow
import Derived.Test.YtdkepkaflielhaaGreatDoorDrawTr
import Derived.Test.YtdkepkaflielhaaGreatDoorLawPool
import Derived.Test.YtdkepkaflielhaaGreatDoorOpRun
import Derived.Test.YtdkepkaflielhaaGreatDoorTickS
set_option linter.unusedVariables false
set_option linter.unusedSimpArgs false
set_option maxRecDepth 100000
set_option maxHeartbeats 8000000
namespace Go.Proofs.YtdkepkaflielhaaGreatDoor
open Go.RowKit Go.PlainAid
def XNew (n B:Nat) (cs:List Value):Value→World→Prop:=fun v w=>∃ g,v=.slice (some ⟨g,0,none⟩) cs.length cs.length∧n≤g∧g≠B∧HoldsL w g cs
def XCut (n B:Nat) (cs:List Value):Value→World→Prop:=fun v w=>∃ g k,v=.slice (some ⟨g,0,none⟩) k cs.length∧1≤k∧k≤cs.length∧n≤g∧g≠B∧HoldsL w g cs
def XBox (n B:Nat) (cs:List Value):Value→World→Prop:=fun v w=>∃ g,v=.pointer (some ⟨g,0,none⟩)∧n≤g∧g≠B∧HoldsL w g cs
def XLv:Value→World→Prop:=fun v _=>∃ l,v=lvC l∧LvDr l
def XTxt (n:Nat):Value→World→Prop:=fun v _=>∃ s:ByteArray,v=.string s∧s.size≤n
section
variable {B n:Nat} {cs:List Value}
theorem EB.holds {w w':World} (h:EB B w w') {g:Nat} (hc:HoldsL w g cs) (hl:0 < cs.length) (hg:g≠B):HoldsL w' g cs:=hc.grown hl h (by simp; exact hg)
theorem st_XNew (hl:0 < cs.length):StableX (EB B) (XNew n B cs):=fun v w w' ⟨g,h1,h2,h3,h4⟩ he=>⟨g,h1,h2,h3,EB.holds he h4 hl h3⟩
theorem st_XCut (hl:0 < cs.length):StableX (EB B) (XCut n B cs):=fun v w w' ⟨g,k,h1,h2,h3,h4,h5,h6⟩ he=>⟨g,k,h1,h2,h3,h4,h5,EB.holds he h6 hl h5⟩
theorem st_XBox (hl:0 < cs.length):StableX (EB B) (XBox n B cs):=fun v w w' ⟨g,h1,h2,h3,h4⟩ he=>⟨g,h1,h2,h3,EB.holds he h4 hl h3⟩
theorem st_XLv:StableX (EB B) XLv:=fun _ _ _ h _=>h
theorem st_XTxt:StableX (EB B) (XTxt n):=fun _ _ _ h _=>h
end
def PlDr (p:Pl):Prop:=1≤p.addrs.length∧p.addrs.length≤3∧∀ s∈p.addrs,s.size≤4
def plZ0:List Value:=Z10V
structure PS (w:World) (B:Nat) (a:Option Addr) (len cap:Nat) (size:Int) (R X:Nat) (pa:Option Addr) (pc:Nat) (p:Pl) (wx:World):Prop where
 dr:Dr w B a len cap size wx
 out:HoldsL wx R plZ0
 box:HoldsL wx X (plL pa pc p)
 ok:PlDr p
 cap:p.addrs.length≤pc
 sl:SlIs strL1 1 wx pa p.addrs
 far:∀ g o,pa=some ⟨g,o,none⟩→w.heap.size≤g∧g≠X∧g≠R
 hX:w.heap.size≤X
 hR:w.heap.size≤R
 ne:X≠R
section
variable {w wx wy:World} {B:Nat} {a:Option Addr} {len cap:Nat} {size:Int} {R X:Nat} {pa:Option Addr} {pc:Nat} {p:Pl}
theorem PS.draw (h:PS w B a len cap size R X pa pc p wx) (hs:Src wy B a len cap size) (hg:wx.grownBy wy (some B)):PS w B a len cap size R X pa pc p wy:=by
 have hB:=h.dr.hB;have hX:=h.hX;have hR:=h.hR;refine ⟨h.dr.draw hs hg,h.out.grown (by simp [plZ0]) hg (by simp; omega),h.box.grown (by simp [plL]) hg (by simp; omega),h.ok,h.cap,h.sl.grown hg (.inr fun g o e=>?_),h.far,h.hX,h.hR,h.ne⟩;have:=(h.far g o e).1;omega
theorem PS.below (h:PS w B a len cap size R X pa pc p wx) (hb:Below wx.heap.size wx wy):PS w B a len cap size R X pa pc p wy :=
 ⟨h.dr.below hb,h.out.kept (by simp [plZ0]) hb,h.box.kept (by simp [plL]) hb,h.ok,h.cap,h.sl.below hb,h.far,h.hX,h.hR,h.ne⟩
theorem PS.alloc (h:PS w B a len cap size R X pa pc p wx) (o:Obj):PS w B a len cap size R X pa pc p (wx.alloc o):=h.below (bR.alloc lR o)
theorem PS.set (h:PS w B a len cap size R X pa pc p wx) (j:Nat) (v:Value) (q:Pl) (hq:(plL pa pc p).set j v=plL pa pc q) (ha:q.addrs=p.addrs):PS w B a len cap size R X pa pc q (wx.setCell ⟨X,j,none⟩ v):=by
 have hb:=h.box.set j v;rw [hq] at hb;refine ⟨h.dr.set X j v h.hX,h.out.setOther h.ne.symm v,hb,?_,by rw [ha]; exact h.cap,?_,h.far,h.hX,h.hR,h.ne⟩
 ·unfold PlDr; rw [ha]; exact h.ok
 ·rw [ha];exact h.sl.grown (grown_cell wx X j v) (.inr fun g o e=>(h.far g o e).2.1)
theorem PS.setA (h:PS w B a len cap size R X pa pc p wx) (qa:Option Addr) (qc:Nat) (xs:List ByteArray) (hok:PlDr { p with addrs:=xs }) (hc:xs.length≤qc) (hs:SlIs strL1 1 wx qa xs) (hf:∀ g o,qa=some ⟨g,o,none⟩→w.heap.size≤g∧g≠X∧g≠R):PS w B a len cap size R X qa qc { p with addrs:=xs } (wx.setCell ⟨X,0,none⟩ (.slice qa xs.length qc)):=by
 have hb:=h.box.set 0 (.slice qa xs.length qc);refine ⟨h.dr.set X 0 _ h.hX,h.out.setOther h.ne.symm _,hb,hok,hc,hs.grown (grown_cell wx X 0 _) (.inr fun g o e=>(hf g o e).2.1),hf,h.hX,h.hR,h.ne⟩
theorem PS.row {r:Option Nat} (h:PS w B a len cap size R X pa pc p wx) (hg:wx.grownBy wy r) (n:Nat) (hr:∀ k,r=some k→n≤k) (hn:w.heap.size≤n) (hXn:X < n) (hRn:R < n) (hf:∀ g o,pa=some ⟨g,o,none⟩→g < n):PS w B a len cap size R X pa pc p wy:=by
 have hB:=h.dr.hB;refine ⟨⟨h.dr.src.kept hg (fun k e=>by have:=hr k e; omega),?_,h.dr.hB⟩,h.out.grown (by simp [plZ0]) hg (fun e=>by have:=hr R e.symm; omega),h.box.grown (by simp [plL]) hg (fun e=>by have:=hr X e.symm; omega),h.ok,h.cap,?_,h.far,h.hX,h.hR,h.ne⟩
 ·have h1:=h.dr.grown;refine ⟨hg.os.trans h1.os,hg.tape.trans h1.tape,hg.output.trans h1.output,Nat.le_trans h1.size hg.size,fun k hk hne=>?_⟩;exact (hg.block k (Nat.lt_of_lt_of_le hk h1.size) (fun e=>by have:=hr k e.symm; omega)).trans (h1.block k hk hne)
 ·cases r with
  | none=>exact h.sl.below ⟨hg.os,hg.tape,hg.output,hg.size,fun k hk=>hg.block k hk (by simp)⟩
  | some k=>exact h.sl.grown hg (.inr fun g o e=>by have:=hf g o e; have:=hr k rfl; omega)
end
theorem own_EB {w w':World} {B base n s:Nat} {e:TypeId} {v:Value} {xs:List Value} (h:w.ownsRow base e s v n xs) (he:EB B w w') (hB:B < base):w'.ownsRow base e s v n xs:=World.ownsRow.kept h he (.inr (ownC_ne h hB))
def XNo (base:Nat) (e:TypeId):Value→World→Prop:=fun v w=>∃ g,v=.slice (some ⟨g,0,none⟩) 0 0∧w.ownsRow base e 1 v 0 []
def XRw (base:Nat) (e:TypeId) (xs:List ByteArray):Value→World→Prop:=fun v w=>w.ownsRow base e 1 v xs.length (flatS strL1 xs)
theorem st_XNo {B base:Nat} {e:TypeId} (hB:B < base):StableX (EB B) (XNo base e):=fun v w w' ⟨g,h1,h2⟩ he=>⟨g,h1,own_EB h2 he hB⟩
theorem st_XRw {B base:Nat} {e:TypeId} {xs:List ByteArray} (hB:B < base):StableX (EB B) (XRw base e xs):=fun v w w' h he=>own_EB h he hB
def XAt (B n:Nat):Value→World→Prop:=fun v w=>∃ b k s,v=.pointer (some ⟨b,k,none⟩)∧b≠B∧w.cell? ⟨b,k,none⟩=some (.string s)∧s.size≤n
theorem st_XAt {B n:Nat}:StableX (EB B) (XAt B n):=fun v w w' ⟨b,k,s,h1,h2,h3,h4⟩ he=>⟨b,k,s,h1,h2,he.cell h3 h2,h4⟩
def XOneT (B n:Nat):Value→World→Prop:=fun v w=>∃ g s,v=.slice (some ⟨g,0,none⟩) 1 1∧g≠B∧s.size≤n∧HoldsL w g [.string s]
theorem st_XOneT {B n:Nat}:StableX (EB B) (XOneT B n):=fun v w w' ⟨g,s,h1,h2,h3,h4⟩ he=>⟨g,s,h1,h2,h3,EB.holds he h4 (by simp) h2⟩
theorem Tryz.infoTx:(Tryz.prog.info? 9).map (fun i=>(i.zero,i.size,i.bytes))=some (some eS,1,16):=by kernel_rfl
theorem copyStr_all {base g0 cap:Nat} {a:Option Addr} {ty:TypeId} {xs:List ByteArray} {w:World} (hx:SlIs strL1 1 w a xs) (hn:xs≠[]) (hl:xs.length≤1048576) (hb:base≤w.heap.size) :
  ∃ v' w',(Builtin.append_ #[23,23] ty #[.slice (some ⟨g0,0,none⟩) 0 0,.slice a xs.length cap]).run Tryz.prog w=.ok v' w'∧w'.ownsRow base 9 1 v' xs.length (flatS strL1 xs)∧Below w.heap.size w w':=by
 obtain ⟨i0,hi,hz0,hz1,hz2⟩:=info_parts Tryz.infoTx;rcases hx with e | ⟨b,off,rfl,hbl,hx⟩
 ·exact absurd e hn
 have hpos:0 < xs.length:=List.length_pos_iff.2 hn;obtain ⟨v',w',hr,h1,h2⟩:=run_append_arg_grows (P:=Tryz.prog) w 23 ty 9 i0 _ 1 _ Tryz.underlying23 hi hz0 hz1 hz2 rfl (by decide) ⟨g0,0,none⟩ 0 0 [] (by simp) (fun j u hu=>by simp at hu) ⟨b,off,none⟩ xs.length cap (flatS strL1 xs) (flatS_length strL1_length xs) (fun j u hu=>by
  rw [Addr.add_lit]; exact flatS_cells strL1_length (by omega) hx j u hu) (by omega) (by unfold maxLen; omega) (by omega)
 refine ⟨v',w',hr,?_,⟨h2.os,h2.tape,h2.output,h2.size,fun k hk=>h2.block k hk (by simp)⟩⟩;rw [Nat.zero_add,List.nil_append] at h1;refine ⟨h1.1,?_⟩;rcases h1.2 with h3 | ⟨g,c,cur,h3,h4,h5⟩
 ·exact .inl h3
 ·exact .inr ⟨g,c,cur,h3,Nat.le_trans hb h4,h5⟩
theorem holds_strs {w:World} {g:Nat} (ss:List ByteArray) (k:Nat) (hk:k≤ss.length) (h:HoldsL w g (ss.map Value.string)) (hl:0 < ss.length):SlIs strL1 1 w (some ⟨g,0,none⟩) (ss.take k):=by
 refine .inr ⟨g,0,rfl,h.lt (by simpa using hl),fun i hi j v hv=>?_⟩;rw [List.length_take] at hi;match j with
 | 0 =>
  simp [strL1] at hv;subst hv;have:=h.cell (j:=i) (v:=.string ss[i]) (by simp [show i < ss.length by omega]);simpa using this
 | j+1=>simp [strL1] at hv
theorem box_txt {w:World} {g X:Nat} {s:ByteArray} {cs ds:List Value} {y:Option Addr} {n c:Nat} (h1:HoldsL w g (.string s::cs)) (h2:HoldsL w X (.slice y n c::ds)):g≠X:=by
 intro e;subst e;have a1:=h1.cell (j:=0) rfl;have a2:=h2.cell (j:=0) rfl;rw [a1] at a2;simp at a2
end Go.Proofs.YtdkepkaflielhaaGreatDoor
