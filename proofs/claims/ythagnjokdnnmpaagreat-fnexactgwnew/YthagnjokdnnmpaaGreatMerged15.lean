import Derived.Test.YthagnjokdnnmpaaGreatMerged14
import Derived.Test.YthagnjokdnnmpaaGreatMerged9
import Derived.Test.YthagnjokdnnmpaaGreatMerged5
import Derived.Test.YthagnjokdnnmpaaGreatLawPieceS
import Derived.Test.YthagnjokdnnmpaaGreatMerged13
import Derived.Test.YthagnjokdnnmpaaGreatMerged8
import Derived.Test.YthagnjokdnnmpaaGreatMerged2
import Derived.Test.YthagnjokdnnmpaaGreatMerged1
import Derived.Test.YthagnjokdnnmpaaGreatMerged3
import Derived.Deep.RegionWith
import Derived.Deep.DeepCutAuto
set_option linter.unusedVariables false
set_option linter.unusedSimpArgs false
set_option maxRecDepth 100000
set_option maxHeartbeats 8000000
namespace Go.Proofs.YthagnjokdnnmpaaGreat
open Go.RowKit Go.PlainAid Go.ChangeShapes Go.WideShapes
structure GwWf (g:Gw):Prop where
 rt:RtsWf g.routes
 pl:PlWf g.pool
 sa:g.sixA.size≤maxLen
 sb:In64t g.sixB
 f1:g.four1.size≤maxLen
 s1:g.six1.size≤maxLen
 mt:In64t g.mtu
 bb:BbWf g.bib
 pc:PcsWf g.pcs
 bk:BkWf g.bk
 nw:In64t g.now
theorem szS_range (rs:List Rt) : -1≤szS rs∧szS rs≤1048576:=by
 unfold szS;split
 ·omega
 ·have:=szV_range rs (1048576-rs.length) (by omega); omega
structure GwRg (s0 s1 s2 s3 s4 s5 s6:Int) (f1 n1:Nat):Prop where
 r0 : -1≤s0∧s0≤1048576
 r1:0≤s0→-1≤s1∧s1≤s0
 r2:0≤s1→-1≤s2∧s2≤s1
 r3:s3=s2-f1
 r4:s4=s3-n1
 r5:0≤s4→-1≤s5∧s5≤s4
 r6:0≤s5→-1≤s6∧s6≤s5
section
variable {H:Type} {enc:TypeId × Value→H} {P:Program} {w:World} {base:Nat} {spare:Nat→Bool} {held:Bool}
end
end Go.Proofs.YthagnjokdnnmpaaGreat
namespace Go.Proofs.YthagnjokdnnmpaaGreat
open Go.RowKit Go.PlainAid
def rtL (q:Rt):List Value:=[.string q.addr,.int .i64 q.bits,.int .i64 q.hop]
theorem rtL_length (q:Rt):(rtL q).length=3:=rfl
theorem sl_of_rts {w:World} {b off:Nat} {rs:List Rt} (h:RtsAt w b off rs):SlAt rtL 3 w b off rs:=fun i hi j v hv=>by
 match j,hv with
 | 0,hv=>rw [← Option.some.inj hv]; exact h.c0 i hi
 | 1,hv=>rw [← Option.some.inj hv]; exact h.c1 i hi
 | 2,hv=>rw [← Option.some.inj hv]; exact h.c2 i hi
 | j+3,hv=>simp [rtL] at hv
theorem rts_of_sl {w:World} {b off:Nat} {rs:List Rt} (h:SlAt rtL 3 w b off rs):RtsAt w b off rs :=
 ⟨fun i hi=>h i hi 0 _ rfl,fun i hi=>h i hi 1 _ rfl,fun i hi=>h i hi 2 _ rfl⟩
theorem rts_is {w:World} {a:Option Addr} {rs:List Rt}:RtsIs w a rs↔SlIs rtL 3 w a rs:=by
 constructor
 ·rintro (h | ⟨b,off,e,hb,h⟩)
  ·exact .inl h
  ·exact .inr ⟨b,off,e,hb,sl_of_rts h⟩
 ·rintro (h | ⟨b,off,e,hb,h⟩)
  ·exact .inl h
  ·exact .inr ⟨b,off,e,hb,rts_of_sl h⟩
theorem sl_of_laid {w:World} {B:Nat} {rs:List Rt} {k:Nat} (h:RtsLaid w B rs k):SlLaid rtL 3 w B rs rs.length k :=
 ⟨h.blk,fun i hi hk j v hv=>by
  match j,hv with
  | 0,hv=>rw [← Option.some.inj hv]; exact h.c0 i hi hk
  | 1,hv=>rw [← Option.some.inj hv]; exact h.c1 i hi hk
  | 2,hv=>rw [← Option.some.inj hv]; exact h.c2 i hi hk
  | j+3,hv=>simp [rtL] at hv,h.there,h.free⟩
open Go.ChangeShapes Go.WideShapes
theorem markPool_out (lo hi:Nat) (p:Pl) (a1:Option Addr) (cap1 k:Nat) (w:World) (hk:0 < k) (hL:k+1*p.addrs.length≤1073741824) (hs:SlIn strL1 1 lo hi w a1 p.addrs) :
  Calls Tryz.prog 20 #[plC a1 cap1 p,.int .i64 k] w fun e w'=>e=.returned (.int .i64 ((k+1*p.addrs.length:Nat):Int))∧OutOf lo hi w w':=by
 have GA:Hid (Below w.heap.size w (w.alloc (.cells #[.slice a1 p.addrs.length cap1,.int .i64 p.low,.int .i64 p.high,.int .i64 p.most,.int .i64 p.filter,.int .i64 p.lv.udp,.int .i64 p.lv.echo,.int .i64 p.lv.opening,.int .i64 p.lv.opn,.int .i64 p.lv.closing] 28))):=(Below.refl _ _).alloc (Nat.le_refl _) _;have HM:Hid (∀ W,Below w.heap.size w W→Calls Tryz.prog 57 #[.slice a1 p.addrs.length cap1,.int .i64 k] W fun e w'=>e=.returned (.int .i64 ((k+1*p.addrs.length:Nat):Int))∧OutOf lo hi W w'):=fun W hW=>by
  rcases hs.kept hW with h | ⟨g,rfl,h1,h2,h3⟩
  ·rw [h];refine (markStringS_nil a1 cap1 k W (by omega)).mono ?_;rintro e w' ⟨rfl,rfl⟩;exact ⟨rfl,OutOf.of_below (Below.refl _ _)⟩
  ·refine (markStringS_any g p.addrs.length cap1 k W hk hL (h3.other _)).mono ?_;rintro e w' ⟨rfl,_,h5⟩;exact ⟨rfl,OutOf.of_grown h5 h1 h2⟩
 clear hs;unfold plC;go_enter Tryz.func20,Tryz.ntmps20
 go_wp2_with fail
 refine (HM.out _ GA.out).mono ?_;rintro e w1 ⟨rfl,q1⟩;have G1:Hid (OutOf lo hi w w1):=(OutOf.of_below GA.out).trans q1;clear q1;go_wp2_with fail
 go_ret;exact ⟨ret_int (by omega),G1.out⟩
section
variable {base lo hi B:Nat} {w W:World} {a b:Option Addr} {x:Bb}
theorem BbOwn.grownNe (h:BbOwn base w a b x) (hg:w.grownBy W (some B)) (hne:∀ g o,(x.binds≠[]∧a=some ⟨g,o,none⟩)∨(x.sess≠[]∧b=some ⟨g,o,none⟩)→g≠B):BbOwn base W a b x:=by
 refine ⟨?_,?_,h.ne⟩
 ·by_cases e:x.binds=[]
  ·exact .inl e
  ·rcases h.bd with h1 | ⟨g,rfl,h2,h3⟩
   ·exact .inl h1
   ·exact .inr ⟨g,rfl,h2,h3.grownNe hg (hne g 0 (.inl ⟨e,rfl⟩))⟩
 ·by_cases e:x.sess=[]
  ·exact .inl e
  ·rcases h.ss with h1 | ⟨g,rfl,h2,h3⟩
   ·exact .inl h1
   ·exact .inr ⟨g,rfl,h2,h3.grownNe hg (hne g 0 (.inr ⟨e,rfl⟩))⟩
end
def IsZx (base:Nat) (zs:List Value):Value→World→Prop:=fun v w=>∃ g,v=.pointer (some ⟨g,0,none⟩)∧base≤g∧HoldsL w g zs
theorem stable_isZx (base:Nat) (zs:List Value) (h:0 < zs.length):Stable (IsZx base zs):=fun v w w' ⟨g,h1,h2,h3⟩ hb=>⟨g,h1,h2,h3.kept h hb⟩
end Go.Proofs.YthagnjokdnnmpaaGreat
namespace Go.Proofs.YthagnjokdnnmpaaGreat
open Go.RowKit
def stor (b:Nat):World→Nat→List Value→World
 | W,_,[]=>W
 | W,j,v::l=>stor b (W.setCell ⟨b,j,none⟩ v) (j+1) l
theorem HoldsL.storAt {b:Nat}:∀ (vs:List Value) {W:World} {pre olds:List Value},HoldsL W b (pre++olds)→olds.length=vs.length→HoldsL (stor b W pre.length vs) b (pre++vs)
 | [],W,pre,[],h,_=>h
 | [],W,pre,_::_,h,hl=>by simp at hl
 | v::vs,W,pre,[],h,hl=>by simp at hl
 | v::vs,W,pre,o::os,h,hl=>by
  have h2:=h.set pre.length v;rw [List.set_append_right _ _ (Nat.le_refl _),Nat.sub_self,List.set_cons_zero] at h2;have h3:HoldsL (W.setCell ⟨b,pre.length,none⟩ v) b ((pre++[v])++os):=by rw [List.append_assoc]; exact h2
  have:=HoldsL.storAt vs h3 (by simpa using hl);rw [List.length_append,List.append_assoc] at this;exact this
theorem HoldsL.stor {b:Nat} {W:World} {olds:List Value} (h:HoldsL W b olds) (vs:List Value) (hl:olds.length=vs.length):HoldsL (stor b W 0 vs) b vs:=HoldsL.storAt vs (pre:=[]) h hl
theorem Below.stor {n b:Nat} {w:World} (hb:n≤b):∀ (vs:List Value) {W:World} {j:Nat},Below n w W→Below n w (Go.Proofs.YthagnjokdnnmpaaGreat.stor b W j vs)
 | [],W,j,h=>h
 | v::vs,W,j,h=>Below.stor hb vs (h.setCell (p:=⟨b,j,none⟩) hb v)
theorem HoldsL.storOther {b c:Nat} {cs:List Value} (hne:c≠b):∀ (vs:List Value) {W:World} {j:Nat},HoldsL W c cs→HoldsL (Go.Proofs.YthagnjokdnnmpaaGreat.stor b W j vs) c cs
 | [],W,j,h=>h
 | v::vs,W,j,h=>HoldsL.storOther hne vs (h.setOther hne v)
theorem Bxs.stor {w W:World} {ks:List (Nat × List Value)} {b j:Nat} (h:Bxs w ks W) (hb:w.heap.size≤b) (hks:∀ e∈ks,e.1≠b) (vs:List Value):Bxs w ks (Go.Proofs.YthagnjokdnnmpaaGreat.stor b W j vs):=⟨fun e he=>HoldsL.storOther (hks e he) vs (h.k e he),Below.stor hb vs h.b,h.z⟩
theorem grown_stor {b:Nat}:∀ (vs:List Value) {w W:World} {j:Nat},w.grownBy W (some b)→w.grownBy (Go.Proofs.YthagnjokdnnmpaaGreat.stor b W j vs) (some b)
 | [],w,W,j,h=>h
 | v::vs,w,W,j,h=>grown_stor vs (grown_set h v)
theorem BbOwn.stor {base b j:Nat} {W:World} {a a':Option Addr} {y:Bb} (h:BbOwn base W a a' y) (hb:b < base) (vs:List Value):BbOwn base (Go.Proofs.YthagnjokdnnmpaaGreat.stor b W j vs) a a' y :=
 ⟨h.bd.grown (grown_stor vs (World.grownBy.refl _ _)) hb,h.ss.grown (grown_stor vs (World.grownBy.refl _ _)) hb,h.ne⟩
open Go.PlainAid
structure GwIn (lo n1 n2 b0 b1 p0 p1:Nat) (w:World) (A:Ga) (g:Gw):Prop where
 rt:SlIn rtL 3 lo n1 w A.ra g.routes
 pl:SlIn strL1 1 n1 n2 w A.pa g.pool.addrs
 bb:BbIn b0 b1 w A.ba A.bo g.bib
 ps:SlIn pcL 8 p0 p1 w A.qa g.pcs
 l1:lo≤n1
 l2:n1≤n2
 lb:n2≤b0
 lp:n2≤p0
 bl:b0≤b1
 pl2:p0≤p1
 d:b1≤p0∨p1≤b0
 rc:g.routes.length≤A.rc
 pc:g.pool.addrs.length≤A.pc
def GwO (lo:Nat) (w:World) (A:Ga) (g:Gw):Prop:=∃ n1 n2 b0 b1 p0 p1,GwIn lo n1 n2 b0 b1 p0 p1 w A g
def GwRet (lo:Nat) (g:Gw) (e:Ending) (w:World):Prop:=∃ A,e=.returned (gwC A g)∧GwO lo w A g
section
variable {lo n1 n2 b0 b1 p0 p1:Nat} {w W:World} {A:Ga} {g:Gw}
theorem GwIn.kept (h:GwIn lo n1 n2 b0 b1 p0 p1 w A g) (hb:Below w.heap.size w W):GwIn lo n1 n2 b0 b1 p0 p1 W A g:=⟨h.rt.kept hb,h.pl.kept hb,h.bb.kept hb,h.ps.kept hb,h.l1,h.l2,h.lb,h.lp,h.bl,h.pl2,h.d,h.rc,h.pc⟩
theorem GwIn.is (h:GwIn lo n1 n2 b0 b1 p0 p1 w A g):GwIs w A g:=⟨rts_is.2 h.rt.is,h.pl.is,h.bb.is,h.ps.is⟩
theorem GwIn.down (h:GwIn lo n1 n2 b0 b1 p0 p1 w A g) {l:Nat} (hl:l≤lo):GwIn l n1 n2 b0 b1 p0 p1 w A g:=⟨by
 rcases h.rt with e | ⟨x,e1,e2,e3⟩
 ·exact .inl e
 ·exact .inr ⟨x,e1,Nat.le_trans hl e2,e3⟩,h.pl,h.bb,h.ps,Nat.le_trans hl h.l1,h.l2,h.lb,h.lp,h.bl,h.pl2,h.d,h.rc,h.pc⟩
theorem GwO.kept (h:GwO lo w A g) (hb:Below w.heap.size w W):GwO lo W A g:=by obtain ⟨a,b,c,d,e,f,h⟩:=h; exact ⟨a,b,c,d,e,f,h.kept hb⟩
theorem GwO.is (h:GwO lo w A g):GwIs w A g:=by obtain ⟨a,b,c,d,e,f,h⟩:=h; exact h.is
theorem GwO.down (h:GwO lo w A g) {l:Nat} (hl:l≤lo):GwO l w A g:=by obtain ⟨a,b,c,d,e,f,h⟩:=h; exact ⟨a,b,c,d,e,f,h.down hl⟩
theorem GwO.caps (h:GwO lo w A g):g.routes.length≤A.rc∧g.pool.addrs.length≤A.pc:=by obtain ⟨a,b,c,d,e,f,h⟩:=h; exact ⟨h.rc,h.pc⟩
end
theorem Bxs.outOf {w W W2:World} {ks:List (Nat × List Value)} {lo hi:Nat} (h:Bxs w ks W) (ho:OutOf lo hi W W2) (hw:w.heap.size≤lo) (hk:∀ e∈ks,e.1 < lo∨hi≤e.1):Bxs w ks W2 :=
 ⟨fun e he=>(h.k e he).outOf (h.z e he) ho (hk e he),h.b.trans (ho.below hw h.b.size),h.z⟩
def gwZ:List Value:=[.slice none 0 0,.slice none 0 0,.int .i64 0,.int .i64 0,.int .i64 0,.int .i64 0,.int .i64 0,.int .i64 0,.int .i64 0,.int .i64 0,.int .i64 0,.string ⟨#[]⟩,.int .i64 0,.string ⟨#[]⟩,.string ⟨#[]⟩,.int .i64 0,.slice none 0 0,.slice none 0 0,.slice none 0 0,.int .i64 0,.int .i64 0,.int .i64 0,.int .i64 0,.int .i64 0]
theorem Bxs.two {w W:World} {a b:Nat} {l m:List Value} (h1:HoldsL W a l) (h2:HoldsL W b m) (hB:Below w.heap.size w W) (z1:0 < l.length) (z2:0 < m.length):Bxs w [(a,l),(b,m)] W :=
 ⟨fun e he=>by
  simp only [List.mem_cons,List.not_mem_nil,or_false] at he;rcases he with rfl | rfl
  ·exact h1
  ·exact h2,hB,fun e he=>by
  simp only [List.mem_cons,List.not_mem_nil,or_false] at he;rcases he with rfl | rfl
  ·exact z1
  ·exact z2⟩
theorem two_keys {a b O:Nat} {l m:List Value} (ha:a < O) (hb:b < O):∀ e∈[(a,l),(b,m)],e.1 < O∨O+1≤e.1:=fun e he=>by
 simp only [List.mem_cons,List.not_mem_nil,or_false] at he;rcases he with rfl | rfl
 ·exact .inl ha
 ·exact .inl hb
theorem gwL_len (A:Ga) (g:Gw):(gwL A g).length=24:=rfl
theorem gwL_one (A:Ga) (g:Gw):(gwL A g).toArray.all (·.oneCell')=true:=all_oneCell_toArray (by unfold gwL; simp [Value.oneCell'])
theorem stor_cellsG (b:Nat):∀ (vs:List Value) (W:World) (j:Nat),stor b W j vs=W.setCells b j vs
 | [],W,j=>rfl
 | v::vs,W,j=>by
  show stor b (W.setCell ⟨b,j,none⟩ v) (j+1) vs=_;rw [stor_cellsG b vs]; rfl
theorem HoldsL.midG {W:World} {b:Nat} {olds vs:List Value} (h:HoldsL W b olds) (hl:olds.length=vs.length):HoldsL (W.setCells b 0 vs.toArray.toList) b vs:=by
 rw [List.toList_toArray,← stor_cellsG]; exact h.stor vs hl
theorem Below.midG {n b:Nat} {w W:World} (h:Below n w W) (hb:n≤b) (vs:List Value):Below n w (W.setCells b 0 vs.toArray.toList):=by
 rw [List.toList_toArray,← stor_cellsG]; exact Below.stor hb vs h
theorem outOf_stor {b:Nat} {W:World} (vs:List Value) (j:Nat):OutOf b (b+1) W (stor b W j vs):=OutOf.of_grown (grown_stor vs (World.grownBy.refl _ _)) (Nat.le_refl _) (by omega)
theorem outOf_mid {b:Nat} {W:World} (vs:List Value):OutOf b (b+1) W (W.setCells b 0 vs.toArray.toList):=by
 rw [List.toList_toArray,← stor_cellsG]; exact outOf_stor vs 0
theorem gwL_there {W:World} {b:Nat} {olds:List Value} (h:HoldsL W b olds) (hl:olds.length=24) (A:Ga) (g:Gw):W.there b 0 (gwL A g).toArray.size:=by
 have:=h.th;rw [hl] at this;exact this
theorem GwIn.outOf {lo n1 n2 b0 b1 p0 p1 l h:Nat} {w W:World} {A:Ga} {g:Gw} (H:GwIn lo n1 n2 b0 b1 p0 p1 w A g) (ho:OutOf l h w W) (hd:h≤lo∨(b1≤l∧p1≤l)):GwIn lo n1 n2 b0 b1 p0 p1 W A g:=by
 have:=H.l1; have:=H.l2; have:=H.lb; have:=H.lp; have:=H.bl; have:=H.pl2;exact ⟨H.rt.outOf ho (by omega),H.pl.outOf ho (by omega),H.bb.outOf ho (by omega),H.ps.outOf ho (by omega),H.l1,H.l2,H.lb,H.lp,H.bl,H.pl2,H.d,H.rc,H.pc⟩
def IsGw (base:Nat) (g:Gw):Value→World→Prop:=fun v w=>∃ A,v=gwC A g∧GwO base w A g
theorem stable_isGw (base:Nat) (g:Gw):Stable (IsGw base g):=fun v w w' ⟨A,h1,h2⟩ hb=>⟨A,h1,h2.kept hb⟩
theorem Bxs.midG {w W:World} {ks:List (Nat × List Value)} {X:Nat} (h:Bxs w ks W) (hb:w.heap.size≤X) (hks:∀ e∈ks,e.1≠X) (vs:List Value):Bxs w ks (W.setCells X 0 vs.toArray.toList):=by
 rw [List.toList_toArray,← stor_cellsG]; exact h.stor hb hks vs
theorem gw_info:(Tryz.prog.info? 41).map (·.size)=some 24:=by kernel_rfl
open Go.ChangeShapes Go.WideShapes
theorem eqRouteS_sl (xs:List Rt) (a1 a2:Option Addr) (cap1 cap2:Nat) (w:World) (hlen:xs.length≤1048576) (h1:SlIs rtL 3 w a1 xs) (h2:SlIs rtL 3 w a2 xs) :
  Calls Tryz.prog 17 #[.slice a1 xs.length cap1,.slice a2 xs.length cap2] w fun e w'=>e=.returned (.bool true)∧Below w.heap.size w w':=by
 have H1:Hid (SlIs rtL 3 w a1 xs):=h1;have H2:Hid (SlIs rtL 3 w a2 xs):=h2;clear h1 h2;go_enter Tryz.func17,Tryz.ntmps17
 go_wp2_with fail
 go_loopw [5] (fun i wr=>∃ k:Nat,k≤xs.length∧i=.int .i64 k∧Below w.heap.size w wr) (fun i _=>xs.length-(intOf i).toNat)
 case atStart=>exact ⟨0,Nat.zero_le _,rfl,Below.refl _ _⟩
 case round =>
  obtain ⟨k,hk,rfl,hbel⟩:=hrel;have HL:Hid (Below w.heap.size w wr):=hbel;clear hbel;by_cases hlt:k < xs.length
  ·obtain ⟨b1,o1,rfl,hb1,hA⟩:=H1.out.at hlt;obtain ⟨b2,o2,rfl,hb2,hB⟩:=H2.out.at hlt;have hA:=(hA.below hb1 HL.out) k hlt;have hB:=(hB.below hb2 HL.out) k hlt;obtain ⟨q,hq⟩ : ∃ q,q=xs[k]:=⟨_,rfl⟩;rw [← hq] at hA hB;have c0:wr.cell? ⟨b1,o1+k*3,none⟩=some (.string q.addr):=hA 0 _ rfl;have c1:wr.cell? ⟨b1,o1+k*3+1,none⟩=some (.int .i64 q.bits):=hA 1 _ rfl;have c2:wr.cell? ⟨b1,o1+k*3+2,none⟩=some (.int .i64 q.hop):=hA 2 _ rfl;have d0:wr.cell? ⟨b2,o2+k*3,none⟩=some (.string q.addr):=hB 0 _ rfl;have d1:wr.cell? ⟨b2,o2+k*3+1,none⟩=some (.int .i64 q.bits):=hB 1 _ rfl;have d2:wr.cell? ⟨b2,o2+k*3+2,none⟩=some (.int .i64 q.hop):=hB 2 _ rfl;have HC:Hid (∀ W,Calls Tryz.prog 53 #[.agg #[.string q.addr,.int .i64 q.bits,.int .i64 q.hop],.agg #[.string q.addr,.int .i64 q.bits,.int .i64 q.hop]] W fun e w'=>e=.returned (.bool true)∧Below W.heap.size W w'):=fun W=>eqRoute_same q W
   clear hq hA hB;go_wp2_with fail
   go_region_with (go_at_call 53; refine (HC.out _).mono ?_; rintro e w2 ⟨rfl,q2⟩)
   all_goals
    have HL2:Hid (Below w.heap.size w w2):=HL.out.trans ((below_undrew q2).mono HL.out.size);clear q2;go_wp2_with fail
    go_roundw
    case rel=>exact ⟨k+1,by omega,by go_num,HL2.out⟩
    case measure=>simp [intOf]; omega
  ·go_wp2_with fail
   go_ret;exact ⟨rfl,HL.out⟩
def routeM (k:Nat):List Value:=[.string (markV (k)),.int .i64 ((k+1:Nat):Int),.int .i64 ((k+2:Nat):Int)]
theorem routeM_length (k:Nat):(routeM k).length=3:=rfl
theorem markRouteS_any (B L cap k:Nat) (w:World) (hk:0 < k) (hL:k+3*L≤1073741824) (hs:SlLaid routeM 3 w B (marksOf 3 k L) L 0) :
  Calls Tryz.prog 19 #[.slice (some ⟨B,0,none⟩) L cap,.int .i64 k] w fun e w'=>e=.returned (.int .i64 ((k+3*L:Nat):Int))∧SlLaid routeM 3 w' B (marksOf 3 k L) L L∧w.grownBy w' (some B):=by
 have HS:Hid _:=hs;clear hs;go_enter Tryz.func19,Tryz.ntmps19
 go_wp2_with fail
 go_loopw [1,5] (fun kv i wr=>∃ m:Nat,m≤L∧i=.int .i64 m∧kv=.int .i64 ((k+3*m:Nat):Int)∧SlLaid routeM 3 wr B (marksOf 3 k L) L m∧w.grownBy wr (some B)) (fun _ i _=>L-(intOf i).toNat)
 case atStart=>exact ⟨0,Nat.zero_le _,rfl,rfl,HS.out,World.grownBy.refl _ _⟩
 case round =>
  obtain ⟨m,hm,rfl,rfl,hy,hg⟩:=hrel;have HK:Hid (MkSt routeM 3 w B k L m [] wr):=MkSt.new hy hg;clear hy hg HS;by_cases hlt:m < L
  ·obtain ⟨kk,hkk⟩ : ∃ kk,kk=k+3*m:=⟨_,rfl⟩;have HKK:Hid (kk=k+3*m):=hkk;rw [← hkk];have hk1:0 < kk:=by omega
   have hk2:kk+3≤1073741824:=by omega
   clear hkk;go_wp2_with fail
   refine (markText_at _ (kk+0) _ (by omega) (by omega) (by omega)).mono ?_;rintro e wA0 ⟨rfl,qA0⟩;have HA0:Hid (MkSt routeM 3 w B k L m [] wA0):=(HK.out).call qA0;clear qA0 HK;obtain ⟨v0,t0⟩:=HA0.out.there (j:=0) hlt (by omega);have f0:=HA0.out.free (j:=0) hlt (by omega);rw [Nat.add_zero] at t0 f0;obtain ⟨v1,t1⟩:=HA0.out.there (j:=1) hlt (by omega);have f1:=HA0.out.free (j:=1) hlt (by omega);obtain ⟨v2,t2⟩:=HA0.out.there (j:=2) hlt (by omega);have f2:=HA0.out.free (j:=2) hlt (by omega);go_wp2_with fail
   go_roundw
   case rel =>
    have hF:MkSt routeM 3 w B k L m (routeM kk) _:=(((HA0.out.put routeM_length (by simp) hlt (.string (markV (kk)))).put routeM_length (by simp) hlt (.int .i64 ((kk+1:Nat):Int))).put routeM_length (by simp) hlt (.int .i64 ((kk+2:Nat):Int)));exact ⟨m+1,by omega,by go_num,by have:=HKK.out; congr 1; omega,hF.next routeM_length (by rw [HKK.out]) hlt,hF.grown⟩
   case measure=>simp [intOf]; omega
  ·have hml:m=L:=by omega
   have HE:Hid (SlLaid routeM 3 wr B (marksOf 3 k L) L L∧w.grownBy wr (some B)):=⟨by have h:=HK.out.laid; rw [hml] at h; exact h,HK.out.grown⟩;clear HK;go_wp2_with fail
   go_ret;exact ⟨ret_int (by rw [hml]),HE.out.1,HE.out.2⟩
theorem heldRouteS_any (B L cap k:Nat) (w:World) (hk:0 < k) (hL:k+3*L≤1073741824) (hs:SlLaid routeM 3 w B (marksOf 3 k L) L L) :
  Calls Tryz.prog 60 #[.slice (some ⟨B,0,none⟩) L cap,.int .i64 k] w fun e w'=>e=.returned (.int .i64 ((k+3*L:Nat):Int))∧Below w.heap.size w w':=by
 have hblk:=hs.blk;have HS:Hid _:=hs;clear hs;go_enter Tryz.func60,Tryz.ntmps60
 go_wp2_with fail
 go_loopw [1,5] (fun kv i wr=>∃ m:Nat,m≤L∧i=.int .i64 m∧kv=.int .i64 ((k+3*m:Nat):Int)∧Below w.heap.size w wr) (fun _ i _=>L-(intOf i).toNat)
 case atStart=>exact ⟨0,Nat.zero_le _,rfl,rfl,Below.refl _ _⟩
 case round =>
  obtain ⟨m,hm,rfl,rfl,hbel⟩:=hrel;have HL:Hid (Below w.heap.size w wr):=hbel;clear hbel;by_cases hlt:m < L
  ·have hR:=(HS.out.kept HL.out).at0 m (by rw [marksOf_length]; exact hlt) hlt;rw [marksOf_get] at hR;have hbr:B < wr.heap.size:=Nat.lt_of_lt_of_le hblk HL.out.size;obtain ⟨kk,hkk⟩ : ∃ kk,kk=k+3*m:=⟨_,rfl⟩;have HKK:Hid (kk=k+3*m):=hkk;rw [← hkk] at hR ⊢;have hk1:0 < kk:=by omega
   have hk2:kk+3≤1073741824:=by omega
   clear hkk;have c0:wr.cell? ⟨B,m*3,none⟩=some (.string (markV (kk))):=hR 0 _ rfl;have c1:wr.cell? ⟨B,m*3+1,none⟩=some (.int .i64 ((kk:Int)+1)):=hR 1 _ rfl;have c2:wr.cell? ⟨B,m*3+2,none⟩=some (.int .i64 ((kk:Int)+1+1)):=hR 2 _ rfl;clear hR;go_upto_region 4 with fail
   go_cut [20] (fun v wx=>v=.bool false∧Below wr.heap.size wr wx)
   case first =>
    rename_i J K2 hJ hK2;refine wp_region_growL (Rs:=[IsV (.slice (some ⟨B,0,none⟩) L cap),IsV (.int .i64 (m:Int)),IsV (.pointer (some ⟨B,m*3,none⟩)),IsV (.pointer (some ⟨B,m*3,none⟩)),IsV (.pointer (some ⟨B,m*3,none⟩)),IsV (.string (markV (kk))),IsV (.int .i64 ((kk:Int))),IsV (.string (markV (kk))),IsV (.bool false)]) [12,13,14,15,16,17,18,19,20] (by kernel_rfl) (by kernel_rfl) rfl ?st ?steps ?done
    case st=>simp [stable_isV,stable_isRow]
    case steps =>
     refine ⟨?s0,?s1,?s2,?s3,?s4,?s5,?s6,?s7,?s8,trivial⟩
     case s0 =>
      intro K' a wy ho hd hb hK;have h3:=ho 0 (by decide);simp [slot] at h3;clear hd;go_simp;try go_bits
      exact hK _ _ rfl (Below.refl _ _)
     case s1 =>
      intro K' a wy ho hd hb hK;have h3:=ho 5 (by decide);simp [slot] at h3;clear hd;go_simp;try go_bits
      exact hK _ _ rfl (Below.refl _ _)
     case s2 =>
      intro K' a wy ho hd hb hK;simp [Region.binds,rAt,IsV,slot] at hd;go_simp;try go_bits
      exact hK _ _ rfl (Below.refl _ _)
     case s3 =>
      intro K' a wy ho hd hb hK;simp [Region.binds,rAt,IsV,slot] at hd;go_simp;try go_bits
      exact hK _ _ rfl (Below.refl _ _)
     case s4 =>
      intro K' a wy ho hd hb hK;simp [Region.binds,rAt,IsV,slot] at hd;go_simp;try go_bits
      exact hK _ _ rfl (Below.refl _ _)
     case s5 =>
      intro K' a wy ho hd hb hK;simp [Region.binds,rAt,IsV,slot] at hd;have hcx:=((bcell (Below.trans (Below.refl _ _).drew hb)).1 B _ hbr).trans c0;go_simp;try go_bits
      exact hK _ _ rfl (Below.refl _ _)
     case s6 =>
      intro K' a wy ho hd hb hK;have h3:=ho 1 (by decide);simp [slot] at h3;clear hd;go_simp;try go_bits
      exact hK _ _ rfl (Below.refl _ _)
     case s7 =>
      intro K' a wy ho hd hb hK;simp [Region.binds,rAt,IsV,slot] at hd;go_simp;refine (markText_at _ (kk) wy (by omega) (by omega) (by omega)).mono ?_;rintro e wz ⟨rfl,hz⟩;exact hK _ _ rfl hz
     case s8 =>
      intro K' a wy ho hd hb hK;simp [Region.binds,rAt,IsV,slot] at hd;go_simp;try go_bits
      exact hK _ _ rfl (Below.refl _ _)
    case done =>
     intro X wz hR hz;obtain ⟨x0,x1,x2,x3,x4,x5,x6,x7,x8,-⟩:=hR;simp only [IsV] at x0 x1 x2 x3 x4 x5 x6 x7 x8;simp only [putsFrom,x0,x1,x2,x3,x4,x5,x6,x7,x8];clear x0 x1 x2 x3 x4 x5 x6 x7 x8;go_simp;refine hK2 _ _ (hJ _ _ ?_);(repeat apply Exists.intro)
     refine ⟨⟨rfl,(Below.refl _ wr).drew.trans hz⟩,rfl⟩
   case rest =>
   obtain ⟨rfl,hb0⟩:=hcut;generalize wc=wx0 at *;have HL0:Hid (Below w.heap.size w wx0):=HL.out.trans (hb0.mono HL.out.size);replace c1:=((bcell hb0).1 B _ hbr).trans c1;replace c2:=((bcell hb0).1 B _ hbr).trans c2;replace hbr:=Nat.lt_of_lt_of_le hbr hb0.size;clear hb0  c0;go_wp2_with fail
   go_roundw
   case rel=>exact ⟨m+1,by omega,by go_num,by have:=HKK.out; congr 1; omega,HL0.out⟩
   case measure=>simp [intOf]; omega
  ·have hml:m=L:=by omega
   go_wp2_with fail
   go_ret;exact ⟨ret_int (by rw [hml]),HL.out⟩
theorem markRouteS_nil (a:Option Addr) (cap k:Nat) (w:World) (hL:k≤1073741824) :
  Calls Tryz.prog 19 #[.slice a 0 cap,.int .i64 k] w fun e w'=>e=.returned (.int .i64 (k:Int))∧w'=w:=by
 go_enter Tryz.func19,Tryz.ntmps19
 go_wp2_with fail
 go_loopw [1,5] (fun kv i wr=>kv=.int .i64 k∧i=.int .i64 0∧wr=w) (fun _ _ _=>0)
 case atStart=>exact ⟨rfl,rfl,rfl⟩
 case round =>
  obtain ⟨rfl,rfl,rfl⟩:=hrel;go_wp2_with fail
  go_ret;exact ⟨rfl,rfl⟩
theorem heldRouteS_nil (a:Option Addr) (cap k:Nat) (w:World) (hL:k≤1073741824) :
  Calls Tryz.prog 60 #[.slice a 0 cap,.int .i64 k] w fun e w'=>e=.returned (.int .i64 (k:Int))∧w'=w:=by
 go_enter Tryz.func60,Tryz.ntmps60
 go_wp2_with fail
 go_loopw [1,5] (fun kv i wr=>kv=.int .i64 k∧i=.int .i64 0∧wr=w) (fun _ _ _=>0)
 case atStart=>exact ⟨rfl,rfl,rfl⟩
 case round =>
  obtain ⟨rfl,rfl,rfl⟩:=hrel;go_wp2_with fail
  go_ret;exact ⟨rfl,rfl⟩
theorem heldRouteS_own (base L:Nat) (a:Option Addr) (cap k:Nat) (w:World) (hk:0 < k) (hL:k+3*L≤1073741824) (hs:MkOwn 3 routeM base w a k L) :
  Calls Tryz.prog 60 #[.slice a L cap,.int .i64 k] w fun e w'=>e=.returned (.int .i64 ((k+3*L:Nat):Int))∧Below w.heap.size w w':=by
 rcases hs with rfl | ⟨g,rfl,hb,hl⟩
 ·refine (heldRouteS_nil a cap k w (by omega)).mono ?_;rintro e w' ⟨rfl,rfl⟩;exact ⟨rfl,Below.refl _ _⟩
 ·exact heldRouteS_any g L cap k w hk hL hl
end Go.Proofs.YthagnjokdnnmpaaGreat
namespace Go.Proofs.YthagnjokdnnmpaaGreat
open Go.RowKit Go.PlainAid
theorem eqGw_same (A B:Ga) (g:Gw) (w:World) (hl:g.routes.length≤1048576) (hpl:g.pool.addrs.length≤1048576) (hb1:g.bib.binds.length≤1048576) (hb2:g.bib.sess.length≤1048576) (hpc:g.pcs.length≤1048576) (hA:GwIs w A g) (hB:GwIs w B g) :
  Calls Tryz.prog 16 #[gwC A g,gwC B g] w fun e w'=>e=.returned (.bool true)∧Below w.heap.size w w':=by
 have C0:Hid (∀ W,Below w.heap.size w W→Calls Tryz.prog 17 #[.slice A.ra g.routes.length A.rc,.slice B.ra g.routes.length B.rc] W fun e w'=>e=.returned (.bool true)∧Below W.heap.size W w'):=fun W hW=>eqRouteS_sl _ _ _ _ _ W hl (rts_is.1 (hA.below hW).rt) (rts_is.1 (hB.below hW).rt)
 have C1:Hid (∀ W,Below w.heap.size w W→Calls Tryz.prog 18 #[plC A.pa A.pc g.pool,plC B.pa B.pc g.pool] W fun e w'=>e=.returned (.bool true)∧Below W.heap.size W w'):=fun W hW=>eqPool_same _ _ _ _ _ W hpl (hA.below hW).pl (hB.below hW).pl
 have C2:Hid (∀ W,Below w.heap.size w W→Calls Tryz.prog 49 #[.agg #[.string g.sixA,.int .i64 g.sixB],.agg #[.string g.sixA,.int .i64 g.sixB]] W fun e w'=>e=.returned (.bool true)∧Below W.heap.size W w'):=fun W hW=>eqPrefix_same _ _ W
 have C3:Hid (∀ W,Below w.heap.size w W→Calls Tryz.prog 50 #[bbC A.ba A.bo A.ca A.cb g.bib,bbC B.ba B.bo B.ca B.cb g.bib] W fun e w'=>e=.returned (.bool true)∧Below W.heap.size W w'):=fun W hW=>eqBib_same _ _ _ _ _ _ _ _ _ W hb1 hb2 (hA.below hW).bb (hB.below hW).bb
 have C4:Hid (∀ W,Below w.heap.size w W→Calls Tryz.prog 51 #[.slice A.qa g.pcs.length A.qc,.slice B.qa g.pcs.length B.qc] W fun e w'=>e=.returned (.bool true)∧Below W.heap.size W w'):=fun W hW=>eqPieceS_same _ _ _ _ _ W hpc (hA.below hW).pc (hB.below hW).pc
 have C5:Hid (∀ W,Below w.heap.size w W→Calls Tryz.prog 52 #[buC g.bk,buC g.bk] W fun e w'=>e=.returned (.bool true)∧Below W.heap.size W w'):=fun W hW=>eqBucket_same _ W
 clear hA hB;have e0:HoldsL ((w.alloc (.cells #[.slice A.ra g.routes.length A.rc,.slice A.pa g.pool.addrs.length A.pc,.int .i64 g.pool.low,.int .i64 g.pool.high,.int .i64 g.pool.most,.int .i64 g.pool.filter,.int .i64 g.pool.lv.udp,.int .i64 g.pool.lv.echo,.int .i64 g.pool.lv.opening,.int .i64 g.pool.lv.opn,.int .i64 g.pool.lv.closing,.string g.sixA,.int .i64 g.sixB,.string g.four1,.string g.six1,.int .i64 g.mtu,.slice A.ba g.bib.binds.length A.ca,.slice A.bo g.bib.sess.length A.cb,.slice A.qa g.pcs.length A.qc,.int .i64 g.bk.left,.int .i64 g.bk.most,.int .i64 g.bk.each,.int .i64 g.bk.since,.int .i64 g.now] 41)).alloc (.cells #[.slice B.ra g.routes.length B.rc,.slice B.pa g.pool.addrs.length B.pc,.int .i64 g.pool.low,.int .i64 g.pool.high,.int .i64 g.pool.most,.int .i64 g.pool.filter,.int .i64 g.pool.lv.udp,.int .i64 g.pool.lv.echo,.int .i64 g.pool.lv.opening,.int .i64 g.pool.lv.opn,.int .i64 g.pool.lv.closing,.string g.sixA,.int .i64 g.sixB,.string g.four1,.string g.six1,.int .i64 g.mtu,.slice B.ba g.bib.binds.length B.ca,.slice B.bo g.bib.sess.length B.cb,.slice B.qa g.pcs.length B.qc,.int .i64 g.bk.left,.int .i64 g.bk.most,.int .i64 g.bk.each,.int .i64 g.bk.since,.int .i64 g.now] 41)) (w.heap.size) [.slice A.ra g.routes.length A.rc,.slice A.pa g.pool.addrs.length A.pc,.int .i64 g.pool.low,.int .i64 g.pool.high,.int .i64 g.pool.most,.int .i64 g.pool.filter,.int .i64 g.pool.lv.udp,.int .i64 g.pool.lv.echo,.int .i64 g.pool.lv.opening,.int .i64 g.pool.lv.opn,.int .i64 g.pool.lv.closing,.string g.sixA,.int .i64 g.sixB,.string g.four1,.string g.six1,.int .i64 g.mtu,.slice A.ba g.bib.binds.length A.ca,.slice A.bo g.bib.sess.length A.cb,.slice A.qa g.pcs.length A.qc,.int .i64 g.bk.left,.int .i64 g.bk.most,.int .i64 g.bk.each,.int .i64 g.bk.since,.int .i64 g.now]:=by
  have h:=HoldsL.new w [.slice A.ra g.routes.length A.rc,.slice A.pa g.pool.addrs.length A.pc,.int .i64 g.pool.low,.int .i64 g.pool.high,.int .i64 g.pool.most,.int .i64 g.pool.filter,.int .i64 g.pool.lv.udp,.int .i64 g.pool.lv.echo,.int .i64 g.pool.lv.opening,.int .i64 g.pool.lv.opn,.int .i64 g.pool.lv.closing,.string g.sixA,.int .i64 g.sixB,.string g.four1,.string g.six1,.int .i64 g.mtu,.slice A.ba g.bib.binds.length A.ca,.slice A.bo g.bib.sess.length A.cb,.slice A.qa g.pcs.length A.qc,.int .i64 g.bk.left,.int .i64 g.bk.most,.int .i64 g.bk.each,.int .i64 g.bk.since,.int .i64 g.now] 41;try simp only [World.size_alloc] at h
  exact (h.alloc _)
 have e1:HoldsL ((w.alloc (.cells #[.slice A.ra g.routes.length A.rc,.slice A.pa g.pool.addrs.length A.pc,.int .i64 g.pool.low,.int .i64 g.pool.high,.int .i64 g.pool.most,.int .i64 g.pool.filter,.int .i64 g.pool.lv.udp,.int .i64 g.pool.lv.echo,.int .i64 g.pool.lv.opening,.int .i64 g.pool.lv.opn,.int .i64 g.pool.lv.closing,.string g.sixA,.int .i64 g.sixB,.string g.four1,.string g.six1,.int .i64 g.mtu,.slice A.ba g.bib.binds.length A.ca,.slice A.bo g.bib.sess.length A.cb,.slice A.qa g.pcs.length A.qc,.int .i64 g.bk.left,.int .i64 g.bk.most,.int .i64 g.bk.each,.int .i64 g.bk.since,.int .i64 g.now] 41)).alloc (.cells #[.slice B.ra g.routes.length B.rc,.slice B.pa g.pool.addrs.length B.pc,.int .i64 g.pool.low,.int .i64 g.pool.high,.int .i64 g.pool.most,.int .i64 g.pool.filter,.int .i64 g.pool.lv.udp,.int .i64 g.pool.lv.echo,.int .i64 g.pool.lv.opening,.int .i64 g.pool.lv.opn,.int .i64 g.pool.lv.closing,.string g.sixA,.int .i64 g.sixB,.string g.four1,.string g.six1,.int .i64 g.mtu,.slice B.ba g.bib.binds.length B.ca,.slice B.bo g.bib.sess.length B.cb,.slice B.qa g.pcs.length B.qc,.int .i64 g.bk.left,.int .i64 g.bk.most,.int .i64 g.bk.each,.int .i64 g.bk.since,.int .i64 g.now] 41)) (w.heap.size+1) [.slice B.ra g.routes.length B.rc,.slice B.pa g.pool.addrs.length B.pc,.int .i64 g.pool.low,.int .i64 g.pool.high,.int .i64 g.pool.most,.int .i64 g.pool.filter,.int .i64 g.pool.lv.udp,.int .i64 g.pool.lv.echo,.int .i64 g.pool.lv.opening,.int .i64 g.pool.lv.opn,.int .i64 g.pool.lv.closing,.string g.sixA,.int .i64 g.sixB,.string g.four1,.string g.six1,.int .i64 g.mtu,.slice B.ba g.bib.binds.length B.ca,.slice B.bo g.bib.sess.length B.cb,.slice B.qa g.pcs.length B.qc,.int .i64 g.bk.left,.int .i64 g.bk.most,.int .i64 g.bk.each,.int .i64 g.bk.since,.int .i64 g.now]:=by
  have h:=HoldsL.new (w.alloc (.cells #[.slice A.ra g.routes.length A.rc,.slice A.pa g.pool.addrs.length A.pc,.int .i64 g.pool.low,.int .i64 g.pool.high,.int .i64 g.pool.most,.int .i64 g.pool.filter,.int .i64 g.pool.lv.udp,.int .i64 g.pool.lv.echo,.int .i64 g.pool.lv.opening,.int .i64 g.pool.lv.opn,.int .i64 g.pool.lv.closing,.string g.sixA,.int .i64 g.sixB,.string g.four1,.string g.six1,.int .i64 g.mtu,.slice A.ba g.bib.binds.length A.ca,.slice A.bo g.bib.sess.length A.cb,.slice A.qa g.pcs.length A.qc,.int .i64 g.bk.left,.int .i64 g.bk.most,.int .i64 g.bk.each,.int .i64 g.bk.since,.int .i64 g.now] 41)) [.slice B.ra g.routes.length B.rc,.slice B.pa g.pool.addrs.length B.pc,.int .i64 g.pool.low,.int .i64 g.pool.high,.int .i64 g.pool.most,.int .i64 g.pool.filter,.int .i64 g.pool.lv.udp,.int .i64 g.pool.lv.echo,.int .i64 g.pool.lv.opening,.int .i64 g.pool.lv.opn,.int .i64 g.pool.lv.closing,.string g.sixA,.int .i64 g.sixB,.string g.four1,.string g.six1,.int .i64 g.mtu,.slice B.ba g.bib.binds.length B.ca,.slice B.bo g.bib.sess.length B.cb,.slice B.qa g.pcs.length B.qc,.int .i64 g.bk.left,.int .i64 g.bk.most,.int .i64 g.bk.each,.int .i64 g.bk.since,.int .i64 g.now] 41;try simp only [World.size_alloc] at h
  exact h
 have HS0:Hid (Bxs w [(w.heap.size,[.slice A.ra g.routes.length A.rc,.slice A.pa g.pool.addrs.length A.pc,.int .i64 g.pool.low,.int .i64 g.pool.high,.int .i64 g.pool.most,.int .i64 g.pool.filter,.int .i64 g.pool.lv.udp,.int .i64 g.pool.lv.echo,.int .i64 g.pool.lv.opening,.int .i64 g.pool.lv.opn,.int .i64 g.pool.lv.closing,.string g.sixA,.int .i64 g.sixB,.string g.four1,.string g.six1,.int .i64 g.mtu,.slice A.ba g.bib.binds.length A.ca,.slice A.bo g.bib.sess.length A.cb,.slice A.qa g.pcs.length A.qc,.int .i64 g.bk.left,.int .i64 g.bk.most,.int .i64 g.bk.each,.int .i64 g.bk.since,.int .i64 g.now]),(w.heap.size+1,[.slice B.ra g.routes.length B.rc,.slice B.pa g.pool.addrs.length B.pc,.int .i64 g.pool.low,.int .i64 g.pool.high,.int .i64 g.pool.most,.int .i64 g.pool.filter,.int .i64 g.pool.lv.udp,.int .i64 g.pool.lv.echo,.int .i64 g.pool.lv.opening,.int .i64 g.pool.lv.opn,.int .i64 g.pool.lv.closing,.string g.sixA,.int .i64 g.sixB,.string g.four1,.string g.six1,.int .i64 g.mtu,.slice B.ba g.bib.binds.length B.ca,.slice B.bo g.bib.sess.length B.cb,.slice B.qa g.pcs.length B.qc,.int .i64 g.bk.left,.int .i64 g.bk.most,.int .i64 g.bk.each,.int .i64 g.bk.since,.int .i64 g.now])] ((w.alloc (.cells #[.slice A.ra g.routes.length A.rc,.slice A.pa g.pool.addrs.length A.pc,.int .i64 g.pool.low,.int .i64 g.pool.high,.int .i64 g.pool.most,.int .i64 g.pool.filter,.int .i64 g.pool.lv.udp,.int .i64 g.pool.lv.echo,.int .i64 g.pool.lv.opening,.int .i64 g.pool.lv.opn,.int .i64 g.pool.lv.closing,.string g.sixA,.int .i64 g.sixB,.string g.four1,.string g.six1,.int .i64 g.mtu,.slice A.ba g.bib.binds.length A.ca,.slice A.bo g.bib.sess.length A.cb,.slice A.qa g.pcs.length A.qc,.int .i64 g.bk.left,.int .i64 g.bk.most,.int .i64 g.bk.each,.int .i64 g.bk.since,.int .i64 g.now] 41)).alloc (.cells #[.slice B.ra g.routes.length B.rc,.slice B.pa g.pool.addrs.length B.pc,.int .i64 g.pool.low,.int .i64 g.pool.high,.int .i64 g.pool.most,.int .i64 g.pool.filter,.int .i64 g.pool.lv.udp,.int .i64 g.pool.lv.echo,.int .i64 g.pool.lv.opening,.int .i64 g.pool.lv.opn,.int .i64 g.pool.lv.closing,.string g.sixA,.int .i64 g.sixB,.string g.four1,.string g.six1,.int .i64 g.mtu,.slice B.ba g.bib.binds.length B.ca,.slice B.bo g.bib.sess.length B.cb,.slice B.qa g.pcs.length B.qc,.int .i64 g.bk.left,.int .i64 g.bk.most,.int .i64 g.bk.each,.int .i64 g.bk.since,.int .i64 g.now] 41))):=by
  refine ⟨fun e he=>?_,(((Below.refl _ _).alloc (by (try simp only [World.size_alloc]); omega) _).alloc (by (try simp only [World.size_alloc]); omega) _),fun e he=>?_⟩
  ·simp only [List.mem_cons,List.not_mem_nil,or_false] at he;rcases he with rfl | rfl
   ·exact e0
   ·exact e1
  ·simp only [List.mem_cons,List.not_mem_nil,or_false] at he;rcases he with rfl | rfl<;>simp
 clear e0 e1;unfold gwC gwL plC bbC buC at *;go_enter Tryz.func16,Tryz.ntmps16
 go_upto_region 1 with fail
 generalize ((w.alloc (.cells #[.slice A.ra g.routes.length A.rc,.slice A.pa g.pool.addrs.length A.pc,.int .i64 g.pool.low,.int .i64 g.pool.high,.int .i64 g.pool.most,.int .i64 g.pool.filter,.int .i64 g.pool.lv.udp,.int .i64 g.pool.lv.echo,.int .i64 g.pool.lv.opening,.int .i64 g.pool.lv.opn,.int .i64 g.pool.lv.closing,.string g.sixA,.int .i64 g.sixB,.string g.four1,.string g.six1,.int .i64 g.mtu,.slice A.ba g.bib.binds.length A.ca,.slice A.bo g.bib.sess.length A.cb,.slice A.qa g.pcs.length A.qc,.int .i64 g.bk.left,.int .i64 g.bk.most,.int .i64 g.bk.each,.int .i64 g.bk.since,.int .i64 g.now] 41)).alloc (.cells #[.slice B.ra g.routes.length B.rc,.slice B.pa g.pool.addrs.length B.pc,.int .i64 g.pool.low,.int .i64 g.pool.high,.int .i64 g.pool.most,.int .i64 g.pool.filter,.int .i64 g.pool.lv.udp,.int .i64 g.pool.lv.echo,.int .i64 g.pool.lv.opening,.int .i64 g.pool.lv.opn,.int .i64 g.pool.lv.closing,.string g.sixA,.int .i64 g.sixB,.string g.four1,.string g.six1,.int .i64 g.mtu,.slice B.ba g.bib.binds.length B.ca,.slice B.bo g.bib.sess.length B.cb,.slice B.qa g.pcs.length B.qc,.int .i64 g.bk.left,.int .i64 g.bk.most,.int .i64 g.bk.each,.int .i64 g.bk.since,.int .i64 g.now] 41))=W0 at *;have HHk:=HS0.out.at (.head _);have k0:=HHk.cell (j:=0) rfl;clear HHk;have HHl:=HS0.out.at (.tail _ (.head _));have l0:=HHl.cell (j:=0) rfl;clear HHl;go_wp2_with fail
 refine (C0.out W0 HS0.out.b).mono ?_;rintro e w1 ⟨rfl,qq⟩;have S1:Hid _:=HS0.out.kept qq;clear qq HS0 k0 l0;have HHk:=S1.out.at (.head _);have k1:=HHk.cell (j:=1) rfl;have k2:=HHk.cell (j:=2) rfl;have k3:=HHk.cell (j:=3) rfl;have k4:=HHk.cell (j:=4) rfl;have k5:=HHk.cell (j:=5) rfl;have k6:=HHk.cell (j:=6) rfl;have k7:=HHk.cell (j:=7) rfl;have k8:=HHk.cell (j:=8) rfl;have k9:=HHk.cell (j:=9) rfl;have k10:=HHk.cell (j:=10) rfl;clear HHk;have HHl:=S1.out.at (.tail _ (.head _));have l1:=HHl.cell (j:=1) rfl;have l2:=HHl.cell (j:=2) rfl;have l3:=HHl.cell (j:=3) rfl;have l4:=HHl.cell (j:=4) rfl;have l5:=HHl.cell (j:=5) rfl;have l6:=HHl.cell (j:=6) rfl;have l7:=HHl.cell (j:=7) rfl;have l8:=HHl.cell (j:=8) rfl;have l9:=HHl.cell (j:=9) rfl;have l10:=HHl.cell (j:=10) rfl;clear HHl;go_wp2_with fail
 refine (C1.out w1 S1.out.b).mono ?_;rintro e w2 ⟨rfl,qq⟩;have S2:Hid _:=S1.out.kept qq;clear qq S1 k1 k2 k3 k4 k5 k6 k7 k8 k9 k10 l1 l2 l3 l4 l5 l6 l7 l8 l9 l10;have HHk:=S2.out.at (.head _);have k11:=HHk.cell (j:=11) rfl;have k12:=HHk.cell (j:=12) rfl;clear HHk;have HHl:=S2.out.at (.tail _ (.head _));have l11:=HHl.cell (j:=11) rfl;have l12:=HHl.cell (j:=12) rfl;clear HHl;go_wp2_with fail
 refine (C2.out w2 S2.out.b).mono ?_;rintro e w3 ⟨rfl,qq⟩;have S3:Hid _:=S2.out.kept qq;clear qq S2 k11 k12 l11 l12;have HHk:=S3.out.at (.head _);have k13:=HHk.cell (j:=13) rfl;have k14:=HHk.cell (j:=14) rfl;have k15:=HHk.cell (j:=15) rfl;have k16:=HHk.cell (j:=16) rfl;have k17:=HHk.cell (j:=17) rfl;clear HHk;have HHl:=S3.out.at (.tail _ (.head _));have l13:=HHl.cell (j:=13) rfl;have l14:=HHl.cell (j:=14) rfl;have l15:=HHl.cell (j:=15) rfl;have l16:=HHl.cell (j:=16) rfl;have l17:=HHl.cell (j:=17) rfl;clear HHl;go_wp2_with fail
 refine (C3.out w3 S3.out.b).mono ?_;rintro e w4 ⟨rfl,qq⟩;have S4:Hid _:=S3.out.kept qq;clear qq S3 k13 k14 k15 k16 k17 l13 l14 l15 l16 l17;have HHk:=S4.out.at (.head _);have k18:=HHk.cell (j:=18) rfl;clear HHk;have HHl:=S4.out.at (.tail _ (.head _));have l18:=HHl.cell (j:=18) rfl;clear HHl;go_wp2_with fail
 refine (C4.out w4 S4.out.b).mono ?_;rintro e w5 ⟨rfl,qq⟩;have S5:Hid _:=S4.out.kept qq;clear qq S4 k18 l18;have HHk:=S5.out.at (.head _);have k19:=HHk.cell (j:=19) rfl;have k20:=HHk.cell (j:=20) rfl;have k21:=HHk.cell (j:=21) rfl;have k22:=HHk.cell (j:=22) rfl;clear HHk;have HHl:=S5.out.at (.tail _ (.head _));have l19:=HHl.cell (j:=19) rfl;have l20:=HHl.cell (j:=20) rfl;have l21:=HHl.cell (j:=21) rfl;have l22:=HHl.cell (j:=22) rfl;clear HHl;go_wp2_with fail
 refine (C5.out w5 S5.out.b).mono ?_;rintro e w6 ⟨rfl,qq⟩;have S6:Hid _:=S5.out.kept qq;clear qq S5 k19 k20 k21 k22 l19 l20 l21 l22;have HHk:=S6.out.at (.head _);have k23:=HHk.cell (j:=23) rfl;clear HHk;have HHl:=S6.out.at (.tail _ (.head _));have l23:=HHl.cell (j:=23) rfl;clear HHl;go_wp2_with fail
 go_ret;exact ⟨rfl,S6.out.b⟩
def gwZero:Gw:=⟨[],⟨[],0,0,0,0,⟨0,0,0,0,0⟩⟩,⟨#[]⟩,0,⟨#[]⟩,⟨#[]⟩,0,⟨[],[]⟩,[],⟨0,0,0,0⟩,0⟩
def gaZ:Ga:=⟨none,0,none,0,none,0,none,0,none,0⟩
def gwOf (rs:List Rt) (p:Pl) (sa:ByteArray) (sb mtu:Int):Gw:=⟨rs,p,sa,sb,⟨#[192,0,2,1]⟩,⟨#[32,1,13,184,0,0,0,0,0,0,0,0,0,0,0,1]⟩,mtu,⟨[],[]⟩,[],⟨5,5,2,0⟩,0⟩
def gwNewV (rs:List Rt) (p:Pl) (sa:ByteArray) (sb mtu:Int):Gw:=if gwOk (gwOf rs p sa sb mtu)=true then gwOf rs p sa sb mtu else gwZero
theorem gwZero_own (lo:Nat) (w:World):GwO lo w gaZ gwZero :=
 ⟨lo,lo,lo,lo,lo,lo,.inl rfl,.inl rfl,⟨.inl rfl,.inl rfl,fun g h e=>(by cases e)⟩,.inl rfl,Nat.le_refl _,Nat.le_refl _,Nat.le_refl _,Nat.le_refl _,Nat.le_refl _,Nat.le_refl _,.inl (Nat.le_refl _),Nat.le_refl _,Nat.le_refl _⟩
theorem gwOf_sm {A:Ga} {rs:List Rt} {p:Pl} {sa:ByteArray} {sb mtu:Int} (h1:rs.length≤1048576) (h2:rs.length≤A.rc) (h3:RtsIn rs) (h4:p.addrs.length≤1048576) (h5:p.addrs.length≤A.pc) (h6:∀ s∈p.addrs,s.size≤1048576) (h7:sa.size≤1048576):GwSm A (gwOf rs p sa sb mtu) :=
 ⟨h1,h2,h3,h4,h5,h6,h7,by show (4:Nat)≤1048576; omega,by show (16:Nat)≤1048576; omega,Nat.zero_le _,Nat.zero_le _,fun q hq=>(by cases hq),fun q hq=>(by cases hq),⟨Nat.zero_le _,fun q hq=>(by cases hq)⟩⟩
theorem gwOf_is {w:World} {ra pa:Option Addr} {rc pc:Nat} {rs:List Rt} {p:Pl} {sa:ByteArray} {sb mtu:Int} (h1:RtsIs w ra rs) (h2:SlIs strL1 1 w pa p.addrs):GwIs w ⟨ra,rc,pa,pc,none,0,none,0,none,0⟩ (gwOf rs p sa sb mtu) :=
 ⟨h1,h2,⟨.inl rfl,.inl rfl⟩,.inl rfl⟩
end Go.Proofs.YthagnjokdnnmpaaGreat
