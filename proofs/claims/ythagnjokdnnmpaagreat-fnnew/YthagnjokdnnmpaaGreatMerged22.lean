import Derived.Test.YthagnjokdnnmpaaGreatMerged11
import Derived.Test.YthagnjokdnnmpaaGreatSAll
import Derived.Test.YthagnjokdnnmpaaGreatMerged18
import Derived.Test.YthagnjokdnnmpaaGreatMerged16
import Derived.Test.YthagnjokdnnmpaaGreatMerged3
import Derived.Test.YthagnjokdnnmpaaGreatMerged15
import Derived.Test.YthagnjokdnnmpaaGreatMerged21
import Derived.Test.YthagnjokdnnmpaaGreatMerged20
import Derived.Test.YthagnjokdnnmpaaGreatMerged6
import Derived.Deep.RegionHeldLaw
set_option linter.unusedVariables false
set_option linter.unusedSimpArgs false
set_option maxRecDepth 100000
set_option maxHeartbeats 8000000
namespace Go.Proofs.YthagnjokdnnmpaaGreat
open Go.RowKit Go.PlainAid
structure Gw where
 routes:List Rt
 pool:Pl
 sixA:ByteArray
 sixB:Int
 four1:ByteArray
 six1:ByteArray
 mtu:Int
 bib:Bb
 pcs:List Pc
 bk:Bk
 now:Int
structure Ga where
 ra:Option Addr
 rc:Nat
 pa:Option Addr
 pc:Nat
 ba:Option Addr
 ca:Nat
 bo:Option Addr
 cb:Nat
 qa:Option Addr
 qc:Nat
def gwL (A:Ga) (g:Gw):List Value:=[.slice A.ra g.routes.length A.rc,.slice A.pa g.pool.addrs.length A.pc,.int .i64 g.pool.low,.int .i64 g.pool.high,.int .i64 g.pool.most,.int .i64 g.pool.filter,.int .i64 g.pool.lv.udp,.int .i64 g.pool.lv.echo,.int .i64 g.pool.lv.opening,.int .i64 g.pool.lv.opn,.int .i64 g.pool.lv.closing,.string g.sixA,.int .i64 g.sixB,.string g.four1,.string g.six1,.int .i64 g.mtu,.slice A.ba g.bib.binds.length A.ca,.slice A.bo g.bib.sess.length A.cb,.slice A.qa g.pcs.length A.qc,.int .i64 g.bk.left,.int .i64 g.bk.most,.int .i64 g.bk.each,.int .i64 g.bk.since,.int .i64 g.now]
def gwC (A:Ga) (g:Gw):Value:=.agg (gwL A g).toArray
def gwOk (g:Gw):Bool:=routesOk g.routes&&natOk g.sixA g.sixB&&decide (g.four1.size=4)&&decide (g.six1.size=16)&&isIn g.mtu 1280 1500&&bibOk g.pool g.bib&&piecesOk g.pcs&&bucketOk g.bk&&isTime g.now&&decide (g.bk.since≤g.now)
structure GwIs (w:World) (A:Ga) (g:Gw):Prop where
 rt:RtsIs w A.ra g.routes
 pl:SlIs strL1 1 w A.pa g.pool.addrs
 bb:BbIs w A.ba A.bo g.bib
 pc:SlIs pcL 8 w A.qa g.pcs
theorem GwIs.below {w W:World} {A:Ga} {g:Gw} (h:GwIs w A g) (hB:Below w.heap.size w W):GwIs W A g:=⟨h.rt.below hB,h.pl.below hB,h.bb.below hB,h.pc.below hB⟩
structure GwSm (A:Ga) (g:Gw):Prop where
 rl:g.routes.length≤1048576
 rc:g.routes.length≤A.rc
 rt:RtsIn g.routes
 pl:g.pool.addrs.length≤1048576
 pc:g.pool.addrs.length≤A.pc
 ps:∀ s∈g.pool.addrs,s.size≤1048576
 sx:g.sixA.size≤1048576
 f1:g.four1.size≤1048576
 s1:g.six1.size≤1048576
 b1:g.bib.binds.length≤1048576
 b2:g.bib.sess.length≤1048576
 gb:∀ q∈g.bib.binds,BdGood q
 gs:∀ s∈g.bib.sess,SsGood s
 pi:PcsIn g.pcs
open Go.ChangeShapes Go.WideShapes
section
variable {base lo hi B:Nat} {w W:World} {a b:Option Addr} {x:Bb}
end
end Go.Proofs.YthagnjokdnnmpaaGreat
namespace Go.Proofs.YthagnjokdnnmpaaGreat
open Go.RowKit
def stor (b:Nat):World→Nat→List Value→World
 | W,_,[]=>W
 | W,j,v::l=>stor b (W.setCell ⟨b,j,none⟩ v) (j+1) l
theorem HoldsL.storAt {b:Nat}:∀ (vs:List Value) {W:World} {pre olds:List Value},HoldsL W b (pre++olds)→olds.length=vs.length→HoldsL (stor b W pre.length vs) b (pre++vs)
 | [],W,pre,[],h,_=>h
 | [],W,pre,_::_,h,hl=>by simp at hl
 | v::vs,W,pre,[],h,hl=>by simp at hl
 | v::vs,W,pre,o::os,h,hl=>by
  have h2:=h.set pre.length v;rw [List.set_append_right _ _ (Nat.le_refl _),Nat.sub_self,List.set_cons_zero] at h2;have h3:HoldsL (W.setCell ⟨b,pre.length,none⟩ v) b ((pre++[v])++os):=by rw [List.append_assoc]; exact h2
  have:=HoldsL.storAt vs h3 (by simpa using hl);rw [List.length_append,List.append_assoc] at this;exact this
theorem HoldsL.stor {b:Nat} {W:World} {olds:List Value} (h:HoldsL W b olds) (vs:List Value) (hl:olds.length=vs.length):HoldsL (stor b W 0 vs) b vs:=HoldsL.storAt vs (pre:=[]) h hl
theorem Below.stor {n b:Nat} {w:World} (hb:n≤b):∀ (vs:List Value) {W:World} {j:Nat},Below n w W→Below n w (Go.Proofs.YthagnjokdnnmpaaGreat.stor b W j vs)
 | [],W,j,h=>h
 | v::vs,W,j,h=>Below.stor hb vs (h.setCell (p:=⟨b,j,none⟩) hb v)
theorem HoldsL.storOther {b c:Nat} {cs:List Value} (hne:c≠b):∀ (vs:List Value) {W:World} {j:Nat},HoldsL W c cs→HoldsL (Go.Proofs.YthagnjokdnnmpaaGreat.stor b W j vs) c cs
 | [],W,j,h=>h
 | v::vs,W,j,h=>HoldsL.storOther hne vs (h.setOther hne v)
theorem Bxs.stor {w W:World} {ks:List (Nat × List Value)} {b j:Nat} (h:Bxs w ks W) (hb:w.heap.size≤b) (hks:∀ e∈ks,e.1≠b) (vs:List Value):Bxs w ks (Go.Proofs.YthagnjokdnnmpaaGreat.stor b W j vs):=⟨fun e he=>HoldsL.storOther (hks e he) vs (h.k e he),Below.stor hb vs h.b,h.z⟩
theorem grown_stor {b:Nat}:∀ (vs:List Value) {w W:World} {j:Nat},w.grownBy W (some b)→w.grownBy (Go.Proofs.YthagnjokdnnmpaaGreat.stor b W j vs) (some b)
 | [],w,W,j,h=>h
 | v::vs,w,W,j,h=>grown_stor vs (grown_set h v)
theorem BbOwn.stor {base b j:Nat} {W:World} {a a':Option Addr} {y:Bb} (h:BbOwn base W a a' y) (hb:b < base) (vs:List Value):BbOwn base (Go.Proofs.YthagnjokdnnmpaaGreat.stor b W j vs) a a' y :=
 ⟨h.bd.grown (grown_stor vs (World.grownBy.refl _ _)) hb,h.ss.grown (grown_stor vs (World.grownBy.refl _ _)) hb,h.ne⟩
open Go.PlainAid
structure GwIn (lo n1 n2 b0 b1 p0 p1:Nat) (w:World) (A:Ga) (g:Gw):Prop where
 rt:SlIn rtL 3 lo n1 w A.ra g.routes
 pl:SlIn strL1 1 n1 n2 w A.pa g.pool.addrs
 bb:BbIn b0 b1 w A.ba A.bo g.bib
 ps:SlIn pcL 8 p0 p1 w A.qa g.pcs
 l1:lo≤n1
 l2:n1≤n2
 lb:n2≤b0
 lp:n2≤p0
 bl:b0≤b1
 pl2:p0≤p1
 d:b1≤p0∨p1≤b0
 rc:g.routes.length≤A.rc
 pc:g.pool.addrs.length≤A.pc
def GwO (lo:Nat) (w:World) (A:Ga) (g:Gw):Prop:=∃ n1 n2 b0 b1 p0 p1,GwIn lo n1 n2 b0 b1 p0 p1 w A g
def GwRet (lo:Nat) (g:Gw) (e:Ending) (w:World):Prop:=∃ A,e=.returned (gwC A g)∧GwO lo w A g
section
variable {lo n1 n2 b0 b1 p0 p1:Nat} {w W:World} {A:Ga} {g:Gw}
theorem GwIn.kept (h:GwIn lo n1 n2 b0 b1 p0 p1 w A g) (hb:Below w.heap.size w W):GwIn lo n1 n2 b0 b1 p0 p1 W A g:=⟨h.rt.kept hb,h.pl.kept hb,h.bb.kept hb,h.ps.kept hb,h.l1,h.l2,h.lb,h.lp,h.bl,h.pl2,h.d,h.rc,h.pc⟩
theorem GwIn.is (h:GwIn lo n1 n2 b0 b1 p0 p1 w A g):GwIs w A g:=⟨rts_is.2 h.rt.is,h.pl.is,h.bb.is,h.ps.is⟩
theorem GwIn.down (h:GwIn lo n1 n2 b0 b1 p0 p1 w A g) {l:Nat} (hl:l≤lo):GwIn l n1 n2 b0 b1 p0 p1 w A g:=⟨by
 rcases h.rt with e | ⟨x,e1,e2,e3⟩
 ·exact .inl e
 ·exact .inr ⟨x,e1,Nat.le_trans hl e2,e3⟩,h.pl,h.bb,h.ps,Nat.le_trans hl h.l1,h.l2,h.lb,h.lp,h.bl,h.pl2,h.d,h.rc,h.pc⟩
theorem GwO.kept (h:GwO lo w A g) (hb:Below w.heap.size w W):GwO lo W A g:=by obtain ⟨a,b,c,d,e,f,h⟩:=h; exact ⟨a,b,c,d,e,f,h.kept hb⟩
theorem GwO.is (h:GwO lo w A g):GwIs w A g:=by obtain ⟨a,b,c,d,e,f,h⟩:=h; exact h.is
theorem GwO.down (h:GwO lo w A g) {l:Nat} (hl:l≤lo):GwO l w A g:=by obtain ⟨a,b,c,d,e,f,h⟩:=h; exact ⟨a,b,c,d,e,f,h.down hl⟩
theorem GwO.caps (h:GwO lo w A g):g.routes.length≤A.rc∧g.pool.addrs.length≤A.pc:=by obtain ⟨a,b,c,d,e,f,h⟩:=h; exact ⟨h.rc,h.pc⟩
end
theorem Bxs.outOf {w W W2:World} {ks:List (Nat × List Value)} {lo hi:Nat} (h:Bxs w ks W) (ho:OutOf lo hi W W2) (hw:w.heap.size≤lo) (hk:∀ e∈ks,e.1 < lo∨hi≤e.1):Bxs w ks W2 :=
 ⟨fun e he=>(h.k e he).outOf (h.z e he) ho (hk e he),h.b.trans (ho.below hw h.b.size),h.z⟩
def gwZ:List Value:=[.slice none 0 0,.slice none 0 0,.int .i64 0,.int .i64 0,.int .i64 0,.int .i64 0,.int .i64 0,.int .i64 0,.int .i64 0,.int .i64 0,.int .i64 0,.string ⟨#[]⟩,.int .i64 0,.string ⟨#[]⟩,.string ⟨#[]⟩,.int .i64 0,.slice none 0 0,.slice none 0 0,.slice none 0 0,.int .i64 0,.int .i64 0,.int .i64 0,.int .i64 0,.int .i64 0]
theorem Bxs.two {w W:World} {a b:Nat} {l m:List Value} (h1:HoldsL W a l) (h2:HoldsL W b m) (hB:Below w.heap.size w W) (z1:0 < l.length) (z2:0 < m.length):Bxs w [(a,l),(b,m)] W :=
 ⟨fun e he=>by
  simp only [List.mem_cons,List.not_mem_nil,or_false] at he;rcases he with rfl | rfl
  ·exact h1
  ·exact h2,hB,fun e he=>by
  simp only [List.mem_cons,List.not_mem_nil,or_false] at he;rcases he with rfl | rfl
  ·exact z1
  ·exact z2⟩
theorem two_keys {a b O:Nat} {l m:List Value} (ha:a < O) (hb:b < O):∀ e∈[(a,l),(b,m)],e.1 < O∨O+1≤e.1:=fun e he=>by
 simp only [List.mem_cons,List.not_mem_nil,or_false] at he;rcases he with rfl | rfl
 ·exact .inl ha
 ·exact .inl hb
theorem gwL_len (A:Ga) (g:Gw):(gwL A g).length=24:=rfl
theorem gwL_one (A:Ga) (g:Gw):(gwL A g).toArray.all (·.oneCell')=true:=all_oneCell_toArray (by unfold gwL; simp [Value.oneCell'])
theorem stor_cellsG (b:Nat):∀ (vs:List Value) (W:World) (j:Nat),stor b W j vs=W.setCells b j vs
 | [],W,j=>rfl
 | v::vs,W,j=>by
  show stor b (W.setCell ⟨b,j,none⟩ v) (j+1) vs=_;rw [stor_cellsG b vs]; rfl
theorem HoldsL.midG {W:World} {b:Nat} {olds vs:List Value} (h:HoldsL W b olds) (hl:olds.length=vs.length):HoldsL (W.setCells b 0 vs.toArray.toList) b vs:=by
 rw [List.toList_toArray,← stor_cellsG]; exact h.stor vs hl
theorem Below.midG {n b:Nat} {w W:World} (h:Below n w W) (hb:n≤b) (vs:List Value):Below n w (W.setCells b 0 vs.toArray.toList):=by
 rw [List.toList_toArray,← stor_cellsG]; exact Below.stor hb vs h
theorem outOf_stor {b:Nat} {W:World} (vs:List Value) (j:Nat):OutOf b (b+1) W (stor b W j vs):=OutOf.of_grown (grown_stor vs (World.grownBy.refl _ _)) (Nat.le_refl _) (by omega)
theorem outOf_mid {b:Nat} {W:World} (vs:List Value):OutOf b (b+1) W (W.setCells b 0 vs.toArray.toList):=by
 rw [List.toList_toArray,← stor_cellsG]; exact outOf_stor vs 0
theorem gwL_there {W:World} {b:Nat} {olds:List Value} (h:HoldsL W b olds) (hl:olds.length=24) (A:Ga) (g:Gw):W.there b 0 (gwL A g).toArray.size:=by
 have:=h.th;rw [hl] at this;exact this
theorem GwIn.outOf {lo n1 n2 b0 b1 p0 p1 l h:Nat} {w W:World} {A:Ga} {g:Gw} (H:GwIn lo n1 n2 b0 b1 p0 p1 w A g) (ho:OutOf l h w W) (hd:h≤lo∨(b1≤l∧p1≤l)):GwIn lo n1 n2 b0 b1 p0 p1 W A g:=by
 have:=H.l1; have:=H.l2; have:=H.lb; have:=H.lp; have:=H.bl; have:=H.pl2;exact ⟨H.rt.outOf ho (by omega),H.pl.outOf ho (by omega),H.bb.outOf ho (by omega),H.ps.outOf ho (by omega),H.l1,H.l2,H.lb,H.lp,H.bl,H.pl2,H.d,H.rc,H.pc⟩
theorem Bxs.midG {w W:World} {ks:List (Nat × List Value)} {X:Nat} (h:Bxs w ks W) (hb:w.heap.size≤X) (hks:∀ e∈ks,e.1≠X) (vs:List Value):Bxs w ks (W.setCells X 0 vs.toArray.toList):=by
 rw [List.toList_toArray,← stor_cellsG]; exact h.stor hb hks vs
theorem gw_info:(Tryz.prog.info? 41).map (·.size)=some 24:=by kernel_rfl
def gwZero:Gw:=⟨[],⟨[],0,0,0,0,⟨0,0,0,0,0⟩⟩,⟨#[]⟩,0,⟨#[]⟩,⟨#[]⟩,0,⟨[],[]⟩,[],⟨0,0,0,0⟩,0⟩
def gaZ:Ga:=⟨none,0,none,0,none,0,none,0,none,0⟩
def gwOf (rs:List Rt) (p:Pl) (sa:ByteArray) (sb mtu:Int):Gw:=⟨rs,p,sa,sb,⟨#[192,0,2,1]⟩,⟨#[32,1,13,184,0,0,0,0,0,0,0,0,0,0,0,1]⟩,mtu,⟨[],[]⟩,[],⟨5,5,2,0⟩,0⟩
def gwNewV (rs:List Rt) (p:Pl) (sa:ByteArray) (sb mtu:Int):Gw:=if gwOk (gwOf rs p sa sb mtu)=true then gwOf rs p sa sb mtu else gwZero
theorem gwZero_own (lo:Nat) (w:World):GwO lo w gaZ gwZero :=
 ⟨lo,lo,lo,lo,lo,lo,.inl rfl,.inl rfl,⟨.inl rfl,.inl rfl,fun g h e=>(by cases e)⟩,.inl rfl,Nat.le_refl _,Nat.le_refl _,Nat.le_refl _,Nat.le_refl _,Nat.le_refl _,Nat.le_refl _,.inl (Nat.le_refl _),Nat.le_refl _,Nat.le_refl _⟩
theorem gwOf_sm {A:Ga} {rs:List Rt} {p:Pl} {sa:ByteArray} {sb mtu:Int} (h1:rs.length≤1048576) (h2:rs.length≤A.rc) (h3:RtsIn rs) (h4:p.addrs.length≤1048576) (h5:p.addrs.length≤A.pc) (h6:∀ s∈p.addrs,s.size≤1048576) (h7:sa.size≤1048576):GwSm A (gwOf rs p sa sb mtu) :=
 ⟨h1,h2,h3,h4,h5,h6,h7,by show (4:Nat)≤1048576; omega,by show (16:Nat)≤1048576; omega,Nat.zero_le _,Nat.zero_le _,fun q hq=>(by cases hq),fun q hq=>(by cases hq),⟨Nat.zero_le _,fun q hq=>(by cases hq)⟩⟩
theorem gwOf_is {w:World} {ra pa:Option Addr} {rc pc:Nat} {rs:List Rt} {p:Pl} {sa:ByteArray} {sb mtu:Int} (h1:RtsIs w ra rs) (h2:SlIs strL1 1 w pa p.addrs):GwIs w ⟨ra,rc,pa,pc,none,0,none,0,none,0⟩ (gwOf rs p sa sb mtu) :=
 ⟨h1,h2,⟨.inl rfl,.inl rfl⟩,.inl rfl⟩
theorem implNat_any (s:ByteArray) (b:Int) (w:World) (hs:s.size≤1048576) :
  Calls Tryz.prog 39 #[.agg #[.string s,.int .i64 b]] w fun e w'=>e=.returned (.bool (natOk s b))∧Below w.heap.size w w':=by
 have hB:Hid (Below w.heap.size w (w.alloc (.cells #[.string s,.int .i64 b] 30))):=(Below.refl _ _).alloc (Nat.le_refl _) _;by_cases h16:s.size=16
 ·have e16:((s.size:Int) != 16)=false:=by simp; omega
  by_cases hp:prefixOk s b=true
  ·have hcall:Hid (∀ W,Calls Tryz.prog 88 #[.agg #[.string s,.int .i64 b]] W fun e w'=>e=.returned (.bool true)∧Below W.heap.size W w'):=fun W=>by rw [← hp]; exact implPrefixRight_any s b W hs
   have HV:Hid (natOk s b=natBits b):=by unfold Hid natOk; simp [hp,h16]
   clear h16 hp;by_cases hb:b=32∨b=40∨b=48∨b=56∨b=64∨b=96
   ·have HN:Hid (natBits b=true):=by unfold Hid natBits; rcases hb with h | h | h | h | h | h<;>subst h<;>rfl
    rcases hb with h | h | h | h | h | h<;>subst h
    all_goals
     go_enter Tryz.func39,Tryz.ntmps39
     go_wp2_with fail
     refine (hcall.out _).mono ?_;rintro e w1 ⟨rfl,hb1⟩;obtain ⟨hc,hf⟩:=bcell hb1;have HB1:Hid _:=hB.out.trans (hb1.mono (by simp));clear hf hb1;go_wp2
     go_ret;exact ⟨ret_bool (by rw [HV.out,HN.out]),HB1.out⟩
   ·have HN:Hid (natBits b=false):=by
     unfold Hid natBits;have h1:(b==96)=false:=by simp; omega
     rw [h1,Bool.false_or,Bool.eq_false_iff];intro hh;simp at hh;omega
    have e1:(b==32)=false:=by simp; omega
    have e2:(b==40)=false:=by simp; omega
    have e3:(b==48)=false:=by simp; omega
    have e4:(b==56)=false:=by simp; omega
    have e5:(b==64)=false:=by simp; omega
    have e6:(b==96)=false:=by simp; omega
    clear hb;go_enter Tryz.func39,Tryz.ntmps39
    go_wp2_with fail
    refine (hcall.out _).mono ?_;rintro e w1 ⟨rfl,hb1⟩;obtain ⟨hc,hf⟩:=bcell hb1;have HB1:Hid _:=hB.out.trans (hb1.mono (by simp));clear hf hb1;go_wp2
    go_ret;exact ⟨ret_bool (by rw [HV.out,HN.out]),HB1.out⟩
  ·have hp':prefixOk s b=false:=by simpa using hp
   have hcall:Hid (∀ W,Calls Tryz.prog 88 #[.agg #[.string s,.int .i64 b]] W fun e w'=>e=.returned (.bool false)∧Below W.heap.size W w'):=fun W=>by rw [← hp']; exact implPrefixRight_any s b W hs
   have HV:Hid (natOk s b=false):=by unfold Hid natOk; simp [hp']
   clear h16 hp hp';go_enter Tryz.func39,Tryz.ntmps39
   go_wp2_with fail
   refine (hcall.out _).mono ?_;rintro e w1 ⟨rfl,hb1⟩;have HB1:Hid _:=hB.out.trans (hb1.mono (by simp));clear hb1;go_wp2
   go_ret;exact ⟨ret_bool HV.out.symm,HB1.out⟩
 ·have e16:((s.size:Int) != 16)=true:=by simp; omega
  have HV:Hid (natOk s b=false):=by unfold Hid natOk; simp [h16]
  clear h16;go_enter Tryz.func39,Tryz.ntmps39
  go_wp2
  go_ret;exact ⟨ret_bool HV.out.symm,hB.out⟩
structure HoldsP (w:World) (B at1 k:Nat):Prop where
 get:∀ i,i < 4→w.cell? ⟨B,i,none⟩=some (.int .i64 (if i < k then (posE at1 i:Nat) else 0))∧w.frozen? ⟨B,i,none⟩=false
theorem HoldsP.set {w:World} {B at1 k:Nat} (h:HoldsP w B at1 k) (hk:k < 4):HoldsP (w.setCell ⟨B,k,none⟩ (.int .i64 (posE at1 k:Nat))) B at1 (k+1):=by
 refine ⟨fun i hi=>⟨?_,by rw [World.frozen?_setCell]; exact (h.get i hi).2⟩⟩;by_cases e:i=k
 ·subst e; rw [if_pos (by omega)]; exact World.cell?_setCell_same _ _ _ (h.get i hi).1
 ·rw [World.cell?_setCell_other _ _ _ _ (fun e2=>e (by injection e2 with _ h2; exact h2.symm)),(h.get i hi).1];by_cases h2:i < k
  ·rw [if_pos h2,if_pos (by omega)]
  ·rw [if_neg h2,if_neg (by omega)]
theorem Holds.below {w w3:World} {B n:Nat} {f:Nat→Int} (h:Holds w B n f) (hB:B < w.heap.size) (hb:Below w.heap.size w w3):Holds w3 B n f :=
 ⟨fun i hi=>⟨((bcell hb).1 B i hB).trans (h.get i hi).1,((bcell hb).2 B i hB).trans (h.get i hi).2⟩⟩
theorem implPool_any (p:Pl) (a:Option Addr) (cap:Nat) (w:World) (hl:p.addrs.length≤1048576) (hcap:p.addrs.length≤cap) (hsz:∀ s∈p.addrs,s.size≤1048576) (hr:SlIs strL1 1 w a p.addrs) :
  Calls Tryz.prog 120 #[plC a cap p] w fun e w'=>e=.returned (.bool (poolOk p))∧Below w.heap.size w w':=by
 have hun:undef=Value.tuple #[]:=rfl;have GA:Hid (Below w.heap.size w (w.alloc (.cells #[.slice a p.addrs.length cap,.int .i64 p.low,.int .i64 p.high,.int .i64 p.most,.int .i64 p.filter,.int .i64 p.lv.udp,.int .i64 p.lv.echo,.int .i64 p.lv.opening,.int .i64 p.lv.opn,.int .i64 p.lv.closing] 28))):=(Below.refl _ _).alloc (Nat.le_refl _) _;have H0:Hid (HoldsL (w.alloc (.cells #[.slice a p.addrs.length cap,.int .i64 p.low,.int .i64 p.high,.int .i64 p.most,.int .i64 p.filter,.int .i64 p.lv.udp,.int .i64 p.lv.echo,.int .i64 p.lv.opening,.int .i64 p.lv.opn,.int .i64 p.lv.closing] 28)) w.heap.size [.slice a p.addrs.length cap,.int .i64 p.low,.int .i64 p.high,.int .i64 p.most,.int .i64 p.filter,.int .i64 p.lv.udp,.int .i64 p.lv.echo,.int .i64 p.lv.opening,.int .i64 p.lv.opn,.int .i64 p.lv.closing]):=HoldsL.new w [.slice a p.addrs.length cap,.int .i64 p.low,.int .i64 p.high,.int .i64 p.most,.int .i64 p.filter,.int .i64 p.lv.udp,.int .i64 p.lv.echo,.int .i64 p.lv.opening,.int .i64 p.lv.opn,.int .i64 p.lv.closing] 28;have HA:Hid (∀ W,Below w.heap.size w W→Calls Tryz.prog 147 #[.slice a p.addrs.length cap] W fun e w'=>e=.returned (.bool (poolA p.addrs))∧Below W.heap.size W w'):=fun W hW=>implPoolA_any p.addrs a cap W hl hcap hsz (hr.below hW)
 have HL:Hid (∀ W,Calls Tryz.prog 148 #[lvC p.lv] W fun e w'=>e=.returned (.bool (livesOk p.lv))∧Below W.heap.size W w'):=fun W=>implLives_any p.lv W
 have HV:Hid (poolOk p=(poolA p.addrs&&decide (1≤p.low)&&decide (p.low≤p.high)&&decide (p.high≤65535)&&decide (1≤p.most)&&decide (p.most≤60)&&decide (0≤p.filter)&&decide (p.filter≤2)&&livesOk p.lv)):=by
  unfold Hid poolOk poolA isIn;generalize livesOk p.lv=x1;generalize upN addrOne p.addrs p.addrs.length=x2;rw [Bool.eq_iff_iff]; simp only [Bool.and_eq_true];constructor
  ·intro h; simp_all
  ·intro h; simp_all
 generalize poolOk p=ans at *;generalize poolA p.addrs=bA at *;generalize livesOk p.lv=bL at *;clear hr hsz;unfold plC;unfold lvC at HL;go_enter Tryz.func120,Tryz.ntmps120
 go_wp2_with fail
 refine (HA.out _ GA.out).mono ?_;rintro e w1 ⟨rfl,q1⟩;have G1:Hid (Below w.heap.size w w1):=GA.out.trans (q1.mono GA.out.size);have K1:=H0.out.kept (by simp) q1;obtain ⟨k0,k1,k2,k3,k4,k5,k6,k7,k8,k9⟩:=K1.c10;clear q1 K1 H0 GA HA
 cases bA with
 | false =>
  have HX:Hid (ans=false):=by unfold Hid; rw [HV.out]; simp
  go_wp2_with fail
  go_ret;exact ⟨ret_bool HX.out.symm,G1.out⟩
 | true =>
  by_cases t0:1≤p.low
  case neg =>
   have HX:Hid (ans=false):=by unfold Hid; rw [HV.out,decide_eq_false t0]; simp
   have d0:decide (1≤p.low)=false:=decide_eq_false t0;go_wp2_with fail
   go_ret;exact ⟨ret_bool HX.out.symm,G1.out⟩
  have d0:decide (1≤p.low)=true:=decide_eq_true t0;by_cases t1:p.low≤p.high
  case neg =>
   have HX:Hid (ans=false):=by unfold Hid; rw [HV.out,decide_eq_false t1]; simp
   have d1:decide (p.low≤p.high)=false:=decide_eq_false t1;go_wp2_with fail
   go_ret;exact ⟨ret_bool HX.out.symm,G1.out⟩
  have d1:decide (p.low≤p.high)=true:=decide_eq_true t1;by_cases t2:p.high≤65535
  case neg =>
   have HX:Hid (ans=false):=by unfold Hid; rw [HV.out,decide_eq_false t2]; simp
   have d2:decide (p.high≤65535)=false:=decide_eq_false t2;go_wp2_with fail
   go_ret;exact ⟨ret_bool HX.out.symm,G1.out⟩
  have d2:decide (p.high≤65535)=true:=decide_eq_true t2;by_cases t3:1≤p.most
  case neg =>
   have HX:Hid (ans=false):=by unfold Hid; rw [HV.out,decide_eq_false t3]; simp
   have d3:decide (1≤p.most)=false:=decide_eq_false t3;go_wp2_with fail
   go_ret;exact ⟨ret_bool HX.out.symm,G1.out⟩
  have d3:decide (1≤p.most)=true:=decide_eq_true t3;by_cases t4:p.most≤60
  case neg =>
   have HX:Hid (ans=false):=by unfold Hid; rw [HV.out,decide_eq_false t4]; simp
   have d4:decide (p.most≤60)=false:=decide_eq_false t4;go_wp2_with fail
   go_ret;exact ⟨ret_bool HX.out.symm,G1.out⟩
  have d4:decide (p.most≤60)=true:=decide_eq_true t4;by_cases t5:0≤p.filter
  case neg =>
   have HX:Hid (ans=false):=by unfold Hid; rw [HV.out,decide_eq_false t5]; simp
   have d5:decide (0≤p.filter)=false:=decide_eq_false t5;go_wp2_with fail
   go_ret;exact ⟨ret_bool HX.out.symm,G1.out⟩
  have d5:decide (0≤p.filter)=true:=decide_eq_true t5;by_cases t6:p.filter≤2
  case neg =>
   have HX:Hid (ans=false):=by unfold Hid; rw [HV.out,decide_eq_false t6]; simp
   have d6:decide (p.filter≤2)=false:=decide_eq_false t6;go_wp2_with fail
   go_ret;exact ⟨ret_bool HX.out.symm,G1.out⟩
  have d6:decide (p.filter≤2)=true:=decide_eq_true t6;have HX:Hid (ans=bL):=by unfold Hid; rw [HV.out,decide_eq_true t0,decide_eq_true t1,decide_eq_true t2,decide_eq_true t3,decide_eq_true t4,decide_eq_true t5,decide_eq_true t6]; rfl
  go_wp2_with fail
  refine (HL.out _).mono ?_;rintro e w2 ⟨rfl,q2⟩;have G2:Hid (Below w.heap.size w w2):=G1.out.trans (q2.mono G1.out.size);clear q2;go_wp2_with fail
  go_ret;exact ⟨ret_bool HX.out.symm,G2.out⟩
end Go.Proofs.YthagnjokdnnmpaaGreat
