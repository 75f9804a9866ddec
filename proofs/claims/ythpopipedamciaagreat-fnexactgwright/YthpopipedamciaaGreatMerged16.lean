import Derived.Test.YthpopipedamciaaGreatMerged9
import Derived.Test.YthpopipedamciaaGreatLawRoutes
import Derived.Test.YthpopipedamciaaGreatMerged2
import Derived.Test.YthpopipedamciaaGreatMerged14
import Derived.Test.YthpopipedamciaaGreatLawBib
import Derived.Test.YthpopipedamciaaGreatMerged15
import Derived.Test.YthpopipedamciaaGreatMerged1
import Derived.Test.YthpopipedamciaaGreatGrow
import Derived.Deep.RegionWith
import Derived.Deep.DeepCutAuto
set_option linter.unusedVariables false
set_option linter.unusedSimpArgs false
set_option maxRecDepth 100000
set_option maxHeartbeats 8000000
namespace Go.Proofs.YthpopipedamciaaGreat
open Go.RowKit Go.PlainAid
def rtL (q:Rt):List Value:=[.string q.addr,.int .i64 q.bits,.int .i64 q.hop]
theorem sl_of_rts {w:World} {b off:Nat} {rs:List Rt} (h:RtsAt w b off rs):SlAt rtL 3 w b off rs:=fun i hi j v hv=>by
 match j,hv with
 | 0,hv=>rw [← Option.some.inj hv]; exact h.c0 i hi
 | 1,hv=>rw [← Option.some.inj hv]; exact h.c1 i hi
 | 2,hv=>rw [← Option.some.inj hv]; exact h.c2 i hi
 | j+3,hv=>simp [rtL] at hv
theorem rts_of_sl {w:World} {b off:Nat} {rs:List Rt} (h:SlAt rtL 3 w b off rs):RtsAt w b off rs :=
 ⟨fun i hi=>h i hi 0 _ rfl,fun i hi=>h i hi 1 _ rfl,fun i hi=>h i hi 2 _ rfl⟩
theorem rts_is {w:World} {a:Option Addr} {rs:List Rt}:RtsIs w a rs↔SlIs rtL 3 w a rs:=by
 constructor
 ·rintro (h | ⟨b,off,e,hb,h⟩)
  ·exact .inl h
  ·exact .inr ⟨b,off,e,hb,sl_of_rts h⟩
 ·rintro (h | ⟨b,off,e,hb,h⟩)
  ·exact .inl h
  ·exact .inr ⟨b,off,e,hb,rts_of_sl h⟩
theorem sl_of_laid {w:World} {B:Nat} {rs:List Rt} {k:Nat} (h:RtsLaid w B rs k):SlLaid rtL 3 w B rs rs.length k :=
 ⟨h.blk,fun i hi hk j v hv=>by
  match j,hv with
  | 0,hv=>rw [← Option.some.inj hv]; exact h.c0 i hi hk
  | 1,hv=>rw [← Option.some.inj hv]; exact h.c1 i hi hk
  | 2,hv=>rw [← Option.some.inj hv]; exact h.c2 i hi hk
  | j+3,hv=>simp [rtL] at hv,h.there,h.free⟩
open Go.ChangeShapes Go.WideShapes
section
variable {base lo hi B:Nat} {w W:World} {a b:Option Addr} {x:Bb}
end
end Go.Proofs.YthpopipedamciaaGreat
namespace Go.Proofs.YthpopipedamciaaGreat
open Go.RowKit
def stor (b:Nat):World→Nat→List Value→World
 | W,_,[]=>W
 | W,j,v::l=>stor b (W.setCell ⟨b,j,none⟩ v) (j+1) l
theorem HoldsL.storAt {b:Nat}:∀ (vs:List Value) {W:World} {pre olds:List Value},HoldsL W b (pre++olds)→olds.length=vs.length→HoldsL (stor b W pre.length vs) b (pre++vs)
 | [],W,pre,[],h,_=>h
 | [],W,pre,_::_,h,hl=>by simp at hl
 | v::vs,W,pre,[],h,hl=>by simp at hl
 | v::vs,W,pre,o::os,h,hl=>by
  have h2:=h.set pre.length v;rw [List.set_append_right _ _ (Nat.le_refl _),Nat.sub_self,List.set_cons_zero] at h2;have h3:HoldsL (W.setCell ⟨b,pre.length,none⟩ v) b ((pre++[v])++os):=by rw [List.append_assoc]; exact h2
  have:=HoldsL.storAt vs h3 (by simpa using hl);rw [List.length_append,List.append_assoc] at this;exact this
theorem HoldsL.stor {b:Nat} {W:World} {olds:List Value} (h:HoldsL W b olds) (vs:List Value) (hl:olds.length=vs.length):HoldsL (stor b W 0 vs) b vs:=HoldsL.storAt vs (pre:=[]) h hl
theorem Below.stor {n b:Nat} {w:World} (hb:n≤b):∀ (vs:List Value) {W:World} {j:Nat},Below n w W→Below n w (Go.Proofs.YthpopipedamciaaGreat.stor b W j vs)
 | [],W,j,h=>h
 | v::vs,W,j,h=>Below.stor hb vs (h.setCell (p:=⟨b,j,none⟩) hb v)
theorem HoldsL.storOther {b c:Nat} {cs:List Value} (hne:c≠b):∀ (vs:List Value) {W:World} {j:Nat},HoldsL W c cs→HoldsL (Go.Proofs.YthpopipedamciaaGreat.stor b W j vs) c cs
 | [],W,j,h=>h
 | v::vs,W,j,h=>HoldsL.storOther hne vs (h.setOther hne v)
theorem Bxs.stor {w W:World} {ks:List (Nat × List Value)} {b j:Nat} (h:Bxs w ks W) (hb:w.heap.size≤b) (hks:∀ e∈ks,e.1≠b) (vs:List Value):Bxs w ks (Go.Proofs.YthpopipedamciaaGreat.stor b W j vs):=⟨fun e he=>HoldsL.storOther (hks e he) vs (h.k e he),Below.stor hb vs h.b,h.z⟩
theorem grown_stor {b:Nat}:∀ (vs:List Value) {w W:World} {j:Nat},w.grownBy W (some b)→w.grownBy (Go.Proofs.YthpopipedamciaaGreat.stor b W j vs) (some b)
 | [],w,W,j,h=>h
 | v::vs,w,W,j,h=>grown_stor vs (grown_set h v)
theorem BbOwn.stor {base b j:Nat} {W:World} {a a':Option Addr} {y:Bb} (h:BbOwn base W a a' y) (hb:b < base) (vs:List Value):BbOwn base (Go.Proofs.YthpopipedamciaaGreat.stor b W j vs) a a' y :=
 ⟨h.bd.grown (grown_stor vs (World.grownBy.refl _ _)) hb,h.ss.grown (grown_stor vs (World.grownBy.refl _ _)) hb,h.ne⟩
open Go.PlainAid
structure GwIn (lo n1 n2 b0 b1 p0 p1:Nat) (w:World) (A:Ga) (g:Gw):Prop where
 rt:SlIn rtL 3 lo n1 w A.ra g.routes
 pl:SlIn strL1 1 n1 n2 w A.pa g.pool.addrs
 bb:BbIn b0 b1 w A.ba A.bo g.bib
 ps:SlIn pcL 8 p0 p1 w A.qa g.pcs
 l1:lo≤n1
 l2:n1≤n2
 lb:n2≤b0
 lp:n2≤p0
 bl:b0≤b1
 pl2:p0≤p1
 d:b1≤p0∨p1≤b0
 rc:g.routes.length≤A.rc
 pc:g.pool.addrs.length≤A.pc
def GwO (lo:Nat) (w:World) (A:Ga) (g:Gw):Prop:=∃ n1 n2 b0 b1 p0 p1,GwIn lo n1 n2 b0 b1 p0 p1 w A g
def GwRet (lo:Nat) (g:Gw) (e:Ending) (w:World):Prop:=∃ A,e=.returned (gwC A g)∧GwO lo w A g
section
variable {lo n1 n2 b0 b1 p0 p1:Nat} {w W:World} {A:Ga} {g:Gw}
theorem GwIn.kept (h:GwIn lo n1 n2 b0 b1 p0 p1 w A g) (hb:Below w.heap.size w W):GwIn lo n1 n2 b0 b1 p0 p1 W A g:=⟨h.rt.kept hb,h.pl.kept hb,h.bb.kept hb,h.ps.kept hb,h.l1,h.l2,h.lb,h.lp,h.bl,h.pl2,h.d,h.rc,h.pc⟩
theorem GwIn.is (h:GwIn lo n1 n2 b0 b1 p0 p1 w A g):GwIs w A g:=⟨rts_is.2 h.rt.is,h.pl.is,h.bb.is,h.ps.is⟩
theorem GwIn.down (h:GwIn lo n1 n2 b0 b1 p0 p1 w A g) {l:Nat} (hl:l≤lo):GwIn l n1 n2 b0 b1 p0 p1 w A g:=⟨by
 rcases h.rt with e | ⟨x,e1,e2,e3⟩
 ·exact .inl e
 ·exact .inr ⟨x,e1,Nat.le_trans hl e2,e3⟩,h.pl,h.bb,h.ps,Nat.le_trans hl h.l1,h.l2,h.lb,h.lp,h.bl,h.pl2,h.d,h.rc,h.pc⟩
theorem GwO.kept (h:GwO lo w A g) (hb:Below w.heap.size w W):GwO lo W A g:=by obtain ⟨a,b,c,d,e,f,h⟩:=h; exact ⟨a,b,c,d,e,f,h.kept hb⟩
theorem GwO.is (h:GwO lo w A g):GwIs w A g:=by obtain ⟨a,b,c,d,e,f,h⟩:=h; exact h.is
theorem GwO.down (h:GwO lo w A g) {l:Nat} (hl:l≤lo):GwO l w A g:=by obtain ⟨a,b,c,d,e,f,h⟩:=h; exact ⟨a,b,c,d,e,f,h.down hl⟩
theorem GwO.caps (h:GwO lo w A g):g.routes.length≤A.rc∧g.pool.addrs.length≤A.pc:=by obtain ⟨a,b,c,d,e,f,h⟩:=h; exact ⟨h.rc,h.pc⟩
end
theorem Bxs.outOf {w W W2:World} {ks:List (Nat × List Value)} {lo hi:Nat} (h:Bxs w ks W) (ho:OutOf lo hi W W2) (hw:w.heap.size≤lo) (hk:∀ e∈ks,e.1 < lo∨hi≤e.1):Bxs w ks W2 :=
 ⟨fun e he=>(h.k e he).outOf (h.z e he) ho (hk e he),h.b.trans (ho.below hw h.b.size),h.z⟩
def gwZ:List Value:=[.slice none 0 0,.slice none 0 0,.int .i64 0,.int .i64 0,.int .i64 0,.int .i64 0,.int .i64 0,.int .i64 0,.int .i64 0,.int .i64 0,.int .i64 0,.string ⟨#[]⟩,.int .i64 0,.string ⟨#[]⟩,.string ⟨#[]⟩,.int .i64 0,.slice none 0 0,.slice none 0 0,.slice none 0 0,.int .i64 0,.int .i64 0,.int .i64 0,.int .i64 0,.int .i64 0]
theorem Bxs.two {w W:World} {a b:Nat} {l m:List Value} (h1:HoldsL W a l) (h2:HoldsL W b m) (hB:Below w.heap.size w W) (z1:0 < l.length) (z2:0 < m.length):Bxs w [(a,l),(b,m)] W :=
 ⟨fun e he=>by
  simp only [List.mem_cons,List.not_mem_nil,or_false] at he;rcases he with rfl | rfl
  ·exact h1
  ·exact h2,hB,fun e he=>by
  simp only [List.mem_cons,List.not_mem_nil,or_false] at he;rcases he with rfl | rfl
  ·exact z1
  ·exact z2⟩
theorem two_keys {a b O:Nat} {l m:List Value} (ha:a < O) (hb:b < O):∀ e∈[(a,l),(b,m)],e.1 < O∨O+1≤e.1:=fun e he=>by
 simp only [List.mem_cons,List.not_mem_nil,or_false] at he;rcases he with rfl | rfl
 ·exact .inl ha
 ·exact .inl hb
theorem gwL_len (A:Ga) (g:Gw):(gwL A g).length=24:=rfl
theorem gwL_one (A:Ga) (g:Gw):(gwL A g).toArray.all (·.oneCell')=true:=all_oneCell_toArray (by unfold gwL; simp [Value.oneCell'])
theorem stor_cellsG (b:Nat):∀ (vs:List Value) (W:World) (j:Nat),stor b W j vs=W.setCells b j vs
 | [],W,j=>rfl
 | v::vs,W,j=>by
  show stor b (W.setCell ⟨b,j,none⟩ v) (j+1) vs=_;rw [stor_cellsG b vs]; rfl
theorem HoldsL.midG {W:World} {b:Nat} {olds vs:List Value} (h:HoldsL W b olds) (hl:olds.length=vs.length):HoldsL (W.setCells b 0 vs.toArray.toList) b vs:=by
 rw [List.toList_toArray,← stor_cellsG]; exact h.stor vs hl
theorem Below.midG {n b:Nat} {w W:World} (h:Below n w W) (hb:n≤b) (vs:List Value):Below n w (W.setCells b 0 vs.toArray.toList):=by
 rw [List.toList_toArray,← stor_cellsG]; exact Below.stor hb vs h
theorem outOf_stor {b:Nat} {W:World} (vs:List Value) (j:Nat):OutOf b (b+1) W (stor b W j vs):=OutOf.of_grown (grown_stor vs (World.grownBy.refl _ _)) (Nat.le_refl _) (by omega)
theorem outOf_mid {b:Nat} {W:World} (vs:List Value):OutOf b (b+1) W (W.setCells b 0 vs.toArray.toList):=by
 rw [List.toList_toArray,← stor_cellsG]; exact outOf_stor vs 0
theorem gwL_there {W:World} {b:Nat} {olds:List Value} (h:HoldsL W b olds) (hl:olds.length=24) (A:Ga) (g:Gw):W.there b 0 (gwL A g).toArray.size:=by
 have:=h.th;rw [hl] at this;exact this
theorem GwIn.outOf {lo n1 n2 b0 b1 p0 p1 l h:Nat} {w W:World} {A:Ga} {g:Gw} (H:GwIn lo n1 n2 b0 b1 p0 p1 w A g) (ho:OutOf l h w W) (hd:h≤lo∨(b1≤l∧p1≤l)):GwIn lo n1 n2 b0 b1 p0 p1 W A g:=by
 have:=H.l1; have:=H.l2; have:=H.lb; have:=H.lp; have:=H.bl; have:=H.pl2;exact ⟨H.rt.outOf ho (by omega),H.pl.outOf ho (by omega),H.bb.outOf ho (by omega),H.ps.outOf ho (by omega),H.l1,H.l2,H.lb,H.lp,H.bl,H.pl2,H.d,H.rc,H.pc⟩
def IsGw (base:Nat) (g:Gw):Value→World→Prop:=fun v w=>∃ A,v=gwC A g∧GwO base w A g
theorem stable_isGw (base:Nat) (g:Gw):Stable (IsGw base g):=fun v w w' ⟨A,h1,h2⟩ hb=>⟨A,h1,h2.kept hb⟩
theorem Bxs.midG {w W:World} {ks:List (Nat × List Value)} {X:Nat} (h:Bxs w ks W) (hb:w.heap.size≤X) (hks:∀ e∈ks,e.1≠X) (vs:List Value):Bxs w ks (W.setCells X 0 vs.toArray.toList):=by
 rw [List.toList_toArray,← stor_cellsG]; exact h.stor hb hks vs
theorem GwO.mid {lo:Nat} {w:World} {A:Ga} {g:Gw} (h:GwO lo w A g) {cs:Array Value} {T:TypeId} (vs:List Value):GwO lo ((w.alloc (.cells cs T)).setCells w.heap.size 0 vs.toArray.toList) A g:=by
 have hal:Below w.heap.size w (w.alloc (.cells cs T)):=(Below.refl _ _).alloc (Nat.le_refl _) _;have hk:Below w.heap.size w ((w.alloc (.cells cs T)).setCells w.heap.size 0 vs.toArray.toList):=Below.midG hal (Nat.le_refl _) _;exact h.kept hk
theorem gw_info:(Tryz.prog.info? 41).map (·.size)=some 24:=by kernel_rfl
open Go.ChangeShapes Go.WideShapes
theorem eqRouteS_sl (xs:List Rt) (a1 a2:Option Addr) (cap1 cap2:Nat) (w:World) (hlen:xs.length≤1048576) (h1:SlIs rtL 3 w a1 xs) (h2:SlIs rtL 3 w a2 xs) :
  Calls Tryz.prog 21 #[.slice a1 xs.length cap1,.slice a2 xs.length cap2] w fun e w'=>e=.returned (.bool true)∧Below w.heap.size w w':=by
 have H1:Hid (SlIs rtL 3 w a1 xs):=h1;have H2:Hid (SlIs rtL 3 w a2 xs):=h2;clear h1 h2;go_enter Tryz.func21,Tryz.ntmps21
 go_wp2_with fail
 go_loopw [5] (fun i wr=>∃ k:Nat,k≤xs.length∧i=.int .i64 k∧Below w.heap.size w wr) (fun i _=>xs.length-(intOf i).toNat)
 case atStart=>exact ⟨0,Nat.zero_le _,rfl,Below.refl _ _⟩
 case round =>
  obtain ⟨k,hk,rfl,hbel⟩:=hrel;have HL:Hid (Below w.heap.size w wr):=hbel;clear hbel;by_cases hlt:k < xs.length
  ·obtain ⟨b1,o1,rfl,hb1,hA⟩:=H1.out.at hlt;obtain ⟨b2,o2,rfl,hb2,hB⟩:=H2.out.at hlt;have hA:=(hA.below hb1 HL.out) k hlt;have hB:=(hB.below hb2 HL.out) k hlt;obtain ⟨q,hq⟩ : ∃ q,q=xs[k]:=⟨_,rfl⟩;rw [← hq] at hA hB;have c0:wr.cell? ⟨b1,o1+k*3,none⟩=some (.string q.addr):=hA 0 _ rfl;have c1:wr.cell? ⟨b1,o1+k*3+1,none⟩=some (.int .i64 q.bits):=hA 1 _ rfl;have c2:wr.cell? ⟨b1,o1+k*3+2,none⟩=some (.int .i64 q.hop):=hA 2 _ rfl;have d0:wr.cell? ⟨b2,o2+k*3,none⟩=some (.string q.addr):=hB 0 _ rfl;have d1:wr.cell? ⟨b2,o2+k*3+1,none⟩=some (.int .i64 q.bits):=hB 1 _ rfl;have d2:wr.cell? ⟨b2,o2+k*3+2,none⟩=some (.int .i64 q.hop):=hB 2 _ rfl;have HC:Hid (∀ W,Calls Tryz.prog 66 #[.agg #[.string q.addr,.int .i64 q.bits,.int .i64 q.hop],.agg #[.string q.addr,.int .i64 q.bits,.int .i64 q.hop]] W fun e w'=>e=.returned (.bool true)∧Below W.heap.size W w'):=fun W=>eqRoute_same q W
   clear hq hA hB;go_wp2_with fail
   go_region_with (go_at_call 66; refine (HC.out _).mono ?_; rintro e w2 ⟨rfl,q2⟩)
   all_goals
    have HL2:Hid (Below w.heap.size w w2):=HL.out.trans ((below_undrew q2).mono HL.out.size);clear q2;go_wp2_with fail
    go_roundw
    case rel=>exact ⟨k+1,by omega,by go_num,HL2.out⟩
    case measure=>simp [intOf]; omega
  ·go_wp2_with fail
   go_ret;exact ⟨rfl,HL.out⟩
end Go.Proofs.YthpopipedamciaaGreat
