import Derived.Test.YtdkepkaflielhaaGreatDoorMerged12
import Derived.ArgAppend
set_option linter.unusedVariables false
set_option linter.unusedSimpArgs false
set_option maxRecDepth 100000
set_option maxHeartbeats 8000000
namespace Go.Proofs.YtdkepkaflielhaaGreatDoor
open Go.RowKit Go.PlainAid
theorem ownT_ne {w:World} {base e1 e2 n m s1 s2:Nat} {v v2:Value} {xs ys:List Value} (h1:w.ownsRow base e1 s1 v n xs) (h2:w.ownsRow base e2 s2 v2 m ys) (hne:e1≠e2):∀ g,v.ownBlock=some g→v2.ownBlock=some g→False:=by
 intro g g1 g2;rcases h1.2 with ⟨rfl,_⟩ | ⟨g',cap,cur,rfl,_,hh,_⟩
 ·simp [Value.ownBlock] at g1
 ·rcases h2.2 with ⟨rfl,_⟩ | ⟨g'',cap2,cur2,rfl,_,hh2,_⟩
  ·simp [Value.ownBlock] at g2
  ·simp [Value.ownBlock] at g1 g2;subst g1 g2;rw [hh] at hh2;simp at hh2;exact hne hh2.2
def IsRw {α:Type} (en:α→List Value) (n base:Nat) (e:TypeId) (xs:List α):Value→World→Prop:=fun v w=>w.ownsRow base e n v xs.length (flatS en xs)
theorem stable_isRw {α:Type} (en:α→List Value) (n base:Nat) (e:TypeId) (xs:List α):Stable (IsRw en n base e xs):=fun v w w' h hb=>own_stable h hb
def IsNo (n base:Nat) (e:TypeId):Value→World→Prop:=fun v w=>∃ g,v=.slice (some ⟨g,0,none⟩) 0 0∧w.ownsRow base e n v 0 []
theorem stable_isNo (n base:Nat) (e:TypeId):Stable (IsNo n base e):=fun v w w' ⟨g,h1,h2⟩ hb=>⟨g,h1,own_stable h2 hb⟩
def CopyRet (base:Nat) (x:Bb) (e:Ending) (w:World):Prop:=∃ bv sv,e=.returned (.agg #[bv,sv])∧w.ownsRow base 48 5 bv x.binds.length (flatS bdL x.binds)∧w.ownsRow base 59 7 sv x.sess.length (flatS ssL x.sess)
def IsCp (base:Nat) (x:Bb):Value→World→Prop:=fun v w=>∃ a b c d,v=.agg (BbV a c b d x).toArray∧w.ownsRow base 48 5 (.slice a x.binds.length c) x.binds.length (flatS bdL x.binds)∧w.ownsRow base 59 7 (.slice b x.sess.length d) x.sess.length (flatS ssL x.sess)
theorem stable_isCp (base:Nat) (x:Bb):Stable (IsCp base x):=fun v w w' ⟨a,b,c,d,h1,h2,h3⟩ hb=>⟨a,b,c,d,h1,own_stable h2 hb,own_stable h3 hb⟩
theorem copyBind_all {base g0 cap:Nat} {a:Option Addr} {ty:TypeId} {xs:List Bd} {w:World} (h0:w.ownsRow base 48 5 (.slice (some ⟨g0,0,none⟩) 0 0) 0 []) (hx:SlIs bdL 5 w a xs) (hl:xs.length≤1048576) (hb:base≤w.heap.size) :
  ∃ v' w',(Builtin.append_ #[28,28] ty #[.slice (some ⟨g0,0,none⟩) 0 0,.slice a xs.length cap]).run Tryz.prog w=.ok v' w'∧w'.ownsRow base 48 5 v' xs.length (flatS bdL xs)∧Below w.heap.size w w':=by
 obtain ⟨i0,hi,hz0,hz1,hz2⟩:=info_parts Tryz.infoBd;by_cases hn:xs=[]
 ·subst hn;have hr:(Builtin.append_ #[28,28] ty #[.slice (some ⟨g0,0,none⟩) 0 0,.slice a 0 cap]).run Tryz.prog w=.ok (.slice (some ⟨g0,0,none⟩) 0 0) w:=by
   cases a with
   | none=>simp [Builtin.append_,run_underlying Tryz.underlying28,sizeOf,typeInfo,hi,Builtin.lenOf,Builtin.firstCells,storeCells]
   | some v =>
    have hr:=run_append_room_cells (P:=Tryz.prog) w 28 ty 48 i0 Tryz.underlying28 hi g0 0 0 0 v 0 cap [] (by simp) (fun j u hu=>by simp at hu) (fun u hu=>by simp at hu) (by omega) (fun j hj=>by simp at hj) (fun j hj=>by simp at hj);simpa [World.setCells] using hr
  exact ⟨_,_,hr,by simpa [flatS] using h0,Below.refl _ _⟩
 ·rcases hx with e | ⟨b,off,rfl,hbl,hx⟩
  ·exact absurd e hn
  have hpos:0 < xs.length:=List.length_pos_iff.2 hn;obtain ⟨v',w',hr,h1,h2⟩:=run_append_arg_grows (P:=Tryz.prog) w 28 ty 48 i0 _ 5 _ Tryz.underlying28 hi hz0 hz1 hz2 rfl (by decide) ⟨g0,0,none⟩ 0 0 [] (by simp) (fun j u hu=>by simp at hu) ⟨b,off,none⟩ xs.length cap (flatS bdL xs) (flatS_length bdL_length xs) (fun j u hu=>by
   rw [Addr.add_lit]; exact flatS_cells bdL_length (by omega) hx j u hu) (by omega) (by unfold maxLen; omega) (by omega)
  refine ⟨v',w',hr,?_,⟨h2.os,h2.tape,h2.output,h2.size,fun k hk=>h2.block k hk (by simp)⟩⟩;rw [Nat.zero_add,List.nil_append] at h1;refine ⟨h1.1,?_⟩;rcases h1.2 with h3 | ⟨g,c,cur,h3,h4,h5⟩
  ·exact .inl h3
  ·exact .inr ⟨g,c,cur,h3,Nat.le_trans hb h4,h5⟩
theorem copySession_all {base g0 cap:Nat} {a:Option Addr} {ty:TypeId} {xs:List Ss} {w:World} (h0:w.ownsRow base 59 7 (.slice (some ⟨g0,0,none⟩) 0 0) 0 []) (hx:SlIs ssL 7 w a xs) (hl:xs.length≤1048576) (hb:base≤w.heap.size) :
  ∃ v' w',(Builtin.append_ #[29,29] ty #[.slice (some ⟨g0,0,none⟩) 0 0,.slice a xs.length cap]).run Tryz.prog w=.ok v' w'∧w'.ownsRow base 59 7 v' xs.length (flatS ssL xs)∧Below w.heap.size w w':=by
 obtain ⟨i0,hi,hz0,hz1,hz2⟩:=info_parts Tryz.infoSs;by_cases hn:xs=[]
 ·subst hn;have hr:(Builtin.append_ #[29,29] ty #[.slice (some ⟨g0,0,none⟩) 0 0,.slice a 0 cap]).run Tryz.prog w=.ok (.slice (some ⟨g0,0,none⟩) 0 0) w:=by
   cases a with
   | none=>simp [Builtin.append_,run_underlying Tryz.underlying29,sizeOf,typeInfo,hi,Builtin.lenOf,Builtin.firstCells,storeCells]
   | some v =>
    have hr:=run_append_room_cells (P:=Tryz.prog) w 29 ty 59 i0 Tryz.underlying29 hi g0 0 0 0 v 0 cap [] (by simp) (fun j u hu=>by simp at hu) (fun u hu=>by simp at hu) (by omega) (fun j hj=>by simp at hj) (fun j hj=>by simp at hj);simpa [World.setCells] using hr
  exact ⟨_,_,hr,by simpa [flatS] using h0,Below.refl _ _⟩
 ·rcases hx with e | ⟨b,off,rfl,hbl,hx⟩
  ·exact absurd e hn
  have hpos:0 < xs.length:=List.length_pos_iff.2 hn;obtain ⟨v',w',hr,h1,h2⟩:=run_append_arg_grows (P:=Tryz.prog) w 29 ty 59 i0 _ 7 _ Tryz.underlying29 hi hz0 hz1 hz2 rfl (by decide) ⟨g0,0,none⟩ 0 0 [] (by simp) (fun j u hu=>by simp at hu) ⟨b,off,none⟩ xs.length cap (flatS ssL xs) (flatS_length ssL_length xs) (fun j u hu=>by
   rw [Addr.add_lit]; exact flatS_cells ssL_length (by omega) hx j u hu) (by omega) (by unfold maxLen; omega) (by omega)
  refine ⟨v',w',hr,?_,⟨h2.os,h2.tape,h2.output,h2.size,fun k hk=>h2.block k hk (by simp)⟩⟩;rw [Nat.zero_add,List.nil_append] at h1;refine ⟨h1.1,?_⟩;rcases h1.2 with h3 | ⟨g,c,cur,h3,h4,h5⟩
  ·exact .inl h3
  ·exact .inr ⟨g,c,cur,h3,Nat.le_trans hb h4,h5⟩
theorem rowDown {w:World} {base b0 n s:Nat} {e:TypeId} {v:Value} {xs:List Value} (h:w.ownsRow base e s v n xs) (hb:b0≤base):w.ownsRow b0 e s v n xs:=by
 refine ⟨h.1,?_⟩;rcases h.2 with h2 | ⟨g,cap,cur,h3,h4,h5⟩
 ·exact .inl h2
 ·exact .inr ⟨g,cap,cur,h3,Nat.le_trans hb h4,h5⟩
theorem spCopy_any (x:Bb) (ba bo:Option Addr) (ca cb:Nat) (w:World) (hbl1:x.binds.length≤1048576) (hbl2:x.sess.length≤1048576) (hx:BbIs w ba bo x) :
  Calls Tryz.prog 126 #[bbC ba bo ca cb x] w fun e w'=>CopyRet w.heap.size x e w'∧Below w.heap.size w w':=by
 have HZ:Hid (Below w.heap.size w ((aW w (BbV ba ca bo cb x) 31).alloc (.cells #[.slice none 0 0,.slice none 0 0] 31))):=(bR.alloc lR _).alloc (by simp) _;have HB:Hid (HoldsL ((aW w (BbV ba ca bo cb x) 31).alloc (.cells #[.slice none 0 0,.slice none 0 0] 31)) w.heap.size (BbV ba ca bo cb x)):=(HoldsL.new w (BbV ba ca bo cb x) 31).alloc _;have HR:Hid (HoldsL ((aW w (BbV ba ca bo cb x) 31).alloc (.cells #[.slice none 0 0,.slice none 0 0] 31)) (w.heap.size+1) [.slice none 0 0,.slice none 0 0]):=by
  have h:=HoldsL.new (w.alloc (.cells (BbV ba ca bo cb x).toArray 31)) [.slice none 0 0,.slice none 0 0] 31;rw [World.size_alloc] at h; exact h
 have HSX:Hid (BbIs w ba bo x):=hx;clear hx;unfold bbC;go_enter Tryz.func126,Tryz.ntmps126
 go_upto_region 1 with fail
 have hB0':w.heap.size+1 < ((aW w (BbV ba ca bo cb x) 31).alloc (.cells #[.slice none 0 0,.slice none 0 0] 31)).heap.size:=HR.out.lt (by simp);generalize World.alloc _ _=W0 at *;have hB0:w.heap.size+1 < W0.drew.heap.size:=by simpa using hB0'
 have hB1:w.heap.size≤W0.drew.heap.size:=by omega
 have HCP:Hid (∀ wy,Below W0.drew.heap.size W0.drew wy→HoldsL wy w.heap.size (BbV ba ca bo cb x)∧HoldsL wy (w.heap.size+1) [.slice none 0 0,.slice none 0 0]∧Below w.heap.size w wy):=fun wy hy=>⟨HB.out.drew.kept (by simp) hy,HR.out.drew.kept (by simp) hy,HZ.out.drew.trans (hy.mono HZ.out.size)⟩
 refine wp_region_growV [3,4,5,6,7,8,9,10,11] (by kernel_rfl) (by kernel_rfl) ?_;refine GChV.rel (n:=0) (IsNo 5 W0.drew.heap.size 48) (stable_isNo _ _ _) [IsNo 5 W0.drew.heap.size 48] rfl rfl ?_ ?_
 ·intro K' a wy ho hd hb hK;rw [wN rfl];clear hd ho;go_simp;exact hK _ _ ⟨wy.heap.size,rfl,World.ownsRow_made wy #[] 0 hb.size (by unfold maxLen; omega) rfl⟩ (bR.alloc lR _)
 iterate 2 (apply GChV.u rfl;(·intro K' a wy ho hd hb hK;simp [rAt,IsV,slot,Region.binds] at ho hd;have hld:=(HCP.out wy hb).1;have kC:=hld.c2;go_simp;(try go_bits);exact hK _ _ rfl bQ);dsimp only [nA,cA])
 refine GChV.rel (n:=3) (IsRw bdL 5 W0.drew.heap.size 48 x.binds) (stable_isRw _ _ _ _ _) [_,_,_,IsRw bdL 5 W0.drew.heap.size 48 x.binds] rfl rfl ?_ ?_
 ·intro K' a wy ho hd hb hK;rw [wN rfl];obtain ⟨g0,e0,r0⟩ : IsNo 5 W0.drew.heap.size 48 (slot a 3) wy:=hd ⟨0,.data⟩ (by simp) rfl;rw [e0] at r0;simp [slot] at e0;have q2:=hd ⟨2,.data⟩ (by simp) rfl;simp [rAt,IsV,slot] at q2;clear hd ho;obtain ⟨v2,w2,hrun,h22,h23⟩:=copyBind_all (ty:=28) (cap:=ca) r0 ((HSX.out.bd.below (HCP.out wy hb).2.2)) hbl1 hb.size;refine wp_append_run (.tmp 3) (.tmp 5) _ rfl ?_ ?_ hrun (hK _ _ h22 h23)
  ·simpa [Act.eval] using e0
  ·simpa [Act.eval] using q2
 refine GChV.rel (n:=4) (IsNo 7 W0.drew.heap.size 59) (stable_isNo _ _ _) [_,_,_,_,IsNo 7 W0.drew.heap.size 59] rfl rfl ?_ ?_
 ·intro K' a wy ho hd hb hK;rw [wN rfl];clear hd ho;go_simp;exact hK _ _ ⟨wy.heap.size,rfl,World.ownsRow_made wy #[] 0 hb.size (by unfold maxLen; omega) rfl⟩ (bR.alloc lR _)
 iterate 2 (apply GChV.u rfl;(·intro K' a wy ho hd hb hK;simp [rAt,IsV,slot,Region.binds] at ho hd;have hld:=(HCP.out wy hb).1;have kC:=hld.c2;go_simp;(try go_bits);exact hK _ _ rfl bQ);dsimp only [nA,cA])
 refine GChV.rel (n:=7) (IsRw ssL 7 W0.drew.heap.size 59 x.sess) (stable_isRw _ _ _ _ _) [_,_,_,_,_,_,_,IsRw ssL 7 W0.drew.heap.size 59 x.sess] rfl rfl ?_ ?_
 ·intro K' a wy ho hd hb hK;rw [wN rfl];obtain ⟨g4,e4,r4⟩ : IsNo 7 W0.drew.heap.size 59 (slot a 7) wy:=hd ⟨4,.data⟩ (by simp) rfl;rw [e4] at r4;simp [slot] at e4;have q6:=hd ⟨6,.data⟩ (by simp) rfl;simp [rAt,IsV,slot] at q6;clear hd ho;obtain ⟨v2,w2,hrun,h22,h23⟩:=copySession_all (ty:=29) (cap:=cb) r4 ((HSX.out.ss.below (HCP.out wy hb).2.2)) hbl2 hb.size;refine wp_append_run (.tmp 7) (.tmp 9) _ rfl ?_ ?_ hrun (hK _ _ h22 h23)
  ·simpa [Act.eval] using e4
  ·simpa [Act.eval] using q6
 refine GChV.rel (n:=8) (IsCp W0.drew.heap.size x) (stable_isCp _ _) [_,_,_,_,_,_,_,_,IsCp W0.drew.heap.size x] rfl rfl ?_ ?_
 ·intro K' a wy ho hd hb hK;rw [wN rfl];have r3:IsRw bdL 5 W0.drew.heap.size 48 x.binds (slot a 6) wy:=hd ⟨3,.data⟩ (by simp) rfl;obtain ⟨a3,c3,e3,-,-⟩:=(Row.shape bdL_length (w0:=wy) ⟨r3,Below.refl _ _⟩ : ∃ a' cap,slot a 6=.slice a' x.binds.length cap∧x.binds.length≤cap∧SlOwn bdL 5 W0.drew.heap.size wy a' x.binds);unfold IsRw at r3;rw [e3] at r3;simp [slot] at e3;have r7:IsRw ssL 7 W0.drew.heap.size 59 x.sess (slot a 10) wy:=hd ⟨7,.data⟩ (by simp) rfl;obtain ⟨a7,c7,e7,-,-⟩:=(Row.shape ssL_length (w0:=wy) ⟨r7,Below.refl _ _⟩ : ∃ a' cap,slot a 10=.slice a' x.sess.length cap∧x.sess.length≤cap∧SlOwn ssL 7 W0.drew.heap.size wy a' x.sess);unfold IsRw at r7;rw [e7] at r7;simp [slot] at e7;clear hd ho;go_simp;exact hK _ _ ⟨a3,a7,c3,c7,rfl,r3,r7⟩ bR
 intro X wz hR hz;obtain ⟨x0,x1,x2,x3,x4,x5,x6,x7,x8,-⟩:=hR;obtain ⟨g0,e0,-⟩:=x0;obtain ⟨g4,e4,-⟩:=x4;obtain ⟨oa,ob,oc,od,e8,o8,o9⟩:=x8;simp only [IsV] at x1 x2 x5 x6;simp only [putsFrom,e0,x1,x2,putsFrom,e4,x5,x6,putsFrom,e8];clear x1 x2 x5 x6;have hz0:=(HCP.out wz hz).2.1;have HBW:=(HCP.out wz hz).2.2;obtain ⟨z0,z1⟩:=hz0.c2;obtain ⟨f0,f1⟩:=hz0.f2;have HH6:Hid (HoldsL ((sW wz (w.heap.size+1) 0 (.slice oa x.binds.length oc)).setCell ⟨w.heap.size+1,1,none⟩ (.slice ob x.sess.length od)) (w.heap.size+1) (BbV oa oc ob od x)):=(hz0.set 0 _).set 1 _;have HO1:Hid (((sW wz (w.heap.size+1) 0 (.slice oa x.binds.length oc)).setCell ⟨w.heap.size+1,1,none⟩ (.slice ob x.sess.length od)).ownsRow w.heap.size 48 5 (.slice oa x.binds.length oc) x.binds.length (flatS bdL x.binds)):=rowDown (ownC_cell (ownC_cell o8 (ownC_ne o8 hB0)) (ownC_ne o8 hB0)) hB1;have HO2:Hid (((sW wz (w.heap.size+1) 0 (.slice oa x.binds.length oc)).setCell ⟨w.heap.size+1,1,none⟩ (.slice ob x.sess.length od)).ownsRow w.heap.size 59 7 (.slice ob x.sess.length od) x.sess.length (flatS ssL x.sess)):=rowDown (ownC_cell (ownC_cell o9 (ownC_ne o9 hB0)) (ownC_ne o9 hB0)) hB1;have HB6:Hid (Below w.heap.size w ((sW wz (w.heap.size+1) 0 (.slice oa x.binds.length oc)).setCell ⟨w.heap.size+1,1,none⟩ (.slice ob x.sess.length od))):=(HBW.setCell (p:=⟨w.heap.size+1,0,none⟩) (Nat.le_succ _) _).setCell (p:=⟨w.heap.size+1,1,none⟩) (Nat.le_succ _) _;clear hz0 HBW o8 o9 hz;intro K5 hK5;go_simp;refine hK5 _ _ ?_;simp only [wpSeq];go_wp2_with fail
 exact bodyPost_ret (results_mid Tryz.results126 _ _ (w.heap.size+1) (BbV oa oc ob od x) _ rfl HH6.out Tryz.underlying31 rfl (show (Tryz.prog.info? 31).map (·.size)=some 2 by kernel_rfl)) rfl ⟨⟨_,_,rfl,HO1.out,HO2.out⟩,HB6.out⟩
structure Bxs (w:World) (ks:List (Nat × List Value)) (wx:World):Prop where
 k:∀ e∈ks,HoldsL wx e.1 e.2
 b:Below w.heap.size w wx
 z:∀ e∈ks,0 < e.2.length
theorem Bxs.at {w wx:World} {ks:List (Nat × List Value)} {a:Nat} {l:List Value} (h:Bxs w ks wx) (hm:(a,l)∈ks):HoldsL wx a l:=h.k _ hm
theorem Bxs.kept {w wx wy:World} {ks:List (Nat × List Value)} (h:Bxs w ks wx) (hB:Below wx.heap.size wx wy):Bxs w ks wy:=⟨fun e he=>(h.k e he).kept (h.z e he) hB,h.b.trans (hB.mono h.b.size),h.z⟩
theorem Bxs.lts {w wx:World} {ks:List (Nat × List Value)} (h:Bxs w ks wx):∀ e∈ks,e.1 < wx.heap.size∧0 < e.2.length:=fun e he=>⟨(h.k e he).lt (h.z e he),h.z e he⟩
theorem Bxs.push {w wx:World} {ks:List (Nat × List Value)} (h:Bxs w ks wx) (vs:List Value) (hv:0 < vs.length) (T:TypeId):Bxs w ((wx.heap.size,vs)::ks) (wx.alloc (.cells vs.toArray T)):=by
 have hal:Below wx.heap.size wx (wx.alloc (.cells vs.toArray T)):=bR.alloc lR _;refine ⟨fun e he=>?_,h.b.trans (hal.mono h.b.size),fun e he=>?_⟩
 ·rcases List.mem_cons.1 he with rfl | he
  ·exact HoldsL.new wx vs T
  ·exact (h.k e he).kept (h.z e he) hal
 ·rcases List.mem_cons.1 he with rfl | he
  ·exact hv
  ·exact h.z e he
theorem Bxs.cons {w wx:World} {ks:List (Nat × List Value)} {g:Nat} {vs:List Value} (h:Bxs w ks wx) (hg:HoldsL wx g vs) (hv:0 < vs.length):Bxs w ((g,vs)::ks) wx:=⟨fun e he=>by
 rcases List.mem_cons.1 he with rfl | he
 ·exact hg
 ·exact h.k e he,h.b,fun e he=>by
 rcases List.mem_cons.1 he with rfl | he
 ·exact hv
 ·exact h.z e he⟩
def IsZy (base:Nat) (zs:List Value):Value→World→Prop:=fun v w=>∃ g,v=.pointer (some ⟨g,0,none⟩)∧base≤g∧HoldsL w g zs
theorem stable_isZy (base:Nat) (zs:List Value) (h:0 < zs.length):Stable (IsZy base zs):=fun v w w' ⟨g,h1,h2,h3⟩ hb=>⟨g,h1,h2,h3.kept h hb⟩
theorem bx1 (w : World) (l0 : List Value) (T0 : TypeId) (z0 : 0 < l0.length) : Hid (Bxs w [(w.heap.size,l0)] (w.alloc (.cells l0.toArray T0))) := by
 have e0:HoldsL (w.alloc (.cells l0.toArray T0)) (w.heap.size) l0:=by
  have h:=HoldsL.new w l0 T0
  try simp only [World.size_alloc] at h
  exact h
 refine ⟨fun e he=>?_,((Below.refl _ _).alloc (by (try simp only [World.size_alloc]); omega) _),fun e he=>?_⟩
 · simp only [List.mem_cons,List.not_mem_nil,or_false] at he
   rcases he with rfl
   · exact e0
 · simp only [List.mem_cons,List.not_mem_nil,or_false] at he
   rcases he with rfl
   · exact z0
theorem bx2 (w : World) (l0 : List Value) (T0 : TypeId) (l1 : List Value) (T1 : TypeId) (z0 : 0 < l0.length) (z1 : 0 < l1.length) : Hid (Bxs w [(w.heap.size,l0),(w.heap.size+1,l1)] ((w.alloc (.cells l0.toArray T0)).alloc (.cells l1.toArray T1))) := by
 have e0:HoldsL ((w.alloc (.cells l0.toArray T0)).alloc (.cells l1.toArray T1)) (w.heap.size) l0:=by
  have h:=HoldsL.new w l0 T0
  try simp only [World.size_alloc] at h
  exact (h.alloc _)
 have e1:HoldsL ((w.alloc (.cells l0.toArray T0)).alloc (.cells l1.toArray T1)) (w.heap.size+1) l1:=by
  have h:=HoldsL.new (w.alloc (.cells l0.toArray T0)) l1 T1
  try simp only [World.size_alloc] at h
  exact h
 refine ⟨fun e he=>?_,(((Below.refl _ _).alloc (by (try simp only [World.size_alloc]); omega) _).alloc (by (try simp only [World.size_alloc]); omega) _),fun e he=>?_⟩
 · simp only [List.mem_cons,List.not_mem_nil,or_false] at he
   rcases he with rfl | rfl
   · exact e0
   · exact e1
 · simp only [List.mem_cons,List.not_mem_nil,or_false] at he
   rcases he with rfl | rfl
   · exact z0
   · exact z1
theorem bx3 (w : World) (l0 : List Value) (T0 : TypeId) (l1 : List Value) (T1 : TypeId) (l2 : List Value) (T2 : TypeId) (z0 : 0 < l0.length) (z1 : 0 < l1.length) (z2 : 0 < l2.length) : Hid (Bxs w [(w.heap.size,l0),(w.heap.size+1,l1),(w.heap.size+1+1,l2)] (((w.alloc (.cells l0.toArray T0)).alloc (.cells l1.toArray T1)).alloc (.cells l2.toArray T2))) := by
 have e0:HoldsL (((w.alloc (.cells l0.toArray T0)).alloc (.cells l1.toArray T1)).alloc (.cells l2.toArray T2)) (w.heap.size) l0:=by
  have h:=HoldsL.new w l0 T0
  try simp only [World.size_alloc] at h
  exact ((h.alloc _).alloc _)
 have e1:HoldsL (((w.alloc (.cells l0.toArray T0)).alloc (.cells l1.toArray T1)).alloc (.cells l2.toArray T2)) (w.heap.size+1) l1:=by
  have h:=HoldsL.new (w.alloc (.cells l0.toArray T0)) l1 T1
  try simp only [World.size_alloc] at h
  exact (h.alloc _)
 have e2:HoldsL (((w.alloc (.cells l0.toArray T0)).alloc (.cells l1.toArray T1)).alloc (.cells l2.toArray T2)) (w.heap.size+1+1) l2:=by
  have h:=HoldsL.new ((w.alloc (.cells l0.toArray T0)).alloc (.cells l1.toArray T1)) l2 T2
  try simp only [World.size_alloc] at h
  exact h
 refine ⟨fun e he=>?_,((((Below.refl _ _).alloc (by (try simp only [World.size_alloc]); omega) _).alloc (by (try simp only [World.size_alloc]); omega) _).alloc (by (try simp only [World.size_alloc]); omega) _),fun e he=>?_⟩
 · simp only [List.mem_cons,List.not_mem_nil,or_false] at he
   rcases he with rfl | rfl | rfl
   · exact e0
   · exact e1
   · exact e2
 · simp only [List.mem_cons,List.not_mem_nil,or_false] at he
   rcases he with rfl | rfl | rfl
   · exact z0
   · exact z1
   · exact z2
structure RowsO (w:World) (base O:Nat) (ks:List (Nat × List Value)) (bv sv:Value) (ys:List Bd) (zs:List Ss) (wx:World):Prop where
 o:HoldsL wx O [bv,sv]
 bo:wx.ownsRow base 48 5 bv ys.length (flatS bdL ys)
 so:wx.ownsRow base 59 7 sv zs.length (flatS ssL zs)
 ne:∀ g,bv.ownBlock=some g→sv.ownBlock=some g→False
 b:Below w.heap.size w wx
 k:∀ e∈ks,HoldsL wx e.1 e.2
 lo:w.heap.size≤O
 hi:bv.ownBlock≠some O∧sv.ownBlock≠some O
 wb:w.heap.size≤base
 hb:base≤wx.heap.size
 kb:∀ e∈ks,e.1 < base∧e.1≠O∧0 < e.2.length
section
variable {w:World} {base O:Nat} {ks:List (Nat × List Value)} {bv sv:Value} {ys:List Bd} {zs:List Ss} {wx wy:World}
theorem RowsO.at {a:Nat} {l:List Value} (h:RowsO w base O ks bv sv ys zs wx) (hm:(a,l)∈ks):HoldsL wx a l:=h.k _ hm
theorem RowsO.kept (h:RowsO w base O ks bv sv ys zs wx) (hB:Below wx.heap.size wx wy):RowsO w base O ks bv sv ys zs wy :=
 ⟨h.o.kept (by simp) hB,own_stable h.bo hB,own_stable h.so hB,h.ne,h.b.trans (hB.mono h.b.size),fun e he=>(h.k e he).kept (h.kb e he).2.2 hB,h.lo,h.hi,h.wb,Nat.le_trans h.hb hB.size,h.kb⟩
theorem RowsO.make {w w5:World} {base:Nat} {ks:List (Nat × List Value)} {bv sv:Value} {x:Bb} (hwb:w.heap.size≤base) (hb:Below w.heap.size w w5) (h1:w5.ownsRow base 48 5 bv x.binds.length (flatS bdL x.binds)) (h2:w5.ownsRow base 59 7 sv x.sess.length (flatS ssL x.sess)) (hk:∀ e∈ks,HoldsL w5 e.1 e.2) (hkb:∀ e∈ks,e.1 < base∧0 < e.2.length) (hbs:base≤w5.heap.size) :
  RowsO w base w5.heap.size ks bv sv x.binds x.sess (w5.alloc (.cells #[bv,sv] 31)):=by
 have n1:bv.ownBlock≠some w5.heap.size:=fun e=>by have:=(ownC_in h1 e).2; omega
 have n2:sv.ownBlock≠some w5.heap.size:=fun e=>by have:=(ownC_in h2 e).2; omega
 have hal:Below w5.heap.size w5 (w5.alloc (.cells #[bv,sv] 31)):=bR.alloc lR _;have hlo:=Nat.le_trans hwb hbs;refine ⟨HoldsL.new w5 [bv,sv] 31,own_stable h1 hal,own_stable h2 hal,ownT_ne h1 h2 (by decide),hb.trans (hal.mono hlo),fun e he=>(hk e he).kept (hkb e he).2 hal,hlo,⟨n1,n2⟩,hwb,?_,fun e he=>⟨(hkb e he).1,?_,(hkb e he).2⟩⟩
 ·simp; omega
 ·have:=(hkb e he).1;omega
theorem RowsO.appS (h:RowsO w base O ks bv sv ys zs wx) (q:Ss) (g:Nat) (hg:HoldsL wx g (ssL q)) (hlen:zs.length≤1048576) :
  ∃ v6 w6,(Builtin.append_ #[29,29] 29 #[sv,.slice (some ⟨g,0,none⟩) 1 1]).run Tryz.prog wx=.ok v6 w6∧(∃ gg l c,v6=.slice (some ⟨gg,0,none⟩) l c)∧HoldsL w6 O [bv,sv]∧RowsO w base O ks bv v6 ys (zs++[q]) (w6.setCell ⟨O,1,none⟩ v6):=by
 obtain ⟨i0,hi,hz0,hz1,hz2⟩:=info_parts Tryz.infoSs;have hOl:O < wx.heap.size:=h.o.lt (by simp);have hwb:=h.wb;have hlo:=h.lo;have hbb:=h.hb;obtain ⟨v6,w6,hrun,h62,h63,h64,h65⟩:=run_append_own_at (P:=Tryz.prog) wx base 29 29 59 i0 _ 7 _ Tryz.underlying29 hi hz0 hz1 hz2 rfl (by decide) sv _ _ h.so ⟨g,0,none⟩ 1 1 (ssL q) rfl (fun i u hu=>by rw [add_at]; exact hg.cell hu) (ssL_one q) (by unfold maxLen; omega) (by omega) h.hb;have hnr:∀ X,X < base→some X≠sv.ownBlock:=fun X hX e=>ownC_ne h.so hX e.symm
 have n6:v6.ownBlock≠some O:=by
  rcases h65 with h7 | h7<;>rw [h7]
  ·exact h.hi.2
  ·intro e; injection e with e; omega
 have hO:=h.o.grown (by simp) h63 (fun e=>h.hi.2 e.symm);have hne:∀ g,bv.ownBlock=some g→v6.ownBlock=some g→False:=by
  intro g e1 e2;rcases h65 with h7 | h7
  ·exact h.ne g e1 (h7 ▸ e2)
  ·rw [h7] at e2;injection e2 with e3
   have:=(ownC_in h.bo e1).2;omega
 have hold:=World.ownsRow.kept h.bo h63 (by
  by_cases e:bv.ownBlock=none
  ·exact .inl e
  ·refine .inr (fun e2=>?_);obtain ⟨k,hk⟩:=Option.ne_none_iff_exists'.1 e;exact h.ne k hk (e2 ▸ hk))
 have hsz:base≤(w6.setCell ⟨O,1,none⟩ v6).heap.size:=by simp; exact Nat.le_trans h.hb h63.size
 refine ⟨v6,w6,hrun,?_,hO,hO.set 1 v6,ownC_cell hold h.hi.1,ownC_cell (by rw [flatS_snoc,List.length_append]; exact h62) n6,hne,(below_grow h.b h63 (fun k e=>by have:=(ownC_in h.so e).1; omega)).setCell (p:=⟨O,1,none⟩) hlo v6,fun e he=>((h.k e he).grown (h.kb e he).2.2 h63 (hnr _ (h.kb e he).1)).setOther (h.kb e he).2.1 v6,h.lo,⟨h.hi.1,n6⟩,h.wb,hsz,h.kb⟩;rcases h62.2 with ⟨_,h0⟩ | ⟨gg,c6,_,h6,_⟩
 ·simp at h0
 ·exact ⟨gg,_,c6,h6⟩
theorem RowsO.appB (h:RowsO w base O ks bv sv ys zs wx) (q:Bd) (g:Nat) (hg:HoldsL wx g (bdL q)) (hlen:ys.length≤1048576) :
  ∃ v6 w6,(Builtin.append_ #[28,28] 28 #[bv,.slice (some ⟨g,0,none⟩) 1 1]).run Tryz.prog wx=.ok v6 w6∧(∃ gg l c,v6=.slice (some ⟨gg,0,none⟩) l c)∧HoldsL w6 O [bv,sv]∧RowsO w base O ks v6 sv (ys++[q]) zs (w6.setCell ⟨O,0,none⟩ v6):=by
 obtain ⟨i0,hi,hz0,hz1,hz2⟩:=info_parts Tryz.infoBd;have hOl:O < wx.heap.size:=h.o.lt (by simp);have hwb:=h.wb;have hlo:=h.lo;have hbb:=h.hb;obtain ⟨v6,w6,hrun,h62,h63,h64,h65⟩:=run_append_own_at (P:=Tryz.prog) wx base 28 28 48 i0 _ 5 _ Tryz.underlying28 hi hz0 hz1 hz2 rfl (by decide) bv _ _ h.bo ⟨g,0,none⟩ 1 1 (bdL q) rfl (fun i u hu=>by rw [add_at]; exact hg.cell hu) (bdL_one q) (by unfold maxLen; omega) (by omega) h.hb;have hnr:∀ X,X < base→some X≠bv.ownBlock:=fun X hX e=>ownC_ne h.bo hX e.symm
 have n6:v6.ownBlock≠some O:=by
  rcases h65 with h7 | h7<;>rw [h7]
  ·exact h.hi.1
  ·intro e; injection e with e; omega
 have hO:=h.o.grown (by simp) h63 (fun e=>h.hi.1 e.symm);have hne:∀ g,v6.ownBlock=some g→sv.ownBlock=some g→False:=by
  intro g e1 e2;rcases h65 with h7 | h7
  ·exact h.ne g (h7 ▸ e1) e2
  ·rw [h7] at e1;injection e1 with e3
   have:=(ownC_in h.so e2).2;omega
 have hold:=World.ownsRow.kept h.so h63 (by
  by_cases e:sv.ownBlock=none
  ·exact .inl e
  ·refine .inr (fun e2=>?_);obtain ⟨k,hk⟩:=Option.ne_none_iff_exists'.1 e;exact h.ne k (e2 ▸ hk) hk)
 have hsz:base≤(w6.setCell ⟨O,0,none⟩ v6).heap.size:=by simp; exact Nat.le_trans h.hb h63.size
 refine ⟨v6,w6,hrun,?_,hO,hO.set 0 v6,ownC_cell (by rw [flatS_snoc,List.length_append]; exact h62) n6,ownC_cell hold h.hi.2,hne,(below_grow h.b h63 (fun k e=>by have:=(ownC_in h.bo e).1; omega)).setCell (p:=⟨O,0,none⟩) hlo v6,fun e he=>((h.k e he).grown (h.kb e he).2.2 h63 (hnr _ (h.kb e he).1)).setOther (h.kb e he).2.1 v6,h.lo,⟨n6,h.hi.2⟩,h.wb,hsz,h.kb⟩;rcases h62.2 with ⟨_,h0⟩ | ⟨gg,c6,_,h6,_⟩
 ·simp at h0
 ·exact ⟨gg,_,c6,h6⟩
theorem RowsO.shapes (h:RowsO w base O ks bv sv ys zs wx):(∃ a cap,bv=.slice a ys.length cap∧ys.length≤cap∧SlOwn bdL 5 base wx a ys)∧∃ a cap,sv=.slice a zs.length cap∧zs.length≤cap∧SlOwn ssL 7 base wx a zs :=
 ⟨Row.shape bdL_length (w0:=wx) ⟨h.bo,Below.refl _ _⟩,Row.shape ssL_length (w0:=wx) ⟨h.so,Below.refl _ _⟩⟩
end
theorem trackLife_in (l:Lv) (proto st:Int):0≤trackLifeV l proto st∧trackLifeV l proto st≤10000:=by
 unfold trackLifeV
 cases h:livesOk l with
 | false=>simp
 | true =>
  unfold livesOk isIn at h;simp only [Bool.and_eq_true,decide_eq_true_iff] at h;simp only [Bool.true_eq_false,if_false];(repeat' split)<;>omega
theorem flatS_set {α:Type} {en:α→List Value} {n:Nat} (hn:∀ x,(en x).length=n) (j:Nat) (hj:j < n) (v:Value):∀ (xs:List α) (i:Nat) (hi:i < xs.length) (y:α),en y=(en xs[i]).set j v→flatS en (xs.set i y)=(flatS en xs).set (i*n+j) v
 | [],i,hi,y,_=>by simp at hi
 | x::xs,0,hi,y,hy=>by
  simp only [List.getElem_cons_zero] at hy;simp only [List.set_cons_zero,flatS,Nat.zero_mul,Nat.zero_add,List.flatMap_cons];rw [hy,List.set_append_left _ _ (by rw [hn]; exact hj)]
 | x::xs,i+1,hi,y,hy=>by
  simp only [List.getElem_cons_succ] at hy;have ih:=flatS_set hn j hj v xs i (by simpa using hi) y hy;unfold flatS at ih ⊢;simp only [List.set_cons_succ,List.flatMap_cons];have hm:(i+1)*n=n+i*n:=by rw [Nat.succ_mul]; omega
  rw [ih,List.set_append_right _ _ (by rw [hn]; omega),hn];congr 2
  omega
theorem own_set {w:World} {base e s n g cap:Nat} {xs:List Value} (h:w.ownsRow base e s (.slice (some ⟨g,0,none⟩) n cap) n xs) (j:Nat) (hj:j < xs.length) (u:Value):(w.setCell ⟨g,j,none⟩ u).ownsRow base e s (.slice (some ⟨g,0,none⟩) n cap) n (xs.set j u):=by
 obtain ⟨h1,h2⟩:=h;refine ⟨by rw [List.length_set]; exact h1,?_⟩;rcases h2 with ⟨e1,_⟩ | ⟨g',cap',cur,e1,hb,hh,hnc,hcm,hcs,hcur⟩
 ·cases e1
 ·injection e1 with i1 i2 i3
  injection i1 with i1
  injection i1 with i1
  subst i1 i3;refine .inr ⟨g,cap,cur.setIfInBounds j u,rfl,hb,?_,hnc,hcm,by rw [Array.size_setIfInBounds]; exact hcs,?_⟩
  ·show (w.heap.modify g _)[g]?=_;rw [Array.getElem?_modify,if_pos rfl,hh];rfl
  ·rw [Array.toList_setIfInBounds,List.take_set,hcur]
theorem set_self {xs:List Value} {j:Nat} {v:Value} (h:xs[j]?=some v):xs.set j v=xs:=by
 obtain ⟨hj,rfl⟩:=List.getElem?_eq_some_iff.1 h;exact List.set_getElem_self hj
theorem own_free {w:World} {base e s n m g cap:Nat} {xs:List Value} (h:w.ownsRow base e s (.slice (some ⟨g,0,none⟩) n cap) m xs) (j:Nat):w.frozen? ⟨g,j,none⟩=false:=by
 rcases h.2 with ⟨e1,_⟩ | ⟨g',cap',cur,e1,hb,hh,_⟩
 ·cases e1
 ·injection e1 with i1 i2 i3
  injection i1 with i1
  injection i1 with i1
  subst i1;unfold World.frozen?;simp [hh]
theorem own_at {w:World} {base e n m g cap:Nat} {xs:List Ss} (h:w.ownsRow base e 7 (.slice (some ⟨g,0,none⟩) n cap) m (flatS ssL xs)) (hnm:n=m) (i:Nat) (hi:i < xs.length) (j:Nat) (v:Value) (hv:(ssL xs[i])[j]?=some v):w.cell? ⟨g,i*7+j,none⟩=some v:=by
 subst hnm;have hl:=flatS_length ssL_length xs;have hj:j < 7:=by have:=(List.getElem?_eq_some_iff.1 hv).1; rwa [ssL_length] at this
 have hn:=h.1;rw [hl] at hn;have hnl:n=xs.length:=by omega
 rw [World.ownsRow.cellAt h _ (by rw [hnl]; omega)];have hs:=flatS_set ssL_length j hj v xs i hi xs[i] (by rw [set_self hv]);rw [List.set_getElem_self] at hs;rw [hs,List.getElem?_set_self (by rw [hl]; omega)]
theorem RowsO.setS {w:World} {base O g cs n:Nat} {ks:List (Nat × List Value)} {bv:Value} {ys:List Bd} {zs:List Ss} {wx:World} (h:RowsO w base O ks bv (.slice (some ⟨g,0,none⟩) n cs) ys zs wx) (hnz:n=zs.length) (i:Nat) (hi:i < zs.length) (j:Nat) (hj:j < 7) (v:Value) (y:Ss) (hy:ssL y=(ssL zs[i]).set j v):RowsO w base O ks bv (.slice (some ⟨g,0,none⟩) n cs) ys (zs.set i y) (wx.setCell ⟨g,i*7+j,none⟩ v):=by
 subst hnz;have hO:O≠g:=fun e=>h.hi.2 (by rw [e]; rfl)
 have hg:=(ownC_in h.so (g:=g) rfl).1;have hbv:bv.ownBlock≠some g:=fun e=>h.ne g e rfl
 have hwb:=h.wb;refine ⟨h.o.setOther hO _,ownC_cell h.bo hbv,?_,h.ne,h.b.setCell (p:=⟨g,i*7+j,none⟩) (by show w.heap.size≤g; omega) v,fun e he=>(h.k e he).setOther (by have:=(h.kb e he).1; omega) _,h.lo,h.hi,h.wb,by simpa using h.hb,h.kb⟩;rw [List.length_set,flatS_set ssL_length j hj v zs i hi y hy];exact own_set h.so _ (by rw [flatS_length ssL_length]; omega) v
theorem idx_some {α:Type} {f:α→Bool} {xs:List α} {i:Nat} (h:xs.findIdx? f=some i):∃ hi:i < xs.length,xs.find? f=some xs[i]:=by
 obtain ⟨hi,hf,hn⟩:=List.findIdx?_eq_some_iff_getElem.1 h;refine ⟨hi,find_at hi ?_ hf⟩;rw [List.find?_eq_none];intro y hy;obtain ⟨k,hk,rfl⟩:=List.getElem_of_mem hy;rw [List.length_take] at hk;rw [List.getElem_take];exact hn k (by omega)
theorem idx_none {α:Type} {f:α→Bool} {xs:List α} (h:xs.findIdx? f=none):xs.find? f=none:=by
 rw [List.find?_eq_none];intro y hy;have:=List.findIdx?_eq_none_iff.1 h y hy;simp [this]
end Go.Proofs.YtdkepkaflielhaaGreatDoor
