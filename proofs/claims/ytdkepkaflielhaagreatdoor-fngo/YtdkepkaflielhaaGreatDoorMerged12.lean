import Derived.Test.YtdkepkaflielhaaGreatDoorMerged11
import Derived.ArgAppend
set_option linter.unusedVariables false
set_option linter.unusedSimpArgs false
set_option maxRecDepth 100000
set_option maxHeartbeats 8000000
namespace Go.Proofs.YtdkepkaflielhaaGreatDoor
open Go.RowKit Go.PlainAid
theorem sO{w:World}{base e1 e2 n m s1 s2:Nat}{v v2:Value}{xs ys:List Value}(h1:w.ownsRow base e1 s1 v n xs)(h2:w.ownsRow base e2 s2 v2 m ys)(hne:e1≠e2):∀g,v.ownBlock=some g→v2.ownBlock=some g→False:=by
 intro g g1 g2;rcases h1.2 with ⟨rfl,_⟩|⟨g',cap,cur,rfl,_,hh,_⟩
 ·simp[Value.ownBlock]at g1
 ·rcases h2.2 with ⟨rfl,_⟩ | ⟨g'',cap2,cur2,rfl,_,hh2,_⟩
  ·simp[Value.ownBlock]at g2
  ·simp[Value.ownBlock]at g1 g2;subst g1 g2;rw[hh]at hh2;simp at hh2;exact hne hh2.2
def zD{α:Type}(en:α→List Value)(n base:Nat)(e:TypeId)(xs:List α):Value→World→Prop:=fun v w=>w.ownsRow base e n v xs.length (dK en xs)
theorem uN{α:Type}(en:α→List Value)(n base:Nat)(e:TypeId)(xs:List α):eZ (zD en n base e xs):=fun v w w' h hb=>fX h hb
def EZ(n base:Nat)(e:TypeId):Value→World→Prop:=fun v w=>∃g,v=.slice (some ⟨g,0,none⟩) 0 0∧w.ownsRow base e n v 0 []
theorem uM(n base:Nat)(e:TypeId):eZ (EZ n base e):=fun v w w' ⟨g,h1,h2⟩ hb=>⟨g,h1,fX h2 hb⟩
def oA(base:Nat)(x:Bb)(e:Ending)(w:World):Prop:=∃bv sv,e=.returned (.agg #[bv,sv])∧w.ownsRow base 48 5 bv x.VC.length (dK eG x.VC)∧w.ownsRow base 59 7 sv x.UZ.length (dK fY x.UZ)
def PV(base:Nat)(x:Bb):Value→World→Prop:=fun v w=>∃a b c d,v=.agg (bF a c b d x).toArray∧w.ownsRow base 48 5 (.slice a x.VC.length c) x.VC.length (dK eG x.VC)∧w.ownsRow base 59 7 (.slice b x.UZ.length d) x.UZ.length (dK fY x.UZ)
theorem EI(base:Nat)(x:Bb):eZ (PV base x):=fun v w w' ⟨a,b,c,d,h1,h2,h3⟩ hb=>⟨a,b,c,d,h1,fX h2 hb,fX h3 hb⟩
theorem zM{base g0 cap:Nat}{a:OA}{ty:TypeId}{xs:List Bd}{w:World}(h0:w.ownsRow base 48 5 (.slice (some ⟨g0,0,none⟩) 0 0) 0 [])(hx:bP eG 5 w a xs)(hl:xs.length≤1048576)(hb:base≤w.heap.size) :
  ∃v' w',(Builtin.append_ #[28,28] ty #[.slice (some ⟨g0,0,none⟩) 0 0,.slice a xs.length cap]).run Tryz.prog w=.ok v' w'∧w'.ownsRow base 48 5 v' xs.length (dK eG xs)∧Below w.heap.size w w':=by
 obtain⟨i0,hi,hz0,hz1,hz2⟩:=info_parts Tryz.infoBd;by_cases hn:xs=[]
 ·subst hn;have hr:(Builtin.append_ #[28,28] ty #[.slice (some ⟨g0,0,none⟩) 0 0,.slice a 0 cap]).run Tryz.prog w=.ok (.slice (some ⟨g0,0,none⟩) 0 0) w:=by
   cases a with
   | none=>simp[Builtin.append_,run_underlying Tryz.underlying28,sizeOf,typeInfo,hi,Builtin.lenOf,Builtin.firstCells,storeCells]
   | some v=>
    have hr:=run_append_room_cells (P:=Tryz.prog) w 28 ty 48 i0 Tryz.underlying28 hi g0 0 0 0 v 0 cap [] (by simp) (fun j u hu=>by simp at hu) (fun u hu=>by simp at hu) (by omega) (fun j hj=>by simp at hj) (fun j hj=>by simp at hj);simpa[World.setCells] using hr
  exact⟨_,_,hr,by simpa[dK] using h0,Below.refl _ _⟩
 ·rcases hx with e | ⟨b,off,rfl,hbl,hx⟩
  ·exact absurd e hn
  have hpos:0 < xs.length:=List.length_pos_iff.2 hn;obtain⟨v',w',hr,h1,h2⟩:=run_append_arg_grows (P:=Tryz.prog) w 28 ty 48 i0 _ 5 _ Tryz.underlying28 hi hz0 hz1 hz2 rfl (by decide) ⟨g0,0,none⟩ 0 0 [] (by simp) (fun j u hu=>by simp at hu) ⟨b,off,none⟩ xs.length cap (dK eG xs) (fP eC xs) (fun j u hu=>by
   rw[Addr.add_lit];exact pK eC (by omega) hx j u hu) (by omega) (by unfold maxLen;omega) (by omega)
  refine⟨v',w',hr,?_,⟨h2.os,h2.tape,h2.output,h2.size,fun k hk=>h2.block k hk (by simp)⟩⟩;rw[TX,UB]at h1;refine⟨h1.1,?_⟩;rcases h1.2 with h3|⟨g,c,cur,h3,h4,h5⟩
  ·exact .inl h3
  ·exact .inr ⟨g,c,cur,h3,UA hb h4,h5⟩
theorem uU{base g0 cap:Nat}{a:OA}{ty:TypeId}{xs:List Ss}{w:World}(h0:w.ownsRow base 59 7 (.slice (some ⟨g0,0,none⟩) 0 0) 0 [])(hx:bP fY 7 w a xs)(hl:xs.length≤1048576)(hb:base≤w.heap.size) :
  ∃v' w',(Builtin.append_ #[29,29] ty #[.slice (some ⟨g0,0,none⟩) 0 0,.slice a xs.length cap]).run Tryz.prog w=.ok v' w'∧w'.ownsRow base 59 7 v' xs.length (dK fY xs)∧Below w.heap.size w w':=by
 obtain⟨i0,hi,hz0,hz1,hz2⟩:=info_parts Tryz.infoSs;by_cases hn:xs=[]
 ·subst hn;have hr:(Builtin.append_ #[29,29] ty #[.slice (some ⟨g0,0,none⟩) 0 0,.slice a 0 cap]).run Tryz.prog w=.ok (.slice (some ⟨g0,0,none⟩) 0 0) w:=by
   cases a with
   | none=>simp[Builtin.append_,run_underlying Tryz.underlying29,sizeOf,typeInfo,hi,Builtin.lenOf,Builtin.firstCells,storeCells]
   | some v=>
    have hr:=run_append_room_cells (P:=Tryz.prog) w 29 ty 59 i0 Tryz.underlying29 hi g0 0 0 0 v 0 cap [] (by simp) (fun j u hu=>by simp at hu) (fun u hu=>by simp at hu) (by omega) (fun j hj=>by simp at hj) (fun j hj=>by simp at hj);simpa[World.setCells] using hr
  exact⟨_,_,hr,by simpa[dK] using h0,Below.refl _ _⟩
 ·rcases hx with e | ⟨b,off,rfl,hbl,hx⟩
  ·exact absurd e hn
  have hpos:0 < xs.length:=List.length_pos_iff.2 hn;obtain⟨v',w',hr,h1,h2⟩:=run_append_arg_grows (P:=Tryz.prog) w 29 ty 59 i0 _ 7 _ Tryz.underlying29 hi hz0 hz1 hz2 rfl (by decide) ⟨g0,0,none⟩ 0 0 [] (by simp) (fun j u hu=>by simp at hu) ⟨b,off,none⟩ xs.length cap (dK fY xs) (fP eE xs) (fun j u hu=>by
   rw[Addr.add_lit];exact pK eE (by omega) hx j u hu) (by omega) (by unfold maxLen;omega) (by omega)
  refine⟨v',w',hr,?_,⟨h2.os,h2.tape,h2.output,h2.size,fun k hk=>h2.block k hk (by simp)⟩⟩;rw[TX,UB]at h1;refine⟨h1.1,?_⟩;rcases h1.2 with h3|⟨g,c,cur,h3,h4,h5⟩
  ·exact .inl h3
  ·exact .inr ⟨g,c,cur,h3,UA hb h4,h5⟩
theorem uZ{w:World}{base b0 n s:Nat}{e:TypeId}{v:Value}{xs:List Value}(h:w.ownsRow base e s v n xs)(hb:b0≤base):w.ownsRow b0 e s v n xs:=by
 refine⟨h.1,?_⟩;rcases h.2 with h2|⟨g,cap,cur,h3,h4,h5⟩
 ·exact .inl h2
 ·exact .inr ⟨g,cap,cur,h3,UA hb h4,h5⟩
theorem rQ(x:Bb)(ba bo:OA)(ca cb:Nat)(w:World)(hbl1:x.VC.length≤1048576)(hbl2:x.UZ.length≤1048576)(hx:dI w ba bo x) :
  Calls Tryz.prog 126 #[iQ ba bo ca cb x] w fun e w'=>oA w.heap.size x e w'∧Below w.heap.size w w':=by
 have HZ:Hid (Below w.heap.size w ((aW w (bF ba ca bo cb x) 31).alloc (.cells #[.slice none 0 0,.slice none 0 0] 31))):=(bR.alloc lR _).alloc (by simp) _;have HB:Hid (aA ((aW w (bF ba ca bo cb x) 31).alloc (.cells #[.slice none 0 0,.slice none 0 0] 31)) w.heap.size (bF ba ca bo cb x)):=(aA.new w (bF ba ca bo cb x) 31).alloc _;have HR:Hid (aA ((aW w (bF ba ca bo cb x) 31).alloc (.cells #[.slice none 0 0,.slice none 0 0] 31)) (w.heap.size+1) [.slice none 0 0,.slice none 0 0]):=by
  have h:=aA.new (w.alloc (.cells (bF ba ca bo cb x).toArray 31)) [.slice none 0 0,.slice none 0 0] 31;rw[TQ]at h;exact h
 have HSX:Hid (dI w ba bo x):=hx;clear hx;unfold iQ;go_enter Tryz.func126,Tryz.ntmps126
 go_upto_region 1 with fail
 have hB0':w.heap.size+1 < ((aW w (bF ba ca bo cb x) 31).alloc (.cells #[.slice none 0 0,.slice none 0 0] 31)).heap.size:=HR.out.lt (by simp);generalize World.alloc _ _=W0 at *;have hB0:w.heap.size+1 < W0.drew.heap.size:=by simpa using hB0'
 have hB1:w.heap.size≤W0.drew.heap.size:=by omega
 have HCP:Hid (∀wy,Below W0.drew.heap.size W0.drew wy→aA wy w.heap.size (bF ba ca bo cb x)∧aA wy (w.heap.size+1) [.slice none 0 0,.slice none 0 0]∧Below w.heap.size w wy):=fun wy hy=>⟨HB.out.drew.kept (by simp) hy,HR.out.drew.kept (by simp) hy,HZ.out.drew.trans (hy.mono HZ.out.size)⟩
 refine aN [3,4,5,6,7,8,9,10,11] (by kernel_rfl) (by kernel_rfl) ?_;refine bC.rel (n:=0) (EZ 5 W0.drew.heap.size 48) (uM _ _ _) [EZ 5 W0.drew.heap.size 48] rfl rfl ?_ ?_
 ·intro K' a wy ho hd hb hK;rw[wN rfl];clear hd ho;go_simp;exact hK _ _ ⟨wy.heap.size,rfl,World.ownsRow_made wy #[] 0 hb.size (by unfold maxLen;omega) rfl⟩ (bR.alloc lR _)
 iterate 2 (apply bC.u rfl;(·intro K' a wy ho hd hb hK;simp[aS,aF,aD,Region.binds]at ho hd;have hld:=(HCP.out wy hb).1;have kC:=hld.c2;go_simp;(try go_bits);exact hK _ _ rfl bQ);dsimp only[nA,cA])
 refine bC.rel (n:=3) (zD eG 5 W0.drew.heap.size 48 x.VC) (uN _ _ _ _ _) [_,_,_,zD eG 5 W0.drew.heap.size 48 x.VC] rfl rfl ?_ ?_
 ·intro K' a wy ho hd hb hK;rw[wN rfl];obtain⟨g0,e0,r0⟩: EZ 5 W0.drew.heap.size 48 (aD a 3) wy:=hd ⟨0,.data⟩ (by simp) rfl;rw[e0]at r0;simp[aD]at e0;have q2:=hd ⟨2,.data⟩ (by simp) rfl;simp[aS,aF,aD]at q2;clear hd ho;obtain⟨v2,w2,hrun,h22,h23⟩:=zM (ty:=28) (cap:=ca) r0 ((HSX.out.bd.below (HCP.out wy hb).2.2)) hbl1 hb.size;refine dC (.tmp 3) (.tmp 5) _ rfl ?_ ?_ hrun (hK _ _ h22 h23)
  ·simpa[Act.eval] using e0
  ·simpa[Act.eval] using q2
 refine bC.rel (n:=4) (EZ 7 W0.drew.heap.size 59) (uM _ _ _) [_,_,_,_,EZ 7 W0.drew.heap.size 59] rfl rfl ?_ ?_
 ·intro K' a wy ho hd hb hK;rw[wN rfl];clear hd ho;go_simp;exact hK _ _ ⟨wy.heap.size,rfl,World.ownsRow_made wy #[] 0 hb.size (by unfold maxLen;omega) rfl⟩ (bR.alloc lR _)
 iterate 2 (apply bC.u rfl;(·intro K' a wy ho hd hb hK;simp[aS,aF,aD,Region.binds]at ho hd;have hld:=(HCP.out wy hb).1;have kC:=hld.c2;go_simp;(try go_bits);exact hK _ _ rfl bQ);dsimp only[nA,cA])
 refine bC.rel (n:=7) (zD fY 7 W0.drew.heap.size 59 x.UZ) (uN _ _ _ _ _) [_,_,_,_,_,_,_,zD fY 7 W0.drew.heap.size 59 x.UZ] rfl rfl ?_ ?_
 ·intro K' a wy ho hd hb hK;rw[wN rfl];obtain⟨g4,e4,r4⟩: EZ 7 W0.drew.heap.size 59 (aD a 7) wy:=hd ⟨4,.data⟩ (by simp) rfl;rw[e4]at r4;simp[aD]at e4;have q6:=hd ⟨6,.data⟩ (by simp) rfl;simp[aS,aF,aD]at q6;clear hd ho;obtain⟨v2,w2,hrun,h22,h23⟩:=uU (ty:=29) (cap:=cb) r4 ((HSX.out.ss.below (HCP.out wy hb).2.2)) hbl2 hb.size;refine dC (.tmp 7) (.tmp 9) _ rfl ?_ ?_ hrun (hK _ _ h22 h23)
  ·simpa[Act.eval] using e4
  ·simpa[Act.eval] using q6
 refine bC.rel (n:=8) (PV W0.drew.heap.size x) (EI _ _) [_,_,_,_,_,_,_,_,PV W0.drew.heap.size x] rfl rfl ?_ ?_
 ·intro K' a wy ho hd hb hK;rw[wN rfl];have r3:zD eG 5 W0.drew.heap.size 48 x.VC (aD a 6) wy:=hd ⟨3,.data⟩ (by simp) rfl;obtain⟨a3,c3,e3,-,-⟩:=(xB.shape eC (w0:=wy) ⟨r3,Below.refl _ _⟩: ∃a' cap,aD a 6=.slice a' x.VC.length cap∧x.VC.length≤cap∧eY eG 5 W0.drew.heap.size wy a' x.VC);unfold zD at r3;rw[e3]at r3;simp[aD]at e3;have r7:zD fY 7 W0.drew.heap.size 59 x.UZ (aD a 10) wy:=hd ⟨7,.data⟩ (by simp) rfl;obtain⟨a7,c7,e7,-,-⟩:=(xB.shape eE (w0:=wy) ⟨r7,Below.refl _ _⟩: ∃a' cap,aD a 10=.slice a' x.UZ.length cap∧x.UZ.length≤cap∧eY fY 7 W0.drew.heap.size wy a' x.UZ);unfold zD at r7;rw[e7]at r7;simp[aD]at e7;clear hd ho;go_simp;exact hK _ _ ⟨a3,a7,c3,c7,rfl,r3,r7⟩ bR
 intro X wz hR hz;obtain⟨x0,x1,x2,x3,x4,x5,x6,x7,x8,-⟩:=hR;obtain⟨g0,e0,-⟩:=x0;obtain⟨g4,e4,-⟩:=x4;obtain⟨oa,ob,oc,od,e8,o8,o9⟩:=x8;simp only[aF]at x1 x2 x5 x6;simp only[aE,e0,x1,x2,aE,e4,x5,x6,aE,e8];clear x1 x2 x5 x6;have hz0:=(HCP.out wz hz).2.1;have HBW:=(HCP.out wz hz).2.2;obtain⟨z0,z1⟩:=hz0.c2;obtain⟨f0,f1⟩:=hz0.f2;have HH6:Hid (aA ((sW wz (w.heap.size+1) 0 (.slice oa x.VC.length oc)).setCell ⟨w.heap.size+1,1,none⟩ (.slice ob x.UZ.length od)) (w.heap.size+1) (bF oa oc ob od x)):=(hz0.set 0 _).set 1 _;have HO1:Hid (((sW wz (w.heap.size+1) 0 (.slice oa x.VC.length oc)).setCell ⟨w.heap.size+1,1,none⟩ (.slice ob x.UZ.length od)).ownsRow w.heap.size 48 5 (.slice oa x.VC.length oc) x.VC.length (dK eG x.VC)):=uZ (cE (cE o8 (dU o8 hB0)) (dU o8 hB0)) hB1;have HO2:Hid (((sW wz (w.heap.size+1) 0 (.slice oa x.VC.length oc)).setCell ⟨w.heap.size+1,1,none⟩ (.slice ob x.UZ.length od)).ownsRow w.heap.size 59 7 (.slice ob x.UZ.length od) x.UZ.length (dK fY x.UZ)):=uZ (cE (cE o9 (dU o9 hB0)) (dU o9 hB0)) hB1;have HB6:Hid (Below w.heap.size w ((sW wz (w.heap.size+1) 0 (.slice oa x.VC.length oc)).setCell ⟨w.heap.size+1,1,none⟩ (.slice ob x.UZ.length od))):=(sCl HBW (Nat.le_succ _)).setCell (p:=⟨w.heap.size+1,1,none⟩) (Nat.le_succ _) _;clear hz0 HBW o8 o9 hz;intro K5 hK5;go_simp;refine hK5 _ _ ?_;simp only[fO];go_wp2_with fail
 exact UQ (aG Tryz.results126 _ _ (w.heap.size+1) (bF oa oc ob od x) _ rfl HH6.out Tryz.underlying31 rfl (show (Tryz.prog.info? 31).map (·.size)=some 2 by kernel_rfl)) rfl ⟨⟨_,_,rfl,HO1.out,HO2.out⟩,HB6.out⟩
structure dX(w:World)(ks:List (Nat × List Value))(wx:World):Prop where
 k:∀e∈ks,aA wx e.1 e.2
 b:Below w.heap.size w wx
 z:∀e∈ks,0 < e.2.length
theorem dX.at{w wx:World}{ks:List (Nat × List Value)}{a:Nat}{l:List Value}(h:dX w ks wx)(hm:(a,l)∈ks):aA wx a l:=h.k _ hm
theorem dX.kept{w wx wy:World}{ks:List (Nat × List Value)}(h:dX w ks wx)(hB:Below wx.heap.size wx wy):dX w ks wy:=⟨fun e he=>(h.k e he).kept (h.z e he) hB,h.b.trans (hB.mono h.b.size),h.z⟩
theorem dX.lts{w wx:World}{ks:List (Nat × List Value)}(h:dX w ks wx):∀e∈ks,e.1 < wx.heap.size∧0 < e.2.length:=fun e he=>⟨(h.k e he).lt (h.z e he),h.z e he⟩
theorem dX.push{w wx:World}{ks:List (Nat × List Value)}(h:dX w ks wx)(vs:List Value)(hv:0 < vs.length)(T:TypeId):dX w ((wx.heap.size,vs)::ks) (wx.alloc (.cells vs.toArray T)):=by
 have hal:Below wx.heap.size wx (wx.alloc (.cells vs.toArray T)):=bR.alloc lR _;refine⟨fun e he=>?_,h.b.trans (hal.mono h.b.size),fun e he=>?_⟩
 ·rcases TW.1 he with rfl | he
  ·exact aA.new wx vs T
  ·exact(h.k e he).kept (h.z e he) hal
 ·rcases TW.1 he with rfl | he
  ·exact hv
  ·exact h.z e he
theorem dX.cons{w wx:World}{ks:List (Nat × List Value)}{g:Nat}{vs:List Value}(h:dX w ks wx)(hg:aA wx g vs)(hv:0 < vs.length):dX w ((g,vs)::ks) wx:=⟨fun e he=>by
 rcases TW.1 he with rfl|he
 ·exact hg
 ·exact h.k e he,h.b,fun e he=>by
 rcases TW.1 he with rfl|he
 ·exact hv
 ·exact h.z e he⟩
def PZ(base:Nat)(zs:List Value):Value→World→Prop:=fun v w=>∃g,v=.pointer (some ⟨g,0,none⟩)∧base≤g∧aA w g zs
theorem EL(base:Nat)(zs:List Value)(h:0 < zs.length):eZ (PZ base zs):=fun v w w' ⟨g,h1,h2,h3⟩ hb=>⟨g,h1,h2,h3.kept h hb⟩
theorem SN(w:World)(l0:List Value)(T0:TypeId)(z0:0 < l0.length):Hid (dX w [(w.heap.size,l0)] (w.alloc (.cells l0.toArray T0))) := by
 have e0:aA (w.alloc (.cells l0.toArray T0)) (w.heap.size) l0:=by
  have h:=aA.new w l0 T0
  try simp only[TQ]at h
  exact h
 refine⟨fun e he=>?_,((Below.refl _ _).alloc (by (try simp only[TQ]);omega) _),fun e he=>?_⟩
 · simp only[TW,TV,or_false]at he
   rcases he with rfl
   · exact e0
 · simp only[TW,TV,or_false]at he
   rcases he with rfl
   · exact z0
theorem SC(w:World)(l0:List Value)(T0:TypeId)(l1:List Value)(T1:TypeId)(z0:0 < l0.length)(z1:0 < l1.length):Hid (dX w [(w.heap.size,l0),(w.heap.size+1,l1)] ((w.alloc (.cells l0.toArray T0)).alloc (.cells l1.toArray T1))) := by
 have e0:aA ((w.alloc (.cells l0.toArray T0)).alloc (.cells l1.toArray T1)) (w.heap.size) l0:=by
  have h:=aA.new w l0 T0
  try simp only[TQ]at h
  exact(h.alloc _)
 have e1:aA ((w.alloc (.cells l0.toArray T0)).alloc (.cells l1.toArray T1)) (w.heap.size+1) l1:=by
  have h:=aA.new (w.alloc (.cells l0.toArray T0)) l1 T1
  try simp only[TQ]at h
  exact h
 refine⟨fun e he=>?_,(((Below.refl _ _).alloc (by (try simp only[TQ]);omega) _).alloc (by (try simp only[TQ]);omega) _),fun e he=>?_⟩
 · simp only[TW,TV,or_false]at he
   rcases he with rfl|rfl
   · exact e0
   · exact e1
 · simp only[TW,TV,or_false]at he
   rcases he with rfl|rfl
   · exact z0
   · exact z1
theorem RD(w:World)(l0:List Value)(T0:TypeId)(l1:List Value)(T1:TypeId)(l2:List Value)(T2:TypeId)(z0:0 < l0.length)(z1:0 < l1.length)(z2:0 < l2.length):Hid (dX w [(w.heap.size,l0),(w.heap.size+1,l1),(w.heap.size+1+1,l2)] (((w.alloc (.cells l0.toArray T0)).alloc (.cells l1.toArray T1)).alloc (.cells l2.toArray T2))) := by
 have e0:aA (((w.alloc (.cells l0.toArray T0)).alloc (.cells l1.toArray T1)).alloc (.cells l2.toArray T2)) (w.heap.size) l0:=by
  have h:=aA.new w l0 T0
  try simp only[TQ]at h
  exact((h.alloc _).alloc _)
 have e1:aA (((w.alloc (.cells l0.toArray T0)).alloc (.cells l1.toArray T1)).alloc (.cells l2.toArray T2)) (w.heap.size+1) l1:=by
  have h:=aA.new (w.alloc (.cells l0.toArray T0)) l1 T1
  try simp only[TQ]at h
  exact(h.alloc _)
 have e2:aA (((w.alloc (.cells l0.toArray T0)).alloc (.cells l1.toArray T1)).alloc (.cells l2.toArray T2)) (w.heap.size+1+1) l2:=by
  have h:=aA.new ((w.alloc (.cells l0.toArray T0)).alloc (.cells l1.toArray T1)) l2 T2
  try simp only[TQ]at h
  exact h
 refine⟨fun e he=>?_,((((Below.refl _ _).alloc (by (try simp only[TQ]);omega) _).alloc (by (try simp only[TQ]);omega) _).alloc (by (try simp only[TQ]);omega) _),fun e he=>?_⟩
 · simp only[TW,TV,or_false]at he
   rcases he with rfl|rfl|rfl
   · exact e0
   · exact e1
   · exact e2
 · simp only[TW,TV,or_false]at he
   rcases he with rfl|rfl|rfl
   · exact z0
   · exact z1
   · exact z2
structure fH(w:World)(base O:Nat)(ks:List (Nat × List Value))(bv sv:Value)(ys:List Bd)(zs:List Ss)(wx:World):Prop where
 o:aA wx O [bv,sv]
 bo:wx.ownsRow base 48 5 bv ys.length (dK eG ys)
 so:wx.ownsRow base 59 7 sv zs.length (dK fY zs)
 ne:∀g,bv.ownBlock=some g→sv.ownBlock=some g→False
 b:Below w.heap.size w wx
 k:∀e∈ks,aA wx e.1 e.2
 lo:w.heap.size≤O
 hi:bv.ownBlock≠some O∧sv.ownBlock≠some O
 wb:w.heap.size≤base
 hb:base≤wx.heap.size
 kb:∀e∈ks,e.1 < base∧e.1≠O∧0 < e.2.length
section
variable {w:World} {base O:Nat} {ks:List (Nat × List Value)} {bv sv:Value} {ys:List Bd} {zs:List Ss} {wx wy:World}
theorem fH.at{a:Nat}{l:List Value}(h:fH w base O ks bv sv ys zs wx)(hm:(a,l)∈ks):aA wx a l:=h.k _ hm
theorem fH.kept(h:fH w base O ks bv sv ys zs wx)(hB:Below wx.heap.size wx wy):fH w base O ks bv sv ys zs wy :=
 ⟨h.o.kept (by simp) hB,fX h.bo hB,fX h.so hB,h.ne,h.b.trans (hB.mono h.b.size),fun e he=>(h.k e he).kept (h.kb e he).2.2 hB,h.lo,h.hi,h.wb,UA h.hb hB.size,h.kb⟩
theorem fH.make{w w5:World}{base:Nat}{ks:List (Nat × List Value)}{bv sv:Value}{x:Bb}(hwb:w.heap.size≤base)(hb:Below w.heap.size w w5)(h1:w5.ownsRow base 48 5 bv x.VC.length (dK eG x.VC))(h2:w5.ownsRow base 59 7 sv x.UZ.length (dK fY x.UZ))(hk:∀e∈ks,aA w5 e.1 e.2)(hkb:∀e∈ks,e.1 < base∧0 < e.2.length)(hbs:base≤w5.heap.size) :
  fH w base w5.heap.size ks bv sv x.VC x.UZ (w5.alloc (.cells #[bv,sv] 31)):=by
 have n1:bv.ownBlock≠some w5.heap.size:=fun e=>by have:=(fC h1 e).2;omega
 have n2:sv.ownBlock≠some w5.heap.size:=fun e=>by have:=(fC h2 e).2;omega
 have hal:Below w5.heap.size w5 (w5.alloc (.cells #[bv,sv] 31)):=bR.alloc lR _;have hlo:=UA hwb hbs;refine⟨aA.new w5 [bv,sv] 31,fX h1 hal,fX h2 hal,sO h1 h2 (by decide),hb.trans (hal.mono hlo),fun e he=>(hk e he).kept (hkb e he).2 hal,hlo,⟨n1,n2⟩,hwb,?_,fun e he=>⟨(hkb e he).1,?_,(hkb e he).2⟩⟩
 ·simp;omega
 ·have:=(hkb e he).1;omega
theorem fH.appS(h:fH w base O ks bv sv ys zs wx)(q:Ss)(g:Nat)(hg:aA wx g (fY q))(jJ:zs.length≤1048576) :
  ∃v6 w6,(Builtin.append_ #[29,29] 29 #[sv,.slice (some ⟨g,0,none⟩) 1 1]).run Tryz.prog wx=.ok v6 w6∧(∃gg l c,v6=.slice (some ⟨gg,0,none⟩) l c)∧aA w6 O [bv,sv]∧fH w base O ks bv v6 ys (zs++[q]) (w6.setCell ⟨O,1,none⟩ v6):=by
 obtain⟨i0,hi,hz0,hz1,hz2⟩:=info_parts Tryz.infoSs;have hOl:O < wx.heap.size:=h.o.lt (by simp);have hwb:=h.wb;have hlo:=h.lo;have hbb:=h.hb;obtain⟨v6,w6,hrun,h62,h63,h64,h65⟩:=run_append_own_at (P:=Tryz.prog) wx base 29 29 59 i0 _ 7 _ Tryz.underlying29 hi hz0 hz1 hz2 rfl (by decide) sv _ _ h.so ⟨g,0,none⟩ 1 1 (fY q) rfl (fun i u hu=>by rw[rE];exact hg.cell hu) (BE q) (by unfold maxLen;omega) (by omega) h.hb;have hnr:∀X,X < base→some X≠sv.ownBlock:=fun X hX e=>dU h.so hX e.symm
 have n6:v6.ownBlock≠some O:=by
  rcases h65 with h7|h7<;>rw[h7]
  ·exact h.hi.2
  ·intro e;injection e with e;omega
 have hO:=h.o.grown (by simp) h63 (fun e=>h.hi.2 e.symm);have hne:∀g,bv.ownBlock=some g→v6.ownBlock=some g→False:=by
  intro g e1 e2;rcases h65 with h7|h7
  ·exact h.ne g e1 (h7 ▸ e2)
  ·rw[h7]at e2;injection e2 with e3
   have:=(fC h.bo e1).2;omega
 have hold:=World.ownsRow.kept h.bo h63 (by
  by_cases e:bv.ownBlock=none
  ·exact .inl e
  ·refine .inr (fun e2=>?_);obtain⟨k,hk⟩:=Option.ne_none_iff_exists'.1 e;exact h.ne k hk (e2 ▸ hk))
 have hsz:base≤(w6.setCell ⟨O,1,none⟩ v6).heap.size:=by simp;exact UA h.hb h63.size
 refine⟨v6,w6,hrun,?_,hO,hO.set 1 v6,cE hold h.hi.1,cE (by rw[kB,List.length_append];exact h62) n6,hne,(oE h.b h63 (fun k e=>by have:=(fC h.so e).1;omega)).setCell (p:=⟨O,1,none⟩) hlo v6,fun e he=>((h.k e he).grown (h.kb e he).2.2 h63 (hnr _ (h.kb e he).1)).setOther (h.kb e he).2.1 v6,h.lo,⟨h.hi.1,n6⟩,h.wb,hsz,h.kb⟩;rcases h62.2 with ⟨_,h0⟩|⟨gg,c6,_,h6,_⟩
 ·simp at h0
 ·exact⟨gg,_,c6,h6⟩
theorem fH.appB(h:fH w base O ks bv sv ys zs wx)(q:Bd)(g:Nat)(hg:aA wx g (eG q))(jJ:ys.length≤1048576) :
  ∃v6 w6,(Builtin.append_ #[28,28] 28 #[bv,.slice (some ⟨g,0,none⟩) 1 1]).run Tryz.prog wx=.ok v6 w6∧(∃gg l c,v6=.slice (some ⟨gg,0,none⟩) l c)∧aA w6 O [bv,sv]∧fH w base O ks v6 sv (ys++[q]) zs (w6.setCell ⟨O,0,none⟩ v6):=by
 obtain⟨i0,hi,hz0,hz1,hz2⟩:=info_parts Tryz.infoBd;have hOl:O < wx.heap.size:=h.o.lt (by simp);have hwb:=h.wb;have hlo:=h.lo;have hbb:=h.hb;obtain⟨v6,w6,hrun,h62,h63,h64,h65⟩:=run_append_own_at (P:=Tryz.prog) wx base 28 28 48 i0 _ 5 _ Tryz.underlying28 hi hz0 hz1 hz2 rfl (by decide) bv _ _ h.bo ⟨g,0,none⟩ 1 1 (eG q) rfl (fun i u hu=>by rw[rE];exact hg.cell hu) (zH q) (by unfold maxLen;omega) (by omega) h.hb;have hnr:∀X,X < base→some X≠bv.ownBlock:=fun X hX e=>dU h.bo hX e.symm
 have n6:v6.ownBlock≠some O:=by
  rcases h65 with h7|h7<;>rw[h7]
  ·exact h.hi.1
  ·intro e;injection e with e;omega
 have hO:=h.o.grown (by simp) h63 (fun e=>h.hi.1 e.symm);have hne:∀g,v6.ownBlock=some g→sv.ownBlock=some g→False:=by
  intro g e1 e2;rcases h65 with h7|h7
  ·exact h.ne g (h7 ▸ e1) e2
  ·rw[h7]at e1;injection e1 with e3
   have:=(fC h.so e2).2;omega
 have hold:=World.ownsRow.kept h.so h63 (by
  by_cases e:sv.ownBlock=none
  ·exact .inl e
  ·refine .inr (fun e2=>?_);obtain⟨k,hk⟩:=Option.ne_none_iff_exists'.1 e;exact h.ne k (e2 ▸ hk) hk)
 have hsz:base≤(w6.setCell ⟨O,0,none⟩ v6).heap.size:=by simp;exact UA h.hb h63.size
 refine⟨v6,w6,hrun,?_,hO,hO.set 0 v6,cE (by rw[kB,List.length_append];exact h62) n6,cE hold h.hi.2,hne,(oE h.b h63 (fun k e=>by have:=(fC h.bo e).1;omega)).setCell (p:=⟨O,0,none⟩) hlo v6,fun e he=>((h.k e he).grown (h.kb e he).2.2 h63 (hnr _ (h.kb e he).1)).setOther (h.kb e he).2.1 v6,h.lo,⟨n6,h.hi.2⟩,h.wb,hsz,h.kb⟩;rcases h62.2 with ⟨_,h0⟩|⟨gg,c6,_,h6,_⟩
 ·simp at h0
 ·exact⟨gg,_,c6,h6⟩
theorem fH.shapes(h:fH w base O ks bv sv ys zs wx):(∃a cap,bv=.slice a ys.length cap∧ys.length≤cap∧eY eG 5 base wx a ys)∧∃a cap,sv=.slice a zs.length cap∧zs.length≤cap∧eY fY 7 base wx a zs :=
 ⟨xB.shape eC (w0:=wx) ⟨h.bo,Below.refl _ _⟩,xB.shape eE (w0:=wx) ⟨h.so,Below.refl _ _⟩⟩
end
theorem jO(l:Lv)(UU st:Int):0≤bT l UU st∧bT l UU st≤10000:=by
 unfold bT
 cases h:fR l with
 | false=>simp
 | true=>
  unfold fR aM at h;simp only[TP,TU]at h;simp only[Bool.true_eq_false,if_false];(repeat' split)<;>omega
theorem mH{α:Type}{en:α→List Value}{n:Nat}(hn:∀x,(en x).length=n)(j:Nat)(hj:j < n)(v:Value):∀(xs:List α) (i:Nat) (hi:i < xs.length) (y:α),en y=(en xs[i]).set j v→dK en (xs.set i y)=(dK en xs).set (i*n+j) v
 | [],i,hi,y,_=>by simp at hi
 | x::xs,0,hi,y,hy=>by
  simp only[UO]at hy;simp only[List.set_cons_zero,dK,Nat.zero_mul,TX,List.flatMap_cons];rw[hy,List.set_append_left _ _ (by rw[hn];exact hj)]
 | x::xs,i+1,hi,y,hy=>by
  simp only[List.getElem_cons_succ]at hy;have ih:=mH hn j hj v xs i (by simpa using hi) y hy;unfold dK at ih ⊢;simp only[List.set_cons_succ,List.flatMap_cons];have hm:(i+1)*n=n+i*n:=by rw[Nat.succ_mul];omega
  rw[ih,List.set_append_right _ _ (by rw[hn];omega),hn];congr 2
  omega
theorem AW{w:World}{base e s n g cap:Nat}{xs:List Value}(h:w.ownsRow base e s (.slice (some ⟨g,0,none⟩) n cap) n xs)(j:Nat)(hj:j < xs.length)(u:Value):(w.setCell ⟨g,j,none⟩ u).ownsRow base e s (.slice (some ⟨g,0,none⟩) n cap) n (xs.set j u):=by
 obtain⟨h1,h2⟩:=h;refine⟨by rw[List.length_set];exact h1,?_⟩;rcases h2 with ⟨e1,_⟩|⟨g',cap',cur,e1,hb,hh,hnc,hcm,hcs,hcur⟩
 ·cases e1
 ·injection e1 with i1 i2 i3
  injection i1 with i1
  injection i1 with i1
  subst i1 i3;refine .inr ⟨g,cap,cur.setIfInBounds j u,rfl,hb,?_,hnc,hcm,by rw[Array.size_setIfInBounds];exact hcs,?_⟩
  ·show (w.heap.modify g _)[g]?=_;rw[Array.getElem?_modify,if_pos rfl,hh];rfl
  ·rw[Array.toList_setIfInBounds,List.take_set,hcur]
theorem DU{xs:List Value}{j:Nat}{v:Value}(h:xs[j]?=some v):xs.set j v=xs:=by
 obtain⟨hj,rfl⟩:=List.getElem?_eq_some_iff.1 h;exact List.set_getElem_self hj
theorem mS{w:World}{base e s n m g cap:Nat}{xs:List Value}(h:w.ownsRow base e s (.slice (some ⟨g,0,none⟩) n cap) m xs)(j:Nat):w.frozen? ⟨g,j,none⟩=false:=by
 rcases h.2 with ⟨e1,_⟩|⟨g',cap',cur,e1,hb,hh,_⟩
 ·cases e1
 ·injection e1 with i1 i2 i3
  injection i1 with i1
  injection i1 with i1
  subst i1;unfold World.frozen?;simp[hh]
theorem fF{w:World}{base e n m g cap:Nat}{xs:List Ss}(h:w.ownsRow base e 7 (.slice (some ⟨g,0,none⟩) n cap) m (dK fY xs))(hnm:n=m)(i:Nat)(hi:i < xs.length)(j:Nat)(v:Value)(hv:(fY xs[i])[j]?=some v):w.cell? ⟨g,i*7+j,none⟩=some v:=by
 subst hnm;have hl:=fP eE xs;have hj:j < 7:=by have:=(List.getElem?_eq_some_iff.1 hv).1;rwa [eE]at this
 have hn:=h.1;rw[hl]at hn;have hnl:n=xs.length:=by omega
 rw[World.ownsRow.cellAt h _ (by rw[hnl];omega)];have hs:=mH eE j hj v xs i hi xs[i] (by rw[DU hv]);rw[List.set_getElem_self]at hs;rw[hs,List.getElem?_set_self (by rw[hl];omega)]
theorem fH.setS{w:World}{base O g cs n:Nat}{ks:List (Nat × List Value)}{bv:Value}{ys:List Bd}{zs:List Ss}{wx:World}(h:fH w base O ks bv (.slice (some ⟨g,0,none⟩) n cs) ys zs wx)(hnz:n=zs.length)(i:Nat)(hi:i < zs.length)(j:Nat)(hj:j < 7)(v:Value)(y:Ss)(hy:fY y=(fY zs[i]).set j v):fH w base O ks bv (.slice (some ⟨g,0,none⟩) n cs) ys (zs.set i y) (wx.setCell ⟨g,i*7+j,none⟩ v):=by
 subst hnz;have hO:O≠g:=fun e=>h.hi.2 (by rw[e];rfl)
 have hg:=(fC h.so (g:=g) rfl).1;have hbv:bv.ownBlock≠some g:=fun e=>h.ne g e rfl
 have hwb:=h.wb;refine⟨h.o.setOther hO _,cE h.bo hbv,?_,h.ne,h.b.setCell (p:=⟨g,i*7+j,none⟩) (by show w.heap.size≤g;omega) v,fun e he=>(h.k e he).setOther (by have:=(h.kb e he).1;omega) _,h.lo,h.hi,h.wb,by simpa using h.hb,h.kb⟩;rw[List.length_set,mH eE j hj v zs i hi y hy];exact AW h.so _ (by rw[fP eE];omega) v
theorem pM{α:Type}{f:α→Bool}{xs:List α}{i:Nat}(h:xs.findIdx? f=some i):∃hi:i < xs.length,xs.find? f=some xs[i]:=by
 obtain⟨hi,hf,hn⟩:=List.findIdx?_eq_some_iff_getElem.1 h;refine⟨hi,OH hi ?_ hf⟩;rw[List.find?_eq_none];intro y hy;obtain⟨k,hk,rfl⟩:=UN hy;rw[List.length_take]at hk;rw[List.getElem_take];exact hn k (by omega)
theorem MD{α:Type}{f:α→Bool}{xs:List α}(h:xs.findIdx? f=none):xs.find? f=none:=by
 rw[List.find?_eq_none];intro y hy;have:=List.findIdx?_eq_none_iff.1 h y hy;simp[this]
end Go.Proofs.YtdkepkaflielhaaGreatDoor
