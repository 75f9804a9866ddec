import Derived.Test.YtdkepkaflielhaaGreatDoorSz
import Derived.Test.YtdkepkaflielhaaGreatDoorAb
import Derived.Test.YtdkepkaflielhaaGreatDoorUni
import Derived.Test.YtdkepkaflielhaaGreatDoorTouch9
import Derived.Test.YtdkepkaflielhaaGreatDoorRowsS
import Derived.Test.YtdkepkaflielhaaGreatDoorGrowV
import Derived.ArgAppend
import Derived.Maps.AppendAt
set_option linter.unusedVariables false
set_option linter.unusedSimpArgs false
set_option maxRecDepth 100000
set_option maxHeartbeats 8000000
namespace Go.Proofs.YtdkepkaflielhaaGreatDoor
open Go.RowKit Go.PlainAid
theorem ownT_ne {w:World} {base e1 e2 n m s1 s2:Nat} {v v2:Value} {xs ys:List Value} (h1:w.ownsRow base e1 s1 v n xs) (h2:w.ownsRow base e2 s2 v2 m ys) (hne:e1≠e2):∀ g,v.ownBlock=some g→v2.ownBlock=some g→False:=by
 intro g g1 g2;rcases h1.2 with ⟨rfl,_⟩ | ⟨g',cap,cur,rfl,_,hh,_⟩
 ·simp [Value.ownBlock] at g1
 ·rcases h2.2 with ⟨rfl,_⟩ | ⟨g'',cap2,cur2,rfl,_,hh2,_⟩
  ·simp [Value.ownBlock] at g2
  ·simp [Value.ownBlock] at g1 g2;subst g1 g2;rw [hh] at hh2;simp at hh2;exact hne hh2.2
def IsRw {α:Type} (en:α→List Value) (n base:Nat) (e:TypeId) (xs:List α):Value→World→Prop:=fun v w=>w.ownsRow base e n v xs.length (flatS en xs)
theorem stable_isRw {α:Type} (en:α→List Value) (n base:Nat) (e:TypeId) (xs:List α):Stable (IsRw en n base e xs):=fun v w w' h hb=>own_stable h hb
def IsNo (n base:Nat) (e:TypeId):Value→World→Prop:=fun v w=>∃ g,v=.slice (some ⟨g,0,none⟩) 0 0∧w.ownsRow base e n v 0 []
theorem stable_isNo (n base:Nat) (e:TypeId):Stable (IsNo n base e):=fun v w w' ⟨g,h1,h2⟩ hb=>⟨g,h1,own_stable h2 hb⟩
def CopyRet (base:Nat) (x:Bb) (e:Ending) (w:World):Prop:=∃ bv sv,e=.returned (.agg #[bv,sv])∧w.ownsRow base 48 5 bv x.binds.length (flatS bdL x.binds)∧w.ownsRow base 59 7 sv x.sess.length (flatS ssL x.sess)
def IsCp (base:Nat) (x:Bb):Value→World→Prop:=fun v w=>∃ a b c d,v=.agg (BbV a c b d x).toArray∧w.ownsRow base 48 5 (.slice a x.binds.length c) x.binds.length (flatS bdL x.binds)∧w.ownsRow base 59 7 (.slice b x.sess.length d) x.sess.length (flatS ssL x.sess)
theorem stable_isCp (base:Nat) (x:Bb):Stable (IsCp base x):=fun v w w' ⟨a,b,c,d,h1,h2,h3⟩ hb=>⟨a,b,c,d,h1,own_stable h2 hb,own_stable h3 hb⟩
theorem copyBind_all {base g0 cap:Nat} {a:Option Addr} {ty:TypeId} {xs:List Bd} {w:World} (h0:w.ownsRow base 48 5 (.slice (some ⟨g0,0,none⟩) 0 0) 0 []) (hx:SlIs bdL 5 w a xs) (hl:xs.length≤1048576) (hb:base≤w.heap.size) :
  ∃ v' w',(Builtin.append_ #[28,28] ty #[.slice (some ⟨g0,0,none⟩) 0 0,.slice a xs.length cap]).run Tryz.prog w=.ok v' w'∧w'.ownsRow base 48 5 v' xs.length (flatS bdL xs)∧Below w.heap.size w w':=by
 obtain ⟨i0,hi,hz0,hz1,hz2⟩:=info_parts Tryz.infoBd;by_cases hn:xs=[]
 ·subst hn;have hr:(Builtin.append_ #[28,28] ty #[.slice (some ⟨g0,0,none⟩) 0 0,.slice a 0 cap]).run Tryz.prog w=.ok (.slice (some ⟨g0,0,none⟩) 0 0) w:=by
   cases a with
   | none=>simp [Builtin.append_,run_underlying Tryz.underlying28,sizeOf,typeInfo,hi,Builtin.lenOf,Builtin.firstCells,storeCells]
   | some v =>
    have hr:=run_append_room_cells (P:=Tryz.prog) w 28 ty 48 i0 Tryz.underlying28 hi g0 0 0 0 v 0 cap [] (by simp) (fun j u hu=>by simp at hu) (fun u hu=>by simp at hu) (by omega) (fun j hj=>by simp at hj) (fun j hj=>by simp at hj);simpa [World.setCells] using hr
  exact ⟨_,_,hr,by simpa [flatS] using h0,Below.refl _ _⟩
 ·rcases hx with e | ⟨b,off,rfl,hbl,hx⟩
  ·exact absurd e hn
  have hpos:0 < xs.length:=List.length_pos_iff.2 hn;obtain ⟨v',w',hr,h1,h2⟩:=run_append_arg_grows (P:=Tryz.prog) w 28 ty 48 i0 _ 5 _ Tryz.underlying28 hi hz0 hz1 hz2 rfl (by decide) ⟨g0,0,none⟩ 0 0 [] (by simp) (fun j u hu=>by simp at hu) ⟨b,off,none⟩ xs.length cap (flatS bdL xs) (flatS_length bdL_length xs) (fun j u hu=>by
   rw [Addr.add_lit]; exact flatS_cells bdL_length (by omega) hx j u hu) (by omega) (by unfold maxLen; omega) (by omega)
  refine ⟨v',w',hr,?_,⟨h2.os,h2.tape,h2.output,h2.size,fun k hk=>h2.block k hk (by simp)⟩⟩;rw [Nat.zero_add,List.nil_append] at h1;refine ⟨h1.1,?_⟩;rcases h1.2 with h3 | ⟨g,c,cur,h3,h4,h5⟩
  ·exact .inl h3
  ·exact .inr ⟨g,c,cur,h3,Nat.le_trans hb h4,h5⟩
theorem copySession_all {base g0 cap:Nat} {a:Option Addr} {ty:TypeId} {xs:List Ss} {w:World} (h0:w.ownsRow base 59 7 (.slice (some ⟨g0,0,none⟩) 0 0) 0 []) (hx:SlIs ssL 7 w a xs) (hl:xs.length≤1048576) (hb:base≤w.heap.size) :
  ∃ v' w',(Builtin.append_ #[29,29] ty #[.slice (some ⟨g0,0,none⟩) 0 0,.slice a xs.length cap]).run Tryz.prog w=.ok v' w'∧w'.ownsRow base 59 7 v' xs.length (flatS ssL xs)∧Below w.heap.size w w':=by
 obtain ⟨i0,hi,hz0,hz1,hz2⟩:=info_parts Tryz.infoSs;by_cases hn:xs=[]
 ·subst hn;have hr:(Builtin.append_ #[29,29] ty #[.slice (some ⟨g0,0,none⟩) 0 0,.slice a 0 cap]).run Tryz.prog w=.ok (.slice (some ⟨g0,0,none⟩) 0 0) w:=by
   cases a with
   | none=>simp [Builtin.append_,run_underlying Tryz.underlying29,sizeOf,typeInfo,hi,Builtin.lenOf,Builtin.firstCells,storeCells]
   | some v =>
    have hr:=run_append_room_cells (P:=Tryz.prog) w 29 ty 59 i0 Tryz.underlying29 hi g0 0 0 0 v 0 cap [] (by simp) (fun j u hu=>by simp at hu) (fun u hu=>by simp at hu) (by omega) (fun j hj=>by simp at hj) (fun j hj=>by simp at hj);simpa [World.setCells] using hr
  exact ⟨_,_,hr,by simpa [flatS] using h0,Below.refl _ _⟩
 ·rcases hx with e | ⟨b,off,rfl,hbl,hx⟩
  ·exact absurd e hn
  have hpos:0 < xs.length:=List.length_pos_iff.2 hn;obtain ⟨v',w',hr,h1,h2⟩:=run_append_arg_grows (P:=Tryz.prog) w 29 ty 59 i0 _ 7 _ Tryz.underlying29 hi hz0 hz1 hz2 rfl (by decide) ⟨g0,0,none⟩ 0 0 [] (by simp) (fun j u hu=>by simp at hu) ⟨b,off,none⟩ xs.length cap (flatS ssL xs) (flatS_length ssL_length xs) (fun j u hu=>by
   rw [Addr.add_lit]; exact flatS_cells ssL_length (by omega) hx j u hu) (by omega) (by unfold maxLen; omega) (by omega)
  refine ⟨v',w',hr,?_,⟨h2.os,h2.tape,h2.output,h2.size,fun k hk=>h2.block k hk (by simp)⟩⟩;rw [Nat.zero_add,List.nil_append] at h1;refine ⟨h1.1,?_⟩;rcases h1.2 with h3 | ⟨g,c,cur,h3,h4,h5⟩
  ·exact .inl h3
  ·exact .inr ⟨g,c,cur,h3,Nat.le_trans hb h4,h5⟩
theorem rowDown {w:World} {base b0 n s:Nat} {e:TypeId} {v:Value} {xs:List Value} (h:w.ownsRow base e s v n xs) (hb:b0≤base):w.ownsRow b0 e s v n xs:=by
 refine ⟨h.1,?_⟩;rcases h.2 with h2 | ⟨g,cap,cur,h3,h4,h5⟩
 ·exact .inl h2
 ·exact .inr ⟨g,cap,cur,h3,Nat.le_trans hb h4,h5⟩
theorem spCopy_any (x:Bb) (ba bo:Option Addr) (ca cb:Nat) (w:World) (hbl1:x.binds.length≤1048576) (hbl2:x.sess.length≤1048576) (hx:BbIs w ba bo x) :
  Calls Tryz.prog 126 #[bbC ba bo ca cb x] w fun e w'=>CopyRet w.heap.size x e w'∧Below w.heap.size w w':=by
 have HZ:Hid (Below w.z w ((aW w (BbV ba ca bo cb x) 31).alloc (.cells #[.slice none 0 0,.slice none 0 0] 31))):=(bR.alloc lR _).alloc (by simp) _;have HB:Hid (HoldsL ((aW w (BbV ba ca bo cb x) 31).alloc (.cells #[.slice none 0 0,.slice none 0 0] 31)) w.z (BbV ba ca bo cb x)):=(HoldsL.new w (BbV ba ca bo cb x) 31).alloc _;have HR:Hid (HoldsL ((aW w (BbV ba ca bo cb x) 31).alloc (.cells #[.slice none 0 0,.slice none 0 0] 31)) (w.z+1) [.slice none 0 0,.slice none 0 0]):=by
  have h:=HoldsL.new (w.alloc (.cells (BbV ba ca bo cb x).toArray 31)) [.slice none 0 0,.slice none 0 0] 31;rw [World.size_alloc] at h; exact h
 have HSX:Hid (BbIs w ba bo x):=hx;clear hx;unfold bbC;go_enter Tryz.func126,Tryz.ntmps126
 go_upto_region 1 with fail
 have hB0':w.z+1 < ((aW w (BbV ba ca bo cb x) 31).alloc (.cells #[.slice none 0 0,.slice none 0 0] 31)).heap.size:=HR.out.lt (by simp);generalize World.alloc _ _=W0 at *;have hB0:w.z+1 < W0.drew.heap.size:=by simpa using hB0'
 have hB1:w.z≤W0.drew.heap.size:=by omega
 have HCP:Hid (∀ wy,Below W0.drew.heap.size W0.drew wy→HoldsL wy w.z (BbV ba ca bo cb x)∧HoldsL wy (w.z+1) [.slice none 0 0,.slice none 0 0]∧Below w.z w wy):=fun wy hy=>⟨HB.out.drew.kept (by simp) hy,HR.out.drew.kept (by simp) hy,HZ.out.drew.trans (hy.mono HZ.out.size)⟩
 refine wp_region_growV [3,4,5,6,7,8,9,10,11] (by kernel_rfl) (by kernel_rfl) ?_;refine GChV.rel (n:=0) (IsNo 5 W0.drew.heap.size 48) (stable_isNo _ _ _) [IsNo 5 W0.drew.heap.size 48] rfl rfl ?_ ?_
 ·intro K' a wy ho hd hb hK;rw [wN rfl];clear hd ho;go_simp;exact hK _ _ ⟨wy.heap.size,rfl,World.ownsRow_made wy #[] 0 hb.size (by unfold maxLen; omega) rfl⟩ (bR.alloc lR _)
 iterate 2 (apply GChV.u rfl;(·intro K' a wy ho hd hb hK;simp [rAt,IsV,slot,Region.binds] at ho hd;have hld:=(HCP.out wy hb).1;have kC:=hld.c2;go_simp;(try go_bits);exact hK _ _ rfl bQ);dsimp only [nA,cA])
 refine GChV.rel (n:=3) (IsRw bdL 5 W0.drew.heap.size 48 x.binds) (stable_isRw _ _ _ _ _) [_,_,_,IsRw bdL 5 W0.drew.heap.size 48 x.binds] rfl rfl ?_ ?_
 ·intro K' a wy ho hd hb hK;rw [wN rfl];obtain ⟨g0,e0,r0⟩ : IsNo 5 W0.drew.heap.size 48 (slot a 3) wy:=hd ⟨0,.data⟩ (by simp) rfl;rw [e0] at r0;simp [slot] at e0;have q2:=hd ⟨2,.data⟩ (by simp) rfl;simp [rAt,IsV,slot] at q2;clear hd ho;obtain ⟨v2,w2,hrun,h22,h23⟩:=copyBind_all (ty:=28) (cap:=ca) r0 ((HSX.out.bd.below (HCP.out wy hb).2.2)) hbl1 hb.size;refine wp_append_run (.tmp 3) (.tmp 5) _ rfl ?_ ?_ hrun (hK _ _ h22 h23)
  ·simpa [Act.eval] using e0
  ·simpa [Act.eval] using q2
 refine GChV.rel (n:=4) (IsNo 7 W0.drew.heap.size 59) (stable_isNo _ _ _) [_,_,_,_,IsNo 7 W0.drew.heap.size 59] rfl rfl ?_ ?_
 ·intro K' a wy ho hd hb hK;rw [wN rfl];clear hd ho;go_simp;exact hK _ _ ⟨wy.heap.size,rfl,World.ownsRow_made wy #[] 0 hb.size (by unfold maxLen; omega) rfl⟩ (bR.alloc lR _)
 iterate 2 (apply GChV.u rfl;(·intro K' a wy ho hd hb hK;simp [rAt,IsV,slot,Region.binds] at ho hd;have hld:=(HCP.out wy hb).1;have kC:=hld.c2;go_simp;(try go_bits);exact hK _ _ rfl bQ);dsimp only [nA,cA])
 refine GChV.rel (n:=7) (IsRw ssL 7 W0.drew.heap.size 59 x.sess) (stable_isRw _ _ _ _ _) [_,_,_,_,_,_,_,IsRw ssL 7 W0.drew.heap.size 59 x.sess] rfl rfl ?_ ?_
 ·intro K' a wy ho hd hb hK;rw [wN rfl];obtain ⟨g4,e4,r4⟩ : IsNo 7 W0.drew.heap.size 59 (slot a 7) wy:=hd ⟨4,.data⟩ (by simp) rfl;rw [e4] at r4;simp [slot] at e4;have q6:=hd ⟨6,.data⟩ (by simp) rfl;simp [rAt,IsV,slot] at q6;clear hd ho;obtain ⟨v2,w2,hrun,h22,h23⟩:=copySession_all (ty:=29) (cap:=cb) r4 ((HSX.out.ss.below (HCP.out wy hb).2.2)) hbl2 hb.size;refine wp_append_run (.tmp 7) (.tmp 9) _ rfl ?_ ?_ hrun (hK _ _ h22 h23)
  ·simpa [Act.eval] using e4
  ·simpa [Act.eval] using q6
 refine GChV.rel (n:=8) (IsCp W0.drew.heap.size x) (stable_isCp _ _) [_,_,_,_,_,_,_,_,IsCp W0.drew.heap.size x] rfl rfl ?_ ?_
 ·intro K' a wy ho hd hb hK;rw [wN rfl];have r3:IsRw bdL 5 W0.drew.heap.size 48 x.binds (slot a 6) wy:=hd ⟨3,.data⟩ (by simp) rfl;obtain ⟨a3,c3,e3,-,-⟩:=(Row.shape bdL_length (w0:=wy) ⟨r3,Below.refl _ _⟩ : ∃ a' cap,slot a 6=.slice a' x.binds.length cap∧x.binds.length≤cap∧SlOwn bdL 5 W0.drew.heap.size wy a' x.binds);unfold IsRw at r3;rw [e3] at r3;simp [slot] at e3;have r7:IsRw ssL 7 W0.drew.heap.size 59 x.sess (slot a 10) wy:=hd ⟨7,.data⟩ (by simp) rfl;obtain ⟨a7,c7,e7,-,-⟩:=(Row.shape ssL_length (w0:=wy) ⟨r7,Below.refl _ _⟩ : ∃ a' cap,slot a 10=.slice a' x.sess.length cap∧x.sess.length≤cap∧SlOwn ssL 7 W0.drew.heap.size wy a' x.sess);unfold IsRw at r7;rw [e7] at r7;simp [slot] at e7;clear hd ho;go_simp;exact hK _ _ ⟨a3,a7,c3,c7,rfl,r3,r7⟩ bR
 intro X wz hR hz;obtain ⟨x0,x1,x2,x3,x4,x5,x6,x7,x8,-⟩:=hR;obtain ⟨g0,e0,-⟩:=x0;obtain ⟨g4,e4,-⟩:=x4;obtain ⟨oa,ob,oc,od,e8,o8,o9⟩:=x8;simp only [IsV] at x1 x2 x5 x6;simp only [putsFrom,e0,x1,x2,putsFrom,e4,x5,x6,putsFrom,e8];clear x1 x2 x5 x6;have hz0:=(HCP.out wz hz).2.1;have HBW:=(HCP.out wz hz).2.2;obtain ⟨z0,z1⟩:=hz0.c2;obtain ⟨f0,f1⟩:=hz0.f2;have HH6:Hid (HoldsL ((sW wz (w.z+1) 0 (.slice oa x.binds.length oc)).setCell ⟨w.z+1,1,none⟩ (.slice ob x.sess.length od)) (w.z+1) (BbV oa oc ob od x)):=(hz0.set 0 _).set 1 _;have HO1:Hid (((sW wz (w.z+1) 0 (.slice oa x.binds.length oc)).setCell ⟨w.z+1,1,none⟩ (.slice ob x.sess.length od)).ownsRow w.z 48 5 (.slice oa x.binds.length oc) x.binds.length (flatS bdL x.binds)):=rowDown (ownC_cell (ownC_cell o8 (ownC_ne o8 hB0)) (ownC_ne o8 hB0)) hB1;have HO2:Hid (((sW wz (w.z+1) 0 (.slice oa x.binds.length oc)).setCell ⟨w.z+1,1,none⟩ (.slice ob x.sess.length od)).ownsRow w.z 59 7 (.slice ob x.sess.length od) x.sess.length (flatS ssL x.sess)):=rowDown (ownC_cell (ownC_cell o9 (ownC_ne o9 hB0)) (ownC_ne o9 hB0)) hB1;have HB6:Hid (Below w.z w ((sW wz (w.z+1) 0 (.slice oa x.binds.length oc)).setCell ⟨w.z+1,1,none⟩ (.slice ob x.sess.length od))):=(HBW.setCell (p:=⟨w.z+1,0,none⟩) (Nat.le_succ _) _).setCell (p:=⟨w.z+1,1,none⟩) (Nat.le_succ _) _;clear hz0 HBW o8 o9 hz;intro K5 hK5;go_simp;refine hK5 _ _ ?_;simp only [wpSeq];go_wp2_with fail
 exact bodyPost_ret (results_mid Tryz.results126 _ _ (w.z+1) (BbV oa oc ob od x) _ rfl HH6.out Tryz.underlying31 rfl (show (Tryz.prog.info? 31).map (·.size)=some 2 by kernel_rfl)) rfl ⟨⟨_,_,rfl,HO1.out,HO2.out⟩,HB6.out⟩
end Go.Proofs.YtdkepkaflielhaaGreatDoor
