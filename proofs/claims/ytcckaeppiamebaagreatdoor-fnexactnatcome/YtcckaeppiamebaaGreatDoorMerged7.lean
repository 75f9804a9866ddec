import Derived.Test.YtcckaeppiamebaaGreatDoorAb
import Derived.Test.YtcckaeppiamebaaGreatDoorMerged5
import Derived.Test.YtcckaeppiamebaaGreatDoorMerged6
import Derived.Test.YtcckaeppiamebaaGreatDoorMerged3
import Derived.ArgAppend
import Derived.Maps.AppendAt
import Derived.Test.YtcckaeppiamebaaGreatDoorMerged2
import Derived.Test.YtcckaeppiamebaaGreatDoorMerged1
import Derived.BigQuiet
import Derived.Deep.DeepCutAuto
import Derived.RegionTactic
import Derived.Deep.QuietTactic
import Derived.Laws.IdiomStrings
import Derived.Deep.RegionWith
set_option linter.unusedVariables false
set_option linter.unusedSimpArgs false
set_option maxRecDepth 100000
set_option maxHeartbeats 8000000
namespace Go.Proofs.YtcckaeppiamebaaGreatDoor
open Go.RowKit Go.PlainAid
theorem ownT_ne {w:World} {base e1 e2 n m s1 s2:Nat} {v v2:Value} {xs ys:List Value} (h1:w.ownsRow base e1 s1 v n xs) (h2:w.ownsRow base e2 s2 v2 m ys) (hne:e1≠e2):∀ g,v.ownBlock=some g→v2.ownBlock=some g→False:=by
 intro g g1 g2;rcases h1.2 with ⟨rfl,_⟩ | ⟨g',cap,cur,rfl,_,hh,_⟩
 ·simp [Value.ownBlock] at g1
 ·rcases h2.2 with ⟨rfl,_⟩ | ⟨g'',cap2,cur2,rfl,_,hh2,_⟩
  ·simp [Value.ownBlock] at g2
  ·simp [Value.ownBlock] at g1 g2;subst g1 g2;rw [hh] at hh2;simp at hh2;exact hne hh2.2
def IsRw {α:Type} (en:α→List Value) (n base:Nat) (e:TypeId) (xs:List α):Value→World→Prop:=fun v w=>w.ownsRow base e n v xs.length (flatS en xs)
theorem stable_isRw {α:Type} (en:α→List Value) (n base:Nat) (e:TypeId) (xs:List α):Stable (IsRw en n base e xs):=fun v w w' h hb=>own_stable h hb
def IsNo (n base:Nat) (e:TypeId):Value→World→Prop:=fun v w=>∃ g,v=.slice (some ⟨g,0,none⟩) 0 0∧w.ownsRow base e n v 0 []
theorem stable_isNo (n base:Nat) (e:TypeId):Stable (IsNo n base e):=fun v w w' ⟨g,h1,h2⟩ hb=>⟨g,h1,own_stable h2 hb⟩
def CopyRet (base:Nat) (x:Bb) (e:Ending) (w:World):Prop:=∃ bv sv,e=.returned (.agg #[bv,sv])∧w.ownsRow base 94 5 bv x.binds.length (flatS bdL x.binds)∧w.ownsRow base 103 7 sv x.sess.length (flatS ssL x.sess)
def IsCp (base:Nat) (x:Bb):Value→World→Prop:=fun v w=>∃ a b c d,v=.agg (BbV a c b d x).toArray∧w.ownsRow base 94 5 (.slice a x.binds.length c) x.binds.length (flatS bdL x.binds)∧w.ownsRow base 103 7 (.slice b x.sess.length d) x.sess.length (flatS ssL x.sess)
theorem stable_isCp (base:Nat) (x:Bb):Stable (IsCp base x):=fun v w w' ⟨a,b,c,d,h1,h2,h3⟩ hb=>⟨a,b,c,d,h1,own_stable h2 hb,own_stable h3 hb⟩
theorem copyBind_all {base g0 cap:Nat} {a:Option Addr} {ty:TypeId} {xs:List Bd} {w:World} (h0:w.ownsRow base 94 5 (.slice (some ⟨g0,0,none⟩) 0 0) 0 []) (hx:SlIs bdL 5 w a xs) (hl:xs.length≤1048576) (hb:base≤w.heap.size) :
  ∃ v' w',(Builtin.append_ #[36,36] ty #[.slice (some ⟨g0,0,none⟩) 0 0,.slice a xs.length cap]).run Tryz.prog w=.ok v' w'∧w'.ownsRow base 94 5 v' xs.length (flatS bdL xs)∧Below w.heap.size w w':=by
 obtain ⟨i0,hi,hz0,hz1,hz2⟩:=info_parts Tryz.infoBd;by_cases hn:xs=[]
 ·subst hn;have hr:(Builtin.append_ #[36,36] ty #[.slice (some ⟨g0,0,none⟩) 0 0,.slice a 0 cap]).run Tryz.prog w=.ok (.slice (some ⟨g0,0,none⟩) 0 0) w:=by
   cases a with
   | none=>simp [Builtin.append_,run_underlying Tryz.underlying36,sizeOf,typeInfo,hi,Builtin.lenOf,Builtin.firstCells,storeCells]
   | some v =>
    have hr:=run_append_room_cells (P:=Tryz.prog) w 36 ty 94 i0 Tryz.underlying36 hi g0 0 0 0 v 0 cap [] (by simp) (fun j u hu=>by simp at hu) (fun u hu=>by simp at hu) (by omega) (fun j hj=>by simp at hj) (fun j hj=>by simp at hj);simpa [World.setCells] using hr
  exact ⟨_,_,hr,by simpa [flatS] using h0,Below.refl _ _⟩
 ·rcases hx with e | ⟨b,off,rfl,hbl,hx⟩
  ·exact absurd e hn
  have hpos:0 < xs.length:=List.length_pos_iff.2 hn;obtain ⟨v',w',hr,h1,h2⟩:=run_append_arg_grows (P:=Tryz.prog) w 36 ty 94 i0 _ 5 _ Tryz.underlying36 hi hz0 hz1 hz2 rfl (by decide) ⟨g0,0,none⟩ 0 0 [] (by simp) (fun j u hu=>by simp at hu) ⟨b,off,none⟩ xs.length cap (flatS bdL xs) (flatS_length bdL_length xs) (fun j u hu=>by
   rw [Addr.add_lit]; exact flatS_cells bdL_length (by omega) hx j u hu) (by omega) (by unfold maxLen; omega) (by omega)
  refine ⟨v',w',hr,?_,⟨h2.os,h2.tape,h2.output,h2.size,fun k hk=>h2.block k hk (by simp)⟩⟩;rw [Nat.zero_add,List.nil_append] at h1;refine ⟨h1.1,?_⟩;rcases h1.2 with h3 | ⟨g,c,cur,h3,h4,h5⟩
  ·exact .inl h3
  ·exact .inr ⟨g,c,cur,h3,Nat.le_trans hb h4,h5⟩
theorem copySession_all {base g0 cap:Nat} {a:Option Addr} {ty:TypeId} {xs:List Ss} {w:World} (h0:w.ownsRow base 103 7 (.slice (some ⟨g0,0,none⟩) 0 0) 0 []) (hx:SlIs ssL 7 w a xs) (hl:xs.length≤1048576) (hb:base≤w.heap.size) :
  ∃ v' w',(Builtin.append_ #[37,37] ty #[.slice (some ⟨g0,0,none⟩) 0 0,.slice a xs.length cap]).run Tryz.prog w=.ok v' w'∧w'.ownsRow base 103 7 v' xs.length (flatS ssL xs)∧Below w.heap.size w w':=by
 obtain ⟨i0,hi,hz0,hz1,hz2⟩:=info_parts Tryz.infoSs;by_cases hn:xs=[]
 ·subst hn;have hr:(Builtin.append_ #[37,37] ty #[.slice (some ⟨g0,0,none⟩) 0 0,.slice a 0 cap]).run Tryz.prog w=.ok (.slice (some ⟨g0,0,none⟩) 0 0) w:=by
   cases a with
   | none=>simp [Builtin.append_,run_underlying Tryz.underlying37,sizeOf,typeInfo,hi,Builtin.lenOf,Builtin.firstCells,storeCells]
   | some v =>
    have hr:=run_append_room_cells (P:=Tryz.prog) w 37 ty 103 i0 Tryz.underlying37 hi g0 0 0 0 v 0 cap [] (by simp) (fun j u hu=>by simp at hu) (fun u hu=>by simp at hu) (by omega) (fun j hj=>by simp at hj) (fun j hj=>by simp at hj);simpa [World.setCells] using hr
  exact ⟨_,_,hr,by simpa [flatS] using h0,Below.refl _ _⟩
 ·rcases hx with e | ⟨b,off,rfl,hbl,hx⟩
  ·exact absurd e hn
  have hpos:0 < xs.length:=List.length_pos_iff.2 hn;obtain ⟨v',w',hr,h1,h2⟩:=run_append_arg_grows (P:=Tryz.prog) w 37 ty 103 i0 _ 7 _ Tryz.underlying37 hi hz0 hz1 hz2 rfl (by decide) ⟨g0,0,none⟩ 0 0 [] (by simp) (fun j u hu=>by simp at hu) ⟨b,off,none⟩ xs.length cap (flatS ssL xs) (flatS_length ssL_length xs) (fun j u hu=>by
   rw [Addr.add_lit]; exact flatS_cells ssL_length (by omega) hx j u hu) (by omega) (by unfold maxLen; omega) (by omega)
  refine ⟨v',w',hr,?_,⟨h2.os,h2.tape,h2.output,h2.size,fun k hk=>h2.block k hk (by simp)⟩⟩;rw [Nat.zero_add,List.nil_append] at h1;refine ⟨h1.1,?_⟩;rcases h1.2 with h3 | ⟨g,c,cur,h3,h4,h5⟩
  ·exact .inl h3
  ·exact .inr ⟨g,c,cur,h3,Nat.le_trans hb h4,h5⟩
theorem rowDown {w:World} {base b0 n s:Nat} {e:TypeId} {v:Value} {xs:List Value} (h:w.ownsRow base e s v n xs) (hb:b0≤base):w.ownsRow b0 e s v n xs:=by
 refine ⟨h.1,?_⟩;rcases h.2 with h2 | ⟨g,cap,cur,h3,h4,h5⟩
 ·exact .inl h2
 ·exact .inr ⟨g,cap,cur,h3,Nat.le_trans hb h4,h5⟩
theorem spCopy_any (x:Bb) (ba bo:Option Addr) (ca cb:Nat) (w:World) (hbl1:x.binds.length≤1048576) (hbl2:x.sess.length≤1048576) (hx:BbIs w ba bo x) :
  Calls Tryz.prog 127 #[bbC ba bo ca cb x] w fun e w'=>CopyRet w.heap.size x e w'∧Below w.heap.size w w':=by
 have HZ:Hid (Below w.heap.size w ((aW w (BbV ba ca bo cb x) 39).alloc (.cells #[.slice none 0 0,.slice none 0 0] 39))):=((Below.refl _ _).alloc (Nat.le_refl _) _).alloc (by simp) _;have HB:Hid (HoldsL ((aW w (BbV ba ca bo cb x) 39).alloc (.cells #[.slice none 0 0,.slice none 0 0] 39)) w.heap.size (BbV ba ca bo cb x)):=(HoldsL.new w (BbV ba ca bo cb x) 39).alloc _;have HR:Hid (HoldsL ((aW w (BbV ba ca bo cb x) 39).alloc (.cells #[.slice none 0 0,.slice none 0 0] 39)) (w.heap.size+1) [.slice none 0 0,.slice none 0 0]):=by
  have h:=HoldsL.new (w.alloc (.cells (BbV ba ca bo cb x).toArray 39)) [.slice none 0 0,.slice none 0 0] 39;rw [World.size_alloc] at h; exact h
 have HSX:Hid (BbIs w ba bo x):=hx;clear hx;unfold bbC;go_enter Tryz.func127,Tryz.ntmps127
 go_upto_region 1 with fail
 have hB0':w.heap.size+1 < ((aW w (BbV ba ca bo cb x) 39).alloc (.cells #[.slice none 0 0,.slice none 0 0] 39)).heap.size:=HR.out.lt (by simp);generalize ((aW w (BbV ba ca bo cb x) 39).alloc (.cells #[.slice none 0 0,.slice none 0 0] 39))=W0 at *;have hB0:w.heap.size+1 < W0.drew.heap.size:=by simpa using hB0'
 have hB1:w.heap.size≤W0.drew.heap.size:=by omega
 have HCP:Hid (∀ wy,Below W0.drew.heap.size W0.drew wy→HoldsL wy w.heap.size (BbV ba ca bo cb x)∧HoldsL wy (w.heap.size+1) [.slice none 0 0,.slice none 0 0]∧Below w.heap.size w wy):=fun wy hy=>⟨HB.out.drew.kept (by simp) hy,HR.out.drew.kept (by simp) hy,HZ.out.drew.trans (hy.mono HZ.out.size)⟩
 refine wp_region_growV [3,4,5,6,7,8,9,10,11] (by kernel_rfl) (by kernel_rfl) ?_;refine GChV.rel (n:=0) (IsNo 5 W0.drew.heap.size 94) (stable_isNo _ _ _) [IsNo 5 W0.drew.heap.size 94] rfl rfl ?_ ?_
 ·intro K' a wy ho hd hb hK;rw [wN rfl];clear hd ho;go_simp;exact hK _ _ ⟨wy.heap.size,rfl,World.ownsRow_made wy #[] 0 hb.size (by unfold maxLen; omega) rfl⟩ ((Below.refl _ _).alloc (Nat.le_refl _) _)
 apply GChV.v1
 ·rfl
 ·intro K' a wy ho hd hb hK kz;have o1:=ho 1 (by decide);simp [slot] at o1;clear hd ho;go_simp;try go_bits
  exact kz _ rfl
 apply GChV.v2
 ·rfl
 ·intro K' a wy ho hd hb hK kz;have q1:=hd ⟨1,.data⟩ (by simp) rfl;simp [rAt,IsV,slot] at q1;clear hd ho;have hld:=(HCP.out wy hb).1;obtain ⟨k0,k1⟩:=hld.c2;go_simp;try go_bits
  exact kz _ rfl
 refine GChV.rel (n:=3) (IsRw bdL 5 W0.drew.heap.size 94 x.binds) (stable_isRw _ _ _ _ _) [_,_,_,IsRw bdL 5 W0.drew.heap.size 94 x.binds] rfl rfl ?_ ?_
 ·intro K' a wy ho hd hb hK;rw [wN rfl];obtain ⟨g0,e0,r0⟩ : IsNo 5 W0.drew.heap.size 94 (slot a 3) wy:=hd ⟨0,.data⟩ (by simp) rfl;rw [e0] at r0;simp [slot] at e0;have q2:=hd ⟨2,.data⟩ (by simp) rfl;simp [rAt,IsV,slot] at q2;clear hd ho;obtain ⟨v2,w2,hrun,h22,h23⟩:=copyBind_all (ty:=36) (cap:=ca) r0 ((HSX.out.bd.below (HCP.out wy hb).2.2)) hbl1 hb.size;refine wp_append_run (.tmp 3) (.tmp 5) _ rfl ?_ ?_ hrun (hK _ _ h22 h23)
  ·simpa [Act.eval] using e0
  ·simpa [Act.eval] using q2
 refine GChV.rel (n:=4) (IsNo 7 W0.drew.heap.size 103) (stable_isNo _ _ _) [_,_,_,_,IsNo 7 W0.drew.heap.size 103] rfl rfl ?_ ?_
 ·intro K' a wy ho hd hb hK;rw [wN rfl];clear hd ho;go_simp;exact hK _ _ ⟨wy.heap.size,rfl,World.ownsRow_made wy #[] 0 hb.size (by unfold maxLen; omega) rfl⟩ ((Below.refl _ _).alloc (Nat.le_refl _) _)
 apply GChV.v5
 ·rfl
 ·intro K' a wy ho hd hb hK kz;have o1:=ho 1 (by decide);simp [slot] at o1;clear hd ho;go_simp;try go_bits
  exact kz _ rfl
 apply GChV.v6
 ·rfl
 ·intro K' a wy ho hd hb hK kz;have q5:=hd ⟨5,.data⟩ (by simp) rfl;simp [rAt,IsV,slot] at q5;clear hd ho;have hld:=(HCP.out wy hb).1;obtain ⟨k0,k1⟩:=hld.c2;go_simp;try go_bits
  exact kz _ rfl
 refine GChV.rel (n:=7) (IsRw ssL 7 W0.drew.heap.size 103 x.sess) (stable_isRw _ _ _ _ _) [_,_,_,_,_,_,_,IsRw ssL 7 W0.drew.heap.size 103 x.sess] rfl rfl ?_ ?_
 ·intro K' a wy ho hd hb hK;rw [wN rfl];obtain ⟨g4,e4,r4⟩ : IsNo 7 W0.drew.heap.size 103 (slot a 7) wy:=hd ⟨4,.data⟩ (by simp) rfl;rw [e4] at r4;simp [slot] at e4;have q6:=hd ⟨6,.data⟩ (by simp) rfl;simp [rAt,IsV,slot] at q6;clear hd ho;obtain ⟨v2,w2,hrun,h22,h23⟩:=copySession_all (ty:=37) (cap:=cb) r4 ((HSX.out.ss.below (HCP.out wy hb).2.2)) hbl2 hb.size;refine wp_append_run (.tmp 7) (.tmp 9) _ rfl ?_ ?_ hrun (hK _ _ h22 h23)
  ·simpa [Act.eval] using e4
  ·simpa [Act.eval] using q6
 refine GChV.rel (n:=8) (IsCp W0.drew.heap.size x) (stable_isCp _ _) [_,_,_,_,_,_,_,_,IsCp W0.drew.heap.size x] rfl rfl ?_ ?_
 ·intro K' a wy ho hd hb hK;rw [wN rfl];have r3:IsRw bdL 5 W0.drew.heap.size 94 x.binds (slot a 6) wy:=hd ⟨3,.data⟩ (by simp) rfl;obtain ⟨a3,c3,e3,-,-⟩:=(Row.shape bdL_length (w0:=wy) ⟨r3,Below.refl _ _⟩ : ∃ a' cap,slot a 6=.slice a' x.binds.length cap∧x.binds.length≤cap∧SlOwn bdL 5 W0.drew.heap.size wy a' x.binds);unfold IsRw at r3;rw [e3] at r3;simp [slot] at e3;have r7:IsRw ssL 7 W0.drew.heap.size 103 x.sess (slot a 10) wy:=hd ⟨7,.data⟩ (by simp) rfl;obtain ⟨a7,c7,e7,-,-⟩:=(Row.shape ssL_length (w0:=wy) ⟨r7,Below.refl _ _⟩ : ∃ a' cap,slot a 10=.slice a' x.sess.length cap∧x.sess.length≤cap∧SlOwn ssL 7 W0.drew.heap.size wy a' x.sess);unfold IsRw at r7;rw [e7] at r7;simp [slot] at e7;clear hd ho;go_simp;exact hK _ _ ⟨a3,a7,c3,c7,rfl,r3,r7⟩ (Below.refl _ _)
 intro X wz hR hz;obtain ⟨x0,x1,x2,x3,x4,x5,x6,x7,x8,-⟩:=hR;obtain ⟨g0,e0,-⟩:=x0;have hk3:=x3;clear hk3;obtain ⟨g4,e4,-⟩:=x4;have hk7:=x7;clear hk7;obtain ⟨oa,ob,oc,od,e8,o8,o9⟩:=x8;simp only [IsV] at x1 x2 x5 x6;simp only [putsFrom,e0,x1,x2,putsFrom,e4,x5,x6,putsFrom,e8];clear x1 x2 x5 x6;have hz0:=(HCP.out wz hz).2.1;have HBW:=(HCP.out wz hz).2.2;obtain ⟨z0,z1⟩:=hz0.c2;obtain ⟨f0,f1⟩:=hz0.f2;have HH6:Hid (HoldsL ((sW wz (w.heap.size+1) 0 (.slice oa x.binds.length oc)).setCell ⟨w.heap.size+1,1,none⟩ (.slice ob x.sess.length od)) (w.heap.size+1) (BbV oa oc ob od x)):=(hz0.set 0 _).set 1 _;have HO1:Hid (((sW wz (w.heap.size+1) 0 (.slice oa x.binds.length oc)).setCell ⟨w.heap.size+1,1,none⟩ (.slice ob x.sess.length od)).ownsRow w.heap.size 94 5 (.slice oa x.binds.length oc) x.binds.length (flatS bdL x.binds)):=rowDown (ownC_cell (ownC_cell o8 (ownC_ne o8 hB0)) (ownC_ne o8 hB0)) hB1;have HO2:Hid (((sW wz (w.heap.size+1) 0 (.slice oa x.binds.length oc)).setCell ⟨w.heap.size+1,1,none⟩ (.slice ob x.sess.length od)).ownsRow w.heap.size 103 7 (.slice ob x.sess.length od) x.sess.length (flatS ssL x.sess)):=rowDown (ownC_cell (ownC_cell o9 (ownC_ne o9 hB0)) (ownC_ne o9 hB0)) hB1;have HB6:Hid (Below w.heap.size w ((sW wz (w.heap.size+1) 0 (.slice oa x.binds.length oc)).setCell ⟨w.heap.size+1,1,none⟩ (.slice ob x.sess.length od))):=(HBW.setCell (p:=⟨w.heap.size+1,0,none⟩) (Nat.le_succ _) _).setCell (p:=⟨w.heap.size+1,1,none⟩) (Nat.le_succ _) _;clear hz0 HBW o8 o9 hz;intro K5 hK5;go_simp;refine hK5 _ _ ?_;simp only [wpSeq];go_wp2_with fail
 exact bodyPost_ret (results_mid Tryz.results127 _ _ (w.heap.size+1) (BbV oa oc ob od x) _ rfl HH6.out Tryz.underlying39 rfl (show (Tryz.prog.info? 39).map (·.size)=some 2 by kernel_rfl)) rfl ⟨⟨_,_,rfl,HO1.out,HO2.out⟩,HB6.out⟩
end Go.Proofs.YtcckaeppiamebaaGreatDoor
namespace Go.Proofs.YtcckaeppiamebaaGreatDoor
open Go.RowKit
structure Bxs (w:World) (ks:List (Nat × List Value)) (wx:World):Prop where
 k:∀ e∈ks,HoldsL wx e.1 e.2
 b:Below w.heap.size w wx
 z:∀ e∈ks,0 < e.2.length
theorem Bxs.at {w wx:World} {ks:List (Nat × List Value)} {a:Nat} {l:List Value} (h:Bxs w ks wx) (hm:(a,l)∈ks):HoldsL wx a l:=h.k _ hm
theorem Bxs.kept {w wx wy:World} {ks:List (Nat × List Value)} (h:Bxs w ks wx) (hB:Below wx.heap.size wx wy):Bxs w ks wy:=⟨fun e he=>(h.k e he).kept (h.z e he) hB,h.b.trans (hB.mono h.b.size),h.z⟩
theorem Bxs.lts {w wx:World} {ks:List (Nat × List Value)} (h:Bxs w ks wx):∀ e∈ks,e.1 < wx.heap.size∧0 < e.2.length:=fun e he=>⟨(h.k e he).lt (h.z e he),h.z e he⟩
theorem Bxs.push {w wx:World} {ks:List (Nat × List Value)} (h:Bxs w ks wx) (vs:List Value) (hv:0 < vs.length) (T:TypeId):Bxs w ((wx.heap.size,vs)::ks) (wx.alloc (.cells vs.toArray T)):=by
 have hal:Below wx.heap.size wx (wx.alloc (.cells vs.toArray T)):=(Below.refl _ _).alloc (Nat.le_refl _) _;refine ⟨fun e he=>?_,h.b.trans (hal.mono h.b.size),fun e he=>?_⟩
 ·rcases List.mem_cons.1 he with rfl | he
  ·exact HoldsL.new wx vs T
  ·exact (h.k e he).kept (h.z e he) hal
 ·rcases List.mem_cons.1 he with rfl | he
  ·exact hv
  ·exact h.z e he
theorem Bxs.cons {w wx:World} {ks:List (Nat × List Value)} {g:Nat} {vs:List Value} (h:Bxs w ks wx) (hg:HoldsL wx g vs) (hv:0 < vs.length):Bxs w ((g,vs)::ks) wx:=⟨fun e he=>by
 rcases List.mem_cons.1 he with rfl | he
 ·exact hg
 ·exact h.k e he,h.b,fun e he=>by
 rcases List.mem_cons.1 he with rfl | he
 ·exact hv
 ·exact h.z e he⟩
def IsZy (base:Nat) (zs:List Value):Value→World→Prop:=fun v w=>∃ g,v=.pointer (some ⟨g,0,none⟩)∧base≤g∧HoldsL w g zs
theorem stable_isZy (base:Nat) (zs:List Value) (h:0 < zs.length):Stable (IsZy base zs):=fun v w w' ⟨g,h1,h2,h3⟩ hb=>⟨g,h1,h2,h3.kept h hb⟩
theorem bx1 (w : World) (l0 : List Value) (T0 : TypeId) (z0 : 0 < l0.length) : Hid (Bxs w [(w.heap.size,l0)] (w.alloc (.cells l0.toArray T0))) := by
 have e0:HoldsL (w.alloc (.cells l0.toArray T0)) (w.heap.size) l0:=by
  have h:=HoldsL.new w l0 T0
  try simp only [World.size_alloc] at h
  exact h
 refine ⟨fun e he=>?_,((Below.refl _ _).alloc (by (try simp only [World.size_alloc]); omega) _),fun e he=>?_⟩
 · simp only [List.mem_cons,List.not_mem_nil,or_false] at he
   rcases he with rfl
   · exact e0
 · simp only [List.mem_cons,List.not_mem_nil,or_false] at he
   rcases he with rfl
   · exact z0
theorem bx2 (w : World) (l0 : List Value) (T0 : TypeId) (l1 : List Value) (T1 : TypeId) (z0 : 0 < l0.length) (z1 : 0 < l1.length) : Hid (Bxs w [(w.heap.size,l0),(w.heap.size+1,l1)] ((w.alloc (.cells l0.toArray T0)).alloc (.cells l1.toArray T1))) := by
 have e0:HoldsL ((w.alloc (.cells l0.toArray T0)).alloc (.cells l1.toArray T1)) (w.heap.size) l0:=by
  have h:=HoldsL.new w l0 T0
  try simp only [World.size_alloc] at h
  exact (h.alloc _)
 have e1:HoldsL ((w.alloc (.cells l0.toArray T0)).alloc (.cells l1.toArray T1)) (w.heap.size+1) l1:=by
  have h:=HoldsL.new (w.alloc (.cells l0.toArray T0)) l1 T1
  try simp only [World.size_alloc] at h
  exact h
 refine ⟨fun e he=>?_,(((Below.refl _ _).alloc (by (try simp only [World.size_alloc]); omega) _).alloc (by (try simp only [World.size_alloc]); omega) _),fun e he=>?_⟩
 · simp only [List.mem_cons,List.not_mem_nil,or_false] at he
   rcases he with rfl | rfl
   · exact e0
   · exact e1
 · simp only [List.mem_cons,List.not_mem_nil,or_false] at he
   rcases he with rfl | rfl
   · exact z0
   · exact z1
theorem bx3 (w : World) (l0 : List Value) (T0 : TypeId) (l1 : List Value) (T1 : TypeId) (l2 : List Value) (T2 : TypeId) (z0 : 0 < l0.length) (z1 : 0 < l1.length) (z2 : 0 < l2.length) : Hid (Bxs w [(w.heap.size,l0),(w.heap.size+1,l1),(w.heap.size+1+1,l2)] (((w.alloc (.cells l0.toArray T0)).alloc (.cells l1.toArray T1)).alloc (.cells l2.toArray T2))) := by
 have e0:HoldsL (((w.alloc (.cells l0.toArray T0)).alloc (.cells l1.toArray T1)).alloc (.cells l2.toArray T2)) (w.heap.size) l0:=by
  have h:=HoldsL.new w l0 T0
  try simp only [World.size_alloc] at h
  exact ((h.alloc _).alloc _)
 have e1:HoldsL (((w.alloc (.cells l0.toArray T0)).alloc (.cells l1.toArray T1)).alloc (.cells l2.toArray T2)) (w.heap.size+1) l1:=by
  have h:=HoldsL.new (w.alloc (.cells l0.toArray T0)) l1 T1
  try simp only [World.size_alloc] at h
  exact (h.alloc _)
 have e2:HoldsL (((w.alloc (.cells l0.toArray T0)).alloc (.cells l1.toArray T1)).alloc (.cells l2.toArray T2)) (w.heap.size+1+1) l2:=by
  have h:=HoldsL.new ((w.alloc (.cells l0.toArray T0)).alloc (.cells l1.toArray T1)) l2 T2
  try simp only [World.size_alloc] at h
  exact h
 refine ⟨fun e he=>?_,((((Below.refl _ _).alloc (by (try simp only [World.size_alloc]); omega) _).alloc (by (try simp only [World.size_alloc]); omega) _).alloc (by (try simp only [World.size_alloc]); omega) _),fun e he=>?_⟩
 · simp only [List.mem_cons,List.not_mem_nil,or_false] at he
   rcases he with rfl | rfl | rfl
   · exact e0
   · exact e1
   · exact e2
 · simp only [List.mem_cons,List.not_mem_nil,or_false] at he
   rcases he with rfl | rfl | rfl
   · exact z0
   · exact z1
   · exact z2
theorem bx4 (w : World) (l0 : List Value) (T0 : TypeId) (l1 : List Value) (T1 : TypeId) (l2 : List Value) (T2 : TypeId) (l3 : List Value) (T3 : TypeId) (z0 : 0 < l0.length) (z1 : 0 < l1.length) (z2 : 0 < l2.length) (z3 : 0 < l3.length) : Hid (Bxs w [(w.heap.size,l0),(w.heap.size+1,l1),(w.heap.size+1+1,l2),(w.heap.size+1+1+1,l3)] ((((w.alloc (.cells l0.toArray T0)).alloc (.cells l1.toArray T1)).alloc (.cells l2.toArray T2)).alloc (.cells l3.toArray T3))) := by
 have e0:HoldsL ((((w.alloc (.cells l0.toArray T0)).alloc (.cells l1.toArray T1)).alloc (.cells l2.toArray T2)).alloc (.cells l3.toArray T3)) (w.heap.size) l0:=by
  have h:=HoldsL.new w l0 T0
  try simp only [World.size_alloc] at h
  exact (((h.alloc _).alloc _).alloc _)
 have e1:HoldsL ((((w.alloc (.cells l0.toArray T0)).alloc (.cells l1.toArray T1)).alloc (.cells l2.toArray T2)).alloc (.cells l3.toArray T3)) (w.heap.size+1) l1:=by
  have h:=HoldsL.new (w.alloc (.cells l0.toArray T0)) l1 T1
  try simp only [World.size_alloc] at h
  exact ((h.alloc _).alloc _)
 have e2:HoldsL ((((w.alloc (.cells l0.toArray T0)).alloc (.cells l1.toArray T1)).alloc (.cells l2.toArray T2)).alloc (.cells l3.toArray T3)) (w.heap.size+1+1) l2:=by
  have h:=HoldsL.new ((w.alloc (.cells l0.toArray T0)).alloc (.cells l1.toArray T1)) l2 T2
  try simp only [World.size_alloc] at h
  exact (h.alloc _)
 have e3:HoldsL ((((w.alloc (.cells l0.toArray T0)).alloc (.cells l1.toArray T1)).alloc (.cells l2.toArray T2)).alloc (.cells l3.toArray T3)) (w.heap.size+1+1+1) l3:=by
  have h:=HoldsL.new (((w.alloc (.cells l0.toArray T0)).alloc (.cells l1.toArray T1)).alloc (.cells l2.toArray T2)) l3 T3
  try simp only [World.size_alloc] at h
  exact h
 refine ⟨fun e he=>?_,(((((Below.refl _ _).alloc (by (try simp only [World.size_alloc]); omega) _).alloc (by (try simp only [World.size_alloc]); omega) _).alloc (by (try simp only [World.size_alloc]); omega) _).alloc (by (try simp only [World.size_alloc]); omega) _),fun e he=>?_⟩
 · simp only [List.mem_cons,List.not_mem_nil,or_false] at he
   rcases he with rfl | rfl | rfl | rfl
   · exact e0
   · exact e1
   · exact e2
   · exact e3
 · simp only [List.mem_cons,List.not_mem_nil,or_false] at he
   rcases he with rfl | rfl | rfl | rfl
   · exact z0
   · exact z1
   · exact z2
   · exact z3
theorem bx5 (w : World) (l0 : List Value) (T0 : TypeId) (l1 : List Value) (T1 : TypeId) (l2 : List Value) (T2 : TypeId) (l3 : List Value) (T3 : TypeId) (l4 : List Value) (T4 : TypeId) (z0 : 0 < l0.length) (z1 : 0 < l1.length) (z2 : 0 < l2.length) (z3 : 0 < l3.length) (z4 : 0 < l4.length) : Hid (Bxs w [(w.heap.size,l0),(w.heap.size+1,l1),(w.heap.size+1+1,l2),(w.heap.size+1+1+1,l3),(w.heap.size+1+1+1+1,l4)] (((((w.alloc (.cells l0.toArray T0)).alloc (.cells l1.toArray T1)).alloc (.cells l2.toArray T2)).alloc (.cells l3.toArray T3)).alloc (.cells l4.toArray T4))) := by
 have e0:HoldsL (((((w.alloc (.cells l0.toArray T0)).alloc (.cells l1.toArray T1)).alloc (.cells l2.toArray T2)).alloc (.cells l3.toArray T3)).alloc (.cells l4.toArray T4)) (w.heap.size) l0:=by
  have h:=HoldsL.new w l0 T0
  try simp only [World.size_alloc] at h
  exact ((((h.alloc _).alloc _).alloc _).alloc _)
 have e1:HoldsL (((((w.alloc (.cells l0.toArray T0)).alloc (.cells l1.toArray T1)).alloc (.cells l2.toArray T2)).alloc (.cells l3.toArray T3)).alloc (.cells l4.toArray T4)) (w.heap.size+1) l1:=by
  have h:=HoldsL.new (w.alloc (.cells l0.toArray T0)) l1 T1
  try simp only [World.size_alloc] at h
  exact (((h.alloc _).alloc _).alloc _)
 have e2:HoldsL (((((w.alloc (.cells l0.toArray T0)).alloc (.cells l1.toArray T1)).alloc (.cells l2.toArray T2)).alloc (.cells l3.toArray T3)).alloc (.cells l4.toArray T4)) (w.heap.size+1+1) l2:=by
  have h:=HoldsL.new ((w.alloc (.cells l0.toArray T0)).alloc (.cells l1.toArray T1)) l2 T2
  try simp only [World.size_alloc] at h
  exact ((h.alloc _).alloc _)
 have e3:HoldsL (((((w.alloc (.cells l0.toArray T0)).alloc (.cells l1.toArray T1)).alloc (.cells l2.toArray T2)).alloc (.cells l3.toArray T3)).alloc (.cells l4.toArray T4)) (w.heap.size+1+1+1) l3:=by
  have h:=HoldsL.new (((w.alloc (.cells l0.toArray T0)).alloc (.cells l1.toArray T1)).alloc (.cells l2.toArray T2)) l3 T3
  try simp only [World.size_alloc] at h
  exact (h.alloc _)
 have e4:HoldsL (((((w.alloc (.cells l0.toArray T0)).alloc (.cells l1.toArray T1)).alloc (.cells l2.toArray T2)).alloc (.cells l3.toArray T3)).alloc (.cells l4.toArray T4)) (w.heap.size+1+1+1+1) l4:=by
  have h:=HoldsL.new ((((w.alloc (.cells l0.toArray T0)).alloc (.cells l1.toArray T1)).alloc (.cells l2.toArray T2)).alloc (.cells l3.toArray T3)) l4 T4
  try simp only [World.size_alloc] at h
  exact h
 refine ⟨fun e he=>?_,((((((Below.refl _ _).alloc (by (try simp only [World.size_alloc]); omega) _).alloc (by (try simp only [World.size_alloc]); omega) _).alloc (by (try simp only [World.size_alloc]); omega) _).alloc (by (try simp only [World.size_alloc]); omega) _).alloc (by (try simp only [World.size_alloc]); omega) _),fun e he=>?_⟩
 · simp only [List.mem_cons,List.not_mem_nil,or_false] at he
   rcases he with rfl | rfl | rfl | rfl | rfl
   · exact e0
   · exact e1
   · exact e2
   · exact e3
   · exact e4
 · simp only [List.mem_cons,List.not_mem_nil,or_false] at he
   rcases he with rfl | rfl | rfl | rfl | rfl
   · exact z0
   · exact z1
   · exact z2
   · exact z3
   · exact z4
open Go.PlainAid
structure RowsO (w:World) (base O:Nat) (ks:List (Nat × List Value)) (bv sv:Value) (ys:List Bd) (zs:List Ss) (wx:World):Prop where
 o:HoldsL wx O [bv,sv]
 bo:wx.ownsRow base 94 5 bv ys.length (flatS bdL ys)
 so:wx.ownsRow base 103 7 sv zs.length (flatS ssL zs)
 ne:∀ g,bv.ownBlock=some g→sv.ownBlock=some g→False
 b:Below w.heap.size w wx
 k:∀ e∈ks,HoldsL wx e.1 e.2
 lo:w.heap.size≤O
 hi:bv.ownBlock≠some O∧sv.ownBlock≠some O
 wb:w.heap.size≤base
 hb:base≤wx.heap.size
 kb:∀ e∈ks,e.1 < base∧e.1≠O∧0 < e.2.length
section
variable {w:World} {base O:Nat} {ks:List (Nat × List Value)} {bv sv:Value} {ys:List Bd} {zs:List Ss} {wx wy:World}
theorem RowsO.at {a:Nat} {l:List Value} (h:RowsO w base O ks bv sv ys zs wx) (hm:(a,l)∈ks):HoldsL wx a l:=h.k _ hm
theorem RowsO.kept (h:RowsO w base O ks bv sv ys zs wx) (hB:Below wx.heap.size wx wy):RowsO w base O ks bv sv ys zs wy :=
 ⟨h.o.kept (by simp) hB,own_stable h.bo hB,own_stable h.so hB,h.ne,h.b.trans (hB.mono h.b.size),fun e he=>(h.k e he).kept (h.kb e he).2.2 hB,h.lo,h.hi,h.wb,Nat.le_trans h.hb hB.size,h.kb⟩
theorem RowsO.make {w w5:World} {base:Nat} {ks:List (Nat × List Value)} {bv sv:Value} {x:Bb} (hwb:w.heap.size≤base) (hb:Below w.heap.size w w5) (h1:w5.ownsRow base 94 5 bv x.binds.length (flatS bdL x.binds)) (h2:w5.ownsRow base 103 7 sv x.sess.length (flatS ssL x.sess)) (hk:∀ e∈ks,HoldsL w5 e.1 e.2) (hkb:∀ e∈ks,e.1 < base∧0 < e.2.length) (hbs:base≤w5.heap.size) :
  RowsO w base w5.heap.size ks bv sv x.binds x.sess (w5.alloc (.cells #[bv,sv] 39)):=by
 have n1:bv.ownBlock≠some w5.heap.size:=fun e=>by have:=(ownC_in h1 e).2; omega
 have n2:sv.ownBlock≠some w5.heap.size:=fun e=>by have:=(ownC_in h2 e).2; omega
 have hal:Below w5.heap.size w5 (w5.alloc (.cells #[bv,sv] 39)):=(Below.refl _ _).alloc (Nat.le_refl _) _;have hlo:=Nat.le_trans hwb hbs;refine ⟨HoldsL.new w5 [bv,sv] 39,own_stable h1 hal,own_stable h2 hal,ownT_ne h1 h2 (by decide),hb.trans (hal.mono hlo),fun e he=>(hk e he).kept (hkb e he).2 hal,hlo,⟨n1,n2⟩,hwb,?_,fun e he=>⟨(hkb e he).1,?_,(hkb e he).2⟩⟩
 ·simp; omega
 ·have:=(hkb e he).1;omega
theorem RowsO.appS (h:RowsO w base O ks bv sv ys zs wx) (q:Ss) (g:Nat) (hg:HoldsL wx g (ssL q)) (hlen:zs.length≤1048576) :
  ∃ v6 w6,(Builtin.append_ #[37,37] 37 #[sv,.slice (some ⟨g,0,none⟩) 1 1]).run Tryz.prog wx=.ok v6 w6∧(∃ gg l c,v6=.slice (some ⟨gg,0,none⟩) l c)∧HoldsL w6 O [bv,sv]∧RowsO w base O ks bv v6 ys (zs++[q]) (w6.setCell ⟨O,1,none⟩ v6):=by
 obtain ⟨i0,hi,hz0,hz1,hz2⟩:=info_parts Tryz.infoSs;have hOl:O < wx.heap.size:=h.o.lt (by simp);have hwb:=h.wb;have hlo:=h.lo;have hbb:=h.hb;obtain ⟨v6,w6,hrun,h62,h63,h64,h65⟩:=run_append_own_at (P:=Tryz.prog) wx base 37 37 103 i0 _ 7 _ Tryz.underlying37 hi hz0 hz1 hz2 rfl (by decide) sv _ _ h.so ⟨g,0,none⟩ 1 1 (ssL q) rfl (fun i u hu=>by rw [add_at]; exact hg.cell hu) (ssL_one q) (by unfold maxLen; omega) (by omega) h.hb;have hnr:∀ X,X < base→some X≠sv.ownBlock:=fun X hX e=>ownC_ne h.so hX e.symm
 have n6:v6.ownBlock≠some O:=by
  rcases h65 with h7 | h7<;>rw [h7]
  ·exact h.hi.2
  ·intro e; injection e with e; omega
 have hO:=h.o.grown (by simp) h63 (fun e=>h.hi.2 e.symm);have hne:∀ g,bv.ownBlock=some g→v6.ownBlock=some g→False:=by
  intro g e1 e2;rcases h65 with h7 | h7
  ·exact h.ne g e1 (h7 ▸ e2)
  ·rw [h7] at e2;injection e2 with e3
   have:=(ownC_in h.bo e1).2;omega
 have hold:=World.ownsRow.kept h.bo h63 (by
  by_cases e:bv.ownBlock=none
  ·exact .inl e
  ·refine .inr (fun e2=>?_);obtain ⟨k,hk⟩:=Option.ne_none_iff_exists'.1 e;exact h.ne k hk (e2 ▸ hk))
 have hsz:base≤(w6.setCell ⟨O,1,none⟩ v6).heap.size:=by simp; exact Nat.le_trans h.hb h63.size
 refine ⟨v6,w6,hrun,?_,hO,hO.set 1 v6,ownC_cell hold h.hi.1,ownC_cell (by rw [flatS_snoc,List.length_append]; exact h62) n6,hne,(below_grow h.b h63 (fun k e=>by have:=(ownC_in h.so e).1; omega)).setCell (p:=⟨O,1,none⟩) hlo v6,fun e he=>((h.k e he).grown (h.kb e he).2.2 h63 (hnr _ (h.kb e he).1)).setOther (h.kb e he).2.1 v6,h.lo,⟨h.hi.1,n6⟩,h.wb,hsz,h.kb⟩;rcases h62.2 with ⟨_,h0⟩ | ⟨gg,c6,_,h6,_⟩
 ·simp at h0
 ·exact ⟨gg,_,c6,h6⟩
theorem RowsO.appB (h:RowsO w base O ks bv sv ys zs wx) (q:Bd) (g:Nat) (hg:HoldsL wx g (bdL q)) (hlen:ys.length≤1048576) :
  ∃ v6 w6,(Builtin.append_ #[36,36] 36 #[bv,.slice (some ⟨g,0,none⟩) 1 1]).run Tryz.prog wx=.ok v6 w6∧(∃ gg l c,v6=.slice (some ⟨gg,0,none⟩) l c)∧HoldsL w6 O [bv,sv]∧RowsO w base O ks v6 sv (ys++[q]) zs (w6.setCell ⟨O,0,none⟩ v6):=by
 obtain ⟨i0,hi,hz0,hz1,hz2⟩:=info_parts Tryz.infoBd;have hOl:O < wx.heap.size:=h.o.lt (by simp);have hwb:=h.wb;have hlo:=h.lo;have hbb:=h.hb;obtain ⟨v6,w6,hrun,h62,h63,h64,h65⟩:=run_append_own_at (P:=Tryz.prog) wx base 36 36 94 i0 _ 5 _ Tryz.underlying36 hi hz0 hz1 hz2 rfl (by decide) bv _ _ h.bo ⟨g,0,none⟩ 1 1 (bdL q) rfl (fun i u hu=>by rw [add_at]; exact hg.cell hu) (bdL_one q) (by unfold maxLen; omega) (by omega) h.hb;have hnr:∀ X,X < base→some X≠bv.ownBlock:=fun X hX e=>ownC_ne h.bo hX e.symm
 have n6:v6.ownBlock≠some O:=by
  rcases h65 with h7 | h7<;>rw [h7]
  ·exact h.hi.1
  ·intro e; injection e with e; omega
 have hO:=h.o.grown (by simp) h63 (fun e=>h.hi.1 e.symm);have hne:∀ g,v6.ownBlock=some g→sv.ownBlock=some g→False:=by
  intro g e1 e2;rcases h65 with h7 | h7
  ·exact h.ne g (h7 ▸ e1) e2
  ·rw [h7] at e1;injection e1 with e3
   have:=(ownC_in h.so e2).2;omega
 have hold:=World.ownsRow.kept h.so h63 (by
  by_cases e:sv.ownBlock=none
  ·exact .inl e
  ·refine .inr (fun e2=>?_);obtain ⟨k,hk⟩:=Option.ne_none_iff_exists'.1 e;exact h.ne k (e2 ▸ hk) hk)
 have hsz:base≤(w6.setCell ⟨O,0,none⟩ v6).heap.size:=by simp; exact Nat.le_trans h.hb h63.size
 refine ⟨v6,w6,hrun,?_,hO,hO.set 0 v6,ownC_cell (by rw [flatS_snoc,List.length_append]; exact h62) n6,ownC_cell hold h.hi.2,hne,(below_grow h.b h63 (fun k e=>by have:=(ownC_in h.bo e).1; omega)).setCell (p:=⟨O,0,none⟩) hlo v6,fun e he=>((h.k e he).grown (h.kb e he).2.2 h63 (hnr _ (h.kb e he).1)).setOther (h.kb e he).2.1 v6,h.lo,⟨n6,h.hi.2⟩,h.wb,hsz,h.kb⟩;rcases h62.2 with ⟨_,h0⟩ | ⟨gg,c6,_,h6,_⟩
 ·simp at h0
 ·exact ⟨gg,_,c6,h6⟩
theorem RowsO.shapes (h:RowsO w base O ks bv sv ys zs wx):(∃ a cap,bv=.slice a ys.length cap∧ys.length≤cap∧SlOwn bdL 5 base wx a ys)∧∃ a cap,sv=.slice a zs.length cap∧zs.length≤cap∧SlOwn ssL 7 base wx a zs :=
 ⟨Row.shape bdL_length (w0:=wx) ⟨h.bo,Below.refl _ _⟩,Row.shape ssL_length (w0:=wx) ⟨h.so,Below.refl _ _⟩⟩
end
theorem trackLife_in (l:Lv) (proto st:Int):0≤trackLifeV l proto st∧trackLifeV l proto st≤10000:=by
 unfold trackLifeV
 cases h:livesOk l with
 | false=>simp
 | true =>
  unfold livesOk isIn at h;simp only [Bool.and_eq_true,decide_eq_true_iff] at h;simp only [Bool.true_eq_false,if_false];(repeat' split)<;>omega
theorem flatS_set {α:Type} {en:α→List Value} {n:Nat} (hn:∀ x,(en x).length=n) (j:Nat) (hj:j < n) (v:Value):∀ (xs:List α) (i:Nat) (hi:i < xs.length) (y:α),en y=(en xs[i]).set j v→flatS en (xs.set i y)=(flatS en xs).set (i*n+j) v
 | [],i,hi,y,_=>by simp at hi
 | x::xs,0,hi,y,hy=>by
  simp only [List.getElem_cons_zero] at hy;simp only [List.set_cons_zero,flatS,Nat.zero_mul,Nat.zero_add,List.flatMap_cons];rw [hy,List.set_append_left _ _ (by rw [hn]; exact hj)]
 | x::xs,i+1,hi,y,hy=>by
  simp only [List.getElem_cons_succ] at hy;have ih:=flatS_set hn j hj v xs i (by simpa using hi) y hy;unfold flatS at ih ⊢;simp only [List.set_cons_succ,List.flatMap_cons];have hm:(i+1)*n=n+i*n:=by rw [Nat.succ_mul]; omega
  rw [ih,List.set_append_right _ _ (by rw [hn]; omega),hn];congr 2
  omega
theorem own_set {w:World} {base e s n g cap:Nat} {xs:List Value} (h:w.ownsRow base e s (.slice (some ⟨g,0,none⟩) n cap) n xs) (j:Nat) (hj:j < xs.length) (u:Value):(w.setCell ⟨g,j,none⟩ u).ownsRow base e s (.slice (some ⟨g,0,none⟩) n cap) n (xs.set j u):=by
 obtain ⟨h1,h2⟩:=h;refine ⟨by rw [List.length_set]; exact h1,?_⟩;rcases h2 with ⟨e1,_⟩ | ⟨g',cap',cur,e1,hb,hh,hnc,hcm,hcs,hcur⟩
 ·cases e1
 ·injection e1 with i1 i2 i3
  injection i1 with i1
  injection i1 with i1
  subst i1 i3;refine .inr ⟨g,cap,cur.setIfInBounds j u,rfl,hb,?_,hnc,hcm,by rw [Array.size_setIfInBounds]; exact hcs,?_⟩
  ·show (w.heap.modify g _)[g]?=_;rw [Array.getElem?_modify,if_pos rfl,hh];rfl
  ·rw [Array.toList_setIfInBounds,List.take_set,hcur]
theorem set_self {xs:List Value} {j:Nat} {v:Value} (h:xs[j]?=some v):xs.set j v=xs:=by
 obtain ⟨hj,rfl⟩:=List.getElem?_eq_some_iff.1 h;exact List.set_getElem_self hj
theorem own_free {w:World} {base e s n m g cap:Nat} {xs:List Value} (h:w.ownsRow base e s (.slice (some ⟨g,0,none⟩) n cap) m xs) (j:Nat):w.frozen? ⟨g,j,none⟩=false:=by
 rcases h.2 with ⟨e1,_⟩ | ⟨g',cap',cur,e1,hb,hh,_⟩
 ·cases e1
 ·injection e1 with i1 i2 i3
  injection i1 with i1
  injection i1 with i1
  subst i1;unfold World.frozen?;simp [hh]
theorem own_at {w:World} {base e n m g cap:Nat} {xs:List Ss} (h:w.ownsRow base e 7 (.slice (some ⟨g,0,none⟩) n cap) m (flatS ssL xs)) (hnm:n=m) (i:Nat) (hi:i < xs.length) (j:Nat) (v:Value) (hv:(ssL xs[i])[j]?=some v):w.cell? ⟨g,i*7+j,none⟩=some v:=by
 subst hnm;have hl:=flatS_length ssL_length xs;have hj:j < 7:=by have:=(List.getElem?_eq_some_iff.1 hv).1; rwa [ssL_length] at this
 have hn:=h.1;rw [hl] at hn;have hnl:n=xs.length:=by omega
 rw [World.ownsRow.cellAt h _ (by rw [hnl]; omega)];have hs:=flatS_set ssL_length j hj v xs i hi xs[i] (by rw [set_self hv]);rw [List.set_getElem_self] at hs;rw [hs,List.getElem?_set_self (by rw [hl]; omega)]
theorem RowsO.setS {w:World} {base O g cs n:Nat} {ks:List (Nat × List Value)} {bv:Value} {ys:List Bd} {zs:List Ss} {wx:World} (h:RowsO w base O ks bv (.slice (some ⟨g,0,none⟩) n cs) ys zs wx) (hnz:n=zs.length) (i:Nat) (hi:i < zs.length) (j:Nat) (hj:j < 7) (v:Value) (y:Ss) (hy:ssL y=(ssL zs[i]).set j v):RowsO w base O ks bv (.slice (some ⟨g,0,none⟩) n cs) ys (zs.set i y) (wx.setCell ⟨g,i*7+j,none⟩ v):=by
 subst hnz;have hO:O≠g:=fun e=>h.hi.2 (by rw [e]; rfl)
 have hg:=(ownC_in h.so (g:=g) rfl).1;have hbv:bv.ownBlock≠some g:=fun e=>h.ne g e rfl
 have hwb:=h.wb;refine ⟨h.o.setOther hO _,ownC_cell h.bo hbv,?_,h.ne,h.b.setCell (p:=⟨g,i*7+j,none⟩) (by show w.heap.size≤g; omega) v,fun e he=>(h.k e he).setOther (by have:=(h.kb e he).1; omega) _,h.lo,h.hi,h.wb,by simpa using h.hb,h.kb⟩;rw [List.length_set,flatS_set ssL_length j hj v zs i hi y hy];exact own_set h.so _ (by rw [flatS_length ssL_length]; omega) v
theorem idx_some {α:Type} {f:α→Bool} {xs:List α} {i:Nat} (h:xs.findIdx? f=some i):∃ hi:i < xs.length,xs.find? f=some xs[i]:=by
 obtain ⟨hi,hf,hn⟩:=List.findIdx?_eq_some_iff_getElem.1 h;refine ⟨hi,find_at hi ?_ hf⟩;rw [List.find?_eq_none];intro y hy;obtain ⟨k,hk,rfl⟩:=List.getElem_of_mem hy;rw [List.length_take] at hk;rw [List.getElem_take];exact hn k (by omega)
theorem idx_none {α:Type} {f:α→Bool} {xs:List α} (h:xs.findIdx? f=none):xs.find? f=none:=by
 rw [List.find?_eq_none];intro y hy;have:=List.findIdx?_eq_none_iff.1 h y hy;simp [this]
end Go.Proofs.YtcckaeppiamebaaGreatDoor
namespace Go.Proofs.YtcckaeppiamebaaGreatDoor
open Go.RowKit
def key5 (s:Ss):Int × List UInt8 × Int × List UInt8 × Int:=(s.proto,s.inn.toList,s.inPort,s.peer.toList,s.peerPort)
theorem sameS_key (s t:Ss):sameS s t=decide (key5 s=key5 t):=by
 unfold sameS key5;rw [Bool.eq_iff_iff]; simp [and_assoc]
theorem any_same (s:Ss) (ys:List Ss):(ys.any fun t=>sameS s t)=decide (key5 s∈ys.map key5):=by
 rw [Bool.eq_iff_iff];simp only [List.any_eq_true,decide_eq_true_iff,List.mem_map,sameS_key];constructor
 ·rintro ⟨t,h1,h2⟩; exact ⟨t,h1,h2.symm⟩
 ·rintro ⟨t,h1,h2⟩; exact ⟨t,h1,h2.symm⟩
theorem hasS_key (c:Bd) (s:Ss):hasS c s=decide (keyB c=keyS s):=by
 unfold hasS keyB keyS;rw [Bool.eq_iff_iff]; simp [and_assoc]
theorem any_has (c:Bd) (ys:List Ss):(ys.any fun s=>hasS c s)=decide (keyB c∈ys.map keyS):=by
 rw [Bool.eq_iff_iff];simp only [List.any_eq_true,decide_eq_true_iff,List.mem_map,hasS_key];constructor
 ·rintro ⟨t,h1,h2⟩; exact ⟨t,h1,h2.symm⟩
 ·rintro ⟨t,h1,h2⟩; exact ⟨t,h1,h2.symm⟩
def sessV (s:Ss):Bool:=decide (s.peer.size=4)&&isW s.peerPort&&isIn s.state 1 7&&(decide (s.proto=6)||decide (s.state=3))&&isIn s.untl 0 2000000000
theorem sessOne_eq (bs:List Bd) (ys:List Ss) (s:Ss):sessOne bs ys s=(sessV s&&decide (0≤findI (ofIn s.proto s.inn s.inPort) bs)&&!decide (key5 s∈ys.map key5)):=by
 unfold sessOne sessV; rw [any_same]
theorem find_at_any (s:Ss) (bs:List Bd):decide (0≤findI (ofIn s.proto s.inn s.inPort) bs)=bs.any (ofIn s.proto s.inn s.inPort):=findI_any _ _
structure BibR (p:Pl) (x:Bb):Prop where
 pool:poolOk p=true
 most:(x.sess.length:Int)≤p.most
 len:x.binds.length≤60
 bind:∀ i (h:i < x.binds.length),bindOne p (x.binds.take i) x.binds[i]=true
 sess:∀ s∈x.sess,sessV s=true
 has:∀ s∈x.sess,x.binds.any (ofIn s.proto s.inn s.inPort)=true
 nodup:(x.sess.map key5).Nodup
 all:∀ c∈x.binds,keyB c∈x.sess.map keyS
theorem nodup_take {α:Type} {xs:List α}:xs.Nodup↔∀ i (h:i < xs.length),xs[i] ∉ xs.take i:=by
 rw [List.nodup_iff_pairwise_ne,List.pairwise_iff_getElem];constructor
 ·intro h i hi hm;obtain ⟨k,hk,hki,e⟩:=mem_take hm;exact h k i hk hi hki e
 ·intro h i j hi hj hij e;exact h j hj (e ▸ take_mem hi hij)
theorem bibR_iff {p:Pl} {x:Bb}:bibOk p x=true↔BibR p x:=by
 unfold bibOk;simp only [Bool.and_eq_true,decide_eq_true_iff,List.all_eq_true];constructor
 ·rintro ⟨⟨⟨⟨⟨h1,h2⟩,h3⟩,h4⟩,h5⟩,h6⟩;have h5':=upN_iff.1 h5;have key:∀ i (h:i < x.sess.length),sessV x.sess[i]=true∧x.binds.any (ofIn x.sess[i].proto x.sess[i].inn x.sess[i].inPort)=true∧key5 x.sess[i] ∉ (x.sess.take i).map key5:=by
   intro i hi;have:=h5' i hi;rw [sessOne_eq,find_at_any] at this;simp only [Bool.and_eq_true,Bool.not_eq_true',decide_eq_false_iff_not] at this;exact ⟨this.1.1,this.1.2,this.2⟩
  refine ⟨h1,h2,h3,upN_iff.1 h4,fun s hs=>?_,fun s hs=>?_,?_,fun c hc=>?_⟩
  ·obtain ⟨i,hi,rfl⟩:=List.getElem_of_mem hs; exact (key i hi).1
  ·obtain ⟨i,hi,rfl⟩:=List.getElem_of_mem hs; exact (key i hi).2.1
  ·rw [nodup_take];intro i hi;rw [List.length_map] at hi;rw [List.getElem_map,← List.map_take];exact (key i hi).2.2
  ·have:=h6 c hc;rw [any_has] at this;exact of_decide_eq_true this
 ·rintro ⟨h1,h2,h3,h4,h5,h6,h7,h8⟩;refine ⟨⟨⟨⟨⟨h1,h2⟩,h3⟩,upN_iff.2 h4⟩,upN_iff.2 fun i hi=>?_⟩,fun c hc=>?_⟩
  ·rw [sessOne_eq,find_at_any];simp only [Bool.and_eq_true,Bool.not_eq_true',decide_eq_false_iff_not];refine ⟨⟨h5 _ (List.getElem_mem hi),h6 _ (List.getElem_mem hi)⟩,?_⟩;have:=nodup_take.1 h7 i (by simpa using hi);rwa [List.getElem_map,← List.map_take] at this
  ·rw [any_has]; exact decide_eq_true (h8 c hc)
theorem map_set_same {α β:Type} (f:α→β) (xs:List α) (i:Nat) (hi:i < xs.length) (y:α) (h:f y=f xs[i]):(xs.set i y).map f=xs.map f:=by
 rw [List.map_set,h];apply List.ext_getElem
 ·simp
 ·intro k h1 h2;rw [List.getElem_set];split
  ·rename_i e; subst e; simp
  ·rfl
theorem trackNext_in {proto st:Int} {ins:Bool} {fl:Int} (hp:protoB proto=true) (hs:isIn st 1 7=true) (hf:isIn fl 0 255=true):isIn (trackNextV proto st ins fl) 1 7=true∧(proto=6∨trackNextV proto st ins fl=3):=by
 unfold protoB at hp;simp only [Bool.or_eq_true,decide_eq_true_iff] at hp;unfold trackNextV;by_cases h:stillP proto=true
 ·rw [if_pos h]; exact ⟨by decide,.inr rfl⟩
 ·rw [if_neg h];have h6:proto=6:=by
   unfold stillP at h;simp only [Bool.or_eq_true,decide_eq_true_iff,not_or] at h;rcases hp with (h1 | h1) | h1
   ·exact h1
   ·exact absurd h1 h.1
   ·exact absurd h1 h.2
  rw [if_pos ⟨h6,hs,hf⟩];refine ⟨?_,.inl h6⟩;unfold isIn at hs ⊢;simp only [Bool.and_eq_true,decide_eq_true_iff] at hs ⊢;(repeat' split)<;>omega
theorem trackNew_in {proto:Int} {ins:Bool} {fl:Int} (h0:trackNewV proto ins fl≠0):isIn (trackNewV proto ins fl) 1 7=true∧(proto=6∨trackNewV proto ins fl=3):=by
 unfold trackNewV at h0 ⊢;by_cases h1:isIn fl 0 255=false
 ·rw [if_pos h1] at h0; exact absurd rfl h0
 rw [if_neg h1] at h0 ⊢;by_cases h2:stillP proto=true
 ·rw [if_pos h2]; exact ⟨by decide,.inr rfl⟩
 rw [if_neg h2] at h0 ⊢;by_cases h3:proto=6∧flagB fl 2=true∧flagB fl 4=false∧flagB fl 16=false
 ·rw [if_pos h3];refine ⟨?_,.inl h3.1⟩;split<;>decide
 ·rw [if_neg h3] at h0; exact absurd rfl h0
theorem untl_in {now lf:Int} (hn:isTime now=true) (h0:0≤lf) (h1:lf≤10000):isIn (now+lf) 0 2000000000=true:=by
 unfold isTime isIn at hn;unfold isIn;simp only [Bool.and_eq_true,decide_eq_true_iff] at hn ⊢;omega
theorem ofIn_proto {p:Pl} {x:Bb} (h:BibR p x) {s:Ss} (hs:s∈x.sess):protoB s.proto=true:=by
 obtain ⟨c,hc,ho⟩:=List.any_eq_true.1 (h.has s hs);obtain ⟨i,hi,rfl⟩:=List.getElem_of_mem hc;have:=h.bind i hi;unfold bindOne at this;simp only [Bool.and_eq_true] at this;unfold ofIn at ho;simp only [Bool.and_eq_true,decide_eq_true_iff] at ho;rw [← ho.1.1]; exact this.1.1.1.1.1
theorem next_right {p:Pl} {x:Bb} {t:Tc} {now:Int} (h:BibR p x) (hn:isTime now=true) (ht:touchOk t=true) {i:Nat} (hi:i < x.sess.length) (hpr:x.sess[i].proto=t.proto):BibR p ⟨x.binds,x.sess.set i (nextS p t now x.sess[i])⟩:=by
 have hlf:=trackLife_in p.lv t.proto (trackNextV t.proto x.sess[i].state t.inside t.flags);have hk5:(x.sess.set i (nextS p t now x.sess[i])).map key5=x.sess.map key5:=map_set_same key5 _ i hi _ rfl;have hkS:(x.sess.set i (nextS p t now x.sess[i])).map keyS=x.sess.map keyS:=map_set_same keyS _ i hi _ rfl;have hfl:isIn t.flags 0 255=true:=by unfold touchOk at ht; simp only [Bool.and_eq_true] at ht; exact ht.2
 refine ⟨h.pool,by simpa using h.most,h.len,h.bind,fun s hs=>?_,fun s hs=>?_,by rw [hk5]; exact h.nodup,fun c hc=>by rw [hkS]; exact h.all c hc⟩
 ·rcases List.mem_or_eq_of_mem_set hs with hs | rfl
  ·exact h.sess s hs
  ·have h1:=h.sess _ (List.getElem_mem hi);unfold sessV at h1 ⊢;simp only [Bool.and_eq_true,Bool.or_eq_true,decide_eq_true_iff] at h1 ⊢;have h2:=trackNext_in (ins:=t.inside) (hpr ▸ ofIn_proto h (List.getElem_mem hi)) h1.1.1.2 hfl;refine ⟨⟨⟨h1.1.1.1,h2.1⟩,?_⟩,untl_in hn hlf.1 hlf.2⟩;rcases h2.2 with e | e
   ·exact .inl (hpr.trans e)
   ·exact .inr e
 ·rcases List.mem_or_eq_of_mem_set hs with hs | rfl
  ·exact h.has s hs
  ·have:=h.has x.sess[i] (List.getElem_mem hi);exact this
theorem leastN_in {f:Int→Bool}:∀ (c:Nat) (lo n:Int),leastN f lo c=some n→lo≤n∧n < lo+c∧f n=true
 | 0,lo,n,h=>by simp [leastN] at h
 | c+1,lo,n,h=>by
  unfold leastN at h;by_cases hf:f lo=true
  ·rw [if_pos hf] at h; injection h with h; subst h; exact ⟨by omega,by omega,hf⟩
  ·rw [if_neg hf] at h;have:=leastN_in c (lo+1) n h;exact ⟨by omega,by omega,this.2.2⟩
theorem lendN_in {p:Pl} {xs:List Bd} {proto:Int} {out:ByteArray} {port n:Int} (h:lendN p xs proto out port=some n):isIn n p.low p.high=true∧freeP xs proto out n=true:=by
 unfold lendN at h;by_cases h1:(isIn port p.low p.high&&freeP xs proto out port)=true
 ·rw [if_pos h1] at h; injection h with h; subst h
  simp only [Bool.and_eq_true] at h1; exact h1
 ·rw [if_neg h1] at h;have fin:∀ g m,leastN g p.low (p.high-p.low+1).toNat=some m→isIn m p.low p.high=true∧g m=true:=by
   intro g m hm;have:=leastN_in _ _ _ hm;refine ⟨?_,this.2.2⟩;unfold isIn;simp only [Bool.and_eq_true,decide_eq_true_iff];omega
  cases h2:leastN (fun n=>decide (n % 2=port % 2)&&freeP xs proto out n) p.low (p.high-p.low+1).toNat with
  | some m =>
   rw [h2] at h;injection h with h; subst h
   have:=fin _ _ h2;simp only [Bool.and_eq_true] at this;exact ⟨this.1,this.2.2⟩
  | none =>
   rw [h2] at h;exact fin _ _ h
theorem outIn_pool {p:Pl} {x:Bb} (h:BibR p x) (s:ByteArray):inL p.addrs (outIn x.binds (outD p s) s)=true:=by
 unfold outIn
 cases hf:x.binds.find? (ofHost s) with
 | some c =>
  obtain ⟨i,hi,rfl⟩:=List.getElem_of_mem (List.mem_of_find?_eq_some hf);have:=h.bind i hi;unfold bindOne at this;simp only [Bool.and_eq_true] at this;exact this.1.1.2
 | none =>
  have hp:=h.pool;unfold poolOk at hp;simp only [Bool.and_eq_true,decide_eq_true_iff] at hp;have h1:1≤p.addrs.length:=hp.1.1.1.1.1.1.1.1;have hm:(sumV s).toNat % p.addrs.length < p.addrs.length:=Nat.mod_lt _ (by omega);show inL p.addrs (outD p s)=true;unfold outD inL;rw [List.getElem?_eq_getElem hm,Option.getD_some];exact List.any_eq_true.2 ⟨_,List.getElem_mem hm,by simp⟩
theorem lend_one {p:Pl} {x:Bb} {t:Tc} {c:Bd} (h:BibR p x) (ht:touchOk t=true) (hf:x.binds.find? (ofIn t.proto t.addr t.port)=none) (hl:lendV p x.binds t.proto t.addr t.port=(c,0)):bindOne p x.binds c=true∧c.proto=t.proto∧c.inn=t.addr∧c.inPort=t.port:=by
 unfold lendV at hl;rw [hf] at hl;dsimp only at hl
 cases hn:lendN p x.binds t.proto (outIn x.binds (outD p t.addr) t.addr) t.port with
 | none=>rw [hn] at hl; simp at hl
 | some n =>
  rw [hn] at hl;injection hl with hl _
  subst hl;have hin:=lendN_in hn;have hpo:=outIn_pool h t.addr;unfold touchOk at ht;simp only [Bool.and_eq_true] at ht;refine ⟨?_,rfl,rfl,rfl⟩;unfold bindOne;simp only [Bool.and_eq_true,Bool.not_eq_true'];refine ⟨⟨⟨⟨⟨ht.1.1.1.1.1.1,ht.1.1.1.1.1.2⟩,ht.1.1.1.2⟩,hpo⟩,hin.1⟩,?_⟩;rw [List.any_eq_false];intro b hb hcl;unfold clashB at hcl;simp only [Bool.or_eq_true,Bool.and_eq_true,decide_eq_true_iff,Bool.not_eq_true',decide_eq_false_iff_not] at hcl;rcases hcl with ⟨e1,e2⟩ | ⟨e1,⟨e2,e3⟩ | ⟨e2,e3⟩⟩
  ·
   obtain ⟨i,hi,rfl⟩:=List.getElem_of_mem hb;have hbk:bookOk p x=true:=by rw [book_bib]; exact bibR_iff.2 h
   unfold bookOk at hbk;simp only [Bool.and_eq_true] at hbk;have hfi:=upN_iff.1 hbk.1.2 i hi;unfold fitB at hfi;simp only [Bool.and_eq_true,decide_eq_true_iff] at hfi;have h8:=hfi.1.2;rw [outIn_host e1] at h8;have hsm:(x.binds.find? (ofHost t.addr)).isSome=true:=by
    rw [find_some_any]; exact List.any_eq_true.2 ⟨_,hb,by unfold ofHost; exact decide_eq_true e1⟩
   rw [← outIn_some (d:=outD p t.addr) hsm] at h8;exact e2 h8.symm
  ·exact List.find?_eq_none.1 hf b hb (by unfold ofIn; simp [e1,e2,e3])
  ·have hfr:=hin.2;rw [free_any] at hfr;simp only [Bool.not_eq_true'] at hfr;exact List.any_eq_false.1 hfr b hb (by unfold ofOut; simp [e1,e2,e3])
theorem snoc_right {p:Pl} {x:Bb} {s:Ss} {ys:List Bd} {c:Bd} (h:BibR p x) (hm:(x.sess.length:Int) < p.most) (hys:ys=x.binds∨(ys=x.binds++[c]∧bindOne p x.binds c=true)) (hc:c∈ys) (hk:keyB c=keyS s) (hv:sessV s=true) (hn:key5 s ∉ x.sess.map key5):BibR p ⟨ys,x.sess++[s]⟩:=by
 have hpm:=pool_most h.pool;have hbl:x.binds.length≤x.sess.length:=binds_le h.bind (fun c hc=>by rw [any_has]; exact decide_eq_true (h.all c hc));have hsub:∀ b,b∈x.binds→b∈ys:=by
  intro b hb;rcases hys with e | ⟨e,_⟩<;>rw [e]
  ·exact hb
  ·exact List.mem_append_left _ hb
 have hcs:ofIn s.proto s.inn s.inPort c=true:=by
  unfold keyB keyS at hk;simp only [Prod.mk.injEq] at hk;unfold ofIn; simp [hk.1,hk.2.1,hk.2.2]
 refine ⟨h.pool,by simp; omega,?_,?_,fun q hq=>?_,fun q hq=>?_,?_,fun b hb=>?_⟩
 ·rcases hys with e | ⟨e,_⟩<;>rw [e]
  ·exact h.len
  ·simp; omega
 ·intro i hi;rcases hys with e | ⟨e,h1⟩
  ·subst e; exact h.bind i hi
  ·subst e;dsimp only at hi ⊢;by_cases hlt:i < x.binds.length
   ·rw [List.getElem_append_left hlt,List.take_append_of_le_length (Nat.le_of_lt hlt)];exact h.bind i hlt
   ·have hie:i=x.binds.length:=by simp at hi; omega
    subst hie;simpa using h1
 ·rcases List.mem_append.1 hq with hq | hq
  ·exact h.sess q hq
  ·simp at hq; subst hq; exact hv
 ·rcases List.mem_append.1 hq with hq | hq
  ·obtain ⟨b,hb,ho⟩:=List.any_eq_true.1 (h.has q hq);exact List.any_eq_true.2 ⟨b,hsub b hb,ho⟩
  ·simp at hq; subst hq; exact List.any_eq_true.2 ⟨c,hc,hcs⟩
 ·rw [List.map_append,List.nodup_append];refine ⟨h.nodup,by simp,?_⟩;intro a ha b hb;simp at hb;subst hb;exact fun e=>hn (e ▸ ha)
 ·rw [List.map_append];rcases hys with e | ⟨e,_⟩
  ·subst e; exact List.mem_append_left _ (h.all b hb)
  ·subst e;rcases List.mem_append.1 hb with hb | hb
   ·exact List.mem_append_left _ (h.all b hb)
   ·simp at hb; subst hb;exact List.mem_append_right _ (by simp [hk])
theorem key5_with {c:Bd} {t:Tc} {q s:Ss} (hs:key5 s=key5 q) (hk:keyB c=keyS s) (hp:s.peer=t.peer) (hpp:s.peerPort=t.peerPort):withP c t.peer t.peerPort q=true:=by
 unfold withP;rw [hasS_key];unfold key5 at hs;unfold keyB keyS at hk;unfold keyB keyS;simp only [Prod.mk.injEq] at hs hk ⊢;simp only [Bool.and_eq_true,decide_eq_true_iff];exact ⟨⟨⟨hk.1.trans hs.1,hk.2.1.trans hs.2.1,hk.2.2.trans hs.2.2.1⟩,by rw [← hp]; exact hs.2.2.2.1.symm⟩,by rw [← hpp]; exact hs.2.2.2.2.symm⟩
theorem new_right {p:Pl} {x:Bb} {t:Tc} {c:Bd} {now:Int} (h:BibR p x) (hn:isTime now=true) (ht:touchOk t=true) (hst:trackNewV t.proto t.inside t.flags≠0) (hm:(x.sess.length:Int) < p.most) (hcp:c.proto=t.proto)
  (hb:(newB x.binds c=x.binds∧c∈x.binds)∨(newB x.binds c=x.binds++[c]∧bindOne p x.binds c=true)) (hno:∀ q∈x.sess,withP c t.peer t.peerPort q=false) :
  BibR p ⟨newB x.binds c,x.sess++[sessN p t c (trackNewV t.proto t.inside t.flags) now]⟩:=by
 have hlf:=trackLife_in p.lv t.proto (trackNewV t.proto t.inside t.flags);have hkk:keyB c=keyS (sessN p t c (trackNewV t.proto t.inside t.flags) now):=by
  unfold keyB keyS sessN; rw [hcp]
 have htw:=ht;unfold touchOk at htw;simp only [Bool.and_eq_true,decide_eq_true_iff] at htw;refine snoc_right (c:=c) h hm ?_ ?_ hkk ?_ ?_
 ·rcases hb with ⟨e,_⟩ | ⟨e,h1⟩
  ·exact .inl e
  ·exact .inr ⟨e,h1⟩
 ·rcases hb with ⟨e,h1⟩ | ⟨e,_⟩<;>rw [e]
  ·exact h1
  ·simp
 ·have h2:=trackNew_in hst;unfold sessV sessN;simp only [Bool.and_eq_true,Bool.or_eq_true,decide_eq_true_iff];exact ⟨⟨⟨⟨htw.1.1.2,htw.1.2⟩,h2.1⟩,h2.2⟩,untl_in hn hlf.1 hlf.2⟩
 ·intro hm;obtain ⟨q,hq,e⟩:=List.mem_map.1 hm;have:=key5_with (c:=c) (t:=t) e.symm hkk rfl rfl;rw [hno q hq] at this;exact absurd this (by decide)
def NewTold (p:Pl) (x:Bb) (t:Tc) (c:Bd) (o:Bo):Prop:=BibR p o.bib∧(∃ k,o.bib.binds=x.binds∨(t.inside=true∧o.bib.binds=x.binds++[k]))∧o.bind∈o.bib.binds∧(t.inside=true→hostE o.bind=⟨t.proto,t.addr,t.port⟩)∧(t.inside=false→o.bind=c∧o.bib.binds=x.binds)
def GoTold (p:Pl) (x:Bb) (t:Tc) (o:Bo):Prop:=BibR p o.bib∧(∃ k,o.bib.binds=x.binds∨(t.inside=true∧o.bib.binds=x.binds++[k]))∧o.bind∈o.bib.binds∧(t.inside=true→hostE o.bind=⟨t.proto,t.addr,t.port⟩)∧(t.inside=false→x.binds.find? (ofOut t.proto t.addr t.port)=some o.bind∧o.bib.binds=x.binds)
theorem newV_right {p:Pl} {x:Bb} {t:Tc} {c:Bd} {now:Int} (h:BibR p x) (hn:isTime now=true) (ht:touchOk t=true) (hin:t.inside=false→c∈x.binds∧c.proto=t.proto) (hno:∀ d,(t.inside=true→hostE d=⟨t.proto,t.addr,t.port⟩)→(t.inside=false→d=c)→∀ q∈x.sess,withP d t.peer t.peerPort q=false) (hc:(newV p x t c now).code=0) :
  NewTold p x t c (newV p x t c now):=by
 have hbk:bookOk p x=true:=by rw [book_bib]; exact bibR_iff.2 h
 unfold newV at hc ⊢;by_cases h1:trackNewV t.proto t.inside t.flags=0
 ·rw [if_pos h1] at hc; simp [boE] at hc
 rw [if_neg h1] at hc ⊢;by_cases h2:p.most≤(x.sess.length:Int)
 ·rw [if_pos h2] at hc; simp [boE] at hc
 rw [if_neg h2] at hc ⊢;have hm:(x.sess.length:Int) < p.most:=by omega
 cases hi:t.inside with
 | false =>
  rw [hi] at hc;simp only [Bool.false_eq_true,if_false,ne_eq,not_true_eq_false] at hc ⊢;obtain ⟨hc1,hc2⟩:=hin hi;have hnb:newB x.binds c=x.binds:=by
   unfold newB;have hf:=book_find hbk hc1 (h:=hostE c) rfl;rw [if_neg (fun hh=>by rw [findI_neg] at hh; rw [show ofIn c.proto c.inn c.inPort=ofIn (hostE c).proto (hostE c).addr (hostE c).port from rfl,hf] at hh; simp at hh)]
  have:=new_right (c:=c) (now:=now) h hn ht h1 hm hc2 (.inl ⟨hnb,hc1⟩) (hno c (fun e=>by rw [hi] at e; cases e) (fun _=>rfl));rw [hi] at this;refine ⟨this,⟨c,.inl hnb⟩,by show c∈newB x.binds c; rw [hnb]; exact hc1,fun e=>(by rw [hi] at e; cases e),fun _=>⟨rfl,hnb⟩⟩
 | true =>
  rw [hi] at hc;simp only [if_true] at hc ⊢;generalize hlv:lendV p x.binds t.proto t.addr t.port=lv at *;obtain ⟨d,k⟩:=lv;dsimp only at hc ⊢;by_cases hk:k≠0
  ·rw [if_pos hk] at hc; simp [boE] at hc; exact absurd hc hk
  rw [if_neg hk];have hk0:k=0:=by omega
  subst hk0;have main:((newB x.binds d=x.binds∧d∈x.binds)∨(newB x.binds d=x.binds++[d]∧bindOne p x.binds d=true))∧hostE d=⟨t.proto,t.addr,t.port⟩:=by
   cases hf:x.binds.find? (ofIn t.proto t.addr t.port) with
   | some e =>
    unfold lendV at hlv;rw [hf] at hlv;injection hlv with hlv _
    subst hlv;have he:hostE e=⟨t.proto,t.addr,t.port⟩:=(ofIn_host (h:=⟨t.proto,t.addr,t.port⟩)).1 (List.find?_some hf);refine ⟨.inl ⟨?_,List.mem_of_find?_eq_some hf⟩,he⟩;unfold newB;rw [if_neg (fun hh=>by rw [findI_neg,show ofIn e.proto e.inn e.inPort=ofIn (hostE e).proto (hostE e).addr (hostE e).port from rfl,he,hf] at hh; simp at hh)]
   | none =>
    obtain ⟨g1,g2,g3,g4⟩:=lend_one h ht hf hlv;have he:hostE d=⟨t.proto,t.addr,t.port⟩:=by unfold hostE; rw [g2,g3,g4]
    refine ⟨.inr ⟨?_,g1⟩,he⟩;unfold newB;rw [if_pos (by rw [findI_neg,g2,g3,g4,hf]; rfl)]
  obtain ⟨hb,he⟩:=main;have hdp:d.proto=t.proto:=congrArg En.proto he;have:=new_right (c:=d) (now:=now) h hn ht h1 hm hdp hb (hno d (fun _=>he) (fun e=>by rw [hi] at e; cases e));rw [hi] at this;refine ⟨this,⟨d,?_⟩,?_,fun _=>he,fun e=>(by rw [hi] at e; cases e)⟩
  ·rcases hb with ⟨e,_⟩ | ⟨e,_⟩
   ·exact .inl e
   ·exact .inr ⟨hi,e⟩
  ·show d∈newB x.binds d;rcases hb with ⟨e,h1⟩ | ⟨e,_⟩<;>rw [e]
   ·exact h1
   ·simp
theorem go_right {p:Pl} {x:Bb} {t:Tc} {now:Int} (h:BibR p x) (hn:isTime now=true) (ht:touchOk t=true) (hc:(goV p x t now).code=0) :
  GoTold p x t (goV p x t now):=by
 have hbk:bookOk p x=true:=by rw [book_bib]; exact bibR_iff.2 h
 unfold goV at hc ⊢
 cases hi:t.inside with
 | true =>
  rw [hi] at hc;simp only [if_true] at hc ⊢
  cases hf:x.binds.find? (ofIn t.proto t.addr t.port) with
  | none =>
   rw [hf] at hc;dsimp only at hc ⊢;have:=newV_right (c:=bdZ) (now:=now) h hn ht (fun e=>by rw [hi] at e; cases e) (fun d hd _ q hq=>by
    have hd:=hd hi
    cases hw:withP d t.peer t.peerPort q with
    | false=>rfl
    | true =>
     unfold withP at hw;simp only [Bool.and_eq_true] at hw;have h1:sessE q=hostE d:=(sameEn_same _ _).1 (by rw [sess_has]; exact hw.1.1);obtain ⟨b,hb,ho⟩:=List.any_eq_true.1 (h.has q hq);have h2:hostE b=sessE q:=(ofIn_host (h:=sessE q)).1 ho;exact absurd ((ofIn_host (h:=⟨t.proto,t.addr,t.port⟩)).2 (h2.trans (h1.trans hd))) (List.find?_eq_none.1 hf b hb)) hc
   obtain ⟨a1,a2,a3,a4,a5⟩:=this;exact ⟨a1,a2,a3,a4,fun e=>(by rw [hi] at e; cases e)⟩
  | some c =>
   rw [hf] at hc;dsimp only at hc ⊢;have hcm:=List.mem_of_find?_eq_some hf;have he:hostE c=⟨t.proto,t.addr,t.port⟩:=(ofIn_host (h:=⟨t.proto,t.addr,t.port⟩)).1 (List.find?_some hf)
   cases hx:x.sess.findIdx? (withP c t.peer t.peerPort) with
   | none =>
    rw [hx] at hc;dsimp only at hc ⊢;have hg:¬ goneB p x t c=true:=by unfold goneB; rw [hi]; simp
    rw [if_neg hg] at hc ⊢;have hne:=List.findIdx?_eq_none_iff.1 hx;have:=newV_right (c:=c) (now:=now) h hn ht (fun e=>by rw [hi] at e; cases e) (fun d hd _ q hq=>by
     have hd:=hd hi;have:=hne q hq;rw [withP_key (h:=hostE c) rfl] at this;rw [withP_key (h:=hostE c) (hd.trans he.symm)];exact this) hc
    obtain ⟨a1,a2,a3,a4,a5⟩:=this;exact ⟨a1,a2,a3,a4,fun e=>(by rw [hi] at e; cases e)⟩
   | some i =>
    dsimp only;obtain ⟨hlt,hfd⟩:=idx_some hx;have hpr:x.sess[i].proto=t.proto:=by
     have hw:=List.find?_some hfd;unfold withP hasS at hw;simp only [Bool.and_eq_true,decide_eq_true_iff] at hw;rw [← hw.1.1.1.1]; exact congrArg En.proto he
    have hs:setN x.sess i (nextS p t now)=x.sess.set i (nextS p t now x.sess[i]):=by unfold setN; rw [List.getElem?_eq_getElem hlt]
    rw [hs];exact ⟨next_right h hn ht hlt hpr,⟨c,.inl rfl⟩,hcm,fun _=>he,fun e=>(by rw [hi] at e; cases e)⟩
 | false =>
  rw [hi] at hc;simp only [Bool.false_eq_true,if_false] at hc ⊢
  cases hf:x.binds.find? (ofOut t.proto t.addr t.port) with
  | none=>rw [hf] at hc; simp [boE] at hc
  | some c =>
   rw [hf] at hc;dsimp only at hc ⊢;have hcm:=List.mem_of_find?_eq_some hf;have hcp:c.proto=t.proto:=by
    have:=List.find?_some hf;unfold ofOut at this;simp only [Bool.and_eq_true,decide_eq_true_iff] at this;exact this.1.1
   cases hx:x.sess.findIdx? (withP c t.peer t.peerPort) with
   | none =>
    rw [hx] at hc;dsimp only at hc ⊢;by_cases hg:goneB p x t c=true
    ·rw [if_pos hg] at hc; simp [boE] at hc
    rw [if_neg hg] at hc ⊢;have hne:=List.findIdx?_eq_none_iff.1 hx;have:=newV_right (c:=c) (now:=now) h hn ht (fun _=>⟨hcm,hcp⟩) (fun d _ hd q hq=>by
     have:=hd hi;subst this;have:=hne q hq;simpa using this) hc
    obtain ⟨a1,a2,a3,a4,a5⟩:=this;have a6:=a5 hi;exact ⟨a1,a2,a3,fun e=>(by rw [hi] at e; cases e),fun _=>⟨by rw [a6.1]; exact hf,a6.2⟩⟩
   | some i =>
    dsimp only;obtain ⟨hlt,hfd⟩:=idx_some hx;have hpr:x.sess[i].proto=t.proto:=by
     have hw:=List.find?_some hfd;unfold withP hasS at hw;simp only [Bool.and_eq_true,decide_eq_true_iff] at hw;rw [← hw.1.1.1.1]; exact hcp
    have hs:setN x.sess i (nextS p t now)=x.sess.set i (nextS p t now x.sess[i]):=by unfold setN; rw [List.getElem?_eq_getElem hlt]
    rw [hs];exact ⟨next_right h hn ht hlt hpr,⟨c,.inl rfl⟩,hcm,fun e=>(by rw [hi] at e; cases e),fun _=>⟨hf,rfl⟩⟩
open Go.PlainAid
theorem spEcho_any (p:Int) (w:World) :
  Cw 83 #[iV p] w (.bool (echoP p)):=by
 by_cases h1:p=1
 ·have d1:(p==1)=true:=by simp [h1]
  have HV:Hid (echoP p=true):=by unfold Hid echoP; simp [h1]
  clear h1;go_enter Tryz.func83,Tryz.ntmps83
  go_wp2_with fail
  go_ret;exact ⟨ret_bool HV.out.symm,rfl⟩
 ·have d1:(p==1)=false:=by simp [h1]
  have HV:Hid (echoP p=(p==58)):=by
   unfold Hid echoP;rw [decide_eq_false h1,Bool.false_or];rfl
  go_enter Tryz.func83,Tryz.ntmps83
  go_wp2_with fail
  go_ret;exact ⟨ret_bool HV.out.symm,rfl⟩
theorem spProto_any (p:Int) (n:Nat) (w:World) (hn:n≤maxLen) :
  Cw 82 #[iV p,iV n] w (.bool (protoOk p n)):=by
 unfold maxLen at hn;have run:∀ (a b c d x y:Bool),(p==6)=a→(p==17)=b→(p==1)=c→(p==58)=d→((n:Int)==4)=x→((n:Int)==16)=y →
   Cw 82 #[iV p,iV n] w (.bool (a||b||(c&&x)||(d&&y))):=by
  intro a b c d x y h1 h2 h3 h4 h5 h6
  cases a
  ·cases b
   ·cases c
    ·cases d
     ·go_enter Tryz.func82,Tryz.ntmps82
      go_wp2_with fail
      go_ret;exact ⟨rfl,rfl⟩
     ·go_enter Tryz.func82,Tryz.ntmps82
      go_wp2_with fail
      go_ret;exact ⟨rfl,rfl⟩
    ·cases x
     ·cases d
      ·go_enter Tryz.func82,Tryz.ntmps82
       go_wp2_with fail
       go_ret;exact ⟨rfl,rfl⟩
      ·simp at h3 h4; omega
     ·go_enter Tryz.func82,Tryz.ntmps82
      go_wp2_with fail
      go_ret;exact ⟨rfl,rfl⟩
   ·go_enter Tryz.func82,Tryz.ntmps82
    go_wp2_with fail
    go_ret;exact ⟨rfl,rfl⟩
  ·go_enter Tryz.func82,Tryz.ntmps82
   go_wp2_with fail
   go_ret;exact ⟨rfl,rfl⟩
 have e:protoOk p n=((p==6)||(p==17)||((p==1)&&((n:Int)==4))||((p==58)&&((n:Int)==16))):=by
  unfold protoOk;have h4:((n:Int)==4)=decide (n=4):=by rw [Bool.eq_iff_iff]; simp; omega
  have h16:((n:Int)==16)=decide (n=16):=by rw [Bool.eq_iff_iff]; simp; omega
  rw [h4,h16];rfl
 rw [e];exact run _ _ _ _ _ _ rfl rfl rfl rfl rfl rfl
open Go.ChangeShapes Go.WideShapes
structure BoxPiece (w:World) (B:Nat) (p:Pc):Prop where
 c0:w.cell? ⟨B,0,none⟩=some (.string p.src)
 c1:w.cell? ⟨B,1,none⟩=some (.string p.dst)
 c2:w.cell? ⟨B,2,none⟩=some (iV p.proto)
 c3:w.cell? ⟨B,3,none⟩=some (iV p.id)
 c4:w.cell? ⟨B,4,none⟩=some (iV p.off)
 c5:w.cell? ⟨B,5,none⟩=some (.bool p.more)
 c6:w.cell? ⟨B,6,none⟩=some (.string p.data)
 c7:w.cell? ⟨B,7,none⟩=some (iV p.since)
theorem BoxPiece.kept {w W:World} {B:Nat} {p:Pc} (h:BoxPiece w B p) (hB:Below w.heap.size w W):BoxPiece W B p:=by
 have hb:=World.block_lt_of_cell? w _ h.c0;exact ⟨((bcell hB).1 B 0 hb).trans h.c0,((bcell hB).1 B 1 hb).trans h.c1,((bcell hB).1 B 2 hb).trans h.c2,((bcell hB).1 B 3 hb).trans h.c3,((bcell hB).1 B 4 hb).trans h.c4,((bcell hB).1 B 5 hb).trans h.c5,((bcell hB).1 B 6 hb).trans h.c6,((bcell hB).1 B 7 hb).trans h.c7⟩
theorem BoxPiece.new (w:World) (p:Pc) {t:TypeId}:BoxPiece (w.alloc (.cells #[.string p.src,.string p.dst,iV p.proto,iV p.id,iV p.off,.bool p.more,.string p.data,iV p.since] t)) w.heap.size p:=⟨cell_new rfl,cell_new rfl,cell_new rfl,cell_new rfl,cell_new rfl,cell_new rfl,cell_new rfl,cell_new rfl⟩
end Go.Proofs.YtcckaeppiamebaaGreatDoor
namespace Go.Proofs.YtcckaeppiamebaaGreatDoor
open Go.RowKit Go.PlainAid
theorem spTime_any (n:Int) (w:World) :
  Cw 52 #[iV n] w (.bool (isTime n)):=by
 by_cases h1:0≤n
 ·by_cases h2:n≤1000000000
  ·have HV:Hid (isTime n=true):=by unfold Hid isTime isIn; simp [h1,h2]
   go_enter Tryz.func52,Tryz.ntmps52
   go_wp2_with fail
   go_ret;exact ⟨ret_bool (by rw [HV.out]),rfl⟩
  ·have HV:Hid (isTime n=false):=by unfold Hid isTime isIn; simp [h2]
   go_enter Tryz.func52,Tryz.ntmps52
   go_wp2_with fail
   go_ret;exact ⟨ret_bool (by rw [HV.out]),rfl⟩
 ·have HV:Hid (isTime n=false):=by unfold Hid isTime isIn; simp [h1]
  have h1':n < 0:=by omega
  go_enter Tryz.func52,Tryz.ntmps52
  go_wp2_with fail
  go_ret;exact ⟨ret_bool (by rw [HV.out]),rfl⟩
end Go.Proofs.YtcckaeppiamebaaGreatDoor
namespace Go.Proofs.YtcckaeppiamebaaGreatDoor
open Go.RowKit
def bindP (p:Pl) (b:Bd):Bool:=protoB b.proto&&addrOk b.inn&&isW b.inPort&&inL p.addrs b.out&&isIn b.outPort p.low p.high
theorem bind_iff {p:Pl} {xs:List Bd}:(∀ i (h:i < xs.length),bindOne p (xs.take i) xs[i]=true)↔(∀ c∈xs,bindP p c=true)∧xs.Pairwise (fun c b=>clashB c b=false):=by
 have e:∀ ys b,bindOne p ys b=(bindP p b&&!ys.any fun c=>clashB c b):=fun ys b=>rfl
 rw [List.pairwise_iff_getElem];constructor
 ·intro h;refine ⟨fun c hc=>?_,fun i j hi hj hij=>?_⟩
  ·obtain ⟨i,hi,rfl⟩:=List.getElem_of_mem hc;have:=h i hi;rw [e] at this;simp only [Bool.and_eq_true] at this;exact this.1
  ·have:=h j hj;rw [e] at this;simp only [Bool.and_eq_true,Bool.not_eq_true'] at this;have:=List.any_eq_false.1 this.2 xs[i] (take_mem hi hij);simpa using this
 ·rintro ⟨h1,h2⟩ i hi;rw [e];simp only [Bool.and_eq_true,Bool.not_eq_true'];refine ⟨h1 _ (List.getElem_mem hi),?_⟩;rw [List.any_eq_false];intro c hc;obtain ⟨k,hk,hki,rfl⟩:=mem_take hc;rw [h2 k i hk hi hki]; decide
open Go.PlainAid
def bytesOf (n:Nat) (f:Nat→Int):ByteArray:=⟨((List.range n).map fun i=>UInt8.ofNat (f i).toNat).toArray⟩
theorem bytesOf_size (n:Nat) (f:Nat→Int):(bytesOf n f).size=n:=by simp [bytesOf,ByteArray.size]
theorem bytesOf_bt {n:Nat} {f:Nat→Int} {i:Nat} (hi:i < n) (h0:0≤f i) (h1:f i≤255):bt (bytesOf n f) i=f i:=by
 have hs:=bytesOf_size n f;unfold bt;rw [dif_pos (by omega),ByteArray.getElem_eq_getElem_data];simp only [bytesOf,List.getElem_toArray,List.getElem_map,List.getElem_range,UInt8.toNat_ofNat'];omega
theorem ba_ext {a b:ByteArray} (hs:a.size=b.size) (h:∀ i,i < a.size→bt a i=bt b i):a=b:=by
 apply ByteArray.ext;apply Array.ext
 ·exact hs
 ·intro i h1 h2;have hi:=h i h1;unfold bt at hi;rw [dif_pos (show i < a.size from h1),dif_pos (show i < b.size from h2),ByteArray.getElem_eq_getElem_data,ByteArray.getElem_eq_getElem_data] at hi;exact UInt8.toNat_inj.1 (by exact_mod_cast hi)
structure Holds (w:World) (B n:Nat) (f:Nat→Int):Prop where
 get:∀ i,i < n→w.cell? ⟨B,i,none⟩=some (.int .u8 (f i))∧w.frozen? ⟨B,i,none⟩=false
theorem Holds.set {w:World} {B n:Nat} {f:Nat→Int} (h:Holds w B n f) (j:Nat) (hj:j < n) (x:Int):Holds (w.setCell ⟨B,j,none⟩ (.int .u8 x)) B n (fun i=>if i=j then x else f i):=by
 refine ⟨fun i hi=>⟨?_,by rw [World.frozen?_setCell]; exact (h.get i hi).2⟩⟩;by_cases e:i=j
 ·subst e; show _=some (Value.int .u8 (if i=i then x else f i)); rw [if_pos rfl]; exact World.cell?_setCell_same _ _ _ (h.get i hi).1
 ·show _=some (Value.int .u8 (if i=j then x else f i)); rw [if_neg e,World.cell?_setCell_other _ _ _ _ (fun e2=>e (by injection e2 with _ h2; exact h2.symm))]; exact (h.get i hi).1
theorem Holds.conv {w:World} {B n cap:Nat} {f:Nat→Int} (h:Holds w B n f) (hf:isByte f) :
  (convert 137 9 (.slice (some ⟨B,0,none⟩) n cap)).run Tryz.prog w=.ok (.string (bytesOf n f)) w:=by
 have hl:((List.range n).map fun i=>UInt8.ofNat (f i).toNat).length=n:=by simp
 have:=run_convert_bytes_back (P:=Tryz.prog) w 137 9 5 ⟨B,0,none⟩ cap ((List.range n).map fun i=>UInt8.ofNat (f i).toNat) Tryz.underlying137 Tryz.underlying5 Tryz.underlying9 (by
  intro j hj;have hj':j < n:=by simpa using hj
  have ha:Addr.add ⟨B,0,none⟩ j=⟨B,j,none⟩:=by simp only [Addr.add,Nat.zero_add]; split<;>simp_all
  rw [ha,(h.get j hj').1];have:=hf j;simp only [List.getElem_map,List.getElem_range,UInt8.toNat_ofNat'];congr 2; omega)
 rw [hl] at this;exact this
theorem bytes_new (w:World) (s:ByteArray):∃ cap W2,(convert 9 137 (.string s)).run Tryz.prog w=.ok (.slice (some ⟨w.heap.size,0,none⟩) s.size cap) W2∧Holds W2 w.heap.size s.size (bt s)∧Below w.heap.size w W2∧s.size≤cap:=by
 refine ⟨grownCap w s.size 0 5,_,run_bytes_of_string (P:=Tryz.prog) w 9 137 5 s Tryz.underlying9 Tryz.underlying137 Tryz.underlying5,?_,?_,?_⟩
 ·refine ⟨fun i hi=>?_⟩;have hz:(bytesRow s (grownCap w s.size 0 5)).size=s.size+(grownCap w s.size 0 5-s.size):=by unfold bytesRow; rw [Array.size_append,Array.size_map,Array.size_replicate]; rfl
  constructor
  ·refine (World.cell?_alloc_mark w.drew _ _ _ i).trans ?_;rw [bytesRow_at s _ i hi,← get_bt s i hi]; rfl
  ·refine (World.frozen?_alloc_mark w.drew _ _ _ _ i).trans ?_;simp; omega
 ·exact (Below.refl _ w).drew.alloc (Nat.le_refl _) _
 ·exact grownCap_ge _ _ _ _
def pairL (x y:Int):List UInt8:=[UInt8.ofNat x.toNat,UInt8.ofNat y.toNat]
theorem pair_cells {w:World} {b:Nat} {x y:Int} (hx:0≤x∧x≤255) (hy:0≤y∧y≤255)
  (hc0:w.cell? ⟨b,0,none⟩=some (.int .u8 x)) (hc1:w.cell? ⟨b,1,none⟩=some (.int .u8 y)) :
  ∀ j (hj:j < (pairL x y).length),w.cell? (Addr.add ⟨b,0,none⟩ j)=some (.int .u8 ((pairL x y)[j].toNat:Int)):=by
 intro j hj;match j,hj with
 | 0,_=>simp only [Addr.add,Nat.add_zero,pairL,List.getElem_cons_zero]; rw [u8_ofNat _ hx.1 hx.2]; exact hc0
 | 1,_=>simp only [Addr.add,Nat.zero_add,pairL,List.getElem_cons_succ,List.getElem_cons_zero]; rw [u8_ofNat _ hy.1 hy.2]; exact hc1
theorem pair_conv {w:World} {b cap:Nat} {x y:Int} (hx:0≤x∧x≤255) (hy:0≤y∧y≤255)
  (hc0:w.cell? ⟨b,0,none⟩=some (.int .u8 x)) (hc1:w.cell? ⟨b,1,none⟩=some (.int .u8 y)) :
  (convert 137 9 (.slice (some ⟨b,0,none⟩) 2 cap)).run Tryz.prog w=.ok (.string (pairV x y)) w :=
 run_convert_bytes_back (P:=Tryz.prog) w 137 9 5 ⟨b,0,none⟩ cap (pairL x y) Tryz.underlying137 Tryz.underlying5 Tryz.underlying9 (pair_cells hx hy hc0 hc1)
def IsQuadW (x y:Int):Value→World→Prop:=fun v w=>∃ b,v=.slice (some ⟨b,0,none⟩) 4 4∧w.cell? ⟨b,0,none⟩=some (.int .u8 x)∧w.cell? ⟨b,1,none⟩=some (.int .u8 0)∧w.cell? ⟨b,2,none⟩=some (.int .u8 0)∧w.cell? ⟨b,3,none⟩=some (.int .u8 y)
theorem stable_isQuadW (x y:Int):Stable (IsQuadW x y):=fun v w w' ⟨b,h1,h2,h3,h4,h5⟩ hb=>by
 have hlt:=World.block_lt_of_cell? w _ h2;exact ⟨b,h1,((bcell hb).1 b 0 hlt).trans h2,((bcell hb).1 b 1 hlt).trans h3,((bcell hb).1 b 2 hlt).trans h4,((bcell hb).1 b 3 hlt).trans h5⟩
theorem quadW_conv {w:World} {b cap:Nat} {x y:Int} (hx:0≤x∧x≤255) (hy:0≤y∧y≤255) (h0:w.cell? ⟨b,0,none⟩=some (.int .u8 x)) (h1:w.cell? ⟨b,1,none⟩=some (.int .u8 0)) (h2:w.cell? ⟨b,2,none⟩=some (.int .u8 0)) (h3:w.cell? ⟨b,3,none⟩=some (.int .u8 y)) :
  (convert 137 9 (.slice (some ⟨b,0,none⟩) 4 cap)).run Tryz.prog w=.ok (.string (quadW x y)) w :=
 run_convert_bytes_back (P:=Tryz.prog) w 137 9 5 ⟨b,0,none⟩ cap [UInt8.ofNat x.toNat,0,0,UInt8.ofNat y.toNat] Tryz.underlying137 Tryz.underlying5 Tryz.underlying9 (by
  intro j hj;match j,hj with
  | 0,_=>simp only [Addr.add,Nat.add_zero,List.getElem_cons_zero]; rw [u8_ofNat _ hx.1 hx.2]; exact h0
  | 1,_=>simp only [Addr.add,Nat.zero_add,List.getElem_cons_succ,List.getElem_cons_zero]; exact h1
  | 2,_=>simp only [Addr.add,Nat.zero_add,List.getElem_cons_succ,List.getElem_cons_zero]; exact h2
  | 3,_=>simp only [Addr.add,Nat.zero_add,List.getElem_cons_succ,List.getElem_cons_zero]; rw [u8_ofNat _ hy.1 hy.2]; exact h3)
theorem spPseudo_any (s d:ByteArray) (p:Int) (n:Nat) (w:World) (hs:s.size≤16) (hd:d.size≤16) (hp:0≤p∧p≤255) (hn:n≤65535) :
  Cb 130 #[.string s,.string d,iV p,iV n] w (.string (pseudoV s d p n)):=by
 have hun:undef=Value.tuple #[]:=rfl;have n1:¬ 9223372036854775807 < s.size+d.size:=by omega
 have z1:=pairV_size 0 p;have z2:=twoV_size (n:Int);by_cases h1:p=1∧s.size=4
 ·obtain ⟨rfl,h4⟩:=h1;have d4:((s.size:Int)==4)=true:=by simp; omega
  have HV:Hid (pseudoV s d 1 n=⟨#[]⟩):=by unfold Hid pseudoV; rw [if_pos ⟨rfl,h4⟩]
  generalize pseudoV s d 1 n=ans at *;clear h4;go_enter Tryz.func130,Tryz.ntmps130
  go_wp2_with fail
  go_ret;exact ⟨by rw [HV.out]; rfl,Below.refl _ _⟩
 by_cases h4:s.size=4
 ·have d4:((s.size:Int)==4)=true:=by simp; omega
  have d1:(p==1)=false:=by simp; exact fun e=>h1 ⟨e,h4⟩
  have HZ:Hid (pseudoV s d p n=s++d++pairV 0 p++twoV (n:Int)):=by unfold Hid pseudoV; rw [if_neg h1,if_pos h4]
  generalize pseudoV s d p n=ans at *;clear h1 h4;have n2:¬ 9223372036854775807 < s.size+d.size+(pairV 0 p).size:=by omega
  have n3:¬ 9223372036854775807 < s.size+d.size+(pairV 0 p).size+(twoV (n:Int)).size:=by omega
  have n2b:¬ 9223372036854775807 < s.size+d.size+2:=by omega
  have n3b:¬ 9223372036854775807 < s.size+d.size+2+2:=by omega
  go_enter Tryz.func130,Tryz.ntmps130
  go_upto_region 4 with fail
  go_cut [8] (fun v wx=>v=.string ans∧Below w.heap.size w wx)
  case first =>
   rename_i J K2 hJ hK2;clear hun;refine wp_region_growL (Rs:=[IsV (.string s),IsV (.string d),IsV (.string (s++d)),IsV (iV p),IsV (.int .u8 p),IsRow (0) (p),IsV (.string (pairV 0 p)),IsV (.string (s++d++pairV 0 p)),IsV (iV (n:Int)),IsV (.string (twoV (n:Int))),IsV (.string (s++d++pairV 0 p++twoV (n:Int))),IsV (.string (s++d++pairV 0 p++twoV (n:Int)))]) [19,20,21,22,23,24,25,26,27,28,29,8] (by kernel_rfl) (by kernel_rfl) rfl ?st ?steps ?done
   case st=>simp [stable_isV,stable_isRow]
   case steps =>
    refine ⟨?s0,?s1,?s2,?s3,?s4,?s5,?s6,?s7,?s8,?s9,?s10,?s11,trivial⟩
    case s0 =>
     intro K' a wy ho hd hb hK;have h3:=ho 0 (by decide);simp [slot] at h3;clear hd;go_simp;try go_bits
     exact hK _ _ rfl (Below.refl _ _)
    case s1 =>
     intro K' a wy ho hd hb hK;have h3:=ho 1 (by decide);simp [slot] at h3;clear hd;go_simp;try go_bits
     exact hK _ _ rfl (Below.refl _ _)
    case s2 =>
     intro K' a wy ho hd hb hK;simp [Region.binds,rAt,IsV,slot] at hd;go_simp;try go_bits
     exact hK _ _ rfl (Below.refl _ _)
    case s3 =>
     intro K' a wy ho hd hb hK;have h3:=ho 2 (by decide);simp [slot] at h3;clear hd;go_simp;try go_bits
     exact hK _ _ rfl (Below.refl _ _)
    case s4 =>
     intro K' a wy ho hd hb hK;simp [Region.binds,rAt,IsV,slot] at hd;go_simp;try go_bits
     exact hK _ _ rfl (Below.refl _ _)
    case s5 =>
     intro K' a wy ho hd hb hK;simp [Region.binds,rAt,IsV,slot] at hd;go_simp;exact hK _ _ ⟨wy.heap.size,rfl,by simp,by simp⟩ ((Below.refl _ _).alloc (Nat.le_refl _) _)
    case s6 =>
     intro K' a wy ho hd hb hK;simp only [List.forall_mem_singleton,Array.mem_def,List.mem_singleton,forall_eq] at hd;obtain ⟨b,hd1,hd2,hd3⟩ : IsRow (0) (p) (slot a 24) wy:=hd rfl;have hcv:=pair_conv (cap:=2) (by omega) (by omega) hd2 hd3;simp [slot] at hd1;go_simp;try go_bits
     exact hK _ _ rfl (Below.refl _ _)
    case s7 =>
     intro K' a wy ho hd hb hK;simp [Region.binds,rAt,IsV,slot] at hd;go_simp;try go_bits
     exact hK _ _ rfl (Below.refl _ _)
    case s8 =>
     intro K' a wy ho hd hb hK;have h3:=ho 3 (by decide);simp [slot] at h3;clear hd;go_simp;try go_bits
     exact hK _ _ rfl (Below.refl _ _)
    case s9 =>
     intro K' a wy ho hd hb hK;simp [Region.binds,rAt,IsV,slot] at hd;go_simp;refine (specTwo_any (n:Int) wy (by omega) (by omega)).mono ?_;rintro e wz ⟨rfl,hz⟩;exact hK _ _ rfl hz
    case s10 =>
     intro K' a wy ho hd hb hK;simp [Region.binds,rAt,IsV,slot] at hd;go_simp;try go_bits
     exact hK _ _ rfl (Below.refl _ _)
    case s11 =>
     intro K' a wy ho hd hb hK;simp [Region.binds,rAt,IsV,slot] at hd;go_simp;try go_bits
     exact hK _ _ rfl (Below.refl _ _)
   case done =>
    intro X wz hR hz;obtain ⟨x0,x1,x2,x3,x4,⟨b5,x5,-,-⟩,x6,x7,x8,x9,x10,x11,-⟩:=hR;simp only [IsV] at x0 x1 x2 x3 x4 x6 x7 x8 x9 x10 x11;simp only [putsFrom,x0,x1,x2,x3,x4,x5,x6,x7,x8,x9,x10,x11];clear x0 x1 x2 x3 x4 x5 x6 x7 x8 x9 x10 x11;go_simp;refine hK2 _ _ (hJ _ _ ?_);(repeat apply Exists.intro)
    refine ⟨⟨by rw [HZ.out],(Below.refl _ w).drew.trans hz⟩,rfl⟩
  case rest =>
  obtain ⟨rfl,hb⟩:=hcut;go_wp2_with fail
  go_ret;exact ⟨rfl,hb⟩
 ·have d4:((s.size:Int)==4)=false:=by simp; omega
  have HZ:Hid (pseudoV s d p n=s++d++twoV ((n:Int) / 65536)++twoV ((n:Int) % 65536)++quadW 0 p):=by unfold Hid pseudoV; rw [if_neg h1,if_neg h4]
  generalize pseudoV s d p n=ans at *;clear h1;have a1:=and_65535 (n:Int);have n2:¬ 9223372036854775807 < s.size+d.size+(twoV ((n:Int) / 65536)).size:=by rw [twoV_size]; omega
  have n3:¬ 9223372036854775807 < s.size+d.size+(twoV ((n:Int) / 65536)).size+(twoV ((n:Int) % 65536)).size:=by rw [twoV_size,twoV_size]; omega
  have n4:¬ 9223372036854775807 < s.size+d.size+(twoV ((n:Int) / 65536)).size+(twoV ((n:Int) % 65536)).size+(quadW 0 p).size:=by rw [twoV_size,twoV_size,quadW_size]; omega
  by_cases dp:p=1
  ·have d1:(p==1)=true:=by simp [dp]
   clear dp;go_enter Tryz.func130,Tryz.ntmps130
   go_upto_region 5 with fail
   go_cut [8] (fun v wx=>v=.string ans∧Below w.heap.size w wx)
   case first =>
    rename_i J K2 hJ hK2;clear hun;refine wp_region_growL (Rs:=[IsV (.string s),IsV (.string d),IsV (.string (s++d)),IsV (iV (n:Int)),IsV (iV ((n:Int) / 65536)),IsV (.string (twoV ((n:Int) / 65536))),IsV (.string (s++d++twoV ((n:Int) / 65536))),IsV (iV (n:Int)),IsV (iV ((n:Int) % 65536)),IsV (.string (twoV ((n:Int) % 65536))),IsV (.string (s++d++twoV ((n:Int) / 65536)++twoV ((n:Int) % 65536))),IsV (iV p),IsV (.int .u8 p),IsQuadW (0) (p),IsV (.string (quadW 0 p)),IsV (.string (s++d++twoV ((n:Int) / 65536)++twoV ((n:Int) % 65536)++quadW 0 p)),IsV (.string (s++d++twoV ((n:Int) / 65536)++twoV ((n:Int) % 65536)++quadW 0 p))]) [30,31,32,33,34,35,36,37,38,39,40,41,42,43,44,45,8] (by kernel_rfl) (by kernel_rfl) rfl ?st ?steps ?done
    case st=>simp [stable_isV,stable_isQuadW]
    case steps =>
     refine ⟨?s0,?s1,?s2,?s3,?s4,?s5,?s6,?s7,?s8,?s9,?s10,?s11,?s12,?s13,?s14,?s15,?s16,trivial⟩
     case s0 =>
      intro K' a wy ho hd hb hK;have h3:=ho 0 (by decide);simp [slot] at h3;clear hd;go_simp;try go_bits
      exact hK _ _ rfl (Below.refl _ _)
     case s1 =>
      intro K' a wy ho hd hb hK;have h3:=ho 1 (by decide);simp [slot] at h3;clear hd;go_simp;try go_bits
      exact hK _ _ rfl (Below.refl _ _)
     case s2 =>
      intro K' a wy ho hd hb hK;simp [Region.binds,rAt,IsV,slot] at hd;go_simp;try go_bits
      exact hK _ _ rfl (Below.refl _ _)
     case s3 =>
      intro K' a wy ho hd hb hK;have h3:=ho 3 (by decide);simp [slot] at h3;clear hd;go_simp;try go_bits
      exact hK _ _ rfl (Below.refl _ _)
     case s4 =>
      intro K' a wy ho hd hb hK;simp [Region.binds,rAt,IsV,slot] at hd;go_simp;try go_bits
      exact hK _ _ rfl (Below.refl _ _)
     case s5 =>
      intro K' a wy ho hd hb hK;simp [Region.binds,rAt,IsV,slot] at hd;go_simp;refine (specTwo_any ((n:Int) / 65536) wy (by omega) (by omega)).mono ?_;rintro e wz ⟨rfl,hz⟩;exact hK _ _ rfl hz
     case s6 =>
      intro K' a wy ho hd hb hK;simp [Region.binds,rAt,IsV,slot] at hd;go_simp;try go_bits
      exact hK _ _ rfl (Below.refl _ _)
     case s7 =>
      intro K' a wy ho hd hb hK;have h3:=ho 3 (by decide);simp [slot] at h3;clear hd;go_simp;try go_bits
      exact hK _ _ rfl (Below.refl _ _)
     case s8 =>
      intro K' a wy ho hd hb hK;simp [Region.binds,rAt,IsV,slot] at hd;go_simp;try go_bits
      exact hK _ _ rfl (Below.refl _ _)
     case s9 =>
      intro K' a wy ho hd hb hK;simp [Region.binds,rAt,IsV,slot] at hd;go_simp;refine (specTwo_any ((n:Int) % 65536) wy (by omega) (by omega)).mono ?_;rintro e wz ⟨rfl,hz⟩;exact hK _ _ rfl hz
     case s10 =>
      intro K' a wy ho hd hb hK;simp [Region.binds,rAt,IsV,slot] at hd;go_simp;try go_bits
      exact hK _ _ rfl (Below.refl _ _)
     case s11 =>
      intro K' a wy ho hd hb hK;have h3:=ho 2 (by decide);simp [slot] at h3;clear hd;go_simp;try go_bits
      exact hK _ _ rfl (Below.refl _ _)
     case s12 =>
      intro K' a wy ho hd hb hK;simp [Region.binds,rAt,IsV,slot] at hd;go_simp;try go_bits
      exact hK _ _ rfl (Below.refl _ _)
     case s13 =>
      intro K' a wy ho hd hb hK;simp [Region.binds,rAt,IsV,slot] at hd;go_simp;exact hK _ _ ⟨wy.heap.size,rfl,by simp,by simp,by simp,by simp⟩ ((Below.refl _ _).alloc (Nat.le_refl _) _)
     case s14 =>
      intro K' a wy ho hd hb hK;simp only [List.forall_mem_singleton,Array.mem_def,List.mem_singleton,forall_eq] at hd;obtain ⟨b,hd1,hd2,hd3,hd4,hd5⟩ : IsQuadW (0) (p) (slot a 43) wy:=hd rfl;have hcv:=quadW_conv (cap:=4) (by omega) (by omega) hd2 hd3 hd4 hd5;simp [slot] at hd1;go_simp;try go_bits
      exact hK _ _ rfl (Below.refl _ _)
     case s15 =>
      intro K' a wy ho hd hb hK;simp [Region.binds,rAt,IsV,slot] at hd;go_simp;try go_bits
      exact hK _ _ rfl (Below.refl _ _)
     case s16 =>
      intro K' a wy ho hd hb hK;simp [Region.binds,rAt,IsV,slot] at hd;go_simp;try go_bits
      exact hK _ _ rfl (Below.refl _ _)
    case done =>
     intro X wz hR hz;obtain ⟨x0,x1,x2,x3,x4,x5,x6,x7,x8,x9,x10,x11,x12,⟨b13,x13,-,-,-,-⟩,x14,x15,x16,-⟩:=hR;simp only [IsV] at x0 x1 x2 x3 x4 x5 x6 x7 x8 x9 x10 x11 x12 x14 x15 x16;simp only [putsFrom,x0,x1,x2,x3,x4,x5,x6,x7,x8,x9,x10,x11,x12,x13,x14,x15,x16];clear x0 x1 x2 x3 x4 x5 x6 x7 x8 x9 x10 x11 x12 x13 x14 x15 x16;go_simp;refine hK2 _ _ (hJ _ _ ?_);(repeat apply Exists.intro)
     refine ⟨⟨by rw [HZ.out],(Below.refl _ w).drew.trans hz⟩,rfl⟩
   case rest =>
   obtain ⟨rfl,hb⟩:=hcut;go_wp2_with fail
   go_ret;exact ⟨rfl,hb⟩
  ·have d1:(p==1)=false:=by simp [dp]
   go_enter Tryz.func130,Tryz.ntmps130
   go_upto_region 5 with fail
   go_cut [8] (fun v wx=>v=.string ans∧Below w.heap.size w wx)
   case first =>
    rename_i J K2 hJ hK2;clear hun;refine wp_region_growL (Rs:=[IsV (.string s),IsV (.string d),IsV (.string (s++d)),IsV (iV (n:Int)),IsV (iV ((n:Int) / 65536)),IsV (.string (twoV ((n:Int) / 65536))),IsV (.string (s++d++twoV ((n:Int) / 65536))),IsV (iV (n:Int)),IsV (iV ((n:Int) % 65536)),IsV (.string (twoV ((n:Int) % 65536))),IsV (.string (s++d++twoV ((n:Int) / 65536)++twoV ((n:Int) % 65536))),IsV (iV p),IsV (.int .u8 p),IsQuadW (0) (p),IsV (.string (quadW 0 p)),IsV (.string (s++d++twoV ((n:Int) / 65536)++twoV ((n:Int) % 65536)++quadW 0 p)),IsV (.string (s++d++twoV ((n:Int) / 65536)++twoV ((n:Int) % 65536)++quadW 0 p))]) [30,31,32,33,34,35,36,37,38,39,40,41,42,43,44,45,8] (by kernel_rfl) (by kernel_rfl) rfl ?st ?steps ?done
    case st=>simp [stable_isV,stable_isQuadW]
    case steps =>
     refine ⟨?s0,?s1,?s2,?s3,?s4,?s5,?s6,?s7,?s8,?s9,?s10,?s11,?s12,?s13,?s14,?s15,?s16,trivial⟩
     case s0 =>
      intro K' a wy ho hd hb hK;have h3:=ho 0 (by decide);simp [slot] at h3;clear hd;go_simp;try go_bits
      exact hK _ _ rfl (Below.refl _ _)
     case s1 =>
      intro K' a wy ho hd hb hK;have h3:=ho 1 (by decide);simp [slot] at h3;clear hd;go_simp;try go_bits
      exact hK _ _ rfl (Below.refl _ _)
     case s2 =>
      intro K' a wy ho hd hb hK;simp [Region.binds,rAt,IsV,slot] at hd;go_simp;try go_bits
      exact hK _ _ rfl (Below.refl _ _)
     case s3 =>
      intro K' a wy ho hd hb hK;have h3:=ho 3 (by decide);simp [slot] at h3;clear hd;go_simp;try go_bits
      exact hK _ _ rfl (Below.refl _ _)
     case s4 =>
      intro K' a wy ho hd hb hK;simp [Region.binds,rAt,IsV,slot] at hd;go_simp;try go_bits
      exact hK _ _ rfl (Below.refl _ _)
     case s5 =>
      intro K' a wy ho hd hb hK;simp [Region.binds,rAt,IsV,slot] at hd;go_simp;refine (specTwo_any ((n:Int) / 65536) wy (by omega) (by omega)).mono ?_;rintro e wz ⟨rfl,hz⟩;exact hK _ _ rfl hz
     case s6 =>
      intro K' a wy ho hd hb hK;simp [Region.binds,rAt,IsV,slot] at hd;go_simp;try go_bits
      exact hK _ _ rfl (Below.refl _ _)
     case s7 =>
      intro K' a wy ho hd hb hK;have h3:=ho 3 (by decide);simp [slot] at h3;clear hd;go_simp;try go_bits
      exact hK _ _ rfl (Below.refl _ _)
     case s8 =>
      intro K' a wy ho hd hb hK;simp [Region.binds,rAt,IsV,slot] at hd;go_simp;try go_bits
      exact hK _ _ rfl (Below.refl _ _)
     case s9 =>
      intro K' a wy ho hd hb hK;simp [Region.binds,rAt,IsV,slot] at hd;go_simp;refine (specTwo_any ((n:Int) % 65536) wy (by omega) (by omega)).mono ?_;rintro e wz ⟨rfl,hz⟩;exact hK _ _ rfl hz
     case s10 =>
      intro K' a wy ho hd hb hK;simp [Region.binds,rAt,IsV,slot] at hd;go_simp;try go_bits
      exact hK _ _ rfl (Below.refl _ _)
     case s11 =>
      intro K' a wy ho hd hb hK;have h3:=ho 2 (by decide);simp [slot] at h3;clear hd;go_simp;try go_bits
      exact hK _ _ rfl (Below.refl _ _)
     case s12 =>
      intro K' a wy ho hd hb hK;simp [Region.binds,rAt,IsV,slot] at hd;go_simp;try go_bits
      exact hK _ _ rfl (Below.refl _ _)
     case s13 =>
      intro K' a wy ho hd hb hK;simp [Region.binds,rAt,IsV,slot] at hd;go_simp;exact hK _ _ ⟨wy.heap.size,rfl,by simp,by simp,by simp,by simp⟩ ((Below.refl _ _).alloc (Nat.le_refl _) _)
     case s14 =>
      intro K' a wy ho hd hb hK;simp only [List.forall_mem_singleton,Array.mem_def,List.mem_singleton,forall_eq] at hd;obtain ⟨b,hd1,hd2,hd3,hd4,hd5⟩ : IsQuadW (0) (p) (slot a 43) wy:=hd rfl;have hcv:=quadW_conv (cap:=4) (by omega) (by omega) hd2 hd3 hd4 hd5;simp [slot] at hd1;go_simp;try go_bits
      exact hK _ _ rfl (Below.refl _ _)
     case s15 =>
      intro K' a wy ho hd hb hK;simp [Region.binds,rAt,IsV,slot] at hd;go_simp;try go_bits
      exact hK _ _ rfl (Below.refl _ _)
     case s16 =>
      intro K' a wy ho hd hb hK;simp [Region.binds,rAt,IsV,slot] at hd;go_simp;try go_bits
      exact hK _ _ rfl (Below.refl _ _)
    case done =>
     intro X wz hR hz;obtain ⟨x0,x1,x2,x3,x4,x5,x6,x7,x8,x9,x10,x11,x12,⟨b13,x13,-,-,-,-⟩,x14,x15,x16,-⟩:=hR;simp only [IsV] at x0 x1 x2 x3 x4 x5 x6 x7 x8 x9 x10 x11 x12 x14 x15 x16;simp only [putsFrom,x0,x1,x2,x3,x4,x5,x6,x7,x8,x9,x10,x11,x12,x13,x14,x15,x16];clear x0 x1 x2 x3 x4 x5 x6 x7 x8 x9 x10 x11 x12 x13 x14 x15 x16;go_simp;refine hK2 _ _ (hJ _ _ ?_);(repeat apply Exists.intro)
     refine ⟨⟨by rw [HZ.out],(Below.refl _ w).drew.trans hz⟩,rfl⟩
   case rest =>
   obtain ⟨rfl,hb⟩:=hcut;go_wp2_with fail
   go_ret;exact ⟨rfl,hb⟩
end Go.Proofs.YtcckaeppiamebaaGreatDoor
