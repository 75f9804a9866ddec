import Derived.Test.YtdkepkaflielhaaGreatDoorMerged16
import Derived.ArgAppend
set_option linter.unusedVariables false
set_option linter.unusedSimpArgs false
set_option maxRecDepth 100000
set_option maxHeartbeats 8000000
namespace Go.Proofs.YtdkepkaflielhaaGreatDoor
open Go.RowKit
def cC(t:Tc):Bool:=eN t.VF&&cO t.addr&&(t.VJ||decide (t.addr.size=4))&&jS t.port&&decide (t.peer.size=4)&&jS t.VG&&aO t.VM 0 255
def eU(c:Bd)(peer:BA)(port:Int)(s:Ss):Bool:=gR c s&&decide (s.peer.toList=peer.toList)&&decide (s.VG=port)
def kV(c:Bd)(peer:BA)(s:Ss):Bool:=gR c s&&decide (s.peer.toList=peer.toList)
def uK(p:Pl)(t:Tc)(c:Bd)(st now:Int):Ss:=⟨t.VF,c.inn,c.VH,t.peer,t.VG,st,now+bU p.lv t.VF st⟩
def nY(xs:List Bd)(c:Bd):List Bd:=if bD (cD c.VF c.inn c.VH) xs < 0 then xs++[c] else xs
def kY(n:Int):Bo:=⟨bbZ,lB,n⟩
def jX(p:Pl)(x:Bb)(t:Tc)(c:Bd)(now:Int):Bo :=
 if bF t.VF t.VJ t.VM=0 then kY 6
 else if p.most≤(x.VK.length:Int) then kY 9
 else if (if t.VJ=true then (gJ p x.VN t.VF t.addr t.port).2 else 0)≠0 then kY (if t.VJ=true then (gJ p x.VN t.VF t.addr t.port).2 else 0)
 else ⟨⟨nY x.VN (if t.VJ=true then (gJ p x.VN t.VF t.addr t.port).1 else c),x.VK++[uK p t (if t.VJ=true then (gJ p x.VN t.VF t.addr t.port).1 else c) (bF t.VF t.VJ t.VM) now]⟩,(if t.VJ=true then (gJ p x.VN t.VF t.addr t.port).1 else c),0⟩
def nI(p:Pl)(t:Tc)(now:Int)(s:Ss):Ss:={ s with state:=aY t.VF s.state t.VJ t.VM,untl:=now+bU p.lv t.VF (aY t.VF s.state t.VJ t.VM) }
def tQ(xs:List Ss)(i:Nat)(f:Ss→Ss):List Ss:=match xs[i]? with | some s=>xs.set i (f s) | none=>xs
def mB(p:Pl)(x:Bb)(t:Tc)(c:Bd):Bool:=!t.VJ&&(decide (p.filter=2)||(decide (p.filter=1)&&!x.VK.any (kV c t.peer)))
def dO(p:Pl)(x:Bb)(t:Tc)(now:Int):Bo :=
 match x.VN.find? (if t.VJ=true then cD t.VF t.addr t.port else cV t.VF t.addr t.port) with
 | none=>if t.VJ=true then jX p x t lB now else kY 6
 | some c=>match x.VK.findIdx? (eU c t.peer t.VG) with
  | none=>if mB p x t c=true then kY 6 else jX p x t c now
  | some i=>⟨⟨x.VN,tQ x.VK i (nI p t now)⟩,c,0⟩
def dH(p:Pl)(x:Bb)(t:Tc)(now:Int):Bo:=if (fA p x&&bT now&&cC t)=true then dO p x t now else kY 1
open Go.PlainAid
theorem sN{w:World}{base e1 e2 n m s1 s2:Nat}{v v2:Value}{xs ys:List Value}(h1:w.ownsRow base e1 s1 v n xs)(h2:w.ownsRow base e2 s2 v2 m ys)(hne:e1≠e2):∀g,v.ownBlock=some g→v2.ownBlock=some g→False:=by
 intro g g1 g2;rcases h1.2 with ⟨rfl,_⟩|⟨g',cap,cur,rfl,_,hh,_⟩
 ·simp[Value.ownBlock]at g1
 ·rcases h2.2 with ⟨rfl,_⟩ | ⟨g'',cap2,cur2,rfl,_,hh2,_⟩
  ·simp[Value.ownBlock]at g2
  ·simp[Value.ownBlock]at g1 g2;subst g1 g2;rw[hh]at hh2;simp at hh2;exact hne hh2.2
def zR{α:Type}(en:α→List Value)(n base:Nat)(e:TypeId)(xs:List α):Value→World→Prop:=fun v w=>w.ownsRow base e n v xs.length (dL en xs)
theorem uR{α:Type}(en:α→List Value)(n base:Nat)(e:TypeId)(xs:List α):eZ (zR en n base e xs):=fun v w w' h hb=>fY h hb
def FB(n base:Nat)(e:TypeId):Value→World→Prop:=fun v w=>∃g,v=.slice (some ⟨g,0,none⟩) 0 0∧w.ownsRow base e n v 0 []
theorem uQ(n base:Nat)(e:TypeId):eZ (FB n base e):=fun v w w' ⟨g,h1,h2⟩ hb=>⟨g,h1,fY h2 hb⟩
def oE(base:Nat)(x:Bb)(e:Ending)(w:World):Prop:=∃bv sv,e=.returned (.agg #[bv,sv])∧w.ownsRow base 48 5 bv x.VN.length (dL dP x.VN)∧w.ownsRow base 59 7 sv x.VK.length (dL fZ x.VK)
def QF(base:Nat)(x:Bb):Value→World→Prop:=fun v w=>∃a b c d,v=.agg (aX a c b d x).toArray∧w.ownsRow base 48 5 (.slice a x.VN.length c) x.VN.length (dL dP x.VN)∧w.ownsRow base 59 7 (.slice b x.VK.length d) x.VK.length (dL fZ x.VK)
theorem EK(base:Nat)(x:Bb):eZ (QF base x):=fun v w w' ⟨a,b,c,d,h1,h2,h3⟩ hb=>⟨a,b,c,d,h1,fY h2 hb,fY h3 hb⟩
theorem AC{base g0 cap:Nat}{a:OA}{ty:TypeId}{xs:List Bd}{w:World}(h0:w.ownsRow base 48 5 (.slice (some ⟨g0,0,none⟩) 0 0) 0 [])(hx:bP dP 5 w a xs)(hl:xs.length≤1048576)(hb:base≤w.heap.size) :
  ∃v' w',(Builtin.append_ #[28,28] ty #[.slice (some ⟨g0,0,none⟩) 0 0,.slice a xs.length cap]).run Tryz.prog w=.ok v' w'∧w'.ownsRow base 48 5 v' xs.length (dL dP xs)∧Below w.heap.size w w':=by
 obtain⟨i0,hi,hz0,hz1,hz2⟩:=info_parts Tryz.infoBd;by_cases hn:xs=[]
 ·subst hn;have hr:(Builtin.append_ #[28,28] ty #[.slice (some ⟨g0,0,none⟩) 0 0,.slice a 0 cap]).run Tryz.prog w=.ok (.slice (some ⟨g0,0,none⟩) 0 0) w:=by
   cases a with
   | none=>simp[Builtin.append_,run_underlying Tryz.underlying28,sizeOf,typeInfo,hi,Builtin.lenOf,Builtin.firstCells,storeCells]
   | some v=>
    have hr:=run_append_room_cells (P:=Tryz.prog) w 28 ty 48 i0 Tryz.underlying28 hi g0 0 0 0 v 0 cap [] (by simp) (fun j u hu=>by simp at hu) (fun u hu=>by simp at hu) (by omega) (fun j hj=>by simp at hj) (fun j hj=>by simp at hj);simpa[World.setCells] using hr
  exact⟨_,_,hr,by simpa[dL] using h0,Below.refl _ _⟩
 ·rcases hx with e | ⟨b,off,rfl,hbl,hx⟩
  ·exact absurd e hn
  have hpos:0 < xs.length:=List.length_pos_iff.2 hn;obtain⟨v',w',hr,h1,h2⟩:=run_append_arg_grows (P:=Tryz.prog) w 28 ty 48 i0 _ 5 _ Tryz.underlying28 hi hz0 hz1 hz2 rfl (by decide) ⟨g0,0,none⟩ 0 0 [] (by simp) (fun j u hu=>by simp at hu) ⟨b,off,none⟩ xs.length cap (dL dP xs) (fR eC xs) (fun j u hu=>by
   rw[Addr.add_lit];exact pP eC (by omega) hx j u hu) (by omega) (by unfold maxLen;omega) (by omega)
  refine⟨v',w',hr,?_,⟨h2.os,h2.tape,h2.output,h2.size,fun k hk=>h2.block k hk (by simp)⟩⟩;rw[UI,UM]at h1;refine⟨h1.1,?_⟩;rcases h1.2 with h3|⟨g,c,cur,h3,h4,h5⟩
  ·exact .inl h3
  ·exact .inr ⟨g,c,cur,h3,UL hb h4,h5⟩
theorem vD{base g0 cap:Nat}{a:OA}{ty:TypeId}{xs:List Ss}{w:World}(h0:w.ownsRow base 59 7 (.slice (some ⟨g0,0,none⟩) 0 0) 0 [])(hx:bP fZ 7 w a xs)(hl:xs.length≤1048576)(hb:base≤w.heap.size) :
  ∃v' w',(Builtin.append_ #[29,29] ty #[.slice (some ⟨g0,0,none⟩) 0 0,.slice a xs.length cap]).run Tryz.prog w=.ok v' w'∧w'.ownsRow base 59 7 v' xs.length (dL fZ xs)∧Below w.heap.size w w':=by
 obtain⟨i0,hi,hz0,hz1,hz2⟩:=info_parts Tryz.infoSs;by_cases hn:xs=[]
 ·subst hn;have hr:(Builtin.append_ #[29,29] ty #[.slice (some ⟨g0,0,none⟩) 0 0,.slice a 0 cap]).run Tryz.prog w=.ok (.slice (some ⟨g0,0,none⟩) 0 0) w:=by
   cases a with
   | none=>simp[Builtin.append_,run_underlying Tryz.underlying29,sizeOf,typeInfo,hi,Builtin.lenOf,Builtin.firstCells,storeCells]
   | some v=>
    have hr:=run_append_room_cells (P:=Tryz.prog) w 29 ty 59 i0 Tryz.underlying29 hi g0 0 0 0 v 0 cap [] (by simp) (fun j u hu=>by simp at hu) (fun u hu=>by simp at hu) (by omega) (fun j hj=>by simp at hj) (fun j hj=>by simp at hj);simpa[World.setCells] using hr
  exact⟨_,_,hr,by simpa[dL] using h0,Below.refl _ _⟩
 ·rcases hx with e | ⟨b,off,rfl,hbl,hx⟩
  ·exact absurd e hn
  have hpos:0 < xs.length:=List.length_pos_iff.2 hn;obtain⟨v',w',hr,h1,h2⟩:=run_append_arg_grows (P:=Tryz.prog) w 29 ty 59 i0 _ 7 _ Tryz.underlying29 hi hz0 hz1 hz2 rfl (by decide) ⟨g0,0,none⟩ 0 0 [] (by simp) (fun j u hu=>by simp at hu) ⟨b,off,none⟩ xs.length cap (dL fZ xs) (fR eD xs) (fun j u hu=>by
   rw[Addr.add_lit];exact pP eD (by omega) hx j u hu) (by omega) (by unfold maxLen;omega) (by omega)
  refine⟨v',w',hr,?_,⟨h2.os,h2.tape,h2.output,h2.size,fun k hk=>h2.block k hk (by simp)⟩⟩;rw[UI,UM]at h1;refine⟨h1.1,?_⟩;rcases h1.2 with h3|⟨g,c,cur,h3,h4,h5⟩
  ·exact .inl h3
  ·exact .inr ⟨g,c,cur,h3,UL hb h4,h5⟩
theorem vQ{w:World}{base b0 n s:Nat}{e:TypeId}{v:Value}{xs:List Value}(h:w.ownsRow base e s v n xs)(hb:b0≤base):w.ownsRow b0 e s v n xs:=by
 refine⟨h.1,?_⟩;rcases h.2 with h2|⟨g,cap,cur,h3,h4,h5⟩
 ·exact .inl h2
 ·exact .inr ⟨g,cap,cur,h3,UL hb h4,h5⟩
theorem rT(x:Bb)(ba bo:OA)(ca cb:Nat)(w:World)(hbl1:x.VN.length≤1048576)(hbl2:x.VK.length≤1048576)(hx:dC w ba bo x) :
  Calls Tryz.prog 126 #[gP ba bo ca cb x] w fun e w'=>oE w.heap.size x e w'∧Below w.heap.size w w':=by
 have HZ:Hid (Below w.heap.size w ((aW w (aX ba ca bo cb x) 31).alloc (.cells #[.slice none 0 0,.slice none 0 0] 31))):=(bR.alloc lR _).alloc (by simp) _;have HB:Hid (aA ((aW w (aX ba ca bo cb x) 31).alloc (.cells #[.slice none 0 0,.slice none 0 0] 31)) w.heap.size (aX ba ca bo cb x)):=(aA.new w (aX ba ca bo cb x) 31).alloc _;have HR:Hid (aA ((aW w (aX ba ca bo cb x) 31).alloc (.cells #[.slice none 0 0,.slice none 0 0] 31)) (w.heap.size+1) [.slice none 0 0,.slice none 0 0]):=by
  have h:=aA.new (w.alloc (.cells (aX ba ca bo cb x).toArray 31)) [.slice none 0 0,.slice none 0 0] 31;rw[UC]at h;exact h
 have HSX:Hid (dC w ba bo x):=hx;clear hx;unfold gP;go_enter Tryz.func126,Tryz.ntmps126
 go_upto_region 1 with fail
 have hB0':w.heap.size+1 < ((aW w (aX ba ca bo cb x) 31).alloc (.cells #[.slice none 0 0,.slice none 0 0] 31)).heap.size:=HR.out.lt (by simp);generalize World.alloc _ _=W0 at *;have hB0:w.heap.size+1 < W0.drew.heap.size:=by simpa using hB0'
 have hB1:w.heap.size≤W0.drew.heap.size:=by omega
 have HCP:Hid (∀wy,Below W0.drew.heap.size W0.drew wy→aA wy w.heap.size (aX ba ca bo cb x)∧aA wy (w.heap.size+1) [.slice none 0 0,.slice none 0 0]∧Below w.heap.size w wy):=fun wy hy=>⟨HB.out.drew.kept (by simp) hy,HR.out.drew.kept (by simp) hy,HZ.out.drew.trans (hy.mono HZ.out.size)⟩
 refine aN [3,4,5,6,7,8,9,10,11] (by kernel_rfl) (by kernel_rfl) ?_;refine bC.rel (n:=0) (FB 5 W0.drew.heap.size 48) (uQ _ _ _) [FB 5 W0.drew.heap.size 48] rfl rfl ?_ ?_
 ·intro K' a wy ho hd hb hK;rw[wN rfl];clear hd ho;go_simp;exact hK _ _ ⟨wy.heap.size,rfl,World.ownsRow_made wy #[] 0 hb.size (by unfold maxLen;omega) rfl⟩ (bR.alloc lR _)
 iterate 2 (apply bC.u rfl;(·intro K' a wy ho hd hb hK;simp[aU,aG,aD,Region.binds]at ho hd;have hld:=(HCP.out wy hb).1;have kC:=hld.c2;go_simp;(try go_bits);exact hK _ _ rfl bQ);dsimp only[nA,cA])
 refine bC.rel (n:=3) (zR dP 5 W0.drew.heap.size 48 x.VN) (uR _ _ _ _ _) [_,_,_,zR dP 5 W0.drew.heap.size 48 x.VN] rfl rfl ?_ ?_
 ·intro K' a wy ho hd hb hK;rw[wN rfl];obtain⟨g0,e0,r0⟩: FB 5 W0.drew.heap.size 48 (aD a 3) wy:=hd ⟨0,.data⟩ (by simp) rfl;rw[e0]at r0;simp[aD]at e0;have q2:=hd ⟨2,.data⟩ (by simp) rfl;simp[aU,aG,aD]at q2;clear hd ho;obtain⟨v2,w2,hrun,h22,h23⟩:=AC (ty:=28) (cap:=ca) r0 ((HSX.out.bd.below (HCP.out wy hb).2.2)) hbl1 hb.size;refine dI (.tmp 3) (.tmp 5) _ rfl ?_ ?_ hrun (hK _ _ h22 h23)
  ·simpa[Act.eval] using e0
  ·simpa[Act.eval] using q2
 refine bC.rel (n:=4) (FB 7 W0.drew.heap.size 59) (uQ _ _ _) [_,_,_,_,FB 7 W0.drew.heap.size 59] rfl rfl ?_ ?_
 ·intro K' a wy ho hd hb hK;rw[wN rfl];clear hd ho;go_simp;exact hK _ _ ⟨wy.heap.size,rfl,World.ownsRow_made wy #[] 0 hb.size (by unfold maxLen;omega) rfl⟩ (bR.alloc lR _)
 iterate 2 (apply bC.u rfl;(·intro K' a wy ho hd hb hK;simp[aU,aG,aD,Region.binds]at ho hd;have hld:=(HCP.out wy hb).1;have kC:=hld.c2;go_simp;(try go_bits);exact hK _ _ rfl bQ);dsimp only[nA,cA])
 refine bC.rel (n:=7) (zR fZ 7 W0.drew.heap.size 59 x.VK) (uR _ _ _ _ _) [_,_,_,_,_,_,_,zR fZ 7 W0.drew.heap.size 59 x.VK] rfl rfl ?_ ?_
 ·intro K' a wy ho hd hb hK;rw[wN rfl];obtain⟨g4,e4,r4⟩: FB 7 W0.drew.heap.size 59 (aD a 7) wy:=hd ⟨4,.data⟩ (by simp) rfl;rw[e4]at r4;simp[aD]at e4;have q6:=hd ⟨6,.data⟩ (by simp) rfl;simp[aU,aG,aD]at q6;clear hd ho;obtain⟨v2,w2,hrun,h22,h23⟩:=vD (ty:=29) (cap:=cb) r4 ((HSX.out.ss.below (HCP.out wy hb).2.2)) hbl2 hb.size;refine dI (.tmp 7) (.tmp 9) _ rfl ?_ ?_ hrun (hK _ _ h22 h23)
  ·simpa[Act.eval] using e4
  ·simpa[Act.eval] using q6
 refine bC.rel (n:=8) (QF W0.drew.heap.size x) (EK _ _) [_,_,_,_,_,_,_,_,QF W0.drew.heap.size x] rfl rfl ?_ ?_
 ·intro K' a wy ho hd hb hK;rw[wN rfl];have r3:zR dP 5 W0.drew.heap.size 48 x.VN (aD a 6) wy:=hd ⟨3,.data⟩ (by simp) rfl;obtain⟨a3,c3,e3,-,-⟩:=(xV.shape eC (w0:=wy) ⟨r3,Below.refl _ _⟩: ∃a' cap,aD a 6=.slice a' x.VN.length cap∧x.VN.length≤cap∧eX dP 5 W0.drew.heap.size wy a' x.VN);unfold zR at r3;rw[e3]at r3;simp[aD]at e3;have r7:zR fZ 7 W0.drew.heap.size 59 x.VK (aD a 10) wy:=hd ⟨7,.data⟩ (by simp) rfl;obtain⟨a7,c7,e7,-,-⟩:=(xV.shape eD (w0:=wy) ⟨r7,Below.refl _ _⟩: ∃a' cap,aD a 10=.slice a' x.VK.length cap∧x.VK.length≤cap∧eX fZ 7 W0.drew.heap.size wy a' x.VK);unfold zR at r7;rw[e7]at r7;simp[aD]at e7;clear hd ho;go_simp;exact hK _ _ ⟨a3,a7,c3,c7,rfl,r3,r7⟩ bR
 intro X wz hR hz;obtain⟨x0,x1,x2,x3,x4,x5,x6,x7,x8,-⟩:=hR;obtain⟨g0,e0,-⟩:=x0;obtain⟨g4,e4,-⟩:=x4;obtain⟨oa,ob,oc,od,e8,o8,o9⟩:=x8;simp only[aG]at x1 x2 x5 x6;simp only[aE,e0,x1,x2,aE,e4,x5,x6,aE,e8];clear x1 x2 x5 x6;have hz0:=(HCP.out wz hz).2.1;have HBW:=(HCP.out wz hz).2.2;obtain⟨z0,z1⟩:=hz0.c2;obtain⟨f0,f1⟩:=hz0.f2;have HH6:Hid (aA ((sW wz (w.heap.size+1) 0 (.slice oa x.VN.length oc)).setCell ⟨w.heap.size+1,1,none⟩ (.slice ob x.VK.length od)) (w.heap.size+1) (aX oa oc ob od x)):=(hz0.set 0 _).set 1 _;have HO1:Hid (((sW wz (w.heap.size+1) 0 (.slice oa x.VN.length oc)).setCell ⟨w.heap.size+1,1,none⟩ (.slice ob x.VK.length od)).ownsRow w.heap.size 48 5 (.slice oa x.VN.length oc) x.VN.length (dL dP x.VN)):=vQ (cG (cG o8 (dX o8 hB0)) (dX o8 hB0)) hB1;have HO2:Hid (((sW wz (w.heap.size+1) 0 (.slice oa x.VN.length oc)).setCell ⟨w.heap.size+1,1,none⟩ (.slice ob x.VK.length od)).ownsRow w.heap.size 59 7 (.slice ob x.VK.length od) x.VK.length (dL fZ x.VK)):=vQ (cG (cG o9 (dX o9 hB0)) (dX o9 hB0)) hB1;have HB6:Hid (Below w.heap.size w ((sW wz (w.heap.size+1) 0 (.slice oa x.VN.length oc)).setCell ⟨w.heap.size+1,1,none⟩ (.slice ob x.VK.length od))):=(sCl HBW (Nat.le_succ _)).setCell (p:=⟨w.heap.size+1,1,none⟩) (Nat.le_succ _) _;clear hz0 HBW o8 o9 hz;intro K5 hK5;go_simp;refine hK5 _ _ ?_;simp only[fN];go_wp2_with fail
 exact VB (aF Tryz.results126 _ _ (w.heap.size+1) (aX oa oc ob od x) _ rfl HH6.out Tryz.underlying31 rfl (show (Tryz.prog.info? 31).map (·.size)=some 2 by kernel_rfl)) rfl ⟨⟨_,_,rfl,HO1.out,HO2.out⟩,HB6.out⟩
structure fK(w:World)(base O:Nat)(ks:List (Nat × List Value))(bv sv:Value)(ys:List Bd)(zs:List Ss)(wx:World):Prop where
 o:aA wx O [bv,sv]
 bo:wx.ownsRow base 48 5 bv ys.length (dL dP ys)
 so:wx.ownsRow base 59 7 sv zs.length (dL fZ zs)
 ne:∀g,bv.ownBlock=some g→sv.ownBlock=some g→False
 b:Below w.heap.size w wx
 k:∀e∈ks,aA wx e.1 e.2
 lo:w.heap.size≤O
 hi:bv.ownBlock≠some O∧sv.ownBlock≠some O
 wb:w.heap.size≤base
 hb:base≤wx.heap.size
 kb:∀e∈ks,e.1 < base∧e.1≠O∧0 < e.2.length
section
variable {w:World} {base O:Nat} {ks:List (Nat × List Value)} {bv sv:Value} {ys:List Bd} {zs:List Ss} {wx wy:World}
theorem fK.at{a:Nat}{l:List Value}(h:fK w base O ks bv sv ys zs wx)(hm:(a,l)∈ks):aA wx a l:=h.k _ hm
theorem fK.kept(h:fK w base O ks bv sv ys zs wx)(hB:Below wx.heap.size wx wy):fK w base O ks bv sv ys zs wy :=
 ⟨h.o.kept (by simp) hB,fY h.bo hB,fY h.so hB,h.ne,h.b.trans (hB.mono h.b.size),fun e he=>(h.k e he).kept (h.kb e he).2.2 hB,h.lo,h.hi,h.wb,UL h.hb hB.size,h.kb⟩
theorem fK.make{w w5:World}{base:Nat}{ks:List (Nat × List Value)}{bv sv:Value}{x:Bb}(hwb:w.heap.size≤base)(hb:Below w.heap.size w w5)(h1:w5.ownsRow base 48 5 bv x.VN.length (dL dP x.VN))(h2:w5.ownsRow base 59 7 sv x.VK.length (dL fZ x.VK))(hk:∀e∈ks,aA w5 e.1 e.2)(hkb:∀e∈ks,e.1 < base∧0 < e.2.length)(hbs:base≤w5.heap.size) :
  fK w base w5.heap.size ks bv sv x.VN x.VK (w5.alloc (.cells #[bv,sv] 31)):=by
 have n1:bv.ownBlock≠some w5.heap.size:=fun e=>by have:=(fC h1 e).2;omega
 have n2:sv.ownBlock≠some w5.heap.size:=fun e=>by have:=(fC h2 e).2;omega
 have hal:Below w5.heap.size w5 (w5.alloc (.cells #[bv,sv] 31)):=bR.alloc lR _;have hlo:=UL hwb hbs;refine⟨aA.new w5 [bv,sv] 31,fY h1 hal,fY h2 hal,sN h1 h2 (by decide),hb.trans (hal.mono hlo),fun e he=>(hk e he).kept (hkb e he).2 hal,hlo,⟨n1,n2⟩,hwb,?_,fun e he=>⟨(hkb e he).1,?_,(hkb e he).2⟩⟩
 ·simp;omega
 ·have:=(hkb e he).1;omega
theorem fK.appS(h:fK w base O ks bv sv ys zs wx)(q:Ss)(g:Nat)(hg:aA wx g (fZ q))(jD:zs.length≤1048576) :
  ∃v6 w6,(Builtin.append_ #[29,29] 29 #[sv,.slice (some ⟨g,0,none⟩) 1 1]).run Tryz.prog wx=.ok v6 w6∧(∃gg l c,v6=.slice (some ⟨gg,0,none⟩) l c)∧aA w6 O [bv,sv]∧fK w base O ks bv v6 ys (zs++[q]) (w6.setCell ⟨O,1,none⟩ v6):=by
 obtain⟨i0,hi,hz0,hz1,hz2⟩:=info_parts Tryz.infoSs;have hOl:O < wx.heap.size:=h.o.lt (by simp);have hwb:=h.wb;have hlo:=h.lo;have hbb:=h.hb;obtain⟨v6,w6,hrun,h62,h63,h64,h65⟩:=run_append_own_at (P:=Tryz.prog) wx base 29 29 59 i0 _ 7 _ Tryz.underlying29 hi hz0 hz1 hz2 rfl (by decide) sv _ _ h.so ⟨g,0,none⟩ 1 1 (fZ q) rfl (fun i u hu=>by rw[rK];exact hg.cell hu) (BQ q) (by unfold maxLen;omega) (by omega) h.hb;have hnr:∀X,X < base→some X≠sv.ownBlock:=fun X hX e=>dX h.so hX e.symm
 have n6:v6.ownBlock≠some O:=by
  rcases h65 with h7|h7<;>rw[h7]
  ·exact h.hi.2
  ·intro e;injection e with e;omega
 have hO:=h.o.grown (by simp) h63 (fun e=>h.hi.2 e.symm);have hne:∀g,bv.ownBlock=some g→v6.ownBlock=some g→False:=by
  intro g e1 e2;rcases h65 with h7|h7
  ·exact h.ne g e1 (h7 ▸ e2)
  ·rw[h7]at e2;injection e2 with e3
   have:=(fC h.bo e1).2;omega
 have hold:=World.ownsRow.kept h.bo h63 (by
  by_cases e:bv.ownBlock=none
  ·exact .inl e
  ·refine .inr (fun e2=>?_);obtain⟨k,hk⟩:=Option.ne_none_iff_exists'.1 e;exact h.ne k hk (e2 ▸ hk))
 have hsz:base≤(w6.setCell ⟨O,1,none⟩ v6).heap.size:=by simp;exact UL h.hb h63.size
 refine⟨v6,w6,hrun,?_,hO,hO.set 1 v6,cG hold h.hi.1,cG (by rw[kB,List.length_append];exact h62) n6,hne,(oJ h.b h63 (fun k e=>by have:=(fC h.so e).1;omega)).setCell (p:=⟨O,1,none⟩) hlo v6,fun e he=>((h.k e he).grown (h.kb e he).2.2 h63 (hnr _ (h.kb e he).1)).setOther (h.kb e he).2.1 v6,h.lo,⟨h.hi.1,n6⟩,h.wb,hsz,h.kb⟩;rcases h62.2 with ⟨_,h0⟩|⟨gg,c6,_,h6,_⟩
 ·simp at h0
 ·exact⟨gg,_,c6,h6⟩
theorem fK.appB(h:fK w base O ks bv sv ys zs wx)(q:Bd)(g:Nat)(hg:aA wx g (dP q))(jD:ys.length≤1048576) :
  ∃v6 w6,(Builtin.append_ #[28,28] 28 #[bv,.slice (some ⟨g,0,none⟩) 1 1]).run Tryz.prog wx=.ok v6 w6∧(∃gg l c,v6=.slice (some ⟨gg,0,none⟩) l c)∧aA w6 O [bv,sv]∧fK w base O ks v6 sv (ys++[q]) zs (w6.setCell ⟨O,0,none⟩ v6):=by
 obtain⟨i0,hi,hz0,hz1,hz2⟩:=info_parts Tryz.infoBd;have hOl:O < wx.heap.size:=h.o.lt (by simp);have hwb:=h.wb;have hlo:=h.lo;have hbb:=h.hb;obtain⟨v6,w6,hrun,h62,h63,h64,h65⟩:=run_append_own_at (P:=Tryz.prog) wx base 28 28 48 i0 _ 5 _ Tryz.underlying28 hi hz0 hz1 hz2 rfl (by decide) bv _ _ h.bo ⟨g,0,none⟩ 1 1 (dP q) rfl (fun i u hu=>by rw[rK];exact hg.cell hu) (zX q) (by unfold maxLen;omega) (by omega) h.hb;have hnr:∀X,X < base→some X≠bv.ownBlock:=fun X hX e=>dX h.bo hX e.symm
 have n6:v6.ownBlock≠some O:=by
  rcases h65 with h7|h7<;>rw[h7]
  ·exact h.hi.1
  ·intro e;injection e with e;omega
 have hO:=h.o.grown (by simp) h63 (fun e=>h.hi.1 e.symm);have hne:∀g,v6.ownBlock=some g→sv.ownBlock=some g→False:=by
  intro g e1 e2;rcases h65 with h7|h7
  ·exact h.ne g (h7 ▸ e1) e2
  ·rw[h7]at e1;injection e1 with e3
   have:=(fC h.so e2).2;omega
 have hold:=World.ownsRow.kept h.so h63 (by
  by_cases e:sv.ownBlock=none
  ·exact .inl e
  ·refine .inr (fun e2=>?_);obtain⟨k,hk⟩:=Option.ne_none_iff_exists'.1 e;exact h.ne k (e2 ▸ hk) hk)
 have hsz:base≤(w6.setCell ⟨O,0,none⟩ v6).heap.size:=by simp;exact UL h.hb h63.size
 refine⟨v6,w6,hrun,?_,hO,hO.set 0 v6,cG (by rw[kB,List.length_append];exact h62) n6,cG hold h.hi.2,hne,(oJ h.b h63 (fun k e=>by have:=(fC h.bo e).1;omega)).setCell (p:=⟨O,0,none⟩) hlo v6,fun e he=>((h.k e he).grown (h.kb e he).2.2 h63 (hnr _ (h.kb e he).1)).setOther (h.kb e he).2.1 v6,h.lo,⟨n6,h.hi.2⟩,h.wb,hsz,h.kb⟩;rcases h62.2 with ⟨_,h0⟩|⟨gg,c6,_,h6,_⟩
 ·simp at h0
 ·exact⟨gg,_,c6,h6⟩
theorem fK.shapes(h:fK w base O ks bv sv ys zs wx):(∃a cap,bv=.slice a ys.length cap∧ys.length≤cap∧eX dP 5 base wx a ys)∧∃a cap,sv=.slice a zs.length cap∧zs.length≤cap∧eX fZ 7 base wx a zs :=
 ⟨xV.shape eC (w0:=wx) ⟨h.bo,Below.refl _ _⟩,xV.shape eD (w0:=wx) ⟨h.so,Below.refl _ _⟩⟩
end
theorem jP(l:Lv)(VF st:Int):0≤bU l VF st∧bU l VF st≤10000:=by
 unfold bU
 cases h:fT l with
 | false=>simp
 | true=>
  unfold fT aO at h;simp only[UB,UF]at h;simp only[Bool.true_eq_false,if_false];(repeat' split)<;>omega
theorem MV(xs:List Bd)(c:Bd):(nY xs c).length≤xs.length+1:=by
 unfold nY;split
 ·simp
 ·omega
theorem NK(xs:List Ss)(i:Nat)(f:Ss→Ss):(tQ xs i f).length=xs.length:=by
 unfold tQ;split
 ·simp
 ·rfl
theorem DO(p:Pl)(x:Bb)(t:Tc)(c:Bd)(now:Int):(jX p x t c now).bib.VN.length≤x.VN.length+1∧(jX p x t c now).bib.VK.length≤x.VK.length+1:=by
 unfold jX;by_cases h1:bF t.VF t.VJ t.VM=0
 ·rw[if_pos h1];exact⟨VC _,VC _⟩
 rw[if_neg h1];by_cases h2:p.most≤(x.VK.length:Int)
 ·rw[if_pos h2];exact⟨VC _,VC _⟩
 rw[if_neg h2];by_cases h3:(if t.VJ=true then (gJ p x.VN t.VF t.addr t.port).2 else 0)≠0
 ·rw[if_pos h3];exact⟨VC _,VC _⟩
 rw[if_neg h3];exact⟨MV _ _,by simp⟩
theorem OT(p:Pl)(x:Bb)(t:Tc)(now:Int):(dO p x t now).bib.VN.length≤x.VN.length+1∧(dO p x t now).bib.VK.length≤x.VK.length+1:=by
 unfold dO;split
 ·split
  ·exact DO p x t _ now
  ·exact⟨VC _,VC _⟩
 ·split
  ·split
   ·exact⟨VC _,VC _⟩
   ·exact DO p x t _ now
  ·exact⟨by simp,by simp[NK]⟩
theorem yL(x:Bb)(c:Bd)(peer:BA)(port:Int)(ba bo:OA)(ca cb:Nat)(w:World)(hl2:x.VK.length≤1048576)(hr:dC w ba bo x) :
  Cb 158 #[gP ba bo ca cb x,gW c,.string peer,iV port] w (iV (bD (eU c peer port) x.VK)):=by
 have HZ0:Hid (Below w.heap.size w ((aW w (aX ba ca bo cb x) 31).alloc (.cells (cZ c).toArray 48))):=(bR.alloc lR _).alloc (by simp) _;have HB:Hid (aA ((aW w (aX ba ca bo cb x) 31).alloc (.cells (cZ c).toArray 48)) w.heap.size (aX ba ca bo cb x)):=(aA.new w (aX ba ca bo cb x) 31).alloc _;have HC:Hid (aA ((aW w (aX ba ca bo cb x) 31).alloc (.cells (cZ c).toArray 48)) (w.heap.size+1) (cZ c)):=by
  have h:=aA.new (w.alloc (.cells (aX ba ca bo cb x).toArray 31)) (cZ c) 48;rw[UC]at h;exact h
 have HR:Hid (dC w ba bo x):=hr;obtain⟨ans,hans⟩: ∃y,y=bD (eU c peer port) x.VK:=⟨_,rfl⟩;have HA:Hid (ans=bD (eU c peer port) x.VK):=hans;rw[←hans];have hun:undef=Value.tuple #[]:=rfl;clear hr hans;unfold gP gW;go_enter Tryz.func158,Tryz.ntmps158
 go_upto_region 1 with fail
 generalize World.alloc _ _=W0 at *;go_wp2_with fail
 go_loopw [9] (fun iv wr=>∃i:Nat,i≤x.VK.length∧iv=iV i∧(x.VK.take i).any (eU c peer port)=false∧aA wr w.heap.size (aX ba ca bo cb x)∧aA wr (w.heap.size+1) (cZ c)∧Below w.heap.size w wr) (fun iv _=>x.VK.length-(intOf iv).toNat)
 case atStart=>exact⟨0,VC _,rfl,by simp,HB.out,HC.out,HZ0.out⟩
 case round=>
  obtain⟨i,hi,rfl,hn,hB,hC,hb0⟩:=hrel;have HN:Hid ((x.VK.take i).any (eU c peer port)=false):=hn;have HBr:Hid _:=hB;have HCr:Hid _:=hC;have HW:Hid (Below w.heap.size w wr):=hb0;clear hn hB hC hb0 HB HC HZ0;generalize wr=w1 at *;have z1:=HBr.out.cell (j:=1) rfl;by_cases hlt:i < x.VK.length
  ·obtain⟨bb,off,rfl,hb,hat⟩:=HR.out.ss.at hlt;have hA:=(hat.below hb HW.out) i hlt;have HT:Hid _:=jW (eU c peer port) x.VK i hlt;have HF:Hid (eU c peer port x.VK[i]=true→bD (eU c peer port) x.VK=i):=fun h=>nS _ x.VK i hlt HN.out h
   obtain⟨s,hs⟩: ∃s,s=x.VK[i]:=⟨_,rfl⟩;rw[←hs]at hA HT HF;have HPV:Hid (eU c peer port s=(gR c s&&decide (s.peer.toList=peer.toList)&&decide (s.VG=port))):=rfl;have hltI:(i:Int) < (x.VK.length:Int):=by omega
   obtain⟨s0,s1,s2,s3,s4,s5,s6⟩:=NE hA;clear hA hat hs hb;have HH:Hid (∀W,Cb 37 #[.agg (cZ c).toArray,.agg (iE s).toArray] W (.bool (gR c s))):=fun W=>tR c s W
   generalize eU c peer port s=pv at *;generalize gR c s=hv at *;go_upto_region 5 with fail
   have bn:Below w1.heap.size w1 (w1.alloc (.cells (iE s).toArray 59)):=bR.alloc lR _;have hn:aA (w1.alloc (.cells (iE s).toArray 59)) w1.heap.size (iE s):=aA.new w1 (iE s) 59;have HB2:Hid _:=HBr.out.kept (by simp) bn;have HC2:Hid _:=HCr.out.kept (by simp) bn;have HW2:Hid _:=HW.out.trans (bn.mono HW.out.size);have HS2:Hid _:=hn;generalize (w1.alloc (.cells (iE s).toArray 59))=W2 at *;clear bn hn HBr HCr HW z1 s0 s1 s2 s3 s4 s5 s6;generalize w1.heap.size=Bs at *;obtain⟨c0,c1,c2,c3,c4⟩:=HC2.out.c5;obtain⟨s0,s1,s2,s3,s4,s5,s6⟩:=HS2.out.c7;go_wp2_with fail
   refine(HH.out _).mono ?_;rintro e w3 ⟨rfl,q3⟩;have HB3:Hid _:=HB2.out.kept (by simp) q3;have HC3:Hid _:=HC2.out.kept (by simp) q3;have HS3:Hid _:=HS2.out.kept (by simp) q3;have HW3:Hid _:=HW2.out.trans (q3.mono HW2.out.size);clear q3 HB2 HC2 HW2 HS2 HH c0 c1 c2 c3 c4 s0 s1 s2 s3 s4 s5 s6;obtain⟨-,-,-,s3,s4⟩:=HS3.out.c5
   cases hv with
   | false=>
    have HX:Hid (pv=false):=by unfold Hid;rw[HPV.out];rfl
    have HN2:Hid ((x.VK.take (i+1)).any (eU c peer port)=false):=by unfold Hid;rw[HT.out,HN.out,HX.out];rfl
    go_wp2_with fail
    go_roundw
    case rel=>
     first | exact⟨i+1,by omega,by go_num,HN2.out,HB3.out,HC3.out,HW3.out⟩ | ((repeat apply Exists.intro);exact⟨⟨i+1,by omega,by go_num,HN2.out,HB3.out,HC3.out,HW3.out⟩,rfl⟩)
    case measure=>simp[intOf]<;>omega
   | true=>
   by_cases h1:s.peer.toList=peer.toList
   case neg=>
    have e1:(s.peer.toList==peer.toList)=false:=by simp[h1]
    have HX:Hid (pv=false):=by unfold Hid;rw[HPV.out,UD h1];rfl
    clear h1;have HN2:Hid ((x.VK.take (i+1)).any (eU c peer port)=false):=by unfold Hid;rw[HT.out,HN.out,HX.out];rfl
    go_wp2_with fail
    go_roundw
    case rel=>
     first | exact⟨i+1,by omega,by go_num,HN2.out,HB3.out,HC3.out,HW3.out⟩ | ((repeat apply Exists.intro);exact⟨⟨i+1,by omega,by go_num,HN2.out,HB3.out,HC3.out,HW3.out⟩,rfl⟩)
    case measure=>simp[intOf]<;>omega
   have e1:(s.peer.toList==peer.toList)=true:=by simp[h1]
   by_cases h2:s.VG=port
   case neg=>
    have e2:(s.VG==port)=false:=by simp[h2]
    have HX:Hid (pv=false):=by unfold Hid;rw[HPV.out,UD h2];simp
    clear h1;have HN2:Hid ((x.VK.take (i+1)).any (eU c peer port)=false):=by unfold Hid;rw[HT.out,HN.out,HX.out];rfl
    go_wp2_with fail
    go_roundw
    case rel=>
     first | exact⟨i+1,by omega,by go_num,HN2.out,HB3.out,HC3.out,HW3.out⟩ | ((repeat apply Exists.intro);exact⟨⟨i+1,by omega,by go_num,HN2.out,HB3.out,HC3.out,HW3.out⟩,rfl⟩)
    case measure=>simp[intOf]<;>omega
   have e2:(s.VG==port)=true:=by simp[h2]
   have HX:Hid ((i:Int)=ans):=by unfold Hid;rw[HA.out,HF.out (by rw[HPV.out,UE h1,UE h2];rfl)]
   clear h1 h2;go_wp2_with fail
   go_ret;exact⟨aK HX.out,HW3.out⟩
  ·have hie:i=x.VK.length:=by omega
   have HX:Hid ((-1:Int)=ans):=by unfold Hid;have:=HN.out;rw[hie,List.take_length]at this;rw[HA.out,pO _ _ this]
   have hge:¬(i:Int) < (x.VK.length:Int):=by omega
   clear hie hlt;go_wp2_with fail
   go_ret;exact⟨aK HX.out,HW.out⟩
theorem EI(x:Bb)(c:Bd)(peer:BA)(ba bo:OA)(ca cb:Nat)(w:World)(hl2:x.VK.length≤1048576)(hr:dC w ba bo x) :
  Cb 159 #[gP ba bo ca cb x,gW c,.string peer] w (.bool (x.VK.any (kV c peer))):=by
 have HZ0:Hid (Below w.heap.size w ((aW w (aX ba ca bo cb x) 31).alloc (.cells (cZ c).toArray 48))):=(bR.alloc lR _).alloc (by simp) _;have HB:Hid (aA ((aW w (aX ba ca bo cb x) 31).alloc (.cells (cZ c).toArray 48)) w.heap.size (aX ba ca bo cb x)):=(aA.new w (aX ba ca bo cb x) 31).alloc _;have HC:Hid (aA ((aW w (aX ba ca bo cb x) 31).alloc (.cells (cZ c).toArray 48)) (w.heap.size+1) (cZ c)):=by
  have h:=aA.new (w.alloc (.cells (aX ba ca bo cb x).toArray 31)) (cZ c) 48;rw[UC]at h;exact h
 have HR:Hid (dC w ba bo x):=hr;obtain⟨ans,hans⟩: ∃y,y=x.VK.any (kV c peer):=⟨_,rfl⟩;have HA:Hid (ans=x.VK.any (kV c peer)):=hans;rw[←hans];clear hr hans;unfold gP gW;go_enter Tryz.func159,Tryz.ntmps159
 go_upto_region 1 with fail
 generalize World.alloc _ _=W0 at *;go_wp2_with fail
 go_loopw [7] (fun iv wr=>∃i:Nat,i≤x.VK.length∧iv=iV i∧(x.VK.take i).any (kV c peer)=false∧aA wr w.heap.size (aX ba ca bo cb x)∧aA wr (w.heap.size+1) (cZ c)∧Below w.heap.size w wr) (fun iv _=>x.VK.length-(intOf iv).toNat)
 case atStart=>exact⟨0,VC _,rfl,by simp,HB.out,HC.out,HZ0.out⟩
 case round=>
  obtain⟨i,hi,rfl,hn,hB,hC,hb0⟩:=hrel;have HN:Hid ((x.VK.take i).any (kV c peer)=false):=hn;have HBr:Hid _:=hB;have HCr:Hid _:=hC;have HW:Hid (Below w.heap.size w wr):=hb0;clear hn hB hC hb0 HB HC HZ0;generalize wr=w1 at *;have z1:=HBr.out.cell (j:=1) rfl;by_cases hlt:i < x.VK.length
  ·obtain⟨bb,off,rfl,hb,hat⟩:=HR.out.ss.at hlt;have HAT:Hid (∀W,Below w.heap.size w W→W.rangeAt bb (off+i*7) (fZ x.VK[i])):=fun W hW=>(hat.below hb hW) i hlt
   have HT:Hid _:=jW (kV c peer) x.VK i hlt;have HF:Hid (kV c peer x.VK[i]=true→x.VK.any (kV c peer)=true):=tF _ x.VK i hlt;obtain⟨s,hs⟩: ∃s,s=x.VK[i]:=⟨_,rfl⟩;rw[←hs]at HAT HT HF;have HPV:Hid (kV c peer s=(gR c s&&decide (s.peer.toList=peer.toList))):=rfl;have hltI:(i:Int) < (x.VK.length:Int):=by omega
   have HH:Hid (∀W,Cb 37 #[.agg (cZ c).toArray,.agg (iE s).toArray] W (.bool (gR c s))):=fun W=>tR c s W
   generalize kV c peer s=pv at *;generalize gR c s=hv at *;clear hat hs hb;go_upto_region 4 with fail
   clear z1;go_cut [31] (fun v wx=>v=.bool pv∧Below w1.heap.size w1 wx)
   case first=>
    rename_i J K2 hJ hK2;have HCP:Hid (∀wy,Below w1.drew.heap.size w1.drew wy→aA wy w.heap.size (aX ba ca (some ⟨bb,off,none⟩) cb x)∧aA wy (w.heap.size+1) (cZ c)∧Below w.heap.size w wy):=fun wy hy=>⟨HBr.out.drew.kept (by simp) hy,HCr.out.drew.kept (by simp) hy,HW.out.drew.trans (hy.mono HW.out.size)⟩
    cases hv with
    | false=>
     refine bJ [15,16,17,18,19,20,21,22,23,24,25,26,27,28,29,30,31] (by kernel_rfl) (by kernel_rfl) ?_;iterate 17 ((first|(refine fI.n rfl rfl rfl rfl rfl (by simp) ?_)|(apply fI.u rfl;(·intro K' a wy ho hd hb2 hK;simp[aU,aG,aD,Region.binds]at ho hd;obtain⟨hB,hC,hbw⟩:=HCP.out wy hb2;have hA:=HAT.out wy hbw;have kC:=hB.c2;have kC:=hC.c5;obtain⟨s0,s1,s2,s3,s4,s5,s6⟩:=NE hA;go_simp;first|((try go_bits);exact hK _ _ rfl bQ)|(refine(HH.out wy).mono ?_;rintro e wz ⟨rfl,hz⟩;exact hK _ _ rfl hz))));dsimp only[nA,cA])
     intro X wz hR hz;simp only[UM,UN,eY,aG]at hR;simp only[aE,hR];clear hR;go_simp;refine hK2 _ _ (hJ _ _ ?_);(repeat apply Exists.intro)
     refine⟨⟨by rw[HPV.out];simp,bR.drew.trans hz⟩,rfl⟩
    | true=>
     by_cases h1:s.peer.toList=peer.toList
     ·have e1:(s.peer.toList==peer.toList)=true:=by simp[h1]
      refine bJ [15,16,17,18,19,20,21,22,23,24,25,26,27,28,29,30,31] (by kernel_rfl) (by kernel_rfl) ?_;iterate 17 ((first|apply fI.u rfl|apply fI.g rfl rfl rfl rfl rfl (by simp));(·intro K' a wy ho hd hb2 hK;simp[aU,aG,aD,Region.binds]at ho hd;obtain⟨hB,hC,hbw⟩:=HCP.out wy hb2;have hA:=HAT.out wy hbw;have kC:=hB.c2;have kC:=hC.c5;obtain⟨s0,s1,s2,s3,s4,s5,s6⟩:=NE hA;go_simp;first|((try go_bits);exact hK _ _ rfl bQ)|(refine(HH.out wy).mono ?_;rintro e wz ⟨rfl,hz⟩;exact hK _ _ rfl hz));dsimp only[nA,cA])
      intro X wz hR hz;simp only[UM,UN,eY,aG]at hR;simp only[aE,hR];clear hR;go_simp;refine hK2 _ _ (hJ _ _ ?_);(repeat apply Exists.intro)
      refine⟨⟨by rw[HPV.out];simp[h1],bR.drew.trans hz⟩,rfl⟩
     ·have e1:(s.peer.toList==peer.toList)=false:=by simp[h1]
      refine bJ [15,16,17,18,19,20,21,22,23,24,25,26,27,28,29,30,31] (by kernel_rfl) (by kernel_rfl) ?_;iterate 17 ((first|apply fI.u rfl|apply fI.g rfl rfl rfl rfl rfl (by simp));(·intro K' a wy ho hd hb2 hK;simp[aU,aG,aD,Region.binds]at ho hd;obtain⟨hB,hC,hbw⟩:=HCP.out wy hb2;have hA:=HAT.out wy hbw;have kC:=hB.c2;have kC:=hC.c5;obtain⟨s0,s1,s2,s3,s4,s5,s6⟩:=NE hA;go_simp;first|((try go_bits);exact hK _ _ rfl bQ)|(refine(HH.out wy).mono ?_;rintro e wz ⟨rfl,hz⟩;exact hK _ _ rfl hz));dsimp only[nA,cA])
      intro X wz hR hz;simp only[UM,UN,eY,aG]at hR;simp only[aE,hR];clear hR;go_simp;refine hK2 _ _ (hJ _ _ ?_);(repeat apply Exists.intro)
      refine⟨⟨by rw[HPV.out];simp[h1],bR.drew.trans hz⟩,rfl⟩
   case rest=>
   obtain⟨rfl,qc⟩:=hcut;generalize wc=w3 at *;have HB3:Hid _:=HBr.out.kept (by simp) qc;have HC3:Hid _:=HCr.out.kept (by simp) qc;have HW3:Hid _:=HW.out.trans (qc.mono HW.out.size);clear qc HBr HCr HW
   cases pv with
   | true=>
    have HX:Hid (true=ans):=by unfold Hid;rw[HA.out,HF.out rfl]
    go_wp2_with fail
    go_ret;exact⟨aC HX.out,HW3.out⟩
   | false=>
    have HN2:Hid ((x.VK.take (i+1)).any (kV c peer)=false):=by unfold Hid;rw[HT.out,HN.out];rfl
    go_wp2_with fail
    go_roundw
    case rel=>
     first | exact⟨i+1,by omega,by go_num,HN2.out,HB3.out,HC3.out,HW3.out⟩ | ((repeat apply Exists.intro);exact⟨⟨i+1,by omega,by go_num,HN2.out,HB3.out,HC3.out,HW3.out⟩,rfl⟩)
    case measure=>simp[intOf]<;>omega
  ·have hie:i=x.VK.length:=by omega
   have HX:Hid (false=ans):=by unfold Hid;have:=HN.out;rw[hie,List.take_length]at this;rw[HA.out,this]
   have hge:¬(i:Int) < (x.VK.length:Int):=by omega
   clear hie hlt;go_wp2_with fail
   go_ret;exact⟨aC HX.out,HW.out⟩
theorem yM(t:Tc)(w:World)(hs1:t.addr.size≤1048576)(hs2:t.peer.size≤1048576) :
  Cb 125 #[pJ t] w (.bool (cC t)):=by
 have HZ:Hid (Below w.heap.size w (w.alloc (.cells (FH t).toArray 89))):=bR.alloc lR _;have HK:aA (w.alloc (.cells (FH t).toArray 89)) w.heap.size (FH t):=aA.new w (FH t) 89;have H1:Hid (∀W,Cw 69 #[iV t.VF] W (.bool (eN t.VF))):=fun W=>sU _ W
 have H2:Hid (∀W,Cw 65 #[.string t.addr] W (.bool (cO t.addr))):=fun W=>jC t.addr W
 have H3:Hid (∀W,Cw 39 #[iV t.port] W (.bool (jS t.port))):=fun W=>gL _ W
 have H4:Hid (∀W,Cw 39 #[iV t.VG] W (.bool (jS t.VG))):=fun W=>gL _ W
 have H5:Hid (∀W,Cw 38 #[iV t.VM] W (.bool (aO t.VM 0 255))):=fun W=>iT _ W
 have HV:Hid (cC t=(eN t.VF&&cO t.addr&&(t.VJ||decide (t.addr.size=4))&&jS t.port&&decide (t.peer.size=4)&&jS t.VG&&aO t.VM 0 255)):=rfl;generalize cC t=ans at *;generalize eN t.VF=b1 at *;generalize cO t.addr=b2 at *;generalize jS t.port=b3 at *;generalize jS t.VG=b4 at *;generalize aO t.VM 0 255=b5 at *;have hun:undef=Value.tuple #[]:=rfl;unfold pJ;go_enter Tryz.func125,Tryz.ntmps125
 go_upto_region 1 with fail
 generalize (w.alloc (.cells (FH t).toArray 89))=W at *;obtain⟨k0,k1,k2,k3,k4,k5,k6⟩:=HK.c7;clear HK;obtain⟨VF,VJ,addr,port,peer,VG,VM⟩:=t;dsimp only at *;go_wp2_with fail
 refine(H1.out _).mono ?_;rintro e W ⟨rfl,rfl⟩
 cases b1 with
 | false=>
  have HX:Hid (ans=false):=by unfold Hid;rw[HV.out];simp
  go_wp2_with fail
  go_ret;exact⟨aC HX.out.symm,HZ.out⟩
 | true=>
 go_wp2_with fail
 refine(H2.out _).mono ?_;rintro e W ⟨rfl,rfl⟩
 cases b2 with
 | false=>
  have HX:Hid (ans=false):=by unfold Hid;rw[HV.out];simp
  go_wp2_with fail
  go_ret;exact⟨aC HX.out.symm,HZ.out⟩
 | true=>
 cases VJ with
 | true=>
  go_wp2_with fail
  refine(H3.out _).mono ?_;rintro e W ⟨rfl,rfl⟩
  cases b3 with
  | false=>
   have HX:Hid (ans=false):=by unfold Hid;rw[HV.out];simp
   go_wp2_with fail
   go_ret;exact⟨aC HX.out.symm,HZ.out⟩
  | true=>
  by_cases h4:peer.size=4
  case neg=>
   have h4i:¬(peer.size:Int)=4:=by omega
   have d4:((peer.size:Int)==4)=false:=by simp[h4i]
   have HX:Hid (ans=false):=by unfold Hid;rw[HV.out,UD h4];simp
   go_wp2_with fail
   go_ret;exact⟨aC HX.out.symm,HZ.out⟩
  have h4i:(peer.size:Int)=4:=by omega
  have d4:((peer.size:Int)==4)=true:=by simp[h4i]
  have HP4:Hid (decide (peer.size=4)=true):=UE h4;clear h4i h4;go_wp2_with fail
  refine(H4.out _).mono ?_;rintro e W ⟨rfl,rfl⟩
  cases b4 with
  | false=>
   have HX:Hid (ans=false):=by unfold Hid;rw[HV.out];simp
   go_wp2_with fail
   go_ret;exact⟨aC HX.out.symm,HZ.out⟩
  | true=>
  have HX:Hid (ans=b5):=by unfold Hid;rw[HV.out,HP4.out];simp
  go_wp2_with fail
  refine(H5.out _).mono ?_;rintro e W ⟨rfl,rfl⟩;go_wp2_with fail
  go_ret;exact⟨aC HX.out.symm,HZ.out⟩
 | false=>
  by_cases ha:addr.size=4
  case neg=>
   have hai:¬(addr.size:Int)=4:=by omega
   have da:((addr.size:Int)==4)=false:=by simp[hai]
   have HX:Hid (ans=false):=by unfold Hid;rw[HV.out,UD ha];simp
   go_wp2_with fail
   go_ret;exact⟨aC HX.out.symm,HZ.out⟩
  have hai:(addr.size:Int)=4:=by omega
  have da:((addr.size:Int)==4)=true:=by simp[hai]
  have HA4:Hid (decide (addr.size=4)=true):=UE ha;clear hai ha;go_wp2_with fail
  refine(H3.out _).mono ?_;rintro e W ⟨rfl,rfl⟩
  cases b3 with
  | false=>
   have HX:Hid (ans=false):=by unfold Hid;rw[HV.out];simp
   go_wp2_with fail
   go_ret;exact⟨aC HX.out.symm,HZ.out⟩
  | true=>
  by_cases h4:peer.size=4
  case neg=>
   have h4i:¬(peer.size:Int)=4:=by omega
   have d4:((peer.size:Int)==4)=false:=by simp[h4i]
   have HX:Hid (ans=false):=by unfold Hid;rw[HV.out,UD h4];simp
   go_wp2_with fail
   go_ret;exact⟨aC HX.out.symm,HZ.out⟩
  have h4i:(peer.size:Int)=4:=by omega
  have d4:((peer.size:Int)==4)=true:=by simp[h4i]
  have HP4:Hid (decide (peer.size=4)=true):=UE h4;clear h4i h4;go_wp2_with fail
  refine(H4.out _).mono ?_;rintro e W ⟨rfl,rfl⟩
  cases b4 with
  | false=>
   have HX:Hid (ans=false):=by unfold Hid;rw[HV.out];simp
   go_wp2_with fail
   go_ret;exact⟨aC HX.out.symm,HZ.out⟩
  | true=>
  have HX:Hid (ans=b5):=by unfold Hid;rw[HV.out,HP4.out];rw[HA4.out];simp
  go_wp2_with fail
  refine(H5.out _).mono ?_;rintro e W ⟨rfl,rfl⟩;go_wp2_with fail
  go_ret;exact⟨aC HX.out.symm,HZ.out⟩
structure No where
 bib:Bb
 four:P4
 six:P6
 code:Int
def fW(a b:OA)(ca cb:Nat)(o:No):List Value:=[.slice a o.bib.VN.length ca,.slice b o.bib.VK.length cb,iV o.four.tos,iV o.four.id,.bool o.four.whole,.bool o.four.more,iV o.four.off,iV o.four.ttl,iV o.four.VF,.string o.four.src,.string o.four.dst,.string o.four.opts,.string o.four.data,iV o.six.cls,iV o.six.flow,iV o.six.next,iV o.six.hops,.string o.six.src,.string o.six.dst,.bool o.six.piece,.bool o.six.more,iV o.six.off,iV o.six.id,.string o.six.data,iV o.code]
def vJ(a b:OA)(ca cb:Nat)(o:No):Value:=.agg (fW a b ca cb o).toArray
def eW(c:Int):No:=⟨bbZ,pZ,gK,c⟩
def cT(p:Pl)(x:Bb)(q:P4)(now:Int):Int:=if (fA p x&&jB q&&bT now)=false then 1 else if (q.more||decide (q.off≠0))=true then 10 else 0
def fU(VF:Int)(t:BA):Int:=if VF=6 then bt t 13 else 0
def fF(VF n:Int):Int:=if aL VF=true then 0 else n
def qB(p:Int):Int:=if p=58 then 1 else p
def kW(f:Fl)(peer t:BA):Tc:=⟨qB f.VF,true,f.src,f.sp,peer,fF f.VF f.dp,fU f.VF t⟩
def cE(f:Fl)(t:BA):Tc:=⟨f.VF,false,f.dst,f.dp,f.src,fF f.VF f.sp,fU f.VF t⟩
def lO(f g:Fl):Fl:=if aL f.VF=true then ⟨if g.src.size=16 then 58 else 1,g.src,g.dst,g.sp,g.sp⟩ else g
def gX(f:Fl)(src:BA)(port:Int)(dst:BA):Fl:=lO f ⟨f.VF,src,dst,port,f.dp⟩
def EP(f:Fl)(src dst:BA)(port:Int):Fl:=lO f ⟨f.VF,src,dst,if aL f.VF=true then port else f.sp,port⟩
def jI(f g:Fl)(t:BA):BA:=if fQ f t=true then (if g.src.size=16 then ⟨#[]⟩ else bX f g t) else eG (bX f g t) (bI f.VF) (aR (dB f g t))
def bW(p:Pl)(x:Bb)(q:P4)(now:Int):No :=
 if aS q.src.size q.VF q.data≠0 then eW (aS q.src.size q.VF q.data)
 else if (dO p x (kW (aI q.src q.dst q.VF q.data) q.dst q.data) now).code≠0 then eW (dO p x (kW (aI q.src q.dst q.VF q.data) q.dst q.data) now).code
 else ⟨(dO p x (kW (aI q.src q.dst q.VF q.data) q.dst q.data) now).bib,{ q with src:=(dO p x (kW (aI q.src q.dst q.VF q.data) q.dst q.data) now).bind.out,data:=jI (aI q.src q.dst q.VF q.data) (gX (aI q.src q.dst q.VF q.data) (dO p x (kW (aI q.src q.dst q.VF q.data) q.dst q.data) now).bind.out (dO p x (kW (aI q.src q.dst q.VF q.data) q.dst q.data) now).bind.VI q.dst) q.data },gK,0⟩
def jA(p:Pl)(x:Bb)(q:P4)(now:Int):No:=if cT p x q now≠0 then eW (cT p x q now) else bW p x q now
def fE(p:Pl)(x:Bb)(q:P4)(now:Int):No :=
 if mW p.VL q.dst=false then eW 6
 else if aS q.src.size q.VF q.data≠0 then eW (aS q.src.size q.VF q.data)
 else if (dO p x (cE (aI q.src q.dst q.VF q.data) q.data) now).code≠0 then eW (dO p x (cE (aI q.src q.dst q.VF q.data) q.data) now).code
 else if (dO p x (cE (aI q.src q.dst q.VF q.data) q.data) now).bind.inn.size≠4 then eW 11
 else ⟨(dO p x (cE (aI q.src q.dst q.VF q.data) q.data) now).bib,{ q with dst:=(dO p x (cE (aI q.src q.dst q.VF q.data) q.data) now).bind.inn,data:=jI (aI q.src q.dst q.VF q.data) (EP (aI q.src q.dst q.VF q.data) q.src (dO p x (cE (aI q.src q.dst q.VF q.data) q.data) now).bind.inn (dO p x (cE (aI q.src q.dst q.VF q.data) q.data) now).bind.VH) q.data },gK,0⟩
def cJ(p:Pl)(x:Bb)(q:P4)(now:Int):No:=if cT p x q now≠0 then eW (cT p x q now) else fE p x q now
def cI(p:Pl)(x:Bb)(q:P4)(now:Int):No :=
 if cT p x q now≠0 then eW (cT p x q now)
 else if q.VF=1 then eW 11
 else if (bW p x q now).code≠0 then bW p x q now
 else cJ p (bW p x q now).bib (bW p x q now).four now
theorem lG(b:Nat):∀(vs:List Value) (W:World) (j:Nat),stor b W j vs=W.setCells b j vs
 | [],W,j=>rfl
 | v::vs,W,j=>by
  show stor b (W.setCell ⟨b,j,none⟩ v) (j+1) vs=_;rw[lG b vs];rfl
theorem JD(a b:OA)(ca cb:Nat)(o:No):(fW a b ca cb o).length=25:=rfl
theorem cN(a b:OA)(ca cb:Nat)(o:No):(fW a b ca cb o).toArray.all (·.oneCell')=true:=all_oneCell_toArray (by unfold fW;simp[Value.oneCell'])
theorem aA.mid{W:World}{b:Nat}{olds vs:List Value}(h:aA W b olds)(hl:olds.length=vs.length):aA (W.setCells b 0 vs.toArray.toList) b vs:=by
 rw[List.toList_toArray,←lG];exact h.stor vs hl
theorem Below.mid{n b:Nat}{w W:World}(h:Below n w W)(hb:n≤b)(vs:List Value):Below n w (W.setCells b 0 vs.toArray.toList):=by
 rw[List.toList_toArray,←lG];exact Below.stor hb vs h
theorem bV.mid{base b:Nat}{W:World}{a a':OA}{y:Bb}(h:bV base W a a' y)(hb:b < base)(vs:List Value):bV base (W.setCells b 0 vs.toArray.toList) a a' y:=by
 rw[List.toList_toArray,←lG];exact h.stor hb vs
theorem mP{W:World}{b:Nat}{a a':OA}{ca cb:Nat}{o:No}(h:aA W b (fW a a' ca cb o))(x x':OA)(cx cy:Nat)(y:No):W.there b 0 (fW x x' cx cy y).toArray.size:=by
 have:=h.th;rw[JD]at this;exact this
theorem BK(n:Int)(w:World) :
  Cw 115 #[iV n] w (iV (qB n)):=by
 by_cases h:n=58
 ·subst h;go_enter Tryz.func115,Tryz.ntmps115
  go_wp2_with fail
  go_ret;exact⟨rfl,rfl⟩
 ·have HV:Hid (qB n=n):=if_neg h;have d0:(n==58)=false:=by simp[h]
  go_enter Tryz.func115,Tryz.ntmps115
  go_wp2_with fail
  go_ret;exact⟨aK (by rw[HV.out]),rfl⟩
theorem uN(f:Fl)(n:Int)(w:World) :
  Cb 116 #[gF f,iV n] w (iV (fF f.VF n)):=by
 have HE:Hid (∀W,Cw 44 #[iV f.VF] W (.bool (aL f.VF))):=fun W=>kE _ W
 have HV:Hid (fF f.VF n=if aL f.VF=true then 0 else n):=rfl;generalize fF f.VF n=ans at *;generalize aL f.VF=b at *;obtain⟨VF,src,dst,sp,dp⟩:=f;unfold gF;dsimp only at *;have HS0:=TA w (cR VF src dst sp dp) 43 (by simp)
 skip;have HB:Hid _:=HS0.out.b;clear HS0;go_enter Tryz.func116,Tryz.ntmps116
 go_wp2_with fail
 refine(HE.out _).mono ?_;rintro e w2 ⟨rfl,rfl⟩
 cases b with
 | false=>
  go_wp2_with fail
  go_ret;exact⟨aK (by rw[HV.out];rfl),HB.out⟩
 | true=>
  go_wp2_with fail
  go_ret;exact⟨aK (by rw[HV.out];rfl),HB.out⟩
theorem sS(f:Fl)(t:BA)(w:World)(ht:t.size≤1048576)(h20:f.VF=6→20≤t.size) :
  Cb 117 #[gF f,.string t] w (iV (fU f.VF t)):=by
 obtain⟨VF,src,dst,sp,dp⟩:=f;unfold gF;dsimp only at *;have HS0:=TA w (cR VF src dst sp dp) 43 (by simp)
 skip;have HB:Hid _:=HS0.out.b;clear HS0;by_cases h:VF=6
 case pos=>
  have h20':=h20 h;subst h;have HV:Hid (fU 6 t=bt t 13):=rfl;have hb:=get_bt t;have b1:=bH t 13;generalize fU 6 t=ans at *;have hi:¬(t.size:Int)≤13:=by omega
  have hj:(13:Int) < t.size:=by omega
  go_enter Tryz.func117,Tryz.ntmps117
  go_wp2_with fail
  go_ret;exact⟨aK HV.out.symm,HB.out⟩
 have HV:Hid (fU VF t=0):=if_neg h;generalize fU VF t=ans at *;have d0:(VF != 6)=true:=by simp[h]
 go_enter Tryz.func117,Tryz.ntmps117
 go_wp2_with fail
 go_ret;exact⟨aK (by rw[HV.out]),HB.out⟩
theorem uM(f g:Fl)(w:World)(hg:g.src.size≤1048576) :
  Cb 118 #[gF f,gF g] w (gF (lO f g)):=by
 have HE:Hid (∀W,Cw 44 #[iV f.VF] W (.bool (aL f.VF))):=fun W=>kE _ W
 have HV:Hid (lO f g=if aL f.VF=true then ⟨if g.src.size=16 then 58 else 1,g.src,g.dst,g.sp,g.sp⟩ else g):=rfl;generalize lO f g=ans at *;generalize aL f.VF=b at *;obtain⟨VF,src,dst,sp,dp⟩:=f;obtain⟨proto',src',dst',sp',dp'⟩:=g;unfold gF;dsimp only at *;have HS0:=RL w (cR VF src dst sp dp) 43 (cR proto' src' dst' sp' dp') 43 (cR 0 ⟨#[]⟩ ⟨#[]⟩ 0 0) 43 (by simp) (by simp) (by simp)
 skip;have hRw:w.heap.size≤w.heap.size+1+1:=by omega
 have hGw:w.heap.size≤w.heap.size+1:=by omega
 go_enter Tryz.func118,Tryz.ntmps118
 go_upto_region 1 with fail
 generalize World.alloc _ _=W0 at *;have HHk:=HS0.out.at cM;obtain⟨k0,k1,k2,k3,k4⟩:=HHk.c5;clear HHk;go_wp2_with fail
 refine(HE.out _).mono ?_;rintro e W0 ⟨rfl,rfl⟩
 cases b with
 | false=>
  have HX:Hid (ans=⟨proto',src',dst',sp',dp'⟩):=HV.out;clear HV;have HHl:=HS0.out.at dZ;obtain⟨l0,l1,l2,l3,l4⟩:=HHl.c5;clear HHl;have HHz:=HS0.out.at eL;obtain⟨z0,z1,z2,z3,z4⟩:=HHz.c5;obtain⟨zf0,zf1,zf2,zf3,zf4⟩:=HHz.f5;obtain⟨HRR,RB⟩:=OB HHz HS0.out.b hRw (iV proto') (.string src') (.string dst') (iV sp') (iV dp');clear HHz;go_wp2_with fail
  exact VB (aF Tryz.results118 _ _ _ _ _ rfl HRR.out Tryz.underlying43 rfl (show (Tryz.prog.info? 43).map (·.size)=some 5 by kernel_rfl)) rfl (And.intro (by rw[HX.out]) RB.out)
 | true=>
  by_cases h16:src'.size=16
  case pos=>
   have HX:Hid (ans=⟨58,src',dst',sp',sp'⟩):=by unfold Hid;rw[HV.out,if_pos rfl];simp[h16]
   have d16:((src'.size:Int)==16)=true:=by rw[h16];rfl
   clear HV h16;have HHg:=HS0.out.at dZ;obtain⟨l0,l1,l2,l3,l4⟩:=HHg.c5;obtain⟨lf0,lf1,lf2,lf3,lf4⟩:=HHg.f5;have S2:Hid (dD w [(w.heap.size+1,(cR 58 src' dst' sp' sp')),(w.heap.size+1+1,(cR 0 ⟨#[]⟩ ⟨#[]⟩ 0 0))] ((sW (sW W0 (w.heap.size+1) 4 (iV sp')) (w.heap.size+1) 0 (iV 1)).setCell ⟨w.heap.size+1,0,none⟩ (iV 58))):=⟨fun e he=>by
    simp only[UH,UG,or_false]at he;rcases he with rfl|rfl
    ·exact((HHg.set 4 (iV sp')).set 0 (iV 1)).set 0 (iV 58)
    ·exact(aA.setOther (aA.setOther (aA.setOther (HS0.out.k _ eL) (by show w.heap.size+1+1≠w.heap.size+1;omega) _) (by show w.heap.size+1+1≠w.heap.size+1;omega) _) (by show w.heap.size+1+1≠w.heap.size+1;omega) _),(sCl (sCl (sCl HS0.out.b hGw) hGw) hGw),fun e he=>by
    simp only[UH,UG,or_false]at he;rcases he with rfl|rfl<;>simp⟩
   clear HHg;go_upto_region 7 with fail
   generalize ((sW (sW W0 (w.heap.size+1) 4 (iV sp')) (w.heap.size+1) 0 (iV 1)).setCell ⟨w.heap.size+1,0,none⟩ (iV 58))=W2 at *;clear l0 lf0 l1 lf1 l2 lf2 l3 lf3 l4 lf4 HS0 k0 k1 k2 k3 k4;have HHl:=S2.out.at cM;obtain⟨l0,l1,l2,l3,l4⟩:=HHl.c5;clear HHl;have HHz:=S2.out.at dZ;obtain⟨z0,z1,z2,z3,z4⟩:=HHz.c5;obtain⟨zf0,zf1,zf2,zf3,zf4⟩:=HHz.f5;obtain⟨HRR,RB⟩:=OB HHz S2.out.b hRw (iV 58) (.string src') (.string dst') (iV sp') (iV sp');clear HHz;go_wp2_with fail
   exact VB (aF Tryz.results118 _ _ _ _ _ rfl HRR.out Tryz.underlying43 rfl (show (Tryz.prog.info? 43).map (·.size)=some 5 by kernel_rfl)) rfl (And.intro (by rw[HX.out]) RB.out)
  case neg=>
   have HX:Hid (ans=⟨1,src',dst',sp',sp'⟩):=by unfold Hid;rw[HV.out,if_pos rfl];simp[h16]
   have d16:((src'.size:Int)==16)=false:=by simp;omega
   clear HV h16;have HHg:=HS0.out.at dZ;obtain⟨l0,l1,l2,l3,l4⟩:=HHg.c5;obtain⟨lf0,lf1,lf2,lf3,lf4⟩:=HHg.f5;have S2:Hid (dD w [(w.heap.size+1,(cR 1 src' dst' sp' sp')),(w.heap.size+1+1,(cR 0 ⟨#[]⟩ ⟨#[]⟩ 0 0))] ((sW W0 (w.heap.size+1) 4 (iV sp')).setCell ⟨w.heap.size+1,0,none⟩ (iV 1))):=⟨fun e he=>by
    simp only[UH,UG,or_false]at he;rcases he with rfl|rfl
    ·exact((HHg.set 4 (iV sp')).set 0 (iV 1))
    ·exact(aA.setOther (aA.setOther (HS0.out.k _ eL) (by show w.heap.size+1+1≠w.heap.size+1;omega) _) (by show w.heap.size+1+1≠w.heap.size+1;omega) _),(sCl (sCl HS0.out.b hGw) hGw),fun e he=>by
    simp only[UH,UG,or_false]at he;rcases he with rfl|rfl<;>simp⟩
   clear HHg;go_upto_region 7 with fail
   generalize ((sW W0 (w.heap.size+1) 4 (iV sp')).setCell ⟨w.heap.size+1,0,none⟩ (iV 1))=W2 at *;clear l0 lf0 l1 lf1 l2 lf2 l3 lf3 l4 lf4 HS0 k0 k1 k2 k3 k4;have HHl:=S2.out.at cM;obtain⟨l0,l1,l2,l3,l4⟩:=HHl.c5;clear HHl;have HHz:=S2.out.at dZ;obtain⟨z0,z1,z2,z3,z4⟩:=HHz.c5;obtain⟨zf0,zf1,zf2,zf3,zf4⟩:=HHz.f5;obtain⟨HRR,RB⟩:=OB HHz S2.out.b hRw (iV 1) (.string src') (.string dst') (iV sp') (iV sp');clear HHz;go_wp2_with fail
   exact VB (aF Tryz.results118 _ _ _ _ _ rfl HRR.out Tryz.underlying43 rfl (show (Tryz.prog.info? 43).map (·.size)=some 5 by kernel_rfl)) rfl (And.intro (by rw[HX.out]) RB.out)
theorem EE(f:Fl)(s:BA)(n:Int)(d:BA)(w:World)(hs:s.size≤1048576) :
  Cb 64 #[gF f,.string s,iV n,.string d] w (gF (gX f s n d)):=by
 have HK:Hid (∀W,Cb 118 #[gF f,gF ⟨f.VF,s,d,n,f.dp⟩] W (gF (gX f s n d))):=fun W=>uM f ⟨f.VF,s,d,n,f.dp⟩ W hs
 generalize gX f s n d=ans at *;obtain⟨VF,src,dst,sp,dp⟩:=f;unfold gF at *;dsimp only at *;have HS0:=SL w (cR VF src dst sp dp) 43 (cR 0 ⟨#[]⟩ ⟨#[]⟩ 0 0) 43 (by simp) (by simp)
 skip;have hRw:w.heap.size≤w.heap.size+1:=by omega
 go_enter Tryz.func64,Tryz.ntmps64
 go_upto_region 1 with fail
 generalize World.alloc _ _=W0 at *;have HHk:=HS0.out.at cM;obtain⟨k0,k1,k2,k3,k4⟩:=HHk.c5;clear HHk;have S1:Hid (dD w ((W0.heap.size,(cR VF s d n dp))::[(w.heap.size,(cR VF src dst sp dp)),(w.heap.size+1,(cR 0 ⟨#[]⟩ ⟨#[]⟩ 0 0))]) (W0.alloc (.cells (cR VF s d n dp).toArray 43))):=HS0.out.push (cR VF s d n dp) (by simp) _;go_upto_region 2 with fail
 clear HS0 k0 k1 k2 k3 k4;generalize (W0.alloc (.cells (cR VF s d n dp).toArray 43))=W1 at *;generalize W0.heap.size=G at *;have HHk:=S1.out.at dZ;obtain⟨k0,k1,k2,k3,k4⟩:=HHk.c5;clear HHk;have HHl:=S1.out.at cM;obtain⟨l0,l1,l2,l3,l4⟩:=HHl.c5;clear HHl;go_wp2_with fail
 refine(HK.out _).mono ?_;rintro e W2 ⟨rfl,q2⟩;have S2:Hid _:=S1.out.kept q2;clear q2 S1 k0 k1 k2 k3 k4 l0 l1 l2 l3 l4;have HHz:=S2.out.at eL;obtain⟨z0,z1,z2,z3,z4⟩:=HHz.c5;obtain⟨zf0,zf1,zf2,zf3,zf4⟩:=HHz.f5;obtain⟨HRR,RB⟩:=OB HHz S2.out.b hRw (iV ans.VF) (.string ans.src) (.string ans.dst) (iV ans.sp) (iV ans.dp);clear HHz;go_wp2_with fail
 exact VB (aF Tryz.results64 _ _ _ _ _ rfl HRR.out Tryz.underlying43 rfl (show (Tryz.prog.info? 43).map (·.size)=some 5 by kernel_rfl)) rfl (And.intro rfl RB.out)
theorem KU(f:Fl)(s d:BA)(n:Int)(w:World)(hs:s.size≤1048576) :
  Cb 78 #[gF f,.string s,.string d,iV n] w (gF (EP f s d n)):=by
 have HE:Hid (∀W,Cw 44 #[iV f.VF] W (.bool (aL f.VF))):=fun W=>kE _ W
 have HK:Hid (∀W,Cb 118 #[gF f,gF ⟨f.VF,s,d,if aL f.VF=true then n else f.sp,n⟩] W (gF (EP f s d n))):=fun W=>uM f ⟨f.VF,s,d,_,n⟩ W hs
 generalize EP f s d n=ans at *;generalize aL f.VF=b at *;obtain⟨VF,src,dst,sp,dp⟩:=f;unfold gF at *;dsimp only at *;have HS0:=SL w (cR VF src dst sp dp) 43 (cR 0 ⟨#[]⟩ ⟨#[]⟩ 0 0) 43 (by simp) (by simp)
 skip;have hRw:w.heap.size≤w.heap.size+1:=by omega
 go_enter Tryz.func78,Tryz.ntmps78
 go_upto_region 1 with fail
 generalize World.alloc _ _=W0 at *;have HHk:=HS0.out.at cM;obtain⟨k0,k1,k2,k3,k4⟩:=HHk.c5;clear HHk;have S1:Hid (dD w ((W0.heap.size,(cR VF s d sp n))::[(w.heap.size,(cR VF src dst sp dp)),(w.heap.size+1,(cR 0 ⟨#[]⟩ ⟨#[]⟩ 0 0))]) (W0.alloc (.cells (cR VF s d sp n).toArray 43))):=HS0.out.push (cR VF s d sp n) (by simp) _;have hrg:w.heap.size+1 < W0.heap.size:=(HS0.out.k _ dZ).lt (by simp);go_upto_region 2 with fail
 clear HS0 k0 k1 k2 k3 k4;generalize (W0.alloc (.cells (cR VF s d sp n).toArray 43))=W1 at *;generalize W0.heap.size=G at *;have HHk:=S1.out.at dZ;obtain⟨k0,k1,k2,k3,k4⟩:=HHk.c5;clear HHk;go_wp2_with fail
 refine(HE.out _).mono ?_;rintro e W1 ⟨rfl,rfl⟩
 cases b with
 | false=>
  clear k0 k1 k2 k3 k4;have HHk:=S1.out.at dZ;obtain⟨k0,k1,k2,k3,k4⟩:=HHk.c5;clear HHk;have HHl:=S1.out.at cM;obtain⟨l0,l1,l2,l3,l4⟩:=HHl.c5;clear HHl;go_wp2_with fail
  refine(HK.out _).mono ?_;rintro e W2 ⟨rfl,q2⟩;have S2:Hid _:=S1.out.kept q2;clear q2 k0 k1 k2 k3 k4 l0 l1 l2 l3 l4;have HHz:=S2.out.at eL;obtain⟨z0,z1,z2,z3,z4⟩:=HHz.c5;obtain⟨zf0,zf1,zf2,zf3,zf4⟩:=HHz.f5;obtain⟨HRR,RB⟩:=OB HHz S2.out.b hRw (iV ans.VF) (.string ans.src) (.string ans.dst) (iV ans.sp) (iV ans.dp);clear HHz;go_wp2_with fail
  exact VB (aF Tryz.results78 _ _ _ _ _ rfl HRR.out Tryz.underlying43 rfl (show (Tryz.prog.info? 43).map (·.size)=some 5 by kernel_rfl)) rfl (And.intro rfl RB.out)
 | true=>
  have HHg:=S1.out.at cM;have l3:=HHg.cell (j:=3) rfl;have lf3:=HHg.free (j:=3) (by simp);have S1':Hid (dD w [(G,(cR VF s d n n)),(w.heap.size,(cR VF src dst sp dp)),(w.heap.size+1,(cR 0 ⟨#[]⟩ ⟨#[]⟩ 0 0))] (W1.setCell ⟨G,3,none⟩ (iV n))):=⟨fun e he=>by
   simp only[UH,UG,or_false]at he;rcases he with rfl|rfl|rfl
   ·exact HHg.set 3 _
   ·exact aA.setOther (S1.out.k _ dZ) (by show w.heap.size≠G;omega) _
   ·exact aA.setOther (S1.out.k _ eL) (by show w.heap.size+1≠G;omega) _,S1.out.b.setCell (p:=⟨G,3,none⟩) (by show w.heap.size≤G;omega) _,fun e he=>by
   simp only[UH,UG,or_false]at he;rcases he with rfl|rfl|rfl<;>simp⟩
  clear HHg S1;go_upto_region 4 with fail
  generalize (W1.setCell ⟨G,3,none⟩ (iV n))=W3 at *;clear l3 lf3 k0 k1 k2 k3 k4;have HHk:=S1'.out.at dZ;obtain⟨k0,k1,k2,k3,k4⟩:=HHk.c5;clear HHk;have HHl:=S1'.out.at cM;obtain⟨l0,l1,l2,l3,l4⟩:=HHl.c5;clear HHl;go_wp2_with fail
  refine(HK.out _).mono ?_;rintro e W2 ⟨rfl,q2⟩;have S2:Hid (dD w [(G,(cR VF s d n n)),(w.heap.size,(cR VF src dst sp dp)),(w.heap.size+1,(cR 0 ⟨#[]⟩ ⟨#[]⟩ 0 0))] W2):=S1'.out.kept q2;clear q2 k0 k1 k2 k3 k4 l0 l1 l2 l3 l4;have HHz:=S2.out.at eL;obtain⟨z0,z1,z2,z3,z4⟩:=HHz.c5;obtain⟨zf0,zf1,zf2,zf3,zf4⟩:=HHz.f5;obtain⟨HRR,RB⟩:=OB HHz S2.out.b hRw (iV ans.VF) (.string ans.src) (.string ans.dst) (iV ans.sp) (iV ans.dp);clear HHz;go_wp2_with fail
  exact VB (aF Tryz.results78 _ _ _ _ _ rfl HRR.out Tryz.underlying43 rfl (show (Tryz.prog.info? 43).map (·.size)=some 5 by kernel_rfl)) rfl (And.intro rfl RB.out)
end Go.Proofs.YtdkepkaflielhaaGreatDoor
