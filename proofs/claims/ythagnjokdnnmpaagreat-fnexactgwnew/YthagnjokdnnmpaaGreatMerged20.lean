import Derived.Test.YthagnjokdnnmpaaGreatMerged19
import Derived.Test.YthagnjokdnnmpaaGreatSCopyGw
import Derived.Test.YthagnjokdnnmpaaGreatMerged15
set_option linter.unusedVariables false
set_option linter.unusedSimpArgs false
set_option maxRecDepth 100000
set_option maxHeartbeats 8000000
namespace Go.Proofs.YthagnjokdnnmpaaGreat
open Go.RowKit Go.PlainAid
structure GwX (lo hi:Nat) (w:World) (A:Ga) (g:Gw):Prop where
 rt:SlIn rtL 3 lo hi w A.ra g.routes
 pl:SlIn strL1 1 lo hi w A.pa g.pool.addrs
 bd:SlIn bdL 5 lo hi w A.ba g.bib.binds
 ss:SlIn ssL 7 lo hi w A.bo g.bib.sess
 ps:SlIn pcL 8 lo hi w A.qa g.pcs
section
variable {lo hi l h:Nat} {w W:World} {A:Ga} {g:Gw}
theorem GwX.of (h:GwB lo w A g):GwX lo w.heap.size w A g:=⟨SlIn.of_own h.rt (Nat.le_refl _),SlIn.of_own h.pl (Nat.le_refl _),SlIn.of_own h.bd (Nat.le_refl _),SlIn.of_own h.ss (Nat.le_refl _),SlIn.of_own h.ps (Nat.le_refl _)⟩
theorem GwX.kept (h:GwX lo hi w A g) (hb:Below w.heap.size w W):GwX lo hi W A g:=⟨h.rt.kept hb,h.pl.kept hb,h.bd.kept hb,h.ss.kept hb,h.ps.kept hb⟩
theorem GwX.outOf (H:GwX lo hi w A g) (ho:OutOf l h w W) (hb:hi≤l∨h≤lo):GwX lo hi W A g:=⟨H.rt.outOf ho hb,H.pl.outOf ho hb,H.bd.outOf ho hb,H.ss.outOf ho hb,H.ps.outOf ho hb⟩
theorem GwX.is (h:GwX lo hi w A g):GwIs w A g:=⟨rts_is.2 h.rt.is,h.pl.is,⟨h.bd.is,h.ss.is⟩,h.ps.is⟩
end
structure GwLn (g:Gw):Prop where
 r:g.routes.length≤1048576
 p:g.pool.addrs.length≤1048576
 b:g.bib.binds.length≤1048576
 s:g.bib.sess.length≤1048576
 q:g.pcs.length≤1048576
theorem GwLn.n {g:Gw} (h:GwLn g):1+gwN g≤1073741824:=by
 have:=h.r; have:=h.p; have:=h.b; have:=h.s; have:=h.q;unfold gwN; omega
theorem gwLn_zero:GwLn gwZero:=⟨Nat.zero_le _,Nat.zero_le _,Nat.zero_le _,Nat.zero_le _,Nat.zero_le _⟩
open Go.ChangeShapes Go.WideShapes
theorem markBindS_but (lo hi:Nat) (x:Bb) (a b:Option Addr) (ca k:Nat) (w:World) (hk:0 < k) (hL:k+5*x.binds.length≤1073741824) (hs:BbIn lo hi w a b x) (X:Nat) (hX:X < w.heap.size) (hn:∀ g o',(x.binds≠[]∧a=some ⟨g,o',none⟩)∨(x.sess≠[]∧b=some ⟨g,o',none⟩)→g≠X) :
  Calls Tryz.prog 94 #[.slice a x.binds.length ca,.int .i64 k] w fun e w'=>e=.returned (.int .i64 ((k+5*x.binds.length:Nat):Int))∧MkOwn 5 bindM lo w' a k x.binds.length∧SlIn ssL 7 lo hi w' b x.sess∧OutOf lo hi w w'∧w'.heap[X]?=w.heap[X]?:=by
 obtain ⟨h1,h2,h3⟩:=hs;by_cases e1:x.binds=[]
 ·rw [e1];refine (markBindS_nil a ca k w (by omega)).mono ?_;rintro e w' ⟨rfl,rfl⟩;exact ⟨rfl,.inl rfl,h2,OutOf.of_below (Below.refl _ _),rfl⟩
 ·rcases h1 with e | ⟨g,rfl,hb,hh,hl⟩
  ·exact absurd e e1
  ·refine (markBindS_any g x.binds.length ca k w hk hL (hl.other _)).mono ?_;rintro e w' ⟨rfl,q1,q2⟩;refine ⟨rfl,.inr ⟨g,rfl,hb,q1⟩,?_,OutOf.of_grown q2 hb hh,q2.block X hX (by simp; exact fun e=>hn g 0 (.inl ⟨e1,rfl⟩) e.symm)⟩;by_cases e2:x.sess=[]
   ·exact .inl e2
   ·rcases h2 with e | ⟨h,rfl,hb2,hh2,hl2⟩
    ·exact absurd e e2
    ·exact .inr ⟨h,rfl,hb2,hh2,hl2.grownNe q2 (fun e=>h3 g h rfl rfl e1 e2 e.symm)⟩
theorem markSessionS_but (lo hi:Nat) (xs:List Ss) (a b:Option Addr) (cb k kb nb:Nat) (w:World) (hk:0 < k) (hL:k+7*xs.length≤1073741824) (hm:MkOwn 5 bindM lo w a kb nb) (hs:SlIn ssL 7 lo hi w b xs) (hne:∀ g h,a=some ⟨g,0,none⟩→b=some ⟨h,0,none⟩→nb≠0→xs≠[]→g≠h) (X:Nat) (hX:X < w.heap.size) (hn:∀ g o,xs≠[]∧b=some ⟨g,o,none⟩→g≠X) :
  Calls Tryz.prog 95 #[.slice b xs.length cb,.int .i64 k] w fun e w'=>e=.returned (.int .i64 ((k+7*xs.length:Nat):Int))∧MkOwn 5 bindM lo w' a kb nb∧MkOwn 7 sessionM lo w' b k xs.length∧OutOf lo hi w w'∧w'.heap[X]?=w.heap[X]?:=by
 by_cases e1:xs=[]
 ·rw [e1];refine (markSessionS_nil b cb k w (by omega)).mono ?_;rintro e w' ⟨rfl,rfl⟩;exact ⟨rfl,hm,.inl rfl,OutOf.of_below (Below.refl _ _),rfl⟩
 ·rcases hs with e | ⟨h,rfl,hb,hh,hl⟩
  ·exact absurd e e1
  ·refine (markSessionS_any h xs.length cb k w hk hL (hl.other _)).mono ?_;rintro e w' ⟨rfl,q1,q2⟩;refine ⟨rfl,?_,.inr ⟨h,rfl,hb,q1⟩,OutOf.of_grown q2 hb hh,q2.block X hX (by simp; exact fun e=>hn h 0 ⟨e1,rfl⟩ e.symm)⟩;by_cases e2:nb=0
   ·exact .inl e2
   ·rcases hm with e | ⟨g,rfl,hb2,hl2⟩
    ·exact absurd e e2
    ·exact .inr ⟨g,rfl,hb2,hl2.grownNe q2 (fun e=>hne g h rfl rfl e2 e1 e)⟩
theorem markBib_but (lo hi:Nat) (x:Bb) (a b:Option Addr) (ca cb k:Nat) (w:World) (hh:hi≤w.heap.size) (hk:0 < k) (hL:k+5*x.binds.length+7*x.sess.length≤1073741824) (hs:BbIn lo hi w a b x) (X:Nat) (hX:X < w.heap.size) (hn:∀ g o',(x.binds≠[]∧a=some ⟨g,o',none⟩)∨(x.sess≠[]∧b=some ⟨g,o',none⟩)→g≠X) :
  Calls Tryz.prog 58 #[bbC a b ca cb x,.int .i64 k] w fun e w'=>e=.returned (.int .i64 ((k+5*x.binds.length+7*x.sess.length:Nat):Int))∧BbMk lo w' a b k x.binds.length x.sess.length∧OutOf lo hi w w'∧w'.heap[X]?=w.heap[X]?:=by
 have GA:Hid (Below w.heap.size w (w.alloc (.cells #[.slice a x.binds.length ca,.slice b x.sess.length cb] 36))):=(Below.refl _ _).alloc (Nat.le_refl _) _;have HX1:Hid (∀ W:World,w.heap.size≤W.heap.size→X < W.heap.size):=fun W hW=>by omega
 have HM:Hid _:=markBindS_but lo hi x a b ca k (w.alloc (.cells #[.slice a x.binds.length ca,.slice b x.sess.length cb] 36)) hk (by omega) (hs.kept GA.out) X (by simp; omega) hn;have HN:Hid (∀ W,X < W.heap.size→MkOwn 5 bindM lo W a k x.binds.length→SlIn ssL 7 lo hi W b x.sess→Calls Tryz.prog 95 #[.slice b x.sess.length cb,.int .i64 ((k+5*x.binds.length:Nat):Int)] W fun e w'=>e=.returned (.int .i64 ((k+5*x.binds.length+7*x.sess.length:Nat):Int))∧MkOwn 5 bindM lo w' a k x.binds.length∧MkOwn 7 sessionM lo w' b (k+5*x.binds.length) x.sess.length∧OutOf lo hi W w'∧w'.heap[X]?=W.heap[X]?):=fun W h0 h1 h2=>markSessionS_but lo hi x.sess a b cb (k+5*x.binds.length) k x.binds.length W (by omega) hL h1 h2 (fun g h e1 e2 n1 n2=>hs.ne g h e1 e2 (fun e=>n1 (by rw [e]; rfl)) n2) X h0 (fun g o h=>hn g o (.inr h))
 have H0:Hid _:=HoldsL.new w [.slice a x.binds.length ca,.slice b x.sess.length cb] 36;have hh':Hid (hi≤w.heap.size):=hh;obtain ⟨k1,hk1⟩ : ∃ k1,k1=k+5*x.binds.length:=⟨_,rfl⟩;rw [← hk1] at HM HN hL ⊢;obtain ⟨k2,hk2⟩ : ∃ k2,k2=k1+7*x.sess.length:=⟨_,rfl⟩;rw [← hk2] at HN hL ⊢;have HK1:Hid (k1=k+5*x.binds.length):=hk1;have HA0:Hid ((w.alloc (.cells #[.slice a x.binds.length ca,.slice b x.sess.length cb] 36)).heap[X]?=w.heap[X]?):=GA.out.block X hX;clear hk1 hk2 hs hh hn hX;unfold bbC;go_enter Tryz.func58,Tryz.ntmps58
 go_wp2_with fail
 refine Calls.mono HM.out ?_;rintro e w1 ⟨rfl,m1,o1,q1,x1⟩;have G1:Hid (OutOf lo hi w w1):=(OutOf.of_below GA.out).trans q1;have X1:Hid (w1.heap[X]?=w.heap[X]?):=x1.trans HA0.out;have HL1:Hid (X < w1.heap.size):=HX1.out _ G1.out.size;have M1:Hid _:=m1;have O1:Hid _:=o1;have c1:w1.cell? ⟨w.heap.size,1,none⟩=some (.slice b x.sess.length cb):=(H0.out.outOf (by simp) q1 (.inr hh'.out)).cell rfl;clear m1 o1 q1 x1;go_wp2_with fail
 refine (HN.out _ HL1.out M1.out O1.out).mono ?_;rintro e w2 ⟨rfl,m2,o2,q2,x2⟩;have X2:Hid (w2.heap[X]?=w.heap[X]?):=x2.trans X1.out;have G2:Hid (OutOf lo hi w w2):=G1.out.trans q2;have M2:Hid (BbMk lo w2 a b k x.binds.length x.sess.length):=⟨m2,by rw [← HK1.out]; exact o2⟩;clear m2 o2 q2 x2;go_wp2_with fail
 go_ret;exact ⟨rfl,M2.out,G2.out,X2.out⟩
structure GwOff (X:Nat) (A:Ga) (g:Gw):Prop where
 rt:∀ b o,g.routes≠[]→A.ra=some ⟨b,o,none⟩→b≠X
 pl:∀ b o,g.pool.addrs≠[]→A.pa=some ⟨b,o,none⟩→b≠X
 bb:∀ b o,(g.bib.binds≠[]∧A.ba=some ⟨b,o,none⟩)∨(g.bib.sess≠[]∧A.bo=some ⟨b,o,none⟩)→b≠X
 ps:∀ b o,g.pcs≠[]→A.qa=some ⟨b,o,none⟩→b≠X
theorem slOwn_off {α:Type} {en:α→List Value} {n base B:Nat} {w:World} {a:Option Addr} {xs:List α} {y:Option Addr} {m cap:Nat} {l:List Value} (h:SlOwn en n base w a xs) (hB:HoldsL w B (.slice y m cap::l)) (hen:∀ x,∃ v,(en x)[0]?=some v∧∀ y m c,v≠.slice y m c):∀ g o,xs≠[]→a=some ⟨g,o,none⟩→g≠B:=by
 intro g o hne e1 e2;rcases h with h | ⟨g',e3,_,h3⟩
 ·exact hne h
 ·rw [e1] at e3
  cases e3;have hpos:0 < xs.length:=List.length_pos_iff.2 hne;obtain ⟨v,hv,hv2⟩:=hen xs[0];have c1:=h3.at0 0 hpos hpos 0 v hv;rw [e2] at c1;have c2:=hB.cell (j:=0) rfl;rw [Nat.zero_mul,Nat.zero_add] at c1;rw [c2] at c1;exact hv2 _ _ _ (Option.some.inj c1).symm
theorem GwB.boxOff {lo B:Nat} {w:World} {A:Ga} {g:Gw} {y:Option Addr} {m cap:Nat} {l:List Value} (h:GwB lo w A g) (hB:HoldsL w B (.slice y m cap::l)):GwOff B A g :=
 ⟨slOwn_off h.rt hB fun x=>⟨_,rfl,fun _ _ _ e=>by cases e⟩,slOwn_off h.pl hB fun x=>⟨_,rfl,fun _ _ _ e=>by cases e⟩,
   fun b o e=>by
  rcases e with ⟨e1,e2⟩ | ⟨e1,e2⟩
  ·exact slOwn_off h.bd hB (fun x=>⟨_,rfl,fun _ _ _ e=>by cases e⟩) b o e1 e2
  ·exact slOwn_off h.ss hB (fun x=>⟨_,rfl,fun _ _ _ e=>by cases e⟩) b o e1 e2,
   slOwn_off h.ps hB fun x=>⟨_,rfl,fun _ _ _ e=>by cases e⟩⟩
theorem GwO.boxOff {lo B:Nat} {w:World} {A:Ga} {g:Gw} {y:Option Addr} {m cap:Nat} {l:List Value} (h:GwO lo w A g) (hB:HoldsL w B (.slice y m cap::l)):GwOff B A g:=by
 obtain ⟨n1,n2,b0,b1,p0,p1,h⟩:=h;exact ⟨slOwn_off h.rt.own hB fun x=>⟨_,rfl,fun _ _ _ e=>by cases e⟩,slOwn_off h.pl.own hB fun x=>⟨_,rfl,fun _ _ _ e=>by cases e⟩,fun b o e=>by
  rcases e with ⟨e1,e2⟩ | ⟨e1,e2⟩
  ·exact slOwn_off h.bb.bd.own hB (fun x=>⟨_,rfl,fun _ _ _ e=>by cases e⟩) b o e1 e2
  ·exact slOwn_off h.bb.ss.own hB (fun x=>⟨_,rfl,fun _ _ _ e=>by cases e⟩) b o e1 e2,slOwn_off h.ps.own hB fun x=>⟨_,rfl,fun _ _ _ e=>by cases e⟩⟩
section
variable {α:Type} {en:α→List Value} {n lo hi base X:Nat} {w W:World} {a:Option Addr} {xs:List α}
theorem slIn_ne (h:SlIn en n lo hi w a xs) (ho:OutOf X (X+1) w W) (hn:∀ g o,xs≠[]→a=some ⟨g,o,none⟩→g≠X):SlIn en n lo hi W a xs:=by
 by_cases e:xs=[]
 ·exact .inl e
 rcases h with h | ⟨g,h1,h2,h3,h4⟩
 ·exact .inl h
 ·exact .inr ⟨g,h1,h2,h3,h4.of_block (ho.block g h4.blk (by have:=hn g 0 e h1; omega)) ho.size⟩
theorem slOwn_ne (h:SlOwn en n base w a xs) (ho:OutOf X (X+1) w W) (hn:∀ g o,xs≠[]→a=some ⟨g,o,none⟩→g≠X):SlOwn en n base W a xs :=
 (slIn_ne (SlIn.of_own h (Nat.le_refl _)) ho hn).own
end
theorem GwB.boxNe {lo X:Nat} {w:World} {A:Ga} {g:Gw} (h:GwB lo w A g) (hn:GwOff X A g) (vs:List Value):GwB lo (w.setCells X 0 vs.toArray.toList) A g :=
 ⟨slOwn_ne h.rt (outOf_mid vs) hn.rt,slOwn_ne h.pl (outOf_mid vs) hn.pl,slOwn_ne h.bd (outOf_mid vs) (fun b o e1 e2=>hn.bb b o (.inl ⟨e1,e2⟩)),slOwn_ne h.ss (outOf_mid vs) (fun b o e1 e2=>hn.bb b o (.inr ⟨e1,e2⟩)),slOwn_ne h.ps (outOf_mid vs) hn.ps,h.rc,h.pc⟩
theorem GwO.boxNe {lo X:Nat} {w:World} {A:Ga} {g:Gw} (h:GwO lo w A g) (hn:GwOff X A g) (vs:List Value):GwO lo (w.setCells X 0 vs.toArray.toList) A g:=by
 obtain ⟨n1,n2,b0,b1,p0,p1,h⟩:=h;exact ⟨n1,n2,b0,b1,p0,p1,slIn_ne h.rt (outOf_mid vs) hn.rt,slIn_ne h.pl (outOf_mid vs) hn.pl,⟨slIn_ne h.bb.bd (outOf_mid vs) (fun b o e1 e2=>hn.bb b o (.inl ⟨e1,e2⟩)),slIn_ne h.bb.ss (outOf_mid vs) (fun b o e1 e2=>hn.bb b o (.inr ⟨e1,e2⟩)),h.bb.ne⟩,slIn_ne h.ps (outOf_mid vs) hn.ps,h.l1,h.l2,h.lb,h.lp,h.bl,h.pl2,h.d,h.rc,h.pc⟩
def IsRts (base:Nat) (rs:List Rt):Value→World→Prop:=fun v w=>∃ B,v=.slice (some ⟨B,0,none⟩) rs.length rs.length∧base≤B∧SlLaid rtL 3 w B rs rs.length rs.length
theorem stable_isRts (base:Nat) (rs:List Rt):Stable (IsRts base rs):=fun v w w' ⟨B,h1,h2,h3⟩ hb=>⟨B,h1,h2,h3.kept hb⟩
def IsGwB (base:Nat) (g:Gw):Value→World→Prop:=fun v w=>∃ A,v=gwC A g∧GwB base w A g
theorem stable_isGwB (base:Nat) (g:Gw):Stable (IsGwB base g):=fun v w w' ⟨A,h1,h2⟩ hb=>⟨A,h1,h2.kept hb⟩
theorem gwLn_new {rs:List Rt} {p:Pl} {sa:ByteArray} {sb mtu:Int} (h1:rs.length≤1048576) (h2:p.addrs.length≤1048576):GwLn (gwNewV rs p sa sb mtu):=by
 unfold gwNewV;split
 ·exact ⟨h1,h2,Nat.zero_le _,Nat.zero_le _,Nat.zero_le _⟩
 ·exact gwLn_zero
theorem markRouteS_but (lo hi:Nat) (ys:List Rt) (a:Option Addr) (cap k:Nat) (w:World) (hk:0 < k) (hL:k+3*ys.length≤1073741824) (hs:SlIn rtL 3 lo hi w a ys) (X:Nat) (hX:X < w.heap.size) (hn:∀ g o,ys≠[]→a=some ⟨g,o,none⟩→g≠X) :
  Calls Tryz.prog 19 #[.slice a ys.length cap,.int .i64 k] w fun e w'=>e=.returned (.int .i64 ((k+3*ys.length:Nat):Int))∧SlIn routeM 3 lo hi w' a (marksOf 3 k ys.length)∧OutOf lo hi w w'∧w'.heap[X]?=w.heap[X]?:=by
 by_cases e1:ys=[]
 ·subst e1;refine (markRouteS_nil a cap k w (by omega)).mono ?_;rintro e w' ⟨rfl,rfl⟩;exact ⟨rfl,slIn_mk0,OutOf.of_below (Below.refl _ _),rfl⟩
 ·rcases hs with e | ⟨g,rfl,hb,hh,hl⟩
  ·exact absurd e e1
  refine (markRouteS_any g ys.length cap k w hk hL (hl.other _)).mono ?_;rintro e w' ⟨rfl,h1,h2⟩;exact ⟨rfl,slIn_mk hb hh h1,OutOf.of_grown h2 hb hh,h2.block X hX (by simp; exact fun e=>hn g 0 e1 rfl e.symm)⟩
theorem markPieceS_but (lo hi:Nat) (ys:List Pc) (a:Option Addr) (cap k:Nat) (w:World) (hk:0 < k) (hL:k+8*ys.length≤1073741824) (hs:SlIn pcL 8 lo hi w a ys) (X:Nat) (hX:X < w.heap.size) (hn:∀ g o,ys≠[]→a=some ⟨g,o,none⟩→g≠X) :
  Calls Tryz.prog 59 #[.slice a ys.length cap,.int .i64 k] w fun e w'=>e=.returned (.int .i64 ((k+8*ys.length:Nat):Int))∧SlIn pieceM 8 lo hi w' a (marksOf 8 k ys.length)∧OutOf lo hi w w'∧w'.heap[X]?=w.heap[X]?:=by
 by_cases e1:ys=[]
 ·subst e1;refine (markPieceS_nil a cap k w (by omega)).mono ?_;rintro e w' ⟨rfl,rfl⟩;exact ⟨rfl,slIn_mk0,OutOf.of_below (Below.refl _ _),rfl⟩
 ·rcases hs with e | ⟨g,rfl,hb,hh,hl⟩
  ·exact absurd e e1
  refine (markPieceS_any g ys.length cap k w hk hL (hl.other _)).mono ?_;rintro e w' ⟨rfl,h1,h2⟩;exact ⟨rfl,slIn_mk hb hh h1,OutOf.of_grown h2 hb hh,h2.block X hX (by simp; exact fun e=>hn g 0 e1 rfl e.symm)⟩
theorem markStringS_but (lo hi:Nat) (ys:List ByteArray) (a:Option Addr) (cap k:Nat) (w:World) (hk:0 < k) (hL:k+1*ys.length≤1073741824) (hs:SlIn strL1 1 lo hi w a ys) (X:Nat) (hX:X < w.heap.size) (hn:∀ g o,ys≠[]→a=some ⟨g,o,none⟩→g≠X) :
  Calls Tryz.prog 57 #[.slice a ys.length cap,.int .i64 k] w fun e w'=>e=.returned (.int .i64 ((k+1*ys.length:Nat):Int))∧SlIn strM 1 lo hi w' a (marksOf 1 k ys.length)∧OutOf lo hi w w'∧w'.heap[X]?=w.heap[X]?:=by
 by_cases e1:ys=[]
 ·subst e1;refine (markStringS_nil a cap k w (by omega)).mono ?_;rintro e w' ⟨rfl,rfl⟩;exact ⟨rfl,slIn_mk0,OutOf.of_below (Below.refl _ _),rfl⟩
 ·rcases hs with e | ⟨g,rfl,hb,hh,hl⟩
  ·exact absurd e e1
  refine (markStringS_any g ys.length cap k w hk hL (hl.other _)).mono ?_;rintro e w' ⟨rfl,h1,h2⟩;exact ⟨rfl,slIn_mk hb hh h1,OutOf.of_grown h2 hb hh,h2.block X hX (by simp; exact fun e=>hn g 0 e1 rfl e.symm)⟩
theorem markPool_but (lo hi:Nat) (p:Pl) (a1:Option Addr) (cap1 k:Nat) (w:World) (hk:0 < k) (hL:k+1*p.addrs.length≤1073741824) (hs:SlIn strL1 1 lo hi w a1 p.addrs) (hh:hi≤w.heap.size) (X:Nat) (hX:X < w.heap.size) (hn:∀ g o,p.addrs≠[]→a1=some ⟨g,o,none⟩→g≠X) :
  Calls Tryz.prog 20 #[plC a1 cap1 p,.int .i64 k] w fun e w'=>e=.returned (.int .i64 ((k+1*p.addrs.length:Nat):Int))∧SlIn strM 1 lo hi w' a1 (marksOf 1 k p.addrs.length)∧OutOf lo hi w w'∧w'.heap[X]?=w.heap[X]?:=by
 have GA:Hid (Below w.heap.size w (w.alloc (.cells #[.slice a1 p.addrs.length cap1,.int .i64 p.low,.int .i64 p.high,.int .i64 p.most,.int .i64 p.filter,.int .i64 p.lv.udp,.int .i64 p.lv.echo,.int .i64 p.lv.opening,.int .i64 p.lv.opn,.int .i64 p.lv.closing] 28))):=(Below.refl _ _).alloc (Nat.le_refl _) _;have HM:Hid (∀ W,Below w.heap.size w W→Calls Tryz.prog 57 #[.slice a1 p.addrs.length cap1,.int .i64 k] W fun e w'=>e=.returned (.int .i64 ((k+1*p.addrs.length:Nat):Int))∧SlIn strM 1 lo hi w' a1 (marksOf 1 k p.addrs.length)∧OutOf lo hi W w'∧w'.heap[X]?=W.heap[X]?):=fun W hW=>markStringS_but lo hi p.addrs a1 cap1 k W hk hL (hs.kept hW) X (Nat.lt_of_lt_of_le hX hW.size) hn
 have E0:Hid _:=GA.out.block X hX;clear hs;unfold plC;go_enter Tryz.func20,Tryz.ntmps20
 go_wp2_with fail
 refine (HM.out _ GA.out).mono ?_;rintro e w1 ⟨rfl,m1,q1,ex⟩;have E1:Hid (w1.heap[X]?=w.heap[X]?):=ex.trans E0.out;clear ex;have G1:Hid (OutOf lo hi w w1):=(OutOf.of_below GA.out).trans q1;have M1:Hid _:=m1;clear q1 m1;go_wp2_with fail
 go_ret;exact ⟨ret_int (by omega),M1.out,G1.out,E1.out⟩
theorem markGw_but (n0 n1 n2 b0 b1 p0 p1:Nat) (A:Ga) (g:Gw) (k:Nat) (w:World) (hk:0 < k) (hL:k+gwN g≤1073741824) (hs:GwIn n0 n1 n2 b0 b1 p0 p1 w A g) (hb:b1≤w.heap.size) (hp:p1≤w.heap.size) (X:Nat) (hX:X < w.heap.size) (hn9:GwOff X A g) :
  Calls Tryz.prog 21 #[gwC A g,.int .i64 k] w fun e w'=>e=.returned (.int .i64 ((k+gwN g:Nat):Int))∧GwMk n0 n1 n2 b0 b1 p0 p1 w' A k g.routes.length g.pool.addrs.length g.bib.binds.length g.bib.sess.length g.pcs.length∧OutOf n0 (max b1 p1) w w'∧w'.heap[X]?=w.heap[X]?:=by
 have hn:gwN g=3*g.routes.length+1*g.pool.addrs.length+5*g.bib.binds.length+7*g.bib.sess.length+8*g.pcs.length:=rfl;have l1:=hs.l1;have l2:=hs.l2;have lb:=hs.lb;have lp:=hs.lp;have bl:=hs.bl;have pl2:=hs.pl2;have dd:=hs.d;obtain ⟨k1,hk1⟩ : ∃ k1,k1=k+3*g.routes.length:=⟨_,rfl⟩;obtain ⟨k2,hk2⟩ : ∃ k2,k2=k1+1*g.pool.addrs.length:=⟨_,rfl⟩;obtain ⟨k3,hk3⟩ : ∃ k3,k3=k2+5*g.bib.binds.length+7*g.bib.sess.length:=⟨_,rfl⟩;obtain ⟨k4,hk4⟩ : ∃ k4,k4=k3+8*g.pcs.length:=⟨_,rfl⟩;have HK1:Hid (k1=k+3*g.routes.length):=hk1;have HK2:Hid (k2=k1+1*g.pool.addrs.length):=hk2;have HK3:Hid (k3=k2+5*g.bib.binds.length+7*g.bib.sess.length):=hk3;have HK4:Hid (k4=k3+8*g.pcs.length):=hk4;have hL4:k4≤1073741824:=by omega
 have HGN:Hid (k+gwN g=k4):=by unfold Hid; omega
 rw [HGN.out];clear hL hn;have GA:Hid (Below w.heap.size w (w.alloc (.cells #[.slice A.ra g.routes.length A.rc,.slice A.pa g.pool.addrs.length A.pc,.int .i64 g.pool.low,.int .i64 g.pool.high,.int .i64 g.pool.most,.int .i64 g.pool.filter,.int .i64 g.pool.lv.udp,.int .i64 g.pool.lv.echo,.int .i64 g.pool.lv.opening,.int .i64 g.pool.lv.opn,.int .i64 g.pool.lv.closing,.string g.sixA,.int .i64 g.sixB,.string g.four1,.string g.six1,.int .i64 g.mtu,.slice A.ba g.bib.binds.length A.ca,.slice A.bo g.bib.sess.length A.cb,.slice A.qa g.pcs.length A.qc,.int .i64 g.bk.left,.int .i64 g.bk.most,.int .i64 g.bk.each,.int .i64 g.bk.since,.int .i64 g.now] 41))):=(Below.refl _ _).alloc (Nat.le_refl _) _;have HB0:Hid (HoldsL (w.alloc (.cells #[.slice A.ra g.routes.length A.rc,.slice A.pa g.pool.addrs.length A.pc,.int .i64 g.pool.low,.int .i64 g.pool.high,.int .i64 g.pool.most,.int .i64 g.pool.filter,.int .i64 g.pool.lv.udp,.int .i64 g.pool.lv.echo,.int .i64 g.pool.lv.opening,.int .i64 g.pool.lv.opn,.int .i64 g.pool.lv.closing,.string g.sixA,.int .i64 g.sixB,.string g.four1,.string g.six1,.int .i64 g.mtu,.slice A.ba g.bib.binds.length A.ca,.slice A.bo g.bib.sess.length A.cb,.slice A.qa g.pcs.length A.qc,.int .i64 g.bk.left,.int .i64 g.bk.most,.int .i64 g.bk.each,.int .i64 g.bk.since,.int .i64 g.now] 41)) w.heap.size (gwL A g)):=HoldsL.new w (gwL A g) 41;have R0:Hid (SlIn rtL 3 n0 n1 (w.alloc (.cells #[.slice A.ra g.routes.length A.rc,.slice A.pa g.pool.addrs.length A.pc,.int .i64 g.pool.low,.int .i64 g.pool.high,.int .i64 g.pool.most,.int .i64 g.pool.filter,.int .i64 g.pool.lv.udp,.int .i64 g.pool.lv.echo,.int .i64 g.pool.lv.opening,.int .i64 g.pool.lv.opn,.int .i64 g.pool.lv.closing,.string g.sixA,.int .i64 g.sixB,.string g.four1,.string g.six1,.int .i64 g.mtu,.slice A.ba g.bib.binds.length A.ca,.slice A.bo g.bib.sess.length A.cb,.slice A.qa g.pcs.length A.qc,.int .i64 g.bk.left,.int .i64 g.bk.most,.int .i64 g.bk.each,.int .i64 g.bk.since,.int .i64 g.now] 41)) A.ra g.routes):=hs.rt.kept GA.out;have P0:Hid (SlIn strL1 1 n1 n2 (w.alloc (.cells #[.slice A.ra g.routes.length A.rc,.slice A.pa g.pool.addrs.length A.pc,.int .i64 g.pool.low,.int .i64 g.pool.high,.int .i64 g.pool.most,.int .i64 g.pool.filter,.int .i64 g.pool.lv.udp,.int .i64 g.pool.lv.echo,.int .i64 g.pool.lv.opening,.int .i64 g.pool.lv.opn,.int .i64 g.pool.lv.closing,.string g.sixA,.int .i64 g.sixB,.string g.four1,.string g.six1,.int .i64 g.mtu,.slice A.ba g.bib.binds.length A.ca,.slice A.bo g.bib.sess.length A.cb,.slice A.qa g.pcs.length A.qc,.int .i64 g.bk.left,.int .i64 g.bk.most,.int .i64 g.bk.each,.int .i64 g.bk.since,.int .i64 g.now] 41)) A.pa g.pool.addrs):=hs.pl.kept GA.out;have B0:Hid (BbIn b0 b1 (w.alloc (.cells #[.slice A.ra g.routes.length A.rc,.slice A.pa g.pool.addrs.length A.pc,.int .i64 g.pool.low,.int .i64 g.pool.high,.int .i64 g.pool.most,.int .i64 g.pool.filter,.int .i64 g.pool.lv.udp,.int .i64 g.pool.lv.echo,.int .i64 g.pool.lv.opening,.int .i64 g.pool.lv.opn,.int .i64 g.pool.lv.closing,.string g.sixA,.int .i64 g.sixB,.string g.four1,.string g.six1,.int .i64 g.mtu,.slice A.ba g.bib.binds.length A.ca,.slice A.bo g.bib.sess.length A.cb,.slice A.qa g.pcs.length A.qc,.int .i64 g.bk.left,.int .i64 g.bk.most,.int .i64 g.bk.each,.int .i64 g.bk.since,.int .i64 g.now] 41)) A.ba A.bo g.bib):=hs.bb.kept GA.out;have Q0:Hid (SlIn pcL 8 p0 p1 (w.alloc (.cells #[.slice A.ra g.routes.length A.rc,.slice A.pa g.pool.addrs.length A.pc,.int .i64 g.pool.low,.int .i64 g.pool.high,.int .i64 g.pool.most,.int .i64 g.pool.filter,.int .i64 g.pool.lv.udp,.int .i64 g.pool.lv.echo,.int .i64 g.pool.lv.opening,.int .i64 g.pool.lv.opn,.int .i64 g.pool.lv.closing,.string g.sixA,.int .i64 g.sixB,.string g.four1,.string g.six1,.int .i64 g.mtu,.slice A.ba g.bib.binds.length A.ca,.slice A.bo g.bib.sess.length A.cb,.slice A.qa g.pcs.length A.qc,.int .i64 g.bk.left,.int .i64 g.bk.most,.int .i64 g.bk.each,.int .i64 g.bk.since,.int .i64 g.now] 41)) A.qa g.pcs):=hs.ps.kept GA.out
 have E0:Hid ((w.alloc (.cells #[.slice A.ra g.routes.length A.rc,.slice A.pa g.pool.addrs.length A.pc,.int .i64 g.pool.low,.int .i64 g.pool.high,.int .i64 g.pool.most,.int .i64 g.pool.filter,.int .i64 g.pool.lv.udp,.int .i64 g.pool.lv.echo,.int .i64 g.pool.lv.opening,.int .i64 g.pool.lv.opn,.int .i64 g.pool.lv.closing,.string g.sixA,.int .i64 g.sixB,.string g.four1,.string g.six1,.int .i64 g.mtu,.slice A.ba g.bib.binds.length A.ca,.slice A.bo g.bib.sess.length A.cb,.slice A.qa g.pcs.length A.qc,.int .i64 g.bk.left,.int .i64 g.bk.most,.int .i64 g.bk.each,.int .i64 g.bk.since,.int .i64 g.now] 41)).heap[X]?=w.heap[X]?):=GA.out.block X hX;have O0:Hid (OutOf n0 (max b1 p1) w (w.alloc (.cells #[.slice A.ra g.routes.length A.rc,.slice A.pa g.pool.addrs.length A.pc,.int .i64 g.pool.low,.int .i64 g.pool.high,.int .i64 g.pool.most,.int .i64 g.pool.filter,.int .i64 g.pool.lv.udp,.int .i64 g.pool.lv.echo,.int .i64 g.pool.lv.opening,.int .i64 g.pool.lv.opn,.int .i64 g.pool.lv.closing,.string g.sixA,.int .i64 g.sixB,.string g.four1,.string g.six1,.int .i64 g.mtu,.slice A.ba g.bib.binds.length A.ca,.slice A.bo g.bib.sess.length A.cb,.slice A.qa g.pcs.length A.qc,.int .i64 g.bk.left,.int .i64 g.bk.most,.int .i64 g.bk.each,.int .i64 g.bk.since,.int .i64 g.now] 41))):=OutOf.of_below GA.out;have hsz:w.heap.size < (w.alloc (.cells #[.slice A.ra g.routes.length A.rc,.slice A.pa g.pool.addrs.length A.pc,.int .i64 g.pool.low,.int .i64 g.pool.high,.int .i64 g.pool.most,.int .i64 g.pool.filter,.int .i64 g.pool.lv.udp,.int .i64 g.pool.lv.echo,.int .i64 g.pool.lv.opening,.int .i64 g.pool.lv.opn,.int .i64 g.pool.lv.closing,.string g.sixA,.int .i64 g.sixB,.string g.four1,.string g.six1,.int .i64 g.mtu,.slice A.ba g.bib.binds.length A.ca,.slice A.bo g.bib.sess.length A.cb,.slice A.qa g.pcs.length A.qc,.int .i64 g.bk.left,.int .i64 g.bk.most,.int .i64 g.bk.each,.int .i64 g.bk.since,.int .i64 g.now] 41)).heap.size:=by simp
 have HR:Hid (∀ W,X < W.heap.size→SlIn rtL 3 n0 n1 W A.ra g.routes→Calls Tryz.prog 19 #[.slice A.ra g.routes.length A.rc,.int .i64 (k:Int)] W fun e w'=>e=.returned (.int .i64 (k1:Int))∧SlIn routeM 3 n0 n1 w' A.ra (marksOf 3 k g.routes.length)∧OutOf n0 n1 W w'∧w'.heap[X]?=W.heap[X]?):=fun W hxw h=>by
  rw [HK1.out]; exact markRouteS_but n0 n1 g.routes A.ra A.rc k W hk (by omega) h X hxw hn9.rt
 have HPP:Hid (∀ W,X < W.heap.size→n2≤W.heap.size→SlIn strL1 1 n1 n2 W A.pa g.pool.addrs→Calls Tryz.prog 20 #[.agg #[.slice A.pa g.pool.addrs.length A.pc,.int .i64 g.pool.low,.int .i64 g.pool.high,.int .i64 g.pool.most,.int .i64 g.pool.filter,.int .i64 g.pool.lv.udp,.int .i64 g.pool.lv.echo,.int .i64 g.pool.lv.opening,.int .i64 g.pool.lv.opn,.int .i64 g.pool.lv.closing],.int .i64 (k1:Int)] W fun e w'=>e=.returned (.int .i64 (k2:Int))∧SlIn strM 1 n1 n2 w' A.pa (marksOf 1 k1 g.pool.addrs.length)∧OutOf n1 n2 W w'∧w'.heap[X]?=W.heap[X]?):=fun W hxw hw h=>by
  rw [HK2.out]; exact markPool_but n1 n2 g.pool A.pa A.pc k1 W (by omega) (by omega) h hw X hxw hn9.pl
 have HBB:Hid (∀ W,X < W.heap.size→b1≤W.heap.size→BbIn b0 b1 W A.ba A.bo g.bib→Calls Tryz.prog 58 #[.agg #[.slice A.ba g.bib.binds.length A.ca,.slice A.bo g.bib.sess.length A.cb],.int .i64 (k2:Int)] W fun e w'=>e=.returned (.int .i64 (k3:Int))∧BbMk b0 w' A.ba A.bo k2 g.bib.binds.length g.bib.sess.length∧OutOf b0 b1 W w'∧w'.heap[X]?=W.heap[X]?):=fun W hxw hw h=>by
  rw [HK3.out]; exact markBib_but b0 b1 g.bib A.ba A.bo A.ca A.cb k2 W hw (by omega) (by omega) h X hxw hn9.bb
 have HQ:Hid (∀ W,X < W.heap.size→SlIn pcL 8 p0 p1 W A.qa g.pcs→Calls Tryz.prog 59 #[.slice A.qa g.pcs.length A.qc,.int .i64 (k3:Int)] W fun e w'=>e=.returned (.int .i64 (k4:Int))∧SlIn pieceM 8 p0 p1 w' A.qa (marksOf 8 k3 g.pcs.length)∧OutOf p0 p1 W w'∧w'.heap[X]?=W.heap[X]?):=fun W hxw h=>by
  rw [HK4.out]; exact markPieceS_but p0 p1 g.pcs A.qa A.qc k3 W (by omega) (by omega) h X hxw hn9.ps
 clear hs hk1 hk2 hk3 hk4;unfold gwC;rw [show gwL A g=[.slice A.ra g.routes.length A.rc,.slice A.pa g.pool.addrs.length A.pc,.int .i64 g.pool.low,.int .i64 g.pool.high,.int .i64 g.pool.most,.int .i64 g.pool.filter,.int .i64 g.pool.lv.udp,.int .i64 g.pool.lv.echo,.int .i64 g.pool.lv.opening,.int .i64 g.pool.lv.opn,.int .i64 g.pool.lv.closing,.string g.sixA,.int .i64 g.sixB,.string g.four1,.string g.six1,.int .i64 g.mtu,.slice A.ba g.bib.binds.length A.ca,.slice A.bo g.bib.sess.length A.cb,.slice A.qa g.pcs.length A.qc,.int .i64 g.bk.left,.int .i64 g.bk.most,.int .i64 g.bk.each,.int .i64 g.bk.since,.int .i64 g.now] from rfl];go_enter Tryz.func21,Tryz.ntmps21
 go_upto_region 1 with fail
 generalize (w.alloc (.cells #[.slice A.ra g.routes.length A.rc,.slice A.pa g.pool.addrs.length A.pc,.int .i64 g.pool.low,.int .i64 g.pool.high,.int .i64 g.pool.most,.int .i64 g.pool.filter,.int .i64 g.pool.lv.udp,.int .i64 g.pool.lv.echo,.int .i64 g.pool.lv.opening,.int .i64 g.pool.lv.opn,.int .i64 g.pool.lv.closing,.string g.sixA,.int .i64 g.sixB,.string g.four1,.string g.six1,.int .i64 g.mtu,.slice A.ba g.bib.binds.length A.ca,.slice A.bo g.bib.sess.length A.cb,.slice A.qa g.pcs.length A.qc,.int .i64 g.bk.left,.int .i64 g.bk.most,.int .i64 g.bk.each,.int .i64 g.bk.since,.int .i64 g.now] 41))=W0 at *;have c0:=HB0.out.cell (j:=0) rfl;go_wp2_with fail
 refine (HR.out W0 (by omega) R0.out).mono ?_;rintro e W1 ⟨rfl,m,o,ex⟩;have E1:Hid (W1.heap[X]?=w.heap[X]?):=ex.trans E0.out;clear ex E0;have M1:Hid (SlIn routeM 3 n0 n1 W1 A.ra (marksOf 3 k g.routes.length)):=m;have P1:Hid (SlIn strL1 1 n1 n2 W1 A.pa g.pool.addrs):=P0.out.outOf o (.inr (Nat.le_refl _));have B1:Hid (BbIn b0 b1 W1 A.ba A.bo g.bib):=B0.out.outOf o (by omega);have Q1:Hid (SlIn pcL 8 p0 p1 W1 A.qa g.pcs):=Q0.out.outOf o (by omega);have HB1:Hid (HoldsL W1 w.heap.size (gwL A g)):=HB0.out.outOf (by rw [gwL_len]; omega) o (by omega);have O1:Hid (OutOf n0 (max b1 p1) w W1):=O0.out.trans (o.wide (Nat.le_refl _) (by omega));have hz1:W0.heap.size≤W1.heap.size:=o.size;clear m o R0 P0 B0 Q0 HB0 O0 c0 HR;have c1:=HB1.out.cell (j:=1) rfl;have c2:=HB1.out.cell (j:=2) rfl;have c3:=HB1.out.cell (j:=3) rfl;have c4:=HB1.out.cell (j:=4) rfl;have c5:=HB1.out.cell (j:=5) rfl;have c6:=HB1.out.cell (j:=6) rfl;have c7:=HB1.out.cell (j:=7) rfl;have c8:=HB1.out.cell (j:=8) rfl;have c9:=HB1.out.cell (j:=9) rfl;have c10:=HB1.out.cell (j:=10) rfl;go_wp2_with fail
 refine (HPP.out W1 (by omega) (by omega) P1.out).mono ?_;rintro e W2 ⟨rfl,m,o,ex⟩;have E2:Hid (W2.heap[X]?=w.heap[X]?):=ex.trans E1.out;clear ex E1;have M2:Hid (SlIn strM 1 n1 n2 W2 A.pa (marksOf 1 k1 g.pool.addrs.length)):=m;have N1:Hid (SlIn routeM 3 n0 n1 W2 A.ra (marksOf 3 k g.routes.length)):=M1.out.outOf o (.inl (Nat.le_refl _));have B2:Hid (BbIn b0 b1 W2 A.ba A.bo g.bib):=B1.out.outOf o (by omega);have Q2:Hid (SlIn pcL 8 p0 p1 W2 A.qa g.pcs):=Q1.out.outOf o (by omega);have HB2:Hid (HoldsL W2 w.heap.size (gwL A g)):=HB1.out.outOf (by rw [gwL_len]; omega) o (by omega);have O2:Hid (OutOf n0 (max b1 p1) w W2):=O1.out.trans (o.wide (by omega) (by omega));have hz2:W1.heap.size≤W2.heap.size:=o.size;clear m o M1 P1 B1 Q1 HB1 O1 HPP c1 c2 c3 c4 c5 c6 c7 c8 c9 c10;have c16:=HB2.out.cell (j:=16) rfl;have c17:=HB2.out.cell (j:=17) rfl;go_wp2_with fail
 refine (HBB.out W2 (by omega) (by omega) B2.out).mono ?_;rintro e W3 ⟨rfl,m,o,ex⟩;have E3:Hid (W3.heap[X]?=w.heap[X]?):=ex.trans E2.out;clear ex E2;have M3:Hid (SlIn bindM 5 b0 b1 W3 A.ba (marksOf 5 k2 g.bib.binds.length)∧SlIn sessionM 7 b0 b1 W3 A.bo (marksOf 7 (k2+5*g.bib.binds.length) g.bib.sess.length)):=⟨slIn_own B2.out.bd m.bd,slIn_own B2.out.ss m.ss⟩;have N2:Hid (SlIn routeM 3 n0 n1 W3 A.ra (marksOf 3 k g.routes.length)):=N1.out.outOf o (by omega);have N3:Hid (SlIn strM 1 n1 n2 W3 A.pa (marksOf 1 k1 g.pool.addrs.length)):=M2.out.outOf o (by omega);have Q3:Hid (SlIn pcL 8 p0 p1 W3 A.qa g.pcs):=Q2.out.outOf o (by omega);have HB3:Hid (HoldsL W3 w.heap.size (gwL A g)):=HB2.out.outOf (by rw [gwL_len]; omega) o (by omega);have O3:Hid (OutOf n0 (max b1 p1) w W3):=O2.out.trans (o.wide (by omega) (by omega));have hz3:W2.heap.size≤W3.heap.size:=o.size;clear m o N1 M2 B2 Q2 HB2 O2 HBB c16 c17;have c18:=HB3.out.cell (j:=18) rfl;go_wp2_with fail
 refine (HQ.out W3 (by omega) Q3.out).mono ?_;rintro e W4 ⟨rfl,m,o,ex⟩;have E4:Hid (W4.heap[X]?=w.heap[X]?):=ex.trans E3.out;clear ex E3;have M4:Hid (GwMk n0 n1 n2 b0 b1 p0 p1 W4 A k g.routes.length g.pool.addrs.length g.bib.binds.length g.bib.sess.length g.pcs.length):=by
  have e1:=HK1.out;have e2:=HK2.out;have e3:=HK3.out;rw [e1] at e2;rw [e2] at e3;have x1:=N2.out.outOf o (by omega);have x2:=N3.out.outOf o (by omega);have x3:=M3.out.1.outOf o (by omega);have x4:=M3.out.2.outOf o (by omega);have x5:=m;rw [e1] at x2;rw [e2] at x3 x4;rw [e3] at x5;exact ⟨x1,x2,x3,x4,x5⟩
 have O4:Hid (OutOf n0 (max b1 p1) w W4):=O3.out.trans (o.wide (by omega) (by omega));clear m o N2 N3 M3 Q3 HB3 O3 HQ c18;go_wp2_with fail
 go_ret;exact ⟨rfl,M4.out,O4.out,E4.out⟩
end Go.Proofs.YthagnjokdnnmpaaGreat
