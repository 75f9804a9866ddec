import Derived.Test.YthagnjokdnnmpaaGreatMerged17
import Derived.Test.YthagnjokdnnmpaaGreatMerged13
import Derived.Test.YthagnjokdnnmpaaGreatLawPieceS
import Derived.Test.YthagnjokdnnmpaaGreatMerged2
set_option linter.unusedVariables false
set_option linter.unusedSimpArgs false
set_option maxRecDepth 100000
set_option maxHeartbeats 8000000
namespace Go.Proofs.YthagnjokdnnmpaaGreat
open Go.RowKit Go.PlainAid Go.ChangeShapes Go.WideShapes
section
variable {em:Nat→List Value} {n lo hi:Nat} {w W:World} {a:Option Addr} {k L:Nat}
theorem SlIn.mk9 (h:SlIn em n lo hi w a (marksOf n k L)):MkOwn n em lo w a k L:=by
 rcases h with h | ⟨g,h1,h2,h3,h4⟩
 ·refine .inl ?_;have:=congrArg List.length h;simpa [marksOf] using this
 ·rw [marksOf_length] at h4;exact .inr ⟨g,h1,h2,h4⟩
end
theorem slIn_mk {em:Nat→List Value} {n lo hi g:Nat} {w:World} {k L:Nat} (h1:lo≤g) (h2:g < hi) (h:SlLaid em n w g (marksOf n k L) L L):SlIn em n lo hi w (some ⟨g,0,none⟩) (marksOf n k L) :=
 .inr ⟨g,rfl,h1,h2,by rw [marksOf_length]; exact h⟩
theorem slIn_mk0 {em:Nat→List Value} {n lo hi:Nat} {w:World} {a:Option Addr} {k:Nat}:SlIn em n lo hi w a (marksOf n k 0):=.inl rfl
theorem slIn_own {α:Type} {en:α→List Value} {em:Nat→List Value} {n m lo hi:Nat} {w W:World} {a:Option Addr} {xs:List α} {k:Nat} (h:SlIn en n lo hi w a xs) (hm:MkOwn m em lo W a k xs.length):SlIn em m lo hi W a (marksOf m k xs.length):=by
 rcases hm with e | ⟨g,e1,e2,e3⟩
 ·rw [e]; exact slIn_mk0
 ·rcases h with e | ⟨g',e4,_,e5,_⟩
  ·rw [e]; exact slIn_mk0
  ·rw [e1] at e4
   cases e4;rw [e1];exact slIn_mk e2 e5 e3
structure GwMk (n0 n1 n2 b0 b1 p0 p1:Nat) (w:World) (A:Ga) (k nr np nb ns nq:Nat):Prop where
 rt:SlIn routeM 3 n0 n1 w A.ra (marksOf 3 k nr)
 pl:SlIn strM 1 n1 n2 w A.pa (marksOf 1 (k+3*nr) np)
 bd:SlIn bindM 5 b0 b1 w A.ba (marksOf 5 (k+3*nr+1*np) nb)
 ss:SlIn sessionM 7 b0 b1 w A.bo (marksOf 7 (k+3*nr+1*np+5*nb) ns)
 ps:SlIn pieceM 8 p0 p1 w A.qa (marksOf 8 (k+3*nr+1*np+5*nb+7*ns) nq)
theorem GwMk.kept {n0 n1 n2 b0 b1 p0 p1:Nat} {w W:World} {A:Ga} {k nr np nb ns nq:Nat} (h:GwMk n0 n1 n2 b0 b1 p0 p1 w A k nr np nb ns nq) (hB:Below w.heap.size w W):GwMk n0 n1 n2 b0 b1 p0 p1 W A k nr np nb ns nq:=⟨h.rt.kept hB,h.pl.kept hB,h.bd.kept hB,h.ss.kept hB,h.ps.kept hB⟩
def gwN (g:Gw):Nat:=3*g.routes.length+1*g.pool.addrs.length+5*g.bib.binds.length+7*g.bib.sess.length+8*g.pcs.length
theorem markRouteS_in (lo hi:Nat) (ys:List Rt) (a:Option Addr) (cap k:Nat) (w:World) (hk:0 < k) (hL:k+3*ys.length≤1073741824) (hs:SlIn rtL 3 lo hi w a ys) :
  Calls Tryz.prog 19 #[.slice a ys.length cap,.int .i64 k] w fun e w'=>e=.returned (.int .i64 ((k+3*ys.length:Nat):Int))∧SlIn routeM 3 lo hi w' a (marksOf 3 k ys.length)∧OutOf lo hi w w':=by
 rcases hs with rfl | ⟨g,rfl,hb,hh,hl⟩
 ·refine (markRouteS_nil a cap k w (by omega)).mono ?_;rintro e w' ⟨rfl,rfl⟩;exact ⟨rfl,slIn_mk0,OutOf.of_below (Below.refl _ _)⟩
 ·refine (markRouteS_any g ys.length cap k w hk hL (hl.other _)).mono ?_;rintro e w' ⟨rfl,h1,h2⟩;exact ⟨rfl,slIn_mk hb hh h1,OutOf.of_grown h2 hb hh⟩
theorem markPieceS_in (lo hi:Nat) (ys:List Pc) (a:Option Addr) (cap k:Nat) (w:World) (hk:0 < k) (hL:k+8*ys.length≤1073741824) (hs:SlIn pcL 8 lo hi w a ys) :
  Calls Tryz.prog 59 #[.slice a ys.length cap,.int .i64 k] w fun e w'=>e=.returned (.int .i64 ((k+8*ys.length:Nat):Int))∧SlIn pieceM 8 lo hi w' a (marksOf 8 k ys.length)∧OutOf lo hi w w':=by
 rcases hs with rfl | ⟨g,rfl,hb,hh,hl⟩
 ·refine (markPieceS_nil a cap k w (by omega)).mono ?_;rintro e w' ⟨rfl,rfl⟩;exact ⟨rfl,slIn_mk0,OutOf.of_below (Below.refl _ _)⟩
 ·refine (markPieceS_any g ys.length cap k w hk hL (hl.other _)).mono ?_;rintro e w' ⟨rfl,h1,h2⟩;exact ⟨rfl,slIn_mk hb hh h1,OutOf.of_grown h2 hb hh⟩
theorem markPool_in (lo hi:Nat) (p:Pl) (a1:Option Addr) (cap1 k:Nat) (w:World) (hk:0 < k) (hL:k+1*p.addrs.length≤1073741824) (hs:SlIn strL1 1 lo hi w a1 p.addrs) (hh:hi≤w.heap.size) :
  Calls Tryz.prog 20 #[plC a1 cap1 p,.int .i64 k] w fun e w'=>e=.returned (.int .i64 ((k+1*p.addrs.length:Nat):Int))∧SlIn strM 1 lo hi w' a1 (marksOf 1 k p.addrs.length)∧OutOf lo hi w w':=by
 have GA:Hid (Below w.heap.size w (w.alloc (.cells #[.slice a1 p.addrs.length cap1,.int .i64 p.low,.int .i64 p.high,.int .i64 p.most,.int .i64 p.filter,.int .i64 p.lv.udp,.int .i64 p.lv.echo,.int .i64 p.lv.opening,.int .i64 p.lv.opn,.int .i64 p.lv.closing] 28))):=(Below.refl _ _).alloc (Nat.le_refl _) _;have HM:Hid (∀ W,Below w.heap.size w W→Calls Tryz.prog 57 #[.slice a1 p.addrs.length cap1,.int .i64 k] W fun e w'=>e=.returned (.int .i64 ((k+1*p.addrs.length:Nat):Int))∧SlIn strM 1 lo hi w' a1 (marksOf 1 k p.addrs.length)∧OutOf lo hi W w'):=fun W hW=>by
  rcases hs.kept hW with h | ⟨g,rfl,h1,h2,h3⟩
  ·rw [h];refine (markStringS_nil a1 cap1 k W (by omega)).mono ?_;rintro e w' ⟨rfl,rfl⟩;exact ⟨rfl,slIn_mk0,OutOf.of_below (Below.refl _ _)⟩
  ·refine (markStringS_any g p.addrs.length cap1 k W hk hL (h3.other _)).mono ?_;rintro e w' ⟨rfl,h4,h5⟩;exact ⟨rfl,slIn_mk h1 h2 h4,OutOf.of_grown h5 h1 h2⟩
 clear hs;unfold plC;go_enter Tryz.func20,Tryz.ntmps20
 go_wp2_with fail
 refine (HM.out _ GA.out).mono ?_;rintro e w1 ⟨rfl,m1,q1⟩;have G1:Hid (OutOf lo hi w w1):=(OutOf.of_below GA.out).trans q1;have M1:Hid _:=m1;clear q1 m1;go_wp2_with fail
 go_ret;exact ⟨ret_int (by omega),M1.out,G1.out⟩
theorem heldStringS_any (B L cap k:Nat) (w:World) (hk:0 < k) (hL:k+1*L≤1073741824) (hs:SlLaid strM 1 w B (marksOf 1 k L) L L) :
  Calls Tryz.prog 96 #[.slice (some ⟨B,0,none⟩) L cap,.int .i64 k] w fun e w'=>e=.returned (.int .i64 ((k+1*L:Nat):Int))∧Below w.heap.size w w':=by
 have hblk:=hs.blk;have HS:Hid _:=hs;clear hs;go_enter Tryz.func96,Tryz.ntmps96
 go_wp2_with fail
 go_loopw [1,5] (fun kv i wr=>∃ m:Nat,m≤L∧i=.int .i64 m∧kv=.int .i64 ((k+1*m:Nat):Int)∧Below w.heap.size w wr) (fun _ i _=>L-(intOf i).toNat)
 case atStart=>exact ⟨0,Nat.zero_le _,rfl,rfl,Below.refl _ _⟩
 case round =>
  obtain ⟨m,hm,rfl,rfl,hbel⟩:=hrel;have HL:Hid (Below w.heap.size w wr):=hbel;clear hbel;by_cases hlt:m < L
  ·have hR:=(HS.out.kept HL.out).at0 m (by rw [marksOf_length]; exact hlt) hlt;rw [marksOf_get] at hR;have hbr:B < wr.heap.size:=Nat.lt_of_lt_of_le hblk HL.out.size;obtain ⟨kk,hkk⟩ : ∃ kk,kk=k+1*m:=⟨_,rfl⟩;have HKK:Hid (kk=k+1*m):=hkk;rw [← hkk] at hR ⊢;have hk1:0 < kk:=by omega
   have hk2:kk+1≤1073741824:=by omega
   clear hkk;have c0:wr.cell? ⟨B,m*1,none⟩=some (.string (markV (kk))):=hR 0 _ rfl;rw [Nat.mul_one] at c0;clear hR;go_upto_region 4 with fail
   go_cut [18] (fun v wx=>v=.bool false∧Below wr.heap.size wr wx)
   case first =>
    rename_i J K2 hJ hK2;refine wp_region_growH [12,13,14,15,16,17,18] (by kernel_rfl) (by kernel_rfl) ?_;refine GCh.val (n:=0) (fun v=>[IsV v]) (fun _=>rfl) rfl ?_;apply Exists.intro;refine And.intro ?_ ?_
    ·intro K' a wy ho hd hb hK;rw [if_pos (wanted_none rfl)];have o0:=ho 0 (by decide);simp [slot] at o0;clear hd ho;go_simp;try go_bits
     exact hK _ _ rfl (Below.refl _ _)
    refine GCh.val (n:=1) (fun v=>[_,IsV v]) (fun _=>rfl) rfl ?_;apply Exists.intro;refine And.intro ?_ ?_
    ·intro K' a wy ho hd hb hK;rw [if_pos (wanted_none rfl)];have o5:=ho 5 (by decide);simp [slot] at o5;clear hd ho;go_simp;try go_bits
     exact hK _ _ rfl (Below.refl _ _)
    refine GCh.val (n:=2) (fun v=>[_,_,IsV v]) (fun _=>rfl) rfl ?_;apply Exists.intro;refine And.intro ?_ ?_
    ·intro K' a wy ho hd hb hK;rw [if_pos (wanted_none rfl)];have q0:=hd ⟨0,.data⟩ (by simp) rfl;simp [rAt,IsV,slot] at q0;have q1:=hd ⟨1,.data⟩ (by simp) rfl;simp [rAt,IsV,slot] at q1;clear hd ho;go_simp;try go_bits
     exact hK _ _ rfl (Below.refl _ _)
    refine GCh.val (n:=3) (fun v=>[_,_,_,IsV v]) (fun _=>rfl) rfl ?_;apply Exists.intro;refine And.intro ?_ ?_
    ·intro K' a wy ho hd hb hK;rw [if_pos (wanted_none rfl)];have q2:=hd ⟨2,.data⟩ (by simp) rfl;simp [rAt,IsV,slot] at q2;clear hd ho;have hcx:=((bcell (Below.trans (Below.refl _ _).drew hb)).1 B _ hbr).trans c0;go_simp;try go_bits
     exact hK _ _ rfl (Below.refl _ _)
    refine GCh.val (n:=4) (fun v=>[_,_,_,_,IsV v]) (fun _=>rfl) rfl ?_;apply Exists.intro;refine And.intro ?_ ?_
    ·intro K' a wy ho hd hb hK;rw [if_pos (wanted_none rfl)];have o1:=ho 1 (by decide);simp [slot] at o1;clear hd ho;go_simp;try go_bits
     exact hK _ _ rfl (Below.refl _ _)
    refine GCh.val (n:=5) (fun v=>[_,_,_,_,_,IsV v]) (fun _=>rfl) rfl ?_;apply Exists.intro;refine And.intro ?_ ?_
    ·intro K' a wy ho hd hb hK;rw [if_pos (wanted_none rfl)];have q4:=hd ⟨4,.data⟩ (by simp) rfl;simp [rAt,IsV,slot] at q4;clear hd ho;go_simp;refine (markText_at _ kk wy (by omega) (by omega) (by omega)).mono ?_;rintro e wz ⟨rfl,hz⟩;exact hK _ _ rfl hz
    refine GCh.val (n:=6) (fun v=>[_,_,_,_,_,_,IsV v]) (fun _=>rfl) rfl ?_;apply Exists.intro;refine And.intro ?_ ?_
    ·intro K' a wy ho hd hb hK;rw [if_pos (wanted_none rfl)];have q3:=hd ⟨3,.data⟩ (by simp) rfl;simp [rAt,IsV,slot] at q3;have q5:=hd ⟨5,.data⟩ (by simp) rfl;simp [rAt,IsV,slot] at q5;clear hd ho;go_simp;try go_bits
     exact hK _ _ rfl (Below.refl _ _)
    intro X wz hR hz;obtain ⟨x0,x1,x2,x3,x4,x5,x6,-⟩:=hR;simp only [IsV] at x0 x1 x2 x3 x4 x5 x6;simp only [putsFrom,x0,x1,x2,x3,x4,x5,x6];clear x0 x1 x2 x3 x4 x5 x6;go_simp;refine hK2 _ _ (hJ _ _ ?_);(repeat apply Exists.intro)
    refine ⟨⟨rfl,(Below.refl _ wr).drew.trans hz⟩,rfl⟩
   case rest =>
   obtain ⟨rfl,hb0⟩:=hcut;generalize wc=wx0 at *;have HL0:Hid (Below w.heap.size w wx0):=HL.out.trans (hb0.mono HL.out.size);clear hb0 c0;go_wp2_with fail
   go_roundw
   case rel=>exact ⟨m+1,by omega,by go_num,by have:=HKK.out; congr 1; omega,HL0.out⟩
   case measure=>simp [intOf]; omega
  ·have hml:m=L:=by omega
   go_wp2_with fail
   go_ret;exact ⟨ret_int (by rw [hml]),HL.out⟩
theorem heldStringS_nil (a:Option Addr) (cap k:Nat) (w:World) (hL:k≤1073741824) :
  Calls Tryz.prog 96 #[.slice a 0 cap,.int .i64 k] w fun e w'=>e=.returned (.int .i64 (k:Int))∧w'=w:=by
 go_enter Tryz.func96,Tryz.ntmps96
 go_wp2_with fail
 go_loopw [1,5] (fun kv i wr=>kv=.int .i64 k∧i=.int .i64 0∧wr=w) (fun _ _ _=>0)
 case atStart=>exact ⟨rfl,rfl,rfl⟩
 case round =>
  obtain ⟨rfl,rfl,rfl⟩:=hrel;go_wp2_with fail
  go_ret;exact ⟨rfl,rfl⟩
theorem heldStringS_own (base L:Nat) (a:Option Addr) (cap k:Nat) (w:World) (hk:0 < k) (hL:k+1*L≤1073741824) (hs:MkOwn 1 strM base w a k L) :
  Calls Tryz.prog 96 #[.slice a L cap,.int .i64 k] w fun e w'=>e=.returned (.int .i64 ((k+1*L:Nat):Int))∧Below w.heap.size w w':=by
 rcases hs with rfl | ⟨g,rfl,hb,hl⟩
 ·refine (heldStringS_nil a cap k w (by omega)).mono ?_;rintro e w' ⟨rfl,rfl⟩;exact ⟨rfl,Below.refl _ _⟩
 ·exact heldStringS_any g L cap k w hk hL hl
theorem heldPool_own (base:Nat) (p:Pl) (a1:Option Addr) (cap1 k:Nat) (w:World) (hk:0 < k) (hL:k+1*p.addrs.length≤1073741824) (hs:MkOwn 1 strM base w a1 k p.addrs.length) :
  Calls Tryz.prog 61 #[plC a1 cap1 p,.int .i64 k] w fun e w'=>e=.returned (.int .i64 ((k+1*p.addrs.length:Nat):Int))∧Below w.heap.size w w':=by
 have GA:Hid (Below w.heap.size w (w.alloc (.cells #[.slice a1 p.addrs.length cap1,.int .i64 p.low,.int .i64 p.high,.int .i64 p.most,.int .i64 p.filter,.int .i64 p.lv.udp,.int .i64 p.lv.echo,.int .i64 p.lv.opening,.int .i64 p.lv.opn,.int .i64 p.lv.closing] 28))):=(Below.refl _ _).alloc (Nat.le_refl _) _;have HM:Hid _:=heldStringS_own base p.addrs.length a1 cap1 k _ hk hL (hs.kept GA.out);obtain ⟨k1,hk1⟩ : ∃ k1,k1=k+1*p.addrs.length:=⟨_,rfl⟩;rw [← hk1] at HM ⊢;have hn:¬ ((k1:Int) < 0):=by omega
 clear hk1 hs;unfold plC;go_enter Tryz.func61,Tryz.ntmps61
 go_wp2_with fail
 refine Calls.mono HM.out ?_;rintro e w1 ⟨rfl,q1⟩;have G1:Hid (Below w.heap.size w w1):=GA.out.trans (q1.mono GA.out.size);clear q1;go_wp2_with fail
 go_ret;exact ⟨rfl,G1.out⟩
theorem markGw_in (n0 n1 n2 b0 b1 p0 p1:Nat) (A:Ga) (g:Gw) (k:Nat) (w:World) (hk:0 < k) (hL:k+gwN g≤1073741824) (hs:GwIn n0 n1 n2 b0 b1 p0 p1 w A g) (hb:b1≤w.heap.size) (hp:p1≤w.heap.size) :
  Calls Tryz.prog 21 #[gwC A g,.int .i64 k] w fun e w'=>e=.returned (.int .i64 ((k+gwN g:Nat):Int))∧GwMk n0 n1 n2 b0 b1 p0 p1 w' A k g.routes.length g.pool.addrs.length g.bib.binds.length g.bib.sess.length g.pcs.length∧OutOf n0 (max b1 p1) w w':=by
 have hn:gwN g=3*g.routes.length+1*g.pool.addrs.length+5*g.bib.binds.length+7*g.bib.sess.length+8*g.pcs.length:=rfl;have l1:=hs.l1;have l2:=hs.l2;have lb:=hs.lb;have lp:=hs.lp;have bl:=hs.bl;have pl2:=hs.pl2;have dd:=hs.d;obtain ⟨k1,hk1⟩ : ∃ k1,k1=k+3*g.routes.length:=⟨_,rfl⟩;obtain ⟨k2,hk2⟩ : ∃ k2,k2=k1+1*g.pool.addrs.length:=⟨_,rfl⟩;obtain ⟨k3,hk3⟩ : ∃ k3,k3=k2+5*g.bib.binds.length+7*g.bib.sess.length:=⟨_,rfl⟩;obtain ⟨k4,hk4⟩ : ∃ k4,k4=k3+8*g.pcs.length:=⟨_,rfl⟩;have HK1:Hid (k1=k+3*g.routes.length):=hk1;have HK2:Hid (k2=k1+1*g.pool.addrs.length):=hk2;have HK3:Hid (k3=k2+5*g.bib.binds.length+7*g.bib.sess.length):=hk3;have HK4:Hid (k4=k3+8*g.pcs.length):=hk4;have hL4:k4≤1073741824:=by omega
 have HGN:Hid (k+gwN g=k4):=by unfold Hid; omega
 rw [HGN.out];clear hL hn;have GA:Hid (Below w.heap.size w (w.alloc (.cells #[.slice A.ra g.routes.length A.rc,.slice A.pa g.pool.addrs.length A.pc,.int .i64 g.pool.low,.int .i64 g.pool.high,.int .i64 g.pool.most,.int .i64 g.pool.filter,.int .i64 g.pool.lv.udp,.int .i64 g.pool.lv.echo,.int .i64 g.pool.lv.opening,.int .i64 g.pool.lv.opn,.int .i64 g.pool.lv.closing,.string g.sixA,.int .i64 g.sixB,.string g.four1,.string g.six1,.int .i64 g.mtu,.slice A.ba g.bib.binds.length A.ca,.slice A.bo g.bib.sess.length A.cb,.slice A.qa g.pcs.length A.qc,.int .i64 g.bk.left,.int .i64 g.bk.most,.int .i64 g.bk.each,.int .i64 g.bk.since,.int .i64 g.now] 41))):=(Below.refl _ _).alloc (Nat.le_refl _) _;have HB0:Hid (HoldsL (w.alloc (.cells #[.slice A.ra g.routes.length A.rc,.slice A.pa g.pool.addrs.length A.pc,.int .i64 g.pool.low,.int .i64 g.pool.high,.int .i64 g.pool.most,.int .i64 g.pool.filter,.int .i64 g.pool.lv.udp,.int .i64 g.pool.lv.echo,.int .i64 g.pool.lv.opening,.int .i64 g.pool.lv.opn,.int .i64 g.pool.lv.closing,.string g.sixA,.int .i64 g.sixB,.string g.four1,.string g.six1,.int .i64 g.mtu,.slice A.ba g.bib.binds.length A.ca,.slice A.bo g.bib.sess.length A.cb,.slice A.qa g.pcs.length A.qc,.int .i64 g.bk.left,.int .i64 g.bk.most,.int .i64 g.bk.each,.int .i64 g.bk.since,.int .i64 g.now] 41)) w.heap.size (gwL A g)):=HoldsL.new w (gwL A g) 41;have R0:Hid (SlIn rtL 3 n0 n1 (w.alloc (.cells #[.slice A.ra g.routes.length A.rc,.slice A.pa g.pool.addrs.length A.pc,.int .i64 g.pool.low,.int .i64 g.pool.high,.int .i64 g.pool.most,.int .i64 g.pool.filter,.int .i64 g.pool.lv.udp,.int .i64 g.pool.lv.echo,.int .i64 g.pool.lv.opening,.int .i64 g.pool.lv.opn,.int .i64 g.pool.lv.closing,.string g.sixA,.int .i64 g.sixB,.string g.four1,.string g.six1,.int .i64 g.mtu,.slice A.ba g.bib.binds.length A.ca,.slice A.bo g.bib.sess.length A.cb,.slice A.qa g.pcs.length A.qc,.int .i64 g.bk.left,.int .i64 g.bk.most,.int .i64 g.bk.each,.int .i64 g.bk.since,.int .i64 g.now] 41)) A.ra g.routes):=hs.rt.kept GA.out;have P0:Hid (SlIn strL1 1 n1 n2 (w.alloc (.cells #[.slice A.ra g.routes.length A.rc,.slice A.pa g.pool.addrs.length A.pc,.int .i64 g.pool.low,.int .i64 g.pool.high,.int .i64 g.pool.most,.int .i64 g.pool.filter,.int .i64 g.pool.lv.udp,.int .i64 g.pool.lv.echo,.int .i64 g.pool.lv.opening,.int .i64 g.pool.lv.opn,.int .i64 g.pool.lv.closing,.string g.sixA,.int .i64 g.sixB,.string g.four1,.string g.six1,.int .i64 g.mtu,.slice A.ba g.bib.binds.length A.ca,.slice A.bo g.bib.sess.length A.cb,.slice A.qa g.pcs.length A.qc,.int .i64 g.bk.left,.int .i64 g.bk.most,.int .i64 g.bk.each,.int .i64 g.bk.since,.int .i64 g.now] 41)) A.pa g.pool.addrs):=hs.pl.kept GA.out;have B0:Hid (BbIn b0 b1 (w.alloc (.cells #[.slice A.ra g.routes.length A.rc,.slice A.pa g.pool.addrs.length A.pc,.int .i64 g.pool.low,.int .i64 g.pool.high,.int .i64 g.pool.most,.int .i64 g.pool.filter,.int .i64 g.pool.lv.udp,.int .i64 g.pool.lv.echo,.int .i64 g.pool.lv.opening,.int .i64 g.pool.lv.opn,.int .i64 g.pool.lv.closing,.string g.sixA,.int .i64 g.sixB,.string g.four1,.string g.six1,.int .i64 g.mtu,.slice A.ba g.bib.binds.length A.ca,.slice A.bo g.bib.sess.length A.cb,.slice A.qa g.pcs.length A.qc,.int .i64 g.bk.left,.int .i64 g.bk.most,.int .i64 g.bk.each,.int .i64 g.bk.since,.int .i64 g.now] 41)) A.ba A.bo g.bib):=hs.bb.kept GA.out;have Q0:Hid (SlIn pcL 8 p0 p1 (w.alloc (.cells #[.slice A.ra g.routes.length A.rc,.slice A.pa g.pool.addrs.length A.pc,.int .i64 g.pool.low,.int .i64 g.pool.high,.int .i64 g.pool.most,.int .i64 g.pool.filter,.int .i64 g.pool.lv.udp,.int .i64 g.pool.lv.echo,.int .i64 g.pool.lv.opening,.int .i64 g.pool.lv.opn,.int .i64 g.pool.lv.closing,.string g.sixA,.int .i64 g.sixB,.string g.four1,.string g.six1,.int .i64 g.mtu,.slice A.ba g.bib.binds.length A.ca,.slice A.bo g.bib.sess.length A.cb,.slice A.qa g.pcs.length A.qc,.int .i64 g.bk.left,.int .i64 g.bk.most,.int .i64 g.bk.each,.int .i64 g.bk.since,.int .i64 g.now] 41)) A.qa g.pcs):=hs.ps.kept GA.out
 have O0:Hid (OutOf n0 (max b1 p1) w (w.alloc (.cells #[.slice A.ra g.routes.length A.rc,.slice A.pa g.pool.addrs.length A.pc,.int .i64 g.pool.low,.int .i64 g.pool.high,.int .i64 g.pool.most,.int .i64 g.pool.filter,.int .i64 g.pool.lv.udp,.int .i64 g.pool.lv.echo,.int .i64 g.pool.lv.opening,.int .i64 g.pool.lv.opn,.int .i64 g.pool.lv.closing,.string g.sixA,.int .i64 g.sixB,.string g.four1,.string g.six1,.int .i64 g.mtu,.slice A.ba g.bib.binds.length A.ca,.slice A.bo g.bib.sess.length A.cb,.slice A.qa g.pcs.length A.qc,.int .i64 g.bk.left,.int .i64 g.bk.most,.int .i64 g.bk.each,.int .i64 g.bk.since,.int .i64 g.now] 41))):=OutOf.of_below GA.out;have hsz:w.heap.size < (w.alloc (.cells #[.slice A.ra g.routes.length A.rc,.slice A.pa g.pool.addrs.length A.pc,.int .i64 g.pool.low,.int .i64 g.pool.high,.int .i64 g.pool.most,.int .i64 g.pool.filter,.int .i64 g.pool.lv.udp,.int .i64 g.pool.lv.echo,.int .i64 g.pool.lv.opening,.int .i64 g.pool.lv.opn,.int .i64 g.pool.lv.closing,.string g.sixA,.int .i64 g.sixB,.string g.four1,.string g.six1,.int .i64 g.mtu,.slice A.ba g.bib.binds.length A.ca,.slice A.bo g.bib.sess.length A.cb,.slice A.qa g.pcs.length A.qc,.int .i64 g.bk.left,.int .i64 g.bk.most,.int .i64 g.bk.each,.int .i64 g.bk.since,.int .i64 g.now] 41)).heap.size:=by simp
 have HR:Hid (∀ W,SlIn rtL 3 n0 n1 W A.ra g.routes→Calls Tryz.prog 19 #[.slice A.ra g.routes.length A.rc,.int .i64 (k:Int)] W fun e w'=>e=.returned (.int .i64 (k1:Int))∧SlIn routeM 3 n0 n1 w' A.ra (marksOf 3 k g.routes.length)∧OutOf n0 n1 W w'):=fun W h=>by
  rw [HK1.out]; exact markRouteS_in n0 n1 g.routes A.ra A.rc k W hk (by omega) h
 have HPP:Hid (∀ W,n2≤W.heap.size→SlIn strL1 1 n1 n2 W A.pa g.pool.addrs→Calls Tryz.prog 20 #[.agg #[.slice A.pa g.pool.addrs.length A.pc,.int .i64 g.pool.low,.int .i64 g.pool.high,.int .i64 g.pool.most,.int .i64 g.pool.filter,.int .i64 g.pool.lv.udp,.int .i64 g.pool.lv.echo,.int .i64 g.pool.lv.opening,.int .i64 g.pool.lv.opn,.int .i64 g.pool.lv.closing],.int .i64 (k1:Int)] W fun e w'=>e=.returned (.int .i64 (k2:Int))∧SlIn strM 1 n1 n2 w' A.pa (marksOf 1 k1 g.pool.addrs.length)∧OutOf n1 n2 W w'):=fun W hw h=>by
  rw [HK2.out]; exact markPool_in n1 n2 g.pool A.pa A.pc k1 W (by omega) (by omega) h hw
 have HBB:Hid (∀ W,b1≤W.heap.size→BbIn b0 b1 W A.ba A.bo g.bib→Calls Tryz.prog 58 #[.agg #[.slice A.ba g.bib.binds.length A.ca,.slice A.bo g.bib.sess.length A.cb],.int .i64 (k2:Int)] W fun e w'=>e=.returned (.int .i64 (k3:Int))∧BbMk b0 w' A.ba A.bo k2 g.bib.binds.length g.bib.sess.length∧OutOf b0 b1 W w'):=fun W hw h=>by
  rw [HK3.out]; exact markBib_out b0 b1 g.bib A.ba A.bo A.ca A.cb k2 W hw (by omega) (by omega) h
 have HQ:Hid (∀ W,SlIn pcL 8 p0 p1 W A.qa g.pcs→Calls Tryz.prog 59 #[.slice A.qa g.pcs.length A.qc,.int .i64 (k3:Int)] W fun e w'=>e=.returned (.int .i64 (k4:Int))∧SlIn pieceM 8 p0 p1 w' A.qa (marksOf 8 k3 g.pcs.length)∧OutOf p0 p1 W w'):=fun W h=>by
  rw [HK4.out]; exact markPieceS_in p0 p1 g.pcs A.qa A.qc k3 W (by omega) (by omega) h
 clear hs hk1 hk2 hk3 hk4;unfold gwC;rw [show gwL A g=[.slice A.ra g.routes.length A.rc,.slice A.pa g.pool.addrs.length A.pc,.int .i64 g.pool.low,.int .i64 g.pool.high,.int .i64 g.pool.most,.int .i64 g.pool.filter,.int .i64 g.pool.lv.udp,.int .i64 g.pool.lv.echo,.int .i64 g.pool.lv.opening,.int .i64 g.pool.lv.opn,.int .i64 g.pool.lv.closing,.string g.sixA,.int .i64 g.sixB,.string g.four1,.string g.six1,.int .i64 g.mtu,.slice A.ba g.bib.binds.length A.ca,.slice A.bo g.bib.sess.length A.cb,.slice A.qa g.pcs.length A.qc,.int .i64 g.bk.left,.int .i64 g.bk.most,.int .i64 g.bk.each,.int .i64 g.bk.since,.int .i64 g.now] from rfl];go_enter Tryz.func21,Tryz.ntmps21
 go_upto_region 1 with fail
 generalize (w.alloc (.cells #[.slice A.ra g.routes.length A.rc,.slice A.pa g.pool.addrs.length A.pc,.int .i64 g.pool.low,.int .i64 g.pool.high,.int .i64 g.pool.most,.int .i64 g.pool.filter,.int .i64 g.pool.lv.udp,.int .i64 g.pool.lv.echo,.int .i64 g.pool.lv.opening,.int .i64 g.pool.lv.opn,.int .i64 g.pool.lv.closing,.string g.sixA,.int .i64 g.sixB,.string g.four1,.string g.six1,.int .i64 g.mtu,.slice A.ba g.bib.binds.length A.ca,.slice A.bo g.bib.sess.length A.cb,.slice A.qa g.pcs.length A.qc,.int .i64 g.bk.left,.int .i64 g.bk.most,.int .i64 g.bk.each,.int .i64 g.bk.since,.int .i64 g.now] 41))=W0 at *;have c0:=HB0.out.cell (j:=0) rfl;go_wp2_with fail
 refine (HR.out W0 R0.out).mono ?_;rintro e W1 ⟨rfl,m,o⟩;have M1:Hid (SlIn routeM 3 n0 n1 W1 A.ra (marksOf 3 k g.routes.length)):=m;have P1:Hid (SlIn strL1 1 n1 n2 W1 A.pa g.pool.addrs):=P0.out.outOf o (.inr (Nat.le_refl _));have B1:Hid (BbIn b0 b1 W1 A.ba A.bo g.bib):=B0.out.outOf o (by omega);have Q1:Hid (SlIn pcL 8 p0 p1 W1 A.qa g.pcs):=Q0.out.outOf o (by omega);have HB1:Hid (HoldsL W1 w.heap.size (gwL A g)):=HB0.out.outOf (by rw [gwL_len]; omega) o (by omega);have O1:Hid (OutOf n0 (max b1 p1) w W1):=O0.out.trans (o.wide (Nat.le_refl _) (by omega));have hz1:W0.heap.size≤W1.heap.size:=o.size;clear m o R0 P0 B0 Q0 HB0 O0 c0 HR;have c1:=HB1.out.cell (j:=1) rfl;have c2:=HB1.out.cell (j:=2) rfl;have c3:=HB1.out.cell (j:=3) rfl;have c4:=HB1.out.cell (j:=4) rfl;have c5:=HB1.out.cell (j:=5) rfl;have c6:=HB1.out.cell (j:=6) rfl;have c7:=HB1.out.cell (j:=7) rfl;have c8:=HB1.out.cell (j:=8) rfl;have c9:=HB1.out.cell (j:=9) rfl;have c10:=HB1.out.cell (j:=10) rfl;go_wp2_with fail
 refine (HPP.out W1 (by omega) P1.out).mono ?_;rintro e W2 ⟨rfl,m,o⟩;have M2:Hid (SlIn strM 1 n1 n2 W2 A.pa (marksOf 1 k1 g.pool.addrs.length)):=m;have N1:Hid (SlIn routeM 3 n0 n1 W2 A.ra (marksOf 3 k g.routes.length)):=M1.out.outOf o (.inl (Nat.le_refl _));have B2:Hid (BbIn b0 b1 W2 A.ba A.bo g.bib):=B1.out.outOf o (by omega);have Q2:Hid (SlIn pcL 8 p0 p1 W2 A.qa g.pcs):=Q1.out.outOf o (by omega);have HB2:Hid (HoldsL W2 w.heap.size (gwL A g)):=HB1.out.outOf (by rw [gwL_len]; omega) o (by omega);have O2:Hid (OutOf n0 (max b1 p1) w W2):=O1.out.trans (o.wide (by omega) (by omega));have hz2:W1.heap.size≤W2.heap.size:=o.size;clear m o M1 P1 B1 Q1 HB1 O1 HPP c1 c2 c3 c4 c5 c6 c7 c8 c9 c10;have c16:=HB2.out.cell (j:=16) rfl;have c17:=HB2.out.cell (j:=17) rfl;go_wp2_with fail
 refine (HBB.out W2 (by omega) B2.out).mono ?_;rintro e W3 ⟨rfl,m,o⟩;have M3:Hid (SlIn bindM 5 b0 b1 W3 A.ba (marksOf 5 k2 g.bib.binds.length)∧SlIn sessionM 7 b0 b1 W3 A.bo (marksOf 7 (k2+5*g.bib.binds.length) g.bib.sess.length)):=⟨slIn_own B2.out.bd m.bd,slIn_own B2.out.ss m.ss⟩;have N2:Hid (SlIn routeM 3 n0 n1 W3 A.ra (marksOf 3 k g.routes.length)):=N1.out.outOf o (by omega);have N3:Hid (SlIn strM 1 n1 n2 W3 A.pa (marksOf 1 k1 g.pool.addrs.length)):=M2.out.outOf o (by omega);have Q3:Hid (SlIn pcL 8 p0 p1 W3 A.qa g.pcs):=Q2.out.outOf o (by omega);have HB3:Hid (HoldsL W3 w.heap.size (gwL A g)):=HB2.out.outOf (by rw [gwL_len]; omega) o (by omega);have O3:Hid (OutOf n0 (max b1 p1) w W3):=O2.out.trans (o.wide (by omega) (by omega));have hz3:W2.heap.size≤W3.heap.size:=o.size;clear m o N1 M2 B2 Q2 HB2 O2 HBB c16 c17;have c18:=HB3.out.cell (j:=18) rfl;go_wp2_with fail
 refine (HQ.out W3 Q3.out).mono ?_;rintro e W4 ⟨rfl,m,o⟩;have M4:Hid (GwMk n0 n1 n2 b0 b1 p0 p1 W4 A k g.routes.length g.pool.addrs.length g.bib.binds.length g.bib.sess.length g.pcs.length):=by
  have e1:=HK1.out;have e2:=HK2.out;have e3:=HK3.out;rw [e1] at e2;rw [e2] at e3;have x1:=N2.out.outOf o (by omega);have x2:=N3.out.outOf o (by omega);have x3:=M3.out.1.outOf o (by omega);have x4:=M3.out.2.outOf o (by omega);have x5:=m;rw [e1] at x2;rw [e2] at x3 x4;rw [e3] at x5;exact ⟨x1,x2,x3,x4,x5⟩
 have O4:Hid (OutOf n0 (max b1 p1) w W4):=O3.out.trans (o.wide (by omega) (by omega));clear m o N2 N3 M3 Q3 HB3 O3 HQ c18;go_wp2_with fail
 go_ret;exact ⟨rfl,M4.out,O4.out⟩
theorem heldGw_in (n0 n1 n2 b0 b1 p0 p1:Nat) (A:Ga) (g:Gw) (k:Nat) (w:World) (hk:0 < k) (hL:k+gwN g≤1073741824) (hs:GwMk n0 n1 n2 b0 b1 p0 p1 w A k g.routes.length g.pool.addrs.length g.bib.binds.length g.bib.sess.length g.pcs.length) :
  Calls Tryz.prog 22 #[gwC A g,.int .i64 k] w fun e w'=>e=.returned (.int .i64 ((k+gwN g:Nat):Int))∧Below w.heap.size w w':=by
 have hn:gwN g=3*g.routes.length+1*g.pool.addrs.length+5*g.bib.binds.length+7*g.bib.sess.length+8*g.pcs.length:=rfl;obtain ⟨k1,hk1⟩ : ∃ k1,k1=k+3*g.routes.length:=⟨_,rfl⟩;obtain ⟨k2,hk2⟩ : ∃ k2,k2=k1+1*g.pool.addrs.length:=⟨_,rfl⟩;obtain ⟨k3,hk3⟩ : ∃ k3,k3=k2+5*g.bib.binds.length+7*g.bib.sess.length:=⟨_,rfl⟩;obtain ⟨k4,hk4⟩ : ∃ k4,k4=k3+8*g.pcs.length:=⟨_,rfl⟩;have HK1:Hid (k1=k+3*g.routes.length):=hk1;have HK2:Hid (k2=k1+1*g.pool.addrs.length):=hk2;have HK3:Hid (k3=k2+5*g.bib.binds.length+7*g.bib.sess.length):=hk3;have HK4:Hid (k4=k3+8*g.pcs.length):=hk4;have hL4:k4≤1073741824:=by omega
 have HGN:Hid (k+gwN g=k4):=by unfold Hid; omega
 rw [HGN.out];clear hL hn;have HS:Hid (∀ W,Below w.heap.size w W→GwMk n0 n1 n2 b0 b1 p0 p1 W A k g.routes.length g.pool.addrs.length g.bib.binds.length g.bib.sess.length g.pcs.length):=fun W hW=>hs.kept hW
 have GA:Hid (Below w.heap.size w (w.alloc (.cells #[.slice A.ra g.routes.length A.rc,.slice A.pa g.pool.addrs.length A.pc,.int .i64 g.pool.low,.int .i64 g.pool.high,.int .i64 g.pool.most,.int .i64 g.pool.filter,.int .i64 g.pool.lv.udp,.int .i64 g.pool.lv.echo,.int .i64 g.pool.lv.opening,.int .i64 g.pool.lv.opn,.int .i64 g.pool.lv.closing,.string g.sixA,.int .i64 g.sixB,.string g.four1,.string g.six1,.int .i64 g.mtu,.slice A.ba g.bib.binds.length A.ca,.slice A.bo g.bib.sess.length A.cb,.slice A.qa g.pcs.length A.qc,.int .i64 g.bk.left,.int .i64 g.bk.most,.int .i64 g.bk.each,.int .i64 g.bk.since,.int .i64 g.now] 41))):=(Below.refl _ _).alloc (Nat.le_refl _) _;have HB0:Hid (HoldsL (w.alloc (.cells #[.slice A.ra g.routes.length A.rc,.slice A.pa g.pool.addrs.length A.pc,.int .i64 g.pool.low,.int .i64 g.pool.high,.int .i64 g.pool.most,.int .i64 g.pool.filter,.int .i64 g.pool.lv.udp,.int .i64 g.pool.lv.echo,.int .i64 g.pool.lv.opening,.int .i64 g.pool.lv.opn,.int .i64 g.pool.lv.closing,.string g.sixA,.int .i64 g.sixB,.string g.four1,.string g.six1,.int .i64 g.mtu,.slice A.ba g.bib.binds.length A.ca,.slice A.bo g.bib.sess.length A.cb,.slice A.qa g.pcs.length A.qc,.int .i64 g.bk.left,.int .i64 g.bk.most,.int .i64 g.bk.each,.int .i64 g.bk.since,.int .i64 g.now] 41)) w.heap.size (gwL A g)):=HoldsL.new w (gwL A g) 41;have HR:Hid (∀ W,Below w.heap.size w W→Calls Tryz.prog 60 #[.slice A.ra g.routes.length A.rc,.int .i64 (k:Int)] W fun e w'=>e=.returned (.int .i64 (k1:Int))∧Below W.heap.size W w'):=fun W h=>by
  rw [HK1.out]; exact heldRouteS_own n0 g.routes.length A.ra A.rc k W hk (by omega) (HS.out W h).rt.mk9
 have HPP:Hid (∀ W,Below w.heap.size w W→Calls Tryz.prog 61 #[.agg #[.slice A.pa g.pool.addrs.length A.pc,.int .i64 g.pool.low,.int .i64 g.pool.high,.int .i64 g.pool.most,.int .i64 g.pool.filter,.int .i64 g.pool.lv.udp,.int .i64 g.pool.lv.echo,.int .i64 g.pool.lv.opening,.int .i64 g.pool.lv.opn,.int .i64 g.pool.lv.closing],.int .i64 (k1:Int)] W fun e w'=>e=.returned (.int .i64 (k2:Int))∧Below W.heap.size W w'):=fun W h=>by
  rw [HK2.out];have hh:=(HS.out W h).pl.mk9;rw [← HK1.out] at hh;exact heldPool_own n1 g.pool A.pa A.pc k1 W (by omega) (by omega) hh
 have HBB:Hid (∀ W,Below w.heap.size w W→Calls Tryz.prog 62 #[.agg #[.slice A.ba g.bib.binds.length A.ca,.slice A.bo g.bib.sess.length A.cb],.int .i64 (k2:Int)] W fun e w'=>e=.returned (.int .i64 (k3:Int))∧Below W.heap.size W w'):=fun W h=>by
  rw [HK3.out];have h1:=(HS.out W h).bd.mk9;have h2:=(HS.out W h).ss.mk9;rw [← HK1.out,← HK2.out] at h1 h2;exact heldBib_own b0 g.bib.binds.length g.bib.sess.length A.ba A.bo A.ca A.cb k2 W (by omega) (by omega) ⟨h1,h2⟩
 have HQ:Hid (∀ W,Below w.heap.size w W→Calls Tryz.prog 63 #[.slice A.qa g.pcs.length A.qc,.int .i64 (k3:Int)] W fun e w'=>e=.returned (.int .i64 (k4:Int))∧Below W.heap.size W w'):=fun W h=>by
  rw [HK4.out];have hh:=(HS.out W h).ps.mk9;rw [← HK1.out,← HK2.out,← HK3.out] at hh;exact heldPieceS_own p0 g.pcs.length A.qa A.qc k3 W (by omega) (by omega) hh
 clear hs HS hk1 hk2 hk3 hk4;have hn1:¬ ((k1:Int) < 0):=by omega
 have hn2:¬ ((k2:Int) < 0):=by omega
 have hn3:¬ ((k3:Int) < 0):=by omega
 have hn4:¬ ((k4:Int) < 0):=by omega
 unfold gwC;rw [show gwL A g=[.slice A.ra g.routes.length A.rc,.slice A.pa g.pool.addrs.length A.pc,.int .i64 g.pool.low,.int .i64 g.pool.high,.int .i64 g.pool.most,.int .i64 g.pool.filter,.int .i64 g.pool.lv.udp,.int .i64 g.pool.lv.echo,.int .i64 g.pool.lv.opening,.int .i64 g.pool.lv.opn,.int .i64 g.pool.lv.closing,.string g.sixA,.int .i64 g.sixB,.string g.four1,.string g.six1,.int .i64 g.mtu,.slice A.ba g.bib.binds.length A.ca,.slice A.bo g.bib.sess.length A.cb,.slice A.qa g.pcs.length A.qc,.int .i64 g.bk.left,.int .i64 g.bk.most,.int .i64 g.bk.each,.int .i64 g.bk.since,.int .i64 g.now] from rfl];go_enter Tryz.func22,Tryz.ntmps22
 go_upto_region 1 with fail
 generalize (w.alloc (.cells #[.slice A.ra g.routes.length A.rc,.slice A.pa g.pool.addrs.length A.pc,.int .i64 g.pool.low,.int .i64 g.pool.high,.int .i64 g.pool.most,.int .i64 g.pool.filter,.int .i64 g.pool.lv.udp,.int .i64 g.pool.lv.echo,.int .i64 g.pool.lv.opening,.int .i64 g.pool.lv.opn,.int .i64 g.pool.lv.closing,.string g.sixA,.int .i64 g.sixB,.string g.four1,.string g.six1,.int .i64 g.mtu,.slice A.ba g.bib.binds.length A.ca,.slice A.bo g.bib.sess.length A.cb,.slice A.qa g.pcs.length A.qc,.int .i64 g.bk.left,.int .i64 g.bk.most,.int .i64 g.bk.each,.int .i64 g.bk.since,.int .i64 g.now] 41))=W0 at *;have c0:=HB0.out.cell (j:=0) rfl;go_wp2_with fail
 refine (HR.out W0 GA.out).mono ?_;rintro e W1 ⟨rfl,q⟩;have G1:Hid (Below w.heap.size w W1):=GA.out.trans (q.mono GA.out.size);have HB1:Hid _:=HB0.out.kept (by rw [gwL_len]; omega) q;clear q GA HR HB0 c0;have c1:=HB1.out.cell (j:=1) rfl;have c2:=HB1.out.cell (j:=2) rfl;have c3:=HB1.out.cell (j:=3) rfl;have c4:=HB1.out.cell (j:=4) rfl;have c5:=HB1.out.cell (j:=5) rfl;have c6:=HB1.out.cell (j:=6) rfl;have c7:=HB1.out.cell (j:=7) rfl;have c8:=HB1.out.cell (j:=8) rfl;have c9:=HB1.out.cell (j:=9) rfl;have c10:=HB1.out.cell (j:=10) rfl;go_wp2_with fail
 refine (HPP.out W1 G1.out).mono ?_;rintro e W2 ⟨rfl,q⟩;have G2:Hid (Below w.heap.size w W2):=G1.out.trans (q.mono G1.out.size);have HB2:Hid _:=HB1.out.kept (by rw [gwL_len]; omega) q;clear q G1 HPP HB1 c1 c2 c3 c4 c5 c6 c7 c8 c9 c10;have c16:=HB2.out.cell (j:=16) rfl;have c17:=HB2.out.cell (j:=17) rfl;go_wp2_with fail
 refine (HBB.out W2 G2.out).mono ?_;rintro e W3 ⟨rfl,q⟩;have G3:Hid (Below w.heap.size w W3):=G2.out.trans (q.mono G2.out.size);have HB3:Hid _:=HB2.out.kept (by rw [gwL_len]; omega) q;clear q G2 HBB HB2 c16 c17;have c18:=HB3.out.cell (j:=18) rfl;go_wp2_with fail
 refine (HQ.out W3 G3.out).mono ?_;rintro e W4 ⟨rfl,q⟩;have G4:Hid (Below w.heap.size w W4):=G3.out.trans (q.mono G3.out.size);have HB4:Hid _:=HB3.out.kept (by rw [gwL_len]; omega) q;clear q G3 HQ HB3 c18;go_wp2_with fail
 go_ret;exact ⟨rfl,G4.out⟩
end Go.Proofs.YthagnjokdnnmpaaGreat
