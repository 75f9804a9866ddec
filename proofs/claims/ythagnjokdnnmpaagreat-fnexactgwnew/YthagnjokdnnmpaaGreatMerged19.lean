import Derived.Test.YthagnjokdnnmpaaGreatMerged18
import Derived.Test.YthagnjokdnnmpaaGreatMerged15
import Derived.Test.YthagnjokdnnmpaaGreatLawPieceS
import Derived.Test.YthagnjokdnnmpaaGreatMerged3
import Derived.Test.YthagnjokdnnmpaaGreatMerged8
import Derived.Test.YthagnjokdnnmpaaGreatMerged11
import Derived.Lib.LazyBuf
import Derived.Test.YthagnjokdnnmpaaGreatMerged7
import Derived.Test.YthagnjokdnnmpaaGreatMerged5
import Derived.Deep.MidRow
import Derived.Deep.AppendLies
import Derived.Great.BuildSlice
set_option linter.unusedVariables false
set_option linter.unusedSimpArgs false
set_option maxRecDepth 100000
set_option maxHeartbeats 8000000
namespace Go.Proofs.YthagnjokdnnmpaaGreat
open Go.RowKit Go.PlainAid Go.ChangeShapes Go.WideShapes
section
variable {em:Nat→List Value} {n lo hi:Nat} {w W:World} {a:Option Addr} {k L:Nat}
theorem SlIn.mk9 (h:SlIn em n lo hi w a (marksOf n k L)):MkOwn n em lo w a k L:=by
 rcases h with h | ⟨g,h1,h2,h3,h4⟩
 ·refine .inl ?_;have:=congrArg List.length h;simpa [marksOf] using this
 ·rw [marksOf_length] at h4;exact .inr ⟨g,h1,h2,h4⟩
end
theorem slIn_mk {em:Nat→List Value} {n lo hi g:Nat} {w:World} {k L:Nat} (h1:lo≤g) (h2:g < hi) (h:SlLaid em n w g (marksOf n k L) L L):SlIn em n lo hi w (some ⟨g,0,none⟩) (marksOf n k L) :=
 .inr ⟨g,rfl,h1,h2,by rw [marksOf_length]; exact h⟩
theorem slIn_mk0 {em:Nat→List Value} {n lo hi:Nat} {w:World} {a:Option Addr} {k:Nat}:SlIn em n lo hi w a (marksOf n k 0):=.inl rfl
theorem slIn_own {α:Type} {en:α→List Value} {em:Nat→List Value} {n m lo hi:Nat} {w W:World} {a:Option Addr} {xs:List α} {k:Nat} (h:SlIn en n lo hi w a xs) (hm:MkOwn m em lo W a k xs.length):SlIn em m lo hi W a (marksOf m k xs.length):=by
 rcases hm with e | ⟨g,e1,e2,e3⟩
 ·rw [e]; exact slIn_mk0
 ·rcases h with e | ⟨g',e4,_,e5,_⟩
  ·rw [e]; exact slIn_mk0
  ·rw [e1] at e4
   cases e4;rw [e1];exact slIn_mk e2 e5 e3
structure GwMk (n0 n1 n2 b0 b1 p0 p1:Nat) (w:World) (A:Ga) (k nr np nb ns nq:Nat):Prop where
 rt:SlIn routeM 3 n0 n1 w A.ra (marksOf 3 k nr)
 pl:SlIn strM 1 n1 n2 w A.pa (marksOf 1 (k+3*nr) np)
 bd:SlIn bindM 5 b0 b1 w A.ba (marksOf 5 (k+3*nr+1*np) nb)
 ss:SlIn sessionM 7 b0 b1 w A.bo (marksOf 7 (k+3*nr+1*np+5*nb) ns)
 ps:SlIn pieceM 8 p0 p1 w A.qa (marksOf 8 (k+3*nr+1*np+5*nb+7*ns) nq)
theorem GwMk.kept {n0 n1 n2 b0 b1 p0 p1:Nat} {w W:World} {A:Ga} {k nr np nb ns nq:Nat} (h:GwMk n0 n1 n2 b0 b1 p0 p1 w A k nr np nb ns nq) (hB:Below w.heap.size w W):GwMk n0 n1 n2 b0 b1 p0 p1 W A k nr np nb ns nq:=⟨h.rt.kept hB,h.pl.kept hB,h.bd.kept hB,h.ss.kept hB,h.ps.kept hB⟩
def gwN (g:Gw):Nat:=3*g.routes.length+1*g.pool.addrs.length+5*g.bib.binds.length+7*g.bib.sess.length+8*g.pcs.length
theorem markRouteS_in (lo hi:Nat) (ys:List Rt) (a:Option Addr) (cap k:Nat) (w:World) (hk:0 < k) (hL:k+3*ys.length≤1073741824) (hs:SlIn rtL 3 lo hi w a ys) :
  Calls Tryz.prog 19 #[.slice a ys.length cap,.int .i64 k] w fun e w'=>e=.returned (.int .i64 ((k+3*ys.length:Nat):Int))∧SlIn routeM 3 lo hi w' a (marksOf 3 k ys.length)∧OutOf lo hi w w':=by
 rcases hs with rfl | ⟨g,rfl,hb,hh,hl⟩
 ·refine (markRouteS_nil a cap k w (by omega)).mono ?_;rintro e w' ⟨rfl,rfl⟩;exact ⟨rfl,slIn_mk0,OutOf.of_below (Below.refl _ _)⟩
 ·refine (markRouteS_any g ys.length cap k w hk hL (hl.other _)).mono ?_;rintro e w' ⟨rfl,h1,h2⟩;exact ⟨rfl,slIn_mk hb hh h1,OutOf.of_grown h2 hb hh⟩
theorem heldStringS_any (B L cap k:Nat) (w:World) (hk:0 < k) (hL:k+1*L≤1073741824) (hs:SlLaid strM 1 w B (marksOf 1 k L) L L) :
  Calls Tryz.prog 96 #[.slice (some ⟨B,0,none⟩) L cap,.int .i64 k] w fun e w'=>e=.returned (.int .i64 ((k+1*L:Nat):Int))∧Below w.heap.size w w':=by
 have hblk:=hs.blk;have HS:Hid _:=hs;clear hs;go_enter Tryz.func96,Tryz.ntmps96
 go_wp2_with fail
 go_loopw [1,5] (fun kv i wr=>∃ m:Nat,m≤L∧i=.int .i64 m∧kv=.int .i64 ((k+1*m:Nat):Int)∧Below w.heap.size w wr) (fun _ i _=>L-(intOf i).toNat)
 case atStart=>exact ⟨0,Nat.zero_le _,rfl,rfl,Below.refl _ _⟩
 case round =>
  obtain ⟨m,hm,rfl,rfl,hbel⟩:=hrel;have HL:Hid (Below w.heap.size w wr):=hbel;clear hbel;by_cases hlt:m < L
  ·have hR:=(HS.out.kept HL.out).at0 m (by rw [marksOf_length]; exact hlt) hlt;rw [marksOf_get] at hR;have hbr:B < wr.heap.size:=Nat.lt_of_lt_of_le hblk HL.out.size;obtain ⟨kk,hkk⟩ : ∃ kk,kk=k+1*m:=⟨_,rfl⟩;have HKK:Hid (kk=k+1*m):=hkk;rw [← hkk] at hR ⊢;have hk1:0 < kk:=by omega
   have hk2:kk+1≤1073741824:=by omega
   clear hkk;have c0:wr.cell? ⟨B,m*1,none⟩=some (.string (markV (kk))):=hR 0 _ rfl;rw [Nat.mul_one] at c0;clear hR;go_upto_region 4 with fail
   go_cut [18] (fun v wx=>v=.bool false∧Below wr.heap.size wr wx)
   case first =>
    rename_i J K2 hJ hK2;refine wp_region_growH [12,13,14,15,16,17,18] (by kernel_rfl) (by kernel_rfl) ?_;refine GCh.val (n:=0) (fun v=>[IsV v]) (fun _=>rfl) rfl ?_;apply Exists.intro;refine And.intro ?_ ?_
    ·intro K' a wy ho hd hb hK;rw [if_pos (wanted_none rfl)];have o0:=ho 0 (by decide);simp [slot] at o0;clear hd ho;go_simp;try go_bits
     exact hK _ _ rfl (Below.refl _ _)
    refine GCh.val (n:=1) (fun v=>[_,IsV v]) (fun _=>rfl) rfl ?_;apply Exists.intro;refine And.intro ?_ ?_
    ·intro K' a wy ho hd hb hK;rw [if_pos (wanted_none rfl)];have o5:=ho 5 (by decide);simp [slot] at o5;clear hd ho;go_simp;try go_bits
     exact hK _ _ rfl (Below.refl _ _)
    refine GCh.val (n:=2) (fun v=>[_,_,IsV v]) (fun _=>rfl) rfl ?_;apply Exists.intro;refine And.intro ?_ ?_
    ·intro K' a wy ho hd hb hK;rw [if_pos (wanted_none rfl)];have q0:=hd ⟨0,.data⟩ (by simp) rfl;simp [rAt,IsV,slot] at q0;have q1:=hd ⟨1,.data⟩ (by simp) rfl;simp [rAt,IsV,slot] at q1;clear hd ho;go_simp;try go_bits
     exact hK _ _ rfl (Below.refl _ _)
    refine GCh.val (n:=3) (fun v=>[_,_,_,IsV v]) (fun _=>rfl) rfl ?_;apply Exists.intro;refine And.intro ?_ ?_
    ·intro K' a wy ho hd hb hK;rw [if_pos (wanted_none rfl)];have q2:=hd ⟨2,.data⟩ (by simp) rfl;simp [rAt,IsV,slot] at q2;clear hd ho;have hcx:=((bcell (Below.trans (Below.refl _ _).drew hb)).1 B _ hbr).trans c0;go_simp;try go_bits
     exact hK _ _ rfl (Below.refl _ _)
    refine GCh.val (n:=4) (fun v=>[_,_,_,_,IsV v]) (fun _=>rfl) rfl ?_;apply Exists.intro;refine And.intro ?_ ?_
    ·intro K' a wy ho hd hb hK;rw [if_pos (wanted_none rfl)];have o1:=ho 1 (by decide);simp [slot] at o1;clear hd ho;go_simp;try go_bits
     exact hK _ _ rfl (Below.refl _ _)
    refine GCh.val (n:=5) (fun v=>[_,_,_,_,_,IsV v]) (fun _=>rfl) rfl ?_;apply Exists.intro;refine And.intro ?_ ?_
    ·intro K' a wy ho hd hb hK;rw [if_pos (wanted_none rfl)];have q4:=hd ⟨4,.data⟩ (by simp) rfl;simp [rAt,IsV,slot] at q4;clear hd ho;go_simp;refine (markText_at _ kk wy (by omega) (by omega) (by omega)).mono ?_;rintro e wz ⟨rfl,hz⟩;exact hK _ _ rfl hz
    refine GCh.val (n:=6) (fun v=>[_,_,_,_,_,_,IsV v]) (fun _=>rfl) rfl ?_;apply Exists.intro;refine And.intro ?_ ?_
    ·intro K' a wy ho hd hb hK;rw [if_pos (wanted_none rfl)];have q3:=hd ⟨3,.data⟩ (by simp) rfl;simp [rAt,IsV,slot] at q3;have q5:=hd ⟨5,.data⟩ (by simp) rfl;simp [rAt,IsV,slot] at q5;clear hd ho;go_simp;try go_bits
     exact hK _ _ rfl (Below.refl _ _)
    intro X wz hR hz;obtain ⟨x0,x1,x2,x3,x4,x5,x6,-⟩:=hR;simp only [IsV] at x0 x1 x2 x3 x4 x5 x6;simp only [putsFrom,x0,x1,x2,x3,x4,x5,x6];clear x0 x1 x2 x3 x4 x5 x6;go_simp;refine hK2 _ _ (hJ _ _ ?_);(repeat apply Exists.intro)
    refine ⟨⟨rfl,(Below.refl _ wr).drew.trans hz⟩,rfl⟩
   case rest =>
   obtain ⟨rfl,hb0⟩:=hcut;generalize wc=wx0 at *;have HL0:Hid (Below w.heap.size w wx0):=HL.out.trans (hb0.mono HL.out.size);clear hb0 c0;go_wp2_with fail
   go_roundw
   case rel=>exact ⟨m+1,by omega,by go_num,by have:=HKK.out; congr 1; omega,HL0.out⟩
   case measure=>simp [intOf]; omega
  ·have hml:m=L:=by omega
   go_wp2_with fail
   go_ret;exact ⟨ret_int (by rw [hml]),HL.out⟩
theorem heldStringS_nil (a:Option Addr) (cap k:Nat) (w:World) (hL:k≤1073741824) :
  Calls Tryz.prog 96 #[.slice a 0 cap,.int .i64 k] w fun e w'=>e=.returned (.int .i64 (k:Int))∧w'=w:=by
 go_enter Tryz.func96,Tryz.ntmps96
 go_wp2_with fail
 go_loopw [1,5] (fun kv i wr=>kv=.int .i64 k∧i=.int .i64 0∧wr=w) (fun _ _ _=>0)
 case atStart=>exact ⟨rfl,rfl,rfl⟩
 case round =>
  obtain ⟨rfl,rfl,rfl⟩:=hrel;go_wp2_with fail
  go_ret;exact ⟨rfl,rfl⟩
theorem heldStringS_own (base L:Nat) (a:Option Addr) (cap k:Nat) (w:World) (hk:0 < k) (hL:k+1*L≤1073741824) (hs:MkOwn 1 strM base w a k L) :
  Calls Tryz.prog 96 #[.slice a L cap,.int .i64 k] w fun e w'=>e=.returned (.int .i64 ((k+1*L:Nat):Int))∧Below w.heap.size w w':=by
 rcases hs with rfl | ⟨g,rfl,hb,hl⟩
 ·refine (heldStringS_nil a cap k w (by omega)).mono ?_;rintro e w' ⟨rfl,rfl⟩;exact ⟨rfl,Below.refl _ _⟩
 ·exact heldStringS_any g L cap k w hk hL hl
theorem heldPool_own (base:Nat) (p:Pl) (a1:Option Addr) (cap1 k:Nat) (w:World) (hk:0 < k) (hL:k+1*p.addrs.length≤1073741824) (hs:MkOwn 1 strM base w a1 k p.addrs.length) :
  Calls Tryz.prog 61 #[plC a1 cap1 p,.int .i64 k] w fun e w'=>e=.returned (.int .i64 ((k+1*p.addrs.length:Nat):Int))∧Below w.heap.size w w':=by
 have GA:Hid (Below w.heap.size w (w.alloc (.cells #[.slice a1 p.addrs.length cap1,.int .i64 p.low,.int .i64 p.high,.int .i64 p.most,.int .i64 p.filter,.int .i64 p.lv.udp,.int .i64 p.lv.echo,.int .i64 p.lv.opening,.int .i64 p.lv.opn,.int .i64 p.lv.closing] 28))):=(Below.refl _ _).alloc (Nat.le_refl _) _;have HM:Hid _:=heldStringS_own base p.addrs.length a1 cap1 k _ hk hL (hs.kept GA.out);obtain ⟨k1,hk1⟩ : ∃ k1,k1=k+1*p.addrs.length:=⟨_,rfl⟩;rw [← hk1] at HM ⊢;have hn:¬ ((k1:Int) < 0):=by omega
 clear hk1 hs;unfold plC;go_enter Tryz.func61,Tryz.ntmps61
 go_wp2_with fail
 refine Calls.mono HM.out ?_;rintro e w1 ⟨rfl,q1⟩;have G1:Hid (Below w.heap.size w w1):=GA.out.trans (q1.mono GA.out.size);clear q1;go_wp2_with fail
 go_ret;exact ⟨rfl,G1.out⟩
theorem heldGw_in (n0 n1 n2 b0 b1 p0 p1:Nat) (A:Ga) (g:Gw) (k:Nat) (w:World) (hk:0 < k) (hL:k+gwN g≤1073741824) (hs:GwMk n0 n1 n2 b0 b1 p0 p1 w A k g.routes.length g.pool.addrs.length g.bib.binds.length g.bib.sess.length g.pcs.length) :
  Calls Tryz.prog 22 #[gwC A g,.int .i64 k] w fun e w'=>e=.returned (.int .i64 ((k+gwN g:Nat):Int))∧Below w.heap.size w w':=by
 have hn:gwN g=3*g.routes.length+1*g.pool.addrs.length+5*g.bib.binds.length+7*g.bib.sess.length+8*g.pcs.length:=rfl;obtain ⟨k1,hk1⟩ : ∃ k1,k1=k+3*g.routes.length:=⟨_,rfl⟩;obtain ⟨k2,hk2⟩ : ∃ k2,k2=k1+1*g.pool.addrs.length:=⟨_,rfl⟩;obtain ⟨k3,hk3⟩ : ∃ k3,k3=k2+5*g.bib.binds.length+7*g.bib.sess.length:=⟨_,rfl⟩;obtain ⟨k4,hk4⟩ : ∃ k4,k4=k3+8*g.pcs.length:=⟨_,rfl⟩;have HK1:Hid (k1=k+3*g.routes.length):=hk1;have HK2:Hid (k2=k1+1*g.pool.addrs.length):=hk2;have HK3:Hid (k3=k2+5*g.bib.binds.length+7*g.bib.sess.length):=hk3;have HK4:Hid (k4=k3+8*g.pcs.length):=hk4;have hL4:k4≤1073741824:=by omega
 have HGN:Hid (k+gwN g=k4):=by unfold Hid; omega
 rw [HGN.out];clear hL hn;have HS:Hid (∀ W,Below w.heap.size w W→GwMk n0 n1 n2 b0 b1 p0 p1 W A k g.routes.length g.pool.addrs.length g.bib.binds.length g.bib.sess.length g.pcs.length):=fun W hW=>hs.kept hW
 have GA:Hid (Below w.heap.size w (w.alloc (.cells #[.slice A.ra g.routes.length A.rc,.slice A.pa g.pool.addrs.length A.pc,.int .i64 g.pool.low,.int .i64 g.pool.high,.int .i64 g.pool.most,.int .i64 g.pool.filter,.int .i64 g.pool.lv.udp,.int .i64 g.pool.lv.echo,.int .i64 g.pool.lv.opening,.int .i64 g.pool.lv.opn,.int .i64 g.pool.lv.closing,.string g.sixA,.int .i64 g.sixB,.string g.four1,.string g.six1,.int .i64 g.mtu,.slice A.ba g.bib.binds.length A.ca,.slice A.bo g.bib.sess.length A.cb,.slice A.qa g.pcs.length A.qc,.int .i64 g.bk.left,.int .i64 g.bk.most,.int .i64 g.bk.each,.int .i64 g.bk.since,.int .i64 g.now] 41))):=(Below.refl _ _).alloc (Nat.le_refl _) _;have HB0:Hid (HoldsL (w.alloc (.cells #[.slice A.ra g.routes.length A.rc,.slice A.pa g.pool.addrs.length A.pc,.int .i64 g.pool.low,.int .i64 g.pool.high,.int .i64 g.pool.most,.int .i64 g.pool.filter,.int .i64 g.pool.lv.udp,.int .i64 g.pool.lv.echo,.int .i64 g.pool.lv.opening,.int .i64 g.pool.lv.opn,.int .i64 g.pool.lv.closing,.string g.sixA,.int .i64 g.sixB,.string g.four1,.string g.six1,.int .i64 g.mtu,.slice A.ba g.bib.binds.length A.ca,.slice A.bo g.bib.sess.length A.cb,.slice A.qa g.pcs.length A.qc,.int .i64 g.bk.left,.int .i64 g.bk.most,.int .i64 g.bk.each,.int .i64 g.bk.since,.int .i64 g.now] 41)) w.heap.size (gwL A g)):=HoldsL.new w (gwL A g) 41;have HR:Hid (∀ W,Below w.heap.size w W→Calls Tryz.prog 60 #[.slice A.ra g.routes.length A.rc,.int .i64 (k:Int)] W fun e w'=>e=.returned (.int .i64 (k1:Int))∧Below W.heap.size W w'):=fun W h=>by
  rw [HK1.out]; exact heldRouteS_own n0 g.routes.length A.ra A.rc k W hk (by omega) (HS.out W h).rt.mk9
 have HPP:Hid (∀ W,Below w.heap.size w W→Calls Tryz.prog 61 #[.agg #[.slice A.pa g.pool.addrs.length A.pc,.int .i64 g.pool.low,.int .i64 g.pool.high,.int .i64 g.pool.most,.int .i64 g.pool.filter,.int .i64 g.pool.lv.udp,.int .i64 g.pool.lv.echo,.int .i64 g.pool.lv.opening,.int .i64 g.pool.lv.opn,.int .i64 g.pool.lv.closing],.int .i64 (k1:Int)] W fun e w'=>e=.returned (.int .i64 (k2:Int))∧Below W.heap.size W w'):=fun W h=>by
  rw [HK2.out];have hh:=(HS.out W h).pl.mk9;rw [← HK1.out] at hh;exact heldPool_own n1 g.pool A.pa A.pc k1 W (by omega) (by omega) hh
 have HBB:Hid (∀ W,Below w.heap.size w W→Calls Tryz.prog 62 #[.agg #[.slice A.ba g.bib.binds.length A.ca,.slice A.bo g.bib.sess.length A.cb],.int .i64 (k2:Int)] W fun e w'=>e=.returned (.int .i64 (k3:Int))∧Below W.heap.size W w'):=fun W h=>by
  rw [HK3.out];have h1:=(HS.out W h).bd.mk9;have h2:=(HS.out W h).ss.mk9;rw [← HK1.out,← HK2.out] at h1 h2;exact heldBib_own b0 g.bib.binds.length g.bib.sess.length A.ba A.bo A.ca A.cb k2 W (by omega) (by omega) ⟨h1,h2⟩
 have HQ:Hid (∀ W,Below w.heap.size w W→Calls Tryz.prog 63 #[.slice A.qa g.pcs.length A.qc,.int .i64 (k3:Int)] W fun e w'=>e=.returned (.int .i64 (k4:Int))∧Below W.heap.size W w'):=fun W h=>by
  rw [HK4.out];have hh:=(HS.out W h).ps.mk9;rw [← HK1.out,← HK2.out,← HK3.out] at hh;exact heldPieceS_own p0 g.pcs.length A.qa A.qc k3 W (by omega) (by omega) hh
 clear hs HS hk1 hk2 hk3 hk4;have hn1:¬ ((k1:Int) < 0):=by omega
 have hn2:¬ ((k2:Int) < 0):=by omega
 have hn3:¬ ((k3:Int) < 0):=by omega
 have hn4:¬ ((k4:Int) < 0):=by omega
 unfold gwC;rw [show gwL A g=[.slice A.ra g.routes.length A.rc,.slice A.pa g.pool.addrs.length A.pc,.int .i64 g.pool.low,.int .i64 g.pool.high,.int .i64 g.pool.most,.int .i64 g.pool.filter,.int .i64 g.pool.lv.udp,.int .i64 g.pool.lv.echo,.int .i64 g.pool.lv.opening,.int .i64 g.pool.lv.opn,.int .i64 g.pool.lv.closing,.string g.sixA,.int .i64 g.sixB,.string g.four1,.string g.six1,.int .i64 g.mtu,.slice A.ba g.bib.binds.length A.ca,.slice A.bo g.bib.sess.length A.cb,.slice A.qa g.pcs.length A.qc,.int .i64 g.bk.left,.int .i64 g.bk.most,.int .i64 g.bk.each,.int .i64 g.bk.since,.int .i64 g.now] from rfl];go_enter Tryz.func22,Tryz.ntmps22
 go_upto_region 1 with fail
 generalize (w.alloc (.cells #[.slice A.ra g.routes.length A.rc,.slice A.pa g.pool.addrs.length A.pc,.int .i64 g.pool.low,.int .i64 g.pool.high,.int .i64 g.pool.most,.int .i64 g.pool.filter,.int .i64 g.pool.lv.udp,.int .i64 g.pool.lv.echo,.int .i64 g.pool.lv.opening,.int .i64 g.pool.lv.opn,.int .i64 g.pool.lv.closing,.string g.sixA,.int .i64 g.sixB,.string g.four1,.string g.six1,.int .i64 g.mtu,.slice A.ba g.bib.binds.length A.ca,.slice A.bo g.bib.sess.length A.cb,.slice A.qa g.pcs.length A.qc,.int .i64 g.bk.left,.int .i64 g.bk.most,.int .i64 g.bk.each,.int .i64 g.bk.since,.int .i64 g.now] 41))=W0 at *;have c0:=HB0.out.cell (j:=0) rfl;go_wp2_with fail
 refine (HR.out W0 GA.out).mono ?_;rintro e W1 ⟨rfl,q⟩;have G1:Hid (Below w.heap.size w W1):=GA.out.trans (q.mono GA.out.size);have HB1:Hid _:=HB0.out.kept (by rw [gwL_len]; omega) q;clear q GA HR HB0 c0;have c1:=HB1.out.cell (j:=1) rfl;have c2:=HB1.out.cell (j:=2) rfl;have c3:=HB1.out.cell (j:=3) rfl;have c4:=HB1.out.cell (j:=4) rfl;have c5:=HB1.out.cell (j:=5) rfl;have c6:=HB1.out.cell (j:=6) rfl;have c7:=HB1.out.cell (j:=7) rfl;have c8:=HB1.out.cell (j:=8) rfl;have c9:=HB1.out.cell (j:=9) rfl;have c10:=HB1.out.cell (j:=10) rfl;go_wp2_with fail
 refine (HPP.out W1 G1.out).mono ?_;rintro e W2 ⟨rfl,q⟩;have G2:Hid (Below w.heap.size w W2):=G1.out.trans (q.mono G1.out.size);have HB2:Hid _:=HB1.out.kept (by rw [gwL_len]; omega) q;clear q G1 HPP HB1 c1 c2 c3 c4 c5 c6 c7 c8 c9 c10;have c16:=HB2.out.cell (j:=16) rfl;have c17:=HB2.out.cell (j:=17) rfl;go_wp2_with fail
 refine (HBB.out W2 G2.out).mono ?_;rintro e W3 ⟨rfl,q⟩;have G3:Hid (Below w.heap.size w W3):=G2.out.trans (q.mono G2.out.size);have HB3:Hid _:=HB2.out.kept (by rw [gwL_len]; omega) q;clear q G2 HBB HB2 c16 c17;have c18:=HB3.out.cell (j:=18) rfl;go_wp2_with fail
 refine (HQ.out W3 G3.out).mono ?_;rintro e W4 ⟨rfl,q⟩;have G4:Hid (Below w.heap.size w W4):=G3.out.trans (q.mono G3.out.size);have HB4:Hid _:=HB3.out.kept (by rw [gwL_len]; omega) q;clear q G3 HQ HB3 c18;go_wp2_with fail
 go_ret;exact ⟨rfl,G4.out⟩
end Go.Proofs.YthagnjokdnnmpaaGreat
namespace Go.Proofs.YthagnjokdnnmpaaGreat
open Go.RowKit Go.PlainAid
def firstF (s:ByteArray) (b:Nat) (i:Nat):Int:=if i < b / 8 then bt s i else if i=b / 8∧b % 8≠0 then bits .andNot .u8 (bt s i) (255 / 2 ^ (b % 8)) else 0
def firstV (s:ByteArray) (b:Nat):ByteArray:=bytesOf s.size (firstF s b)
theorem andNot8 (x y:Int):0≤bits .andNot .u8 x y∧bits .andNot .u8 x y≤255:=by
 show 0≤IntKind.u8.wrap _∧IntKind.u8.wrap _≤255;rw [IntKind.wrap_u8]; omega
theorem firstF_byte (s:ByteArray) (b:Nat):isByte (firstF s b):=fun i=>by
 unfold firstF;split
 ·exact bt_isByte s i
 ·split
  ·exact andNot8 _ _
  ·omega
theorem Holds.setCells {w:World} {B n:Nat} {f:Nat→Int} (h:Holds w B n f) (t:ByteArray) (ht:t.size≤n):Holds (w.setCells B 0 (t.data.toList.map fun x=>Value.int .u8 (x.toNat:Int))) B n (fun i=>if i < t.size then bt t i else f i):=by
 have hl:(t.data.toList.map fun x=>Value.int .u8 (x.toNat:Int)).length=t.size:=by rw [List.length_map,Array.length_toList]; rfl
 refine ⟨fun i hi=>⟨?_,by rw [World.frozen?_setCells]; exact (h.get i hi).2⟩⟩;by_cases e:i < t.size
 ·have:=World.cell?_setCells_in B (t.data.toList.map fun x=>Value.int .u8 (x.toNat:Int)) 0 w (fun j hj=>by rw [Nat.zero_add,(h.get j (by rw [hl] at hj; omega)).1]; rfl) i (by rw [hl]; exact e);rw [Nat.zero_add] at this;show _=some (Value.int .u8 (if i < t.size then bt t i else f i));rw [if_pos e,this,← get_bt t i e,ByteArray.getElem_eq_getElem_data];simp
 ·show _=some (Value.int .u8 (if i < t.size then bt t i else f i));rw [if_neg e,World.cell?_setCells_out B _ 0 w _ (fun _ _=>.inr (by rw [hl]; show 0+t.size≤i; omega))];exact (h.get i hi).1
theorem holds_zeros (w:World) (n:Nat) (t:TypeId):Holds (w.alloc (.cells (Array.replicate n (.int .u8 0)) t)) w.heap.size n (fun _=>0) :=
 ⟨fun i hi=>⟨by simp [hi],by simp⟩⟩
theorem Holds.drew {w:World} {B n:Nat} {f:Nat→Int} (h:Holds w B n f):Holds w.drew B n f:=⟨h.get⟩
theorem Holds.conv_to {w:World} {B n cap m:Nat} {f:Nat→Int} (h:Holds w B n f) (hm:m≤n) (hf:isByte f) :
  (convert 22 9 (.slice (some ⟨B,0,none⟩) m cap)).run Tryz.prog w=.ok (.string (bytesOf m f)) w :=
 Holds.conv (n:=m) ⟨fun i hi=>h.get i (by omega)⟩ hf
theorem Tryz.size8 (w:World):(Go.sizeOf 5).run Tryz.prog w=.ok 1 w:=by
 have h:(Tryz.prog.info? 5).map (fun i=>i.size)=some 1:=by kernel_rfl
 cases hq:Tryz.prog.info? 5 with
 | none=>simp [hq] at h
 | some i=>simp [hq] at h; simp [sizeOf,typeInfo,hq,h]
theorem extract_size (s:ByteArray) (k:Nat) (hk:k≤s.size):(s.extract 0 k).size=k:=by rw [ByteArray.size_extract]; omega
theorem extract_bt (s:ByteArray) (k i:Nat) (hk:k≤s.size) (hi:i < k):bt (s.extract 0 k) i=bt s i:=by
 unfold bt;rw [dif_pos (by rw [extract_size s k hk]; exact hi),dif_pos (by omega),ByteArray.getElem_extract];simp
theorem extract_map (s:ByteArray) (k:Nat):((s.extract 0 k).data.toList.map fun x:UInt8=>Value.int .u8 (x.toNat:Int))=List.take k (List.map (fun x:UInt8=>Value.int .u8 (x.toNat:Int)) s.data.toList):=by simp
theorem Holds.congr {w:World} {B n:Nat} {f g:Nat→Int} (h:Holds w B n f) (e:∀ i,i < n→f i=g i):Holds w B n g:=⟨fun i hi=>by rw [← e i hi]; exact h.get i hi⟩
theorem implFirst_any (s:ByteArray) (b:Nat) (w:World) (hs:s.size≤16) (hb:b≤8*s.size) :
  Calls Tryz.prog 119 #[.string s,.int .i64 b] w fun e w'=>e=.returned (.string (firstV s b))∧Below w.heap.size w w':=by
 have hw8:b / 8≤s.size:=by omega
 have hw8':(b:Int) / 8≤(s.size:Int):=by omega
 have hw0':0≤(b:Int) / 8:=by omega
 have hgb:=get_bt s;have hh0:=holds_zeros w 16 191;have HB0:Hid (Below w.heap.size w (w.alloc (.cells (Array.replicate 16 (.int .u8 0)) 191))):=(Below.refl _ _).alloc (Nat.le_refl _) _;go_enter Tryz.func119,Tryz.ntmps119
 go_wp2_with fail
 rw [show w.alloc (.cells #[.int .u8 0,.int .u8 0,.int .u8 0,.int .u8 0,.int .u8 0,.int .u8 0,.int .u8 0,.int .u8 0,.int .u8 0,.int .u8 0,.int .u8 0,.int .u8 0,.int .u8 0,.int .u8 0,.int .u8 0,.int .u8 0] 191)=w.alloc (.cells (Array.replicate 16 (.int .u8 0)) 191) from rfl];generalize hW:w.alloc (.cells (Array.replicate 16 (.int .u8 0)) 191)=W at *;clear hW;have hts:=extract_size s (b / 8) hw8;have hnat:((b:Int) / 8).toNat=b / 8:=by omega
 have HV:Hid (∀ i,firstF s b i=if i < b / 8 then bt s i else if i=b / 8∧b % 8≠0 then bits .andNot .u8 (bt s i) (255 / 2 ^ (b % 8)) else 0):=fun i=>rfl
 have HFB:Hid (isByte (firstF s b)):=firstF_byte s b;go_region_law (refine step_copy_string rfl (.tmp 10) (.tmp 13) 22 9 rfl 5 Tryz.underlying22 Tryz.size8 w.heap.size 0 16 16 (by simp [Act.eval,Act.put]) (s.extract 0 (b / 8)) (by simp [Act.eval,Act.put,hnat]) (by omega) (fun j hj=>by rw [Nat.zero_add,(hh0.drew.get j (by omega)).1]; rfl) (fun j hj=>by rw [Nat.zero_add]; exact (hh0.drew.get j (by omega)).2) ?_)
 have hh1:=hh0.drew.setCells (s.extract 0 (b / 8)) (by omega);have HB1:Hid (Below w.heap.size w (W.drew.setCells w.heap.size 0 ((s.extract 0 (b / 8)).data.toList.map fun x=>Value.int .u8 (x.toNat:Int)))):=below_setCells (Nat.le_refl _) _ _ _ HB0.out.drew;rw [extract_map] at hh1 HB1;replace hh1:=hh1.congr (g:=fun i=>if i < b / 8 then bt s i else 0) (fun i _=>by
  rw [hts];by_cases h:i < b / 8
  ·rw [if_pos h,if_pos h,extract_bt s _ i hw8 h]
  ·rw [if_neg h,if_neg h])
 generalize W.drew.setCells w.heap.size 0 (List.take (b / 8) (List.map (fun x:UInt8=>Value.int .u8 (x.toNat:Int)) s.data.toList))=W1 at hh1 HB1 ⊢;clear hh0 HB0 hts hw8';have HH1:Hid (Holds W1 w.heap.size 16 (fun i=>if i < b / 8 then bt s i else 0)):=hh1;have hz16:(s.size:Int)≤16:=by omega
 by_cases hr:b % 8=0
 ·have hr':(b:Int) % 8=0:=by omega
  have hcv:=(hh1.congr (g:=firstF s b) (fun i _=>by
   rw [HV.out];by_cases h:i < b / 8
   ·rw [if_pos h,if_pos h]
   ·rw [if_neg h,if_neg h,if_neg (fun hh=>hh.2 hr)])).conv_to (cap:=16) (m:=s.size) hs HFB.out
  clear hh1 hr;go_wp2_with fail
  go_ret;exact ⟨rfl,HB1.out⟩
 ·have hr':(0:Int) < (b:Int) % 8:=by omega
  have hlt:b / 8 < s.size:=by omega
  have hlt':(b:Int) / 8 < (s.size:Int):=by omega
  have hc:=hh1.get (b / 8) (by omega);obtain ⟨hc1,hc2⟩:=hc;have HS:Hid _:=(HH1.out.set (b / 8) (by omega) (bits .andNot .u8 (bt s (b / 8)) (255 / 2 ^ (b % 8)))).drew;clear hh1;have hrn:((b:Int) % 8).toNat=b % 8:=by omega
  go_wp2_with fail
  go_region
  have HB2:Hid (Below w.heap.size w (W1.setCell ⟨w.heap.size,b / 8,none⟩ (.int .u8 (bits .andNot .u8 (bt s (b / 8)) (255 / 2 ^ (b % 8))))).drew):=(HB1.out.setCell (by simp) _).drew;generalize (W1.setCell ⟨w.heap.size,b / 8,none⟩ (.int .u8 (bits .andNot .u8 (bt s (b / 8)) (255 / 2 ^ (b % 8))))).drew=W2 at HS HB2 ⊢;have hcv:=(HS.out.congr (g:=firstF s b) (fun i _=>by
   rw [HV.out];by_cases h:i < b / 8
   ·rw [if_neg (by omega),if_pos h,if_pos h]
   ·by_cases h2:i=b / 8
    ·rw [if_pos h2,if_neg h,if_pos ⟨h2,hr⟩,h2]
    ·rw [if_neg h2,if_neg h,if_neg h,if_neg (fun hh=>h2 hh.1)])).conv_to (cap:=16) (m:=s.size) hs HFB.out
  clear HS HH1;go_wp2_with fail
  go_ret;exact ⟨rfl,HB2.out⟩
theorem andNot_bits:∀ (x:Fin 256) (r m:Fin 8),r.val≠0→bits .andNot .u8 (x.val:Int) (255 / 2 ^ r.val) / 2 ^ (7-m.val) % 2=if m.val < r.val then (x.val:Int) / 2 ^ (7-m.val) % 2 else 0:=by decide +kernel
theorem firstF_bit (s:ByteArray) (b k:Nat):bitN (firstF s b) k=if k < b then bitN (bt s) k else 0:=by
 unfold bitN;by_cases h1:k / 8 < b / 8
 ·rw [if_pos (by omega),show firstF s b (k / 8)=bt s (k / 8) from if_pos h1]
 ·by_cases h2:k / 8=b / 8∧b % 8≠0
  ·have hf:firstF s b (k / 8)=bits .andNot .u8 (bt s (k / 8)) (255 / 2 ^ (b % 8)):=by unfold firstF; rw [if_neg h1,if_pos h2]
   have hb:=bt_isByte s (k / 8);obtain ⟨x,hx⟩:=Int.eq_ofNat_of_zero_le hb.1;have:=andNot_bits ⟨x,by omega⟩ ⟨b % 8,by omega⟩ ⟨k % 8,by omega⟩ h2.2;simp only at this;rw [hf,hx,this];by_cases h3:k % 8 < b % 8
   ·rw [if_pos h3,if_pos (by omega)]
   ·rw [if_neg h3,if_neg (by omega)]
  ·have hf:firstF s b (k / 8)=0:=by unfold firstF; rw [if_neg h1,if_neg h2]
   rw [if_neg (by omega),hf]; simp
theorem byte_bits {x y:Int} (hx0:0≤x) (hx:x≤255) (hy0:0≤y) (hy:y≤255) (h:∀ m,m < 8→x / 2 ^ (7-m) % 2=y / 2 ^ (7-m) % 2):x=y:=by
 have h0:=h 0 (by omega); have h1:=h 1 (by omega); have h2:=h 2 (by omega); have h3:=h 3 (by omega);have h4:=h 4 (by omega); have h5:=h 5 (by omega); have h6:=h 6 (by omega); have h7:=h 7 (by omega);simp only [Nat.sub_zero,Nat.reduceSub,Int.reducePow,Int.ediv_one] at h0 h1 h2 h3 h4 h5 h6 h7;omega
theorem bytes_bits {a p:ByteArray} (hs:a.size=p.size) (h:∀ k,k < 8*p.size→bitN (bt a) k=bitN (bt p) k):a=p:=by
 refine ba_ext hs (fun i hi=>byte_bits (bt_isByte a i).1 (bt_isByte a i).2 (bt_isByte p i).1 (bt_isByte p i).2 (fun m hm=>?_));have:=h (8*i+m) (by omega);unfold bitN at this;rwa [show (8*i+m) / 8=i by omega,show (8*i+m) % 8=m by omega] at this
theorem firstV_bt (a:ByteArray) (b i:Nat) (hi:i < a.size):bt (firstV a b) i=firstF a b i:=bytesOf_bt hi (firstF_byte a b i).1 (firstF_byte a b i).2
theorem firstV_bit (a:ByteArray) (b k:Nat) (hk:k < 8*a.size):bitN (bt (firstV a b)) k=if k < b then bitN (bt a) k else 0:=by
 rw [← firstF_bit]; unfold bitN; rw [firstV_bt a b _ (by omega)]
theorem firstV_size (a:ByteArray) (b:Nat):(firstV a b).size=a.size:=bytesOf_size _ _
theorem firstV_iff {a p:ByteArray} (b:Nat) (hs:a.size=p.size):firstV a b=p↔∀ k,k < 8*p.size→bitN (bt p) k=if k < b then bitN (bt a) k else 0:=by
 constructor
 ·intro h k hk;rw [← firstV_bit a b k (by omega),h]
 ·intro h;exact bytes_bits ((firstV_size a b).trans hs) (fun k hk=>by rw [h k hk,firstV_bit a b k (by omega)])
theorem zerosN_iff {f:Nat→Int}:∀ (n k:Nat),zerosN f k n=true↔∀ i,k≤i→i < k+n→bitN f i=0
 | 0,k=>by simp [zerosN]; omega
 | n+1,k=>by
  show (bitN f k==0&&zerosN f (k+1) n)=true↔_;rw [Bool.and_eq_true,zerosN_iff n (k+1),beq_iff_eq];constructor
  ·rintro ⟨h0,h⟩ i h1 h2;by_cases e:i=k
   ·rw [e]; exact h0
   ·exact h i (by omega) (by omega)
  ·intro h;exact ⟨h k (by omega) (by omega),fun i h1 h2=>h i (by omega) (by omega)⟩
theorem first_right {s:ByteArray} {b:Nat} (hb:b≤8*s.size):firstV s b=s↔zerosN (bt s) b (8*s.size-b)=true:=by
 rw [firstV_iff b rfl,zerosN_iff];constructor
 ·intro h i h1 h2;have:=h i (by omega);rwa [if_neg (by omega)] at this
 ·intro h k hk;by_cases e:k < b
  ·rw [if_pos e]
  ·rw [if_neg e]; exact h k (by omega) (by omega)
section
variable (n:Nat)
end
def bytesC (a:ByteArray):List Value:=a.data.toList.map fun x=>Value.int .u8 (x.toNat:Int)
def rowC (a:ByteArray) (b:Int):List Value:=bytesC a++[.int .i64 b]
theorem bytesC_length (a:ByteArray):(bytesC a).length=a.size:=by unfold bytesC; rw [List.length_map,Array.length_toList]; rfl
theorem rowC_length (a:ByteArray) (b:Int):(rowC a b).length=a.size+1:=by unfold rowC; rw [List.length_append,bytesC_length]; rfl
def hopC (q:Rt):List Value:=rowC q.addr q.bits++[.int .i64 q.hop]
def flatH (ms:List Rt):List Value:=ms.flatMap hopC
theorem hopC_length (q:Rt):(hopC q).length=q.addr.size+2:=by unfold hopC; rw [List.length_append,rowC_length]; rfl
section
variable {w W:World} {B o:Nat} {xs ys:List Value}
theorem rangeAt_left (h:w.rangeAt B o (xs++ys)):w.rangeAt B o xs:=fun j v hv=>h j v (by rw [List.getElem?_append_left (List.getElem?_eq_some_iff.1 hv).1]; exact hv)
theorem HoldsL.left (h:HoldsL w B (xs++ys)):w.rangeAt B 0 xs:=rangeAt_left h.at0
end
theorem flatH_get (n:Nat):∀ (ms:List Rt) (hm:∀ q∈ms,q.addr.size=n) (i:Nat) (h:i < ms.length) (j:Nat) (v:Value),(hopC ms[i])[j]?=some v→(flatH ms)[i*(n+2)+j]?=some v
 | [],_,i,h,_,_,_=>by simp at h
 | q::ms,hm,0,h,j,v,hv=>by
  have hv:(hopC q)[j]?=some v:=hv;unfold flatH;rw [List.flatMap_cons,Nat.zero_mul,Nat.zero_add,List.getElem?_append_left (List.getElem?_eq_some_iff.1 hv).1]; exact hv
 | q::ms,hm,i+1,h,j,v,hv=>by
  have ih:=flatH_get n ms (fun x hx=>hm x (by simp [hx])) i (by simpa using h) j v (by simpa using hv);unfold flatH at *;have hl:(hopC q).length=n+2:=by rw [hopC_length,hm q (by simp)]
  rw [List.flatMap_cons,List.getElem?_append_right (by rw [hl,Nat.succ_mul]; omega),hl];rw [show (i+1)*(n+2)+j-(n+2)=i*(n+2)+j by rw [Nat.succ_mul]; omega];exact ih
def MoreAt (w:World) (n:Nat) (E:TypeId) (mv:Value) (ms:List Rt):Prop:=w.ownsRow 0 E (n+2) mv ms.length (flatH ms)
section
variable {w W:World} {n E:Nat} {mv:Value} {ms:List Rt}
theorem MoreAt.nil:MoreAt w n E (.slice none 0 0) []:=⟨by simp [flatH],.inl ⟨rfl,rfl⟩⟩
theorem MoreAt.shape (h:MoreAt w n E mv ms):(mv=.slice none 0 0∧ms=[])∨∃ g cap,mv=.slice (some ⟨g,0,none⟩) ms.length cap∧ms.length≤cap∧g < w.heap.size:=by
 rcases h.2 with ⟨h1,h2⟩ | ⟨g,cap,cur,h1,_,hg,hc,_⟩
 ·exact .inl ⟨h1,List.length_eq_zero_iff.1 h2⟩
 ·exact .inr ⟨g,cap,h1,hc,(Array.getElem?_eq_some_iff.1 hg).1⟩
theorem MoreAt.one (h:MoreAt w n E mv ms):mv.oneCell'=true:=by
 rcases h.shape with ⟨rfl,_⟩ | ⟨g,cap,rfl,_,_⟩<;>rfl
theorem MoreAt.get {g cap:Nat} (h:MoreAt w n E (.slice (some ⟨g,0,none⟩) ms.length cap) ms) (hm:∀ q∈ms,q.addr.size=n) (i:Nat) (hi:i < ms.length):w.rangeAt g (i*(n+2)) (hopC ms[i]):=fun j v hv=>by
 have hj:j < n+2:=by have:=(List.getElem?_eq_some_iff.1 hv).1; rwa [hopC_length,hm _ (List.getElem_mem hi)] at this
 have hlt:i*(n+2)+j < ms.length*(n+2):=by
  have:=Nat.mul_le_mul_right (n+2) (show i+1≤ms.length from hi);rw [Nat.succ_mul] at this; omega
 rw [World.ownsRow.cellAt h _ hlt];exact flatH_get n ms hm i hi j v hv
theorem MoreAt.kept {row:Option Nat} (h:MoreAt w n E mv ms) (hg:w.grownBy W row) (hne:mv.ownBlock=none∨mv.ownBlock≠row):MoreAt W n E mv ms:=World.ownsRow.kept h hg hne
theorem MoreAt.below (h:MoreAt w n E mv ms) (hB:Below w.heap.size w W):MoreAt W n E mv ms:=h.kept (grown_of_below (r:=none) hB) (by cases mv.ownBlock<;>simp)
end
structure FSt (w:World) (m X:Nat) (cs zs:List Value) (mv:Value) (wx:World):Prop where
 x:HoldsL wx X cs
 z:HoldsL wx (w.heap.size+1) zs
 c:wx.cell? ⟨w.heap.size,m,none⟩=some mv
 b:Below w.heap.size w wx
 le:w.heap.size+1+1≤X
section
variable {w wx wy:World} {m X:Nat} {cs zs:List Value} {mv:Value}
theorem FSt.set (h:FSt w m X cs zs mv wx) (j:Nat) (v:Value):FSt w m X (cs.set j v) zs mv (wx.setCell ⟨X,j,none⟩ v):=by
 have hle:=h.le;exact ⟨h.x.set j v,h.z.setOther (by omega) v,(World.cell?_setCell_other _ _ _ _ (fun e=>by injection e with e1 _; omega)).trans h.c,h.b.setCell (by show w.heap.size≤X; omega) v,hle⟩
theorem FSt.below (h:FSt w m X cs zs mv wx) (hx:0 < cs.length) (hz:0 < zs.length) (hB:Below wx.heap.size wx wy):FSt w m X cs zs mv wy :=
 ⟨h.x.kept hx hB,h.z.kept hz hB,((bcell hB).1 _ _ (World.block_lt_of_cell? wx _ h.c)).trans h.c,h.b.trans (hB.mono h.b.size),h.le⟩
theorem FSt.grown {row:Option Nat} (h:FSt w m X cs zs mv wx) (hx:0 < cs.length) (hz:0 < zs.length) (hg:wx.grownBy wy row) (hr:∀ g,row=some g→w.heap.size+1+1≤g∧g≠X):FSt w m X cs zs mv wy:=by
 have h1:some X≠row:=fun e=>(hr X e.symm).2 rfl
 have h2:some (w.heap.size+1)≠row:=fun e=>by have:=(hr _ e.symm).1; omega
 have h3:some w.heap.size≠row:=fun e=>by have:=(hr _ e.symm).1; omega
 refine ⟨h.x.grown hx hg h1,h.z.grown hz hg h2,hg.cell h.c h3,?_,h.le⟩;exact ⟨hg.os.trans h.b.os,hg.tape.trans h.b.tape,hg.output.trans h.b.output,Nat.le_trans h.b.size hg.size,fun k hk=>by
  rw [hg.block k (Nat.lt_of_lt_of_le hk h.b.size) (fun e=>by have:=(hr k e.symm).1; omega)]; exact h.b.block k hk⟩
theorem FSt.alloc (h:FSt w m X cs zs mv wx) (hx:0 < cs.length) (hz:0 < zs.length) (o:Obj):FSt w m X cs zs mv (wx.alloc o):=h.below hx hz ((Below.refl _ _).alloc (Nat.le_refl _) o)
theorem FSt.drew (h:FSt w m X cs zs mv wx):FSt w m X cs zs mv wx.drew:=⟨h.x.drew,h.z.drew,h.c,h.b.drew,h.le⟩
end
theorem wpSeq_store {P:Program} {Q:Exit→Act→World→Prop} {op:Oper} {a:Act} {w:World} (ty:TypeId) (x y:Operand) (ho:op.op=.store ty x y) (b o:Nat) (cells:Array Value) (hx:a.eval x=.pointer (some ⟨b,o,none⟩)) (hy:a.eval y=.agg cells)
  (ht:w.there b o cells.size) (hi:(P.info? ty).map (·.size)=some cells.size) (h1:cells.all (·.oneCell')=true) (h:Q .normal (a.put op.dst undef) (w.setCells b o cells.toList)):wpSeq P Q [op] a w :=
 fun K' hK=>wp_store_mid ty x y ho b o cells hx hy ht hi h1 (hK _ _ h)
end Go.Proofs.YthagnjokdnnmpaaGreat
