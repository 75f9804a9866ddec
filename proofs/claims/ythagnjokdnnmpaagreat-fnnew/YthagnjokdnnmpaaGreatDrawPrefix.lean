import Derived.Test.YthagnjokdnnmpaaGreatMerged3
set_option linter.unusedVariables false
set_option linter.unusedSimpArgs false
set_option maxRecDepth 100000
set_option maxHeartbeats 8000000
namespace Go.Proofs.YthagnjokdnnmpaaGreat
open Go.RowKit Go.PlainAid
def In64 (r:Int):Prop:=-9223372036854775808≤r∧r≤9223372036854775807
theorem drawEdge_any (B:Nat) (a:Option Addr) (len cap:Nat) (size:Int) (w:World) (hl:len≤1048576) (hs:Src w B a len cap size) :
  Calls Tryz.prog 33 #[.pointer (some ⟨B,0,none⟩)] w fun e w'=>∃ r,e=.returned (.int .i64 r)∧In64 r∧Src w' B a len cap size∧w.grownBy w' (some B):=by
 have hB:B < w.heap.size:=by obtain ⟨_,_,_,h⟩:=hs; exact World.block_lt_of_cell? w _ h.cb
 have HS:Hid (Src w B a len cap size):=hs;clear hs;go_enter Tryz.func33,Tryz.ntmps33
 go_wp2_with fail
 refine (drawN_more 14 B a len cap size _ (by omega) (by omega) hl (HS.out.kept (World.grownBy_alloc _ _ none) (by simp))).mono ?_;rintro e w1 ⟨q,rfl,q0,q1,hs1,hg1⟩;obtain ⟨k,rfl⟩:=Int.eq_ofNat_of_zero_le q0;have hc:∃ r,w1.cell? ⟨w.heap.size,k,none⟩=some (.int .i64 r)∧In64 r:=by
  have hk:k < 14:=by omega
  match k,hk with
  | 0,_=>exact ⟨_,hg1.cell ((World.cell?_alloc_mark w _ _ _ 0).trans rfl) (by simp; omega),by unfold In64; omega⟩
  | 1,_=>exact ⟨_,hg1.cell ((World.cell?_alloc_mark w _ _ _ 1).trans rfl) (by simp; omega),by unfold In64; omega⟩
  | 2,_=>exact ⟨_,hg1.cell ((World.cell?_alloc_mark w _ _ _ 2).trans rfl) (by simp; omega),by unfold In64; omega⟩
  | 3,_=>exact ⟨_,hg1.cell ((World.cell?_alloc_mark w _ _ _ 3).trans rfl) (by simp; omega),by unfold In64; omega⟩
  | 4,_=>exact ⟨_,hg1.cell ((World.cell?_alloc_mark w _ _ _ 4).trans rfl) (by simp; omega),by unfold In64; omega⟩
  | 5,_=>exact ⟨_,hg1.cell ((World.cell?_alloc_mark w _ _ _ 5).trans rfl) (by simp; omega),by unfold In64; omega⟩
  | 6,_=>exact ⟨_,hg1.cell ((World.cell?_alloc_mark w _ _ _ 6).trans rfl) (by simp; omega),by unfold In64; omega⟩
  | 7,_=>exact ⟨_,hg1.cell ((World.cell?_alloc_mark w _ _ _ 7).trans rfl) (by simp; omega),by unfold In64; omega⟩
  | 8,_=>exact ⟨_,hg1.cell ((World.cell?_alloc_mark w _ _ _ 8).trans rfl) (by simp; omega),by unfold In64; omega⟩
  | 9,_=>exact ⟨_,hg1.cell ((World.cell?_alloc_mark w _ _ _ 9).trans rfl) (by simp; omega),by unfold In64; omega⟩
  | 10,_=>exact ⟨_,hg1.cell ((World.cell?_alloc_mark w _ _ _ 10).trans rfl) (by simp; omega),by unfold In64; omega⟩
  | 11,_=>exact ⟨_,hg1.cell ((World.cell?_alloc_mark w _ _ _ 11).trans rfl) (by simp; omega),by unfold In64; omega⟩
  | 12,_=>exact ⟨_,hg1.cell ((World.cell?_alloc_mark w _ _ _ 12).trans rfl) (by simp; omega),by unfold In64; omega⟩
  | 13,_=>exact ⟨_,hg1.cell ((World.cell?_alloc_mark w _ _ _ 13).trans rfl) (by simp; omega),by unfold In64; omega⟩
 obtain ⟨r,hc,hr⟩:=hc;have H1:Hid (In64 r∧Src w1 B a len cap size∧w.grownBy w1 (some B)):=⟨hr,hs1,grown_trans (World.grownBy_alloc _ _ _) hg1⟩;clear hr hs1 hg1;go_wp2
 go_ret;exact ⟨r,rfl,H1.out.1,H1.out.2.1,H1.out.2.2⟩
theorem andNot_byte (x y:Int):0≤bits .andNot .u8 x y∧bits .andNot .u8 x y≤255:=by
 have h:bits .andNot .u8 x y=IntKind.u8.wrap _:=rfl;rw [h,IntKind.wrap_u8]; omega
theorem specCutP_any (s:ByteArray) (n:Int) (w:World) (hs:s.size≤1000) (hn0:0≤n) (hn:n≤1000000) :
  Calls Tryz.prog 76 #[.string s,.int .i64 n] w fun e w'=>∃ u:ByteArray,e=.returned (.string u)∧u.size=s.size∧Below w.heap.size w w':=by
 obtain ⟨cp,W2,hcv,hh,hb2,_⟩:=bytes_new w s;have HR:Hid (RowB W2 w.heap.size s.size):=⟨fun i hi=>⟨bt s i,bt_nonneg s i,bt_le s i,(hh.get i hi).1,(hh.get i hi).2⟩⟩;have HB:Hid (Below w.heap.size w W2):=hb2;clear hh hb2;obtain ⟨m,rfl⟩:=Int.eq_ofNat_of_zero_le hn0;have hs2:s.size≤1048576:=by omega
 go_enter Tryz.func76,Tryz.ntmps76
 go_wp2_with fail
 go_loopw [6] (fun c wr=>∃ k:Nat,k≤1000000∧c=.int .i64 k∧RowB wr w.heap.size s.size∧Below w.heap.size w wr) (fun c _=>8*s.size-(intOf c).toNat)
 case atStart=>exact ⟨m,by omega,rfl,HR.out,HB.out⟩
 case round =>
  obtain ⟨k,hk,rfl,hrow,hbel⟩:=hrel;have H1:Hid (RowB wr w.heap.size s.size∧Below w.heap.size w wr):=⟨hrow,hbel⟩;clear hrow hbel HR HB;by_cases hlt:k < 8*s.size
  ·obtain ⟨x,x0,x1,hc,hf⟩:=H1.out.1.get (k / 8) (by omega);go_wp2_with (go_at_call 109; refine (specBits_any s _ hs2).mono ?_; rintro e wr ⟨rfl,rfl⟩)
   go_roundw
   case rel=>exact ⟨k+1,by omega,by go_num,H1.out.1.set _ _ (andNot_byte _ _).1 (andNot_byte _ _).2,H1.out.2.setCell (Nat.le_refl _) _⟩
   case measure=>simp [intOf]; omega
  ·obtain ⟨u,hu,hcv2⟩:=H1.out.1.conv (cap:=cp)
   have HU:Hid (u.size=s.size):=hu;clear hu;go_wp2_with (go_at_call 109; refine (specBits_any s _ hs2).mono ?_; rintro e wr ⟨rfl,rfl⟩)
   go_ret;exact ⟨u,rfl,HU.out,H1.out.2⟩
structure BoxP (w:World) (P:Nat) (s:ByteArray) (b:Int):Prop where
 c0:w.cell? ⟨P,0,none⟩=some (.string s)
 c1:w.cell? ⟨P,1,none⟩=some (.int .i64 b)
 f0:w.frozen? ⟨P,0,none⟩=false
 f1:w.frozen? ⟨P,1,none⟩=false
section
variable {w wx wy:World} {B P:Nat} {s:ByteArray} {b:Int} {a:Option Addr} {len cap:Nat} {size:Int}
theorem BoxP.new (w:World) (s:ByteArray) (b:Int) (t:TypeId):BoxP (w.alloc (.cells #[.string s,.int .i64 b] t)) w.heap.size s b:=⟨by simp,by simp,by simp,by simp⟩
theorem BoxP.lt (h:BoxP w P s b):P < w.heap.size:=World.block_lt_of_cell? w _ h.c0
theorem BoxP.kept {row:Option Nat} (h:BoxP wx P s b) (hg:wx.grownBy wy row) (hr:some P≠row):BoxP wy P s b :=
 have hb:=hg.block P h.lt hr;⟨hg.cell h.c0 hr,hg.cell h.c1 hr,(World.frozen?_of_block (a:=⟨P,0,none⟩) hb).trans h.f0,(World.frozen?_of_block (a:=⟨P,1,none⟩) hb).trans h.f1⟩
theorem BoxP.set0 (h:BoxP wx P s b) (u:ByteArray):BoxP (wx.setCell ⟨P,0,none⟩ (.string u)) P u b :=
 ⟨World.cell?_setCell_same _ _ _ h.c0,(World.cell?_setCell_other _ _ _ _ (by simp)).trans h.c1,by rw [World.frozen?_setCell]; exact h.f0,by rw [World.frozen?_setCell]; exact h.f1⟩
theorem BoxP.set1 (h:BoxP wx P s b) (n:Int):BoxP (wx.setCell ⟨P,1,none⟩ (.int .i64 n)) P s n :=
 ⟨(World.cell?_setCell_other _ _ _ _ (by simp)).trans h.c0,World.cell?_setCell_same _ _ _ h.c1,by rw [World.frozen?_setCell]; exact h.f0,by rw [World.frozen?_setCell]; exact h.f1⟩
end
theorem drawPrefix_any (six:Bool) (B:Nat) (a:Option Addr) (len cap:Nat) (size:Int) (w:World) (hl:len≤1048576) (hs:Src w B a len cap size) :
  Calls Tryz.prog 74 #[.pointer (some ⟨B,0,none⟩),.bool six] w fun e w'=>∃ (s:ByteArray) (b:Int),e=.returned (.agg #[.string s,.int .i64 b])∧s.size≤16∧In64 b∧Src w' B a len cap size∧w.grownBy w' (some B):=by
 have H0:Hid (Dr w B a len cap size (w.alloc (.cells #[.string ⟨#[]⟩,.int .i64 0] 30))):=(Dr.start hs).alloc _;have P0:Hid (BoxP (w.alloc (.cells #[.string ⟨#[]⟩,.int .i64 0] 30)) w.heap.size ⟨#[]⟩ 0):=BoxP.new w _ _ _;clear hs;go_enter Tryz.func74,Tryz.ntmps74
 go_wp2_with fail
 refine (drawAddr_any six B a len cap size _ hl H0.out.src).mono ?_;rintro e w1 ⟨s,rfl,hz,hs1,hg1⟩;have H1:Hid (Dr w B a len cap size w1):=H0.out.draw hs1 hg1;have P1:Hid (BoxP w1 w.heap.size ⟨#[]⟩ 0):=P0.out.kept hg1 (by have:=H0.out.hB; simp; omega);have hz16:s.size≤16:=by rw [hz]; cases six<;>simp
 clear hs1 hg1 H0 P0 hz;have hs2:s.size≤1048576:=by omega
 go_wp2_with fail
 refine (specBits_any s _ hs2).mono ?_;rintro e w1 ⟨rfl,rfl⟩;go_wp2_with fail
 refine (drawN_any (8*(s.size:Int)+1) B a len cap size _ (by omega) hl H1.out.src).mono ?_;rintro e w2 ⟨n,rfl,n0,n1,hs2',hg2⟩;have H2:Hid (Dr w B a len cap size w2):=H1.out.draw hs2' hg2;have P2:Hid (BoxP w2 w.heap.size ⟨#[]⟩ 0):=P1.out.kept hg2 (by have:=H1.out.hB; simp; omega);clear hs2' hg2 H1 P1;go_wp2_with fail
 refine (drawOne_any 2 B a len cap size _ (by omega) hl H2.out.src).mono ?_;rintro e w3 ⟨c,rfl,hs3,hg3⟩;have H3:Hid (Dr w B a len cap size w3):=H2.out.draw hs3 hg3;have P3:Hid (BoxP w3 w.heap.size ⟨#[]⟩ 0):=P2.out.kept hg3 (by have:=H2.out.hB; simp; omega);clear hs3 hg3 H2 P2;go_upto_if 17 with fail
 go_cut [6] (fun v wx=>∃ n:Int,v=.int .i64 n∧0≤n∧n≤8*(s.size:Int)+4∧Dr w B a len cap size wx∧BoxP wx w.heap.size ⟨#[]⟩ 0)
 case first =>
  cases c
  ·go_wp2
   all_goals go_meet
   all_goals exact ⟨n,rfl,n0,by omega,H3.out,P3.out⟩
  ·go_wp2_with fail
   refine (specBits_any s _ hs2).mono ?_;rintro e w3 ⟨rfl,rfl⟩;go_wp2_with fail
   refine (drawN_any (8*(s.size:Int) / 4+1) B a len cap size _ (by omega) hl H3.out.src).mono ?_;rintro e w4 ⟨n,rfl,n0,n1,hs4,hg4⟩;have H4:Hid (Dr w B a len cap size w4):=H3.out.draw hs4 hg4;have P4:Hid (BoxP w4 w.heap.size ⟨#[]⟩ 0):=P3.out.kept hg4 (by have:=H3.out.hB; simp; omega);clear hs4 hg4 H3 P3;go_wp2
   all_goals go_meet
   all_goals exact ⟨4*n,rfl,by omega,by omega,H4.out,P4.out⟩
 case rest =>
 clear n0 n1;obtain ⟨n,rfl,n0,n1,h4,p4⟩:=hcut;have H4:Hid _:=h4;have P4:Hid _:=p4;clear h4 p4 H3 P3;go_wp2_with fail
 refine (specCutP_any s n _ (by omega) n0 (by omega)).mono ?_;rintro e w5 ⟨u,rfl,hu,q5⟩;have H5:Hid (Dr w B a len cap size w5):=H4.out.below q5;have P5:Hid (BoxP w5 w.heap.size ⟨#[]⟩ 0):=P4.out.kept (grown_of_below (r:=none) q5) (by simp);have hu16:u.size≤16:=by omega
 clear q5 H4 P4 hu;have H6:Hid (Dr w B a len cap size (w5.alloc (.cells #[.string u,.int .i64 n] 30))):=H5.out.alloc _;have P6:Hid (BoxP (w5.alloc (.cells #[.string u,.int .i64 n] 30)) w.heap.size ⟨#[]⟩ 0):=P5.out.kept (World.grownBy_alloc _ _ none) (by simp);have Q6:Hid (BoxP (w5.alloc (.cells #[.string u,.int .i64 n] 30)) w5.heap.size u n):=BoxP.new _ _ _ _;have hQ:w.heap.size < w5.heap.size:=P5.out.lt;go_wp2_with fail
 refine (drawOne_any 25 B a len cap size _ (by omega) hl H6.out.src).mono ?_;rintro e w6 ⟨c,rfl,hs6,hg6⟩;have hBw:=H6.out.hB;have H7:Hid (Dr w B a len cap size w6):=H6.out.draw hs6 hg6;have P7:Hid (BoxP w6 w.heap.size ⟨#[]⟩ 0):=P6.out.kept hg6 (by simp; omega);have Q7:Hid (BoxP w6 w5.heap.size u n):=Q6.out.kept hg6 (by simp; omega);clear hs6 hg6 H5 P5 H6 P6 Q6;go_upto_if 31 with fail
 go_cut [] (fun wx=>∃ (u:ByteArray) (n:Int),u.size≤16∧In64 n∧Dr w B a len cap size wx∧BoxP wx w.heap.size ⟨#[]⟩ 0∧BoxP wx w5.heap.size u n)
 case first =>
  cases c
  ·go_wp2
   all_goals go_meet
   all_goals exact ⟨u,n,hu16,by unfold In64; omega,H7.out,P7.out,Q7.out⟩
  ·go_wp2_with fail
   refine (drawN_more 3 B a len cap size _ (by omega) (by omega) hl H7.out.src).mono ?_;rintro e w7 ⟨k,rfl,k0,k1,hs7,hg7⟩;have H8:Hid (Dr w B a len cap size w7):=H7.out.draw hs7 hg7;have P8:Hid (BoxP w7 w.heap.size ⟨#[]⟩ 0):=P7.out.kept hg7 (by simp; omega);have Q8:Hid (BoxP w7 w5.heap.size u n):=Q7.out.kept hg7 (by simp; omega);clear hs7 hg7 H7 P7 Q7;by_cases k00:k=0
   ·subst k00;go_wp2_with fail
    refine (drawEdge_any B a len cap size _ hl H8.out.src).mono ?_;rintro e w8 ⟨r,rfl,hr,hs8,hg8⟩;have H9:Hid (Dr w B a len cap size (w8.alloc (.cells #[.int .i64 (-1),.int .i64 33,.int .i64 129,.int .i64 r] 2))):=(H8.out.draw hs8 hg8).alloc _;have P9:Hid (BoxP (w8.alloc (.cells #[.int .i64 (-1),.int .i64 33,.int .i64 129,.int .i64 r] 2)) w.heap.size ⟨#[]⟩ 0):=(P8.out.kept hg8 (by simp; omega)).kept (World.grownBy_alloc _ _ none) (by simp);have Q9:Hid (BoxP (w8.alloc (.cells #[.int .i64 (-1),.int .i64 33,.int .i64 129,.int .i64 r] 2)) w5.heap.size u n):=(Q8.out.kept hg8 (by simp; omega)).kept (World.grownBy_alloc _ _ none) (by simp);have hw8:w.heap.size≤w8.heap.size:=(H8.out.draw hs8 hg8).le;have Hr:Hid (In64 r):=hr;clear hs8 hg8 H8 P8 Q8 hr;go_wp2_with fail
    refine (drawN_more 4 B a len cap size _ (by omega) (by omega) hl H9.out.src).mono ?_;rintro e w9 ⟨q,rfl,q0,q1,hs9,hg9⟩;obtain ⟨q,rfl⟩:=Int.eq_ofNat_of_zero_le q0;have hc:∃ r2,w9.cell? ⟨w8.heap.size,q,none⟩=some (.int .i64 r2)∧In64 r2:=by
     have hk:q < 4:=by omega
     match q,hk with
     | 0,_=>exact ⟨_,hg9.cell ((World.cell?_alloc_mark w8 _ _ _ 0).trans rfl) (by simp; omega),by unfold In64; omega⟩
     | 1,_=>exact ⟨_,hg9.cell ((World.cell?_alloc_mark w8 _ _ _ 1).trans rfl) (by simp; omega),by unfold In64; omega⟩
     | 2,_=>exact ⟨_,hg9.cell ((World.cell?_alloc_mark w8 _ _ _ 2).trans rfl) (by simp; omega),by unfold In64; omega⟩
     | 3,_=>exact ⟨_,hg9.cell ((World.cell?_alloc_mark w8 _ _ _ 3).trans rfl) (by simp; omega),Hr.out⟩
    obtain ⟨r2,hc,hr2⟩:=hc;have Hr2:Hid (In64 r2):=hr2;have H10:Hid (Dr w B a len cap size w9):=H9.out.draw hs9 hg9;have P10:Hid (BoxP w9 w.heap.size ⟨#[]⟩ 0):=P9.out.kept hg9 (by simp; omega);have Q10:Hid (BoxP w9 w5.heap.size u n):=Q9.out.kept hg9 (by simp; omega);clear hs9 hg9 H9 P9 Q9 hr2;obtain ⟨d0,d1,g0,g1⟩:=Q10.out;have R1:Hid (Dr w B a len cap size (w9.setCell ⟨w5.heap.size,1,none⟩ (.int .i64 r2))∧BoxP (w9.setCell ⟨w5.heap.size,1,none⟩ (.int .i64 r2)) w.heap.size ⟨#[]⟩ 0∧BoxP (w9.setCell ⟨w5.heap.size,1,none⟩ (.int .i64 r2)) w5.heap.size u r2) :=
     ⟨H10.out.set _ _ _ (by omega),P10.out.kept (grown_cell _ _ _ _) (by simp; omega),Q10.out.set1 r2⟩
    clear H10 P10 Q10;go_wp2
    all_goals go_meet
    all_goals exact ⟨u,r2,hu16,Hr2.out,R1.out.1,R1.out.2.1,R1.out.2.2⟩
   ·by_cases k11:k=1
    ·subst k11;obtain ⟨d0,d1,g0,g1⟩:=Q8.out;have R1:Hid (Dr w B a len cap size (w7.setCell ⟨w5.heap.size,0,none⟩ (.string s))∧BoxP (w7.setCell ⟨w5.heap.size,0,none⟩ (.string s)) w.heap.size ⟨#[]⟩ 0∧BoxP (w7.setCell ⟨w5.heap.size,0,none⟩ (.string s)) w5.heap.size s n) :=
      ⟨H8.out.set _ _ _ (by omega),P8.out.kept (grown_cell _ _ _ _) (by simp; omega),Q8.out.set0 s⟩
     clear H8 P8 Q8;go_wp2
     all_goals go_meet
     all_goals exact ⟨s,n,hz16,by unfold In64; omega,R1.out.1,R1.out.2.1,R1.out.2.2⟩
    ·have k2:k=2:=by omega
     subst k2;obtain ⟨d0,d1,g0,g1⟩:=Q8.out;have R1:Hid (Dr w B a len cap size (w7.setCell ⟨w5.heap.size,0,none⟩ (.string ⟨#[120]⟩))∧BoxP (w7.setCell ⟨w5.heap.size,0,none⟩ (.string ⟨#[120]⟩)) w.heap.size ⟨#[]⟩ 0∧BoxP (w7.setCell ⟨w5.heap.size,0,none⟩ (.string ⟨#[120]⟩)) w5.heap.size ⟨#[120]⟩ n) :=
      ⟨H8.out.set _ _ _ (by omega),P8.out.kept (grown_cell _ _ _ _) (by simp; omega),Q8.out.set0 _⟩
     clear H8 P8 Q8;go_wp2
     all_goals go_meet
     all_goals exact ⟨⟨#[120]⟩,n,by decide,by unfold In64; omega,R1.out.1,R1.out.2.1,R1.out.2.2⟩
 case rest =>
 obtain ⟨u,n,hu,hn,h9,p9,q9⟩:=hcut;obtain ⟨d0,d1,g0,g1⟩:=q9;obtain ⟨e0,e1,j0,j1⟩:=p9;have H9:Hid (Dr w B a len cap size wc∧u.size≤16∧In64 n):=⟨h9,hu,hn⟩;clear h9 hu hn H7 P7 Q7;go_wp2
 refine bodyPost_ret (v:=.agg #[.string u,.int .i64 n]) (by simp [results,Tryz.results74,go_sem,d0,d1,e0,e1,j0,j1]) rfl ⟨u,n,rfl,H9.out.2.1,H9.out.2.2,?_⟩;have H10:=(H9.out.1.set w.heap.size 0 (.string u) (Nat.le_refl _)).set w.heap.size 1 (.int .i64 n) (Nat.le_refl _);exact ⟨H10.src,H10.grown⟩
theorem drawNatPrefix_any (B:Nat) (a:Option Addr) (len cap:Nat) (size:Int) (w:World) (hl:len≤1048576) (hs:Src w B a len cap size) :
  Calls Tryz.prog 32 #[.pointer (some ⟨B,0,none⟩)] w fun e w'=>∃ (s:ByteArray) (b:Int),e=.returned (.agg #[.string s,.int .i64 b])∧s.size≤16∧In64 b∧Src w' B a len cap size∧w.grownBy w' (some B):=by
 have H0:Hid (Dr w B a len cap size (w.alloc (.cells #[.string ⟨#[]⟩,.int .i64 0] 30))):=(Dr.start hs).alloc _;have P0:Hid (BoxP (w.alloc (.cells #[.string ⟨#[]⟩,.int .i64 0] 30)) w.heap.size ⟨#[]⟩ 0):=BoxP.new w _ _ _;clear hs;have hBw:=H0.out.hB;go_enter Tryz.func32,Tryz.ntmps32
 go_wp2_with fail
 refine (drawOne_any 15 B a len cap size _ (by omega) hl H0.out.src).mono ?_;rintro e w1 ⟨c,rfl,hs1,hg1⟩;have H1:Hid (Dr w B a len cap size w1):=H0.out.draw hs1 hg1;have P1:Hid (BoxP w1 w.heap.size ⟨#[]⟩ 0):=P0.out.kept hg1 (by simp; omega);clear hs1 hg1 H0 P0
 cases c
 ·have H2:Hid (Dr w B a len cap size (w1.alloc (.cells #[.int .i64 32,.int .i64 40,.int .i64 48,.int .i64 56,.int .i64 64,.int .i64 96] 2))):=H1.out.alloc _;have P2:Hid (BoxP (w1.alloc (.cells #[.int .i64 32,.int .i64 40,.int .i64 48,.int .i64 56,.int .i64 64,.int .i64 96] 2)) w.heap.size ⟨#[]⟩ 0):=P1.out.kept (World.grownBy_alloc _ _ none) (by simp);have hw1:w.heap.size≤w1.heap.size:=H1.out.le;clear H1 P1;go_wp2_with fail
  refine (drawN_more 6 B a len cap size _ (by omega) (by omega) hl H2.out.src).mono ?_;rintro e w2 ⟨q,rfl,q0,q1,hs2,hg2⟩;obtain ⟨q,rfl⟩:=Int.eq_ofNat_of_zero_le q0;have hc:∃ r,w2.cell? ⟨w1.heap.size,q,none⟩=some (.int .i64 r)∧0≤r∧r≤96:=by
   have hk:q < 6:=by omega
   match q,hk with
   | 0,_=>exact ⟨_,hg2.cell ((World.cell?_alloc_mark w1 _ _ _ 0).trans rfl) (by simp; omega),by omega,by omega⟩
   | 1,_=>exact ⟨_,hg2.cell ((World.cell?_alloc_mark w1 _ _ _ 1).trans rfl) (by simp; omega),by omega,by omega⟩
   | 2,_=>exact ⟨_,hg2.cell ((World.cell?_alloc_mark w1 _ _ _ 2).trans rfl) (by simp; omega),by omega,by omega⟩
   | 3,_=>exact ⟨_,hg2.cell ((World.cell?_alloc_mark w1 _ _ _ 3).trans rfl) (by simp; omega),by omega,by omega⟩
   | 4,_=>exact ⟨_,hg2.cell ((World.cell?_alloc_mark w1 _ _ _ 4).trans rfl) (by simp; omega),by omega,by omega⟩
   | 5,_=>exact ⟨_,hg2.cell ((World.cell?_alloc_mark w1 _ _ _ 5).trans rfl) (by simp; omega),by omega,by omega⟩
  obtain ⟨r,hc,hr0,hr1⟩:=hc;have H3:Hid (Dr w B a len cap size w2):=H2.out.draw hs2 hg2;have P3:Hid (BoxP w2 w.heap.size ⟨#[]⟩ 0):=P2.out.kept hg2 (by simp; omega);clear hs2 hg2 H2 P2;go_wp2_with fail
  refine (drawAddr_any true B a len cap size _ hl H3.out.src).mono ?_;rintro e w3 ⟨s,rfl,hz,hs3,hg3⟩;have H4:Hid (Dr w B a len cap size w3):=H3.out.draw hs3 hg3;have P4:Hid (BoxP w3 w.heap.size ⟨#[]⟩ 0):=P3.out.kept hg3 (by simp; omega);have hz16:s.size≤16:=by rw [hz]; simp
  clear hs3 hg3 H3 P3 hz hc;go_wp2_with fail
  refine (specCutP_any s r _ (by omega) hr0 (by omega)).mono ?_;rintro e w5 ⟨u,rfl,hu,q5⟩;have H5:Hid (Dr w B a len cap size w5):=H4.out.below q5;obtain ⟨e0,e1,j0,j1⟩:=P4.out.kept (grown_of_below (r:=none) q5) (by simp);have hu16:u.size≤16:=by omega
  clear q5 H4 P4 hu;go_wp2
  refine bodyPost_ret (v:=.agg #[.string u,.int .i64 r]) (by simp [results,Tryz.results32,go_sem,e0,e1,j0,j1]) rfl ⟨u,r,rfl,hu16,by unfold In64; omega,?_⟩;have H10:=(H5.out.set w.heap.size 0 (.string u) (Nat.le_refl _)).set w.heap.size 1 (.int .i64 r) (Nat.le_refl _);exact ⟨H10.src,H10.grown⟩
 ·go_wp2_with fail
  refine (drawOne_any 2 B a len cap size _ (by omega) hl H1.out.src).mono ?_;rintro e w2 ⟨c,rfl,hs2,hg2⟩;have H2:Hid (Dr w B a len cap size w2):=H1.out.draw hs2 hg2;have P2:Hid (BoxP w2 w.heap.size ⟨#[]⟩ 0):=P1.out.kept hg2 (by simp; omega);clear hs2 hg2 H1 P1;go_wp2_with fail
  refine (drawPrefix_any c B a len cap size _ hl H2.out.src).mono ?_;rintro e w3 ⟨u,r,rfl,hu16,hr,hs3,hg3⟩;have H3:Hid (Dr w B a len cap size w3∧In64 r):=⟨H2.out.draw hs3 hg3,hr⟩;obtain ⟨e0,e1,j0,j1⟩:=P2.out.kept hg3 (by simp; omega);clear hs3 hg3 H2 P2 hr;go_wp2
  refine bodyPost_ret (v:=.agg #[.string u,.int .i64 r]) (by simp [results,Tryz.results32,go_sem,e0,e1,j0,j1]) rfl ⟨u,r,rfl,hu16,H3.out.2,?_⟩;have H10:=(H3.out.1.set w.heap.size 0 (.string u) (Nat.le_refl _)).set w.heap.size 1 (.int .i64 r) (Nat.le_refl _);exact ⟨H10.src,H10.grown⟩
end Go.Proofs.YthagnjokdnnmpaaGreat
