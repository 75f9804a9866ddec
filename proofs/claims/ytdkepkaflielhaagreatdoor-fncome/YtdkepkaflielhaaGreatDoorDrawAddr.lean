import Derived.Test.YtdkepkaflielhaaGreatDoorSz
import Derived.Test.YtdkepkaflielhaaGreatDoorAb
import Derived.Test.YtdkepkaflielhaaGreatDoorDrawBytes
import Derived.Laws.IdiomStrings
set_option linter.unusedVariables false
set_option linter.unusedSimpArgs false
set_option maxRecDepth 100000
set_option maxHeartbeats 8000000
namespace Go.Proofs.YtdkepkaflielhaaGreatDoor
open Go.RowKit
structure RowB (w:World) (R n:Nat):Prop where
 get:∀ i,i < n→∃ x:Int,0≤x∧x≤255∧w.cell? ⟨R,i,none⟩=some (.int .u8 x)∧w.frozen? ⟨R,i,none⟩=false
theorem RowB.kept {w w':World} {R n:Nat} {row:Option Nat} (h:RowB w R n) (hg:w.grownBy w' row) (hr:some R≠row):RowB w' R n :=
 ⟨fun i hi=>by
  obtain ⟨x,h0,h1,hc,hf⟩:=h.get i hi;have hlt:=World.block_lt_of_cell? w _ hc;exact ⟨x,h0,h1,hg.cell hc hr,(World.frozen?_of_block (a:=⟨R,i,none⟩) (hg.block R hlt hr)).trans hf⟩⟩
theorem RowB.set {w:World} {R n:Nat} (h:RowB w R n) (j:Nat) (x:Int) (h0:0≤x) (h1:x≤255):RowB (w.setCell ⟨R,j,none⟩ (.int .u8 x)) R n :=
 ⟨fun i hi=>by
  obtain ⟨y,y0,y1,hc,hf⟩:=h.get i hi;by_cases e:i=j
  ·subst e; exact ⟨x,h0,h1,World.cell?_setCell_same _ _ _ hc,by rw [World.frozen?_setCell]; exact hf⟩
  ·exact ⟨y,y0,y1,(World.cell?_setCell_other _ _ _ _ (fun e2=>e (by injection e2 with _ h2; exact h2.symm))).trans hc,by rw [World.frozen?_setCell]; exact hf⟩⟩
theorem RowB.conv {w:World} {R n cap:Nat} (h:RowB w R n):∃ s:ByteArray,s.size=n ∧
  (convert 22 9 (.slice (some ⟨R,0,none⟩) n cap)).run Tryz.prog w=.ok (.string s) w:=by
 have hl:∃ l:List UInt8,l.length=n∧∀ j (hj:j < l.length),w.cell? ⟨R,j,none⟩=some (.int .u8 (l[j].toNat:Int)):=by
  clear cap;induction n with
  | zero=>exact ⟨[],rfl,fun j hj=>by simp at hj⟩
  | succ n ih =>
   obtain ⟨l,e,hc⟩:=ih ⟨fun i hi=>h.get i (by omega)⟩;obtain ⟨x,x0,x1,hx,_⟩:=h.get n (by omega);refine ⟨l++[UInt8.ofNat x.toNat],by simp [e],fun j hj=>?_⟩;by_cases hjl:j < l.length
   ·rw [List.getElem_append_left hjl]; exact hc j hjl
   ·have hjn:j=n:=by simp at hj; omega
    subst hjn;rw [List.getElem_append_right (by omega)];simp only [e,Nat.sub_self,List.getElem_cons_zero,UInt8.toNat_ofNat'];rw [hx]; congr 2; omega
 obtain ⟨l,e,hc⟩:=hl;subst e;refine ⟨⟨l.toArray⟩,by simp [ByteArray.size],run_convert_bytes_back (P:=Tryz.prog) w 22 9 5 ⟨R,0,none⟩ cap l Tryz.underlying22 Tryz.underlying5 Tryz.underlying9 (fun j hj=>?_)⟩;have ha:Addr.add ⟨R,0,none⟩ j=⟨R,j,none⟩:=by simp only [Addr.add,Nat.zero_add]; split<;>simp_all
 rw [ha]; exact hc j hj
section
variable {w wx:World} {B R:Nat}
theorem grown_new {v:Value} {j:Nat} (h:w.grownBy wx (some B)) (hR:w.heap.size≤R):w.grownBy (wx.setCell ⟨R,j,none⟩ v) (some B) :=
 ⟨h.os,h.tape,h.output,by rw [World.size_setCell]; exact h.size,fun k hk hne=>(Below.heap_setCell wx _ v k (show k≠R by omega)).trans (h.block k hk hne)⟩
theorem grown_cell (wx:World) (R j:Nat) (v:Value):wx.grownBy (wx.setCell ⟨R,j,none⟩ v) (some R):=grown_set (World.grownBy.refl _ _) v
end
theorem drawPick_any (p:ByteArray→Prop) (R n c:Nat) (B:Nat) (a:Option Addr) (len cap:Nat) (size:Int) (w:World) (hn:1≤n) (hn2:n≤1000) (hRB:R≠B)
  (hp:∀ i,i < n→∃ s,w.cell? ⟨R,i,none⟩=some (.string s)∧p s) (hl:len≤1048576) (hs:Src w B a len cap size) :
  Calls Tryz.prog 127 #[.pointer (some ⟨B,0,none⟩),.slice (some ⟨R,0,none⟩) n c] w fun e w'=>∃ s,e=.returned (.string s)∧p s∧Src w' B a len cap size∧w.grownBy w' (some B):=by
 have HS:Hid (Src w B a len cap size):=hs;have HP:Hid (∀ i,i < n→∃ s,w.cell? ⟨R,i,none⟩=some (.string s)∧p s):=hp;clear hs hp;go_enter Tryz.func127,Tryz.ntmps127
 go_wp2_with fail
 refine (drawN_any n B a len cap size _ (by omega) hl HS.out).mono ?_;rintro e w1 ⟨r,rfl,r0,r1,hs1,hg1⟩;obtain ⟨k,rfl⟩:=Int.eq_ofNat_of_zero_le r0;have hk:k < n:=by omega
 obtain ⟨s,hc,hps⟩:=HP.out k hk;have hc1:w1.cell? ⟨R,k,none⟩=some (.string s):=hg1.cell hc (by simpa using hRB);have H1:Hid (Src w1 B a len cap size∧w.grownBy w1 (some B)∧p s):=⟨hs1,hg1,hps⟩;clear hs1 hg1 hps hc r1;go_wp2
 go_ret;exact ⟨s,rfl,H1.out.2.2,H1.out.1,H1.out.2.1⟩
theorem mk16 (w:World):(Instr.makeSlice 22 (iV 16) (iV 16)).run Tryz.prog w=.ok (.slice (some ⟨w.heap.size,0,none⟩) 16 16) (w.alloc (.cells (Array.replicate 16 (.int .u8 0)) 5)):=by kernel_rfl
theorem rowB_new (w:World):RowB (w.alloc (.cells (Array.replicate 16 (.int .u8 0)) 5)) w.heap.size 16 :=
 ⟨fun i hi=>⟨0,by omega,by omega,by simp [hi],by simp⟩⟩
theorem drawAddr4_any (B:Nat) (a:Option Addr) (len cap:Nat) (size:Int) (w:World) (hl:len≤1048576) (hs:Src w B a len cap size) :
  Calls Tryz.prog 92 #[.pointer (some ⟨B,0,none⟩),.bool false] w fun e w'=>∃ s:ByteArray,e=.returned (.string s)∧s.size=4∧Src w' B a len cap size∧w.grownBy w' (some B):=by
 have hB:B < w.z:=by obtain ⟨_,_,_,h⟩:=hs; exact World.block_lt_of_cell? w _ h.cb
 have HS:Hid (Src w B a len cap size):=hs;clear hs;go_enter Tryz.func92,Tryz.ntmps92
 go_wp2_with fail
 refine (drawPick_any (fun s=>s.size=4) w.z 7 7 B a len cap size _ (by omega) (by omega) (by omega) ?_ hl (HS.out.kept (World.grownBy_alloc _ _ none) (by simp))).mono ?_
 ·intro i hi;match i,hi with
  | 0,_=>exact ⟨_,(World.cell?_alloc_mark w _ _ _ 0).trans rfl,rfl⟩
  | 1,_=>exact ⟨_,(World.cell?_alloc_mark w _ _ _ 1).trans rfl,rfl⟩
  | 2,_=>exact ⟨_,(World.cell?_alloc_mark w _ _ _ 2).trans rfl,rfl⟩
  | 3,_=>exact ⟨_,(World.cell?_alloc_mark w _ _ _ 3).trans rfl,rfl⟩
  | 4,_=>exact ⟨_,(World.cell?_alloc_mark w _ _ _ 4).trans rfl,rfl⟩
  | 5,_=>exact ⟨_,(World.cell?_alloc_mark w _ _ _ 5).trans rfl,rfl⟩
  | 6,_=>exact ⟨_,(World.cell?_alloc_mark w _ _ _ 6).trans rfl,rfl⟩
 ·rintro e w1 ⟨s,rfl,h4,hs1,hg1⟩;have H1:Hid (s.size=4∧Src w1 B a len cap size∧w.grownBy w1 (some B)):=⟨h4,hs1,grown_trans (World.grownBy_alloc _ _ _) hg1⟩;clear h4 hs1 hg1;go_wp2
  go_ret;exact ⟨s,rfl,H1.out.1,H1.out.2.1,H1.out.2.2⟩
structure StA (w:World) (B R:Nat) (a:Option Addr) (len cap:Nat) (size:Int) (wx:World):Prop where
 row:RowB wx R 16
 src:Src wx B a len cap size
 grown:w.grownBy wx (some B)
 lo:w.heap.size≤R
 hB:B < w.heap.size
section
variable {w wx wy:World} {B R:Nat} {a:Option Addr} {len cap:Nat} {size:Int}
theorem StA.set (h:StA w B R a len cap size wx) (j:Nat) (x:Int) (h0:0≤x) (h1:x≤255):StA w B R a len cap size (wx.setCell ⟨R,j,none⟩ (.int .u8 x)) :=
 ⟨h.row.set j x h0 h1,h.src.kept (grown_cell wx R j _) (fun k e=>by have:=h.lo; have:=h.hB; injection e with e; omega),grown_new h.grown h.lo,h.lo,h.hB⟩
theorem StA.draw (h:StA w B R a len cap size wx) (hs:Src wy B a len cap size) (hg:wx.grownBy wy (some B)):StA w B R a len cap size wy :=
 ⟨h.row.kept hg (fun e=>by have:=h.lo; have:=h.hB; injection e with e; omega),hs,grown_trans h.grown hg,h.lo,h.hB⟩
theorem StA.fresh (hs:Src wx B a len cap size) (hg:w.grownBy wx (some B)) (hB:B < w.heap.size):StA w B wx.heap.size a len cap size (wx.alloc (.cells (Array.replicate 16 (.int .u8 0)) 5)) :=
 ⟨rowB_new wx,hs.kept (World.grownBy_alloc _ _ none) (by simp),grown_trans hg (World.grownBy_alloc _ _ _),hg.size,hB⟩
end
theorem drawAddr16_any (B:Nat) (a:Option Addr) (len cap:Nat) (size:Int) (w:World) (hl:len≤1048576) (hs:Src w B a len cap size) :
  Calls Tryz.prog 92 #[.pointer (some ⟨B,0,none⟩),.bool true] w fun e w'=>∃ s:ByteArray,e=.returned (.string s)∧s.size=16∧Src w' B a len cap size∧w.grownBy w' (some B):=by
 have hB:B < w.z:=by obtain ⟨_,_,_,h⟩:=hs; exact World.block_lt_of_cell? w _ h.cb
 have hmk:=mk16;have HT:Hid (StA w B w.z a len cap size (w.alloc (.cells (Array.replicate 16 (.int .u8 0)) 5))):=StA.fresh hs (World.grownBy.refl _ _) hB;clear hs;go_enter Tryz.func92,Tryz.ntmps92
 go_upto_region 4 with fail
 generalize hR:w.z=R at *;generalize w.alloc (.cells (Array.replicate 16 (.int .u8 0)) 5)=W at *;obtain ⟨x0,_,_,c0,f0⟩:=HT.out.row.get 0 (by omega);obtain ⟨x1,_,_,c1,f1⟩:=HT.out.row.get 1 (by omega);have H2:Hid _:=(HT.out.set 0 32 (by omega) (by omega)).set 1 1 (by omega) (by omega);clear HT;go_wp2_with fail
 refine (drawN_more 4 B a len cap size _ (by omega) (by omega) hl H2.out.src).mono ?_;rintro e w1 ⟨r,rfl,r0,r1,hs1,hg1⟩;have H3:Hid _:=H2.out.draw hs1 hg1;obtain ⟨x2,_,_,c2,f2⟩:=H3.out.row.get 15 (by omega);have H4:Hid _:=H3.out.set 15 r r0 (by omega);clear hs1 hg1 H2 c0 c1 f0 f1 H3;go_wp2_with fail
 refine (drawN_more 4 B a len cap size _ (by omega) (by omega) hl H4.out.src).mono ?_;rintro e w2 ⟨q,rfl,q0,q1,hs2,hg2⟩;have H5:Hid (StA w B R a len cap size w2):=H4.out.draw hs2 hg2;clear hs2 hg2 H4 c2 f2;obtain ⟨m,rfl⟩:=Int.eq_ofNat_of_zero_le q0;go_wp2_with fail
 go_loopw [6] (fun c wr=>∃ k:Nat,k≤3∧c=iV k∧StA w B R a len cap size wr) (fun c _=>(intOf c).toNat)
 case atStart=>exact ⟨m,by omega,rfl,H5.out⟩
 case round =>
  obtain ⟨k,hk,rfl,hst⟩:=hrel;have H6:Hid (StA w B R a len cap size wr):=hst;clear hst H5;by_cases h0:k=0
  ·subst h0;go_wp2_with fail
   refine (drawOne_any 8 B a len cap size _ (by omega) hl H6.out.src).mono ?_;rintro e w3 ⟨b,rfl,hs3,hg3⟩;have H7:Hid (StA w B R a len cap size w3):=H6.out.draw hs3 hg3;clear hs3 hg3 H6
   cases b
   ·obtain ⟨s,hsz,hcv⟩:=H7.out.row.conv (cap:=16)
    have HZ:Hid (s.size=16):=hsz;clear hsz;go_wp2
    go_ret;exact ⟨s,rfl,HZ.out,H7.out.src,H7.out.grown⟩
   ·have H8:Hid (StA w B w3.heap.size a len cap size (w3.alloc (.cells (Array.replicate 16 (.int .u8 0)) 5))):=StA.fresh H7.out.src H7.out.grown H7.out.hB;clear H7;go_wp2_with fail
    refine (drawN_more 16 B a len cap size _ (by omega) (by omega) hl H8.out.src).mono ?_;rintro e w5 ⟨u,rfl,u0,u1,hs5,hg5⟩;have H9:Hid (StA w B w3.heap.size a len cap size w5):=H8.out.draw hs5 hg5;clear hs5 hg5 H8;go_wp2_with fail
    refine (drawN_more 2 B a len cap size _ (by omega) (by omega) hl H9.out.src).mono ?_;rintro e w6 ⟨v,rfl,v0,v1,hs6,hg6⟩;have H10:Hid (StA w B w3.heap.size a len cap size w6):=H9.out.draw hs6 hg6;clear hs6 hg6 H9;obtain ⟨u,rfl⟩:=Int.eq_ofNat_of_zero_le u0;obtain ⟨x3,_,_,c3,f3⟩:=H10.out.row.get u (by omega);have H11:Hid (StA w B w3.heap.size a len cap size (w6.setCell ⟨w3.heap.size,u,none⟩ (.int .u8 v))):=H10.out.set u v v0 (by omega);clear H10;obtain ⟨s,hsz,hcv⟩:=H11.out.row.conv (cap:=16)
    have HZ:Hid (s.size=16):=hsz;clear hsz;go_wp2
    go_ret;exact ⟨s,rfl,HZ.out,H11.out.src,H11.out.grown⟩
  ·have h0':(0:Int) < (k:Int):=by omega
   go_wp2_with fail
   refine (drawN_more 16 B a len cap size _ (by omega) (by omega) hl H6.out.src).mono ?_;rintro e w3 ⟨u,rfl,u0,u1,hs3,hg3⟩;have H7:Hid _:=H6.out.draw hs3 hg3;clear hs3 hg3 H6;go_wp2_with fail
   refine (drawN_more 256 B a len cap size _ (by omega) (by omega) hl H7.out.src).mono ?_;rintro e w4 ⟨v,rfl,v0,v1,hs4,hg4⟩;have H8:Hid _:=H7.out.draw hs4 hg4;clear hs4 hg4 H7;obtain ⟨u,rfl⟩:=Int.eq_ofNat_of_zero_le u0;obtain ⟨x3,_,_,c3,f3⟩:=H8.out.row.get u (by omega);have H9:Hid _:=H8.out.set u v v0 (by omega);clear H8;go_wp2
   go_roundw
   case rel=>exact ⟨k-1,by omega,by go_num,H9.out⟩
   case measure=>simp [intOf]; omega
theorem drawAddr_any (six:Bool) (B:Nat) (a:Option Addr) (len cap:Nat) (size:Int) (w:World) (hl:len≤1048576) (hs:Src w B a len cap size) :
  Calls Tryz.prog 92 #[.pointer (some ⟨B,0,none⟩),.bool six] w fun e w'=>∃ s:ByteArray,e=.returned (.string s)∧s.size=(if six then 16 else 4)∧Src w' B a len cap size∧w.grownBy w' (some B):=by
 cases six
 ·exact drawAddr4_any B a len cap size w hl hs
 ·exact drawAddr16_any B a len cap size w hl hs
theorem drawAny_any (B:Nat) (a:Option Addr) (len cap:Nat) (size:Int) (w:World) (hl:len≤1048576) (hs:Src w B a len cap size) :
  Calls Tryz.prog 94 #[.pointer (some ⟨B,0,none⟩)] w fun e w'=>∃ s:ByteArray,e=.returned (.string s)∧s.size≤17∧Src w' B a len cap size∧w.grownBy w' (some B):=by
 have HS:Hid (Src w B a len cap size):=hs;clear hs;go_enter Tryz.func94,Tryz.ntmps94
 go_wp2_with fail
 refine (drawOne_any 15 B a len cap size _ (by omega) hl HS.out).mono ?_;rintro e w1 ⟨b,rfl,hs1,hg1⟩;have H1:Hid (Src w1 B a len cap size∧w.grownBy w1 (some B)):=⟨hs1,hg1⟩;clear hs1 hg1 HS
 cases b
 ·go_wp2_with fail
  refine (drawOne_any 2 B a len cap size _ (by omega) hl H1.out.1).mono ?_;rintro e w2 ⟨b,rfl,hs2,hg2⟩;have H2:Hid (Src w2 B a len cap size∧w.grownBy w2 (some B)):=⟨hs2,grown_trans H1.out.2 hg2⟩;clear hs2 hg2 H1;go_wp2_with fail
  refine (drawAddr_any b B a len cap size _ hl H2.out.1).mono ?_;rintro e w3 ⟨s,rfl,h3,hs3,hg3⟩;have H3:Hid (s.size≤17∧Src w3 B a len cap size∧w.grownBy w3 (some B)):=⟨by rw [h3]; cases b<;>simp,hs3,grown_trans H2.out.2 hg3⟩;clear h3 hs3 hg3 H2;go_wp2
  go_ret;exact ⟨s,rfl,H3.out.1,H3.out.2.1,H3.out.2.2⟩
 ·go_wp2_with fail
  refine (drawN_more 18 B a len cap size _ (by omega) (by omega) hl H1.out.1).mono ?_;rintro e w2 ⟨r,rfl,r0,r1,hs2,hg2⟩;have H2:Hid (Src w2 B a len cap size∧w.grownBy w2 (some B)):=⟨hs2,grown_trans H1.out.2 hg2⟩;clear hs2 hg2 H1;obtain ⟨m,rfl⟩:=Int.eq_ofNat_of_zero_le r0;go_wp2_with fail
  refine (drawBytes_any m B a len cap size _ (by omega) hl H2.out.1).mono ?_;rintro e w3 ⟨s,rfl,h3,hs3,hg3⟩;have H3:Hid (s.size≤17∧Src w3 B a len cap size∧w.grownBy w3 (some B)):=⟨by omega,hs3,grown_trans H2.out.2 hg3⟩;clear h3 hs3 hg3 H2;go_wp2
  go_ret;exact ⟨s,rfl,H3.out.1,H3.out.2.1,H3.out.2.2⟩
end Go.Proofs.YtdkepkaflielhaaGreatDoor
