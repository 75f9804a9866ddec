import Derived.Test.YtdkepkaflielhaaGreatDoorMerged2
import Derived.Test.YtdkepkaflielhaaGreatDoorPopMath
import Derived.Lib.QuietBelow
set_option linter.unusedVariables false
set_option linter.unusedSimpArgs false
set_option maxRecDepth 100000
set_option maxHeartbeats 8000000
namespace Go.Proofs.YtdkepkaflielhaaGreatDoor
open Go.RowKit Go.PlainAid
theorem kS(s:BA)(w:World) :
  Cw 129 #[.string s] w (.bool (cO s)):=by
 by_cases h4:s.size=4
 ·have HV:Hid (cO s=true):=oI (.inl h4);have h4':(s.size:Int)=4:=by omega
  clear h4;go_enter Tryz.func129,Tryz.ntmps129
  go_wp2
  go_ret;exact⟨aC HV.out.symm,rfl⟩
 ·by_cases h16:s.size=16
  ·have HV:Hid (cO s=true):=oI (.inr h16);have h16':(s.size:Int)=16:=by omega
   clear h16 h4;go_enter Tryz.func129,Tryz.ntmps129
   go_wp2
   go_ret;exact⟨aC HV.out.symm,rfl⟩
  ·have HV:Hid (cO s=false):=yQ (by omega);have e1:((s.size:Int)==4)=false:=by simp;omega
   have e2:((s.size:Int)==16)=false:=by simp;omega
   go_enter Tryz.func129,Tryz.ntmps129
   go_wp2
   go_ret;exact⟨aC HV.out.symm,rfl⟩
structure xX(w:World)(R n:Nat):Prop where
 get:∀i,i < n→∃x:Int,0≤x∧x≤255∧w.cell? ⟨R,i,none⟩=some (.int .u8 x)∧w.frozen? ⟨R,i,none⟩=false
theorem xX.kept{w w':World}{R n:Nat}{row:Option Nat}(h:xX w R n)(hg:w.grownBy w' row)(hr:some R≠row):xX w' R n :=
 ⟨fun i hi=>by
  obtain⟨x,h0,h1,hc,hf⟩:=h.get i hi;have hlt:=US w _ hc;exact⟨x,h0,h1,hg.cell hc hr,(World.frozen?_of_block (a:=⟨R,i,none⟩) (hg.block R hlt hr)).trans hf⟩⟩
theorem xX.set{w:World}{R n:Nat}(h:xX w R n)(j:Nat)(x:Int)(h0:0≤x)(h1:x≤255):xX (w.setCell ⟨R,j,none⟩ (.int .u8 x)) R n :=
 ⟨fun i hi=>by
  obtain⟨y,y0,y1,hc,hf⟩:=h.get i hi;by_cases e:i=j
  ·subst e;exact⟨x,h0,h1,World.cell?_setCell_same _ _ _ hc,by rw[World.frozen?_setCell];exact hf⟩
  ·exact⟨y,y0,y1,(World.cell?_setCell_other _ _ _ _ (fun e2=>e (by injection e2 with _ h2;exact h2.symm))).trans hc,by rw[World.frozen?_setCell];exact hf⟩⟩
theorem xX.conv{w:World}{R n cap:Nat}(h:xX w R n):∃s:BA,s.size=n ∧
  (convert 22 9 (.slice (some ⟨R,0,none⟩) n cap)).run Tryz.prog w=.ok (.string s) w:=by
 have hl:∃l:List UInt8,l.length=n∧∀j (hj:j < l.length),w.cell? ⟨R,j,none⟩=some (.int .u8 (l[j].toNat:Int)):=by
  clear cap;induction n with
  | zero=>exact⟨[],rfl,fun j hj=>by simp at hj⟩
  | succ n ih=>
   obtain⟨l,e,hc⟩:=ih ⟨fun i hi=>h.get i (by omega)⟩;obtain⟨x,x0,x1,hx,_⟩:=h.get n (by omega);refine⟨l++[UInt8.ofNat x.toNat],by simp[e],fun j hj=>?_⟩;by_cases hjl:j < l.length
   ·rw[List.getElem_append_left hjl];exact hc j hjl
   ·have hjn:j=n:=by simp at hj;omega
    subst hjn;rw[List.getElem_append_right (by omega)];simp only[e,Nat.sub_self,UZ,UInt8.toNat_ofNat'];rw[hx];congr 2;omega
 obtain⟨l,e,hc⟩:=hl;subst e;refine⟨⟨l.toArray⟩,by simp[ByteArray.size],run_convert_bytes_back (P:=Tryz.prog) w 22 9 5 ⟨R,0,none⟩ cap l Tryz.underlying22 Tryz.underlying5 Tryz.underlying9 (fun j hj=>?_)⟩;have ha:Addr.add ⟨R,0,none⟩ j=⟨R,j,none⟩:=by simp only[Addr.add,UI];split<;>simp_all
 rw[ha];exact hc j hj
section
variable {w wx:World} {B R:Nat}
theorem yT{v:Value}{j:Nat}(h:w.grownBy wx (some B))(hR:w.heap.size≤R):w.grownBy (wx.setCell ⟨R,j,none⟩ v) (some B) :=
 ⟨h.os,h.tape,h.output,by rw[World.size_setCell];exact h.size,fun k hk hne=>(Below.heap_setCell wx _ v k (show k≠R by omega)).trans (h.block k hk hne)⟩
theorem aH(wx:World)(R j:Nat)(v:Value):wx.grownBy (wx.setCell ⟨R,j,none⟩ v) (some R):=aB (World.grownBy.refl _ _) v
end
theorem AF(p:BA→Prop)(R n c:Nat)(B:Nat)(a:OA)(len cap:Nat)(size:Int)(w:World)(hn:1≤n)(hn2:n≤1000)(hRB:R≠B)
  (hp:∀i,i < n→∃s,w.cell? ⟨R,i,none⟩=some (.string s)∧p s) (hl:len≤1048576) (hs:iY w B a len cap size) :
  Calls Tryz.prog 127 #[.pointer (some ⟨B,0,none⟩),.slice (some ⟨R,0,none⟩) n c] w fun e w'=>∃s,e=.returned (.string s)∧p s∧iY w' B a len cap size∧w.grownBy w' (some B):=by
 have HS:Hid (iY w B a len cap size):=hs;have HP:Hid (∀i,i < n→∃s,w.cell? ⟨R,i,none⟩=some (.string s)∧p s):=hp;clear hs hp;go_enter Tryz.func127,Tryz.ntmps127
 go_wp2_with fail
 refine(eQ n B a len cap size _ (by omega) hl HS.out).mono ?_;rintro e w1 ⟨r,rfl,r0,r1,hs1,hg1⟩;obtain⟨k,rfl⟩:=UK r0;have hk:k < n:=by omega
 obtain⟨s,hc,hps⟩:=HP.out k hk;have hc1:w1.cell? ⟨R,k,none⟩=some (.string s):=hg1.cell hc (by simpa using hRB);have H1:Hid (iY w1 B a len cap size∧w.grownBy w1 (some B)∧p s):=⟨hs1,hg1,hps⟩;clear hs1 hg1 hps hc r1;go_wp2
 go_ret;exact⟨s,rfl,H1.out.2.2,H1.out.1,H1.out.2.1⟩
theorem TB(w:World):(Instr.makeSlice 22 (iV 16) (iV 16)).run Tryz.prog w=.ok (.slice (some ⟨w.heap.size,0,none⟩) 16 16) (w.alloc (.cells (Array.replicate 16 (.int .u8 0)) 5)):=by kernel_rfl
theorem NF(w:World):xX (w.alloc (.cells (Array.replicate 16 (.int .u8 0)) 5)) w.heap.size 16 :=
 ⟨fun i hi=>⟨0,by omega,by omega,by simp[hi],by simp⟩⟩
theorem xZ(B:Nat)(a:OA)(len cap:Nat)(size:Int)(w:World)(hl:len≤1048576)(hs:iY w B a len cap size) :
  Calls Tryz.prog 92 #[.pointer (some ⟨B,0,none⟩),.bool false] w fun e w'=>∃s:BA,e=.returned (.string s)∧s.size=4∧iY w' B a len cap size∧w.grownBy w' (some B):=by
 have hB:B < w.heap.size:=by obtain⟨_,_,_,h⟩:=hs;exact US w _ h.cb
 have HS:Hid (iY w B a len cap size):=hs;clear hs;go_enter Tryz.func92,Tryz.ntmps92
 go_wp2_with fail
 refine(AF (fun s=>s.size=4) w.heap.size 7 7 B a len cap size _ (by omega) (by omega) (by omega) ?_ hl (HS.out.kept (World.grownBy_alloc _ _ none) (by simp))).mono ?_
 ·intro i hi;match i,hi with
  | 0,_=>exact⟨_,(VD w _ _ _ 0).trans rfl,rfl⟩
  | 1,_=>exact⟨_,(VD w _ _ _ 1).trans rfl,rfl⟩
  | 2,_=>exact⟨_,(VD w _ _ _ 2).trans rfl,rfl⟩
  | 3,_=>exact⟨_,(VD w _ _ _ 3).trans rfl,rfl⟩
  | 4,_=>exact⟨_,(VD w _ _ _ 4).trans rfl,rfl⟩
  | 5,_=>exact⟨_,(VD w _ _ _ 5).trans rfl,rfl⟩
  | 6,_=>exact⟨_,(VD w _ _ _ 6).trans rfl,rfl⟩
 ·rintro e w1 ⟨s,rfl,h4,hs1,hg1⟩;have H1:Hid (s.size=4∧iY w1 B a len cap size∧w.grownBy w1 (some B)):=⟨h4,hs1,fV (World.grownBy_alloc _ _ _) hg1⟩;clear h4 hs1 hg1;go_wp2
  go_ret;exact⟨s,rfl,H1.out.1,H1.out.2.1,H1.out.2.2⟩
structure zS(w:World)(B R:Nat)(a:OA)(len cap:Nat)(size:Int)(wx:World):Prop where
 row:xX wx R 16
 src:iY wx B a len cap size
 grown:w.grownBy wx (some B)
 lo:w.heap.size≤R
 hB:B < w.heap.size
section
variable {w wx wy:World} {B R:Nat} {a:OA} {len cap:Nat} {size:Int}
theorem zS.set(h:zS w B R a len cap size wx)(j:Nat)(x:Int)(h0:0≤x)(h1:x≤255):zS w B R a len cap size (wx.setCell ⟨R,j,none⟩ (.int .u8 x)) :=
 ⟨h.row.set j x h0 h1,h.src.kept (aH wx R j _) (fun k e=>by have:=h.lo;have:=h.hB;injection e with e;omega),yT h.grown h.lo,h.lo,h.hB⟩
theorem zS.draw(h:zS w B R a len cap size wx)(hs:iY wy B a len cap size)(hg:wx.grownBy wy (some B)):zS w B R a len cap size wy :=
 ⟨h.row.kept hg (fun e=>by have:=h.lo;have:=h.hB;injection e with e;omega),hs,fV h.grown hg,h.lo,h.hB⟩
theorem zS.fresh(hs:iY wx B a len cap size)(hg:w.grownBy wx (some B))(hB:B < w.heap.size):zS w B wx.heap.size a len cap size (wx.alloc (.cells (Array.replicate 16 (.int .u8 0)) 5)) :=
 ⟨NF wx,hs.kept (World.grownBy_alloc _ _ none) (by simp),fV hg (World.grownBy_alloc _ _ _),hg.size,hB⟩
end
theorem wA(B:Nat)(a:OA)(len cap:Nat)(size:Int)(w:World)(hl:len≤1048576)(hs:iY w B a len cap size) :
  Calls Tryz.prog 92 #[.pointer (some ⟨B,0,none⟩),.bool true] w fun e w'=>∃s:BA,e=.returned (.string s)∧s.size=16∧iY w' B a len cap size∧w.grownBy w' (some B):=by
 have hB:B < w.heap.size:=by obtain⟨_,_,_,h⟩:=hs;exact US w _ h.cb
 have hmk:=TB;have HT:Hid (zS w B w.heap.size a len cap size (w.alloc (.cells (Array.replicate 16 (.int .u8 0)) 5))):=zS.fresh hs (World.grownBy.refl _ _) hB;clear hs;go_enter Tryz.func92,Tryz.ntmps92
 go_upto_region 4 with fail
 generalize hR:w.heap.size=R at *;generalize w.alloc (.cells (Array.replicate 16 (.int .u8 0)) 5)=W at *;obtain⟨x0,_,_,c0,f0⟩:=HT.out.row.get 0 (by omega);obtain⟨x1,_,_,c1,f1⟩:=HT.out.row.get 1 (by omega);have H2:Hid _:=(HT.out.set 0 32 (by omega) (by omega)).set 1 1 (by omega) (by omega);clear HT;go_wp2_with fail
 refine(aV 4 B a len cap size _ (by omega) (by omega) hl H2.out.src).mono ?_;rintro e w1 ⟨r,rfl,r0,r1,hs1,hg1⟩;have H3:Hid _:=H2.out.draw hs1 hg1;obtain⟨x2,_,_,c2,f2⟩:=H3.out.row.get 15 (by omega);have H4:Hid _:=H3.out.set 15 r r0 (by omega);clear hs1 hg1 H2 c0 c1 f0 f1 H3;go_wp2_with fail
 refine(aV 4 B a len cap size _ (by omega) (by omega) hl H4.out.src).mono ?_;rintro e w2 ⟨q,rfl,q0,q1,hs2,hg2⟩;have H5:Hid (zS w B R a len cap size w2):=H4.out.draw hs2 hg2;clear hs2 hg2 H4 c2 f2;obtain⟨m,rfl⟩:=UK q0;go_wp2_with fail
 go_loopw [6] (fun c wr=>∃k:Nat,k≤3∧c=iV k∧zS w B R a len cap size wr) (fun c _=>(intOf c).toNat)
 case atStart=>exact⟨m,by omega,rfl,H5.out⟩
 case round=>
  obtain⟨k,hk,rfl,hst⟩:=hrel;have H6:Hid (zS w B R a len cap size wr):=hst;clear hst H5;by_cases h0:k=0
  ·subst h0;go_wp2_with fail
   refine(bS 8 B a len cap size _ (by omega) hl H6.out.src).mono ?_;rintro e w3 ⟨b,rfl,hs3,hg3⟩;have H7:Hid (zS w B R a len cap size w3):=H6.out.draw hs3 hg3;clear hs3 hg3 H6
   cases b
   ·obtain⟨s,hsz,hcv⟩:=H7.out.row.conv (cap:=16)
    have HZ:Hid (s.size=16):=hsz;clear hsz;go_wp2
    go_ret;exact⟨s,rfl,HZ.out,H7.out.src,H7.out.grown⟩
   ·have H8:Hid (zS w B w3.heap.size a len cap size (w3.alloc (.cells (Array.replicate 16 (.int .u8 0)) 5))):=zS.fresh H7.out.src H7.out.grown H7.out.hB;clear H7;go_wp2_with fail
    refine(aV 16 B a len cap size _ (by omega) (by omega) hl H8.out.src).mono ?_;rintro e w5 ⟨u,rfl,u0,u1,hs5,hg5⟩;have H9:Hid (zS w B w3.heap.size a len cap size w5):=H8.out.draw hs5 hg5;clear hs5 hg5 H8;go_wp2_with fail
    refine(aV 2 B a len cap size _ (by omega) (by omega) hl H9.out.src).mono ?_;rintro e w6 ⟨v,rfl,v0,v1,hs6,hg6⟩;have H10:Hid (zS w B w3.heap.size a len cap size w6):=H9.out.draw hs6 hg6;clear hs6 hg6 H9;obtain⟨u,rfl⟩:=UK u0;obtain⟨x3,_,_,c3,f3⟩:=H10.out.row.get u (by omega);have H11:Hid (zS w B w3.heap.size a len cap size (w6.setCell ⟨w3.heap.size,u,none⟩ (.int .u8 v))):=H10.out.set u v v0 (by omega);clear H10;obtain⟨s,hsz,hcv⟩:=H11.out.row.conv (cap:=16)
    have HZ:Hid (s.size=16):=hsz;clear hsz;go_wp2
    go_ret;exact⟨s,rfl,HZ.out,H11.out.src,H11.out.grown⟩
  ·have h0':(0:Int) < (k:Int):=by omega
   go_wp2_with fail
   refine(aV 16 B a len cap size _ (by omega) (by omega) hl H6.out.src).mono ?_;rintro e w3 ⟨u,rfl,u0,u1,hs3,hg3⟩;have H7:Hid _:=H6.out.draw hs3 hg3;clear hs3 hg3 H6;go_wp2_with fail
   refine(aV 256 B a len cap size _ (by omega) (by omega) hl H7.out.src).mono ?_;rintro e w4 ⟨v,rfl,v0,v1,hs4,hg4⟩;have H8:Hid _:=H7.out.draw hs4 hg4;clear hs4 hg4 H7;obtain⟨u,rfl⟩:=UK u0;obtain⟨x3,_,_,c3,f3⟩:=H8.out.row.get u (by omega);have H9:Hid _:=H8.out.set u v v0 (by omega);clear H8;go_wp2
   go_roundw
   case rel=>exact⟨k-1,by omega,by go_num,H9.out⟩
   case measure=>simp[intOf];omega
theorem mE(six:Bool)(B:Nat)(a:OA)(len cap:Nat)(size:Int)(w:World)(hl:len≤1048576)(hs:iY w B a len cap size) :
  Calls Tryz.prog 92 #[.pointer (some ⟨B,0,none⟩),.bool six] w fun e w'=>∃s:BA,e=.returned (.string s)∧s.size=(if six then 16 else 4)∧iY w' B a len cap size∧w.grownBy w' (some B):=by
 cases six
 ·exact xZ B a len cap size w hl hs
 ·exact wA B a len cap size w hl hs
theorem CT(B:Nat)(a:OA)(len cap:Nat)(size:Int)(w:World)(hl:len≤1048576)(hs:iY w B a len cap size) :
  Calls Tryz.prog 94 #[.pointer (some ⟨B,0,none⟩)] w fun e w'=>∃s:BA,e=.returned (.string s)∧s.size≤17∧iY w' B a len cap size∧w.grownBy w' (some B):=by
 have HS:Hid (iY w B a len cap size):=hs;clear hs;go_enter Tryz.func94,Tryz.ntmps94
 go_wp2_with fail
 refine(bS 15 B a len cap size _ (by omega) hl HS.out).mono ?_;rintro e w1 ⟨b,rfl,hs1,hg1⟩;have H1:Hid (iY w1 B a len cap size∧w.grownBy w1 (some B)):=⟨hs1,hg1⟩;clear hs1 hg1 HS
 cases b
 ·go_wp2_with fail
  refine(bS 2 B a len cap size _ (by omega) hl H1.out.1).mono ?_;rintro e w2 ⟨b,rfl,hs2,hg2⟩;have H2:Hid (iY w2 B a len cap size∧w.grownBy w2 (some B)):=⟨hs2,fV H1.out.2 hg2⟩;clear hs2 hg2 H1;go_wp2_with fail
  refine(mE b B a len cap size _ hl H2.out.1).mono ?_;rintro e w3 ⟨s,rfl,h3,hs3,hg3⟩;have H3:Hid (s.size≤17∧iY w3 B a len cap size∧w.grownBy w3 (some B)):=⟨by rw[h3];cases b<;>simp,hs3,fV H2.out.2 hg3⟩;clear h3 hs3 hg3 H2;go_wp2
  go_ret;exact⟨s,rfl,H3.out.1,H3.out.2.1,H3.out.2.2⟩
 ·go_wp2_with fail
  refine(aV 18 B a len cap size _ (by omega) (by omega) hl H1.out.1).mono ?_;rintro e w2 ⟨r,rfl,r0,r1,hs2,hg2⟩;have H2:Hid (iY w2 B a len cap size∧w.grownBy w2 (some B)):=⟨hs2,fV H1.out.2 hg2⟩;clear hs2 hg2 H1;obtain⟨m,rfl⟩:=UK r0;go_wp2_with fail
  refine(nN m B a len cap size _ (by omega) hl H2.out.1).mono ?_;rintro e w3 ⟨s,rfl,h3,hs3,hg3⟩;have H3:Hid (s.size≤17∧iY w3 B a len cap size∧w.grownBy w3 (some B)):=⟨by omega,hs3,fV H2.out.2 hg3⟩;clear h3 hs3 hg3 H2;go_wp2
  go_ret;exact⟨s,rfl,H3.out.1,H3.out.2.1,H3.out.2.2⟩
section
variable {w wx wy:World} {B len cap:Nat} {a:OA} {size:Int}
structure Dr(w:World)(B:Nat)(a:OA)(len cap:Nat)(size:Int)(wx:World):Prop where
 src:iY wx B a len cap size
 grown:w.grownBy wx (some B)
 hB:B < w.heap.size
theorem Dr.start(hs:iY w B a len cap size):Dr w B a len cap size w:=⟨hs,World.grownBy.refl _ _,by obtain⟨_,_,_,h⟩:=hs;exact US w _ h.cb⟩
theorem Dr.draw(h:Dr w B a len cap size wx)(hs:iY wy B a len cap size)(hg:wx.grownBy wy (some B)):Dr w B a len cap size wy:=⟨hs,fV h.grown hg,h.hB⟩
theorem Dr.below(h:Dr w B a len cap size wx)(hb:Below wx.heap.size wx wy):Dr w B a len cap size wy:=⟨h.src.kept (jG (r:=none) hb) (by simp),fV h.grown (jG hb),h.hB⟩
theorem Dr.alloc(h:Dr w B a len cap size wx)(o:Obj):Dr w B a len cap size (wx.alloc o):=h.below (bR.alloc lR o)
theorem Dr.set(h:Dr w B a len cap size wx)(R j:Nat)(v:Value)(hR:w.heap.size≤R):Dr w B a len cap size (wx.setCell ⟨R,j,none⟩ v) :=
 ⟨h.src.kept (aH wx R j v) (fun k e=>by have:=h.hB;injection e with e;omega),yT h.grown hR,h.hB⟩
theorem Dr.le(h:Dr w B a len cap size wx):w.heap.size≤wx.heap.size:=h.grown.size
end
def qO(n:Nat)(f:Nat→Int):BA:=⟨((List.range n).map fun i=>UInt8.ofNat (f i).toNat).toArray⟩
theorem oM(n:Nat)(f:Nat→Int):(qO n f).size=n:=by simp[qO,ByteArray.size]
theorem FQ{n:Nat}{f:Nat→Int}{i:Nat}(hi:i < n)(h0:0≤f i)(h1:f i≤255):bt (qO n f) i=f i:=by
 have hs:=oM n f;unfold bt;rw[dif_pos (by omega),ByteArray.getElem_eq_getElem_data];simp only[qO,List.getElem_toArray,List.getElem_map,List.getElem_range,UInt8.toNat_ofNat'];omega
theorem FK{a b:BA}(hs:a.size=b.size)(h:∀i,i < a.size→bt a i=bt b i):a=b:=by
 apply ByteArray.ext;apply Array.ext
 ·exact hs
 ·intro i h1 h2;have hi:=h i h1;unfold bt at hi;rw[dif_pos (show i < a.size from h1),dif_pos (show i < b.size from h2),ByteArray.getElem_eq_getElem_data,ByteArray.getElem_eq_getElem_data]at hi;exact UInt8.toNat_inj.1 (by exact_mod_cast hi)
structure CF(w:World)(B n:Nat)(f:Nat→Int):Prop where
 get:∀i,i < n→w.cell? ⟨B,i,none⟩=some (.int .u8 (f i))∧w.frozen? ⟨B,i,none⟩=false
theorem CF.conv{w:World}{B n cap:Nat}{f:Nat→Int}(h:CF w B n f)(hf:oO f) :
  (convert 22 9 (.slice (some ⟨B,0,none⟩) n cap)).run Tryz.prog w=.ok (.string (qO n f)) w:=by
 have hl:((List.range n).map fun i=>UInt8.ofNat (f i).toNat).length=n:=by simp
 have:=run_convert_bytes_back (P:=Tryz.prog) w 22 9 5 ⟨B,0,none⟩ cap ((List.range n).map fun i=>UInt8.ofNat (f i).toNat) Tryz.underlying22 Tryz.underlying5 Tryz.underlying9 (by
  intro j hj;have hj':j < n:=by simpa using hj
  have ha:Addr.add ⟨B,0,none⟩ j=⟨B,j,none⟩:=by simp only[Addr.add,UI];split<;>simp_all
  rw[ha,(h.get j hj').1];have:=hf j;simp only[List.getElem_map,List.getElem_range,UInt8.toNat_ofNat'];congr 2;omega)
 rw[hl]at this;exact this
theorem tH(w:World)(s:BA):∃cap W2,(convert 9 22 (.string s)).run Tryz.prog w=.ok (.slice (some ⟨w.heap.size,0,none⟩) s.size cap) W2∧CF W2 w.heap.size s.size (bt s)∧Below w.heap.size w W2∧s.size≤cap:=by
 refine⟨grownCap w s.size 0 5,_,run_bytes_of_string (P:=Tryz.prog) w 9 22 5 s Tryz.underlying9 Tryz.underlying22 Tryz.underlying5,?_,?_,?_⟩
 ·refine⟨fun i hi=>?_⟩;have hz:(bytesRow s (grownCap w s.size 0 5)).size=s.size+(grownCap w s.size 0 5-s.size):=by unfold bytesRow;rw[Array.size_append,Array.size_map,Array.size_replicate];rfl
  constructor
  ·refine(VD w.drew _ _ _ i).trans ?_;rw[bytesRow_at s _ i hi,←get_bt s i hi];rfl
  ·refine(World.frozen?_alloc_mark w.drew _ _ _ _ i).trans ?_;simp;omega
 ·exact(Below.refl _ w).drew.alloc lR _
 ·exact grownCap_ge _ _ _ _
def pD(r:Int):Prop:=-9223372036854775808≤r∧r≤9223372036854775807
theorem sD(B:Nat)(a:OA)(len cap:Nat)(size:Int)(w:World)(hl:len≤1048576)(hs:iY w B a len cap size) :
  Calls Tryz.prog 56 #[.pointer (some ⟨B,0,none⟩)] w fun e w'=>∃r,e=.returned (iV r)∧pD r∧iY w' B a len cap size∧w.grownBy w' (some B):=by
 have hB:B < w.heap.size:=by obtain⟨_,_,_,h⟩:=hs;exact US w _ h.cb
 have HS:Hid (iY w B a len cap size):=hs;clear hs;go_enter Tryz.func56,Tryz.ntmps56
 go_wp2_with fail
 refine(aV 14 B a len cap size _ (by omega) (by omega) hl (HS.out.kept (World.grownBy_alloc _ _ none) (by simp))).mono ?_;rintro e w1 ⟨q,rfl,q0,q1,hs1,hg1⟩;obtain⟨k,rfl⟩:=UK q0;have hc:∃r,w1.cell? ⟨w.heap.size,k,none⟩=some (iV r)∧pD r:=by
  have hk:k < 14:=by omega
  match k,hk with
  | 0,_=>exact⟨_,hg1.cell ((VD w _ _ _ 0).trans rfl) (by simp;omega),by unfold pD;omega⟩
  | 1,_=>exact⟨_,hg1.cell ((VD w _ _ _ 1).trans rfl) (by simp;omega),by unfold pD;omega⟩
  | 2,_=>exact⟨_,hg1.cell ((VD w _ _ _ 2).trans rfl) (by simp;omega),by unfold pD;omega⟩
  | 3,_=>exact⟨_,hg1.cell ((VD w _ _ _ 3).trans rfl) (by simp;omega),by unfold pD;omega⟩
  | 4,_=>exact⟨_,hg1.cell ((VD w _ _ _ 4).trans rfl) (by simp;omega),by unfold pD;omega⟩
  | 5,_=>exact⟨_,hg1.cell ((VD w _ _ _ 5).trans rfl) (by simp;omega),by unfold pD;omega⟩
  | 6,_=>exact⟨_,hg1.cell ((VD w _ _ _ 6).trans rfl) (by simp;omega),by unfold pD;omega⟩
  | 7,_=>exact⟨_,hg1.cell ((VD w _ _ _ 7).trans rfl) (by simp;omega),by unfold pD;omega⟩
  | 8,_=>exact⟨_,hg1.cell ((VD w _ _ _ 8).trans rfl) (by simp;omega),by unfold pD;omega⟩
  | 9,_=>exact⟨_,hg1.cell ((VD w _ _ _ 9).trans rfl) (by simp;omega),by unfold pD;omega⟩
  | 10,_=>exact⟨_,hg1.cell ((VD w _ _ _ 10).trans rfl) (by simp;omega),by unfold pD;omega⟩
  | 11,_=>exact⟨_,hg1.cell ((VD w _ _ _ 11).trans rfl) (by simp;omega),by unfold pD;omega⟩
  | 12,_=>exact⟨_,hg1.cell ((VD w _ _ _ 12).trans rfl) (by simp;omega),by unfold pD;omega⟩
  | 13,_=>exact⟨_,hg1.cell ((VD w _ _ _ 13).trans rfl) (by simp;omega),by unfold pD;omega⟩
 obtain⟨r,hc,hr⟩:=hc;have H1:Hid (pD r∧iY w1 B a len cap size∧w.grownBy w1 (some B)):=⟨hr,hs1,fV (World.grownBy_alloc _ _ _) hg1⟩;clear hr hs1 hg1;go_wp2
 go_ret;exact⟨r,rfl,H1.out.1,H1.out.2.1,H1.out.2.2⟩
structure TR(w:World)(P:Nat)(s:BA)(b:Int):Prop where
 c0:w.cell? ⟨P,0,none⟩=some (.string s)
 c1:w.cell? ⟨P,1,none⟩=some (iV b)
 f0:w.frozen? ⟨P,0,none⟩=false
 f1:w.frozen? ⟨P,1,none⟩=false
section
variable {w wx wy:World} {B P:Nat} {s:BA} {b:Int} {a:OA} {len cap:Nat} {size:Int}
end
structure Rt where
 addr:BA
 bits:Int
 hop:Int
section
variable (n:Nat) (l:List Rt)
end
structure TK(w:World)(b off:Nat)(rs:List Rt):Prop where
 c0:∀i (h:i < rs.length),w.cell? ⟨b,off+i*3,none⟩=some (.string rs[i].addr)
 c1:∀i (h:i < rs.length),w.cell? ⟨b,off+i*3+1,none⟩=some (iV rs[i].bits)
 c2:∀i (h:i < rs.length),w.cell? ⟨b,off+i*3+2,none⟩=some (iV rs[i].hop)
end Go.Proofs.YtdkepkaflielhaaGreatDoor
