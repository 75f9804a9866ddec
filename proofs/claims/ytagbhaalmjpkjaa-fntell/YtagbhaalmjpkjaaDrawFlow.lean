import Derived.Test.YtagbhaalmjpkjaaDrawCarry
set_option linter.unusedVariables false
set_option linter.unusedSimpArgs false
set_option maxRecDepth 100000
set_option maxHeartbeats 8000000
namespace Go.Proofs.Ytagbhaalmjpkjaa
open Go.RowKit Go.PlainAid
def EB (B:Nat) (w w':World):Prop:=w.grownBy w' (some B)
theorem EB.cell {B:Nat} {w w':World} (h:EB B w w') {b o:Nat} {v:Value} (hc:w.cell? ⟨b,o,none⟩=some v) (hb:b≠B):w'.cell? ⟨b,o,none⟩=some v:=World.grownBy.cell h hc (by simp; exact hb)
theorem EB.of {B:Nat} {w w':World} (h:Below w.heap.size w w'):EB B w w':=grown_of_below h
theorem pick_cell {w w1:World} {B k:Nat} {cs:List Value} {t:TypeId} {p:Value→Prop} (hg:(w.alloc (.cells cs.toArray t)).grownBy w1 (some B)) (hB:B < w.heap.size) (hk:k < cs.length) (hp:∀ v∈cs,p v):∃ v,w1.cell? ⟨w.heap.size,k,none⟩=some v∧p v :=
 ⟨cs[k],hg.cell (cell_new (by simp [hk])) (by simp; omega),hp _ (List.getElem_mem hk)⟩
def XV (x:Value):Value→World→Prop:=fun v _=>v=x
def XR (lo hi:Int):Value→World→Prop:=fun v _=>∃ r,v=.int .i64 r∧lo≤r∧r≤hi
def XInts (B n:Nat) (lo hi:Int):Value→World→Prop:=fun v w=>∃ b,v=.slice (some ⟨b,0,none⟩) n n∧b≠B∧∀ k,k < n→∃ x,w.cell? ⟨b,k,none⟩=some (.int .i64 x)∧lo≤x∧x≤hi
def XCell (B:Nat) (lo hi:Int):Value→World→Prop:=fun v w=>∃ b k x,v=.pointer (some ⟨b,k,none⟩)∧b≠B∧w.cell? ⟨b,k,none⟩=some (.int .i64 x)∧lo≤x∧x≤hi
theorem st_XV (B:Nat) (x:Value):StableX (EB B) (XV x):=fun _ _ _ h _=>h
theorem st_XR (B:Nat) (lo hi:Int):StableX (EB B) (XR lo hi):=fun _ _ _ h _=>h
theorem st_XInts (B n:Nat) (lo hi:Int):StableX (EB B) (XInts B n lo hi):=fun v w w' ⟨b,h1,h2,h3⟩ he=>⟨b,h1,h2,fun k hk=>by obtain ⟨x,hx,hr⟩:=h3 k hk; exact ⟨x,he.cell hx h2,hr⟩⟩
theorem st_XCell (B:Nat) (lo hi:Int):StableX (EB B) (XCell B lo hi):=fun v w w' ⟨b,k,x,h1,h2,h3,h4⟩ he=>⟨b,k,x,h1,h2,he.cell h3 h2,h4⟩
def flC (p:Int) (s d:ByteArray) (x y:Int):Value:=.agg #[.int .i64 p,.string s,.string d,.int .i64 x,.int .i64 y]
def XFlow (s d:ByteArray):Value→World→Prop:=fun v _=>∃ p x y,v=flC p s d x y∧(0≤p∧p≤255)∧(0≤x∧x≤65535)∧(0≤y∧y≤65535)
theorem st_XFlow (B:Nat) (s d:ByteArray):StableX (EB B) (XFlow s d):=fun _ _ _ h _=>h
structure BoxF (w:World) (X:Nat) (p:Int) (s d:ByteArray) (x y:Int):Prop where
 c0:w.cell? ⟨X,0,none⟩=some (.int .i64 p)
 f0:w.frozen? ⟨X,0,none⟩=false
 c1:w.cell? ⟨X,1,none⟩=some (.string s)
 f1:w.frozen? ⟨X,1,none⟩=false
 c2:w.cell? ⟨X,2,none⟩=some (.string d)
 f2:w.frozen? ⟨X,2,none⟩=false
 c3:w.cell? ⟨X,3,none⟩=some (.int .i64 x)
 f3:w.frozen? ⟨X,3,none⟩=false
 c4:w.cell? ⟨X,4,none⟩=some (.int .i64 y)
 f4:w.frozen? ⟨X,4,none⟩=false
section
variable {w w':World} {X B:Nat} {p x y:Int} {s d:ByteArray}
theorem BoxF.new (w:World) {t:TypeId}:BoxF (w.alloc (.cells #[.int .i64 p,.string s,.string d,.int .i64 x,.int .i64 y] t)) w.heap.size p s d x y:=⟨cell_new rfl,by simp,cell_new rfl,by simp,cell_new rfl,by simp,cell_new rfl,by simp,cell_new rfl,by simp⟩
theorem BoxF.drawn (h:BoxF w X p s d x y) (he:EB B w w') (hX:X≠B):BoxF w' X p s d x y:=by
 have hb:=World.block_lt_of_cell? w _ h.c0;have hk:w'.heap[X]?=w.heap[X]?:=World.grownBy.block he X hb (by simp; exact hX);have hc:∀ j,w'.cell? ⟨X,j,none⟩=w.cell? ⟨X,j,none⟩:=fun j=>World.cell?_of_block hk
 have hf:∀ j,w'.frozen? ⟨X,j,none⟩=w.frozen? ⟨X,j,none⟩:=fun j=>World.frozen?_of_block hk
 exact ⟨(hc 0).trans h.c0,(hf 0).trans h.f0,(hc 1).trans h.c1,(hf 1).trans h.f1,(hc 2).trans h.c2,(hf 2).trans h.f2,(hc 3).trans h.c3,(hf 3).trans h.f3,(hc 4).trans h.c4,(hf 4).trans h.f4⟩
theorem BoxF.other (h:BoxF w X p s d x y) {C o:Nat} (v:Value) (hC:C≠X):BoxF (w.setCell ⟨C,o,none⟩ v) X p s d x y:=by
 have hc:∀ j,(w.setCell ⟨C,o,none⟩ v).cell? ⟨X,j,none⟩=w.cell? ⟨X,j,none⟩:=fun j=>World.cell?_setCell_other w _ _ v (fun e=>hC (congrArg Addr.block e))
 have hf:∀ j,(w.setCell ⟨C,o,none⟩ v).frozen? ⟨X,j,none⟩=w.frozen? ⟨X,j,none⟩:=fun j=>by simp
 exact ⟨(hc 0).trans h.c0,(hf 0).trans h.f0,(hc 1).trans h.c1,(hf 1).trans h.f1,(hc 2).trans h.c2,(hf 2).trans h.f2,(hc 3).trans h.c3,(hf 3).trans h.f3,(hc 4).trans h.c4,(hf 4).trans h.f4⟩
theorem BoxF.set0 (h:BoxF w X p s d x y) (q:Int):BoxF (w.setCell ⟨X,0,none⟩ (.int .i64 q)) X q s d x y:=by
 obtain ⟨c0,f0,c1,f1,c2,f2,c3,f3,c4,f4⟩:=h;constructor<;>simp [go_sem,c0,f0,c1,f1,c2,f2,c3,f3,c4,f4]
theorem BoxF.set4 (h:BoxF w X p s d x y) (q:Int):BoxF (w.setCell ⟨X,4,none⟩ (.int .i64 q)) X p s d x q:=by
 obtain ⟨c0,f0,c1,f1,c2,f2,c3,f3,c4,f4⟩:=h;constructor<;>simp [go_sem,c0,f0,c1,f1,c2,f2,c3,f3,c4,f4]
end
def XBareF (n B:Nat):Value→World→Prop:=fun v w=>∃ b,v=.pointer (some ⟨b,0,none⟩)∧n≤b∧b≠B∧BoxF w b 0 ⟨#[]⟩ ⟨#[]⟩ 0 0
theorem st_XBareF (n B:Nat):StableX (EB B) (XBareF n B):=fun v w w' ⟨b,h1,h2,h3,h4⟩ he=>⟨b,h1,h2,h3,h4.drawn he h3⟩
theorem drawFlow_any (s d:ByteArray) (B:Nat) (a:Option Addr) (len cap:Nat) (size:Int) (w:World) (hs0:s.size≤1000) (hd0:d.size≤1000) (hl:len≤1048576) (hs:Src w B a len cap size) :
  Calls Try.prog 57 #[.pointer (some ⟨B,0,none⟩),.string s,.string d] w fun e w'=>(∃ p x y,e=.returned (flC p s d x y)∧(0≤p∧p≤255)∧(0≤x∧x≤65535)∧(0≤y∧y≤65535))∧Src w' B a len cap size∧w.grownBy w' (some B):=by
 have D0:Hid (Dr w B a len cap size (w.alloc (.cells #[.int .i64 0,.string ⟨#[]⟩,.string ⟨#[]⟩,.int .i64 0,.int .i64 0] 88))):=(Dr.start hs).alloc _;have K0:Hid (BoxF (w.alloc (.cells #[.int .i64 0,.string ⟨#[]⟩,.string ⟨#[]⟩,.int .i64 0,.int .i64 0] 88)) w.heap.size 0 ⟨#[]⟩ ⟨#[]⟩ 0 0):=BoxF.new w;have hz:Hid ((w.alloc (.cells #[.int .i64 0,.string ⟨#[]⟩,.string ⟨#[]⟩,.int .i64 0,.int .i64 0] 88)).heap.size=w.heap.size+1):=by unfold Hid; simp
 have hB:B < w.heap.size:=(Dr.start hs).hB;have hOB:w.heap.size≠B:=by omega
 clear hs;go_enter Try.func57,Try.ntmps57
 go_upto_region 1 with fail
 generalize w.alloc (.cells #[.int .i64 0,.string ⟨#[]⟩,.string ⟨#[]⟩,.int .i64 0,.int .i64 0] 88)=W at *;go_cut [7] (fun v wx=>∃ X p x y,v=.pointer (some ⟨X,0,none⟩)∧w.heap.size < X∧BoxF wx X p s d x y∧(0≤p∧p≤255)∧(0≤x∧x≤65535)∧(0≤y∧y≤65535)∧Dr w B a len cap size wx∧BoxF wx w.heap.size 0 ⟨#[]⟩ ⟨#[]⟩ 0 0)
 case first =>
  rename_i J K2 hJ hK2;refine wp_region_growXU (EB B) (fun wx=>Dr w B a len cap size wx∧BoxF wx w.heap.size 0 ⟨#[]⟩ ⟨#[]⟩ 0 0∧W.heap.size≤wx.heap.size) (Rs:=[XInts B 4 1 17,XV (.pointer (some ⟨B,0,none⟩)),XR 0 3,XCell B 1 17,XR 1 17,XV (.string s),XV (.string d),XV (.pointer (some ⟨B,0,none⟩)),XR 0 5,XR 1000 1005,XV (.pointer (some ⟨B,0,none⟩)),XR 0 5,XR 1000 1005,XInts B 5 0 65535,XV (.pointer (some ⟨B,0,none⟩)),XR 0 4,XCell B 0 65535,XR 0 65535,XFlow s d,XBareF W.heap.size B]) [8,9,10,11,12,13,14,15,16,17,18,19,20,21,22,23,24,25,26,7] _ (by kernel_rfl) rfl (by kernel_rfl) rfl ⟨D0.out.below (Below.refl _ _).drew,K0.out.drawn (EB.of (Below.refl _ _).drew) hOB,Nat.le_refl _⟩ ?st ?steps ?lst
  case st=>simp [st_XV,st_XR,st_XInts,st_XCell,st_XFlow,st_XBareF]
  case steps =>
   refine ⟨?s0,?s1,?s2,?s3,?s4,?s5,?s6,?s7,?s8,?s9,?s10,?s11,?s12,?s13,?s14,?s15,?s16,?s17,?s18,?s19,trivial⟩
   case s0 =>
    intro K' act wy ho hd ⟨hI1,hI2,hI3⟩ hK;clear hd;go_simp;exact hK _ _ ⟨wy.heap.size,rfl,by have:=hI1.le; omega,fun k hk=>by
     match k,hk with
     | 0,_=>exact ⟨_,cell_new rfl,by omega,by omega⟩
     | 1,_=>exact ⟨_,cell_new rfl,by omega,by omega⟩
     | 2,_=>exact ⟨_,cell_new rfl,by omega,by omega⟩
     | 3,_=>exact ⟨_,cell_new rfl,by omega,by omega⟩
    ⟩ (EB.of ((Below.refl _ _).alloc (Nat.le_refl _) _)) ⟨hI1.alloc _,hI2.drawn (EB.of ((Below.refl _ _).alloc (Nat.le_refl _) _)) hOB,by simp; omega⟩
   case s1 =>
    intro K' act wy ho hd ⟨hI1,hI2,hI3⟩ hK;have h3:=ho 0 (by decide);simp [slot] at h3;clear hd;go_simp;exact hK _ _ rfl (EB.of (Below.refl _ _)) ⟨hI1,hI2,hI3⟩
   case s2 =>
    intro K' act wy ho hd ⟨hI1,hI2,hI3⟩ hK;have q1:XV (.pointer (some ⟨B,0,none⟩)) (slot act 9) wy:=hd ⟨1,.data⟩ (by simp) rfl;clear hd;unfold XV at q1;simp [slot] at q1;go_simp;refine (drawN_any 4 B a len cap size wy (by omega) hl hI1.src).mono ?_;rintro e wz ⟨r,rfl,h0,h1,hsz,hgz⟩;exact hK _ _ ⟨r,rfl,by omega,by omega⟩ hgz ⟨hI1.draw hsz hgz,hI2.drawn hgz hOB,Nat.le_trans hI3 hgz.size⟩
   case s3 =>
    intro K' act wy ho hd ⟨hI1,hI2,hI3⟩ hK;have q0:XInts B 4 1 17 (slot act 8) wy:=hd ⟨0,.data⟩ (by simp) rfl;have q2:XR 0 3 (slot act 10) wy:=hd ⟨2,.data⟩ (by simp) rfl;clear hd;obtain ⟨b0,q0,nb0,g0⟩:=q0;simp [slot] at q0;obtain ⟨r2,q2,l2,u2⟩:=q2;simp [slot] at q2;obtain ⟨kk,hkk⟩:=Int.eq_ofNat_of_zero_le l2;subst hkk;obtain ⟨x,hx,lx,ux⟩:=g0 kk (by omega);have i0:(kk:Int) < 4:=by omega
    go_simp;exact hK _ _ ⟨b0,kk,x,rfl,nb0,hx,lx,ux⟩ (EB.of (Below.refl _ _)) ⟨hI1,hI2,hI3⟩
   case s4 =>
    intro K' act wy ho hd ⟨hI1,hI2,hI3⟩ hK;have q3:XCell B 1 17 (slot act 11) wy:=hd ⟨3,.data⟩ (by simp) rfl;clear hd;obtain ⟨b3,k3,x3,q3,nb3,c3,l3,u3⟩:=q3;simp [slot] at q3;go_simp;exact hK _ _ ⟨x3,rfl,l3,u3⟩ (EB.of (Below.refl _ _)) ⟨hI1,hI2,hI3⟩
   case s5 =>
    intro K' act wy ho hd ⟨hI1,hI2,hI3⟩ hK;have h3:=ho 1 (by decide);simp [slot] at h3;clear hd;go_simp;exact hK _ _ rfl (EB.of (Below.refl _ _)) ⟨hI1,hI2,hI3⟩
   case s6 =>
    intro K' act wy ho hd ⟨hI1,hI2,hI3⟩ hK;have h3:=ho 2 (by decide);simp [slot] at h3;clear hd;go_simp;exact hK _ _ rfl (EB.of (Below.refl _ _)) ⟨hI1,hI2,hI3⟩
   case s7 =>
    intro K' act wy ho hd ⟨hI1,hI2,hI3⟩ hK;have h3:=ho 0 (by decide);simp [slot] at h3;clear hd;go_simp;exact hK _ _ rfl (EB.of (Below.refl _ _)) ⟨hI1,hI2,hI3⟩
   case s8 =>
    intro K' act wy ho hd ⟨hI1,hI2,hI3⟩ hK;have q7:XV (.pointer (some ⟨B,0,none⟩)) (slot act 15) wy:=hd ⟨7,.data⟩ (by simp) rfl;clear hd;unfold XV at q7;simp [slot] at q7;go_simp;refine (drawN_any 6 B a len cap size wy (by omega) hl hI1.src).mono ?_;rintro e wz ⟨r,rfl,h0,h1,hsz,hgz⟩;exact hK _ _ ⟨r,rfl,by omega,by omega⟩ hgz ⟨hI1.draw hsz hgz,hI2.drawn hgz hOB,Nat.le_trans hI3 hgz.size⟩
   case s9 =>
    intro K' act wy ho hd ⟨hI1,hI2,hI3⟩ hK;have q8:XR 0 5 (slot act 16) wy:=hd ⟨8,.data⟩ (by simp) rfl;clear hd;obtain ⟨r8,q8,l8,u8⟩:=q8;simp [slot] at q8;have hw:IntKind.i64.wrap (1000+r8)=1000+r8:=by rw [IntKind.wrap_i64]; omega
    go_simp;exact hK _ _ ⟨1000+r8,rfl,by omega,by omega⟩ (EB.of (Below.refl _ _)) ⟨hI1,hI2,hI3⟩
   case s10 =>
    intro K' act wy ho hd ⟨hI1,hI2,hI3⟩ hK;have h3:=ho 0 (by decide);simp [slot] at h3;clear hd;go_simp;exact hK _ _ rfl (EB.of (Below.refl _ _)) ⟨hI1,hI2,hI3⟩
   case s11 =>
    intro K' act wy ho hd ⟨hI1,hI2,hI3⟩ hK;have q10:XV (.pointer (some ⟨B,0,none⟩)) (slot act 18) wy:=hd ⟨10,.data⟩ (by simp) rfl;clear hd;unfold XV at q10;simp [slot] at q10;go_simp;refine (drawN_any 6 B a len cap size wy (by omega) hl hI1.src).mono ?_;rintro e wz ⟨r,rfl,h0,h1,hsz,hgz⟩;exact hK _ _ ⟨r,rfl,by omega,by omega⟩ hgz ⟨hI1.draw hsz hgz,hI2.drawn hgz hOB,Nat.le_trans hI3 hgz.size⟩
   case s12 =>
    intro K' act wy ho hd ⟨hI1,hI2,hI3⟩ hK;have q11:XR 0 5 (slot act 19) wy:=hd ⟨11,.data⟩ (by simp) rfl;clear hd;obtain ⟨r11,q11,l11,u11⟩:=q11;simp [slot] at q11;have hw:IntKind.i64.wrap (1000+r11)=1000+r11:=by rw [IntKind.wrap_i64]; omega
    go_simp;exact hK _ _ ⟨1000+r11,rfl,by omega,by omega⟩ (EB.of (Below.refl _ _)) ⟨hI1,hI2,hI3⟩
   case s13 =>
    intro K' act wy ho hd ⟨hI1,hI2,hI3⟩ hK;have q12:XR 1000 1005 (slot act 20) wy:=hd ⟨12,.data⟩ (by simp) rfl;clear hd;obtain ⟨r12,q12,l12,u12⟩:=q12;simp [slot] at q12;go_simp;exact hK _ _ ⟨wy.heap.size,rfl,by have:=hI1.le; omega,fun k hk=>by
     match k,hk with
     | 0,_=>exact ⟨_,cell_new rfl,by omega,by omega⟩
     | 1,_=>exact ⟨_,cell_new rfl,by omega,by omega⟩
     | 2,_=>exact ⟨_,cell_new rfl,by omega,by omega⟩
     | 3,_=>exact ⟨_,cell_new rfl,by omega,by omega⟩
     | 4,_=>exact ⟨_,cell_new rfl,by omega,by omega⟩
    ⟩ (EB.of ((Below.refl _ _).alloc (Nat.le_refl _) _)) ⟨hI1.alloc _,hI2.drawn (EB.of ((Below.refl _ _).alloc (Nat.le_refl _) _)) hOB,by simp; omega⟩
   case s14 =>
    intro K' act wy ho hd ⟨hI1,hI2,hI3⟩ hK;have h3:=ho 0 (by decide);simp [slot] at h3;clear hd;go_simp;exact hK _ _ rfl (EB.of (Below.refl _ _)) ⟨hI1,hI2,hI3⟩
   case s15 =>
    intro K' act wy ho hd ⟨hI1,hI2,hI3⟩ hK;have q14:XV (.pointer (some ⟨B,0,none⟩)) (slot act 22) wy:=hd ⟨14,.data⟩ (by simp) rfl;clear hd;unfold XV at q14;simp [slot] at q14;go_simp;refine (drawN_any 5 B a len cap size wy (by omega) hl hI1.src).mono ?_;rintro e wz ⟨r,rfl,h0,h1,hsz,hgz⟩;exact hK _ _ ⟨r,rfl,by omega,by omega⟩ hgz ⟨hI1.draw hsz hgz,hI2.drawn hgz hOB,Nat.le_trans hI3 hgz.size⟩
   case s16 =>
    intro K' act wy ho hd ⟨hI1,hI2,hI3⟩ hK;have q13:XInts B 5 0 65535 (slot act 21) wy:=hd ⟨13,.data⟩ (by simp) rfl;have q15:XR 0 4 (slot act 23) wy:=hd ⟨15,.data⟩ (by simp) rfl;clear hd;obtain ⟨b13,q13,nb13,g13⟩:=q13;simp [slot] at q13;obtain ⟨r15,q15,l15,u15⟩:=q15;simp [slot] at q15;obtain ⟨kk,hkk⟩:=Int.eq_ofNat_of_zero_le l15;subst hkk;obtain ⟨x,hx,lx,ux⟩:=g13 kk (by omega);have i0:(kk:Int) < 5:=by omega
    go_simp;exact hK _ _ ⟨b13,kk,x,rfl,nb13,hx,lx,ux⟩ (EB.of (Below.refl _ _)) ⟨hI1,hI2,hI3⟩
   case s17 =>
    intro K' act wy ho hd ⟨hI1,hI2,hI3⟩ hK;have q16:XCell B 0 65535 (slot act 24) wy:=hd ⟨16,.data⟩ (by simp) rfl;clear hd;obtain ⟨b16,k16,x16,q16,nb16,c16,l16,u16⟩:=q16;simp [slot] at q16;go_simp;exact hK _ _ ⟨x16,rfl,l16,u16⟩ (EB.of (Below.refl _ _)) ⟨hI1,hI2,hI3⟩
   case s18 =>
    intro K' act wy ho hd ⟨hI1,hI2,hI3⟩ hK;have q4:XR 1 17 (slot act 12) wy:=hd ⟨4,.data⟩ (by simp) rfl;have q5:XV (.string s) (slot act 13) wy:=hd ⟨5,.data⟩ (by simp) rfl;have q6:XV (.string d) (slot act 14) wy:=hd ⟨6,.data⟩ (by simp) rfl;have q9:XR 1000 1005 (slot act 17) wy:=hd ⟨9,.data⟩ (by simp) rfl;have q17:XR 0 65535 (slot act 25) wy:=hd ⟨17,.data⟩ (by simp) rfl;clear hd;obtain ⟨r4,q4,l4,u4⟩:=q4;simp [slot] at q4;unfold XV at q5;simp [slot] at q5;unfold XV at q6;simp [slot] at q6;obtain ⟨r9,q9,l9,u9⟩:=q9;simp [slot] at q9;obtain ⟨r17,q17,l17,u17⟩:=q17;simp [slot] at q17;go_simp;exact hK _ _ ⟨r4,r9,r17,rfl,by omega,by omega,by omega⟩ (EB.of (Below.refl _ _)) ⟨hI1,hI2,hI3⟩
   case s19 =>
    intro K' act wy ho hd ⟨hI1,hI2,hI3⟩ hK;clear hd;go_simp;exact hK _ _ ⟨wy.heap.size,rfl,hI3,by have:=hI1.le; omega,BoxF.new wy⟩ (EB.of ((Below.refl _ _).alloc (Nat.le_refl _) _)) ⟨hI1.alloc _,hI2.drawn (EB.of ((Below.refl _ _).alloc (Nat.le_refl _) _)) hOB,by simp; omega⟩
  case lst =>
   intro X act K' wz ha hsl hR ⟨hI1,hI2,hI3⟩ hK;have HAct:Hid (act=_):=ha;clear ha;obtain ⟨z0,z1,z2,z3,z4,z5,z6,z7,z8,z9,z10,z11,z12,z13,z14,z15,z16,z17,⟨p,x,y,z18,hp,hx,hy⟩,⟨Xb,z19,hXn,hXB,hbx⟩,-⟩:=hR;have s7:=hsl 19 (by decide);have s26:=hsl 18 (by decide);rw [z19] at s7;rw [z18] at s26;simp [slot,flC] at s7 s26;have hz':=hz.out;have hne:Xb≠w.heap.size:=by omega
   obtain ⟨c0,f0,c1,f1,c2,f2,c3,f3,c4,f4⟩:=hbx;have HF:Hid (BoxF (((((wz.setCell ⟨Xb,0,none⟩ (.int .i64 p)).setCell ⟨Xb,1,none⟩ (.string s)).setCell ⟨Xb,2,none⟩ (.string d)).setCell ⟨Xb,3,none⟩ (.int .i64 x)).setCell ⟨Xb,4,none⟩ (.int .i64 y)) Xb p s d x y):=by
    constructor<;>simp [go_sem,c0,f0,c1,f1,c2,f2,c3,f3,c4,f4]
   have HO:Hid (BoxF (((((wz.setCell ⟨Xb,0,none⟩ (.int .i64 p)).setCell ⟨Xb,1,none⟩ (.string s)).setCell ⟨Xb,2,none⟩ (.string d)).setCell ⟨Xb,3,none⟩ (.int .i64 x)).setCell ⟨Xb,4,none⟩ (.int .i64 y)) w.heap.size 0 ⟨#[]⟩ ⟨#[]⟩ 0 0):=((((hI2.other _ hne).other _ hne).other _ hne).other _ hne).other _ hne;have HD:Hid (Dr w B a len cap size (((((wz.setCell ⟨Xb,0,none⟩ (.int .i64 p)).setCell ⟨Xb,1,none⟩ (.string s)).setCell ⟨Xb,2,none⟩ (.string d)).setCell ⟨Xb,3,none⟩ (.int .i64 x)).setCell ⟨Xb,4,none⟩ (.int .i64 y))):=((((hI1.set Xb 0 _ (by omega)).set Xb 1 _ (by omega)).set Xb 2 _ (by omega)).set Xb 3 _ (by omega)).set Xb 4 _ (by omega);have hXw:w.heap.size < Xb:=by omega
   clear hsl hz' hI1 hI2;go_simp;refine hK _ _ ?_;rw [HAct.out];simp only [putsFrom,z18,z19];go_simp;refine hK2 _ _ (hJ _ _ ?_);(repeat apply Exists.intro)
   refine ⟨⟨Xb,p,x,y,rfl,hXw,HF.out,hp,hx,hy,HD.out,HO.out⟩,rfl⟩
 case rest =>
 obtain ⟨X,p,x,y,rfl,hX,hbx,hp,hx,hy,hD,hO⟩:=hcut;have HF:Hid _:=hbx;have HO:Hid _:=hO;have HD:Hid _:=hD;have hne:X≠w.heap.size:=by omega
 have hXw:w.heap.size≤X:=by omega
 have c0':=hbx.c0;clear hbx hO hD hX;by_cases h1:p=1;rotate_left
 ·have d1:(p==1)=false:=by simp [h1]
  obtain ⟨c0,f0,c1,f1,c2,f2,c3,f3,c4,f4⟩:=HF.out;obtain ⟨o0,y0,o1,y1,o2,y2,o3,y3,o4,y4⟩:=HO.out;go_wp2_with fail
  exact bodyPost_ret (v:=.agg #[.int .i64 p,.string s,.string d,.int .i64 x,.int .i64 y]) (by simp [results,Try.results57,go_sem,o0,o1,o2,o3,o4]) rfl (by
   have D2:=((((HD.out.set w.heap.size 0 (.int .i64 p) (Nat.le_refl _)).set w.heap.size 1 (.string s) (Nat.le_refl _)).set w.heap.size 2 (.string d) (Nat.le_refl _)).set w.heap.size 3 (.int .i64 x) (Nat.le_refl _)).set w.heap.size 4 (.int .i64 y) (Nat.le_refl _);exact ⟨⟨p,x,y,rfl,by omega,by omega,by omega⟩,D2.src,D2.grown⟩)
 have d1:(p==1)=true:=by simp [h1]
 clear h1;by_cases h16:s.size=16
 ·have d16:((s.size:Int)==16)=true:=by simp; omega
  clear h16;have f0':=HF.out.f0;have HF2:Hid _:=HF.out.set0 58;have HO2:Hid _:=HO.out.other (o:=0) (.int .i64 58) hne;have HD2:Hid _:=HD.out.set X 0 (.int .i64 58) hXw;go_upto_region 5 with fail
  generalize wc.setCell ⟨X,0,none⟩ (.int .i64 58)=W2 at *;clear c0' f0' HF HO HD;have c3':=HF2.out.c3;have c4':=HF2.out.c4;have f4':=HF2.out.f4;have HF3:Hid _:=HF2.out.set4 x;have HO3:Hid _:=HO2.out.other (o:=4) (.int .i64 x) hne;have HD3:Hid _:=HD2.out.set X 4 (.int .i64 x) hXw;go_upto_region 6 with fail
  generalize W2.setCell ⟨X,4,none⟩ (.int .i64 x)=W3 at *;clear c3' c4' f4' HF2 HO2 HD2;obtain ⟨c0,f0,c1,f1,c2,f2,c3,f3,c4,f4⟩:=HF3.out;obtain ⟨o0,y0,o1,y1,o2,y2,o3,y3,o4,y4⟩:=HO3.out;go_wp2_with fail
  exact bodyPost_ret (v:=.agg #[.int .i64 58,.string s,.string d,.int .i64 x,.int .i64 x]) (by simp [results,Try.results57,go_sem,o0,o1,o2,o3,o4]) rfl (by
   have D2:=((((HD3.out.set w.heap.size 0 (.int .i64 58) (Nat.le_refl _)).set w.heap.size 1 (.string s) (Nat.le_refl _)).set w.heap.size 2 (.string d) (Nat.le_refl _)).set w.heap.size 3 (.int .i64 x) (Nat.le_refl _)).set w.heap.size 4 (.int .i64 x) (Nat.le_refl _);exact ⟨⟨58,x,x,rfl,by omega,by omega,by omega⟩,D2.src,D2.grown⟩)
 ·have d16:((s.size:Int)==16)=false:=by simp; omega
  have c3':=HF.out.c3;have c4':=HF.out.c4;have f4':=HF.out.f4;have HF3:Hid _:=HF.out.set4 x;have HO3:Hid _:=HO.out.other (o:=4) (.int .i64 x) hne;have HD3:Hid _:=HD.out.set X 4 (.int .i64 x) hXw;go_upto_region 6 with fail
  generalize wc.setCell ⟨X,4,none⟩ (.int .i64 x)=W3 at *;clear c0' c3' c4' f4' HF HO HD;obtain ⟨c0,f0,c1,f1,c2,f2,c3,f3,c4,f4⟩:=HF3.out;obtain ⟨o0,y0,o1,y1,o2,y2,o3,y3,o4,y4⟩:=HO3.out;go_wp2_with fail
  exact bodyPost_ret (v:=.agg #[.int .i64 p,.string s,.string d,.int .i64 x,.int .i64 x]) (by simp [results,Try.results57,go_sem,o0,o1,o2,o3,o4]) rfl (by
   have D2:=((((HD3.out.set w.heap.size 0 (.int .i64 p) (Nat.le_refl _)).set w.heap.size 1 (.string s) (Nat.le_refl _)).set w.heap.size 2 (.string d) (Nat.le_refl _)).set w.heap.size 3 (.int .i64 x) (Nat.le_refl _)).set w.heap.size 4 (.int .i64 x) (Nat.le_refl _);exact ⟨⟨p,x,x,rfl,by omega,by omega,by omega⟩,D2.src,D2.grown⟩)
end Go.Proofs.Ytagbhaalmjpkjaa
