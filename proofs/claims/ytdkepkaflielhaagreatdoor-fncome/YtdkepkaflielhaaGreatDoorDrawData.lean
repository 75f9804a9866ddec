import Derived.Test.YtdkepkaflielhaaGreatDoorAb
import Derived.Test.YtdkepkaflielhaaGreatDoorUni
import Derived.Test.YtdkepkaflielhaaGreatDoorDrawFlow
set_option linter.unusedVariables false
set_option linter.unusedSimpArgs false
set_option maxRecDepth 100000
set_option maxHeartbeats 8000000
namespace Go.Proofs.YtdkepkaflielhaaGreatDoor
open Go.RowKit Go.PlainAid
def XS (n:Nat):Value→World→Prop:=fun v _=>∃ u:ByteArray,v=.string u∧u.size=n
def XRow2 (B:Nat) (x y:Int):Value→World→Prop:=fun v w=>∃ b,v=.slice (some ⟨b,0,none⟩) 2 2∧b≠B∧w.cell? ⟨b,0,none⟩=some (.int .u8 x)∧w.cell? ⟨b,1,none⟩=some (.int .u8 y)
theorem st_XS (B n:Nat):StableX (EB B) (XS n):=fun _ _ _ h _=>h
theorem st_XRow2 (B:Nat) (x y:Int):StableX (EB B) (XRow2 B x y):=fun v w w' ⟨b,h1,h2,h3,h4⟩ he=>⟨b,h1,h2,he.cell h3 h2,he.cell h4 h2⟩
theorem drawData_min (p:Int) (s d:ByteArray) (x y:Int) (B:Nat) (a:Option Addr) (len cap:Nat) (size:Int) (w:World) (hp:0≤p∧p≤255) (hs0:s.size≤16) (hd0:d.size≤16) (hx:0≤x∧x≤65535) (hy:0≤y∧y≤65535) (hl:len≤1048576) (hs:Src w B a len cap size) :
  Calls Tryz.prog 83 #[.pointer (some ⟨B,0,none⟩),flC p s d x y] w fun e w'=>(∃ u:ByteArray,e=.returned (.string u)∧u.size≤100∧checkAt p+2≤u.size)∧Src w' B a len cap size∧w.grownBy w' (some B):=by
 unfold flC;have hB:B < w.heap.size:=(Dr.start hs).hB;have D0:Hid (Dr w B a len cap size (w.alloc (.cells (FlR p s d x y).toArray 43))):=(Dr.start hs).alloc _;have F0:Hid (BoxF (w.alloc (.cells (FlR p s d x y).toArray 43)) w.heap.size p s d x y):=BoxF.new w;have hXB:w.heap.size≠B:=by omega
 have hz:Hid ((w.alloc (.cells (FlR p s d x y).toArray 43)).heap.size=w.heap.size+1):=by unfold Hid; simp
 clear hs;go_enter Tryz.func83,Tryz.ntmps83
 go_upto_region 1 with fail
 generalize (w.alloc (.cells (FlR p s d x y).toArray 43))=W0 at *;have hW0:B < W0.heap.size:=by have:=hz.out; omega
 clear hz;go_wp2_with fail
 refine (drawN_more 7 B a len cap size _ (by omega) (by omega) hl (D0.out.alloc _).src).mono ?_;rintro e W1 ⟨r,rfl,r0,r1,hs1,hg1⟩;obtain ⟨k,rfl⟩:=Int.eq_ofNat_of_zero_le r0;obtain ⟨v,hcell,fl,rfl,hfl⟩:=pick_cell (k:=k) (p:=fun v=>∃ x,v=.int .u8 x∧(0≤x∧x≤255)) (cs:=[.int .u8 2,.int .u8 18,.int .u8 16,.int .u8 24,.int .u8 17,.int .u8 4,.int .u8 25]) hg1 hW0 (by simp; omega) (by simp);have D1:Hid (Dr w B a len cap size W1):=(D0.out.alloc _).draw hs1 hg1;have F1:Hid (BoxF W1 w.heap.size p s d x y):=(F0.out.drawn (EB.of (bR.alloc (Nat.le_refl _) _)) hXB).drawn hg1 hXB;have r1':(k:Int) < 7:=by omega
 clear hs1 hg1 D0 F0 r0 r1;go_upto_region 2 with fail
 clear hcell r1';go_wp2_with fail
 refine (drawN_any 12 B a len cap size _ (by omega) hl D1.out.src).mono ?_;rintro e W2 ⟨r,rfl,r0,r1,hs1,hg1⟩;obtain ⟨m,rfl⟩:=Int.eq_ofNat_of_zero_le r0;have hm:m≤11:=by omega
 have D2:Hid (Dr w B a len cap size W2):=D1.out.draw hs1 hg1;have F2:Hid (BoxF W2 w.heap.size p s d x y):=F1.out.drawn hg1 hXB;clear hs1 hg1 D1 F1 r0 r1;go_wp2_with fail
 refine (drawBytes_any m B a len cap size _ (by omega) hl D2.out.src).mono ?_;rintro e W3 ⟨rest,rfl,hrest,hs1,hg1⟩;have D3:Hid (Dr w B a len cap size W3):=D2.out.draw hs1 hg1;have F3:Hid (BoxF W3 w.heap.size p s d x y):=F2.out.drawn hg1 hXB;have hr11:rest.size≤11:=by omega
 clear hs1 hg1 D2 F2 hrest hm;go_upto_region 3 with fail
 have zx:=twoV_size x;have zy:=twoV_size y;have n0:¬ 9223372036854775807 < (twoV x).size+(twoV y).size:=by omega
 have HK:Hid (∀ wy,Below W3.drew.heap.size W3.drew wy→BoxF wy w.heap.size p s d x y):=fun wy hy=>F3.out.drawn (EB.of ((Below.refl _ W3).drew.trans hy)) hXB
 go_cut [7] (fun v wx=>v=.string (twoV x++twoV y)∧Below W3.heap.size W3 wx)
 case first =>
  rename_i J K2 hJ hK2;refine wp_region_growL (Rs:=[IsV (.pointer (some ⟨w.heap.size,3,none⟩)),IsV (iV x),IsV (.string (twoV x)),IsV (.pointer (some ⟨w.heap.size,4,none⟩)),IsV (iV y),IsV (.string (twoV y)),IsV (.string (twoV x++twoV y)),IsV (.string (twoV x++twoV y))]) [19,20,21,22,23,24,25,7] (by kernel_rfl) (by kernel_rfl) rfl ?st ?steps ?done
  case st=>simp [stable_isV,stable_isRow]
  case steps =>
   refine ⟨?s0,?s1,?s2,?s3,?s4,?s5,?s6,?s7,trivial⟩
   case s0 =>
    intro K' a wy ho hd hb hK;have h3:=ho 3 (by decide);simp [slot] at h3;clear hd;go_simp;try go_bits
    exact hK _ _ rfl bR
   case s1 =>
    intro K' a wy ho hd hb hK;simp [Region.binds,rAt,IsV,slot] at hd;obtain ⟨c0,f0,c1,f1,c2,f2,c3,f3,c4,f4⟩:=HK.out wy hb;go_simp;try go_bits
    exact hK _ _ rfl bR
   case s2 =>
    intro K' a wy ho hd hb hK;simp [Region.binds,rAt,IsV,slot] at hd;go_simp;refine (specTwo_any x wy (by omega) (by omega)).mono ?_;rintro e wz ⟨rfl,hz⟩;exact hK _ _ rfl hz
   case s3 =>
    intro K' a wy ho hd hb hK;have h3:=ho 3 (by decide);simp [slot] at h3;clear hd;go_simp;try go_bits
    exact hK _ _ rfl bR
   case s4 =>
    intro K' a wy ho hd hb hK;simp [Region.binds,rAt,IsV,slot] at hd;obtain ⟨c0,f0,c1,f1,c2,f2,c3,f3,c4,f4⟩:=HK.out wy hb;go_simp;try go_bits
    exact hK _ _ rfl bR
   case s5 =>
    intro K' a wy ho hd hb hK;simp [Region.binds,rAt,IsV,slot] at hd;go_simp;refine (specTwo_any y wy (by omega) (by omega)).mono ?_;rintro e wz ⟨rfl,hz⟩;exact hK _ _ rfl hz
   case s6 =>
    intro K' a wy ho hd hb hK;simp [Region.binds,rAt,IsV,slot] at hd;go_simp;try go_bits
    exact hK _ _ rfl bR
   case s7 =>
    intro K' a wy ho hd hb hK;simp [Region.binds,rAt,IsV,slot] at hd;go_simp;try go_bits
    exact hK _ _ rfl bR
  case done =>
   intro X wz hR hz;simp only [List.nil_append,List.cons_append,RAll,IsV] at hR;simp only [putsFrom,hR];clear hR;go_simp;refine hK2 _ _ (hJ _ _ ?_);(repeat apply Exists.intro)
   refine ⟨⟨rfl,(Below.refl _ W3).drew.trans hz⟩,rfl⟩
 case rest =>
 obtain ⟨rfl,hb4⟩:=hcut;have D4:Hid (Dr w B a len cap size wc):=D3.out.below hb4;have F4:Hid (BoxF wc w.heap.size p s d x y):=F3.out.drawn (EB.of hb4) hXB;have hd4:(twoV x++twoV y).size=4:=by rw [ByteArray.size_append,zx,zy]
 have hX4:w.heap.size < wc.heap.size:=World.block_lt_of_cell? wc _ F4.out.c0;clear hb4 D3 F3 HK n0 zx zy;generalize twoV x++twoV y=d4 at *;have c0:=F4.out.c0;have HPr:Hid (∀ W,Cw 31 #[.string s,.string d] W (.bool (addrOk s&&decide (s.size=d.size)))):=fun W=>specPair_any s d W (by omega) (by omega)
 have HCk:Hid (∀ W,Cw 74 #[iV p] W (iV (checkAt p:Nat))):=fun W=>specCheck_any p W
 generalize (addrOk s&&decide (s.size=d.size))=bp at *;by_cases h17:p=17
 ·have hck:checkAt p=6:=by rw [h17]; rfl
  have d6:(p==6)=false:=by simp [h17]
  have d17:(p==17)=true:=by simp [h17]
  have HCK:Hid (checkAt p=6):=hck;clear h17 hck;have t8:=twoV_size (8+(rest.size:Int));have n1:¬ 9223372036854775807 < d4.size+(twoV (8+(rest.size:Int))).size:=by omega
  have n2:¬ 9223372036854775807 < d4.size+(twoV (8+(rest.size:Int))).size+(ByteArray.mk #[0,0]).size:=by have:(ByteArray.mk #[0,0]).size=2:=rfl; omega
  have n3:¬ 9223372036854775807 < d4.size+(twoV (8+(rest.size:Int))).size+(ByteArray.mk #[0,0]).size+rest.size:=by have:(ByteArray.mk #[0,0]).size=2:=rfl; omega
  have n4:¬ 9223372036854775807 < 4+2+2+rest.size:=by omega
  have n5:¬ 9223372036854775807 < 8+rest.size:=by omega
  go_wp2_with fail
  refine (specTwo_any (8+(rest.size:Int)) _ (by omega) (by omega)).mono ?_;rintro e W5 ⟨rfl,hb5⟩;have D5:Hid _:=D4.out.below hb5;have F5:Hid _:=F4.out.drawn (EB.of hb5) hXB;clear hb5 D4 F4;have hdz:(d4++twoV (8+(rest.size:Int))++ByteArray.mk #[0,0]++rest).size=8+rest.size:=by simp only [ByteArray.size_append]; have:(ByteArray.mk #[0,0]).size=2:=rfl; omega
  go_upto_region 13 with fail
  clear n1 n2 n3 n4 n5 t8 c0;obtain ⟨dd,hdd⟩ : ∃ dd,dd=d4++twoV (8+(rest.size:Int))++ByteArray.mk #[0,0]++rest:=⟨_,rfl⟩;rw [← hdd] at hdz ⊢;have HDD:Hid (checkAt p+2≤dd.size∧dd.size≤60):=by have:=HCK.out; unfold Hid; omega
  clear hdd hdz;obtain ⟨c0,f0,c1,f1,c2,f2,c3,f3,c4,f4⟩:=F5.out;have hun:undef=Value.tuple #[]:=rfl;go_wp2_with fail
  refine (drawOne_any 6 B a len cap size _ (by omega) hl D5.out.src).mono ?_;rintro e V23 ⟨b6,rfl,hs1,hg1⟩;have D23:Hid _:=D5.out.draw hs1 hg1;have F23:Hid _:=F5.out.drawn hg1 hXB;clear hs1 hg1 c0 f0 c1 f1 c2 f2 c3 f3 c4 f4;obtain ⟨c0,f0,c1,f1,c2,f2,c3,f3,c4,f4⟩:=F23.out
  cases b6 with
  | true =>
   go_wp2_with fail
   go_ret;exact ⟨⟨dd,rfl,by have:=HDD.out; omega⟩,D23.out.src,D23.out.grown⟩
  | false =>
   go_wp2_with fail
   refine (HPr.out _).mono ?_;rintro e V24 ⟨rfl,rfl⟩
   cases bp with
   | false =>
    go_wp2_with fail
    go_ret;exact ⟨⟨dd,rfl,by have:=HDD.out; omega⟩,D23.out.src,D23.out.grown⟩
   | true =>
    go_wp2_with fail
    refine (specCSum_any s d p dd _ hs0 hd0 hp (by have:=HDD.out.2; omega)).mono ?_;rintro e V25 ⟨sm,rfl,sm0,sm1,hb⟩;have D25:Hid _:=D23.out.below hb;have F25:Hid _:=F23.out.drawn (EB.of hb) hXB;clear hb c0 f0 c1 f1 c2 f2 c3 f3 c4 f4;go_wp2_with fail
    refine (drawOne_any 15 B a len cap size _ (by omega) hl D25.out.src).mono ?_;rintro e V26 ⟨b15,rfl,hs1,hg1⟩;have D26:Hid _:=D25.out.draw hs1 hg1;have F26:Hid _:=F25.out.drawn hg1 hXB;clear hs1 hg1 D25 F25
    cases b15 with
    | false =>
     obtain ⟨c0,f0,c1,f1,c2,f2,c3,f3,c4,f4⟩:=F26.out;go_upto_region 18 with fail
     go_wp2_with fail
     refine (HCk.out _).mono ?_;rintro e V27 ⟨rfl,rfl⟩;go_wp2_with fail
     refine (specTwo_any (65535-sm) _ (by omega) (by omega)).mono ?_;rintro e Y27 ⟨rfl,hb27⟩;have D27:Hid _:=D26.out.below hb27;clear hb27 c0 f0 c1 f1 c2 f2 c3 f3 c4 f4;go_wp2_with fail
     refine (specPut_any dd (checkAt p) (twoV (65535-sm)) _ (by rw [twoV_size]; exact HDD.out.1) (by have:=HDD.out.2; omega)).mono ?_;rintro e Z27 ⟨u,rfl,hu,hb⟩;have E27:Hid _:=D27.out.below hb;clear hb;go_wp2_with fail
     go_ret;exact ⟨⟨u,rfl,by have:=HDD.out; omega⟩,E27.out.src,E27.out.grown⟩
    | true =>
     go_wp2_with fail
     refine (drawN_any 65536 B a len cap size _ (by omega) hl D26.out.src).mono ?_;rintro e V28 ⟨rn,rfl,rn0,rn1,hs1,hg1⟩;have D28:Hid _:=D26.out.draw hs1 hg1;have F28:Hid _:=F26.out.drawn hg1 hXB;have rn2:rn≤65535:=by omega
     clear hs1 hg1 D26 F26 rn1;obtain ⟨c0,f0,c1,f1,c2,f2,c3,f3,c4,f4⟩:=F28.out;go_upto_region 18 with fail
     go_wp2_with fail
     refine (HCk.out _).mono ?_;rintro e V29 ⟨rfl,rfl⟩;go_wp2_with fail
     refine (specTwo_any rn _ (by omega) (by omega)).mono ?_;rintro e Y29 ⟨rfl,hb29⟩;have D29:Hid _:=D28.out.below hb29;clear hb29 c0 f0 c1 f1 c2 f2 c3 f3 c4 f4;go_wp2_with fail
     refine (specPut_any dd (checkAt p) (twoV rn) _ (by rw [twoV_size]; exact HDD.out.1) (by have:=HDD.out.2; omega)).mono ?_;rintro e Z29 ⟨u,rfl,hu,hb⟩;have E29:Hid _:=D29.out.below hb;clear hb;go_wp2_with fail
     go_ret;exact ⟨⟨u,rfl,by have:=HDD.out; omega⟩,E29.out.src,E29.out.grown⟩
 have d17:(p==17)=false:=by simp [h17]
 by_cases h6:p=6
 ·have d6:(p==6)=true:=by simp [h6]
  have HCK:Hid (checkAt p=16):=by rw [h6]; rfl
  clear h6 h17;go_upto_region 10 with fail
  have n1:¬ 9223372036854775807 < 20+rest.size:=by omega
  refine wp_region_growXU (EB B) (fun wx=>Dr w B a len cap size wx∧BoxF wx w.heap.size p s d x y) (Rs:=[XV (.string d4),XV (.pointer (some ⟨B,0,none⟩)),XS 8,XS 12,XV (.int .u8 fl),XRow2 B 80 fl,XS 2,XS 14,XS 20,XV (.string rest),XS (20+rest.size)]) [53,54,55,56,57,58,59,60,61,62,63] _ (by kernel_rfl) rfl (by kernel_rfl) rfl ⟨D4.out.below bR.drew,F4.out.drawn (EB.of bR.drew) hXB⟩ ?st ?steps ?lst
  case st=>simp [st_XV,st_XS,st_XRow2]
  case steps =>
   refine ⟨?s0,?s1,?s2,?s3,?s4,?s5,?s6,?s7,?s8,?s9,?s10,trivial⟩
   case s0 =>
    intro K' act wy ho hd ⟨hI1,hI2⟩ hK;have h3:=ho 7 (by decide);simp [slot] at h3;clear hd;go_simp;exact hK _ _ rfl (EB.of bR) ⟨hI1,hI2⟩
   case s1 =>
    intro K' act wy ho hd ⟨hI1,hI2⟩ hK;have h3:=ho 0 (by decide);simp [slot] at h3;clear hd;go_simp;exact hK _ _ rfl (EB.of bR) ⟨hI1,hI2⟩
   case s2 =>
    intro K' act wy ho hd ⟨hI1,hI2⟩ hK;have q1:XV (.pointer (some ⟨B,0,none⟩)) (slot act 54) wy:=hd ⟨1,.data⟩ (by simp) rfl;clear hd;unfold XV at q1;simp [slot] at q1;go_simp;refine (drawBytes_any 8 B a len cap size wy (by omega) hl hI1.src).mono ?_;rintro e wz ⟨u,rfl,hu,hsz,hgz⟩;exact hK _ _ ⟨u,rfl,hu⟩ hgz ⟨hI1.draw hsz hgz,hI2.drawn hgz hXB⟩
   case s3 =>
    intro K' act wy ho hd ⟨hI1,hI2⟩ hK;have q0:XV (.string d4) (slot act 53) wy:=hd ⟨0,.data⟩ (by simp) rfl;have q2:XS 8 (slot act 55) wy:=hd ⟨2,.data⟩ (by simp) rfl;clear hd;unfold XV at q0;simp [slot] at q0;obtain ⟨u2,q2,z2⟩:=q2;simp [slot] at q2;go_simp;exact hK _ _ ⟨d4++u2,rfl,by rw [ByteArray.size_append]; omega⟩ (EB.of bR) ⟨hI1,hI2⟩
   case s4 =>
    intro K' act wy ho hd ⟨hI1,hI2⟩ hK;have h3:=ho 5 (by decide);simp [slot] at h3;clear hd;go_simp;exact hK _ _ rfl (EB.of bR) ⟨hI1,hI2⟩
   case s5 =>
    intro K' act wy ho hd ⟨hI1,hI2⟩ hK;have q4:XV (.int .u8 fl) (slot act 57) wy:=hd ⟨4,.data⟩ (by simp) rfl;clear hd;unfold XV at q4;simp [slot] at q4;go_simp;exact hK _ _ ⟨wy.heap.size,rfl,by have:=hI1.le; omega,cell_new rfl,cell_new rfl⟩ (EB.of (bR.alloc (Nat.le_refl _) _)) ⟨hI1.alloc _,hI2.drawn (EB.of (bR.alloc (Nat.le_refl _) _)) hXB⟩
   case s6 =>
    intro K' act wy ho hd ⟨hI1,hI2⟩ hK;have q5:XRow2 B 80 fl (slot act 58) wy:=hd ⟨5,.data⟩ (by simp) rfl;clear hd;obtain ⟨b5,q5,nb5,g5,h5⟩:=q5;simp [slot] at q5;have hcv:=pair_conv (cap:=2) (by omega) hfl g5 h5;go_simp;exact hK _ _ ⟨_,rfl,rfl⟩ (EB.of bR) ⟨hI1,hI2⟩
   case s7 =>
    intro K' act wy ho hd ⟨hI1,hI2⟩ hK;have q3:XS 12 (slot act 56) wy:=hd ⟨3,.data⟩ (by simp) rfl;have q6:XS 2 (slot act 59) wy:=hd ⟨6,.data⟩ (by simp) rfl;clear hd;obtain ⟨u3,q3,z3⟩:=q3;simp [slot] at q3;obtain ⟨u6,q6,z6⟩:=q6;simp [slot] at q6;go_simp;exact hK _ _ ⟨u3++u6,rfl,by rw [ByteArray.size_append]; omega⟩ (EB.of bR) ⟨hI1,hI2⟩
   case s8 =>
    intro K' act wy ho hd ⟨hI1,hI2⟩ hK;have q7:XS 14 (slot act 60) wy:=hd ⟨7,.data⟩ (by simp) rfl;clear hd;obtain ⟨u7,q7,z7⟩:=q7;simp [slot] at q7;go_simp;exact hK _ _ ⟨_,rfl,by rw [ByteArray.size_append]; have:(ByteArray.mk #[16,0,0,0,0,0]).size=6:=rfl; omega⟩ (EB.of bR) ⟨hI1,hI2⟩
   case s9 =>
    intro K' act wy ho hd ⟨hI1,hI2⟩ hK;have h3:=ho 6 (by decide);simp [slot] at h3;clear hd;go_simp;exact hK _ _ rfl (EB.of bR) ⟨hI1,hI2⟩
   case s10 =>
    intro K' act wy ho hd ⟨hI1,hI2⟩ hK;have q8:XS 20 (slot act 61) wy:=hd ⟨8,.data⟩ (by simp) rfl;have q9:XV (.string rest) (slot act 62) wy:=hd ⟨9,.data⟩ (by simp) rfl;clear hd;obtain ⟨u8,q8,z8⟩:=q8;simp [slot] at q8;unfold XV at q9;simp [slot] at q9;go_simp;exact hK _ _ ⟨u8++rest,rfl,by rw [ByteArray.size_append]; omega⟩ (EB.of bR) ⟨hI1,hI2⟩
  case lst =>
   intro X act K' wz ha hsl hR ⟨hI1,hI2⟩ hK;have HAct:Hid (act=_):=ha;clear ha;obtain ⟨z0,z1,z2,z3,z4,z5,z6,z7,z8,z9,⟨dd,z10,hdz⟩,-⟩:=hR;have s63:=hsl 10 (by decide);rw [z10] at s63;simp [slot] at s63;clear hsl;go_simp;refine hK _ _ ?_;rw [HAct.out];simp only [putsFrom,z10];clear s63 HAct hK z0 z1 z2 z3 z4 z5 z6 z7 z8 z9 z10;go_simp;have D5:Hid _:=hI1;have F5:Hid _:=hI2;have HDD:Hid (checkAt p+2≤dd.size∧dd.size≤60):=by have:=HCK.out; unfold Hid; omega
   clear hI1 hI2 hdz D4 F4 c0 n1;obtain ⟨c0,f0,c1,f1,c2,f2,c3,f3,c4,f4⟩:=F5.out;go_upto_region 13 with fail
   have hun:undef=Value.tuple #[]:=rfl;go_wp2_with fail
   refine (HPr.out _).mono ?_;rintro e V11 ⟨rfl,rfl⟩
   cases bp with
   | false =>
    go_wp2_with fail
    go_ret;exact ⟨⟨dd,rfl,by have:=HDD.out; omega⟩,D5.out.src,D5.out.grown⟩
   | true =>
    go_wp2_with fail
    refine (specCSum_any s d p dd _ hs0 hd0 hp (by have:=HDD.out.2; omega)).mono ?_;rintro e V12 ⟨sm,rfl,sm0,sm1,hb⟩;have D12:Hid _:=D5.out.below hb;have F12:Hid _:=F5.out.drawn (EB.of hb) hXB;clear hb c0 f0 c1 f1 c2 f2 c3 f3 c4 f4;go_wp2_with fail
    refine (drawOne_any 15 B a len cap size _ (by omega) hl D12.out.src).mono ?_;rintro e V13 ⟨b15,rfl,hs1,hg1⟩;have D13:Hid _:=D12.out.draw hs1 hg1;have F13:Hid _:=F12.out.drawn hg1 hXB;clear hs1 hg1 D12 F12
    cases b15 with
    | false =>
     obtain ⟨c0,f0,c1,f1,c2,f2,c3,f3,c4,f4⟩:=F13.out;go_upto_region 18 with fail
     go_wp2_with fail
     refine (HCk.out _).mono ?_;rintro e V14 ⟨rfl,rfl⟩;go_wp2_with fail
     refine (specTwo_any (65535-sm) _ (by omega) (by omega)).mono ?_;rintro e Y14 ⟨rfl,hb14⟩;have D14:Hid _:=D13.out.below hb14;clear hb14 c0 f0 c1 f1 c2 f2 c3 f3 c4 f4;go_wp2_with fail
     refine (specPut_any dd (checkAt p) (twoV (65535-sm)) _ (by rw [twoV_size]; exact HDD.out.1) (by have:=HDD.out.2; omega)).mono ?_;rintro e Z14 ⟨u,rfl,hu,hb⟩;have E14:Hid _:=D14.out.below hb;clear hb;go_wp2_with fail
     go_ret;exact ⟨⟨u,rfl,by have:=HDD.out; omega⟩,E14.out.src,E14.out.grown⟩
    | true =>
     go_wp2_with fail
     refine (drawN_any 65536 B a len cap size _ (by omega) hl D13.out.src).mono ?_;rintro e V15 ⟨rn,rfl,rn0,rn1,hs1,hg1⟩;have D15:Hid _:=D13.out.draw hs1 hg1;have F15:Hid _:=F13.out.drawn hg1 hXB;have rn2:rn≤65535:=by omega
     clear hs1 hg1 D13 F13 rn1;obtain ⟨c0,f0,c1,f1,c2,f2,c3,f3,c4,f4⟩:=F15.out;go_upto_region 18 with fail
     go_wp2_with fail
     refine (HCk.out _).mono ?_;rintro e V16 ⟨rfl,rfl⟩;go_wp2_with fail
     refine (specTwo_any rn _ (by omega) (by omega)).mono ?_;rintro e Y16 ⟨rfl,hb16⟩;have D16:Hid _:=D15.out.below hb16;clear hb16 c0 f0 c1 f1 c2 f2 c3 f3 c4 f4;go_wp2_with fail
     refine (specPut_any dd (checkAt p) (twoV rn) _ (by rw [twoV_size]; exact HDD.out.1) (by have:=HDD.out.2; omega)).mono ?_;rintro e Z16 ⟨u,rfl,hu,hb⟩;have E16:Hid _:=D16.out.below hb;clear hb;go_wp2_with fail
     go_ret;exact ⟨⟨u,rfl,by have:=HDD.out; omega⟩,E16.out.src,E16.out.grown⟩
 have d6:(p==6)=false:=by simp [h6]
 have HCK:Hid (checkAt p=2):=by unfold Hid checkAt; rw [if_neg h6,if_neg h17]
 clear h6 h17;have hW4:B < wc.heap.size:=by omega
 go_wp2_with fail
 refine (drawN_more 2 B a len cap size _ (by omega) (by omega) hl (D4.out.alloc _).src).mono ?_;rintro e W5 ⟨r,rfl,r0,r1,hs1,hg1⟩;obtain ⟨k,rfl⟩:=Int.eq_ofNat_of_zero_le r0;obtain ⟨v,hcell,f8,rfl,hf8⟩:=pick_cell (k:=k) (p:=fun v=>∃ x,v=.int .u8 x∧(0≤x∧x≤255)) (cs:=[.int .u8 8,.int .u8 0]) hg1 hW4 (by simp; omega) (by simp);have D5:Hid (Dr w B a len cap size W5):=(D4.out.alloc _).draw hs1 hg1;have F5:Hid (BoxF W5 w.heap.size p s d x y):=(F4.out.drawn (EB.of (bR.alloc (Nat.le_refl _) _)) hXB).drawn hg1 hXB;have r1':(k:Int) < 2:=by omega
 clear hs1 hg1 D4 F4 r0 r1 c0;go_upto_region 6 with fail
 clear hcell r1';have c0:=F5.out.c0;go_upto_if 35 with fail
 go_cut [8] (fun v wx=>∃ f,v=.int .u8 f∧(0≤f∧f≤255)∧Dr w B a len cap size wx∧BoxF wx w.heap.size p s d x y)
 case first =>
  by_cases h58:p=58
  ·have d58:(p==58)=true:=by simp [h58]
   have hW5:B < W5.heap.size:=by have:=D5.out.le; omega
   clear h58;go_wp2_with fail
   refine (drawN_more 2 B a len cap size _ (by omega) (by omega) hl (D5.out.alloc _).src).mono ?_;rintro e W6 ⟨r,rfl,r0,r1,hs1,hg1⟩;obtain ⟨k2,rfl⟩:=Int.eq_ofNat_of_zero_le r0;obtain ⟨v,hcell,f9,rfl,hf9⟩:=pick_cell (k:=k2) (p:=fun v=>∃ x,v=.int .u8 x∧(0≤x∧x≤255)) (cs:=[.int .u8 128,.int .u8 129]) hg1 hW5 (by simp; omega) (by simp);have D6:Hid (Dr w B a len cap size W6):=(D5.out.alloc _).draw hs1 hg1;have F6:Hid (BoxF W6 w.heap.size p s d x y):=(F5.out.drawn (EB.of (bR.alloc (Nat.le_refl _) _)) hXB).drawn hg1 hXB;have r1':(k2:Int) < 2:=by omega
   clear hs1 hg1 r0 r1;go_wp2_with fail
   go_meet;exact ⟨f9,rfl,hf9,D6.out,F6.out⟩
  ·have d58:(p==58)=false:=by simp [h58]
   go_wp2_with fail
   go_meet;exact ⟨f8,rfl,hf8,D5.out,F5.out⟩
 case rest =>
 obtain ⟨f,rfl,hf,hD,hF⟩:=hcut;have D6:Hid _:=hD;have F6:Hid _:=hF;clear hD hF D5 F5 c0 hf8 d17 d6;go_upto_region 8 with fail
 have zx:=twoV_size x;have zq:=quadV_size f 0;have n0:¬ 9223372036854775807 < (quadV f 0).size+(twoV x).size:=by omega
 have n1:¬ 9223372036854775807 < (quadV f 0).size+(twoV x).size+rest.size:=by omega
 have n2:¬ 9223372036854775807 < (quadV f 0).size+(twoV x).size+rest.size+(ByteArray.mk #[97,98]).size:=by have:(ByteArray.mk #[97,98]).size=2:=rfl; omega
 have n3:¬ 9223372036854775807 < 4+2+rest.size:=by omega
 have n4:¬ 9223372036854775807 < 4+2+rest.size+2:=by omega
 have n5:¬ 9223372036854775807 < 6+rest.size:=by omega
 have n6:¬ 9223372036854775807 < 6+rest.size+2:=by omega
 have hdz:(quadV f 0++twoV x++rest++ByteArray.mk #[97,98]).size=8+rest.size:=by simp only [ByteArray.size_append]; have:(ByteArray.mk #[97,98]).size=2:=rfl; omega
 obtain ⟨WC,hWC⟩ : ∃ W,W=wc:=⟨_,rfl⟩;subst hWC;have HK:Hid (∀ wy,Below WC.drew.heap.size WC.drew wy→BoxF wy w.heap.size p s d x y):=fun wy hy=>F6.out.drawn (EB.of ((Below.refl _ WC).drew.trans hy)) hXB
 have HDZ:Hid _:=hdz;clear hdz;refine wp_region_growL (Rs:=[IsV (.int .u8 f),IsQuad (f) (0),IsV (.string (quadV f 0)),IsV (.pointer (some ⟨w.heap.size,3,none⟩)),IsV (iV x),IsV (.string (twoV x)),IsV (.string (quadV f 0++twoV x)),IsV (.string rest),IsV (.string (quadV f 0++twoV x++rest)),IsV (.string (quadV f 0++twoV x++rest++ByteArray.mk #[97,98])),IsV (.string (quadV f 0++twoV x++rest++ByteArray.mk #[97,98]))]) [41,42,43,44,45,46,47,48,49,50,7] (by kernel_rfl) (by kernel_rfl) rfl ?st ?steps ?done
 case st=>simp [stable_isV,stable_isQuad]
 case steps =>
  refine ⟨?s0,?s1,?s2,?s3,?s4,?s5,?s6,?s7,?s8,?s9,?s10,trivial⟩
  case s0 =>
   intro K' a wy ho hd hb hK;have h3:=ho 8 (by decide);simp [slot] at h3;clear hd;go_simp;try go_bits
   exact hK _ _ rfl bR
  case s1 =>
   intro K' a wy ho hd hb hK;simp [Region.binds,rAt,IsV,slot] at hd;go_simp;exact hK _ _ ⟨wy.heap.size,rfl,by simp,by simp,by simp,by simp⟩ (bR.alloc (Nat.le_refl _) _)
  case s2 =>
   intro K' a wy ho hd hb hK;simp only [List.forall_mem_singleton,Array.mem_def,List.mem_singleton,forall_eq] at hd;obtain ⟨b,hd1,hd2,hd3,hd4',hd5⟩ : IsQuad (f) (0) (slot a 42) wy:=hd rfl;have hcv:=quad_conv (cap:=4) hf (by omega) hd2 hd3 hd4' hd5;simp [slot] at hd1;go_simp;try go_bits
   exact hK _ _ rfl bR
  case s3 =>
   intro K' a wy ho hd hb hK;have h3:=ho 3 (by decide);simp [slot] at h3;clear hd;go_simp;try go_bits
   exact hK _ _ rfl bR
  case s4 =>
   intro K' a wy ho hd hb hK;simp [Region.binds,rAt,IsV,slot] at hd;obtain ⟨c0,f0,c1,f1,c2,f2,c3,f3,c4,f4⟩:=HK.out wy hb;go_simp;try go_bits
   exact hK _ _ rfl bR
  case s5 =>
   intro K' a wy ho hd hb hK;simp [Region.binds,rAt,IsV,slot] at hd;go_simp;refine (specTwo_any x wy (by omega) (by omega)).mono ?_;rintro e wz ⟨rfl,hz⟩;exact hK _ _ rfl hz
  case s6 =>
   intro K' a wy ho hd hb hK;simp [Region.binds,rAt,IsV,slot] at hd;go_simp;try go_bits
   exact hK _ _ rfl bR
  case s7 =>
   intro K' a wy ho hd hb hK;have h3:=ho 6 (by decide);simp [slot] at h3;clear hd;go_simp;try go_bits
   exact hK _ _ rfl bR
  case s8 =>
   intro K' a wy ho hd hb hK;simp [Region.binds,rAt,IsV,slot] at hd;go_simp;try go_bits
   exact hK _ _ rfl bR
  case s9 =>
   intro K' a wy ho hd hb hK;simp [Region.binds,rAt,IsV,slot] at hd;go_simp;try go_bits
   exact hK _ _ rfl bR
  case s10 =>
   intro K' a wy ho hd hb hK;simp [Region.binds,rAt,IsV,slot] at hd;go_simp;try go_bits
   exact hK _ _ rfl bR
 case done =>
  intro X wz hR hz;obtain ⟨x0,⟨b1,x1,-,-,-,-⟩,x2,x3,x4,x5,x6,x7,x8,x9,x10,-⟩:=hR;simp only [IsV] at x0 x2 x3 x4 x5 x6 x7 x8 x9 x10;simp only [putsFrom,x0,x1,x2,x3,x4,x5,x6,x7,x8,x9,x10];clear x0 x1 x2 x3 x4 x5 x6 x7 x8 x9 x10;go_simp;obtain ⟨dd,hdd⟩ : ∃ dd,dd=quadV f 0++twoV x++rest++ByteArray.mk #[97,98]:=⟨_,rfl⟩;rw [← hdd] at HDZ ⊢;have hdz:=HDZ.out;have D7:Hid _:=D6.out.below ((Below.refl _ WC).drew.trans hz);have F7:Hid _:=F6.out.drawn (EB.of ((Below.refl _ WC).drew.trans hz)) hXB;have HDD:Hid (checkAt p+2≤dd.size∧dd.size≤60):=by have:=HCK.out; unfold Hid; omega
  clear hz hdz hdd D6 F6 HK HDZ n0 n1 n2 n3 n4 n5 n6 zx zq;by_cases h17:p=17
  ·have:=HCK.out; rw [h17] at this; exact absurd this (by decide)
  have d17:(p==17)=false:=by simp [h17]
  clear h17;obtain ⟨c0,f0,c1,f1,c2,f2,c3,f3,c4,f4⟩:=F7.out;go_upto_region 13 with fail
  have hun:undef=Value.tuple #[]:=rfl;go_wp2_with fail
  refine (HPr.out _).mono ?_;rintro e V17 ⟨rfl,rfl⟩
  cases bp with
  | false =>
   go_wp2_with fail
   go_ret;exact ⟨⟨dd,rfl,by have:=HDD.out; omega⟩,D7.out.src,D7.out.grown⟩
  | true =>
   go_wp2_with fail
   refine (specCSum_any s d p dd _ hs0 hd0 hp (by have:=HDD.out.2; omega)).mono ?_;rintro e V18 ⟨sm,rfl,sm0,sm1,hb⟩;have D18:Hid _:=D7.out.below hb;have F18:Hid _:=F7.out.drawn (EB.of hb) hXB;clear hb c0 f0 c1 f1 c2 f2 c3 f3 c4 f4;go_wp2_with fail
   refine (drawOne_any 15 B a len cap size _ (by omega) hl D18.out.src).mono ?_;rintro e V19 ⟨b15,rfl,hs1,hg1⟩;have D19:Hid _:=D18.out.draw hs1 hg1;have F19:Hid _:=F18.out.drawn hg1 hXB;clear hs1 hg1 D18 F18
   cases b15 with
   | false =>
    obtain ⟨c0,f0,c1,f1,c2,f2,c3,f3,c4,f4⟩:=F19.out;go_upto_region 18 with fail
    go_wp2_with fail
    refine (HCk.out _).mono ?_;rintro e V20 ⟨rfl,rfl⟩;go_wp2_with fail
    refine (specTwo_any (65535-sm) _ (by omega) (by omega)).mono ?_;rintro e Y20 ⟨rfl,hb20⟩;have D20:Hid _:=D19.out.below hb20;clear hb20 c0 f0 c1 f1 c2 f2 c3 f3 c4 f4;go_wp2_with fail
    refine (specPut_any dd (checkAt p) (twoV (65535-sm)) _ (by rw [twoV_size]; exact HDD.out.1) (by have:=HDD.out.2; omega)).mono ?_;rintro e Z20 ⟨u,rfl,hu,hb⟩;have E20:Hid _:=D20.out.below hb;clear hb;go_wp2_with fail
    go_ret;exact ⟨⟨u,rfl,by have:=HDD.out; omega⟩,E20.out.src,E20.out.grown⟩
   | true =>
    go_wp2_with fail
    refine (drawN_any 65536 B a len cap size _ (by omega) hl D19.out.src).mono ?_;rintro e V21 ⟨rn,rfl,rn0,rn1,hs1,hg1⟩;have D21:Hid _:=D19.out.draw hs1 hg1;have F21:Hid _:=F19.out.drawn hg1 hXB;have rn2:rn≤65535:=by omega
    clear hs1 hg1 D19 F19 rn1;obtain ⟨c0,f0,c1,f1,c2,f2,c3,f3,c4,f4⟩:=F21.out;go_upto_region 18 with fail
    go_wp2_with fail
    refine (HCk.out _).mono ?_;rintro e V22 ⟨rfl,rfl⟩;go_wp2_with fail
    refine (specTwo_any rn _ (by omega) (by omega)).mono ?_;rintro e Y22 ⟨rfl,hb22⟩;have D22:Hid _:=D21.out.below hb22;clear hb22 c0 f0 c1 f1 c2 f2 c3 f3 c4 f4;go_wp2_with fail
    refine (specPut_any dd (checkAt p) (twoV rn) _ (by rw [twoV_size]; exact HDD.out.1) (by have:=HDD.out.2; omega)).mono ?_;rintro e Z22 ⟨u,rfl,hu,hb⟩;have E22:Hid _:=D22.out.below hb;clear hb;go_wp2_with fail
    go_ret;exact ⟨⟨u,rfl,by have:=HDD.out; omega⟩,E22.out.src,E22.out.grown⟩
end Go.Proofs.YtdkepkaflielhaaGreatDoor
