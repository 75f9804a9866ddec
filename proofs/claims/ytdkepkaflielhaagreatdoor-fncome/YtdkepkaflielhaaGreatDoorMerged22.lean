import Derived.Test.YtdkepkaflielhaaGreatDoorMerged21
set_option linter.unusedVariables false
set_option linter.unusedSimpArgs false
set_option maxRecDepth 100000
set_option maxHeartbeats 8000000
namespace Go.Proofs.YtdkepkaflielhaaGreatDoor
open Go.RowKit Go.PlainAid
def XS (n:Nat):Value→World→Prop:=fun v _=>∃ u:ByteArray,v=.string u∧u.size=n
def XRow2 (B:Nat) (x y:Int):Value→World→Prop:=fun v w=>∃ b,v=.slice (some ⟨b,0,none⟩) 2 2∧b≠B∧w.cell? ⟨b,0,none⟩=some (.int .u8 x)∧w.cell? ⟨b,1,none⟩=some (.int .u8 y)
theorem st_XS (B n:Nat):StableX (EB B) (XS n):=fun _ _ _ h _=>h
theorem st_XRow2 (B:Nat) (x y:Int):StableX (EB B) (XRow2 B x y):=fun v w w' ⟨b,h1,h2,h3,h4⟩ he=>⟨b,h1,h2,he.cell h3 h2,he.cell h4 h2⟩
theorem drawData_min (p:Int) (s d:ByteArray) (x y:Int) (B:Nat) (a:Option Addr) (len cap:Nat) (size:Int) (w:World) (hp:0≤p∧p≤255) (hs0:s.size≤16) (hd0:d.size≤16) (hx:0≤x∧x≤65535) (hy:0≤y∧y≤65535) (hl:len≤1048576) (hs:Src w B a len cap size) :
  Calls Tryz.prog 83 #[.pointer (some ⟨B,0,none⟩),flC p s d x y] w fun e w'=>(∃ u:ByteArray,e=.returned (.string u)∧u.size≤100∧checkAt p+2≤u.size)∧Src w' B a len cap size∧w.grownBy w' (some B):=by
 unfold flC;have hB:B < w.heap.size:=(Dr.start hs).hB;have D0:Hid (Dr w B a len cap size (w.alloc (.cells (FlR p s d x y).toArray 43))):=(Dr.start hs).alloc _;have F0:Hid (BoxF (w.alloc (.cells (FlR p s d x y).toArray 43)) w.heap.size p s d x y):=BoxF.new w;have hXB:w.heap.size≠B:=by omega
 have hz:Hid ((w.alloc (.cells (FlR p s d x y).toArray 43)).heap.size=w.heap.size+1):=by unfold Hid; simp
 clear hs;go_enter Tryz.func83,Tryz.ntmps83
 go_upto_region 1 with fail
 generalize (w.alloc (.cells (FlR p s d x y).toArray 43))=W0 at *;have hW0:B < W0.heap.size:=by have:=hz.out; omega
 clear hz;go_wp2_with fail
 refine (drawN_more 7 B a len cap size _ (by omega) (by omega) hl (D0.out.alloc _).src).mono ?_;rintro e W1 ⟨r,rfl,r0,r1,hs1,hg1⟩;obtain ⟨k,rfl⟩:=Int.eq_ofNat_of_zero_le r0;obtain ⟨v,hcell,fl,rfl,hfl⟩:=pick_cell (k:=k) (p:=fun v=>∃ x,v=.int .u8 x∧(0≤x∧x≤255)) (cs:=[.int .u8 2,.int .u8 18,.int .u8 16,.int .u8 24,.int .u8 17,.int .u8 4,.int .u8 25]) hg1 hW0 (by simp; omega) (by simp);have D1:Hid (Dr w B a len cap size W1):=(D0.out.alloc _).draw hs1 hg1;have F1:Hid (BoxF W1 w.heap.size p s d x y):=(F0.out.drawn (EB.of (bR.alloc lR _)) hXB).drawn hg1 hXB;have r1':(k:Int) < 7:=by omega
 clear hs1 hg1 D0 F0 r0 r1;go_upto_region 2 with fail
 clear hcell r1';go_wp2_with fail
 refine (drawN_any 12 B a len cap size _ (by omega) hl D1.out.src).mono ?_;rintro e W2 ⟨r,rfl,r0,r1,hs1,hg1⟩;obtain ⟨m,rfl⟩:=Int.eq_ofNat_of_zero_le r0;have hm:m≤11:=by omega
 have D2:Hid (Dr w B a len cap size W2):=D1.out.draw hs1 hg1;have F2:Hid (BoxF W2 w.heap.size p s d x y):=F1.out.drawn hg1 hXB;clear hs1 hg1 D1 F1 r0 r1;go_wp2_with fail
 refine (drawBytes_any m B a len cap size _ (by omega) hl D2.out.src).mono ?_;rintro e W3 ⟨rest,rfl,hrest,hs1,hg1⟩;have D3:Hid (Dr w B a len cap size W3):=D2.out.draw hs1 hg1;have F3:Hid (BoxF W3 w.heap.size p s d x y):=F2.out.drawn hg1 hXB;have hr11:rest.size≤11:=by omega
 clear hs1 hg1 D2 F2 hrest hm;go_upto_region 3 with fail
 have zx:=twoV_size x;have zy:=twoV_size y;have n0:¬ 9223372036854775807 < (twoV x).size+(twoV y).size:=by omega
 have HK:Hid (∀ wy,Below W3.drew.heap.size W3.drew wy→BoxF wy w.heap.size p s d x y):=fun wy hy=>F3.out.drawn (EB.of ((Below.refl _ W3).drew.trans hy)) hXB
 go_cut [7] (fun v wx=>v=.string (twoV x++twoV y)∧Below W3.heap.size W3 wx)
 case first =>
  rename_i J K2 hJ hK2;refine wp_region_growL (Rs:=[IsV (.pointer (some ⟨w.heap.size,3,none⟩)),IsV (iV x),IsV (.string (twoV x)),IsV (.pointer (some ⟨w.heap.size,4,none⟩)),IsV (iV y),IsV (.string (twoV y)),IsV (.string (twoV x++twoV y)),IsV (.string (twoV x++twoV y))]) [19,20,21,22,23,24,25,7] (by kernel_rfl) (by kernel_rfl) rfl ?st ?steps ?done
  case st=>simp [stable_isV,stable_isRow]
  case steps =>
   refine ⟨?s0,?s1,?s2,?s3,?s4,?s5,?s6,?s7,trivial⟩
   case s0 =>
    intro K' a wy ho hd hb hK;have h3:=ho 3 (by decide);simp [slot] at h3;clear hd;go_simp;try go_bits
    exact hK _ _ rfl bR
   case s1 =>
    intro K' a wy ho hd hb hK;simp [Region.binds,rAt,IsV,slot] at hd;obtain ⟨c0,f0,c1,f1,c2,f2,c3,f3,c4,f4⟩:=HK.out wy hb;go_simp;try go_bits
    exact hK _ _ rfl bR
   case s2 =>
    intro K' a wy ho hd hb hK;simp [Region.binds,rAt,IsV,slot] at hd;go_simp;refine (specTwo_any x wy (by omega) (by omega)).mono ?_;rintro e wz ⟨rfl,hz⟩;exact hK _ _ rfl hz
   case s3 =>
    intro K' a wy ho hd hb hK;have h3:=ho 3 (by decide);simp [slot] at h3;clear hd;go_simp;try go_bits
    exact hK _ _ rfl bR
   case s4 =>
    intro K' a wy ho hd hb hK;simp [Region.binds,rAt,IsV,slot] at hd;obtain ⟨c0,f0,c1,f1,c2,f2,c3,f3,c4,f4⟩:=HK.out wy hb;go_simp;try go_bits
    exact hK _ _ rfl bR
   case s5 =>
    intro K' a wy ho hd hb hK;simp [Region.binds,rAt,IsV,slot] at hd;go_simp;refine (specTwo_any y wy (by omega) (by omega)).mono ?_;rintro e wz ⟨rfl,hz⟩;exact hK _ _ rfl hz
   case s6 =>
    intro K' a wy ho hd hb hK;simp [Region.binds,rAt,IsV,slot] at hd;go_simp;try go_bits
    exact hK _ _ rfl bR
   case s7 =>
    intro K' a wy ho hd hb hK;simp [Region.binds,rAt,IsV,slot] at hd;go_simp;try go_bits
    exact hK _ _ rfl bR
  case done =>
   intro X wz hR hz;simp only [List.nil_append,List.cons_append,RAll,IsV] at hR;simp only [putsFrom,hR];clear hR;go_simp;refine hK2 _ _ (hJ _ _ ?_);(repeat apply Exists.intro)
   refine ⟨⟨rfl,(Below.refl _ W3).drew.trans hz⟩,rfl⟩
 case rest =>
 obtain ⟨rfl,hb4⟩:=hcut;have D4:Hid (Dr w B a len cap size wc):=D3.out.below hb4;have F4:Hid (BoxF wc w.heap.size p s d x y):=F3.out.drawn (EB.of hb4) hXB;have hd4:(twoV x++twoV y).size=4:=by rw [ByteArray.size_append,zx,zy]
 have hX4:w.heap.size < wc.heap.size:=World.block_lt_of_cell? wc _ F4.out.c0;clear hb4 D3 F3 HK n0 zx zy;generalize twoV x++twoV y=d4 at *;have c0:=F4.out.c0;have HPr:Hid (∀ W,Cw 31 #[.string s,.string d] W (.bool (addrOk s&&decide (s.size=d.size)))):=fun W=>specPair_any s d W (by omega) (by omega)
 have HCk:Hid (∀ W,Cw 74 #[iV p] W (iV (checkAt p:Nat))):=fun W=>specCheck_any p W
 generalize (addrOk s&&decide (s.size=d.size))=bp at *;by_cases h17:p=17
 ·have hck:checkAt p=6:=by rw [h17]; rfl
  have d6:(p==6)=false:=by simp [h17]
  have d17:(p==17)=true:=by simp [h17]
  have HCK:Hid (checkAt p=6):=hck;clear h17 hck;have t8:=twoV_size (8+(rest.size:Int));have n1:¬ 9223372036854775807 < d4.size+(twoV (8+(rest.size:Int))).size:=by omega
  have n2:¬ 9223372036854775807 < d4.size+(twoV (8+(rest.size:Int))).size+(ByteArray.mk #[0,0]).size:=by have:(ByteArray.mk #[0,0]).size=2:=rfl; omega
  have n3:¬ 9223372036854775807 < d4.size+(twoV (8+(rest.size:Int))).size+(ByteArray.mk #[0,0]).size+rest.size:=by have:(ByteArray.mk #[0,0]).size=2:=rfl; omega
  have n4:¬ 9223372036854775807 < 4+2+2+rest.size:=by omega
  have n5:¬ 9223372036854775807 < 8+rest.size:=by omega
  go_wp2_with fail
  refine (specTwo_any (8+(rest.size:Int)) _ (by omega) (by omega)).mono ?_;rintro e W5 ⟨rfl,hb5⟩;have D5:Hid _:=D4.out.below hb5;have F5:Hid _:=F4.out.drawn (EB.of hb5) hXB;clear hb5 D4 F4;have hdz:(d4++twoV (8+(rest.size:Int))++ByteArray.mk #[0,0]++rest).size=8+rest.size:=by simp only [ByteArray.size_append]; have:(ByteArray.mk #[0,0]).size=2:=rfl; omega
  go_upto_region 13 with fail
  clear n1 n2 n3 n4 n5 t8 c0;obtain ⟨dd,hdd⟩ : ∃ dd,dd=d4++twoV (8+(rest.size:Int))++ByteArray.mk #[0,0]++rest:=⟨_,rfl⟩;rw [← hdd] at hdz ⊢;have HDD:Hid (checkAt p+2≤dd.size∧dd.size≤60):=by have:=HCK.out; unfold Hid; omega
  clear hdd hdz;obtain ⟨c0,f0,c1,f1,c2,f2,c3,f3,c4,f4⟩:=F5.out;have hun:undef=Value.tuple #[]:=rfl;go_wp2_with fail
  refine (drawOne_any 6 B a len cap size _ (by omega) hl D5.out.src).mono ?_;rintro e V23 ⟨b6,rfl,hs1,hg1⟩;have D23:Hid _:=D5.out.draw hs1 hg1;have F23:Hid _:=F5.out.drawn hg1 hXB;clear hs1 hg1 c0 f0 c1 f1 c2 f2 c3 f3 c4 f4;obtain ⟨c0,f0,c1,f1,c2,f2,c3,f3,c4,f4⟩:=F23.out
  cases b6 with
  | true =>
   go_wp2_with fail
   go_ret;exact ⟨⟨dd,rfl,by have:=HDD.out; omega⟩,D23.out.src,D23.out.grown⟩
  | false =>
   go_wp2_with fail
   refine (HPr.out _).mono ?_;rintro e V24 ⟨rfl,rfl⟩
   cases bp with
   | false =>
    go_wp2_with fail
    go_ret;exact ⟨⟨dd,rfl,by have:=HDD.out; omega⟩,D23.out.src,D23.out.grown⟩
   | true =>
    go_wp2_with fail
    refine (specCSum_any s d p dd _ hs0 hd0 hp (by have:=HDD.out.2; omega)).mono ?_;rintro e V25 ⟨sm,rfl,sm0,sm1,hb⟩;have D25:Hid _:=D23.out.below hb;have F25:Hid _:=F23.out.drawn (EB.of hb) hXB;clear hb c0 f0 c1 f1 c2 f2 c3 f3 c4 f4;go_wp2_with fail
    refine (drawOne_any 15 B a len cap size _ (by omega) hl D25.out.src).mono ?_;rintro e V26 ⟨b15,rfl,hs1,hg1⟩;have D26:Hid _:=D25.out.draw hs1 hg1;have F26:Hid _:=F25.out.drawn hg1 hXB;clear hs1 hg1 D25 F25
    cases b15 with
    | false =>
     obtain ⟨c0,f0,c1,f1,c2,f2,c3,f3,c4,f4⟩:=F26.out;go_upto_region 18 with fail
     go_wp2_with fail
     refine (HCk.out _).mono ?_;rintro e V27 ⟨rfl,rfl⟩;go_wp2_with fail
     refine (specTwo_any (65535-sm) _ (by omega) (by omega)).mono ?_;rintro e Y27 ⟨rfl,hb27⟩;have D27:Hid _:=D26.out.below hb27;clear hb27 c0 f0 c1 f1 c2 f2 c3 f3 c4 f4;go_wp2_with fail
     refine (specPut_any dd (checkAt p) (twoV (65535-sm)) _ (by rw [twoV_size]; exact HDD.out.1) (by have:=HDD.out.2; omega)).mono ?_;rintro e Z27 ⟨u,rfl,hu,hb⟩;have E27:Hid _:=D27.out.below hb;clear hb;go_wp2_with fail
     go_ret;exact ⟨⟨u,rfl,by have:=HDD.out; omega⟩,E27.out.src,E27.out.grown⟩
    | true =>
     go_wp2_with fail
     refine (drawN_any 65536 B a len cap size _ (by omega) hl D26.out.src).mono ?_;rintro e V28 ⟨rn,rfl,rn0,rn1,hs1,hg1⟩;have D28:Hid _:=D26.out.draw hs1 hg1;have F28:Hid _:=F26.out.drawn hg1 hXB;have rn2:rn≤65535:=by omega
     clear hs1 hg1 D26 F26 rn1;obtain ⟨c0,f0,c1,f1,c2,f2,c3,f3,c4,f4⟩:=F28.out;go_upto_region 18 with fail
     go_wp2_with fail
     refine (HCk.out _).mono ?_;rintro e V29 ⟨rfl,rfl⟩;go_wp2_with fail
     refine (specTwo_any rn _ (by omega) (by omega)).mono ?_;rintro e Y29 ⟨rfl,hb29⟩;have D29:Hid _:=D28.out.below hb29;clear hb29 c0 f0 c1 f1 c2 f2 c3 f3 c4 f4;go_wp2_with fail
     refine (specPut_any dd (checkAt p) (twoV rn) _ (by rw [twoV_size]; exact HDD.out.1) (by have:=HDD.out.2; omega)).mono ?_;rintro e Z29 ⟨u,rfl,hu,hb⟩;have E29:Hid _:=D29.out.below hb;clear hb;go_wp2_with fail
     go_ret;exact ⟨⟨u,rfl,by have:=HDD.out; omega⟩,E29.out.src,E29.out.grown⟩
 have d17:(p==17)=false:=by simp [h17]
 by_cases h6:p=6
 ·have d6:(p==6)=true:=by simp [h6]
  have HCK:Hid (checkAt p=16):=by rw [h6]; rfl
  clear h6 h17;go_upto_region 10 with fail
  have n1:¬ 9223372036854775807 < 20+rest.size:=by omega
  refine wp_region_growXU (EB B) (fun wx=>Dr w B a len cap size wx∧BoxF wx w.heap.size p s d x y) (Rs:=[XV (.string d4),XV (.pointer (some ⟨B,0,none⟩)),XS 8,XS 12,XV (.int .u8 fl),XRow2 B 80 fl,XS 2,XS 14,XS 20,XV (.string rest),XS (20+rest.size)]) [53,54,55,56,57,58,59,60,61,62,63] _ (by kernel_rfl) rfl (by kernel_rfl) rfl ⟨D4.out.below bR.drew,F4.out.drawn (EB.of bR.drew) hXB⟩ ?st ?steps ?lst
  case st=>simp [st_XV,st_XS,st_XRow2]
  case steps =>
   refine ⟨?s0,?s1,?s2,?s3,?s4,?s5,?s6,?s7,?s8,?s9,?s10,trivial⟩
   case s0 =>
    intro K' act wy ho hd ⟨hI1,hI2⟩ hK;have h3:=ho 7 (by decide);simp [slot] at h3;clear hd;go_simp;exact hK _ _ rfl (EB.of bR) ⟨hI1,hI2⟩
   case s1 =>
    intro K' act wy ho hd ⟨hI1,hI2⟩ hK;have h3:=ho 0 (by decide);simp [slot] at h3;clear hd;go_simp;exact hK _ _ rfl (EB.of bR) ⟨hI1,hI2⟩
   case s2 =>
    intro K' act wy ho hd ⟨hI1,hI2⟩ hK;have q1:XV (.pointer (some ⟨B,0,none⟩)) (slot act 54) wy:=hd ⟨1,.data⟩ (by simp) rfl;clear hd;unfold XV at q1;simp [slot] at q1;go_simp;refine (drawBytes_any 8 B a len cap size wy (by omega) hl hI1.src).mono ?_;rintro e wz ⟨u,rfl,hu,hsz,hgz⟩;exact hK _ _ ⟨u,rfl,hu⟩ hgz ⟨hI1.draw hsz hgz,hI2.drawn hgz hXB⟩
   case s3 =>
    intro K' act wy ho hd ⟨hI1,hI2⟩ hK;have q0:XV (.string d4) (slot act 53) wy:=hd ⟨0,.data⟩ (by simp) rfl;have q2:XS 8 (slot act 55) wy:=hd ⟨2,.data⟩ (by simp) rfl;clear hd;unfold XV at q0;simp [slot] at q0;obtain ⟨u2,q2,z2⟩:=q2;simp [slot] at q2;go_simp;exact hK _ _ ⟨d4++u2,rfl,by rw [ByteArray.size_append]; omega⟩ (EB.of bR) ⟨hI1,hI2⟩
   case s4 =>
    intro K' act wy ho hd ⟨hI1,hI2⟩ hK;have h3:=ho 5 (by decide);simp [slot] at h3;clear hd;go_simp;exact hK _ _ rfl (EB.of bR) ⟨hI1,hI2⟩
   case s5 =>
    intro K' act wy ho hd ⟨hI1,hI2⟩ hK;have q4:XV (.int .u8 fl) (slot act 57) wy:=hd ⟨4,.data⟩ (by simp) rfl;clear hd;unfold XV at q4;simp [slot] at q4;go_simp;exact hK _ _ ⟨wy.heap.size,rfl,by have:=hI1.le; omega,cell_new rfl,cell_new rfl⟩ (EB.of (bR.alloc lR _)) ⟨hI1.alloc _,hI2.drawn (EB.of (bR.alloc lR _)) hXB⟩
   case s6 =>
    intro K' act wy ho hd ⟨hI1,hI2⟩ hK;have q5:XRow2 B 80 fl (slot act 58) wy:=hd ⟨5,.data⟩ (by simp) rfl;clear hd;obtain ⟨b5,q5,nb5,g5,h5⟩:=q5;simp [slot] at q5;have hcv:=pair_conv (cap:=2) (by omega) hfl g5 h5;go_simp;exact hK _ _ ⟨_,rfl,rfl⟩ (EB.of bR) ⟨hI1,hI2⟩
   case s7 =>
    intro K' act wy ho hd ⟨hI1,hI2⟩ hK;have q3:XS 12 (slot act 56) wy:=hd ⟨3,.data⟩ (by simp) rfl;have q6:XS 2 (slot act 59) wy:=hd ⟨6,.data⟩ (by simp) rfl;clear hd;obtain ⟨u3,q3,z3⟩:=q3;simp [slot] at q3;obtain ⟨u6,q6,z6⟩:=q6;simp [slot] at q6;go_simp;exact hK _ _ ⟨u3++u6,rfl,by rw [ByteArray.size_append]; omega⟩ (EB.of bR) ⟨hI1,hI2⟩
   case s8 =>
    intro K' act wy ho hd ⟨hI1,hI2⟩ hK;have q7:XS 14 (slot act 60) wy:=hd ⟨7,.data⟩ (by simp) rfl;clear hd;obtain ⟨u7,q7,z7⟩:=q7;simp [slot] at q7;go_simp;exact hK _ _ ⟨_,rfl,by rw [ByteArray.size_append]; have:(ByteArray.mk #[16,0,0,0,0,0]).size=6:=rfl; omega⟩ (EB.of bR) ⟨hI1,hI2⟩
   case s9 =>
    intro K' act wy ho hd ⟨hI1,hI2⟩ hK;have h3:=ho 6 (by decide);simp [slot] at h3;clear hd;go_simp;exact hK _ _ rfl (EB.of bR) ⟨hI1,hI2⟩
   case s10 =>
    intro K' act wy ho hd ⟨hI1,hI2⟩ hK;have q8:XS 20 (slot act 61) wy:=hd ⟨8,.data⟩ (by simp) rfl;have q9:XV (.string rest) (slot act 62) wy:=hd ⟨9,.data⟩ (by simp) rfl;clear hd;obtain ⟨u8,q8,z8⟩:=q8;simp [slot] at q8;unfold XV at q9;simp [slot] at q9;go_simp;exact hK _ _ ⟨u8++rest,rfl,by rw [ByteArray.size_append]; omega⟩ (EB.of bR) ⟨hI1,hI2⟩
  case lst =>
   intro X act K' wz ha hsl hR ⟨hI1,hI2⟩ hK;have HAct:Hid (act=_):=ha;clear ha;obtain ⟨z0,z1,z2,z3,z4,z5,z6,z7,z8,z9,⟨dd,z10,hdz⟩,-⟩:=hR;have s63:=hsl 10 (by decide);rw [z10] at s63;simp [slot] at s63;clear hsl;go_simp;refine hK _ _ ?_;rw [HAct.out];simp only [putsFrom,z10];clear s63 HAct hK z0 z1 z2 z3 z4 z5 z6 z7 z8 z9 z10;go_simp;have D5:Hid _:=hI1;have F5:Hid _:=hI2;have HDD:Hid (checkAt p+2≤dd.size∧dd.size≤60):=by have:=HCK.out; unfold Hid; omega
   clear hI1 hI2 hdz D4 F4 c0 n1;obtain ⟨c0,f0,c1,f1,c2,f2,c3,f3,c4,f4⟩:=F5.out;go_upto_region 13 with fail
   have hun:undef=Value.tuple #[]:=rfl;go_wp2_with fail
   refine (HPr.out _).mono ?_;rintro e V11 ⟨rfl,rfl⟩
   cases bp with
   | false =>
    go_wp2_with fail
    go_ret;exact ⟨⟨dd,rfl,by have:=HDD.out; omega⟩,D5.out.src,D5.out.grown⟩
   | true =>
    go_wp2_with fail
    refine (specCSum_any s d p dd _ hs0 hd0 hp (by have:=HDD.out.2; omega)).mono ?_;rintro e V12 ⟨sm,rfl,sm0,sm1,hb⟩;have D12:Hid _:=D5.out.below hb;have F12:Hid _:=F5.out.drawn (EB.of hb) hXB;clear hb c0 f0 c1 f1 c2 f2 c3 f3 c4 f4;go_wp2_with fail
    refine (drawOne_any 15 B a len cap size _ (by omega) hl D12.out.src).mono ?_;rintro e V13 ⟨b15,rfl,hs1,hg1⟩;have D13:Hid _:=D12.out.draw hs1 hg1;have F13:Hid _:=F12.out.drawn hg1 hXB;clear hs1 hg1 D12 F12
    cases b15 with
    | false =>
     obtain ⟨c0,f0,c1,f1,c2,f2,c3,f3,c4,f4⟩:=F13.out;go_upto_region 18 with fail
     go_wp2_with fail
     refine (HCk.out _).mono ?_;rintro e V14 ⟨rfl,rfl⟩;go_wp2_with fail
     refine (specTwo_any (65535-sm) _ (by omega) (by omega)).mono ?_;rintro e Y14 ⟨rfl,hb14⟩;have D14:Hid _:=D13.out.below hb14;clear hb14 c0 f0 c1 f1 c2 f2 c3 f3 c4 f4;go_wp2_with fail
     refine (specPut_any dd (checkAt p) (twoV (65535-sm)) _ (by rw [twoV_size]; exact HDD.out.1) (by have:=HDD.out.2; omega)).mono ?_;rintro e Z14 ⟨u,rfl,hu,hb⟩;have E14:Hid _:=D14.out.below hb;clear hb;go_wp2_with fail
     go_ret;exact ⟨⟨u,rfl,by have:=HDD.out; omega⟩,E14.out.src,E14.out.grown⟩
    | true =>
     go_wp2_with fail
     refine (drawN_any 65536 B a len cap size _ (by omega) hl D13.out.src).mono ?_;rintro e V15 ⟨rn,rfl,rn0,rn1,hs1,hg1⟩;have D15:Hid _:=D13.out.draw hs1 hg1;have F15:Hid _:=F13.out.drawn hg1 hXB;have rn2:rn≤65535:=by omega
     clear hs1 hg1 D13 F13 rn1;obtain ⟨c0,f0,c1,f1,c2,f2,c3,f3,c4,f4⟩:=F15.out;go_upto_region 18 with fail
     go_wp2_with fail
     refine (HCk.out _).mono ?_;rintro e V16 ⟨rfl,rfl⟩;go_wp2_with fail
     refine (specTwo_any rn _ (by omega) (by omega)).mono ?_;rintro e Y16 ⟨rfl,hb16⟩;have D16:Hid _:=D15.out.below hb16;clear hb16 c0 f0 c1 f1 c2 f2 c3 f3 c4 f4;go_wp2_with fail
     refine (specPut_any dd (checkAt p) (twoV rn) _ (by rw [twoV_size]; exact HDD.out.1) (by have:=HDD.out.2; omega)).mono ?_;rintro e Z16 ⟨u,rfl,hu,hb⟩;have E16:Hid _:=D16.out.below hb;clear hb;go_wp2_with fail
     go_ret;exact ⟨⟨u,rfl,by have:=HDD.out; omega⟩,E16.out.src,E16.out.grown⟩
 have d6:(p==6)=false:=by simp [h6]
 have HCK:Hid (checkAt p=2):=by unfold Hid checkAt; rw [if_neg h6,if_neg h17]
 clear h6 h17;have hW4:B < wc.heap.size:=by omega
 go_wp2_with fail
 refine (drawN_more 2 B a len cap size _ (by omega) (by omega) hl (D4.out.alloc _).src).mono ?_;rintro e W5 ⟨r,rfl,r0,r1,hs1,hg1⟩;obtain ⟨k,rfl⟩:=Int.eq_ofNat_of_zero_le r0;obtain ⟨v,hcell,f8,rfl,hf8⟩:=pick_cell (k:=k) (p:=fun v=>∃ x,v=.int .u8 x∧(0≤x∧x≤255)) (cs:=[.int .u8 8,.int .u8 0]) hg1 hW4 (by simp; omega) (by simp);have D5:Hid (Dr w B a len cap size W5):=(D4.out.alloc _).draw hs1 hg1;have F5:Hid (BoxF W5 w.heap.size p s d x y):=(F4.out.drawn (EB.of (bR.alloc lR _)) hXB).drawn hg1 hXB;have r1':(k:Int) < 2:=by omega
 clear hs1 hg1 D4 F4 r0 r1 c0;go_upto_region 6 with fail
 clear hcell r1';have c0:=F5.out.c0;go_upto_if 35 with fail
 go_cut [8] (fun v wx=>∃ f,v=.int .u8 f∧(0≤f∧f≤255)∧Dr w B a len cap size wx∧BoxF wx w.heap.size p s d x y)
 case first =>
  by_cases h58:p=58
  ·have d58:(p==58)=true:=by simp [h58]
   have hW5:B < W5.heap.size:=by have:=D5.out.le; omega
   clear h58;go_wp2_with fail
   refine (drawN_more 2 B a len cap size _ (by omega) (by omega) hl (D5.out.alloc _).src).mono ?_;rintro e W6 ⟨r,rfl,r0,r1,hs1,hg1⟩;obtain ⟨k2,rfl⟩:=Int.eq_ofNat_of_zero_le r0;obtain ⟨v,hcell,f9,rfl,hf9⟩:=pick_cell (k:=k2) (p:=fun v=>∃ x,v=.int .u8 x∧(0≤x∧x≤255)) (cs:=[.int .u8 128,.int .u8 129]) hg1 hW5 (by simp; omega) (by simp);have D6:Hid (Dr w B a len cap size W6):=(D5.out.alloc _).draw hs1 hg1;have F6:Hid (BoxF W6 w.heap.size p s d x y):=(F5.out.drawn (EB.of (bR.alloc lR _)) hXB).drawn hg1 hXB;have r1':(k2:Int) < 2:=by omega
   clear hs1 hg1 r0 r1;go_wp2_with fail
   go_meet;exact ⟨f9,rfl,hf9,D6.out,F6.out⟩
  ·have d58:(p==58)=false:=by simp [h58]
   go_wp2_with fail
   go_meet;exact ⟨f8,rfl,hf8,D5.out,F5.out⟩
 case rest =>
 obtain ⟨f,rfl,hf,hD,hF⟩:=hcut;have D6:Hid _:=hD;have F6:Hid _:=hF;clear hD hF D5 F5 c0 hf8 d17 d6;go_upto_region 8 with fail
 have zx:=twoV_size x;have zq:=quadV_size f 0;have n0:¬ 9223372036854775807 < (quadV f 0).size+(twoV x).size:=by omega
 have n1:¬ 9223372036854775807 < (quadV f 0).size+(twoV x).size+rest.size:=by omega
 have n2:¬ 9223372036854775807 < (quadV f 0).size+(twoV x).size+rest.size+(ByteArray.mk #[97,98]).size:=by have:(ByteArray.mk #[97,98]).size=2:=rfl; omega
 have n3:¬ 9223372036854775807 < 4+2+rest.size:=by omega
 have n4:¬ 9223372036854775807 < 4+2+rest.size+2:=by omega
 have n5:¬ 9223372036854775807 < 6+rest.size:=by omega
 have n6:¬ 9223372036854775807 < 6+rest.size+2:=by omega
 have hdz:(quadV f 0++twoV x++rest++ByteArray.mk #[97,98]).size=8+rest.size:=by simp only [ByteArray.size_append]; have:(ByteArray.mk #[97,98]).size=2:=rfl; omega
 obtain ⟨WC,hWC⟩ : ∃ W,W=wc:=⟨_,rfl⟩;subst hWC;have HK:Hid (∀ wy,Below WC.drew.heap.size WC.drew wy→BoxF wy w.heap.size p s d x y):=fun wy hy=>F6.out.drawn (EB.of ((Below.refl _ WC).drew.trans hy)) hXB
 have HDZ:Hid _:=hdz;clear hdz;refine wp_region_growL (Rs:=[IsV (.int .u8 f),IsQuad (f) (0),IsV (.string (quadV f 0)),IsV (.pointer (some ⟨w.heap.size,3,none⟩)),IsV (iV x),IsV (.string (twoV x)),IsV (.string (quadV f 0++twoV x)),IsV (.string rest),IsV (.string (quadV f 0++twoV x++rest)),IsV (.string (quadV f 0++twoV x++rest++ByteArray.mk #[97,98])),IsV (.string (quadV f 0++twoV x++rest++ByteArray.mk #[97,98]))]) [41,42,43,44,45,46,47,48,49,50,7] (by kernel_rfl) (by kernel_rfl) rfl ?st ?steps ?done
 case st=>simp [stable_isV,stable_isQuad]
 case steps =>
  refine ⟨?s0,?s1,?s2,?s3,?s4,?s5,?s6,?s7,?s8,?s9,?s10,trivial⟩
  case s0 =>
   intro K' a wy ho hd hb hK;have h3:=ho 8 (by decide);simp [slot] at h3;clear hd;go_simp;try go_bits
   exact hK _ _ rfl bR
  case s1 =>
   intro K' a wy ho hd hb hK;simp [Region.binds,rAt,IsV,slot] at hd;go_simp;exact hK _ _ ⟨wy.heap.size,rfl,by simp,by simp,by simp,by simp⟩ (bR.alloc lR _)
  case s2 =>
   intro K' a wy ho hd hb hK;simp only [List.forall_mem_singleton,Array.mem_def,List.mem_singleton,forall_eq] at hd;obtain ⟨b,hd1,hd2,hd3,hd4',hd5⟩ : IsQuad (f) (0) (slot a 42) wy:=hd rfl;have hcv:=quad_conv (cap:=4) hf (by omega) hd2 hd3 hd4' hd5;simp [slot] at hd1;go_simp;try go_bits
   exact hK _ _ rfl bR
  case s3 =>
   intro K' a wy ho hd hb hK;have h3:=ho 3 (by decide);simp [slot] at h3;clear hd;go_simp;try go_bits
   exact hK _ _ rfl bR
  case s4 =>
   intro K' a wy ho hd hb hK;simp [Region.binds,rAt,IsV,slot] at hd;obtain ⟨c0,f0,c1,f1,c2,f2,c3,f3,c4,f4⟩:=HK.out wy hb;go_simp;try go_bits
   exact hK _ _ rfl bR
  case s5 =>
   intro K' a wy ho hd hb hK;simp [Region.binds,rAt,IsV,slot] at hd;go_simp;refine (specTwo_any x wy (by omega) (by omega)).mono ?_;rintro e wz ⟨rfl,hz⟩;exact hK _ _ rfl hz
  case s6 =>
   intro K' a wy ho hd hb hK;simp [Region.binds,rAt,IsV,slot] at hd;go_simp;try go_bits
   exact hK _ _ rfl bR
  case s7 =>
   intro K' a wy ho hd hb hK;have h3:=ho 6 (by decide);simp [slot] at h3;clear hd;go_simp;try go_bits
   exact hK _ _ rfl bR
  case s8 =>
   intro K' a wy ho hd hb hK;simp [Region.binds,rAt,IsV,slot] at hd;go_simp;try go_bits
   exact hK _ _ rfl bR
  case s9 =>
   intro K' a wy ho hd hb hK;simp [Region.binds,rAt,IsV,slot] at hd;go_simp;try go_bits
   exact hK _ _ rfl bR
  case s10 =>
   intro K' a wy ho hd hb hK;simp [Region.binds,rAt,IsV,slot] at hd;go_simp;try go_bits
   exact hK _ _ rfl bR
 case done =>
  intro X wz hR hz;obtain ⟨x0,⟨b1,x1,-,-,-,-⟩,x2,x3,x4,x5,x6,x7,x8,x9,x10,-⟩:=hR;simp only [IsV] at x0 x2 x3 x4 x5 x6 x7 x8 x9 x10;simp only [putsFrom,x0,x1,x2,x3,x4,x5,x6,x7,x8,x9,x10];clear x0 x1 x2 x3 x4 x5 x6 x7 x8 x9 x10;go_simp;obtain ⟨dd,hdd⟩ : ∃ dd,dd=quadV f 0++twoV x++rest++ByteArray.mk #[97,98]:=⟨_,rfl⟩;rw [← hdd] at HDZ ⊢;have hdz:=HDZ.out;have D7:Hid _:=D6.out.below ((Below.refl _ WC).drew.trans hz);have F7:Hid _:=F6.out.drawn (EB.of ((Below.refl _ WC).drew.trans hz)) hXB;have HDD:Hid (checkAt p+2≤dd.size∧dd.size≤60):=by have:=HCK.out; unfold Hid; omega
  clear hz hdz hdd D6 F6 HK HDZ n0 n1 n2 n3 n4 n5 n6 zx zq;by_cases h17:p=17
  ·have:=HCK.out; rw [h17] at this; exact absurd this (by decide)
  have d17:(p==17)=false:=by simp [h17]
  clear h17;obtain ⟨c0,f0,c1,f1,c2,f2,c3,f3,c4,f4⟩:=F7.out;go_upto_region 13 with fail
  have hun:undef=Value.tuple #[]:=rfl;go_wp2_with fail
  refine (HPr.out _).mono ?_;rintro e V17 ⟨rfl,rfl⟩
  cases bp with
  | false =>
   go_wp2_with fail
   go_ret;exact ⟨⟨dd,rfl,by have:=HDD.out; omega⟩,D7.out.src,D7.out.grown⟩
  | true =>
   go_wp2_with fail
   refine (specCSum_any s d p dd _ hs0 hd0 hp (by have:=HDD.out.2; omega)).mono ?_;rintro e V18 ⟨sm,rfl,sm0,sm1,hb⟩;have D18:Hid _:=D7.out.below hb;have F18:Hid _:=F7.out.drawn (EB.of hb) hXB;clear hb c0 f0 c1 f1 c2 f2 c3 f3 c4 f4;go_wp2_with fail
   refine (drawOne_any 15 B a len cap size _ (by omega) hl D18.out.src).mono ?_;rintro e V19 ⟨b15,rfl,hs1,hg1⟩;have D19:Hid _:=D18.out.draw hs1 hg1;have F19:Hid _:=F18.out.drawn hg1 hXB;clear hs1 hg1 D18 F18
   cases b15 with
   | false =>
    obtain ⟨c0,f0,c1,f1,c2,f2,c3,f3,c4,f4⟩:=F19.out;go_upto_region 18 with fail
    go_wp2_with fail
    refine (HCk.out _).mono ?_;rintro e V20 ⟨rfl,rfl⟩;go_wp2_with fail
    refine (specTwo_any (65535-sm) _ (by omega) (by omega)).mono ?_;rintro e Y20 ⟨rfl,hb20⟩;have D20:Hid _:=D19.out.below hb20;clear hb20 c0 f0 c1 f1 c2 f2 c3 f3 c4 f4;go_wp2_with fail
    refine (specPut_any dd (checkAt p) (twoV (65535-sm)) _ (by rw [twoV_size]; exact HDD.out.1) (by have:=HDD.out.2; omega)).mono ?_;rintro e Z20 ⟨u,rfl,hu,hb⟩;have E20:Hid _:=D20.out.below hb;clear hb;go_wp2_with fail
    go_ret;exact ⟨⟨u,rfl,by have:=HDD.out; omega⟩,E20.out.src,E20.out.grown⟩
   | true =>
    go_wp2_with fail
    refine (drawN_any 65536 B a len cap size _ (by omega) hl D19.out.src).mono ?_;rintro e V21 ⟨rn,rfl,rn0,rn1,hs1,hg1⟩;have D21:Hid _:=D19.out.draw hs1 hg1;have F21:Hid _:=F19.out.drawn hg1 hXB;have rn2:rn≤65535:=by omega
    clear hs1 hg1 D19 F19 rn1;obtain ⟨c0,f0,c1,f1,c2,f2,c3,f3,c4,f4⟩:=F21.out;go_upto_region 18 with fail
    go_wp2_with fail
    refine (HCk.out _).mono ?_;rintro e V22 ⟨rfl,rfl⟩;go_wp2_with fail
    refine (specTwo_any rn _ (by omega) (by omega)).mono ?_;rintro e Y22 ⟨rfl,hb22⟩;have D22:Hid _:=D21.out.below hb22;clear hb22 c0 f0 c1 f1 c2 f2 c3 f3 c4 f4;go_wp2_with fail
    refine (specPut_any dd (checkAt p) (twoV rn) _ (by rw [twoV_size]; exact HDD.out.1) (by have:=HDD.out.2; omega)).mono ?_;rintro e Z22 ⟨u,rfl,hu,hb⟩;have E22:Hid _:=D22.out.below hb;clear hb;go_wp2_with fail
    go_ret;exact ⟨⟨u,rfl,by have:=HDD.out; omega⟩,E22.out.src,E22.out.grown⟩
abbrev p4R (p:P4):List Value:=(P4V p)
abbrev flR (f:Fl):List Value:=(FlV f)
abbrev tcR (t:Tc):List Value:=(TcV t)
abbrev K9 (w:World) (t:Tc):List (Nat × List Value):=[(w.heap.size,tcR t),(w.heap.size+1,p4R p4Zero)]
def PkDr (q:P4):Prop:=q.src.size≤1000∧q.dst.size≤1000∧q.opts.size≤1000∧q.data.size≤1000
def FlDr (f:Fl):Prop:=f.src.size≤1000∧f.dst.size≤1000
def XRn9 (n:Int):Value→World→Prop:=fun v _=>∃ r,v=iV r∧0≤r∧r≤n
theorem st_XRn9 {B:Nat} {n:Int}:StableX (EB B) (XRn9 n):=fun _ _ _ h _=>h
def XBo9:Value→World→Prop:=fun v _=>∃ b,v=.bool b
theorem st_XBo9 {B:Nat}:StableX (EB B) XBo9:=fun _ _ _ h _=>h
def XPk9 (s d:ByteArray):Value→World→Prop:=fun v _=>∃ q:P4,v=.agg ((P4V q).toArray)∧q.src=s∧q.dst=d∧q.opts=⟨#[]⟩∧q.data=⟨#[]⟩
theorem st_XPk9 {B:Nat} {s d:ByteArray}:StableX (EB B) (XPk9 s d):=fun _ _ _ h _=>h
theorem flowOk_dr {f:Fl} (h:flowOk f=true):(0≤f.proto∧f.proto≤255)∧f.src.size≤16∧f.dst.size≤16∧(0≤f.sp∧f.sp≤65535)∧(0≤f.dp∧f.dp≤65535):=by
 unfold flowOk at h;simp only [Bool.and_eq_true] at h;obtain ⟨⟨⟨⟨h1,h2⟩,h3⟩,h4⟩,_⟩:=h;obtain ⟨h5,h6⟩:=pairOk_parts h1;unfold protoOk at h2; unfold isW at h3 h4;simp only [Bool.and_eq_true,Bool.or_eq_true,decide_eq_true_iff] at h2 h3 h4;omega
def XNb9 (n B:Nat) (ks:List (Nat × List Value)) (L:List Value):Value→World→Prop:=fun v w=>∃ b,v=.pointer (some ⟨b,0,none⟩)∧b≠B∧n≤b∧(∀ e∈ks,e.1≠b)∧HoldsL w b L
theorem st_XNb9 {n B:Nat} {ks:List (Nat × List Value)} {L:List Value} (hL:0 < L.length):StableX (EB B) (XNb9 n B ks L):=fun v w w' ⟨b,h1,h2,h3,h4,h5⟩ he=>⟨b,h1,h2,h3,h4,h5.grown hL he (by simp; exact h2)⟩
theorem DB.add {w wx:World} {B:Nat} {sa:Option Addr} {len cap:Nat} {size:Int} {ks:List (Nat × List Value)} (h:DB w B sa len cap size ks wx) {b:Nat} {L:List Value} (hb:HoldsL wx b L) (hL:0 < L.length) (hn:w.heap.size≤b):DB w B sa len cap size ((b,L)::ks) wx :=
 ⟨h.dr,fun e he=>(List.mem_cons.1 he).elim (fun x=>by rw [x]; exact hb) (h.k e),fun e he=>(List.mem_cons.1 he).elim (fun x=>by rw [x]; exact hL) (h.z e),fun e he=>(List.mem_cons.1 he).elim (fun x=>by rw [x]; exact hn) (h.n e)⟩
theorem one_convP {w:World} {b cap:Nat} {n:Int} (h0:0≤n) (h1:n≤255) (hc:w.cell? ⟨b,0,none⟩=some (.int .u8 n)) :
  ∃ u:ByteArray,u.size=1∧(convert 22 9 (.slice (some ⟨b,0,none⟩) 1 cap)).run Tryz.prog w=.ok (.string u) w :=
 ⟨⟨[UInt8.ofNat n.toNat].toArray⟩,rfl,run_convert_bytes_back (P:=Tryz.prog) w 22 9 5 ⟨b,0,none⟩ cap [UInt8.ofNat n.toNat] Tryz.underlying22 Tryz.underlying5 Tryz.underlying9 (fun j hj=>by
  match j,hj with
  | 0,_=>simp only [Addr.add,Nat.add_zero,List.getElem_cons_zero]; rw [u8_ofNat _ (by omega) (by omega)]; exact hc)⟩
theorem drawPkt9_any (t:Tc) (B:Nat) (sa:Option Addr) (len cap:Nat) (size:Int) (w:World) (hl:len≤1048576) (ht:TcDr t) (hs:Src w B sa len cap size) :
  Calls Tryz.prog 51 #[.pointer (some ⟨B,0,none⟩),tcC t] w fun e w'=>(∃ q:P4,e=.returned (p4C q)∧PkDr q)∧Src w' B sa len cap size∧w.grownBy w' (some B):=by
 have ha1:t.addr.size≤1000:=ht.1;have hp1:t.peer.size≤1000:=ht.2.1;clear ht;have hBW:B < w.heap.size:=(Dr.start hs).hB;unfold tcC;have e0:HoldsL ((aW w (TcV t) 89).alloc (.cells (P4R 0 0 false false 0 0 0 ⟨#[]⟩ ⟨#[]⟩ ⟨#[]⟩ ⟨#[]⟩).toArray 33)) (w.heap.size) (TcV t):=by
  have h:=HoldsL.new w (TcV t) 89;try simp only [World.size_alloc] at h
  exact (h.alloc _)
 have e1:HoldsL ((aW w (TcV t) 89).alloc (.cells (P4R 0 0 false false 0 0 0 ⟨#[]⟩ ⟨#[]⟩ ⟨#[]⟩ ⟨#[]⟩).toArray 33)) (w.heap.size+1) (P4R 0 0 false false 0 0 0 ⟨#[]⟩ ⟨#[]⟩ ⟨#[]⟩ ⟨#[]⟩):=by
  have h:=HoldsL.new (w.alloc (.cells (TcV t).toArray 89)) (P4R 0 0 false false 0 0 0 ⟨#[]⟩ ⟨#[]⟩ ⟨#[]⟩ ⟨#[]⟩) 33;try simp only [World.size_alloc] at h
  exact h
 have S0:Hid (DB w B sa len cap size (K9 w t) ((aW w (TcV t) 89).alloc (.cells (P4R 0 0 false false 0 0 0 ⟨#[]⟩ ⟨#[]⟩ ⟨#[]⟩ ⟨#[]⟩).toArray 33))):=by
  refine ⟨(((Dr.start hs).alloc _).alloc _),fun e he=>?_,fun e he=>?_,fun e he=>?_⟩
  ·simp only [List.mem_cons,List.not_mem_nil,or_false] at he;rcases he with rfl | rfl
   ·exact e0
   ·exact e1
  ·simp only [List.mem_cons,List.not_mem_nil,or_false] at he;rcases he with rfl | rfl<;>simp
  ·simp only [List.mem_cons,List.not_mem_nil,or_false] at he;rcases he with rfl | rfl<;>simp
 clear e0 e1 hs;have hun:undef=Value.tuple #[]:=rfl;go_enter Tryz.func51,Tryz.ntmps51
 go_upto_region 1 with fail
 generalize World.alloc _ _=W0 at *;go_cut [5] (fun v wx=>∃ g q,v=.pointer (some ⟨g,0,none⟩)∧PkDr q∧w.heap.size≤g∧(∀ e∈(K9 w t),e.1≠g)∧DB w B sa len cap size ((g,p4R q)::K9 w t) wx)
 case first =>
  rename_i J K2 hJ hK2;clear hun;refine wp_region_growXV (EB B) (fun wx=>DB w B sa len cap size (K9 w t) wx) [9,10,11,12,13,14,15,16,17,18,19,20,21,22,23,24,5] (by kernel_rfl) (by kernel_rfl) (S0.out.below bR.drew) ?_;(apply XChV.u xQ rfl;(·intro K' a wy ho hd hI hK;simp [rAt,IsV,slot,Region.binds] at ho hd;go_simp;(try go_bits);exact hK _ rfl);dsimp only [nA,cA])
  refine XChV.rel (n:=1) (XRn9 255) (st_XRn9) [_,XRn9 255] rfl rfl ?_ ?_
  ·intro K' a wy ho hd hI hK;rw [wN rfl];have q0:=hd ⟨0,.data⟩ (by simp) rfl;simp [rAt,IsV,slot] at q0;clear hd ho;go_simp;refine (drawN_more 256 B sa len cap size wy (by omega) (by omega) hl hI.dr.src).mono ?_;rintro e wz ⟨r,rfl,h0,h1,hsz,hgz⟩;exact hK _ _ ⟨r,rfl,h0,by omega⟩ hgz (hI.draw hsz hgz)
  (apply XChV.u xQ rfl;(·intro K' a wy ho hd hI hK;simp [rAt,IsV,slot,Region.binds] at ho hd;go_simp;(try go_bits);exact hK _ rfl);dsimp only [nA,cA])
  refine XChV.rel (n:=3) (XRn9 8) (st_XRn9) [_,_,_,XRn9 8] rfl rfl ?_ ?_
  ·intro K' a wy ho hd hI hK;rw [wN rfl];have q2:=hd ⟨2,.data⟩ (by simp) rfl;simp [rAt,IsV,slot] at q2;clear hd ho;go_simp;refine (drawN_more 9 B sa len cap size wy (by omega) (by omega) hl hI.dr.src).mono ?_;rintro e wz ⟨r,rfl,h0,h1,hsz,hgz⟩;exact hK _ _ ⟨r,rfl,h0,by omega⟩ hgz (hI.draw hsz hgz)
  (apply XChV.u xQ rfl;(·intro K' a wy ho hd hI hK;simp [rAt,IsV,slot,Region.binds] at ho hd;go_simp;(try go_bits);exact hK _ rfl);dsimp only [nA,cA])
  refine XChV.rel (n:=5) (XBo9) (st_XBo9) [_,_,_,_,_,XBo9] rfl rfl ?_ ?_
  ·intro K' a wy ho hd hI hK;rw [wN rfl];have q4:=hd ⟨4,.data⟩ (by simp) rfl;simp [rAt,IsV,slot] at q4;clear hd ho;go_simp;refine (drawOne_any 2 B sa len cap size wy (by omega) hl hI.dr.src).mono ?_;rintro e wz ⟨r,rfl,hsz,hgz⟩;exact hK _ _ ⟨r,rfl⟩ hgz (hI.draw hsz hgz)
  (apply XChV.u xQ rfl;(·intro K' a wy ho hd hI hK;simp [rAt,IsV,slot,Region.binds] at ho hd;go_simp;(try go_bits);exact hK _ rfl);dsimp only [nA,cA])
  refine XChV.rel (n:=7) (XRn9 59) (st_XRn9) [_,_,_,_,_,_,_,XRn9 59] rfl rfl ?_ ?_
  ·intro K' a wy ho hd hI hK;rw [wN rfl];have q6:=hd ⟨6,.data⟩ (by simp) rfl;simp [rAt,IsV,slot] at q6;clear hd ho;go_simp;refine (drawN_more 60 B sa len cap size wy (by omega) (by omega) hl hI.dr.src).mono ?_;rintro e wz ⟨r,rfl,h0,h1,hsz,hgz⟩;exact hK _ _ ⟨r,rfl,h0,by omega⟩ hgz (hI.draw hsz hgz)
  refine XChV.rel (n:=8) (XRn9 60) (st_XRn9) [_,_,_,_,_,_,_,_,XRn9 60] rfl rfl ?_ ?_
  ·intro K' a wy ho hd hI hK;rw [wN rfl];obtain ⟨k7,e7,l7,u7⟩ : XRn9 59 (slot a 16) wy:=hd ⟨7,.data⟩ (by simp) rfl;simp [slot] at e7;clear hd ho;go_simp;try go_bits
   exact hK _ _ ⟨_,rfl,by omega,by omega⟩ (EB.of bR) hI
  iterate 6 (apply XChV.u xQ rfl;(·intro K' a wy ho hd hI hK;simp [rAt,IsV,slot,Region.binds] at ho hd;have y0:wy.cell? ⟨w.heap.size,0,none⟩=some (iV t.proto):=(show HoldsL wy w.heap.size (tcR t) from hI.at mE0).cell rfl;have y2:wy.cell? ⟨w.heap.size,2,none⟩=some (.string t.addr):=(show HoldsL wy w.heap.size (tcR t) from hI.at mE0).cell rfl;have y4:wy.cell? ⟨w.heap.size,4,none⟩=some (.string t.peer):=(show HoldsL wy w.heap.size (tcR t) from hI.at mE0).cell rfl;go_simp;(try go_bits);exact hK _ rfl);dsimp only [nA,cA])
  refine XChV.rel (n:=15) (XPk9 t.addr t.peer) (st_XPk9) [_,_,_,_,_,_,_,_,_,_,_,_,_,_,_,XPk9 t.addr t.peer] rfl rfl ?_ ?_
  ·intro K' a wy ho hd hI hK;rw [wN rfl];obtain ⟨k1,e1,l1,u1⟩ : XRn9 255 (slot a 10) wy:=hd ⟨1,.data⟩ (by simp) rfl;simp [slot] at e1;obtain ⟨k3,e3,l3,u3⟩ : XRn9 8 (slot a 12) wy:=hd ⟨3,.data⟩ (by simp) rfl;simp [slot] at e3;obtain ⟨k5,e5⟩ : XBo9 (slot a 14) wy:=hd ⟨5,.data⟩ (by simp) rfl;simp [slot] at e5;obtain ⟨k8,e8,l8,u8⟩ : XRn9 60 (slot a 17) wy:=hd ⟨8,.data⟩ (by simp) rfl;simp [slot] at e8;have q10:=hd ⟨10,.data⟩ (by simp) rfl;have q12:=hd ⟨12,.data⟩ (by simp) rfl;have q14:=hd ⟨14,.data⟩ (by simp) rfl;simp [rAt,IsV,slot] at q10 q12 q14;clear hd ho;go_simp;exact hK _ _ ⟨⟨k1,k3,k5,false,0,k8,t.proto,t.addr,t.peer,⟨#[]⟩,⟨#[]⟩⟩,rfl,rfl,rfl,rfl,rfl⟩ (EB.of bR) hI
  refine XChV.rel (n:=16) (XNb9 w.heap.size B (K9 w t) (P4R 0 0 false false 0 0 0 ⟨#[]⟩ ⟨#[]⟩ ⟨#[]⟩ ⟨#[]⟩)) (st_XNb9 (by simp)) [_,_,_,_,_,_,_,_,_,_,_,_,_,_,_,_,XNb9 w.heap.size B (K9 w t) (P4R 0 0 false false 0 0 0 ⟨#[]⟩ ⟨#[]⟩ ⟨#[]⟩ ⟨#[]⟩)] rfl rfl ?_ ?_
  ·intro K' a wy ho hd hI hK;rw [wN rfl];clear hd ho;go_simp;exact hK _ _ ⟨wy.heap.size,rfl,by have:=hI.dr.le; omega,hI.dr.le,fun e he=>Nat.ne_of_lt (hI.lts e he),HoldsL.new wy (P4R 0 0 false false 0 0 0 ⟨#[]⟩ ⟨#[]⟩ ⟨#[]⟩ ⟨#[]⟩) _⟩ (EB.of (bR.alloc lR _)) (hI.below (bR.alloc lR _))
  intro X wz hR hI;obtain ⟨x0,x1,x2,x3,x4,x5,x6,x7,x8,x9,x10,x11,x12,x13,x14,x15,x16,-⟩:=hR;obtain ⟨k15,e15,s15,d15,o15,t15⟩:=x15;obtain ⟨b16,e16,n16,g16,h16,z16⟩:=x16;simp only [IsV] at x0 x2 x4 x6 x9 x10 x11 x12 x13 x14;simp only [putsFrom,x0,putsFrom,x2,putsFrom,x4,putsFrom,x6,putsFrom,putsFrom,x9,x10,x11,x12,x13,x14,e15,e16];clear x0 x2 x4 x6 x9 x10 x11 x12 x13 x14;obtain ⟨z0,z1,z2,z3,z4,z5,z6,z7,z8,z9,z10⟩:=z16.c11;obtain ⟨zf0,zf1,zf2,zf3,zf4,zf5,zf6,zf7,zf8,zf9,zf10⟩:=z16.f11;have hD0:=hI.add z16 (by simp) g16;have hD1:=hD0.set (vs':=(P4R k15.tos 0 false false 0 0 0 ⟨#[]⟩ ⟨#[]⟩ ⟨#[]⟩ ⟨#[]⟩)) 0 (iV k15.tos) rfl h16;have hD2:=hD1.set (vs':=(P4R k15.tos k15.id false false 0 0 0 ⟨#[]⟩ ⟨#[]⟩ ⟨#[]⟩ ⟨#[]⟩)) 1 (iV k15.id) rfl h16;have hD3:=hD2.set (vs':=(P4R k15.tos k15.id k15.whole false 0 0 0 ⟨#[]⟩ ⟨#[]⟩ ⟨#[]⟩ ⟨#[]⟩)) 2 (.bool k15.whole) rfl h16;have hD4:=hD3.set (vs':=(P4R k15.tos k15.id k15.whole k15.more 0 0 0 ⟨#[]⟩ ⟨#[]⟩ ⟨#[]⟩ ⟨#[]⟩)) 3 (.bool k15.more) rfl h16;have hD5:=hD4.set (vs':=(P4R k15.tos k15.id k15.whole k15.more k15.off 0 0 ⟨#[]⟩ ⟨#[]⟩ ⟨#[]⟩ ⟨#[]⟩)) 4 (iV k15.off) rfl h16;have hD6:=hD5.set (vs':=(P4R k15.tos k15.id k15.whole k15.more k15.off k15.ttl 0 ⟨#[]⟩ ⟨#[]⟩ ⟨#[]⟩ ⟨#[]⟩)) 5 (iV k15.ttl) rfl h16;have hD7:=hD6.set (vs':=(P4R k15.tos k15.id k15.whole k15.more k15.off k15.ttl k15.proto ⟨#[]⟩ ⟨#[]⟩ ⟨#[]⟩ ⟨#[]⟩)) 6 (iV k15.proto) rfl h16;have hD8:=hD7.set (vs':=(P4R k15.tos k15.id k15.whole k15.more k15.off k15.ttl k15.proto k15.src ⟨#[]⟩ ⟨#[]⟩ ⟨#[]⟩)) 7 (.string k15.src) rfl h16;have hD9:=hD8.set (vs':=(P4R k15.tos k15.id k15.whole k15.more k15.off k15.ttl k15.proto k15.src k15.dst ⟨#[]⟩ ⟨#[]⟩)) 8 (.string k15.dst) rfl h16;have hD10:=hD9.set (vs':=(P4R k15.tos k15.id k15.whole k15.more k15.off k15.ttl k15.proto k15.src k15.dst k15.opts ⟨#[]⟩)) 9 (.string k15.opts) rfl h16;have hD11:=hD10.set (vs':=(P4V k15)) 10 (.string k15.data) rfl h16;have HD:Hid (DB w B sa len cap size ((b16,p4R k15)::K9 w t) ((sW (sW (sW (sW (sW (sW (sW (sW (sW (sW wz b16 0 (iV k15.tos)) b16 1 (iV k15.id)) b16 2 (.bool k15.whole)) b16 3 (.bool k15.more)) b16 4 (iV k15.off)) b16 5 (iV k15.ttl)) b16 6 (iV k15.proto)) b16 7 (.string k15.src)) b16 8 (.string k15.dst)) b16 9 (.string k15.opts)).setCell ⟨b16,10,none⟩ (.string k15.data))):=hD11;have hpk:PkDr k15:=⟨by rw [s15]; exact ha1,by rw [d15]; exact hp1,by rw [o15]; decide,by rw [t15]; decide⟩
  clear s15 d15 o15 t15 hD1 hD2 hD3 hD4 hD5 hD6 hD7 hD8 hD9 hD10 hD11 hD0 z16 hI;intro K5 hK5;go_simp;refine hK5 _ _ ?_;show Exit.then _ _ _ _ _;refine hK2 _ _ (hJ _ _ ?_);(repeat apply Exists.intro)
  exact ⟨⟨b16,k15,rfl,hpk,g16,h16,HD.out⟩,rfl⟩
 case rest =>
 obtain ⟨Pb,q0,rfl,hq,hwp,hnp,hS⟩:=hcut;have HQ0:Hid (PkDr q0):=hq;have HNP:Hid (∀ e∈(K9 w t),e.1≠Pb):=hnp;have S1:Hid (DB w B sa len cap size ((Pb,p4R q0)::K9 w t) wc):=hS;clear hq hnp hS S0;generalize wc=W1 at *;have y0:W1.cell? ⟨w.heap.size,0,none⟩=some (iV t.proto):=(show HoldsL W1 w.heap.size (tcR t) from S1.out.at mE1).cell rfl;have y2:W1.cell? ⟨w.heap.size,2,none⟩=some (.string t.addr):=(show HoldsL W1 w.heap.size (tcR t) from S1.out.at mE1).cell rfl;have y3:W1.cell? ⟨w.heap.size,3,none⟩=some (iV t.port):=(show HoldsL W1 w.heap.size (tcR t) from S1.out.at mE1).cell rfl;have y4:W1.cell? ⟨w.heap.size,4,none⟩=some (.string t.peer):=(show HoldsL W1 w.heap.size (tcR t) from S1.out.at mE1).cell rfl;have y5:W1.cell? ⟨w.heap.size,5,none⟩=some (iV t.peerPort):=(show HoldsL W1 w.heap.size (tcR t) from S1.out.at mE1).cell rfl;go_upto_region 3 with fail
 have hPF:Pb < W1.heap.size:=S1.out.lts (_,_) mE0;have hlt0:=S1.out.lts;have S2':Hid _:=S1.out.push (FlR t.proto t.addr t.peer t.port t.peerPort) (by simp) 43;have HNF:Hid (∀ l,∀ e∈((Pb,l)::(K9 w t)),e.1≠W1.heap.size):=fun l e he=>(List.mem_cons.1 he).elim (fun h=>by rw [h]; show Pb≠_; omega) (fun h=>Nat.ne_of_lt (hlt0 e (.tail _ h)))
 clear hlt0 S1 y0 y2 y3 y4 y5;generalize (W1.alloc (.cells (FlR t.proto t.addr t.peer t.port t.peerPort).toArray 43))=W2 at *;generalize W1.heap.size=Fb at *;have hFP:Fb≠Pb:=by omega
 have HNPF:Hid (∀ l,∀ e∈((Fb,l)::(K9 w t)),e.1≠Pb):=fun l e he=>(List.mem_cons.1 he).elim (fun h=>by rw [h]; exact hFP) (fun h=>HNP.out e h)
 obtain ⟨f0,hf0⟩ : ∃ f:Fl,f=⟨t.proto,t.addr,t.peer,t.port,t.peerPort⟩:=⟨_,rfl⟩;have HF0:Hid (FlDr f0):=by unfold Hid; rw [hf0]; exact ⟨ha1,hp1⟩
 have S2:Hid (DB w B sa len cap size ((Fb,flR f0)::(Pb,p4R q0)::K9 w t) W2):=by unfold Hid; rw [hf0]; exact S2'.out
 clear hf0 S2';have y1:W2.cell? ⟨w.heap.size,1,none⟩=some (.bool t.inside):=(show HoldsL W2 w.heap.size (tcR t) from S2.out.at mE2).cell rfl;obtain ⟨ins,hin⟩ : ∃ b,b=t.inside:=⟨_,rfl⟩;rw [← hin] at y1;clear hin;go_upto_if 38 with fail
 go_cut [] (fun wx=>∃ q f,PkDr q∧FlDr f∧DB w B sa len cap size ((Fb,flR f)::(Pb,p4R q)::K9 w t) wx)
 case first =>
  cases ins with
  | true =>
   go_wp2_with fail
   go_meet;exact ⟨q0,f0,HQ0.out,HF0.out,S2.out⟩
  | false =>
   clear y1;have y0:W2.cell? ⟨w.heap.size,0,none⟩=some (iV t.proto):=(show HoldsL W2 w.heap.size (tcR t) from S2.out.at mE2).cell rfl;have y2:W2.cell? ⟨w.heap.size,2,none⟩=some (.string t.addr):=(show HoldsL W2 w.heap.size (tcR t) from S2.out.at mE2).cell rfl;have y3:W2.cell? ⟨w.heap.size,3,none⟩=some (iV t.port):=(show HoldsL W2 w.heap.size (tcR t) from S2.out.at mE2).cell rfl;have y4:W2.cell? ⟨w.heap.size,4,none⟩=some (.string t.peer):=(show HoldsL W2 w.heap.size (tcR t) from S2.out.at mE2).cell rfl;have y5:W2.cell? ⟨w.heap.size,5,none⟩=some (iV t.peerPort):=(show HoldsL W2 w.heap.size (tcR t) from S2.out.at mE2).cell rfl;have HHf:HoldsL W2 Fb (flR f0):=S2.out.at mE0;obtain ⟨x0,x1,x2,x3,x4⟩:=HHf.c5;obtain ⟨xf0,xf1,xf2,xf3,xf4⟩:=HHf.f5;clear HHf;have HHq:HoldsL W2 Pb (p4R q0):=S2.out.at mE1;obtain ⟨-,-,-,-,-,-,-,u7,u8⟩:=HHq.c9;obtain ⟨-,-,-,-,-,-,-,uf7,uf8⟩:=HHq.f9;clear HHq;have S3:Hid _:=(((((((((((S2.out.set 0 (iV t.proto) rfl (HNF.out _)).set 1 (.string t.peer) rfl (HNF.out _)).set 2 (.string t.addr) rfl (HNF.out _)).set 3 (iV t.peerPort) rfl (HNF.out _)).set 4 (iV t.port) rfl (HNF.out _)).swap).set 7 (.string t.peer) rfl (HNPF.out _)).swap).swap).set 8 (.string t.addr) rfl (HNPF.out _)).swap);go_wp2_with fail
   go_meet;exact ⟨{ q0 with src:=t.peer,dst:=t.addr },⟨t.proto,t.peer,t.addr,t.peerPort,t.port⟩,⟨hp1,ha1,HQ0.out.2.2⟩,⟨hp1,ha1⟩,S3.out⟩
 case rest =>
 obtain ⟨q1,f1,hq,hf,hS⟩:=hcut;have HQ1:Hid (PkDr q1):=hq;have HF1:Hid (FlDr f1):=hf;have S3:Hid (DB w B sa len cap size ((Fb,flR f1)::(Pb,p4R q1)::K9 w t) wc):=hS;clear hq hf hS S2 HQ0 HF0 y1;generalize wc=W3 at *;have HHf:HoldsL W3 Fb (flR f1):=S3.out.at mE0;have x0:=HHf.cell (j:=0) rfl;clear HHf;go_upto_if 58 with fail
 go_cut [] (fun wx=>∃ q f,PkDr q∧FlDr f∧DB w B sa len cap size ((Fb,flR f)::(Pb,p4R q)::K9 w t) wx)
 case first =>
  by_cases hi:f1.proto=1
  case neg =>
   have hb:(f1.proto==1)=false:=by simp [hi]
   go_wp2_with fail
   go_meet;exact ⟨q1,f1,HQ1.out,HF1.out,S3.out⟩
  have hb:(f1.proto==1)=true:=by simp [hi]
  have y3:W3.cell? ⟨w.heap.size,3,none⟩=some (iV t.port):=(show HoldsL W3 w.heap.size (tcR t) from S3.out.at mE2).cell rfl;have HHf:HoldsL W3 Fb (flR f1):=S3.out.at mE0;obtain ⟨-,-,-,x3,x4⟩:=HHf.c5;obtain ⟨-,-,-,xf3,xf4⟩:=HHf.f5;clear HHf;have S4:Hid _:=((S3.out.set 4 (iV t.port) rfl (HNF.out _)).set 3 (iV t.port) rfl (HNF.out _));go_wp2_with fail
  go_meet;exact ⟨q1,{ f1 with sp:=t.port,dp:=t.port },HQ1.out,HF1.out,S4.out⟩
 case rest =>
 obtain ⟨q2,f2,hq,hf,hS⟩:=hcut;have HQ2:Hid (PkDr q2):=hq;have HF2:Hid (FlDr f2):=hf;have S5:Hid (DB w B sa len cap size ((Fb,flR f2)::(Pb,p4R q2)::K9 w t) wc):=hS;clear hq hf hS S3 HQ1 HF1 x0;generalize wc=W5 at *;have HHf:HoldsL W5 Fb (flR f2):=S5.out.at mE0;obtain ⟨x0,x1,x2,x3,x4⟩:=HHf.c5;clear HHf;have HFR:Hid (∀ W,Cb 43 #[.agg (FlV f2).toArray] W (.bool (flowOk f2))):=fun W=>specFlowRight_any f2 W (by have:=HF2.out.1; omega) (by have:=HF2.out.2; omega)
 have HFO:Hid (flowOk f2=true→(0≤f2.proto∧f2.proto≤255)∧f2.src.size≤16∧f2.dst.size≤16∧(0≤f2.sp∧f2.sp≤65535)∧(0≤f2.dp∧f2.dp≤65535)):=flowOk_dr;generalize flowOk f2=fo at *;go_wp2_with fail
 refine (HFR.out _).mono ?_;rintro e W6 ⟨rfl,h6⟩;have S6:Hid (DB w B sa len cap size ((Fb,flR f2)::(Pb,p4R q2)::K9 w t) W6):=S5.out.below h6;clear h6 HFR S5 x0 x1 x2 x3 x4;go_upto_if 66 with fail
 go_cut [] (fun wx=>∃ q,PkDr q∧DB w B sa len cap size ((Pb,p4R q)::K9 w t) wx)
 case first =>
  cases fo with
  | false =>
   go_wp2_with fail
   go_meet;exact ⟨q2,HQ2.out,S6.out.tail⟩
  | true =>
   obtain ⟨hpr,hss,hds,hsp,hdp⟩:=HFO.out rfl;clear HFO;have HHf:HoldsL W6 Fb (flR f2):=S6.out.at mE0;obtain ⟨x0,x1,x2,x3,x4⟩:=HHf.c5;clear HHf;go_wp2_with fail
   refine (drawData_min f2.proto f2.src f2.dst f2.sp f2.dp B sa len cap size _ hpr hss hds hsp hdp hl S6.out.dr.src).mono ?_;rintro e W7 ⟨⟨dt,rfl,hd1,hd2⟩,hs,hg⟩;have S7:Hid (DB w B sa len cap size ((Fb,flR f2)::(Pb,p4R q2)::K9 w t) W7):=S6.out.draw hs hg;clear hs hg S6 x0 x1 x2 x3 x4 hss hds hsp hdp hpr;have HHq:HoldsL W7 Pb (p4R q2):=S7.out.at mE1;have u10:=HHq.cell (j:=10) rfl;have uf10:=HHq.free (j:=10) (by simp);clear HHq;have S8:Hid (DB w B sa len cap size ((Fb,flR f2)::(Pb,(P4R q2.tos q2.id q2.whole q2.more q2.off q2.ttl q2.proto q2.src q2.dst q2.opts dt))::K9 w t) (W7.setCell ⟨Pb,10,none⟩ (.string dt))):=(((S7.out.swap).set 10 (.string dt) rfl (HNPF.out _)).swap);go_upto_region 12 with fail
   generalize (W7.setCell ⟨Pb,10,none⟩ (.string dt))=W8 at *;clear S7 u10 uf10;have HQ3:Hid (PkDr { q2 with data:=dt }):=⟨HQ2.out.1,HQ2.out.2.1,HQ2.out.2.2.1,by show dt.size≤1000; omega⟩;clear HQ2;have HHf:HoldsL W8 Fb (flR f2):=S8.out.at mE0;have x0:=HHf.cell (j:=0) rfl;clear HHf;by_cases h6:f2.proto=6
   case neg =>
    have hb:(f2.proto==6)=false:=by simp [h6]
    go_wp2_with fail
    go_meet;exact ⟨{ q2 with data:=dt },HQ3.out,S8.out.tail⟩
   have hb:(f2.proto==6)=true:=by simp [h6]
   have hd3:18≤dt.size:=by rw [h6] at hd2; unfold checkAt at hd2; simp at hd2; omega
   clear hd2;have y6:W8.cell? ⟨w.heap.size,6,none⟩=some (iV t.flags):=(show HoldsL W8 w.heap.size (tcR t) from S8.out.at mE2).cell rfl;have HBY:Hid (∀ W,Cw 38 #[iV t.flags] W (.bool (isIn t.flags 0 255))):=fun W=>specByte_any _ W
   have HIN:Hid (isIn t.flags 0 255=true→0≤t.flags∧t.flags≤255):=fun h=>by unfold isIn at h; simpa using h
   generalize isIn t.flags 0 255=fb at *;go_wp2_with fail
   refine (HBY.out _).mono ?_;rintro e w9 ⟨rfl,hw9⟩;obtain rfl:W8=w9:=hw9.symm;clear HBY
   cases fb with
   | false =>
    go_wp2_with fail
    go_meet;exact ⟨{ q2 with data:=dt },HQ3.out,S8.out.tail⟩
   | true =>
    obtain ⟨hl0,hl1⟩:=HIN.out rfl;clear HIN y6;have u10:W8.cell? ⟨Pb,10,none⟩=some (.string dt):=(show HoldsL W8 Pb (P4R q2.tos q2.id q2.whole q2.more q2.off q2.ttl q2.proto q2.src q2.dst q2.opts dt) from S8.out.at mE1).cell rfl;have HA:Hid (∀ (s:ByteArray) (k:Nat) W,k+1 < s.size→s.size≤1000→Calls Tryz.prog 42 #[.string s,iV k] W fun e w'=>(∃ r,e=.returned (iV r)∧0≤r∧r≤65535)∧Below W.heap.size W w'):=fun s k W h1 h2=>(specAt_any s k W h1 (by unfold maxLen; omega)).mono fun e w' h=>⟨⟨_,h.1,(wordN_range (bt_isByte s) k).1,(wordN_range (bt_isByte s) k).2⟩,h.2⟩
    go_wp2_with fail
    refine (HA.out dt 12 _ (by omega) (by omega)).mono ?_;rintro e Wa ⟨⟨old,rfl,old0,old1⟩,hb9⟩;have TWa:Hid (DB w B sa len cap size ((Fb,flR f2)::(Pb,(P4R q2.tos q2.id q2.whole q2.more q2.off q2.ttl q2.proto q2.src q2.dst q2.opts dt))::K9 w t) Wa):=S8.out.below hb9;clear hb9;clear S8 u10 x0;have u10:Wa.cell? ⟨Pb,10,none⟩=some (.string dt):=(show HoldsL Wa Pb (P4R q2.tos q2.id q2.whole q2.more q2.off q2.ttl q2.proto q2.src q2.dst q2.opts dt) from TWa.out.at mE1).cell rfl;have y6:Wa.cell? ⟨w.heap.size,6,none⟩=some (iV t.flags):=(show HoldsL Wa w.heap.size (tcR t) from TWa.out.at mE2).cell rfl;go_upto_region 14 with fail
    obtain ⟨o1,ho1,hcv⟩:=one_convP (w:=Wa.alloc (.cells #[.int .u8 t.flags] 5)) (b:=Wa.heap.size) (cap:=1) (n:=t.flags) hl0 hl1 (by simp);have Tb:Hid (DB w B sa len cap size ((Fb,flR f2)::(Pb,(P4R q2.tos q2.id q2.whole q2.more q2.off q2.ttl q2.proto q2.src q2.dst q2.opts dt))::K9 w t) (Wa.alloc (.cells #[.int .u8 t.flags] 5))):=TWa.out.below (bR.alloc lR _);go_wp2_with fail
    refine (specPut_any dt 13 o1 _ (by omega) (by omega)).mono ?_;rintro e Wc ⟨d1,rfl,hz1,hb9⟩;have Tc:Hid (DB w B sa len cap size ((Fb,flR f2)::(Pb,(P4R q2.tos q2.id q2.whole q2.more q2.off q2.ttl q2.proto q2.src q2.dst q2.opts dt))::K9 w t) Wc):=Tb.out.below hb9;clear hb9 Tb TWa hcv y6 u10;go_wp2_with fail
    refine (HA.out d1 16 _ (by omega) (by omega)).mono ?_;rintro e Wd ⟨⟨ra,rfl,ra0,ra1⟩,hb9⟩;have TWd:Hid (DB w B sa len cap size ((Fb,flR f2)::(Pb,(P4R q2.tos q2.id q2.whole q2.more q2.off q2.ttl q2.proto q2.src q2.dst q2.opts dt))::K9 w t) Wd):=Tc.out.below hb9;clear hb9;clear Tc;go_wp2_with fail
    refine (HA.out d1 12 _ (by omega) (by omega)).mono ?_;rintro e We ⟨⟨rb,rfl,rb0,rb1⟩,hb9⟩;have TWe:Hid (DB w B sa len cap size ((Fb,flR f2)::(Pb,(P4R q2.tos q2.id q2.whole q2.more q2.off q2.ttl q2.proto q2.src q2.dst q2.opts dt))::K9 w t) We):=TWd.out.below hb9;clear hb9;clear TWd;go_wp2_with fail
    refine (specTurn1_any ra old rb _ ⟨ra0,ra1⟩ ⟨old0,old1⟩ ⟨rb0,rb1⟩).mono ?_;rintro e w9 ⟨rfl,rfl⟩;obtain ⟨tr,htr⟩ : ∃ y,y=65535-add1 (add1 (65535-ra) (65535-old)) rb:=⟨_,rfl⟩;have htr2:0≤tr∧tr≤65535:=by
     have r1:=add1_range (a:=65535-ra) (b:=65535-old) (by omega) (by omega) (by omega) (by omega);have r2:=add1_range r1.1 r1.2 rb0 rb1;omega
    rw [← htr];clear htr;go_wp2_with fail
    refine (specTwo_any tr _ htr2.1 htr2.2).mono ?_;rintro e Wf ⟨rfl,hb9⟩;have Tf:Hid (DB w B sa len cap size ((Fb,flR f2)::(Pb,(P4R q2.tos q2.id q2.whole q2.more q2.off q2.ttl q2.proto q2.src q2.dst q2.opts dt))::K9 w t) Wf):=TWe.out.below hb9;clear hb9 TWe;have hz2:=twoV_size tr;generalize twoV tr=tv at *;go_wp2_with fail
    refine (specPut_any d1 16 tv _ (by omega) (by omega)).mono ?_;rintro e Wg ⟨d2,rfl,hz3,hb9⟩;have Tg:Hid (DB w B sa len cap size ((Fb,flR f2)::(Pb,(P4R q2.tos q2.id q2.whole q2.more q2.off q2.ttl q2.proto q2.src q2.dst q2.opts dt))::K9 w t) Wg):=Tf.out.below hb9;clear hb9 Tf;have HHq:HoldsL Wg Pb (P4R q2.tos q2.id q2.whole q2.more q2.off q2.ttl q2.proto q2.src q2.dst q2.opts dt):=Tg.out.at mE1;have u10:=HHq.cell (j:=10) rfl;have uf10:=HHq.free (j:=10) (by simp);clear HHq;have Sz:Hid _:=(((Tg.out.swap).set 10 (.string d2) rfl (HNPF.out _)).swap);go_wp2_with fail
    go_meet;exact ⟨{ q2 with data:=d2 },⟨HQ3.out.1,HQ3.out.2.1,HQ3.out.2.2.1,by show d2.size≤1000; omega⟩,Sz.out.tail⟩
 case rest =>
 obtain ⟨q3,hq,hS⟩:=hcut;have HQ3:Hid (PkDr q3):=hq;have S9:Hid (DB w B sa len cap size ((Pb,p4R q3)::K9 w t) wc):=hS;clear hq hS S6 HQ2 HFO;generalize wc=W9 at *;go_wp2_with fail
 refine (drawOne_any 20 B sa len cap size _ (by omega) hl S9.out.dr.src).mono ?_;rintro e Wh ⟨c1,rfl,hs,hg⟩;have SWh:Hid (DB w B sa len cap size ((Pb,p4R q3)::K9 w t) Wh):=S9.out.draw hs hg;clear hs hg S9;go_upto_if 101 with fail
 go_cut [] (fun wx=>∃ q,PkDr q∧DB w B sa len cap size ((Pb,p4R q)::K9 w t) wx)
 case first =>
  cases c1 with
  | false =>
   go_wp2_with fail
   go_meet;exact ⟨q3,HQ3.out,SWh.out⟩
  | true =>
   go_wp2_with fail
   refine (drawOne_any 2 B sa len cap size _ (by omega) hl SWh.out.dr.src).mono ?_;rintro e Wi ⟨c2,rfl,hs,hg⟩;have SWi:Hid (DB w B sa len cap size ((Pb,p4R q3)::K9 w t) Wi):=SWh.out.draw hs hg;clear hs hg SWh;have HHq:HoldsL Wi Pb (p4R q3):=SWi.out.at mE0;obtain ⟨-,-,u2,u3⟩:=HHq.c4;have uf3:=HHq.free (j:=3) (by simp);have uf2:=HHq.free (j:=2) (by simp);clear HHq;have Sk:Hid (DB w B sa len cap size ((Pb,(P4R q3.tos q3.id false c2 q3.off q3.ttl q3.proto q3.src q3.dst q3.opts q3.data))::K9 w t) ((sW Wi Pb 3 (.bool c2)).setCell ⟨Pb,2,none⟩ (.bool false))):=((SWi.out.set 3 (.bool c2) rfl HNP.out).set 2 (.bool false) rfl HNP.out);go_upto_region 19 with fail
   generalize ((sW Wi Pb 3 (.bool c2)).setCell ⟨Pb,2,none⟩ (.bool false))=Wk at *;clear SWi u3 u2 uf3 uf2;go_wp2_with fail
   refine (drawN_more 3 B sa len cap size _ (by omega) (by omega) hl Sk.out.dr.src).mono ?_;rintro e Wl ⟨r3,rfl,l3,h3,hs,hg⟩;have Sl:Hid (DB w B sa len cap size ((Pb,(P4R q3.tos q3.id false c2 q3.off q3.ttl q3.proto q3.src q3.dst q3.opts q3.data))::K9 w t) Wl):=Sk.out.draw hs hg;clear hs hg Sk;have HHq:HoldsL Wl Pb (P4R q3.tos q3.id false c2 q3.off q3.ttl q3.proto q3.src q3.dst q3.opts q3.data):=Sl.out.at mE0;have u4:=HHq.cell (j:=4) rfl;have uf4:=HHq.free (j:=4) (by simp);clear HHq;have Sm:Hid _:=(Sl.out.set 4 (iV r3) rfl HNP.out);go_wp2_with fail
   go_meet;exact ⟨{ q3 with whole:=false,more:=c2,off:=r3 },HQ3.out,Sm.out⟩
 case rest =>
 obtain ⟨q4,hq,hS⟩:=hcut;have HQ4:Hid (PkDr q4):=hq;have Sn:Hid (DB w B sa len cap size ((Pb,p4R q4)::K9 w t) wc):=hS;clear hq hS SWh HQ3;generalize wc=Wn at *;go_wp2_with fail
 refine (drawOne_any 20 B sa len cap size _ (by omega) hl Sn.out.dr.src).mono ?_;rintro e Wo ⟨c3,rfl,hs,hg⟩;have SWo:Hid (DB w B sa len cap size ((Pb,p4R q4)::K9 w t) Wo):=Sn.out.draw hs hg;clear hs hg Sn;go_upto_if 110 with fail
 go_cut [] (fun wx=>∃ q,PkDr q∧DB w B sa len cap size ((Pb,p4R q)::K9 w t) wx)
 case first =>
  cases c3 with
  | false =>
   go_wp2_with fail
   go_meet;exact ⟨q4,HQ4.out,SWo.out⟩
  | true =>
   have HHq:HoldsL Wo Pb (p4R q4):=SWo.out.at mE0;have u9:=HHq.cell (j:=9) rfl;have uf9:=HHq.free (j:=9) (by simp);clear HHq;have Sp:Hid _:=(SWo.out.set 9 (.string ⟨#[1,1,1,0]⟩) rfl HNP.out);go_wp2_with fail
   go_meet;exact ⟨{ q4 with opts:=⟨#[1,1,1,0]⟩ },⟨HQ4.out.1,HQ4.out.2.1,by show (ByteArray.mk #[1,1,1,0]).size≤1000; decide,HQ4.out.2.2.2⟩,Sp.out⟩
 case rest =>
 obtain ⟨q5,hq,hS⟩:=hcut;have HQ5:Hid (PkDr q5):=hq;have Sq:Hid (DB w B sa len cap size ((Pb,p4R q5)::K9 w t) wc):=hS;clear hq hS SWo HQ4;generalize wc=Wq at *;have HHq:HoldsL Wq Pb (p4R q5):=Sq.out.at mE0;obtain ⟨u0,u1,u2,u3,u4,u5,u6,u7,u8,u9,u10⟩:=HHq.c11;clear HHq;have HHz:HoldsL Wq (w.heap.size+1) (p4R p4Zero):=Sq.out.at mE2;obtain ⟨z0,z1,z2,z3,z4,z5,z6,z7,z8,z9,z10⟩:=HHz.c11;obtain ⟨zf0,zf1,zf2,zf3,zf4,zf5,zf6,zf7,zf8,zf9,zf10⟩:=HHz.f11;have HRR:HoldsL _ (w.heap.size+1) (p4R q5):=(((((((((((HHz.set 0 (iV q5.tos)).set 1 (iV q5.id)).set 2 (.bool q5.whole)).set 3 (.bool q5.more)).set 4 (iV q5.off)).set 5 (iV q5.ttl)).set 6 (iV q5.proto)).set 7 (.string q5.src)).set 8 (.string q5.dst)).set 9 (.string q5.opts)).set 10 (.string q5.data));have DD:Dr w B sa len cap size _:=(((((((((((Sq.out.dr.set (w.heap.size+1) 0 (iV q5.tos) (by omega)).set (w.heap.size+1) 1 (iV q5.id) (by omega)).set (w.heap.size+1) 2 (.bool q5.whole) (by omega)).set (w.heap.size+1) 3 (.bool q5.more) (by omega)).set (w.heap.size+1) 4 (iV q5.off) (by omega)).set (w.heap.size+1) 5 (iV q5.ttl) (by omega)).set (w.heap.size+1) 6 (iV q5.proto) (by omega)).set (w.heap.size+1) 7 (.string q5.src) (by omega)).set (w.heap.size+1) 8 (.string q5.dst) (by omega)).set (w.heap.size+1) 9 (.string q5.opts) (by omega)).set (w.heap.size+1) 10 (.string q5.data) (by omega));have HRQ:Hid _:=HRR;have DDQ:Hid _:=DD;clear HHz Sq HRR DD;go_wp2_with fail
 exact bodyPost_ret (results_mid Tryz.results51 _ _ (w.heap.size+1) (p4R q5) _ rfl HRQ.out Tryz.underlying33 rfl (show (Tryz.prog.info? 33).map (·.size)=some 11 by kernel_rfl)) rfl ⟨⟨q5,rfl,HQ5.out⟩,DDQ.out.src,DDQ.out.grown⟩
end Go.Proofs.YtdkepkaflielhaaGreatDoor
