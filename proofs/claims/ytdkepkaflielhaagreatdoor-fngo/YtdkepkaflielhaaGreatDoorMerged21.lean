import Derived.Test.YtdkepkaflielhaaGreatDoorMerged20
set_option linter.unusedVariables false
set_option linter.unusedSimpArgs false
set_option maxRecDepth 100000
set_option maxHeartbeats 8000000
namespace Go.Proofs.YtdkepkaflielhaaGreatDoor
open Go.RowKit Go.PlainAid
def XS(n:Nat):Value→World→Prop:=fun v _=>∃u:BA,v=.string u∧u.size=n
def LL(B:Nat)(x y:Int):Value→World→Prop:=fun v w=>∃b,v=.slice (some ⟨b,0,none⟩) 2 2∧b≠B∧w.cell? ⟨b,0,none⟩=some (.int .u8 x)∧w.cell? ⟨b,1,none⟩=some (.int .u8 y)
theorem RN(B n:Nat):cU (EB B) (XS n):=fun _ _ _ h _=>h
theorem NK(B:Nat)(x y:Int):cU (EB B) (LL B x y):=fun v w w' ⟨b,h1,h2,h3,h4⟩ he=>⟨b,h1,h2,he.cell h3 h2,he.cell h4 h2⟩
theorem zO(p:Int)(s d:BA)(x y:Int)(B:Nat)(a:OA)(len cap:Nat)(size:Int)(w:World)(hp:0≤p∧p≤255)(hs0:s.size≤16)(hd0:d.size≤16)(hx:0≤x∧x≤65535)(hy:0≤y∧y≤65535)(hl:len≤1048576)(hs:iT w B a len cap size) :
  Calls Tryz.prog 83 #[.pointer (some ⟨B,0,none⟩),TC p s d x y] w fun e w'=>(∃u:BA,e=.returned (.string u)∧u.size≤100∧dM p+2≤u.size∧(p≠6→p≠17→∃i,6≤i∧bt u i≠0))∧iT w' B a len cap size∧w.grownBy w' (some B):=by
 unfold TC;have hB:B < w.heap.size:=(Dr.start hs).hB;have D0:Hid (Dr w B a len cap size (w.alloc (.cells (dA p s d x y).toArray 43))):=(Dr.start hs).alloc _;have F0:Hid (pG (w.alloc (.cells (dA p s d x y).toArray 43)) w.heap.size p s d x y):=pG.new w;have hXB:w.heap.size≠B:=by omega
 have hz:Hid ((w.alloc (.cells (dA p s d x y).toArray 43)).heap.size=w.heap.size+1):=by unfold Hid;simp
 clear hs;go_enter Tryz.func83,Tryz.ntmps83
 go_upto_region 1 with fail
 generalize (w.alloc (.cells (dA p s d x y).toArray 43))=W0 at *;have hW0:B < W0.heap.size:=by have:=hz.out;omega
 clear hz;go_wp2_with fail
 refine(aT 7 B a len cap size _ (by omega) (by omega) hl (D0.out.alloc _).src).mono ?_;rintro e W1 ⟨r,rfl,r0,r1,hs1,hg1⟩;obtain⟨k,rfl⟩:=TZ r0;obtain⟨v,hcell,fl,rfl,hfl⟩:=tO (k:=k) (p:=fun v=>∃x,v=.int .u8 x∧(0≤x∧x≤255)) (cs:=[.int .u8 2,.int .u8 18,.int .u8 16,.int .u8 24,.int .u8 17,.int .u8 4,.int .u8 25]) hg1 hW0 (by simp;omega) (by simp);have D1:Hid (Dr w B a len cap size W1):=(D0.out.alloc _).draw hs1 hg1;have F1:Hid (pG W1 w.heap.size p s d x y):=(F0.out.drawn (EB.of (bR.alloc lR _)) hXB).drawn hg1 hXB;have r1':(k:Int) < 7:=by omega
 clear hs1 hg1 D0 F0 r0 r1;go_upto_region 2 with fail
 clear hcell r1';go_wp2_with fail
 refine(fE 12 B a len cap size _ (by omega) hl D1.out.src).mono ?_;rintro e W2 ⟨r,rfl,r0,r1,hs1,hg1⟩;obtain⟨m,rfl⟩:=TZ r0;have hm:m≤11:=by omega
 have D2:Hid (Dr w B a len cap size W2):=D1.out.draw hs1 hg1;have F2:Hid (pG W2 w.heap.size p s d x y):=F1.out.drawn hg1 hXB;clear hs1 hg1 D1 F1 r0 r1;go_wp2_with fail
 refine(nI m B a len cap size _ (by omega) hl D2.out.src).mono ?_;rintro e W3 ⟨rest,rfl,hrest,hs1,hg1⟩;have D3:Hid (Dr w B a len cap size W3):=D2.out.draw hs1 hg1;have F3:Hid (pG W3 w.heap.size p s d x y):=F2.out.drawn hg1 hXB;have hr11:rest.size≤11:=by omega
 clear hs1 hg1 D2 F2 hrest hm;go_upto_region 3 with fail
 have zx:=aP x;have zy:=aP y;have n0:¬9223372036854775807 < (aQ x).size+(aQ y).size:=by omega
 have HK:Hid (∀wy,Below W3.drew.heap.size W3.drew wy→pG wy w.heap.size p s d x y):=fun wy hy=>F3.out.drawn (EB.of ((Below.refl _ W3).drew.trans hy)) hXB
 go_cut [7] (fun v wx=>v=.string (aQ x++aQ y)∧Below W3.heap.size W3 wx)
 case first=>
  rename_i J K2 hJ hK2;refine cZ (Rs:=[aF (.pointer (some ⟨w.heap.size,3,none⟩)),aF (iV x),aF (.string (aQ x)),aF (.pointer (some ⟨w.heap.size,4,none⟩)),aF (iV y),aF (.string (aQ y)),aF (.string (aQ x++aQ y)),aF (.string (aQ x++aQ y))]) [19,20,21,22,23,24,25,7] (by kernel_rfl) (by kernel_rfl) rfl ?st ?steps ?done
  case st=>simp[cC,kU]
  case steps=>
   refine⟨?s0,?s1,?s2,?s3,?s4,?s5,?s6,?s7,trivial⟩
   case s0=>
    intro K' a wy ho hd hb hK;have h3:=ho 3 (by decide);simp[aD]at h3;clear hd;go_simp;try go_bits
    exact hK _ _ rfl bR
   case s1=>
    intro K' a wy ho hd hb hK;simp[Region.binds,aS,aF,aD]at hd;obtain⟨c0,f0,c1,f1,c2,f2,c3,f3,c4,f4⟩:=HK.out wy hb;go_simp;try go_bits
    exact hK _ _ rfl bR
   case s2=>
    intro K' a wy ho hd hb hK;simp[Region.binds,aS,aF,aD]at hd;go_simp;refine(bV x wy (by omega) (by omega)).mono ?_;rintro e wz ⟨rfl,hz⟩;exact hK _ _ rfl hz
   case s3=>
    intro K' a wy ho hd hb hK;have h3:=ho 3 (by decide);simp[aD]at h3;clear hd;go_simp;try go_bits
    exact hK _ _ rfl bR
   case s4=>
    intro K' a wy ho hd hb hK;simp[Region.binds,aS,aF,aD]at hd;obtain⟨c0,f0,c1,f1,c2,f2,c3,f3,c4,f4⟩:=HK.out wy hb;go_simp;try go_bits
    exact hK _ _ rfl bR
   case s5=>
    intro K' a wy ho hd hb hK;simp[Region.binds,aS,aF,aD]at hd;go_simp;refine(bV y wy (by omega) (by omega)).mono ?_;rintro e wz ⟨rfl,hz⟩;exact hK _ _ rfl hz
   case s6=>
    intro K' a wy ho hd hb hK;simp[Region.binds,aS,aF,aD]at hd;go_simp;try go_bits
    exact hK _ _ rfl bR
   case s7=>
    intro K' a wy ho hd hb hK;simp[Region.binds,aS,aF,aD]at hd;go_simp;try go_bits
    exact hK _ _ rfl bR
  case done=>
   intro X wz hR hz;simp only[UB,UC,eW,aF]at hR;simp only[aE,hR];clear hR;go_simp;refine hK2 _ _ (hJ _ _ ?_);(repeat apply Exists.intro)
   refine⟨⟨rfl,(Below.refl _ W3).drew.trans hz⟩,rfl⟩
 case rest=>
 obtain⟨rfl,hb4⟩:=hcut;have D4:Hid (Dr w B a len cap size wc):=D3.out.below hb4;have F4:Hid (pG wc w.heap.size p s d x y):=F3.out.drawn (EB.of hb4) hXB;have hd4:(aQ x++aQ y).size=4:=by rw[UF,zx,zy]
 have hX4:w.heap.size < wc.heap.size:=UH wc _ F4.out.c0;clear hb4 D3 F3 HK n0 zx zy;generalize aQ x++aQ y=d4 at *;have c0:=F4.out.c0;have HPr:Hid (∀W,Cw 31 #[.string s,.string d] W (.bool (cI s&&decide (s.size=d.size)))):=fun W=>BC s d W (by omega) (by omega)
 have HCk:Hid (∀W,Cw 74 #[iV p] W (iV (dM p:Nat))):=fun W=>xW p W
 generalize (cI s&&decide (s.size=d.size))=bp at *;by_cases h17:p=17
 ·have hck:dM p=6:=by rw[h17];rfl
  have d6:(p==6)=false:=by simp[h17]
  have d17:(p==17)=true:=by simp[h17]
  have HCK:Hid (dM p=6):=hck;clear h17 hck;have t8:=aP (8+(rest.size:Int));have n1:¬9223372036854775807 < d4.size+(aQ (8+(rest.size:Int))).size:=by omega
  have n2:¬9223372036854775807 < d4.size+(aQ (8+(rest.size:Int))).size+(ByteArray.mk #[0,0]).size:=by have:(ByteArray.mk #[0,0]).size=2:=rfl;omega
  have n3:¬9223372036854775807 < d4.size+(aQ (8+(rest.size:Int))).size+(ByteArray.mk #[0,0]).size+rest.size:=by have:(ByteArray.mk #[0,0]).size=2:=rfl;omega
  have n4:¬9223372036854775807 < 4+2+2+rest.size:=by omega
  have n5:¬9223372036854775807 < 8+rest.size:=by omega
  go_wp2_with fail
  refine(bV (8+(rest.size:Int)) _ (by omega) (by omega)).mono ?_;rintro e W5 ⟨rfl,hb5⟩;have D5:Hid _:=D4.out.below hb5;have F5:Hid _:=F4.out.drawn (EB.of hb5) hXB;clear hb5 D4 F4;have hdz:(d4++aQ (8+(rest.size:Int))++ByteArray.mk #[0,0]++rest).size=8+rest.size:=by simp only[UF];have:(ByteArray.mk #[0,0]).size=2:=rfl;omega
  go_upto_region 13 with fail
  clear n1 n2 n3 n4 n5 t8 c0;obtain⟨dd,hdd⟩: ∃dd,dd=d4++aQ (8+(rest.size:Int))++ByteArray.mk #[0,0]++rest:=⟨_,rfl⟩;rw[←hdd]at hdz ⊢;have HDD:Hid (dM p+2≤dd.size∧dd.size≤60):=by have:=HCK.out;unfold Hid;omega
  clear hdd hdz;obtain⟨c0,f0,c1,f1,c2,f2,c3,f3,c4,f4⟩:=F5.out;have hun:undef=Value.tuple #[]:=rfl;go_wp2_with fail
  refine(bO 6 B a len cap size _ (by omega) hl D5.out.src).mono ?_;rintro e V23 ⟨b6,rfl,hs1,hg1⟩;have D23:Hid _:=D5.out.draw hs1 hg1;have F23:Hid _:=F5.out.drawn hg1 hXB;clear hs1 hg1 c0 f0 c1 f1 c2 f2 c3 f3 c4 f4;obtain⟨c0,f0,c1,f1,c2,f2,c3,f3,c4,f4⟩:=F23.out
  cases b6 with
  | true=>
   go_wp2_with fail
   go_ret;exact⟨⟨dd,rfl,by have:=HDD.out;omega,by have:=HDD.out;omega,fun n6 n17=>absurd HCK.out (by unfold dM;rw[if_neg n6,if_neg n17];decide)⟩,D23.out.src,D23.out.grown⟩
  | false=>
   go_wp2_with fail
   refine(HPr.out _).mono ?_;rintro e V24 ⟨rfl,rfl⟩
   cases bp with
   | false=>
    go_wp2_with fail
    go_ret;exact⟨⟨dd,rfl,by have:=HDD.out;omega,by have:=HDD.out;omega,fun n6 n17=>absurd HCK.out (by unfold dM;rw[if_neg n6,if_neg n17];decide)⟩,D23.out.src,D23.out.grown⟩
   | true=>
    go_wp2_with fail
    refine(oP s d p dd _ hs0 hd0 hp (by have:=HDD.out.2;omega)).mono ?_;rintro e V25 ⟨sm,rfl,sm0,sm1,hb⟩;have D25:Hid _:=D23.out.below hb;have F25:Hid _:=F23.out.drawn (EB.of hb) hXB;clear hb c0 f0 c1 f1 c2 f2 c3 f3 c4 f4;go_wp2_with fail
    refine(bO 15 B a len cap size _ (by omega) hl D25.out.src).mono ?_;rintro e V26 ⟨b15,rfl,hs1,hg1⟩;have D26:Hid _:=D25.out.draw hs1 hg1;have F26:Hid _:=F25.out.drawn hg1 hXB;clear hs1 hg1 D25 F25
    cases b15 with
    | false=>
     obtain⟨c0,f0,c1,f1,c2,f2,c3,f3,c4,f4⟩:=F26.out;go_upto_region 18 with fail
     go_wp2_with fail
     refine(HCk.out _).mono ?_;rintro e V27 ⟨rfl,rfl⟩;go_wp2_with fail
     refine(bV (65535-sm) _ (by omega) (by omega)).mono ?_;rintro e Y27 ⟨rfl,hb27⟩;have D27:Hid _:=D26.out.below hb27;clear hb27 c0 f0 c1 f1 c2 f2 c3 f3 c4 f4;go_wp2_with fail
     refine(iK dd (dM p) (aQ (65535-sm)) _ (by rw[aP];exact HDD.out.1) (by have:=HDD.out.2;omega)).mono ?_;rintro e Z27 ⟨u,rfl,hu,hb⟩;have E27:Hid _:=D27.out.below hb;clear hb;go_wp2_with fail
     go_ret;exact⟨⟨u,rfl,by have:=HDD.out;omega,by have:=HDD.out;omega,fun n6 n17=>absurd HCK.out (by unfold dM;rw[if_neg n6,if_neg n17];decide)⟩,E27.out.src,E27.out.grown⟩
    | true=>
     go_wp2_with fail
     refine(fE 65536 B a len cap size _ (by omega) hl D26.out.src).mono ?_;rintro e V28 ⟨rn,rfl,rn0,rn1,hs1,hg1⟩;have D28:Hid _:=D26.out.draw hs1 hg1;have F28:Hid _:=F26.out.drawn hg1 hXB;have rn2:rn≤65535:=by omega
     clear hs1 hg1 D26 F26 rn1;obtain⟨c0,f0,c1,f1,c2,f2,c3,f3,c4,f4⟩:=F28.out;go_upto_region 18 with fail
     go_wp2_with fail
     refine(HCk.out _).mono ?_;rintro e V29 ⟨rfl,rfl⟩;go_wp2_with fail
     refine(bV rn _ (by omega) (by omega)).mono ?_;rintro e Y29 ⟨rfl,hb29⟩;have D29:Hid _:=D28.out.below hb29;clear hb29 c0 f0 c1 f1 c2 f2 c3 f3 c4 f4;go_wp2_with fail
     refine(iK dd (dM p) (aQ rn) _ (by rw[aP];exact HDD.out.1) (by have:=HDD.out.2;omega)).mono ?_;rintro e Z29 ⟨u,rfl,hu,hb⟩;have E29:Hid _:=D29.out.below hb;clear hb;go_wp2_with fail
     go_ret;exact⟨⟨u,rfl,by have:=HDD.out;omega,by have:=HDD.out;omega,fun n6 n17=>absurd HCK.out (by unfold dM;rw[if_neg n6,if_neg n17];decide)⟩,E29.out.src,E29.out.grown⟩
 have d17:(p==17)=false:=by simp[h17]
 by_cases h6:p=6
 ·have d6:(p==6)=true:=by simp[h6]
  have HCK:Hid (dM p=16):=by rw[h6];rfl
  clear h6 h17;go_upto_region 10 with fail
  have n1:¬9223372036854775807 < 20+rest.size:=by omega
  refine tV (EB B) (fun wx=>Dr w B a len cap size wx∧pG wx w.heap.size p s d x y) (Rs:=[XV (.string d4),XV (.pointer (some ⟨B,0,none⟩)),XS 8,XS 12,XV (.int .u8 fl),LL B 80 fl,XS 2,XS 14,XS 20,XV (.string rest),XS (20+rest.size)]) [53,54,55,56,57,58,59,60,61,62,63] _ (by kernel_rfl) rfl (by kernel_rfl) rfl ⟨D4.out.below bR.drew,F4.out.drawn (EB.of bR.drew) hXB⟩ ?st ?steps ?lst
  case st=>simp[RO,RN,NK]
  case steps=>
   refine⟨?s0,?s1,?s2,?s3,?s4,?s5,?s6,?s7,?s8,?s9,?s10,trivial⟩
   case s0=>
    intro K' act wy ho hd ⟨hI1,hI2⟩ hK;have h3:=ho 7 (by decide);simp[aD]at h3;clear hd;go_simp;exact hK _ _ rfl (EB.of bR) ⟨hI1,hI2⟩
   case s1=>
    intro K' act wy ho hd ⟨hI1,hI2⟩ hK;have h3:=ho 0 (by decide);simp[aD]at h3;clear hd;go_simp;exact hK _ _ rfl (EB.of bR) ⟨hI1,hI2⟩
   case s2=>
    intro K' act wy ho hd ⟨hI1,hI2⟩ hK;have q1:XV (.pointer (some ⟨B,0,none⟩)) (aD act 54) wy:=hd ⟨1,.data⟩ (by simp) rfl;clear hd;unfold XV at q1;simp[aD]at q1;go_simp;refine(nI 8 B a len cap size wy (by omega) hl hI1.src).mono ?_;rintro e wz ⟨u,rfl,hu,hsz,hgz⟩;exact hK _ _ ⟨u,rfl,hu⟩ hgz ⟨hI1.draw hsz hgz,hI2.drawn hgz hXB⟩
   case s3=>
    intro K' act wy ho hd ⟨hI1,hI2⟩ hK;have q0:XV (.string d4) (aD act 53) wy:=hd ⟨0,.data⟩ (by simp) rfl;have q2:XS 8 (aD act 55) wy:=hd ⟨2,.data⟩ (by simp) rfl;clear hd;unfold XV at q0;simp[aD]at q0;obtain⟨u2,q2,z2⟩:=q2;simp[aD]at q2;go_simp;exact hK _ _ ⟨d4++u2,rfl,by rw[UF];omega⟩ (EB.of bR) ⟨hI1,hI2⟩
   case s4=>
    intro K' act wy ho hd ⟨hI1,hI2⟩ hK;have h3:=ho 5 (by decide);simp[aD]at h3;clear hd;go_simp;exact hK _ _ rfl (EB.of bR) ⟨hI1,hI2⟩
   case s5=>
    intro K' act wy ho hd ⟨hI1,hI2⟩ hK;have q4:XV (.int .u8 fl) (aD act 57) wy:=hd ⟨4,.data⟩ (by simp) rfl;clear hd;unfold XV at q4;simp[aD]at q4;go_simp;exact hK _ _ ⟨wy.heap.size,rfl,by have:=hI1.le;omega,bW rfl,bW rfl⟩ (EB.of (bR.alloc lR _)) ⟨hI1.alloc _,hI2.drawn (EB.of (bR.alloc lR _)) hXB⟩
   case s6=>
    intro K' act wy ho hd ⟨hI1,hI2⟩ hK;have q5:LL B 80 fl (aD act 58) wy:=hd ⟨5,.data⟩ (by simp) rfl;clear hd;obtain⟨b5,q5,nb5,g5,h5⟩:=q5;simp[aD]at q5;have hcv:=tN (cap:=2) (by omega) hfl g5 h5;go_simp;exact hK _ _ ⟨_,rfl,rfl⟩ (EB.of bR) ⟨hI1,hI2⟩
   case s7=>
    intro K' act wy ho hd ⟨hI1,hI2⟩ hK;have q3:XS 12 (aD act 56) wy:=hd ⟨3,.data⟩ (by simp) rfl;have q6:XS 2 (aD act 59) wy:=hd ⟨6,.data⟩ (by simp) rfl;clear hd;obtain⟨u3,q3,z3⟩:=q3;simp[aD]at q3;obtain⟨u6,q6,z6⟩:=q6;simp[aD]at q6;go_simp;exact hK _ _ ⟨u3++u6,rfl,by rw[UF];omega⟩ (EB.of bR) ⟨hI1,hI2⟩
   case s8=>
    intro K' act wy ho hd ⟨hI1,hI2⟩ hK;have q7:XS 14 (aD act 60) wy:=hd ⟨7,.data⟩ (by simp) rfl;clear hd;obtain⟨u7,q7,z7⟩:=q7;simp[aD]at q7;go_simp;exact hK _ _ ⟨_,rfl,by rw[UF];have:(ByteArray.mk #[16,0,0,0,0,0]).size=6:=rfl;omega⟩ (EB.of bR) ⟨hI1,hI2⟩
   case s9=>
    intro K' act wy ho hd ⟨hI1,hI2⟩ hK;have h3:=ho 6 (by decide);simp[aD]at h3;clear hd;go_simp;exact hK _ _ rfl (EB.of bR) ⟨hI1,hI2⟩
   case s10=>
    intro K' act wy ho hd ⟨hI1,hI2⟩ hK;have q8:XS 20 (aD act 61) wy:=hd ⟨8,.data⟩ (by simp) rfl;have q9:XV (.string rest) (aD act 62) wy:=hd ⟨9,.data⟩ (by simp) rfl;clear hd;obtain⟨u8,q8,z8⟩:=q8;simp[aD]at q8;unfold XV at q9;simp[aD]at q9;go_simp;exact hK _ _ ⟨u8++rest,rfl,by rw[UF];omega⟩ (EB.of bR) ⟨hI1,hI2⟩
  case lst=>
   intro X act K' wz ha hsl hR ⟨hI1,hI2⟩ hK;have HAct:Hid (act=_):=ha;clear ha;obtain⟨z0,z1,z2,z3,z4,z5,z6,z7,z8,z9,⟨dd,z10,hdz⟩,-⟩:=hR;have s63:=hsl 10 (by decide);rw[z10]at s63;simp[aD]at s63;clear hsl;go_simp;refine hK _ _ ?_;rw[HAct.out];simp only[aE,z10];clear s63 HAct hK z0 z1 z2 z3 z4 z5 z6 z7 z8 z9 z10;go_simp;have D5:Hid _:=hI1;have F5:Hid _:=hI2;have HDD:Hid (dM p+2≤dd.size∧dd.size≤60):=by have:=HCK.out;unfold Hid;omega
   clear hI1 hI2 hdz D4 F4 c0 n1;obtain⟨c0,f0,c1,f1,c2,f2,c3,f3,c4,f4⟩:=F5.out;go_upto_region 13 with fail
   have hun:undef=Value.tuple #[]:=rfl;go_wp2_with fail
   refine(HPr.out _).mono ?_;rintro e V11 ⟨rfl,rfl⟩
   cases bp with
   | false=>
    go_wp2_with fail
    go_ret;exact⟨⟨dd,rfl,by have:=HDD.out;omega,by have:=HDD.out;omega,fun n6 n17=>absurd HCK.out (by unfold dM;rw[if_neg n6,if_neg n17];decide)⟩,D5.out.src,D5.out.grown⟩
   | true=>
    go_wp2_with fail
    refine(oP s d p dd _ hs0 hd0 hp (by have:=HDD.out.2;omega)).mono ?_;rintro e V12 ⟨sm,rfl,sm0,sm1,hb⟩;have D12:Hid _:=D5.out.below hb;have F12:Hid _:=F5.out.drawn (EB.of hb) hXB;clear hb c0 f0 c1 f1 c2 f2 c3 f3 c4 f4;go_wp2_with fail
    refine(bO 15 B a len cap size _ (by omega) hl D12.out.src).mono ?_;rintro e V13 ⟨b15,rfl,hs1,hg1⟩;have D13:Hid _:=D12.out.draw hs1 hg1;have F13:Hid _:=F12.out.drawn hg1 hXB;clear hs1 hg1 D12 F12
    cases b15 with
    | false=>
     obtain⟨c0,f0,c1,f1,c2,f2,c3,f3,c4,f4⟩:=F13.out;go_upto_region 18 with fail
     go_wp2_with fail
     refine(HCk.out _).mono ?_;rintro e V14 ⟨rfl,rfl⟩;go_wp2_with fail
     refine(bV (65535-sm) _ (by omega) (by omega)).mono ?_;rintro e Y14 ⟨rfl,hb14⟩;have D14:Hid _:=D13.out.below hb14;clear hb14 c0 f0 c1 f1 c2 f2 c3 f3 c4 f4;go_wp2_with fail
     refine(iK dd (dM p) (aQ (65535-sm)) _ (by rw[aP];exact HDD.out.1) (by have:=HDD.out.2;omega)).mono ?_;rintro e Z14 ⟨u,rfl,hu,hb⟩;have E14:Hid _:=D14.out.below hb;clear hb;go_wp2_with fail
     go_ret;exact⟨⟨u,rfl,by have:=HDD.out;omega,by have:=HDD.out;omega,fun n6 n17=>absurd HCK.out (by unfold dM;rw[if_neg n6,if_neg n17];decide)⟩,E14.out.src,E14.out.grown⟩
    | true=>
     go_wp2_with fail
     refine(fE 65536 B a len cap size _ (by omega) hl D13.out.src).mono ?_;rintro e V15 ⟨rn,rfl,rn0,rn1,hs1,hg1⟩;have D15:Hid _:=D13.out.draw hs1 hg1;have F15:Hid _:=F13.out.drawn hg1 hXB;have rn2:rn≤65535:=by omega
     clear hs1 hg1 D13 F13 rn1;obtain⟨c0,f0,c1,f1,c2,f2,c3,f3,c4,f4⟩:=F15.out;go_upto_region 18 with fail
     go_wp2_with fail
     refine(HCk.out _).mono ?_;rintro e V16 ⟨rfl,rfl⟩;go_wp2_with fail
     refine(bV rn _ (by omega) (by omega)).mono ?_;rintro e Y16 ⟨rfl,hb16⟩;have D16:Hid _:=D15.out.below hb16;clear hb16 c0 f0 c1 f1 c2 f2 c3 f3 c4 f4;go_wp2_with fail
     refine(iK dd (dM p) (aQ rn) _ (by rw[aP];exact HDD.out.1) (by have:=HDD.out.2;omega)).mono ?_;rintro e Z16 ⟨u,rfl,hu,hb⟩;have E16:Hid _:=D16.out.below hb;clear hb;go_wp2_with fail
     go_ret;exact⟨⟨u,rfl,by have:=HDD.out;omega,by have:=HDD.out;omega,fun n6 n17=>absurd HCK.out (by unfold dM;rw[if_neg n6,if_neg n17];decide)⟩,E16.out.src,E16.out.grown⟩
 have d6:(p==6)=false:=by simp[h6]
 have HCK:Hid (dM p=2):=by unfold Hid dM;rw[if_neg h6,if_neg h17]
 clear h6 h17;have hW4:B < wc.heap.size:=by omega
 go_wp2_with fail
 refine(aT 2 B a len cap size _ (by omega) (by omega) hl (D4.out.alloc _).src).mono ?_;rintro e W5 ⟨r,rfl,r0,r1,hs1,hg1⟩;obtain⟨k,rfl⟩:=TZ r0;obtain⟨v,hcell,f8,rfl,hf8⟩:=tO (k:=k) (p:=fun v=>∃x,v=.int .u8 x∧(0≤x∧x≤255)) (cs:=[.int .u8 8,.int .u8 0]) hg1 hW4 (by simp;omega) (by simp);have D5:Hid (Dr w B a len cap size W5):=(D4.out.alloc _).draw hs1 hg1;have F5:Hid (pG W5 w.heap.size p s d x y):=(F4.out.drawn (EB.of (bR.alloc lR _)) hXB).drawn hg1 hXB;have r1':(k:Int) < 2:=by omega
 clear hs1 hg1 D4 F4 r0 r1 c0;go_upto_region 6 with fail
 clear hcell r1';have c0:=F5.out.c0;go_upto_if 35 with fail
 go_cut [8] (fun v wx=>∃f,v=.int .u8 f∧(0≤f∧f≤255)∧Dr w B a len cap size wx∧pG wx w.heap.size p s d x y)
 case first=>
  by_cases h58:p=58
  ·have d58:(p==58)=true:=by simp[h58]
   have hW5:B < W5.heap.size:=by have:=D5.out.le;omega
   clear h58;go_wp2_with fail
   refine(aT 2 B a len cap size _ (by omega) (by omega) hl (D5.out.alloc _).src).mono ?_;rintro e W6 ⟨r,rfl,r0,r1,hs1,hg1⟩;obtain⟨k2,rfl⟩:=TZ r0;obtain⟨v,hcell,f9,rfl,hf9⟩:=tO (k:=k2) (p:=fun v=>∃x,v=.int .u8 x∧(0≤x∧x≤255)) (cs:=[.int .u8 128,.int .u8 129]) hg1 hW5 (by simp;omega) (by simp);have D6:Hid (Dr w B a len cap size W6):=(D5.out.alloc _).draw hs1 hg1;have F6:Hid (pG W6 w.heap.size p s d x y):=(F5.out.drawn (EB.of (bR.alloc lR _)) hXB).drawn hg1 hXB;have r1':(k2:Int) < 2:=by omega
   clear hs1 hg1 r0 r1;go_wp2_with fail
   go_meet;exact⟨f9,rfl,hf9,D6.out,F6.out⟩
  ·have d58:(p==58)=false:=by simp[h58]
   go_wp2_with fail
   go_meet;exact⟨f8,rfl,hf8,D5.out,F5.out⟩
 case rest=>
 obtain⟨f,rfl,hf,hD,hF⟩:=hcut;have D6:Hid _:=hD;have F6:Hid _:=hF;clear hD hF D5 F5 c0 hf8 d17 d6;go_upto_region 8 with fail
 have zx:=aP x;have zq:=oM f 0;have n0:¬9223372036854775807 < (jY f 0).size+(aQ x).size:=by omega
 have n1:¬9223372036854775807 < (jY f 0).size+(aQ x).size+rest.size:=by omega
 have n2:¬9223372036854775807 < (jY f 0).size+(aQ x).size+rest.size+(ByteArray.mk #[97,98]).size:=by have:(ByteArray.mk #[97,98]).size=2:=rfl;omega
 have n3:¬9223372036854775807 < 4+2+rest.size:=by omega
 have n4:¬9223372036854775807 < 4+2+rest.size+2:=by omega
 have n5:¬9223372036854775807 < 6+rest.size:=by omega
 have n6:¬9223372036854775807 < 6+rest.size+2:=by omega
 have hdz:(jY f 0++aQ x++rest++ByteArray.mk #[97,98]).size=8+rest.size:=by simp only[UF];have:(ByteArray.mk #[97,98]).size=2:=rfl;omega
 obtain⟨WC,hWC⟩: ∃W,W=wc:=⟨_,rfl⟩;subst hWC;have HK:Hid (∀wy,Below WC.drew.heap.size WC.drew wy→pG wy w.heap.size p s d x y):=fun wy hy=>F6.out.drawn (EB.of ((Below.refl _ WC).drew.trans hy)) hXB
 have HDZ:Hid _:=hdz;clear hdz;refine cZ (Rs:=[aF (.int .u8 f),rD (f) (0),aF (.string (jY f 0)),aF (.pointer (some ⟨w.heap.size,3,none⟩)),aF (iV x),aF (.string (aQ x)),aF (.string (jY f 0++aQ x)),aF (.string rest),aF (.string (jY f 0++aQ x++rest)),aF (.string (jY f 0++aQ x++rest++ByteArray.mk #[97,98])),aF (.string (jY f 0++aQ x++rest++ByteArray.mk #[97,98]))]) [41,42,43,44,45,46,47,48,49,50,7] (by kernel_rfl) (by kernel_rfl) rfl ?st ?steps ?done
 case st=>simp[cC,nK]
 case steps=>
  refine⟨?s0,?s1,?s2,?s3,?s4,?s5,?s6,?s7,?s8,?s9,?s10,trivial⟩
  case s0=>
   intro K' a wy ho hd hb hK;have h3:=ho 8 (by decide);simp[aD]at h3;clear hd;go_simp;try go_bits
   exact hK _ _ rfl bR
  case s1=>
   intro K' a wy ho hd hb hK;simp[Region.binds,aS,aF,aD]at hd;go_simp;exact hK _ _ ⟨wy.heap.size,rfl,by simp,by simp,by simp,by simp⟩ (bR.alloc lR _)
  case s2=>
   intro K' a wy ho hd hb hK;simp only[List.forall_mem_singleton,Array.mem_def,List.mem_singleton,forall_eq]at hd;obtain⟨b,hd1,hd2,hd3,hd4',hd5⟩: rD (f) (0) (aD a 42) wy:=hd rfl;have hcv:=tP (cap:=4) hf (by omega) hd2 hd3 hd4' hd5;simp[aD]at hd1;go_simp;try go_bits
   exact hK _ _ rfl bR
  case s3=>
   intro K' a wy ho hd hb hK;have h3:=ho 3 (by decide);simp[aD]at h3;clear hd;go_simp;try go_bits
   exact hK _ _ rfl bR
  case s4=>
   intro K' a wy ho hd hb hK;simp[Region.binds,aS,aF,aD]at hd;obtain⟨c0,f0,c1,f1,c2,f2,c3,f3,c4,f4⟩:=HK.out wy hb;go_simp;try go_bits
   exact hK _ _ rfl bR
  case s5=>
   intro K' a wy ho hd hb hK;simp[Region.binds,aS,aF,aD]at hd;go_simp;refine(bV x wy (by omega) (by omega)).mono ?_;rintro e wz ⟨rfl,hz⟩;exact hK _ _ rfl hz
  case s6=>
   intro K' a wy ho hd hb hK;simp[Region.binds,aS,aF,aD]at hd;go_simp;try go_bits
   exact hK _ _ rfl bR
  case s7=>
   intro K' a wy ho hd hb hK;have h3:=ho 6 (by decide);simp[aD]at h3;clear hd;go_simp;try go_bits
   exact hK _ _ rfl bR
  case s8=>
   intro K' a wy ho hd hb hK;simp[Region.binds,aS,aF,aD]at hd;go_simp;try go_bits
   exact hK _ _ rfl bR
  case s9=>
   intro K' a wy ho hd hb hK;simp[Region.binds,aS,aF,aD]at hd;go_simp;try go_bits
   exact hK _ _ rfl bR
  case s10=>
   intro K' a wy ho hd hb hK;simp[Region.binds,aS,aF,aD]at hd;go_simp;try go_bits
   exact hK _ _ rfl bR
 case done=>
  intro X wz hR hz;obtain⟨x0,⟨b1,x1,-,-,-,-⟩,x2,x3,x4,x5,x6,x7,x8,x9,x10,-⟩:=hR;simp only[aF]at x0 x2 x3 x4 x5 x6 x7 x8 x9 x10;simp only[aE,x0,x1,x2,x3,x4,x5,x6,x7,x8,x9,x10];clear x0 x1 x2 x3 x4 x5 x6 x7 x8 x9 x10;go_simp;obtain⟨dd,hdd⟩: ∃dd,dd=jY f 0++aQ x++rest++ByteArray.mk #[97,98]:=⟨_,rfl⟩;rw[←hdd]at HDZ ⊢;have hdz:=HDZ.out;have HB8:Hid (∃i,6≤i∧i < dd.size∧bt dd i≠0):=by
   have s1:(jY f 0++aQ x++rest).size=6+rest.size:=by simp only[UF,oM,aP]
   refine⟨6+rest.size,by omega,?_,?_⟩
   ·rw[hdd,UF,s1];show _ < _+2;omega
   ·rw[hdd,dR,s1,if_neg (by omega),Nat.sub_self];decide
  have D7:Hid _:=D6.out.below ((Below.refl _ WC).drew.trans hz);have F7:Hid _:=F6.out.drawn (EB.of ((Below.refl _ WC).drew.trans hz)) hXB;have HDD:Hid (dM p+2≤dd.size∧dd.size≤60):=by have:=HCK.out;unfold Hid;omega
  clear hz hdz hdd D6 F6 HK HDZ n0 n1 n2 n3 n4 n5 n6 zx zq;by_cases h17:p=17
  ·have:=HCK.out;rw[h17]at this;exact absurd this (by decide)
  have d17:(p==17)=false:=by simp[h17]
  clear h17;obtain⟨c0,f0,c1,f1,c2,f2,c3,f3,c4,f4⟩:=F7.out;go_upto_region 13 with fail
  have hun:undef=Value.tuple #[]:=rfl;go_wp2_with fail
  refine(HPr.out _).mono ?_;rintro e V17 ⟨rfl,rfl⟩
  cases bp with
  | false=>
   go_wp2_with fail
   go_ret;exact⟨⟨dd,rfl,by have:=HDD.out;omega,by have:=HDD.out;omega,fun _ _=>HB8.out.imp fun i h=>⟨h.1,h.2.2⟩⟩,D7.out.src,D7.out.grown⟩
  | true=>
   go_wp2_with fail
   refine(oP s d p dd _ hs0 hd0 hp (by have:=HDD.out.2;omega)).mono ?_;rintro e V18 ⟨sm,rfl,sm0,sm1,hb⟩;have D18:Hid _:=D7.out.below hb;have F18:Hid _:=F7.out.drawn (EB.of hb) hXB;clear hb c0 f0 c1 f1 c2 f2 c3 f3 c4 f4;go_wp2_with fail
   refine(bO 15 B a len cap size _ (by omega) hl D18.out.src).mono ?_;rintro e V19 ⟨b15,rfl,hs1,hg1⟩;have D19:Hid _:=D18.out.draw hs1 hg1;have F19:Hid _:=F18.out.drawn hg1 hXB;clear hs1 hg1 D18 F18
   cases b15 with
   | false=>
    obtain⟨c0,f0,c1,f1,c2,f2,c3,f3,c4,f4⟩:=F19.out;go_upto_region 18 with fail
    go_wp2_with fail
    refine(HCk.out _).mono ?_;rintro e V20 ⟨rfl,rfl⟩;go_wp2_with fail
    refine(bV (65535-sm) _ (by omega) (by omega)).mono ?_;rintro e Y20 ⟨rfl,hb20⟩;have D20:Hid _:=D19.out.below hb20;clear hb20 c0 f0 c1 f1 c2 f2 c3 f3 c4 f4;go_wp2_with fail
    refine(iK dd (dM p) (aQ (65535-sm)) _ (by rw[aP];exact HDD.out.1) (by have:=HDD.out.2;omega)).mono ?_;rintro e Z20 ⟨u,rfl,hu,hb⟩;have E20:Hid _:=D20.out.below hb;clear hb;go_wp2_with fail
    go_ret;exact⟨⟨u,rfl,by have:=HDD.out;omega,by have:=HDD.out;omega,fun _ _=>HB8.out.imp fun i h=>⟨h.1,by rw[hu.2 i (by rw[aP,HCK.out];omega) h.2.1];exact h.2.2⟩⟩,E20.out.src,E20.out.grown⟩
   | true=>
    go_wp2_with fail
    refine(fE 65536 B a len cap size _ (by omega) hl D19.out.src).mono ?_;rintro e V21 ⟨rn,rfl,rn0,rn1,hs1,hg1⟩;have D21:Hid _:=D19.out.draw hs1 hg1;have F21:Hid _:=F19.out.drawn hg1 hXB;have rn2:rn≤65535:=by omega
    clear hs1 hg1 D19 F19 rn1;obtain⟨c0,f0,c1,f1,c2,f2,c3,f3,c4,f4⟩:=F21.out;go_upto_region 18 with fail
    go_wp2_with fail
    refine(HCk.out _).mono ?_;rintro e V22 ⟨rfl,rfl⟩;go_wp2_with fail
    refine(bV rn _ (by omega) (by omega)).mono ?_;rintro e Y22 ⟨rfl,hb22⟩;have D22:Hid _:=D21.out.below hb22;clear hb22 c0 f0 c1 f1 c2 f2 c3 f3 c4 f4;go_wp2_with fail
    refine(iK dd (dM p) (aQ rn) _ (by rw[aP];exact HDD.out.1) (by have:=HDD.out.2;omega)).mono ?_;rintro e Z22 ⟨u,rfl,hu,hb⟩;have E22:Hid _:=D22.out.below hb;clear hb;go_wp2_with fail
    go_ret;exact⟨⟨u,rfl,by have:=HDD.out;omega,by have:=HDD.out;omega,fun _ _=>HB8.out.imp fun i h=>⟨h.1,by rw[hu.2 i (by rw[aP,HCK.out];omega) h.2.1];exact h.2.2⟩⟩,E22.out.src,E22.out.grown⟩
abbrev kX(p:P4):List Value:=(dY p)
abbrev mW(f:Fl):List Value:=(gE f)
abbrev tB(t:Tc):List Value:=(FF t)
abbrev K9(w:World)(t:Tc):List (Nat × List Value):=[(w.heap.size,tB t),(w.heap.size+1,kX pS)]
def tE(q:P4):Prop:=q.src.size≤1000∧q.dst.size≤1000∧q.opts.size≤1000∧q.data.size≤1000∧(q.UU=1→q.data.size=0∨∃i,6≤i∧bt q.data i≠0)
def SF(f:Fl):Prop:=f.src.size≤1000∧f.dst.size≤1000
def FD(t:Tc)(q:P4):Prop:=tE q∧q.UU=t.UU
def LE(t:Tc)(f:Fl):Prop:=SF f∧f.UU=t.UU
def tF(n:Int):Value→World→Prop:=fun v _=>∃r,v=iV r∧0≤r∧r≤n
theorem vE{B:Nat}{n:Int}:cU (EB B) (tF n):=fun _ _ _ h _=>h
def NV:Value→World→Prop:=fun v _=>∃b,v=.bool b
theorem OW{B:Nat}:cU (EB B) NV:=fun _ _ _ h _=>h
def QF(s d:BA)(pr:Int):Value→World→Prop:=fun v _=>∃q:P4,v=.agg ((dY q).toArray)∧q.src=s∧q.dst=d∧q.opts=⟨#[]⟩∧q.data=⟨#[]⟩∧q.UU=pr
theorem OZ{B:Nat}{s d:BA}{pr:Int}:cU (EB B) (QF s d pr):=fun _ _ _ h _=>h
theorem JV{f:Fl}(h:cF f=true):(0≤f.UU∧f.UU≤255)∧f.src.size≤16∧f.dst.size≤16∧(0≤f.sp∧f.sp≤65535)∧(0≤f.dp∧f.dp≤65535):=by
 unfold cF at h;simp only[TP]at h;obtain⟨⟨⟨⟨h1,h2⟩,h3⟩,h4⟩,_⟩:=h;obtain⟨h5,h6⟩:=jM h1;unfold cB at h2;unfold jS at h3 h4;simp only[TP,UK,TU]at h2 h3 h4;omega
def QE(n B:Nat)(ks:List (Nat × List Value))(L:List Value):Value→World→Prop:=fun v w=>∃b,v=.pointer (some ⟨b,0,none⟩)∧b≠B∧n≤b∧(∀e∈ks,e.1≠b)∧aA w b L
theorem OY{n B:Nat}{ks:List (Nat × List Value)}{L:List Value}(hL:0 < L.length):cU (EB B) (QE n B ks L):=fun v w w' ⟨b,h1,h2,h3,h4,h5⟩ he=>⟨b,h1,h2,h3,h4,h5.grown hL he (by simp;exact h2)⟩
theorem DB.add{w wx:World}{B:Nat}{sa:OA}{len cap:Nat}{size:Int}{ks:List (Nat × List Value)}(h:DB w B sa len cap size ks wx){b:Nat}{L:List Value}(hb:aA wx b L)(hL:0 < L.length)(hn:w.heap.size≤b):DB w B sa len cap size ((b,L)::ks) wx :=
 ⟨h.dr,fun e he=>(TW.1 he).elim (fun x=>by rw[x];exact hb) (h.k e),fun e he=>(TW.1 he).elim (fun x=>by rw[x];exact hL) (h.z e),fun e he=>(TW.1 he).elim (fun x=>by rw[x];exact hn) (h.n e)⟩
theorem KG{w:World}{b cap:Nat}{n:Int}(h0:0≤n)(h1:n≤255)(hc:w.cell? ⟨b,0,none⟩=some (.int .u8 n)) :
  ∃u:BA,u.size=1∧(convert 22 9 (.slice (some ⟨b,0,none⟩) 1 cap)).run Tryz.prog w=.ok (.string u) w :=
 ⟨⟨[UInt8.ofNat n.toNat].toArray⟩,rfl,run_convert_bytes_back (P:=Tryz.prog) w 22 9 5 ⟨b,0,none⟩ cap [UInt8.ofNat n.toNat] Tryz.underlying22 Tryz.underlying5 Tryz.underlying9 (fun j hj=>by
  match j,hj with
  | 0,_=>simp only[Addr.add,Nat.add_zero,UO];rw[fI _ (by omega) (by omega)];exact hc)⟩
theorem zQ(t:Tc)(B:Nat)(sa:OA)(len cap:Nat)(size:Int)(w:World)(hl:len≤1048576)(ht:pB t)(hs:iT w B sa len cap size) :
  Calls Tryz.prog 51 #[.pointer (some ⟨B,0,none⟩),qF t] w fun e w'=>(∃q:P4,e=.returned (mD q)∧tE q)∧iT w' B sa len cap size∧w.grownBy w' (some B):=by
 have ha1:t.addr.size≤1000:=ht.1;have hp1:t.peer.size≤1000:=ht.2.1;clear ht;have hBW:B < w.heap.size:=(Dr.start hs).hB;unfold qF;have e0:aA ((aW w (FF t) 89).alloc (.cells (fM 0 0 false false 0 0 0 ⟨#[]⟩ ⟨#[]⟩ ⟨#[]⟩ ⟨#[]⟩).toArray 33)) (w.heap.size) (FF t):=by
  have h:=aA.new w (FF t) 89;try simp only[TQ]at h
  exact(h.alloc _)
 have e1:aA ((aW w (FF t) 89).alloc (.cells (fM 0 0 false false 0 0 0 ⟨#[]⟩ ⟨#[]⟩ ⟨#[]⟩ ⟨#[]⟩).toArray 33)) (w.heap.size+1) (fM 0 0 false false 0 0 0 ⟨#[]⟩ ⟨#[]⟩ ⟨#[]⟩ ⟨#[]⟩):=by
  have h:=aA.new (w.alloc (.cells (FF t).toArray 89)) (fM 0 0 false false 0 0 0 ⟨#[]⟩ ⟨#[]⟩ ⟨#[]⟩ ⟨#[]⟩) 33;try simp only[TQ]at h
  exact h
 have S0:Hid (DB w B sa len cap size (K9 w t) ((aW w (FF t) 89).alloc (.cells (fM 0 0 false false 0 0 0 ⟨#[]⟩ ⟨#[]⟩ ⟨#[]⟩ ⟨#[]⟩).toArray 33))):=by
  refine⟨(((Dr.start hs).alloc _).alloc _),fun e he=>?_,fun e he=>?_,fun e he=>?_⟩
  ·simp only[TW,TV,or_false]at he;rcases he with rfl|rfl
   ·exact e0
   ·exact e1
  ·simp only[TW,TV,or_false]at he;rcases he with rfl|rfl<;>simp
  ·simp only[TW,TV,or_false]at he;rcases he with rfl|rfl<;>simp
 clear e0 e1 hs;have hun:undef=Value.tuple #[]:=rfl;go_enter Tryz.func51,Tryz.ntmps51
 go_upto_region 1 with fail
 generalize World.alloc _ _=W0 at *;go_cut [5] (fun v wx=>∃g q,v=.pointer (some ⟨g,0,none⟩)∧FD t q∧w.heap.size≤g∧(∀e∈(K9 w t),e.1≠g)∧DB w B sa len cap size ((g,kX q)::K9 w t) wx)
 case first=>
  rename_i J K2 hJ hK2;clear hun;refine eU (EB B) (fun wx=>DB w B sa len cap size (K9 w t) wx) [9,10,11,12,13,14,15,16,17,18,19,20,21,22,23,24,5] (by kernel_rfl) (by kernel_rfl) (S0.out.below bR.drew) ?_;(apply cP.u xQ rfl;(·intro K' a wy ho hd hI hK;simp[aS,aF,aD,Region.binds]at ho hd;go_simp;(try go_bits);exact hK _ rfl);dsimp only[nA,cA])
  refine cP.rel (n:=1) (tF 255) (vE) [_,tF 255] rfl rfl ?_ ?_
  ·intro K' a wy ho hd hI hK;rw[wN rfl];have q0:=hd ⟨0,.data⟩ (by simp) rfl;simp[aS,aF,aD]at q0;clear hd ho;go_simp;refine(aT 256 B sa len cap size wy (by omega) (by omega) hl hI.dr.src).mono ?_;rintro e wz ⟨r,rfl,h0,h1,hsz,hgz⟩;exact hK _ _ ⟨r,rfl,h0,by omega⟩ hgz (hI.draw hsz hgz)
  (apply cP.u xQ rfl;(·intro K' a wy ho hd hI hK;simp[aS,aF,aD,Region.binds]at ho hd;go_simp;(try go_bits);exact hK _ rfl);dsimp only[nA,cA])
  refine cP.rel (n:=3) (tF 8) (vE) [_,_,_,tF 8] rfl rfl ?_ ?_
  ·intro K' a wy ho hd hI hK;rw[wN rfl];have q2:=hd ⟨2,.data⟩ (by simp) rfl;simp[aS,aF,aD]at q2;clear hd ho;go_simp;refine(aT 9 B sa len cap size wy (by omega) (by omega) hl hI.dr.src).mono ?_;rintro e wz ⟨r,rfl,h0,h1,hsz,hgz⟩;exact hK _ _ ⟨r,rfl,h0,by omega⟩ hgz (hI.draw hsz hgz)
  (apply cP.u xQ rfl;(·intro K' a wy ho hd hI hK;simp[aS,aF,aD,Region.binds]at ho hd;go_simp;(try go_bits);exact hK _ rfl);dsimp only[nA,cA])
  refine cP.rel (n:=5) (NV) (OW) [_,_,_,_,_,NV] rfl rfl ?_ ?_
  ·intro K' a wy ho hd hI hK;rw[wN rfl];have q4:=hd ⟨4,.data⟩ (by simp) rfl;simp[aS,aF,aD]at q4;clear hd ho;go_simp;refine(bO 2 B sa len cap size wy (by omega) hl hI.dr.src).mono ?_;rintro e wz ⟨r,rfl,hsz,hgz⟩;exact hK _ _ ⟨r,rfl⟩ hgz (hI.draw hsz hgz)
  (apply cP.u xQ rfl;(·intro K' a wy ho hd hI hK;simp[aS,aF,aD,Region.binds]at ho hd;go_simp;(try go_bits);exact hK _ rfl);dsimp only[nA,cA])
  refine cP.rel (n:=7) (tF 59) (vE) [_,_,_,_,_,_,_,tF 59] rfl rfl ?_ ?_
  ·intro K' a wy ho hd hI hK;rw[wN rfl];have q6:=hd ⟨6,.data⟩ (by simp) rfl;simp[aS,aF,aD]at q6;clear hd ho;go_simp;refine(aT 60 B sa len cap size wy (by omega) (by omega) hl hI.dr.src).mono ?_;rintro e wz ⟨r,rfl,h0,h1,hsz,hgz⟩;exact hK _ _ ⟨r,rfl,h0,by omega⟩ hgz (hI.draw hsz hgz)
  refine cP.rel (n:=8) (tF 60) (vE) [_,_,_,_,_,_,_,_,tF 60] rfl rfl ?_ ?_
  ·intro K' a wy ho hd hI hK;rw[wN rfl];obtain⟨k7,e7,l7,u7⟩: tF 59 (aD a 16) wy:=hd ⟨7,.data⟩ (by simp) rfl;simp[aD]at e7;clear hd ho;go_simp;try go_bits
   exact hK _ _ ⟨_,rfl,by omega,by omega⟩ (EB.of bR) hI
  iterate 6 (apply cP.u xQ rfl;(·intro K' a wy ho hd hI hK;simp[aS,aF,aD,Region.binds]at ho hd;have y0:wy.cell? ⟨w.heap.size,0,none⟩=some (iV t.UU):=(show aA wy w.heap.size (tB t) from hI.at cO).cell rfl;have y2:wy.cell? ⟨w.heap.size,2,none⟩=some (.string t.addr):=(show aA wy w.heap.size (tB t) from hI.at cO).cell rfl;have y4:wy.cell? ⟨w.heap.size,4,none⟩=some (.string t.peer):=(show aA wy w.heap.size (tB t) from hI.at cO).cell rfl;go_simp;(try go_bits);exact hK _ rfl);dsimp only[nA,cA])
  refine cP.rel (n:=15) (QF t.addr t.peer t.UU) (OZ) [_,_,_,_,_,_,_,_,_,_,_,_,_,_,_,QF t.addr t.peer t.UU] rfl rfl ?_ ?_
  ·intro K' a wy ho hd hI hK;rw[wN rfl];obtain⟨k1,e1,l1,u1⟩: tF 255 (aD a 10) wy:=hd ⟨1,.data⟩ (by simp) rfl;simp[aD]at e1;obtain⟨k3,e3,l3,u3⟩: tF 8 (aD a 12) wy:=hd ⟨3,.data⟩ (by simp) rfl;simp[aD]at e3;obtain⟨k5,e5⟩: NV (aD a 14) wy:=hd ⟨5,.data⟩ (by simp) rfl;simp[aD]at e5;obtain⟨k8,e8,l8,u8⟩: tF 60 (aD a 17) wy:=hd ⟨8,.data⟩ (by simp) rfl;simp[aD]at e8;have q10:=hd ⟨10,.data⟩ (by simp) rfl;have q12:=hd ⟨12,.data⟩ (by simp) rfl;have q14:=hd ⟨14,.data⟩ (by simp) rfl;simp[aS,aF,aD]at q10 q12 q14;clear hd ho;go_simp;exact hK _ _ ⟨⟨k1,k3,k5,false,0,k8,t.UU,t.addr,t.peer,⟨#[]⟩,⟨#[]⟩⟩,rfl,rfl,rfl,rfl,rfl,rfl⟩ (EB.of bR) hI
  refine cP.rel (n:=16) (QE w.heap.size B (K9 w t) (fM 0 0 false false 0 0 0 ⟨#[]⟩ ⟨#[]⟩ ⟨#[]⟩ ⟨#[]⟩)) (OY (by simp)) [_,_,_,_,_,_,_,_,_,_,_,_,_,_,_,_,QE w.heap.size B (K9 w t) (fM 0 0 false false 0 0 0 ⟨#[]⟩ ⟨#[]⟩ ⟨#[]⟩ ⟨#[]⟩)] rfl rfl ?_ ?_
  ·intro K' a wy ho hd hI hK;rw[wN rfl];clear hd ho;go_simp;exact hK _ _ ⟨wy.heap.size,rfl,by have:=hI.dr.le;omega,hI.dr.le,fun e he=>Nat.ne_of_lt (hI.lts e he),aA.new wy (fM 0 0 false false 0 0 0 ⟨#[]⟩ ⟨#[]⟩ ⟨#[]⟩ ⟨#[]⟩) _⟩ (EB.of (bR.alloc lR _)) (hI.below (bR.alloc lR _))
  intro X wz hR hI;obtain⟨x0,x1,x2,x3,x4,x5,x6,x7,x8,x9,x10,x11,x12,x13,x14,x15,x16,-⟩:=hR;obtain⟨k15,e15,s15,d15,o15,t15,r15⟩:=x15;obtain⟨b16,e16,n16,g16,h16,z16⟩:=x16;simp only[aF]at x0 x2 x4 x6 x9 x10 x11 x12 x13 x14;simp only[aE,x0,aE,x2,aE,x4,aE,x6,aE,aE,x9,x10,x11,x12,x13,x14,e15,e16];clear x0 x2 x4 x6 x9 x10 x11 x12 x13 x14;obtain⟨z0,z1,z2,z3,z4,z5,z6,z7,z8,z9,z10⟩:=z16.c11;obtain⟨zf0,zf1,zf2,zf3,zf4,zf5,zf6,zf7,zf8,zf9,zf10⟩:=z16.f11;have hD0:=hI.add z16 (by simp) g16;have hD1:=hD0.set (vs':=(fM k15.tos 0 false false 0 0 0 ⟨#[]⟩ ⟨#[]⟩ ⟨#[]⟩ ⟨#[]⟩)) 0 (iV k15.tos) rfl h16;have hD2:=hD1.set (vs':=(fM k15.tos k15.id false false 0 0 0 ⟨#[]⟩ ⟨#[]⟩ ⟨#[]⟩ ⟨#[]⟩)) 1 (iV k15.id) rfl h16;have hD3:=hD2.set (vs':=(fM k15.tos k15.id k15.whole false 0 0 0 ⟨#[]⟩ ⟨#[]⟩ ⟨#[]⟩ ⟨#[]⟩)) 2 (.bool k15.whole) rfl h16;have hD4:=hD3.set (vs':=(fM k15.tos k15.id k15.whole k15.more 0 0 0 ⟨#[]⟩ ⟨#[]⟩ ⟨#[]⟩ ⟨#[]⟩)) 3 (.bool k15.more) rfl h16;have hD5:=hD4.set (vs':=(fM k15.tos k15.id k15.whole k15.more k15.off 0 0 ⟨#[]⟩ ⟨#[]⟩ ⟨#[]⟩ ⟨#[]⟩)) 4 (iV k15.off) rfl h16;have hD6:=hD5.set (vs':=(fM k15.tos k15.id k15.whole k15.more k15.off k15.ttl 0 ⟨#[]⟩ ⟨#[]⟩ ⟨#[]⟩ ⟨#[]⟩)) 5 (iV k15.ttl) rfl h16;have hD7:=hD6.set (vs':=(fM k15.tos k15.id k15.whole k15.more k15.off k15.ttl k15.UU ⟨#[]⟩ ⟨#[]⟩ ⟨#[]⟩ ⟨#[]⟩)) 6 (iV k15.UU) rfl h16;have hD8:=hD7.set (vs':=(fM k15.tos k15.id k15.whole k15.more k15.off k15.ttl k15.UU k15.src ⟨#[]⟩ ⟨#[]⟩ ⟨#[]⟩)) 7 (.string k15.src) rfl h16;have hD9:=hD8.set (vs':=(fM k15.tos k15.id k15.whole k15.more k15.off k15.ttl k15.UU k15.src k15.dst ⟨#[]⟩ ⟨#[]⟩)) 8 (.string k15.dst) rfl h16;have hD10:=hD9.set (vs':=(fM k15.tos k15.id k15.whole k15.more k15.off k15.ttl k15.UU k15.src k15.dst k15.opts ⟨#[]⟩)) 9 (.string k15.opts) rfl h16;have hD11:=hD10.set (vs':=(dY k15)) 10 (.string k15.data) rfl h16;have HD:Hid (DB w B sa len cap size ((b16,kX k15)::K9 w t) ((sW (sW (sW (sW (sW (sW (sW (sW (sW (sW wz b16 0 (iV k15.tos)) b16 1 (iV k15.id)) b16 2 (.bool k15.whole)) b16 3 (.bool k15.more)) b16 4 (iV k15.off)) b16 5 (iV k15.ttl)) b16 6 (iV k15.UU)) b16 7 (.string k15.src)) b16 8 (.string k15.dst)) b16 9 (.string k15.opts)).setCell ⟨b16,10,none⟩ (.string k15.data))):=hD11;have hpk:FD t k15:=⟨⟨by rw[s15];exact ha1,by rw[d15];exact hp1,by rw[o15];decide,by rw[t15];decide,fun _=>.inl (by rw[t15];rfl)⟩,r15⟩
  clear r15 s15 d15 o15 t15 hD1 hD2 hD3 hD4 hD5 hD6 hD7 hD8 hD9 hD10 hD11 hD0 z16 hI;intro K5 hK5;go_simp;refine hK5 _ _ ?_;show Exit.then _ _ _ _ _;refine hK2 _ _ (hJ _ _ ?_);(repeat apply Exists.intro)
  exact⟨⟨b16,k15,rfl,hpk,g16,h16,HD.out⟩,rfl⟩
 case rest=>
 obtain⟨Pb,q0,rfl,hq,hwp,hnp,hS⟩:=hcut;have HQ0:Hid (FD t q0):=hq;have HNP:Hid (∀e∈(K9 w t),e.1≠Pb):=hnp;have S1:Hid (DB w B sa len cap size ((Pb,kX q0)::K9 w t) wc):=hS;clear hq hnp hS S0;generalize wc=W1 at *;have y0:W1.cell? ⟨w.heap.size,0,none⟩=some (iV t.UU):=(show aA W1 w.heap.size (tB t) from S1.out.at eB).cell rfl;have y2:W1.cell? ⟨w.heap.size,2,none⟩=some (.string t.addr):=(show aA W1 w.heap.size (tB t) from S1.out.at eB).cell rfl;have y3:W1.cell? ⟨w.heap.size,3,none⟩=some (iV t.port):=(show aA W1 w.heap.size (tB t) from S1.out.at eB).cell rfl;have y4:W1.cell? ⟨w.heap.size,4,none⟩=some (.string t.peer):=(show aA W1 w.heap.size (tB t) from S1.out.at eB).cell rfl;have y5:W1.cell? ⟨w.heap.size,5,none⟩=some (iV t.UV):=(show aA W1 w.heap.size (tB t) from S1.out.at eB).cell rfl;go_upto_region 3 with fail
 have hPF:Pb < W1.heap.size:=S1.out.lts (_,_) cO;have hlt0:=S1.out.lts;have S2':Hid _:=S1.out.push (dA t.UU t.addr t.peer t.port t.UV) (by simp) 43;have HNF:Hid (∀l,∀e∈((Pb,l)::(K9 w t)),e.1≠W1.heap.size):=fun l e he=>(TW.1 he).elim (fun h=>by rw[h];show Pb≠_;omega) (fun h=>Nat.ne_of_lt (hlt0 e (.tail _ h)))
 clear hlt0 S1 y0 y2 y3 y4 y5;generalize (W1.alloc (.cells (dA t.UU t.addr t.peer t.port t.UV).toArray 43))=W2 at *;generalize W1.heap.size=Fb at *;have hFP:Fb≠Pb:=by omega
 have HNPF:Hid (∀l,∀e∈((Fb,l)::(K9 w t)),e.1≠Pb):=fun l e he=>(TW.1 he).elim (fun h=>by rw[h];exact hFP) (fun h=>HNP.out e h)
 obtain⟨f0,hf0⟩: ∃f:Fl,f=⟨t.UU,t.addr,t.peer,t.port,t.UV⟩:=⟨_,rfl⟩;have HF0:Hid (LE t f0):=by unfold Hid;rw[hf0];exact⟨⟨ha1,hp1⟩,rfl⟩
 have S2:Hid (DB w B sa len cap size ((Fb,mW f0)::(Pb,kX q0)::K9 w t) W2):=by unfold Hid;rw[hf0];exact S2'.out
 clear hf0 S2';have y1:W2.cell? ⟨w.heap.size,1,none⟩=some (.bool t.UY):=(show aA W2 w.heap.size (tB t) from S2.out.at eX).cell rfl;obtain⟨ins,hin⟩: ∃b,b=t.UY:=⟨_,rfl⟩;rw[←hin]at y1;clear hin;go_upto_if 38 with fail
 go_cut [] (fun wx=>∃q f,FD t q∧LE t f∧DB w B sa len cap size ((Fb,mW f)::(Pb,kX q)::K9 w t) wx)
 case first=>
  cases ins with
  | true=>
   go_wp2_with fail
   go_meet;exact⟨q0,f0,HQ0.out,HF0.out,S2.out⟩
  | false=>
   clear y1;have y0:W2.cell? ⟨w.heap.size,0,none⟩=some (iV t.UU):=(show aA W2 w.heap.size (tB t) from S2.out.at eX).cell rfl;have y2:W2.cell? ⟨w.heap.size,2,none⟩=some (.string t.addr):=(show aA W2 w.heap.size (tB t) from S2.out.at eX).cell rfl;have y3:W2.cell? ⟨w.heap.size,3,none⟩=some (iV t.port):=(show aA W2 w.heap.size (tB t) from S2.out.at eX).cell rfl;have y4:W2.cell? ⟨w.heap.size,4,none⟩=some (.string t.peer):=(show aA W2 w.heap.size (tB t) from S2.out.at eX).cell rfl;have y5:W2.cell? ⟨w.heap.size,5,none⟩=some (iV t.UV):=(show aA W2 w.heap.size (tB t) from S2.out.at eX).cell rfl;have HHf:aA W2 Fb (mW f0):=S2.out.at cO;obtain⟨x0,x1,x2,x3,x4⟩:=HHf.c5;obtain⟨xf0,xf1,xf2,xf3,xf4⟩:=HHf.f5;clear HHf;have HHq:aA W2 Pb (kX q0):=S2.out.at eB;obtain⟨-,-,-,-,-,-,-,u7,u8⟩:=HHq.c9;obtain⟨-,-,-,-,-,-,-,uf7,uf8⟩:=HHq.f9;clear HHq;have S3:Hid _:=(((((((((((S2.out.set 0 (iV t.UU) rfl (HNF.out _)).set 1 (.string t.peer) rfl (HNF.out _)).set 2 (.string t.addr) rfl (HNF.out _)).set 3 (iV t.UV) rfl (HNF.out _)).set 4 (iV t.port) rfl (HNF.out _)).swap).set 7 (.string t.peer) rfl (HNPF.out _)).swap).swap).set 8 (.string t.addr) rfl (HNPF.out _)).swap);go_wp2_with fail
   go_meet;exact⟨{ q0 with src:=t.peer,dst:=t.addr },⟨t.UU,t.peer,t.addr,t.UV,t.port⟩,⟨⟨hp1,ha1,HQ0.out.1.2.2⟩,HQ0.out.2⟩,⟨⟨hp1,ha1⟩,rfl⟩,S3.out⟩
 case rest=>
 obtain⟨q1,f1,hq,hf,hS⟩:=hcut;have HQ1:Hid (FD t q1):=hq;have HF1:Hid (LE t f1):=hf;have S3:Hid (DB w B sa len cap size ((Fb,mW f1)::(Pb,kX q1)::K9 w t) wc):=hS;clear hq hf hS S2 HQ0 HF0 y1;generalize wc=W3 at *;have HHf:aA W3 Fb (mW f1):=S3.out.at cO;have x0:=HHf.cell (j:=0) rfl;clear HHf;go_upto_if 58 with fail
 go_cut [] (fun wx=>∃q f,FD t q∧LE t f∧DB w B sa len cap size ((Fb,mW f)::(Pb,kX q)::K9 w t) wx)
 case first=>
  by_cases hi:f1.UU=1
  case neg=>
   have hb:(f1.UU==1)=false:=by simp[hi]
   go_wp2_with fail
   go_meet;exact⟨q1,f1,HQ1.out,HF1.out,S3.out⟩
  have hb:(f1.UU==1)=true:=by simp[hi]
  have y3:W3.cell? ⟨w.heap.size,3,none⟩=some (iV t.port):=(show aA W3 w.heap.size (tB t) from S3.out.at eX).cell rfl;have HHf:aA W3 Fb (mW f1):=S3.out.at cO;obtain⟨-,-,-,x3,x4⟩:=HHf.c5;obtain⟨-,-,-,xf3,xf4⟩:=HHf.f5;clear HHf;have S4:Hid _:=((S3.out.set 4 (iV t.port) rfl (HNF.out _)).set 3 (iV t.port) rfl (HNF.out _));go_wp2_with fail
  go_meet;exact⟨q1,{ f1 with sp:=t.port,dp:=t.port },HQ1.out,HF1.out,S4.out⟩
 case rest=>
 obtain⟨q2,f2,hq,hf,hS⟩:=hcut;have HQ2:Hid (FD t q2):=hq;have HF2:Hid (LE t f2):=hf;have S5:Hid (DB w B sa len cap size ((Fb,mW f2)::(Pb,kX q2)::K9 w t) wc):=hS;clear hq hf hS S3 HQ1 HF1 x0;generalize wc=W5 at *;have HHf:aA W5 Fb (mW f2):=S5.out.at cO;obtain⟨x0,x1,x2,x3,x4⟩:=HHf.c5;clear HHf;have HFR:Hid (∀W,Cb 43 #[.agg (gE f2).toArray] W (.bool (cF f2))):=fun W=>kS f2 W (by have:=HF2.out.1.1;omega) (by have:=HF2.out.1.2;omega)
 have HFO:Hid (cF f2=true→(0≤f2.UU∧f2.UU≤255)∧f2.src.size≤16∧f2.dst.size≤16∧(0≤f2.sp∧f2.sp≤65535)∧(0≤f2.dp∧f2.dp≤65535)):=JV;generalize cF f2=fo at *;go_wp2_with fail
 refine(HFR.out _).mono ?_;rintro e W6 ⟨rfl,h6⟩;have S6:Hid (DB w B sa len cap size ((Fb,mW f2)::(Pb,kX q2)::K9 w t) W6):=S5.out.below h6;clear h6 HFR S5 x0 x1 x2 x3 x4;go_upto_if 66 with fail
 go_cut [] (fun wx=>∃q,tE q∧DB w B sa len cap size ((Pb,kX q)::K9 w t) wx)
 case first=>
  cases fo with
  | false=>
   go_wp2_with fail
   go_meet;exact⟨q2,HQ2.out.1,S6.out.tail⟩
  | true=>
   obtain⟨hpr,hss,hds,hsp,hdp⟩:=HFO.out rfl;clear HFO;have HHf:aA W6 Fb (mW f2):=S6.out.at cO;obtain⟨x0,x1,x2,x3,x4⟩:=HHf.c5;clear HHf;go_wp2_with fail
   refine(zO f2.UU f2.src f2.dst f2.sp f2.dp B sa len cap size _ hpr hss hds hsp hdp hl S6.out.dr.src).mono ?_;rintro e W7 ⟨⟨dt,rfl,hd1,hd2,hd3⟩,hs,hg⟩;have S7:Hid (DB w B sa len cap size ((Fb,mW f2)::(Pb,kX q2)::K9 w t) W7):=S6.out.draw hs hg;clear hs hg S6 x0 x1 x2 x3 x4 hss hds hsp hdp hpr;have HHq:aA W7 Pb (kX q2):=S7.out.at eB;have u10:=HHq.cell (j:=10) rfl;have uf10:=HHq.free (j:=10) (by simp);clear HHq;have S8:Hid (DB w B sa len cap size ((Fb,mW f2)::(Pb,(fM q2.tos q2.id q2.whole q2.more q2.off q2.ttl q2.UU q2.src q2.dst q2.opts dt))::K9 w t) (W7.setCell ⟨Pb,10,none⟩ (.string dt))):=(((S7.out.swap).set 10 (.string dt) rfl (HNPF.out _)).swap);go_upto_region 12 with fail
   generalize (W7.setCell ⟨Pb,10,none⟩ (.string dt))=W8 at *;clear S7 u10 uf10;have HQ3:Hid (tE { q2 with data:=dt }):=⟨HQ2.out.1.1,HQ2.out.1.2.1,HQ2.out.1.2.2.1,by show dt.size≤1000;omega,fun h1=>.inr (hd3 (by have:=HF2.out.2;have:=HQ2.out.2;have h1':q2.UU=1:=h1;omega) (by have:=HF2.out.2;have:=HQ2.out.2;have h1':q2.UU=1:=h1;omega))⟩;have HPT:Hid (q2.UU=f2.UU):=HQ2.out.2.trans HF2.out.2.symm;clear hd3;clear HQ2;have HHf:aA W8 Fb (mW f2):=S8.out.at cO;have x0:=HHf.cell (j:=0) rfl;clear HHf;by_cases h6:f2.UU=6
   case neg=>
    have hb:(f2.UU==6)=false:=by simp[h6]
    go_wp2_with fail
    go_meet;exact⟨{ q2 with data:=dt },HQ3.out,S8.out.tail⟩
   have hb:(f2.UU==6)=true:=by simp[h6]
   have H6P:Hid (¬f2.UU=1):=by unfold Hid;omega
   have hd3:18≤dt.size:=by rw[h6]at hd2;unfold dM at hd2;simp at hd2;omega
   clear hd2;have y6:W8.cell? ⟨w.heap.size,6,none⟩=some (iV t.VB):=(show aA W8 w.heap.size (tB t) from S8.out.at eX).cell rfl;have HBY:Hid (∀W,Cw 38 #[iV t.VB] W (.bool (aM t.VB 0 255))):=fun W=>gU _ W
   have HIN:Hid (aM t.VB 0 255=true→0≤t.VB∧t.VB≤255):=fun h=>by unfold aM at h;simpa using h
   generalize aM t.VB 0 255=fb at *;go_wp2_with fail
   refine(HBY.out _).mono ?_;rintro e w9 ⟨rfl,hw9⟩;obtain rfl:W8=w9:=hw9.symm;clear HBY
   cases fb with
   | false=>
    go_wp2_with fail
    go_meet;exact⟨{ q2 with data:=dt },HQ3.out,S8.out.tail⟩
   | true=>
    obtain⟨hl0,hl1⟩:=HIN.out rfl;clear HIN y6;have u10:W8.cell? ⟨Pb,10,none⟩=some (.string dt):=(show aA W8 Pb (fM q2.tos q2.id q2.whole q2.more q2.off q2.ttl q2.UU q2.src q2.dst q2.opts dt) from S8.out.at eB).cell rfl;have HA:Hid (∀(s:BA) (k:Nat) W,k+1 < s.size→s.size≤1000→Calls Tryz.prog 42 #[.string s,iV k] W fun e w'=>(∃r,e=.returned (iV r)∧0≤r∧r≤65535)∧Below W.heap.size W w'):=fun s k W h1 h2=>(oO s k W h1 (by unfold maxLen;omega)).mono fun e w' h=>⟨⟨_,h.1,(cN (bD s) k).1,(cN (bD s) k).2⟩,h.2⟩
    go_wp2_with fail
    refine(HA.out dt 12 _ (by omega) (by omega)).mono ?_;rintro e Wa ⟨⟨old,rfl,old0,old1⟩,hb9⟩;have TWa:Hid (DB w B sa len cap size ((Fb,mW f2)::(Pb,(fM q2.tos q2.id q2.whole q2.more q2.off q2.ttl q2.UU q2.src q2.dst q2.opts dt))::K9 w t) Wa):=S8.out.below hb9;clear hb9;clear S8 u10 x0;have u10:Wa.cell? ⟨Pb,10,none⟩=some (.string dt):=(show aA Wa Pb (fM q2.tos q2.id q2.whole q2.more q2.off q2.ttl q2.UU q2.src q2.dst q2.opts dt) from TWa.out.at eB).cell rfl;have y6:Wa.cell? ⟨w.heap.size,6,none⟩=some (iV t.VB):=(show aA Wa w.heap.size (tB t) from TWa.out.at eX).cell rfl;go_upto_region 14 with fail
    obtain⟨o1,ho1,hcv⟩:=KG (w:=Wa.alloc (.cells #[.int .u8 t.VB] 5)) (b:=Wa.heap.size) (cap:=1) (n:=t.VB) hl0 hl1 (by simp);have Tb:Hid (DB w B sa len cap size ((Fb,mW f2)::(Pb,(fM q2.tos q2.id q2.whole q2.more q2.off q2.ttl q2.UU q2.src q2.dst q2.opts dt))::K9 w t) (Wa.alloc (.cells #[.int .u8 t.VB] 5))):=TWa.out.below (bR.alloc lR _);go_wp2_with fail
    refine(iK dt 13 o1 _ (by omega) (by omega)).mono ?_;rintro e Wc ⟨d1,rfl,hz1,hb9⟩;have Tc:Hid (DB w B sa len cap size ((Fb,mW f2)::(Pb,(fM q2.tos q2.id q2.whole q2.more q2.off q2.ttl q2.UU q2.src q2.dst q2.opts dt))::K9 w t) Wc):=Tb.out.below hb9;clear hb9 Tb TWa hcv y6 u10;go_wp2_with fail
    refine(HA.out d1 16 _ (by omega) (by omega)).mono ?_;rintro e Wd ⟨⟨ra,rfl,ra0,ra1⟩,hb9⟩;have TWd:Hid (DB w B sa len cap size ((Fb,mW f2)::(Pb,(fM q2.tos q2.id q2.whole q2.more q2.off q2.ttl q2.UU q2.src q2.dst q2.opts dt))::K9 w t) Wd):=Tc.out.below hb9;clear hb9;clear Tc;go_wp2_with fail
    refine(HA.out d1 12 _ (by omega) (by omega)).mono ?_;rintro e We ⟨⟨rb,rfl,rb0,rb1⟩,hb9⟩;have TWe:Hid (DB w B sa len cap size ((Fb,mW f2)::(Pb,(fM q2.tos q2.id q2.whole q2.more q2.off q2.ttl q2.UU q2.src q2.dst q2.opts dt))::K9 w t) We):=TWd.out.below hb9;clear hb9;clear TWd;go_wp2_with fail
    refine(xY ra old rb _ ⟨ra0,ra1⟩ ⟨old0,old1⟩ ⟨rb0,rb1⟩).mono ?_;rintro e w9 ⟨rfl,rfl⟩;obtain⟨tr,htr⟩: ∃y,y=65535-gC (gC (65535-ra) (65535-old)) rb:=⟨_,rfl⟩;have htr2:0≤tr∧tr≤65535:=by
     have r1:=iN (a:=65535-ra) (b:=65535-old) (by omega) (by omega) (by omega) (by omega);have r2:=iN r1.1 r1.2 rb0 rb1;omega
    rw[←htr];clear htr;go_wp2_with fail
    refine(bV tr _ htr2.1 htr2.2).mono ?_;rintro e Wf ⟨rfl,hb9⟩;have Tf:Hid (DB w B sa len cap size ((Fb,mW f2)::(Pb,(fM q2.tos q2.id q2.whole q2.more q2.off q2.ttl q2.UU q2.src q2.dst q2.opts dt))::K9 w t) Wf):=TWe.out.below hb9;clear hb9 TWe;have hz2:=aP tr;generalize aQ tr=tv at *;go_wp2_with fail
    refine(iK d1 16 tv _ (by omega) (by omega)).mono ?_;rintro e Wg ⟨d2,rfl,hz3,hb9⟩;have Tg:Hid (DB w B sa len cap size ((Fb,mW f2)::(Pb,(fM q2.tos q2.id q2.whole q2.more q2.off q2.ttl q2.UU q2.src q2.dst q2.opts dt))::K9 w t) Wg):=Tf.out.below hb9;clear hb9 Tf;have HHq:aA Wg Pb (fM q2.tos q2.id q2.whole q2.more q2.off q2.ttl q2.UU q2.src q2.dst q2.opts dt):=Tg.out.at eB;have u10:=HHq.cell (j:=10) rfl;have uf10:=HHq.free (j:=10) (by simp);clear HHq;have Sz:Hid _:=(((Tg.out.swap).set 10 (.string d2) rfl (HNPF.out _)).swap);go_wp2_with fail
    go_meet;exact⟨{ q2 with data:=d2 },⟨HQ3.out.1,HQ3.out.2.1,HQ3.out.2.2.1,by show d2.size≤1000;omega,fun h1=>absurd ((HPT.out.symm.trans h1:f2.UU=1)) H6P.out⟩,Sz.out.tail⟩
 case rest=>
 obtain⟨q3,hq,hS⟩:=hcut;have HQ3:Hid (tE q3):=hq;have S9:Hid (DB w B sa len cap size ((Pb,kX q3)::K9 w t) wc):=hS;clear hq hS S6 HQ2 HFO;generalize wc=W9 at *;go_wp2_with fail
 refine(bO 20 B sa len cap size _ (by omega) hl S9.out.dr.src).mono ?_;rintro e Wh ⟨c1,rfl,hs,hg⟩;have SWh:Hid (DB w B sa len cap size ((Pb,kX q3)::K9 w t) Wh):=S9.out.draw hs hg;clear hs hg S9;go_upto_if 101 with fail
 go_cut [] (fun wx=>∃q,tE q∧DB w B sa len cap size ((Pb,kX q)::K9 w t) wx)
 case first=>
  cases c1 with
  | false=>
   go_wp2_with fail
   go_meet;exact⟨q3,HQ3.out,SWh.out⟩
  | true=>
   go_wp2_with fail
   refine(bO 2 B sa len cap size _ (by omega) hl SWh.out.dr.src).mono ?_;rintro e Wi ⟨c2,rfl,hs,hg⟩;have SWi:Hid (DB w B sa len cap size ((Pb,kX q3)::K9 w t) Wi):=SWh.out.draw hs hg;clear hs hg SWh;have HHq:aA Wi Pb (kX q3):=SWi.out.at cO;obtain⟨-,-,u2,u3⟩:=HHq.c4;have uf3:=HHq.free (j:=3) (by simp);have uf2:=HHq.free (j:=2) (by simp);clear HHq;have Sk:Hid (DB w B sa len cap size ((Pb,(fM q3.tos q3.id false c2 q3.off q3.ttl q3.UU q3.src q3.dst q3.opts q3.data))::K9 w t) ((sW Wi Pb 3 (.bool c2)).setCell ⟨Pb,2,none⟩ (.bool false))):=((SWi.out.set 3 (.bool c2) rfl HNP.out).set 2 (.bool false) rfl HNP.out);go_upto_region 19 with fail
   generalize ((sW Wi Pb 3 (.bool c2)).setCell ⟨Pb,2,none⟩ (.bool false))=Wk at *;clear SWi u3 u2 uf3 uf2;go_wp2_with fail
   refine(aT 3 B sa len cap size _ (by omega) (by omega) hl Sk.out.dr.src).mono ?_;rintro e Wl ⟨r3,rfl,l3,h3,hs,hg⟩;have Sl:Hid (DB w B sa len cap size ((Pb,(fM q3.tos q3.id false c2 q3.off q3.ttl q3.UU q3.src q3.dst q3.opts q3.data))::K9 w t) Wl):=Sk.out.draw hs hg;clear hs hg Sk;have HHq:aA Wl Pb (fM q3.tos q3.id false c2 q3.off q3.ttl q3.UU q3.src q3.dst q3.opts q3.data):=Sl.out.at cO;have u4:=HHq.cell (j:=4) rfl;have uf4:=HHq.free (j:=4) (by simp);clear HHq;have Sm:Hid _:=(Sl.out.set 4 (iV r3) rfl HNP.out);go_wp2_with fail
   go_meet;exact⟨{ q3 with whole:=false,more:=c2,off:=r3 },HQ3.out,Sm.out⟩
 case rest=>
 obtain⟨q4,hq,hS⟩:=hcut;have HQ4:Hid (tE q4):=hq;have Sn:Hid (DB w B sa len cap size ((Pb,kX q4)::K9 w t) wc):=hS;clear hq hS SWh HQ3;generalize wc=Wn at *;go_wp2_with fail
 refine(bO 20 B sa len cap size _ (by omega) hl Sn.out.dr.src).mono ?_;rintro e Wo ⟨c3,rfl,hs,hg⟩;have SWo:Hid (DB w B sa len cap size ((Pb,kX q4)::K9 w t) Wo):=Sn.out.draw hs hg;clear hs hg Sn;go_upto_if 110 with fail
 go_cut [] (fun wx=>∃q,tE q∧DB w B sa len cap size ((Pb,kX q)::K9 w t) wx)
 case first=>
  cases c3 with
  | false=>
   go_wp2_with fail
   go_meet;exact⟨q4,HQ4.out,SWo.out⟩
  | true=>
   have HHq:aA Wo Pb (kX q4):=SWo.out.at cO;have u9:=HHq.cell (j:=9) rfl;have uf9:=HHq.free (j:=9) (by simp);clear HHq;have Sp:Hid _:=(SWo.out.set 9 (.string ⟨#[1,1,1,0]⟩) rfl HNP.out);go_wp2_with fail
   go_meet;exact⟨{ q4 with opts:=⟨#[1,1,1,0]⟩ },⟨HQ4.out.1,HQ4.out.2.1,by show (ByteArray.mk #[1,1,1,0]).size≤1000;decide,HQ4.out.2.2.2⟩,Sp.out⟩
 case rest=>
 obtain⟨q5,hq,hS⟩:=hcut;have HQ5:Hid (tE q5):=hq;have Sq:Hid (DB w B sa len cap size ((Pb,kX q5)::K9 w t) wc):=hS;clear hq hS SWo HQ4;generalize wc=Wq at *;have HHq:aA Wq Pb (kX q5):=Sq.out.at cO;obtain⟨u0,u1,u2,u3,u4,u5,u6,u7,u8,u9,u10⟩:=HHq.c11;clear HHq;have HHz:aA Wq (w.heap.size+1) (kX pS):=Sq.out.at eX;obtain⟨z0,z1,z2,z3,z4,z5,z6,z7,z8,z9,z10⟩:=HHz.c11;obtain⟨zf0,zf1,zf2,zf3,zf4,zf5,zf6,zf7,zf8,zf9,zf10⟩:=HHz.f11;have HRR:aA _ (w.heap.size+1) (kX q5):=(((((((((((HHz.set 0 (iV q5.tos)).set 1 (iV q5.id)).set 2 (.bool q5.whole)).set 3 (.bool q5.more)).set 4 (iV q5.off)).set 5 (iV q5.ttl)).set 6 (iV q5.UU)).set 7 (.string q5.src)).set 8 (.string q5.dst)).set 9 (.string q5.opts)).set 10 (.string q5.data));have DD:Dr w B sa len cap size _:=(((((((((((Sq.out.dr.set (w.heap.size+1) 0 (iV q5.tos) (by omega)).set (w.heap.size+1) 1 (iV q5.id) (by omega)).set (w.heap.size+1) 2 (.bool q5.whole) (by omega)).set (w.heap.size+1) 3 (.bool q5.more) (by omega)).set (w.heap.size+1) 4 (iV q5.off) (by omega)).set (w.heap.size+1) 5 (iV q5.ttl) (by omega)).set (w.heap.size+1) 6 (iV q5.UU) (by omega)).set (w.heap.size+1) 7 (.string q5.src) (by omega)).set (w.heap.size+1) 8 (.string q5.dst) (by omega)).set (w.heap.size+1) 9 (.string q5.opts) (by omega)).set (w.heap.size+1) 10 (.string q5.data) (by omega));have HRQ:Hid _:=HRR;have DDQ:Hid _:=DD;clear HHz Sq HRR DD;go_wp2_with fail
 exact UQ (aG Tryz.results51 _ _ (w.heap.size+1) (kX q5) _ rfl HRQ.out Tryz.underlying33 rfl (show (Tryz.prog.info? 33).map (·.size)=some 11 by kernel_rfl)) rfl ⟨⟨q5,rfl,HQ5.out⟩,DDQ.out.src,DDQ.out.grown⟩
end Go.Proofs.YtdkepkaflielhaaGreatDoor
