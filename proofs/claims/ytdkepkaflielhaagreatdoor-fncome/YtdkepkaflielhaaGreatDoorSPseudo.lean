import Derived.Test.YtdkepkaflielhaaGreatDoorSz
import Derived.Test.YtdkepkaflielhaaGreatDoorAb
import Derived.Test.YtdkepkaflielhaaGreatDoorSFlow
import Derived.Test.YtdkepkaflielhaaGreatDoorTwo
import Derived.Test.YtdkepkaflielhaaGreatDoorSums
import Derived.Test.YtdkepkaflielhaaGreatDoorSumMath
import Derived.Test.YtdkepkaflielhaaGreatDoorSV4
import Derived.Test.YtdkepkaflielhaaGreatDoorSV4B
import Derived.RegionTactic
import Derived.Deep.RegionWith
import Derived.Deep.DeepCutAuto
set_option linter.unusedVariables false
set_option linter.unusedSimpArgs false
set_option maxRecDepth 100000
set_option maxHeartbeats 8000000
namespace Go.Proofs.YtdkepkaflielhaaGreatDoor
open Go.RowKit Go.PlainAid
def IsQuadW (x y:Int):Value→World→Prop:=fun v w=>∃ b,v=.slice (some ⟨b,0,none⟩) 4 4∧w.cell? ⟨b,0,none⟩=some (.int .u8 x)∧w.cell? ⟨b,1,none⟩=some (.int .u8 0)∧w.cell? ⟨b,2,none⟩=some (.int .u8 0)∧w.cell? ⟨b,3,none⟩=some (.int .u8 y)
theorem stable_isQuadW (x y:Int):Stable (IsQuadW x y):=fun v w w' ⟨b,h1,h2,h3,h4,h5⟩ hb=>by
 have hlt:=World.block_lt_of_cell? w _ h2;exact ⟨b,h1,((bcell hb).1 b 0 hlt).trans h2,((bcell hb).1 b 1 hlt).trans h3,((bcell hb).1 b 2 hlt).trans h4,((bcell hb).1 b 3 hlt).trans h5⟩
theorem quadW_conv {w:World} {b cap:Nat} {x y:Int} (hx:0≤x∧x≤255) (hy:0≤y∧y≤255) (h0:w.cell? ⟨b,0,none⟩=some (.int .u8 x)) (h1:w.cell? ⟨b,1,none⟩=some (.int .u8 0)) (h2:w.cell? ⟨b,2,none⟩=some (.int .u8 0)) (h3:w.cell? ⟨b,3,none⟩=some (.int .u8 y)) :
  (convert 22 9 (.slice (some ⟨b,0,none⟩) 4 cap)).run Tryz.prog w=.ok (.string (quadW x y)) w :=
 run_convert_bytes_back (P:=Tryz.prog) w 22 9 5 ⟨b,0,none⟩ cap [UInt8.ofNat x.toNat,0,0,UInt8.ofNat y.toNat] Tryz.underlying22 Tryz.underlying5 Tryz.underlying9 (by
  intro j hj;match j,hj with
  | 0,_=>simp only [Addr.add,Nat.add_zero,List.getElem_cons_zero]; rw [u8_ofNat _ hx.1 hx.2]; exact h0
  | 1,_=>simp only [Addr.add,Nat.zero_add,List.getElem_cons_succ,List.getElem_cons_zero]; exact h1
  | 2,_=>simp only [Addr.add,Nat.zero_add,List.getElem_cons_succ,List.getElem_cons_zero]; exact h2
  | 3,_=>simp only [Addr.add,Nat.zero_add,List.getElem_cons_succ,List.getElem_cons_zero]; rw [u8_ofNat _ hy.1 hy.2]; exact h3)
theorem spPseudo_any (s d:ByteArray) (p:Int) (n:Nat) (w:World) (hs:s.size≤16) (hd:d.size≤16) (hp:0≤p∧p≤255) (hn:n≤65535) :
  Cb 71 #[.string s,.string d,iV p,iV n] w (.string (pseudoV s d p n)):=by
 have hun:undef=Value.tuple #[]:=rfl;have n1:¬ 9223372036854775807 < s.size+d.size:=by omega
 have z1:=pairV_size 0 p;have z2:=twoV_size (n:Int);by_cases h1:p=1∧s.size=4
 ·obtain ⟨rfl,h4⟩:=h1;have d4:((s.size:Int)==4)=true:=by simp; omega
  have HV:Hid (pseudoV s d 1 n=⟨#[]⟩):=by unfold Hid pseudoV; rw [if_pos ⟨rfl,h4⟩]
  generalize pseudoV s d 1 n=ans at *;clear h4;go_enter Tryz.func71,Tryz.ntmps71
  go_wp2_with fail
  go_ret;exact ⟨by rw [HV.out]; rfl,Below.refl _ _⟩
 by_cases h4:s.size=4
 ·have d4:((s.size:Int)==4)=true:=by simp; omega
  have d1:(p==1)=false:=by simp; exact fun e=>h1 ⟨e,h4⟩
  have HZ:Hid (pseudoV s d p n=s++d++pairV 0 p++twoV (n:Int)):=by unfold Hid pseudoV; rw [if_neg h1,if_pos h4]
  generalize pseudoV s d p n=ans at *;clear h1 h4;have n2:¬ 9223372036854775807 < s.size+d.size+(pairV 0 p).size:=by omega
  have n3:¬ 9223372036854775807 < s.size+d.size+(pairV 0 p).size+(twoV (n:Int)).size:=by omega
  have n2b:¬ 9223372036854775807 < s.size+d.size+2:=by omega
  have n3b:¬ 9223372036854775807 < s.size+d.size+2+2:=by omega
  go_enter Tryz.func71,Tryz.ntmps71
  go_upto_region 4 with fail
  go_cut [8] (fun v wx=>v=.string ans∧Below w.z w wx)
  case first =>
   rename_i J K2 hJ hK2;clear hun;refine wp_region_growL (Rs:=[IsV (.string s),IsV (.string d),IsV (.string (s++d)),IsV (iV p),IsV (.int .u8 p),IsRow (0) (p),IsV (.string (pairV 0 p)),IsV (.string (s++d++pairV 0 p)),IsV (iV (n:Int)),IsV (.string (twoV (n:Int))),IsV (.string (s++d++pairV 0 p++twoV (n:Int))),IsV (.string (s++d++pairV 0 p++twoV (n:Int)))]) [19,20,21,22,23,24,25,26,27,28,29,8] (by kernel_rfl) (by kernel_rfl) rfl ?st ?steps ?done
   case st=>simp [stable_isV,stable_isRow]
   case steps =>
    refine ⟨?s0,?s1,?s2,?s3,?s4,?s5,?s6,?s7,?s8,?s9,?s10,?s11,trivial⟩
    case s0 =>
     intro K' a wy ho hd hb hK;have h3:=ho 0 (by decide);simp [slot] at h3;clear hd;go_simp;try go_bits
     exact hK _ _ rfl bR
    case s1 =>
     intro K' a wy ho hd hb hK;have h3:=ho 1 (by decide);simp [slot] at h3;clear hd;go_simp;try go_bits
     exact hK _ _ rfl bR
    case s2 =>
     intro K' a wy ho hd hb hK;simp [Region.binds,rAt,IsV,slot] at hd;go_simp;try go_bits
     exact hK _ _ rfl bR
    case s3 =>
     intro K' a wy ho hd hb hK;have h3:=ho 2 (by decide);simp [slot] at h3;clear hd;go_simp;try go_bits
     exact hK _ _ rfl bR
    case s4 =>
     intro K' a wy ho hd hb hK;simp [Region.binds,rAt,IsV,slot] at hd;go_simp;try go_bits
     exact hK _ _ rfl bR
    case s5 =>
     intro K' a wy ho hd hb hK;simp [Region.binds,rAt,IsV,slot] at hd;go_simp;exact hK _ _ ⟨wy.heap.size,rfl,by simp,by simp⟩ (bR.alloc lR _)
    case s6 =>
     intro K' a wy ho hd hb hK;simp only [List.forall_mem_singleton,Array.mem_def,List.mem_singleton,forall_eq] at hd;obtain ⟨b,hd1,hd2,hd3⟩ : IsRow (0) (p) (slot a 24) wy:=hd rfl;have hcv:=pair_conv (cap:=2) (by omega) (by omega) hd2 hd3;simp [slot] at hd1;go_simp;try go_bits
     exact hK _ _ rfl bR
    case s7 =>
     intro K' a wy ho hd hb hK;simp [Region.binds,rAt,IsV,slot] at hd;go_simp;try go_bits
     exact hK _ _ rfl bR
    case s8 =>
     intro K' a wy ho hd hb hK;have h3:=ho 3 (by decide);simp [slot] at h3;clear hd;go_simp;try go_bits
     exact hK _ _ rfl bR
    case s9 =>
     intro K' a wy ho hd hb hK;simp [Region.binds,rAt,IsV,slot] at hd;go_simp;refine (specTwo_any (n:Int) wy (by omega) (by omega)).mono ?_;rintro e wz ⟨rfl,hz⟩;exact hK _ _ rfl hz
    case s10 =>
     intro K' a wy ho hd hb hK;simp [Region.binds,rAt,IsV,slot] at hd;go_simp;try go_bits
     exact hK _ _ rfl bR
    case s11 =>
     intro K' a wy ho hd hb hK;simp [Region.binds,rAt,IsV,slot] at hd;go_simp;try go_bits
     exact hK _ _ rfl bR
   case done =>
    intro X wz hR hz;obtain ⟨x0,x1,x2,x3,x4,⟨b5,x5,-,-⟩,x6,x7,x8,x9,x10,x11,-⟩:=hR;simp only [IsV] at x0 x1 x2 x3 x4 x6 x7 x8 x9 x10 x11;simp only [putsFrom,x0,x1,x2,x3,x4,x5,x6,x7,x8,x9,x10,x11];clear x0 x1 x2 x3 x4 x5 x6 x7 x8 x9 x10 x11;go_simp;refine hK2 _ _ (hJ _ _ ?_);(repeat apply Exists.intro)
    refine ⟨⟨by rw [HZ.out],(Below.refl _ w).drew.trans hz⟩,rfl⟩
  case rest =>
  obtain ⟨rfl,hb⟩:=hcut;go_wp2_with fail
  go_ret;exact ⟨rfl,hb⟩
 ·have d4:((s.size:Int)==4)=false:=by simp; omega
  have HZ:Hid (pseudoV s d p n=s++d++twoV ((n:Int) / 65536)++twoV ((n:Int) % 65536)++quadW 0 p):=by unfold Hid pseudoV; rw [if_neg h1,if_neg h4]
  generalize pseudoV s d p n=ans at *;clear h1;have a1:=and_65535 (n:Int);have n2:¬ 9223372036854775807 < s.size+d.size+(twoV ((n:Int) / 65536)).size:=by rw [twoV_size]; omega
  have n3:¬ 9223372036854775807 < s.size+d.size+(twoV ((n:Int) / 65536)).size+(twoV ((n:Int) % 65536)).size:=by rw [twoV_size,twoV_size]; omega
  have n4:¬ 9223372036854775807 < s.size+d.size+(twoV ((n:Int) / 65536)).size+(twoV ((n:Int) % 65536)).size+(quadW 0 p).size:=by rw [twoV_size,twoV_size,quadW_size]; omega
  by_cases dp:p=1
  ·have d1:(p==1)=true:=by simp [dp]
   clear dp;go_enter Tryz.func71,Tryz.ntmps71
   go_upto_region 5 with fail
   go_cut [8] (fun v wx=>v=.string ans∧Below w.z w wx)
   case first =>
    rename_i J K2 hJ hK2;clear hun;refine wp_region_growL (Rs:=[IsV (.string s),IsV (.string d),IsV (.string (s++d)),IsV (iV (n:Int)),IsV (iV ((n:Int) / 65536)),IsV (.string (twoV ((n:Int) / 65536))),IsV (.string (s++d++twoV ((n:Int) / 65536))),IsV (iV (n:Int)),IsV (iV ((n:Int) % 65536)),IsV (.string (twoV ((n:Int) % 65536))),IsV (.string (s++d++twoV ((n:Int) / 65536)++twoV ((n:Int) % 65536))),IsV (iV p),IsV (.int .u8 p),IsQuadW (0) (p),IsV (.string (quadW 0 p)),IsV (.string (s++d++twoV ((n:Int) / 65536)++twoV ((n:Int) % 65536)++quadW 0 p)),IsV (.string (s++d++twoV ((n:Int) / 65536)++twoV ((n:Int) % 65536)++quadW 0 p))]) [30,31,32,33,34,35,36,37,38,39,40,41,42,43,44,45,8] (by kernel_rfl) (by kernel_rfl) rfl ?st ?steps ?done
    case st=>simp [stable_isV,stable_isQuadW]
    case steps =>
     refine ⟨?s0,?s1,?s2,?s3,?s4,?s5,?s6,?s7,?s8,?s9,?s10,?s11,?s12,?s13,?s14,?s15,?s16,trivial⟩
     case s0 =>
      intro K' a wy ho hd hb hK;have h3:=ho 0 (by decide);simp [slot] at h3;clear hd;go_simp;try go_bits
      exact hK _ _ rfl bR
     case s1 =>
      intro K' a wy ho hd hb hK;have h3:=ho 1 (by decide);simp [slot] at h3;clear hd;go_simp;try go_bits
      exact hK _ _ rfl bR
     case s2 =>
      intro K' a wy ho hd hb hK;simp [Region.binds,rAt,IsV,slot] at hd;go_simp;try go_bits
      exact hK _ _ rfl bR
     case s3 =>
      intro K' a wy ho hd hb hK;have h3:=ho 3 (by decide);simp [slot] at h3;clear hd;go_simp;try go_bits
      exact hK _ _ rfl bR
     case s4 =>
      intro K' a wy ho hd hb hK;simp [Region.binds,rAt,IsV,slot] at hd;go_simp;try go_bits
      exact hK _ _ rfl bR
     case s5 =>
      intro K' a wy ho hd hb hK;simp [Region.binds,rAt,IsV,slot] at hd;go_simp;refine (specTwo_any ((n:Int) / 65536) wy (by omega) (by omega)).mono ?_;rintro e wz ⟨rfl,hz⟩;exact hK _ _ rfl hz
     case s6 =>
      intro K' a wy ho hd hb hK;simp [Region.binds,rAt,IsV,slot] at hd;go_simp;try go_bits
      exact hK _ _ rfl bR
     case s7 =>
      intro K' a wy ho hd hb hK;have h3:=ho 3 (by decide);simp [slot] at h3;clear hd;go_simp;try go_bits
      exact hK _ _ rfl bR
     case s8 =>
      intro K' a wy ho hd hb hK;simp [Region.binds,rAt,IsV,slot] at hd;go_simp;try go_bits
      exact hK _ _ rfl bR
     case s9 =>
      intro K' a wy ho hd hb hK;simp [Region.binds,rAt,IsV,slot] at hd;go_simp;refine (specTwo_any ((n:Int) % 65536) wy (by omega) (by omega)).mono ?_;rintro e wz ⟨rfl,hz⟩;exact hK _ _ rfl hz
     case s10 =>
      intro K' a wy ho hd hb hK;simp [Region.binds,rAt,IsV,slot] at hd;go_simp;try go_bits
      exact hK _ _ rfl bR
     case s11 =>
      intro K' a wy ho hd hb hK;have h3:=ho 2 (by decide);simp [slot] at h3;clear hd;go_simp;try go_bits
      exact hK _ _ rfl bR
     case s12 =>
      intro K' a wy ho hd hb hK;simp [Region.binds,rAt,IsV,slot] at hd;go_simp;try go_bits
      exact hK _ _ rfl bR
     case s13 =>
      intro K' a wy ho hd hb hK;simp [Region.binds,rAt,IsV,slot] at hd;go_simp;exact hK _ _ ⟨wy.heap.size,rfl,by simp,by simp,by simp,by simp⟩ (bR.alloc lR _)
     case s14 =>
      intro K' a wy ho hd hb hK;simp only [List.forall_mem_singleton,Array.mem_def,List.mem_singleton,forall_eq] at hd;obtain ⟨b,hd1,hd2,hd3,hd4,hd5⟩ : IsQuadW (0) (p) (slot a 43) wy:=hd rfl;have hcv:=quadW_conv (cap:=4) (by omega) (by omega) hd2 hd3 hd4 hd5;simp [slot] at hd1;go_simp;try go_bits
      exact hK _ _ rfl bR
     case s15 =>
      intro K' a wy ho hd hb hK;simp [Region.binds,rAt,IsV,slot] at hd;go_simp;try go_bits
      exact hK _ _ rfl bR
     case s16 =>
      intro K' a wy ho hd hb hK;simp [Region.binds,rAt,IsV,slot] at hd;go_simp;try go_bits
      exact hK _ _ rfl bR
    case done =>
     intro X wz hR hz;obtain ⟨x0,x1,x2,x3,x4,x5,x6,x7,x8,x9,x10,x11,x12,⟨b13,x13,-,-,-,-⟩,x14,x15,x16,-⟩:=hR;simp only [IsV] at x0 x1 x2 x3 x4 x5 x6 x7 x8 x9 x10 x11 x12 x14 x15 x16;simp only [putsFrom,x0,x1,x2,x3,x4,x5,x6,x7,x8,x9,x10,x11,x12,x13,x14,x15,x16];clear x0 x1 x2 x3 x4 x5 x6 x7 x8 x9 x10 x11 x12 x13 x14 x15 x16;go_simp;refine hK2 _ _ (hJ _ _ ?_);(repeat apply Exists.intro)
     refine ⟨⟨by rw [HZ.out],(Below.refl _ w).drew.trans hz⟩,rfl⟩
   case rest =>
   obtain ⟨rfl,hb⟩:=hcut;go_wp2_with fail
   go_ret;exact ⟨rfl,hb⟩
  ·have d1:(p==1)=false:=by simp [dp]
   go_enter Tryz.func71,Tryz.ntmps71
   go_upto_region 5 with fail
   go_cut [8] (fun v wx=>v=.string ans∧Below w.z w wx)
   case first =>
    rename_i J K2 hJ hK2;clear hun;refine wp_region_growL (Rs:=[IsV (.string s),IsV (.string d),IsV (.string (s++d)),IsV (iV (n:Int)),IsV (iV ((n:Int) / 65536)),IsV (.string (twoV ((n:Int) / 65536))),IsV (.string (s++d++twoV ((n:Int) / 65536))),IsV (iV (n:Int)),IsV (iV ((n:Int) % 65536)),IsV (.string (twoV ((n:Int) % 65536))),IsV (.string (s++d++twoV ((n:Int) / 65536)++twoV ((n:Int) % 65536))),IsV (iV p),IsV (.int .u8 p),IsQuadW (0) (p),IsV (.string (quadW 0 p)),IsV (.string (s++d++twoV ((n:Int) / 65536)++twoV ((n:Int) % 65536)++quadW 0 p)),IsV (.string (s++d++twoV ((n:Int) / 65536)++twoV ((n:Int) % 65536)++quadW 0 p))]) [30,31,32,33,34,35,36,37,38,39,40,41,42,43,44,45,8] (by kernel_rfl) (by kernel_rfl) rfl ?st ?steps ?done
    case st=>simp [stable_isV,stable_isQuadW]
    case steps =>
     refine ⟨?s0,?s1,?s2,?s3,?s4,?s5,?s6,?s7,?s8,?s9,?s10,?s11,?s12,?s13,?s14,?s15,?s16,trivial⟩
     case s0 =>
      intro K' a wy ho hd hb hK;have h3:=ho 0 (by decide);simp [slot] at h3;clear hd;go_simp;try go_bits
      exact hK _ _ rfl bR
     case s1 =>
      intro K' a wy ho hd hb hK;have h3:=ho 1 (by decide);simp [slot] at h3;clear hd;go_simp;try go_bits
      exact hK _ _ rfl bR
     case s2 =>
      intro K' a wy ho hd hb hK;simp [Region.binds,rAt,IsV,slot] at hd;go_simp;try go_bits
      exact hK _ _ rfl bR
     case s3 =>
      intro K' a wy ho hd hb hK;have h3:=ho 3 (by decide);simp [slot] at h3;clear hd;go_simp;try go_bits
      exact hK _ _ rfl bR
     case s4 =>
      intro K' a wy ho hd hb hK;simp [Region.binds,rAt,IsV,slot] at hd;go_simp;try go_bits
      exact hK _ _ rfl bR
     case s5 =>
      intro K' a wy ho hd hb hK;simp [Region.binds,rAt,IsV,slot] at hd;go_simp;refine (specTwo_any ((n:Int) / 65536) wy (by omega) (by omega)).mono ?_;rintro e wz ⟨rfl,hz⟩;exact hK _ _ rfl hz
     case s6 =>
      intro K' a wy ho hd hb hK;simp [Region.binds,rAt,IsV,slot] at hd;go_simp;try go_bits
      exact hK _ _ rfl bR
     case s7 =>
      intro K' a wy ho hd hb hK;have h3:=ho 3 (by decide);simp [slot] at h3;clear hd;go_simp;try go_bits
      exact hK _ _ rfl bR
     case s8 =>
      intro K' a wy ho hd hb hK;simp [Region.binds,rAt,IsV,slot] at hd;go_simp;try go_bits
      exact hK _ _ rfl bR
     case s9 =>
      intro K' a wy ho hd hb hK;simp [Region.binds,rAt,IsV,slot] at hd;go_simp;refine (specTwo_any ((n:Int) % 65536) wy (by omega) (by omega)).mono ?_;rintro e wz ⟨rfl,hz⟩;exact hK _ _ rfl hz
     case s10 =>
      intro K' a wy ho hd hb hK;simp [Region.binds,rAt,IsV,slot] at hd;go_simp;try go_bits
      exact hK _ _ rfl bR
     case s11 =>
      intro K' a wy ho hd hb hK;have h3:=ho 2 (by decide);simp [slot] at h3;clear hd;go_simp;try go_bits
      exact hK _ _ rfl bR
     case s12 =>
      intro K' a wy ho hd hb hK;simp [Region.binds,rAt,IsV,slot] at hd;go_simp;try go_bits
      exact hK _ _ rfl bR
     case s13 =>
      intro K' a wy ho hd hb hK;simp [Region.binds,rAt,IsV,slot] at hd;go_simp;exact hK _ _ ⟨wy.heap.size,rfl,by simp,by simp,by simp,by simp⟩ (bR.alloc lR _)
     case s14 =>
      intro K' a wy ho hd hb hK;simp only [List.forall_mem_singleton,Array.mem_def,List.mem_singleton,forall_eq] at hd;obtain ⟨b,hd1,hd2,hd3,hd4,hd5⟩ : IsQuadW (0) (p) (slot a 43) wy:=hd rfl;have hcv:=quadW_conv (cap:=4) (by omega) (by omega) hd2 hd3 hd4 hd5;simp [slot] at hd1;go_simp;try go_bits
      exact hK _ _ rfl bR
     case s15 =>
      intro K' a wy ho hd hb hK;simp [Region.binds,rAt,IsV,slot] at hd;go_simp;try go_bits
      exact hK _ _ rfl bR
     case s16 =>
      intro K' a wy ho hd hb hK;simp [Region.binds,rAt,IsV,slot] at hd;go_simp;try go_bits
      exact hK _ _ rfl bR
    case done =>
     intro X wz hR hz;obtain ⟨x0,x1,x2,x3,x4,x5,x6,x7,x8,x9,x10,x11,x12,⟨b13,x13,-,-,-,-⟩,x14,x15,x16,-⟩:=hR;simp only [IsV] at x0 x1 x2 x3 x4 x5 x6 x7 x8 x9 x10 x11 x12 x14 x15 x16;simp only [putsFrom,x0,x1,x2,x3,x4,x5,x6,x7,x8,x9,x10,x11,x12,x13,x14,x15,x16];clear x0 x1 x2 x3 x4 x5 x6 x7 x8 x9 x10 x11 x12 x13 x14 x15 x16;go_simp;refine hK2 _ _ (hJ _ _ ?_);(repeat apply Exists.intro)
     refine ⟨⟨by rw [HZ.out],(Below.refl _ w).drew.trans hz⟩,rfl⟩
   case rest =>
   obtain ⟨rfl,hb⟩:=hcut;go_wp2_with fail
   go_ret;exact ⟨rfl,hb⟩
end Go.Proofs.YtdkepkaflielhaaGreatDoor
