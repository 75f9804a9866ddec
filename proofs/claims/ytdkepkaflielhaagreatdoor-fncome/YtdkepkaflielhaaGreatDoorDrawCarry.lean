import Derived.Test.YtdkepkaflielhaaGreatDoorSz
import Derived.Test.YtdkepkaflielhaaGreatDoorAb
import Derived.Test.YtdkepkaflielhaaGreatDoorDrState
import Derived.Test.YtdkepkaflielhaaGreatDoorBits
import Derived.Test.YtdkepkaflielhaaGreatDoorTwo
import Derived.Test.YtdkepkaflielhaaGreatDoorSums
import Derived.Test.YtdkepkaflielhaaGreatDoorSumMath
import Derived.Test.YtdkepkaflielhaaGreatDoorFlat
import Derived.Test.YtdkepkaflielhaaGreatDoorGrowX
import Derived.Test.YtdkepkaflielhaaGreatDoorSV4B
import Derived.RegionTactic
import Derived.Deep.RegionWith
import Derived.Deep.DeepCutAuto
set_option linter.unusedVariables false
set_option linter.unusedSimpArgs false
set_option maxRecDepth 100000
set_option maxHeartbeats 8000000
namespace Go.Proofs.YtdkepkaflielhaaGreatDoor
open Go.RowKit Go.PlainAid
theorem specPair_any (s d:ByteArray) (w:World) (hs:s.size≤1000) (hd:d.size≤1000) :
  Cw 31 #[.string s,.string d] w (.bool (addrOk s&&decide (s.size=d.size))):=by
 have HA:Hid (∀ W,Cw 65 #[.string s] W (.bool (addrOk s))):=fun W=>specAddrRight_any s W
 have hun:undef=Value.tuple #[]:=rfl;generalize addrOk s=b at *;by_cases h:s.size=d.size
 ·have dh:((s.size:Int)==(d.size:Int))=true:=by simp; omega
  rw [decide_eq_true h];clear h
  cases b;all_goals go_enter Tryz.func31,Tryz.ntmps31
  all_goals go_wp2_with fail
  all_goals refine (HA.out _).mono ?_
  all_goals rintro e w2 ⟨rfl,rfl⟩
  all_goals go_wp2_with fail
  all_goals go_ret
  all_goals exact ⟨rfl,rfl⟩
 ·have dh:((s.size:Int)==(d.size:Int))=false:=by simp; omega
  rw [decide_eq_false h]
  cases b;all_goals go_enter Tryz.func31,Tryz.ntmps31
  all_goals go_wp2_with fail
  all_goals refine (HA.out _).mono ?_
  all_goals rintro e w2 ⟨rfl,rfl⟩
  all_goals go_wp2_with fail
  all_goals go_ret
  all_goals exact ⟨rfl,rfl⟩
def checkAt (p:Int):Nat:=if p=6 then 16 else if p=17 then 6 else 2
theorem specCheck_any (p:Int) (w:World) :
  Cw 74 #[iV p] w (iV (checkAt p:Nat)):=by
 by_cases h1:p=6
 ·subst h1;go_enter Tryz.func74,Tryz.ntmps74
  go_wp2_with fail
  go_ret;exact ⟨rfl,rfl⟩
 ·have d1:(p==6)=false:=by simp [h1]
  by_cases h2:p=17
  ·subst h2;go_enter Tryz.func74,Tryz.ntmps74
   go_wp2_with fail
   go_ret;exact ⟨rfl,rfl⟩
  ·have d2:(p==17)=false:=by simp [h2]
   have HV:Hid (checkAt p=2):=by unfold Hid checkAt; rw [if_neg h1,if_neg h2]
   generalize checkAt p=ans at *;go_enter Tryz.func74,Tryz.ntmps74
   go_wp2_with fail
   go_ret;exact ⟨ret_int (by rw [HV.out]; rfl),rfl⟩
theorem specPut_any (s:ByteArray) (k:Nat) (t:ByteArray) (w:World) (h:k+t.size≤s.size) (hs:s.size≤100000) :
  Calls Tryz.prog 72 #[.string s,iV k,.string t] w fun e w'=>∃ u:ByteArray,e=.returned (.string u)∧u.size=s.size∧Below w.heap.size w w':=by
 have L1:∀ W,(Instr.slice 9 (.string s) none (some (iV k)) none).run Tryz.prog W=.ok (.string (s.extract 0 k)) W:=fun W=>by
  rw [run_slice_string_h (P:=Tryz.prog) (t:=9) (s:=s) (w:=W) (ht:=Tryz.underlying9) .i64 (k:Int) (by omega) (by omega),show ((k:Int)).toNat=k by omega]
 have L2:∀ W,(Instr.slice 9 (.string s) (some (iV ((k:Int)+t.size))) none none).run Tryz.prog W=.ok (.string (s.extract (k+t.size) s.size)) W:=fun W=>by
  rw [run_slice_string_l (P:=Tryz.prog) (t:=9) (s:=s) (w:=W) (ht:=Tryz.underlying9) .i64 ((k:Int)+t.size) (by omega) (by omega),show ((k:Int)+t.size).toNat=k+t.size by omega]
 have z1:(s.extract 0 k).size=k:=by rw [ByteArray.size_extract]; omega
 have z2:(s.extract (k+t.size) s.size).size=s.size-(k+t.size):=by rw [ByteArray.size_extract]; omega
 have HZ:Hid ((s.extract 0 k++t++s.extract (k+t.size) s.size).size=s.size):=by unfold Hid; simp only [ByteArray.size_append]; omega
 generalize s.extract 0 k=u1 at *;generalize s.extract (k+t.size) s.size=u2 at *;have n1:¬ 9223372036854775807 < u1.size+t.size:=by omega
 have n2:¬ 9223372036854775807 < u1.size+t.size+u2.size:=by omega
 have hw:IntKind.i64.wrap ((k:Int)+t.size)=(k:Int)+t.size:=by rw [IntKind.wrap_i64]; omega
 have HZ1:Hid (u1.size=k):=z1;have HZ2:Hid (u2.size=s.size-(k+t.size)):=z2;clear z1 z2;go_enter Tryz.func72,Tryz.ntmps72
 go_wp2_with fail
 go_region
 all_goals go_wp2_with fail
 all_goals go_ret
 all_goals exact ⟨_,rfl,HZ.out,bR.drew⟩
def quadV (x y:Int):ByteArray:=⟨#[UInt8.ofNat x.toNat,0,0,UInt8.ofNat y.toNat]⟩
theorem quadV_size (x y:Int):(quadV x y).size=4:=rfl
def IsQuad (x y:Int):Value→World→Prop:=fun v w=>∃ b,v=.slice (some ⟨b,0,none⟩) 4 4∧w.cell? ⟨b,0,none⟩=some (.int .u8 x)∧w.cell? ⟨b,1,none⟩=some (.int .u8 0)∧w.cell? ⟨b,2,none⟩=some (.int .u8 0)∧w.cell? ⟨b,3,none⟩=some (.int .u8 y)
theorem stable_isQuad (x y:Int):Stable (IsQuad x y):=fun v w w' ⟨b,h1,h2,h3,h4,h5⟩ hb=>by
 have hlt:=World.block_lt_of_cell? w _ h2;exact ⟨b,h1,((bcell hb).1 b 0 hlt).trans h2,((bcell hb).1 b 1 hlt).trans h3,((bcell hb).1 b 2 hlt).trans h4,((bcell hb).1 b 3 hlt).trans h5⟩
theorem quad_conv {w:World} {b cap:Nat} {x y:Int} (hx:0≤x∧x≤255) (hy:0≤y∧y≤255) (h0:w.cell? ⟨b,0,none⟩=some (.int .u8 x)) (h1:w.cell? ⟨b,1,none⟩=some (.int .u8 0)) (h2:w.cell? ⟨b,2,none⟩=some (.int .u8 0)) (h3:w.cell? ⟨b,3,none⟩=some (.int .u8 y)) :
  (convert 22 9 (.slice (some ⟨b,0,none⟩) 4 cap)).run Tryz.prog w=.ok (.string (quadV x y)) w :=
 run_convert_bytes_back (P:=Tryz.prog) w 22 9 5 ⟨b,0,none⟩ cap [UInt8.ofNat x.toNat,0,0,UInt8.ofNat y.toNat] Tryz.underlying22 Tryz.underlying5 Tryz.underlying9 (by
  intro j hj;match j,hj with
  | 0,_=>simp only [Addr.add,Nat.add_zero,List.getElem_cons_zero]; rw [u8_ofNat _ hx.1 hx.2]; exact h0
  | 1,_=>simp only [Addr.add,Nat.zero_add,List.getElem_cons_succ,List.getElem_cons_zero]; exact h1
  | 2,_=>simp only [Addr.add,Nat.zero_add,List.getElem_cons_succ,List.getElem_cons_zero]; exact h2
  | 3,_=>simp only [Addr.add,Nat.zero_add,List.getElem_cons_succ,List.getElem_cons_zero]; rw [u8_ofNat _ hy.1 hy.2]; exact h3)
theorem specPseudo_any (s d:ByteArray) (p:Int) (n:Nat) (w:World) (hs:s.size≤16) (hd:d.size≤16) (hp:0≤p∧p≤255) (hn:n≤65535) :
  Calls Tryz.prog 71 #[.string s,.string d,iV p,iV n] w fun e w'=>∃ u:ByteArray,e=.returned (.string u)∧u.size≤60∧Below w.heap.size w w':=by
 have hun:undef=Value.tuple #[]:=rfl;have n1:¬ 9223372036854775807 < s.size+d.size:=by omega
 have z1:=pairV_size 0 p;have z2:=twoV_size (n:Int);by_cases h1:p=1∧s.size=4
 ·obtain ⟨rfl,h4⟩:=h1;have d4:((s.size:Int)==4)=true:=by simp; omega
  clear h4;go_enter Tryz.func71,Tryz.ntmps71
  go_wp2_with fail
  go_ret;exact ⟨_,rfl,by decide,Below.refl _ _⟩
 by_cases h4:s.size=4
 ·have d4:((s.size:Int)==4)=true:=by simp; omega
  have d1:(p==1)=false:=by simp; exact fun e=>h1 ⟨e,h4⟩
  clear h1 h4;have n2:¬ 9223372036854775807 < s.size+d.size+(pairV 0 p).size:=by omega
  have n3:¬ 9223372036854775807 < s.size+d.size+(pairV 0 p).size+(twoV (n:Int)).size:=by omega
  have n2b:¬ 9223372036854775807 < s.size+d.size+2:=by omega
  have n3b:¬ 9223372036854775807 < s.size+d.size+2+2:=by omega
  have HZ:Hid ((s++d++pairV 0 p++twoV (n:Int)).size≤60):=by unfold Hid; simp only [ByteArray.size_append]; omega
  go_enter Tryz.func71,Tryz.ntmps71
  go_upto_region 4 with fail
  go_cut [8] (fun v wx=>(∃ u:ByteArray,v=.string u∧u.size≤60)∧Below w.z w wx)
  case first =>
   rename_i J K2 hJ hK2;clear hun;refine wp_region_growL (Rs:=[IsV (.string s),IsV (.string d),IsV (.string (s++d)),IsV (iV p),IsV (.int .u8 p),IsRow (0) (p),IsV (.string (pairV 0 p)),IsV (.string (s++d++pairV 0 p)),IsV (iV (n:Int)),IsV (.string (twoV (n:Int))),IsV (.string (s++d++pairV 0 p++twoV (n:Int))),IsV (.string (s++d++pairV 0 p++twoV (n:Int)))]) [19,20,21,22,23,24,25,26,27,28,29,8] (by kernel_rfl) (by kernel_rfl) rfl ?st ?steps ?done
   case st=>simp [stable_isV,stable_isRow]
   case steps =>
    refine ⟨?s0,?s1,?s2,?s3,?s4,?s5,?s6,?s7,?s8,?s9,?s10,?s11,trivial⟩
    case s0 =>
     intro K' a wy ho hd hb hK;have h3:=ho 0 (by decide);simp [slot] at h3;clear hd;go_simp;try go_bits
     exact hK _ _ rfl bR
    case s1 =>
     intro K' a wy ho hd hb hK;have h3:=ho 1 (by decide);simp [slot] at h3;clear hd;go_simp;try go_bits
     exact hK _ _ rfl bR
    case s2 =>
     intro K' a wy ho hd hb hK;simp [Region.binds,rAt,IsV,slot] at hd;go_simp;try go_bits
     exact hK _ _ rfl bR
    case s3 =>
     intro K' a wy ho hd hb hK;have h3:=ho 2 (by decide);simp [slot] at h3;clear hd;go_simp;try go_bits
     exact hK _ _ rfl bR
    case s4 =>
     intro K' a wy ho hd hb hK;simp [Region.binds,rAt,IsV,slot] at hd;go_simp;try go_bits
     exact hK _ _ rfl bR
    case s5 =>
     intro K' a wy ho hd hb hK;simp [Region.binds,rAt,IsV,slot] at hd;go_simp;exact hK _ _ ⟨wy.heap.size,rfl,by simp,by simp⟩ (bR.alloc lR _)
    case s6 =>
     intro K' a wy ho hd hb hK;simp only [List.forall_mem_singleton,Array.mem_def,List.mem_singleton,forall_eq] at hd;obtain ⟨b,hd1,hd2,hd3⟩ : IsRow (0) (p) (slot a 24) wy:=hd rfl;have hcv:=pair_conv (cap:=2) (by omega) (by omega) hd2 hd3;simp [slot] at hd1;go_simp;try go_bits
     exact hK _ _ rfl bR
    case s7 =>
     intro K' a wy ho hd hb hK;simp [Region.binds,rAt,IsV,slot] at hd;go_simp;try go_bits
     exact hK _ _ rfl bR
    case s8 =>
     intro K' a wy ho hd hb hK;have h3:=ho 3 (by decide);simp [slot] at h3;clear hd;go_simp;try go_bits
     exact hK _ _ rfl bR
    case s9 =>
     intro K' a wy ho hd hb hK;simp [Region.binds,rAt,IsV,slot] at hd;go_simp;refine (specTwo_any (n:Int) wy (by omega) (by omega)).mono ?_;rintro e wz ⟨rfl,hz⟩;exact hK _ _ rfl hz
    case s10 =>
     intro K' a wy ho hd hb hK;simp [Region.binds,rAt,IsV,slot] at hd;go_simp;try go_bits
     exact hK _ _ rfl bR
    case s11 =>
     intro K' a wy ho hd hb hK;simp [Region.binds,rAt,IsV,slot] at hd;go_simp;try go_bits
     exact hK _ _ rfl bR
   case done =>
    intro X wz hR hz;obtain ⟨x0,x1,x2,x3,x4,⟨b5,x5,-,-⟩,x6,x7,x8,x9,x10,x11,-⟩:=hR;simp only [IsV] at x0 x1 x2 x3 x4 x6 x7 x8 x9 x10 x11;simp only [putsFrom,x0,x1,x2,x3,x4,x5,x6,x7,x8,x9,x10,x11];clear x0 x1 x2 x3 x4 x5 x6 x7 x8 x9 x10 x11;go_simp;refine hK2 _ _ (hJ _ _ ?_);(repeat apply Exists.intro)
    refine ⟨⟨⟨_,rfl,HZ.out⟩,(Below.refl _ w).drew.trans hz⟩,rfl⟩
  case rest =>
  obtain ⟨⟨u,rfl,hu⟩,hb⟩:=hcut;go_wp2_with fail
  go_ret;exact ⟨u,rfl,hu,hb⟩
 ·have d4:((s.size:Int)==4)=false:=by simp; omega
  clear h1;have a1:=and_65535 (n:Int);have n2:¬ 9223372036854775807 < s.size+d.size+(twoV ((n:Int) / 65536)).size:=by rw [twoV_size]; omega
  have n3:¬ 9223372036854775807 < s.size+d.size+(twoV ((n:Int) / 65536)).size+(twoV ((n:Int) % 65536)).size:=by rw [twoV_size,twoV_size]; omega
  have n4:¬ 9223372036854775807 < s.size+d.size+(twoV ((n:Int) / 65536)).size+(twoV ((n:Int) % 65536)).size+(quadV 0 p).size:=by rw [twoV_size,twoV_size,quadV_size]; omega
  have HZ:Hid ((s++d++twoV ((n:Int) / 65536)++twoV ((n:Int) % 65536)++quadV 0 p).size≤60):=by unfold Hid; simp only [ByteArray.size_append,twoV_size,quadV_size]; omega
  by_cases dp:p=1
  ·have d1:(p==1)=true:=by simp [dp]
   clear dp;go_enter Tryz.func71,Tryz.ntmps71
   go_upto_region 5 with fail
   go_cut [8] (fun v wx=>(∃ u:ByteArray,v=.string u∧u.size≤60)∧Below w.z w wx)
   case first =>
    rename_i J K2 hJ hK2;clear hun;refine wp_region_growL (Rs:=[IsV (.string s),IsV (.string d),IsV (.string (s++d)),IsV (iV (n:Int)),IsV (iV ((n:Int) / 65536)),IsV (.string (twoV ((n:Int) / 65536))),IsV (.string (s++d++twoV ((n:Int) / 65536))),IsV (iV (n:Int)),IsV (iV ((n:Int) % 65536)),IsV (.string (twoV ((n:Int) % 65536))),IsV (.string (s++d++twoV ((n:Int) / 65536)++twoV ((n:Int) % 65536))),IsV (iV p),IsV (.int .u8 p),IsQuad (0) (p),IsV (.string (quadV 0 p)),IsV (.string (s++d++twoV ((n:Int) / 65536)++twoV ((n:Int) % 65536)++quadV 0 p)),IsV (.string (s++d++twoV ((n:Int) / 65536)++twoV ((n:Int) % 65536)++quadV 0 p))]) [30,31,32,33,34,35,36,37,38,39,40,41,42,43,44,45,8] (by kernel_rfl) (by kernel_rfl) rfl ?st ?steps ?done
    case st=>simp [stable_isV,stable_isQuad]
    case steps =>
     refine ⟨?s0,?s1,?s2,?s3,?s4,?s5,?s6,?s7,?s8,?s9,?s10,?s11,?s12,?s13,?s14,?s15,?s16,trivial⟩
     case s0 =>
      intro K' a wy ho hd hb hK;have h3:=ho 0 (by decide);simp [slot] at h3;clear hd;go_simp;try go_bits
      exact hK _ _ rfl bR
     case s1 =>
      intro K' a wy ho hd hb hK;have h3:=ho 1 (by decide);simp [slot] at h3;clear hd;go_simp;try go_bits
      exact hK _ _ rfl bR
     case s2 =>
      intro K' a wy ho hd hb hK;simp [Region.binds,rAt,IsV,slot] at hd;go_simp;try go_bits
      exact hK _ _ rfl bR
     case s3 =>
      intro K' a wy ho hd hb hK;have h3:=ho 3 (by decide);simp [slot] at h3;clear hd;go_simp;try go_bits
      exact hK _ _ rfl bR
     case s4 =>
      intro K' a wy ho hd hb hK;simp [Region.binds,rAt,IsV,slot] at hd;go_simp;try go_bits
      exact hK _ _ rfl bR
     case s5 =>
      intro K' a wy ho hd hb hK;simp [Region.binds,rAt,IsV,slot] at hd;go_simp;refine (specTwo_any ((n:Int) / 65536) wy (by omega) (by omega)).mono ?_;rintro e wz ⟨rfl,hz⟩;exact hK _ _ rfl hz
     case s6 =>
      intro K' a wy ho hd hb hK;simp [Region.binds,rAt,IsV,slot] at hd;go_simp;try go_bits
      exact hK _ _ rfl bR
     case s7 =>
      intro K' a wy ho hd hb hK;have h3:=ho 3 (by decide);simp [slot] at h3;clear hd;go_simp;try go_bits
      exact hK _ _ rfl bR
     case s8 =>
      intro K' a wy ho hd hb hK;simp [Region.binds,rAt,IsV,slot] at hd;go_simp;try go_bits
      exact hK _ _ rfl bR
     case s9 =>
      intro K' a wy ho hd hb hK;simp [Region.binds,rAt,IsV,slot] at hd;go_simp;refine (specTwo_any ((n:Int) % 65536) wy (by omega) (by omega)).mono ?_;rintro e wz ⟨rfl,hz⟩;exact hK _ _ rfl hz
     case s10 =>
      intro K' a wy ho hd hb hK;simp [Region.binds,rAt,IsV,slot] at hd;go_simp;try go_bits
      exact hK _ _ rfl bR
     case s11 =>
      intro K' a wy ho hd hb hK;have h3:=ho 2 (by decide);simp [slot] at h3;clear hd;go_simp;try go_bits
      exact hK _ _ rfl bR
     case s12 =>
      intro K' a wy ho hd hb hK;simp [Region.binds,rAt,IsV,slot] at hd;go_simp;try go_bits
      exact hK _ _ rfl bR
     case s13 =>
      intro K' a wy ho hd hb hK;simp [Region.binds,rAt,IsV,slot] at hd;go_simp;exact hK _ _ ⟨wy.heap.size,rfl,by simp,by simp,by simp,by simp⟩ (bR.alloc lR _)
     case s14 =>
      intro K' a wy ho hd hb hK;simp only [List.forall_mem_singleton,Array.mem_def,List.mem_singleton,forall_eq] at hd;obtain ⟨b,hd1,hd2,hd3,hd4,hd5⟩ : IsQuad (0) (p) (slot a 43) wy:=hd rfl;have hcv:=quad_conv (cap:=4) (by omega) (by omega) hd2 hd3 hd4 hd5;simp [slot] at hd1;go_simp;try go_bits
      exact hK _ _ rfl bR
     case s15 =>
      intro K' a wy ho hd hb hK;simp [Region.binds,rAt,IsV,slot] at hd;go_simp;try go_bits
      exact hK _ _ rfl bR
     case s16 =>
      intro K' a wy ho hd hb hK;simp [Region.binds,rAt,IsV,slot] at hd;go_simp;try go_bits
      exact hK _ _ rfl bR
    case done =>
     intro X wz hR hz;obtain ⟨x0,x1,x2,x3,x4,x5,x6,x7,x8,x9,x10,x11,x12,⟨b13,x13,-,-,-,-⟩,x14,x15,x16,-⟩:=hR;simp only [IsV] at x0 x1 x2 x3 x4 x5 x6 x7 x8 x9 x10 x11 x12 x14 x15 x16;simp only [putsFrom,x0,x1,x2,x3,x4,x5,x6,x7,x8,x9,x10,x11,x12,x13,x14,x15,x16];clear x0 x1 x2 x3 x4 x5 x6 x7 x8 x9 x10 x11 x12 x13 x14 x15 x16;go_simp;refine hK2 _ _ (hJ _ _ ?_);(repeat apply Exists.intro)
     refine ⟨⟨⟨_,rfl,HZ.out⟩,(Below.refl _ w).drew.trans hz⟩,rfl⟩
   case rest =>
   obtain ⟨⟨u,rfl,hu⟩,hb⟩:=hcut;go_wp2_with fail
   go_ret;exact ⟨u,rfl,hu,hb⟩
  ·have d1:(p==1)=false:=by simp [dp]
   go_enter Tryz.func71,Tryz.ntmps71
   go_upto_region 5 with fail
   go_cut [8] (fun v wx=>(∃ u:ByteArray,v=.string u∧u.size≤60)∧Below w.z w wx)
   case first =>
    rename_i J K2 hJ hK2;clear hun;refine wp_region_growL (Rs:=[IsV (.string s),IsV (.string d),IsV (.string (s++d)),IsV (iV (n:Int)),IsV (iV ((n:Int) / 65536)),IsV (.string (twoV ((n:Int) / 65536))),IsV (.string (s++d++twoV ((n:Int) / 65536))),IsV (iV (n:Int)),IsV (iV ((n:Int) % 65536)),IsV (.string (twoV ((n:Int) % 65536))),IsV (.string (s++d++twoV ((n:Int) / 65536)++twoV ((n:Int) % 65536))),IsV (iV p),IsV (.int .u8 p),IsQuad (0) (p),IsV (.string (quadV 0 p)),IsV (.string (s++d++twoV ((n:Int) / 65536)++twoV ((n:Int) % 65536)++quadV 0 p)),IsV (.string (s++d++twoV ((n:Int) / 65536)++twoV ((n:Int) % 65536)++quadV 0 p))]) [30,31,32,33,34,35,36,37,38,39,40,41,42,43,44,45,8] (by kernel_rfl) (by kernel_rfl) rfl ?st ?steps ?done
    case st=>simp [stable_isV,stable_isQuad]
    case steps =>
     refine ⟨?s0,?s1,?s2,?s3,?s4,?s5,?s6,?s7,?s8,?s9,?s10,?s11,?s12,?s13,?s14,?s15,?s16,trivial⟩
     case s0 =>
      intro K' a wy ho hd hb hK;have h3:=ho 0 (by decide);simp [slot] at h3;clear hd;go_simp;try go_bits
      exact hK _ _ rfl bR
     case s1 =>
      intro K' a wy ho hd hb hK;have h3:=ho 1 (by decide);simp [slot] at h3;clear hd;go_simp;try go_bits
      exact hK _ _ rfl bR
     case s2 =>
      intro K' a wy ho hd hb hK;simp [Region.binds,rAt,IsV,slot] at hd;go_simp;try go_bits
      exact hK _ _ rfl bR
     case s3 =>
      intro K' a wy ho hd hb hK;have h3:=ho 3 (by decide);simp [slot] at h3;clear hd;go_simp;try go_bits
      exact hK _ _ rfl bR
     case s4 =>
      intro K' a wy ho hd hb hK;simp [Region.binds,rAt,IsV,slot] at hd;go_simp;try go_bits
      exact hK _ _ rfl bR
     case s5 =>
      intro K' a wy ho hd hb hK;simp [Region.binds,rAt,IsV,slot] at hd;go_simp;refine (specTwo_any ((n:Int) / 65536) wy (by omega) (by omega)).mono ?_;rintro e wz ⟨rfl,hz⟩;exact hK _ _ rfl hz
     case s6 =>
      intro K' a wy ho hd hb hK;simp [Region.binds,rAt,IsV,slot] at hd;go_simp;try go_bits
      exact hK _ _ rfl bR
     case s7 =>
      intro K' a wy ho hd hb hK;have h3:=ho 3 (by decide);simp [slot] at h3;clear hd;go_simp;try go_bits
      exact hK _ _ rfl bR
     case s8 =>
      intro K' a wy ho hd hb hK;simp [Region.binds,rAt,IsV,slot] at hd;go_simp;try go_bits
      exact hK _ _ rfl bR
     case s9 =>
      intro K' a wy ho hd hb hK;simp [Region.binds,rAt,IsV,slot] at hd;go_simp;refine (specTwo_any ((n:Int) % 65536) wy (by omega) (by omega)).mono ?_;rintro e wz ⟨rfl,hz⟩;exact hK _ _ rfl hz
     case s10 =>
      intro K' a wy ho hd hb hK;simp [Region.binds,rAt,IsV,slot] at hd;go_simp;try go_bits
      exact hK _ _ rfl bR
     case s11 =>
      intro K' a wy ho hd hb hK;have h3:=ho 2 (by decide);simp [slot] at h3;clear hd;go_simp;try go_bits
      exact hK _ _ rfl bR
     case s12 =>
      intro K' a wy ho hd hb hK;simp [Region.binds,rAt,IsV,slot] at hd;go_simp;try go_bits
      exact hK _ _ rfl bR
     case s13 =>
      intro K' a wy ho hd hb hK;simp [Region.binds,rAt,IsV,slot] at hd;go_simp;exact hK _ _ ⟨wy.heap.size,rfl,by simp,by simp,by simp,by simp⟩ (bR.alloc lR _)
     case s14 =>
      intro K' a wy ho hd hb hK;simp only [List.forall_mem_singleton,Array.mem_def,List.mem_singleton,forall_eq] at hd;obtain ⟨b,hd1,hd2,hd3,hd4,hd5⟩ : IsQuad (0) (p) (slot a 43) wy:=hd rfl;have hcv:=quad_conv (cap:=4) (by omega) (by omega) hd2 hd3 hd4 hd5;simp [slot] at hd1;go_simp;try go_bits
      exact hK _ _ rfl bR
     case s15 =>
      intro K' a wy ho hd hb hK;simp [Region.binds,rAt,IsV,slot] at hd;go_simp;try go_bits
      exact hK _ _ rfl bR
     case s16 =>
      intro K' a wy ho hd hb hK;simp [Region.binds,rAt,IsV,slot] at hd;go_simp;try go_bits
      exact hK _ _ rfl bR
    case done =>
     intro X wz hR hz;obtain ⟨x0,x1,x2,x3,x4,x5,x6,x7,x8,x9,x10,x11,x12,⟨b13,x13,-,-,-,-⟩,x14,x15,x16,-⟩:=hR;simp only [IsV] at x0 x1 x2 x3 x4 x5 x6 x7 x8 x9 x10 x11 x12 x14 x15 x16;simp only [putsFrom,x0,x1,x2,x3,x4,x5,x6,x7,x8,x9,x10,x11,x12,x13,x14,x15,x16];clear x0 x1 x2 x3 x4 x5 x6 x7 x8 x9 x10 x11 x12 x13 x14 x15 x16;go_simp;refine hK2 _ _ (hJ _ _ ?_);(repeat apply Exists.intro)
     refine ⟨⟨⟨_,rfl,HZ.out⟩,(Below.refl _ w).drew.trans hz⟩,rfl⟩
   case rest =>
   obtain ⟨⟨u,rfl,hu⟩,hb⟩:=hcut;go_wp2_with fail
   go_ret;exact ⟨u,rfl,hu,hb⟩
theorem specCSum_any (s d:ByteArray) (p:Int) (t:ByteArray) (w:World) (hs:s.size≤16) (hd:d.size≤16) (hp:0≤p∧p≤255) (ht:t.size≤65535) :
  Calls Tryz.prog 41 #[.string s,.string d,iV p,.string t] w fun e w'=>∃ r,e=.returned (iV r)∧0≤r∧r≤65535∧Below w.heap.size w w':=by
 have HP:Hid (∀ W,Calls Tryz.prog 71 #[.string s,.string d,iV p,iV t.size] W fun e w'=>∃ u:ByteArray,e=.returned (.string u)∧u.size≤60∧Below W.heap.size W w'):=fun W=>specPseudo_any s d p t.size W hs hd hp ht
 go_enter Tryz.func41,Tryz.ntmps41
 go_wp2_with fail
 refine (HP.out _).mono ?_;rintro e w1 ⟨u,rfl,hu,hb⟩;have n1:¬ 9223372036854775807 < u.size+t.size:=by omega
 have HB:Hid (Below w.z w w1):=hb;clear hb;go_wp2_with fail
 refine (specSum1_any (u++t) _ (by rw [ByteArray.size_append]; omega)).mono ?_;rintro e w2 ⟨rfl,rfl⟩;have hr:=sumV_range (u++t);go_wp2_with fail
 go_ret;exact ⟨_,rfl,hr.1,hr.2,HB.out⟩
end Go.Proofs.YtdkepkaflielhaaGreatDoor
