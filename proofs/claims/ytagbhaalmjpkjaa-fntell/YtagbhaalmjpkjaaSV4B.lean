import Derived.Test.YtagbhaalmjpkjaaSmV
import Derived.Test.YtagbhaalmjpkjaaGrow
import Derived.Deep.RegionWith
import Derived.Deep.DeepCutAuto
set_option linter.unusedVariables false
set_option linter.unusedSimpArgs false
set_option maxRecDepth 100000
set_option maxHeartbeats 8000000
namespace Go.Proofs.Ytagbhaalmjpkjaa
open Go.RowKit Go.PlainAid
def pairL (x y:Int):List UInt8:=[UInt8.ofNat x.toNat,UInt8.ofNat y.toNat]
theorem pair_cells {w:World} {b:Nat} {x y:Int} (hx:0≤x∧x≤255) (hy:0≤y∧y≤255)
  (hc0:w.cell? ⟨b,0,none⟩=some (.int .u8 x)) (hc1:w.cell? ⟨b,1,none⟩=some (.int .u8 y)) :
  ∀ j (hj:j < (pairL x y).length),w.cell? (Addr.add ⟨b,0,none⟩ j)=some (.int .u8 ((pairL x y)[j].toNat:Int)):=by
 intro j hj;match j,hj with
 | 0,_=>simp only [Addr.add,Nat.add_zero,pairL,List.getElem_cons_zero]; rw [u8_ofNat _ hx.1 hx.2]; exact hc0
 | 1,_=>simp only [Addr.add,Nat.zero_add,pairL,List.getElem_cons_succ,List.getElem_cons_zero]; rw [u8_ofNat _ hy.1 hy.2]; exact hc1
theorem pair_conv {w:World} {b cap:Nat} {x y:Int} (hx:0≤x∧x≤255) (hy:0≤y∧y≤255)
  (hc0:w.cell? ⟨b,0,none⟩=some (.int .u8 x)) (hc1:w.cell? ⟨b,1,none⟩=some (.int .u8 y)) :
  (convert 22 9 (.slice (some ⟨b,0,none⟩) 2 cap)).run Try.prog w=.ok (.string (pairV x y)) w :=
 run_convert_bytes_back (P:=Try.prog) w 22 9 5 ⟨b,0,none⟩ cap (pairL x y) Try.underlying22 Try.underlying5 Try.underlying9 (pair_cells hx hy hc0 hc1)
theorem specV4Raw_any (p:P4) (w:World) (hok:v4Ok p=true) :
  Calls Try.prog 44 #[p4C p] w fun e w'=>e=.returned (.string (v4Raw p))∧Below w.heap.size w w':=by
 have hA:v4A p=true:=by unfold v4Ok at hok; simp only [Bool.and_eq_true] at hok; exact hok.1.1
 have hB:v4B p=true:=by unfold v4Ok at hok; simp only [Bool.and_eq_true] at hok; exact hok.1.2
 obtain ⟨a1,a2,a3,a4,a5,a6,a7⟩:=v4A_parts hA;obtain ⟨b1,b2,b3,-,b5⟩:=v4B_parts hB;have HV:Hid (v4Raw p=headA p++twoV (65535-sumV (headA p++headB p))++headB p++p.data):=rfl;have HA:Hid (headA p=pairV (64+(20+(p.opts.size:Int)) / 4) p.tos++twoV (20+(p.opts.size:Int)+p.data.size)++twoV p.id++twoV (offV p)++pairV p.ttl p.proto):=rfl;have HB:Hid (headB p=p.src++p.dst++p.opts):=rfl;have HO:Hid (offV p=p.off+(if p.whole then 16384 else 0)+(if p.more then 8192 else 0)):=rfl;have hs:(headA p++headB p).size≤1048578:=by
  rw [HA.out,HB.out]; simp only [ByteArray.size_append,pairV_size,twoV_size]; omega
 have hz1:(headA p).size≤100:=by rw [HA.out]; simp only [ByteArray.size_append,pairV_size,twoV_size]; omega
 have hz2:(headB p).size≤100:=by rw [HB.out]; simp only [ByteArray.size_append]; omega
 have HSum:Hid (∀ W,Calls Try.prog 47 #[.string (headA p++headB p)] W fun e w'=>e=.returned (.int .i64 (sumV (headA p++headB p)))∧Below W.heap.size W w'):=fun W=>(specSum1_any _ W hs).mono fun e w' h=>⟨h.1,by rw [h.2]; exact Below.refl _ _⟩
 have hr:=sumV_range (headA p++headB p);generalize headA p=hdA at *;generalize headB p=hdB at *;generalize v4Raw p=raw at *;generalize offV p=offv at *;clear hok hA hB hs;obtain ⟨tos,id,whole,more,off,ttl,proto,src,dst,opts,data⟩:=p;unfold p4C;dsimp only at *;have HZ:Hid (Below w.heap.size w (w.alloc (.cells #[.int .i64 tos,.int .i64 id,.bool whole,.bool more,.int .i64 off,.int .i64 ttl,.int .i64 proto,.string src,.string dst,.string opts,.string data] 34))):=(Below.refl _ _).alloc (Nat.le_refl _) _;have KZ:Hid (BoxV4 (w.alloc (.cells #[.int .i64 tos,.int .i64 id,.bool whole,.bool more,.int .i64 off,.int .i64 ttl,.int .i64 proto,.string src,.string dst,.string opts,.string data] 34)) w.heap.size ⟨tos,id,whole,more,off,ttl,proto,src,dst,opts,data⟩):=BoxV4.new w ⟨tos,id,whole,more,off,ttl,proto,src,dst,opts,data⟩;go_enter Try.func44,Try.ntmps44
 go_upto_if 14 with fail
 generalize w.alloc (.cells #[.int .i64 tos,.int .i64 id,.bool whole,.bool more,.int .i64 off,.int .i64 ttl,.int .i64 proto,.string src,.string dst,.string opts,.string data] 34)=W at *;obtain ⟨k0,k1,k2,k3,k4,k5,k6,k7,k8,k9,k10⟩:=KZ.out;go_cut [4] (fun v wx=>v=.int .i64 (off+(if whole then 16384 else 0))∧W=wx)
 case first =>
  cases whole;all_goals go_wp2_with fail
  all_goals go_meet
  all_goals exact ⟨by simp,rfl⟩
 case rest =>
 obtain ⟨rfl,rfl⟩:=hcut;go_upto_if 18 with fail
 go_cut [4] (fun v wx=>v=.int .i64 offv∧W=wx)
 case first =>
  replace HO:=HO.out
  cases more;all_goals cases whole
  all_goals simp at HO
  all_goals subst HO
  all_goals go_wp2_with fail
  all_goals go_meet
  all_goals exact ⟨by simp,rfl⟩
 case rest =>
 obtain ⟨rfl,rfl⟩:=hcut;have o0:0≤offv∧offv≤65535:=by have:=HO.out; split at this<;>split at this<;>omega
 have HK:Hid (∀ wy,Below W.drew.heap.size W.drew wy→BoxV4 wy w.heap.size ⟨tos,id,whole,more,off,ttl,proto,src,dst,opts,data⟩):=fun wy hy=>KZ.out.kept ((Below.refl _ W).drew.trans hy)
 go_upto_region 7 with fail
 clear k0 k1 k2 k3 k4 k5 k6 k7 k8 k9 k10;go_cut [5] (fun v wx=>v=.string hdA∧Below W.heap.size W wx)
 case first =>
  rename_i J K2 hJ hK2;clear HV HO HB HSum hr;refine wp_region_growL (Rs:=[IsV (.int .i64 (20+(opts.size:Int))),IsV (.int .i64 ((20+(opts.size:Int)) / 4)),IsV (.int .i64 (64+(20+(opts.size:Int)) / 4)),IsV (.int .u8 (64+(20+(opts.size:Int)) / 4)),IsV (.pointer (some ⟨w.heap.size,0,none⟩)),IsV (.int .i64 tos),IsV (.int .u8 tos),IsRow (64+(20+(opts.size:Int)) / 4) (tos),IsV (.string (pairV (64+(20+(opts.size:Int)) / 4) tos)),IsV (.int .i64 (20+(opts.size:Int))),IsV (.pointer (some ⟨w.heap.size,10,none⟩)),IsV (.string data),IsV (.int .i64 (data.size:Int)),IsV (.int .i64 (20+(opts.size:Int)+(data.size:Int))),IsV (.string (twoV (20+(opts.size:Int)+(data.size:Int)))),IsV (.string (pairV (64+(20+(opts.size:Int)) / 4) tos++twoV (20+(opts.size:Int)+(data.size:Int)))),IsV (.pointer (some ⟨w.heap.size,1,none⟩)),IsV (.int .i64 id),IsV (.string (twoV id)),IsV (.string (pairV (64+(20+(opts.size:Int)) / 4) tos++twoV (20+(opts.size:Int)+(data.size:Int))++twoV id)),IsV (.int .i64 offv),IsV (.string (twoV offv)),IsV (.string (pairV (64+(20+(opts.size:Int)) / 4) tos++twoV (20+(opts.size:Int)+(data.size:Int))++twoV id++twoV offv)),IsV (.pointer (some ⟨w.heap.size,5,none⟩)),IsV (.int .i64 ttl),IsV (.int .u8 ttl),IsV (.pointer (some ⟨w.heap.size,6,none⟩)),IsV (.int .i64 proto),IsV (.int .u8 proto),IsRow (ttl) (proto),IsV (.string (pairV ttl proto)),IsV (.string (pairV (64+(20+(opts.size:Int)) / 4) tos++twoV (20+(opts.size:Int)+(data.size:Int))++twoV id++twoV offv++pairV ttl proto)),IsV (.string (pairV (64+(20+(opts.size:Int)) / 4) tos++twoV (20+(opts.size:Int)+(data.size:Int))++twoV id++twoV offv++pairV ttl proto))]) [21,22,23,24,25,26,27,28,29,30,31,32,33,34,35,36,37,38,39,40,41,42,43,44,45,46,47,48,49,50,51,52,5] (by kernel_rfl) (by kernel_rfl) rfl ?st ?steps ?done
  case st=>simp [stable_isV,stable_isRow]
  case steps =>
   refine ⟨?s0,?s1,?s2,?s3,?s4,?s5,?s6,?s7,?s8,?s9,?s10,?s11,?s12,?s13,?s14,?s15,?s16,?s17,?s18,?s19,?s20,?s21,?s22,?s23,?s24,?s25,?s26,?s27,?s28,?s29,?s30,?s31,?s32,trivial⟩
   case s0 =>
    intro K' a wy ho hd hb hK;have h3:=ho 3 (by decide);simp [slot] at h3;clear hd;go_simp;try go_bits
    exact hK _ _ rfl (Below.refl _ _)
   case s1 =>
    intro K' a wy ho hd hb hK;simp [Region.binds,rAt,IsV,slot] at hd;go_simp;try go_bits
    exact hK _ _ rfl (Below.refl _ _)
   case s2 =>
    intro K' a wy ho hd hb hK;simp [Region.binds,rAt,IsV,slot] at hd;go_simp;try go_bits
    exact hK _ _ rfl (Below.refl _ _)
   case s3 =>
    intro K' a wy ho hd hb hK;simp [Region.binds,rAt,IsV,slot] at hd;go_simp;try go_bits
    exact hK _ _ rfl (Below.refl _ _)
   case s4 =>
    intro K' a wy ho hd hb hK;have h3:=ho 1 (by decide);simp [slot] at h3;clear hd;go_simp;try go_bits
    exact hK _ _ rfl (Below.refl _ _)
   case s5 =>
    intro K' a wy ho hd hb hK;simp [Region.binds,rAt,IsV,slot] at hd;obtain ⟨k0,k1,k2,k3,k4,k5,k6,k7,k8,k9,k10⟩:=HK.out wy hb;go_simp;try go_bits
    exact hK _ _ rfl (Below.refl _ _)
   case s6 =>
    intro K' a wy ho hd hb hK;simp [Region.binds,rAt,IsV,slot] at hd;go_simp;try go_bits
    exact hK _ _ rfl (Below.refl _ _)
   case s7 =>
    intro K' a wy ho hd hb hK;simp [Region.binds,rAt,IsV,slot] at hd;go_simp;exact hK _ _ ⟨wy.heap.size,rfl,by simp,by simp⟩ ((Below.refl _ _).alloc (Nat.le_refl _) _)
   case s8 =>
    intro K' a wy ho hd hb hK;simp only [List.forall_mem_singleton,Array.mem_def,List.mem_singleton,forall_eq] at hd;obtain ⟨b,hd1,hd2,hd3⟩ : IsRow (64+(20+(opts.size:Int)) / 4) (tos) (slot a 28) wy:=hd rfl;have hcv:=pair_conv (cap:=2) (by omega) (by omega) hd2 hd3;simp [slot] at hd1;go_simp;try go_bits
    exact hK _ _ rfl (Below.refl _ _)
   case s9 =>
    intro K' a wy ho hd hb hK;have h3:=ho 3 (by decide);simp [slot] at h3;clear hd;go_simp;try go_bits
    exact hK _ _ rfl (Below.refl _ _)
   case s10 =>
    intro K' a wy ho hd hb hK;have h3:=ho 1 (by decide);simp [slot] at h3;clear hd;go_simp;try go_bits
    exact hK _ _ rfl (Below.refl _ _)
   case s11 =>
    intro K' a wy ho hd hb hK;simp [Region.binds,rAt,IsV,slot] at hd;obtain ⟨k0,k1,k2,k3,k4,k5,k6,k7,k8,k9,k10⟩:=HK.out wy hb;go_simp;try go_bits
    exact hK _ _ rfl (Below.refl _ _)
   case s12 =>
    intro K' a wy ho hd hb hK;simp [Region.binds,rAt,IsV,slot] at hd;go_simp;try go_bits
    exact hK _ _ rfl (Below.refl _ _)
   case s13 =>
    intro K' a wy ho hd hb hK;simp [Region.binds,rAt,IsV,slot] at hd;go_simp;try go_bits
    exact hK _ _ rfl (Below.refl _ _)
   case s14 =>
    intro K' a wy ho hd hb hK;simp [Region.binds,rAt,IsV,slot] at hd;go_simp;refine (specTwo_any (20+(opts.size:Int)+(data.size:Int)) wy (by omega) (by omega)).mono ?_;rintro e wz ⟨rfl,hz⟩;exact hK _ _ rfl hz
   case s15 =>
    intro K' a wy ho hd hb hK;simp [Region.binds,rAt,IsV,slot] at hd;go_simp;try go_bits
    exact hK _ _ rfl (Below.refl _ _)
   case s16 =>
    intro K' a wy ho hd hb hK;have h3:=ho 1 (by decide);simp [slot] at h3;clear hd;go_simp;try go_bits
    exact hK _ _ rfl (Below.refl _ _)
   case s17 =>
    intro K' a wy ho hd hb hK;simp [Region.binds,rAt,IsV,slot] at hd;obtain ⟨k0,k1,k2,k3,k4,k5,k6,k7,k8,k9,k10⟩:=HK.out wy hb;go_simp;try go_bits
    exact hK _ _ rfl (Below.refl _ _)
   case s18 =>
    intro K' a wy ho hd hb hK;simp [Region.binds,rAt,IsV,slot] at hd;go_simp;refine (specTwo_any id wy (by omega) (by omega)).mono ?_;rintro e wz ⟨rfl,hz⟩;exact hK _ _ rfl hz
   case s19 =>
    intro K' a wy ho hd hb hK;simp [Region.binds,rAt,IsV,slot] at hd;go_simp;try go_bits
    exact hK _ _ rfl (Below.refl _ _)
   case s20 =>
    intro K' a wy ho hd hb hK;have h3:=ho 4 (by decide);simp [slot] at h3;clear hd;go_simp;try go_bits
    exact hK _ _ rfl (Below.refl _ _)
   case s21 =>
    intro K' a wy ho hd hb hK;simp [Region.binds,rAt,IsV,slot] at hd;go_simp;refine (specTwo_any offv wy (by omega) (by omega)).mono ?_;rintro e wz ⟨rfl,hz⟩;exact hK _ _ rfl hz
   case s22 =>
    intro K' a wy ho hd hb hK;simp [Region.binds,rAt,IsV,slot] at hd;go_simp;try go_bits
    exact hK _ _ rfl (Below.refl _ _)
   case s23 =>
    intro K' a wy ho hd hb hK;have h3:=ho 1 (by decide);simp [slot] at h3;clear hd;go_simp;try go_bits
    exact hK _ _ rfl (Below.refl _ _)
   case s24 =>
    intro K' a wy ho hd hb hK;simp [Region.binds,rAt,IsV,slot] at hd;obtain ⟨k0,k1,k2,k3,k4,k5,k6,k7,k8,k9,k10⟩:=HK.out wy hb;go_simp;try go_bits
    exact hK _ _ rfl (Below.refl _ _)
   case s25 =>
    intro K' a wy ho hd hb hK;simp [Region.binds,rAt,IsV,slot] at hd;go_simp;try go_bits
    exact hK _ _ rfl (Below.refl _ _)
   case s26 =>
    intro K' a wy ho hd hb hK;have h3:=ho 1 (by decide);simp [slot] at h3;clear hd;go_simp;try go_bits
    exact hK _ _ rfl (Below.refl _ _)
   case s27 =>
    intro K' a wy ho hd hb hK;simp [Region.binds,rAt,IsV,slot] at hd;obtain ⟨k0,k1,k2,k3,k4,k5,k6,k7,k8,k9,k10⟩:=HK.out wy hb;go_simp;try go_bits
    exact hK _ _ rfl (Below.refl _ _)
   case s28 =>
    intro K' a wy ho hd hb hK;simp [Region.binds,rAt,IsV,slot] at hd;go_simp;try go_bits
    exact hK _ _ rfl (Below.refl _ _)
   case s29 =>
    intro K' a wy ho hd hb hK;simp [Region.binds,rAt,IsV,slot] at hd;go_simp;exact hK _ _ ⟨wy.heap.size,rfl,by simp,by simp⟩ ((Below.refl _ _).alloc (Nat.le_refl _) _)
   case s30 =>
    intro K' a wy ho hd hb hK;simp only [List.forall_mem_singleton,Array.mem_def,List.mem_singleton,forall_eq] at hd;obtain ⟨b,hd1,hd2,hd3⟩ : IsRow (ttl) (proto) (slot a 50) wy:=hd rfl;have hcv:=pair_conv (cap:=2) (by omega) (by omega) hd2 hd3;simp [slot] at hd1;go_simp;try go_bits
    exact hK _ _ rfl (Below.refl _ _)
   case s31 =>
    intro K' a wy ho hd hb hK;simp [Region.binds,rAt,IsV,slot] at hd;go_simp;try go_bits
    exact hK _ _ rfl (Below.refl _ _)
   case s32 =>
    intro K' a wy ho hd hb hK;simp [Region.binds,rAt,IsV,slot] at hd;go_simp;try go_bits
    exact hK _ _ rfl (Below.refl _ _)
  case done =>
   intro X wz hR hz;obtain ⟨x0,x1,x2,x3,x4,x5,x6,⟨b7,x7,-,-⟩,x8,x9,x10,x11,x12,x13,x14,x15,x16,x17,x18,x19,x20,x21,x22,x23,x24,x25,x26,x27,x28,⟨b29,x29,-,-⟩,x30,x31,x32,-⟩:=hR;simp only [IsV] at x0 x1 x2 x3 x4 x5 x6 x8 x9 x10 x11 x12 x13 x14 x15 x16 x17 x18 x19 x20 x21 x22 x23 x24 x25 x26 x27 x28 x30 x31 x32;simp only [putsFrom,x0,x1,x2,x3,x4,x5,x6,x7,x8,x9,x10,x11,x12,x13,x14,x15,x16,x17,x18,x19,x20,x21,x22,x23,x24,x25,x26,x27,x28,x29,x30,x31,x32];clear x0 x1 x2 x3 x4 x5 x6 x7 x8 x9 x10 x11 x12 x13 x14 x15 x16 x17 x18 x19 x20 x21 x22 x23 x24 x25 x26 x27 x28 x29 x30 x31 x32;go_simp;refine hK2 _ _ (hJ _ _ ?_);(repeat apply Exists.intro)
   refine ⟨⟨by rw [HA.out],(Below.refl _ W).drew.trans hz⟩,rfl⟩
 case rest =>
 obtain ⟨rfl,hq⟩:=hcut;have HQ:Hid (Below w.heap.size w wc):=HZ.out.trans (hq.mono HZ.out.size);have KQ:Hid (BoxV4 wc w.heap.size ⟨tos,id,whole,more,off,ttl,proto,src,dst,opts,data⟩):=KZ.out.kept hq;have HK:Hid (∀ wy,Below wc.drew.heap.size wc.drew wy→BoxV4 wy w.heap.size ⟨tos,id,whole,more,off,ttl,proto,src,dst,opts,data⟩):=fun wy hy=>KQ.out.kept ((Below.refl _ wc).drew.trans hy)
 obtain ⟨k0,k1,k2,k3,k4,k5,k6,k7,k8,k9,k10⟩:=KQ.out;go_upto_region 9 with fail
 clear k0 k1 k2 k3 k4 k5 k6 k7 k8 k9 k10;rw [← HB.out];clear HB HA HO HZ KZ;have n0:=twoV_size (65535-sumV (hdA++hdB));have n1:¬ 9223372036854775807 < hdA.size+hdB.size:=by omega
 have n2:¬ 9223372036854775807 < hdA.size+(twoV (65535-sumV (hdA++hdB))).size:=by omega
 have n3:¬ 9223372036854775807 < hdA.size+(twoV (65535-sumV (hdA++hdB))).size+hdB.size:=by omega
 have n4:¬ 9223372036854775807 < hdA.size+(twoV (65535-sumV (hdA++hdB))).size+hdB.size+data.size:=by omega
 clear n0;refine wp_region_growL (Rs:=[IsV (.string hdA),IsV (.string hdA),IsV (.string hdB),IsV (.string (hdA++hdB)),IsV (.int .i64 (sumV (hdA++hdB))),IsV (.int .i64 (65535-sumV (hdA++hdB))),IsV (.string (twoV (65535-sumV (hdA++hdB)))),IsV (.string (hdA++twoV (65535-sumV (hdA++hdB)))),IsV (.string hdB),IsV (.string (hdA++twoV (65535-sumV (hdA++hdB))++hdB)),IsV (.pointer (some ⟨w.heap.size,10,none⟩)),IsV (.string data),IsV (.string (hdA++twoV (65535-sumV (hdA++hdB))++hdB++data)),IsV (.string (hdA++twoV (65535-sumV (hdA++hdB))++hdB++data))]) [61,62,63,64,65,66,67,68,69,70,71,72,73,2] (by kernel_rfl) (by kernel_rfl) rfl ?st ?steps ?done
 case st=>simp [stable_isV,stable_isRow]
 case steps =>
  refine ⟨?s0,?s1,?s2,?s3,?s4,?s5,?s6,?s7,?s8,?s9,?s10,?s11,?s12,?s13,trivial⟩
  case s0 =>
   intro K' a wy ho hd hb hK;have h3:=ho 5 (by decide);simp [slot] at h3;clear hd;go_simp;try go_bits
   exact hK _ _ rfl (Below.refl _ _)
  case s1 =>
   intro K' a wy ho hd hb hK;have h3:=ho 5 (by decide);simp [slot] at h3;clear hd;go_simp;try go_bits
   exact hK _ _ rfl (Below.refl _ _)
  case s2 =>
   intro K' a wy ho hd hb hK;have h3:=ho 6 (by decide);simp [slot] at h3;clear hd;go_simp;try go_bits
   exact hK _ _ rfl (Below.refl _ _)
  case s3 =>
   intro K' a wy ho hd hb hK;simp [Region.binds,rAt,IsV,slot] at hd;go_simp;try go_bits
   exact hK _ _ rfl (Below.refl _ _)
  case s4 =>
   intro K' a wy ho hd hb hK;simp [Region.binds,rAt,IsV,slot] at hd;go_simp;refine (HSum.out wy).mono ?_;rintro e wz ⟨rfl,hz⟩;exact hK _ _ rfl hz
  case s5 =>
   intro K' a wy ho hd hb hK;simp [Region.binds,rAt,IsV,slot] at hd;go_simp;try go_bits
   exact hK _ _ rfl (Below.refl _ _)
  case s6 =>
   intro K' a wy ho hd hb hK;simp [Region.binds,rAt,IsV,slot] at hd;go_simp;refine (specTwo_any (65535-sumV (hdA++hdB)) wy (by omega) (by omega)).mono ?_;rintro e wz ⟨rfl,hz⟩;exact hK _ _ rfl hz
  case s7 =>
   intro K' a wy ho hd hb hK;simp [Region.binds,rAt,IsV,slot] at hd;go_simp;try go_bits
   exact hK _ _ rfl (Below.refl _ _)
  case s8 =>
   intro K' a wy ho hd hb hK;have h3:=ho 6 (by decide);simp [slot] at h3;clear hd;go_simp;try go_bits
   exact hK _ _ rfl (Below.refl _ _)
  case s9 =>
   intro K' a wy ho hd hb hK;simp [Region.binds,rAt,IsV,slot] at hd;go_simp;try go_bits
   exact hK _ _ rfl (Below.refl _ _)
  case s10 =>
   intro K' a wy ho hd hb hK;have h3:=ho 1 (by decide);simp [slot] at h3;clear hd;go_simp;try go_bits
   exact hK _ _ rfl (Below.refl _ _)
  case s11 =>
   intro K' a wy ho hd hb hK;simp [Region.binds,rAt,IsV,slot] at hd;obtain ⟨k0,k1,k2,k3,k4,k5,k6,k7,k8,k9,k10⟩:=HK.out wy hb;go_simp;try go_bits
   exact hK _ _ rfl (Below.refl _ _)
  case s12 =>
   intro K' a wy ho hd hb hK;simp [Region.binds,rAt,IsV,slot] at hd;go_simp;try go_bits
   exact hK _ _ rfl (Below.refl _ _)
  case s13 =>
   intro K' a wy ho hd hb hK;simp [Region.binds,rAt,IsV,slot] at hd;go_simp;try go_bits
   exact hK _ _ rfl (Below.refl _ _)
 case done =>
  intro X wz hR hz;obtain ⟨x0,x1,x2,x3,x4,x5,x6,x7,x8,x9,x10,x11,x12,x13,-⟩:=hR;simp only [IsV] at x0 x1 x2 x3 x4 x5 x6 x7 x8 x9 x10 x11 x12 x13;simp only [putsFrom,x0,x1,x2,x3,x4,x5,x6,x7,x8,x9,x10,x11,x12,x13];clear x0 x1 x2 x3 x4 x5 x6 x7 x8 x9 x10 x11 x12 x13;go_simp;go_wp2_with fail
  go_ret;exact ⟨by rw [HV.out]; rfl,HQ.out.trans (((Below.refl _ wc).drew.trans hz).mono HQ.out.size)⟩
end Go.Proofs.Ytagbhaalmjpkjaa
