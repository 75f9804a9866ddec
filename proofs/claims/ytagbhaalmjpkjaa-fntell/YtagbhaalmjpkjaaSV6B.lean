import Derived.Test.YtagbhaalmjpkjaaSmV
import Derived.Test.YtagbhaalmjpkjaaMerged9
import Derived.Test.YtagbhaalmjpkjaaSV4B
set_option linter.unusedVariables false
set_option linter.unusedSimpArgs false
set_option maxRecDepth 100000
set_option maxHeartbeats 8000000
namespace Go.Proofs.Ytagbhaalmjpkjaa
open Go.RowKit Go.PlainAid
theorem specV6Raw_any (p:P6) (w:World) (hok:v6Ok p=true) :
  Calls Try.prog 55 #[p6C p] w fun e w'=>e=.returned (.string (v6Raw p))∧Below w.heap.size w w':=by
 obtain ⟨a1,a2,a3,a4,a5,a6,a7,hp⟩:=v6Ok_parts hok;have HV:Hid (v6Raw p=twoV (firstN p / 65536)++twoV (firstN p % 65536)++twoV ((restV p).size:Int)++pairV (if p.piece then 44 else p.next) p.hops++p.src++p.dst++restV p):=rfl;have HR:Hid (restV p=if p.piece then pairV p.next 0++twoV (8*p.off+if p.more then 1 else 0)++twoV (p.id / 65536)++twoV (p.id % 65536)++p.data else p.data):=rfl;have hf:=firstN_bits p a1 a4;have hf2:0≤firstN p∧firstN p≤4294967295:=by unfold firstN; omega
 have hr:(restV p).size≤1500:=by rw [HR.out]; split<;>(try simp only [ByteArray.size_append,pairV_size,twoV_size])<;>omega
 generalize firstN p=f at *;generalize restV p=rest at *;generalize v6Raw p=raw at *;clear hok;obtain ⟨cls,flow,next,hops,src,dst,piece,more,off,id,data⟩:=p;unfold p6C;dsimp only at *;have HZ:Hid (Below w.heap.size w (w.alloc (.cells #[.int .i64 cls,.int .i64 flow,.int .i64 next,.int .i64 hops,.string src,.string dst,.bool piece,.bool more,.int .i64 off,.int .i64 id,.string data] 43))):=(Below.refl _ _).alloc (Nat.le_refl _) _;have KZ:Hid (BoxV6 (w.alloc (.cells #[.int .i64 cls,.int .i64 flow,.int .i64 next,.int .i64 hops,.string src,.string dst,.bool piece,.bool more,.int .i64 off,.int .i64 id,.string data] 43)) w.heap.size ⟨cls,flow,next,hops,src,dst,piece,more,off,id,data⟩):=BoxV6.new w ⟨cls,flow,next,hops,src,dst,piece,more,off,id,data⟩;obtain ⟨nx,hnx⟩ : ∃ nx:Int,nx=if piece then 44 else next:=⟨_,rfl⟩;have hnx2:0≤nx∧nx≤255:=by rw [hnx]; split<;>omega
 rw [← hnx] at HV;have HN:Hid (nx=if piece then 44 else next):=hnx;clear hnx;go_enter Try.func55,Try.ntmps55
 go_upto_if 19 with fail
 clear hf;generalize w.alloc (.cells #[.int .i64 cls,.int .i64 flow,.int .i64 next,.int .i64 hops,.string src,.string dst,.bool piece,.bool more,.int .i64 off,.int .i64 id,.string data] 43)=W at *;obtain ⟨k0,k1,k2,k3,k4,k5,k6,k7,k8,k9,k10⟩:=KZ.out;go_cut [4,5] (fun v u wx=>v=.int .i64 nx∧u=.string rest∧Below W.heap.size W wx)
 case first =>
  cases piece with
  | false =>
   have e1:nx=next:=HN.out;have e2:rest=data:=HR.out;subst e1 e2;clear HV HR HN hp;go_wp2_with fail
   go_meet;exact ⟨rfl,rfl,Below.refl _ _⟩
  | true =>
   have e1:nx=44:=HN.out;subst e1;obtain ⟨p1,p2,p3⟩:=hp rfl;clear hp HN HV;obtain ⟨off8,ho8⟩ : ∃ o:Int,o=8*off+if more then 1 else 0:=⟨_,rfl⟩;have HO:Hid (off8=8*off+if more then 1 else 0):=ho8;have o8:0≤off8∧off8≤65535:=by rw [ho8]; split<;>omega
   have HR2:Hid (rest=pairV next 0++twoV off8++twoV (id / 65536)++twoV (id % 65536)++data):=by rw [ho8]; exact HR.out
   clear ho8 HR;go_upto_if 24 with fail
   go_cut [6] (fun v wx=>v=.int .i64 off8∧W=wx)
   case first =>
    replace HO:=HO.out
    cases more;all_goals simp at HO
    all_goals subst HO
    all_goals go_wp2_with fail
    all_goals go_meet
    all_goals exact ⟨by simp,rfl⟩
   case rest =>
   obtain ⟨rfl,rfl⟩:=hcut;clear HO;have m1:=mask16 id (by omega) (by omega);have HK:Hid (∀ wy,Below W.drew.heap.size W.drew wy→BoxV6 wy w.heap.size ⟨cls,flow,next,hops,src,dst,true,more,off,id,data⟩):=fun wy hy=>KZ.out.kept ((Below.refl _ W).drew.trans hy)
   have n1:¬ 9223372036854775807 < (pairV next 0).size+(twoV off8).size+(twoV (id / 65536)).size+(twoV (id % 65536)).size+data.size:=by simp only [pairV_size,twoV_size]; omega
   go_upto_region 8 with fail
   clear k0 k1 k2 k3 k4 k5 k6 k7 k8 k9 k10;go_cut [5] (fun v wx=>v=.string rest∧Below W.heap.size W wx)
   case first =>
    rename_i J K2 hJ hK2;refine wp_region_growL (Rs:=[IsV (.pointer (some ⟨w.heap.size,2,none⟩)),IsV (.int .i64 next),IsV (.int .u8 next),IsRow (next) (0),IsV (.string (pairV next 0)),IsV (.int .i64 off8),IsV (.string (twoV off8)),IsV (.string (pairV next 0++twoV off8)),IsV (.pointer (some ⟨w.heap.size,9,none⟩)),IsV (.int .i64 id),IsV (.int .i64 (id / 65536)),IsV (.string (twoV (id / 65536))),IsV (.string (pairV next 0++twoV off8++twoV (id / 65536))),IsV (.pointer (some ⟨w.heap.size,9,none⟩)),IsV (.int .i64 id),IsV (.int .i64 (id % 65536)),IsV (.string (twoV (id % 65536))),IsV (.string (pairV next 0++twoV off8++twoV (id / 65536)++twoV (id % 65536))),IsV (.pointer (some ⟨w.heap.size,10,none⟩)),IsV (.string data),IsV (.string (pairV next 0++twoV off8++twoV (id / 65536)++twoV (id % 65536)++data)),IsV (.string (pairV next 0++twoV off8++twoV (id / 65536)++twoV (id % 65536)++data))]) [27,28,29,30,31,32,33,34,35,36,37,38,39,40,41,42,43,44,45,46,47,5] (by kernel_rfl) (by kernel_rfl) rfl ?st ?steps ?done
    case st=>simp [stable_isV,stable_isRow]
    case steps =>
     refine ⟨?s0,?s1,?s2,?s3,?s4,?s5,?s6,?s7,?s8,?s9,?s10,?s11,?s12,?s13,?s14,?s15,?s16,?s17,?s18,?s19,?s20,?s21,trivial⟩
     case s0 =>
      intro K' a wy ho hd hb hK;have h3:=ho 1 (by decide);simp [slot] at h3;clear hd;go_simp;try go_bits
      exact hK _ _ rfl (Below.refl _ _)
     case s1 =>
      intro K' a wy ho hd hb hK;simp [Region.binds,rAt,IsV,slot] at hd;obtain ⟨k0,k1,k2,k3,k4,k5,k6,k7,k8,k9,k10⟩:=HK.out wy hb;go_simp;try go_bits
      exact hK _ _ rfl (Below.refl _ _)
     case s2 =>
      intro K' a wy ho hd hb hK;simp [Region.binds,rAt,IsV,slot] at hd;go_simp;try go_bits
      exact hK _ _ rfl (Below.refl _ _)
     case s3 =>
      intro K' a wy ho hd hb hK;simp [Region.binds,rAt,IsV,slot] at hd;go_simp;exact hK _ _ ⟨wy.heap.size,rfl,by simp,by simp⟩ ((Below.refl _ _).alloc (Nat.le_refl _) _)
     case s4 =>
      intro K' a wy ho hd hb hK;simp only [List.forall_mem_singleton,Array.mem_def,List.mem_singleton,forall_eq] at hd;obtain ⟨b,hd1,hd2,hd3⟩ : IsRow (next) (0) (slot a 30) wy:=hd rfl;have hcv:=pair_conv (cap:=2) (by omega) (by omega) hd2 hd3;simp [slot] at hd1;go_simp;try go_bits
      exact hK _ _ rfl (Below.refl _ _)
     case s5 =>
      intro K' a wy ho hd hb hK;have h3:=ho 6 (by decide);simp [slot] at h3;clear hd;go_simp;try go_bits
      exact hK _ _ rfl (Below.refl _ _)
     case s6 =>
      intro K' a wy ho hd hb hK;simp [Region.binds,rAt,IsV,slot] at hd;go_simp;refine (specTwo_any (off8) wy (by omega) (by omega)).mono ?_;rintro e wz ⟨rfl,hz⟩;exact hK _ _ rfl hz
     case s7 =>
      intro K' a wy ho hd hb hK;simp [Region.binds,rAt,IsV,slot] at hd;go_simp;try go_bits
      exact hK _ _ rfl (Below.refl _ _)
     case s8 =>
      intro K' a wy ho hd hb hK;have h3:=ho 1 (by decide);simp [slot] at h3;clear hd;go_simp;try go_bits
      exact hK _ _ rfl (Below.refl _ _)
     case s9 =>
      intro K' a wy ho hd hb hK;simp [Region.binds,rAt,IsV,slot] at hd;obtain ⟨k0,k1,k2,k3,k4,k5,k6,k7,k8,k9,k10⟩:=HK.out wy hb;go_simp;try go_bits
      exact hK _ _ rfl (Below.refl _ _)
     case s10 =>
      intro K' a wy ho hd hb hK;simp [Region.binds,rAt,IsV,slot] at hd;go_simp;try go_bits
      exact hK _ _ rfl (Below.refl _ _)
     case s11 =>
      intro K' a wy ho hd hb hK;simp [Region.binds,rAt,IsV,slot] at hd;go_simp;refine (specTwo_any (id / 65536) wy (by omega) (by omega)).mono ?_;rintro e wz ⟨rfl,hz⟩;exact hK _ _ rfl hz
     case s12 =>
      intro K' a wy ho hd hb hK;simp [Region.binds,rAt,IsV,slot] at hd;go_simp;try go_bits
      exact hK _ _ rfl (Below.refl _ _)
     case s13 =>
      intro K' a wy ho hd hb hK;have h3:=ho 1 (by decide);simp [slot] at h3;clear hd;go_simp;try go_bits
      exact hK _ _ rfl (Below.refl _ _)
     case s14 =>
      intro K' a wy ho hd hb hK;simp [Region.binds,rAt,IsV,slot] at hd;obtain ⟨k0,k1,k2,k3,k4,k5,k6,k7,k8,k9,k10⟩:=HK.out wy hb;go_simp;try go_bits
      exact hK _ _ rfl (Below.refl _ _)
     case s15 =>
      intro K' a wy ho hd hb hK;simp [Region.binds,rAt,IsV,slot] at hd;go_simp;try go_bits
      exact hK _ _ rfl (Below.refl _ _)
     case s16 =>
      intro K' a wy ho hd hb hK;simp [Region.binds,rAt,IsV,slot] at hd;go_simp;refine (specTwo_any (id % 65536) wy (by omega) (by omega)).mono ?_;rintro e wz ⟨rfl,hz⟩;exact hK _ _ rfl hz
     case s17 =>
      intro K' a wy ho hd hb hK;simp [Region.binds,rAt,IsV,slot] at hd;go_simp;try go_bits
      exact hK _ _ rfl (Below.refl _ _)
     case s18 =>
      intro K' a wy ho hd hb hK;have h3:=ho 1 (by decide);simp [slot] at h3;clear hd;go_simp;try go_bits
      exact hK _ _ rfl (Below.refl _ _)
     case s19 =>
      intro K' a wy ho hd hb hK;simp [Region.binds,rAt,IsV,slot] at hd;obtain ⟨k0,k1,k2,k3,k4,k5,k6,k7,k8,k9,k10⟩:=HK.out wy hb;go_simp;try go_bits
      exact hK _ _ rfl (Below.refl _ _)
     case s20 =>
      intro K' a wy ho hd hb hK;simp [Region.binds,rAt,IsV,slot] at hd;go_simp;try go_bits
      exact hK _ _ rfl (Below.refl _ _)
     case s21 =>
      intro K' a wy ho hd hb hK;simp [Region.binds,rAt,IsV,slot] at hd;go_simp;try go_bits
      exact hK _ _ rfl (Below.refl _ _)
    case done =>
     intro X wz hR hz;obtain ⟨x0,x1,x2,⟨b3,x3,-,-⟩,x4,x5,x6,x7,x8,x9,x10,x11,x12,x13,x14,x15,x16,x17,x18,x19,x20,x21,-⟩:=hR;simp only [IsV] at x0 x1 x2 x4 x5 x6 x7 x8 x9 x10 x11 x12 x13 x14 x15 x16 x17 x18 x19 x20 x21;simp only [putsFrom,x0,x1,x2,x3,x4,x5,x6,x7,x8,x9,x10,x11,x12,x13,x14,x15,x16,x17,x18,x19,x20,x21];clear x0 x1 x2 x3 x4 x5 x6 x7 x8 x9 x10 x11 x12 x13 x14 x15 x16 x17 x18 x19 x20 x21;go_simp;refine hK2 _ _ (hJ _ _ ?_);(repeat apply Exists.intro)
     refine ⟨⟨by rw [HR2.out],(Below.refl _ W).drew.trans hz⟩,rfl⟩
   case rest =>
   obtain ⟨rfl,hq⟩:=hcut;go_wp2_with fail
   go_meet;exact ⟨rfl,rfl,hq⟩
 case rest =>
 obtain ⟨rfl,rfl,hq⟩:=hcut;have HQ:Hid (Below w.heap.size w wc):=HZ.out.trans (hq.mono HZ.out.size);have KQ:Hid (BoxV6 wc w.heap.size ⟨cls,flow,next,hops,src,dst,piece,more,off,id,data⟩):=KZ.out.kept hq;have HK:Hid (∀ wy,Below wc.drew.heap.size wc.drew wy→BoxV6 wy w.heap.size ⟨cls,flow,next,hops,src,dst,piece,more,off,id,data⟩):=fun wy hy=>KQ.out.kept ((Below.refl _ wc).drew.trans hy)
 clear k0 k1 k2 k3 k4 k5 k6 k7 k8 k9 k10 hp HR HN;have m1:=mask16 f (by omega) (by omega);have s1:=twoV_size (f / 65536);have s2:=twoV_size (f % 65536);have s3:=twoV_size (rest.size:Int);have s4:=pairV_size nx hops;have n1:¬ 9223372036854775807 < 40+rest.size:=by omega
 go_upto_region 10 with fail
 clear HZ KZ;refine wp_region_growL (Rs:=[IsV (.int .i64 f),IsV (.int .i64 (f / 65536)),IsV (.string (twoV (f / 65536))),IsV (.int .i64 f),IsV (.int .i64 (f % 65536)),IsV (.string (twoV (f % 65536))),IsV (.string (twoV (f / 65536)++twoV (f % 65536))),IsV (.string rest),IsV (.int .i64 (rest.size:Int)),IsV (.string (twoV (rest.size:Int))),IsV (.string (twoV (f / 65536)++twoV (f % 65536)++twoV (rest.size:Int))),IsV (.int .i64 nx),IsV (.int .u8 nx),IsV (.pointer (some ⟨w.heap.size,3,none⟩)),IsV (.int .i64 hops),IsV (.int .u8 hops),IsRow (nx) (hops),IsV (.string (pairV nx hops)),IsV (.string (twoV (f / 65536)++twoV (f % 65536)++twoV (rest.size:Int)++pairV nx hops)),IsV (.pointer (some ⟨w.heap.size,4,none⟩)),IsV (.string src),IsV (.string (twoV (f / 65536)++twoV (f % 65536)++twoV (rest.size:Int)++pairV nx hops++src)),IsV (.pointer (some ⟨w.heap.size,5,none⟩)),IsV (.string dst),IsV (.string (twoV (f / 65536)++twoV (f % 65536)++twoV (rest.size:Int)++pairV nx hops++src++dst)),IsV (.string rest),IsV (.string (twoV (f / 65536)++twoV (f % 65536)++twoV (rest.size:Int)++pairV nx hops++src++dst++rest)),IsV (.string (twoV (f / 65536)++twoV (f % 65536)++twoV (rest.size:Int)++pairV nx hops++src++dst++rest))]) [48,49,50,51,52,53,54,55,56,57,58,59,60,61,62,63,64,65,66,67,68,69,70,71,72,73,74,2] (by kernel_rfl) (by kernel_rfl) rfl ?st ?steps ?done
 case st=>simp [stable_isV,stable_isRow]
 case steps =>
  refine ⟨?s0,?s1,?s2,?s3,?s4,?s5,?s6,?s7,?s8,?s9,?s10,?s11,?s12,?s13,?s14,?s15,?s16,?s17,?s18,?s19,?s20,?s21,?s22,?s23,?s24,?s25,?s26,?s27,trivial⟩
  case s0 =>
   intro K' a wy ho hd hb hK;have h3:=ho 3 (by decide);simp [slot] at h3;clear hd;go_simp;try go_bits
   exact hK _ _ rfl (Below.refl _ _)
  case s1 =>
   intro K' a wy ho hd hb hK;simp [Region.binds,rAt,IsV,slot] at hd;go_simp;try go_bits
   exact hK _ _ rfl (Below.refl _ _)
  case s2 =>
   intro K' a wy ho hd hb hK;simp [Region.binds,rAt,IsV,slot] at hd;go_simp;refine (specTwo_any (f / 65536) wy (by omega) (by omega)).mono ?_;rintro e wz ⟨rfl,hz⟩;exact hK _ _ rfl hz
  case s3 =>
   intro K' a wy ho hd hb hK;have h3:=ho 3 (by decide);simp [slot] at h3;clear hd;go_simp;try go_bits
   exact hK _ _ rfl (Below.refl _ _)
  case s4 =>
   intro K' a wy ho hd hb hK;simp [Region.binds,rAt,IsV,slot] at hd;go_simp;try go_bits
   exact hK _ _ rfl (Below.refl _ _)
  case s5 =>
   intro K' a wy ho hd hb hK;simp [Region.binds,rAt,IsV,slot] at hd;go_simp;refine (specTwo_any (f % 65536) wy (by omega) (by omega)).mono ?_;rintro e wz ⟨rfl,hz⟩;exact hK _ _ rfl hz
  case s6 =>
   intro K' a wy ho hd hb hK;simp [Region.binds,rAt,IsV,slot] at hd;go_simp;try go_bits
   exact hK _ _ rfl (Below.refl _ _)
  case s7 =>
   intro K' a wy ho hd hb hK;have h3:=ho 5 (by decide);simp [slot] at h3;clear hd;go_simp;try go_bits
   exact hK _ _ rfl (Below.refl _ _)
  case s8 =>
   intro K' a wy ho hd hb hK;simp [Region.binds,rAt,IsV,slot] at hd;go_simp;try go_bits
   exact hK _ _ rfl (Below.refl _ _)
  case s9 =>
   intro K' a wy ho hd hb hK;simp [Region.binds,rAt,IsV,slot] at hd;go_simp;refine (specTwo_any ((rest.size:Int)) wy (by omega) (by omega)).mono ?_;rintro e wz ⟨rfl,hz⟩;exact hK _ _ rfl hz
  case s10 =>
   intro K' a wy ho hd hb hK;simp [Region.binds,rAt,IsV,slot] at hd;go_simp;try go_bits
   exact hK _ _ rfl (Below.refl _ _)
  case s11 =>
   intro K' a wy ho hd hb hK;have h3:=ho 4 (by decide);simp [slot] at h3;clear hd;go_simp;try go_bits
   exact hK _ _ rfl (Below.refl _ _)
  case s12 =>
   intro K' a wy ho hd hb hK;simp [Region.binds,rAt,IsV,slot] at hd;go_simp;try go_bits
   exact hK _ _ rfl (Below.refl _ _)
  case s13 =>
   intro K' a wy ho hd hb hK;have h3:=ho 1 (by decide);simp [slot] at h3;clear hd;go_simp;try go_bits
   exact hK _ _ rfl (Below.refl _ _)
  case s14 =>
   intro K' a wy ho hd hb hK;simp [Region.binds,rAt,IsV,slot] at hd;obtain ⟨k0,k1,k2,k3,k4,k5,k6,k7,k8,k9,k10⟩:=HK.out wy hb;go_simp;try go_bits
   exact hK _ _ rfl (Below.refl _ _)
  case s15 =>
   intro K' a wy ho hd hb hK;simp [Region.binds,rAt,IsV,slot] at hd;go_simp;try go_bits
   exact hK _ _ rfl (Below.refl _ _)
  case s16 =>
   intro K' a wy ho hd hb hK;simp [Region.binds,rAt,IsV,slot] at hd;go_simp;exact hK _ _ ⟨wy.heap.size,rfl,by simp,by simp⟩ ((Below.refl _ _).alloc (Nat.le_refl _) _)
  case s17 =>
   intro K' a wy ho hd hb hK;simp only [List.forall_mem_singleton,Array.mem_def,List.mem_singleton,forall_eq] at hd;obtain ⟨b,hd1,hd2,hd3⟩ : IsRow (nx) (hops) (slot a 64) wy:=hd rfl;have hcv:=pair_conv (cap:=2) (by omega) (by omega) hd2 hd3;simp [slot] at hd1;go_simp;try go_bits
   exact hK _ _ rfl (Below.refl _ _)
  case s18 =>
   intro K' a wy ho hd hb hK;simp [Region.binds,rAt,IsV,slot] at hd;go_simp;try go_bits
   exact hK _ _ rfl (Below.refl _ _)
  case s19 =>
   intro K' a wy ho hd hb hK;have h3:=ho 1 (by decide);simp [slot] at h3;clear hd;go_simp;try go_bits
   exact hK _ _ rfl (Below.refl _ _)
  case s20 =>
   intro K' a wy ho hd hb hK;simp [Region.binds,rAt,IsV,slot] at hd;obtain ⟨k0,k1,k2,k3,k4,k5,k6,k7,k8,k9,k10⟩:=HK.out wy hb;go_simp;try go_bits
   exact hK _ _ rfl (Below.refl _ _)
  case s21 =>
   intro K' a wy ho hd hb hK;simp [Region.binds,rAt,IsV,slot] at hd;go_simp;try go_bits
   exact hK _ _ rfl (Below.refl _ _)
  case s22 =>
   intro K' a wy ho hd hb hK;have h3:=ho 1 (by decide);simp [slot] at h3;clear hd;go_simp;try go_bits
   exact hK _ _ rfl (Below.refl _ _)
  case s23 =>
   intro K' a wy ho hd hb hK;simp [Region.binds,rAt,IsV,slot] at hd;obtain ⟨k0,k1,k2,k3,k4,k5,k6,k7,k8,k9,k10⟩:=HK.out wy hb;go_simp;try go_bits
   exact hK _ _ rfl (Below.refl _ _)
  case s24 =>
   intro K' a wy ho hd hb hK;simp [Region.binds,rAt,IsV,slot] at hd;go_simp;try go_bits
   exact hK _ _ rfl (Below.refl _ _)
  case s25 =>
   intro K' a wy ho hd hb hK;have h3:=ho 5 (by decide);simp [slot] at h3;clear hd;go_simp;try go_bits
   exact hK _ _ rfl (Below.refl _ _)
  case s26 =>
   intro K' a wy ho hd hb hK;simp [Region.binds,rAt,IsV,slot] at hd;go_simp;try go_bits
   exact hK _ _ rfl (Below.refl _ _)
  case s27 =>
   intro K' a wy ho hd hb hK;simp [Region.binds,rAt,IsV,slot] at hd;go_simp;try go_bits
   exact hK _ _ rfl (Below.refl _ _)
 case done =>
  intro X wz hR hz;obtain ⟨x0,x1,x2,x3,x4,x5,x6,x7,x8,x9,x10,x11,x12,x13,x14,x15,⟨b16,x16,-,-⟩,x17,x18,x19,x20,x21,x22,x23,x24,x25,x26,x27,-⟩:=hR;simp only [IsV] at x0 x1 x2 x3 x4 x5 x6 x7 x8 x9 x10 x11 x12 x13 x14 x15 x17 x18 x19 x20 x21 x22 x23 x24 x25 x26 x27;simp only [putsFrom,x0,x1,x2,x3,x4,x5,x6,x7,x8,x9,x10,x11,x12,x13,x14,x15,x16,x17,x18,x19,x20,x21,x22,x23,x24,x25,x26,x27];clear x0 x1 x2 x3 x4 x5 x6 x7 x8 x9 x10 x11 x12 x13 x14 x15 x16 x17 x18 x19 x20 x21 x22 x23 x24 x25 x26 x27;go_simp;go_wp2_with fail
  go_ret;exact ⟨by rw [HV.out]; rfl,HQ.out.trans (((Below.refl _ wc).drew.trans hz).mono HQ.out.size)⟩
theorem specV6Bytes_sm (p:P6) (w:World) (hs:P6Sm p) (hw:P6Wf p) :
  Calls Try.prog 20 #[p6C p] w fun e w'=>e=.returned (.string (v6BytesV p))∧Below w.heap.size w w':=by
 have HR:Hid (∀ W,Calls Try.prog 19 #[p6C p] W fun e w'=>e=.returned (.bool (v6Ok p))∧Below W.heap.size W w'):=fun W=>specV6Right_sm p W hs hw
 have HC:Hid (v6Ok p=true→∀ W,Calls Try.prog 55 #[p6C p] W fun e w'=>e=.returned (.string (v6Raw p))∧Below W.heap.size W w'):=fun h W=>specV6Raw_any p W h
 have HV:Hid (v6BytesV p=if v6Ok p then v6Raw p else ⟨#[]⟩):=rfl;generalize v6BytesV p=ans at *;generalize v6Raw p=raw at *;generalize v6Ok p=ok at *;clear hs hw;obtain ⟨cls,flow,next,hops,src,dst,piece,more,off,id,data⟩:=p;unfold p6C at *;dsimp only at *;have HZ:Hid (Below w.heap.size w (w.alloc (.cells #[.int .i64 cls,.int .i64 flow,.int .i64 next,.int .i64 hops,.string src,.string dst,.bool piece,.bool more,.int .i64 off,.int .i64 id,.string data] 43))):=(Below.refl _ _).alloc (Nat.le_refl _) _;have KZ:Hid (BoxV6 (w.alloc (.cells #[.int .i64 cls,.int .i64 flow,.int .i64 next,.int .i64 hops,.string src,.string dst,.bool piece,.bool more,.int .i64 off,.int .i64 id,.string data] 43)) w.heap.size ⟨cls,flow,next,hops,src,dst,piece,more,off,id,data⟩):=BoxV6.new w ⟨cls,flow,next,hops,src,dst,piece,more,off,id,data⟩
 cases ok with
 | false =>
  have HV:Hid (ans=⟨#[]⟩):=HV.out;go_enter Try.func20,Try.ntmps20
  go_wp2_with fail
  refine (HR.out _).mono ?_;rintro e w1 ⟨rfl,q1⟩;go_wp2_with fail
  go_ret;exact ⟨by rw [HV.out]; rfl,HZ.out.trans (q1.mono HZ.out.size)⟩
 | true =>
  have HV:Hid (ans=raw):=HV.out;replace HC:=HC.out rfl;have HC:Hid _:=HC;go_enter Try.func20,Try.ntmps20
  go_wp2_with fail
  refine (HR.out _).mono ?_;rintro e w1 ⟨rfl,q1⟩;have HQ:Hid (Below w.heap.size w w1):=HZ.out.trans (q1.mono HZ.out.size);obtain ⟨k0,k1,k2,k3,k4,k5,k6,k7,k8,k9,k10⟩:=KZ.out.kept q1;clear q1;go_wp2_with fail
  refine (HC.out _).mono ?_;rintro e w2 ⟨rfl,q2⟩;go_wp2_with fail
  go_ret;exact ⟨by rw [HV.out]; rfl,HQ.out.trans (q2.mono HQ.out.size)⟩
end Go.Proofs.Ytagbhaalmjpkjaa
