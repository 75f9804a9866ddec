import Derived.Test.YtdkepkaflielhaaGreatDoorMerged9
import Derived.Test.YtdkepkaflielhaaGreatDoorMerged11
import Derived.Test.YtdkepkaflielhaaGreatDoorMerged3
set_option linter.unusedVariables false
set_option linter.unusedSimpArgs false
set_option maxRecDepth 100000
set_option maxHeartbeats 8000000
namespace Go.Proofs.YtdkepkaflielhaaGreatDoor
open Go.RowKit Go.PlainAid
def rZ(x y:Int):Value→World→Prop:=fun v w=>∃b,v=.slice (some ⟨b,0,none⟩) 4 4∧w.cell? ⟨b,0,none⟩=some (.int .u8 x)∧w.cell? ⟨b,1,none⟩=some (.int .u8 0)∧w.cell? ⟨b,2,none⟩=some (.int .u8 0)∧w.cell? ⟨b,3,none⟩=some (.int .u8 y)
theorem qH(x y:Int):eZ (rZ x y):=fun v w w' ⟨b,h1,h2,h3,h4,h5⟩ hb=>by
 have hlt:=US w _ h2;exact⟨b,h1,((iO hb).1 b 0 hlt).trans h2,((iO hb).1 b 1 hlt).trans h3,((iO hb).1 b 2 hlt).trans h4,((iO hb).1 b 3 hlt).trans h5⟩
theorem wU{w:World}{b cap:Nat}{x y:Int}(hx:0≤x∧x≤255)(hy:0≤y∧y≤255)(h0:w.cell? ⟨b,0,none⟩=some (.int .u8 x))(h1:w.cell? ⟨b,1,none⟩=some (.int .u8 0))(h2:w.cell? ⟨b,2,none⟩=some (.int .u8 0))(h3:w.cell? ⟨b,3,none⟩=some (.int .u8 y)) :
  (convert 22 9 (.slice (some ⟨b,0,none⟩) 4 cap)).run Tryz.prog w=.ok (.string (pB x y)) w :=
 run_convert_bytes_back (P:=Tryz.prog) w 22 9 5 ⟨b,0,none⟩ cap [UInt8.ofNat x.toNat,0,0,UInt8.ofNat y.toNat] Tryz.underlying22 Tryz.underlying5 Tryz.underlying9 (by
  intro j hj;match j,hj with
  | 0,_=>simp only[Addr.add,Nat.add_zero,UZ];rw[fM _ hx.1 hx.2];exact h0
  | 1,_=>simp only[Addr.add,UI,List.getElem_cons_succ,UZ];exact h1
  | 2,_=>simp only[Addr.add,UI,List.getElem_cons_succ,UZ];exact h2
  | 3,_=>simp only[Addr.add,UI,List.getElem_cons_succ,UZ];rw[fM _ hy.1 hy.2];exact h3)
theorem BM(s d:BA)(p:Int)(n:Nat)(w:World)(hs:s.size≤16)(hd:d.size≤16)(hp:0≤p∧p≤255)(hn:n≤65535) :
  Cb 71 #[.string s,.string d,iV p,iV n] w (.string (aQ s d p n)):=by
 have hun:undef=Value.tuple #[]:=rfl;have n1:¬9223372036854775807 < s.size+d.size:=by omega
 have z1:=nB 0 p;have z2:=aP (n:Int);by_cases h1:p=1∧s.size=4
 ·obtain⟨rfl,h4⟩:=h1;have d4:((s.size:Int)==4)=true:=by simp;omega
  have HV:Hid (aQ s d 1 n=⟨#[]⟩):=by unfold Hid aQ;rw[if_pos ⟨rfl,h4⟩]
  generalize aQ s d 1 n=ans at *;clear h4;go_enter Tryz.func71,Tryz.ntmps71
  go_wp2_with fail
  go_ret;exact⟨by rw[HV.out];rfl,Below.refl _ _⟩
 by_cases h4:s.size=4
 ·have d4:((s.size:Int)==4)=true:=by simp;omega
  have d1:(p==1)=false:=by simp;exact fun e=>h1 ⟨e,h4⟩
  have HZ:Hid (aQ s d p n=s++d++kG 0 p++aR (n:Int)):=by unfold Hid aQ;rw[if_neg h1,if_pos h4]
  generalize aQ s d p n=ans at *;clear h1 h4;have n2:¬9223372036854775807 < s.size+d.size+(kG 0 p).size:=by omega
  have n3:¬9223372036854775807 < s.size+d.size+(kG 0 p).size+(aR (n:Int)).size:=by omega
  have n2b:¬9223372036854775807 < s.size+d.size+2:=by omega
  have n3b:¬9223372036854775807 < s.size+d.size+2+2:=by omega
  go_enter Tryz.func71,Tryz.ntmps71
  go_upto_region 4 with fail
  go_cut [8] (fun v wx=>v=.string ans∧Below w.heap.size w wx)
  case first=>
   rename_i J K2 hJ hK2;clear hun;refine dG (Rs:=[aG (.string s),aG (.string d),aG (.string (s++d)),aG (iV p),aG (.int .u8 p),tX (0) (p),aG (.string (kG 0 p)),aG (.string (s++d++kG 0 p)),aG (iV (n:Int)),aG (.string (aR (n:Int))),aG (.string (s++d++kG 0 p++aR (n:Int))),aG (.string (s++d++kG 0 p++aR (n:Int)))]) [19,20,21,22,23,24,25,26,27,28,29,8] (by kernel_rfl) (by kernel_rfl) rfl ?st ?steps ?done
   case st=>simp[cF,kU]
   case steps=>
    refine⟨?s0,?s1,?s2,?s3,?s4,?s5,?s6,?s7,?s8,?s9,?s10,?s11,trivial⟩
    case s0=>
     intro K' a wy ho hd hb hK;have h3:=ho 0 (by decide);simp[aD]at h3;clear hd;go_simp;try go_bits
     exact hK _ _ rfl bR
    case s1=>
     intro K' a wy ho hd hb hK;have h3:=ho 1 (by decide);simp[aD]at h3;clear hd;go_simp;try go_bits
     exact hK _ _ rfl bR
    case s2=>
     intro K' a wy ho hd hb hK;simp[Region.binds,aU,aG,aD]at hd;go_simp;try go_bits
     exact hK _ _ rfl bR
    case s3=>
     intro K' a wy ho hd hb hK;have h3:=ho 2 (by decide);simp[aD]at h3;clear hd;go_simp;try go_bits
     exact hK _ _ rfl bR
    case s4=>
     intro K' a wy ho hd hb hK;simp[Region.binds,aU,aG,aD]at hd;go_simp;try go_bits
     exact hK _ _ rfl bR
    case s5=>
     intro K' a wy ho hd hb hK;simp[Region.binds,aU,aG,aD]at hd;go_simp;exact hK _ _ ⟨wy.heap.size,rfl,by simp,by simp⟩ (bR.alloc lR _)
    case s6=>
     intro K' a wy ho hd hb hK;simp only[List.forall_mem_singleton,Array.mem_def,List.mem_singleton,forall_eq]at hd;obtain⟨b,hd1,hd2,hd3⟩: tX (0) (p) (aD a 24) wy:=hd rfl;have hcv:=tM (cap:=2) (by omega) (by omega) hd2 hd3;simp[aD]at hd1;go_simp;try go_bits
     exact hK _ _ rfl bR
    case s7=>
     intro K' a wy ho hd hb hK;simp[Region.binds,aU,aG,aD]at hd;go_simp;try go_bits
     exact hK _ _ rfl bR
    case s8=>
     intro K' a wy ho hd hb hK;have h3:=ho 3 (by decide);simp[aD]at h3;clear hd;go_simp;try go_bits
     exact hK _ _ rfl bR
    case s9=>
     intro K' a wy ho hd hb hK;simp[Region.binds,aU,aG,aD]at hd;go_simp;refine(bY (n:Int) wy (by omega) (by omega)).mono ?_;rintro e wz ⟨rfl,hz⟩;exact hK _ _ rfl hz
    case s10=>
     intro K' a wy ho hd hb hK;simp[Region.binds,aU,aG,aD]at hd;go_simp;try go_bits
     exact hK _ _ rfl bR
    case s11=>
     intro K' a wy ho hd hb hK;simp[Region.binds,aU,aG,aD]at hd;go_simp;try go_bits
     exact hK _ _ rfl bR
   case done=>
    intro X wz hR hz;obtain⟨x0,x1,x2,x3,x4,⟨b5,x5,-,-⟩,x6,x7,x8,x9,x10,x11,-⟩:=hR;simp only[aG]at x0 x1 x2 x3 x4 x6 x7 x8 x9 x10 x11;simp only[aE,x0,x1,x2,x3,x4,x5,x6,x7,x8,x9,x10,x11];clear x0 x1 x2 x3 x4 x5 x6 x7 x8 x9 x10 x11;go_simp;refine hK2 _ _ (hJ _ _ ?_);(repeat apply Exists.intro)
    refine⟨⟨by rw[HZ.out],(Below.refl _ w).drew.trans hz⟩,rfl⟩
  case rest=>
  obtain⟨rfl,hb⟩:=hcut;go_wp2_with fail
  go_ret;exact⟨rfl,hb⟩
 ·have d4:((s.size:Int)==4)=false:=by simp;omega
  have HZ:Hid (aQ s d p n=s++d++aR ((n:Int) / 65536)++aR ((n:Int) % 65536)++pB 0 p):=by unfold Hid aQ;rw[if_neg h1,if_neg h4]
  generalize aQ s d p n=ans at *;clear h1;have a1:=qL (n:Int);have n2:¬9223372036854775807 < s.size+d.size+(aR ((n:Int) / 65536)).size:=by rw[aP];omega
  have n3:¬9223372036854775807 < s.size+d.size+(aR ((n:Int) / 65536)).size+(aR ((n:Int) % 65536)).size:=by rw[aP,aP];omega
  have n4:¬9223372036854775807 < s.size+d.size+(aR ((n:Int) / 65536)).size+(aR ((n:Int) % 65536)).size+(pB 0 p).size:=by rw[aP,aP,wV];omega
  by_cases dp:p=1
  ·have d1:(p==1)=true:=by simp[dp]
   clear dp;go_enter Tryz.func71,Tryz.ntmps71
   go_upto_region 5 with fail
   go_cut [8] (fun v wx=>v=.string ans∧Below w.heap.size w wx)
   case first=>
    rename_i J K2 hJ hK2;clear hun;refine dG (Rs:=[aG (.string s),aG (.string d),aG (.string (s++d)),aG (iV (n:Int)),aG (iV ((n:Int) / 65536)),aG (.string (aR ((n:Int) / 65536))),aG (.string (s++d++aR ((n:Int) / 65536))),aG (iV (n:Int)),aG (iV ((n:Int) % 65536)),aG (.string (aR ((n:Int) % 65536))),aG (.string (s++d++aR ((n:Int) / 65536)++aR ((n:Int) % 65536))),aG (iV p),aG (.int .u8 p),rZ (0) (p),aG (.string (pB 0 p)),aG (.string (s++d++aR ((n:Int) / 65536)++aR ((n:Int) % 65536)++pB 0 p)),aG (.string (s++d++aR ((n:Int) / 65536)++aR ((n:Int) % 65536)++pB 0 p))]) [30,31,32,33,34,35,36,37,38,39,40,41,42,43,44,45,8] (by kernel_rfl) (by kernel_rfl) rfl ?st ?steps ?done
    case st=>simp[cF,qH]
    case steps=>
     refine⟨?s0,?s1,?s2,?s3,?s4,?s5,?s6,?s7,?s8,?s9,?s10,?s11,?s12,?s13,?s14,?s15,?s16,trivial⟩
     case s0=>
      intro K' a wy ho hd hb hK;have h3:=ho 0 (by decide);simp[aD]at h3;clear hd;go_simp;try go_bits
      exact hK _ _ rfl bR
     case s1=>
      intro K' a wy ho hd hb hK;have h3:=ho 1 (by decide);simp[aD]at h3;clear hd;go_simp;try go_bits
      exact hK _ _ rfl bR
     case s2=>
      intro K' a wy ho hd hb hK;simp[Region.binds,aU,aG,aD]at hd;go_simp;try go_bits
      exact hK _ _ rfl bR
     case s3=>
      intro K' a wy ho hd hb hK;have h3:=ho 3 (by decide);simp[aD]at h3;clear hd;go_simp;try go_bits
      exact hK _ _ rfl bR
     case s4=>
      intro K' a wy ho hd hb hK;simp[Region.binds,aU,aG,aD]at hd;go_simp;try go_bits
      exact hK _ _ rfl bR
     case s5=>
      intro K' a wy ho hd hb hK;simp[Region.binds,aU,aG,aD]at hd;go_simp;refine(bY ((n:Int) / 65536) wy (by omega) (by omega)).mono ?_;rintro e wz ⟨rfl,hz⟩;exact hK _ _ rfl hz
     case s6=>
      intro K' a wy ho hd hb hK;simp[Region.binds,aU,aG,aD]at hd;go_simp;try go_bits
      exact hK _ _ rfl bR
     case s7=>
      intro K' a wy ho hd hb hK;have h3:=ho 3 (by decide);simp[aD]at h3;clear hd;go_simp;try go_bits
      exact hK _ _ rfl bR
     case s8=>
      intro K' a wy ho hd hb hK;simp[Region.binds,aU,aG,aD]at hd;go_simp;try go_bits
      exact hK _ _ rfl bR
     case s9=>
      intro K' a wy ho hd hb hK;simp[Region.binds,aU,aG,aD]at hd;go_simp;refine(bY ((n:Int) % 65536) wy (by omega) (by omega)).mono ?_;rintro e wz ⟨rfl,hz⟩;exact hK _ _ rfl hz
     case s10=>
      intro K' a wy ho hd hb hK;simp[Region.binds,aU,aG,aD]at hd;go_simp;try go_bits
      exact hK _ _ rfl bR
     case s11=>
      intro K' a wy ho hd hb hK;have h3:=ho 2 (by decide);simp[aD]at h3;clear hd;go_simp;try go_bits
      exact hK _ _ rfl bR
     case s12=>
      intro K' a wy ho hd hb hK;simp[Region.binds,aU,aG,aD]at hd;go_simp;try go_bits
      exact hK _ _ rfl bR
     case s13=>
      intro K' a wy ho hd hb hK;simp[Region.binds,aU,aG,aD]at hd;go_simp;exact hK _ _ ⟨wy.heap.size,rfl,by simp,by simp,by simp,by simp⟩ (bR.alloc lR _)
     case s14=>
      intro K' a wy ho hd hb hK;simp only[List.forall_mem_singleton,Array.mem_def,List.mem_singleton,forall_eq]at hd;obtain⟨b,hd1,hd2,hd3,hd4,hd5⟩: rZ (0) (p) (aD a 43) wy:=hd rfl;have hcv:=wU (cap:=4) (by omega) (by omega) hd2 hd3 hd4 hd5;simp[aD]at hd1;go_simp;try go_bits
      exact hK _ _ rfl bR
     case s15=>
      intro K' a wy ho hd hb hK;simp[Region.binds,aU,aG,aD]at hd;go_simp;try go_bits
      exact hK _ _ rfl bR
     case s16=>
      intro K' a wy ho hd hb hK;simp[Region.binds,aU,aG,aD]at hd;go_simp;try go_bits
      exact hK _ _ rfl bR
    case done=>
     intro X wz hR hz;obtain⟨x0,x1,x2,x3,x4,x5,x6,x7,x8,x9,x10,x11,x12,⟨b13,x13,-,-,-,-⟩,x14,x15,x16,-⟩:=hR;simp only[aG]at x0 x1 x2 x3 x4 x5 x6 x7 x8 x9 x10 x11 x12 x14 x15 x16;simp only[aE,x0,x1,x2,x3,x4,x5,x6,x7,x8,x9,x10,x11,x12,x13,x14,x15,x16];clear x0 x1 x2 x3 x4 x5 x6 x7 x8 x9 x10 x11 x12 x13 x14 x15 x16;go_simp;refine hK2 _ _ (hJ _ _ ?_);(repeat apply Exists.intro)
     refine⟨⟨by rw[HZ.out],(Below.refl _ w).drew.trans hz⟩,rfl⟩
   case rest=>
   obtain⟨rfl,hb⟩:=hcut;go_wp2_with fail
   go_ret;exact⟨rfl,hb⟩
  ·have d1:(p==1)=false:=by simp[dp]
   go_enter Tryz.func71,Tryz.ntmps71
   go_upto_region 5 with fail
   go_cut [8] (fun v wx=>v=.string ans∧Below w.heap.size w wx)
   case first=>
    rename_i J K2 hJ hK2;clear hun;refine dG (Rs:=[aG (.string s),aG (.string d),aG (.string (s++d)),aG (iV (n:Int)),aG (iV ((n:Int) / 65536)),aG (.string (aR ((n:Int) / 65536))),aG (.string (s++d++aR ((n:Int) / 65536))),aG (iV (n:Int)),aG (iV ((n:Int) % 65536)),aG (.string (aR ((n:Int) % 65536))),aG (.string (s++d++aR ((n:Int) / 65536)++aR ((n:Int) % 65536))),aG (iV p),aG (.int .u8 p),rZ (0) (p),aG (.string (pB 0 p)),aG (.string (s++d++aR ((n:Int) / 65536)++aR ((n:Int) % 65536)++pB 0 p)),aG (.string (s++d++aR ((n:Int) / 65536)++aR ((n:Int) % 65536)++pB 0 p))]) [30,31,32,33,34,35,36,37,38,39,40,41,42,43,44,45,8] (by kernel_rfl) (by kernel_rfl) rfl ?st ?steps ?done
    case st=>simp[cF,qH]
    case steps=>
     refine⟨?s0,?s1,?s2,?s3,?s4,?s5,?s6,?s7,?s8,?s9,?s10,?s11,?s12,?s13,?s14,?s15,?s16,trivial⟩
     case s0=>
      intro K' a wy ho hd hb hK;have h3:=ho 0 (by decide);simp[aD]at h3;clear hd;go_simp;try go_bits
      exact hK _ _ rfl bR
     case s1=>
      intro K' a wy ho hd hb hK;have h3:=ho 1 (by decide);simp[aD]at h3;clear hd;go_simp;try go_bits
      exact hK _ _ rfl bR
     case s2=>
      intro K' a wy ho hd hb hK;simp[Region.binds,aU,aG,aD]at hd;go_simp;try go_bits
      exact hK _ _ rfl bR
     case s3=>
      intro K' a wy ho hd hb hK;have h3:=ho 3 (by decide);simp[aD]at h3;clear hd;go_simp;try go_bits
      exact hK _ _ rfl bR
     case s4=>
      intro K' a wy ho hd hb hK;simp[Region.binds,aU,aG,aD]at hd;go_simp;try go_bits
      exact hK _ _ rfl bR
     case s5=>
      intro K' a wy ho hd hb hK;simp[Region.binds,aU,aG,aD]at hd;go_simp;refine(bY ((n:Int) / 65536) wy (by omega) (by omega)).mono ?_;rintro e wz ⟨rfl,hz⟩;exact hK _ _ rfl hz
     case s6=>
      intro K' a wy ho hd hb hK;simp[Region.binds,aU,aG,aD]at hd;go_simp;try go_bits
      exact hK _ _ rfl bR
     case s7=>
      intro K' a wy ho hd hb hK;have h3:=ho 3 (by decide);simp[aD]at h3;clear hd;go_simp;try go_bits
      exact hK _ _ rfl bR
     case s8=>
      intro K' a wy ho hd hb hK;simp[Region.binds,aU,aG,aD]at hd;go_simp;try go_bits
      exact hK _ _ rfl bR
     case s9=>
      intro K' a wy ho hd hb hK;simp[Region.binds,aU,aG,aD]at hd;go_simp;refine(bY ((n:Int) % 65536) wy (by omega) (by omega)).mono ?_;rintro e wz ⟨rfl,hz⟩;exact hK _ _ rfl hz
     case s10=>
      intro K' a wy ho hd hb hK;simp[Region.binds,aU,aG,aD]at hd;go_simp;try go_bits
      exact hK _ _ rfl bR
     case s11=>
      intro K' a wy ho hd hb hK;have h3:=ho 2 (by decide);simp[aD]at h3;clear hd;go_simp;try go_bits
      exact hK _ _ rfl bR
     case s12=>
      intro K' a wy ho hd hb hK;simp[Region.binds,aU,aG,aD]at hd;go_simp;try go_bits
      exact hK _ _ rfl bR
     case s13=>
      intro K' a wy ho hd hb hK;simp[Region.binds,aU,aG,aD]at hd;go_simp;exact hK _ _ ⟨wy.heap.size,rfl,by simp,by simp,by simp,by simp⟩ (bR.alloc lR _)
     case s14=>
      intro K' a wy ho hd hb hK;simp only[List.forall_mem_singleton,Array.mem_def,List.mem_singleton,forall_eq]at hd;obtain⟨b,hd1,hd2,hd3,hd4,hd5⟩: rZ (0) (p) (aD a 43) wy:=hd rfl;have hcv:=wU (cap:=4) (by omega) (by omega) hd2 hd3 hd4 hd5;simp[aD]at hd1;go_simp;try go_bits
      exact hK _ _ rfl bR
     case s15=>
      intro K' a wy ho hd hb hK;simp[Region.binds,aU,aG,aD]at hd;go_simp;try go_bits
      exact hK _ _ rfl bR
     case s16=>
      intro K' a wy ho hd hb hK;simp[Region.binds,aU,aG,aD]at hd;go_simp;try go_bits
      exact hK _ _ rfl bR
    case done=>
     intro X wz hR hz;obtain⟨x0,x1,x2,x3,x4,x5,x6,x7,x8,x9,x10,x11,x12,⟨b13,x13,-,-,-,-⟩,x14,x15,x16,-⟩:=hR;simp only[aG]at x0 x1 x2 x3 x4 x5 x6 x7 x8 x9 x10 x11 x12 x14 x15 x16;simp only[aE,x0,x1,x2,x3,x4,x5,x6,x7,x8,x9,x10,x11,x12,x13,x14,x15,x16];clear x0 x1 x2 x3 x4 x5 x6 x7 x8 x9 x10 x11 x12 x13 x14 x15 x16;go_simp;refine hK2 _ _ (hJ _ _ ?_);(repeat apply Exists.intro)
     refine⟨⟨by rw[HZ.out],(Below.refl _ w).drew.trans hz⟩,rfl⟩
   case rest=>
   obtain⟨rfl,hb⟩:=hcut;go_wp2_with fail
   go_ret;exact⟨rfl,hb⟩
theorem EH(p:Int)(w:World) :
  Cw 74 #[iV p] w (iV (bI p:Nat)):=by
 by_cases h1:p=6
 ·subst h1;go_enter Tryz.func74,Tryz.ntmps74
  go_wp2_with fail
  go_ret;exact⟨rfl,rfl⟩
 ·have d1:(p==6)=false:=by simp[h1]
  by_cases h2:p=17
  ·subst h2;go_enter Tryz.func74,Tryz.ntmps74
   go_wp2_with fail
   go_ret;exact⟨rfl,rfl⟩
  ·have d2:(p==17)=false:=by simp[h2]
   have HV:Hid (bI p=2):=by unfold Hid bI;rw[if_neg h1,if_neg h2]
   generalize bI p=ans at *;go_enter Tryz.func74,Tryz.ntmps74
   go_wp2_with fail
   go_ret;exact⟨aK (by rw[HV.out];rfl),rfl⟩
theorem qT(s:BA)(k:Nat)(t:BA)(w:World)(h:k+t.size≤s.size)(hs:s.size≤100000) :
  Cb 72 #[.string s,iV k,.string t] w (.string (eG s k t)):=by
 have HV:Hid (eG s k t=s.extract 0 k++t++s.extract (k+t.size) s.size):=rfl;generalize eG s k t=ans at *;have L1:∀W,(Instr.slice 9 (.string s) none (some (iV k)) none).run Tryz.prog W=.ok (.string (s.extract 0 k)) W:=fun W=>by
  rw[run_slice_string_h (P:=Tryz.prog) (t:=9) (s:=s) (w:=W) (ht:=Tryz.underlying9) .i64 (k:Int) (by omega) (by omega),show ((k:Int)).toNat=k by omega]
 have L2:∀W,(Instr.slice 9 (.string s) (some (iV ((k:Int)+t.size))) none none).run Tryz.prog W=.ok (.string (s.extract (k+t.size) s.size)) W:=fun W=>by
  rw[run_slice_string_l (P:=Tryz.prog) (t:=9) (s:=s) (w:=W) (ht:=Tryz.underlying9) .i64 ((k:Int)+t.size) (by omega) (by omega),show ((k:Int)+t.size).toNat=k+t.size by omega]
 have z1:(s.extract 0 k).size=k:=by rw[UR];omega
 have z2:(s.extract (k+t.size) s.size).size=s.size-(k+t.size):=by rw[UR];omega
 generalize s.extract 0 k=u1 at *;generalize s.extract (k+t.size) s.size=u2 at *;have n1:¬9223372036854775807 < u1.size+t.size:=by omega
 have n2:¬9223372036854775807 < u1.size+t.size+u2.size:=by omega
 have hw:IntKind.i64.wrap ((k:Int)+t.size)=(k:Int)+t.size:=by rw[IntKind.wrap_i64];omega
 have HZ1:Hid (u1.size=k):=z1;have HZ2:Hid (u2.size=s.size-(k+t.size)):=z2;clear z1 z2;go_enter Tryz.func72,Tryz.ntmps72
 go_wp2_with fail
 go_region
 all_goals go_wp2_with fail
 all_goals go_ret
 all_goals exact⟨by rw[HV.out];rfl,bR.drew⟩
theorem xN(t:BA)(l h:Nat)(W:World)(h1:l≤h)(h2:h≤t.size):(Instr.slice 9 (.string t) (some (iV l)) (some (iV h)) none).run Tryz.prog W=.ok (.string (t.extract l h)) W:=by
 have:=run_slice_string (P:=Tryz.prog) W 9 t .i64 .i64 (l:Int) (h:Int) Tryz.underlying9 (by omega) (by omega) (by omega);simpa using this
theorem xG(f:Fl)(t:BA)(w:World)(hs:f.src.size≤16)(hd:f.dst.size≤16)(hp:0≤f.VF∧f.VF≤255)(ht:t.size≤65535)(h8:8≤t.size) :
  Cb 76 #[gF f,.string t] w (.string (eI f t)):=by
 have HB1:Hid (∀W,Cw 44 #[iV f.VF] W (.bool (aL f.VF))):=fun W=>kE _ W
 have HB2:Hid (∀W,Cb 71 #[.string f.src,.string f.dst,iV f.VF,iV t.size] W (.string (aQ f.src f.dst f.VF t.size))):=fun W=>BM _ _ _ _ W hs hd hp ht
 have HV:Hid (eI f t=(if aL f.VF=true then t.extract 0 2++t.extract 4 6 else t.extract 0 4)++aQ f.src f.dst f.VF t.size):=rfl;have hz:=mI f.src f.dst f.VF t.size hs hd;have L1:∀W,(Instr.slice 9 (.string t) none (some (iV 4)) none).run Tryz.prog W=.ok (.string (t.extract 0 4)) W:=fun W=>run_slice_string_h (P:=Tryz.prog) (t:=9) (s:=t) (w:=W) (ht:=Tryz.underlying9) .i64 (4:Int) (by omega) (by omega)
 have L2:∀W,(Instr.slice 9 (.string t) none (some (iV 2)) none).run Tryz.prog W=.ok (.string (t.extract 0 2)) W:=fun W=>run_slice_string_h (P:=Tryz.prog) (t:=9) (s:=t) (w:=W) (ht:=Tryz.underlying9) .i64 (2:Int) (by omega) (by omega)
 have L3:∀W,(Instr.slice 9 (.string t) (some (iV 4)) (some (iV 6)) none).run Tryz.prog W=.ok (.string (t.extract 4 6)) W:=fun W=>xN t 4 6 W (by omega) (by omega)
 have z1:(t.extract 0 4).size=4:=by rw[UR];omega
 have z2:(t.extract 0 2).size=2:=by rw[UR];omega
 have z3:(t.extract 4 6).size=2:=by rw[UR];omega
 generalize t.extract 0 4=u1 at *;generalize t.extract 0 2=u2 at *;generalize t.extract 4 6=u3 at *;generalize aQ f.src f.dst f.VF t.size=ps at *;generalize eI f t=ans at *;have n1:¬9223372036854775807 < u2.size+u3.size:=by omega
 have n2:¬9223372036854775807 < u1.size+ps.size:=by omega
 have n3:¬9223372036854775807 < u2.size+u3.size+ps.size:=by omega
 have n4:¬9223372036854775807 < (u2++u3).size+ps.size:=by rw[UQ];omega
 have KF:Hid (jR (w.alloc (.cells (gH f).toArray 43)) w.heap.size f):=jR.new w f;have HZ:Hid (Below w.heap.size w (w.alloc (.cells (gH f).toArray 43))):=bR.alloc lR _;generalize aL f.VF=b at *;obtain⟨VF,src,dst,sp,dp⟩:=f;unfold gF;dsimp only at *
 cases b with
 | false=>
  replace HV:Hid (ans=u1++ps):=HV.out;go_enter Tryz.func76,Tryz.ntmps76
  go_wp2_with fail
  refine(HB1.out _).mono ?_;rintro e w2 ⟨rfl,rfl⟩;go_wp2_with fail
  refine(HB2.out _).mono ?_;rintro e w3 ⟨rfl,q3⟩;have G3:Hid _:=HZ.out.trans (q3.mono HZ.out.size);clear q3;go_wp2_with fail
  go_ret;exact⟨by rw[HV.out];rfl,G3.out⟩
 | true=>
  replace HV:Hid (ans=u2++u3++ps):=HV.out;go_enter Tryz.func76,Tryz.ntmps76
  go_wp2_with fail
  refine(HB1.out _).mono ?_;rintro e w2 ⟨rfl,rfl⟩;go_wp2_with fail
  go_region
  all_goals go_wp2_with fail
  all_goals refine(HB2.out _).mono ?_
  all_goals rintro e w3 ⟨rfl,q3⟩
  all_goals have G3:Hid (Below w.heap.size w w3):=HZ.out.drew.trans (q3.mono HZ.out.size)
  all_goals clear q3
  all_goals go_wp2_with fail
  all_goals go_ret
  all_goals exact⟨by rw[HV.out];rfl,G3.out⟩
structure vW(w:World)(f g:Fl)(W:World):Prop where
 bf:jR W w.heap.size f
 bg:jR W (w.heap.size+1) g
 c0:W.cell? ⟨w.heap.size+1+1,0,none⟩=some eS
 f0:W.frozen? ⟨w.heap.size+1+1,0,none⟩=false
 c1:W.cell? ⟨w.heap.size+1+1,1,none⟩=some (iV 0)
 f1:W.frozen? ⟨w.heap.size+1+1,1,none⟩=false
 gr:Below w.heap.size w W
theorem vW.kept{w W W':World}{f g:Fl}(h:vW w f g W)(q:Below W.heap.size W W'):vW w f g W':=by
 have hb:=US W _ h.c0;obtain⟨hc,hf⟩:=iO q;exact⟨h.bf.kept q,h.bg.kept q,(hc _ 0 hb).trans h.c0,(hf _ 0 hb).trans h.f0,(hc _ 1 hb).trans h.c1,(hf _ 1 hb).trans h.f1,h.gr.trans (q.mono h.gr.size)⟩
theorem vW.new(w:World)(f g:Fl):vW w f g (((w.alloc (.cells (gH f).toArray 43)).alloc (.cells (gH g).toArray 43)).alloc (.cells #[eS,iV 0] 55)):=by
 have q1:∀(W:World) o,Below W.heap.size W (W.alloc o):=fun W o=>bR.alloc lR _
 have h0:Below w.heap.size w ((w.alloc (.cells (gH f).toArray 43)).alloc (.cells (gH g).toArray 43)):=(bR.alloc lR _).alloc (by simp) _;have z1:∀(W:World) o,(W.alloc o).heap.size=W.heap.size+1:=fun W o=>by simp
 have h1:=((jR.new w f (t:=43)).kept (q1 _ (.cells (gH g).toArray 43))).kept (q1 _ (.cells #[eS,iV 0] 55));have h2:=(jR.new (w.alloc (.cells (gH f).toArray 43)) g (t:=43)).kept (q1 _ (.cells #[eS,iV 0] 55));rw[z1]at h2;have z3:((w.alloc (.cells (gH f).toArray 43)).alloc (.cells (gH g).toArray 43)).heap.size=w.heap.size+1+1:=by rw[z1,z1]
 generalize (w.alloc (.cells (gH f).toArray 43)).alloc (.cells (gH g).toArray 43)=V at *;refine⟨h1,h2,by rw[←z3];exact bZ rfl,by rw[←z3];simp,by rw[←z3];exact bZ rfl,by rw[←z3];simp,h0.trans ((q1 V _).mono h0.size)⟩
def LM(x:Int):Value→World→Prop:=fun v w=>∃b,v=.slice (some ⟨b,0,none⟩) 1 1∧w.cell? ⟨b,0,none⟩=some (.int .u8 x)
theorem BR(x:Int):eZ (LM x):=fun v w w' ⟨b,h1,h2⟩ hb=>⟨b,h1,((iO hb).1 b 0 (US w _ h2)).trans h2⟩
theorem KK{w:World}{b cap:Nat}{x:Int}(hx:0≤x∧x≤255)(h0:w.cell? ⟨b,0,none⟩=some (.int .u8 x)) :
  (convert 22 9 (.slice (some ⟨b,0,none⟩) 1 cap)).run Tryz.prog w=.ok (.string (lP x)) w :=
 run_convert_bytes_back (P:=Tryz.prog) w 22 9 5 ⟨b,0,none⟩ cap [UInt8.ofNat x.toNat] Tryz.underlying22 Tryz.underlying5 Tryz.underlying9 (by
  intro j hj;match j,hj with
  | 0,_=>simp only[Addr.add,Nat.add_zero,UZ];rw[fM _ hx.1 hx.2];exact h0)
theorem wS(f:Fl)(t:BA)(hs:f.src.size≤16)(hd:f.dst.size≤16):(eI f t).size≤44:=by
 have h:=mI f.src f.dst f.VF t.size hs hd;unfold eI;split
 ·simp only[UQ,UR];omega
 ·simp only[UQ,UR];omega
theorem zJ(f g:Fl)(t:BA)(w:World)(ht:t.size≤20000)(h8:8≤t.size)(hp:f.VF=6→20≤t.size)(fs:f.src.size≤16∧f.dst.size≤16)(gs:g.src.size≤16∧g.dst.size≤16)(fp:0≤f.VF∧f.VF≤255)(gp:0≤g.VF∧g.VF≤255)(gw:(0≤g.sp∧g.sp≤65535)∧(0≤g.dp∧g.dp≤65535)) :
  Cb 45 #[gF f,gF g,.string t] w (if fQ f t=true then (if g.src.size=16 then iS ⟨#[]⟩ 5 else iS (bX f g t) 0) else iS (eG (bX f g t) (bI f.VF) (aR (dB f g t))) 0):=by
 have HT1:Hid (∀W,Cb 73 #[iV g.sp] W (.string (aR g.sp))):=fun W=>bY _ W gw.1.1 gw.1.2
 have HT2:Hid (∀W,Cb 73 #[iV g.dp] W (.string (aR g.dp))):=fun W=>bY _ W gw.2.1 gw.2.2
 have hz:(aR g.sp++aR g.dp).size=4:=by rw[UQ];rfl
 have HP1:Hid (∀W,Cb 72 #[.string t,iV 0,.string (aR g.sp++aR g.dp)] W (.string (eG t 0 (aR g.sp++aR g.dp)))):=fun W=>qT t 0 _ W (by omega) (by omega)
 have HE:Hid (∀W,Cw 44 #[iV f.VF] W (.bool (aL f.VF))):=fun W=>kE _ W
 have KW:Hid (vW w f g (((w.alloc (.cells (gH f).toArray 43)).alloc (.cells (gH g).toArray 43)).alloc (.cells #[eS,iV 0] 55))):=vW.new w f g;have n1:¬9223372036854775807 < (aR g.sp).size+(aR g.dp).size:=by rw[aP,aP];omega
 have z1:=aP g.sp;have z2:=aP g.dp;generalize hans:(if fQ f t=true then (if g.src.size=16 then iS ⟨#[]⟩ 5 else iS (bX f g t) 0) else iS (eG (bX f g t) (bI f.VF) (aR (dB f g t))) 0)=ans;have HA:Hid _:=hans;clear hans;obtain⟨VF,src,dst,sp,dp⟩:=f;obtain⟨proto',src',dst',sp',dp'⟩:=g;unfold gF;dsimp only at *;go_enter Tryz.func45,Tryz.ntmps45
 go_upto_region 1 with fail
 go_cut [7] (fun v wx=>v=.string (eG t 0 (aR sp'++aR dp'))∧vW w ⟨VF,src,dst,sp,dp⟩ ⟨proto',src',dst',sp',dp'⟩ wx)
 case first=>
  rename_i J K2 hJ hK2;refine dG (Rs:=[aG (.string t),aG (.pointer (some ⟨w.heap.size+1,3,none⟩)),aG (iV sp'),aG (.string (aR sp')),aG (.pointer (some ⟨w.heap.size+1,4,none⟩)),aG (iV dp'),aG (.string (aR dp')),aG (.string (aR sp'++aR dp')),aG (.string (eG t 0 (aR sp'++aR dp'))),aG (.string (eG t 0 (aR sp'++aR dp')))]) [12,13,14,15,16,17,18,19,20,7] (by kernel_rfl) (by kernel_rfl) rfl ?st ?steps ?done
  case st=>simp[cF,kU]
  case steps=>
   refine⟨?s0,?s1,?s2,?s3,?s4,?s5,?s6,?s7,?s8,?s9,trivial⟩
   case s0=>
    intro K' a wy ho hd hb hK;have h3:=ho 2 (by decide);simp[aD]at h3;clear hd;go_simp;try go_bits
    exact hK _ _ rfl bR
   case s1=>
    intro K' a wy ho hd hb hK;have h3:=ho 4 (by decide);simp[aD]at h3;clear hd;go_simp;try go_bits
    exact hK _ _ rfl bR
   case s2=>
    intro K' a wy ho hd hb hK;simp[Region.binds,aU,aG,aD]at hd;obtain⟨k0,y0,k1,y1,k2,y2,k3,y3,k4,y4⟩:=(KW.out.kept (Below.trans bR.drew hb)).bg;go_simp;try go_bits
    exact hK _ _ rfl bR
   case s3=>
    intro K' a wy ho hd hb hK;simp[Region.binds,aU,aG,aD]at hd;go_simp;refine(HT1.out wy).mono ?_;rintro e wz ⟨rfl,hz⟩;exact hK _ _ rfl hz
   case s4=>
    intro K' a wy ho hd hb hK;have h3:=ho 4 (by decide);simp[aD]at h3;clear hd;go_simp;try go_bits
    exact hK _ _ rfl bR
   case s5=>
    intro K' a wy ho hd hb hK;simp[Region.binds,aU,aG,aD]at hd;obtain⟨k0,y0,k1,y1,k2,y2,k3,y3,k4,y4⟩:=(KW.out.kept (Below.trans bR.drew hb)).bg;go_simp;try go_bits
    exact hK _ _ rfl bR
   case s6=>
    intro K' a wy ho hd hb hK;simp[Region.binds,aU,aG,aD]at hd;go_simp;refine(HT2.out wy).mono ?_;rintro e wz ⟨rfl,hz⟩;exact hK _ _ rfl hz
   case s7=>
    intro K' a wy ho hd hb hK;simp[Region.binds,aU,aG,aD]at hd;go_simp;try go_bits
    exact hK _ _ rfl bR
   case s8=>
    intro K' a wy ho hd hb hK;simp[Region.binds,aU,aG,aD]at hd;go_simp;refine(HP1.out wy).mono ?_;rintro e wz ⟨rfl,hz⟩;exact hK _ _ rfl hz
   case s9=>
    intro K' a wy ho hd hb hK;simp[Region.binds,aU,aG,aD]at hd;go_simp;try go_bits
    exact hK _ _ rfl bR
  case done=>
   intro X wz hR hz;simp only[UM,UN,eY,aG]at hR;simp only[aE,hR];clear hR;go_simp;refine hK2 _ _ (hJ _ _ ?_);(repeat apply Exists.intro)
   refine⟨⟨rfl,KW.out.kept (bR.drew.trans hz)⟩,rfl⟩
 case rest=>
 obtain⟨rfl,hKW⟩:=hcut;have KW1:Hid _:=hKW;clear hKW KW HT2 HP1 n1;have HO:Hid (bX ⟨VF,src,dst,sp,dp⟩ ⟨proto',src',dst',sp',dp'⟩ t=if aL VF=true then eG (eG t 0 (lP (lK ⟨VF,src,dst,sp,dp⟩ ⟨proto',src',dst',sp',dp'⟩ t))) 4 (aR sp') else eG t 0 (aR sp'++aR dp')):=rfl;have HNC:Hid (dB ⟨VF,src,dst,sp,dp⟩ ⟨proto',src',dst',sp',dp'⟩ t=if 65535-gE (gE (65535-aM (bt t) (bI VF)) (65535-bN (eI ⟨VF,src,dst,sp,dp⟩ t))) (bN (eI ⟨proto',src',dst',sp',dp'⟩ (bX ⟨VF,src,dst,sp,dp⟩ ⟨proto',src',dst',sp',dp'⟩ t)))=0 then 65535 else 65535-gE (gE (65535-aM (bt t) (bI VF)) (65535-bN (eI ⟨VF,src,dst,sp,dp⟩ t))) (bN (eI ⟨proto',src',dst',sp',dp'⟩ (bX ⟨VF,src,dst,sp,dp⟩ ⟨proto',src',dst',sp',dp'⟩ t)))):=rfl;have hoz:(bX ⟨VF,src,dst,sp,dp⟩ ⟨proto',src',dst',sp',dp'⟩ t).size=t.size:=by
  rw[HO.out];have q1:∀x,(eG t 0 (lP x)).size=t.size:=fun x=>eR (by rw[show (lP x).size=1 from rfl];omega)
  split
  ·rw[eR (by rw[q1,z1];omega),q1]
  ·exact eR (by omega)
 have HF:Hid (lK ⟨VF,src,dst,sp,dp⟩ ⟨proto',src',dst',sp',dp'⟩ t=if VF≠proto' then (if bt t 0=8 then 128 else if bt t 0=0 then 129 else if bt t 0=128 then 8 else 0) else bt t 0):=rfl;generalize bX ⟨VF,src,dst,sp,dp⟩ ⟨proto',src',dst',sp',dp'⟩ t=out at *;generalize lK ⟨VF,src,dst,sp,dp⟩ ⟨proto',src',dst',sp',dp'⟩ t=fi at *;obtain⟨k0,y0,k1,y1,k2,y2,k3,y3,k4,y4⟩:=KW1.out.bf;dsimp only at k0 k1 k2 k3 k4;go_wp2_with fail
 refine(HE.out _).mono ?_;rintro e w2 ⟨rfl,rfl⟩;go_upto_if 23 with fail
 go_cut [7] (fun v wx=>v=.string out∧vW w ⟨VF,src,dst,sp,dp⟩ ⟨proto',src',dst',sp',dp'⟩ wx)
 case first=>
  clear HA HNC HE
  cases a:aL VF with
  | false=>
   replace HO:Hid (out=eG t 0 (aR sp'++aR dp')):=by unfold Hid;rw[HO.out,if_neg (by rw[a];decide)]
   go_wp2_with fail
   go_meet;exact⟨by rw[HO.out],KW1.out⟩
  | true=>
   replace HO:Hid (out=eG (eG t 0 (lP fi)) 4 (aR sp')):=by unfold Hid;rw[HO.out,if_pos a]
   obtain⟨j0,x0,j1,x1,j2,x2,j3,x3,j4,x4⟩:=KW1.out.bg;dsimp only at j0 j1 j2 j3 j4;have hb:=get_bt t;have b0:=bH t 0;have hfi:0≤fi∧fi≤255:=by
    rw[HF.out];split
    ·split
     ·omega
     ·split
      ·omega
      ·split<;>omega
    ·exact b0
   go_upto_if 30 with fail
   go_cut [8] (fun v wx=>v=.int .u8 fi∧wx=w2)
   case first=>
    clear HO;by_cases e1:VF=proto'
    ·have d1:(VF != proto')=false:=by simp[e1]
     have hB:fi=bt t 0:=by rw[HF.out,if_neg (by simp[e1])]
     clear HF e1;subst hB;go_wp2_with fail
     go_meet;exact⟨rfl,rfl⟩
    ·have d1:(VF != proto')=true:=by simp[e1]
     have hB:fi=(if bt t 0=8 then 128 else if bt t 0=0 then 129 else if bt t 0=128 then 8 else 0):=by rw[HF.out,if_pos e1]
     clear HF e1;by_cases c1:bt t 0=8
     ·have d2:(bt t 0==8)=true:=by simp[c1]
      rw[if_pos c1]at hB;clear c1;subst hB;go_wp2_with fail
      go_meet;exact⟨rfl,rfl⟩
     ·have d2:(bt t 0==8)=false:=by simp[c1]
      rw[if_neg c1]at hB;by_cases c2:bt t 0=0
      ·have d3:(bt t 0==0)=true:=by simp[c2]
       rw[if_pos c2]at hB;clear c1 c2;subst hB;go_wp2_with fail
       go_meet;exact⟨rfl,rfl⟩
      ·have d3:(bt t 0==0)=false:=by simp[c2]
       rw[if_neg c2]at hB;by_cases c3:bt t 0=128
       ·have d4:(bt t 0==128)=true:=by simp[c3]
        rw[if_pos c3]at hB;clear c1 c2 c3;subst hB;go_wp2_with fail
        go_meet;exact⟨rfl,rfl⟩
       ·have d4:(bt t 0==128)=false:=by simp[c3]
        rw[if_neg c3]at hB;clear c1 c2 c3;subst hB;go_wp2_with fail
        go_meet;exact⟨rfl,rfl⟩
   case rest=>
   obtain⟨rfl,rfl⟩:=hcut;clear HF;have q1:(eG t 0 (lP fi)).size=t.size:=eR (by rw[show (lP fi).size=1 from rfl];omega);have HP2:Hid (∀W,Cb 72 #[.string t,iV 0,.string (lP fi)] W (.string (eG t 0 (lP fi)))):=fun W=>qT t 0 _ W (by rw[show (lP fi).size=1 from rfl];omega) (by omega)
   have HP3:Hid (∀W,Cb 72 #[.string (eG t 0 (lP fi)),iV 4,.string (aR sp')] W (.string (eG (eG t 0 (lP fi)) 4 (aR sp')))):=fun W=>qT _ 4 _ W (by omega) (by omega)
   rw[←HO.out]at HP3;clear HO;generalize eG t 0 (lP fi)=out0 at *;go_upto_region 13 with fail
   go_cut [7] (fun v wx=>v=.string out∧vW w ⟨VF,src,dst,sp,dp⟩ ⟨proto',src',dst',sp',dp'⟩ wx)
   case first=>
    rename_i J K2 hJ hK2;clear k0 y0 k1 y1 k2 y2 k3 y3 k4 y4 j0 x0 j1 x1 j2 x2 j3 x3 j4 x4;refine dG (Rs:=[aG (.string t),aG (.int .u8 fi),LM fi,aG (.string (lP fi)),aG (.string out0),aG (.pointer (some ⟨w.heap.size+1,3,none⟩)),aG (iV sp'),aG (.string (aR sp')),aG (.string out),aG (.string out)]) [39,40,41,42,43,44,45,46,47,7] (by kernel_rfl) (by kernel_rfl) rfl ?st ?steps ?done
    case st=>simp[cF,BR]
    case steps=>
     refine⟨?s0,?s1,?s2,?s3,?s4,?s5,?s6,?s7,?s8,?s9,trivial⟩
     case s0=>
      intro K' a wy ho hd hb hK;have h3:=ho 2 (by decide);simp[aD]at h3;clear hd;go_simp;try go_bits
      exact hK _ _ rfl bR
     case s1=>
      intro K' a wy ho hd hb hK;have h3:=ho 8 (by decide);simp[aD]at h3;clear hd;go_simp;try go_bits
      exact hK _ _ rfl bR
     case s2=>
      intro K' a wy ho hd hb hK;simp[Region.binds,aU,aG,aD]at hd;go_simp;exact hK _ _ ⟨wy.heap.size,rfl,by simp⟩ (bR.alloc lR _)
     case s3=>
      intro K' a wy ho hd hb hK;simp only[List.forall_mem_singleton,Array.mem_def,List.mem_singleton,forall_eq]at hd;obtain⟨b,hd1,hd2⟩: LM fi (aD a 41) wy:=hd rfl;have hcv:=KK (cap:=1) hfi hd2;simp[aD]at hd1;go_simp;try go_bits
      exact hK _ _ rfl bR
     case s4=>
      intro K' a wy ho hd hb hK;simp[Region.binds,aU,aG,aD]at hd;go_simp;refine(HP2.out wy).mono ?_;rintro e wz ⟨rfl,hz⟩;exact hK _ _ rfl hz
     case s5=>
      intro K' a wy ho hd hb hK;have h3:=ho 4 (by decide);simp[aD]at h3;clear hd;go_simp;try go_bits
      exact hK _ _ rfl bR
     case s6=>
      intro K' a wy ho hd hb hK;simp[Region.binds,aU,aG,aD]at hd;obtain⟨k0,y0,k1,y1,k2,y2,k3,y3,k4,y4⟩:=(KW1.out.kept (Below.trans bR.drew hb)).bg;go_simp;try go_bits
      exact hK _ _ rfl bR
     case s7=>
      intro K' a wy ho hd hb hK;simp[Region.binds,aU,aG,aD]at hd;go_simp;refine(HT1.out wy).mono ?_;rintro e wz ⟨rfl,hz⟩;exact hK _ _ rfl hz
     case s8=>
      intro K' a wy ho hd hb hK;simp[Region.binds,aU,aG,aD]at hd;go_simp;refine(HP3.out wy).mono ?_;rintro e wz ⟨rfl,hz⟩;exact hK _ _ rfl hz
     case s9=>
      intro K' a wy ho hd hb hK;simp[Region.binds,aU,aG,aD]at hd;go_simp;try go_bits
      exact hK _ _ rfl bR
    case done=>
     intro X wz hR hz;obtain⟨x0,x1,⟨b2,x2,-⟩,x3,x4,x5,x6,x7,x8,x9,-⟩:=hR;simp only[aG]at x0 x1 x3 x4 x5 x6 x7 x8 x9;simp only[aE,x0,x1,x2,x3,x4,x5,x6,x7,x8,x9];clear x0 x1 x2 x3 x4 x5 x6 x7 x8 x9;go_simp;refine hK2 _ _ (hJ _ _ ?_);(repeat apply Exists.intro)
     refine⟨⟨rfl,KW1.out.kept (bR.drew.trans hz)⟩,rfl⟩
   case rest=>
   obtain⟨rfl,hKW⟩:=hcut;go_wp2_with fail
   go_meet;exact⟨rfl,hKW⟩
 case rest=>
 obtain⟨rfl,hKW⟩:=hcut;clear KW1 k0 y0 k1 y1 k2 y2 k3 y3 k4 y4 HO HF HE HT1;have KW1:Hid _:=hKW;clear hKW;obtain⟨k0,y0,k1,y1,k2,y2,k3,y3,k4,y4⟩:=KW1.out.bf;dsimp only at k0 k1 k2 k3 k4
 ·have HK:Hid (∀W,Cw 74 #[iV VF] W (iV (bI VF:Nat))):=fun W=>EH _ W
  have hck:bI VF+1 < t.size:=by
   unfold bI;split
   ·have:=hp (by assumption);omega
   ·split<;>omega
  have HAt:Hid (∀W,Cb 42 #[.string t,iV (bI VF:Nat)] W (iV (aM (bt t) (bI VF)))):=fun W=>rU t _ W hck (by unfold maxLen;omega)
  have hcw:=cW (bH t) (bI VF);have HPut:Hid (∀(n:Int) W,Cb 72 #[.string out,iV (bI VF:Nat),.string (aR n)] W (.string (eG out (bI VF) (aR n)))):=fun n W=>qT out _ _ W (by rw[aP];omega) (by omega)
  have HBd:Hid (fQ ⟨VF,src,dst,sp,dp⟩ t=(decide (VF=17)&&decide (aM (bt t) (bI VF)=0)&&decide (src.size=4))):=rfl;generalize bI VF=ck at *;generalize aM (bt t) ck=cw at *;generalize fQ ⟨VF,src,dst,sp,dp⟩ t=bare at *;go_wp2_with fail
  refine(HK.out _).mono ?_;rintro e w3 ⟨rfl,rfl⟩;go_wp2_with fail
  refine(HAt.out _).mono ?_;rintro e w4 ⟨rfl,q4⟩;have KW4:Hid _:=KW1.out.kept q4;clear q4 KW1 k0 y0 k1 y1 k2 y2 k3 y3 k4 y4 HK HAt;obtain⟨k0,y0,k1,y1,k2,y2,k3,y3,k4,y4⟩:=KW4.out.bf;dsimp only at k0 k1 k2 k3 k4;go_upto_region 16 with fail
  go_cut [66] (fun c wx=>c=.bool bare∧wx=w4)
  case first=>
   clear HA HNC HPut;by_cases c1:VF=17
   ·have d1:(VF==17)=true:=by simp[c1]
    by_cases c2:cw=0
    ·have d2:(cw==0)=true:=by simp[c2]
     by_cases c3:src.size=4
     ·have d3:((src.size:Int)==4)=true:=by simp;omega
      have hB:bare=true:=by rw[HBd.out,UE c1,UE c2,UE c3];rfl
      clear HBd c1 c2 c3;subst hB;go_wp2_with fail
      go_meet;exact⟨rfl,rfl⟩
     ·have d3:((src.size:Int)==4)=false:=by simp;omega
      have hB:bare=false:=by rw[HBd.out,UD c3];simp
      clear HBd c1 c2 c3;subst hB;go_wp2_with fail
      go_meet;exact⟨rfl,rfl⟩
    ·have d2:(cw==0)=false:=by simp[c2]
     have hB:bare=false:=by rw[HBd.out,UD c2];simp
     clear HBd c1 c2;subst hB;go_wp2_with fail
     go_meet;exact⟨rfl,rfl⟩
   ·have d1:(VF==17)=false:=by simp[c1]
    have hB:bare=false:=by rw[HBd.out,UD c1];simp
    clear HBd c1;subst hB;go_wp2_with fail
    go_meet;exact⟨rfl,rfl⟩
  case rest=>
  obtain⟨rfl,rfl⟩:=hcut;clear HBd
  cases bare with
  | true=>
   clear HNC HPut;obtain⟨j0,x0,j1,x1,j2,x2,j3,x3,j4,x4⟩:=KW4.out.bg;dsimp only at j0 j1 j2 j3 j4;have o0:=KW4.out.c0;have o1:=KW4.out.c1;have v0:=KW4.out.f0;have v1:=KW4.out.f1;have G4:Hid _:=KW4.out.gr;by_cases c5:src'.size=16
   ·have d5:((src'.size:Int)==16)=true:=by simp;omega
    replace HA:Hid (iS ⟨#[]⟩ 5=ans):=by have h:=HA.out;rw[if_pos rfl,if_pos c5]at h;exact h
    go_wp2_with fail
    refine VB (v:=iS ⟨#[]⟩ 5) (by simp[results,Tryz.results45,go_sem,iS,o0,o1]) rfl ⟨by rw[HA.out],?_⟩;exact(G4.out.setCell (Nat.le_add_right _ 2) _).setCell (Nat.le_add_right _ 2) _
   ·have d5:((src'.size:Int)==16)=false:=by simp;omega
    replace HA:Hid (iS out 0=ans):=by have h:=HA.out;rw[if_pos rfl,if_neg c5]at h;exact h
    go_wp2_with fail
    refine VB (v:=iS out 0) (by simp[results,Tryz.results45,go_sem,iS,o0,o1]) rfl ⟨by rw[HA.out],?_⟩;exact(G4.out.setCell (Nat.le_add_right _ 2) _).setCell (Nat.le_add_right _ 2) _
  | false=>
   replace HA:Hid (iS (eG out ck (aR (dB ⟨VF,src,dst,sp,dp⟩ ⟨proto',src',dst',sp',dp'⟩ t))) 0=ans):=HA.out;have HPf:Hid (∀W,Cb 76 #[.agg (cR VF src dst sp dp).toArray,.string t] W (.string (eI ⟨VF,src,dst,sp,dp⟩ t))):=fun W=>xG ⟨VF,src,dst,sp,dp⟩ t W fs.1 fs.2 fp (by omega) h8
   have HPg:Hid (∀W,Cb 76 #[.agg (cR proto' src' dst' sp' dp').toArray,.string out] W (.string (eI ⟨proto',src',dst',sp',dp'⟩ out))):=fun W=>xG ⟨proto',src',dst',sp',dp'⟩ out W gs.1 gs.2 gp (by omega) (by omega)
   have HSf:Hid (∀W,Cb 70 #[.string (eI ⟨VF,src,dst,sp,dp⟩ t)] W (iV (bN (eI ⟨VF,src,dst,sp,dp⟩ t)))):=fun W=>(mJ _ W (by have:=wS ⟨VF,src,dst,sp,dp⟩ t fs.1 fs.2;omega)).mono (fun e w' h=>⟨h.1,h.2 ▸ Below.refl _ _⟩)
   have HSg:Hid (∀W,Cb 70 #[.string (eI ⟨proto',src',dst',sp',dp'⟩ out)] W (iV (bN (eI ⟨proto',src',dst',sp',dp'⟩ out)))):=fun W=>(mJ _ W (by have:=wS ⟨proto',src',dst',sp',dp'⟩ out gs.1 gs.2;omega)).mono (fun e w' h=>⟨h.1,h.2 ▸ Below.refl _ _⟩)
   have r1:=dE (eI ⟨VF,src,dst,sp,dp⟩ t);have r2:=dE (eI ⟨proto',src',dst',sp',dp'⟩ out);generalize bN (eI ⟨VF,src,dst,sp,dp⟩ t)=s1 at *;generalize bN (eI ⟨proto',src',dst',sp',dp'⟩ out)=s2 at *;generalize eI ⟨VF,src,dst,sp,dp⟩ t=pf at *;generalize eI ⟨proto',src',dst',sp',dp'⟩ out=pg at *;generalize dB ⟨VF,src,dst,sp,dp⟩ ⟨proto',src',dst',sp',dp'⟩ t=nc at *;have ra:=iR (a:=65535-cw) (b:=65535-s1) (by omega) (by omega) (by omega) (by omega);have HAd1:Hid (∀W,Cb 75 #[iV (65535-cw),iV (65535-s1)] W (iV (gE (65535-cw) (65535-s1)))):=fun W=>(kI _ _ W (by omega) (by omega) (by omega) (by omega)).mono (fun e w' h=>⟨h.1,h.2 ▸ Below.refl _ _⟩)
   generalize gE (65535-cw) (65535-s1)=a1 at *;have rb:=iR (a:=a1) (b:=s2) (by omega) (by omega) (by omega) (by omega);have HAd2:Hid (∀W,Cb 75 #[iV a1,iV s2] W (iV (gE a1 s2))):=fun W=>(kI _ _ W (by omega) (by omega) (by omega) (by omega)).mono (fun e w' h=>⟨h.1,h.2 ▸ Below.refl _ _⟩)
   generalize gE a1 s2=a2 at *;clear k0 y0 k1 y1 k2 y2 k3 y3 k4 y4;go_upto_region 20 with fail
   go_cut [11] (fun v wx=>v=iV (65535-a2)∧vW w ⟨VF,src,dst,sp,dp⟩ ⟨proto',src',dst',sp',dp'⟩ wx)
   case first=>
    rename_i J K2 hJ hK2;refine dG (Rs:=[aG (iV cw),aG (iV (65535-cw)),aG (.agg (cR VF src dst sp dp).toArray),aG (.string t),aG (.string pf),aG (iV s1),aG (iV (65535-s1)),aG (iV a1),aG (.agg (cR proto' src' dst' sp' dp').toArray),aG (.string out),aG (.string pg),aG (iV s2),aG (iV a2),aG (iV (65535-a2)),aG (iV (65535-a2))]) [74,75,76,77,78,79,80,81,82,83,84,85,86,87,11] (by kernel_rfl) (by kernel_rfl) rfl ?st ?steps ?done
    case st=>simp[cF,kU]
    case steps=>
     refine⟨?s0,?s1,?s2,?s3,?s4,?s5,?s6,?s7,?s8,?s9,?s10,?s11,?s12,?s13,?s14,trivial⟩
     case s0=>
      intro K' a wy ho hd hb hK;have h3:=ho 10 (by decide);simp[aD]at h3;clear hd;go_simp;try go_bits
      exact hK _ _ rfl bR
     case s1=>
      intro K' a wy ho hd hb hK;simp[Region.binds,aU,aG,aD]at hd;go_simp;try go_bits
      exact hK _ _ rfl bR
     case s2=>
      intro K' a wy ho hd hb hK;have h3:=ho 3 (by decide);simp[aD]at h3;clear hd;obtain⟨k0,y0,k1,y1,k2,y2,k3,y3,k4,y4⟩:=(KW4.out.kept (Below.trans bR.drew hb)).bf;go_simp;try go_bits
      exact hK _ _ rfl bR
     case s3=>
      intro K' a wy ho hd hb hK;have h3:=ho 2 (by decide);simp[aD]at h3;clear hd;go_simp;try go_bits
      exact hK _ _ rfl bR
     case s4=>
      intro K' a wy ho hd hb hK;simp[Region.binds,aU,aG,aD]at hd;go_simp;refine(HPf.out wy).mono ?_;rintro e wz ⟨rfl,hz⟩;exact hK _ _ rfl hz
     case s5=>
      intro K' a wy ho hd hb hK;simp[Region.binds,aU,aG,aD]at hd;go_simp;refine(HSf.out wy).mono ?_;rintro e wz ⟨rfl,hz⟩;exact hK _ _ rfl hz
     case s6=>
      intro K' a wy ho hd hb hK;simp[Region.binds,aU,aG,aD]at hd;go_simp;try go_bits
      exact hK _ _ rfl bR
     case s7=>
      intro K' a wy ho hd hb hK;simp[Region.binds,aU,aG,aD]at hd;go_simp;refine(HAd1.out wy).mono ?_;rintro e wz ⟨rfl,hz⟩;exact hK _ _ rfl hz
     case s8=>
      intro K' a wy ho hd hb hK;have h3:=ho 4 (by decide);simp[aD]at h3;clear hd;obtain⟨k0,y0,k1,y1,k2,y2,k3,y3,k4,y4⟩:=(KW4.out.kept (Below.trans bR.drew hb)).bg;go_simp;try go_bits
      exact hK _ _ rfl bR
     case s9=>
      intro K' a wy ho hd hb hK;have h3:=ho 7 (by decide);simp[aD]at h3;clear hd;go_simp;try go_bits
      exact hK _ _ rfl bR
     case s10=>
      intro K' a wy ho hd hb hK;simp[Region.binds,aU,aG,aD]at hd;go_simp;refine(HPg.out wy).mono ?_;rintro e wz ⟨rfl,hz⟩;exact hK _ _ rfl hz
     case s11=>
      intro K' a wy ho hd hb hK;simp[Region.binds,aU,aG,aD]at hd;go_simp;refine(HSg.out wy).mono ?_;rintro e wz ⟨rfl,hz⟩;exact hK _ _ rfl hz
     case s12=>
      intro K' a wy ho hd hb hK;simp[Region.binds,aU,aG,aD]at hd;go_simp;refine(HAd2.out wy).mono ?_;rintro e wz ⟨rfl,hz⟩;exact hK _ _ rfl hz
     case s13=>
      intro K' a wy ho hd hb hK;simp[Region.binds,aU,aG,aD]at hd;go_simp;try go_bits
      exact hK _ _ rfl bR
     case s14=>
      intro K' a wy ho hd hb hK;simp[Region.binds,aU,aG,aD]at hd;go_simp;try go_bits
      exact hK _ _ rfl bR
    case done=>
     intro X wz hR hz;simp only[UM,UN,eY,aG]at hR;simp only[aE,hR];clear hR;go_simp;refine hK2 _ _ (hJ _ _ ?_);(repeat apply Exists.intro)
     refine⟨⟨rfl,KW4.out.kept (bR.drew.trans hz)⟩,rfl⟩
   case rest=>
   obtain⟨rfl,hKW⟩:=hcut;have KW5:Hid _:=hKW;clear hKW KW4 HPf HPg HSf HSg HAd1 HAd2;have o0:=KW5.out.c0;have o1:=KW5.out.c1;have v0:=KW5.out.f0;have v1:=KW5.out.f1;have HTn:Hid (∀W,Cb 73 #[iV nc] W (.string (aR nc))):=fun W=>bY _ W (by rw[HNC.out];split<;>omega) (by rw[HNC.out];split<;>omega)
   have HPn:Hid _:=HPut.out nc;clear HPut;by_cases c6:65535-a2=0
   ·have d6:(65535-a2==0)=true:=by simp;omega
    have hnc:nc=65535:=by rw[HNC.out,if_pos c6]
    clear HNC;subst hnc;go_wp2_with fail
    refine(HTn.out _).mono ?_;rintro e w6 ⟨rfl,q6⟩;have KW6:Hid _:=KW5.out.kept q6;clear q6;go_wp2_with fail
    refine(HPn.out _).mono ?_;rintro e w7 ⟨rfl,q7⟩;have KW7:Hid _:=KW6.out.kept q7;clear q7 KW6 KW5 o0 o1 v0 v1;have o0:=KW7.out.c0;have o1:=KW7.out.c1;have v0:=KW7.out.f0;have v1:=KW7.out.f1;go_wp2_with fail
    refine VB (v:=iS (eG out ck (aR 65535)) 0) (by simp[results,Tryz.results45,go_sem,iS,o0,o1]) rfl ⟨by rw[←HA.out],?_⟩;exact(KW7.out.gr.setCell (Nat.le_add_right _ 2) _).setCell (Nat.le_add_right _ 2) _
   ·have d6:(65535-a2==0)=false:=by simp;omega
    have hnc:nc=65535-a2:=by rw[HNC.out,if_neg c6]
    clear HNC;subst hnc;go_wp2_with fail
    refine(HTn.out _).mono ?_;rintro e w6 ⟨rfl,q6⟩;have KW6:Hid _:=KW5.out.kept q6;clear q6;go_wp2_with fail
    refine(HPn.out _).mono ?_;rintro e w7 ⟨rfl,q7⟩;have KW7:Hid _:=KW6.out.kept q7;clear q7 KW6 KW5 o0 o1 v0 v1;have o0:=KW7.out.c0;have o1:=KW7.out.c1;have v0:=KW7.out.f0;have v1:=KW7.out.f1;go_wp2_with fail
    refine VB (v:=iS (eG out ck (aR (65535-a2))) 0) (by simp[results,Tryz.results45,go_sem,iS,o0,o1]) rfl ⟨by rw[←HA.out],?_⟩;exact(KW7.out.gr.setCell (Nat.le_add_right _ 2) _).setCell (Nat.le_add_right _ 2) _
end Go.Proofs.YtdkepkaflielhaaGreatDoor
