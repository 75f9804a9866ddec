import Derived.Test.YtdkepkaflielhaaGreatDoorMerged14
import Derived.Test.YtdkepkaflielhaaGreatDoorMerged13
import Derived.Great.BuildSlice
set_option linter.unusedVariables false
set_option linter.unusedSimpArgs false
set_option maxRecDepth 100000
set_option maxHeartbeats 8000000
namespace Go.Proofs.YtdkepkaflielhaaGreatDoor
open Go.RowKit Go.PlainAid
theorem BC(s d:BA)(w:World)(hs:s.size≤1000)(hd:d.size≤1000) :
  Cw 31 #[.string s,.string d] w (.bool (cI s&&decide (s.size=d.size))):=by
 have HA:Hid (∀W,Cw 65 #[.string s] W (.bool (cI s))):=fun W=>iZ s W
 have hun:undef=Value.tuple #[]:=rfl;generalize cI s=b at *;by_cases h:s.size=d.size
 ·have dh:((s.size:Int)==(d.size:Int))=true:=by simp;omega
  rw[TT h];clear h
  cases b;all_goals go_enter Tryz.func31,Tryz.ntmps31
  all_goals go_wp2_with fail
  all_goals refine(HA.out _).mono ?_
  all_goals rintro e w2 ⟨rfl,rfl⟩
  all_goals go_wp2_with fail
  all_goals go_ret
  all_goals exact⟨rfl,rfl⟩
 ·have dh:((s.size:Int)==(d.size:Int))=false:=by simp;omega
  rw[TR h]
  cases b;all_goals go_enter Tryz.func31,Tryz.ntmps31
  all_goals go_wp2_with fail
  all_goals refine(HA.out _).mono ?_
  all_goals rintro e w2 ⟨rfl,rfl⟩
  all_goals go_wp2_with fail
  all_goals go_ret
  all_goals exact⟨rfl,rfl⟩
def dM(p:Int):Nat:=if p=6 then 16 else if p=17 then 6 else 2
theorem xW(p:Int)(w:World) :
  Cw 74 #[iV p] w (iV (dM p:Nat)):=by
 by_cases h1:p=6
 ·subst h1;go_enter Tryz.func74,Tryz.ntmps74
  go_wp2_with fail
  go_ret;exact⟨rfl,rfl⟩
 ·have d1:(p==6)=false:=by simp[h1]
  by_cases h2:p=17
  ·subst h2;go_enter Tryz.func74,Tryz.ntmps74
   go_wp2_with fail
   go_ret;exact⟨rfl,rfl⟩
  ·have d2:(p==17)=false:=by simp[h2]
   have HV:Hid (dM p=2):=by unfold Hid dM;rw[if_neg h1,if_neg h2]
   generalize dM p=ans at *;go_enter Tryz.func74,Tryz.ntmps74
   go_wp2_with fail
   go_ret;exact⟨aK (by rw[HV.out];rfl),rfl⟩
theorem iK(s:BA)(k:Nat)(t:BA)(w:World)(h:k+t.size≤s.size)(hs:s.size≤100000) :
  Calls Tryz.prog 72 #[.string s,iV k,.string t] w fun e w'=>∃u:BA,e=.returned (.string u)∧(u.size=s.size∧∀i,k+t.size≤i→i < s.size→bt u i=bt s i)∧Below w.heap.size w w':=by
 have HPB:Hid (∀i,k+t.size≤i→i < s.size→bt (s.extract 0 k++t++s.extract (k+t.size) s.size) i=bt s i):=fun i hi hl=>by
  have s1:(s.extract 0 k).size=k:=by rw[UG];omega
  rw[dR,if_neg (by rw[UF,s1];omega),fA _ _ _ _ lR,UF,s1,if_pos (by omega),show k+t.size+(i-(k+t.size))=i by omega]
 have L1:∀W,(Instr.slice 9 (.string s) none (some (iV k)) none).run Tryz.prog W=.ok (.string (s.extract 0 k)) W:=fun W=>by
  rw[run_slice_string_h (P:=Tryz.prog) (t:=9) (s:=s) (w:=W) (ht:=Tryz.underlying9) .i64 (k:Int) (by omega) (by omega),show ((k:Int)).toNat=k by omega]
 have L2:∀W,(Instr.slice 9 (.string s) (some (iV ((k:Int)+t.size))) none none).run Tryz.prog W=.ok (.string (s.extract (k+t.size) s.size)) W:=fun W=>by
  rw[run_slice_string_l (P:=Tryz.prog) (t:=9) (s:=s) (w:=W) (ht:=Tryz.underlying9) .i64 ((k:Int)+t.size) (by omega) (by omega),show ((k:Int)+t.size).toNat=k+t.size by omega]
 have z1:(s.extract 0 k).size=k:=by rw[UG];omega
 have z2:(s.extract (k+t.size) s.size).size=s.size-(k+t.size):=by rw[UG];omega
 have HZ:Hid ((s.extract 0 k++t++s.extract (k+t.size) s.size).size=s.size):=by unfold Hid;simp only[UF];omega
 generalize s.extract 0 k=u1 at *;generalize s.extract (k+t.size) s.size=u2 at *;have n1:¬9223372036854775807 < u1.size+t.size:=by omega
 have n2:¬9223372036854775807 < u1.size+t.size+u2.size:=by omega
 have hw:IntKind.i64.wrap ((k:Int)+t.size)=(k:Int)+t.size:=by rw[IntKind.wrap_i64];omega
 have HZ1:Hid (u1.size=k):=z1;have HZ2:Hid (u2.size=s.size-(k+t.size)):=z2;clear z1 z2;go_enter Tryz.func72,Tryz.ntmps72
 go_wp2_with fail
 go_region
 all_goals go_wp2_with fail
 all_goals go_ret
 all_goals exact⟨_,rfl,⟨HZ.out,HPB.out⟩,bR.drew⟩
def jY(x y:Int):BA:=⟨#[UInt8.ofNat x.toNat,0,0,UInt8.ofNat y.toNat]⟩
theorem oM(x y:Int):(jY x y).size=4:=rfl
def rD(x y:Int):Value→World→Prop:=fun v w=>∃b,v=.slice (some ⟨b,0,none⟩) 4 4∧w.cell? ⟨b,0,none⟩=some (.int .u8 x)∧w.cell? ⟨b,1,none⟩=some (.int .u8 0)∧w.cell? ⟨b,2,none⟩=some (.int .u8 0)∧w.cell? ⟨b,3,none⟩=some (.int .u8 y)
theorem nK(x y:Int):eZ (rD x y):=fun v w w' ⟨b,h1,h2,h3,h4,h5⟩ hb=>by
 have hlt:=UH w _ h2;exact⟨b,h1,((iI hb).1 b 0 hlt).trans h2,((iI hb).1 b 1 hlt).trans h3,((iI hb).1 b 2 hlt).trans h4,((iI hb).1 b 3 hlt).trans h5⟩
theorem tP{w:World}{b cap:Nat}{x y:Int}(hx:0≤x∧x≤255)(hy:0≤y∧y≤255)(h0:w.cell? ⟨b,0,none⟩=some (.int .u8 x))(h1:w.cell? ⟨b,1,none⟩=some (.int .u8 0))(h2:w.cell? ⟨b,2,none⟩=some (.int .u8 0))(h3:w.cell? ⟨b,3,none⟩=some (.int .u8 y)) :
  (convert 22 9 (.slice (some ⟨b,0,none⟩) 4 cap)).run Tryz.prog w=.ok (.string (jY x y)) w :=
 run_convert_bytes_back (P:=Tryz.prog) w 22 9 5 ⟨b,0,none⟩ cap [UInt8.ofNat x.toNat,0,0,UInt8.ofNat y.toNat] Tryz.underlying22 Tryz.underlying5 Tryz.underlying9 (by
  intro j hj;match j,hj with
  | 0,_=>simp only[Addr.add,Nat.add_zero,UO];rw[fI _ hx.1 hx.2];exact h0
  | 1,_=>simp only[Addr.add,TX,List.getElem_cons_succ,UO];exact h1
  | 2,_=>simp only[Addr.add,TX,List.getElem_cons_succ,UO];exact h2
  | 3,_=>simp only[Addr.add,TX,List.getElem_cons_succ,UO];rw[fI _ hy.1 hy.2];exact h3)
theorem wQ(s d:BA)(p:Int)(n:Nat)(w:World)(hs:s.size≤16)(hd:d.size≤16)(hp:0≤p∧p≤255)(hn:n≤65535) :
  Calls Tryz.prog 71 #[.string s,.string d,iV p,iV n] w fun e w'=>∃u:BA,e=.returned (.string u)∧u.size≤60∧Below w.heap.size w w':=by
 have hun:undef=Value.tuple #[]:=rfl;have n1:¬9223372036854775807 < s.size+d.size:=by omega
 have z1:=mT 0 p;have z2:=aP (n:Int);by_cases h1:p=1∧s.size=4
 ·obtain⟨rfl,h4⟩:=h1;have d4:((s.size:Int)==4)=true:=by simp;omega
  clear h4;go_enter Tryz.func71,Tryz.ntmps71
  go_wp2_with fail
  go_ret;exact⟨_,rfl,by decide,Below.refl _ _⟩
 by_cases h4:s.size=4
 ·have d4:((s.size:Int)==4)=true:=by simp;omega
  have d1:(p==1)=false:=by simp;exact fun e=>h1 ⟨e,h4⟩
  clear h1 h4;have n2:¬9223372036854775807 < s.size+d.size+(kE 0 p).size:=by omega
  have n3:¬9223372036854775807 < s.size+d.size+(kE 0 p).size+(aQ (n:Int)).size:=by omega
  have n2b:¬9223372036854775807 < s.size+d.size+2:=by omega
  have n3b:¬9223372036854775807 < s.size+d.size+2+2:=by omega
  have HZ:Hid ((s++d++kE 0 p++aQ (n:Int)).size≤60):=by unfold Hid;simp only[UF];omega
  go_enter Tryz.func71,Tryz.ntmps71
  go_upto_region 4 with fail
  go_cut [8] (fun v wx=>(∃u:BA,v=.string u∧u.size≤60)∧Below w.heap.size w wx)
  case first=>
   rename_i J K2 hJ hK2;clear hun;refine cZ (Rs:=[aF (.string s),aF (.string d),aF (.string (s++d)),aF (iV p),aF (.int .u8 p),tW (0) (p),aF (.string (kE 0 p)),aF (.string (s++d++kE 0 p)),aF (iV (n:Int)),aF (.string (aQ (n:Int))),aF (.string (s++d++kE 0 p++aQ (n:Int))),aF (.string (s++d++kE 0 p++aQ (n:Int)))]) [19,20,21,22,23,24,25,26,27,28,29,8] (by kernel_rfl) (by kernel_rfl) rfl ?st ?steps ?done
   case st=>simp[cC,kU]
   case steps=>
    refine⟨?s0,?s1,?s2,?s3,?s4,?s5,?s6,?s7,?s8,?s9,?s10,?s11,trivial⟩
    case s0=>
     intro K' a wy ho hd hb hK;have h3:=ho 0 (by decide);simp[aD]at h3;clear hd;go_simp;try go_bits
     exact hK _ _ rfl bR
    case s1=>
     intro K' a wy ho hd hb hK;have h3:=ho 1 (by decide);simp[aD]at h3;clear hd;go_simp;try go_bits
     exact hK _ _ rfl bR
    case s2=>
     intro K' a wy ho hd hb hK;simp[Region.binds,aS,aF,aD]at hd;go_simp;try go_bits
     exact hK _ _ rfl bR
    case s3=>
     intro K' a wy ho hd hb hK;have h3:=ho 2 (by decide);simp[aD]at h3;clear hd;go_simp;try go_bits
     exact hK _ _ rfl bR
    case s4=>
     intro K' a wy ho hd hb hK;simp[Region.binds,aS,aF,aD]at hd;go_simp;try go_bits
     exact hK _ _ rfl bR
    case s5=>
     intro K' a wy ho hd hb hK;simp[Region.binds,aS,aF,aD]at hd;go_simp;exact hK _ _ ⟨wy.heap.size,rfl,by simp,by simp⟩ (bR.alloc lR _)
    case s6=>
     intro K' a wy ho hd hb hK;simp only[List.forall_mem_singleton,Array.mem_def,List.mem_singleton,forall_eq]at hd;obtain⟨b,hd1,hd2,hd3⟩: tW (0) (p) (aD a 24) wy:=hd rfl;have hcv:=tN (cap:=2) (by omega) (by omega) hd2 hd3;simp[aD]at hd1;go_simp;try go_bits
     exact hK _ _ rfl bR
    case s7=>
     intro K' a wy ho hd hb hK;simp[Region.binds,aS,aF,aD]at hd;go_simp;try go_bits
     exact hK _ _ rfl bR
    case s8=>
     intro K' a wy ho hd hb hK;have h3:=ho 3 (by decide);simp[aD]at h3;clear hd;go_simp;try go_bits
     exact hK _ _ rfl bR
    case s9=>
     intro K' a wy ho hd hb hK;simp[Region.binds,aS,aF,aD]at hd;go_simp;refine(bV (n:Int) wy (by omega) (by omega)).mono ?_;rintro e wz ⟨rfl,hz⟩;exact hK _ _ rfl hz
    case s10=>
     intro K' a wy ho hd hb hK;simp[Region.binds,aS,aF,aD]at hd;go_simp;try go_bits
     exact hK _ _ rfl bR
    case s11=>
     intro K' a wy ho hd hb hK;simp[Region.binds,aS,aF,aD]at hd;go_simp;try go_bits
     exact hK _ _ rfl bR
   case done=>
    intro X wz hR hz;obtain⟨x0,x1,x2,x3,x4,⟨b5,x5,-,-⟩,x6,x7,x8,x9,x10,x11,-⟩:=hR;simp only[aF]at x0 x1 x2 x3 x4 x6 x7 x8 x9 x10 x11;simp only[aE,x0,x1,x2,x3,x4,x5,x6,x7,x8,x9,x10,x11];clear x0 x1 x2 x3 x4 x5 x6 x7 x8 x9 x10 x11;go_simp;refine hK2 _ _ (hJ _ _ ?_);(repeat apply Exists.intro)
    refine⟨⟨⟨_,rfl,HZ.out⟩,(Below.refl _ w).drew.trans hz⟩,rfl⟩
  case rest=>
  obtain⟨⟨u,rfl,hu⟩,hb⟩:=hcut;go_wp2_with fail
  go_ret;exact⟨u,rfl,hu,hb⟩
 ·have d4:((s.size:Int)==4)=false:=by simp;omega
  clear h1;have a1:=qH (n:Int);have n2:¬9223372036854775807 < s.size+d.size+(aQ ((n:Int) / 65536)).size:=by rw[aP];omega
  have n3:¬9223372036854775807 < s.size+d.size+(aQ ((n:Int) / 65536)).size+(aQ ((n:Int) % 65536)).size:=by rw[aP,aP];omega
  have n4:¬9223372036854775807 < s.size+d.size+(aQ ((n:Int) / 65536)).size+(aQ ((n:Int) % 65536)).size+(jY 0 p).size:=by rw[aP,aP,oM];omega
  have HZ:Hid ((s++d++aQ ((n:Int) / 65536)++aQ ((n:Int) % 65536)++jY 0 p).size≤60):=by unfold Hid;simp only[UF,aP,oM];omega
  by_cases dp:p=1
  ·have d1:(p==1)=true:=by simp[dp]
   clear dp;go_enter Tryz.func71,Tryz.ntmps71
   go_upto_region 5 with fail
   go_cut [8] (fun v wx=>(∃u:BA,v=.string u∧u.size≤60)∧Below w.heap.size w wx)
   case first=>
    rename_i J K2 hJ hK2;clear hun;refine cZ (Rs:=[aF (.string s),aF (.string d),aF (.string (s++d)),aF (iV (n:Int)),aF (iV ((n:Int) / 65536)),aF (.string (aQ ((n:Int) / 65536))),aF (.string (s++d++aQ ((n:Int) / 65536))),aF (iV (n:Int)),aF (iV ((n:Int) % 65536)),aF (.string (aQ ((n:Int) % 65536))),aF (.string (s++d++aQ ((n:Int) / 65536)++aQ ((n:Int) % 65536))),aF (iV p),aF (.int .u8 p),rD (0) (p),aF (.string (jY 0 p)),aF (.string (s++d++aQ ((n:Int) / 65536)++aQ ((n:Int) % 65536)++jY 0 p)),aF (.string (s++d++aQ ((n:Int) / 65536)++aQ ((n:Int) % 65536)++jY 0 p))]) [30,31,32,33,34,35,36,37,38,39,40,41,42,43,44,45,8] (by kernel_rfl) (by kernel_rfl) rfl ?st ?steps ?done
    case st=>simp[cC,nK]
    case steps=>
     refine⟨?s0,?s1,?s2,?s3,?s4,?s5,?s6,?s7,?s8,?s9,?s10,?s11,?s12,?s13,?s14,?s15,?s16,trivial⟩
     case s0=>
      intro K' a wy ho hd hb hK;have h3:=ho 0 (by decide);simp[aD]at h3;clear hd;go_simp;try go_bits
      exact hK _ _ rfl bR
     case s1=>
      intro K' a wy ho hd hb hK;have h3:=ho 1 (by decide);simp[aD]at h3;clear hd;go_simp;try go_bits
      exact hK _ _ rfl bR
     case s2=>
      intro K' a wy ho hd hb hK;simp[Region.binds,aS,aF,aD]at hd;go_simp;try go_bits
      exact hK _ _ rfl bR
     case s3=>
      intro K' a wy ho hd hb hK;have h3:=ho 3 (by decide);simp[aD]at h3;clear hd;go_simp;try go_bits
      exact hK _ _ rfl bR
     case s4=>
      intro K' a wy ho hd hb hK;simp[Region.binds,aS,aF,aD]at hd;go_simp;try go_bits
      exact hK _ _ rfl bR
     case s5=>
      intro K' a wy ho hd hb hK;simp[Region.binds,aS,aF,aD]at hd;go_simp;refine(bV ((n:Int) / 65536) wy (by omega) (by omega)).mono ?_;rintro e wz ⟨rfl,hz⟩;exact hK _ _ rfl hz
     case s6=>
      intro K' a wy ho hd hb hK;simp[Region.binds,aS,aF,aD]at hd;go_simp;try go_bits
      exact hK _ _ rfl bR
     case s7=>
      intro K' a wy ho hd hb hK;have h3:=ho 3 (by decide);simp[aD]at h3;clear hd;go_simp;try go_bits
      exact hK _ _ rfl bR
     case s8=>
      intro K' a wy ho hd hb hK;simp[Region.binds,aS,aF,aD]at hd;go_simp;try go_bits
      exact hK _ _ rfl bR
     case s9=>
      intro K' a wy ho hd hb hK;simp[Region.binds,aS,aF,aD]at hd;go_simp;refine(bV ((n:Int) % 65536) wy (by omega) (by omega)).mono ?_;rintro e wz ⟨rfl,hz⟩;exact hK _ _ rfl hz
     case s10=>
      intro K' a wy ho hd hb hK;simp[Region.binds,aS,aF,aD]at hd;go_simp;try go_bits
      exact hK _ _ rfl bR
     case s11=>
      intro K' a wy ho hd hb hK;have h3:=ho 2 (by decide);simp[aD]at h3;clear hd;go_simp;try go_bits
      exact hK _ _ rfl bR
     case s12=>
      intro K' a wy ho hd hb hK;simp[Region.binds,aS,aF,aD]at hd;go_simp;try go_bits
      exact hK _ _ rfl bR
     case s13=>
      intro K' a wy ho hd hb hK;simp[Region.binds,aS,aF,aD]at hd;go_simp;exact hK _ _ ⟨wy.heap.size,rfl,by simp,by simp,by simp,by simp⟩ (bR.alloc lR _)
     case s14=>
      intro K' a wy ho hd hb hK;simp only[List.forall_mem_singleton,Array.mem_def,List.mem_singleton,forall_eq]at hd;obtain⟨b,hd1,hd2,hd3,hd4,hd5⟩: rD (0) (p) (aD a 43) wy:=hd rfl;have hcv:=tP (cap:=4) (by omega) (by omega) hd2 hd3 hd4 hd5;simp[aD]at hd1;go_simp;try go_bits
      exact hK _ _ rfl bR
     case s15=>
      intro K' a wy ho hd hb hK;simp[Region.binds,aS,aF,aD]at hd;go_simp;try go_bits
      exact hK _ _ rfl bR
     case s16=>
      intro K' a wy ho hd hb hK;simp[Region.binds,aS,aF,aD]at hd;go_simp;try go_bits
      exact hK _ _ rfl bR
    case done=>
     intro X wz hR hz;obtain⟨x0,x1,x2,x3,x4,x5,x6,x7,x8,x9,x10,x11,x12,⟨b13,x13,-,-,-,-⟩,x14,x15,x16,-⟩:=hR;simp only[aF]at x0 x1 x2 x3 x4 x5 x6 x7 x8 x9 x10 x11 x12 x14 x15 x16;simp only[aE,x0,x1,x2,x3,x4,x5,x6,x7,x8,x9,x10,x11,x12,x13,x14,x15,x16];clear x0 x1 x2 x3 x4 x5 x6 x7 x8 x9 x10 x11 x12 x13 x14 x15 x16;go_simp;refine hK2 _ _ (hJ _ _ ?_);(repeat apply Exists.intro)
     refine⟨⟨⟨_,rfl,HZ.out⟩,(Below.refl _ w).drew.trans hz⟩,rfl⟩
   case rest=>
   obtain⟨⟨u,rfl,hu⟩,hb⟩:=hcut;go_wp2_with fail
   go_ret;exact⟨u,rfl,hu,hb⟩
  ·have d1:(p==1)=false:=by simp[dp]
   go_enter Tryz.func71,Tryz.ntmps71
   go_upto_region 5 with fail
   go_cut [8] (fun v wx=>(∃u:BA,v=.string u∧u.size≤60)∧Below w.heap.size w wx)
   case first=>
    rename_i J K2 hJ hK2;clear hun;refine cZ (Rs:=[aF (.string s),aF (.string d),aF (.string (s++d)),aF (iV (n:Int)),aF (iV ((n:Int) / 65536)),aF (.string (aQ ((n:Int) / 65536))),aF (.string (s++d++aQ ((n:Int) / 65536))),aF (iV (n:Int)),aF (iV ((n:Int) % 65536)),aF (.string (aQ ((n:Int) % 65536))),aF (.string (s++d++aQ ((n:Int) / 65536)++aQ ((n:Int) % 65536))),aF (iV p),aF (.int .u8 p),rD (0) (p),aF (.string (jY 0 p)),aF (.string (s++d++aQ ((n:Int) / 65536)++aQ ((n:Int) % 65536)++jY 0 p)),aF (.string (s++d++aQ ((n:Int) / 65536)++aQ ((n:Int) % 65536)++jY 0 p))]) [30,31,32,33,34,35,36,37,38,39,40,41,42,43,44,45,8] (by kernel_rfl) (by kernel_rfl) rfl ?st ?steps ?done
    case st=>simp[cC,nK]
    case steps=>
     refine⟨?s0,?s1,?s2,?s3,?s4,?s5,?s6,?s7,?s8,?s9,?s10,?s11,?s12,?s13,?s14,?s15,?s16,trivial⟩
     case s0=>
      intro K' a wy ho hd hb hK;have h3:=ho 0 (by decide);simp[aD]at h3;clear hd;go_simp;try go_bits
      exact hK _ _ rfl bR
     case s1=>
      intro K' a wy ho hd hb hK;have h3:=ho 1 (by decide);simp[aD]at h3;clear hd;go_simp;try go_bits
      exact hK _ _ rfl bR
     case s2=>
      intro K' a wy ho hd hb hK;simp[Region.binds,aS,aF,aD]at hd;go_simp;try go_bits
      exact hK _ _ rfl bR
     case s3=>
      intro K' a wy ho hd hb hK;have h3:=ho 3 (by decide);simp[aD]at h3;clear hd;go_simp;try go_bits
      exact hK _ _ rfl bR
     case s4=>
      intro K' a wy ho hd hb hK;simp[Region.binds,aS,aF,aD]at hd;go_simp;try go_bits
      exact hK _ _ rfl bR
     case s5=>
      intro K' a wy ho hd hb hK;simp[Region.binds,aS,aF,aD]at hd;go_simp;refine(bV ((n:Int) / 65536) wy (by omega) (by omega)).mono ?_;rintro e wz ⟨rfl,hz⟩;exact hK _ _ rfl hz
     case s6=>
      intro K' a wy ho hd hb hK;simp[Region.binds,aS,aF,aD]at hd;go_simp;try go_bits
      exact hK _ _ rfl bR
     case s7=>
      intro K' a wy ho hd hb hK;have h3:=ho 3 (by decide);simp[aD]at h3;clear hd;go_simp;try go_bits
      exact hK _ _ rfl bR
     case s8=>
      intro K' a wy ho hd hb hK;simp[Region.binds,aS,aF,aD]at hd;go_simp;try go_bits
      exact hK _ _ rfl bR
     case s9=>
      intro K' a wy ho hd hb hK;simp[Region.binds,aS,aF,aD]at hd;go_simp;refine(bV ((n:Int) % 65536) wy (by omega) (by omega)).mono ?_;rintro e wz ⟨rfl,hz⟩;exact hK _ _ rfl hz
     case s10=>
      intro K' a wy ho hd hb hK;simp[Region.binds,aS,aF,aD]at hd;go_simp;try go_bits
      exact hK _ _ rfl bR
     case s11=>
      intro K' a wy ho hd hb hK;have h3:=ho 2 (by decide);simp[aD]at h3;clear hd;go_simp;try go_bits
      exact hK _ _ rfl bR
     case s12=>
      intro K' a wy ho hd hb hK;simp[Region.binds,aS,aF,aD]at hd;go_simp;try go_bits
      exact hK _ _ rfl bR
     case s13=>
      intro K' a wy ho hd hb hK;simp[Region.binds,aS,aF,aD]at hd;go_simp;exact hK _ _ ⟨wy.heap.size,rfl,by simp,by simp,by simp,by simp⟩ (bR.alloc lR _)
     case s14=>
      intro K' a wy ho hd hb hK;simp only[List.forall_mem_singleton,Array.mem_def,List.mem_singleton,forall_eq]at hd;obtain⟨b,hd1,hd2,hd3,hd4,hd5⟩: rD (0) (p) (aD a 43) wy:=hd rfl;have hcv:=tP (cap:=4) (by omega) (by omega) hd2 hd3 hd4 hd5;simp[aD]at hd1;go_simp;try go_bits
      exact hK _ _ rfl bR
     case s15=>
      intro K' a wy ho hd hb hK;simp[Region.binds,aS,aF,aD]at hd;go_simp;try go_bits
      exact hK _ _ rfl bR
     case s16=>
      intro K' a wy ho hd hb hK;simp[Region.binds,aS,aF,aD]at hd;go_simp;try go_bits
      exact hK _ _ rfl bR
    case done=>
     intro X wz hR hz;obtain⟨x0,x1,x2,x3,x4,x5,x6,x7,x8,x9,x10,x11,x12,⟨b13,x13,-,-,-,-⟩,x14,x15,x16,-⟩:=hR;simp only[aF]at x0 x1 x2 x3 x4 x5 x6 x7 x8 x9 x10 x11 x12 x14 x15 x16;simp only[aE,x0,x1,x2,x3,x4,x5,x6,x7,x8,x9,x10,x11,x12,x13,x14,x15,x16];clear x0 x1 x2 x3 x4 x5 x6 x7 x8 x9 x10 x11 x12 x13 x14 x15 x16;go_simp;refine hK2 _ _ (hJ _ _ ?_);(repeat apply Exists.intro)
     refine⟨⟨⟨_,rfl,HZ.out⟩,(Below.refl _ w).drew.trans hz⟩,rfl⟩
   case rest=>
   obtain⟨⟨u,rfl,hu⟩,hb⟩:=hcut;go_wp2_with fail
   go_ret;exact⟨u,rfl,hu,hb⟩
theorem oP(s d:BA)(p:Int)(t:BA)(w:World)(hs:s.size≤16)(hd:d.size≤16)(hp:0≤p∧p≤255)(ht:t.size≤65535) :
  Calls Tryz.prog 41 #[.string s,.string d,iV p,.string t] w fun e w'=>∃r,e=.returned (iV r)∧0≤r∧r≤65535∧Below w.heap.size w w':=by
 have HP:Hid (∀W,Calls Tryz.prog 71 #[.string s,.string d,iV p,iV t.size] W fun e w'=>∃u:BA,e=.returned (.string u)∧u.size≤60∧Below W.heap.size W w'):=fun W=>wQ s d p t.size W hs hd hp ht
 go_enter Tryz.func41,Tryz.ntmps41
 go_wp2_with fail
 refine(HP.out _).mono ?_;rintro e w1 ⟨u,rfl,hu,hb⟩;have n1:¬9223372036854775807 < u.size+t.size:=by omega
 have HB:Hid (Below w.heap.size w w1):=hb;clear hb;go_wp2_with fail
 refine(kT (u++t) _ (by rw[UF];omega)).mono ?_;rintro e w2 ⟨rfl,rfl⟩;have hr:=cV (u++t);go_wp2_with fail
 go_ret;exact⟨_,rfl,hr.1,hr.2,HB.out⟩
def EB(B:Nat)(w w':World):Prop:=w.grownBy w' (some B)
theorem EB.cell{B:Nat}{w w':World}(h:EB B w w'){b o:Nat}{v:Value}(hc:w.cell? ⟨b,o,none⟩=some v)(hb:b≠B):w'.cell? ⟨b,o,none⟩=some v:=World.grownBy.cell h hc (by simp;exact hb)
theorem EB.of{B:Nat}{w w':World}(h:Below w.heap.size w w'):EB B w w':=jD h
theorem tO{w w1:World}{B k:Nat}{cs:List Value}{t:TypeId}{p:Value→Prop}(hg:(w.alloc (.cells cs.toArray t)).grownBy w1 (some B))(hB:B < w.heap.size)(hk:k < cs.length)(hp:∀v∈cs,p v):∃v,w1.cell? ⟨w.heap.size,k,none⟩=some v∧p v :=
 ⟨cs[k],hg.cell (bW (by simp[hk])) (by simp;omega),hp _ (TY hk)⟩
def XV(x:Value):Value→World→Prop:=fun v _=>v=x
def XR(lo hi:Int):Value→World→Prop:=fun v _=>∃r,v=iV r∧lo≤r∧r≤hi
def IM(B n:Nat)(lo hi:Int):Value→World→Prop:=fun v w=>∃b,v=.slice (some ⟨b,0,none⟩) n n∧b≠B∧∀k,k < n→∃x,w.cell? ⟨b,k,none⟩=some (iV x)∧lo≤x∧x≤hi
def IL(B:Nat)(lo hi:Int):Value→World→Prop:=fun v w=>∃b k x,v=.pointer (some ⟨b,k,none⟩)∧b≠B∧w.cell? ⟨b,k,none⟩=some (iV x)∧lo≤x∧x≤hi
theorem RO(B:Nat)(x:Value):cU (EB B) (XV x):=fun _ _ _ h _=>h
theorem qB(B:Nat)(lo hi:Int):cU (EB B) (XR lo hi):=fun _ _ _ h _=>h
theorem NH(B n:Nat)(lo hi:Int):cU (EB B) (IM B n lo hi):=fun v w w' ⟨b,h1,h2,h3⟩ he=>⟨b,h1,h2,fun k hk=>by obtain⟨x,hx,hr⟩:=h3 k hk;exact⟨x,he.cell hx h2,hr⟩⟩
theorem NG(B:Nat)(lo hi:Int):cU (EB B) (IL B lo hi):=fun v w w' ⟨b,k,x,h1,h2,h3,h4⟩ he=>⟨b,k,x,h1,h2,he.cell h3 h2,h4⟩
def TC(p:Int)(s d:BA)(x y:Int):Value:=.agg (dA p s d x y).toArray
structure pG(w:World)(X:Nat)(p:Int)(s d:BA)(x y:Int):Prop where
 c0:w.cell? ⟨X,0,none⟩=some (iV p)
 f0:w.frozen? ⟨X,0,none⟩=false
 c1:w.cell? ⟨X,1,none⟩=some (.string s)
 f1:w.frozen? ⟨X,1,none⟩=false
 c2:w.cell? ⟨X,2,none⟩=some (.string d)
 f2:w.frozen? ⟨X,2,none⟩=false
 c3:w.cell? ⟨X,3,none⟩=some (iV x)
 f3:w.frozen? ⟨X,3,none⟩=false
 c4:w.cell? ⟨X,4,none⟩=some (iV y)
 f4:w.frozen? ⟨X,4,none⟩=false
section
variable {w w':World} {X B:Nat} {p x y:Int} {s d:BA}
theorem pG.new(w:World){t:TypeId}:pG (w.alloc (.cells (dA p s d x y).toArray t)) w.heap.size p s d x y:=⟨bW rfl,by simp,bW rfl,by simp,bW rfl,by simp,bW rfl,by simp,bW rfl,by simp⟩
theorem pG.drawn(h:pG w X p s d x y)(he:EB B w w')(hX:X≠B):pG w' X p s d x y:=by
 have hb:=UH w _ h.c0;have hk:w'.heap[X]?=w.heap[X]?:=World.grownBy.block he X hb (by simp;exact hX);have hc:∀j,w'.cell? ⟨X,j,none⟩=w.cell? ⟨X,j,none⟩:=fun j=>World.cell?_of_block hk
 have hf:∀j,w'.frozen? ⟨X,j,none⟩=w.frozen? ⟨X,j,none⟩:=fun j=>World.frozen?_of_block hk
 exact⟨(hc 0).trans h.c0,(hf 0).trans h.f0,(hc 1).trans h.c1,(hf 1).trans h.f1,(hc 2).trans h.c2,(hf 2).trans h.f2,(hc 3).trans h.c3,(hf 3).trans h.f3,(hc 4).trans h.c4,(hf 4).trans h.f4⟩
end
theorem pT{w w1:World}{B k:Nat}(xs:List Int){t:TypeId}(hg:(w.alloc (.cells (xs.map (fun x=>Value.int .i64 x)).toArray t)).grownBy w1 (some B))(hB:B < w.heap.size)(hk:k < xs.length):∃r,w1.cell? ⟨w.heap.size,k,none⟩=some (iV r)∧r∈xs :=
 ⟨xs[k],hg.cell (bW (by simp[hk])) (by simp;omega),TY hk⟩
def FA(l:Lv):Prop:=(0≤l.udp∧l.udp≤10001)∧(0≤l.echo∧l.echo≤10001)∧(0≤l.opening∧l.opening≤10001)∧(0≤l.opn∧l.opn≤10001)∧(0≤l.closing∧l.closing≤10001)
def lW:List Value:=[iV 0,iV 0,iV 0,iV 0,iV 0]
theorem xK(B:Nat)(a:OA)(len cap:Nat)(size:Int)(w:World)(hl:len≤1048576)(hs:iT w B a len cap size) :
  Calls Tryz.prog 91 #[.pointer (some ⟨B,0,none⟩)] w fun e w'=>∃r,e=.returned (iV r)∧0≤r∧r≤255∧iT w' B a len cap size∧w.grownBy w' (some B):=by
 have D0:Hid (Dr w B a len cap size w):=Dr.start hs;clear hs;go_enter Tryz.func91,Tryz.ntmps91
 go_wp2_with fail
 refine(bO 12 B a len cap size _ (by omega) hl D0.out.src).mono ?_;rintro e w1 ⟨b,rfl,hs1,hg1⟩;have D1:Hid (Dr w B a len cap size w1):=D0.out.draw hs1 hg1;clear hs1 hg1 D0
 cases b with
 | true=>
  have AD1:Hid (Dr w B a len cap size (w1.alloc (.cells #[iV 0,iV 58,iV 47] 2))):=D1.out.alloc _;have hBD1:B < w1.heap.size:=UM D1.out.hB D1.out.le;go_wp2_with fail
  refine(aT 3 B a len cap size _ (by omega) (by omega) hl AD1.out.src).mono ?_;rintro e w3 ⟨r,rfl,r0,r1,hs2,hg2⟩;obtain⟨k,rfl⟩:=TZ r0;obtain⟨x,hcell,hx⟩:=pT (k:=k) [0,58,47] hg2 hBD1 (by simp;omega);have r1':(k:Int) < 3:=by omega
  have D3:Hid (Dr w B a len cap size w3):=AD1.out.draw hs2 hg2;have HX:Hid (0≤x∧x≤255):=by simp at hx;unfold Hid;omega
  clear hs2 hg2 r0 r1 AD1 D1 hx;go_wp2_with fail
  go_ret;exact⟨x,rfl,HX.out.1,HX.out.2,D3.out.src,D3.out.grown⟩
 | false=>
  have AD1:Hid (Dr w B a len cap size (w1.alloc (.cells #[iV 6,iV 6,iV 17,iV 1] 2))):=D1.out.alloc _;have hBD1:B < w1.heap.size:=UM D1.out.hB D1.out.le;go_wp2_with fail
  refine(aT 4 B a len cap size _ (by omega) (by omega) hl AD1.out.src).mono ?_;rintro e w3 ⟨r,rfl,r0,r1,hs2,hg2⟩;obtain⟨k,rfl⟩:=TZ r0;obtain⟨x,hcell,hx⟩:=pT (k:=k) [6,6,17,1] hg2 hBD1 (by simp;omega);have r1':(k:Int) < 4:=by omega
  have D3:Hid (Dr w B a len cap size w3):=AD1.out.draw hs2 hg2;have HX:Hid (0≤x∧x≤255):=by simp at hx;unfold Hid;omega
  clear hs2 hg2 r0 r1 AD1 D1 hx;go_wp2_with fail
  go_ret;exact⟨x,rfl,HX.out.1,HX.out.2,D3.out.src,D3.out.grown⟩
theorem xH(B:Nat)(a:OA)(len cap:Nat)(size:Int)(w:World)(hl:len≤1048576)(hs:iT w B a len cap size) :
  Calls Tryz.prog 93 #[.pointer (some ⟨B,0,none⟩)] w fun e w'=>∃r,e=.returned (iV r)∧-1≤r∧r≤256∧iT w' B a len cap size∧w.grownBy w' (some B):=by
 have D0:Hid (Dr w B a len cap size w):=Dr.start hs;clear hs;go_enter Tryz.func93,Tryz.ntmps93
 go_wp2_with fail
 refine(bO 12 B a len cap size _ (by omega) hl D0.out.src).mono ?_;rintro e w1 ⟨b,rfl,hs1,hg1⟩;have D1:Hid (Dr w B a len cap size w1):=D0.out.draw hs1 hg1;clear hs1 hg1 D0
 cases b with
 | true=>
  go_wp2_with fail
  refine(aT 256 B a len cap size _ (by omega) (by omega) hl D1.out.src).mono ?_;rintro e w2 ⟨y,rfl,y0,y1,hs1,hg1⟩;have D2:Hid (Dr w B a len cap size w2):=D1.out.draw hs1 hg1;clear hs1 hg1 D1;have AD2:Hid (Dr w B a len cap size (w2.alloc (.cells #[iV (-1),iV 255,iV 256,iV y] 2))):=D2.out.alloc _;have hBD2:B < w2.heap.size:=UM D2.out.hB D2.out.le;go_wp2_with fail
  refine(aT 4 B a len cap size _ (by omega) (by omega) hl AD2.out.src).mono ?_;rintro e w3 ⟨r,rfl,r0,r1,hs2,hg2⟩;obtain⟨k,rfl⟩:=TZ r0;obtain⟨x,hcell,hx⟩:=pT (k:=k) [-1,255,256,y] hg2 hBD2 (by simp;omega);have r1':(k:Int) < 4:=by omega
  have D3:Hid (Dr w B a len cap size w3):=AD2.out.draw hs2 hg2;have HX:Hid (-1≤x∧x≤256):=by simp at hx;unfold Hid;omega
  clear hs2 hg2 r0 r1 AD2 D2 hx;go_wp2_with fail
  go_ret;exact⟨x,rfl,HX.out.1,HX.out.2,D3.out.src,D3.out.grown⟩
 | false=>
  have AD1:Hid (Dr w B a len cap size (w1.alloc (.cells #[iV 2,iV 18,iV 16,iV 17,iV 4,iV 1,iV 24] 2))):=D1.out.alloc _;have hBD1:B < w1.heap.size:=UM D1.out.hB D1.out.le;go_wp2_with fail
  refine(aT 7 B a len cap size _ (by omega) (by omega) hl AD1.out.src).mono ?_;rintro e w3 ⟨r,rfl,r0,r1,hs2,hg2⟩;obtain⟨k,rfl⟩:=TZ r0;obtain⟨x,hcell,hx⟩:=pT (k:=k) [2,18,16,17,4,1,24] hg2 hBD1 (by simp;omega);have r1':(k:Int) < 7:=by omega
  have D3:Hid (Dr w B a len cap size w3):=AD1.out.draw hs2 hg2;have HX:Hid (-1≤x∧x≤256):=by simp at hx;unfold Hid;omega
  clear hs2 hg2 r0 r1 AD1 D1 hx;go_wp2_with fail
  go_ret;exact⟨x,rfl,HX.out.1,HX.out.2,D3.out.src,D3.out.grown⟩
theorem xI(B:Nat)(a:OA)(len cap:Nat)(size:Int)(w:World)(hl:len≤1048576)(hs:iT w B a len cap size) :
  Calls Tryz.prog 124 #[.pointer (some ⟨B,0,none⟩)] w fun e w'=>∃l,e=.returned (xS l)∧FA l∧iT w' B a len cap size∧w.grownBy w' (some B):=by
 have hBW:B < w.heap.size:=(Dr.start hs).hB;have O0:Hid (aA (w.alloc (.cells lW.toArray 25)) w.heap.size lW):=aA.new w lW _;have D0:Hid (Dr w B a len cap size (w.alloc (.cells lW.toArray 25))):=(Dr.start hs).alloc _;rw[show lW.toArray=#[iV 0,iV 0,iV 0,iV 0,iV 0] from rfl]at O0 D0;clear hs;unfold xS;go_enter Tryz.func124,Tryz.ntmps124
 go_wp2_with fail
 refine(aT 9 B a len cap size _ (by omega) (by omega) hl D0.out.src).mono ?_;rintro e w1 ⟨r1,rfl,lo1,hi1,hs,hg⟩;have D1:Hid (Dr w B a len cap size w1):=D0.out.draw hs hg;have O1:Hid (aA w1 w.heap.size lW):=O0.out.grown (by simp[lW]) hg (by simp;omega);clear hs hg D0 O0;go_wp2_with fail
 refine(aT 9 B a len cap size _ (by omega) (by omega) hl D1.out.src).mono ?_;rintro e w2 ⟨r2,rfl,lo2,hi2,hs,hg⟩;have D2:Hid (Dr w B a len cap size w2):=D1.out.draw hs hg;have O2:Hid (aA w2 w.heap.size lW):=O1.out.grown (by simp[lW]) hg (by simp;omega);clear hs hg D1 O1;go_wp2_with fail
 refine(aT 9 B a len cap size _ (by omega) (by omega) hl D2.out.src).mono ?_;rintro e w3 ⟨r3,rfl,lo3,hi3,hs,hg⟩;have D3:Hid (Dr w B a len cap size w3):=D2.out.draw hs hg;have O3:Hid (aA w3 w.heap.size lW):=O2.out.grown (by simp[lW]) hg (by simp;omega);clear hs hg D2 O2;obtain⟨l0,hl0⟩: ∃l:Lv,l=⟨5+r1,1+r2,4,20+r3,3⟩:=⟨_,rfl⟩;have L4:Hid (aA (w3.alloc (.cells (IW l0).toArray 25)) w3.heap.size (IW l0)):=aA.new w3 (IW l0) _;have D4:Hid (Dr w B a len cap size (w3.alloc (.cells (IW l0).toArray 25))):=D3.out.alloc _;have O4:Hid (aA (w3.alloc (.cells (IW l0).toArray 25)) w.heap.size lW):=O3.out.alloc _;have K0:Hid (FA l0):=by unfold Hid FA;rw[hl0];dsimp only;omega
 have hX:w.heap.size < w3.heap.size:=O3.out.lt (by simp[lW]);rw[show (IW l0).toArray=#[iV (5+r1),iV (1+r2),iV 4,iV (20+r3),iV 3] by rw[hl0];rfl]at L4 D4 O4;clear D3 O3 hl0;go_wp2_with fail
 refine(bO 30 B a len cap size _ (by omega) hl D4.out.src).mono ?_;rintro e w5 ⟨c5,rfl,hs,hg⟩;have D5:Hid (Dr w B a len cap size w5):=D4.out.draw hs hg;have O5:Hid (aA w5 w.heap.size lW):=O4.out.grown (by simp[lW]) hg (by simp;omega);have L5:Hid (aA w5 w3.heap.size (IW l0)):=L4.out.grown (by simp[IW]) hg (by simp;omega);clear hs hg D4 O4 L4 lo1 lo2 lo3 hi1 hi2 hi3;have hXB:w3.heap.size≠B:=by omega
 generalize w3.heap.size=X at *;go_upto_if 15 with fail
 go_cut [] (fun wx=>∃l,FA l∧aA wx X (IW l)∧aA wx w.heap.size lW∧Dr w B a len cap size wx)
 case first=>
  cases c5 with
  | false=>
   go_wp2_with fail
   go_meet;exact⟨l0,K0.out,L5.out,O5.out,D5.out⟩
  | true=>
   have A5:Hid (Dr w B a len cap size (w5.alloc (.cells #[iV 0,iV 10000,iV 10001] 2))):=D5.out.alloc _;have AL:Hid (aA (w5.alloc (.cells #[iV 0,iV 10000,iV 10001] 2)) X (IW l0)):=L5.out.alloc _;have AO:Hid (aA (w5.alloc (.cells #[iV 0,iV 10000,iV 10001] 2)) w.heap.size lW):=O5.out.alloc _;have hB5:B < w5.heap.size:=UM D5.out.hB D5.out.le;go_wp2_with fail
   refine(aT 3 B a len cap size _ (by omega) (by omega) hl A5.out.src).mono ?_;rintro e w6 ⟨r,rfl,r0,r1,hs2,hg2⟩;obtain⟨k,rfl⟩:=TZ r0;obtain⟨x,hcell,hx⟩:=pT (k:=k) [0,10000,10001] hg2 hB5 (by simp;omega);have r1':(k:Int) < 3:=by omega
   have D6:Hid (Dr w B a len cap size w6):=A5.out.draw hs2 hg2;have L6:Hid (aA w6 X (IW l0)):=AL.out.grown (by simp[IW]) hg2 (by simp;omega);have O6:Hid (aA w6 w.heap.size lW):=AO.out.grown (by simp[lW]) hg2 (by simp;omega);have K6:Hid (FA { l0 with udp:=x }):=⟨by simp at hx;dsimp only;omega,K0.out.2⟩;have y0:=L6.out.free (j:=0) (by simp[IW]);have x0:=L6.out.cell (j:=0) rfl;have L7:Hid (aA (w6.setCell ⟨X,0,none⟩ (iV x)) X (IW { l0 with udp:=x })):=L6.out.set 0 _;have O7:Hid (aA (w6.setCell ⟨X,0,none⟩ (iV x)) w.heap.size lW):=O6.out.setOther (by omega) _;have D7:Hid (Dr w B a len cap size (w6.setCell ⟨X,0,none⟩ (iV x))):=D6.out.set X 0 _ (by omega);clear hs2 hg2 r0 r1 A5 AL AO L5 O5 D5 hx L6 O6 D6;go_wp2_with fail
   go_meet;exact⟨_,K6.out,L7.out,O7.out,D7.out⟩
 case rest=>
 obtain⟨l,hK,hL,hO,hD⟩:=hcut;have K8:Hid (FA l):=hK;obtain⟨k0,k1,k2,k3,k4⟩:=hL.c5;obtain⟨z0,z1,z2,z3,z4⟩:=hO.c5;have zf0:=hO.free (j:=0) (by simp[lW]);have zf1:=hO.free (j:=1) (by simp[lW]);have zf2:=hO.free (j:=2) (by simp[lW]);have zf3:=hO.free (j:=3) (by simp[lW]);have zf4:=hO.free (j:=4) (by simp[lW]);have PF:Hid (∀v0 v1 v2 v3 v4,Dr w B a len cap size ((sW (sW (sW (sW wc w.heap.size 0 v0) w.heap.size 1 v1) w.heap.size 2 v2) w.heap.size 3 v3).setCell ⟨w.heap.size,4,none⟩ v4)):=fun v0 v1 v2 v3 v4=>((((hD.set _ 0 v0 lR).set _ 1 v1 lR).set _ 2 v2 lR).set _ 3 v3 lR).set _ 4 v4 lR
 clear hK hL hO hD L5 O5 D5 K0;go_wp2_with fail
 refine UQ (v:=.agg #[iV l.udp,iV l.echo,iV l.opening,iV l.opn,iV l.closing]) (by simp[results,Tryz.results124,go_sem,z0,z1,z2,z3,z4]) rfl ⟨l,rfl,K8.out,(PF.out _ _ _ _ _).src,(PF.out _ _ _ _ _).grown⟩
def FH(n B:Nat)(cs:List Value):Value→World→Prop:=fun v w=>∃g,v=.slice (some ⟨g,0,none⟩) cs.length cs.length∧n≤g∧g≠B∧aA w g cs
def NW(n B:Nat)(cs:List Value):Value→World→Prop:=fun v w=>∃g k,v=.slice (some ⟨g,0,none⟩) k cs.length∧1≤k∧k≤cs.length∧n≤g∧g≠B∧aA w g cs
def FG(n B:Nat)(cs:List Value):Value→World→Prop:=fun v w=>∃g,v=.pointer (some ⟨g,0,none⟩)∧n≤g∧g≠B∧aA w g cs
def RW:Value→World→Prop:=fun v _=>∃l,v=xS l∧FA l
def JH(n:Nat):Value→World→Prop:=fun v _=>∃s:BA,v=.string s∧s.size≤n
section
variable {B n:Nat} {cs:List Value}
theorem EB.holds{w w':World}(h:EB B w w'){g:Nat}(hc:aA w g cs)(hl:0 < cs.length)(hg:g≠B):aA w' g cs:=hc.grown hl h (by simp;exact hg)
theorem JB(hl:0 < cs.length):cU (EB B) (FH n B cs):=fun v w w' ⟨g,h1,h2,h3,h4⟩ he=>⟨g,h1,h2,h3,EB.holds he h4 hl h3⟩
theorem OX(hl:0 < cs.length):cU (EB B) (NW n B cs):=fun v w w' ⟨g,k,h1,h2,h3,h4,h5,h6⟩ he=>⟨g,k,h1,h2,h3,h4,h5,EB.holds he h6 hl h5⟩
theorem BF(hl:0 < cs.length):cU (EB B) (FG n B cs):=fun v w w' ⟨g,h1,h2,h3,h4⟩ he=>⟨g,h1,h2,h3,EB.holds he h4 hl h3⟩
theorem QT:cU (EB B) RW:=fun _ _ _ h _=>h
theorem JC:cU (EB B) (JH n):=fun _ _ _ h _=>h
end
def pH(p:Pl):Prop:=1≤p.VA.length∧p.VA.length≤3∧∀s∈p.VA,s.size≤4
def gL:List Value:=jU
structure PS(w:World)(B:Nat)(a:OA)(len cap:Nat)(size:Int)(R X:Nat)(pa:OA)(pc:Nat)(p:Pl)(wx:World):Prop where
 dr:Dr w B a len cap size wx
 out:aA wx R gL
 box:aA wx X (EY pa pc p)
 ok:pH p
 cap:p.VA.length≤pc
 sl:bP bX 1 wx pa p.VA
 far:∀g o,pa=some ⟨g,o,none⟩→w.heap.size≤g∧g≠X∧g≠R
 hX:w.heap.size≤X
 hR:w.heap.size≤R
 ne:X≠R
section
variable {w wx wy:World} {B:Nat} {a:OA} {len cap:Nat} {size:Int} {R X:Nat} {pa:OA} {pc:Nat} {p:Pl}
theorem PS.draw(h:PS w B a len cap size R X pa pc p wx)(hs:iT wy B a len cap size)(hg:wx.grownBy wy (some B)):PS w B a len cap size R X pa pc p wy:=by
 have hB:=h.dr.hB;have hX:=h.hX;have hR:=h.hR;refine⟨h.dr.draw hs hg,h.out.grown (by simp[gL]) hg (by simp;omega),h.box.grown (by simp[EY]) hg (by simp;omega),h.ok,h.cap,h.sl.grown hg (.inr fun g o e=>?_),h.far,h.hX,h.hR,h.ne⟩;have:=(h.far g o e).1;omega
theorem PS.below(h:PS w B a len cap size R X pa pc p wx)(hb:Below wx.heap.size wx wy):PS w B a len cap size R X pa pc p wy :=
 ⟨h.dr.below hb,h.out.kept (by simp[gL]) hb,h.box.kept (by simp[EY]) hb,h.ok,h.cap,h.sl.below hb,h.far,h.hX,h.hR,h.ne⟩
theorem PS.alloc(h:PS w B a len cap size R X pa pc p wx)(o:Obj):PS w B a len cap size R X pa pc p (wx.alloc o):=h.below (bR.alloc lR o)
theorem PS.set(h:PS w B a len cap size R X pa pc p wx)(j:Nat)(v:Value)(q:Pl)(hq:(EY pa pc p).set j v=EY pa pc q)(ha:q.VA=p.VA):PS w B a len cap size R X pa pc q (wx.setCell ⟨X,j,none⟩ v):=by
 have hb:=h.box.set j v;rw[hq]at hb;refine⟨h.dr.set X j v h.hX,h.out.setOther h.ne.symm v,hb,?_,by rw[ha];exact h.cap,?_,h.far,h.hX,h.hR,h.ne⟩
 ·unfold pH;rw[ha];exact h.ok
 ·rw[ha];exact h.sl.grown (aH wx X j v) (.inr fun g o e=>(h.far g o e).2.1)
theorem PS.setA(h:PS w B a len cap size R X pa pc p wx)(qa:OA)(qc:Nat)(xs:List BA)(hok:pH { p with VA:=xs })(hc:xs.length≤qc)(hs:bP bX 1 wx qa xs)(hf:∀g o,qa=some ⟨g,o,none⟩→w.heap.size≤g∧g≠X∧g≠R):PS w B a len cap size R X qa qc { p with VA:=xs } (wx.setCell ⟨X,0,none⟩ (.slice qa xs.length qc)):=by
 have hb:=h.box.set 0 (.slice qa xs.length qc);refine⟨h.dr.set X 0 _ h.hX,h.out.setOther h.ne.symm _,hb,hok,hc,hs.grown (aH wx X 0 _) (.inr fun g o e=>(hf g o e).2.1),hf,h.hX,h.hR,h.ne⟩
theorem PS.row{r:Option Nat}(h:PS w B a len cap size R X pa pc p wx)(hg:wx.grownBy wy r)(n:Nat)(hr:∀k,r=some k→n≤k)(hn:w.heap.size≤n)(hXn:X < n)(hRn:R < n)(hf:∀g o,pa=some ⟨g,o,none⟩→g < n):PS w B a len cap size R X pa pc p wy:=by
 have hB:=h.dr.hB;refine⟨⟨h.dr.src.kept hg (fun k e=>by have:=hr k e;omega),?_,h.dr.hB⟩,h.out.grown (by simp[gL]) hg (fun e=>by have:=hr R e.symm;omega),h.box.grown (by simp[EY]) hg (fun e=>by have:=hr X e.symm;omega),h.ok,h.cap,?_,h.far,h.hX,h.hR,h.ne⟩
 ·have h1:=h.dr.grown;refine⟨hg.os.trans h1.os,hg.tape.trans h1.tape,hg.output.trans h1.output,UA h1.size hg.size,fun k hk hne=>?_⟩;exact(hg.block k (UM hk h1.size) (fun e=>by have:=hr k e.symm;omega)).trans (h1.block k hk hne)
 ·cases r with
  | none=>exact h.sl.below ⟨hg.os,hg.tape,hg.output,hg.size,fun k hk=>hg.block k hk (by simp)⟩
  | some k=>exact h.sl.grown hg (.inr fun g o e=>by have:=hf g o e;have:=hr k rfl;omega)
end
theorem AV{w w':World}{B base n s:Nat}{e:TypeId}{v:Value}{xs:List Value}(h:w.ownsRow base e s v n xs)(he:EB B w w')(hB:B < base):w'.ownsRow base e s v n xs:=World.ownsRow.kept h he (.inr (dU h hB))
def RX(base:Nat)(e:TypeId):Value→World→Prop:=fun v w=>∃g,v=.slice (some ⟨g,0,none⟩) 0 0∧w.ownsRow base e 1 v 0 []
def RY(base:Nat)(e:TypeId)(xs:List BA):Value→World→Prop:=fun v w=>w.ownsRow base e 1 v xs.length (dK bX xs)
theorem QU{B base:Nat}{e:TypeId}(hB:B < base):cU (EB B) (RX base e):=fun v w w' ⟨g,h1,h2⟩ he=>⟨g,h1,AV h2 he hB⟩
theorem QW{B base:Nat}{e:TypeId}{xs:List BA}(hB:B < base):cU (EB B) (RY base e xs):=fun v w w' h he=>AV h he hB
def QC(B n:Nat):Value→World→Prop:=fun v w=>∃b k s,v=.pointer (some ⟨b,k,none⟩)∧b≠B∧w.cell? ⟨b,k,none⟩=some (.string s)∧s.size≤n
theorem NF{B n:Nat}:cU (EB B) (QC B n):=fun v w w' ⟨b,k,s,h1,h2,h3,h4⟩ he=>⟨b,k,s,h1,h2,he.cell h3 h2,h4⟩
def LJ(B n:Nat):Value→World→Prop:=fun v w=>∃g s,v=.slice (some ⟨g,0,none⟩) 1 1∧g≠B∧s.size≤n∧aA w g [.string s]
theorem NJ{B n:Nat}:cU (EB B) (LJ B n):=fun v w w' ⟨g,s,h1,h2,h3,h4⟩ he=>⟨g,s,h1,h2,h3,EB.holds he h4 (by simp) h2⟩
theorem Tryz.infoTx:(Tryz.prog.info? 9).map (fun i=>(i.zero,i.size,i.bytes))=some (some eS,1,16):=by kernel_rfl
theorem CJ{base g0 cap:Nat}{a:OA}{ty:TypeId}{xs:List BA}{w:World}(hx:bP bX 1 w a xs)(hn:xs≠[])(hl:xs.length≤1048576)(hb:base≤w.heap.size) :
  ∃v' w',(Builtin.append_ #[23,23] ty #[.slice (some ⟨g0,0,none⟩) 0 0,.slice a xs.length cap]).run Tryz.prog w=.ok v' w'∧w'.ownsRow base 9 1 v' xs.length (dK bX xs)∧Below w.heap.size w w':=by
 obtain⟨i0,hi,hz0,hz1,hz2⟩:=info_parts Tryz.infoTx;rcases hx with e|⟨b,off,rfl,hbl,hx⟩
 ·exact absurd e hn
 have hpos:0 < xs.length:=List.length_pos_iff.2 hn;obtain⟨v',w',hr,h1,h2⟩:=run_append_arg_grows (P:=Tryz.prog) w 23 ty 9 i0 _ 1 _ Tryz.underlying23 hi hz0 hz1 hz2 rfl (by decide) ⟨g0,0,none⟩ 0 0 [] (by simp) (fun j u hu=>by simp at hu) ⟨b,off,none⟩ xs.length cap (dK bX xs) (fP mF xs) (fun j u hu=>by
  rw[Addr.add_lit];exact pK mF (by omega) hx j u hu) (by omega) (by unfold maxLen;omega) (by omega)
 refine⟨v',w',hr,?_,⟨h2.os,h2.tape,h2.output,h2.size,fun k hk=>h2.block k hk (by simp)⟩⟩;rw[TX,UB]at h1;refine⟨h1.1,?_⟩;rcases h1.2 with h3|⟨g,c,cur,h3,h4,h5⟩
 ·exact .inl h3
 ·exact .inr ⟨g,c,cur,h3,UA hb h4,h5⟩
theorem FZ{w:World}{g:Nat}(ss:List BA)(k:Nat)(hk:k≤ss.length)(h:aA w g (ss.map Value.string))(hl:0 < ss.length):bP bX 1 w (some ⟨g,0,none⟩) (ss.take k):=by
 refine .inr ⟨g,0,rfl,h.lt (by simpa using hl),fun i hi j v hv=>?_⟩;rw[List.length_take]at hi;match j with
 | 0=>
  simp[bX]at hv;subst hv;have:=h.cell (j:=i) (v:=.string ss[i]) (by simp[show i < ss.length by omega]);simpa using this
 | j+1=>simp[bX]at hv
theorem OD{w:World}{g X:Nat}{s:BA}{cs ds:List Value}{y:OA}{n c:Nat}(h1:aA w g (.string s::cs))(h2:aA w X (.slice y n c::ds)):g≠X:=by
 intro e;subst e;have a1:=h1.cell (j:=0) rfl;have a2:=h2.cell (j:=0) rfl;rw[a1]at a2;simp at a2
open Go.ChangeShapes
theorem xQ{B:Nat}:∀w,EB B w w:=fun _=>EB.of bR
variable {E:World→World→Prop} {I:World→Prop} {P:Program} {ops:Array Oper} {Q:Exit→Act→World→Prop} {ds:List Tmp} {a0:Act} {suf:List Oper} {Rs:List (Value→World→Prop)} {o:Oper} {l:List Oper} {v:Value}
theorem cP.u(hr:∀w,E w w)(hg:o.guard=none)(h1:∀(K':Act→World→Prop) (a:Act) (wy:World),(∀t,t ∉ ds→aD a t=aD a0 t)→(∀e∈o.after,Region.binds .any e=true→aS (Rs++[aF v]) e.on (aD a (ds.getD e.on 0)) wy)→I wy→(∀x,x=v→K' (a.put o.dst x) wy)→Oper.wp P o a wy K' Q)(h2:cP E I P ops Q ds a0 suf (Rs++[aF v]) l):cP E I P ops Q ds a0 suf Rs (o::l) :=
 ⟨aF v,fun _ _ _ h _=>h,fun K' a w ho hd hI hK=>by
  rw[if_pos (uQ hg)];exact h1 K' a w ho hd hI fun x hx=>hK x w (by simp[aS,aF,hx]) (hr w) hI,h2⟩
end Go.Proofs.YtdkepkaflielhaaGreatDoor
