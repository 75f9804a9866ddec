import Derived.Test.YtdkepkaflielhaaGreatDoorMerged9
import Derived.Test.YtdkepkaflielhaaGreatDoorMerged3
import Derived.Test.YtdkepkaflielhaaGreatDoorMerged11
import Derived.Test.YtdkepkaflielhaaGreatDoorDrawTr
set_option linter.unusedVariables false
set_option linter.unusedSimpArgs false
set_option maxRecDepth 100000
set_option maxHeartbeats 8000000
namespace Go.Proofs.YtdkepkaflielhaaGreatDoor
open Go.RowKit Go.PlainAid
theorem cG{w:World}{base n s X j:Nat}{e:TypeId}{v u:Value}{xs:List Value}(h:w.ownsRow base e s v n xs)(hne:v.ownBlock≠some X):(w.setCell ⟨X,j,none⟩ u).ownsRow base e s v n xs:=by
 obtain⟨h1,h2⟩:=h;refine⟨h1,?_⟩;rcases h2 with h2|⟨g,cap,cur,rfl,hg,hh,h3⟩
 ·exact .inl h2
 ·exact .inr ⟨g,cap,cur,rfl,hg,(Below.heap_setCell w _ u g (fun e=>hne (by simpa[Value.ownBlock] using e))).trans hh,h3⟩
theorem fC{w:World}{base n s g:Nat}{e:TypeId}{v:Value}{xs:List Value}(h:w.ownsRow base e s v n xs)(hg:v.ownBlock=some g):base≤g∧g < w.heap.size:=by
 rcases h.2 with ⟨rfl,_⟩|⟨g',cap,cur,rfl,hb,hh,_⟩
 ·simp[Value.ownBlock]at hg
 ·simp[Value.ownBlock]at hg;subst hg;exact⟨hb,(UT.1 hh).1⟩
theorem dX{w:World}{base n s:Nat}{e:TypeId}{v:Value}{xs:List Value}(h:w.ownsRow base e s v n xs){X:Nat}(hX:X < base):v.ownBlock≠some X:=fun e=>by have:=(fC h e).1;omega
theorem zX(q:Bd):∀u∈dP q,u.oneCell'=true:=fun u hu=>by simp[dP]at hu;rcases hu with rfl|rfl|rfl|rfl|rfl<;>rfl
theorem BQ(q:Ss):∀u∈fZ q,u.oneCell'=true:=fun u hu=>by simp[fZ]at hu;rcases hu with rfl|rfl|rfl|rfl|rfl|rfl|rfl<;>rfl
theorem rK(g i:Nat):(⟨g,0,none⟩: Addr).add i=⟨g,i,none⟩:=by cases i<;>simp[Addr.add]
structure ST(w:World)(cs:List Value)(bv sv:Value)(ys:List Bd)(zs:List Ss)(wx:World):Prop where
 x:aA wx w.heap.size cs
 r:aA wx (w.heap.size+1) [.slice none 0 0,.slice none 0 0]
 o:aA wx (w.heap.size+1+1) [bv,sv]
 bo:wx.ownsRow (w.heap.size+1+1+1) 48 5 bv ys.length (dL dP ys)
 so:wx.ownsRow (w.heap.size+1+1+1) 59 7 sv zs.length (dL fZ zs)
 b:Below w.heap.size w wx
 ne:∀g,bv.ownBlock=some g→sv.ownBlock=some g→False
section
variable {w:World} {cs:List Value} {bv sv:Value} {ys:List Bd} {zs:List Ss} {wx wy:World}
theorem oJ{row:Option Nat}(hb:Below w.heap.size w wx)(hg:wx.grownBy wy row)(hr:∀g,row=some g→w.heap.size≤g):Below w.heap.size w wy :=
 ⟨hg.os.trans hb.os,hg.tape.trans hb.tape,hg.output.trans hb.output,UL hb.size hg.size,fun k hk=>by
  rw[hg.block k (UX hk hb.size) (fun e=>by have:=hr k e.symm;omega)];exact hb.block k hk⟩
end
theorem BO(s d:BA)(w:World)(hs:s.size≤1000)(hd:d.size≤1000) :
  Cw 31 #[.string s,.string d] w (.bool (cO s&&decide (s.size=d.size))):=by
 have HA:Hid (∀W,Cw 65 #[.string s] W (.bool (cO s))):=fun W=>jC s W
 have hun:undef=Value.tuple #[]:=rfl;generalize cO s=b at *;by_cases h:s.size=d.size
 ·have dh:((s.size:Int)==(d.size:Int))=true:=by simp;omega
  rw[UE h];clear h
  cases b;all_goals go_enter Tryz.func31,Tryz.ntmps31
  all_goals go_wp2_with fail
  all_goals refine(HA.out _).mono ?_
  all_goals rintro e w2 ⟨rfl,rfl⟩
  all_goals go_wp2_with fail
  all_goals go_ret
  all_goals exact⟨rfl,rfl⟩
 ·have dh:((s.size:Int)==(d.size:Int))=false:=by simp;omega
  rw[UD h]
  cases b;all_goals go_enter Tryz.func31,Tryz.ntmps31
  all_goals go_wp2_with fail
  all_goals refine(HA.out _).mono ?_
  all_goals rintro e w2 ⟨rfl,rfl⟩
  all_goals go_wp2_with fail
  all_goals go_ret
  all_goals exact⟨rfl,rfl⟩
def dQ(p:Int):Nat:=if p=6 then 16 else if p=17 then 6 else 2
theorem yN(p:Int)(w:World) :
  Cw 74 #[iV p] w (iV (dQ p:Nat)):=by
 by_cases h1:p=6
 ·subst h1;go_enter Tryz.func74,Tryz.ntmps74
  go_wp2_with fail
  go_ret;exact⟨rfl,rfl⟩
 ·have d1:(p==6)=false:=by simp[h1]
  by_cases h2:p=17
  ·subst h2;go_enter Tryz.func74,Tryz.ntmps74
   go_wp2_with fail
   go_ret;exact⟨rfl,rfl⟩
  ·have d2:(p==17)=false:=by simp[h2]
   have HV:Hid (dQ p=2):=by unfold Hid dQ;rw[if_neg h1,if_neg h2]
   generalize dQ p=ans at *;go_enter Tryz.func74,Tryz.ntmps74
   go_wp2_with fail
   go_ret;exact⟨aK (by rw[HV.out];rfl),rfl⟩
theorem iQ(s:BA)(k:Nat)(t:BA)(w:World)(h:k+t.size≤s.size)(hs:s.size≤100000) :
  Calls Tryz.prog 72 #[.string s,iV k,.string t] w fun e w'=>∃u:BA,e=.returned (.string u)∧(u.size=s.size∧∀i,k+t.size≤i→i < s.size→bt u i=bt s i)∧Below w.heap.size w w':=by
 have HPB:Hid (∀i,k+t.size≤i→i < s.size→bt (s.extract 0 k++t++s.extract (k+t.size) s.size) i=bt s i):=fun i hi hl=>by
  have s1:(s.extract 0 k).size=k:=by rw[UR];omega
  rw[dW,if_neg (by rw[UQ,s1];omega),fB _ _ _ _ lR,UQ,s1,if_pos (by omega),show k+t.size+(i-(k+t.size))=i by omega]
 have L1:∀W,(Instr.slice 9 (.string s) none (some (iV k)) none).run Tryz.prog W=.ok (.string (s.extract 0 k)) W:=fun W=>by
  rw[run_slice_string_h (P:=Tryz.prog) (t:=9) (s:=s) (w:=W) (ht:=Tryz.underlying9) .i64 (k:Int) (by omega) (by omega),show ((k:Int)).toNat=k by omega]
 have L2:∀W,(Instr.slice 9 (.string s) (some (iV ((k:Int)+t.size))) none none).run Tryz.prog W=.ok (.string (s.extract (k+t.size) s.size)) W:=fun W=>by
  rw[run_slice_string_l (P:=Tryz.prog) (t:=9) (s:=s) (w:=W) (ht:=Tryz.underlying9) .i64 ((k:Int)+t.size) (by omega) (by omega),show ((k:Int)+t.size).toNat=k+t.size by omega]
 have z1:(s.extract 0 k).size=k:=by rw[UR];omega
 have z2:(s.extract (k+t.size) s.size).size=s.size-(k+t.size):=by rw[UR];omega
 have HZ:Hid ((s.extract 0 k++t++s.extract (k+t.size) s.size).size=s.size):=by unfold Hid;simp only[UQ];omega
 generalize s.extract 0 k=u1 at *;generalize s.extract (k+t.size) s.size=u2 at *;have n1:¬9223372036854775807 < u1.size+t.size:=by omega
 have n2:¬9223372036854775807 < u1.size+t.size+u2.size:=by omega
 have hw:IntKind.i64.wrap ((k:Int)+t.size)=(k:Int)+t.size:=by rw[IntKind.wrap_i64];omega
 have HZ1:Hid (u1.size=k):=z1;have HZ2:Hid (u2.size=s.size-(k+t.size)):=z2;clear z1 z2;go_enter Tryz.func72,Tryz.ntmps72
 go_wp2_with fail
 go_region
 all_goals go_wp2_with fail
 all_goals go_ret
 all_goals exact⟨_,rfl,⟨HZ.out,HPB.out⟩,bR.drew⟩
def jZ(x y:Int):BA:=⟨#[UInt8.ofNat x.toNat,0,0,UInt8.ofNat y.toNat]⟩
theorem oS(x y:Int):(jZ x y).size=4:=rfl
def rI(x y:Int):Value→World→Prop:=fun v w=>∃b,v=.slice (some ⟨b,0,none⟩) 4 4∧w.cell? ⟨b,0,none⟩=some (.int .u8 x)∧w.cell? ⟨b,1,none⟩=some (.int .u8 0)∧w.cell? ⟨b,2,none⟩=some (.int .u8 0)∧w.cell? ⟨b,3,none⟩=some (.int .u8 y)
theorem nP(x y:Int):eZ (rI x y):=fun v w w' ⟨b,h1,h2,h3,h4,h5⟩ hb=>by
 have hlt:=US w _ h2;exact⟨b,h1,((iO hb).1 b 0 hlt).trans h2,((iO hb).1 b 1 hlt).trans h3,((iO hb).1 b 2 hlt).trans h4,((iO hb).1 b 3 hlt).trans h5⟩
theorem tO{w:World}{b cap:Nat}{x y:Int}(hx:0≤x∧x≤255)(hy:0≤y∧y≤255)(h0:w.cell? ⟨b,0,none⟩=some (.int .u8 x))(h1:w.cell? ⟨b,1,none⟩=some (.int .u8 0))(h2:w.cell? ⟨b,2,none⟩=some (.int .u8 0))(h3:w.cell? ⟨b,3,none⟩=some (.int .u8 y)) :
  (convert 22 9 (.slice (some ⟨b,0,none⟩) 4 cap)).run Tryz.prog w=.ok (.string (jZ x y)) w :=
 run_convert_bytes_back (P:=Tryz.prog) w 22 9 5 ⟨b,0,none⟩ cap [UInt8.ofNat x.toNat,0,0,UInt8.ofNat y.toNat] Tryz.underlying22 Tryz.underlying5 Tryz.underlying9 (by
  intro j hj;match j,hj with
  | 0,_=>simp only[Addr.add,Nat.add_zero,UZ];rw[fM _ hx.1 hx.2];exact h0
  | 1,_=>simp only[Addr.add,UI,List.getElem_cons_succ,UZ];exact h1
  | 2,_=>simp only[Addr.add,UI,List.getElem_cons_succ,UZ];exact h2
  | 3,_=>simp only[Addr.add,UI,List.getElem_cons_succ,UZ];rw[fM _ hy.1 hy.2];exact h3)
theorem xK(s d:BA)(p:Int)(n:Nat)(w:World)(hs:s.size≤16)(hd:d.size≤16)(hp:0≤p∧p≤255)(hn:n≤65535) :
  Calls Tryz.prog 71 #[.string s,.string d,iV p,iV n] w fun e w'=>∃u:BA,e=.returned (.string u)∧u.size≤60∧Below w.heap.size w w':=by
 have hun:undef=Value.tuple #[]:=rfl;have n1:¬9223372036854775807 < s.size+d.size:=by omega
 have z1:=nB 0 p;have z2:=aP (n:Int);by_cases h1:p=1∧s.size=4
 ·obtain⟨rfl,h4⟩:=h1;have d4:((s.size:Int)==4)=true:=by simp;omega
  clear h4;go_enter Tryz.func71,Tryz.ntmps71
  go_wp2_with fail
  go_ret;exact⟨_,rfl,by decide,Below.refl _ _⟩
 by_cases h4:s.size=4
 ·have d4:((s.size:Int)==4)=true:=by simp;omega
  have d1:(p==1)=false:=by simp;exact fun e=>h1 ⟨e,h4⟩
  clear h1 h4;have n2:¬9223372036854775807 < s.size+d.size+(kG 0 p).size:=by omega
  have n3:¬9223372036854775807 < s.size+d.size+(kG 0 p).size+(aR (n:Int)).size:=by omega
  have n2b:¬9223372036854775807 < s.size+d.size+2:=by omega
  have n3b:¬9223372036854775807 < s.size+d.size+2+2:=by omega
  have HZ:Hid ((s++d++kG 0 p++aR (n:Int)).size≤60):=by unfold Hid;simp only[UQ];omega
  go_enter Tryz.func71,Tryz.ntmps71
  go_upto_region 4 with fail
  go_cut [8] (fun v wx=>(∃u:BA,v=.string u∧u.size≤60)∧Below w.heap.size w wx)
  case first=>
   rename_i J K2 hJ hK2;clear hun;refine dG (Rs:=[aG (.string s),aG (.string d),aG (.string (s++d)),aG (iV p),aG (.int .u8 p),tX (0) (p),aG (.string (kG 0 p)),aG (.string (s++d++kG 0 p)),aG (iV (n:Int)),aG (.string (aR (n:Int))),aG (.string (s++d++kG 0 p++aR (n:Int))),aG (.string (s++d++kG 0 p++aR (n:Int)))]) [19,20,21,22,23,24,25,26,27,28,29,8] (by kernel_rfl) (by kernel_rfl) rfl ?st ?steps ?done
   case st=>simp[cF,kU]
   case steps=>
    refine⟨?s0,?s1,?s2,?s3,?s4,?s5,?s6,?s7,?s8,?s9,?s10,?s11,trivial⟩
    case s0=>
     intro K' a wy ho hd hb hK;have h3:=ho 0 (by decide);simp[aD]at h3;clear hd;go_simp;try go_bits
     exact hK _ _ rfl bR
    case s1=>
     intro K' a wy ho hd hb hK;have h3:=ho 1 (by decide);simp[aD]at h3;clear hd;go_simp;try go_bits
     exact hK _ _ rfl bR
    case s2=>
     intro K' a wy ho hd hb hK;simp[Region.binds,aU,aG,aD]at hd;go_simp;try go_bits
     exact hK _ _ rfl bR
    case s3=>
     intro K' a wy ho hd hb hK;have h3:=ho 2 (by decide);simp[aD]at h3;clear hd;go_simp;try go_bits
     exact hK _ _ rfl bR
    case s4=>
     intro K' a wy ho hd hb hK;simp[Region.binds,aU,aG,aD]at hd;go_simp;try go_bits
     exact hK _ _ rfl bR
    case s5=>
     intro K' a wy ho hd hb hK;simp[Region.binds,aU,aG,aD]at hd;go_simp;exact hK _ _ ⟨wy.heap.size,rfl,by simp,by simp⟩ (bR.alloc lR _)
    case s6=>
     intro K' a wy ho hd hb hK;simp only[List.forall_mem_singleton,Array.mem_def,List.mem_singleton,forall_eq]at hd;obtain⟨b,hd1,hd2,hd3⟩: tX (0) (p) (aD a 24) wy:=hd rfl;have hcv:=tM (cap:=2) (by omega) (by omega) hd2 hd3;simp[aD]at hd1;go_simp;try go_bits
     exact hK _ _ rfl bR
    case s7=>
     intro K' a wy ho hd hb hK;simp[Region.binds,aU,aG,aD]at hd;go_simp;try go_bits
     exact hK _ _ rfl bR
    case s8=>
     intro K' a wy ho hd hb hK;have h3:=ho 3 (by decide);simp[aD]at h3;clear hd;go_simp;try go_bits
     exact hK _ _ rfl bR
    case s9=>
     intro K' a wy ho hd hb hK;simp[Region.binds,aU,aG,aD]at hd;go_simp;refine(bY (n:Int) wy (by omega) (by omega)).mono ?_;rintro e wz ⟨rfl,hz⟩;exact hK _ _ rfl hz
    case s10=>
     intro K' a wy ho hd hb hK;simp[Region.binds,aU,aG,aD]at hd;go_simp;try go_bits
     exact hK _ _ rfl bR
    case s11=>
     intro K' a wy ho hd hb hK;simp[Region.binds,aU,aG,aD]at hd;go_simp;try go_bits
     exact hK _ _ rfl bR
   case done=>
    intro X wz hR hz;obtain⟨x0,x1,x2,x3,x4,⟨b5,x5,-,-⟩,x6,x7,x8,x9,x10,x11,-⟩:=hR;simp only[aG]at x0 x1 x2 x3 x4 x6 x7 x8 x9 x10 x11;simp only[aE,x0,x1,x2,x3,x4,x5,x6,x7,x8,x9,x10,x11];clear x0 x1 x2 x3 x4 x5 x6 x7 x8 x9 x10 x11;go_simp;refine hK2 _ _ (hJ _ _ ?_);(repeat apply Exists.intro)
    refine⟨⟨⟨_,rfl,HZ.out⟩,(Below.refl _ w).drew.trans hz⟩,rfl⟩
  case rest=>
  obtain⟨⟨u,rfl,hu⟩,hb⟩:=hcut;go_wp2_with fail
  go_ret;exact⟨u,rfl,hu,hb⟩
 ·have d4:((s.size:Int)==4)=false:=by simp;omega
  clear h1;have a1:=qL (n:Int);have n2:¬9223372036854775807 < s.size+d.size+(aR ((n:Int) / 65536)).size:=by rw[aP];omega
  have n3:¬9223372036854775807 < s.size+d.size+(aR ((n:Int) / 65536)).size+(aR ((n:Int) % 65536)).size:=by rw[aP,aP];omega
  have n4:¬9223372036854775807 < s.size+d.size+(aR ((n:Int) / 65536)).size+(aR ((n:Int) % 65536)).size+(jZ 0 p).size:=by rw[aP,aP,oS];omega
  have HZ:Hid ((s++d++aR ((n:Int) / 65536)++aR ((n:Int) % 65536)++jZ 0 p).size≤60):=by unfold Hid;simp only[UQ,aP,oS];omega
  by_cases dp:p=1
  ·have d1:(p==1)=true:=by simp[dp]
   clear dp;go_enter Tryz.func71,Tryz.ntmps71
   go_upto_region 5 with fail
   go_cut [8] (fun v wx=>(∃u:BA,v=.string u∧u.size≤60)∧Below w.heap.size w wx)
   case first=>
    rename_i J K2 hJ hK2;clear hun;refine dG (Rs:=[aG (.string s),aG (.string d),aG (.string (s++d)),aG (iV (n:Int)),aG (iV ((n:Int) / 65536)),aG (.string (aR ((n:Int) / 65536))),aG (.string (s++d++aR ((n:Int) / 65536))),aG (iV (n:Int)),aG (iV ((n:Int) % 65536)),aG (.string (aR ((n:Int) % 65536))),aG (.string (s++d++aR ((n:Int) / 65536)++aR ((n:Int) % 65536))),aG (iV p),aG (.int .u8 p),rI (0) (p),aG (.string (jZ 0 p)),aG (.string (s++d++aR ((n:Int) / 65536)++aR ((n:Int) % 65536)++jZ 0 p)),aG (.string (s++d++aR ((n:Int) / 65536)++aR ((n:Int) % 65536)++jZ 0 p))]) [30,31,32,33,34,35,36,37,38,39,40,41,42,43,44,45,8] (by kernel_rfl) (by kernel_rfl) rfl ?st ?steps ?done
    case st=>simp[cF,nP]
    case steps=>
     refine⟨?s0,?s1,?s2,?s3,?s4,?s5,?s6,?s7,?s8,?s9,?s10,?s11,?s12,?s13,?s14,?s15,?s16,trivial⟩
     case s0=>
      intro K' a wy ho hd hb hK;have h3:=ho 0 (by decide);simp[aD]at h3;clear hd;go_simp;try go_bits
      exact hK _ _ rfl bR
     case s1=>
      intro K' a wy ho hd hb hK;have h3:=ho 1 (by decide);simp[aD]at h3;clear hd;go_simp;try go_bits
      exact hK _ _ rfl bR
     case s2=>
      intro K' a wy ho hd hb hK;simp[Region.binds,aU,aG,aD]at hd;go_simp;try go_bits
      exact hK _ _ rfl bR
     case s3=>
      intro K' a wy ho hd hb hK;have h3:=ho 3 (by decide);simp[aD]at h3;clear hd;go_simp;try go_bits
      exact hK _ _ rfl bR
     case s4=>
      intro K' a wy ho hd hb hK;simp[Region.binds,aU,aG,aD]at hd;go_simp;try go_bits
      exact hK _ _ rfl bR
     case s5=>
      intro K' a wy ho hd hb hK;simp[Region.binds,aU,aG,aD]at hd;go_simp;refine(bY ((n:Int) / 65536) wy (by omega) (by omega)).mono ?_;rintro e wz ⟨rfl,hz⟩;exact hK _ _ rfl hz
     case s6=>
      intro K' a wy ho hd hb hK;simp[Region.binds,aU,aG,aD]at hd;go_simp;try go_bits
      exact hK _ _ rfl bR
     case s7=>
      intro K' a wy ho hd hb hK;have h3:=ho 3 (by decide);simp[aD]at h3;clear hd;go_simp;try go_bits
      exact hK _ _ rfl bR
     case s8=>
      intro K' a wy ho hd hb hK;simp[Region.binds,aU,aG,aD]at hd;go_simp;try go_bits
      exact hK _ _ rfl bR
     case s9=>
      intro K' a wy ho hd hb hK;simp[Region.binds,aU,aG,aD]at hd;go_simp;refine(bY ((n:Int) % 65536) wy (by omega) (by omega)).mono ?_;rintro e wz ⟨rfl,hz⟩;exact hK _ _ rfl hz
     case s10=>
      intro K' a wy ho hd hb hK;simp[Region.binds,aU,aG,aD]at hd;go_simp;try go_bits
      exact hK _ _ rfl bR
     case s11=>
      intro K' a wy ho hd hb hK;have h3:=ho 2 (by decide);simp[aD]at h3;clear hd;go_simp;try go_bits
      exact hK _ _ rfl bR
     case s12=>
      intro K' a wy ho hd hb hK;simp[Region.binds,aU,aG,aD]at hd;go_simp;try go_bits
      exact hK _ _ rfl bR
     case s13=>
      intro K' a wy ho hd hb hK;simp[Region.binds,aU,aG,aD]at hd;go_simp;exact hK _ _ ⟨wy.heap.size,rfl,by simp,by simp,by simp,by simp⟩ (bR.alloc lR _)
     case s14=>
      intro K' a wy ho hd hb hK;simp only[List.forall_mem_singleton,Array.mem_def,List.mem_singleton,forall_eq]at hd;obtain⟨b,hd1,hd2,hd3,hd4,hd5⟩: rI (0) (p) (aD a 43) wy:=hd rfl;have hcv:=tO (cap:=4) (by omega) (by omega) hd2 hd3 hd4 hd5;simp[aD]at hd1;go_simp;try go_bits
      exact hK _ _ rfl bR
     case s15=>
      intro K' a wy ho hd hb hK;simp[Region.binds,aU,aG,aD]at hd;go_simp;try go_bits
      exact hK _ _ rfl bR
     case s16=>
      intro K' a wy ho hd hb hK;simp[Region.binds,aU,aG,aD]at hd;go_simp;try go_bits
      exact hK _ _ rfl bR
    case done=>
     intro X wz hR hz;obtain⟨x0,x1,x2,x3,x4,x5,x6,x7,x8,x9,x10,x11,x12,⟨b13,x13,-,-,-,-⟩,x14,x15,x16,-⟩:=hR;simp only[aG]at x0 x1 x2 x3 x4 x5 x6 x7 x8 x9 x10 x11 x12 x14 x15 x16;simp only[aE,x0,x1,x2,x3,x4,x5,x6,x7,x8,x9,x10,x11,x12,x13,x14,x15,x16];clear x0 x1 x2 x3 x4 x5 x6 x7 x8 x9 x10 x11 x12 x13 x14 x15 x16;go_simp;refine hK2 _ _ (hJ _ _ ?_);(repeat apply Exists.intro)
     refine⟨⟨⟨_,rfl,HZ.out⟩,(Below.refl _ w).drew.trans hz⟩,rfl⟩
   case rest=>
   obtain⟨⟨u,rfl,hu⟩,hb⟩:=hcut;go_wp2_with fail
   go_ret;exact⟨u,rfl,hu,hb⟩
  ·have d1:(p==1)=false:=by simp[dp]
   go_enter Tryz.func71,Tryz.ntmps71
   go_upto_region 5 with fail
   go_cut [8] (fun v wx=>(∃u:BA,v=.string u∧u.size≤60)∧Below w.heap.size w wx)
   case first=>
    rename_i J K2 hJ hK2;clear hun;refine dG (Rs:=[aG (.string s),aG (.string d),aG (.string (s++d)),aG (iV (n:Int)),aG (iV ((n:Int) / 65536)),aG (.string (aR ((n:Int) / 65536))),aG (.string (s++d++aR ((n:Int) / 65536))),aG (iV (n:Int)),aG (iV ((n:Int) % 65536)),aG (.string (aR ((n:Int) % 65536))),aG (.string (s++d++aR ((n:Int) / 65536)++aR ((n:Int) % 65536))),aG (iV p),aG (.int .u8 p),rI (0) (p),aG (.string (jZ 0 p)),aG (.string (s++d++aR ((n:Int) / 65536)++aR ((n:Int) % 65536)++jZ 0 p)),aG (.string (s++d++aR ((n:Int) / 65536)++aR ((n:Int) % 65536)++jZ 0 p))]) [30,31,32,33,34,35,36,37,38,39,40,41,42,43,44,45,8] (by kernel_rfl) (by kernel_rfl) rfl ?st ?steps ?done
    case st=>simp[cF,nP]
    case steps=>
     refine⟨?s0,?s1,?s2,?s3,?s4,?s5,?s6,?s7,?s8,?s9,?s10,?s11,?s12,?s13,?s14,?s15,?s16,trivial⟩
     case s0=>
      intro K' a wy ho hd hb hK;have h3:=ho 0 (by decide);simp[aD]at h3;clear hd;go_simp;try go_bits
      exact hK _ _ rfl bR
     case s1=>
      intro K' a wy ho hd hb hK;have h3:=ho 1 (by decide);simp[aD]at h3;clear hd;go_simp;try go_bits
      exact hK _ _ rfl bR
     case s2=>
      intro K' a wy ho hd hb hK;simp[Region.binds,aU,aG,aD]at hd;go_simp;try go_bits
      exact hK _ _ rfl bR
     case s3=>
      intro K' a wy ho hd hb hK;have h3:=ho 3 (by decide);simp[aD]at h3;clear hd;go_simp;try go_bits
      exact hK _ _ rfl bR
     case s4=>
      intro K' a wy ho hd hb hK;simp[Region.binds,aU,aG,aD]at hd;go_simp;try go_bits
      exact hK _ _ rfl bR
     case s5=>
      intro K' a wy ho hd hb hK;simp[Region.binds,aU,aG,aD]at hd;go_simp;refine(bY ((n:Int) / 65536) wy (by omega) (by omega)).mono ?_;rintro e wz ⟨rfl,hz⟩;exact hK _ _ rfl hz
     case s6=>
      intro K' a wy ho hd hb hK;simp[Region.binds,aU,aG,aD]at hd;go_simp;try go_bits
      exact hK _ _ rfl bR
     case s7=>
      intro K' a wy ho hd hb hK;have h3:=ho 3 (by decide);simp[aD]at h3;clear hd;go_simp;try go_bits
      exact hK _ _ rfl bR
     case s8=>
      intro K' a wy ho hd hb hK;simp[Region.binds,aU,aG,aD]at hd;go_simp;try go_bits
      exact hK _ _ rfl bR
     case s9=>
      intro K' a wy ho hd hb hK;simp[Region.binds,aU,aG,aD]at hd;go_simp;refine(bY ((n:Int) % 65536) wy (by omega) (by omega)).mono ?_;rintro e wz ⟨rfl,hz⟩;exact hK _ _ rfl hz
     case s10=>
      intro K' a wy ho hd hb hK;simp[Region.binds,aU,aG,aD]at hd;go_simp;try go_bits
      exact hK _ _ rfl bR
     case s11=>
      intro K' a wy ho hd hb hK;have h3:=ho 2 (by decide);simp[aD]at h3;clear hd;go_simp;try go_bits
      exact hK _ _ rfl bR
     case s12=>
      intro K' a wy ho hd hb hK;simp[Region.binds,aU,aG,aD]at hd;go_simp;try go_bits
      exact hK _ _ rfl bR
     case s13=>
      intro K' a wy ho hd hb hK;simp[Region.binds,aU,aG,aD]at hd;go_simp;exact hK _ _ ⟨wy.heap.size,rfl,by simp,by simp,by simp,by simp⟩ (bR.alloc lR _)
     case s14=>
      intro K' a wy ho hd hb hK;simp only[List.forall_mem_singleton,Array.mem_def,List.mem_singleton,forall_eq]at hd;obtain⟨b,hd1,hd2,hd3,hd4,hd5⟩: rI (0) (p) (aD a 43) wy:=hd rfl;have hcv:=tO (cap:=4) (by omega) (by omega) hd2 hd3 hd4 hd5;simp[aD]at hd1;go_simp;try go_bits
      exact hK _ _ rfl bR
     case s15=>
      intro K' a wy ho hd hb hK;simp[Region.binds,aU,aG,aD]at hd;go_simp;try go_bits
      exact hK _ _ rfl bR
     case s16=>
      intro K' a wy ho hd hb hK;simp[Region.binds,aU,aG,aD]at hd;go_simp;try go_bits
      exact hK _ _ rfl bR
    case done=>
     intro X wz hR hz;obtain⟨x0,x1,x2,x3,x4,x5,x6,x7,x8,x9,x10,x11,x12,⟨b13,x13,-,-,-,-⟩,x14,x15,x16,-⟩:=hR;simp only[aG]at x0 x1 x2 x3 x4 x5 x6 x7 x8 x9 x10 x11 x12 x14 x15 x16;simp only[aE,x0,x1,x2,x3,x4,x5,x6,x7,x8,x9,x10,x11,x12,x13,x14,x15,x16];clear x0 x1 x2 x3 x4 x5 x6 x7 x8 x9 x10 x11 x12 x13 x14 x15 x16;go_simp;refine hK2 _ _ (hJ _ _ ?_);(repeat apply Exists.intro)
     refine⟨⟨⟨_,rfl,HZ.out⟩,(Below.refl _ w).drew.trans hz⟩,rfl⟩
   case rest=>
   obtain⟨⟨u,rfl,hu⟩,hb⟩:=hcut;go_wp2_with fail
   go_ret;exact⟨u,rfl,hu,hb⟩
theorem oV(s d:BA)(p:Int)(t:BA)(w:World)(hs:s.size≤16)(hd:d.size≤16)(hp:0≤p∧p≤255)(ht:t.size≤65535) :
  Calls Tryz.prog 41 #[.string s,.string d,iV p,.string t] w fun e w'=>∃r,e=.returned (iV r)∧0≤r∧r≤65535∧Below w.heap.size w w':=by
 have HP:Hid (∀W,Calls Tryz.prog 71 #[.string s,.string d,iV p,iV t.size] W fun e w'=>∃u:BA,e=.returned (.string u)∧u.size≤60∧Below W.heap.size W w'):=fun W=>xK s d p t.size W hs hd hp ht
 go_enter Tryz.func41,Tryz.ntmps41
 go_wp2_with fail
 refine(HP.out _).mono ?_;rintro e w1 ⟨u,rfl,hu,hb⟩;have n1:¬9223372036854775807 < u.size+t.size:=by omega
 have HB:Hid (Below w.heap.size w w1):=hb;clear hb;go_wp2_with fail
 refine(mJ (u++t) _ (by rw[UQ];omega)).mono ?_;rintro e w2 ⟨rfl,rfl⟩;have hr:=dE (u++t);go_wp2_with fail
 go_ret;exact⟨_,rfl,hr.1,hr.2,HB.out⟩
def EB(B:Nat)(w w':World):Prop:=w.grownBy w' (some B)
theorem EB.cell{B:Nat}{w w':World}(h:EB B w w'){b o:Nat}{v:Value}(hc:w.cell? ⟨b,o,none⟩=some v)(hb:b≠B):w'.cell? ⟨b,o,none⟩=some v:=World.grownBy.cell h hc (by simp;exact hb)
theorem EB.of{B:Nat}{w w':World}(h:Below w.heap.size w w'):EB B w w':=jG h
theorem tN{w w1:World}{B k:Nat}{cs:List Value}{t:TypeId}{p:Value→Prop}(hg:(w.alloc (.cells cs.toArray t)).grownBy w1 (some B))(hB:B < w.heap.size)(hk:k < cs.length)(hp:∀v∈cs,p v):∃v,w1.cell? ⟨w.heap.size,k,none⟩=some v∧p v :=
 ⟨cs[k],hg.cell (bZ (by simp[hk])) (by simp;omega),hp _ (UJ hk)⟩
def XV(x:Value):Value→World→Prop:=fun v _=>v=x
def XR(lo hi:Int):Value→World→Prop:=fun v _=>∃r,v=iV r∧lo≤r∧r≤hi
def IV(B n:Nat)(lo hi:Int):Value→World→Prop:=fun v w=>∃b,v=.slice (some ⟨b,0,none⟩) n n∧b≠B∧∀k,k < n→∃x,w.cell? ⟨b,k,none⟩=some (iV x)∧lo≤x∧x≤hi
def IU(B:Nat)(lo hi:Int):Value→World→Prop:=fun v w=>∃b k x,v=.pointer (some ⟨b,k,none⟩)∧b≠B∧w.cell? ⟨b,k,none⟩=some (iV x)∧lo≤x∧x≤hi
theorem RW(B:Nat)(x:Value):cX (EB B) (XV x):=fun _ _ _ h _=>h
theorem qG(B:Nat)(lo hi:Int):cX (EB B) (XR lo hi):=fun _ _ _ h _=>h
theorem NQ(B n:Nat)(lo hi:Int):cX (EB B) (IV B n lo hi):=fun v w w' ⟨b,h1,h2,h3⟩ he=>⟨b,h1,h2,fun k hk=>by obtain⟨x,hx,hr⟩:=h3 k hk;exact⟨x,he.cell hx h2,hr⟩⟩
theorem NP(B:Nat)(lo hi:Int):cX (EB B) (IU B lo hi):=fun v w w' ⟨b,k,x,h1,h2,h3,h4⟩ he=>⟨b,k,x,h1,h2,he.cell h3 h2,h4⟩
def TM(p:Int)(s d:BA)(x y:Int):Value:=.agg (cR p s d x y).toArray
structure pK(w:World)(X:Nat)(p:Int)(s d:BA)(x y:Int):Prop where
 c0:w.cell? ⟨X,0,none⟩=some (iV p)
 f0:w.frozen? ⟨X,0,none⟩=false
 c1:w.cell? ⟨X,1,none⟩=some (.string s)
 f1:w.frozen? ⟨X,1,none⟩=false
 c2:w.cell? ⟨X,2,none⟩=some (.string d)
 f2:w.frozen? ⟨X,2,none⟩=false
 c3:w.cell? ⟨X,3,none⟩=some (iV x)
 f3:w.frozen? ⟨X,3,none⟩=false
 c4:w.cell? ⟨X,4,none⟩=some (iV y)
 f4:w.frozen? ⟨X,4,none⟩=false
section
variable {w w':World} {X B:Nat} {p x y:Int} {s d:BA}
theorem pK.new(w:World){t:TypeId}:pK (w.alloc (.cells (cR p s d x y).toArray t)) w.heap.size p s d x y:=⟨bZ rfl,by simp,bZ rfl,by simp,bZ rfl,by simp,bZ rfl,by simp,bZ rfl,by simp⟩
theorem pK.drawn(h:pK w X p s d x y)(he:EB B w w')(hX:X≠B):pK w' X p s d x y:=by
 have hb:=US w _ h.c0;have hk:w'.heap[X]?=w.heap[X]?:=World.grownBy.block he X hb (by simp;exact hX);have hc:∀j,w'.cell? ⟨X,j,none⟩=w.cell? ⟨X,j,none⟩:=fun j=>World.cell?_of_block hk
 have hf:∀j,w'.frozen? ⟨X,j,none⟩=w.frozen? ⟨X,j,none⟩:=fun j=>World.frozen?_of_block hk
 exact⟨(hc 0).trans h.c0,(hf 0).trans h.f0,(hc 1).trans h.c1,(hf 1).trans h.f1,(hc 2).trans h.c2,(hf 2).trans h.f2,(hc 3).trans h.c3,(hf 3).trans h.f3,(hc 4).trans h.c4,(hf 4).trans h.f4⟩
end
def FI(n B:Nat)(cs:List Value):Value→World→Prop:=fun v w=>∃g,v=.slice (some ⟨g,0,none⟩) cs.length cs.length∧n≤g∧g≠B∧aA w g cs
def OG(n B:Nat)(cs:List Value):Value→World→Prop:=fun v w=>∃g k,v=.slice (some ⟨g,0,none⟩) k cs.length∧1≤k∧k≤cs.length∧n≤g∧g≠B∧aA w g cs
def zT(n B:Nat)(cs:List Value):Value→World→Prop:=fun v w=>∃g,v=.pointer (some ⟨g,0,none⟩)∧n≤g∧g≠B∧aA w g cs
def SG:Value→World→Prop:=fun v _=>∃l,v=yI l∧FC l
def JN(n:Nat):Value→World→Prop:=fun v _=>∃s:BA,v=.string s∧s.size≤n
section
variable {B n:Nat} {cs:List Value}
theorem EB.holds{w w':World}(h:EB B w w'){g:Nat}(hc:aA w g cs)(hl:0 < cs.length)(hg:g≠B):aA w' g cs:=hc.grown hl h (by simp;exact hg)
theorem JG(hl:0 < cs.length):cX (EB B) (FI n B cs):=fun v w w' ⟨g,h1,h2,h3,h4⟩ he=>⟨g,h1,h2,h3,EB.holds he h4 hl h3⟩
theorem PH(hl:0 < cs.length):cX (EB B) (OG n B cs):=fun v w w' ⟨g,k,h1,h2,h3,h4,h5,h6⟩ he=>⟨g,k,h1,h2,h3,h4,h5,EB.holds he h6 hl h5⟩
theorem vR(hl:0 < cs.length):cX (EB B) (zT n B cs):=fun v w w' ⟨g,h1,h2,h3,h4⟩ he=>⟨g,h1,h2,h3,EB.holds he h4 hl h3⟩
theorem RC:cX (EB B) SG:=fun _ _ _ h _=>h
theorem JH:cX (EB B) (JN n):=fun _ _ _ h _=>h
end
def pL(p:Pl):Prop:=1≤p.VL.length∧p.VL.length≤3∧∀s∈p.VL,s.size≤4
def gS:List Value:=jU
structure PS(w:World)(B:Nat)(a:OA)(len cap:Nat)(size:Int)(R X:Nat)(pa:OA)(pc:Nat)(p:Pl)(wx:World):Prop where
 dr:Dr w B a len cap size wx
 out:aA wx R gS
 box:aA wx X (FA pa pc p)
 ok:pL p
 cap:p.VL.length≤pc
 sl:bP cB 1 wx pa p.VL
 far:∀g o,pa=some ⟨g,o,none⟩→w.heap.size≤g∧g≠X∧g≠R
 hX:w.heap.size≤X
 hR:w.heap.size≤R
 ne:X≠R
section
variable {w wx wy:World} {B:Nat} {a:OA} {len cap:Nat} {size:Int} {R X:Nat} {pa:OA} {pc:Nat} {p:Pl}
theorem PS.draw(h:PS w B a len cap size R X pa pc p wx)(hs:iY wy B a len cap size)(hg:wx.grownBy wy (some B)):PS w B a len cap size R X pa pc p wy:=by
 have hB:=h.dr.hB;have hX:=h.hX;have hR:=h.hR;refine⟨h.dr.draw hs hg,h.out.grown (by simp[gS]) hg (by simp;omega),h.box.grown (by simp[FA]) hg (by simp;omega),h.ok,h.cap,h.sl.grown hg (.inr fun g o e=>?_),h.far,h.hX,h.hR,h.ne⟩;have:=(h.far g o e).1;omega
theorem PS.below(h:PS w B a len cap size R X pa pc p wx)(hb:Below wx.heap.size wx wy):PS w B a len cap size R X pa pc p wy :=
 ⟨h.dr.below hb,h.out.kept (by simp[gS]) hb,h.box.kept (by simp[FA]) hb,h.ok,h.cap,h.sl.below hb,h.far,h.hX,h.hR,h.ne⟩
theorem PS.alloc(h:PS w B a len cap size R X pa pc p wx)(o:Obj):PS w B a len cap size R X pa pc p (wx.alloc o):=h.below (bR.alloc lR o)
theorem PS.set(h:PS w B a len cap size R X pa pc p wx)(j:Nat)(v:Value)(q:Pl)(hq:(FA pa pc p).set j v=FA pa pc q)(ha:q.VL=p.VL):PS w B a len cap size R X pa pc q (wx.setCell ⟨X,j,none⟩ v):=by
 have hb:=h.box.set j v;rw[hq]at hb;refine⟨h.dr.set X j v h.hX,h.out.setOther h.ne.symm v,hb,?_,by rw[ha];exact h.cap,?_,h.far,h.hX,h.hR,h.ne⟩
 ·unfold pL;rw[ha];exact h.ok
 ·rw[ha];exact h.sl.grown (aH wx X j v) (.inr fun g o e=>(h.far g o e).2.1)
theorem PS.setA(h:PS w B a len cap size R X pa pc p wx)(qa:OA)(qc:Nat)(xs:List BA)(hok:pL { p with VL:=xs })(hc:xs.length≤qc)(hs:bP cB 1 wx qa xs)(hf:∀g o,qa=some ⟨g,o,none⟩→w.heap.size≤g∧g≠X∧g≠R):PS w B a len cap size R X qa qc { p with VL:=xs } (wx.setCell ⟨X,0,none⟩ (.slice qa xs.length qc)):=by
 have hb:=h.box.set 0 (.slice qa xs.length qc);refine⟨h.dr.set X 0 _ h.hX,h.out.setOther h.ne.symm _,hb,hok,hc,hs.grown (aH wx X 0 _) (.inr fun g o e=>(hf g o e).2.1),hf,h.hX,h.hR,h.ne⟩
theorem PS.row{r:Option Nat}(h:PS w B a len cap size R X pa pc p wx)(hg:wx.grownBy wy r)(n:Nat)(hr:∀k,r=some k→n≤k)(hn:w.heap.size≤n)(hXn:X < n)(hRn:R < n)(hf:∀g o,pa=some ⟨g,o,none⟩→g < n):PS w B a len cap size R X pa pc p wy:=by
 have hB:=h.dr.hB;refine⟨⟨h.dr.src.kept hg (fun k e=>by have:=hr k e;omega),?_,h.dr.hB⟩,h.out.grown (by simp[gS]) hg (fun e=>by have:=hr R e.symm;omega),h.box.grown (by simp[FA]) hg (fun e=>by have:=hr X e.symm;omega),h.ok,h.cap,?_,h.far,h.hX,h.hR,h.ne⟩
 ·have h1:=h.dr.grown;refine⟨hg.os.trans h1.os,hg.tape.trans h1.tape,hg.output.trans h1.output,UL h1.size hg.size,fun k hk hne=>?_⟩;exact(hg.block k (UX hk h1.size) (fun e=>by have:=hr k e.symm;omega)).trans (h1.block k hk hne)
 ·cases r with
  | none=>exact h.sl.below ⟨hg.os,hg.tape,hg.output,hg.size,fun k hk=>hg.block k hk (by simp)⟩
  | some k=>exact h.sl.grown hg (.inr fun g o e=>by have:=hf g o e;have:=hr k rfl;omega)
end
theorem BG{w w':World}{B base n s:Nat}{e:TypeId}{v:Value}{xs:List Value}(h:w.ownsRow base e s v n xs)(he:EB B w w')(hB:B < base):w'.ownsRow base e s v n xs:=World.ownsRow.kept h he (.inr (dX h hB))
def SH(base:Nat)(e:TypeId):Value→World→Prop:=fun v w=>∃g,v=.slice (some ⟨g,0,none⟩) 0 0∧w.ownsRow base e 1 v 0 []
def SJ(base:Nat)(e:TypeId)(xs:List BA):Value→World→Prop:=fun v w=>w.ownsRow base e 1 v xs.length (dL cB xs)
theorem RD{B base:Nat}{e:TypeId}(hB:B < base):cX (EB B) (SH base e):=fun v w w' ⟨g,h1,h2⟩ he=>⟨g,h1,BG h2 he hB⟩
theorem RF{B base:Nat}{e:TypeId}{xs:List BA}(hB:B < base):cX (EB B) (SJ base e xs):=fun v w w' h he=>BG h he hB
def QJ(B n:Nat):Value→World→Prop:=fun v w=>∃b k s,v=.pointer (some ⟨b,k,none⟩)∧b≠B∧w.cell? ⟨b,k,none⟩=some (.string s)∧s.size≤n
theorem NO{B n:Nat}:cX (EB B) (QJ B n):=fun v w w' ⟨b,k,s,h1,h2,h3,h4⟩ he=>⟨b,k,s,h1,h2,he.cell h3 h2,h4⟩
def LR(B n:Nat):Value→World→Prop:=fun v w=>∃g s,v=.slice (some ⟨g,0,none⟩) 1 1∧g≠B∧s.size≤n∧aA w g [.string s]
theorem NR{B n:Nat}:cX (EB B) (LR B n):=fun v w w' ⟨g,s,h1,h2,h3,h4⟩ he=>⟨g,s,h1,h2,h3,EB.holds he h4 (by simp) h2⟩
theorem Tryz.infoTx:(Tryz.prog.info? 9).map (fun i=>(i.zero,i.size,i.bytes))=some (some eS,1,16):=by kernel_rfl
theorem CS{base g0 cap:Nat}{a:OA}{ty:TypeId}{xs:List BA}{w:World}(hx:bP cB 1 w a xs)(hn:xs≠[])(hl:xs.length≤1048576)(hb:base≤w.heap.size) :
  ∃v' w',(Builtin.append_ #[23,23] ty #[.slice (some ⟨g0,0,none⟩) 0 0,.slice a xs.length cap]).run Tryz.prog w=.ok v' w'∧w'.ownsRow base 9 1 v' xs.length (dL cB xs)∧Below w.heap.size w w':=by
 obtain⟨i0,hi,hz0,hz1,hz2⟩:=info_parts Tryz.infoTx;rcases hx with e|⟨b,off,rfl,hbl,hx⟩
 ·exact absurd e hn
 have hpos:0 < xs.length:=List.length_pos_iff.2 hn;obtain⟨v',w',hr,h1,h2⟩:=run_append_arg_grows (P:=Tryz.prog) w 23 ty 9 i0 _ 1 _ Tryz.underlying23 hi hz0 hz1 hz2 rfl (by decide) ⟨g0,0,none⟩ 0 0 [] (by simp) (fun j u hu=>by simp at hu) ⟨b,off,none⟩ xs.length cap (dL cB xs) (fR mL xs) (fun j u hu=>by
  rw[Addr.add_lit];exact pP mL (by omega) hx j u hu) (by omega) (by unfold maxLen;omega) (by omega)
 refine⟨v',w',hr,?_,⟨h2.os,h2.tape,h2.output,h2.size,fun k hk=>h2.block k hk (by simp)⟩⟩;rw[UI,UM]at h1;refine⟨h1.1,?_⟩;rcases h1.2 with h3|⟨g,c,cur,h3,h4,h5⟩
 ·exact .inl h3
 ·exact .inr ⟨g,c,cur,h3,UL hb h4,h5⟩
theorem GE{w:World}{g:Nat}(ss:List BA)(k:Nat)(hk:k≤ss.length)(h:aA w g (ss.map Value.string))(hl:0 < ss.length):bP cB 1 w (some ⟨g,0,none⟩) (ss.take k):=by
 refine .inr ⟨g,0,rfl,h.lt (by simpa using hl),fun i hi j v hv=>?_⟩;rw[List.length_take]at hi;match j with
 | 0=>
  simp[cB]at hv;subst hv;have:=h.cell (j:=i) (v:=.string ss[i]) (by simp[show i < ss.length by omega]);simpa using this
 | j+1=>simp[cB]at hv
theorem ON{w:World}{g X:Nat}{s:BA}{cs ds:List Value}{y:OA}{n c:Nat}(h1:aA w g (.string s::cs))(h2:aA w X (.slice y n c::ds)):g≠X:=by
 intro e;subst e;have a1:=h1.cell (j:=0) rfl;have a2:=h2.cell (j:=0) rfl;rw[a1]at a2;simp at a2
open Go.ChangeShapes
theorem xQ{B:Nat}:∀w,EB B w w:=fun _=>EB.of bR
variable {E:World→World→Prop} {I:World→Prop} {P:Program} {ops:Array Oper} {Q:Exit→Act→World→Prop} {ds:List Tmp} {a0:Act} {suf:List Oper} {Rs:List (Value→World→Prop)} {o:Oper} {l:List Oper} {v:Value}
theorem cS.u(hr:∀w,E w w)(hg:o.guard=none)(h1:∀(K':Act→World→Prop) (a:Act) (wy:World),(∀t,t ∉ ds→aD a t=aD a0 t)→(∀e∈o.after,Region.binds .any e=true→aU (Rs++[aG v]) e.on (aD a (ds.getD e.on 0)) wy)→I wy→(∀x,x=v→K' (a.put o.dst x) wy)→Oper.wp P o a wy K' Q)(h2:cS E I P ops Q ds a0 suf (Rs++[aG v]) l):cS E I P ops Q ds a0 suf Rs (o::l) :=
 ⟨aG v,fun _ _ _ h _=>h,fun K' a w ho hd hI hK=>by
  rw[if_pos (uV hg)];exact h1 K' a w ho hd hI fun x hx=>hK x w (by simp[aU,aG,hx]) (hr w) hI,h2⟩
def XS(n:Nat):Value→World→Prop:=fun v _=>∃u:BA,v=.string u∧u.size=n
def LS(B:Nat)(x y:Int):Value→World→Prop:=fun v w=>∃b,v=.slice (some ⟨b,0,none⟩) 2 2∧b≠B∧w.cell? ⟨b,0,none⟩=some (.int .u8 x)∧w.cell? ⟨b,1,none⟩=some (.int .u8 y)
theorem RV(B n:Nat):cX (EB B) (XS n):=fun _ _ _ h _=>h
theorem NS(B:Nat)(x y:Int):cX (EB B) (LS B x y):=fun v w w' ⟨b,h1,h2,h3,h4⟩ he=>⟨b,h1,h2,he.cell h3 h2,he.cell h4 h2⟩
theorem AE(p:Int)(s d:BA)(x y:Int)(B:Nat)(a:OA)(len cap:Nat)(size:Int)(w:World)(hp:0≤p∧p≤255)(hs0:s.size≤16)(hd0:d.size≤16)(hx:0≤x∧x≤65535)(hy:0≤y∧y≤65535)(hl:len≤1048576)(hs:iY w B a len cap size) :
  Calls Tryz.prog 83 #[.pointer (some ⟨B,0,none⟩),TM p s d x y] w fun e w'=>(∃u:BA,e=.returned (.string u)∧u.size≤100∧dQ p+2≤u.size∧(p≠6→p≠17→∃i,6≤i∧bt u i≠0))∧iY w' B a len cap size∧w.grownBy w' (some B):=by
 unfold TM;have hB:B < w.heap.size:=(Dr.start hs).hB;have D0:Hid (Dr w B a len cap size (w.alloc (.cells (cR p s d x y).toArray 43))):=(Dr.start hs).alloc _;have F0:Hid (pK (w.alloc (.cells (cR p s d x y).toArray 43)) w.heap.size p s d x y):=pK.new w;have hXB:w.heap.size≠B:=by omega
 have hz:Hid ((w.alloc (.cells (cR p s d x y).toArray 43)).heap.size=w.heap.size+1):=by unfold Hid;simp
 clear hs;go_enter Tryz.func83,Tryz.ntmps83
 go_upto_region 1 with fail
 generalize (w.alloc (.cells (cR p s d x y).toArray 43))=W0 at *;have hW0:B < W0.heap.size:=by have:=hz.out;omega
 clear hz;go_wp2_with fail
 refine(aV 7 B a len cap size _ (by omega) (by omega) hl (D0.out.alloc _).src).mono ?_;rintro e W1 ⟨r,rfl,r0,r1,hs1,hg1⟩;obtain⟨k,rfl⟩:=UK r0;obtain⟨v,hcell,fl,rfl,hfl⟩:=tN (k:=k) (p:=fun v=>∃x,v=.int .u8 x∧(0≤x∧x≤255)) (cs:=[.int .u8 2,.int .u8 18,.int .u8 16,.int .u8 24,.int .u8 17,.int .u8 4,.int .u8 25]) hg1 hW0 (by simp;omega) (by simp);have D1:Hid (Dr w B a len cap size W1):=(D0.out.alloc _).draw hs1 hg1;have F1:Hid (pK W1 w.heap.size p s d x y):=(F0.out.drawn (EB.of (bR.alloc lR _)) hXB).drawn hg1 hXB;have r1':(k:Int) < 7:=by omega
 clear hs1 hg1 D0 F0 r0 r1;go_upto_region 2 with fail
 clear hcell r1';go_wp2_with fail
 refine(eQ 12 B a len cap size _ (by omega) hl D1.out.src).mono ?_;rintro e W2 ⟨r,rfl,r0,r1,hs1,hg1⟩;obtain⟨m,rfl⟩:=UK r0;have hm:m≤11:=by omega
 have D2:Hid (Dr w B a len cap size W2):=D1.out.draw hs1 hg1;have F2:Hid (pK W2 w.heap.size p s d x y):=F1.out.drawn hg1 hXB;clear hs1 hg1 D1 F1 r0 r1;go_wp2_with fail
 refine(nN m B a len cap size _ (by omega) hl D2.out.src).mono ?_;rintro e W3 ⟨rest,rfl,hrest,hs1,hg1⟩;have D3:Hid (Dr w B a len cap size W3):=D2.out.draw hs1 hg1;have F3:Hid (pK W3 w.heap.size p s d x y):=F2.out.drawn hg1 hXB;have hr11:rest.size≤11:=by omega
 clear hs1 hg1 D2 F2 hrest hm;go_upto_region 3 with fail
 have zx:=aP x;have zy:=aP y;have n0:¬9223372036854775807 < (aR x).size+(aR y).size:=by omega
 have HK:Hid (∀wy,Below W3.drew.heap.size W3.drew wy→pK wy w.heap.size p s d x y):=fun wy hy=>F3.out.drawn (EB.of ((Below.refl _ W3).drew.trans hy)) hXB
 go_cut [7] (fun v wx=>v=.string (aR x++aR y)∧Below W3.heap.size W3 wx)
 case first=>
  rename_i J K2 hJ hK2;refine dG (Rs:=[aG (.pointer (some ⟨w.heap.size,3,none⟩)),aG (iV x),aG (.string (aR x)),aG (.pointer (some ⟨w.heap.size,4,none⟩)),aG (iV y),aG (.string (aR y)),aG (.string (aR x++aR y)),aG (.string (aR x++aR y))]) [19,20,21,22,23,24,25,7] (by kernel_rfl) (by kernel_rfl) rfl ?st ?steps ?done
  case st=>simp[cF,kU]
  case steps=>
   refine⟨?s0,?s1,?s2,?s3,?s4,?s5,?s6,?s7,trivial⟩
   case s0=>
    intro K' a wy ho hd hb hK;have h3:=ho 3 (by decide);simp[aD]at h3;clear hd;go_simp;try go_bits
    exact hK _ _ rfl bR
   case s1=>
    intro K' a wy ho hd hb hK;simp[Region.binds,aU,aG,aD]at hd;obtain⟨c0,f0,c1,f1,c2,f2,c3,f3,c4,f4⟩:=HK.out wy hb;go_simp;try go_bits
    exact hK _ _ rfl bR
   case s2=>
    intro K' a wy ho hd hb hK;simp[Region.binds,aU,aG,aD]at hd;go_simp;refine(bY x wy (by omega) (by omega)).mono ?_;rintro e wz ⟨rfl,hz⟩;exact hK _ _ rfl hz
   case s3=>
    intro K' a wy ho hd hb hK;have h3:=ho 3 (by decide);simp[aD]at h3;clear hd;go_simp;try go_bits
    exact hK _ _ rfl bR
   case s4=>
    intro K' a wy ho hd hb hK;simp[Region.binds,aU,aG,aD]at hd;obtain⟨c0,f0,c1,f1,c2,f2,c3,f3,c4,f4⟩:=HK.out wy hb;go_simp;try go_bits
    exact hK _ _ rfl bR
   case s5=>
    intro K' a wy ho hd hb hK;simp[Region.binds,aU,aG,aD]at hd;go_simp;refine(bY y wy (by omega) (by omega)).mono ?_;rintro e wz ⟨rfl,hz⟩;exact hK _ _ rfl hz
   case s6=>
    intro K' a wy ho hd hb hK;simp[Region.binds,aU,aG,aD]at hd;go_simp;try go_bits
    exact hK _ _ rfl bR
   case s7=>
    intro K' a wy ho hd hb hK;simp[Region.binds,aU,aG,aD]at hd;go_simp;try go_bits
    exact hK _ _ rfl bR
  case done=>
   intro X wz hR hz;simp only[UM,UN,eY,aG]at hR;simp only[aE,hR];clear hR;go_simp;refine hK2 _ _ (hJ _ _ ?_);(repeat apply Exists.intro)
   refine⟨⟨rfl,(Below.refl _ W3).drew.trans hz⟩,rfl⟩
 case rest=>
 obtain⟨rfl,hb4⟩:=hcut;have D4:Hid (Dr w B a len cap size wc):=D3.out.below hb4;have F4:Hid (pK wc w.heap.size p s d x y):=F3.out.drawn (EB.of hb4) hXB;have hd4:(aR x++aR y).size=4:=by rw[UQ,zx,zy]
 have hX4:w.heap.size < wc.heap.size:=US wc _ F4.out.c0;clear hb4 D3 F3 HK n0 zx zy;generalize aR x++aR y=d4 at *;have c0:=F4.out.c0;have HPr:Hid (∀W,Cw 31 #[.string s,.string d] W (.bool (cO s&&decide (s.size=d.size)))):=fun W=>BO s d W (by omega) (by omega)
 have HCk:Hid (∀W,Cw 74 #[iV p] W (iV (dQ p:Nat))):=fun W=>yN p W
 generalize (cO s&&decide (s.size=d.size))=bp at *;by_cases h17:p=17
 ·have hck:dQ p=6:=by rw[h17];rfl
  have d6:(p==6)=false:=by simp[h17]
  have d17:(p==17)=true:=by simp[h17]
  have HCK:Hid (dQ p=6):=hck;clear h17 hck;have t8:=aP (8+(rest.size:Int));have n1:¬9223372036854775807 < d4.size+(aR (8+(rest.size:Int))).size:=by omega
  have n2:¬9223372036854775807 < d4.size+(aR (8+(rest.size:Int))).size+(ByteArray.mk #[0,0]).size:=by have:(ByteArray.mk #[0,0]).size=2:=rfl;omega
  have n3:¬9223372036854775807 < d4.size+(aR (8+(rest.size:Int))).size+(ByteArray.mk #[0,0]).size+rest.size:=by have:(ByteArray.mk #[0,0]).size=2:=rfl;omega
  have n4:¬9223372036854775807 < 4+2+2+rest.size:=by omega
  have n5:¬9223372036854775807 < 8+rest.size:=by omega
  go_wp2_with fail
  refine(bY (8+(rest.size:Int)) _ (by omega) (by omega)).mono ?_;rintro e W5 ⟨rfl,hb5⟩;have D5:Hid _:=D4.out.below hb5;have F5:Hid _:=F4.out.drawn (EB.of hb5) hXB;clear hb5 D4 F4;have hdz:(d4++aR (8+(rest.size:Int))++ByteArray.mk #[0,0]++rest).size=8+rest.size:=by simp only[UQ];have:(ByteArray.mk #[0,0]).size=2:=rfl;omega
  go_upto_region 13 with fail
  clear n1 n2 n3 n4 n5 t8 c0;obtain⟨dd,hdd⟩: ∃dd,dd=d4++aR (8+(rest.size:Int))++ByteArray.mk #[0,0]++rest:=⟨_,rfl⟩;rw[←hdd]at hdz ⊢;have HDD:Hid (dQ p+2≤dd.size∧dd.size≤60):=by have:=HCK.out;unfold Hid;omega
  clear hdd hdz;obtain⟨c0,f0,c1,f1,c2,f2,c3,f3,c4,f4⟩:=F5.out;have hun:undef=Value.tuple #[]:=rfl;go_wp2_with fail
  refine(bS 6 B a len cap size _ (by omega) hl D5.out.src).mono ?_;rintro e V23 ⟨b6,rfl,hs1,hg1⟩;have D23:Hid _:=D5.out.draw hs1 hg1;have F23:Hid _:=F5.out.drawn hg1 hXB;clear hs1 hg1 c0 f0 c1 f1 c2 f2 c3 f3 c4 f4;obtain⟨c0,f0,c1,f1,c2,f2,c3,f3,c4,f4⟩:=F23.out
  cases b6 with
  | true=>
   go_wp2_with fail
   go_ret;exact⟨⟨dd,rfl,by have:=HDD.out;omega,by have:=HDD.out;omega,fun n6 n17=>absurd HCK.out (by unfold dQ;rw[if_neg n6,if_neg n17];decide)⟩,D23.out.src,D23.out.grown⟩
  | false=>
   go_wp2_with fail
   refine(HPr.out _).mono ?_;rintro e V24 ⟨rfl,rfl⟩
   cases bp with
   | false=>
    go_wp2_with fail
    go_ret;exact⟨⟨dd,rfl,by have:=HDD.out;omega,by have:=HDD.out;omega,fun n6 n17=>absurd HCK.out (by unfold dQ;rw[if_neg n6,if_neg n17];decide)⟩,D23.out.src,D23.out.grown⟩
   | true=>
    go_wp2_with fail
    refine(oV s d p dd _ hs0 hd0 hp (by have:=HDD.out.2;omega)).mono ?_;rintro e V25 ⟨sm,rfl,sm0,sm1,hb⟩;have D25:Hid _:=D23.out.below hb;have F25:Hid _:=F23.out.drawn (EB.of hb) hXB;clear hb c0 f0 c1 f1 c2 f2 c3 f3 c4 f4;go_wp2_with fail
    refine(bS 15 B a len cap size _ (by omega) hl D25.out.src).mono ?_;rintro e V26 ⟨b15,rfl,hs1,hg1⟩;have D26:Hid _:=D25.out.draw hs1 hg1;have F26:Hid _:=F25.out.drawn hg1 hXB;clear hs1 hg1 D25 F25
    cases b15 with
    | false=>
     obtain⟨c0,f0,c1,f1,c2,f2,c3,f3,c4,f4⟩:=F26.out;go_upto_region 18 with fail
     go_wp2_with fail
     refine(HCk.out _).mono ?_;rintro e V27 ⟨rfl,rfl⟩;go_wp2_with fail
     refine(bY (65535-sm) _ (by omega) (by omega)).mono ?_;rintro e Y27 ⟨rfl,hb27⟩;have D27:Hid _:=D26.out.below hb27;clear hb27 c0 f0 c1 f1 c2 f2 c3 f3 c4 f4;go_wp2_with fail
     refine(iQ dd (dQ p) (aR (65535-sm)) _ (by rw[aP];exact HDD.out.1) (by have:=HDD.out.2;omega)).mono ?_;rintro e Z27 ⟨u,rfl,hu,hb⟩;have E27:Hid _:=D27.out.below hb;clear hb;go_wp2_with fail
     go_ret;exact⟨⟨u,rfl,by have:=HDD.out;omega,by have:=HDD.out;omega,fun n6 n17=>absurd HCK.out (by unfold dQ;rw[if_neg n6,if_neg n17];decide)⟩,E27.out.src,E27.out.grown⟩
    | true=>
     go_wp2_with fail
     refine(eQ 65536 B a len cap size _ (by omega) hl D26.out.src).mono ?_;rintro e V28 ⟨rn,rfl,rn0,rn1,hs1,hg1⟩;have D28:Hid _:=D26.out.draw hs1 hg1;have F28:Hid _:=F26.out.drawn hg1 hXB;have rn2:rn≤65535:=by omega
     clear hs1 hg1 D26 F26 rn1;obtain⟨c0,f0,c1,f1,c2,f2,c3,f3,c4,f4⟩:=F28.out;go_upto_region 18 with fail
     go_wp2_with fail
     refine(HCk.out _).mono ?_;rintro e V29 ⟨rfl,rfl⟩;go_wp2_with fail
     refine(bY rn _ (by omega) (by omega)).mono ?_;rintro e Y29 ⟨rfl,hb29⟩;have D29:Hid _:=D28.out.below hb29;clear hb29 c0 f0 c1 f1 c2 f2 c3 f3 c4 f4;go_wp2_with fail
     refine(iQ dd (dQ p) (aR rn) _ (by rw[aP];exact HDD.out.1) (by have:=HDD.out.2;omega)).mono ?_;rintro e Z29 ⟨u,rfl,hu,hb⟩;have E29:Hid _:=D29.out.below hb;clear hb;go_wp2_with fail
     go_ret;exact⟨⟨u,rfl,by have:=HDD.out;omega,by have:=HDD.out;omega,fun n6 n17=>absurd HCK.out (by unfold dQ;rw[if_neg n6,if_neg n17];decide)⟩,E29.out.src,E29.out.grown⟩
 have d17:(p==17)=false:=by simp[h17]
 by_cases h6:p=6
 ·have d6:(p==6)=true:=by simp[h6]
  have HCK:Hid (dQ p=16):=by rw[h6];rfl
  clear h6 h17;go_upto_region 10 with fail
  have n1:¬9223372036854775807 < 20+rest.size:=by omega
  refine tW (EB B) (fun wx=>Dr w B a len cap size wx∧pK wx w.heap.size p s d x y) (Rs:=[XV (.string d4),XV (.pointer (some ⟨B,0,none⟩)),XS 8,XS 12,XV (.int .u8 fl),LS B 80 fl,XS 2,XS 14,XS 20,XV (.string rest),XS (20+rest.size)]) [53,54,55,56,57,58,59,60,61,62,63] _ (by kernel_rfl) rfl (by kernel_rfl) rfl ⟨D4.out.below bR.drew,F4.out.drawn (EB.of bR.drew) hXB⟩ ?st ?steps ?lst
  case st=>simp[RW,RV,NS]
  case steps=>
   refine⟨?s0,?s1,?s2,?s3,?s4,?s5,?s6,?s7,?s8,?s9,?s10,trivial⟩
   case s0=>
    intro K' act wy ho hd ⟨hI1,hI2⟩ hK;have h3:=ho 7 (by decide);simp[aD]at h3;clear hd;go_simp;exact hK _ _ rfl (EB.of bR) ⟨hI1,hI2⟩
   case s1=>
    intro K' act wy ho hd ⟨hI1,hI2⟩ hK;have h3:=ho 0 (by decide);simp[aD]at h3;clear hd;go_simp;exact hK _ _ rfl (EB.of bR) ⟨hI1,hI2⟩
   case s2=>
    intro K' act wy ho hd ⟨hI1,hI2⟩ hK;have q1:XV (.pointer (some ⟨B,0,none⟩)) (aD act 54) wy:=hd ⟨1,.data⟩ (by simp) rfl;clear hd;unfold XV at q1;simp[aD]at q1;go_simp;refine(nN 8 B a len cap size wy (by omega) hl hI1.src).mono ?_;rintro e wz ⟨u,rfl,hu,hsz,hgz⟩;exact hK _ _ ⟨u,rfl,hu⟩ hgz ⟨hI1.draw hsz hgz,hI2.drawn hgz hXB⟩
   case s3=>
    intro K' act wy ho hd ⟨hI1,hI2⟩ hK;have q0:XV (.string d4) (aD act 53) wy:=hd ⟨0,.data⟩ (by simp) rfl;have q2:XS 8 (aD act 55) wy:=hd ⟨2,.data⟩ (by simp) rfl;clear hd;unfold XV at q0;simp[aD]at q0;obtain⟨u2,q2,z2⟩:=q2;simp[aD]at q2;go_simp;exact hK _ _ ⟨d4++u2,rfl,by rw[UQ];omega⟩ (EB.of bR) ⟨hI1,hI2⟩
   case s4=>
    intro K' act wy ho hd ⟨hI1,hI2⟩ hK;have h3:=ho 5 (by decide);simp[aD]at h3;clear hd;go_simp;exact hK _ _ rfl (EB.of bR) ⟨hI1,hI2⟩
   case s5=>
    intro K' act wy ho hd ⟨hI1,hI2⟩ hK;have q4:XV (.int .u8 fl) (aD act 57) wy:=hd ⟨4,.data⟩ (by simp) rfl;clear hd;unfold XV at q4;simp[aD]at q4;go_simp;exact hK _ _ ⟨wy.heap.size,rfl,by have:=hI1.le;omega,bZ rfl,bZ rfl⟩ (EB.of (bR.alloc lR _)) ⟨hI1.alloc _,hI2.drawn (EB.of (bR.alloc lR _)) hXB⟩
   case s6=>
    intro K' act wy ho hd ⟨hI1,hI2⟩ hK;have q5:LS B 80 fl (aD act 58) wy:=hd ⟨5,.data⟩ (by simp) rfl;clear hd;obtain⟨b5,q5,nb5,g5,h5⟩:=q5;simp[aD]at q5;have hcv:=tM (cap:=2) (by omega) hfl g5 h5;go_simp;exact hK _ _ ⟨_,rfl,rfl⟩ (EB.of bR) ⟨hI1,hI2⟩
   case s7=>
    intro K' act wy ho hd ⟨hI1,hI2⟩ hK;have q3:XS 12 (aD act 56) wy:=hd ⟨3,.data⟩ (by simp) rfl;have q6:XS 2 (aD act 59) wy:=hd ⟨6,.data⟩ (by simp) rfl;clear hd;obtain⟨u3,q3,z3⟩:=q3;simp[aD]at q3;obtain⟨u6,q6,z6⟩:=q6;simp[aD]at q6;go_simp;exact hK _ _ ⟨u3++u6,rfl,by rw[UQ];omega⟩ (EB.of bR) ⟨hI1,hI2⟩
   case s8=>
    intro K' act wy ho hd ⟨hI1,hI2⟩ hK;have q7:XS 14 (aD act 60) wy:=hd ⟨7,.data⟩ (by simp) rfl;clear hd;obtain⟨u7,q7,z7⟩:=q7;simp[aD]at q7;go_simp;exact hK _ _ ⟨_,rfl,by rw[UQ];have:(ByteArray.mk #[16,0,0,0,0,0]).size=6:=rfl;omega⟩ (EB.of bR) ⟨hI1,hI2⟩
   case s9=>
    intro K' act wy ho hd ⟨hI1,hI2⟩ hK;have h3:=ho 6 (by decide);simp[aD]at h3;clear hd;go_simp;exact hK _ _ rfl (EB.of bR) ⟨hI1,hI2⟩
   case s10=>
    intro K' act wy ho hd ⟨hI1,hI2⟩ hK;have q8:XS 20 (aD act 61) wy:=hd ⟨8,.data⟩ (by simp) rfl;have q9:XV (.string rest) (aD act 62) wy:=hd ⟨9,.data⟩ (by simp) rfl;clear hd;obtain⟨u8,q8,z8⟩:=q8;simp[aD]at q8;unfold XV at q9;simp[aD]at q9;go_simp;exact hK _ _ ⟨u8++rest,rfl,by rw[UQ];omega⟩ (EB.of bR) ⟨hI1,hI2⟩
  case lst=>
   intro X act K' wz ha hsl hR ⟨hI1,hI2⟩ hK;have HAct:Hid (act=_):=ha;clear ha;obtain⟨z0,z1,z2,z3,z4,z5,z6,z7,z8,z9,⟨dd,z10,hdz⟩,-⟩:=hR;have s63:=hsl 10 (by decide);rw[z10]at s63;simp[aD]at s63;clear hsl;go_simp;refine hK _ _ ?_;rw[HAct.out];simp only[aE,z10];clear s63 HAct hK z0 z1 z2 z3 z4 z5 z6 z7 z8 z9 z10;go_simp;have D5:Hid _:=hI1;have F5:Hid _:=hI2;have HDD:Hid (dQ p+2≤dd.size∧dd.size≤60):=by have:=HCK.out;unfold Hid;omega
   clear hI1 hI2 hdz D4 F4 c0 n1;obtain⟨c0,f0,c1,f1,c2,f2,c3,f3,c4,f4⟩:=F5.out;go_upto_region 13 with fail
   have hun:undef=Value.tuple #[]:=rfl;go_wp2_with fail
   refine(HPr.out _).mono ?_;rintro e V11 ⟨rfl,rfl⟩
   cases bp with
   | false=>
    go_wp2_with fail
    go_ret;exact⟨⟨dd,rfl,by have:=HDD.out;omega,by have:=HDD.out;omega,fun n6 n17=>absurd HCK.out (by unfold dQ;rw[if_neg n6,if_neg n17];decide)⟩,D5.out.src,D5.out.grown⟩
   | true=>
    go_wp2_with fail
    refine(oV s d p dd _ hs0 hd0 hp (by have:=HDD.out.2;omega)).mono ?_;rintro e V12 ⟨sm,rfl,sm0,sm1,hb⟩;have D12:Hid _:=D5.out.below hb;have F12:Hid _:=F5.out.drawn (EB.of hb) hXB;clear hb c0 f0 c1 f1 c2 f2 c3 f3 c4 f4;go_wp2_with fail
    refine(bS 15 B a len cap size _ (by omega) hl D12.out.src).mono ?_;rintro e V13 ⟨b15,rfl,hs1,hg1⟩;have D13:Hid _:=D12.out.draw hs1 hg1;have F13:Hid _:=F12.out.drawn hg1 hXB;clear hs1 hg1 D12 F12
    cases b15 with
    | false=>
     obtain⟨c0,f0,c1,f1,c2,f2,c3,f3,c4,f4⟩:=F13.out;go_upto_region 18 with fail
     go_wp2_with fail
     refine(HCk.out _).mono ?_;rintro e V14 ⟨rfl,rfl⟩;go_wp2_with fail
     refine(bY (65535-sm) _ (by omega) (by omega)).mono ?_;rintro e Y14 ⟨rfl,hb14⟩;have D14:Hid _:=D13.out.below hb14;clear hb14 c0 f0 c1 f1 c2 f2 c3 f3 c4 f4;go_wp2_with fail
     refine(iQ dd (dQ p) (aR (65535-sm)) _ (by rw[aP];exact HDD.out.1) (by have:=HDD.out.2;omega)).mono ?_;rintro e Z14 ⟨u,rfl,hu,hb⟩;have E14:Hid _:=D14.out.below hb;clear hb;go_wp2_with fail
     go_ret;exact⟨⟨u,rfl,by have:=HDD.out;omega,by have:=HDD.out;omega,fun n6 n17=>absurd HCK.out (by unfold dQ;rw[if_neg n6,if_neg n17];decide)⟩,E14.out.src,E14.out.grown⟩
    | true=>
     go_wp2_with fail
     refine(eQ 65536 B a len cap size _ (by omega) hl D13.out.src).mono ?_;rintro e V15 ⟨rn,rfl,rn0,rn1,hs1,hg1⟩;have D15:Hid _:=D13.out.draw hs1 hg1;have F15:Hid _:=F13.out.drawn hg1 hXB;have rn2:rn≤65535:=by omega
     clear hs1 hg1 D13 F13 rn1;obtain⟨c0,f0,c1,f1,c2,f2,c3,f3,c4,f4⟩:=F15.out;go_upto_region 18 with fail
     go_wp2_with fail
     refine(HCk.out _).mono ?_;rintro e V16 ⟨rfl,rfl⟩;go_wp2_with fail
     refine(bY rn _ (by omega) (by omega)).mono ?_;rintro e Y16 ⟨rfl,hb16⟩;have D16:Hid _:=D15.out.below hb16;clear hb16 c0 f0 c1 f1 c2 f2 c3 f3 c4 f4;go_wp2_with fail
     refine(iQ dd (dQ p) (aR rn) _ (by rw[aP];exact HDD.out.1) (by have:=HDD.out.2;omega)).mono ?_;rintro e Z16 ⟨u,rfl,hu,hb⟩;have E16:Hid _:=D16.out.below hb;clear hb;go_wp2_with fail
     go_ret;exact⟨⟨u,rfl,by have:=HDD.out;omega,by have:=HDD.out;omega,fun n6 n17=>absurd HCK.out (by unfold dQ;rw[if_neg n6,if_neg n17];decide)⟩,E16.out.src,E16.out.grown⟩
 have d6:(p==6)=false:=by simp[h6]
 have HCK:Hid (dQ p=2):=by unfold Hid dQ;rw[if_neg h6,if_neg h17]
 clear h6 h17;have hW4:B < wc.heap.size:=by omega
 go_wp2_with fail
 refine(aV 2 B a len cap size _ (by omega) (by omega) hl (D4.out.alloc _).src).mono ?_;rintro e W5 ⟨r,rfl,r0,r1,hs1,hg1⟩;obtain⟨k,rfl⟩:=UK r0;obtain⟨v,hcell,f8,rfl,hf8⟩:=tN (k:=k) (p:=fun v=>∃x,v=.int .u8 x∧(0≤x∧x≤255)) (cs:=[.int .u8 8,.int .u8 0]) hg1 hW4 (by simp;omega) (by simp);have D5:Hid (Dr w B a len cap size W5):=(D4.out.alloc _).draw hs1 hg1;have F5:Hid (pK W5 w.heap.size p s d x y):=(F4.out.drawn (EB.of (bR.alloc lR _)) hXB).drawn hg1 hXB;have r1':(k:Int) < 2:=by omega
 clear hs1 hg1 D4 F4 r0 r1 c0;go_upto_region 6 with fail
 clear hcell r1';have c0:=F5.out.c0;go_upto_if 35 with fail
 go_cut [8] (fun v wx=>∃f,v=.int .u8 f∧(0≤f∧f≤255)∧Dr w B a len cap size wx∧pK wx w.heap.size p s d x y)
 case first=>
  by_cases h58:p=58
  ·have d58:(p==58)=true:=by simp[h58]
   have hW5:B < W5.heap.size:=by have:=D5.out.le;omega
   clear h58;go_wp2_with fail
   refine(aV 2 B a len cap size _ (by omega) (by omega) hl (D5.out.alloc _).src).mono ?_;rintro e W6 ⟨r,rfl,r0,r1,hs1,hg1⟩;obtain⟨k2,rfl⟩:=UK r0;obtain⟨v,hcell,f9,rfl,hf9⟩:=tN (k:=k2) (p:=fun v=>∃x,v=.int .u8 x∧(0≤x∧x≤255)) (cs:=[.int .u8 128,.int .u8 129]) hg1 hW5 (by simp;omega) (by simp);have D6:Hid (Dr w B a len cap size W6):=(D5.out.alloc _).draw hs1 hg1;have F6:Hid (pK W6 w.heap.size p s d x y):=(F5.out.drawn (EB.of (bR.alloc lR _)) hXB).drawn hg1 hXB;have r1':(k2:Int) < 2:=by omega
   clear hs1 hg1 r0 r1;go_wp2_with fail
   go_meet;exact⟨f9,rfl,hf9,D6.out,F6.out⟩
  ·have d58:(p==58)=false:=by simp[h58]
   go_wp2_with fail
   go_meet;exact⟨f8,rfl,hf8,D5.out,F5.out⟩
 case rest=>
 obtain⟨f,rfl,hf,hD,hF⟩:=hcut;have D6:Hid _:=hD;have F6:Hid _:=hF;clear hD hF D5 F5 c0 hf8 d17 d6;go_upto_region 8 with fail
 have zx:=aP x;have zq:=oS f 0;have n0:¬9223372036854775807 < (jZ f 0).size+(aR x).size:=by omega
 have n1:¬9223372036854775807 < (jZ f 0).size+(aR x).size+rest.size:=by omega
 have n2:¬9223372036854775807 < (jZ f 0).size+(aR x).size+rest.size+(ByteArray.mk #[97,98]).size:=by have:(ByteArray.mk #[97,98]).size=2:=rfl;omega
 have n3:¬9223372036854775807 < 4+2+rest.size:=by omega
 have n4:¬9223372036854775807 < 4+2+rest.size+2:=by omega
 have n5:¬9223372036854775807 < 6+rest.size:=by omega
 have n6:¬9223372036854775807 < 6+rest.size+2:=by omega
 have hdz:(jZ f 0++aR x++rest++ByteArray.mk #[97,98]).size=8+rest.size:=by simp only[UQ];have:(ByteArray.mk #[97,98]).size=2:=rfl;omega
 obtain⟨WC,hWC⟩: ∃W,W=wc:=⟨_,rfl⟩;subst hWC;have HK:Hid (∀wy,Below WC.drew.heap.size WC.drew wy→pK wy w.heap.size p s d x y):=fun wy hy=>F6.out.drawn (EB.of ((Below.refl _ WC).drew.trans hy)) hXB
 have HDZ:Hid _:=hdz;clear hdz;refine dG (Rs:=[aG (.int .u8 f),rI (f) (0),aG (.string (jZ f 0)),aG (.pointer (some ⟨w.heap.size,3,none⟩)),aG (iV x),aG (.string (aR x)),aG (.string (jZ f 0++aR x)),aG (.string rest),aG (.string (jZ f 0++aR x++rest)),aG (.string (jZ f 0++aR x++rest++ByteArray.mk #[97,98])),aG (.string (jZ f 0++aR x++rest++ByteArray.mk #[97,98]))]) [41,42,43,44,45,46,47,48,49,50,7] (by kernel_rfl) (by kernel_rfl) rfl ?st ?steps ?done
 case st=>simp[cF,nP]
 case steps=>
  refine⟨?s0,?s1,?s2,?s3,?s4,?s5,?s6,?s7,?s8,?s9,?s10,trivial⟩
  case s0=>
   intro K' a wy ho hd hb hK;have h3:=ho 8 (by decide);simp[aD]at h3;clear hd;go_simp;try go_bits
   exact hK _ _ rfl bR
  case s1=>
   intro K' a wy ho hd hb hK;simp[Region.binds,aU,aG,aD]at hd;go_simp;exact hK _ _ ⟨wy.heap.size,rfl,by simp,by simp,by simp,by simp⟩ (bR.alloc lR _)
  case s2=>
   intro K' a wy ho hd hb hK;simp only[List.forall_mem_singleton,Array.mem_def,List.mem_singleton,forall_eq]at hd;obtain⟨b,hd1,hd2,hd3,hd4',hd5⟩: rI (f) (0) (aD a 42) wy:=hd rfl;have hcv:=tO (cap:=4) hf (by omega) hd2 hd3 hd4' hd5;simp[aD]at hd1;go_simp;try go_bits
   exact hK _ _ rfl bR
  case s3=>
   intro K' a wy ho hd hb hK;have h3:=ho 3 (by decide);simp[aD]at h3;clear hd;go_simp;try go_bits
   exact hK _ _ rfl bR
  case s4=>
   intro K' a wy ho hd hb hK;simp[Region.binds,aU,aG,aD]at hd;obtain⟨c0,f0,c1,f1,c2,f2,c3,f3,c4,f4⟩:=HK.out wy hb;go_simp;try go_bits
   exact hK _ _ rfl bR
  case s5=>
   intro K' a wy ho hd hb hK;simp[Region.binds,aU,aG,aD]at hd;go_simp;refine(bY x wy (by omega) (by omega)).mono ?_;rintro e wz ⟨rfl,hz⟩;exact hK _ _ rfl hz
  case s6=>
   intro K' a wy ho hd hb hK;simp[Region.binds,aU,aG,aD]at hd;go_simp;try go_bits
   exact hK _ _ rfl bR
  case s7=>
   intro K' a wy ho hd hb hK;have h3:=ho 6 (by decide);simp[aD]at h3;clear hd;go_simp;try go_bits
   exact hK _ _ rfl bR
  case s8=>
   intro K' a wy ho hd hb hK;simp[Region.binds,aU,aG,aD]at hd;go_simp;try go_bits
   exact hK _ _ rfl bR
  case s9=>
   intro K' a wy ho hd hb hK;simp[Region.binds,aU,aG,aD]at hd;go_simp;try go_bits
   exact hK _ _ rfl bR
  case s10=>
   intro K' a wy ho hd hb hK;simp[Region.binds,aU,aG,aD]at hd;go_simp;try go_bits
   exact hK _ _ rfl bR
 case done=>
  intro X wz hR hz;obtain⟨x0,⟨b1,x1,-,-,-,-⟩,x2,x3,x4,x5,x6,x7,x8,x9,x10,-⟩:=hR;simp only[aG]at x0 x2 x3 x4 x5 x6 x7 x8 x9 x10;simp only[aE,x0,x1,x2,x3,x4,x5,x6,x7,x8,x9,x10];clear x0 x1 x2 x3 x4 x5 x6 x7 x8 x9 x10;go_simp;obtain⟨dd,hdd⟩: ∃dd,dd=jZ f 0++aR x++rest++ByteArray.mk #[97,98]:=⟨_,rfl⟩;rw[←hdd]at HDZ ⊢;have hdz:=HDZ.out;have HB8:Hid (∃i,6≤i∧i < dd.size∧bt dd i≠0):=by
   have s1:(jZ f 0++aR x++rest).size=6+rest.size:=by simp only[UQ,oS,aP]
   refine⟨6+rest.size,by omega,?_,?_⟩
   ·rw[hdd,UQ,s1];show _ < _+2;omega
   ·rw[hdd,dW,s1,if_neg (by omega),Nat.sub_self];decide
  have D7:Hid _:=D6.out.below ((Below.refl _ WC).drew.trans hz);have F7:Hid _:=F6.out.drawn (EB.of ((Below.refl _ WC).drew.trans hz)) hXB;have HDD:Hid (dQ p+2≤dd.size∧dd.size≤60):=by have:=HCK.out;unfold Hid;omega
  clear hz hdz hdd D6 F6 HK HDZ n0 n1 n2 n3 n4 n5 n6 zx zq;by_cases h17:p=17
  ·have:=HCK.out;rw[h17]at this;exact absurd this (by decide)
  have d17:(p==17)=false:=by simp[h17]
  clear h17;obtain⟨c0,f0,c1,f1,c2,f2,c3,f3,c4,f4⟩:=F7.out;go_upto_region 13 with fail
  have hun:undef=Value.tuple #[]:=rfl;go_wp2_with fail
  refine(HPr.out _).mono ?_;rintro e V17 ⟨rfl,rfl⟩
  cases bp with
  | false=>
   go_wp2_with fail
   go_ret;exact⟨⟨dd,rfl,by have:=HDD.out;omega,by have:=HDD.out;omega,fun _ _=>HB8.out.imp fun i h=>⟨h.1,h.2.2⟩⟩,D7.out.src,D7.out.grown⟩
  | true=>
   go_wp2_with fail
   refine(oV s d p dd _ hs0 hd0 hp (by have:=HDD.out.2;omega)).mono ?_;rintro e V18 ⟨sm,rfl,sm0,sm1,hb⟩;have D18:Hid _:=D7.out.below hb;have F18:Hid _:=F7.out.drawn (EB.of hb) hXB;clear hb c0 f0 c1 f1 c2 f2 c3 f3 c4 f4;go_wp2_with fail
   refine(bS 15 B a len cap size _ (by omega) hl D18.out.src).mono ?_;rintro e V19 ⟨b15,rfl,hs1,hg1⟩;have D19:Hid _:=D18.out.draw hs1 hg1;have F19:Hid _:=F18.out.drawn hg1 hXB;clear hs1 hg1 D18 F18
   cases b15 with
   | false=>
    obtain⟨c0,f0,c1,f1,c2,f2,c3,f3,c4,f4⟩:=F19.out;go_upto_region 18 with fail
    go_wp2_with fail
    refine(HCk.out _).mono ?_;rintro e V20 ⟨rfl,rfl⟩;go_wp2_with fail
    refine(bY (65535-sm) _ (by omega) (by omega)).mono ?_;rintro e Y20 ⟨rfl,hb20⟩;have D20:Hid _:=D19.out.below hb20;clear hb20 c0 f0 c1 f1 c2 f2 c3 f3 c4 f4;go_wp2_with fail
    refine(iQ dd (dQ p) (aR (65535-sm)) _ (by rw[aP];exact HDD.out.1) (by have:=HDD.out.2;omega)).mono ?_;rintro e Z20 ⟨u,rfl,hu,hb⟩;have E20:Hid _:=D20.out.below hb;clear hb;go_wp2_with fail
    go_ret;exact⟨⟨u,rfl,by have:=HDD.out;omega,by have:=HDD.out;omega,fun _ _=>HB8.out.imp fun i h=>⟨h.1,by rw[hu.2 i (by rw[aP,HCK.out];omega) h.2.1];exact h.2.2⟩⟩,E20.out.src,E20.out.grown⟩
   | true=>
    go_wp2_with fail
    refine(eQ 65536 B a len cap size _ (by omega) hl D19.out.src).mono ?_;rintro e V21 ⟨rn,rfl,rn0,rn1,hs1,hg1⟩;have D21:Hid _:=D19.out.draw hs1 hg1;have F21:Hid _:=F19.out.drawn hg1 hXB;have rn2:rn≤65535:=by omega
    clear hs1 hg1 D19 F19 rn1;obtain⟨c0,f0,c1,f1,c2,f2,c3,f3,c4,f4⟩:=F21.out;go_upto_region 18 with fail
    go_wp2_with fail
    refine(HCk.out _).mono ?_;rintro e V22 ⟨rfl,rfl⟩;go_wp2_with fail
    refine(bY rn _ (by omega) (by omega)).mono ?_;rintro e Y22 ⟨rfl,hb22⟩;have D22:Hid _:=D21.out.below hb22;clear hb22 c0 f0 c1 f1 c2 f2 c3 f3 c4 f4;go_wp2_with fail
    refine(iQ dd (dQ p) (aR rn) _ (by rw[aP];exact HDD.out.1) (by have:=HDD.out.2;omega)).mono ?_;rintro e Z22 ⟨u,rfl,hu,hb⟩;have E22:Hid _:=D22.out.below hb;clear hb;go_wp2_with fail
    go_ret;exact⟨⟨u,rfl,by have:=HDD.out;omega,by have:=HDD.out;omega,fun _ _=>HB8.out.imp fun i h=>⟨h.1,by rw[hu.2 i (by rw[aP,HCK.out];omega) h.2.1];exact h.2.2⟩⟩,E22.out.src,E22.out.grown⟩
end Go.Proofs.YtdkepkaflielhaaGreatDoor
