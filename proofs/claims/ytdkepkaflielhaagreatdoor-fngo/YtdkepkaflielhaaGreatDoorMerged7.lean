import Derived.Test.YtdkepkaflielhaaGreatDoorMerged6
import Derived.Laws.StructEq
set_option linter.unusedVariables false
set_option linter.unusedSimpArgs false
set_option maxRecDepth 100000
set_option maxHeartbeats 8000000
namespace Go.Proofs.YtdkepkaflielhaaGreatDoor
open Go.RowKit Go.PlainAid
theorem mQ(n:Int)(w:World) :
  Cw 172 #[iV n] w (.bool (aM n 1 10000)):=by
 by_cases h1:1≤n
 ·by_cases h2:n≤10000
  ·have HV:Hid (aM n 1 10000=true):=by unfold Hid aM;simp[h1,h2]
   go_enter Tryz.func172,Tryz.ntmps172
   go_wp2_with fail
   go_ret;exact⟨aB (by rw[HV.out]),rfl⟩
  ·have HV:Hid (aM n 1 10000=false):=by unfold Hid aM;simp[h2]
   go_enter Tryz.func172,Tryz.ntmps172
   go_wp2_with fail
   go_ret;exact⟨aB (by rw[HV.out]),rfl⟩
 ·have HV:Hid (aM n 1 10000=false):=by unfold Hid aM;simp[h1]
  have h1':n < 1:=by omega
  go_enter Tryz.func172,Tryz.ntmps172
  go_wp2_with fail
  go_ret;exact⟨aB (by rw[HV.out]),rfl⟩
theorem uF(n:Int)(w:World) :
  Cw 144 #[iV n] w (.bool (aM n 1 7)):=by
 by_cases h1:1≤n
 ·by_cases h2:n≤7
  ·have HV:Hid (aM n 1 7=true):=by unfold Hid aM;simp[h1,h2]
   go_enter Tryz.func144,Tryz.ntmps144
   go_wp2_with fail
   go_ret;exact⟨aB (by rw[HV.out]),rfl⟩
  ·have HV:Hid (aM n 1 7=false):=by unfold Hid aM;simp[h2]
   go_enter Tryz.func144,Tryz.ntmps144
   go_wp2_with fail
   go_ret;exact⟨aB (by rw[HV.out]),rfl⟩
 ·have HV:Hid (aM n 1 7=false):=by unfold Hid aM;simp[h1]
  have h1':n < 1:=by omega
  go_enter Tryz.func144,Tryz.ntmps144
  go_wp2_with fail
  go_ret;exact⟨aB (by rw[HV.out]),rfl⟩
theorem nJ(UU:Int)(w:World) :
  Cw 143 #[iV UU] w (.bool (cY UU)):=by
 by_cases h1:UU=17
 ·have HV:Hid (cY UU=true):=by unfold Hid cY;simp[h1]
  go_enter Tryz.func143,Tryz.ntmps143
  go_wp2_with fail
  go_ret;exact⟨aB HV.out.symm,rfl⟩
 ·by_cases h2:UU=1
  ·have HV:Hid (cY UU=true):=by unfold Hid cY;simp[h2]
   go_enter Tryz.func143,Tryz.ntmps143
   go_wp2_with fail
   go_ret;exact⟨aB HV.out.symm,rfl⟩
  ·have HV:Hid (cY UU=false):=by unfold Hid cY;simp[h1,h2]
   go_enter Tryz.func143,Tryz.ntmps143
   go_wp2_with fail
   go_ret;exact⟨aB (by rw[HV.out];simp[h1,h2]),rfl⟩
theorem qX(l:Lv)(w:World) :
  Cb 147 #[xS l] w (.bool (fR l)):=by
 have HC0:Hid (∀W,Cw 172 #[iV l.udp] W (.bool (aM l.udp 1 10000))):=fun W=>mQ _ W
 have HC1:Hid (∀W,Cw 172 #[iV l.echo] W (.bool (aM l.echo 1 10000))):=fun W=>mQ _ W
 have HC2:Hid (∀W,Cw 172 #[iV l.opening] W (.bool (aM l.opening 1 10000))):=fun W=>mQ _ W
 have HC3:Hid (∀W,Cw 172 #[iV l.opn] W (.bool (aM l.opn 1 10000))):=fun W=>mQ _ W
 have HC4:Hid (∀W,Cw 172 #[iV l.closing] W (.bool (aM l.closing 1 10000))):=fun W=>mQ _ W
 have HV:Hid (fR l=(aM l.udp 1 10000&&aM l.echo 1 10000&&aM l.opening 1 10000&&aM l.opn 1 10000&&aM l.closing 1 10000)):=rfl;generalize fR l=ans at *;generalize aM l.udp 1 10000=b0 at *;generalize aM l.echo 1 10000=b1 at *;generalize aM l.opening 1 10000=b2 at *;generalize aM l.opn 1 10000=b3 at *;generalize aM l.closing 1 10000=b4 at *;have HZ:Hid (Below w.heap.size w (w.alloc (.cells #[iV l.udp,iV l.echo,iV l.opening,iV l.opn,iV l.closing] 25))):=bR.alloc lR _;unfold xS;go_enter Tryz.func147,Tryz.ntmps147
 go_wp2_with fail
 cases b0 with
 | false=>
  refine(HC0.out _).mono ?_;rintro e w0 ⟨rfl,rfl⟩;go_wp2_with fail
  go_ret;exact⟨aB (by rw[HV.out];rfl),HZ.out⟩
 | true=>
  refine(HC0.out _).mono ?_;rintro e w0 ⟨rfl,rfl⟩;go_wp2_with fail
  cases b1 with
  | false=>
   refine(HC1.out _).mono ?_;rintro e w1 ⟨rfl,rfl⟩;go_wp2_with fail
   go_ret;exact⟨aB (by rw[HV.out];rfl),HZ.out⟩
  | true=>
   refine(HC1.out _).mono ?_;rintro e w1 ⟨rfl,rfl⟩;go_wp2_with fail
   cases b2 with
   | false=>
    refine(HC2.out _).mono ?_;rintro e w2 ⟨rfl,rfl⟩;go_wp2_with fail
    go_ret;exact⟨aB (by rw[HV.out];rfl),HZ.out⟩
   | true=>
    refine(HC2.out _).mono ?_;rintro e w2 ⟨rfl,rfl⟩;go_wp2_with fail
    cases b3 with
    | false=>
     refine(HC3.out _).mono ?_;rintro e w3 ⟨rfl,rfl⟩;go_wp2_with fail
     go_ret;exact⟨aB (by rw[HV.out];rfl),HZ.out⟩
    | true=>
     refine(HC3.out _).mono ?_;rintro e w3 ⟨rfl,rfl⟩;go_wp2_with fail
     cases b4 with
     | false=>
      refine(HC4.out _).mono ?_;rintro e w4 ⟨rfl,rfl⟩;go_wp2_with fail
      go_ret;exact⟨aB (by rw[HV.out];rfl),HZ.out⟩
     | true=>
      refine(HC4.out _).mono ?_;rintro e w4 ⟨rfl,rfl⟩;go_wp2_with fail
      go_ret;exact⟨aB (by rw[HV.out];rfl),HZ.out⟩
theorem zL(l:Lv)(state:Int)(w:World) :
  Cb 148 #[xS l,iV state] w (iV (if state=1∨state=2 then l.opening else if state=3∨state=4∨state=5 then l.opn else if state=6∨state=7 then l.closing else 0)):=by
 have HZ:Hid (Below w.heap.size w (w.alloc (.cells #[iV l.udp,iV l.echo,iV l.opening,iV l.opn,iV l.closing] 25))):=bR.alloc lR _;obtain⟨ans,hans⟩: ∃x,x=(if state=1∨state=2 then l.opening else if state=3∨state=4∨state=5 then l.opn else if state=6∨state=7 then l.closing else 0):=⟨_,rfl⟩;rw[←hans];have HX:Hid (ans=_):=hans;clear hans;unfold xS;by_cases s1:state=1
 ·subst s1;simp at HX;go_enter Tryz.func148,Tryz.ntmps148;go_wp2_with fail;go_ret;exact⟨aK HX.out.symm,HZ.out⟩
 by_cases s2:state=2
 ·subst s2;simp at HX;go_enter Tryz.func148,Tryz.ntmps148;go_wp2_with fail;go_ret;exact⟨aK HX.out.symm,HZ.out⟩
 by_cases s3:state=3
 ·subst s3;simp at HX;go_enter Tryz.func148,Tryz.ntmps148;go_wp2_with fail;go_ret;exact⟨aK HX.out.symm,HZ.out⟩
 by_cases s4:state=4
 ·subst s4;simp at HX;go_enter Tryz.func148,Tryz.ntmps148;go_wp2_with fail;go_ret;exact⟨aK HX.out.symm,HZ.out⟩
 by_cases s5:state=5
 ·subst s5;simp at HX;go_enter Tryz.func148,Tryz.ntmps148;go_wp2_with fail;go_ret;exact⟨aK HX.out.symm,HZ.out⟩
 by_cases s6:state=6
 ·subst s6;simp at HX;go_enter Tryz.func148,Tryz.ntmps148;go_wp2_with fail;go_ret;exact⟨aK HX.out.symm,HZ.out⟩
 by_cases s7:state=7
 ·subst s7;simp at HX;go_enter Tryz.func148,Tryz.ntmps148;go_wp2_with fail;go_ret;exact⟨aK HX.out.symm,HZ.out⟩
 simp[s1,s2,s3,s4,s5,s6,s7]at HX;go_enter Tryz.func148,Tryz.ntmps148
 go_wp2_with fail
 go_ret;exact⟨aK HX.out.symm,HZ.out⟩
theorem sG(l:Lv)(UU state:Int)(w:World) :
  Cb 111 #[xS l,iV UU,iV state] w (iV (bT l UU state)):=by
 have HL:Hid (∀W,Cb 147 #[xS l] W (.bool (fR l))):=fun W=>qX l W
 have HN:Hid (∀W,Cb 148 #[xS l,iV state] W (iV (if state=1∨state=2 then l.opening else if state=3∨state=4∨state=5 then l.opn else if state=6∨state=7 then l.closing else 0))):=fun W=>zL l state W
 have HK:Hid (kJ (w.alloc (.cells #[iV l.udp,iV l.echo,iV l.opening,iV l.opn,iV l.closing] 25)) w.heap.size l):=kJ.new w l;have HZ:Hid (Below w.heap.size w (w.alloc (.cells #[iV l.udp,iV l.echo,iV l.opening,iV l.opn,iV l.closing] 25))):=bR.alloc lR _;unfold xS at HL HN ⊢
 cases hl:fR l with
 | false=>
  have HX:Hid (bT l UU state=0):=by unfold Hid bT;rw[if_pos hl]
  rw[hl]at HL;clear hl;go_enter Tryz.func111,Tryz.ntmps111
  go_wp2_with fail
  refine(HL.out _).mono ?_;rintro e w1 ⟨rfl,q1⟩;have G1:Hid _:=HZ.out.trans (q1.mono HZ.out.size);clear q1;go_wp2_with fail
  go_ret;exact⟨aK HX.out.symm,G1.out⟩
 | true=>
  generalize hcl:(if state=1∨state=2 then l.opening else if state=3∨state=4∨state=5 then l.opn else if state=6∨state=7 then l.closing else 0)=cl at HN;have HX:Hid (bT l UU state=if UU=17 then l.udp else if UU=1 then l.echo else if UU=6 then cl else 0):=by unfold Hid bT;rw[if_neg (by rw[hl];decide),hcl]
  rw[hl]at HL;clear hl hcl;go_enter Tryz.func111,Tryz.ntmps111
  go_wp2_with fail
  refine(HL.out _).mono ?_;rintro e w1 ⟨rfl,q1⟩;have G1:Hid _:=HZ.out.trans (q1.mono HZ.out.size);obtain⟨k0,k1,k2,k3,k4⟩:=HK.out.kept q1;clear q1 HZ HK HL;by_cases p0:UU=17
  ·subst p0;rw[if_pos rfl]at HX;go_wp2_with fail
   go_ret;exact⟨aK HX.out.symm,G1.out⟩
  ·by_cases p1:UU=1
   ·subst p1;rw[if_neg (by decide),if_pos rfl]at HX;go_wp2_with fail
    go_ret;exact⟨aK HX.out.symm,G1.out⟩
   ·rw[if_neg p0,if_neg p1]at HX;by_cases p6:UU=6
    ·subst p6;rw[if_pos rfl]at HX;clear p0 p1;go_wp2_with fail
     refine(HN.out _).mono ?_;rintro e w2 ⟨rfl,q2⟩;have G2:Hid _:=G1.out.trans (q2.mono G1.out.size);clear q2;go_wp2_with fail
     go_ret;exact⟨aK HX.out.symm,G2.out⟩
    ·rw[if_neg p6]at HX;go_wp2_with fail
     go_ret;exact⟨aK HX.out.symm,G1.out⟩
def yZ(state VB:Int):Bool:=if state=1∨state=2 then eH VB 2 else if state=3∨state=4∨state=5 then eH VB 1 else true
theorem KX(state VB:Int)(w:World)(hr:state=1∨state=2∨state=3∨state=4∨state=5∨state=6∨state=7) :
  Cw 146 #[iV state,iV VB] w (.bool (yZ state VB)):=by
 obtain⟨ans,hans⟩: ∃x,x=yZ state VB:=⟨_,rfl⟩;rw[←hans];have HX:Hid (ans=yZ state VB):=hans;clear hans;have e1:eH VB 1=decide (¬bits .and .i64 VB 1=0):=rfl;have e2:eH VB 2=decide (¬bits .and .i64 VB 2=0):=rfl;unfold yZ at HX;rw[e1,e2]at HX;clear e1 e2;rcases hr with rfl|rfl|rfl|rfl|rfl|rfl|rfl<;>by_cases h1:bits .and .i64 VB 1=0<;>by_cases h2:bits .and .i64 VB 2=0
 all_goals
  simp[h1,h2]at HX;go_enter Tryz.func146,Tryz.ntmps146
  go_wp2_with fail
  go_ret;exact⟨aB (by first | exact HX.out.symm | (rw[HX.out];simp[h1,h2])),rfl⟩
theorem MA(a b:Int)(UY:Bool)(w:World) :
  Cb 145 #[.agg #[iV a,iV b],.bool UY] w (iV (if UY=true then a else b)):=by
 have HZ:Hid (Below w.heap.size w (w.alloc (.cells #[iV a,iV b] 171))):=bR.alloc lR _
 cases UY;all_goals
  go_enter Tryz.func145,Tryz.ntmps145
  go_wp2_with fail
  go_ret;exact⟨aK (by simp),HZ.out⟩
def sA(w:World):Prop:=∀i:Nat,i < 16→w.cell? ⟨0,i,none⟩=some (iV ([0,0,0,3,3,0,4,5,0,6,6,0,0,0,3,3].getD i 0))
theorem sA.below{w W:World}(h:sA w)(hb:Below w.heap.size w W):sA W:=fun i hi=>((iI hb).1 _ _ (UH w _ (h i hi))).trans (h i hi)
theorem MP(state:Int)(UY:Bool)(VB:Int)(hb:aM state 1 7=true)(hc:aM VB 0 255=true):aV 6 state UY VB=(
  if eH VB 4=true then 7
  else if state=1 then (if UY=false∧eH VB 2=true then 3 else 1)
  else if state=2 then (if UY=true∧eH VB 2=true then 3 else 2)
  else if state=3 then (if eH VB 1=true then (if UY=true then 4 else 5) else 3)
  else if state=4 then (if UY=false∧eH VB 1=true then 6 else 4)
  else if state=5 then (if UY=true∧eH VB 1=true then 6 else 5)
  else if state=7 then 3 else state):=by
 unfold aV;rw[if_neg (by decide),if_pos ⟨rfl,hb,hc⟩]
theorem zZ(UU state:Int)(UY:Bool)(VB:Int)(w:World)(hT:sA w) :
  Cb 110 #[iV UU,iV state,.bool UY,iV VB] w (iV (aV UU state UY VB)):=by
 have HA:Hid (∀W,Cw 143 #[iV UU] W (.bool (cY UU))):=fun W=>nJ _ W
 have HB:Hid (∀W,Cw 144 #[iV state] W (.bool (aM state 1 7))):=fun W=>uF _ W
 have HC:Hid (∀W,Cw 121 #[iV VB] W (.bool (aM VB 0 255))):=fun W=>jK _ W
 cases hs:cY UU with
 | true=>
  have HX:Hid (aV UU state UY VB=3):=by unfold Hid aV;rw[if_pos hs]
  rw[hs]at HA;clear hs hT;go_enter Tryz.func110,Tryz.ntmps110
  go_wp2_with fail
  refine(HA.out _).mono ?_;rintro e w1 ⟨rfl,rfl⟩;go_wp2_with fail
  go_ret;exact⟨aK HX.out.symm,Below.refl _ _⟩
 | false=>
  rw[hs]at HA;have HS:Hid (cY UU=false):=hs;clear hs;by_cases hp:UU=6
  ·subst hp
   cases hb:aM state 1 7 with
   | false=>
    have HX:Hid (aV 6 state UY VB=0):=by unfold Hid aV;rw[if_neg (by rw[HS.out];decide),if_neg (by rw[hb];simp)]
    rw[hb]at HB;clear hb hT;go_enter Tryz.func110,Tryz.ntmps110
    go_wp2_with fail
    refine(HA.out _).mono ?_;rintro e w1 ⟨rfl,rfl⟩;go_wp2_with fail
    refine(HB.out _).mono ?_;rintro e w1 ⟨rfl,rfl⟩;go_wp2_with fail
    go_ret;exact⟨aK HX.out.symm,Below.refl _ _⟩
   | true=>
    cases hc:aM VB 0 255 with
    | false=>
     have HX:Hid (aV 6 state UY VB=0):=by unfold Hid aV;rw[if_neg (by rw[HS.out];decide),if_neg (by rw[hc];simp)]
     rw[hb]at HB;rw[hc]at HC;clear hb hc hT;go_enter Tryz.func110,Tryz.ntmps110
     go_wp2_with fail
     refine(HA.out _).mono ?_;rintro e w1 ⟨rfl,rfl⟩;go_wp2_with fail
     refine(HB.out _).mono ?_;rintro e w1 ⟨rfl,rfl⟩;go_wp2_with fail
     refine(HC.out _).mono ?_;rintro e w1 ⟨rfl,rfl⟩;go_wp2_with fail
     go_ret;exact⟨aK HX.out.symm,Below.refl _ _⟩
    | true=>
     have HX:Hid _:=MP state UY VB hb hc;rw[hb]at HB;rw[hc]at HC;have hr:state=1∨state=2∨state=3∨state=4∨state=5∨state=6∨state=7:=by
      unfold aM at hb;simp only[TP,decide_eq_true_eq]at hb;omega
     have HW:Hid (∀W,Cw 146 #[iV state,iV VB] W (.bool (yZ state VB))):=fun W=>KX state VB W hr
     have HF:Hid (∀a b W,Cb 145 #[.agg #[iV a,iV b],.bool UY] W (iV (if UY=true then a else b))):=fun a b W=>MA a b UY W
     clear hb hc;have k0:=hT 0 (by decide);have k1:=hT 1 (by decide);have k2:=hT 2 (by decide);have k3:=hT 3 (by decide);have k4:=hT 4 (by decide);have k5:=hT 5 (by decide);have k6:=hT 6 (by decide);have k7:=hT 7 (by decide);have k8:=hT 8 (by decide);have k9:=hT 9 (by decide);have k10:=hT 10 (by decide);have k11:=hT 11 (by decide);have k12:=hT 12 (by decide);have k13:=hT 13 (by decide);have k14:=hT 14 (by decide);have k15:=hT 15 (by decide);simp only[List.getD_cons_zero,List.getD_cons_succ]at k0 k1 k2 k3 k4 k5 k6 k7 k8 k9 k10 k11 k12 k13 k14 k15;clear hT;go_enter Tryz.func110,Tryz.ntmps110
     go_wp2_with fail
     refine(HA.out _).mono ?_;rintro e w1 ⟨rfl,rfl⟩;go_wp2_with fail
     refine(HB.out _).mono ?_;rintro e w1 ⟨rfl,rfl⟩;go_wp2_with fail
     refine(HC.out _).mono ?_;rintro e w1 ⟨rfl,rfl⟩;clear HA HB HC;go_upto_region 5 with fail
     by_cases h4:bits .and .i64 VB 4=0
     ·have n4:eH VB 4=false:=by unfold eH;simp[h4]
      rw[n4,if_neg (by decide)]at HX;clear n4;have e1:eH VB 1=decide (¬bits .and .i64 VB 1=0):=rfl;have e2:eH VB 2=decide (¬bits .and .i64 VB 2=0):=rfl;unfold yZ at HW;rw[e1,e2]at HX HW;clear e1 e2;rcases hr with rfl|rfl|rfl|rfl|rfl|rfl|rfl<;>by_cases h1:bits .and .i64 VB 1=0<;>by_cases h2:bits .and .i64 VB 2=0<;>cases UY
      all_goals
       simp[h1,h2]at HX;simp[h1,h2]at HW;simp at HF;go_wp2_with fail
       refine(HF.out _ _ _).mono ?_;rintro e w2 ⟨rfl,q2⟩;have G2:Hid (Below w1.heap.size w1 w2):=q2;clear q2;go_wp2_with (go_at_call 146;refine(HW.out _).mono ?_;rintro e w3 ⟨rfl,rfl⟩)
       go_ret;exact⟨aK HX.out.symm,G2.out⟩
     ·have HY:Hid (aV 6 state UY VB=7):=by unfold Hid;rw[HX.out,if_pos (by unfold eH;exact TT h4)]
      go_wp2_with fail
      go_ret;exact⟨aK HY.out.symm,Below.refl _ _⟩
  ·have HX:Hid (aV UU state UY VB=0):=by unfold Hid aV;rw[if_neg (by rw[HS.out];decide),if_neg (fun h=>hp h.1)]
   clear hT;go_enter Tryz.func110,Tryz.ntmps110
   go_wp2_with fail
   refine(HA.out _).mono ?_;rintro e w1 ⟨rfl,rfl⟩;go_wp2_with fail
   go_ret;exact⟨aK HX.out.symm,Below.refl _ _⟩
theorem uE(UU:Int)(w:World) :
  Cw 136 #[iV UU] w (.bool (eP UU)):=by
 have hun:undef=Value.tuple #[]:=rfl;by_cases h0:UU=6
 ·subst h0;go_enter Tryz.func136,Tryz.ntmps136
  go_wp2_with fail
  go_ret;exact⟨rfl,rfl⟩
 ·by_cases h1:UU=17
  ·subst h1;go_enter Tryz.func136,Tryz.ntmps136
   go_wp2_with fail
   go_ret;exact⟨rfl,rfl⟩
  ·by_cases h2:UU=1
   ·subst h2;go_enter Tryz.func136,Tryz.ntmps136
    go_wp2_with fail
    go_ret;exact⟨rfl,rfl⟩
   ·have HV:Hid (eP UU=false):=by unfold Hid eP;simp[h0,h1,h2]
    go_enter Tryz.func136,Tryz.ntmps136
    go_wp2_with fail
    go_ret;exact⟨aB (by rw[HV.out];simp[h0,h1,h2]),rfl⟩
theorem BH(xs:List BA)(s:BA)(a:OA)(cap:Nat)(w:World)(jJ:xs.length≤1048576)(hr:bP bX 1 w a xs) :
  Calls Tryz.prog 128 #[.slice a xs.length cap,.string s] w fun e w'=>∃j:Int,e=.returned (iV j)∧-1≤j∧j≤1048576∧Hid (decide (0≤j)=nL xs s)∧Below w.heap.size w w':=by
 have HR:Hid (bP bX 1 w a xs):=hr;have HV:Hid (nL xs s=xs.any fun t=>decide (t.toList=s.toList)):=rfl;generalize nL xs s=ans at *;clear hr;go_enter Tryz.func128,Tryz.ntmps128
 go_wp2_with fail
 go_loopw [8] (fun iv wr=>∃i:Nat,i≤xs.length∧iv=iV i∧(xs.take i).any (fun t=>decide (t.toList=s.toList))=false∧Below w.heap.size w wr) (fun iv _=>xs.length-(intOf iv).toNat)
 case atStart=>exact⟨0,UR _,rfl,rfl,Below.refl _ _⟩
 case round=>
  obtain⟨i,hi,rfl,hn,hbel⟩:=hrel;have HN:Hid ((xs.take i).any (fun t=>decide (t.toList=s.toList))=false):=hn;have HL:Hid (Below w.heap.size w wr):=hbel;clear hn hbel;by_cases hlt:i < xs.length
  ·obtain⟨b,off,rfl,hb,hat⟩:=HR.out.at hlt;have hA:=(hat.below hb HL.out) i hlt;have HST:Hid _:=jW (fun t:BA=>decide (t.toList=s.toList)) xs i hlt;have HAT:Hid _:=tI (fun t:BA=>decide (t.toList=s.toList)) xs i hlt;obtain⟨t,ht⟩: ∃t,xs[i]=t:=⟨_,rfl⟩;rw[ht]at hA HST HAT;have c0:wr.cell? ⟨b,off+i,none⟩=some (.string t):=by have:=hA 0 _ rfl;simpa using this
   have c0':wr.cell? ⟨b,off+i*1,none⟩=some (.string t):=by simpa using c0
   clear hA hat ht;by_cases he:t.toList=s.toList
   ·have HX:Hid (decide (0≤(i:Int))=ans):=by unfold Hid;rw[HV.out,HAT.out (TT he)];simp
    have hbq:(s.toList==t.toList)=true:=by simp[he]
    clear he;go_wp2_with fail
    go_ret;exact⟨i,rfl,by omega,by omega,HX,HL.out⟩
   ·have HN2:Hid ((xs.take (i+1)).any (fun t=>decide (t.toList=s.toList))=false):=by unfold Hid;rw[HST.out,HN.out,TR he];rfl
    have hbq:(s.toList==t.toList)=false:=by simp;exact fun e=>he e.symm
    clear he;go_wp2_with fail
    go_roundw
    case rel=>exact⟨i+1,by omega,by go_num,HN2.out,HL.out⟩
    case measure=>simp[intOf];omega
  ·have hie:i=xs.length:=by omega
   have HX:Hid (decide (0≤(-1:Int))=ans):=by unfold Hid;have:=HN.out;rw[hie,List.take_length]at this;rw[HV.out,this];rfl
   go_wp2_with fail
   go_ret;exact⟨-1,rfl,by omega,by omega,HX,HL.out⟩
theorem wS(xs:List BA)(s:BA)(a:OA)(cap:Nat)(w:World)(jJ:xs.length≤1048576)(hr:bP bX 1 w a xs) :
  Cb 96 #[.slice a xs.length cap,.string s] w (.bool (nL xs s)):=by
 have HI:Hid _:=BH xs s a cap w jJ hr;generalize nL xs s=ans at *;clear hr;go_enter Tryz.func96,Tryz.ntmps96
 go_wp2_with fail
 refine Calls.mono HI.out ?_;rintro e w1 ⟨j,rfl,h1,h2,h3,b1⟩;have B1:Hid _:=b1;clear b1;go_wp2_with fail
 go_ret;exact⟨aB h3.out,B1.out⟩
def wB(xs:List BA):Bool:=decide (1≤xs.length)&&decide (xs.length≤8)&&jT eV xs xs.length
theorem xR(xs:List BA)(a:OA)(cap:Nat)(w:World)(jJ:xs.length≤1048576)(hcap:xs.length≤cap)(hsz:∀s∈xs,s.size≤1048576)(hr:bP bX 1 w a xs) :
  Cb 163 #[.slice a xs.length cap] w (.bool (wB xs)):=by
 have HR:Hid (bP bX 1 w a xs):=hr;have HZ:Hid (∀s∈xs,s.size≤1048576):=hsz;have HV:Hid (wB xs=(decide (1≤xs.length)&&decide (xs.length≤8)&&jT eV xs xs.length)):=rfl;generalize wB xs=ans at *;have hun:undef=Value.tuple #[]:=rfl;clear hr hsz;by_cases h1:xs.length < 1
 ·have HX:Hid (ans=false):=by unfold Hid;rw[HV.out,TR (show ¬1≤xs.length by omega)];rfl
  have h1':(xs.length:Int) < 1:=by omega
  go_enter Tryz.func163,Tryz.ntmps163
  go_wp2_with fail
  go_ret;exact⟨aB HX.out.symm,Below.refl _ _⟩
 ·have h1n:¬(xs.length:Int) < 1:=by omega
  by_cases h2:8 < xs.length
  ·have HX:Hid (ans=false):=by unfold Hid;rw[HV.out,TR (show ¬xs.length≤8 by omega)];simp
   have h2':(8:Int) < (xs.length:Int):=by omega
   go_enter Tryz.func163,Tryz.ntmps163
   go_wp2_with fail
   go_ret;exact⟨aB HX.out.symm,Below.refl _ _⟩
  ·have HU:Hid (ans=jT eV xs xs.length):=by unfold Hid;rw[HV.out,TT (show 1≤xs.length by omega),TT (show xs.length≤8 by omega)];rfl
   have h2n:¬(8:Int) < (xs.length:Int):=by omega
   clear HV;go_enter Tryz.func163,Tryz.ntmps163
   go_wp2_with fail
   go_loopw [15] (fun iv wr=>∃i:Nat,i≤xs.length∧iv=iV i∧jT eV xs i=true∧Below w.heap.size w wr) (fun iv _=>xs.length-(intOf iv).toNat)
   case atStart=>exact⟨0,UR _,rfl,rfl,Below.refl _ _⟩
   case round=>
    obtain⟨i,hi,rfl,hn,hbel⟩:=hrel;have HN:Hid (jT eV xs i=true):=hn;have HL:Hid (Below w.heap.size w wr):=hbel;clear hn hbel;by_cases hlt:i < xs.length
    ·obtain⟨b,off,rfl,hb,hat⟩:=HR.out.at hlt;have hA:=(hat.below hb HL.out) i hlt;have HST:Hid _:=lS (f:=eV) hlt;have HATF:Hid (eV (xs.take i) xs[i]=false→jT eV xs xs.length=false):=rV hlt;have hts:=HZ.out xs[i] (TY hlt);obtain⟨t,ht⟩: ∃t,xs[i]=t:=⟨_,rfl⟩;rw[ht]at hA HST HATF hts;have c0:wr.cell? ⟨b,off+i,none⟩=some (.string t):=by have:=hA 0 _ rfl;simpa using this
     have c0':wr.cell? ⟨b,off+i*1,none⟩=some (.string t):=by simpa using c0
     have HOV:Hid (eV (xs.take i) t=(decide (t.size=4)&&!nL (xs.take i) t)):=rfl;have hltI:(i:Int) < (xs.length:Int):=by omega
     have HC:Hid (∀W,Below w.heap.size w W→Cb 96 #[.slice (some ⟨b,off,none⟩) i cap,.string t] W (.bool (nL (xs.take i) t))):=fun W hW=>by
      have h:=wS (xs.take i) t (some ⟨b,off,none⟩) cap W (by simp;omega) ((HR.out.below hW).take i);rw[List.length_take,Nat.min_eq_left (by omega)]at h;exact h
     generalize nL (xs.take i) t=il at *;clear hA hat ht;by_cases h4:t.size=4
     ·have h4i:(t.size:Int)=4:=by omega
      have d1:((t.size:Int) != 4)=false:=by simp[h4i]
      clear h4i;go_wp2_with fail
      refine(HC.out _ HL.out).mono ?_;rintro e w1 ⟨rfl,q1⟩;have HL1:Hid _:=HL.out.trans (q1.mono HL.out.size);clear q1
      cases il with
      | true=>
       have HX:Hid (ans=false):=by unfold Hid;rw[HU.out];refine HATF.out ?_;rw[HOV.out];simp
       go_wp2_with fail
       go_ret;exact⟨aB HX.out.symm,HL1.out⟩
      | false=>
       have HN2:Hid (jT eV xs (i+1)=true):=by unfold Hid;rw[HST.out,HN.out,HOV.out,TT h4];rfl
       go_wp2_with fail
       go_roundw
       case rel=>exact⟨i+1,by omega,by go_num,HN2.out,HL1.out⟩
       case measure=>simp[intOf];omega
     ·have HX:Hid (ans=false):=by unfold Hid;rw[HU.out];refine HATF.out ?_;rw[HOV.out,TR h4];rfl
      have h4i:¬(t.size:Int)=4:=by omega
      have d1:((t.size:Int) != 4)=true:=by simp[h4i]
      go_wp2_with fail
      go_ret;exact⟨aB HX.out.symm,HL.out⟩
    ·have hie:i=xs.length:=by omega
     have HX:Hid (ans=true):=by unfold Hid;have:=HN.out;rw[hie]at this;rw[HU.out];exact this
     go_wp2_with fail
     go_ret;exact⟨aB HX.out.symm,HL.out⟩
structure En where
 UU:Int
 addr:BA
 port:Int
def qV(q:En):Value:=.agg (iE q.UU q.addr q.port).toArray
def LC(q:En):List Value:=(iE q.UU q.addr q.port)
def bU(q p:En):Bool:=(q.UU==p.UU)&&((q.addr.toList==p.addr.toList)&&(q.port==p.port))
structure Sk where
 host:En
 peer:BA
 UV:Int
def SD(q:Sk):Value:=.agg (iW q.host.UU q.host.addr q.host.port q.peer q.UV).toArray
def OV(q:Sk):List Value:=(iW q.host.UU q.host.addr q.host.port q.peer q.UV)
def dG(q p:Sk):Bool:=bU q.host p.host&&((q.peer.toList==p.peer.toList)&&(q.UV==p.UV))
theorem CO(D:Nat)(q p:En)(W:World):(Op.equalIn (D+2) 86 (.agg (iE q.UU q.addr q.port).toArray) (.agg (iE p.UU p.addr p.port).toArray)).run Tryz.prog W=.ok (bU q p) W:=by
 have h1:Tryz.prog.underlying 86=some (.struct (Tryz.prog.fieldsOf 86)):=by kernel_rfl
 have h2:Tryz.prog.stoodInHeld 86=false:=by kernel_rfl
 rw[run_equalIn_agg _ _ _ _ _ h1 h2];have h3:(Tryz.prog.fieldsOf 86).toList.length=3:=by kernel_rfl
 have h4 : ((Tryz.prog.fieldsOf 86).toList.map fun f => (f.type, f.offset, f.name == "_")) = [(2, 0, false), (9, 1, false), (2, 2, false)] := by kernel_rfl
 generalize (Tryz.prog.fieldsOf 86).toList=fs at *;match fs,h3 with
 | [f0,f1,f2],_=>
  simp only[List.map_cons,List.map_nil,List.cons.injEq,Prod.mk.injEq,and_true]at h4;obtain⟨⟨a0,b0,c0⟩,⟨a1,b1,c1⟩,⟨a2,b2,c2⟩⟩:=h4
  have d0 : (f0.name ≠ "_") = True := by simpa using c0
  have q0:∀W,(part 2 (iE q.UU q.addr q.port).toArray 0).run Tryz.prog W=.ok (iV q.UU) W:=fun W=>by kernel_rfl
  have p0:∀W,(part 2 (iE p.UU p.addr p.port).toArray 0).run Tryz.prog W=.ok (iV p.UU) W:=fun W=>by kernel_rfl
  have d1 : (f1.name ≠ "_") = True := by simpa using c1
  have q1:∀W,(part 9 (iE q.UU q.addr q.port).toArray 1).run Tryz.prog W=.ok (.string q.addr) W:=fun W=>by kernel_rfl
  have p1:∀W,(part 9 (iE p.UU p.addr p.port).toArray 1).run Tryz.prog W=.ok (.string p.addr) W:=fun W=>by kernel_rfl
  have d2 : (f2.name ≠ "_") = True := by simpa using c2
  have q2:∀W,(part 2 (iE q.UU q.addr q.port).toArray 2).run Tryz.prog W=.ok (iV q.port) W:=fun W=>by kernel_rfl
  have p2:∀W,(part 2 (iE p.UU p.addr p.port).toArray 2).run Tryz.prog W=.ok (iV p.port) W:=fun W=>by kernel_rfl
  unfold bU;simp only[Op.eqFields,a0,b0,d0,q0,p0,a1,b1,d1,q1,p1,a2,b2,d2,q2,p2,if_true,Sem.run_bind,Sem.run_ite,Sem.run_pure,Result.andThen_ok,run_equalIn_string _ _ _ _ _ Tryz.underlying9,run_equalIn_int _ _ _ _ _ _ _ Tryz.underlying2];generalize (q.UU==p.UU)=g0;generalize (q.addr.toList==p.addr.toList)=g1;generalize (q.port==p.port)=g2
  cases g0
  ·simp
  simp only[UL,UD,if_false,UE]
  cases g1
  ·simp
  simp only[UL,UD,if_false,UE]
  cases g2<;>simp
theorem CN(q p:En)(W:World):(binOp .eql 86 (.agg (iE q.UU q.addr q.port).toArray) (.agg (iE p.UU p.addr p.port).toArray)).run Tryz.prog W=.ok (.bool (bU q p)) W:=by
 rw[run_eql_struct,CO 9998 q p W];rfl
theorem LX(D:Nat)(q p:Sk)(W:World):(Op.equalIn (D+3) 147 (.agg (iW q.host.UU q.host.addr q.host.port q.peer q.UV).toArray) (.agg (iW p.host.UU p.host.addr p.host.port p.peer p.UV).toArray)).run Tryz.prog W=.ok (dG q p) W:=by
 have h1:Tryz.prog.underlying 147=some (.struct (Tryz.prog.fieldsOf 147)):=by kernel_rfl
 have h2:Tryz.prog.stoodInHeld 147=false:=by kernel_rfl
 rw[run_equalIn_agg _ _ _ _ _ h1 h2];have h3:(Tryz.prog.fieldsOf 147).toList.length=3:=by kernel_rfl
 have h4 : ((Tryz.prog.fieldsOf 147).toList.map fun f => (f.type, f.offset, f.name == "_")) = [(86, 0, false), (9, 3, false), (2, 4, false)] := by kernel_rfl
 generalize (Tryz.prog.fieldsOf 147).toList=fs at *;match fs,h3 with
 | [f0,f1,f2],_=>
  simp only[List.map_cons,List.map_nil,List.cons.injEq,Prod.mk.injEq,and_true]at h4;obtain⟨⟨a0,b0,c0⟩,⟨a1,b1,c1⟩,⟨a2,b2,c2⟩⟩:=h4
  have d0 : (f0.name ≠ "_") = True := by simpa using c0
  have q0:∀W,(part 86 (iW q.host.UU q.host.addr q.host.port q.peer q.UV).toArray 0).run Tryz.prog W=.ok (.agg (iE q.host.UU q.host.addr q.host.port).toArray) W:=fun W=>by kernel_rfl
  have p0:∀W,(part 86 (iW p.host.UU p.host.addr p.host.port p.peer p.UV).toArray 0).run Tryz.prog W=.ok (.agg (iE p.host.UU p.host.addr p.host.port).toArray) W:=fun W=>by kernel_rfl
  have d1 : (f1.name ≠ "_") = True := by simpa using c1
  have q1:∀W,(part 9 (iW q.host.UU q.host.addr q.host.port q.peer q.UV).toArray 3).run Tryz.prog W=.ok (.string q.peer) W:=fun W=>by kernel_rfl
  have p1:∀W,(part 9 (iW p.host.UU p.host.addr p.host.port p.peer p.UV).toArray 3).run Tryz.prog W=.ok (.string p.peer) W:=fun W=>by kernel_rfl
  have d2 : (f2.name ≠ "_") = True := by simpa using c2
  have q2:∀W,(part 2 (iW q.host.UU q.host.addr q.host.port q.peer q.UV).toArray 4).run Tryz.prog W=.ok (iV q.UV) W:=fun W=>by kernel_rfl
  have p2:∀W,(part 2 (iW p.host.UU p.host.addr p.host.port p.peer p.UV).toArray 4).run Tryz.prog W=.ok (iV p.UV) W:=fun W=>by kernel_rfl
  unfold dG;simp only[Op.eqFields,a0,b0,d0,q0,p0,a1,b1,d1,q1,p1,a2,b2,d2,q2,p2,if_true,Sem.run_bind,Sem.run_ite,Sem.run_pure,Result.andThen_ok,run_equalIn_string _ _ _ _ _ Tryz.underlying9,run_equalIn_int _ _ _ _ _ _ _ Tryz.underlying2,CO D q.host p.host];generalize (bU q.host p.host)=g0;generalize (q.peer.toList==p.peer.toList)=g1;generalize (q.UV==p.UV)=g2
  cases g0
  ·simp
  simp only[UL,UD,if_false,UE]
  cases g1
  ·simp
  simp only[UL,UD,if_false,UE]
  cases g2<;>simp
theorem LW(q p:Sk)(W:World):(binOp .eql 147 (.agg (iW q.host.UU q.host.addr q.host.port q.peer q.UV).toArray) (.agg (iW p.host.UU p.host.addr p.host.port p.peer p.UV).toArray)).run Tryz.prog W=.ok (.bool (dG q p)) W:=by
 rw[run_eql_struct,LX 9997 q p W];rfl
end Go.Proofs.YtdkepkaflielhaaGreatDoor
