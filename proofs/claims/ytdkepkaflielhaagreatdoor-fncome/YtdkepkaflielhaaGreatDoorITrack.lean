import Derived.Test.YtdkepkaflielhaaGreatDoorSz
import Derived.Test.YtdkepkaflielhaaGreatDoorAb
import Derived.Test.YtdkepkaflielhaaGreatDoorTrack
import Derived.Test.YtdkepkaflielhaaGreatDoorLawLives
import Derived.Test.YtdkepkaflielhaaGreatDoorIV4A
set_option linter.unusedVariables false
set_option linter.unusedSimpArgs false
set_option maxRecDepth 100000
set_option maxHeartbeats 8000000
namespace Go.Proofs.YtdkepkaflielhaaGreatDoor
open Go.RowKit Go.PlainAid
theorem isLife_any (n:Int) (w:World) :
  Cw 172 #[iV n] w (.bool (isIn n 1 10000)):=by
 by_cases h1:1≤n
 ·by_cases h2:n≤10000
  ·have HV:Hid (isIn n 1 10000=true):=by unfold Hid isIn; simp [h1,h2]
   go_enter Tryz.func172,Tryz.ntmps172
   go_wp2_with fail
   go_ret;exact ⟨ret_bool (by rw [HV.out]),rfl⟩
  ·have HV:Hid (isIn n 1 10000=false):=by unfold Hid isIn; simp [h2]
   go_enter Tryz.func172,Tryz.ntmps172
   go_wp2_with fail
   go_ret;exact ⟨ret_bool (by rw [HV.out]),rfl⟩
 ·have HV:Hid (isIn n 1 10000=false):=by unfold Hid isIn; simp [h1]
  have h1':n < 1:=by omega
  go_enter Tryz.func172,Tryz.ntmps172
  go_wp2_with fail
  go_ret;exact ⟨ret_bool (by rw [HV.out]),rfl⟩
theorem isState_any (n:Int) (w:World) :
  Cw 144 #[iV n] w (.bool (isIn n 1 7)):=by
 by_cases h1:1≤n
 ·by_cases h2:n≤7
  ·have HV:Hid (isIn n 1 7=true):=by unfold Hid isIn; simp [h1,h2]
   go_enter Tryz.func144,Tryz.ntmps144
   go_wp2_with fail
   go_ret;exact ⟨ret_bool (by rw [HV.out]),rfl⟩
  ·have HV:Hid (isIn n 1 7=false):=by unfold Hid isIn; simp [h2]
   go_enter Tryz.func144,Tryz.ntmps144
   go_wp2_with fail
   go_ret;exact ⟨ret_bool (by rw [HV.out]),rfl⟩
 ·have HV:Hid (isIn n 1 7=false):=by unfold Hid isIn; simp [h1]
  have h1':n < 1:=by omega
  go_enter Tryz.func144,Tryz.ntmps144
  go_wp2_with fail
  go_ret;exact ⟨ret_bool (by rw [HV.out]),rfl⟩
theorem implStill_any (proto:Int) (w:World) :
  Cw 143 #[iV proto] w (.bool (stillP proto)):=by
 by_cases h1:proto=17
 ·have HV:Hid (stillP proto=true):=by unfold Hid stillP; simp [h1]
  go_enter Tryz.func143,Tryz.ntmps143
  go_wp2_with fail
  go_ret;exact ⟨ret_bool HV.out.symm,rfl⟩
 ·by_cases h2:proto=1
  ·have HV:Hid (stillP proto=true):=by unfold Hid stillP; simp [h2]
   go_enter Tryz.func143,Tryz.ntmps143
   go_wp2_with fail
   go_ret;exact ⟨ret_bool HV.out.symm,rfl⟩
  ·have HV:Hid (stillP proto=false):=by unfold Hid stillP; simp [h1,h2]
   go_enter Tryz.func143,Tryz.ntmps143
   go_wp2_with fail
   go_ret;exact ⟨ret_bool (by rw [HV.out]; simp [h1,h2]),rfl⟩
theorem implLives_any (l:Lv) (w:World) :
  Cb 147 #[lvC l] w (.bool (livesOk l)):=by
 have HC0:Hid (∀ W,Cw 172 #[iV l.udp] W (.bool (isIn l.udp 1 10000))):=fun W=>isLife_any _ W
 have HC1:Hid (∀ W,Cw 172 #[iV l.echo] W (.bool (isIn l.echo 1 10000))):=fun W=>isLife_any _ W
 have HC2:Hid (∀ W,Cw 172 #[iV l.opening] W (.bool (isIn l.opening 1 10000))):=fun W=>isLife_any _ W
 have HC3:Hid (∀ W,Cw 172 #[iV l.opn] W (.bool (isIn l.opn 1 10000))):=fun W=>isLife_any _ W
 have HC4:Hid (∀ W,Cw 172 #[iV l.closing] W (.bool (isIn l.closing 1 10000))):=fun W=>isLife_any _ W
 have HV:Hid (livesOk l=(isIn l.udp 1 10000&&isIn l.echo 1 10000&&isIn l.opening 1 10000&&isIn l.opn 1 10000&&isIn l.closing 1 10000)):=rfl;generalize livesOk l=ans at *;generalize isIn l.udp 1 10000=b0 at *;generalize isIn l.echo 1 10000=b1 at *;generalize isIn l.opening 1 10000=b2 at *;generalize isIn l.opn 1 10000=b3 at *;generalize isIn l.closing 1 10000=b4 at *;have HZ:Hid (Below w.z w (w.alloc (.cells #[iV l.udp,iV l.echo,iV l.opening,iV l.opn,iV l.closing] 25))):=bR.alloc lR _;unfold lvC;go_enter Tryz.func147,Tryz.ntmps147
 go_wp2_with fail
 cases b0 with
 | false =>
  refine (HC0.out _).mono ?_;rintro e w0 ⟨rfl,rfl⟩;go_wp2_with fail
  go_ret;exact ⟨ret_bool (by rw [HV.out]; rfl),HZ.out⟩
 | true =>
  refine (HC0.out _).mono ?_;rintro e w0 ⟨rfl,rfl⟩;go_wp2_with fail
  cases b1 with
  | false =>
   refine (HC1.out _).mono ?_;rintro e w1 ⟨rfl,rfl⟩;go_wp2_with fail
   go_ret;exact ⟨ret_bool (by rw [HV.out]; rfl),HZ.out⟩
  | true =>
   refine (HC1.out _).mono ?_;rintro e w1 ⟨rfl,rfl⟩;go_wp2_with fail
   cases b2 with
   | false =>
    refine (HC2.out _).mono ?_;rintro e w2 ⟨rfl,rfl⟩;go_wp2_with fail
    go_ret;exact ⟨ret_bool (by rw [HV.out]; rfl),HZ.out⟩
   | true =>
    refine (HC2.out _).mono ?_;rintro e w2 ⟨rfl,rfl⟩;go_wp2_with fail
    cases b3 with
    | false =>
     refine (HC3.out _).mono ?_;rintro e w3 ⟨rfl,rfl⟩;go_wp2_with fail
     go_ret;exact ⟨ret_bool (by rw [HV.out]; rfl),HZ.out⟩
    | true =>
     refine (HC3.out _).mono ?_;rintro e w3 ⟨rfl,rfl⟩;go_wp2_with fail
     cases b4 with
     | false =>
      refine (HC4.out _).mono ?_;rintro e w4 ⟨rfl,rfl⟩;go_wp2_with fail
      go_ret;exact ⟨ret_bool (by rw [HV.out]; rfl),HZ.out⟩
     | true =>
      refine (HC4.out _).mono ?_;rintro e w4 ⟨rfl,rfl⟩;go_wp2_with fail
      go_ret;exact ⟨ret_bool (by rw [HV.out]; rfl),HZ.out⟩
theorem connLife_any (l:Lv) (state:Int) (w:World) :
  Cb 148 #[lvC l,iV state] w (iV (if state=1∨state=2 then l.opening else if state=3∨state=4∨state=5 then l.opn else if state=6∨state=7 then l.closing else 0)):=by
 have HZ:Hid (Below w.z w (w.alloc (.cells #[iV l.udp,iV l.echo,iV l.opening,iV l.opn,iV l.closing] 25))):=bR.alloc lR _;obtain ⟨ans,hans⟩ : ∃ x,x=(if state=1∨state=2 then l.opening else if state=3∨state=4∨state=5 then l.opn else if state=6∨state=7 then l.closing else 0):=⟨_,rfl⟩;rw [← hans];have HX:Hid (ans=_):=hans;clear hans;unfold lvC;by_cases s1:state=1
 ·subst s1; simp at HX; go_enter Tryz.func148,Tryz.ntmps148; go_wp2_with fail; go_ret; exact ⟨ret_int HX.out.symm,HZ.out⟩
 by_cases s2:state=2
 ·subst s2; simp at HX; go_enter Tryz.func148,Tryz.ntmps148; go_wp2_with fail; go_ret; exact ⟨ret_int HX.out.symm,HZ.out⟩
 by_cases s3:state=3
 ·subst s3; simp at HX; go_enter Tryz.func148,Tryz.ntmps148; go_wp2_with fail; go_ret; exact ⟨ret_int HX.out.symm,HZ.out⟩
 by_cases s4:state=4
 ·subst s4; simp at HX; go_enter Tryz.func148,Tryz.ntmps148; go_wp2_with fail; go_ret; exact ⟨ret_int HX.out.symm,HZ.out⟩
 by_cases s5:state=5
 ·subst s5; simp at HX; go_enter Tryz.func148,Tryz.ntmps148; go_wp2_with fail; go_ret; exact ⟨ret_int HX.out.symm,HZ.out⟩
 by_cases s6:state=6
 ·subst s6; simp at HX; go_enter Tryz.func148,Tryz.ntmps148; go_wp2_with fail; go_ret; exact ⟨ret_int HX.out.symm,HZ.out⟩
 by_cases s7:state=7
 ·subst s7; simp at HX; go_enter Tryz.func148,Tryz.ntmps148; go_wp2_with fail; go_ret; exact ⟨ret_int HX.out.symm,HZ.out⟩
 simp [s1,s2,s3,s4,s5,s6,s7] at HX;go_enter Tryz.func148,Tryz.ntmps148
 go_wp2_with fail
 go_ret;exact ⟨ret_int HX.out.symm,HZ.out⟩
theorem implLife_any (l:Lv) (proto state:Int) (w:World) :
  Cb 111 #[lvC l,iV proto,iV state] w (iV (trackLifeV l proto state)):=by
 have HL:Hid (∀ W,Cb 147 #[lvC l] W (.bool (livesOk l))):=fun W=>implLives_any l W
 have HN:Hid (∀ W,Cb 148 #[lvC l,iV state] W (iV (if state=1∨state=2 then l.opening else if state=3∨state=4∨state=5 then l.opn else if state=6∨state=7 then l.closing else 0))):=fun W=>connLife_any l state W
 have HK:Hid (BoxLives (w.alloc (.cells #[iV l.udp,iV l.echo,iV l.opening,iV l.opn,iV l.closing] 25)) w.z l):=BoxLives.new w l;have HZ:Hid (Below w.z w (w.alloc (.cells #[iV l.udp,iV l.echo,iV l.opening,iV l.opn,iV l.closing] 25))):=bR.alloc lR _;unfold lvC at HL HN ⊢
 cases hl:livesOk l with
 | false =>
  have HX:Hid (trackLifeV l proto state=0):=by unfold Hid trackLifeV; rw [if_pos hl]
  rw [hl] at HL;clear hl;go_enter Tryz.func111,Tryz.ntmps111
  go_wp2_with fail
  refine (HL.out _).mono ?_;rintro e w1 ⟨rfl,q1⟩;have G1:Hid _:=HZ.out.trans (q1.mono HZ.out.size);clear q1;go_wp2_with fail
  go_ret;exact ⟨ret_int HX.out.symm,G1.out⟩
 | true =>
  generalize hcl:(if state=1∨state=2 then l.opening else if state=3∨state=4∨state=5 then l.opn else if state=6∨state=7 then l.closing else 0)=cl at HN;have HX:Hid (trackLifeV l proto state=if proto=17 then l.udp else if proto=1 then l.echo else if proto=6 then cl else 0):=by unfold Hid trackLifeV; rw [if_neg (by rw [hl]; decide),hcl]
  rw [hl] at HL;clear hl hcl;go_enter Tryz.func111,Tryz.ntmps111
  go_wp2_with fail
  refine (HL.out _).mono ?_;rintro e w1 ⟨rfl,q1⟩;have G1:Hid _:=HZ.out.trans (q1.mono HZ.out.size);obtain ⟨k0,k1,k2,k3,k4⟩:=HK.out.kept q1;clear q1 HZ HK HL;by_cases p0:proto=17
  ·subst p0;rw [if_pos rfl] at HX;go_wp2_with fail
   go_ret;exact ⟨ret_int HX.out.symm,G1.out⟩
  ·by_cases p1:proto=1
   ·subst p1;rw [if_neg (by decide),if_pos rfl] at HX;go_wp2_with fail
    go_ret;exact ⟨ret_int HX.out.symm,G1.out⟩
   ·rw [if_neg p0,if_neg p1] at HX;by_cases p6:proto=6
    ·subst p6;rw [if_pos rfl] at HX;clear p0 p1;go_wp2_with fail
     refine (HN.out _).mono ?_;rintro e w2 ⟨rfl,q2⟩;have G2:Hid _:=G1.out.trans (q2.mono G1.out.size);clear q2;go_wp2_with fail
     go_ret;exact ⟨ret_int HX.out.symm,G2.out⟩
    ·rw [if_neg p6] at HX;go_wp2_with fail
     go_ret;exact ⟨ret_int HX.out.symm,G1.out⟩
def waitV (state flags:Int):Bool:=if state=1∨state=2 then flagB flags 2 else if state=3∨state=4∨state=5 then flagB flags 1 else true
theorem waits_any (state flags:Int) (w:World) (hr:state=1∨state=2∨state=3∨state=4∨state=5∨state=6∨state=7) :
  Cw 146 #[iV state,iV flags] w (.bool (waitV state flags)):=by
 obtain ⟨ans,hans⟩ : ∃ x,x=waitV state flags:=⟨_,rfl⟩;rw [← hans];have HX:Hid (ans=waitV state flags):=hans;clear hans;have e1:flagB flags 1=decide (¬ bits .and .i64 flags 1=0):=rfl;have e2:flagB flags 2=decide (¬ bits .and .i64 flags 2=0):=rfl;unfold waitV at HX;rw [e1,e2] at HX;clear e1 e2;rcases hr with rfl | rfl | rfl | rfl | rfl | rfl | rfl<;>by_cases h1:bits .and .i64 flags 1=0<;>by_cases h2:bits .and .i64 flags 2=0
 all_goals
  simp [h1,h2] at HX;go_enter Tryz.func146,Tryz.ntmps146
  go_wp2_with fail
  go_ret;exact ⟨ret_bool (by first | exact HX.out.symm | (rw [HX.out]; simp [h1,h2])),rfl⟩
theorem from_any (a b:Int) (inside:Bool) (w:World) :
  Cb 145 #[.agg #[iV a,iV b],.bool inside] w (iV (if inside=true then a else b)):=by
 have HZ:Hid (Below w.z w (w.alloc (.cells #[iV a,iV b] 171))):=bR.alloc lR _
 cases inside;all_goals
  go_enter Tryz.func145,Tryz.ntmps145
  go_wp2_with fail
  go_ret;exact ⟨ret_int (by simp),HZ.out⟩
def TabB (w:World):Prop:=∀ i:Nat,i < 16→w.cell? ⟨0,i,none⟩=some (iV ([0,0,0,3,3,0,4,5,0,6,6,0,0,0,3,3].getD i 0))
theorem TabB.below {w W:World} (h:TabB w) (hb:Below w.heap.size w W):TabB W:=fun i hi=>((bcell hb).1 _ _ (World.block_lt_of_cell? w _ (h i hi))).trans (h i hi)
theorem next_six (state:Int) (inside:Bool) (flags:Int) (hb:isIn state 1 7=true) (hc:isIn flags 0 255=true):trackNextV 6 state inside flags=(
  if flagB flags 4=true then 7
  else if state=1 then (if inside=false∧flagB flags 2=true then 3 else 1)
  else if state=2 then (if inside=true∧flagB flags 2=true then 3 else 2)
  else if state=3 then (if flagB flags 1=true then (if inside=true then 4 else 5) else 3)
  else if state=4 then (if inside=false∧flagB flags 1=true then 6 else 4)
  else if state=5 then (if inside=true∧flagB flags 1=true then 6 else 5)
  else if state=7 then 3 else state):=by
 unfold trackNextV; rw [if_neg (by decide),if_pos ⟨rfl,hb,hc⟩]
theorem implNext_any (proto state:Int) (inside:Bool) (flags:Int) (w:World) (hT:TabB w) :
  Cb 110 #[iV proto,iV state,.bool inside,iV flags] w (iV (trackNextV proto state inside flags)):=by
 have HA:Hid (∀ W,Cw 143 #[iV proto] W (.bool (stillP proto))):=fun W=>implStill_any _ W
 have HB:Hid (∀ W,Cw 144 #[iV state] W (.bool (isIn state 1 7))):=fun W=>isState_any _ W
 have HC:Hid (∀ W,Cw 121 #[iV flags] W (.bool (isIn flags 0 255))):=fun W=>implByte_any _ W
 cases hs:stillP proto with
 | true =>
  have HX:Hid (trackNextV proto state inside flags=3):=by unfold Hid trackNextV; rw [if_pos hs]
  rw [hs] at HA;clear hs hT;go_enter Tryz.func110,Tryz.ntmps110
  go_wp2_with fail
  refine (HA.out _).mono ?_;rintro e w1 ⟨rfl,rfl⟩;go_wp2_with fail
  go_ret;exact ⟨ret_int HX.out.symm,Below.refl _ _⟩
 | false =>
  rw [hs] at HA;have HS:Hid (stillP proto=false):=hs;clear hs;by_cases hp:proto=6
  ·subst hp
   cases hb:isIn state 1 7 with
   | false =>
    have HX:Hid (trackNextV 6 state inside flags=0):=by unfold Hid trackNextV; rw [if_neg (by rw [HS.out]; decide),if_neg (by rw [hb]; simp)]
    rw [hb] at HB;clear hb hT;go_enter Tryz.func110,Tryz.ntmps110
    go_wp2_with fail
    refine (HA.out _).mono ?_;rintro e w1 ⟨rfl,rfl⟩;go_wp2_with fail
    refine (HB.out _).mono ?_;rintro e w1 ⟨rfl,rfl⟩;go_wp2_with fail
    go_ret;exact ⟨ret_int HX.out.symm,Below.refl _ _⟩
   | true =>
    cases hc:isIn flags 0 255 with
    | false =>
     have HX:Hid (trackNextV 6 state inside flags=0):=by unfold Hid trackNextV; rw [if_neg (by rw [HS.out]; decide),if_neg (by rw [hc]; simp)]
     rw [hb] at HB;rw [hc] at HC;clear hb hc hT;go_enter Tryz.func110,Tryz.ntmps110
     go_wp2_with fail
     refine (HA.out _).mono ?_;rintro e w1 ⟨rfl,rfl⟩;go_wp2_with fail
     refine (HB.out _).mono ?_;rintro e w1 ⟨rfl,rfl⟩;go_wp2_with fail
     refine (HC.out _).mono ?_;rintro e w1 ⟨rfl,rfl⟩;go_wp2_with fail
     go_ret;exact ⟨ret_int HX.out.symm,Below.refl _ _⟩
    | true =>
     have HX:Hid _:=next_six state inside flags hb hc;rw [hb] at HB;rw [hc] at HC;have hr:state=1∨state=2∨state=3∨state=4∨state=5∨state=6∨state=7:=by
      unfold isIn at hb; simp only [Bool.and_eq_true,decide_eq_true_eq] at hb; omega
     have HW:Hid (∀ W,Cw 146 #[iV state,iV flags] W (.bool (waitV state flags))):=fun W=>waits_any state flags W hr
     have HF:Hid (∀ a b W,Cb 145 #[.agg #[iV a,iV b],.bool inside] W (iV (if inside=true then a else b))):=fun a b W=>from_any a b inside W
     clear hb hc;have k0:=hT 0 (by decide);have k1:=hT 1 (by decide);have k2:=hT 2 (by decide);have k3:=hT 3 (by decide);have k4:=hT 4 (by decide);have k5:=hT 5 (by decide);have k6:=hT 6 (by decide);have k7:=hT 7 (by decide);have k8:=hT 8 (by decide);have k9:=hT 9 (by decide);have k10:=hT 10 (by decide);have k11:=hT 11 (by decide);have k12:=hT 12 (by decide);have k13:=hT 13 (by decide);have k14:=hT 14 (by decide);have k15:=hT 15 (by decide);simp only [List.getD_cons_zero,List.getD_cons_succ] at k0 k1 k2 k3 k4 k5 k6 k7 k8 k9 k10 k11 k12 k13 k14 k15;clear hT;go_enter Tryz.func110,Tryz.ntmps110
     go_wp2_with fail
     refine (HA.out _).mono ?_;rintro e w1 ⟨rfl,rfl⟩;go_wp2_with fail
     refine (HB.out _).mono ?_;rintro e w1 ⟨rfl,rfl⟩;go_wp2_with fail
     refine (HC.out _).mono ?_;rintro e w1 ⟨rfl,rfl⟩;clear HA HB HC;go_upto_region 5 with fail
     by_cases h4:bits .and .i64 flags 4=0
     ·have n4:flagB flags 4=false:=by unfold flagB; simp [h4]
      rw [n4,if_neg (by decide)] at HX;clear n4;have e1:flagB flags 1=decide (¬ bits .and .i64 flags 1=0):=rfl;have e2:flagB flags 2=decide (¬ bits .and .i64 flags 2=0):=rfl;unfold waitV at HW;rw [e1,e2] at HX HW;clear e1 e2;rcases hr with rfl | rfl | rfl | rfl | rfl | rfl | rfl<;>by_cases h1:bits .and .i64 flags 1=0<;>by_cases h2:bits .and .i64 flags 2=0<;>cases inside
      all_goals
       simp [h1,h2] at HX;simp [h1,h2] at HW;simp at HF;go_wp2_with fail
       refine (HF.out _ _ _).mono ?_;rintro e w2 ⟨rfl,q2⟩;have G2:Hid (Below w1.heap.size w1 w2):=q2;clear q2;go_wp2_with (go_at_call 146; refine (HW.out _).mono ?_; rintro e w3 ⟨rfl,rfl⟩)
       go_ret;exact ⟨ret_int HX.out.symm,G2.out⟩
     ·have HY:Hid (trackNextV 6 state inside flags=7):=by unfold Hid; rw [HX.out,if_pos (by unfold flagB; exact decide_eq_true h4)]
      go_wp2_with fail
      go_ret;exact ⟨ret_int HY.out.symm,Below.refl _ _⟩
  ·have HX:Hid (trackNextV proto state inside flags=0):=by unfold Hid trackNextV; rw [if_neg (by rw [HS.out]; decide),if_neg (fun h=>hp h.1)]
   clear hT;go_enter Tryz.func110,Tryz.ntmps110
   go_wp2_with fail
   refine (HA.out _).mono ?_;rintro e w1 ⟨rfl,rfl⟩;go_wp2_with fail
   go_ret;exact ⟨ret_int HX.out.symm,Below.refl _ _⟩
end Go.Proofs.YtdkepkaflielhaaGreatDoor
