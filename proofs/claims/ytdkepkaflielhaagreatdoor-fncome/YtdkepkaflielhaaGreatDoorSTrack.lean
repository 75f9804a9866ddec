import Derived.Test.YtdkepkaflielhaaGreatDoorSz
import Derived.Test.YtdkepkaflielhaaGreatDoorAb
import Derived.Test.YtdkepkaflielhaaGreatDoorTrack
import Derived.Test.YtdkepkaflielhaaGreatDoorSV4
import Derived.Test.YtdkepkaflielhaaGreatDoorLawLives
set_option linter.unusedVariables false
set_option linter.unusedSimpArgs false
set_option maxRecDepth 100000
set_option maxHeartbeats 8000000
namespace Go.Proofs.YtdkepkaflielhaaGreatDoor
open Go.RowKit Go.PlainAid
theorem flags_all:((List.range 256).all fun n=>decide ((bits .and .i64 (n:Int) 22=2)↔(flagB (n:Int) 2=true∧flagB (n:Int) 4=false∧flagB (n:Int) 16=false)))=true:=by kernel_rfl
theorem flags_22 {flags:Int} (h:isIn flags 0 255=true):(flagB flags 2=true∧flagB flags 4=false∧flagB flags 16=false)=(bits .and .i64 flags 22=2):=by
 unfold isIn at h;simp only [Bool.and_eq_true,decide_eq_true_eq] at h;obtain ⟨n,rfl⟩:=Int.eq_ofNat_of_zero_le h.1;have:=List.all_eq_true.1 flags_all n (List.mem_range.2 (by omega));exact propext (decide_eq_true_eq.mp this).symm
theorem next_in (proto state:Int) (inside:Bool) (flags:Int) (hs:stillP proto=false) (hp:proto=6) (hb:isIn state 1 7=true) (hc:isIn flags 0 255=true):trackNextV proto state inside flags=(
  if flagB flags 4=true then 7
  else if state=1 then (if inside=false∧flagB flags 2=true then 3 else 1)
  else if state=2 then (if inside=true∧flagB flags 2=true then 3 else 2)
  else if state=3 then (if flagB flags 1=true then (if inside=true then 4 else 5) else 3)
  else if state=4 then (if inside=false∧flagB flags 1=true then 6 else 4)
  else if state=5 then (if inside=true∧flagB flags 1=true then 6 else 5)
  else if state=7 then 3 else state):=by
 unfold trackNextV; rw [if_neg (by rw [hs]; decide),if_pos ⟨hp,hb,hc⟩]
theorem specLives_any (l:Lv) (w:World) :
  Cb 67 #[lvC l] w (.bool (livesOk l)):=by
 have HC0:Hid (∀ W,Cw 40 #[iV l.udp,iV 1,iV 10000] W (.bool (isIn l.udp 1 10000))):=fun W=>specIs_any _ _ _ W
 have HC1:Hid (∀ W,Cw 40 #[iV l.echo,iV 1,iV 10000] W (.bool (isIn l.echo 1 10000))):=fun W=>specIs_any _ _ _ W
 have HC2:Hid (∀ W,Cw 40 #[iV l.opening,iV 1,iV 10000] W (.bool (isIn l.opening 1 10000))):=fun W=>specIs_any _ _ _ W
 have HC3:Hid (∀ W,Cw 40 #[iV l.opn,iV 1,iV 10000] W (.bool (isIn l.opn 1 10000))):=fun W=>specIs_any _ _ _ W
 have HC4:Hid (∀ W,Cw 40 #[iV l.closing,iV 1,iV 10000] W (.bool (isIn l.closing 1 10000))):=fun W=>specIs_any _ _ _ W
 have HV:Hid (livesOk l=(isIn l.udp 1 10000&&isIn l.echo 1 10000&&isIn l.opening 1 10000&&isIn l.opn 1 10000&&isIn l.closing 1 10000)):=rfl;generalize livesOk l=ans at *;generalize isIn l.udp 1 10000=b0 at *;generalize isIn l.echo 1 10000=b1 at *;generalize isIn l.opening 1 10000=b2 at *;generalize isIn l.opn 1 10000=b3 at *;generalize isIn l.closing 1 10000=b4 at *;have HZ:Hid (Below w.z w (w.alloc (.cells #[iV l.udp,iV l.echo,iV l.opening,iV l.opn,iV l.closing] 25))):=bR.alloc lR _;unfold lvC;go_enter Tryz.func67,Tryz.ntmps67
 go_wp2_with fail
 cases b0 with
 | false =>
  refine (HC0.out _).mono ?_;rintro e w0 ⟨rfl,rfl⟩;go_wp2_with fail
  go_ret;exact ⟨ret_bool (by rw [HV.out]; rfl),HZ.out⟩
 | true =>
  refine (HC0.out _).mono ?_;rintro e w0 ⟨rfl,rfl⟩;go_wp2_with fail
  cases b1 with
  | false =>
   refine (HC1.out _).mono ?_;rintro e w1 ⟨rfl,rfl⟩;go_wp2_with fail
   go_ret;exact ⟨ret_bool (by rw [HV.out]; rfl),HZ.out⟩
  | true =>
   refine (HC1.out _).mono ?_;rintro e w1 ⟨rfl,rfl⟩;go_wp2_with fail
   cases b2 with
   | false =>
    refine (HC2.out _).mono ?_;rintro e w2 ⟨rfl,rfl⟩;go_wp2_with fail
    go_ret;exact ⟨ret_bool (by rw [HV.out]; rfl),HZ.out⟩
   | true =>
    refine (HC2.out _).mono ?_;rintro e w2 ⟨rfl,rfl⟩;go_wp2_with fail
    cases b3 with
    | false =>
     refine (HC3.out _).mono ?_;rintro e w3 ⟨rfl,rfl⟩;go_wp2_with fail
     go_ret;exact ⟨ret_bool (by rw [HV.out]; rfl),HZ.out⟩
    | true =>
     refine (HC3.out _).mono ?_;rintro e w3 ⟨rfl,rfl⟩;go_wp2_with fail
     cases b4 with
     | false =>
      refine (HC4.out _).mono ?_;rintro e w4 ⟨rfl,rfl⟩;go_wp2_with fail
      go_ret;exact ⟨ret_bool (by rw [HV.out]; rfl),HZ.out⟩
     | true =>
      refine (HC4.out _).mono ?_;rintro e w4 ⟨rfl,rfl⟩;go_wp2_with fail
      go_ret;exact ⟨ret_bool (by rw [HV.out]; rfl),HZ.out⟩
theorem specStill_any (proto:Int) (w:World) :
  Cw 179 #[iV proto] w (.bool (stillP proto)):=by
 by_cases h1:proto=17
 ·have HV:Hid (stillP proto=true):=by unfold Hid stillP; simp [h1]
  go_enter Tryz.func179,Tryz.ntmps179
  go_wp2_with fail
  go_ret;exact ⟨ret_bool HV.out.symm,rfl⟩
 ·by_cases h2:proto=1
  ·have HV:Hid (stillP proto=true):=by unfold Hid stillP; simp [h2]
   go_enter Tryz.func179,Tryz.ntmps179
   go_wp2_with fail
   go_ret;exact ⟨ret_bool HV.out.symm,rfl⟩
  ·have HV:Hid (stillP proto=false):=by unfold Hid stillP; simp [h1,h2]
   go_enter Tryz.func179,Tryz.ntmps179
   go_wp2_with fail
   go_ret;exact ⟨ret_bool (by rw [HV.out]; simp [h1,h2]),rfl⟩
theorem specNext_any (proto state:Int) (inside:Bool) (flags:Int) (w:World) :
  Cw 160 #[iV proto,iV state,.bool inside,iV flags] w (iV (trackNextV proto state inside flags)):=by
 have HA:Hid (∀ W,Cw 179 #[iV proto] W (.bool (stillP proto))):=fun W=>specStill_any _ W
 have HB:Hid (∀ W,Cw 40 #[iV state,iV 1,iV 7] W (.bool (isIn state 1 7))):=fun W=>specIs_any _ _ _ W
 have HC:Hid (∀ W,Cw 38 #[iV flags] W (.bool (isIn flags 0 255))):=fun W=>specByte_any _ W
 have HV:Hid (trackNextV proto state inside flags=trackNextV proto state inside flags):=rfl
 cases hs:stillP proto with
 | true =>
  have HX:Hid (trackNextV proto state inside flags=3):=by unfold Hid trackNextV; rw [if_pos hs]
  rw [hs] at HA;clear hs;go_enter Tryz.func160,Tryz.ntmps160
  go_wp2_with fail
  refine (HA.out _).mono ?_;rintro e w1 ⟨rfl,rfl⟩;go_wp2_with fail
  go_ret;exact ⟨ret_int HX.out.symm,rfl⟩
 | false =>
  rw [hs] at HA;have HS:Hid (stillP proto=false):=hs;clear hs;by_cases hp:proto=6
  ·subst hp
   cases hb:isIn state 1 7 with
   | false =>
    have HX:Hid (trackNextV 6 state inside flags=0):=by unfold Hid trackNextV; rw [if_neg (by rw [HS.out]; decide),if_neg (by rw [hb]; simp)]
    rw [hb] at HB;clear hb;go_enter Tryz.func160,Tryz.ntmps160
    go_wp2_with fail
    refine (HA.out _).mono ?_;rintro e w1 ⟨rfl,rfl⟩;go_wp2_with fail
    refine (HB.out _).mono ?_;rintro e w1 ⟨rfl,rfl⟩;go_wp2_with fail
    go_ret;exact ⟨ret_int HX.out.symm,rfl⟩
   | true =>
    cases hc:isIn flags 0 255 with
    | false =>
     have HX:Hid (trackNextV 6 state inside flags=0):=by unfold Hid trackNextV; rw [if_neg (by rw [HS.out]; decide),if_neg (by rw [hc]; simp)]
     rw [hb] at HB;rw [hc] at HC;clear hb hc;go_enter Tryz.func160,Tryz.ntmps160
     go_wp2_with fail
     refine (HA.out _).mono ?_;rintro e w1 ⟨rfl,rfl⟩;go_wp2_with fail
     refine (HB.out _).mono ?_;rintro e w1 ⟨rfl,rfl⟩;go_wp2_with fail
     refine (HC.out _).mono ?_;rintro e w1 ⟨rfl,rfl⟩;go_wp2_with fail
     go_ret;exact ⟨ret_int HX.out.symm,rfl⟩
    | true =>
     have HX:Hid _:=next_in 6 state inside flags HS.out rfl hb hc;rw [hb] at HB;rw [hc] at HC;have hr:state=1∨state=2∨state=3∨state=4∨state=5∨state=6∨state=7:=by
      unfold isIn at hb; simp only [Bool.and_eq_true,decide_eq_true_eq] at hb; omega
     clear hb hc;go_enter Tryz.func160,Tryz.ntmps160
     go_wp2_with fail
     refine (HA.out _).mono ?_;rintro e w1 ⟨rfl,rfl⟩;go_wp2_with fail
     refine (HB.out _).mono ?_;rintro e w1 ⟨rfl,rfl⟩;go_wp2_with fail
     refine (HC.out _).mono ?_;rintro e w1 ⟨rfl,rfl⟩;clear HA HB HC;go_upto_region 5 with fail
     by_cases h4:bits .and .i64 flags 4=0
     ·have n4:flagB flags 4=false:=by unfold flagB; simp [h4]
      rw [n4,if_neg (by decide)] at HX;clear n4;have e1:flagB flags 1=decide (¬ bits .and .i64 flags 1=0):=rfl;have e2:flagB flags 2=decide (¬ bits .and .i64 flags 2=0):=rfl;rw [e1,e2] at HX;clear e1 e2;rcases hr with rfl | rfl | rfl | rfl | rfl | rfl | rfl<;>by_cases h1:bits .and .i64 flags 1=0<;>by_cases h2:bits .and .i64 flags 2=0<;>cases inside
      all_goals
       simp [h1,h2] at HX;go_wp2_with fail
       go_ret;exact ⟨ret_int HX.out.symm,rfl⟩
     ·have HY:Hid (trackNextV 6 state inside flags=7):=by unfold Hid; rw [HX.out,if_pos (by unfold flagB; exact decide_eq_true h4)]
      go_wp2_with fail
      go_ret;exact ⟨ret_int HY.out.symm,rfl⟩
  ·have HX:Hid (trackNextV proto state inside flags=0):=by unfold Hid trackNextV; rw [if_neg (by rw [HS.out]; decide),if_neg (fun h=>hp h.1)]
   go_enter Tryz.func160,Tryz.ntmps160
   go_wp2_with fail
   refine (HA.out _).mono ?_;rintro e w1 ⟨rfl,rfl⟩;go_wp2_with fail
   go_ret;exact ⟨ret_int HX.out.symm,rfl⟩
theorem specNew_any (proto:Int) (inside:Bool) (flags:Int) (w:World) :
  Cw 177 #[iV proto,.bool inside,iV flags] w (iV (trackNewV proto inside flags)):=by
 have HA:Hid (∀ W,Cw 179 #[iV proto] W (.bool (stillP proto))):=fun W=>specStill_any _ W
 have HC:Hid (∀ W,Cw 38 #[iV flags] W (.bool (isIn flags 0 255))):=fun W=>specByte_any _ W
 cases hc:isIn flags 0 255 with
 | false =>
  have HX:Hid (trackNewV proto inside flags=0):=by unfold Hid trackNewV; rw [if_pos hc]
  rw [hc] at HC;clear hc;go_enter Tryz.func177,Tryz.ntmps177
  go_wp2_with fail
  refine (HC.out _).mono ?_;rintro e w1 ⟨rfl,rfl⟩;go_wp2_with fail
  go_ret;exact ⟨ret_int HX.out.symm,rfl⟩
 | true =>
  have h22:=flags_22 hc;have HN:Hid (¬ isIn flags 0 255=false):=by unfold Hid; rw [hc]; decide
  rw [hc] at HC;clear hc
  cases hs:stillP proto with
  | true =>
   have HX:Hid (trackNewV proto inside flags=3):=by unfold Hid trackNewV; rw [if_neg HN.out,if_pos hs]
   rw [hs] at HA;clear hs h22;go_enter Tryz.func177,Tryz.ntmps177
   go_wp2_with fail
   refine (HC.out _).mono ?_;rintro e w1 ⟨rfl,rfl⟩;go_wp2_with fail
   refine (HA.out _).mono ?_;rintro e w1 ⟨rfl,rfl⟩;go_wp2_with fail
   go_ret;exact ⟨ret_int HX.out.symm,rfl⟩
  | false =>
   have HX:Hid (trackNewV proto inside flags=if proto=6∧bits .and .i64 flags 22=2 then (if inside=true then 1 else 2) else 0):=by
    unfold Hid trackNewV; rw [if_neg HN.out,if_neg (by rw [hs]; decide)]; simp only [h22]
   rw [hs] at HA;clear hs h22;by_cases hp:proto=6
   ·subst hp;by_cases hf:bits .and .i64 flags 22=2
    ·rw [if_pos ⟨rfl,hf⟩] at HX
     cases inside;all_goals
      go_enter Tryz.func177,Tryz.ntmps177
      go_wp2_with fail
      refine (HC.out _).mono ?_;rintro e w1 ⟨rfl,rfl⟩;go_wp2_with fail
      refine (HA.out _).mono ?_;rintro e w1 ⟨rfl,rfl⟩;go_wp2_with fail
      go_ret;exact ⟨ret_int HX.out.symm,rfl⟩
    ·rw [if_neg (fun h=>hf h.2)] at HX;go_enter Tryz.func177,Tryz.ntmps177
     go_wp2_with fail
     refine (HC.out _).mono ?_;rintro e w1 ⟨rfl,rfl⟩;go_wp2_with fail
     refine (HA.out _).mono ?_;rintro e w1 ⟨rfl,rfl⟩;go_wp2_with fail
     go_ret;exact ⟨ret_int HX.out.symm,rfl⟩
   ·rw [if_neg (fun h=>hp h.1)] at HX;go_enter Tryz.func177,Tryz.ntmps177
    go_wp2_with fail
    refine (HC.out _).mono ?_;rintro e w1 ⟨rfl,rfl⟩;go_wp2_with fail
    refine (HA.out _).mono ?_;rintro e w1 ⟨rfl,rfl⟩;go_wp2_with fail
    go_ret;exact ⟨ret_int HX.out.symm,rfl⟩
theorem specLife_any (l:Lv) (proto state:Int) (w:World) :
  Cb 161 #[lvC l,iV proto,iV state] w (iV (trackLifeV l proto state)):=by
 have HL:Hid (∀ W,Cb 67 #[lvC l] W (.bool (livesOk l))):=fun W=>specLives_any l W
 have HK:Hid (BoxLives (w.alloc (.cells #[iV l.udp,iV l.echo,iV l.opening,iV l.opn,iV l.closing] 25)) w.z l):=BoxLives.new w l;have HZ:Hid (Below w.z w (w.alloc (.cells #[iV l.udp,iV l.echo,iV l.opening,iV l.opn,iV l.closing] 25))):=bR.alloc lR _;unfold lvC at HL ⊢
 cases hl:livesOk l with
 | false =>
  have HX:Hid (trackLifeV l proto state=0):=by unfold Hid trackLifeV; rw [if_pos hl]
  rw [hl] at HL;clear hl;go_enter Tryz.func161,Tryz.ntmps161
  go_wp2_with fail
  refine (HL.out _).mono ?_;rintro e w1 ⟨rfl,q1⟩;have G1:Hid _:=HZ.out.trans (q1.mono HZ.out.size);clear q1;go_wp2_with fail
  go_ret;exact ⟨ret_int HX.out.symm,G1.out⟩
 | true =>
  have HX:Hid (trackLifeV l proto state=if proto=17 then l.udp else if proto=1 then l.echo else if proto=6 then (if state=1∨state=2 then l.opening else if state=3∨state=4∨state=5 then l.opn else if state=6∨state=7 then l.closing else 0) else 0):=by unfold Hid trackLifeV; rw [if_neg (by rw [hl]; decide)]
  rw [hl] at HL;clear hl;go_enter Tryz.func161,Tryz.ntmps161
  go_wp2_with fail
  refine (HL.out _).mono ?_;rintro e w1 ⟨rfl,q1⟩;have G1:Hid _:=HZ.out.trans (q1.mono HZ.out.size);obtain ⟨k0,k1,k2,k3,k4⟩:=HK.out.kept q1;clear q1 HZ HK HL;by_cases p0:proto=17
  ·subst p0;rw [if_pos rfl] at HX;go_wp2_with fail
   go_ret;exact ⟨ret_int HX.out.symm,G1.out⟩
  ·by_cases p1:proto=1
   ·subst p1;rw [if_neg (by decide),if_pos rfl] at HX;go_wp2_with fail
    go_ret;exact ⟨ret_int HX.out.symm,G1.out⟩
   ·rw [if_neg p0,if_neg p1] at HX;by_cases p6:proto=6
    ·subst p6;rw [if_pos rfl] at HX;clear p0 p1;by_cases s1:state=1
     ·subst s1; simp at HX; go_wp2_with fail; go_ret; exact ⟨ret_int HX.out.symm,G1.out⟩
     by_cases s2:state=2
     ·subst s2; simp at HX; go_wp2_with fail; go_ret; exact ⟨ret_int HX.out.symm,G1.out⟩
     by_cases s3:state=3
     ·subst s3; simp at HX; go_wp2_with fail; go_ret; exact ⟨ret_int HX.out.symm,G1.out⟩
     by_cases s4:state=4
     ·subst s4; simp at HX; go_wp2_with fail; go_ret; exact ⟨ret_int HX.out.symm,G1.out⟩
     by_cases s5:state=5
     ·subst s5; simp at HX; go_wp2_with fail; go_ret; exact ⟨ret_int HX.out.symm,G1.out⟩
     by_cases s6:state=6
     ·subst s6; simp at HX; go_wp2_with fail; go_ret; exact ⟨ret_int HX.out.symm,G1.out⟩
     by_cases s7:state=7
     ·subst s7; simp at HX; go_wp2_with fail; go_ret; exact ⟨ret_int HX.out.symm,G1.out⟩
     simp [s1,s2,s3,s4,s5,s6,s7] at HX;go_wp2_with fail
     go_ret;exact ⟨ret_int HX.out.symm,G1.out⟩
    ·rw [if_neg p6] at HX;go_wp2_with fail
     go_ret;exact ⟨ret_int HX.out.symm,G1.out⟩
end Go.Proofs.YtdkepkaflielhaaGreatDoor
