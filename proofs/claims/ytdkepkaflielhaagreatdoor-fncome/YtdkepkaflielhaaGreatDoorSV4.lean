import Derived.Test.YtdkepkaflielhaaGreatDoorSz
import Derived.Test.YtdkepkaflielhaaGreatDoorAb
import Derived.Test.YtdkepkaflielhaaGreatDoorPkt
import Derived.Test.YtdkepkaflielhaaGreatDoorBase
import Derived.BigQuiet
import Derived.Deep.DeepCutAuto
set_option linter.unusedVariables false
set_option linter.unusedSimpArgs false
set_option maxRecDepth 100000
set_option maxHeartbeats 8000000
/- SV4: what the specification's l01Is, l01Byte and V4Right answer. -/
namespace Go.Proofs.YtdkepkaflielhaaGreatDoor
open Go.RowKit Go.PlainAid
set_option linter.unusedVariables false
set_option linter.unusedSimpArgs false

theorem specIs_any (n lo hi : Int) (w : World) :
  Cw 40 #[iV n, iV lo, iV hi] w (.bool (isIn n lo hi)) := by
 by_cases h1 : lo ≤ n
 ·by_cases h2 : n ≤ hi
  ·have HV : Hid (isIn n lo hi = true) := by unfold Hid isIn; simp [h1, h2]
   go_enter Tryz.func40, Tryz.ntmps40
   go_wp2_with fail
   go_ret
   exact ⟨ret_bool (by rw [HV.out]), rfl⟩
  ·have HV : Hid (isIn n lo hi = false) := by unfold Hid isIn; simp [h2]
   go_enter Tryz.func40, Tryz.ntmps40
   go_wp2_with fail
   go_ret
   exact ⟨ret_bool (by rw [HV.out]), rfl⟩
 ·have HV : Hid (isIn n lo hi = false) := by unfold Hid isIn; simp [h1]
  have h1' : n < lo := by omega
  go_enter Tryz.func40, Tryz.ntmps40
  go_wp2_with fail
  go_ret
  exact ⟨ret_bool (by rw [HV.out]), rfl⟩

theorem specByte_any (n : Int) (w : World) :
  Cw 38 #[iV n] w (.bool (isIn n 0 255)) := by
 have HC : Hid (∀ W, Cw 40 #[iV n, iV 0, iV 255] W (.bool (isIn n 0 255))) := fun W => specIs_any n 0 255 W
 generalize isIn n 0 255 = b at *
 go_enter Tryz.func38, Tryz.ntmps38
 go_wp2_with fail
 refine (HC.out _).mono ?_
 rintro e w2 ⟨rfl, rfl⟩
 go_wp2_with fail
 go_ret
 exact ⟨rfl, rfl⟩

set_option maxRecDepth 100000 in
set_option maxHeartbeats 2000000 in
theorem specV4Right_any (p : P4) (w : World) (h1 : p.src.size ≤ 1048576) (h2 : p.dst.size ≤ 1048576) (h3 : p.opts.size ≤ 1048576) (h4 : p.data.size ≤ 1048576) :
  Cb 14 #[p4C p] w (.bool (v4Ok p)) := by
 have HB1 : Hid (∀ W, Cw 38 #[iV p.tos] W (.bool (isIn p.tos 0 255))) := fun W => specByte_any p.tos W
 have HB2 : Hid (∀ W, Cw 38 #[iV p.ttl] W (.bool (isIn p.ttl 0 255))) := fun W => specByte_any p.ttl W
 have HB3 : Hid (∀ W, Cw 38 #[iV p.proto] W (.bool (isIn p.proto 0 255))) := fun W => specByte_any p.proto W
 have HB4 : Hid (∀ W, Cw 39 #[iV p.id] W (.bool (isIn p.id 0 65535))) := fun W => specWordIs_any p.id W
 have HB5 : Hid (∀ W, Cw 40 #[iV p.off, iV 0, iV 8191] W (.bool (isIn p.off 0 8191))) := fun W => specIs_any p.off 0 8191 W
 have HO : Hid (isIn p.off 0 8191 = true → 0 ≤ p.off ∧ p.off ≤ 8191) := fun h => isIn_parts h
 have HA : Hid (v4A p = (isIn p.tos 0 255 && isIn p.ttl 0 255 && isIn p.proto 0 255 && isIn p.id 0 65535 && isIn p.off 0 8191 && decide (p.src.size = 4) && decide (p.dst.size = 4))) := rfl
 have HF : Hid (v4A p = false → v4Ok p = false) := fun h => by unfold v4Ok; rw [h]; rfl
 have HF2 : Hid (v4A p = true → v4B p = false → v4Ok p = false) := fun h h' => by unfold v4Ok; rw [h, h']; rfl
 have HF3 : Hid (v4A p = true → v4B p = true → v4Ok p = v4C p) := fun h h' => by unfold v4Ok; rw [h, h']; rfl
 have HBB : Hid (v4B p = (decide (p.opts.size ≤ 40) && decide (p.opts.size % 4 = 0) && decide (p.data.size ≤ 1400) && !(p.more && !decide (p.data.size % 8 = 0)) && decide (8 * p.off + p.data.size ≤ 65515))) := rfl
 have HCC : Hid (v4C p = (!p.whole || (!p.more && decide (p.off = 0)))) := rfl
 generalize v4A p = vA at *
 generalize v4B p = vB at *
 generalize v4C p = vC at *
 generalize v4Ok p = ok at *
 obtain ⟨tos, id, whole, more, off, ttl, proto, src, dst, opts, data⟩ := p
 unfold p4C
 dsimp only at *
 have HZ : Hid (Below w.z w (w.alloc (.cells #[iV tos, iV id, .bool whole, .bool more, iV off, iV ttl, iV proto, .string src, .string dst, .string opts, .string data] 33))) := bR.alloc lR _
 cases b1 : isIn tos 0 255 with
 | false =>
  have HV : Hid (ok = false) := HF.out (by rw [HA.out, b1]; simp)
  rw [b1] at HB1
  clear b1 HA HF HF2 HF3 HBB HCC HO
  go_enter Tryz.func14, Tryz.ntmps14
  go_wp2_with fail
  refine (HB1.out _).mono ?_
  rintro e w2 ⟨rfl, rfl⟩
  go_wp2_with fail
  go_ret
  exact ⟨ret_bool HV.out.symm, HZ.out⟩
 | true =>
  rw [b1] at HB1
  cases b2 : isIn ttl 0 255 with
  | false =>
   have HV : Hid (ok = false) := HF.out (by rw [HA.out, b2]; simp)
   rw [b2] at HB2
   clear b2 HA HF HF2 HF3 HBB HCC HO
   go_enter Tryz.func14, Tryz.ntmps14
   go_wp2_with fail
   refine (HB1.out _).mono ?_
   rintro e w2 ⟨rfl, rfl⟩
   go_wp2_with fail
   refine (HB2.out _).mono ?_
   rintro e w2 ⟨rfl, rfl⟩
   go_wp2_with fail
   go_ret
   exact ⟨ret_bool HV.out.symm, HZ.out⟩
  | true =>
   rw [b2] at HB2
   cases b3 : isIn proto 0 255 with
   | false =>
    have HV : Hid (ok = false) := HF.out (by rw [HA.out, b3]; simp)
    rw [b3] at HB3
    clear b3 HA HF HF2 HF3 HBB HCC HO
    go_enter Tryz.func14, Tryz.ntmps14
    go_wp2_with fail
    refine (HB1.out _).mono ?_
    rintro e w2 ⟨rfl, rfl⟩
    go_wp2_with fail
    refine (HB2.out _).mono ?_
    rintro e w2 ⟨rfl, rfl⟩
    go_wp2_with fail
    refine (HB3.out _).mono ?_
    rintro e w2 ⟨rfl, rfl⟩
    go_wp2_with fail
    go_ret
    exact ⟨ret_bool HV.out.symm, HZ.out⟩
   | true =>
    rw [b3] at HB3
    cases b4 : isIn id 0 65535 with
    | false =>
     have HV : Hid (ok = false) := HF.out (by rw [HA.out, b4]; simp)
     rw [b4] at HB4
     clear b4 HA HF HF2 HF3 HBB HCC HO
     go_enter Tryz.func14, Tryz.ntmps14
     go_wp2_with fail
     refine (HB1.out _).mono ?_
     rintro e w2 ⟨rfl, rfl⟩
     go_wp2_with fail
     refine (HB2.out _).mono ?_
     rintro e w2 ⟨rfl, rfl⟩
     go_wp2_with fail
     refine (HB3.out _).mono ?_
     rintro e w2 ⟨rfl, rfl⟩
     go_wp2_with fail
     refine (HB4.out _).mono ?_
     rintro e w2 ⟨rfl, rfl⟩
     go_wp2_with fail
     go_ret
     exact ⟨ret_bool HV.out.symm, HZ.out⟩
    | true =>
     rw [b4] at HB4
     cases b5 : isIn off 0 8191 with
     | false =>
      have HV : Hid (ok = false) := HF.out (by rw [HA.out, b5]; simp)
      rw [b5] at HB5
      clear b5 HA HF HF2 HF3 HBB HCC HO
      go_enter Tryz.func14, Tryz.ntmps14
      go_wp2_with fail
      refine (HB1.out _).mono ?_
      rintro e w2 ⟨rfl, rfl⟩
      go_wp2_with fail
      refine (HB2.out _).mono ?_
      rintro e w2 ⟨rfl, rfl⟩
      go_wp2_with fail
      refine (HB3.out _).mono ?_
      rintro e w2 ⟨rfl, rfl⟩
      go_wp2_with fail
      refine (HB4.out _).mono ?_
      rintro e w2 ⟨rfl, rfl⟩
      go_wp2_with fail
      refine (HB5.out _).mono ?_
      rintro e w2 ⟨rfl, rfl⟩
      go_wp2_with fail
      go_ret
      exact ⟨ret_bool HV.out.symm, HZ.out⟩
     | true =>
      rw [b5] at HB5
      obtain ⟨o0, o1⟩ := HO.out b5
      by_cases s1 : src.size = 4
      ·have ds1 : ((src.size : Int) != 4) = false := by simp; omega
       by_cases s2 : dst.size = 4
       ·have ds2 : ((dst.size : Int) != 4) = false := by simp; omega
        have hA : vA = true := by rw [HA.out, b1, b2, b3, b4, b5, decide_eq_true s1, decide_eq_true s2]; rfl
        have HG2 : Hid (vB = false → ok = false) := HF2.out hA
        have HG3 : Hid (vB = true → ok = vC) := HF3.out hA
        clear hA HA HF HF2 HF3 HO b1 b2 b3 b4 b5 s1 s2
        by_cases e0 : opts.size ≤ 40
        ·have dT0 : decide ((40 : Int) < (opts.size : Int)) = false := by simp; omega
         by_cases e1 : opts.size % 4 = 0
         ·have dT1 : (((opts.size : Int) % 4) != 0) = false := by simp; omega
          by_cases e2 : data.size ≤ 1400
          ·have dT2 : decide ((1400 : Int) < (data.size : Int)) = false := by simp; omega
           have em : (more && !decide (data.size % 8 = 0)) = false ∨ (more = true ∧ data.size % 8 ≠ 0) := by cases more <;> simp <;> omega
           rcases em with em | ⟨rfl, em⟩
           ·have dm : more = true → (((data.size : Int) % 8) != 0) = false := fun h => by rw [h] at em; simp at em; simp; omega
            by_cases e9 : 8 * off + data.size ≤ 65515
            ·have d9 : decide ((65515 : Int) < 8 * off + (data.size : Int)) = false := by simp; omega
             have HV : Hid (ok = (!whole || (!more && decide (off = 0)))) := by unfold Hid; rw [← HCC.out]; exact HG3.out (by rw [HBB.out, em, decide_eq_true e0, decide_eq_true e1, decide_eq_true e2, decide_eq_true e9]; rfl)
             clear HG2 HG3 HBB HCC em
             cases more with
             | false =>
              clear dm
              cases whole with
              | false =>
               go_enter Tryz.func14, Tryz.ntmps14
               go_wp2_with fail
               refine (HB1.out _).mono ?_
               rintro e w2 ⟨rfl, rfl⟩
               go_wp2_with fail
               refine (HB2.out _).mono ?_
               rintro e w2 ⟨rfl, rfl⟩
               go_wp2_with fail
               refine (HB3.out _).mono ?_
               rintro e w2 ⟨rfl, rfl⟩
               go_wp2_with fail
               refine (HB4.out _).mono ?_
               rintro e w2 ⟨rfl, rfl⟩
               go_wp2_with fail
               refine (HB5.out _).mono ?_
               rintro e w2 ⟨rfl, rfl⟩
               go_wp2_with fail
               go_ret
               exact ⟨ret_bool (by rw [HV.out]; rfl), HZ.out⟩
              | true =>
               go_enter Tryz.func14, Tryz.ntmps14
               go_wp2_with fail
               refine (HB1.out _).mono ?_
               rintro e w2 ⟨rfl, rfl⟩
               go_wp2_with fail
               refine (HB2.out _).mono ?_
               rintro e w2 ⟨rfl, rfl⟩
               go_wp2_with fail
               refine (HB3.out _).mono ?_
               rintro e w2 ⟨rfl, rfl⟩
               go_wp2_with fail
               refine (HB4.out _).mono ?_
               rintro e w2 ⟨rfl, rfl⟩
               go_wp2_with fail
               refine (HB5.out _).mono ?_
               rintro e w2 ⟨rfl, rfl⟩
               go_wp2_with fail
               go_ret
               exact ⟨ret_bool (by rw [HV.out]; rfl), HZ.out⟩
             | true =>
              have dm := dm rfl
              cases whole with
              | false =>
               go_enter Tryz.func14, Tryz.ntmps14
               go_wp2_with fail
               refine (HB1.out _).mono ?_
               rintro e w2 ⟨rfl, rfl⟩
               go_wp2_with fail
               refine (HB2.out _).mono ?_
               rintro e w2 ⟨rfl, rfl⟩
               go_wp2_with fail
               refine (HB3.out _).mono ?_
               rintro e w2 ⟨rfl, rfl⟩
               go_wp2_with fail
               refine (HB4.out _).mono ?_
               rintro e w2 ⟨rfl, rfl⟩
               go_wp2_with fail
               refine (HB5.out _).mono ?_
               rintro e w2 ⟨rfl, rfl⟩
               go_wp2_with fail
               go_ret
               exact ⟨ret_bool (by rw [HV.out]; rfl), HZ.out⟩
              | true =>
               go_enter Tryz.func14, Tryz.ntmps14
               go_wp2_with fail
               refine (HB1.out _).mono ?_
               rintro e w2 ⟨rfl, rfl⟩
               go_wp2_with fail
               refine (HB2.out _).mono ?_
               rintro e w2 ⟨rfl, rfl⟩
               go_wp2_with fail
               refine (HB3.out _).mono ?_
               rintro e w2 ⟨rfl, rfl⟩
               go_wp2_with fail
               refine (HB4.out _).mono ?_
               rintro e w2 ⟨rfl, rfl⟩
               go_wp2_with fail
               refine (HB5.out _).mono ?_
               rintro e w2 ⟨rfl, rfl⟩
               go_wp2_with fail
               go_ret
               exact ⟨ret_bool (by rw [HV.out]; rfl), HZ.out⟩
            ·have HV : Hid (ok = false) := HG2.out (by rw [HBB.out, decide_eq_false e9]; simp)
             have d9 : decide ((65515 : Int) < 8 * off + (data.size : Int)) = true := by simp; omega
             clear HG2 HG3 HBB HCC
             cases more with
             | false =>
              clear dm
              go_enter Tryz.func14, Tryz.ntmps14
              go_wp2_with fail
              refine (HB1.out _).mono ?_
              rintro e w2 ⟨rfl, rfl⟩
              go_wp2_with fail
              refine (HB2.out _).mono ?_
              rintro e w2 ⟨rfl, rfl⟩
              go_wp2_with fail
              refine (HB3.out _).mono ?_
              rintro e w2 ⟨rfl, rfl⟩
              go_wp2_with fail
              refine (HB4.out _).mono ?_
              rintro e w2 ⟨rfl, rfl⟩
              go_wp2_with fail
              refine (HB5.out _).mono ?_
              rintro e w2 ⟨rfl, rfl⟩
              go_wp2_with fail
              go_ret
              exact ⟨ret_bool HV.out.symm, HZ.out⟩
             | true =>
              have dm := dm rfl
              go_enter Tryz.func14, Tryz.ntmps14
              go_wp2_with fail
              refine (HB1.out _).mono ?_
              rintro e w2 ⟨rfl, rfl⟩
              go_wp2_with fail
              refine (HB2.out _).mono ?_
              rintro e w2 ⟨rfl, rfl⟩
              go_wp2_with fail
              refine (HB3.out _).mono ?_
              rintro e w2 ⟨rfl, rfl⟩
              go_wp2_with fail
              refine (HB4.out _).mono ?_
              rintro e w2 ⟨rfl, rfl⟩
              go_wp2_with fail
              refine (HB5.out _).mono ?_
              rintro e w2 ⟨rfl, rfl⟩
              go_wp2_with fail
              go_ret
              exact ⟨ret_bool HV.out.symm, HZ.out⟩
           ·have HV : Hid (ok = false) := HG2.out (by rw [HBB.out, decide_eq_false em]; simp)
            have dm : (((data.size : Int) % 8) != 0) = true := by simp; omega
            clear HG2 HG3 HBB HCC
            go_enter Tryz.func14, Tryz.ntmps14
            go_wp2_with fail
            refine (HB1.out _).mono ?_
            rintro e w2 ⟨rfl, rfl⟩
            go_wp2_with fail
            refine (HB2.out _).mono ?_
            rintro e w2 ⟨rfl, rfl⟩
            go_wp2_with fail
            refine (HB3.out _).mono ?_
            rintro e w2 ⟨rfl, rfl⟩
            go_wp2_with fail
            refine (HB4.out _).mono ?_
            rintro e w2 ⟨rfl, rfl⟩
            go_wp2_with fail
            refine (HB5.out _).mono ?_
            rintro e w2 ⟨rfl, rfl⟩
            go_wp2_with fail
            go_ret
            exact ⟨ret_bool HV.out.symm, HZ.out⟩
          ·have HV : Hid (ok = false) := HG2.out (by rw [HBB.out, decide_eq_false e2]; simp)
           have dF2 : decide ((1400 : Int) < (data.size : Int)) = true := by simp; omega
           clear HG2 HG3 HBB HCC
           go_enter Tryz.func14, Tryz.ntmps14
           go_wp2_with fail
           refine (HB1.out _).mono ?_
           rintro e w2 ⟨rfl, rfl⟩
           go_wp2_with fail
           refine (HB2.out _).mono ?_
           rintro e w2 ⟨rfl, rfl⟩
           go_wp2_with fail
           refine (HB3.out _).mono ?_
           rintro e w2 ⟨rfl, rfl⟩
           go_wp2_with fail
           refine (HB4.out _).mono ?_
           rintro e w2 ⟨rfl, rfl⟩
           go_wp2_with fail
           refine (HB5.out _).mono ?_
           rintro e w2 ⟨rfl, rfl⟩
           go_wp2_with fail
           go_ret
           exact ⟨ret_bool HV.out.symm, HZ.out⟩
         ·have HV : Hid (ok = false) := HG2.out (by rw [HBB.out, decide_eq_false e1]; simp)
          have dF1 : (((opts.size : Int) % 4) != 0) = true := by simp; omega
          clear HG2 HG3 HBB HCC
          go_enter Tryz.func14, Tryz.ntmps14
          go_wp2_with fail
          refine (HB1.out _).mono ?_
          rintro e w2 ⟨rfl, rfl⟩
          go_wp2_with fail
          refine (HB2.out _).mono ?_
          rintro e w2 ⟨rfl, rfl⟩
          go_wp2_with fail
          refine (HB3.out _).mono ?_
          rintro e w2 ⟨rfl, rfl⟩
          go_wp2_with fail
          refine (HB4.out _).mono ?_
          rintro e w2 ⟨rfl, rfl⟩
          go_wp2_with fail
          refine (HB5.out _).mono ?_
          rintro e w2 ⟨rfl, rfl⟩
          go_wp2_with fail
          go_ret
          exact ⟨ret_bool HV.out.symm, HZ.out⟩
        ·have HV : Hid (ok = false) := HG2.out (by rw [HBB.out, decide_eq_false e0]; simp)
         have dF0 : decide ((40 : Int) < (opts.size : Int)) = true := by simp; omega
         clear HG2 HG3 HBB HCC
         go_enter Tryz.func14, Tryz.ntmps14
         go_wp2_with fail
         refine (HB1.out _).mono ?_
         rintro e w2 ⟨rfl, rfl⟩
         go_wp2_with fail
         refine (HB2.out _).mono ?_
         rintro e w2 ⟨rfl, rfl⟩
         go_wp2_with fail
         refine (HB3.out _).mono ?_
         rintro e w2 ⟨rfl, rfl⟩
         go_wp2_with fail
         refine (HB4.out _).mono ?_
         rintro e w2 ⟨rfl, rfl⟩
         go_wp2_with fail
         refine (HB5.out _).mono ?_
         rintro e w2 ⟨rfl, rfl⟩
         go_wp2_with fail
         go_ret
         exact ⟨ret_bool HV.out.symm, HZ.out⟩
       ·have HV : Hid (ok = false) := HF.out (by rw [HA.out, decide_eq_false s2]; simp)
        have hd : ((dst.size : Int) != 4) = true := by simp; omega
        clear s2 HA HF HF2 HF3 HBB HCC HO
        go_enter Tryz.func14, Tryz.ntmps14
        go_wp2_with fail
        refine (HB1.out _).mono ?_
        rintro e w2 ⟨rfl, rfl⟩
        go_wp2_with fail
        refine (HB2.out _).mono ?_
        rintro e w2 ⟨rfl, rfl⟩
        go_wp2_with fail
        refine (HB3.out _).mono ?_
        rintro e w2 ⟨rfl, rfl⟩
        go_wp2_with fail
        refine (HB4.out _).mono ?_
        rintro e w2 ⟨rfl, rfl⟩
        go_wp2_with fail
        refine (HB5.out _).mono ?_
        rintro e w2 ⟨rfl, rfl⟩
        go_wp2_with fail
        go_ret
        exact ⟨ret_bool HV.out.symm, HZ.out⟩
      ·have HV : Hid (ok = false) := HF.out (by rw [HA.out, decide_eq_false s1]; simp)
       have hd : ((src.size : Int) != 4) = true := by simp; omega
       clear s1 HA HF HF2 HF3 HBB HCC HO
       go_enter Tryz.func14, Tryz.ntmps14
       go_wp2_with fail
       refine (HB1.out _).mono ?_
       rintro e w2 ⟨rfl, rfl⟩
       go_wp2_with fail
       refine (HB2.out _).mono ?_
       rintro e w2 ⟨rfl, rfl⟩
       go_wp2_with fail
       refine (HB3.out _).mono ?_
       rintro e w2 ⟨rfl, rfl⟩
       go_wp2_with fail
       refine (HB4.out _).mono ?_
       rintro e w2 ⟨rfl, rfl⟩
       go_wp2_with fail
       refine (HB5.out _).mono ?_
       rintro e w2 ⟨rfl, rfl⟩
       go_wp2_with fail
       go_ret
       exact ⟨ret_bool HV.out.symm, HZ.out⟩

end Go.Proofs.YtdkepkaflielhaaGreatDoor
