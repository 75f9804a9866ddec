import Derived.Test.YtcckaeppiamebaaGreatDoorAb
import Derived.Test.YtcckaeppiamebaaGreatDoorMerged2
import Derived.Test.YtcckaeppiamebaaGreatDoorMerged1
import Derived.BigQuiet
import Derived.Deep.DeepCutAuto
import Derived.Test.YtcckaeppiamebaaGreatDoorMerged3
set_option linter.unusedVariables false
set_option linter.unusedSimpArgs false
set_option maxRecDepth 100000
set_option maxHeartbeats 8000000
/- SV4: what the specification's l01Is, l01Byte and V4Right answer. -/
namespace Go.Proofs.YtcckaeppiamebaaGreatDoor
open Go.RowKit Go.PlainAid
set_option linter.unusedVariables false
set_option linter.unusedSimpArgs false

theorem specIs_any (n lo hi : Int) (w : World) :
  Cw 81 #[iV n, iV lo, iV hi] w (.bool (isIn n lo hi)) := by
 by_cases h1 : lo ≤ n
 ·by_cases h2 : n ≤ hi
  ·have HV : Hid (isIn n lo hi = true) := by unfold Hid isIn; simp [h1, h2]
   go_enter Tryz.func81, Tryz.ntmps81
   go_wp2_with fail
   go_ret
   exact ⟨ret_bool (by rw [HV.out]), rfl⟩
  ·have HV : Hid (isIn n lo hi = false) := by unfold Hid isIn; simp [h2]
   go_enter Tryz.func81, Tryz.ntmps81
   go_wp2_with fail
   go_ret
   exact ⟨ret_bool (by rw [HV.out]), rfl⟩
 ·have HV : Hid (isIn n lo hi = false) := by unfold Hid isIn; simp [h1]
  have h1' : n < lo := by omega
  go_enter Tryz.func81, Tryz.ntmps81
  go_wp2_with fail
  go_ret
  exact ⟨ret_bool (by rw [HV.out]), rfl⟩

theorem specByte_any (n : Int) (w : World) :
  Cw 79 #[iV n] w (.bool (isIn n 0 255)) := by
 have HC : Hid (∀ W, Cw 81 #[iV n, iV 0, iV 255] W (.bool (isIn n 0 255))) := fun W => specIs_any n 0 255 W
 generalize isIn n 0 255 = b at *
 go_enter Tryz.func79, Tryz.ntmps79
 go_wp2_with fail
 refine (HC.out _).mono ?_
 rintro e w2 ⟨rfl, rfl⟩
 go_wp2_with fail
 go_ret
 exact ⟨rfl, rfl⟩

set_option maxRecDepth 100000 in
set_option maxHeartbeats 2000000 in
theorem specV4Right_any (p : P4) (w : World) (h1 : p.src.size ≤ 1048576) (h2 : p.dst.size ≤ 1048576) (h3 : p.opts.size ≤ 1048576) (h4 : p.data.size ≤ 1048576) :
  Cb 51 #[p4C p] w (.bool (v4Ok p)) := by
 have HB1 : Hid (∀ W, Cw 79 #[iV p.tos] W (.bool (isIn p.tos 0 255))) := fun W => specByte_any p.tos W
 have HB2 : Hid (∀ W, Cw 79 #[iV p.ttl] W (.bool (isIn p.ttl 0 255))) := fun W => specByte_any p.ttl W
 have HB3 : Hid (∀ W, Cw 79 #[iV p.proto] W (.bool (isIn p.proto 0 255))) := fun W => specByte_any p.proto W
 have HB4 : Hid (∀ W, Cw 80 #[iV p.id] W (.bool (isIn p.id 0 65535))) := fun W => specWordIs_any p.id W
 have HB5 : Hid (∀ W, Cw 81 #[iV p.off, iV 0, iV 8191] W (.bool (isIn p.off 0 8191))) := fun W => specIs_any p.off 0 8191 W
 have HO : Hid (isIn p.off 0 8191 = true → 0 ≤ p.off ∧ p.off ≤ 8191) := fun h => isIn_parts h
 have HA : Hid (v4A p = (isIn p.tos 0 255 && isIn p.ttl 0 255 && isIn p.proto 0 255 && isIn p.id 0 65535 && isIn p.off 0 8191 && decide (p.src.size = 4) && decide (p.dst.size = 4))) := rfl
 have HF : Hid (v4A p = false → v4Ok p = false) := fun h => by unfold v4Ok; rw [h]; rfl
 have HF2 : Hid (v4A p = true → v4B p = false → v4Ok p = false) := fun h h' => by unfold v4Ok; rw [h, h']; rfl
 have HF3 : Hid (v4A p = true → v4B p = true → v4Ok p = v4C p) := fun h h' => by unfold v4Ok; rw [h, h']; rfl
 have HBB : Hid (v4B p = (decide (p.opts.size ≤ 40) && decide (p.opts.size % 4 = 0) && decide (p.data.size ≤ 1400) && !(p.more && !decide (p.data.size % 8 = 0)) && decide (8 * p.off + p.data.size ≤ 65515))) := rfl
 have HCC : Hid (v4C p = (!p.whole || (!p.more && decide (p.off = 0)))) := rfl
 generalize v4A p = vA at *
 generalize v4B p = vB at *
 generalize v4C p = vC at *
 generalize v4Ok p = ok at *
 obtain ⟨tos, id, whole, more, off, ttl, proto, src, dst, opts, data⟩ := p
 unfold p4C
 dsimp only at *
 have HZ : Hid (Below w.heap.size w (w.alloc (.cells #[iV tos, iV id, .bool whole, .bool more, iV off, iV ttl, iV proto, .string src, .string dst, .string opts, .string data] 40))) := (Below.refl _ _).alloc (Nat.le_refl _) _
 cases b1 : isIn tos 0 255 with
 | false =>
  have HV : Hid (ok = false) := HF.out (by rw [HA.out, b1]; simp)
  rw [b1] at HB1
  clear b1 HA HF HF2 HF3 HBB HCC HO
  go_enter Tryz.func51, Tryz.ntmps51
  go_wp2_with fail
  refine (HB1.out _).mono ?_
  rintro e w2 ⟨rfl, rfl⟩
  go_wp2_with fail
  go_ret
  exact ⟨ret_bool HV.out.symm, HZ.out⟩
 | true =>
  rw [b1] at HB1
  cases b2 : isIn ttl 0 255 with
  | false =>
   have HV : Hid (ok = false) := HF.out (by rw [HA.out, b2]; simp)
   rw [b2] at HB2
   clear b2 HA HF HF2 HF3 HBB HCC HO
   go_enter Tryz.func51, Tryz.ntmps51
   go_wp2_with fail
   refine (HB1.out _).mono ?_
   rintro e w2 ⟨rfl, rfl⟩
   go_wp2_with fail
   refine (HB2.out _).mono ?_
   rintro e w2 ⟨rfl, rfl⟩
   go_wp2_with fail
   go_ret
   exact ⟨ret_bool HV.out.symm, HZ.out⟩
  | true =>
   rw [b2] at HB2
   cases b3 : isIn proto 0 255 with
   | false =>
    have HV : Hid (ok = false) := HF.out (by rw [HA.out, b3]; simp)
    rw [b3] at HB3
    clear b3 HA HF HF2 HF3 HBB HCC HO
    go_enter Tryz.func51, Tryz.ntmps51
    go_wp2_with fail
    refine (HB1.out _).mono ?_
    rintro e w2 ⟨rfl, rfl⟩
    go_wp2_with fail
    refine (HB2.out _).mono ?_
    rintro e w2 ⟨rfl, rfl⟩
    go_wp2_with fail
    refine (HB3.out _).mono ?_
    rintro e w2 ⟨rfl, rfl⟩
    go_wp2_with fail
    go_ret
    exact ⟨ret_bool HV.out.symm, HZ.out⟩
   | true =>
    rw [b3] at HB3
    cases b4 : isIn id 0 65535 with
    | false =>
     have HV : Hid (ok = false) := HF.out (by rw [HA.out, b4]; simp)
     rw [b4] at HB4
     clear b4 HA HF HF2 HF3 HBB HCC HO
     go_enter Tryz.func51, Tryz.ntmps51
     go_wp2_with fail
     refine (HB1.out _).mono ?_
     rintro e w2 ⟨rfl, rfl⟩
     go_wp2_with fail
     refine (HB2.out _).mono ?_
     rintro e w2 ⟨rfl, rfl⟩
     go_wp2_with fail
     refine (HB3.out _).mono ?_
     rintro e w2 ⟨rfl, rfl⟩
     go_wp2_with fail
     refine (HB4.out _).mono ?_
     rintro e w2 ⟨rfl, rfl⟩
     go_wp2_with fail
     go_ret
     exact ⟨ret_bool HV.out.symm, HZ.out⟩
    | true =>
     rw [b4] at HB4
     cases b5 : isIn off 0 8191 with
     | false =>
      have HV : Hid (ok = false) := HF.out (by rw [HA.out, b5]; simp)
      rw [b5] at HB5
      clear b5 HA HF HF2 HF3 HBB HCC HO
      go_enter Tryz.func51, Tryz.ntmps51
      go_wp2_with fail
      refine (HB1.out _).mono ?_
      rintro e w2 ⟨rfl, rfl⟩
      go_wp2_with fail
      refine (HB2.out _).mono ?_
      rintro e w2 ⟨rfl, rfl⟩
      go_wp2_with fail
      refine (HB3.out _).mono ?_
      rintro e w2 ⟨rfl, rfl⟩
      go_wp2_with fail
      refine (HB4.out _).mono ?_
      rintro e w2 ⟨rfl, rfl⟩
      go_wp2_with fail
      refine (HB5.out _).mono ?_
      rintro e w2 ⟨rfl, rfl⟩
      go_wp2_with fail
      go_ret
      exact ⟨ret_bool HV.out.symm, HZ.out⟩
     | true =>
      rw [b5] at HB5
      obtain ⟨o0, o1⟩ := HO.out b5
      by_cases s1 : src.size = 4
      ·have ds1 : ((src.size : Int) != 4) = false := by simp; omega
       by_cases s2 : dst.size = 4
       ·have ds2 : ((dst.size : Int) != 4) = false := by simp; omega
        have hA : vA = true := by rw [HA.out, b1, b2, b3, b4, b5, decide_eq_true s1, decide_eq_true s2]; rfl
        have HG2 : Hid (vB = false → ok = false) := HF2.out hA
        have HG3 : Hid (vB = true → ok = vC) := HF3.out hA
        clear hA HA HF HF2 HF3 HO b1 b2 b3 b4 b5 s1 s2
        by_cases e0 : opts.size ≤ 40
        ·have dT0 : decide ((40 : Int) < (opts.size : Int)) = false := by simp; omega
         by_cases e1 : opts.size % 4 = 0
         ·have dT1 : (((opts.size : Int) % 4) != 0) = false := by simp; omega
          by_cases e2 : data.size ≤ 1400
          ·have dT2 : decide ((1400 : Int) < (data.size : Int)) = false := by simp; omega
           have em : (more && !decide (data.size % 8 = 0)) = false ∨ (more = true ∧ data.size % 8 ≠ 0) := by cases more <;> simp <;> omega
           rcases em with em | ⟨rfl, em⟩
           ·have dm : more = true → (((data.size : Int) % 8) != 0) = false := fun h => by rw [h] at em; simp at em; simp; omega
            by_cases e9 : 8 * off + data.size ≤ 65515
            ·have d9 : decide ((65515 : Int) < 8 * off + (data.size : Int)) = false := by simp; omega
             have HV : Hid (ok = (!whole || (!more && decide (off = 0)))) := by unfold Hid; rw [← HCC.out]; exact HG3.out (by rw [HBB.out, em, decide_eq_true e0, decide_eq_true e1, decide_eq_true e2, decide_eq_true e9]; rfl)
             clear HG2 HG3 HBB HCC em
             cases more with
             | false =>
              clear dm
              cases whole with
              | false =>
               go_enter Tryz.func51, Tryz.ntmps51
               go_wp2_with fail
               refine (HB1.out _).mono ?_
               rintro e w2 ⟨rfl, rfl⟩
               go_wp2_with fail
               refine (HB2.out _).mono ?_
               rintro e w2 ⟨rfl, rfl⟩
               go_wp2_with fail
               refine (HB3.out _).mono ?_
               rintro e w2 ⟨rfl, rfl⟩
               go_wp2_with fail
               refine (HB4.out _).mono ?_
               rintro e w2 ⟨rfl, rfl⟩
               go_wp2_with fail
               refine (HB5.out _).mono ?_
               rintro e w2 ⟨rfl, rfl⟩
               go_wp2_with fail
               go_ret
               exact ⟨ret_bool (by rw [HV.out]; rfl), HZ.out⟩
              | true =>
               go_enter Tryz.func51, Tryz.ntmps51
               go_wp2_with fail
               refine (HB1.out _).mono ?_
               rintro e w2 ⟨rfl, rfl⟩
               go_wp2_with fail
               refine (HB2.out _).mono ?_
               rintro e w2 ⟨rfl, rfl⟩
               go_wp2_with fail
               refine (HB3.out _).mono ?_
               rintro e w2 ⟨rfl, rfl⟩
               go_wp2_with fail
               refine (HB4.out _).mono ?_
               rintro e w2 ⟨rfl, rfl⟩
               go_wp2_with fail
               refine (HB5.out _).mono ?_
               rintro e w2 ⟨rfl, rfl⟩
               go_wp2_with fail
               go_ret
               exact ⟨ret_bool (by rw [HV.out]; rfl), HZ.out⟩
             | true =>
              have dm := dm rfl
              cases whole with
              | false =>
               go_enter Tryz.func51, Tryz.ntmps51
               go_wp2_with fail
               refine (HB1.out _).mono ?_
               rintro e w2 ⟨rfl, rfl⟩
               go_wp2_with fail
               refine (HB2.out _).mono ?_
               rintro e w2 ⟨rfl, rfl⟩
               go_wp2_with fail
               refine (HB3.out _).mono ?_
               rintro e w2 ⟨rfl, rfl⟩
               go_wp2_with fail
               refine (HB4.out _).mono ?_
               rintro e w2 ⟨rfl, rfl⟩
               go_wp2_with fail
               refine (HB5.out _).mono ?_
               rintro e w2 ⟨rfl, rfl⟩
               go_wp2_with fail
               go_ret
               exact ⟨ret_bool (by rw [HV.out]; rfl), HZ.out⟩
              | true =>
               go_enter Tryz.func51, Tryz.ntmps51
               go_wp2_with fail
               refine (HB1.out _).mono ?_
               rintro e w2 ⟨rfl, rfl⟩
               go_wp2_with fail
               refine (HB2.out _).mono ?_
               rintro e w2 ⟨rfl, rfl⟩
               go_wp2_with fail
               refine (HB3.out _).mono ?_
               rintro e w2 ⟨rfl, rfl⟩
               go_wp2_with fail
               refine (HB4.out _).mono ?_
               rintro e w2 ⟨rfl, rfl⟩
               go_wp2_with fail
               refine (HB5.out _).mono ?_
               rintro e w2 ⟨rfl, rfl⟩
               go_wp2_with fail
               go_ret
               exact ⟨ret_bool (by rw [HV.out]; rfl), HZ.out⟩
            ·have HV : Hid (ok = false) := HG2.out (by rw [HBB.out, decide_eq_false e9]; simp)
             have d9 : decide ((65515 : Int) < 8 * off + (data.size : Int)) = true := by simp; omega
             clear HG2 HG3 HBB HCC
             cases more with
             | false =>
              clear dm
              go_enter Tryz.func51, Tryz.ntmps51
              go_wp2_with fail
              refine (HB1.out _).mono ?_
              rintro e w2 ⟨rfl, rfl⟩
              go_wp2_with fail
              refine (HB2.out _).mono ?_
              rintro e w2 ⟨rfl, rfl⟩
              go_wp2_with fail
              refine (HB3.out _).mono ?_
              rintro e w2 ⟨rfl, rfl⟩
              go_wp2_with fail
              refine (HB4.out _).mono ?_
              rintro e w2 ⟨rfl, rfl⟩
              go_wp2_with fail
              refine (HB5.out _).mono ?_
              rintro e w2 ⟨rfl, rfl⟩
              go_wp2_with fail
              go_ret
              exact ⟨ret_bool HV.out.symm, HZ.out⟩
             | true =>
              have dm := dm rfl
              go_enter Tryz.func51, Tryz.ntmps51
              go_wp2_with fail
              refine (HB1.out _).mono ?_
              rintro e w2 ⟨rfl, rfl⟩
              go_wp2_with fail
              refine (HB2.out _).mono ?_
              rintro e w2 ⟨rfl, rfl⟩
              go_wp2_with fail
              refine (HB3.out _).mono ?_
              rintro e w2 ⟨rfl, rfl⟩
              go_wp2_with fail
              refine (HB4.out _).mono ?_
              rintro e w2 ⟨rfl, rfl⟩
              go_wp2_with fail
              refine (HB5.out _).mono ?_
              rintro e w2 ⟨rfl, rfl⟩
              go_wp2_with fail
              go_ret
              exact ⟨ret_bool HV.out.symm, HZ.out⟩
           ·have HV : Hid (ok = false) := HG2.out (by rw [HBB.out, decide_eq_false em]; simp)
            have dm : (((data.size : Int) % 8) != 0) = true := by simp; omega
            clear HG2 HG3 HBB HCC
            go_enter Tryz.func51, Tryz.ntmps51
            go_wp2_with fail
            refine (HB1.out _).mono ?_
            rintro e w2 ⟨rfl, rfl⟩
            go_wp2_with fail
            refine (HB2.out _).mono ?_
            rintro e w2 ⟨rfl, rfl⟩
            go_wp2_with fail
            refine (HB3.out _).mono ?_
            rintro e w2 ⟨rfl, rfl⟩
            go_wp2_with fail
            refine (HB4.out _).mono ?_
            rintro e w2 ⟨rfl, rfl⟩
            go_wp2_with fail
            refine (HB5.out _).mono ?_
            rintro e w2 ⟨rfl, rfl⟩
            go_wp2_with fail
            go_ret
            exact ⟨ret_bool HV.out.symm, HZ.out⟩
          ·have HV : Hid (ok = false) := HG2.out (by rw [HBB.out, decide_eq_false e2]; simp)
           have dF2 : decide ((1400 : Int) < (data.size : Int)) = true := by simp; omega
           clear HG2 HG3 HBB HCC
           go_enter Tryz.func51, Tryz.ntmps51
           go_wp2_with fail
           refine (HB1.out _).mono ?_
           rintro e w2 ⟨rfl, rfl⟩
           go_wp2_with fail
           refine (HB2.out _).mono ?_
           rintro e w2 ⟨rfl, rfl⟩
           go_wp2_with fail
           refine (HB3.out _).mono ?_
           rintro e w2 ⟨rfl, rfl⟩
           go_wp2_with fail
           refine (HB4.out _).mono ?_
           rintro e w2 ⟨rfl, rfl⟩
           go_wp2_with fail
           refine (HB5.out _).mono ?_
           rintro e w2 ⟨rfl, rfl⟩
           go_wp2_with fail
           go_ret
           exact ⟨ret_bool HV.out.symm, HZ.out⟩
         ·have HV : Hid (ok = false) := HG2.out (by rw [HBB.out, decide_eq_false e1]; simp)
          have dF1 : (((opts.size : Int) % 4) != 0) = true := by simp; omega
          clear HG2 HG3 HBB HCC
          go_enter Tryz.func51, Tryz.ntmps51
          go_wp2_with fail
          refine (HB1.out _).mono ?_
          rintro e w2 ⟨rfl, rfl⟩
          go_wp2_with fail
          refine (HB2.out _).mono ?_
          rintro e w2 ⟨rfl, rfl⟩
          go_wp2_with fail
          refine (HB3.out _).mono ?_
          rintro e w2 ⟨rfl, rfl⟩
          go_wp2_with fail
          refine (HB4.out _).mono ?_
          rintro e w2 ⟨rfl, rfl⟩
          go_wp2_with fail
          refine (HB5.out _).mono ?_
          rintro e w2 ⟨rfl, rfl⟩
          go_wp2_with fail
          go_ret
          exact ⟨ret_bool HV.out.symm, HZ.out⟩
        ·have HV : Hid (ok = false) := HG2.out (by rw [HBB.out, decide_eq_false e0]; simp)
         have dF0 : decide ((40 : Int) < (opts.size : Int)) = true := by simp; omega
         clear HG2 HG3 HBB HCC
         go_enter Tryz.func51, Tryz.ntmps51
         go_wp2_with fail
         refine (HB1.out _).mono ?_
         rintro e w2 ⟨rfl, rfl⟩
         go_wp2_with fail
         refine (HB2.out _).mono ?_
         rintro e w2 ⟨rfl, rfl⟩
         go_wp2_with fail
         refine (HB3.out _).mono ?_
         rintro e w2 ⟨rfl, rfl⟩
         go_wp2_with fail
         refine (HB4.out _).mono ?_
         rintro e w2 ⟨rfl, rfl⟩
         go_wp2_with fail
         refine (HB5.out _).mono ?_
         rintro e w2 ⟨rfl, rfl⟩
         go_wp2_with fail
         go_ret
         exact ⟨ret_bool HV.out.symm, HZ.out⟩
       ·have HV : Hid (ok = false) := HF.out (by rw [HA.out, decide_eq_false s2]; simp)
        have hd : ((dst.size : Int) != 4) = true := by simp; omega
        clear s2 HA HF HF2 HF3 HBB HCC HO
        go_enter Tryz.func51, Tryz.ntmps51
        go_wp2_with fail
        refine (HB1.out _).mono ?_
        rintro e w2 ⟨rfl, rfl⟩
        go_wp2_with fail
        refine (HB2.out _).mono ?_
        rintro e w2 ⟨rfl, rfl⟩
        go_wp2_with fail
        refine (HB3.out _).mono ?_
        rintro e w2 ⟨rfl, rfl⟩
        go_wp2_with fail
        refine (HB4.out _).mono ?_
        rintro e w2 ⟨rfl, rfl⟩
        go_wp2_with fail
        refine (HB5.out _).mono ?_
        rintro e w2 ⟨rfl, rfl⟩
        go_wp2_with fail
        go_ret
        exact ⟨ret_bool HV.out.symm, HZ.out⟩
      ·have HV : Hid (ok = false) := HF.out (by rw [HA.out, decide_eq_false s1]; simp)
       have hd : ((src.size : Int) != 4) = true := by simp; omega
       clear s1 HA HF HF2 HF3 HBB HCC HO
       go_enter Tryz.func51, Tryz.ntmps51
       go_wp2_with fail
       refine (HB1.out _).mono ?_
       rintro e w2 ⟨rfl, rfl⟩
       go_wp2_with fail
       refine (HB2.out _).mono ?_
       rintro e w2 ⟨rfl, rfl⟩
       go_wp2_with fail
       refine (HB3.out _).mono ?_
       rintro e w2 ⟨rfl, rfl⟩
       go_wp2_with fail
       refine (HB4.out _).mono ?_
       rintro e w2 ⟨rfl, rfl⟩
       go_wp2_with fail
       refine (HB5.out _).mono ?_
       rintro e w2 ⟨rfl, rfl⟩
       go_wp2_with fail
       go_ret
       exact ⟨ret_bool HV.out.symm, HZ.out⟩

end Go.Proofs.YtcckaeppiamebaaGreatDoor
namespace Go.Proofs.YtcckaeppiamebaaGreatDoor
open Go.RowKit Go.PlainAid
theorem flags_all:((List.range 256).all fun n=>decide ((bits .and .i64 (n:Int) 22=2)↔(flagB (n:Int) 2=true∧flagB (n:Int) 4=false∧flagB (n:Int) 16=false)))=true:=by kernel_rfl
theorem flags_22 {flags:Int} (h:isIn flags 0 255=true):(flagB flags 2=true∧flagB flags 4=false∧flagB flags 16=false)=(bits .and .i64 flags 22=2):=by
 unfold isIn at h;simp only [Bool.and_eq_true,decide_eq_true_eq] at h;obtain ⟨n,rfl⟩:=Int.eq_ofNat_of_zero_le h.1;have:=List.all_eq_true.1 flags_all n (List.mem_range.2 (by omega));exact propext (decide_eq_true_eq.mp this).symm
theorem next_in (proto state:Int) (inside:Bool) (flags:Int) (hs:stillP proto=false) (hp:proto=6) (hb:isIn state 1 7=true) (hc:isIn flags 0 255=true):trackNextV proto state inside flags=(
  if flagB flags 4=true then 7
  else if state=1 then (if inside=false∧flagB flags 2=true then 3 else 1)
  else if state=2 then (if inside=true∧flagB flags 2=true then 3 else 2)
  else if state=3 then (if flagB flags 1=true then (if inside=true then 4 else 5) else 3)
  else if state=4 then (if inside=false∧flagB flags 1=true then 6 else 4)
  else if state=5 then (if inside=true∧flagB flags 1=true then 6 else 5)
  else if state=7 then 3 else state):=by
 unfold trackNextV; rw [if_neg (by rw [hs]; decide),if_pos ⟨hp,hb,hc⟩]
theorem specLives_any (l:Lv) (w:World) :
  Cb 119 #[lvC l] w (.bool (livesOk l)):=by
 have HC0:Hid (∀ W,Cw 81 #[iV l.udp,iV 1,iV 10000] W (.bool (isIn l.udp 1 10000))):=fun W=>specIs_any _ _ _ W
 have HC1:Hid (∀ W,Cw 81 #[iV l.echo,iV 1,iV 10000] W (.bool (isIn l.echo 1 10000))):=fun W=>specIs_any _ _ _ W
 have HC2:Hid (∀ W,Cw 81 #[iV l.opening,iV 1,iV 10000] W (.bool (isIn l.opening 1 10000))):=fun W=>specIs_any _ _ _ W
 have HC3:Hid (∀ W,Cw 81 #[iV l.opn,iV 1,iV 10000] W (.bool (isIn l.opn 1 10000))):=fun W=>specIs_any _ _ _ W
 have HC4:Hid (∀ W,Cw 81 #[iV l.closing,iV 1,iV 10000] W (.bool (isIn l.closing 1 10000))):=fun W=>specIs_any _ _ _ W
 have HV:Hid (livesOk l=(isIn l.udp 1 10000&&isIn l.echo 1 10000&&isIn l.opening 1 10000&&isIn l.opn 1 10000&&isIn l.closing 1 10000)):=rfl;generalize livesOk l=ans at *;generalize isIn l.udp 1 10000=b0 at *;generalize isIn l.echo 1 10000=b1 at *;generalize isIn l.opening 1 10000=b2 at *;generalize isIn l.opn 1 10000=b3 at *;generalize isIn l.closing 1 10000=b4 at *;have HZ:Hid (Below w.heap.size w (w.alloc (.cells #[iV l.udp,iV l.echo,iV l.opening,iV l.opn,iV l.closing] 46))):=(Below.refl _ _).alloc (Nat.le_refl _) _;unfold lvC;go_enter Tryz.func119,Tryz.ntmps119
 go_wp2_with fail
 cases b0 with
 | false =>
  refine (HC0.out _).mono ?_;rintro e w0 ⟨rfl,rfl⟩;go_wp2_with fail
  go_ret;exact ⟨ret_bool (by rw [HV.out]; rfl),HZ.out⟩
 | true =>
  refine (HC0.out _).mono ?_;rintro e w0 ⟨rfl,rfl⟩;go_wp2_with fail
  cases b1 with
  | false =>
   refine (HC1.out _).mono ?_;rintro e w1 ⟨rfl,rfl⟩;go_wp2_with fail
   go_ret;exact ⟨ret_bool (by rw [HV.out]; rfl),HZ.out⟩
  | true =>
   refine (HC1.out _).mono ?_;rintro e w1 ⟨rfl,rfl⟩;go_wp2_with fail
   cases b2 with
   | false =>
    refine (HC2.out _).mono ?_;rintro e w2 ⟨rfl,rfl⟩;go_wp2_with fail
    go_ret;exact ⟨ret_bool (by rw [HV.out]; rfl),HZ.out⟩
   | true =>
    refine (HC2.out _).mono ?_;rintro e w2 ⟨rfl,rfl⟩;go_wp2_with fail
    cases b3 with
    | false =>
     refine (HC3.out _).mono ?_;rintro e w3 ⟨rfl,rfl⟩;go_wp2_with fail
     go_ret;exact ⟨ret_bool (by rw [HV.out]; rfl),HZ.out⟩
    | true =>
     refine (HC3.out _).mono ?_;rintro e w3 ⟨rfl,rfl⟩;go_wp2_with fail
     cases b4 with
     | false =>
      refine (HC4.out _).mono ?_;rintro e w4 ⟨rfl,rfl⟩;go_wp2_with fail
      go_ret;exact ⟨ret_bool (by rw [HV.out]; rfl),HZ.out⟩
     | true =>
      refine (HC4.out _).mono ?_;rintro e w4 ⟨rfl,rfl⟩;go_wp2_with fail
      go_ret;exact ⟨ret_bool (by rw [HV.out]; rfl),HZ.out⟩
theorem specStill_any (proto:Int) (w:World) :
  Cw 164 #[iV proto] w (.bool (stillP proto)):=by
 by_cases h1:proto=17
 ·have HV:Hid (stillP proto=true):=by unfold Hid stillP; simp [h1]
  go_enter Tryz.func164,Tryz.ntmps164
  go_wp2_with fail
  go_ret;exact ⟨ret_bool HV.out.symm,rfl⟩
 ·by_cases h2:proto=1
  ·have HV:Hid (stillP proto=true):=by unfold Hid stillP; simp [h2]
   go_enter Tryz.func164,Tryz.ntmps164
   go_wp2_with fail
   go_ret;exact ⟨ret_bool HV.out.symm,rfl⟩
  ·have HV:Hid (stillP proto=false):=by unfold Hid stillP; simp [h1,h2]
   go_enter Tryz.func164,Tryz.ntmps164
   go_wp2_with fail
   go_ret;exact ⟨ret_bool (by rw [HV.out]; simp [h1,h2]),rfl⟩
theorem specNext_any (proto state:Int) (inside:Bool) (flags:Int) (w:World) :
  Cw 128 #[iV proto,iV state,.bool inside,iV flags] w (iV (trackNextV proto state inside flags)):=by
 have HA:Hid (∀ W,Cw 164 #[iV proto] W (.bool (stillP proto))):=fun W=>specStill_any _ W
 have HB:Hid (∀ W,Cw 81 #[iV state,iV 1,iV 7] W (.bool (isIn state 1 7))):=fun W=>specIs_any _ _ _ W
 have HC:Hid (∀ W,Cw 79 #[iV flags] W (.bool (isIn flags 0 255))):=fun W=>specByte_any _ W
 have HV:Hid (trackNextV proto state inside flags=trackNextV proto state inside flags):=rfl
 cases hs:stillP proto with
 | true =>
  have HX:Hid (trackNextV proto state inside flags=3):=by unfold Hid trackNextV; rw [if_pos hs]
  rw [hs] at HA;clear hs;go_enter Tryz.func128,Tryz.ntmps128
  go_wp2_with fail
  refine (HA.out _).mono ?_;rintro e w1 ⟨rfl,rfl⟩;go_wp2_with fail
  go_ret;exact ⟨ret_int HX.out.symm,rfl⟩
 | false =>
  rw [hs] at HA;have HS:Hid (stillP proto=false):=hs;clear hs;by_cases hp:proto=6
  ·subst hp
   cases hb:isIn state 1 7 with
   | false =>
    have HX:Hid (trackNextV 6 state inside flags=0):=by unfold Hid trackNextV; rw [if_neg (by rw [HS.out]; decide),if_neg (by rw [hb]; simp)]
    rw [hb] at HB;clear hb;go_enter Tryz.func128,Tryz.ntmps128
    go_wp2_with fail
    refine (HA.out _).mono ?_;rintro e w1 ⟨rfl,rfl⟩;go_wp2_with fail
    refine (HB.out _).mono ?_;rintro e w1 ⟨rfl,rfl⟩;go_wp2_with fail
    go_ret;exact ⟨ret_int HX.out.symm,rfl⟩
   | true =>
    cases hc:isIn flags 0 255 with
    | false =>
     have HX:Hid (trackNextV 6 state inside flags=0):=by unfold Hid trackNextV; rw [if_neg (by rw [HS.out]; decide),if_neg (by rw [hc]; simp)]
     rw [hb] at HB;rw [hc] at HC;clear hb hc;go_enter Tryz.func128,Tryz.ntmps128
     go_wp2_with fail
     refine (HA.out _).mono ?_;rintro e w1 ⟨rfl,rfl⟩;go_wp2_with fail
     refine (HB.out _).mono ?_;rintro e w1 ⟨rfl,rfl⟩;go_wp2_with fail
     refine (HC.out _).mono ?_;rintro e w1 ⟨rfl,rfl⟩;go_wp2_with fail
     go_ret;exact ⟨ret_int HX.out.symm,rfl⟩
    | true =>
     have HX:Hid _:=next_in 6 state inside flags HS.out rfl hb hc;rw [hb] at HB;rw [hc] at HC;have hr:state=1∨state=2∨state=3∨state=4∨state=5∨state=6∨state=7:=by
      unfold isIn at hb; simp only [Bool.and_eq_true,decide_eq_true_eq] at hb; omega
     clear hb hc;go_enter Tryz.func128,Tryz.ntmps128
     go_wp2_with fail
     refine (HA.out _).mono ?_;rintro e w1 ⟨rfl,rfl⟩;go_wp2_with fail
     refine (HB.out _).mono ?_;rintro e w1 ⟨rfl,rfl⟩;go_wp2_with fail
     refine (HC.out _).mono ?_;rintro e w1 ⟨rfl,rfl⟩;clear HA HB HC;go_upto_region 5 with fail
     by_cases h4:bits .and .i64 flags 4=0
     ·have n4:flagB flags 4=false:=by unfold flagB; simp [h4]
      rw [n4,if_neg (by decide)] at HX;clear n4;have e1:flagB flags 1=decide (¬ bits .and .i64 flags 1=0):=rfl;have e2:flagB flags 2=decide (¬ bits .and .i64 flags 2=0):=rfl;rw [e1,e2] at HX;clear e1 e2;rcases hr with rfl | rfl | rfl | rfl | rfl | rfl | rfl<;>by_cases h1:bits .and .i64 flags 1=0<;>by_cases h2:bits .and .i64 flags 2=0<;>cases inside
      all_goals
       simp [h1,h2] at HX;go_wp2_with fail
       go_ret;exact ⟨ret_int HX.out.symm,rfl⟩
     ·have HY:Hid (trackNextV 6 state inside flags=7):=by unfold Hid; rw [HX.out,if_pos (by unfold flagB; exact decide_eq_true h4)]
      go_wp2_with fail
      go_ret;exact ⟨ret_int HY.out.symm,rfl⟩
  ·have HX:Hid (trackNextV proto state inside flags=0):=by unfold Hid trackNextV; rw [if_neg (by rw [HS.out]; decide),if_neg (fun h=>hp h.1)]
   go_enter Tryz.func128,Tryz.ntmps128
   go_wp2_with fail
   refine (HA.out _).mono ?_;rintro e w1 ⟨rfl,rfl⟩;go_wp2_with fail
   go_ret;exact ⟨ret_int HX.out.symm,rfl⟩
theorem specNew_any (proto:Int) (inside:Bool) (flags:Int) (w:World) :
  Cw 162 #[iV proto,.bool inside,iV flags] w (iV (trackNewV proto inside flags)):=by
 have HA:Hid (∀ W,Cw 164 #[iV proto] W (.bool (stillP proto))):=fun W=>specStill_any _ W
 have HC:Hid (∀ W,Cw 79 #[iV flags] W (.bool (isIn flags 0 255))):=fun W=>specByte_any _ W
 cases hc:isIn flags 0 255 with
 | false =>
  have HX:Hid (trackNewV proto inside flags=0):=by unfold Hid trackNewV; rw [if_pos hc]
  rw [hc] at HC;clear hc;go_enter Tryz.func162,Tryz.ntmps162
  go_wp2_with fail
  refine (HC.out _).mono ?_;rintro e w1 ⟨rfl,rfl⟩;go_wp2_with fail
  go_ret;exact ⟨ret_int HX.out.symm,rfl⟩
 | true =>
  have h22:=flags_22 hc;have HN:Hid (¬ isIn flags 0 255=false):=by unfold Hid; rw [hc]; decide
  rw [hc] at HC;clear hc
  cases hs:stillP proto with
  | true =>
   have HX:Hid (trackNewV proto inside flags=3):=by unfold Hid trackNewV; rw [if_neg HN.out,if_pos hs]
   rw [hs] at HA;clear hs h22;go_enter Tryz.func162,Tryz.ntmps162
   go_wp2_with fail
   refine (HC.out _).mono ?_;rintro e w1 ⟨rfl,rfl⟩;go_wp2_with fail
   refine (HA.out _).mono ?_;rintro e w1 ⟨rfl,rfl⟩;go_wp2_with fail
   go_ret;exact ⟨ret_int HX.out.symm,rfl⟩
  | false =>
   have HX:Hid (trackNewV proto inside flags=if proto=6∧bits .and .i64 flags 22=2 then (if inside=true then 1 else 2) else 0):=by
    unfold Hid trackNewV; rw [if_neg HN.out,if_neg (by rw [hs]; decide)]; simp only [h22]
   rw [hs] at HA;clear hs h22;by_cases hp:proto=6
   ·subst hp;by_cases hf:bits .and .i64 flags 22=2
    ·rw [if_pos ⟨rfl,hf⟩] at HX
     cases inside;all_goals
      go_enter Tryz.func162,Tryz.ntmps162
      go_wp2_with fail
      refine (HC.out _).mono ?_;rintro e w1 ⟨rfl,rfl⟩;go_wp2_with fail
      refine (HA.out _).mono ?_;rintro e w1 ⟨rfl,rfl⟩;go_wp2_with fail
      go_ret;exact ⟨ret_int HX.out.symm,rfl⟩
    ·rw [if_neg (fun h=>hf h.2)] at HX;go_enter Tryz.func162,Tryz.ntmps162
     go_wp2_with fail
     refine (HC.out _).mono ?_;rintro e w1 ⟨rfl,rfl⟩;go_wp2_with fail
     refine (HA.out _).mono ?_;rintro e w1 ⟨rfl,rfl⟩;go_wp2_with fail
     go_ret;exact ⟨ret_int HX.out.symm,rfl⟩
   ·rw [if_neg (fun h=>hp h.1)] at HX;go_enter Tryz.func162,Tryz.ntmps162
    go_wp2_with fail
    refine (HC.out _).mono ?_;rintro e w1 ⟨rfl,rfl⟩;go_wp2_with fail
    refine (HA.out _).mono ?_;rintro e w1 ⟨rfl,rfl⟩;go_wp2_with fail
    go_ret;exact ⟨ret_int HX.out.symm,rfl⟩
theorem specLife_any (l:Lv) (proto state:Int) (w:World) :
  Cb 129 #[lvC l,iV proto,iV state] w (iV (trackLifeV l proto state)):=by
 have HL:Hid (∀ W,Cb 119 #[lvC l] W (.bool (livesOk l))):=fun W=>specLives_any l W
 have HK:Hid (BoxLives (w.alloc (.cells #[iV l.udp,iV l.echo,iV l.opening,iV l.opn,iV l.closing] 46)) w.heap.size l):=BoxLives.new w l;have HZ:Hid (Below w.heap.size w (w.alloc (.cells #[iV l.udp,iV l.echo,iV l.opening,iV l.opn,iV l.closing] 46))):=(Below.refl _ _).alloc (Nat.le_refl _) _;unfold lvC at HL ⊢
 cases hl:livesOk l with
 | false =>
  have HX:Hid (trackLifeV l proto state=0):=by unfold Hid trackLifeV; rw [if_pos hl]
  rw [hl] at HL;clear hl;go_enter Tryz.func129,Tryz.ntmps129
  go_wp2_with fail
  refine (HL.out _).mono ?_;rintro e w1 ⟨rfl,q1⟩;have G1:Hid _:=HZ.out.trans (q1.mono HZ.out.size);clear q1;go_wp2_with fail
  go_ret;exact ⟨ret_int HX.out.symm,G1.out⟩
 | true =>
  have HX:Hid (trackLifeV l proto state=if proto=17 then l.udp else if proto=1 then l.echo else if proto=6 then (if state=1∨state=2 then l.opening else if state=3∨state=4∨state=5 then l.opn else if state=6∨state=7 then l.closing else 0) else 0):=by unfold Hid trackLifeV; rw [if_neg (by rw [hl]; decide)]
  rw [hl] at HL;clear hl;go_enter Tryz.func129,Tryz.ntmps129
  go_wp2_with fail
  refine (HL.out _).mono ?_;rintro e w1 ⟨rfl,q1⟩;have G1:Hid _:=HZ.out.trans (q1.mono HZ.out.size);obtain ⟨k0,k1,k2,k3,k4⟩:=HK.out.kept q1;clear q1 HZ HK HL;by_cases p0:proto=17
  ·subst p0;rw [if_pos rfl] at HX;go_wp2_with fail
   go_ret;exact ⟨ret_int HX.out.symm,G1.out⟩
  ·by_cases p1:proto=1
   ·subst p1;rw [if_neg (by decide),if_pos rfl] at HX;go_wp2_with fail
    go_ret;exact ⟨ret_int HX.out.symm,G1.out⟩
   ·rw [if_neg p0,if_neg p1] at HX;by_cases p6:proto=6
    ·subst p6;rw [if_pos rfl] at HX;clear p0 p1;by_cases s1:state=1
     ·subst s1; simp at HX; go_wp2_with fail; go_ret; exact ⟨ret_int HX.out.symm,G1.out⟩
     by_cases s2:state=2
     ·subst s2; simp at HX; go_wp2_with fail; go_ret; exact ⟨ret_int HX.out.symm,G1.out⟩
     by_cases s3:state=3
     ·subst s3; simp at HX; go_wp2_with fail; go_ret; exact ⟨ret_int HX.out.symm,G1.out⟩
     by_cases s4:state=4
     ·subst s4; simp at HX; go_wp2_with fail; go_ret; exact ⟨ret_int HX.out.symm,G1.out⟩
     by_cases s5:state=5
     ·subst s5; simp at HX; go_wp2_with fail; go_ret; exact ⟨ret_int HX.out.symm,G1.out⟩
     by_cases s6:state=6
     ·subst s6; simp at HX; go_wp2_with fail; go_ret; exact ⟨ret_int HX.out.symm,G1.out⟩
     by_cases s7:state=7
     ·subst s7; simp at HX; go_wp2_with fail; go_ret; exact ⟨ret_int HX.out.symm,G1.out⟩
     simp [s1,s2,s3,s4,s5,s6,s7] at HX;go_wp2_with fail
     go_ret;exact ⟨ret_int HX.out.symm,G1.out⟩
    ·rw [if_neg p6] at HX;go_wp2_with fail
     go_ret;exact ⟨ret_int HX.out.symm,G1.out⟩
end Go.Proofs.YtcckaeppiamebaaGreatDoor
