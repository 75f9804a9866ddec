/- SPortFor: what the specification's PortFor answers. Printed by mksportfor.py. -/
import Derived.Test.YtkakehchiadpbalSPort
import Derived.Test.YtkakehchiadpbalLawBibM
namespace Go.Proofs.Ytkakehchiadpbal
open Go.RowKit Go.PlainAid
set_option linter.unusedVariables false
set_option linter.unusedSimpArgs false

def bbZ : Bb := ⟨[], []⟩
def portForV (p : Pl) (x : Bb) (proto : Int) (inn : ByteArray) (port : Int) : Bo :=
  if 20000 < inn.size then ⟨bbZ, bdZ, 2⟩
  else if (bibOk p x && protoB proto && addrOk inn && isW port) = true then ⟨bbZ, (lendV p x.binds proto inn port).1, (lendV p x.binds proto inn port).2⟩
  else ⟨bbZ, bdZ, 1⟩

set_option maxRecDepth 100000 in
set_option maxHeartbeats 4000000 in
theorem specPortFor_any (p : Pl) (x : Bb) (pa : Option Addr) (pc : Nat) (a b : Option Addr) (ca cb : Nat) (proto : Int) (inn : ByteArray) (port : Int) (w : World) (hlp : p.addrs.length ≤ 1048576) (hpc : p.addrs.length ≤ pc) (hsz : ∀ s ∈ p.addrs, s.size ≤ 1048576) (hin : inn.size ≤ 1048576) (hl1 : x.binds.length ≤ 1048576) (hl2 : x.sess.length ≤ 1048576) (hp : SlIs strL1 1 w pa p.addrs) (hr : BbIs w a b x) :
    Calls Try.prog 23 #[plC pa pc p, bbC a b ca cb x, .int .i64 proto, .string inn, .int .i64 port] w fun e w' => e = .returned (boC none none 0 0 (portForV p x proto inn port)) ∧ Below w.heap.size w w' := by
  have HB : Hid (Below w.heap.size w (((w.alloc (.cells #[.slice pa p.addrs.length pc, .int .i64 p.low, .int .i64 p.high, .int .i64 p.most, .int .i64 p.filter, .int .i64 p.lv.udp, .int .i64 p.lv.echo, .int .i64 p.lv.opening, .int .i64 p.lv.opn, .int .i64 p.lv.closing] 31)).alloc (.cells #[.slice a x.binds.length ca, .slice b x.sess.length cb] 44)).alloc (.cells #[.slice none 0 0, .slice none 0 0, .int .i64 0, .string ⟨#[]⟩, .int .i64 0, .string ⟨#[]⟩, .int .i64 0, .int .i64 0] 54))) := (((Below.refl _ _).alloc (Nat.le_refl _) _).alloc (by simp) _).alloc (by simp; omega) _
  have H0 := ((HoldsL.new w [.slice pa p.addrs.length pc, .int .i64 p.low, .int .i64 p.high, .int .i64 p.most, .int .i64 p.filter, .int .i64 p.lv.udp, .int .i64 p.lv.echo, .int .i64 p.lv.opening, .int .i64 p.lv.opn, .int .i64 p.lv.closing] 31).alloc (.cells #[.slice a x.binds.length ca, .slice b x.sess.length cb] 44)).alloc (.cells #[.slice none 0 0, .slice none 0 0, .int .i64 0, .string ⟨#[]⟩, .int .i64 0, .string ⟨#[]⟩, .int .i64 0, .int .i64 0] 54)
  have H1 := (HoldsL.new (w.alloc (.cells #[.slice pa p.addrs.length pc, .int .i64 p.low, .int .i64 p.high, .int .i64 p.most, .int .i64 p.filter, .int .i64 p.lv.udp, .int .i64 p.lv.echo, .int .i64 p.lv.opening, .int .i64 p.lv.opn, .int .i64 p.lv.closing] 31)) [.slice a x.binds.length ca, .slice b x.sess.length cb] 44).alloc (.cells #[.slice none 0 0, .slice none 0 0, .int .i64 0, .string ⟨#[]⟩, .int .i64 0, .string ⟨#[]⟩, .int .i64 0, .int .i64 0] 54)
  have H2 := HoldsL.new ((w.alloc (.cells #[.slice pa p.addrs.length pc, .int .i64 p.low, .int .i64 p.high, .int .i64 p.most, .int .i64 p.filter, .int .i64 p.lv.udp, .int .i64 p.lv.echo, .int .i64 p.lv.opening, .int .i64 p.lv.opn, .int .i64 p.lv.closing] 31)).alloc (.cells #[.slice a x.binds.length ca, .slice b x.sess.length cb] 44)) [.slice none 0 0, .slice none 0 0, .int .i64 0, .string ⟨#[]⟩, .int .i64 0, .string ⟨#[]⟩, .int .i64 0, .int .i64 0] 54
  rw [World.size_alloc] at H1 H2
  rw [World.size_alloc] at H2
  have HBR : Hid (∀ W, Below w.heap.size w W → Calls Try.prog 14 #[plC pa pc p, bbC a b ca cb x] W fun e w' => e = .returned (.bool (bibOk p x)) ∧ Below W.heap.size W w') := fun W hW => specBib_any p x pa pc a b ca cb W hlp hpc hsz hl1 hl2 (hp.below hW) (hr.below hW)
  have HPR : Hid (∀ W, Calls Try.prog 55 #[.int .i64 proto] W fun e w' => e = .returned (.bool (protoB proto)) ∧ w' = W) := fun W => spBProto_any _ W
  have HAR : Hid (∀ W, Calls Try.prog 56 #[.string inn] W fun e w' => e = .returned (.bool (addrOk inn)) ∧ w' = W) := fun W => specAddrRight_any _ W
  have HWD : Hid (∀ W, Calls Try.prog 57 #[.int .i64 port] W fun e w' => e = .returned (.bool (isW port)) ∧ w' = W) := fun W => specWordIs_any _ W
  have HPT : Hid (bibOk p x = true → isW port = true → ∀ W, Below w.heap.size w W → Calls Try.prog 58 #[plC pa pc p, bbC a b ca cb x, .int .i64 proto, .string inn, .int .i64 port] W fun e w' => e = .returned (.tuple #[bdC (lendV p x.binds proto inn port).1, .int .i64 (lendV p x.binds proto inn port).2]) ∧ Below W.heap.size W w') := fun hb hw W hW => by
    have h1 : poolOk p = true := by unfold bibOk at hb; simp only [Bool.and_eq_true] at hb; exact hb.1.1.1.1.1
    unfold isW at hw
    simp only [Bool.and_eq_true, decide_eq_true_iff] at hw
    exact spPort_any p x pa pc a b ca cb proto inn port W h1 hin hw.1 hw.2 hl1 hl2 (hp.below hW) (hr.below hW)
  obtain ⟨ans, hans⟩ : ∃ y, y = portForV p x proto inn port := ⟨_, rfl⟩
  rw [← hans]
  have HA : Hid (ans = portForV p x proto inn port) := hans
  have G0 : Hid _ := H0
  have G1 : Hid _ := H1
  have G2 : Hid _ := H2
  unfold plC bbC at HBR HPT ⊢
  clear hp hr H0 H1 H2 hans
  go_enter Try.func23, Try.ntmps23
  go_upto_region 1 with fail
  generalize ((w.alloc (.cells #[.slice pa p.addrs.length pc, .int .i64 p.low, .int .i64 p.high, .int .i64 p.most, .int .i64 p.filter, .int .i64 p.lv.udp, .int .i64 p.lv.echo, .int .i64 p.lv.opening, .int .i64 p.lv.opn, .int .i64 p.lv.closing] 31)).alloc (.cells #[.slice a x.binds.length ca, .slice b x.sess.length cb] 44)).alloc (.cells #[.slice none 0 0, .slice none 0 0, .int .i64 0, .string ⟨#[]⟩, .int .i64 0, .string ⟨#[]⟩, .int .i64 0, .int .i64 0] 54) = W3 at *
  have BG2 : Hid (Below w.heap.size w W3) := HB.out
  by_cases hbig : 20000 < inn.size
  · have HAN : Hid (ans = ⟨bbZ, bdZ, 2⟩) := by unfold Hid; rw [HA.out]; unfold portForV; rw [if_pos hbig]
    have hbI : (20000 : Int) < (inn.size : Int) := by omega
    have r0 : W3.cell? ⟨w.heap.size + 1 + 1, 0, none⟩ = some (.slice none 0 0) := G2.out.cell rfl
    have r1 : W3.cell? ⟨w.heap.size + 1 + 1, 1, none⟩ = some (.slice none 0 0) := G2.out.cell rfl
    have r2 : W3.cell? ⟨w.heap.size + 1 + 1, 2, none⟩ = some (.int .i64 0) := G2.out.cell rfl
    have r3 : W3.cell? ⟨w.heap.size + 1 + 1, 3, none⟩ = some (.string ⟨#[]⟩) := G2.out.cell rfl
    have r4 : W3.cell? ⟨w.heap.size + 1 + 1, 4, none⟩ = some (.int .i64 0) := G2.out.cell rfl
    have r5 : W3.cell? ⟨w.heap.size + 1 + 1, 5, none⟩ = some (.string ⟨#[]⟩) := G2.out.cell rfl
    have r6 : W3.cell? ⟨w.heap.size + 1 + 1, 6, none⟩ = some (.int .i64 0) := G2.out.cell rfl
    have r7 : W3.cell? ⟨w.heap.size + 1 + 1, 7, none⟩ = some (.int .i64 0) := G2.out.cell rfl
    have f0 := G2.out.free (j := 0) (by simp)
    have f1 := G2.out.free (j := 1) (by simp)
    have f2 := G2.out.free (j := 2) (by simp)
    have f3 := G2.out.free (j := 3) (by simp)
    have f4 := G2.out.free (j := 4) (by simp)
    have f5 := G2.out.free (j := 5) (by simp)
    have f6 := G2.out.free (j := 6) (by simp)
    have f7 := G2.out.free (j := 7) (by simp)
    have T1 : Hid _ := ((((((((G2.out.set 0 (.slice none 0 0)).set 1 (.slice none 0 0)).set 2 (.int .i64 0)).set 3 (.string ⟨#[]⟩)).set 4 (.int .i64 0)).set 5 (.string ⟨#[]⟩)).set 6 (.int .i64 0)).set 7 (.int .i64 2))
    have T2 : Hid _ := ((((((((BG2.out.setCell (p := ⟨w.heap.size + 1 + 1, 0, none⟩) (by show w.heap.size ≤ w.heap.size + 1 + 1; omega) (.slice none 0 0)).setCell (p := ⟨w.heap.size + 1 + 1, 1, none⟩) (by show w.heap.size ≤ w.heap.size + 1 + 1; omega) (.slice none 0 0)).setCell (p := ⟨w.heap.size + 1 + 1, 2, none⟩) (by show w.heap.size ≤ w.heap.size + 1 + 1; omega) (.int .i64 0)).setCell (p := ⟨w.heap.size + 1 + 1, 3, none⟩) (by show w.heap.size ≤ w.heap.size + 1 + 1; omega) (.string ⟨#[]⟩)).setCell (p := ⟨w.heap.size + 1 + 1, 4, none⟩) (by show w.heap.size ≤ w.heap.size + 1 + 1; omega) (.int .i64 0)).setCell (p := ⟨w.heap.size + 1 + 1, 5, none⟩) (by show w.heap.size ≤ w.heap.size + 1 + 1; omega) (.string ⟨#[]⟩)).setCell (p := ⟨w.heap.size + 1 + 1, 6, none⟩) (by show w.heap.size ≤ w.heap.size + 1 + 1; omega) (.int .i64 0)).setCell (p := ⟨w.heap.size + 1 + 1, 7, none⟩) (by show w.heap.size ≤ w.heap.size + 1 + 1; omega) (.int .i64 2))
    go_wp2_with fail
    have u0 := T1.out.cell (j := 0) (v := .slice none 0 0) rfl
    have u1 := T1.out.cell (j := 1) (v := .slice none 0 0) rfl
    have u2 := T1.out.cell (j := 2) (v := .int .i64 0) rfl
    have u3 := T1.out.cell (j := 3) (v := .string ⟨#[]⟩) rfl
    have u4 := T1.out.cell (j := 4) (v := .int .i64 0) rfl
    have u5 := T1.out.cell (j := 5) (v := .string ⟨#[]⟩) rfl
    have u6 := T1.out.cell (j := 6) (v := .int .i64 0) rfl
    have u7 := T1.out.cell (j := 7) (v := .int .i64 2) rfl
    refine bodyPost_ret (v := .agg #[.slice none 0 0, .slice none 0 0, .int .i64 0, .string ⟨#[]⟩, .int .i64 0, .string ⟨#[]⟩, .int .i64 0, .int .i64 2]) (by simp [results, Try.results23, go_sem, u0, u1, u2, u3, u4, u5, u6, u7]) rfl ?_
    exact ⟨by rw [HAN.out]; rfl, T2.out⟩
  · have hbI : ¬ (20000 : Int) < (inn.size : Int) := by omega
    have HAN : Hid (ans = if (bibOk p x && protoB proto && addrOk inn && isW port) = true then ⟨bbZ, (lendV p x.binds proto inn port).1, (lendV p x.binds proto inn port).2⟩ else ⟨bbZ, bdZ, 1⟩) := by unfold Hid; rw [HA.out]; unfold portForV; rw [if_neg hbig]
    go_upto_region 3 with fail
    go_cut [35] (fun v wx => v = .bool (!(bibOk p x && protoB proto && addrOk inn && isW port)) ∧ Below W3.heap.size W3 wx)
    case first =>
      have hun : undef = Value.tuple #[] := rfl
      have z0 : W3.cell? ⟨w.heap.size, 0, none⟩ = some (.slice pa p.addrs.length pc) := G0.out.cell rfl
      have z1 : W3.cell? ⟨w.heap.size, 1, none⟩ = some (.int .i64 p.low) := G0.out.cell rfl
      have z2 : W3.cell? ⟨w.heap.size, 2, none⟩ = some (.int .i64 p.high) := G0.out.cell rfl
      have z3 : W3.cell? ⟨w.heap.size, 3, none⟩ = some (.int .i64 p.most) := G0.out.cell rfl
      have z4 : W3.cell? ⟨w.heap.size, 4, none⟩ = some (.int .i64 p.filter) := G0.out.cell rfl
      have z5 : W3.cell? ⟨w.heap.size, 5, none⟩ = some (.int .i64 p.lv.udp) := G0.out.cell rfl
      have z6 : W3.cell? ⟨w.heap.size, 6, none⟩ = some (.int .i64 p.lv.echo) := G0.out.cell rfl
      have z7 : W3.cell? ⟨w.heap.size, 7, none⟩ = some (.int .i64 p.lv.opening) := G0.out.cell rfl
      have z8 : W3.cell? ⟨w.heap.size, 8, none⟩ = some (.int .i64 p.lv.opn) := G0.out.cell rfl
      have z9 : W3.cell? ⟨w.heap.size, 9, none⟩ = some (.int .i64 p.lv.closing) := G0.out.cell rfl
      have k0 : W3.cell? ⟨w.heap.size + 1, 0, none⟩ = some (.slice a x.binds.length ca) := G1.out.cell rfl
      have k1 : W3.cell? ⟨w.heap.size + 1, 1, none⟩ = some (.slice b x.sess.length cb) := G1.out.cell rfl
      go_wp2_with fail
      refine (HBR.out _ HB.out).mono ?_
      rintro e w1 ⟨rfl, q1⟩
      have Q1 : Hid _ := q1
      clear q1
      cases hb1 : bibOk p x with
      | false =>
        go_wp2_with fail
        go_meet
        exact ⟨by rw [hb1]; rfl, Q1.out⟩
      | true =>
        go_wp2_with fail
        refine (HPR.out _).mono ?_
        rintro e w2 ⟨rfl, rfl⟩
        cases hb2 : protoB proto with
        | false =>
          go_wp2_with fail
          go_meet
          exact ⟨by rw [hb1, hb2]; rfl, Q1.out⟩
        | true =>
          go_wp2_with fail
          refine (HAR.out _).mono ?_
          rintro e w2 ⟨rfl, rfl⟩
          cases hb3 : addrOk inn with
          | false =>
            go_wp2_with fail
            go_meet
            exact ⟨by rw [hb1, hb2, hb3]; rfl, Q1.out⟩
          | true =>
            go_wp2_with fail
            refine (HWD.out _).mono ?_
            rintro e w2 ⟨rfl, rfl⟩
            cases hb4 : isW port
            all_goals
              go_wp2_with fail
              go_meet
              exact ⟨by rw [hb1, hb2, hb3, hb4]; rfl, Q1.out⟩
    case rest =>
      obtain ⟨rfl, hQ⟩ := hcut
      have K0 : Hid _ := G0.out.kept (by simp) hQ
      have K1 : Hid _ := G1.out.kept (by simp) hQ
      have K2 : Hid (HoldsL wc (w.heap.size + 1 + 1) [.slice none 0 0, .slice none 0 0, .int .i64 0, .string ⟨#[]⟩, .int .i64 0, .string ⟨#[]⟩, .int .i64 0, .int .i64 0]) := G2.out.kept (by simp) hQ
      have BK2 : Hid (Below w.heap.size w wc) := HB.out.trans (hQ.mono HB.out.size)
      clear hQ G0 G1 G2 HB HBR HPR HAR HWD BG2
      cases hok : (bibOk p x && protoB proto && addrOk inn && isW port) with
      | false =>
        rw [hok, if_neg (by decide)] at HAN
        have r0 : wc.cell? ⟨w.heap.size + 1 + 1, 0, none⟩ = some (.slice none 0 0) := K2.out.cell rfl
        have r1 : wc.cell? ⟨w.heap.size + 1 + 1, 1, none⟩ = some (.slice none 0 0) := K2.out.cell rfl
        have r2 : wc.cell? ⟨w.heap.size + 1 + 1, 2, none⟩ = some (.int .i64 0) := K2.out.cell rfl
        have r3 : wc.cell? ⟨w.heap.size + 1 + 1, 3, none⟩ = some (.string ⟨#[]⟩) := K2.out.cell rfl
        have r4 : wc.cell? ⟨w.heap.size + 1 + 1, 4, none⟩ = some (.int .i64 0) := K2.out.cell rfl
        have r5 : wc.cell? ⟨w.heap.size + 1 + 1, 5, none⟩ = some (.string ⟨#[]⟩) := K2.out.cell rfl
        have r6 : wc.cell? ⟨w.heap.size + 1 + 1, 6, none⟩ = some (.int .i64 0) := K2.out.cell rfl
        have r7 : wc.cell? ⟨w.heap.size + 1 + 1, 7, none⟩ = some (.int .i64 0) := K2.out.cell rfl
        have f0 := K2.out.free (j := 0) (by simp)
        have f1 := K2.out.free (j := 1) (by simp)
        have f2 := K2.out.free (j := 2) (by simp)
        have f3 := K2.out.free (j := 3) (by simp)
        have f4 := K2.out.free (j := 4) (by simp)
        have f5 := K2.out.free (j := 5) (by simp)
        have f6 := K2.out.free (j := 6) (by simp)
        have f7 := K2.out.free (j := 7) (by simp)
        have T1 : Hid _ := ((((((((K2.out.set 0 (.slice none 0 0)).set 1 (.slice none 0 0)).set 2 (.int .i64 0)).set 3 (.string ⟨#[]⟩)).set 4 (.int .i64 0)).set 5 (.string ⟨#[]⟩)).set 6 (.int .i64 0)).set 7 (.int .i64 1))
        have T2 : Hid _ := ((((((((BK2.out.setCell (p := ⟨w.heap.size + 1 + 1, 0, none⟩) (by show w.heap.size ≤ w.heap.size + 1 + 1; omega) (.slice none 0 0)).setCell (p := ⟨w.heap.size + 1 + 1, 1, none⟩) (by show w.heap.size ≤ w.heap.size + 1 + 1; omega) (.slice none 0 0)).setCell (p := ⟨w.heap.size + 1 + 1, 2, none⟩) (by show w.heap.size ≤ w.heap.size + 1 + 1; omega) (.int .i64 0)).setCell (p := ⟨w.heap.size + 1 + 1, 3, none⟩) (by show w.heap.size ≤ w.heap.size + 1 + 1; omega) (.string ⟨#[]⟩)).setCell (p := ⟨w.heap.size + 1 + 1, 4, none⟩) (by show w.heap.size ≤ w.heap.size + 1 + 1; omega) (.int .i64 0)).setCell (p := ⟨w.heap.size + 1 + 1, 5, none⟩) (by show w.heap.size ≤ w.heap.size + 1 + 1; omega) (.string ⟨#[]⟩)).setCell (p := ⟨w.heap.size + 1 + 1, 6, none⟩) (by show w.heap.size ≤ w.heap.size + 1 + 1; omega) (.int .i64 0)).setCell (p := ⟨w.heap.size + 1 + 1, 7, none⟩) (by show w.heap.size ≤ w.heap.size + 1 + 1; omega) (.int .i64 1))
        go_wp2_with fail
        have u0 := T1.out.cell (j := 0) (v := .slice none 0 0) rfl
        have u1 := T1.out.cell (j := 1) (v := .slice none 0 0) rfl
        have u2 := T1.out.cell (j := 2) (v := .int .i64 0) rfl
        have u3 := T1.out.cell (j := 3) (v := .string ⟨#[]⟩) rfl
        have u4 := T1.out.cell (j := 4) (v := .int .i64 0) rfl
        have u5 := T1.out.cell (j := 5) (v := .string ⟨#[]⟩) rfl
        have u6 := T1.out.cell (j := 6) (v := .int .i64 0) rfl
        have u7 := T1.out.cell (j := 7) (v := .int .i64 1) rfl
        refine bodyPost_ret (v := .agg #[.slice none 0 0, .slice none 0 0, .int .i64 0, .string ⟨#[]⟩, .int .i64 0, .string ⟨#[]⟩, .int .i64 0, .int .i64 1]) (by simp [results, Try.results23, go_sem, u0, u1, u2, u3, u4, u5, u6, u7]) rfl ?_
        exact ⟨by rw [HAN.out]; rfl, T2.out⟩
      | true =>
        rw [hok, if_pos rfl] at HAN
        simp only [Bool.and_eq_true] at hok
        have HC : Hid (∀ W, Below w.heap.size w W → Calls Try.prog 58 #[.agg #[.slice pa p.addrs.length pc, .int .i64 p.low, .int .i64 p.high, .int .i64 p.most, .int .i64 p.filter, .int .i64 p.lv.udp, .int .i64 p.lv.echo, .int .i64 p.lv.opening, .int .i64 p.lv.opn, .int .i64 p.lv.closing], .agg #[.slice a x.binds.length ca, .slice b x.sess.length cb], .int .i64 proto, .string inn, .int .i64 port] W fun e w' => e = .returned (.tuple #[bdC (lendV p x.binds proto inn port).1, .int .i64 (lendV p x.binds proto inn port).2]) ∧ Below W.heap.size W w') := HPT.out hok.1.1.1 hok.2
        clear hok HPT HA
        generalize lendV p x.binds proto inn port = ld at *
        obtain ⟨q, code⟩ := ld
        unfold bdC at HC
        dsimp only at HC HAN
        have z0 : wc.cell? ⟨w.heap.size, 0, none⟩ = some (.slice pa p.addrs.length pc) := K0.out.cell rfl
        have z1 : wc.cell? ⟨w.heap.size, 1, none⟩ = some (.int .i64 p.low) := K0.out.cell rfl
        have z2 : wc.cell? ⟨w.heap.size, 2, none⟩ = some (.int .i64 p.high) := K0.out.cell rfl
        have z3 : wc.cell? ⟨w.heap.size, 3, none⟩ = some (.int .i64 p.most) := K0.out.cell rfl
        have z4 : wc.cell? ⟨w.heap.size, 4, none⟩ = some (.int .i64 p.filter) := K0.out.cell rfl
        have z5 : wc.cell? ⟨w.heap.size, 5, none⟩ = some (.int .i64 p.lv.udp) := K0.out.cell rfl
        have z6 : wc.cell? ⟨w.heap.size, 6, none⟩ = some (.int .i64 p.lv.echo) := K0.out.cell rfl
        have z7 : wc.cell? ⟨w.heap.size, 7, none⟩ = some (.int .i64 p.lv.opening) := K0.out.cell rfl
        have z8 : wc.cell? ⟨w.heap.size, 8, none⟩ = some (.int .i64 p.lv.opn) := K0.out.cell rfl
        have z9 : wc.cell? ⟨w.heap.size, 9, none⟩ = some (.int .i64 p.lv.closing) := K0.out.cell rfl
        have k0 : wc.cell? ⟨w.heap.size + 1, 0, none⟩ = some (.slice a x.binds.length ca) := K1.out.cell rfl
        have k1 : wc.cell? ⟨w.heap.size + 1, 1, none⟩ = some (.slice b x.sess.length cb) := K1.out.cell rfl
        go_wp2_with fail
        refine (HC.out _ BK2.out).mono ?_
        rintro e w1 ⟨rfl, q1⟩
        have L2 : Hid (HoldsL w1 (w.heap.size + 1 + 1) [.slice none 0 0, .slice none 0 0, .int .i64 0, .string ⟨#[]⟩, .int .i64 0, .string ⟨#[]⟩, .int .i64 0, .int .i64 0]) := K2.out.kept (by simp) q1
        have BL2 : Hid (Below w.heap.size w w1) := BK2.out.trans (q1.mono BK2.out.size)
        have hlt : w.heap.size + 1 + 1 < w1.heap.size := L2.out.lt (by simp)
        have M2 : Hid (HoldsL (w1.alloc (.cells #[.int .i64 q.proto, .string q.inn, .int .i64 q.inPort, .string q.out, .int .i64 q.outPort] 49)) (w.heap.size + 1 + 1) [.slice none 0 0, .slice none 0 0, .int .i64 0, .string ⟨#[]⟩, .int .i64 0, .string ⟨#[]⟩, .int .i64 0, .int .i64 0]) := L2.out.alloc _
        have BM2 : Hid (Below w.heap.size w (w1.alloc (.cells #[.int .i64 q.proto, .string q.inn, .int .i64 q.inPort, .string q.out, .int .i64 q.outPort] 49))) := BL2.out.alloc BL2.out.size _
        have NB : Hid (HoldsL (w1.alloc (.cells #[.int .i64 q.proto, .string q.inn, .int .i64 q.inPort, .string q.out, .int .i64 q.outPort] 49)) w1.heap.size (bdL q)) := HoldsL.new w1 (bdL q) 49
        clear q1 k0 k1 z0 z1 z2 z3 z4 z5 z6 z7 z8 z9
        go_upto_region 6 with fail
        generalize w1.alloc (.cells #[.int .i64 q.proto, .string q.inn, .int .i64 q.inPort, .string q.out, .int .i64 q.outPort] 49) = WN at *
        have n0 : WN.cell? ⟨w1.heap.size, 0, none⟩ = some (.int .i64 q.proto) := NB.out.cell rfl
        have n1 : WN.cell? ⟨w1.heap.size, 1, none⟩ = some (.string q.inn) := NB.out.cell rfl
        have n2 : WN.cell? ⟨w1.heap.size, 2, none⟩ = some (.int .i64 q.inPort) := NB.out.cell rfl
        have n3 : WN.cell? ⟨w1.heap.size, 3, none⟩ = some (.string q.out) := NB.out.cell rfl
        have n4 : WN.cell? ⟨w1.heap.size, 4, none⟩ = some (.int .i64 q.outPort) := NB.out.cell rfl
        have r0 : WN.cell? ⟨w.heap.size + 1 + 1, 0, none⟩ = some (.slice none 0 0) := M2.out.cell rfl
        have r1 : WN.cell? ⟨w.heap.size + 1 + 1, 1, none⟩ = some (.slice none 0 0) := M2.out.cell rfl
        have r2 : WN.cell? ⟨w.heap.size + 1 + 1, 2, none⟩ = some (.int .i64 0) := M2.out.cell rfl
        have r3 : WN.cell? ⟨w.heap.size + 1 + 1, 3, none⟩ = some (.string ⟨#[]⟩) := M2.out.cell rfl
        have r4 : WN.cell? ⟨w.heap.size + 1 + 1, 4, none⟩ = some (.int .i64 0) := M2.out.cell rfl
        have r5 : WN.cell? ⟨w.heap.size + 1 + 1, 5, none⟩ = some (.string ⟨#[]⟩) := M2.out.cell rfl
        have r6 : WN.cell? ⟨w.heap.size + 1 + 1, 6, none⟩ = some (.int .i64 0) := M2.out.cell rfl
        have r7 : WN.cell? ⟨w.heap.size + 1 + 1, 7, none⟩ = some (.int .i64 0) := M2.out.cell rfl
        have f0 := M2.out.free (j := 0) (by simp)
        have f1 := M2.out.free (j := 1) (by simp)
        have f2 := M2.out.free (j := 2) (by simp)
        have f3 := M2.out.free (j := 3) (by simp)
        have f4 := M2.out.free (j := 4) (by simp)
        have f5 := M2.out.free (j := 5) (by simp)
        have f6 := M2.out.free (j := 6) (by simp)
        have f7 := M2.out.free (j := 7) (by simp)
        have T1 : Hid _ := ((((((((M2.out.set 0 (.slice none 0 0)).set 1 (.slice none 0 0)).set 2 (.int .i64 q.proto)).set 3 (.string q.inn)).set 4 (.int .i64 q.inPort)).set 5 (.string q.out)).set 6 (.int .i64 q.outPort)).set 7 (.int .i64 code))
        have T2 : Hid _ := ((((((((BM2.out.setCell (p := ⟨w.heap.size + 1 + 1, 0, none⟩) (by show w.heap.size ≤ w.heap.size + 1 + 1; omega) (.slice none 0 0)).setCell (p := ⟨w.heap.size + 1 + 1, 1, none⟩) (by show w.heap.size ≤ w.heap.size + 1 + 1; omega) (.slice none 0 0)).setCell (p := ⟨w.heap.size + 1 + 1, 2, none⟩) (by show w.heap.size ≤ w.heap.size + 1 + 1; omega) (.int .i64 q.proto)).setCell (p := ⟨w.heap.size + 1 + 1, 3, none⟩) (by show w.heap.size ≤ w.heap.size + 1 + 1; omega) (.string q.inn)).setCell (p := ⟨w.heap.size + 1 + 1, 4, none⟩) (by show w.heap.size ≤ w.heap.size + 1 + 1; omega) (.int .i64 q.inPort)).setCell (p := ⟨w.heap.size + 1 + 1, 5, none⟩) (by show w.heap.size ≤ w.heap.size + 1 + 1; omega) (.string q.out)).setCell (p := ⟨w.heap.size + 1 + 1, 6, none⟩) (by show w.heap.size ≤ w.heap.size + 1 + 1; omega) (.int .i64 q.outPort)).setCell (p := ⟨w.heap.size + 1 + 1, 7, none⟩) (by show w.heap.size ≤ w.heap.size + 1 + 1; omega) (.int .i64 code))
        go_wp2_with fail
        have u0 := T1.out.cell (j := 0) (v := .slice none 0 0) rfl
        have u1 := T1.out.cell (j := 1) (v := .slice none 0 0) rfl
        have u2 := T1.out.cell (j := 2) (v := .int .i64 q.proto) rfl
        have u3 := T1.out.cell (j := 3) (v := .string q.inn) rfl
        have u4 := T1.out.cell (j := 4) (v := .int .i64 q.inPort) rfl
        have u5 := T1.out.cell (j := 5) (v := .string q.out) rfl
        have u6 := T1.out.cell (j := 6) (v := .int .i64 q.outPort) rfl
        have u7 := T1.out.cell (j := 7) (v := .int .i64 code) rfl
        refine bodyPost_ret (v := .agg #[.slice none 0 0, .slice none 0 0, .int .i64 q.proto, .string q.inn, .int .i64 q.inPort, .string q.out, .int .i64 q.outPort, .int .i64 code]) (by simp [results, Try.results23, go_sem, u0, u1, u2, u3, u4, u5, u6, u7]) rfl ?_
        exact ⟨by rw [HAN.out]; rfl, T2.out⟩

end Go.Proofs.Ytkakehchiadpbal
