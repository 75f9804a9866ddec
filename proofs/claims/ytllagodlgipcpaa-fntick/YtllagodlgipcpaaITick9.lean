/- ITick9: what the program's BibTick answers. Printed by mkibk10.py. -/
import Derived.Test.YtllagodlgipcpaaMerged23
import Derived.Test.YtllagodlgipcpaaMerged15
import Derived.Great.BuildSlice
namespace Go.Proofs.Ytllagodlgipcpaa
open Go.RowKit Go.PlainAid
set_option linter.unusedVariables false
set_option linter.unusedSimpArgs false

set_option maxRecDepth 100000 in
set_option maxHeartbeats 8000000 in
theorem implBibTick_any (pa : Option Addr) (pc : Nat) (p : Pl) (ba bo : Option Addr) (ca cb : Nat) (x : Bb) (now : Int) (w : World) (hpl : p.addrs.length ≤ 1048576) (hpc : p.addrs.length ≤ pc) (hps : ∀ s ∈ p.addrs, s.size ≤ 1048576) (hbl1 : x.binds.length ≤ 1048576) (hbl2 : x.sess.length ≤ 1048576) (hgb : ∀ q ∈ x.binds, BdGood q) (hgs : ∀ s ∈ x.sess, SsGood s) (hp : SlIs strL1 1 w pa p.addrs) (hx : BbIs w ba bo x) :
  Calls Try.prog 12 #[plC pa pc p, bbC ba bo ca cb x, .int .i64 now] w fun e w' => BbRet w.heap.size (bibTickV p x now) e w' ∧ Below w.heap.size w w' := by
 have HZ0 : Hid (Below w.heap.size w (((w.alloc (.cells #[.slice pa p.addrs.length pc, .int .i64 p.low, .int .i64 p.high, .int .i64 p.most, .int .i64 p.filter, .int .i64 p.lv.udp, .int .i64 p.lv.echo, .int .i64 p.lv.opening, .int .i64 p.lv.opn, .int .i64 p.lv.closing] 27)).alloc (.cells #[.slice ba x.binds.length ca, .slice bo x.sess.length cb] 31)).alloc (.cells #[.slice none 0 0, .slice none 0 0] 31))) := (((Below.refl _ _).alloc (Nat.le_refl _) _).alloc (by simp) _).alloc (by simp; omega) _
 have HP : Hid (HoldsL (((w.alloc (.cells #[.slice pa p.addrs.length pc, .int .i64 p.low, .int .i64 p.high, .int .i64 p.most, .int .i64 p.filter, .int .i64 p.lv.udp, .int .i64 p.lv.echo, .int .i64 p.lv.opening, .int .i64 p.lv.opn, .int .i64 p.lv.closing] 27)).alloc (.cells #[.slice ba x.binds.length ca, .slice bo x.sess.length cb] 31)).alloc (.cells #[.slice none 0 0, .slice none 0 0] 31)) w.heap.size [.slice pa p.addrs.length pc, .int .i64 p.low, .int .i64 p.high, .int .i64 p.most, .int .i64 p.filter, .int .i64 p.lv.udp, .int .i64 p.lv.echo, .int .i64 p.lv.opening, .int .i64 p.lv.opn, .int .i64 p.lv.closing]) := ((HoldsL.new w [.slice pa p.addrs.length pc, .int .i64 p.low, .int .i64 p.high, .int .i64 p.most, .int .i64 p.filter, .int .i64 p.lv.udp, .int .i64 p.lv.echo, .int .i64 p.lv.opening, .int .i64 p.lv.opn, .int .i64 p.lv.closing] 27).alloc _).alloc _
 have HB : Hid (HoldsL (((w.alloc (.cells #[.slice pa p.addrs.length pc, .int .i64 p.low, .int .i64 p.high, .int .i64 p.most, .int .i64 p.filter, .int .i64 p.lv.udp, .int .i64 p.lv.echo, .int .i64 p.lv.opening, .int .i64 p.lv.opn, .int .i64 p.lv.closing] 27)).alloc (.cells #[.slice ba x.binds.length ca, .slice bo x.sess.length cb] 31)).alloc (.cells #[.slice none 0 0, .slice none 0 0] 31)) (w.heap.size + 1) [.slice ba x.binds.length ca, .slice bo x.sess.length cb]) := by
  have h := (HoldsL.new (w.alloc (.cells #[.slice pa p.addrs.length pc, .int .i64 p.low, .int .i64 p.high, .int .i64 p.most, .int .i64 p.filter, .int .i64 p.lv.udp, .int .i64 p.lv.echo, .int .i64 p.lv.opening, .int .i64 p.lv.opn, .int .i64 p.lv.closing] 27)) [.slice ba x.binds.length ca, .slice bo x.sess.length cb] 31).alloc (.cells #[.slice none 0 0, .slice none 0 0] 31)
  rw [World.size_alloc] at h; exact h
 have HR : Hid (HoldsL (((w.alloc (.cells #[.slice pa p.addrs.length pc, .int .i64 p.low, .int .i64 p.high, .int .i64 p.most, .int .i64 p.filter, .int .i64 p.lv.udp, .int .i64 p.lv.echo, .int .i64 p.lv.opening, .int .i64 p.lv.opn, .int .i64 p.lv.closing] 27)).alloc (.cells #[.slice ba x.binds.length ca, .slice bo x.sess.length cb] 31)).alloc (.cells #[.slice none 0 0, .slice none 0 0] 31)) (w.heap.size + 1 + 1) [.slice none 0 0, .slice none 0 0]) := by
  have h := HoldsL.new ((w.alloc (.cells #[.slice pa p.addrs.length pc, .int .i64 p.low, .int .i64 p.high, .int .i64 p.most, .int .i64 p.filter, .int .i64 p.lv.udp, .int .i64 p.lv.echo, .int .i64 p.lv.opening, .int .i64 p.lv.opn, .int .i64 p.lv.closing] 27)).alloc (.cells #[.slice ba x.binds.length ca, .slice bo x.sess.length cb] 31)) [.slice none 0 0, .slice none 0 0] 31
  rw [World.size_alloc, World.size_alloc] at h; exact h
 have HBR : Hid (∀ W, Below w.heap.size w W → Calls Try.prog 36 #[.agg #[.slice pa p.addrs.length pc, .int .i64 p.low, .int .i64 p.high, .int .i64 p.most, .int .i64 p.filter, .int .i64 p.lv.udp, .int .i64 p.lv.echo, .int .i64 p.lv.opening, .int .i64 p.lv.opn, .int .i64 p.lv.closing], .agg #[.slice ba x.binds.length ca, .slice bo x.sess.length cb]] W fun e w' => e = .returned (.bool (bibOk p x)) ∧ Below W.heap.size W w') := fun W hW => implBib_any pa pc p ba bo ca cb x W hpl hpc hps hbl1 hbl2 hgb hgs (hp.below hW) (hx.below hW)
 have HTM : Hid (∀ W, Calls Try.prog 37 #[.int .i64 now] W fun e w' => e = .returned (.bool (isTime now)) ∧ w' = W) := fun W => implTime_any now W
 have HV : Hid (bibTickV p x now = if (bibOk p x && isTime now) = true then tickV x now else bbZ) := rfl
 have HSX : Hid (BbIs w ba bo x) := hx
 have HGB : Hid (∀ q ∈ x.binds, BdGood q) := hgb
 have HGS : Hid (∀ s ∈ x.sess, SsGood s) := hgs
 generalize bibTickV p x now = ans at *
 generalize bibOk p x = ok at *
 generalize isTime now = tm at *
 have hun : undef = Value.tuple #[] := rfl
 have hRw : w.heap.size ≤ w.heap.size + 1 + 1 := by omega
 clear hp hx hgb hgs hps
 unfold plC bbC
 go_enter Try.func12, Try.ntmps12
 go_upto_region 1 with fail
 generalize ((w.alloc (.cells #[.slice pa p.addrs.length pc, .int .i64 p.low, .int .i64 p.high, .int .i64 p.most, .int .i64 p.filter, .int .i64 p.lv.udp, .int .i64 p.lv.echo, .int .i64 p.lv.opening, .int .i64 p.lv.opn, .int .i64 p.lv.closing] 27)).alloc (.cells #[.slice ba x.binds.length ca, .slice bo x.sess.length cb] 31)).alloc (.cells #[.slice none 0 0, .slice none 0 0] 31) = W0 at *
 have k0 := HP.out.cell (j := 0) rfl
 have k1 := HP.out.cell (j := 1) rfl
 have k2 := HP.out.cell (j := 2) rfl
 have k3 := HP.out.cell (j := 3) rfl
 have k4 := HP.out.cell (j := 4) rfl
 have k5 := HP.out.cell (j := 5) rfl
 have k6 := HP.out.cell (j := 6) rfl
 have k7 := HP.out.cell (j := 7) rfl
 have k8 := HP.out.cell (j := 8) rfl
 have k9 := HP.out.cell (j := 9) rfl
 have c0 := HB.out.cell (j := 0) rfl
 have c1 := HB.out.cell (j := 1) rfl
 go_wp2_with fail
 refine (HBR.out _ HZ0.out).mono ?_
 rintro e w1 ⟨rfl, q1⟩
 have B1 : Hid (Below w.heap.size w w1) := HZ0.out.trans (q1.mono HZ0.out.size)
 have X1 : Hid _ := HB.out.kept (by simp) q1
 have R1 : Hid _ := HR.out.kept (by simp) q1
 clear q1 HZ0 HP HB HR HBR k0 k1 k2 k3 k4 k5 k6 k7 k8 k9 c0 c1
 cases ok with
 | false =>
  have HX : Hid (ans = bbZ) := by unfold Hid; rw [HV.out]; rfl
  have z0 := R1.out.cell (j := 0) rfl
  have zf0 := R1.out.free (j := 0) (by simp)
  have z1 := R1.out.cell (j := 1) rfl
  have zf1 := R1.out.free (j := 1) (by simp)
  go_wp2_with fail
  refine bodyPost_ret (v := .agg #[.slice none 0 0, .slice none 0 0]) (by simp [results, Try.results12, go_sem, z0, z1]) rfl (And.intro (by rw [HX.out]; exact ⟨none, none, 0, 0, rfl, .inl rfl, .inl rfl, fun g h e1 => by simp at e1⟩) ?_)
  exact (B1.out.setCell (p := ⟨w.heap.size + 1 + 1, 0, none⟩) hRw _).setCell (p := ⟨w.heap.size + 1 + 1, 1, none⟩) hRw _
 | true =>
 go_wp2_with fail
 refine (HTM.out _).mono ?_
 rintro e w1 ⟨rfl, rfl⟩
 cases tm with
 | false =>
  have HX : Hid (ans = bbZ) := by unfold Hid; rw [HV.out]; rfl
  have z0 := R1.out.cell (j := 0) rfl
  have zf0 := R1.out.free (j := 0) (by simp)
  have z1 := R1.out.cell (j := 1) rfl
  have zf1 := R1.out.free (j := 1) (by simp)
  go_wp2_with fail
  refine bodyPost_ret (v := .agg #[.slice none 0 0, .slice none 0 0]) (by simp [results, Try.results12, go_sem, z0, z1]) rfl (And.intro (by rw [HX.out]; exact ⟨none, none, 0, 0, rfl, .inl rfl, .inl rfl, fun g h e1 => by simp at e1⟩) ?_)
  exact (B1.out.setCell (p := ⟨w.heap.size + 1 + 1, 0, none⟩) hRw _).setCell (p := ⟨w.heap.size + 1 + 1, 1, none⟩) hRw _
 | true =>
 have HTV : Hid (ans = tickV x now) := by unfold Hid; rw [HV.out]; rfl
 clear HV HTM
 have hlt1 : w.heap.size + 1 + 1 < w1.heap.size := R1.out.lt (by simp)
 go_upto_region 4 with fail
 have HS0 : Hid (RowsSt w (w1.alloc (.cells #[.slice none 0 0, .slice none 0 0] 31)).heap.size w1.heap.size [(w.heap.size + 1, [.slice ba x.binds.length ca, .slice bo x.sess.length cb]), (w.heap.size + 1 + 1, [.slice none 0 0, .slice none 0 0])] (.slice none 0 0) (.slice none 0 0) [] [] (w1.alloc (.cells #[.slice none 0 0, .slice none 0 0] 31))) := by
  have bn : Below w1.heap.size w1 (w1.alloc (.cells #[.slice none 0 0, .slice none 0 0] 31)) := (Below.refl _ _).alloc (Nat.le_refl _) _
  have hn := HoldsL.new w1 [.slice none 0 0, .slice none 0 0] 31
  refine RowsSt.start [(w.heap.size + 1, [.slice ba x.binds.length ca, .slice bo x.sess.length cb]), (w.heap.size + 1 + 1, [.slice none 0 0, .slice none 0 0])] hn (B1.out.trans (bn.mono B1.out.size)) (fun e he => ?_) (by omega) (fun e he => ?_)
  ·simp at he
   rcases he with rfl | rfl
   ·exact X1.out.kept (by simp) bn
   ·exact R1.out.kept (by simp) bn
  ·simp at he
   rcases he with rfl | rfl
   ·refine ⟨by simp; omega, by show w.heap.size + 1 ≠ _; omega, by simp⟩
   ·refine ⟨by simp; omega, by show w.heap.size + 1 + 1 ≠ _; omega, by simp⟩
 generalize w1.alloc (.cells #[.slice none 0 0, .slice none 0 0] 31) = W3 at *
 generalize W3.heap.size = base at *
 clear R1 X1 B1
 have hO : w.heap.size + 1 + 1 < w1.heap.size := hlt1
 clear hlt1
 generalize w1.heap.size = O at *
 have c1 : W3.cell? ⟨w.heap.size + 1, 1, none⟩ = some (.slice bo x.sess.length cb) := (HS0.out.k _ (List.mem_cons_self ..)).cell rfl
 go_wp2_with fail
 clear c1
 go_loopw [25] (fun iv wr => ∃ (i : Nat) (sv : Value), i ≤ x.sess.length ∧ iv = .int .i64 i ∧ RowsSt w base O [(w.heap.size + 1, [.slice ba x.binds.length ca, .slice bo x.sess.length cb]), (w.heap.size + 1 + 1, [.slice none 0 0, .slice none 0 0])] (.slice none 0 0) sv ([]) ((x.sess.take i).filter (lateS now)) wr) (fun iv _ => x.sess.length - (intOf iv).toNat)
 case atStart => exact ⟨0, _, Nat.zero_le _, rfl, HS0.out⟩
 case round =>
  obtain ⟨i, sv, hi, rfl, hS⟩ := hrel
  have S1 : Hid _ := hS
  clear hS HS0
  generalize wr = w4 at *
  by_cases hlt : i < x.sess.length
  · -- a session
   obtain ⟨bb, off, rfl, hb, hat⟩ := HSX.out.ss.at hlt
   have hA := (hat.below hb S1.out.b) i hlt
   have HFO : Hid _ := filter_one (lateS now) x.sess i hlt
   have hfl := filter_most (lateS now) x.sess i hbl2
   have hgd := HGS.out x.sess[i] (List.getElem_mem hlt)
   obtain ⟨q, hq⟩ : ∃ q, q = x.sess[i] := ⟨_, rfl⟩
   rw [← hq] at hA HFO hgd
   have HGD : Hid (SsGood q) := hgd
   have hltI : (i : Int) < (x.sess.length : Int) := by omega
   have s0 : w4.cell? ⟨bb, off + i * 7, none⟩ = some (.int .i64 q.proto) := hA 0 _ rfl
   have s1 : w4.cell? ⟨bb, off + i * 7 + 1, none⟩ = some (.string q.inn) := hA 1 _ rfl
   have s2 : w4.cell? ⟨bb, off + i * 7 + 2, none⟩ = some (.int .i64 q.inPort) := hA 2 _ rfl
   have s3 : w4.cell? ⟨bb, off + i * 7 + 3, none⟩ = some (.string q.peer) := hA 3 _ rfl
   have s4 : w4.cell? ⟨bb, off + i * 7 + 4, none⟩ = some (.int .i64 q.peerPort) := hA 4 _ rfl
   have s5 : w4.cell? ⟨bb, off + i * 7 + 5, none⟩ = some (.int .i64 q.state) := hA 5 _ rfl
   have s6 : w4.cell? ⟨bb, off + i * 7 + 6, none⟩ = some (.int .i64 q.untl) := hA 6 _ rfl
   generalize (x.sess.take i).filter (lateS now) = zs at *
   clear hA hat hq hgd hb
   go_upto_region 7 with fail
   have bn : Below w4.heap.size w4 (w4.alloc (.cells #[.int .i64 q.proto, .string q.inn, .int .i64 q.inPort, .string q.peer, .int .i64 q.peerPort, .int .i64 q.state, .int .i64 q.untl] 48)) := (Below.refl _ _).alloc (Nat.le_refl _) _
   have HQ : Hid (HoldsL (w4.alloc (.cells #[.int .i64 q.proto, .string q.inn, .int .i64 q.inPort, .string q.peer, .int .i64 q.peerPort, .int .i64 q.state, .int .i64 q.untl] 48)) w4.heap.size [.int .i64 q.proto, .string q.inn, .int .i64 q.inPort, .string q.peer, .int .i64 q.peerPort, .int .i64 q.state, .int .i64 q.untl]) := HoldsL.new w4 [.int .i64 q.proto, .string q.inn, .int .i64 q.inPort, .string q.peer, .int .i64 q.peerPort, .int .i64 q.state, .int .i64 q.untl] 48
   have S2 : Hid _ := S1.out.kept bn
   generalize w4.alloc (.cells #[.int .i64 q.proto, .string q.inn, .int .i64 q.inPort, .string q.peer, .int .i64 q.peerPort, .int .i64 q.state, .int .i64 q.untl] 48) = W5 at *
   clear bn S1 s0 s1 s2 s3 s4 s5 s6
   generalize w4.heap.size = Bq at *
   have s6 := HQ.out.cell (j := 6) rfl
   by_cases hlate : now < q.untl
   · -- stays
    have HF2 : Hid ((x.sess.take (i + 1)).filter (lateS now) = zs ++ [q]) := by unfold Hid; rw [HFO.out, if_pos (by unfold lateS; exact decide_eq_true hlate)]
    clear HFO
    go_upto_region 8 with fail
    clear s6
    have HCY : Hid (∀ W, Calls Try.prog 38 #[.agg #[.int .i64 q.proto, .string q.inn, .int .i64 q.inPort, .string q.peer, .int .i64 q.peerPort, .int .i64 q.state, .int .i64 q.untl]] W fun e w' => e = .returned (.agg #[.int .i64 q.proto, .string q.inn, .int .i64 q.inPort, .string q.peer, .int .i64 q.peerPort, .int .i64 q.state, .int .i64 q.untl]) ∧ Below W.heap.size W w') := fun W => copySession_any q W HGD.out.1 HGD.out.2.1
    have HCP : Hid (∀ wy, Below W5.drew.heap.size W5.drew wy → RowsSt w base O [(w.heap.size + 1, [.slice ba x.binds.length ca, .slice (some ⟨bb, off, none⟩) x.sess.length cb]), (w.heap.size + 1 + 1, [.slice none 0 0, .slice none 0 0])] (.slice none 0 0) sv ([]) (zs) wy ∧ HoldsL wy Bq [.int .i64 q.proto, .string q.inn, .int .i64 q.inPort, .string q.peer, .int .i64 q.peerPort, .int .i64 q.state, .int .i64 q.untl]) := fun wy hy => ⟨S2.out.kept ((Below.refl _ _).drew.trans hy), HQ.out.drew.kept (by simp) hy⟩
    clear hun
    refine wp_region_growV [33, 34, 35, 36, 37] (by kernel_rfl) (by kernel_rfl) ?_
    refine GChV.val (n := 0) (fun v => [IsV v]) (fun _ => rfl) rfl ?_
    apply Exists.intro
    refine And.intro ?_ ?_
    ·intro K' a wy ho hd hb hK
     rw [if_pos (wanted_none rfl)]
     have o7 := ho 7 (by decide)
     simp [slot] at o7
     clear hd ho
     go_simp
     try go_bits
     exact hK _ _ rfl (Below.refl _ _)
    refine GChV.val (n := 1) (fun v => [_, IsV v]) (fun _ => rfl) rfl ?_
    apply Exists.intro
    refine And.intro ?_ ?_
    ·intro K' a wy ho hd hb hK
     rw [if_pos (wanted_none rfl)]
     have q0 := hd ⟨0, .data⟩ (by simp) rfl
     simp [rAt, IsV, slot] at q0
     clear hd ho
     obtain ⟨hst, hqq⟩ := HCP.out wy hb
     have ko : wy.cell? ⟨O, 1, none⟩ = some sv := hst.o.cell rfl
     have s0 := hqq.cell (j := 0) rfl
     have s1 := hqq.cell (j := 1) rfl
     have s2 := hqq.cell (j := 2) rfl
     have s3 := hqq.cell (j := 3) rfl
     have s4 := hqq.cell (j := 4) rfl
     have s5 := hqq.cell (j := 5) rfl
     have s6 := hqq.cell (j := 6) rfl
     go_simp
     try go_bits
     exact hK _ _ rfl (Below.refl _ _)
    refine GChV.val (n := 2) (fun v => [_, _, IsV v]) (fun _ => rfl) rfl ?_
    apply Exists.intro
    refine And.intro ?_ ?_
    ·intro K' a wy ho hd hb hK
     rw [if_pos (wanted_none rfl)]
     have o9 := ho 9 (by decide)
     simp [slot] at o9
     clear hd ho
     obtain ⟨hst, hqq⟩ := HCP.out wy hb
     have ko : wy.cell? ⟨O, 1, none⟩ = some sv := hst.o.cell rfl
     have s0 := hqq.cell (j := 0) rfl
     have s1 := hqq.cell (j := 1) rfl
     have s2 := hqq.cell (j := 2) rfl
     have s3 := hqq.cell (j := 3) rfl
     have s4 := hqq.cell (j := 4) rfl
     have s5 := hqq.cell (j := 5) rfl
     have s6 := hqq.cell (j := 6) rfl
     go_simp
     try go_bits
     exact hK _ _ rfl (Below.refl _ _)
    refine GChV.val (n := 3) (fun v => [_, _, _, IsV v]) (fun _ => rfl) rfl ?_
    apply Exists.intro
    refine And.intro ?_ ?_
    ·intro K' a wy ho hd hb hK
     rw [if_pos (wanted_none rfl)]
     have q2 := hd ⟨2, .data⟩ (by simp) rfl
     simp [rAt, IsV, slot] at q2
     clear hd ho
     go_simp
     refine (HCY.out wy).mono ?_
     rintro e wz ⟨rfl, hz⟩
     exact hK _ _ rfl hz
    refine GChV.rel (n := 4) (IsOneC (ssL q)) (stable_isOneC _ (by simp [ssL])) [_, _, _, _, IsOneC (ssL q)] rfl rfl ?_ ?_
    ·intro K' a wy ho hd hb hK
     rw [if_pos (wanted_none rfl)]
     have q3 := hd ⟨3, .data⟩ (by simp) rfl
     simp [rAt, IsV, slot] at q3
     clear hd ho
     go_simp
     exact hK _ _ ⟨wy.heap.size, rfl, HoldsL.new wy (ssL q) _⟩ ((Below.refl _ _).alloc (Nat.le_refl _) _)
    intro X wz hR hz
    obtain ⟨x0, x1, x2, x3, x4, -⟩ := hR
    have hk7 := x4
    clear hk7
    simp only [IsV] at x0 x1 x2 x3
    simp only [putsFrom, x0, x1, x2, x3, putsFrom]
    clear x0 x1 x2 x3
    obtain ⟨g7, e7, r7⟩ := x4
    have SZ := (HCP.out wz hz).1
    obtain ⟨v6, w6, hrun, ⟨gg, l6, c6, rfl⟩, hO6, S6⟩ := SZ.appS q g7 r7 hfl
    have HRUN : Hid _ := hrun
    have HS6 : Hid _ := S6
    have p1 : w6.cell? ⟨O, 1, none⟩ = some sv := hO6.cell rfl
    have p2 := hO6.free (j := 1) (by simp)
    clear hrun S6 hO6 SZ r7 hz HCP
    simp only [e7]
    simp only [List.length_cons, List.length_nil, List.drop_succ_cons, List.drop_zero, Nat.zero_add, Nat.reduceAdd]
    intro K5 hK5
    with_reducible refine wp_append_run (.tmp 34) (.tmp 37) _ rfl ?_ ?_ HRUN.out (hK5 _ _ ?_)
    ·simp [Act.eval, Act.put]
    ·simp [Act.eval, Act.put]
    intro K6 hK6
    go_simp
    refine hK6 _ _ ?_
    intro K7 hK7
    go_simp
    refine hK7 _ _ ?_
    simp only [wpSeq]
    go_wp2_with fail
    go_roundw
    case rel =>
     first | exact ⟨i + 1, _, by omega, by go_num, by rw [HF2.out]; exact HS6.out⟩ | ((repeat apply Exists.intro); exact ⟨⟨i + 1, _, by omega, by go_num, by rw [HF2.out]; exact HS6.out⟩, rfl⟩)
    case measure => simp [intOf] <;> omega
   · -- goes
    have HF2 : Hid ((x.sess.take (i + 1)).filter (lateS now) = zs) := by unfold Hid; rw [HFO.out, if_neg (by unfold lateS; simp; omega)]
    clear HFO
    go_wp2_with fail
    go_roundw
    case rel => exact ⟨i + 1, sv, by omega, by go_num, by rw [HF2.out]; exact S2.out⟩
    case measure => simp [intOf]; omega
  · -- the binds
   have hie : i = x.sess.length := by omega
   rw [hie, List.take_length] at S1
   have hge : ¬ (i : Int) < (x.sess.length : Int) := by omega
   clear hie hlt
   have HZL : Hid ((x.sess.filter (lateS now)).length ≤ 1048576) := Nat.le_trans (List.length_filter_le _ _) hbl2
   have HTW : Hid (ans = ⟨x.binds.filter fun y => (x.sess.filter (lateS now)).any fun s => hasS y s, x.sess.filter (lateS now)⟩) := HTV.out
   clear HTV
   generalize x.sess.filter (lateS now) = zs at *
   obtain ⟨sa, sc, hsv, hsc, hso⟩ := S1.out.shapes.2
   subst hsv
   clear hsc hso
   have c0 : w4.cell? ⟨w.heap.size + 1, 0, none⟩ = some (.slice ba x.binds.length ca) := (S1.out.k _ (List.mem_cons_self ..)).cell rfl
   go_wp2_with fail
   clear c0 hge
   go_loopw [44] (fun iv wr => ∃ (i : Nat) (bv : Value), i ≤ x.binds.length ∧ iv = .int .i64 i ∧ RowsSt w base O [(w.heap.size + 1, [.slice ba x.binds.length ca, .slice bo x.sess.length cb]), (w.heap.size + 1 + 1, [.slice none 0 0, .slice none 0 0])] bv (.slice sa zs.length sc) ((x.binds.take i).filter fun y => zs.any fun s => hasS y s) (zs) wr) (fun iv _ => x.binds.length - (intOf iv).toNat)
   case atStart => exact ⟨0, _, Nat.zero_le _, rfl, S1.out⟩
   case round =>
    obtain ⟨k, bv, hk, rfl, hS⟩ := hrel
    have S5 : Hid _ := hS
    clear hS S1
    generalize wr = v4 at *
    by_cases hlt : k < x.binds.length
    · -- a bind
     obtain ⟨bb, off, rfl, hb, hat⟩ := HSX.out.bd.at hlt
     have hA := (hat.below hb S5.out.b) k hlt
     have HFO : Hid _ := filter_one (fun y => zs.any fun s => hasS y s) x.binds k hlt
     have hfl := filter_most (fun y => zs.any fun s => hasS y s) x.binds k hbl1
     have hgd := HGB.out x.binds[k] (List.getElem_mem hlt)
     obtain ⟨y, hy⟩ : ∃ y, y = x.binds[k] := ⟨_, rfl⟩
     rw [← hy] at hA HFO hgd
     have HGD : Hid (BdGood y) := hgd
     have hltI : (k : Int) < (x.binds.length : Int) := by omega
     have s0 : v4.cell? ⟨bb, off + k * 5, none⟩ = some (.int .i64 y.proto) := hA 0 _ rfl
     have s1 : v4.cell? ⟨bb, off + k * 5 + 1, none⟩ = some (.string y.inn) := hA 1 _ rfl
     have s2 : v4.cell? ⟨bb, off + k * 5 + 2, none⟩ = some (.int .i64 y.inPort) := hA 2 _ rfl
     have s3 : v4.cell? ⟨bb, off + k * 5 + 3, none⟩ = some (.string y.out) := hA 3 _ rfl
     have s4 : v4.cell? ⟨bb, off + k * 5 + 4, none⟩ = some (.int .i64 y.outPort) := hA 4 _ rfl
     generalize (x.binds.take k).filter (fun y => zs.any fun s => hasS y s) = ys at *
     clear hA hat hy hgd hb
     go_upto_region 13 with fail
     have bn : Below v4.heap.size v4 (v4.alloc (.cells #[.int .i64 y.proto, .string y.inn, .int .i64 y.inPort, .string y.out, .int .i64 y.outPort] 35)) := (Below.refl _ _).alloc (Nat.le_refl _) _
     have HQ : Hid (HoldsL (v4.alloc (.cells #[.int .i64 y.proto, .string y.inn, .int .i64 y.inPort, .string y.out, .int .i64 y.outPort] 35)) v4.heap.size [.int .i64 y.proto, .string y.inn, .int .i64 y.inPort, .string y.out, .int .i64 y.outPort]) := HoldsL.new v4 [.int .i64 y.proto, .string y.inn, .int .i64 y.inPort, .string y.out, .int .i64 y.outPort] 35
     have S6 : Hid _ := S5.out.kept bn
     generalize v4.alloc (.cells #[.int .i64 y.proto, .string y.inn, .int .i64 y.inPort, .string y.out, .int .i64 y.outPort] 35) = V5 at *
     clear bn S5 s0 s1 s2 s3 s4
     generalize v4.heap.size = Bq at *
     have s0 := HQ.out.cell (j := 0) rfl
     have s1 := HQ.out.cell (j := 1) rfl
     have s2 := HQ.out.cell (j := 2) rfl
     have s3 := HQ.out.cell (j := 3) rfl
     have s4 := HQ.out.cell (j := 4) rfl
     have ko := S6.out.o.cell (j := 1) rfl
     have HHS : Hid (∀ W, RowsSt w base O [(w.heap.size + 1, [.slice (some ⟨bb, off, none⟩) x.binds.length ca, .slice bo x.sess.length cb]), (w.heap.size + 1 + 1, [.slice none 0 0, .slice none 0 0])] bv (.slice sa zs.length sc) (ys) (zs) W → Calls Try.prog 39 #[.slice sa zs.length sc, .agg #[.int .i64 y.proto, .string y.inn, .int .i64 y.inPort, .string y.out, .int .i64 y.outPort]] W fun e w' => e = .returned (.bool (zs.any (hasS y))) ∧ Below W.heap.size W w') := fun W hW => by
      obtain ⟨sa2, sc2, e1, _, h2⟩ := hW.shapes.2
      obtain ⟨rfl, _, rfl⟩ : sa = sa2 ∧ zs.length = zs.length ∧ sc = sc2 := by simpa using e1
      exact hasSess_any y zs sa sc W HZL.out h2.is
     obtain ⟨hy, hhy⟩ : ∃ b, b = zs.any (hasS y) := ⟨_, rfl⟩
     have HHY : Hid (hy = zs.any (hasS y)) := hhy
     rw [← hhy] at HHS
     clear hhy
     go_wp2_with fail
     refine (HHS.out _ S6.out).mono ?_
     rintro e v6 ⟨rfl, q6⟩
     have S7 : Hid _ := S6.out.kept q6
     have HQ7 : Hid _ := HQ.out.kept (by simp) q6
     clear q6 S6 HQ HHS ko s0 s1 s2 s3 s4
     cases hy with
     | false =>
      have HF2 : Hid ((x.binds.take (k + 1)).filter (fun y => zs.any fun s => hasS y s) = ys) := by unfold Hid; rw [HFO.out, if_neg (by show ¬ (zs.any (hasS y)) = true; rw [← HHY.out]; simp)]
      clear HFO HHY
      go_wp2_with fail
      go_roundw
      case rel => exact ⟨k + 1, bv, by omega, by go_num, by rw [HF2.out]; exact S7.out⟩
      case measure => simp [intOf]; omega
     | true =>
      have HF2 : Hid ((x.binds.take (k + 1)).filter (fun y => zs.any fun s => hasS y s) = ys ++ [y]) := by unfold Hid; rw [HFO.out, if_pos (by show (zs.any (hasS y)) = true; rw [← HHY.out])]
      clear HFO HHY
      go_upto_region 14 with fail
      have HCY : Hid (∀ W, Calls Try.prog 26 #[.agg #[.int .i64 y.proto, .string y.inn, .int .i64 y.inPort, .string y.out, .int .i64 y.outPort]] W fun e w' => e = .returned (.agg #[.int .i64 y.proto, .string y.inn, .int .i64 y.inPort, .string y.out, .int .i64 y.outPort]) ∧ Below W.heap.size W w') := fun W => copyBind_any y W HGD.out.1 HGD.out.2.1
      have HCP : Hid (∀ wy, Below v6.drew.heap.size v6.drew wy → RowsSt w base O [(w.heap.size + 1, [.slice (some ⟨bb, off, none⟩) x.binds.length ca, .slice bo x.sess.length cb]), (w.heap.size + 1 + 1, [.slice none 0 0, .slice none 0 0])] bv (.slice sa zs.length sc) (ys) (zs) wy ∧ HoldsL wy Bq [.int .i64 y.proto, .string y.inn, .int .i64 y.inPort, .string y.out, .int .i64 y.outPort]) := fun wy hy => ⟨S7.out.kept ((Below.refl _ _).drew.trans hy), HQ7.out.drew.kept (by simp) hy⟩
      clear hun
      refine wp_region_growV [52, 53, 54, 55, 56] (by kernel_rfl) (by kernel_rfl) ?_
      refine GChV.val (n := 0) (fun v => [IsV v]) (fun _ => rfl) rfl ?_
      apply Exists.intro
      refine And.intro ?_ ?_
      ·intro K' a wy ho hd hb hK
       rw [if_pos (wanted_none rfl)]
       have o7 := ho 7 (by decide)
       simp [slot] at o7
       clear hd ho
       go_simp
       try go_bits
       exact hK _ _ rfl (Below.refl _ _)
      refine GChV.val (n := 1) (fun v => [_, IsV v]) (fun _ => rfl) rfl ?_
      apply Exists.intro
      refine And.intro ?_ ?_
      ·intro K' a wy ho hd hb hK
       rw [if_pos (wanted_none rfl)]
       have q0 := hd ⟨0, .data⟩ (by simp) rfl
       simp [rAt, IsV, slot] at q0
       clear hd ho
       obtain ⟨hst, hqq⟩ := HCP.out wy hb
       have ko : wy.cell? ⟨O, 0, none⟩ = some bv := hst.o.cell rfl
       have s0 := hqq.cell (j := 0) rfl
       have s1 := hqq.cell (j := 1) rfl
       have s2 := hqq.cell (j := 2) rfl
       have s3 := hqq.cell (j := 3) rfl
       have s4 := hqq.cell (j := 4) rfl
       go_simp
       try go_bits
       exact hK _ _ rfl (Below.refl _ _)
      refine GChV.val (n := 2) (fun v => [_, _, IsV v]) (fun _ => rfl) rfl ?_
      apply Exists.intro
      refine And.intro ?_ ?_
      ·intro K' a wy ho hd hb hK
       rw [if_pos (wanted_none rfl)]
       have o11 := ho 11 (by decide)
       simp [slot] at o11
       clear hd ho
       obtain ⟨hst, hqq⟩ := HCP.out wy hb
       have ko : wy.cell? ⟨O, 0, none⟩ = some bv := hst.o.cell rfl
       have s0 := hqq.cell (j := 0) rfl
       have s1 := hqq.cell (j := 1) rfl
       have s2 := hqq.cell (j := 2) rfl
       have s3 := hqq.cell (j := 3) rfl
       have s4 := hqq.cell (j := 4) rfl
       go_simp
       try go_bits
       exact hK _ _ rfl (Below.refl _ _)
      refine GChV.val (n := 3) (fun v => [_, _, _, IsV v]) (fun _ => rfl) rfl ?_
      apply Exists.intro
      refine And.intro ?_ ?_
      ·intro K' a wy ho hd hb hK
       rw [if_pos (wanted_none rfl)]
       have q2 := hd ⟨2, .data⟩ (by simp) rfl
       simp [rAt, IsV, slot] at q2
       clear hd ho
       go_simp
       refine (HCY.out wy).mono ?_
       rintro e wz ⟨rfl, hz⟩
       exact hK _ _ rfl hz
      refine GChV.rel (n := 4) (IsOneC (bdL y)) (stable_isOneC _ (by simp [bdL])) [_, _, _, _, IsOneC (bdL y)] rfl rfl ?_ ?_
      ·intro K' a wy ho hd hb hK
       rw [if_pos (wanted_none rfl)]
       have q3 := hd ⟨3, .data⟩ (by simp) rfl
       simp [rAt, IsV, slot] at q3
       clear hd ho
       go_simp
       exact hK _ _ ⟨wy.heap.size, rfl, HoldsL.new wy (bdL y) _⟩ ((Below.refl _ _).alloc (Nat.le_refl _) _)
      intro X wz hR hz
      obtain ⟨x0, x1, x2, x3, x4, -⟩ := hR
      have hk7 := x4
      clear hk7
      simp only [IsV] at x0 x1 x2 x3
      simp only [putsFrom, x0, x1, x2, x3, putsFrom]
      clear x0 x1 x2 x3
      obtain ⟨g7, e7, r7⟩ := x4
      have SZ := (HCP.out wz hz).1
      obtain ⟨v6, w6, hrun, ⟨gg, l6, c6, rfl⟩, hO6, S6⟩ := SZ.appB y g7 r7 hfl
      have HRUN : Hid _ := hrun
      have HS6 : Hid _ := S6
      have p1 : w6.cell? ⟨O, 0, none⟩ = some bv := hO6.cell rfl
      have p2 := hO6.free (j := 0) (by simp)
      clear hrun S6 hO6 SZ r7 hz HCP
      simp only [e7]
      simp only [List.length_cons, List.length_nil, List.drop_succ_cons, List.drop_zero, Nat.zero_add, Nat.reduceAdd]
      intro K5 hK5
      with_reducible refine wp_append_run (.tmp 53) (.tmp 56) _ rfl ?_ ?_ HRUN.out (hK5 _ _ ?_)
      ·simp [Act.eval, Act.put]
      ·simp [Act.eval, Act.put]
      intro K6 hK6
      go_simp
      refine hK6 _ _ ?_
      intro K7 hK7
      go_simp
      refine hK7 _ _ ?_
      simp only [wpSeq]
      go_wp2_with fail
      go_roundw
      case rel =>
       first | exact ⟨k + 1, _, by omega, by go_num, by rw [HF2.out]; exact HS6.out⟩ | ((repeat apply Exists.intro); exact ⟨⟨k + 1, _, by omega, by go_num, by rw [HF2.out]; exact HS6.out⟩, rfl⟩)
      case measure => simp [intOf] <;> omega
    · -- the end
     have hie : k = x.binds.length := by omega
     rw [hie, List.take_length] at S5
     have hge : ¬ (k : Int) < (x.binds.length : Int) := by omega
     clear hie hlt
     generalize x.binds.filter (fun y => zs.any fun s => hasS y s) = ys at *
     have R5 := (S5.out.at (List.mem_cons_of_mem _ (List.mem_cons_self ..)))
     have hbase := S5.out.hi
     have HR5 : Hid (HoldsL ((v4.setCell ⟨w.heap.size + 1 + 1, 0, none⟩ bv).setCell ⟨w.heap.size + 1 + 1, 1, none⟩ (.slice sa zs.length sc)) (w.heap.size + 1 + 1) [bv, (.slice sa zs.length sc)]) := (R5.set 0 bv).set 1 _
     have RB : Hid (Below w.heap.size w ((v4.setCell ⟨w.heap.size + 1 + 1, 0, none⟩ bv).setCell ⟨w.heap.size + 1 + 1, 1, none⟩ (.slice sa zs.length sc))) := (S5.out.b.setCell (p := ⟨w.heap.size + 1 + 1, 0, none⟩) hRw bv).setCell (p := ⟨w.heap.size + 1 + 1, 1, none⟩) hRw _
     have p0 : v4.cell? ⟨O, 0, none⟩ = some bv := S5.out.o.cell rfl
     have p1 := S5.out.o.cell (j := 1) rfl
     have z0 := R5.cell (j := 0) rfl
     have zf0 := R5.free (j := 0) (by simp)
     have z1 := R5.cell (j := 1) rfl
     have zf1 := R5.free (j := 1) (by simp)
     obtain ⟨ab, cb1, hbv, _, hbo⟩ := S5.out.shapes.1
     obtain ⟨sb, cs1, hsv, _, hso⟩ := S5.out.shapes.2
     have HNE : Hid (∀ g, bv.ownBlock = some g → Value.ownBlock (.slice sa zs.length sc) = some g → False) := S5.out.ne
     obtain ⟨rfl, _, rfl⟩ : sa = sb ∧ zs.length = zs.length ∧ sc = cs1 := by simpa using hsv
     subst hbv
     have HOW : Hid (BbOwn w.heap.size ((v4.setCell ⟨w.heap.size + 1 + 1, 0, none⟩ (.slice ab ys.length cb1)).setCell ⟨w.heap.size + 1 + 1, 1, none⟩ (.slice sa zs.length sc)) ab sa ⟨ys, zs⟩) := ⟨(hbo.grown (grown_set (grown_set (World.grownBy.refl _ _) _) _) (by omega)).down (by have := S5.out.lo; omega), (hso.grown (grown_set (grown_set (World.grownBy.refl _ _) _) _) (by omega)).down (by have := S5.out.lo; omega), fun g h e1 e2 _ _ e3 => HNE.out g (by rw [e1]; rfl) (by rw [e2, ← e3]; rfl)⟩
     clear R5 hbo hso S5 hsv
     go_wp2_with fail
     exact bodyPost_ret (results_mid Try.results12 _ _ (w.heap.size + 1 + 1) [.slice ab ys.length cb1, .slice sa zs.length sc] _ rfl HR5.out Try.underlying31 rfl (show (Try.prog.info? 31).map (·.size) = some 2 by kernel_rfl)) rfl (And.intro (by rw [HTW.out]; exact ⟨ab, sa, cb1, sc, rfl, HOW.out⟩) RB.out)
end Go.Proofs.Ytllagodlgipcpaa
