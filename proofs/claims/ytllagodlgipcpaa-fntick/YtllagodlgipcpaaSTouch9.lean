/- STouch9: what the specification's BibTouch answers. Printed by mkstouch.py. -/
import Derived.Test.YtllagodlgipcpaaSGo9
import Derived.Test.YtllagodlgipcpaaSBibR
import Derived.Test.YtllagodlgipcpaaMerged22
namespace Go.Proofs.Ytllagodlgipcpaa
open Go.RowKit Go.PlainAid
set_option linter.unusedVariables false
set_option linter.unusedSimpArgs false

set_option maxRecDepth 100000 in
set_option maxHeartbeats 8000000 in
theorem specBibTouch_any (pa : Option Addr) (pc : Nat) (p : Pl) (ba bo : Option Addr) (ca cb : Nat) (x : Bb) (t : Tc) (now : Int) (w : World) (hlp : p.addrs.length ≤ 1048576) (hpc : p.addrs.length ≤ pc) (hsz : ∀ s ∈ p.addrs, s.size ≤ 1048576) (hs1 : t.addr.size ≤ 1048576) (hs2 : t.peer.size ≤ 1048576) (hl1 : x.binds.length ≤ 1048576) (hl2 : x.sess.length ≤ 1048576) (hp : SlIs strL1 1 w pa p.addrs) (hx : BbIs w ba bo x) :
  Calls Try.prog 47 #[plC pa pc p, bbC ba bo ca cb x, tcC t, .int .i64 now] w fun e w' => BoRet w.heap.size (bibTouchV p x t now) e w' ∧ Below w.heap.size w w' := by
 obtain ⟨proto, inside, addr, port, peer, peerPort, flags⟩ := t
 dsimp only at hs1 hs2
 have HBR : Hid (∀ W, Below w.heap.size w W → Calls Try.prog 15 #[.agg #[.slice pa p.addrs.length pc, .int .i64 p.low, .int .i64 p.high, .int .i64 p.most, .int .i64 p.filter, .int .i64 p.lv.udp, .int .i64 p.lv.echo, .int .i64 p.lv.opening, .int .i64 p.lv.opn, .int .i64 p.lv.closing], .agg #[.slice ba x.binds.length ca, .slice bo x.sess.length cb]] W fun e w' => e = .returned (.bool (bibOk p x)) ∧ Below W.heap.size W w') := fun W hW => specBib_any p x pa pc ba bo ca cb W hlp hpc hsz hl1 hl2 (hp.below hW) (hx.below hW)
 have HTM : Hid (∀ W, Calls Try.prog 40 #[.int .i64 now] W fun e w' => e = .returned (.bool (isTime now)) ∧ w' = W) := fun W => spTime_any now W
 have HTO : Hid (∀ W, Calls Try.prog 76 #[.agg #[.int .i64 proto, .bool inside, .string addr, .int .i64 port, .string peer, .int .i64 peerPort, .int .i64 flags]] W fun e w' => e = .returned (.bool (touchOk ⟨proto, inside, addr, port, peer, peerPort, flags⟩)) ∧ Below W.heap.size W w') := fun W => spTouchOk_any ⟨proto, inside, addr, port, peer, peerPort, flags⟩ W hs1 hs2
 have HGO : Hid (∀ W, (bibOk p x && isTime now && touchOk ⟨proto, inside, addr, port, peer, peerPort, flags⟩) = true → Below w.heap.size w W → Calls Try.prog 77 #[.agg #[.slice pa p.addrs.length pc, .int .i64 p.low, .int .i64 p.high, .int .i64 p.most, .int .i64 p.filter, .int .i64 p.lv.udp, .int .i64 p.lv.echo, .int .i64 p.lv.opening, .int .i64 p.lv.opn, .int .i64 p.lv.closing], .agg #[.slice ba x.binds.length ca, .slice bo x.sess.length cb], .agg #[.int .i64 proto, .bool inside, .string addr, .int .i64 port, .string peer, .int .i64 peerPort, .int .i64 flags], .int .i64 now] W fun e w' => BoRet W.heap.size (goV p x ⟨proto, inside, addr, port, peer, peerPort, flags⟩ now) e w' ∧ Below W.heap.size W w') := fun W hok hW => by
  have hb : (bibOk p x = true ∧ isTime now = true) ∧ touchOk ⟨proto, inside, addr, port, peer, peerPort, flags⟩ = true := by simpa only [Bool.and_eq_true] using hok
  obtain ⟨⟨h1, h2⟩, h3⟩ := hb
  have hpo : poolOk p = true := by unfold bibOk at h1; simp only [Bool.and_eq_true] at h1; first | exact h1.1 | exact h1.1.1 | exact h1.1.1.1 | exact h1.1.1.1.1 | exact h1.1.1.1.1.1 | exact h1.1.1.1.1.1.1
  have hpt : 0 ≤ port ∧ port ≤ 65535 := by
   unfold touchOk isW isIn at h3
   simp only [Bool.and_eq_true, decide_eq_true_iff] at h3
   omega
  exact spGo_any pa pc p ba bo ca cb x ⟨proto, inside, addr, port, peer, peerPort, flags⟩ now W hpo h2 hs1 hpt.1 hpt.2 hl1 hl2 (hp.below hW) (hx.below hW)
 have HV : Hid (bibTouchV p x ⟨proto, inside, addr, port, peer, peerPort, flags⟩ now = if (bibOk p x && isTime now && touchOk ⟨proto, inside, addr, port, peer, peerPort, flags⟩) = true then goV p x ⟨proto, inside, addr, port, peer, peerPort, flags⟩ now else boE 1) := rfl
 generalize bibTouchV p x ⟨proto, inside, addr, port, peer, peerPort, flags⟩ now = ans at *
 generalize goV p x ⟨proto, inside, addr, port, peer, peerPort, flags⟩ now = nv at *
 generalize bibOk p x = b1 at *
 generalize isTime now = b2 at *
 generalize touchOk ⟨proto, inside, addr, port, peer, peerPort, flags⟩ = b3 at *
 have hun : undef = Value.tuple #[] := rfl
 have hRw : w.heap.size ≤ w.heap.size + 1 + 1 + 1 := by omega
 have e0 : HoldsL ((((w.alloc (.cells #[.slice pa p.addrs.length pc, .int .i64 p.low, .int .i64 p.high, .int .i64 p.most, .int .i64 p.filter, .int .i64 p.lv.udp, .int .i64 p.lv.echo, .int .i64 p.lv.opening, .int .i64 p.lv.opn, .int .i64 p.lv.closing] 27)).alloc (.cells #[.slice ba x.binds.length ca, .slice bo x.sess.length cb] 31)).alloc (.cells #[.int .i64 proto, .bool inside, .string addr, .int .i64 port, .string peer, .int .i64 peerPort, .int .i64 flags] 55)).alloc (.cells #[.slice none 0 0, .slice none 0 0, .int .i64 0, .string ⟨#[]⟩, .int .i64 0, .string ⟨#[]⟩, .int .i64 0, .int .i64 0] 37)) (w.heap.size) [.slice pa p.addrs.length pc, .int .i64 p.low, .int .i64 p.high, .int .i64 p.most, .int .i64 p.filter, .int .i64 p.lv.udp, .int .i64 p.lv.echo, .int .i64 p.lv.opening, .int .i64 p.lv.opn, .int .i64 p.lv.closing] := by
  have h := HoldsL.new w [.slice pa p.addrs.length pc, .int .i64 p.low, .int .i64 p.high, .int .i64 p.most, .int .i64 p.filter, .int .i64 p.lv.udp, .int .i64 p.lv.echo, .int .i64 p.lv.opening, .int .i64 p.lv.opn, .int .i64 p.lv.closing] 27
  try simp only [World.size_alloc] at h
  exact (((h.alloc _).alloc _).alloc _)
 have e1 : HoldsL ((((w.alloc (.cells #[.slice pa p.addrs.length pc, .int .i64 p.low, .int .i64 p.high, .int .i64 p.most, .int .i64 p.filter, .int .i64 p.lv.udp, .int .i64 p.lv.echo, .int .i64 p.lv.opening, .int .i64 p.lv.opn, .int .i64 p.lv.closing] 27)).alloc (.cells #[.slice ba x.binds.length ca, .slice bo x.sess.length cb] 31)).alloc (.cells #[.int .i64 proto, .bool inside, .string addr, .int .i64 port, .string peer, .int .i64 peerPort, .int .i64 flags] 55)).alloc (.cells #[.slice none 0 0, .slice none 0 0, .int .i64 0, .string ⟨#[]⟩, .int .i64 0, .string ⟨#[]⟩, .int .i64 0, .int .i64 0] 37)) (w.heap.size + 1) [.slice ba x.binds.length ca, .slice bo x.sess.length cb] := by
  have h := HoldsL.new (w.alloc (.cells #[.slice pa p.addrs.length pc, .int .i64 p.low, .int .i64 p.high, .int .i64 p.most, .int .i64 p.filter, .int .i64 p.lv.udp, .int .i64 p.lv.echo, .int .i64 p.lv.opening, .int .i64 p.lv.opn, .int .i64 p.lv.closing] 27)) [.slice ba x.binds.length ca, .slice bo x.sess.length cb] 31
  try simp only [World.size_alloc] at h
  exact ((h.alloc _).alloc _)
 have e2 : HoldsL ((((w.alloc (.cells #[.slice pa p.addrs.length pc, .int .i64 p.low, .int .i64 p.high, .int .i64 p.most, .int .i64 p.filter, .int .i64 p.lv.udp, .int .i64 p.lv.echo, .int .i64 p.lv.opening, .int .i64 p.lv.opn, .int .i64 p.lv.closing] 27)).alloc (.cells #[.slice ba x.binds.length ca, .slice bo x.sess.length cb] 31)).alloc (.cells #[.int .i64 proto, .bool inside, .string addr, .int .i64 port, .string peer, .int .i64 peerPort, .int .i64 flags] 55)).alloc (.cells #[.slice none 0 0, .slice none 0 0, .int .i64 0, .string ⟨#[]⟩, .int .i64 0, .string ⟨#[]⟩, .int .i64 0, .int .i64 0] 37)) (w.heap.size + 1 + 1) [.int .i64 proto, .bool inside, .string addr, .int .i64 port, .string peer, .int .i64 peerPort, .int .i64 flags] := by
  have h := HoldsL.new ((w.alloc (.cells #[.slice pa p.addrs.length pc, .int .i64 p.low, .int .i64 p.high, .int .i64 p.most, .int .i64 p.filter, .int .i64 p.lv.udp, .int .i64 p.lv.echo, .int .i64 p.lv.opening, .int .i64 p.lv.opn, .int .i64 p.lv.closing] 27)).alloc (.cells #[.slice ba x.binds.length ca, .slice bo x.sess.length cb] 31)) [.int .i64 proto, .bool inside, .string addr, .int .i64 port, .string peer, .int .i64 peerPort, .int .i64 flags] 55
  try simp only [World.size_alloc] at h
  exact (h.alloc _)
 have e3 : HoldsL ((((w.alloc (.cells #[.slice pa p.addrs.length pc, .int .i64 p.low, .int .i64 p.high, .int .i64 p.most, .int .i64 p.filter, .int .i64 p.lv.udp, .int .i64 p.lv.echo, .int .i64 p.lv.opening, .int .i64 p.lv.opn, .int .i64 p.lv.closing] 27)).alloc (.cells #[.slice ba x.binds.length ca, .slice bo x.sess.length cb] 31)).alloc (.cells #[.int .i64 proto, .bool inside, .string addr, .int .i64 port, .string peer, .int .i64 peerPort, .int .i64 flags] 55)).alloc (.cells #[.slice none 0 0, .slice none 0 0, .int .i64 0, .string ⟨#[]⟩, .int .i64 0, .string ⟨#[]⟩, .int .i64 0, .int .i64 0] 37)) (w.heap.size + 1 + 1 + 1) [.slice none 0 0, .slice none 0 0, .int .i64 0, .string ⟨#[]⟩, .int .i64 0, .string ⟨#[]⟩, .int .i64 0, .int .i64 0] := by
  have h := HoldsL.new (((w.alloc (.cells #[.slice pa p.addrs.length pc, .int .i64 p.low, .int .i64 p.high, .int .i64 p.most, .int .i64 p.filter, .int .i64 p.lv.udp, .int .i64 p.lv.echo, .int .i64 p.lv.opening, .int .i64 p.lv.opn, .int .i64 p.lv.closing] 27)).alloc (.cells #[.slice ba x.binds.length ca, .slice bo x.sess.length cb] 31)).alloc (.cells #[.int .i64 proto, .bool inside, .string addr, .int .i64 port, .string peer, .int .i64 peerPort, .int .i64 flags] 55)) [.slice none 0 0, .slice none 0 0, .int .i64 0, .string ⟨#[]⟩, .int .i64 0, .string ⟨#[]⟩, .int .i64 0, .int .i64 0] 37
  try simp only [World.size_alloc] at h
  exact h
 have HS0 : Hid (Bxs w [(w.heap.size, [.slice pa p.addrs.length pc, .int .i64 p.low, .int .i64 p.high, .int .i64 p.most, .int .i64 p.filter, .int .i64 p.lv.udp, .int .i64 p.lv.echo, .int .i64 p.lv.opening, .int .i64 p.lv.opn, .int .i64 p.lv.closing]), (w.heap.size + 1, [.slice ba x.binds.length ca, .slice bo x.sess.length cb]), (w.heap.size + 1 + 1, [.int .i64 proto, .bool inside, .string addr, .int .i64 port, .string peer, .int .i64 peerPort, .int .i64 flags]), (w.heap.size + 1 + 1 + 1, [.slice none 0 0, .slice none 0 0, .int .i64 0, .string ⟨#[]⟩, .int .i64 0, .string ⟨#[]⟩, .int .i64 0, .int .i64 0])] ((((w.alloc (.cells #[.slice pa p.addrs.length pc, .int .i64 p.low, .int .i64 p.high, .int .i64 p.most, .int .i64 p.filter, .int .i64 p.lv.udp, .int .i64 p.lv.echo, .int .i64 p.lv.opening, .int .i64 p.lv.opn, .int .i64 p.lv.closing] 27)).alloc (.cells #[.slice ba x.binds.length ca, .slice bo x.sess.length cb] 31)).alloc (.cells #[.int .i64 proto, .bool inside, .string addr, .int .i64 port, .string peer, .int .i64 peerPort, .int .i64 flags] 55)).alloc (.cells #[.slice none 0 0, .slice none 0 0, .int .i64 0, .string ⟨#[]⟩, .int .i64 0, .string ⟨#[]⟩, .int .i64 0, .int .i64 0] 37))) := by
  refine ⟨fun e he => ?_, (((((Below.refl _ _).alloc (Nat.le_refl _) _).alloc (by simp only [World.size_alloc]; omega) _).alloc (by simp only [World.size_alloc]; omega) _).alloc (by simp only [World.size_alloc]; omega) _), fun e he => ?_⟩
  ·simp only [List.mem_cons, List.not_mem_nil, or_false] at he
   rcases he with rfl | rfl | rfl | rfl
   ·exact e0
   ·exact e1
   ·exact e2
   ·exact e3
  ·simp only [List.mem_cons, List.not_mem_nil, or_false] at he
   rcases he with rfl | rfl | rfl | rfl <;> simp
 clear e0 e1 e2 e3 hp hx hsz
 unfold plC bbC tcC
 go_enter Try.func47, Try.ntmps47
 go_upto_region 1 with fail
 generalize ((((w.alloc (.cells #[.slice pa p.addrs.length pc, .int .i64 p.low, .int .i64 p.high, .int .i64 p.most, .int .i64 p.filter, .int .i64 p.lv.udp, .int .i64 p.lv.echo, .int .i64 p.lv.opening, .int .i64 p.lv.opn, .int .i64 p.lv.closing] 27)).alloc (.cells #[.slice ba x.binds.length ca, .slice bo x.sess.length cb] 31)).alloc (.cells #[.int .i64 proto, .bool inside, .string addr, .int .i64 port, .string peer, .int .i64 peerPort, .int .i64 flags] 55)).alloc (.cells #[.slice none 0 0, .slice none 0 0, .int .i64 0, .string ⟨#[]⟩, .int .i64 0, .string ⟨#[]⟩, .int .i64 0, .int .i64 0] 37)) = W at *
 go_cut [22] (fun v wx => v = .bool (!(b1 && b2 && b3)) ∧ Bxs w [(w.heap.size, [.slice pa p.addrs.length pc, .int .i64 p.low, .int .i64 p.high, .int .i64 p.most, .int .i64 p.filter, .int .i64 p.lv.udp, .int .i64 p.lv.echo, .int .i64 p.lv.opening, .int .i64 p.lv.opn, .int .i64 p.lv.closing]), (w.heap.size + 1, [.slice ba x.binds.length ca, .slice bo x.sess.length cb]), (w.heap.size + 1 + 1, [.int .i64 proto, .bool inside, .string addr, .int .i64 port, .string peer, .int .i64 peerPort, .int .i64 flags]), (w.heap.size + 1 + 1 + 1, [.slice none 0 0, .slice none 0 0, .int .i64 0, .string ⟨#[]⟩, .int .i64 0, .string ⟨#[]⟩, .int .i64 0, .int .i64 0])] wx)
 case first =>
  clear HV HGO
  try have hun : undef = Value.tuple #[] := rfl
  have HHp := HS0.out.at (.head _)
  have p0 := HHp.cell (j := 0) rfl
  have p1 := HHp.cell (j := 1) rfl
  have p2 := HHp.cell (j := 2) rfl
  have p3 := HHp.cell (j := 3) rfl
  have p4 := HHp.cell (j := 4) rfl
  have p5 := HHp.cell (j := 5) rfl
  have p6 := HHp.cell (j := 6) rfl
  have p7 := HHp.cell (j := 7) rfl
  have p8 := HHp.cell (j := 8) rfl
  have p9 := HHp.cell (j := 9) rfl
  clear HHp
  have HHk := HS0.out.at (.tail _ (.head _))
  have k0 := HHk.cell (j := 0) rfl
  have k1 := HHk.cell (j := 1) rfl
  clear HHk
  go_wp2_with fail
  refine (HBR.out _ HS0.out.b).mono ?_
  rintro e W1 ⟨rfl, q1⟩
  have S1 : Hid _ := HS0.out.kept q1
  clear q1
  have HHt := S1.out.at (.tail _ (.tail _ (.head _)))
  have t0 := HHt.cell (j := 0) rfl
  have t1 := HHt.cell (j := 1) rfl
  have t2 := HHt.cell (j := 2) rfl
  have t3 := HHt.cell (j := 3) rfl
  have t4 := HHt.cell (j := 4) rfl
  have t5 := HHt.cell (j := 5) rfl
  have t6 := HHt.cell (j := 6) rfl
  clear HHt
  cases b1 with
  | false =>
   go_wp2_with fail
   go_meet
   exact ⟨rfl, S1.out⟩
  | true =>
  go_wp2_with fail
  refine (HTM.out _).mono ?_
  rintro e W1 ⟨rfl, rfl⟩
  cases b2 with
  | false =>
   go_wp2_with fail
   go_meet
   exact ⟨rfl, S1.out⟩
  | true =>
  go_wp2_with fail
  refine (HTO.out _).mono ?_
  rintro e W2 ⟨rfl, q2⟩
  have S2 : Hid _ := S1.out.kept q2
  clear q2
  cases b3
  all_goals
   go_wp2_with fail
   go_meet
   exact ⟨rfl, S2.out⟩
 case rest =>
 obtain ⟨rfl, hS⟩ := hcut
 have S3 : Hid _ := hS
 clear hS HS0 HBR HTM HTO
 generalize wc = W3 at *
 cases hok : (b1 && b2 && b3) with
 | false =>
  have HW : Hid (ans = boE 1) := by unfold Hid; rw [HV.out, hok]; rfl
  clear HGO HV hok
  have HX : Hid (ans = boE (1)) := by unfold Hid; rw [HW.out]
  have HHz := S3.out.at (.tail _ (.tail _ (.tail _ (.head _))))
  have z0 := HHz.cell (j := 0) rfl
  have z1 := HHz.cell (j := 1) rfl
  have z2 := HHz.cell (j := 2) rfl
  have z3 := HHz.cell (j := 3) rfl
  have z4 := HHz.cell (j := 4) rfl
  have z5 := HHz.cell (j := 5) rfl
  have z6 := HHz.cell (j := 6) rfl
  have z7 := HHz.cell (j := 7) rfl
  have zf0 := HHz.free (j := 0) (by simp)
  have zf1 := HHz.free (j := 1) (by simp)
  have zf2 := HHz.free (j := 2) (by simp)
  have zf3 := HHz.free (j := 3) (by simp)
  have zf4 := HHz.free (j := 4) (by simp)
  have zf5 := HHz.free (j := 5) (by simp)
  have zf6 := HHz.free (j := 6) (by simp)
  have zf7 := HHz.free (j := 7) (by simp)
  have HRR : Hid (HoldsL ((((((((W3.setCell ⟨w.heap.size + 1 + 1 + 1, 0, none⟩ (.slice none 0 0)).setCell ⟨w.heap.size + 1 + 1 + 1, 1, none⟩ (.slice none 0 0)).setCell ⟨w.heap.size + 1 + 1 + 1, 2, none⟩ (.int .i64 0)).setCell ⟨w.heap.size + 1 + 1 + 1, 3, none⟩ (.string ⟨#[]⟩)).setCell ⟨w.heap.size + 1 + 1 + 1, 4, none⟩ (.int .i64 0)).setCell ⟨w.heap.size + 1 + 1 + 1, 5, none⟩ (.string ⟨#[]⟩)).setCell ⟨w.heap.size + 1 + 1 + 1, 6, none⟩ (.int .i64 0)).setCell ⟨w.heap.size + 1 + 1 + 1, 7, none⟩ (.int .i64 (1))) (w.heap.size + 1 + 1 + 1) [.slice none 0 0, .slice none 0 0, .int .i64 0, .string ⟨#[]⟩, .int .i64 0, .string ⟨#[]⟩, .int .i64 0, .int .i64 (1)]) := ((((((((HHz.set 0 (.slice none 0 0)).set 1 (.slice none 0 0)).set 2 (.int .i64 0)).set 3 (.string ⟨#[]⟩)).set 4 (.int .i64 0)).set 5 (.string ⟨#[]⟩)).set 6 (.int .i64 0)).set 7 (.int .i64 (1)))
  have RB : Hid _ := ((((((((S3.out.b.setCell (p := ⟨w.heap.size + 1 + 1 + 1, 0, none⟩) hRw (.slice none 0 0)).setCell (p := ⟨w.heap.size + 1 + 1 + 1, 1, none⟩) hRw (.slice none 0 0)).setCell (p := ⟨w.heap.size + 1 + 1 + 1, 2, none⟩) hRw (.int .i64 0)).setCell (p := ⟨w.heap.size + 1 + 1 + 1, 3, none⟩) hRw (.string ⟨#[]⟩)).setCell (p := ⟨w.heap.size + 1 + 1 + 1, 4, none⟩) hRw (.int .i64 0)).setCell (p := ⟨w.heap.size + 1 + 1 + 1, 5, none⟩) hRw (.string ⟨#[]⟩)).setCell (p := ⟨w.heap.size + 1 + 1 + 1, 6, none⟩) hRw (.int .i64 0)).setCell (p := ⟨w.heap.size + 1 + 1 + 1, 7, none⟩) hRw (.int .i64 (1)))
  clear HHz
  go_wp2_with fail
  exact bodyPost_ret (results_mid Try.results47 _ _ (w.heap.size + 1 + 1 + 1) [.slice none 0 0, .slice none 0 0, .int .i64 0, .string ⟨#[]⟩, .int .i64 0, .string ⟨#[]⟩, .int .i64 0, .int .i64 (1)] _ rfl HRR.out Try.underlying37 rfl (show (Try.prog.info? 37).map (·.size) = some 8 by kernel_rfl)) rfl (And.intro (by rw [HX.out]; exact ⟨none, none, 0, 0, rfl, .inl rfl, .inl rfl, fun g h e1 => by simp at e1⟩) RB.out)
 | true =>
  have HX : Hid (ans = nv) := by unfold Hid; rw [HV.out, if_pos hok]
  have HNC : Hid _ := fun W => HGO.out W hok
  clear HGO HV hok
  have HHp := S3.out.at (.head _)
  have p0 := HHp.cell (j := 0) rfl
  have p1 := HHp.cell (j := 1) rfl
  have p2 := HHp.cell (j := 2) rfl
  have p3 := HHp.cell (j := 3) rfl
  have p4 := HHp.cell (j := 4) rfl
  have p5 := HHp.cell (j := 5) rfl
  have p6 := HHp.cell (j := 6) rfl
  have p7 := HHp.cell (j := 7) rfl
  have p8 := HHp.cell (j := 8) rfl
  have p9 := HHp.cell (j := 9) rfl
  clear HHp
  have HHk := S3.out.at (.tail _ (.head _))
  have k0 := HHk.cell (j := 0) rfl
  have k1 := HHk.cell (j := 1) rfl
  clear HHk
  have HHt := S3.out.at (.tail _ (.tail _ (.head _)))
  have t0 := HHt.cell (j := 0) rfl
  have t1 := HHt.cell (j := 1) rfl
  have t2 := HHt.cell (j := 2) rfl
  have t3 := HHt.cell (j := 3) rfl
  have t4 := HHt.cell (j := 4) rfl
  have t5 := HHt.cell (j := 5) rfl
  have t6 := HHt.cell (j := 6) rfl
  clear HHt
  have hRl : w.heap.size + 1 + 1 + 1 < W3.heap.size := (S3.out.lts _ (.tail _ (.tail _ (.tail _ (.head _))))).1
  go_wp2_with fail
  refine (HNC.out _ S3.out.b).mono ?_
  rintro e W4 ⟨⟨a1, a2, c1, c2, rfl, hown⟩, q4⟩
  have S4 : Hid _ := S3.out.kept q4
  have HHz := S4.out.at (.tail _ (.tail _ (.tail _ (.head _))))
  have z0 := HHz.cell (j := 0) rfl
  have z1 := HHz.cell (j := 1) rfl
  have z2 := HHz.cell (j := 2) rfl
  have z3 := HHz.cell (j := 3) rfl
  have z4 := HHz.cell (j := 4) rfl
  have z5 := HHz.cell (j := 5) rfl
  have z6 := HHz.cell (j := 6) rfl
  have z7 := HHz.cell (j := 7) rfl
  have zf0 := HHz.free (j := 0) (by simp)
  have zf1 := HHz.free (j := 1) (by simp)
  have zf2 := HHz.free (j := 2) (by simp)
  have zf3 := HHz.free (j := 3) (by simp)
  have zf4 := HHz.free (j := 4) (by simp)
  have zf5 := HHz.free (j := 5) (by simp)
  have zf6 := HHz.free (j := 6) (by simp)
  have zf7 := HHz.free (j := 7) (by simp)
  have HRR : Hid (HoldsL ((((((((W4.setCell ⟨w.heap.size + 1 + 1 + 1, 0, none⟩ (.slice a1 nv.bib.binds.length c1)).setCell ⟨w.heap.size + 1 + 1 + 1, 1, none⟩ (.slice a2 nv.bib.sess.length c2)).setCell ⟨w.heap.size + 1 + 1 + 1, 2, none⟩ (.int .i64 nv.bind.proto)).setCell ⟨w.heap.size + 1 + 1 + 1, 3, none⟩ (.string nv.bind.inn)).setCell ⟨w.heap.size + 1 + 1 + 1, 4, none⟩ (.int .i64 nv.bind.inPort)).setCell ⟨w.heap.size + 1 + 1 + 1, 5, none⟩ (.string nv.bind.out)).setCell ⟨w.heap.size + 1 + 1 + 1, 6, none⟩ (.int .i64 nv.bind.outPort)).setCell ⟨w.heap.size + 1 + 1 + 1, 7, none⟩ (.int .i64 nv.code)) (w.heap.size + 1 + 1 + 1) [.slice a1 nv.bib.binds.length c1, .slice a2 nv.bib.sess.length c2, .int .i64 nv.bind.proto, .string nv.bind.inn, .int .i64 nv.bind.inPort, .string nv.bind.out, .int .i64 nv.bind.outPort, .int .i64 nv.code]) := ((((((((HHz.set 0 (.slice a1 nv.bib.binds.length c1)).set 1 (.slice a2 nv.bib.sess.length c2)).set 2 (.int .i64 nv.bind.proto)).set 3 (.string nv.bind.inn)).set 4 (.int .i64 nv.bind.inPort)).set 5 (.string nv.bind.out)).set 6 (.int .i64 nv.bind.outPort)).set 7 (.int .i64 nv.code))
  have RB : Hid _ := ((((((((S4.out.b.setCell (p := ⟨w.heap.size + 1 + 1 + 1, 0, none⟩) hRw (.slice a1 nv.bib.binds.length c1)).setCell (p := ⟨w.heap.size + 1 + 1 + 1, 1, none⟩) hRw (.slice a2 nv.bib.sess.length c2)).setCell (p := ⟨w.heap.size + 1 + 1 + 1, 2, none⟩) hRw (.int .i64 nv.bind.proto)).setCell (p := ⟨w.heap.size + 1 + 1 + 1, 3, none⟩) hRw (.string nv.bind.inn)).setCell (p := ⟨w.heap.size + 1 + 1 + 1, 4, none⟩) hRw (.int .i64 nv.bind.inPort)).setCell (p := ⟨w.heap.size + 1 + 1 + 1, 5, none⟩) hRw (.string nv.bind.out)).setCell (p := ⟨w.heap.size + 1 + 1 + 1, 6, none⟩) hRw (.int .i64 nv.bind.outPort)).setCell (p := ⟨w.heap.size + 1 + 1 + 1, 7, none⟩) hRw (.int .i64 nv.code))
  clear HHz
  have hwl := S3.out.b.size
  have HOW : Hid (BbOwn w.heap.size ((((((((W4.setCell ⟨w.heap.size + 1 + 1 + 1, 0, none⟩ (.slice a1 nv.bib.binds.length c1)).setCell ⟨w.heap.size + 1 + 1 + 1, 1, none⟩ (.slice a2 nv.bib.sess.length c2)).setCell ⟨w.heap.size + 1 + 1 + 1, 2, none⟩ (.int .i64 nv.bind.proto)).setCell ⟨w.heap.size + 1 + 1 + 1, 3, none⟩ (.string nv.bind.inn)).setCell ⟨w.heap.size + 1 + 1 + 1, 4, none⟩ (.int .i64 nv.bind.inPort)).setCell ⟨w.heap.size + 1 + 1 + 1, 5, none⟩ (.string nv.bind.out)).setCell ⟨w.heap.size + 1 + 1 + 1, 6, none⟩ (.int .i64 nv.bind.outPort)).setCell ⟨w.heap.size + 1 + 1 + 1, 7, none⟩ (.int .i64 nv.code)) a1 a2 nv.bib) := ⟨(hown.bd.grown (grown_set (grown_set (grown_set (grown_set (grown_set (grown_set (grown_set (grown_set (World.grownBy.refl _ _) _) _) _) _) _) _) _) _) hRl).down hwl, (hown.ss.grown (grown_set (grown_set (grown_set (grown_set (grown_set (grown_set (grown_set (grown_set (World.grownBy.refl _ _) _) _) _) _) _) _) _) _) hRl).down hwl, hown.ne⟩
  clear hown q4
  unfold boC
  go_wp2_with fail
  exact bodyPost_ret (results_mid Try.results47 _ _ (w.heap.size + 1 + 1 + 1) [.slice a1 nv.bib.binds.length c1, .slice a2 nv.bib.sess.length c2, .int .i64 nv.bind.proto, .string nv.bind.inn, .int .i64 nv.bind.inPort, .string nv.bind.out, .int .i64 nv.bind.outPort, .int .i64 nv.code] _ rfl HRR.out Try.underlying37 rfl (show (Try.prog.info? 37).map (·.size) = some 8 by kernel_rfl)) rfl (And.intro (by rw [HX.out]; exact ⟨a1, a2, c1, c2, rfl, HOW.out⟩) RB.out)
end Go.Proofs.Ytllagodlgipcpaa
