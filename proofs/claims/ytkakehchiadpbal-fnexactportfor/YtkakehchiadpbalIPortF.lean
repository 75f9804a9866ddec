/- IPortF: what the program's PortFor answers. Printed by mkibk9.py. -/
import Derived.Test.YtkakehchiadpbalIOpen
import Derived.Test.YtkakehchiadpbalIBindF
import Derived.Test.YtkakehchiadpbalSPortFor
namespace Go.Proofs.Ytkakehchiadpbal
open Go.RowKit Go.PlainAid
set_option linter.unusedVariables false
set_option linter.unusedSimpArgs false

theorem bindFor_sz {p : Pl} {xs : List Bd} {h : En} (hps : ∀ s ∈ p.addrs, s.size ≤ 1048576) (hgb : ∀ q ∈ xs, BdGood q) (he : EnIn h) : (bindForV p xs h).1.inn.size ≤ 1048576 ∧ (bindForV p xs h).1.out.size ≤ 1048576 := by
  unfold bindForV
  split
  · cases hf : xs.find? (ofIn h.proto h.addr h.port) with
    | none => exact ⟨Nat.zero_le _, Nat.zero_le _⟩
    | some c => exact ⟨(hgb c (List.mem_of_find?_eq_some hf)).1, (hgb c (List.mem_of_find?_eq_some hf)).2.1⟩
  · exact ⟨he.1, outIn_sz hps hgb⟩
theorem portFor_bib (p : Pl) (x : Bb) (proto : Int) (inn : ByteArray) (port : Int) : (portForV p x proto inn port).bib.binds.length ≤ 1048576 ∧ (portForV p x proto inn port).bib.sess.length ≤ 1048576 := by
  unfold portForV
  split
  · exact ⟨Nat.zero_le _, Nat.zero_le _⟩
  · split <;> exact ⟨Nat.zero_le _, Nat.zero_le _⟩
theorem portFor_own (base : Nat) (w : World) (p : Pl) (x : Bb) (proto : Int) (inn : ByteArray) (port : Int) : BbOwn base w none none (portForV p x proto inn port).bib := by
  have e : (portForV p x proto inn port).bib = bbZ := by
    unfold portForV
    split
    · rfl
    · split <;> rfl
  rw [e]
  exact ⟨.inl rfl, .inl rfl, fun g h e1 => by simp at e1⟩
set_option maxRecDepth 100000 in
set_option maxHeartbeats 8000000 in
theorem implPortFor_any (pa : Option Addr) (pc : Nat) (p : Pl) (ba bo : Option Addr) (ca cb : Nat) (x : Bb) (proto : Int) (inn : ByteArray) (port : Int) (w : World) (hpr : In64t proto) (hin : inn.size ≤ 1048576) (hpl : p.addrs.length ≤ 1048576) (hpc : p.addrs.length ≤ pc) (hps : ∀ s ∈ p.addrs, s.size ≤ 1048576) (hbl1 : x.binds.length ≤ 1048576) (hbl2 : x.sess.length ≤ 1048576) (hgb : ∀ q ∈ x.binds, BdGood q) (hgs : ∀ s ∈ x.sess, SsGood s) (hp : SlIs strL1 1 w pa p.addrs) (hx : BbIs w ba bo x) :
    Calls Try.prog 24 #[plC pa pc p, bbC ba bo ca cb x, .int .i64 proto, .string inn, .int .i64 port] w fun e w' => e = .returned (boC none none 0 0 (portForV p x proto inn port)) ∧ Below w.heap.size w w' := by
  have HZ0 : Hid (Below w.heap.size w (((w.alloc (.cells #[.slice pa p.addrs.length pc, .int .i64 p.low, .int .i64 p.high, .int .i64 p.most, .int .i64 p.filter, .int .i64 p.lv.udp, .int .i64 p.lv.echo, .int .i64 p.lv.opening, .int .i64 p.lv.opn, .int .i64 p.lv.closing] 31)).alloc (.cells #[.slice ba x.binds.length ca, .slice bo x.sess.length cb] 44)).alloc (.cells #[.slice none 0 0, .slice none 0 0, .int .i64 0, .string ⟨#[]⟩, .int .i64 0, .string ⟨#[]⟩, .int .i64 0, .int .i64 0] 54))) := (((Below.refl _ _).alloc (Nat.le_refl _) _).alloc (by simp) _).alloc (by simp; omega) _
  have HP : Hid (HoldsL (((w.alloc (.cells #[.slice pa p.addrs.length pc, .int .i64 p.low, .int .i64 p.high, .int .i64 p.most, .int .i64 p.filter, .int .i64 p.lv.udp, .int .i64 p.lv.echo, .int .i64 p.lv.opening, .int .i64 p.lv.opn, .int .i64 p.lv.closing] 31)).alloc (.cells #[.slice ba x.binds.length ca, .slice bo x.sess.length cb] 44)).alloc (.cells #[.slice none 0 0, .slice none 0 0, .int .i64 0, .string ⟨#[]⟩, .int .i64 0, .string ⟨#[]⟩, .int .i64 0, .int .i64 0] 54)) w.heap.size [.slice pa p.addrs.length pc, .int .i64 p.low, .int .i64 p.high, .int .i64 p.most, .int .i64 p.filter, .int .i64 p.lv.udp, .int .i64 p.lv.echo, .int .i64 p.lv.opening, .int .i64 p.lv.opn, .int .i64 p.lv.closing]) := ((HoldsL.new w [.slice pa p.addrs.length pc, .int .i64 p.low, .int .i64 p.high, .int .i64 p.most, .int .i64 p.filter, .int .i64 p.lv.udp, .int .i64 p.lv.echo, .int .i64 p.lv.opening, .int .i64 p.lv.opn, .int .i64 p.lv.closing] 31).alloc _).alloc _
  have HB : Hid (HoldsL (((w.alloc (.cells #[.slice pa p.addrs.length pc, .int .i64 p.low, .int .i64 p.high, .int .i64 p.most, .int .i64 p.filter, .int .i64 p.lv.udp, .int .i64 p.lv.echo, .int .i64 p.lv.opening, .int .i64 p.lv.opn, .int .i64 p.lv.closing] 31)).alloc (.cells #[.slice ba x.binds.length ca, .slice bo x.sess.length cb] 44)).alloc (.cells #[.slice none 0 0, .slice none 0 0, .int .i64 0, .string ⟨#[]⟩, .int .i64 0, .string ⟨#[]⟩, .int .i64 0, .int .i64 0] 54)) (w.heap.size + 1) [.slice ba x.binds.length ca, .slice bo x.sess.length cb]) := by
    have h := (HoldsL.new (w.alloc (.cells #[.slice pa p.addrs.length pc, .int .i64 p.low, .int .i64 p.high, .int .i64 p.most, .int .i64 p.filter, .int .i64 p.lv.udp, .int .i64 p.lv.echo, .int .i64 p.lv.opening, .int .i64 p.lv.opn, .int .i64 p.lv.closing] 31)) [.slice ba x.binds.length ca, .slice bo x.sess.length cb] 44).alloc (.cells #[.slice none 0 0, .slice none 0 0, .int .i64 0, .string ⟨#[]⟩, .int .i64 0, .string ⟨#[]⟩, .int .i64 0, .int .i64 0] 54)
    rw [World.size_alloc] at h; exact h
  have HR : Hid (HoldsL (((w.alloc (.cells #[.slice pa p.addrs.length pc, .int .i64 p.low, .int .i64 p.high, .int .i64 p.most, .int .i64 p.filter, .int .i64 p.lv.udp, .int .i64 p.lv.echo, .int .i64 p.lv.opening, .int .i64 p.lv.opn, .int .i64 p.lv.closing] 31)).alloc (.cells #[.slice ba x.binds.length ca, .slice bo x.sess.length cb] 44)).alloc (.cells #[.slice none 0 0, .slice none 0 0, .int .i64 0, .string ⟨#[]⟩, .int .i64 0, .string ⟨#[]⟩, .int .i64 0, .int .i64 0] 54)) (w.heap.size + 1 + 1) [.slice none 0 0, .slice none 0 0, .int .i64 0, .string ⟨#[]⟩, .int .i64 0, .string ⟨#[]⟩, .int .i64 0, .int .i64 0]) := by
    have h := HoldsL.new ((w.alloc (.cells #[.slice pa p.addrs.length pc, .int .i64 p.low, .int .i64 p.high, .int .i64 p.most, .int .i64 p.filter, .int .i64 p.lv.udp, .int .i64 p.lv.echo, .int .i64 p.lv.opening, .int .i64 p.lv.opn, .int .i64 p.lv.closing] 31)).alloc (.cells #[.slice ba x.binds.length ca, .slice bo x.sess.length cb] 44)) [.slice none 0 0, .slice none 0 0, .int .i64 0, .string ⟨#[]⟩, .int .i64 0, .string ⟨#[]⟩, .int .i64 0, .int .i64 0] 54
    rw [World.size_alloc, World.size_alloc] at h; exact h
  have HOP : Hid (∀ W, Below w.heap.size w W → Calls Try.prog 47 #[.agg #[.slice pa p.addrs.length pc, .int .i64 p.low, .int .i64 p.high, .int .i64 p.most, .int .i64 p.filter, .int .i64 p.lv.udp, .int .i64 p.lv.echo, .int .i64 p.lv.opening, .int .i64 p.lv.opn, .int .i64 p.lv.closing], .agg #[.slice ba x.binds.length ca, .slice bo x.sess.length cb]] W (OpenRet W pa pc p ba bo ca cb x)) := fun W hW => open_any pa pc p ba bo ca cb x W hpl hpc hps hbl1 hbl2 hgb hgs (hp.below hW) (hx.below hW)
  have HV0 : Hid (bookOk p x = bibOk p x) := book_bib p x
  have HV : Hid (portForV p x proto inn port = if 20000 < inn.size then ⟨bbZ, bdZ, 2⟩ else if (bibOk p x && protoB proto && addrOk inn && isW port) = true then ⟨bbZ, (lendV p x.binds proto inn port).1, (lendV p x.binds proto inn port).2⟩ else ⟨bbZ, bdZ, 1⟩) := rfl
  have HTL : Hid (∀ W, Calls Try.prog 59 #[.string inn] W fun e w' => e = .returned (.bool (decide (20000 < inn.size))) ∧ w' = W) := fun W => implLong_any inn W
  have HIB : Hid (∀ W, Calls Try.prog 60 #[.int .i64 proto] W fun e w' => e = .returned (.bool (protoB proto)) ∧ w' = W) := fun W => isBound_any _ W
  have HIA : Hid (∀ W, Calls Try.prog 61 #[.string inn] W fun e w' => e = .returned (.bool (addrOk inn)) ∧ w' = W) := fun W => implAddrRight_any inn W
  have HIW : Hid (∀ W, Calls Try.prog 62 #[.int .i64 port] W fun e w' => e = .returned (.bool (isW port)) ∧ w' = W) := fun W => implWordIs_any _ W
  have HEN : Hid (isW port = true → EnIn ⟨proto, inn, port⟩ ∧ 0 ≤ port ∧ port ≤ 65535) := fun h => by
    have := isIn_parts h
    exact ⟨⟨hin, hpr, ⟨by show _ ≤ port; omega, by show port ≤ _; omega⟩⟩, this⟩
  have HBF : Hid (∀ W m1 m2, Below w.heap.size w W → bookOk p x = true → isW port = true → BookAt W m1 m2 x.binds x.binds → Calls Try.prog 63 #[.agg #[.slice pa p.addrs.length pc, .int .i64 p.low, .int .i64 p.high, .int .i64 p.most, .int .i64 p.filter, .int .i64 p.lv.udp, .int .i64 p.lv.echo, .int .i64 p.lv.opening, .int .i64 p.lv.opn, .int .i64 p.lv.closing, .slice ba x.binds.length ca, .slice bo x.sess.length cb, .map (some m1), .map (some m2)], .agg #[.int .i64 proto, .string inn, .int .i64 port]] W fun e w' => e = .returned (.tuple #[bdC (bindForV p x.binds ⟨proto, inn, port⟩).1, .bool (bindForV p x.binds ⟨proto, inn, port⟩).2]) ∧ Below W.heap.size W w') := fun W m1 m2 hW hok hwd hbk => by
    have hpo : poolOk p = true := by unfold bookOk at hok; simp only [Bool.and_eq_true] at hok; exact hok.1.1.1.1
    have h := HEN.out hwd
    exact bindFor_any pa pc p ba bo ca cb x m1 m2 ⟨proto, inn, port⟩ W hpo h.1 h.2.1 h.2.2 hps hbl1 hgb hbk (hp.below hW) (hx.below hW)
  have HLV : Hid (lendV p x.binds proto inn port = if (bindForV p x.binds ⟨proto, inn, port⟩).2 = true then ((bindForV p x.binds ⟨proto, inn, port⟩).1, 0) else (bdZ, 9)) := bindFor_lend p x.binds ⟨proto, inn, port⟩
  have HCY : Hid (isW port = true → ∀ W, Calls Try.prog 64 #[bdC (bindForV p x.binds ⟨proto, inn, port⟩).1] W fun e w' => e = .returned (bdC (bindForV p x.binds ⟨proto, inn, port⟩).1) ∧ Below W.heap.size W w') := fun hwd W => by
    have h := bindFor_sz (h := ⟨proto, inn, port⟩) hps hgb (HEN.out hwd).1
    exact copyBind_any _ W h.1 h.2
  generalize portForV p x proto inn port = ans at *
  generalize lendV p x.binds proto inn port = lv at *
  generalize (bindForV p x.binds ⟨proto, inn, port⟩).1 = c at *
  generalize (bindForV p x.binds ⟨proto, inn, port⟩).2 = fd at *
  generalize protoB proto = t1 at *
  generalize addrOk inn = t2 at *
  generalize isW port = t3 at *
  unfold bdC at HBF HCY
  have hRw : w.heap.size ≤ w.heap.size + 1 + 1 := by omega
  have hun : undef = Value.tuple #[] := rfl
  clear hp hx hgb hgs hps
  unfold plC bbC
  go_enter Try.func24, Try.ntmps24
  go_upto_region 1 with fail
  generalize ((w.alloc (.cells #[.slice pa p.addrs.length pc, .int .i64 p.low, .int .i64 p.high, .int .i64 p.most, .int .i64 p.filter, .int .i64 p.lv.udp, .int .i64 p.lv.echo, .int .i64 p.lv.opening, .int .i64 p.lv.opn, .int .i64 p.lv.closing] 31)).alloc (.cells #[.slice ba x.binds.length ca, .slice bo x.sess.length cb] 44)).alloc (.cells #[.slice none 0 0, .slice none 0 0, .int .i64 0, .string ⟨#[]⟩, .int .i64 0, .string ⟨#[]⟩, .int .i64 0, .int .i64 0] 54) = W0 at *
  go_wp2_with fail
  refine (HTL.out _).mono ?_
  rintro e W0 ⟨rfl, rfl⟩
  by_cases hs : 20000 < inn.size
  case pos =>
    have hd : decide (20000 < inn.size) = true := decide_eq_true hs
    rw [hd]
    have HX : Hid (ans = ⟨bbZ, bdZ, 2⟩) := by unfold Hid; rw [HV.out, if_pos hs]
    have z0 : W0.cell? ⟨w.heap.size + 1 + 1, 0, none⟩ = some (.slice none 0 0) := HR.out.cell rfl
    have zf0 : W0.frozen? ⟨w.heap.size + 1 + 1, 0, none⟩ = false := HR.out.free (j := 0) (by simp)
    have z1 : W0.cell? ⟨w.heap.size + 1 + 1, 1, none⟩ = some (.slice none 0 0) := HR.out.cell rfl
    have zf1 : W0.frozen? ⟨w.heap.size + 1 + 1, 1, none⟩ = false := HR.out.free (j := 1) (by simp)
    have z2 : W0.cell? ⟨w.heap.size + 1 + 1, 2, none⟩ = some (.int .i64 0) := HR.out.cell rfl
    have zf2 : W0.frozen? ⟨w.heap.size + 1 + 1, 2, none⟩ = false := HR.out.free (j := 2) (by simp)
    have z3 : W0.cell? ⟨w.heap.size + 1 + 1, 3, none⟩ = some (.string ⟨#[]⟩) := HR.out.cell rfl
    have zf3 : W0.frozen? ⟨w.heap.size + 1 + 1, 3, none⟩ = false := HR.out.free (j := 3) (by simp)
    have z4 : W0.cell? ⟨w.heap.size + 1 + 1, 4, none⟩ = some (.int .i64 0) := HR.out.cell rfl
    have zf4 : W0.frozen? ⟨w.heap.size + 1 + 1, 4, none⟩ = false := HR.out.free (j := 4) (by simp)
    have z5 : W0.cell? ⟨w.heap.size + 1 + 1, 5, none⟩ = some (.string ⟨#[]⟩) := HR.out.cell rfl
    have zf5 : W0.frozen? ⟨w.heap.size + 1 + 1, 5, none⟩ = false := HR.out.free (j := 5) (by simp)
    have z6 : W0.cell? ⟨w.heap.size + 1 + 1, 6, none⟩ = some (.int .i64 0) := HR.out.cell rfl
    have zf6 : W0.frozen? ⟨w.heap.size + 1 + 1, 6, none⟩ = false := HR.out.free (j := 6) (by simp)
    have z7 : W0.cell? ⟨w.heap.size + 1 + 1, 7, none⟩ = some (.int .i64 0) := HR.out.cell rfl
    have zf7 : W0.frozen? ⟨w.heap.size + 1 + 1, 7, none⟩ = false := HR.out.free (j := 7) (by simp)
    go_wp2_with fail
    refine bodyPost_ret (v := .agg #[.slice none 0 0, .slice none 0 0, .int .i64 0, .string ⟨#[]⟩, .int .i64 0, .string ⟨#[]⟩, .int .i64 0, .int .i64 2]) (by simp [results, Try.results24, go_sem, z0, z1, z2, z3, z4, z5, z6, z7]) rfl (And.intro (by rw [HX.out]; rfl) ?_)
    exact ((((((((HZ0.out.setCell (p := ⟨w.heap.size + 1 + 1, 0, none⟩) hRw _).setCell (p := ⟨w.heap.size + 1 + 1, 1, none⟩) hRw _).setCell (p := ⟨w.heap.size + 1 + 1, 2, none⟩) hRw _).setCell (p := ⟨w.heap.size + 1 + 1, 3, none⟩) hRw _).setCell (p := ⟨w.heap.size + 1 + 1, 4, none⟩) hRw _).setCell (p := ⟨w.heap.size + 1 + 1, 5, none⟩) hRw _).setCell (p := ⟨w.heap.size + 1 + 1, 6, none⟩) hRw _).setCell (p := ⟨w.heap.size + 1 + 1, 7, none⟩) hRw _)
  have hd : decide (20000 < inn.size) = false := decide_eq_false hs
  rw [hd]
  have HV1 : Hid (ans = if (bibOk p x && t1 && t2 && t3) = true then ⟨bbZ, lv.1, lv.2⟩ else ⟨bbZ, bdZ, 1⟩) := by unfold Hid; rw [HV.out, if_neg hs]
  clear HV hd hs
  have k0 : W0.cell? ⟨w.heap.size, 0, none⟩ = some (.slice pa p.addrs.length pc) := HP.out.cell rfl
  have k1 : W0.cell? ⟨w.heap.size, 1, none⟩ = some (.int .i64 p.low) := HP.out.cell rfl
  have k2 : W0.cell? ⟨w.heap.size, 2, none⟩ = some (.int .i64 p.high) := HP.out.cell rfl
  have k3 : W0.cell? ⟨w.heap.size, 3, none⟩ = some (.int .i64 p.most) := HP.out.cell rfl
  have k4 : W0.cell? ⟨w.heap.size, 4, none⟩ = some (.int .i64 p.filter) := HP.out.cell rfl
  have k5 : W0.cell? ⟨w.heap.size, 5, none⟩ = some (.int .i64 p.lv.udp) := HP.out.cell rfl
  have k6 : W0.cell? ⟨w.heap.size, 6, none⟩ = some (.int .i64 p.lv.echo) := HP.out.cell rfl
  have k7 : W0.cell? ⟨w.heap.size, 7, none⟩ = some (.int .i64 p.lv.opening) := HP.out.cell rfl
  have k8 : W0.cell? ⟨w.heap.size, 8, none⟩ = some (.int .i64 p.lv.opn) := HP.out.cell rfl
  have k9 : W0.cell? ⟨w.heap.size, 9, none⟩ = some (.int .i64 p.lv.closing) := HP.out.cell rfl
  have c0 : W0.cell? ⟨(w.heap.size + 1), 0, none⟩ = some (.slice ba x.binds.length ca) := HB.out.cell rfl
  have c1 : W0.cell? ⟨(w.heap.size + 1), 1, none⟩ = some (.slice bo x.sess.length cb) := HB.out.cell rfl
  go_wp2_with fail
  refine (HOP.out _ HZ0.out).mono ?_
  rintro e w1 ⟨q1, hh⟩
  have B1 : Hid (Below w.heap.size w w1) := HZ0.out.trans (q1.mono HZ0.out.size)
  have R1 : Hid (HoldsL w1 (w.heap.size + 1 + 1) [.slice none 0 0, .slice none 0 0, .int .i64 0, .string ⟨#[]⟩, .int .i64 0, .string ⟨#[]⟩, .int .i64 0, .int .i64 0]) := HR.out.kept (by simp) q1
  clear q1 HZ0 HP HB HR HOP k0 k1 k2 k3 k4 k5 k6 k7 k8 k9 c0 c1
  rcases hh with ⟨hok, rfl⟩ | ⟨hok, m1, m2, rfl, hm1, hm2, hbk⟩
  · have HX : Hid (ans = ⟨bbZ, bdZ, 1⟩) := by unfold Hid; rw [HV1.out, ← HV0.out, hok]; rfl
    unfold bkZ
    clear hok
    go_upto_region 4 with fail
    have B2 : Hid (Below w.heap.size w (w1.alloc (.cells #[.slice none 0 0, .int .i64 0, .int .i64 0, .int .i64 0, .int .i64 0, .int .i64 0, .int .i64 0, .int .i64 0, .int .i64 0, .int .i64 0, .slice none 0 0, .slice none 0 0, .map none, .map none] 81))) := B1.out.alloc B1.out.size _
    have R2 : Hid (HoldsL (w1.alloc (.cells #[.slice none 0 0, .int .i64 0, .int .i64 0, .int .i64 0, .int .i64 0, .int .i64 0, .int .i64 0, .int .i64 0, .int .i64 0, .int .i64 0, .slice none 0 0, .slice none 0 0, .map none, .map none] 81)) (w.heap.size + 1 + 1) [.slice none 0 0, .slice none 0 0, .int .i64 0, .string ⟨#[]⟩, .int .i64 0, .string ⟨#[]⟩, .int .i64 0, .int .i64 0]) := R1.out.alloc _
    generalize w1.alloc (.cells #[.slice none 0 0, .int .i64 0, .int .i64 0, .int .i64 0, .int .i64 0, .int .i64 0, .int .i64 0, .int .i64 0, .int .i64 0, .int .i64 0, .slice none 0 0, .slice none 0 0, .map none, .map none] 81) = W2 at *
    have z0 : W2.cell? ⟨w.heap.size + 1 + 1, 0, none⟩ = some (.slice none 0 0) := R2.out.cell rfl
    have zf0 : W2.frozen? ⟨w.heap.size + 1 + 1, 0, none⟩ = false := R2.out.free (j := 0) (by simp)
    have z1 : W2.cell? ⟨w.heap.size + 1 + 1, 1, none⟩ = some (.slice none 0 0) := R2.out.cell rfl
    have zf1 : W2.frozen? ⟨w.heap.size + 1 + 1, 1, none⟩ = false := R2.out.free (j := 1) (by simp)
    have z2 : W2.cell? ⟨w.heap.size + 1 + 1, 2, none⟩ = some (.int .i64 0) := R2.out.cell rfl
    have zf2 : W2.frozen? ⟨w.heap.size + 1 + 1, 2, none⟩ = false := R2.out.free (j := 2) (by simp)
    have z3 : W2.cell? ⟨w.heap.size + 1 + 1, 3, none⟩ = some (.string ⟨#[]⟩) := R2.out.cell rfl
    have zf3 : W2.frozen? ⟨w.heap.size + 1 + 1, 3, none⟩ = false := R2.out.free (j := 3) (by simp)
    have z4 : W2.cell? ⟨w.heap.size + 1 + 1, 4, none⟩ = some (.int .i64 0) := R2.out.cell rfl
    have zf4 : W2.frozen? ⟨w.heap.size + 1 + 1, 4, none⟩ = false := R2.out.free (j := 4) (by simp)
    have z5 : W2.cell? ⟨w.heap.size + 1 + 1, 5, none⟩ = some (.string ⟨#[]⟩) := R2.out.cell rfl
    have zf5 : W2.frozen? ⟨w.heap.size + 1 + 1, 5, none⟩ = false := R2.out.free (j := 5) (by simp)
    have z6 : W2.cell? ⟨w.heap.size + 1 + 1, 6, none⟩ = some (.int .i64 0) := R2.out.cell rfl
    have zf6 : W2.frozen? ⟨w.heap.size + 1 + 1, 6, none⟩ = false := R2.out.free (j := 6) (by simp)
    have z7 : W2.cell? ⟨w.heap.size + 1 + 1, 7, none⟩ = some (.int .i64 0) := R2.out.cell rfl
    have zf7 : W2.frozen? ⟨w.heap.size + 1 + 1, 7, none⟩ = false := R2.out.free (j := 7) (by simp)
    go_wp2_with fail
    refine bodyPost_ret (v := .agg #[.slice none 0 0, .slice none 0 0, .int .i64 0, .string ⟨#[]⟩, .int .i64 0, .string ⟨#[]⟩, .int .i64 0, .int .i64 1]) (by simp [results, Try.results24, go_sem, z0, z1, z2, z3, z4, z5, z6, z7]) rfl (And.intro (by rw [HX.out]; rfl) ?_)
    exact ((((((((B2.out.setCell (p := ⟨w.heap.size + 1 + 1, 0, none⟩) hRw _).setCell (p := ⟨w.heap.size + 1 + 1, 1, none⟩) hRw _).setCell (p := ⟨w.heap.size + 1 + 1, 2, none⟩) hRw _).setCell (p := ⟨w.heap.size + 1 + 1, 3, none⟩) hRw _).setCell (p := ⟨w.heap.size + 1 + 1, 4, none⟩) hRw _).setCell (p := ⟨w.heap.size + 1 + 1, 5, none⟩) hRw _).setCell (p := ⟨w.heap.size + 1 + 1, 6, none⟩) hRw _).setCell (p := ⟨w.heap.size + 1 + 1, 7, none⟩) hRw _)
  · have HOK : Hid (bookOk p x = true) := hok
    have HBK : Hid (BookAt w1 m1 m2 x.binds x.binds) := hbk
    have HV2 : Hid (ans = if (t1 && t2 && t3) = true then ⟨bbZ, lv.1, lv.2⟩ else ⟨bbZ, bdZ, 1⟩) := by unfold Hid; rw [HV1.out, ← HV0.out, hok]; rfl
    clear hok hbk HV1 HV0
    unfold bkC
    go_upto_region 4 with fail
    have bn : Below w1.heap.size w1 (w1.alloc (.cells #[.slice pa p.addrs.length pc, .int .i64 p.low, .int .i64 p.high, .int .i64 p.most, .int .i64 p.filter, .int .i64 p.lv.udp, .int .i64 p.lv.echo, .int .i64 p.lv.opening, .int .i64 p.lv.opn, .int .i64 p.lv.closing, .slice ba x.binds.length ca, .slice bo x.sess.length cb, .map (some m1), .map (some m2)] 81)) := (Below.refl _ _).alloc (Nat.le_refl _) _
    have HKB : Hid (HoldsL (w1.alloc (.cells #[.slice pa p.addrs.length pc, .int .i64 p.low, .int .i64 p.high, .int .i64 p.most, .int .i64 p.filter, .int .i64 p.lv.udp, .int .i64 p.lv.echo, .int .i64 p.lv.opening, .int .i64 p.lv.opn, .int .i64 p.lv.closing, .slice ba x.binds.length ca, .slice bo x.sess.length cb, .map (some m1), .map (some m2)] 81)) w1.heap.size [.slice pa p.addrs.length pc, .int .i64 p.low, .int .i64 p.high, .int .i64 p.most, .int .i64 p.filter, .int .i64 p.lv.udp, .int .i64 p.lv.echo, .int .i64 p.lv.opening, .int .i64 p.lv.opn, .int .i64 p.lv.closing, .slice ba x.binds.length ca, .slice bo x.sess.length cb, .map (some m1), .map (some m2)]) := HoldsL.new w1 [.slice pa p.addrs.length pc, .int .i64 p.low, .int .i64 p.high, .int .i64 p.most, .int .i64 p.filter, .int .i64 p.lv.udp, .int .i64 p.lv.echo, .int .i64 p.lv.opening, .int .i64 p.lv.opn, .int .i64 p.lv.closing, .slice ba x.binds.length ca, .slice bo x.sess.length cb, .map (some m1), .map (some m2)] 81
    have B2 : Hid (Below w.heap.size w (w1.alloc (.cells #[.slice pa p.addrs.length pc, .int .i64 p.low, .int .i64 p.high, .int .i64 p.most, .int .i64 p.filter, .int .i64 p.lv.udp, .int .i64 p.lv.echo, .int .i64 p.lv.opening, .int .i64 p.lv.opn, .int .i64 p.lv.closing, .slice ba x.binds.length ca, .slice bo x.sess.length cb, .map (some m1), .map (some m2)] 81))) := B1.out.trans (bn.mono B1.out.size)
    have R2 : Hid (HoldsL (w1.alloc (.cells #[.slice pa p.addrs.length pc, .int .i64 p.low, .int .i64 p.high, .int .i64 p.most, .int .i64 p.filter, .int .i64 p.lv.udp, .int .i64 p.lv.echo, .int .i64 p.lv.opening, .int .i64 p.lv.opn, .int .i64 p.lv.closing, .slice ba x.binds.length ca, .slice bo x.sess.length cb, .map (some m1), .map (some m2)] 81)) (w.heap.size + 1 + 1) [.slice none 0 0, .slice none 0 0, .int .i64 0, .string ⟨#[]⟩, .int .i64 0, .string ⟨#[]⟩, .int .i64 0, .int .i64 0]) := R1.out.kept (by simp) bn
    have HBK2 : Hid (BookAt (w1.alloc (.cells #[.slice pa p.addrs.length pc, .int .i64 p.low, .int .i64 p.high, .int .i64 p.most, .int .i64 p.filter, .int .i64 p.lv.udp, .int .i64 p.lv.echo, .int .i64 p.lv.opening, .int .i64 p.lv.opn, .int .i64 p.lv.closing, .slice ba x.binds.length ca, .slice bo x.sess.length cb, .map (some m1), .map (some m2)] 81)) m1 m2 x.binds x.binds) := HBK.out.kept bn
    generalize w1.alloc (.cells #[.slice pa p.addrs.length pc, .int .i64 p.low, .int .i64 p.high, .int .i64 p.most, .int .i64 p.filter, .int .i64 p.lv.udp, .int .i64 p.lv.echo, .int .i64 p.lv.opening, .int .i64 p.lv.opn, .int .i64 p.lv.closing, .slice ba x.binds.length ca, .slice bo x.sess.length cb, .map (some m1), .map (some m2)] 81) = W2 at *
    clear bn B1 R1 HBK
    generalize w1.heap.size = Bk at *
    go_wp2_with fail
    refine (HIB.out _).mono ?_
    rintro e W2 ⟨rfl, rfl⟩
    cases t1 with
    | false =>
      have HX : Hid (ans = ⟨bbZ, bdZ, 1⟩) := by unfold Hid; rw [HV2.out]; rfl
      have z0 : W2.cell? ⟨w.heap.size + 1 + 1, 0, none⟩ = some (.slice none 0 0) := R2.out.cell rfl
      have zf0 : W2.frozen? ⟨w.heap.size + 1 + 1, 0, none⟩ = false := R2.out.free (j := 0) (by simp)
      have z1 : W2.cell? ⟨w.heap.size + 1 + 1, 1, none⟩ = some (.slice none 0 0) := R2.out.cell rfl
      have zf1 : W2.frozen? ⟨w.heap.size + 1 + 1, 1, none⟩ = false := R2.out.free (j := 1) (by simp)
      have z2 : W2.cell? ⟨w.heap.size + 1 + 1, 2, none⟩ = some (.int .i64 0) := R2.out.cell rfl
      have zf2 : W2.frozen? ⟨w.heap.size + 1 + 1, 2, none⟩ = false := R2.out.free (j := 2) (by simp)
      have z3 : W2.cell? ⟨w.heap.size + 1 + 1, 3, none⟩ = some (.string ⟨#[]⟩) := R2.out.cell rfl
      have zf3 : W2.frozen? ⟨w.heap.size + 1 + 1, 3, none⟩ = false := R2.out.free (j := 3) (by simp)
      have z4 : W2.cell? ⟨w.heap.size + 1 + 1, 4, none⟩ = some (.int .i64 0) := R2.out.cell rfl
      have zf4 : W2.frozen? ⟨w.heap.size + 1 + 1, 4, none⟩ = false := R2.out.free (j := 4) (by simp)
      have z5 : W2.cell? ⟨w.heap.size + 1 + 1, 5, none⟩ = some (.string ⟨#[]⟩) := R2.out.cell rfl
      have zf5 : W2.frozen? ⟨w.heap.size + 1 + 1, 5, none⟩ = false := R2.out.free (j := 5) (by simp)
      have z6 : W2.cell? ⟨w.heap.size + 1 + 1, 6, none⟩ = some (.int .i64 0) := R2.out.cell rfl
      have zf6 : W2.frozen? ⟨w.heap.size + 1 + 1, 6, none⟩ = false := R2.out.free (j := 6) (by simp)
      have z7 : W2.cell? ⟨w.heap.size + 1 + 1, 7, none⟩ = some (.int .i64 0) := R2.out.cell rfl
      have zf7 : W2.frozen? ⟨w.heap.size + 1 + 1, 7, none⟩ = false := R2.out.free (j := 7) (by simp)
      go_wp2_with fail
      refine bodyPost_ret (v := .agg #[.slice none 0 0, .slice none 0 0, .int .i64 0, .string ⟨#[]⟩, .int .i64 0, .string ⟨#[]⟩, .int .i64 0, .int .i64 1]) (by simp [results, Try.results24, go_sem, z0, z1, z2, z3, z4, z5, z6, z7]) rfl (And.intro (by rw [HX.out]; rfl) ?_)
      exact ((((((((B2.out.setCell (p := ⟨w.heap.size + 1 + 1, 0, none⟩) hRw _).setCell (p := ⟨w.heap.size + 1 + 1, 1, none⟩) hRw _).setCell (p := ⟨w.heap.size + 1 + 1, 2, none⟩) hRw _).setCell (p := ⟨w.heap.size + 1 + 1, 3, none⟩) hRw _).setCell (p := ⟨w.heap.size + 1 + 1, 4, none⟩) hRw _).setCell (p := ⟨w.heap.size + 1 + 1, 5, none⟩) hRw _).setCell (p := ⟨w.heap.size + 1 + 1, 6, none⟩) hRw _).setCell (p := ⟨w.heap.size + 1 + 1, 7, none⟩) hRw _)
    | true =>
    go_wp2_with fail
    refine (HIA.out _).mono ?_
    rintro e W2 ⟨rfl, rfl⟩
    cases t2 with
    | false =>
      have HX : Hid (ans = ⟨bbZ, bdZ, 1⟩) := by unfold Hid; rw [HV2.out]; rfl
      have z0 : W2.cell? ⟨w.heap.size + 1 + 1, 0, none⟩ = some (.slice none 0 0) := R2.out.cell rfl
      have zf0 : W2.frozen? ⟨w.heap.size + 1 + 1, 0, none⟩ = false := R2.out.free (j := 0) (by simp)
      have z1 : W2.cell? ⟨w.heap.size + 1 + 1, 1, none⟩ = some (.slice none 0 0) := R2.out.cell rfl
      have zf1 : W2.frozen? ⟨w.heap.size + 1 + 1, 1, none⟩ = false := R2.out.free (j := 1) (by simp)
      have z2 : W2.cell? ⟨w.heap.size + 1 + 1, 2, none⟩ = some (.int .i64 0) := R2.out.cell rfl
      have zf2 : W2.frozen? ⟨w.heap.size + 1 + 1, 2, none⟩ = false := R2.out.free (j := 2) (by simp)
      have z3 : W2.cell? ⟨w.heap.size + 1 + 1, 3, none⟩ = some (.string ⟨#[]⟩) := R2.out.cell rfl
      have zf3 : W2.frozen? ⟨w.heap.size + 1 + 1, 3, none⟩ = false := R2.out.free (j := 3) (by simp)
      have z4 : W2.cell? ⟨w.heap.size + 1 + 1, 4, none⟩ = some (.int .i64 0) := R2.out.cell rfl
      have zf4 : W2.frozen? ⟨w.heap.size + 1 + 1, 4, none⟩ = false := R2.out.free (j := 4) (by simp)
      have z5 : W2.cell? ⟨w.heap.size + 1 + 1, 5, none⟩ = some (.string ⟨#[]⟩) := R2.out.cell rfl
      have zf5 : W2.frozen? ⟨w.heap.size + 1 + 1, 5, none⟩ = false := R2.out.free (j := 5) (by simp)
      have z6 : W2.cell? ⟨w.heap.size + 1 + 1, 6, none⟩ = some (.int .i64 0) := R2.out.cell rfl
      have zf6 : W2.frozen? ⟨w.heap.size + 1 + 1, 6, none⟩ = false := R2.out.free (j := 6) (by simp)
      have z7 : W2.cell? ⟨w.heap.size + 1 + 1, 7, none⟩ = some (.int .i64 0) := R2.out.cell rfl
      have zf7 : W2.frozen? ⟨w.heap.size + 1 + 1, 7, none⟩ = false := R2.out.free (j := 7) (by simp)
      go_wp2_with fail
      refine bodyPost_ret (v := .agg #[.slice none 0 0, .slice none 0 0, .int .i64 0, .string ⟨#[]⟩, .int .i64 0, .string ⟨#[]⟩, .int .i64 0, .int .i64 1]) (by simp [results, Try.results24, go_sem, z0, z1, z2, z3, z4, z5, z6, z7]) rfl (And.intro (by rw [HX.out]; rfl) ?_)
      exact ((((((((B2.out.setCell (p := ⟨w.heap.size + 1 + 1, 0, none⟩) hRw _).setCell (p := ⟨w.heap.size + 1 + 1, 1, none⟩) hRw _).setCell (p := ⟨w.heap.size + 1 + 1, 2, none⟩) hRw _).setCell (p := ⟨w.heap.size + 1 + 1, 3, none⟩) hRw _).setCell (p := ⟨w.heap.size + 1 + 1, 4, none⟩) hRw _).setCell (p := ⟨w.heap.size + 1 + 1, 5, none⟩) hRw _).setCell (p := ⟨w.heap.size + 1 + 1, 6, none⟩) hRw _).setCell (p := ⟨w.heap.size + 1 + 1, 7, none⟩) hRw _)
    | true =>
    go_wp2_with fail
    refine (HIW.out _).mono ?_
    rintro e W2 ⟨rfl, rfl⟩
    cases t3 with
    | false =>
      have HX : Hid (ans = ⟨bbZ, bdZ, 1⟩) := by unfold Hid; rw [HV2.out]; rfl
      have z0 : W2.cell? ⟨w.heap.size + 1 + 1, 0, none⟩ = some (.slice none 0 0) := R2.out.cell rfl
      have zf0 : W2.frozen? ⟨w.heap.size + 1 + 1, 0, none⟩ = false := R2.out.free (j := 0) (by simp)
      have z1 : W2.cell? ⟨w.heap.size + 1 + 1, 1, none⟩ = some (.slice none 0 0) := R2.out.cell rfl
      have zf1 : W2.frozen? ⟨w.heap.size + 1 + 1, 1, none⟩ = false := R2.out.free (j := 1) (by simp)
      have z2 : W2.cell? ⟨w.heap.size + 1 + 1, 2, none⟩ = some (.int .i64 0) := R2.out.cell rfl
      have zf2 : W2.frozen? ⟨w.heap.size + 1 + 1, 2, none⟩ = false := R2.out.free (j := 2) (by simp)
      have z3 : W2.cell? ⟨w.heap.size + 1 + 1, 3, none⟩ = some (.string ⟨#[]⟩) := R2.out.cell rfl
      have zf3 : W2.frozen? ⟨w.heap.size + 1 + 1, 3, none⟩ = false := R2.out.free (j := 3) (by simp)
      have z4 : W2.cell? ⟨w.heap.size + 1 + 1, 4, none⟩ = some (.int .i64 0) := R2.out.cell rfl
      have zf4 : W2.frozen? ⟨w.heap.size + 1 + 1, 4, none⟩ = false := R2.out.free (j := 4) (by simp)
      have z5 : W2.cell? ⟨w.heap.size + 1 + 1, 5, none⟩ = some (.string ⟨#[]⟩) := R2.out.cell rfl
      have zf5 : W2.frozen? ⟨w.heap.size + 1 + 1, 5, none⟩ = false := R2.out.free (j := 5) (by simp)
      have z6 : W2.cell? ⟨w.heap.size + 1 + 1, 6, none⟩ = some (.int .i64 0) := R2.out.cell rfl
      have zf6 : W2.frozen? ⟨w.heap.size + 1 + 1, 6, none⟩ = false := R2.out.free (j := 6) (by simp)
      have z7 : W2.cell? ⟨w.heap.size + 1 + 1, 7, none⟩ = some (.int .i64 0) := R2.out.cell rfl
      have zf7 : W2.frozen? ⟨w.heap.size + 1 + 1, 7, none⟩ = false := R2.out.free (j := 7) (by simp)
      go_wp2_with fail
      refine bodyPost_ret (v := .agg #[.slice none 0 0, .slice none 0 0, .int .i64 0, .string ⟨#[]⟩, .int .i64 0, .string ⟨#[]⟩, .int .i64 0, .int .i64 1]) (by simp [results, Try.results24, go_sem, z0, z1, z2, z3, z4, z5, z6, z7]) rfl (And.intro (by rw [HX.out]; rfl) ?_)
      exact ((((((((B2.out.setCell (p := ⟨w.heap.size + 1 + 1, 0, none⟩) hRw _).setCell (p := ⟨w.heap.size + 1 + 1, 1, none⟩) hRw _).setCell (p := ⟨w.heap.size + 1 + 1, 2, none⟩) hRw _).setCell (p := ⟨w.heap.size + 1 + 1, 3, none⟩) hRw _).setCell (p := ⟨w.heap.size + 1 + 1, 4, none⟩) hRw _).setCell (p := ⟨w.heap.size + 1 + 1, 5, none⟩) hRw _).setCell (p := ⟨w.heap.size + 1 + 1, 6, none⟩) hRw _).setCell (p := ⟨w.heap.size + 1 + 1, 7, none⟩) hRw _)
    | true =>
    have HV3 : Hid (ans = ⟨bbZ, lv.1, lv.2⟩) := by unfold Hid; rw [HV2.out]; rfl
    have HBF2 : Hid _ := HBF.out W2 m1 m2 B2.out HOK.out rfl HBK2.out
    have HCY2 : Hid _ := HCY.out rfl
    have k0 : W2.cell? ⟨Bk, 0, none⟩ = some (.slice pa p.addrs.length pc) := HKB.out.cell rfl
    have k1 : W2.cell? ⟨Bk, 1, none⟩ = some (.int .i64 p.low) := HKB.out.cell rfl
    have k2 : W2.cell? ⟨Bk, 2, none⟩ = some (.int .i64 p.high) := HKB.out.cell rfl
    have k3 : W2.cell? ⟨Bk, 3, none⟩ = some (.int .i64 p.most) := HKB.out.cell rfl
    have k4 : W2.cell? ⟨Bk, 4, none⟩ = some (.int .i64 p.filter) := HKB.out.cell rfl
    have k5 : W2.cell? ⟨Bk, 5, none⟩ = some (.int .i64 p.lv.udp) := HKB.out.cell rfl
    have k6 : W2.cell? ⟨Bk, 6, none⟩ = some (.int .i64 p.lv.echo) := HKB.out.cell rfl
    have k7 : W2.cell? ⟨Bk, 7, none⟩ = some (.int .i64 p.lv.opening) := HKB.out.cell rfl
    have k8 : W2.cell? ⟨Bk, 8, none⟩ = some (.int .i64 p.lv.opn) := HKB.out.cell rfl
    have k9 : W2.cell? ⟨Bk, 9, none⟩ = some (.int .i64 p.lv.closing) := HKB.out.cell rfl
    have k10 : W2.cell? ⟨Bk, 10, none⟩ = some (.slice ba x.binds.length ca) := HKB.out.cell rfl
    have k11 : W2.cell? ⟨Bk, 11, none⟩ = some (.slice bo x.sess.length cb) := HKB.out.cell rfl
    have k12 : W2.cell? ⟨Bk, 12, none⟩ = some (.map (some m1)) := HKB.out.cell rfl
    have k13 : W2.cell? ⟨Bk, 13, none⟩ = some (.map (some m2)) := HKB.out.cell rfl
    go_wp2_with fail
    refine Calls.mono HBF2.out ?_
    rintro e w3 ⟨rfl, q3⟩
    have B3 : Below w.heap.size w w3 := B2.out.trans (q3.mono B2.out.size)
    have R3 : HoldsL w3 (w.heap.size + 1 + 1) [.slice none 0 0, .slice none 0 0, .int .i64 0, .string ⟨#[]⟩, .int .i64 0, .string ⟨#[]⟩, .int .i64 0, .int .i64 0] := R2.out.kept (by simp) q3
    clear q3 B2 R2 HBF HBF2 HKB HBK2 HCY HV2 HIB HIA HIW k0 k1 k2 k3 k4 k5 k6 k7 k8 k9 k10 k11 k12 k13
    go_upto_region 7 with fail
    have B4 : Hid (Below w.heap.size w (w3.alloc (.cells #[.int .i64 c.proto, .string c.inn, .int .i64 c.inPort, .string c.out, .int .i64 c.outPort] 49))) := B3.alloc B3.size _
    have R4 : Hid (HoldsL (w3.alloc (.cells #[.int .i64 c.proto, .string c.inn, .int .i64 c.inPort, .string c.out, .int .i64 c.outPort] 49)) (w.heap.size + 1 + 1) [.slice none 0 0, .slice none 0 0, .int .i64 0, .string ⟨#[]⟩, .int .i64 0, .string ⟨#[]⟩, .int .i64 0, .int .i64 0]) := R3.alloc _
    have HC4 : Hid (HoldsL (w3.alloc (.cells #[.int .i64 c.proto, .string c.inn, .int .i64 c.inPort, .string c.out, .int .i64 c.outPort] 49)) w3.heap.size [.int .i64 c.proto, .string c.inn, .int .i64 c.inPort, .string c.out, .int .i64 c.outPort]) := HoldsL.new w3 [.int .i64 c.proto, .string c.inn, .int .i64 c.inPort, .string c.out, .int .i64 c.outPort] 49
    generalize w3.alloc (.cells #[.int .i64 c.proto, .string c.inn, .int .i64 c.inPort, .string c.out, .int .i64 c.outPort] 49) = W4 at *
    clear B3 R3
    generalize w3.heap.size = Bc at *
    cases fd with
    | false =>
      have HX : Hid (ans = ⟨bbZ, bdZ, 9⟩) := by unfold Hid; rw [HV3.out, HLV.out]; rfl
      have z0 : W4.cell? ⟨w.heap.size + 1 + 1, 0, none⟩ = some (.slice none 0 0) := R4.out.cell rfl
      have zf0 : W4.frozen? ⟨w.heap.size + 1 + 1, 0, none⟩ = false := R4.out.free (j := 0) (by simp)
      have z1 : W4.cell? ⟨w.heap.size + 1 + 1, 1, none⟩ = some (.slice none 0 0) := R4.out.cell rfl
      have zf1 : W4.frozen? ⟨w.heap.size + 1 + 1, 1, none⟩ = false := R4.out.free (j := 1) (by simp)
      have z2 : W4.cell? ⟨w.heap.size + 1 + 1, 2, none⟩ = some (.int .i64 0) := R4.out.cell rfl
      have zf2 : W4.frozen? ⟨w.heap.size + 1 + 1, 2, none⟩ = false := R4.out.free (j := 2) (by simp)
      have z3 : W4.cell? ⟨w.heap.size + 1 + 1, 3, none⟩ = some (.string ⟨#[]⟩) := R4.out.cell rfl
      have zf3 : W4.frozen? ⟨w.heap.size + 1 + 1, 3, none⟩ = false := R4.out.free (j := 3) (by simp)
      have z4 : W4.cell? ⟨w.heap.size + 1 + 1, 4, none⟩ = some (.int .i64 0) := R4.out.cell rfl
      have zf4 : W4.frozen? ⟨w.heap.size + 1 + 1, 4, none⟩ = false := R4.out.free (j := 4) (by simp)
      have z5 : W4.cell? ⟨w.heap.size + 1 + 1, 5, none⟩ = some (.string ⟨#[]⟩) := R4.out.cell rfl
      have zf5 : W4.frozen? ⟨w.heap.size + 1 + 1, 5, none⟩ = false := R4.out.free (j := 5) (by simp)
      have z6 : W4.cell? ⟨w.heap.size + 1 + 1, 6, none⟩ = some (.int .i64 0) := R4.out.cell rfl
      have zf6 : W4.frozen? ⟨w.heap.size + 1 + 1, 6, none⟩ = false := R4.out.free (j := 6) (by simp)
      have z7 : W4.cell? ⟨w.heap.size + 1 + 1, 7, none⟩ = some (.int .i64 0) := R4.out.cell rfl
      have zf7 : W4.frozen? ⟨w.heap.size + 1 + 1, 7, none⟩ = false := R4.out.free (j := 7) (by simp)
      go_wp2_with fail
      refine bodyPost_ret (v := .agg #[.slice none 0 0, .slice none 0 0, .int .i64 0, .string ⟨#[]⟩, .int .i64 0, .string ⟨#[]⟩, .int .i64 0, .int .i64 9]) (by simp [results, Try.results24, go_sem, z0, z1, z2, z3, z4, z5, z6, z7]) rfl (And.intro (by rw [HX.out]; rfl) ?_)
      exact ((((((((B4.out.setCell (p := ⟨w.heap.size + 1 + 1, 0, none⟩) hRw _).setCell (p := ⟨w.heap.size + 1 + 1, 1, none⟩) hRw _).setCell (p := ⟨w.heap.size + 1 + 1, 2, none⟩) hRw _).setCell (p := ⟨w.heap.size + 1 + 1, 3, none⟩) hRw _).setCell (p := ⟨w.heap.size + 1 + 1, 4, none⟩) hRw _).setCell (p := ⟨w.heap.size + 1 + 1, 5, none⟩) hRw _).setCell (p := ⟨w.heap.size + 1 + 1, 6, none⟩) hRw _).setCell (p := ⟨w.heap.size + 1 + 1, 7, none⟩) hRw _)
    | true =>
      have HX : Hid (ans = ⟨bbZ, c, 0⟩) := by unfold Hid; rw [HV3.out, HLV.out]; rfl
      have y0 : W4.cell? ⟨Bc, 0, none⟩ = some (.int .i64 c.proto) := HC4.out.cell rfl
      have y1 : W4.cell? ⟨Bc, 1, none⟩ = some (.string c.inn) := HC4.out.cell rfl
      have y2 : W4.cell? ⟨Bc, 2, none⟩ = some (.int .i64 c.inPort) := HC4.out.cell rfl
      have y3 : W4.cell? ⟨Bc, 3, none⟩ = some (.string c.out) := HC4.out.cell rfl
      have y4 : W4.cell? ⟨Bc, 4, none⟩ = some (.int .i64 c.outPort) := HC4.out.cell rfl
      go_wp2_with fail
      refine (HCY2.out _).mono ?_
      rintro e w5 ⟨rfl, q5⟩
      have B5 : Hid (Below w.heap.size w w5) := B4.out.trans (q5.mono B4.out.size)
      have R5 : Hid (HoldsL w5 (w.heap.size + 1 + 1) [.slice none 0 0, .slice none 0 0, .int .i64 0, .string ⟨#[]⟩, .int .i64 0, .string ⟨#[]⟩, .int .i64 0, .int .i64 0]) := R4.out.kept (by simp) q5
      clear q5 B4 R4 HCY2 y0 y1 y2 y3 y4
      have z0 : w5.cell? ⟨w.heap.size + 1 + 1, 0, none⟩ = some (.slice none 0 0) := R5.out.cell rfl
      have zf0 : w5.frozen? ⟨w.heap.size + 1 + 1, 0, none⟩ = false := R5.out.free (j := 0) (by simp)
      have z1 : w5.cell? ⟨w.heap.size + 1 + 1, 1, none⟩ = some (.slice none 0 0) := R5.out.cell rfl
      have zf1 : w5.frozen? ⟨w.heap.size + 1 + 1, 1, none⟩ = false := R5.out.free (j := 1) (by simp)
      have z2 : w5.cell? ⟨w.heap.size + 1 + 1, 2, none⟩ = some (.int .i64 0) := R5.out.cell rfl
      have zf2 : w5.frozen? ⟨w.heap.size + 1 + 1, 2, none⟩ = false := R5.out.free (j := 2) (by simp)
      have z3 : w5.cell? ⟨w.heap.size + 1 + 1, 3, none⟩ = some (.string ⟨#[]⟩) := R5.out.cell rfl
      have zf3 : w5.frozen? ⟨w.heap.size + 1 + 1, 3, none⟩ = false := R5.out.free (j := 3) (by simp)
      have z4 : w5.cell? ⟨w.heap.size + 1 + 1, 4, none⟩ = some (.int .i64 0) := R5.out.cell rfl
      have zf4 : w5.frozen? ⟨w.heap.size + 1 + 1, 4, none⟩ = false := R5.out.free (j := 4) (by simp)
      have z5 : w5.cell? ⟨w.heap.size + 1 + 1, 5, none⟩ = some (.string ⟨#[]⟩) := R5.out.cell rfl
      have zf5 : w5.frozen? ⟨w.heap.size + 1 + 1, 5, none⟩ = false := R5.out.free (j := 5) (by simp)
      have z6 : w5.cell? ⟨w.heap.size + 1 + 1, 6, none⟩ = some (.int .i64 0) := R5.out.cell rfl
      have zf6 : w5.frozen? ⟨w.heap.size + 1 + 1, 6, none⟩ = false := R5.out.free (j := 6) (by simp)
      have z7 : w5.cell? ⟨w.heap.size + 1 + 1, 7, none⟩ = some (.int .i64 0) := R5.out.cell rfl
      have zf7 : w5.frozen? ⟨w.heap.size + 1 + 1, 7, none⟩ = false := R5.out.free (j := 7) (by simp)
      go_wp2_with fail
      refine bodyPost_ret (v := .agg #[.slice none 0 0, .slice none 0 0, .int .i64 c.proto, .string c.inn, .int .i64 c.inPort, .string c.out, .int .i64 c.outPort, .int .i64 0]) (by simp [results, Try.results24, go_sem, z0, z1, z2, z3, z4, z5, z6, z7]) rfl (And.intro (by rw [HX.out]; rfl) ?_)
      exact ((((((((B5.out.setCell (p := ⟨w.heap.size + 1 + 1, 0, none⟩) hRw _).setCell (p := ⟨w.heap.size + 1 + 1, 1, none⟩) hRw _).setCell (p := ⟨w.heap.size + 1 + 1, 2, none⟩) hRw _).setCell (p := ⟨w.heap.size + 1 + 1, 3, none⟩) hRw _).setCell (p := ⟨w.heap.size + 1 + 1, 4, none⟩) hRw _).setCell (p := ⟨w.heap.size + 1 + 1, 5, none⟩) hRw _).setCell (p := ⟨w.heap.size + 1 + 1, 6, none⟩) hRw _).setCell (p := ⟨w.heap.size + 1 + 1, 7, none⟩) hRw _)
end Go.Proofs.Ytkakehchiadpbal
