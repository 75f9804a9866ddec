/- IBindF: what the program's bindFor answers. Printed by mkibk8.py. -/
import Derived.Test.YtkakehchiadpbalILend
namespace Go.Proofs.Ytkakehchiadpbal
open Go.RowKit Go.PlainAid
set_option linter.unusedVariables false
set_option linter.unusedSimpArgs false

/-- The bind of a host's end, or the one that would be made; whether there is a port for it. -/
def bindForV (p : Pl) (xs : List Bd) (h : En) : Bd × Bool :=
  if (xs.find? (ofIn h.proto h.addr h.port)).isSome = true then ((xs.find? (ofIn h.proto h.addr h.port)).getD bdZ, true)
  else (⟨h.proto, h.addr, h.port, outIn xs (outD p h.addr) h.addr, (lendN p xs h.proto (outIn xs (outD p h.addr) h.addr) h.port).getD 0⟩, (lendN p xs h.proto (outIn xs (outD p h.addr) h.addr) h.port).isSome)
theorem bindFor_lend (p : Pl) (xs : List Bd) (h : En) : lendV p xs h.proto h.addr h.port = if (bindForV p xs h).2 = true then ((bindForV p xs h).1, 0) else (bdZ, 9) := by
  unfold lendV bindForV
  cases xs.find? (ofIn h.proto h.addr h.port) with
  | some c => rfl
  | none =>
    cases lendN p xs h.proto (outIn xs (outD p h.addr) h.addr) h.port <;> rfl
theorem outIn_some {xs : List Bd} {s d : ByteArray} (h : (xs.find? (ofHost s)).isSome = true) : outIn xs d s = outIn xs ⟨#[]⟩ s := by
  unfold outIn; cases hf : xs.find? (ofHost s) with
  | some c => rfl
  | none => rw [hf] at h; simp at h
theorem outIn_none {xs : List Bd} {s d : ByteArray} (h : (xs.find? (ofHost s)).isSome = false) : outIn xs d s = d := by
  unfold outIn; cases hf : xs.find? (ofHost s) with
  | some c => rw [hf] at h; simp at h
  | none => rfl
theorem outIn_sz {p : Pl} {xs : List Bd} {s : ByteArray} (hps : ∀ s ∈ p.addrs, s.size ≤ 1048576) (hgb : ∀ q ∈ xs, BdGood q) : (outIn xs (outD p s) s).size ≤ 1048576 := by
  unfold outIn
  cases hf : xs.find? (ofHost s) with
  | some c => exact (hgb c (List.mem_of_find?_eq_some hf)).2.1
  | none =>
    show (outD p s).size ≤ _
    unfold outD
    cases ha : p.addrs[(sumV s).toNat % p.addrs.length]? with
    | none => exact Nat.zero_le _
    | some a => exact hps a (List.mem_of_getElem? ha)
set_option maxRecDepth 100000 in
set_option maxHeartbeats 4000000 in
theorem bindFor_any (pa : Option Addr) (pc : Nat) (p : Pl) (ba bo : Option Addr) (ca cb : Nat) (x : Bb) (m1 m2 : Nat) (h : En) (w : World) (hpo : poolOk p = true) (he : EnIn h) (hw0 : 0 ≤ h.port) (hw1 : h.port ≤ 65535) (hps : ∀ s ∈ p.addrs, s.size ≤ 1048576) (hbl1 : x.binds.length ≤ 1048576) (hgb : ∀ q ∈ x.binds, BdGood q) (hbk : BookAt w m1 m2 x.binds x.binds) (hp : SlIs strL1 1 w pa p.addrs) (hx : BbIs w ba bo x) :
    Calls Try.prog 63 #[bkC pa pc p ba bo ca cb x m1 m2, enC h] w fun e w' => e = .returned (.tuple #[bdC (bindForV p x.binds h).1, .bool (bindForV p x.binds h).2]) ∧ Below w.heap.size w w' := by
  have hpb : 1 ≤ p.addrs.length ∧ p.addrs.length ≤ 8 := by
    unfold poolOk at hpo; simp only [Bool.and_eq_true, decide_eq_true_iff] at hpo; omega
  obtain ⟨hp1, hp8⟩ := hpb
  have HPO : Hid (poolOk p = true) := hpo
  have HZ : Hid (Below w.heap.size w (((w.alloc (.cells #[.slice pa p.addrs.length pc, .int .i64 p.low, .int .i64 p.high, .int .i64 p.most, .int .i64 p.filter, .int .i64 p.lv.udp, .int .i64 p.lv.echo, .int .i64 p.lv.opening, .int .i64 p.lv.opn, .int .i64 p.lv.closing, .slice ba x.binds.length ca, .slice bo x.sess.length cb, .map (some m1), .map (some m2)] 81)).alloc (.cells #[.int .i64 h.proto, .string h.addr, .int .i64 h.port] 90)).alloc (.cells #[.int .i64 0, .string ⟨#[]⟩, .int .i64 0, .string ⟨#[]⟩, .int .i64 0] 49))) := (((Below.refl _ _).alloc (Nat.le_refl _) _).alloc (by simp) _).alloc (by simp; omega) _
  have HK : Hid (HoldsL (((w.alloc (.cells #[.slice pa p.addrs.length pc, .int .i64 p.low, .int .i64 p.high, .int .i64 p.most, .int .i64 p.filter, .int .i64 p.lv.udp, .int .i64 p.lv.echo, .int .i64 p.lv.opening, .int .i64 p.lv.opn, .int .i64 p.lv.closing, .slice ba x.binds.length ca, .slice bo x.sess.length cb, .map (some m1), .map (some m2)] 81)).alloc (.cells #[.int .i64 h.proto, .string h.addr, .int .i64 h.port] 90)).alloc (.cells #[.int .i64 0, .string ⟨#[]⟩, .int .i64 0, .string ⟨#[]⟩, .int .i64 0] 49)) w.heap.size [.slice pa p.addrs.length pc, .int .i64 p.low, .int .i64 p.high, .int .i64 p.most, .int .i64 p.filter, .int .i64 p.lv.udp, .int .i64 p.lv.echo, .int .i64 p.lv.opening, .int .i64 p.lv.opn, .int .i64 p.lv.closing, .slice ba x.binds.length ca, .slice bo x.sess.length cb, .map (some m1), .map (some m2)]) := ((HoldsL.new w [.slice pa p.addrs.length pc, .int .i64 p.low, .int .i64 p.high, .int .i64 p.most, .int .i64 p.filter, .int .i64 p.lv.udp, .int .i64 p.lv.echo, .int .i64 p.lv.opening, .int .i64 p.lv.opn, .int .i64 p.lv.closing, .slice ba x.binds.length ca, .slice bo x.sess.length cb, .map (some m1), .map (some m2)] 81).alloc _).alloc _
  have HH : Hid (HoldsL (((w.alloc (.cells #[.slice pa p.addrs.length pc, .int .i64 p.low, .int .i64 p.high, .int .i64 p.most, .int .i64 p.filter, .int .i64 p.lv.udp, .int .i64 p.lv.echo, .int .i64 p.lv.opening, .int .i64 p.lv.opn, .int .i64 p.lv.closing, .slice ba x.binds.length ca, .slice bo x.sess.length cb, .map (some m1), .map (some m2)] 81)).alloc (.cells #[.int .i64 h.proto, .string h.addr, .int .i64 h.port] 90)).alloc (.cells #[.int .i64 0, .string ⟨#[]⟩, .int .i64 0, .string ⟨#[]⟩, .int .i64 0] 49)) (w.heap.size + 1) [.int .i64 h.proto, .string h.addr, .int .i64 h.port]) := by
    have h := (HoldsL.new (w.alloc (.cells #[.slice pa p.addrs.length pc, .int .i64 p.low, .int .i64 p.high, .int .i64 p.most, .int .i64 p.filter, .int .i64 p.lv.udp, .int .i64 p.lv.echo, .int .i64 p.lv.opening, .int .i64 p.lv.opn, .int .i64 p.lv.closing, .slice ba x.binds.length ca, .slice bo x.sess.length cb, .map (some m1), .map (some m2)] 81)) [.int .i64 h.proto, .string h.addr, .int .i64 h.port] 90).alloc (.cells #[.int .i64 0, .string ⟨#[]⟩, .int .i64 0, .string ⟨#[]⟩, .int .i64 0] 49)
    rw [World.size_alloc] at h; exact h
  have HR : Hid (HoldsL (((w.alloc (.cells #[.slice pa p.addrs.length pc, .int .i64 p.low, .int .i64 p.high, .int .i64 p.most, .int .i64 p.filter, .int .i64 p.lv.udp, .int .i64 p.lv.echo, .int .i64 p.lv.opening, .int .i64 p.lv.opn, .int .i64 p.lv.closing, .slice ba x.binds.length ca, .slice bo x.sess.length cb, .map (some m1), .map (some m2)] 81)).alloc (.cells #[.int .i64 h.proto, .string h.addr, .int .i64 h.port] 90)).alloc (.cells #[.int .i64 0, .string ⟨#[]⟩, .int .i64 0, .string ⟨#[]⟩, .int .i64 0] 49)) (w.heap.size + 1 + 1) [.int .i64 0, .string ⟨#[]⟩, .int .i64 0, .string ⟨#[]⟩, .int .i64 0]) := by
    have h := HoldsL.new ((w.alloc (.cells #[.slice pa p.addrs.length pc, .int .i64 p.low, .int .i64 p.high, .int .i64 p.most, .int .i64 p.filter, .int .i64 p.lv.udp, .int .i64 p.lv.echo, .int .i64 p.lv.opening, .int .i64 p.lv.opn, .int .i64 p.lv.closing, .slice ba x.binds.length ca, .slice bo x.sess.length cb, .map (some m1), .map (some m2)] 81)).alloc (.cells #[.int .i64 h.proto, .string h.addr, .int .i64 h.port] 90)) [.int .i64 0, .string ⟨#[]⟩, .int .i64 0, .string ⟨#[]⟩, .int .i64 0] 49
    rw [World.size_alloc, World.size_alloc] at h; exact h
  have hRw : w.heap.size ≤ w.heap.size + 1 + 1 := by omega
  obtain ⟨c, hc⟩ : ∃ c, c = (x.binds.find? (ofIn h.proto h.addr h.port)).getD bdZ := ⟨_, rfl⟩
  have HLK : Hid (∀ W, Below w.heap.size w W → (Instr.lookup 79 (.map (some m1)) (.agg #[.int .i64 h.proto, .string h.addr, .int .i64 h.port]) true).run Try.prog W = .ok (.tuple #[.agg #[.int .i64 c.proto, .string c.inn, .int .i64 c.inPort, .string c.out, .int .i64 c.outPort], .bool (x.binds.find? (ofIn h.proto h.addr h.port)).isSome]) W) := fun W hW => by
    have hl := (hbk.kept hW).look1 (e := h) he
    rw [show (fun q => sameEn (hostE q) h) = ofIn h.proto h.addr h.port from funext fun c => host_in _ _ _ c, ← hc] at hl
    exact hl
  have HO : Hid (∀ W, Below w.heap.size w W → Calls Try.prog 83 #[.slice ba x.binds.length ca, .string h.addr] W fun e w' => e = .returned (.tuple #[.string (outIn x.binds ⟨#[]⟩ h.addr), .bool (x.binds.find? (ofHost h.addr)).isSome]) ∧ Below W.heap.size W w') := fun W hW => outOf_any h.addr x.binds ba ca W hbl1 (hx.bd.below hW)
  have HF : Hid (∀ W s, Below w.heap.size w W → s.size ≤ 1048576 → Calls Try.prog 85 #[.agg #[.slice pa p.addrs.length pc, .int .i64 p.low, .int .i64 p.high, .int .i64 p.most, .int .i64 p.filter, .int .i64 p.lv.udp, .int .i64 p.lv.echo, .int .i64 p.lv.opening, .int .i64 p.lv.opn, .int .i64 p.lv.closing, .slice ba x.binds.length ca, .slice bo x.sess.length cb, .map (some m1), .map (some m2)], .int .i64 h.proto, .string s, .int .i64 h.port] W fun e w' => e = .returned (.tuple #[.int .i64 ((lendN p x.binds h.proto s h.port).getD 0), .bool (lendN p x.binds h.proto s h.port).isSome]) ∧ Below W.heap.size W w') := fun W s hW hs => freePort_any pa pc p ba bo ca cb x m1 m2 x.binds h.proto s h.port W hpo hs he.2.1 hw0 hw1 (hbk.kept hW)
  have HSZ : Hid ((outIn x.binds (outD p h.addr) h.addr).size ≤ 1048576) := outIn_sz hps hgb
  have HV : Hid (bindForV p x.binds h = if (x.binds.find? (ofIn h.proto h.addr h.port)).isSome = true then (c, true) else (⟨h.proto, h.addr, h.port, outIn x.binds (outD p h.addr) h.addr, (lendN p x.binds h.proto (outIn x.binds (outD p h.addr) h.addr) h.port).getD 0⟩, (lendN p x.binds h.proto (outIn x.binds (outD p h.addr) h.addr) h.port).isSome)) := by rw [hc]; rfl
  have hsr := sumV_range h.addr
  have HSU : Hid (∀ W, Calls Try.prog 84 #[.string h.addr] W fun e w' => e = .returned (.int .i64 (sumV h.addr)) ∧ Below W.heap.size W w') := fun W => (sumOfS_any h.addr W (by have := he.1; omega)).mono fun e w' hh => ⟨hh.1, by rw [hh.2]; exact Below.refl _ _⟩
  obtain ⟨ix, hix⟩ : ∃ i, i = (sumV h.addr).toNat % p.addrs.length := ⟨_, rfl⟩
  have hixl : ix < p.addrs.length := by rw [hix]; exact Nat.mod_lt _ (by omega)
  have hrem : (sumV h.addr) % (p.addrs.length : Int) = (ix : Int) := by
    obtain ⟨n, hn⟩ := Int.eq_ofNat_of_zero_le hsr.1
    rw [hix, hn, Int.toNat_natCast]; rfl
  obtain ⟨bp, op, rfl, hbp, hatp⟩ := hp.at hixl
  have HPI : Hid (∀ W, Below w.heap.size w W → W.cell? ⟨bp, op + ix, none⟩ = some (.string (outD p h.addr))) := fun W hW => by
    have hh := (hatp.below hbp hW) ix hixl 0 _ rfl
    have e : outD p h.addr = p.addrs[ix] := by unfold outD; rw [← hix, List.getElem?_eq_getElem hixl]; rfl
    rw [e]; simpa using hh
  have hixI : (ix : Int) < (p.addrs.length : Int) := by omega
  have hnil : ¬ p.addrs = [] := fun e => by rw [e] at hp1; simp at hp1
  have hrem2 : (sumV h.addr).tmod (p.addrs.length : Int) = (ix : Int) := by rw [Int.tmod_eq_emod_of_nonneg hsr.1]; exact hrem
  have HOS : Hid ((x.binds.find? (ofHost h.addr)).isSome = true → outIn x.binds (outD p h.addr) h.addr = outIn x.binds ⟨#[]⟩ h.addr) := outIn_some
  have HON : Hid ((x.binds.find? (ofHost h.addr)).isSome = false → outIn x.binds (outD p h.addr) h.addr = outD p h.addr) := outIn_none
  generalize bindForV p x.binds h = ans at *
  generalize (x.binds.find? (ofIn h.proto h.addr h.port)).isSome = bd at *
  generalize outIn x.binds (outD p h.addr) h.addr = ot at *
  generalize outIn x.binds ⟨#[]⟩ h.addr = oe at *
  generalize outD p h.addr = od at *
  generalize (x.binds.find? (ofHost h.addr)).isSome = mt at *
  generalize sumV h.addr = sv at *
  clear hc hbk hp hx hgb hps he hpo hatp hbp hix
  have hun : undef = Value.tuple #[] := rfl
  unfold bkC enC
  go_enter Try.func63, Try.ntmps63
  go_upto_region 1 with fail
  generalize ((w.alloc (.cells #[.slice (some ⟨bp, op, none⟩) p.addrs.length pc, .int .i64 p.low, .int .i64 p.high, .int .i64 p.most, .int .i64 p.filter, .int .i64 p.lv.udp, .int .i64 p.lv.echo, .int .i64 p.lv.opening, .int .i64 p.lv.opn, .int .i64 p.lv.closing, .slice ba x.binds.length ca, .slice bo x.sess.length cb, .map (some m1), .map (some m2)] 81)).alloc (.cells #[.int .i64 h.proto, .string h.addr, .int .i64 h.port] 90)).alloc (.cells #[.int .i64 0, .string ⟨#[]⟩, .int .i64 0, .string ⟨#[]⟩, .int .i64 0] 49) = W at *
  have k0 : W.cell? ⟨w.heap.size, 0, none⟩ = some (.slice (some ⟨bp, op, none⟩) p.addrs.length pc) := HK.out.cell rfl
  have k1 : W.cell? ⟨w.heap.size, 1, none⟩ = some (.int .i64 p.low) := HK.out.cell rfl
  have k2 : W.cell? ⟨w.heap.size, 2, none⟩ = some (.int .i64 p.high) := HK.out.cell rfl
  have k3 : W.cell? ⟨w.heap.size, 3, none⟩ = some (.int .i64 p.most) := HK.out.cell rfl
  have k4 : W.cell? ⟨w.heap.size, 4, none⟩ = some (.int .i64 p.filter) := HK.out.cell rfl
  have k5 : W.cell? ⟨w.heap.size, 5, none⟩ = some (.int .i64 p.lv.udp) := HK.out.cell rfl
  have k6 : W.cell? ⟨w.heap.size, 6, none⟩ = some (.int .i64 p.lv.echo) := HK.out.cell rfl
  have k7 : W.cell? ⟨w.heap.size, 7, none⟩ = some (.int .i64 p.lv.opening) := HK.out.cell rfl
  have k8 : W.cell? ⟨w.heap.size, 8, none⟩ = some (.int .i64 p.lv.opn) := HK.out.cell rfl
  have k9 : W.cell? ⟨w.heap.size, 9, none⟩ = some (.int .i64 p.lv.closing) := HK.out.cell rfl
  have k10 : W.cell? ⟨w.heap.size, 10, none⟩ = some (.slice ba x.binds.length ca) := HK.out.cell rfl
  have k11 : W.cell? ⟨w.heap.size, 11, none⟩ = some (.slice bo x.sess.length cb) := HK.out.cell rfl
  have k12 : W.cell? ⟨w.heap.size, 12, none⟩ = some (.map (some m1)) := HK.out.cell rfl
  have k13 : W.cell? ⟨w.heap.size, 13, none⟩ = some (.map (some m2)) := HK.out.cell rfl
  have c0 : W.cell? ⟨(w.heap.size + 1), 0, none⟩ = some (.int .i64 h.proto) := HH.out.cell rfl
  have c1 : W.cell? ⟨(w.heap.size + 1), 1, none⟩ = some (.string h.addr) := HH.out.cell rfl
  have c2 : W.cell? ⟨(w.heap.size + 1), 2, none⟩ = some (.int .i64 h.port) := HH.out.cell rfl
  have LK := HLK.out W HZ.out
  go_upto_region 2 with (at_lookup; refine wpList_look_val rfl _ _ _ _ rfl rfl rfl LK ?_)
  have bn : Below W.heap.size W (W.alloc (.cells #[.int .i64 c.proto, .string c.inn, .int .i64 c.inPort, .string c.out, .int .i64 c.outPort] 49)) := (Below.refl _ _).alloc (Nat.le_refl _) _
  have H6 : Hid (HoldsL (W.alloc (.cells #[.int .i64 c.proto, .string c.inn, .int .i64 c.inPort, .string c.out, .int .i64 c.outPort] 49)) W.heap.size [.int .i64 c.proto, .string c.inn, .int .i64 c.inPort, .string c.out, .int .i64 c.outPort]) := HoldsL.new W [.int .i64 c.proto, .string c.inn, .int .i64 c.inPort, .string c.out, .int .i64 c.outPort] 49
  have HZ1 : Hid (Below w.heap.size w (W.alloc (.cells #[.int .i64 c.proto, .string c.inn, .int .i64 c.inPort, .string c.out, .int .i64 c.outPort] 49))) := HZ.out.trans (bn.mono HZ.out.size)
  have HK1 : Hid (HoldsL (W.alloc (.cells #[.int .i64 c.proto, .string c.inn, .int .i64 c.inPort, .string c.out, .int .i64 c.outPort] 49)) w.heap.size [.slice (some ⟨bp, op, none⟩) p.addrs.length pc, .int .i64 p.low, .int .i64 p.high, .int .i64 p.most, .int .i64 p.filter, .int .i64 p.lv.udp, .int .i64 p.lv.echo, .int .i64 p.lv.opening, .int .i64 p.lv.opn, .int .i64 p.lv.closing, .slice ba x.binds.length ca, .slice bo x.sess.length cb, .map (some m1), .map (some m2)]) := HK.out.kept (by simp) bn
  have HH1 : Hid (HoldsL (W.alloc (.cells #[.int .i64 c.proto, .string c.inn, .int .i64 c.inPort, .string c.out, .int .i64 c.outPort] 49)) (w.heap.size + 1) [.int .i64 h.proto, .string h.addr, .int .i64 h.port]) := HH.out.kept (by simp) bn
  have HR1 : Hid (HoldsL (W.alloc (.cells #[.int .i64 c.proto, .string c.inn, .int .i64 c.inPort, .string c.out, .int .i64 c.outPort] 49)) (w.heap.size + 1 + 1) [.int .i64 0, .string ⟨#[]⟩, .int .i64 0, .string ⟨#[]⟩, .int .i64 0]) := HR.out.kept (by simp) bn
  clear HZ HK HH HR
  generalize W.alloc (.cells #[.int .i64 c.proto, .string c.inn, .int .i64 c.inPort, .string c.out, .int .i64 c.outPort] 49) = W1 at *
  clear bn LK HLK k0 k1 k2 k3 k4 k5 k6 k7 k8 k9 k10 k11 k12 k13 c0 c1 c2
  cases bd with
  | true =>
    have HX : Hid (ans = (c, true)) := by unfold Hid; rw [HV.out, if_pos rfl]
    have y0 : W1.cell? ⟨W.heap.size, 0, none⟩ = some (.int .i64 c.proto) := H6.out.cell rfl
    have y1 : W1.cell? ⟨W.heap.size, 1, none⟩ = some (.string c.inn) := H6.out.cell rfl
    have y2 : W1.cell? ⟨W.heap.size, 2, none⟩ = some (.int .i64 c.inPort) := H6.out.cell rfl
    have y3 : W1.cell? ⟨W.heap.size, 3, none⟩ = some (.string c.out) := H6.out.cell rfl
    have y4 : W1.cell? ⟨W.heap.size, 4, none⟩ = some (.int .i64 c.outPort) := H6.out.cell rfl
    have z0 : W1.cell? ⟨w.heap.size + 1 + 1, 0, none⟩ = some (.int .i64 0) := HR1.out.cell rfl
    have zf0 : W1.frozen? ⟨w.heap.size + 1 + 1, 0, none⟩ = false := HR1.out.free (j := 0) (by simp)
    have z1 : W1.cell? ⟨w.heap.size + 1 + 1, 1, none⟩ = some (.string ⟨#[]⟩) := HR1.out.cell rfl
    have zf1 : W1.frozen? ⟨w.heap.size + 1 + 1, 1, none⟩ = false := HR1.out.free (j := 1) (by simp)
    have z2 : W1.cell? ⟨w.heap.size + 1 + 1, 2, none⟩ = some (.int .i64 0) := HR1.out.cell rfl
    have zf2 : W1.frozen? ⟨w.heap.size + 1 + 1, 2, none⟩ = false := HR1.out.free (j := 2) (by simp)
    have z3 : W1.cell? ⟨w.heap.size + 1 + 1, 3, none⟩ = some (.string ⟨#[]⟩) := HR1.out.cell rfl
    have zf3 : W1.frozen? ⟨w.heap.size + 1 + 1, 3, none⟩ = false := HR1.out.free (j := 3) (by simp)
    have z4 : W1.cell? ⟨w.heap.size + 1 + 1, 4, none⟩ = some (.int .i64 0) := HR1.out.cell rfl
    have zf4 : W1.frozen? ⟨w.heap.size + 1 + 1, 4, none⟩ = false := HR1.out.free (j := 4) (by simp)
    go_wp2_with fail
    refine bodyPost_ret (v := .tuple #[.agg #[.int .i64 c.proto, .string c.inn, .int .i64 c.inPort, .string c.out, .int .i64 c.outPort], .bool true]) (by simp [results, Try.results63, go_sem, z0, z1, z2, z3, z4]) rfl (And.intro (by rw [HX.out]; rfl) ?_)
    exact (((((HZ1.out.setCell (p := ⟨w.heap.size + 1 + 1, 0, none⟩) hRw _).setCell (p := ⟨w.heap.size + 1 + 1, 1, none⟩) hRw _).setCell (p := ⟨w.heap.size + 1 + 1, 2, none⟩) hRw _).setCell (p := ⟨w.heap.size + 1 + 1, 3, none⟩) hRw _).setCell (p := ⟨w.heap.size + 1 + 1, 4, none⟩) hRw _)
  | false =>
    have HV2 : Hid (ans = (⟨h.proto, h.addr, h.port, ot, (lendN p x.binds h.proto ot h.port).getD 0⟩, (lendN p x.binds h.proto ot h.port).isSome)) := by unfold Hid; rw [HV.out, if_neg (by simp)]
    clear HV H6
    have k0 : W1.cell? ⟨w.heap.size, 0, none⟩ = some (.slice (some ⟨bp, op, none⟩) p.addrs.length pc) := HK1.out.cell rfl
    have k1 : W1.cell? ⟨w.heap.size, 1, none⟩ = some (.int .i64 p.low) := HK1.out.cell rfl
    have k2 : W1.cell? ⟨w.heap.size, 2, none⟩ = some (.int .i64 p.high) := HK1.out.cell rfl
    have k3 : W1.cell? ⟨w.heap.size, 3, none⟩ = some (.int .i64 p.most) := HK1.out.cell rfl
    have k4 : W1.cell? ⟨w.heap.size, 4, none⟩ = some (.int .i64 p.filter) := HK1.out.cell rfl
    have k5 : W1.cell? ⟨w.heap.size, 5, none⟩ = some (.int .i64 p.lv.udp) := HK1.out.cell rfl
    have k6 : W1.cell? ⟨w.heap.size, 6, none⟩ = some (.int .i64 p.lv.echo) := HK1.out.cell rfl
    have k7 : W1.cell? ⟨w.heap.size, 7, none⟩ = some (.int .i64 p.lv.opening) := HK1.out.cell rfl
    have k8 : W1.cell? ⟨w.heap.size, 8, none⟩ = some (.int .i64 p.lv.opn) := HK1.out.cell rfl
    have k9 : W1.cell? ⟨w.heap.size, 9, none⟩ = some (.int .i64 p.lv.closing) := HK1.out.cell rfl
    have k10 : W1.cell? ⟨w.heap.size, 10, none⟩ = some (.slice ba x.binds.length ca) := HK1.out.cell rfl
    have k11 : W1.cell? ⟨w.heap.size, 11, none⟩ = some (.slice bo x.sess.length cb) := HK1.out.cell rfl
    have k12 : W1.cell? ⟨w.heap.size, 12, none⟩ = some (.map (some m1)) := HK1.out.cell rfl
    have k13 : W1.cell? ⟨w.heap.size, 13, none⟩ = some (.map (some m2)) := HK1.out.cell rfl
    have c0 : W1.cell? ⟨(w.heap.size + 1), 0, none⟩ = some (.int .i64 h.proto) := HH1.out.cell rfl
    have c1 : W1.cell? ⟨(w.heap.size + 1), 1, none⟩ = some (.string h.addr) := HH1.out.cell rfl
    have c2 : W1.cell? ⟨(w.heap.size + 1), 2, none⟩ = some (.int .i64 h.port) := HH1.out.cell rfl
    go_wp2_with fail
    refine (HO.out _ HZ1.out).mono ?_
    rintro e W2 ⟨rfl, q2⟩
    have HZ2 : Hid (Below w.heap.size w W2) := HZ1.out.trans (q2.mono HZ1.out.size)
    have HK2 : Hid (HoldsL W2 w.heap.size [.slice (some ⟨bp, op, none⟩) p.addrs.length pc, .int .i64 p.low, .int .i64 p.high, .int .i64 p.most, .int .i64 p.filter, .int .i64 p.lv.udp, .int .i64 p.lv.echo, .int .i64 p.lv.opening, .int .i64 p.lv.opn, .int .i64 p.lv.closing, .slice ba x.binds.length ca, .slice bo x.sess.length cb, .map (some m1), .map (some m2)]) := HK1.out.kept (by simp) q2
    have HH2 : Hid (HoldsL W2 (w.heap.size + 1) [.int .i64 h.proto, .string h.addr, .int .i64 h.port]) := HH1.out.kept (by simp) q2
    have HR2 : Hid (HoldsL W2 (w.heap.size + 1 + 1) [.int .i64 0, .string ⟨#[]⟩, .int .i64 0, .string ⟨#[]⟩, .int .i64 0]) := HR1.out.kept (by simp) q2
    clear HZ1 HK1 HH1 HR1
    clear q2 HO k0 k1 k2 k3 k4 k5 k6 k7 k8 k9 k10 k11 k12 k13 c0 c1 c2
    cases mt with
    | true =>
      obtain rfl : ot = oe := HOS.out rfl
      have k0 : W2.cell? ⟨w.heap.size, 0, none⟩ = some (.slice (some ⟨bp, op, none⟩) p.addrs.length pc) := HK2.out.cell rfl
      have k1 : W2.cell? ⟨w.heap.size, 1, none⟩ = some (.int .i64 p.low) := HK2.out.cell rfl
      have k2 : W2.cell? ⟨w.heap.size, 2, none⟩ = some (.int .i64 p.high) := HK2.out.cell rfl
      have k3 : W2.cell? ⟨w.heap.size, 3, none⟩ = some (.int .i64 p.most) := HK2.out.cell rfl
      have k4 : W2.cell? ⟨w.heap.size, 4, none⟩ = some (.int .i64 p.filter) := HK2.out.cell rfl
      have k5 : W2.cell? ⟨w.heap.size, 5, none⟩ = some (.int .i64 p.lv.udp) := HK2.out.cell rfl
      have k6 : W2.cell? ⟨w.heap.size, 6, none⟩ = some (.int .i64 p.lv.echo) := HK2.out.cell rfl
      have k7 : W2.cell? ⟨w.heap.size, 7, none⟩ = some (.int .i64 p.lv.opening) := HK2.out.cell rfl
      have k8 : W2.cell? ⟨w.heap.size, 8, none⟩ = some (.int .i64 p.lv.opn) := HK2.out.cell rfl
      have k9 : W2.cell? ⟨w.heap.size, 9, none⟩ = some (.int .i64 p.lv.closing) := HK2.out.cell rfl
      have k10 : W2.cell? ⟨w.heap.size, 10, none⟩ = some (.slice ba x.binds.length ca) := HK2.out.cell rfl
      have k11 : W2.cell? ⟨w.heap.size, 11, none⟩ = some (.slice bo x.sess.length cb) := HK2.out.cell rfl
      have k12 : W2.cell? ⟨w.heap.size, 12, none⟩ = some (.map (some m1)) := HK2.out.cell rfl
      have k13 : W2.cell? ⟨w.heap.size, 13, none⟩ = some (.map (some m2)) := HK2.out.cell rfl
      have c0 : W2.cell? ⟨(w.heap.size + 1), 0, none⟩ = some (.int .i64 h.proto) := HH2.out.cell rfl
      have c1 : W2.cell? ⟨(w.heap.size + 1), 1, none⟩ = some (.string h.addr) := HH2.out.cell rfl
      have c2 : W2.cell? ⟨(w.heap.size + 1), 2, none⟩ = some (.int .i64 h.port) := HH2.out.cell rfl
      go_wp2_with fail
      refine (HF.out _ ot HZ2.out HSZ.out).mono ?_
      rintro e W9 ⟨rfl, q9⟩
      have HZ9 : Hid (Below w.heap.size w W9) := HZ2.out.trans (q9.mono HZ2.out.size)
      have HK9 : Hid (HoldsL W9 w.heap.size [.slice (some ⟨bp, op, none⟩) p.addrs.length pc, .int .i64 p.low, .int .i64 p.high, .int .i64 p.most, .int .i64 p.filter, .int .i64 p.lv.udp, .int .i64 p.lv.echo, .int .i64 p.lv.opening, .int .i64 p.lv.opn, .int .i64 p.lv.closing, .slice ba x.binds.length ca, .slice bo x.sess.length cb, .map (some m1), .map (some m2)]) := HK2.out.kept (by simp) q9
      have HH9 : Hid (HoldsL W9 (w.heap.size + 1) [.int .i64 h.proto, .string h.addr, .int .i64 h.port]) := HH2.out.kept (by simp) q9
      have HR9 : Hid (HoldsL W9 (w.heap.size + 1 + 1) [.int .i64 0, .string ⟨#[]⟩, .int .i64 0, .string ⟨#[]⟩, .int .i64 0]) := HR2.out.kept (by simp) q9
      clear HZ2 HK2 HH2 HR2
      clear q9 HF k0 k1 k2 k3 k4 k5 k6 k7 k8 k9 k10 k11 k12 k13 c0 c1 c2
      generalize lendN p x.binds h.proto ot h.port = ln at *
      have c0 : W9.cell? ⟨(w.heap.size + 1), 0, none⟩ = some (.int .i64 h.proto) := HH9.out.cell rfl
      have c1 : W9.cell? ⟨(w.heap.size + 1), 1, none⟩ = some (.string h.addr) := HH9.out.cell rfl
      have c2 : W9.cell? ⟨(w.heap.size + 1), 2, none⟩ = some (.int .i64 h.port) := HH9.out.cell rfl
      have z0 : W9.cell? ⟨w.heap.size + 1 + 1, 0, none⟩ = some (.int .i64 0) := HR9.out.cell rfl
      have zf0 : W9.frozen? ⟨w.heap.size + 1 + 1, 0, none⟩ = false := HR9.out.free (j := 0) (by simp)
      have z1 : W9.cell? ⟨w.heap.size + 1 + 1, 1, none⟩ = some (.string ⟨#[]⟩) := HR9.out.cell rfl
      have zf1 : W9.frozen? ⟨w.heap.size + 1 + 1, 1, none⟩ = false := HR9.out.free (j := 1) (by simp)
      have z2 : W9.cell? ⟨w.heap.size + 1 + 1, 2, none⟩ = some (.int .i64 0) := HR9.out.cell rfl
      have zf2 : W9.frozen? ⟨w.heap.size + 1 + 1, 2, none⟩ = false := HR9.out.free (j := 2) (by simp)
      have z3 : W9.cell? ⟨w.heap.size + 1 + 1, 3, none⟩ = some (.string ⟨#[]⟩) := HR9.out.cell rfl
      have zf3 : W9.frozen? ⟨w.heap.size + 1 + 1, 3, none⟩ = false := HR9.out.free (j := 3) (by simp)
      have z4 : W9.cell? ⟨w.heap.size + 1 + 1, 4, none⟩ = some (.int .i64 0) := HR9.out.cell rfl
      have zf4 : W9.frozen? ⟨w.heap.size + 1 + 1, 4, none⟩ = false := HR9.out.free (j := 4) (by simp)
      go_wp2_with fail
      refine bodyPost_ret (v := .tuple #[.agg #[.int .i64 h.proto, .string h.addr, .int .i64 h.port, .string ot, .int .i64 (ln.getD 0)], .bool ln.isSome]) (by simp [results, Try.results63, go_sem, z0, z1, z2, z3, z4]) rfl (And.intro (by rw [HV2.out]; rfl) ?_)
      exact (((((HZ9.out.setCell (p := ⟨w.heap.size + 1 + 1, 0, none⟩) hRw _).setCell (p := ⟨w.heap.size + 1 + 1, 1, none⟩) hRw _).setCell (p := ⟨w.heap.size + 1 + 1, 2, none⟩) hRw _).setCell (p := ⟨w.heap.size + 1 + 1, 3, none⟩) hRw _).setCell (p := ⟨w.heap.size + 1 + 1, 4, none⟩) hRw _)
    | false =>
      obtain rfl : ot = od := HON.out rfl
      go_upto_region 6 with fail
      go_cut [8] (fun v wx => v = .string ot ∧ Below W2.heap.size W2 wx)
      case first =>
        rename_i J K2 hJ hK2
        clear hun
        have HCP : Hid (∀ wy, Below W2.drew.heap.size W2.drew wy → HoldsL wy w.heap.size [.slice (some ⟨bp, op, none⟩) p.addrs.length pc, .int .i64 p.low, .int .i64 p.high, .int .i64 p.most, .int .i64 p.filter, .int .i64 p.lv.udp, .int .i64 p.lv.echo, .int .i64 p.lv.opening, .int .i64 p.lv.opn, .int .i64 p.lv.closing, .slice ba x.binds.length ca, .slice bo x.sess.length cb, .map (some m1), .map (some m2)] ∧ HoldsL wy (w.heap.size + 1) [.int .i64 h.proto, .string h.addr, .int .i64 h.port] ∧ Below w.heap.size w wy) := fun wy hy => ⟨HK2.out.drew.kept (by simp) hy, HH2.out.drew.kept (by simp) hy, HZ2.out.drew.trans (hy.mono HZ2.out.size)⟩
        refine wp_region_growH [32, 33, 34, 35, 36, 37, 38, 39, 40, 41, 42, 43, 44, 8] (by kernel_rfl) (by kernel_rfl) ?_
        refine GCh.val (n := 0) (fun v => [IsV v]) (fun _ => rfl) rfl ?_
        apply Exists.intro
        refine And.intro ?_ ?_
        · intro K' a wy ho hd hb hK
          rw [if_pos (wanted_none rfl)]
          have o2 := ho 2 (by decide)
          simp [slot] at o2
          clear hd ho
          go_simp
          try go_bits
          exact hK _ _ rfl (Below.refl _ _)
        refine GCh.val (n := 1) (fun v => [_, IsV v]) (fun _ => rfl) rfl ?_
        apply Exists.intro
        refine And.intro ?_ ?_
        · intro K' a wy ho hd hb hK
          rw [if_pos (wanted_none rfl)]
          have q0 := hd ⟨0, .data⟩ (by simp) rfl
          simp [rAt, IsV, slot] at q0
          clear hd ho
          go_simp
          try go_bits
          exact hK _ _ rfl (Below.refl _ _)
        refine GCh.val (n := 2) (fun v => [_, _, IsV v]) (fun _ => rfl) rfl ?_
        apply Exists.intro
        refine And.intro ?_ ?_
        · intro K' a wy ho hd hb hK
          rw [if_pos (wanted_none rfl)]
          have q1 := hd ⟨1, .data⟩ (by simp) rfl
          simp [rAt, IsV, slot] at q1
          clear hd ho
          obtain ⟨hk, hh, hbw⟩ := HCP.out wy hb
          have k0 : wy.cell? ⟨w.heap.size, 0, none⟩ = some (.slice (some ⟨bp, op, none⟩) p.addrs.length pc) := hk.cell rfl
          have k1 : wy.cell? ⟨w.heap.size, 1, none⟩ = some (.int .i64 p.low) := hk.cell rfl
          have k2 : wy.cell? ⟨w.heap.size, 2, none⟩ = some (.int .i64 p.high) := hk.cell rfl
          have k3 : wy.cell? ⟨w.heap.size, 3, none⟩ = some (.int .i64 p.most) := hk.cell rfl
          have k4 : wy.cell? ⟨w.heap.size, 4, none⟩ = some (.int .i64 p.filter) := hk.cell rfl
          have k5 : wy.cell? ⟨w.heap.size, 5, none⟩ = some (.int .i64 p.lv.udp) := hk.cell rfl
          have k6 : wy.cell? ⟨w.heap.size, 6, none⟩ = some (.int .i64 p.lv.echo) := hk.cell rfl
          have k7 : wy.cell? ⟨w.heap.size, 7, none⟩ = some (.int .i64 p.lv.opening) := hk.cell rfl
          have k8 : wy.cell? ⟨w.heap.size, 8, none⟩ = some (.int .i64 p.lv.opn) := hk.cell rfl
          have k9 : wy.cell? ⟨w.heap.size, 9, none⟩ = some (.int .i64 p.lv.closing) := hk.cell rfl
          have k10 : wy.cell? ⟨w.heap.size, 10, none⟩ = some (.slice ba x.binds.length ca) := hk.cell rfl
          have k11 : wy.cell? ⟨w.heap.size, 11, none⟩ = some (.slice bo x.sess.length cb) := hk.cell rfl
          have k12 : wy.cell? ⟨w.heap.size, 12, none⟩ = some (.map (some m1)) := hk.cell rfl
          have k13 : wy.cell? ⟨w.heap.size, 13, none⟩ = some (.map (some m2)) := hk.cell rfl
          have c0 : wy.cell? ⟨(w.heap.size + 1), 0, none⟩ = some (.int .i64 h.proto) := hh.cell rfl
          have c1 : wy.cell? ⟨(w.heap.size + 1), 1, none⟩ = some (.string h.addr) := hh.cell rfl
          have c2 : wy.cell? ⟨(w.heap.size + 1), 2, none⟩ = some (.int .i64 h.port) := hh.cell rfl
          have hpi := HPI.out wy hbw
          have hpi1 : wy.cell? ⟨bp, op + ix * 1, none⟩ = some (.string ot) := by simpa using hpi
          go_simp
          try go_bits
          exact hK _ _ rfl (Below.refl _ _)
        refine GCh.val (n := 3) (fun v => [_, _, _, IsV v]) (fun _ => rfl) rfl ?_
        apply Exists.intro
        refine And.intro ?_ ?_
        · intro K' a wy ho hd hb hK
          rw [if_pos (wanted_none rfl)]
          have o3 := ho 3 (by decide)
          simp [slot] at o3
          clear hd ho
          go_simp
          try go_bits
          exact hK _ _ rfl (Below.refl _ _)
        refine GCh.val (n := 4) (fun v => [_, _, _, _, IsV v]) (fun _ => rfl) rfl ?_
        apply Exists.intro
        refine And.intro ?_ ?_
        · intro K' a wy ho hd hb hK
          rw [if_pos (wanted_none rfl)]
          have q3 := hd ⟨3, .data⟩ (by simp) rfl
          simp [rAt, IsV, slot] at q3
          clear hd ho
          obtain ⟨hk, hh, hbw⟩ := HCP.out wy hb
          have k0 : wy.cell? ⟨w.heap.size, 0, none⟩ = some (.slice (some ⟨bp, op, none⟩) p.addrs.length pc) := hk.cell rfl
          have k1 : wy.cell? ⟨w.heap.size, 1, none⟩ = some (.int .i64 p.low) := hk.cell rfl
          have k2 : wy.cell? ⟨w.heap.size, 2, none⟩ = some (.int .i64 p.high) := hk.cell rfl
          have k3 : wy.cell? ⟨w.heap.size, 3, none⟩ = some (.int .i64 p.most) := hk.cell rfl
          have k4 : wy.cell? ⟨w.heap.size, 4, none⟩ = some (.int .i64 p.filter) := hk.cell rfl
          have k5 : wy.cell? ⟨w.heap.size, 5, none⟩ = some (.int .i64 p.lv.udp) := hk.cell rfl
          have k6 : wy.cell? ⟨w.heap.size, 6, none⟩ = some (.int .i64 p.lv.echo) := hk.cell rfl
          have k7 : wy.cell? ⟨w.heap.size, 7, none⟩ = some (.int .i64 p.lv.opening) := hk.cell rfl
          have k8 : wy.cell? ⟨w.heap.size, 8, none⟩ = some (.int .i64 p.lv.opn) := hk.cell rfl
          have k9 : wy.cell? ⟨w.heap.size, 9, none⟩ = some (.int .i64 p.lv.closing) := hk.cell rfl
          have k10 : wy.cell? ⟨w.heap.size, 10, none⟩ = some (.slice ba x.binds.length ca) := hk.cell rfl
          have k11 : wy.cell? ⟨w.heap.size, 11, none⟩ = some (.slice bo x.sess.length cb) := hk.cell rfl
          have k12 : wy.cell? ⟨w.heap.size, 12, none⟩ = some (.map (some m1)) := hk.cell rfl
          have k13 : wy.cell? ⟨w.heap.size, 13, none⟩ = some (.map (some m2)) := hk.cell rfl
          have c0 : wy.cell? ⟨(w.heap.size + 1), 0, none⟩ = some (.int .i64 h.proto) := hh.cell rfl
          have c1 : wy.cell? ⟨(w.heap.size + 1), 1, none⟩ = some (.string h.addr) := hh.cell rfl
          have c2 : wy.cell? ⟨(w.heap.size + 1), 2, none⟩ = some (.int .i64 h.port) := hh.cell rfl
          have hpi := HPI.out wy hbw
          have hpi1 : wy.cell? ⟨bp, op + ix * 1, none⟩ = some (.string ot) := by simpa using hpi
          go_simp
          try go_bits
          exact hK _ _ rfl (Below.refl _ _)
        refine GCh.val (n := 5) (fun v => [_, _, _, _, _, IsV v]) (fun _ => rfl) rfl ?_
        apply Exists.intro
        refine And.intro ?_ ?_
        · intro K' a wy ho hd hb hK
          rw [if_pos (wanted_none rfl)]
          have q4 := hd ⟨4, .data⟩ (by simp) rfl
          simp [rAt, IsV, slot] at q4
          clear hd ho
          go_simp
          refine (HSU.out wy).mono ?_
          rintro e wz ⟨rfl, hz⟩
          exact hK _ _ rfl hz
        refine GCh.val (n := 6) (fun v => [_, _, _, _, _, _, IsV v]) (fun _ => rfl) rfl ?_
        apply Exists.intro
        refine And.intro ?_ ?_
        · intro K' a wy ho hd hb hK
          rw [if_pos (wanted_none rfl)]
          have o2 := ho 2 (by decide)
          simp [slot] at o2
          clear hd ho
          go_simp
          try go_bits
          exact hK _ _ rfl (Below.refl _ _)
        refine GCh.val (n := 7) (fun v => [_, _, _, _, _, _, _, IsV v]) (fun _ => rfl) rfl ?_
        apply Exists.intro
        refine And.intro ?_ ?_
        · intro K' a wy ho hd hb hK
          rw [if_pos (wanted_none rfl)]
          have q6 := hd ⟨6, .data⟩ (by simp) rfl
          simp [rAt, IsV, slot] at q6
          clear hd ho
          go_simp
          try go_bits
          exact hK _ _ rfl (Below.refl _ _)
        refine GCh.val (n := 8) (fun v => [_, _, _, _, _, _, _, _, IsV v]) (fun _ => rfl) rfl ?_
        apply Exists.intro
        refine And.intro ?_ ?_
        · intro K' a wy ho hd hb hK
          rw [if_pos (wanted_none rfl)]
          have q7 := hd ⟨7, .data⟩ (by simp) rfl
          simp [rAt, IsV, slot] at q7
          clear hd ho
          obtain ⟨hk, hh, hbw⟩ := HCP.out wy hb
          have k0 : wy.cell? ⟨w.heap.size, 0, none⟩ = some (.slice (some ⟨bp, op, none⟩) p.addrs.length pc) := hk.cell rfl
          have k1 : wy.cell? ⟨w.heap.size, 1, none⟩ = some (.int .i64 p.low) := hk.cell rfl
          have k2 : wy.cell? ⟨w.heap.size, 2, none⟩ = some (.int .i64 p.high) := hk.cell rfl
          have k3 : wy.cell? ⟨w.heap.size, 3, none⟩ = some (.int .i64 p.most) := hk.cell rfl
          have k4 : wy.cell? ⟨w.heap.size, 4, none⟩ = some (.int .i64 p.filter) := hk.cell rfl
          have k5 : wy.cell? ⟨w.heap.size, 5, none⟩ = some (.int .i64 p.lv.udp) := hk.cell rfl
          have k6 : wy.cell? ⟨w.heap.size, 6, none⟩ = some (.int .i64 p.lv.echo) := hk.cell rfl
          have k7 : wy.cell? ⟨w.heap.size, 7, none⟩ = some (.int .i64 p.lv.opening) := hk.cell rfl
          have k8 : wy.cell? ⟨w.heap.size, 8, none⟩ = some (.int .i64 p.lv.opn) := hk.cell rfl
          have k9 : wy.cell? ⟨w.heap.size, 9, none⟩ = some (.int .i64 p.lv.closing) := hk.cell rfl
          have k10 : wy.cell? ⟨w.heap.size, 10, none⟩ = some (.slice ba x.binds.length ca) := hk.cell rfl
          have k11 : wy.cell? ⟨w.heap.size, 11, none⟩ = some (.slice bo x.sess.length cb) := hk.cell rfl
          have k12 : wy.cell? ⟨w.heap.size, 12, none⟩ = some (.map (some m1)) := hk.cell rfl
          have k13 : wy.cell? ⟨w.heap.size, 13, none⟩ = some (.map (some m2)) := hk.cell rfl
          have c0 : wy.cell? ⟨(w.heap.size + 1), 0, none⟩ = some (.int .i64 h.proto) := hh.cell rfl
          have c1 : wy.cell? ⟨(w.heap.size + 1), 1, none⟩ = some (.string h.addr) := hh.cell rfl
          have c2 : wy.cell? ⟨(w.heap.size + 1), 2, none⟩ = some (.int .i64 h.port) := hh.cell rfl
          have hpi := HPI.out wy hbw
          have hpi1 : wy.cell? ⟨bp, op + ix * 1, none⟩ = some (.string ot) := by simpa using hpi
          go_simp
          try go_bits
          exact hK _ _ rfl (Below.refl _ _)
        refine GCh.val (n := 9) (fun v => [_, _, _, _, _, _, _, _, _, IsV v]) (fun _ => rfl) rfl ?_
        apply Exists.intro
        refine And.intro ?_ ?_
        · intro K' a wy ho hd hb hK
          rw [if_pos (wanted_none rfl)]
          have q8 := hd ⟨8, .data⟩ (by simp) rfl
          simp [rAt, IsV, slot] at q8
          clear hd ho
          go_simp
          try go_bits
          exact hK _ _ rfl (Below.refl _ _)
        refine GCh.val (n := 10) (fun v => [_, _, _, _, _, _, _, _, _, _, IsV v]) (fun _ => rfl) rfl ?_
        apply Exists.intro
        refine And.intro ?_ ?_
        · intro K' a wy ho hd hb hK
          rw [if_pos (wanted_none rfl)]
          have q5 := hd ⟨5, .data⟩ (by simp) rfl
          simp [rAt, IsV, slot] at q5
          have q9 := hd ⟨9, .data⟩ (by simp) rfl
          simp [rAt, IsV, slot] at q9
          clear hd ho
          go_simp
          try go_bits
          exact hK _ _ rfl (Below.refl _ _)
        refine GCh.val (n := 11) (fun v => [_, _, _, _, _, _, _, _, _, _, _, IsV v]) (fun _ => rfl) rfl ?_
        apply Exists.intro
        refine And.intro ?_ ?_
        · intro K' a wy ho hd hb hK
          rw [if_pos (wanted_none rfl)]
          have q2 := hd ⟨2, .data⟩ (by simp) rfl
          simp [rAt, IsV, slot] at q2
          have q10 := hd ⟨10, .data⟩ (by simp) rfl
          simp [rAt, IsV, slot] at q10
          clear hd ho
          go_simp
          try go_bits
          exact hK _ _ rfl (Below.refl _ _)
        refine GCh.val (n := 12) (fun v => [_, _, _, _, _, _, _, _, _, _, _, _, IsV v]) (fun _ => rfl) rfl ?_
        apply Exists.intro
        refine And.intro ?_ ?_
        · intro K' a wy ho hd hb hK
          rw [if_pos (wanted_none rfl)]
          have q11 := hd ⟨11, .data⟩ (by simp) rfl
          simp [rAt, IsV, slot] at q11
          clear hd ho
          obtain ⟨hk, hh, hbw⟩ := HCP.out wy hb
          have k0 : wy.cell? ⟨w.heap.size, 0, none⟩ = some (.slice (some ⟨bp, op, none⟩) p.addrs.length pc) := hk.cell rfl
          have k1 : wy.cell? ⟨w.heap.size, 1, none⟩ = some (.int .i64 p.low) := hk.cell rfl
          have k2 : wy.cell? ⟨w.heap.size, 2, none⟩ = some (.int .i64 p.high) := hk.cell rfl
          have k3 : wy.cell? ⟨w.heap.size, 3, none⟩ = some (.int .i64 p.most) := hk.cell rfl
          have k4 : wy.cell? ⟨w.heap.size, 4, none⟩ = some (.int .i64 p.filter) := hk.cell rfl
          have k5 : wy.cell? ⟨w.heap.size, 5, none⟩ = some (.int .i64 p.lv.udp) := hk.cell rfl
          have k6 : wy.cell? ⟨w.heap.size, 6, none⟩ = some (.int .i64 p.lv.echo) := hk.cell rfl
          have k7 : wy.cell? ⟨w.heap.size, 7, none⟩ = some (.int .i64 p.lv.opening) := hk.cell rfl
          have k8 : wy.cell? ⟨w.heap.size, 8, none⟩ = some (.int .i64 p.lv.opn) := hk.cell rfl
          have k9 : wy.cell? ⟨w.heap.size, 9, none⟩ = some (.int .i64 p.lv.closing) := hk.cell rfl
          have k10 : wy.cell? ⟨w.heap.size, 10, none⟩ = some (.slice ba x.binds.length ca) := hk.cell rfl
          have k11 : wy.cell? ⟨w.heap.size, 11, none⟩ = some (.slice bo x.sess.length cb) := hk.cell rfl
          have k12 : wy.cell? ⟨w.heap.size, 12, none⟩ = some (.map (some m1)) := hk.cell rfl
          have k13 : wy.cell? ⟨w.heap.size, 13, none⟩ = some (.map (some m2)) := hk.cell rfl
          have c0 : wy.cell? ⟨(w.heap.size + 1), 0, none⟩ = some (.int .i64 h.proto) := hh.cell rfl
          have c1 : wy.cell? ⟨(w.heap.size + 1), 1, none⟩ = some (.string h.addr) := hh.cell rfl
          have c2 : wy.cell? ⟨(w.heap.size + 1), 2, none⟩ = some (.int .i64 h.port) := hh.cell rfl
          have hpi := HPI.out wy hbw
          have hpi1 : wy.cell? ⟨bp, op + ix * 1, none⟩ = some (.string ot) := by simpa using hpi
          go_simp
          try go_bits
          exact hK _ _ rfl (Below.refl _ _)
        refine GCh.val (n := 13) (fun v => [_, _, _, _, _, _, _, _, _, _, _, _, _, IsV v]) (fun _ => rfl) rfl ?_
        apply Exists.intro
        refine And.intro ?_ ?_
        · intro K' a wy ho hd hb hK
          rw [if_pos (wanted_none rfl)]
          have q12 := hd ⟨12, .data⟩ (by simp) rfl
          simp [rAt, IsV, slot] at q12
          clear hd ho
          go_simp
          try go_bits
          exact hK _ _ rfl (Below.refl _ _)
        intro X wz hR hz
        obtain ⟨x0, x1, x2, x3, x4, x5, x6, x7, x8, x9, x10, x11, x12, x13, -⟩ := hR
        simp only [IsV] at x0 x1 x2 x3 x4 x5 x6 x7 x8 x9 x10 x11 x12 x13
        simp only [putsFrom, x0, x1, x2, x3, x4, x5, x6, x7, x8, x9, x10, x11, x12, x13]
        clear x0 x1 x2 x3 x4 x5 x6 x7 x8 x9 x10 x11 x12 x13
        go_simp
        refine hK2 _ _ (hJ _ _ ?_)
        (repeat apply Exists.intro)
        refine ⟨⟨rfl, (Below.refl _ _).drew.trans hz⟩, rfl⟩
      case rest =>
      obtain ⟨rfl, qc⟩ := hcut
      generalize wc = W3 at *
      have HZ3 : Hid (Below w.heap.size w W3) := HZ2.out.trans (qc.mono HZ2.out.size)
      have HK3 : Hid (HoldsL W3 w.heap.size [.slice (some ⟨bp, op, none⟩) p.addrs.length pc, .int .i64 p.low, .int .i64 p.high, .int .i64 p.most, .int .i64 p.filter, .int .i64 p.lv.udp, .int .i64 p.lv.echo, .int .i64 p.lv.opening, .int .i64 p.lv.opn, .int .i64 p.lv.closing, .slice ba x.binds.length ca, .slice bo x.sess.length cb, .map (some m1), .map (some m2)]) := HK2.out.kept (by simp) qc
      have HH3 : Hid (HoldsL W3 (w.heap.size + 1) [.int .i64 h.proto, .string h.addr, .int .i64 h.port]) := HH2.out.kept (by simp) qc
      have HR3 : Hid (HoldsL W3 (w.heap.size + 1 + 1) [.int .i64 0, .string ⟨#[]⟩, .int .i64 0, .string ⟨#[]⟩, .int .i64 0]) := HR2.out.kept (by simp) qc
      clear HZ2 HK2 HH2 HR2
      clear qc
      have k0 : W3.cell? ⟨w.heap.size, 0, none⟩ = some (.slice (some ⟨bp, op, none⟩) p.addrs.length pc) := HK3.out.cell rfl
      have k1 : W3.cell? ⟨w.heap.size, 1, none⟩ = some (.int .i64 p.low) := HK3.out.cell rfl
      have k2 : W3.cell? ⟨w.heap.size, 2, none⟩ = some (.int .i64 p.high) := HK3.out.cell rfl
      have k3 : W3.cell? ⟨w.heap.size, 3, none⟩ = some (.int .i64 p.most) := HK3.out.cell rfl
      have k4 : W3.cell? ⟨w.heap.size, 4, none⟩ = some (.int .i64 p.filter) := HK3.out.cell rfl
      have k5 : W3.cell? ⟨w.heap.size, 5, none⟩ = some (.int .i64 p.lv.udp) := HK3.out.cell rfl
      have k6 : W3.cell? ⟨w.heap.size, 6, none⟩ = some (.int .i64 p.lv.echo) := HK3.out.cell rfl
      have k7 : W3.cell? ⟨w.heap.size, 7, none⟩ = some (.int .i64 p.lv.opening) := HK3.out.cell rfl
      have k8 : W3.cell? ⟨w.heap.size, 8, none⟩ = some (.int .i64 p.lv.opn) := HK3.out.cell rfl
      have k9 : W3.cell? ⟨w.heap.size, 9, none⟩ = some (.int .i64 p.lv.closing) := HK3.out.cell rfl
      have k10 : W3.cell? ⟨w.heap.size, 10, none⟩ = some (.slice ba x.binds.length ca) := HK3.out.cell rfl
      have k11 : W3.cell? ⟨w.heap.size, 11, none⟩ = some (.slice bo x.sess.length cb) := HK3.out.cell rfl
      have k12 : W3.cell? ⟨w.heap.size, 12, none⟩ = some (.map (some m1)) := HK3.out.cell rfl
      have k13 : W3.cell? ⟨w.heap.size, 13, none⟩ = some (.map (some m2)) := HK3.out.cell rfl
      have c0 : W3.cell? ⟨(w.heap.size + 1), 0, none⟩ = some (.int .i64 h.proto) := HH3.out.cell rfl
      have c1 : W3.cell? ⟨(w.heap.size + 1), 1, none⟩ = some (.string h.addr) := HH3.out.cell rfl
      have c2 : W3.cell? ⟨(w.heap.size + 1), 2, none⟩ = some (.int .i64 h.port) := HH3.out.cell rfl
      go_wp2_with fail
      refine (HF.out _ ot HZ3.out HSZ.out).mono ?_
      rintro e W9 ⟨rfl, q9⟩
      have HZ9 : Hid (Below w.heap.size w W9) := HZ3.out.trans (q9.mono HZ3.out.size)
      have HK9 : Hid (HoldsL W9 w.heap.size [.slice (some ⟨bp, op, none⟩) p.addrs.length pc, .int .i64 p.low, .int .i64 p.high, .int .i64 p.most, .int .i64 p.filter, .int .i64 p.lv.udp, .int .i64 p.lv.echo, .int .i64 p.lv.opening, .int .i64 p.lv.opn, .int .i64 p.lv.closing, .slice ba x.binds.length ca, .slice bo x.sess.length cb, .map (some m1), .map (some m2)]) := HK3.out.kept (by simp) q9
      have HH9 : Hid (HoldsL W9 (w.heap.size + 1) [.int .i64 h.proto, .string h.addr, .int .i64 h.port]) := HH3.out.kept (by simp) q9
      have HR9 : Hid (HoldsL W9 (w.heap.size + 1 + 1) [.int .i64 0, .string ⟨#[]⟩, .int .i64 0, .string ⟨#[]⟩, .int .i64 0]) := HR3.out.kept (by simp) q9
      clear HZ3 HK3 HH3 HR3
      clear q9 HF k0 k1 k2 k3 k4 k5 k6 k7 k8 k9 k10 k11 k12 k13 c0 c1 c2
      generalize lendN p x.binds h.proto ot h.port = ln at *
      have c0 : W9.cell? ⟨(w.heap.size + 1), 0, none⟩ = some (.int .i64 h.proto) := HH9.out.cell rfl
      have c1 : W9.cell? ⟨(w.heap.size + 1), 1, none⟩ = some (.string h.addr) := HH9.out.cell rfl
      have c2 : W9.cell? ⟨(w.heap.size + 1), 2, none⟩ = some (.int .i64 h.port) := HH9.out.cell rfl
      have z0 : W9.cell? ⟨w.heap.size + 1 + 1, 0, none⟩ = some (.int .i64 0) := HR9.out.cell rfl
      have zf0 : W9.frozen? ⟨w.heap.size + 1 + 1, 0, none⟩ = false := HR9.out.free (j := 0) (by simp)
      have z1 : W9.cell? ⟨w.heap.size + 1 + 1, 1, none⟩ = some (.string ⟨#[]⟩) := HR9.out.cell rfl
      have zf1 : W9.frozen? ⟨w.heap.size + 1 + 1, 1, none⟩ = false := HR9.out.free (j := 1) (by simp)
      have z2 : W9.cell? ⟨w.heap.size + 1 + 1, 2, none⟩ = some (.int .i64 0) := HR9.out.cell rfl
      have zf2 : W9.frozen? ⟨w.heap.size + 1 + 1, 2, none⟩ = false := HR9.out.free (j := 2) (by simp)
      have z3 : W9.cell? ⟨w.heap.size + 1 + 1, 3, none⟩ = some (.string ⟨#[]⟩) := HR9.out.cell rfl
      have zf3 : W9.frozen? ⟨w.heap.size + 1 + 1, 3, none⟩ = false := HR9.out.free (j := 3) (by simp)
      have z4 : W9.cell? ⟨w.heap.size + 1 + 1, 4, none⟩ = some (.int .i64 0) := HR9.out.cell rfl
      have zf4 : W9.frozen? ⟨w.heap.size + 1 + 1, 4, none⟩ = false := HR9.out.free (j := 4) (by simp)
      go_wp2_with fail
      refine bodyPost_ret (v := .tuple #[.agg #[.int .i64 h.proto, .string h.addr, .int .i64 h.port, .string ot, .int .i64 (ln.getD 0)], .bool ln.isSome]) (by simp [results, Try.results63, go_sem, z0, z1, z2, z3, z4]) rfl (And.intro (by rw [HV2.out]; rfl) ?_)
      exact (((((HZ9.out.setCell (p := ⟨w.heap.size + 1 + 1, 0, none⟩) hRw _).setCell (p := ⟨w.heap.size + 1 + 1, 1, none⟩) hRw _).setCell (p := ⟨w.heap.size + 1 + 1, 2, none⟩) hRw _).setCell (p := ⟨w.heap.size + 1 + 1, 3, none⟩) hRw _).setCell (p := ⟨w.heap.size + 1 + 1, 4, none⟩) hRw _)
end Go.Proofs.Ytkakehchiadpbal
