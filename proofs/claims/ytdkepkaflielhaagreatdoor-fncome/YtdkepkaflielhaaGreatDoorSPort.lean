import Derived.Test.YtdkepkaflielhaaGreatDoorMerged7
set_option linter.unusedVariables false
set_option linter.unusedSimpArgs false
set_option maxRecDepth 100000
set_option maxHeartbeats 8000000
/- SPort: what the specification's l08Port answers. Printed by mksport.py. -/
namespace Go.Proofs.YtdkepkaflielhaaGreatDoor
open Go.RowKit Go.PlainAid
set_option linter.unusedVariables false
set_option linter.unusedSimpArgs false

/-- The boxes of l08Port: the pool, the bib, the bind that is told. -/
structure PortSt (w : World) (p : Pl) (x : Bb) (pa : Option Addr) (pc : Nat) (a b : Option Addr) (ca cb : Nat) (wx : World) : Prop where
 p : HoldsL wx w.heap.size [.slice pa p.addrs.length pc, iV p.low, iV p.high, iV p.most, iV p.filter, iV p.lv.udp, iV p.lv.echo, iV p.lv.opening, iV p.lv.opn, iV p.lv.closing]
 x : HoldsL wx (w.heap.size + 1) [.slice a x.binds.length ca, .slice b x.sess.length cb]
 r : HoldsL wx (w.heap.size + 1 + 1) [iV 0, eS, iV 0, eS, iV 0]
 b : Below w.heap.size w wx
theorem PortSt.kept {w : World} {p : Pl} {x : Bb} {pa : Option Addr} {pc : Nat} {a b : Option Addr} {ca cb : Nat} {wx wy : World} (h : PortSt w p x pa pc a b ca cb wx) (hB : Below wx.heap.size wx wy) : PortSt w p x pa pc a b ca cb wy :=
 ⟨h.p.kept (by simp) hB, h.x.kept (by simp) hB, h.r.kept (by simp) hB, h.b.trans (hB.mono h.b.size)⟩
theorem PortSt.setY {w : World} {p : Pl} {x : Bb} {pa : Option Addr} {pc : Nat} {a b : Option Addr} {ca cb : Nat} {wx : World} (h : PortSt w p x pa pc a b ca cb wx) {Y : Nat} (hY : w.heap.size + 1 + 1 < Y) (j : Nat) (v : Value) : PortSt w p x pa pc a b ca cb (wx.setCell ⟨Y, j, none⟩ v) :=
 ⟨h.p.setOther (by omega) v, h.x.setOther (by omega) v, h.r.setOther (by omega) v, h.b.setCell (p := ⟨Y, j, none⟩) (by show w.heap.size ≤ Y; omega) v⟩
theorem PortSt.drewK {w : World} {p : Pl} {x : Bb} {pa : Option Addr} {pc : Nat} {a b : Option Addr} {ca cb : Nat} {wx : World} (h : PortSt w p x pa pc a b ca cb wx) : PortSt w p x pa pc a b ca cb wx.drew := ⟨h.p.drew, h.x.drew, h.r.drew, h.b.drew⟩

set_option maxRecDepth 100000 in
set_option maxHeartbeats 4000000 in
theorem spPort_any (p : Pl) (x : Bb) (pa : Option Addr) (pc : Nat) (a b : Option Addr) (ca cb : Nat) (proto : Int) (inn : ByteArray) (port : Int) (w : World) (hpo : poolOk p = true) (hin : inn.size ≤ 1048576) (h0 : 0 ≤ port) (h1 : port ≤ 65535) (hl1 : x.binds.length ≤ 1048576) (hl2 : x.sess.length ≤ 1048576) (hp : SlIs strL1 1 w pa p.addrs) (hr : BbIs w a b x) :
  Cb 178 #[plC pa pc p, bbC a b ca cb x, iV proto, .string inn, iV port] w (.tuple #[bdC (lendV p x.binds proto inn port).1, iV (lendV p x.binds proto inn port).2]) := by
 have hpb : 1 ≤ p.addrs.length ∧ p.addrs.length ≤ 8 ∧ 1 ≤ p.low ∧ p.low ≤ p.high ∧ p.high ≤ 65535 := by
  unfold poolOk at hpo; simp only [Bool.and_eq_true, decide_eq_true_iff] at hpo; omega
 obtain ⟨hp1, hp8, hlo, hlh, hhi⟩ := hpb
 clear hpo
 have HST : Hid (PortSt w p x pa pc a b ca cb ((aW (aW w [.slice pa p.addrs.length pc, iV p.low, iV p.high, iV p.most, iV p.filter, iV p.lv.udp, iV p.lv.echo, iV p.lv.opening, iV p.lv.opn, iV p.lv.closing] 27) [.slice a x.binds.length ca, .slice b x.sess.length cb] 31).alloc (.cells #[iV 0, eS, iV 0, eS, iV 0] 48))) := by
  have H0 := ((HoldsL.new w [.slice pa p.addrs.length pc, iV p.low, iV p.high, iV p.most, iV p.filter, iV p.lv.udp, iV p.lv.echo, iV p.lv.opening, iV p.lv.opn, iV p.lv.closing] 27).alloc (.cells #[.slice a x.binds.length ca, .slice b x.sess.length cb] 31)).alloc (.cells #[iV 0, eS, iV 0, eS, iV 0] 48)
  have H1 := (HoldsL.new (w.alloc (.cells #[.slice pa p.addrs.length pc, iV p.low, iV p.high, iV p.most, iV p.filter, iV p.lv.udp, iV p.lv.echo, iV p.lv.opening, iV p.lv.opn, iV p.lv.closing] 27)) [.slice a x.binds.length ca, .slice b x.sess.length cb] 31).alloc (.cells #[iV 0, eS, iV 0, eS, iV 0] 48)
  have H2 := HoldsL.new ((aW w [.slice pa p.addrs.length pc, iV p.low, iV p.high, iV p.most, iV p.filter, iV p.lv.udp, iV p.lv.echo, iV p.lv.opening, iV p.lv.opn, iV p.lv.closing] 27).alloc (.cells #[.slice a x.binds.length ca, .slice b x.sess.length cb] 31)) [iV 0, eS, iV 0, eS, iV 0] 48
  rw [World.size_alloc] at H1 H2
  rw [World.size_alloc] at H2
  exact ⟨H0, H1, H2, ((bR.alloc lR _).alloc (by simp) _).alloc (by simp; omega) _⟩
 have HBI : Hid (∀ W, Below w.heap.size w W → Cb 33 #[.agg #[.slice a x.binds.length ca, .slice b x.sess.length cb], iV proto, .string inn, iV port] W (iV (findI (ofIn proto inn port) x.binds))) := fun W hW => spBind_any x.binds proto inn port a ca _ W hl1 (hr.bd.below hW)
 have HAT : Hid (∀ o n W, Below w.heap.size w W → Cb 156 #[.agg #[.slice a x.binds.length ca, .slice b x.sess.length cb], iV proto, .string o, iV n] W (iV (findI (ofOut proto o n) x.binds))) := fun o n W hW => spAt_any x.binds proto o n a ca _ W hl1 (hr.bd.below hW)
 have HSM : Hid (∀ W, Cb 70 #[.string inn] W (iV (sumV inn))) := fun W => (specSum1_any inn W (by omega)).mono fun e w' h => ⟨h.1, by rw [h.2]; exact Below.refl _ _⟩
 have HIS : Hid (∀ W, Cw 40 #[iV port, iV p.low, iV p.high] W (.bool (isIn port p.low p.high))) := fun W => specIs_any _ _ _ W
 have hsr := sumV_range inn
 have HV : Hid (lendV p x.binds proto inn port = lendV p x.binds proto inn port) := rfl
 obtain ⟨ans, hans⟩ : ∃ y, y = lendV p x.binds proto inn port := ⟨_, rfl⟩
 rw [← hans]
 have HA : Hid (ans = lendV p x.binds proto inn port) := hans
 have HR : Hid (BbIs w a b x) := hr
 have HP : Hid (SlIs strL1 1 w pa p.addrs) := hp
 unfold plC bbC
 clear hp hr hans HV
 go_enter Tryz.func178, Tryz.ntmps178
 go_upto_region 1 with fail
 generalize ((aW (aW w [.slice pa p.addrs.length pc, iV p.low, iV p.high, iV p.most, iV p.filter, iV p.lv.udp, iV p.lv.echo, iV p.lv.opening, iV p.lv.opn, iV p.lv.closing] 27) [.slice a x.binds.length ca, .slice b x.sess.length cb] 31).alloc (.cells #[iV 0, eS, iV 0, eS, iV 0] 48)) = W3 at *
 obtain ⟨k0, k1⟩ := HST.out.x.c2
 go_wp2_with fail
 refine (HBI.out _ HST.out.b).mono ?_
 rintro e w1 ⟨rfl, q1⟩
 have S1 : Hid _ := HST.out.kept q1
 clear q1 k0 k1 HST HBI
 by_cases hf : findI (ofIn proto inn port) x.binds < 0
 ·have hno := find_no _ _ hf
  have HAN : Hid (ans = match lendN p x.binds proto (outIn x.binds (outD p inn) inn) port with | some n => (⟨proto, inn, port, outIn x.binds (outD p inn) inn, n⟩, 0) | none => (bdZ, 9)) := by unfold Hid; rw [HA.out]; unfold lendV; rw [hno]; rfl
  have hf' : ¬ 0 ≤ findI (ofIn proto inn port) x.binds := by omega
  generalize findI (ofIn proto inn port) x.binds = fi at *
  clear hno HA
  go_upto_region 4 with fail
  -- the address by the sum
  obtain ⟨ix, hix⟩ : ∃ ix : Nat, ix = (sumV inn).toNat % p.addrs.length := ⟨_, rfl⟩
  have hixl : ix < p.addrs.length := by rw [hix]; exact Nat.mod_lt _ (by omega)
  have hrem : (sumV inn) % (p.addrs.length : Int) = (ix : Int) := by
   obtain ⟨n, hn⟩ := Int.eq_ofNat_of_zero_le hsr.1
   rw [hix, hn, Int.toNat_natCast]; rfl
  obtain ⟨bp, op, rfl, hbp, hatp⟩ := HP.out.at hixl
  have HPI : Hid (∀ W, Below w.heap.size w W → W.cell? ⟨bp, op + ix, none⟩ = some (.string (outD p inn))) := fun W hW => by
   have h := (hatp.below hbp hW) ix hixl 0 _ rfl
   have e : outD p inn = p.addrs[ix] := by unfold outD; rw [← hix, List.getElem?_eq_getElem hixl]; rfl
   rw [e]; simpa using h
  have hixI : (ix : Int) < (p.addrs.length : Int) := by omega
  have hlen0 : ¬ (p.addrs.length : Int) = 0 := by omega
  have hnil : ¬ p.addrs = [] := fun e => by rw [e] at hp1; simp at hp1
  have hrem2 : (sumV inn).tmod (p.addrs.length : Int) = (ix : Int) := by rw [Int.tmod_eq_emod_of_nonneg hsr.1]; exact hrem
  have HDD : Hid (outD p inn = outD p inn) := rfl
  generalize outD p inn = od at *
  generalize sumV inn = sv at *
  clear hatp hbp hix HDD
  go_cut [13] (fun v wx => v = .string od ∧ Below w1.heap.size w1 wx)
  case first =>
   rename_i J K2 hJ hK2
   refine wp_region_growV [30, 31, 32, 33, 34, 35, 36, 37, 38, 39] (by kernel_rfl) (by kernel_rfl) ?_
   apply GChV.v0
   ·rfl
   ·intro K' a wy ho hd hb hK kz
    have o5 := ho 5 (by decide)
    simp [slot] at o5
    clear hd ho
    go_simp
    try go_bits
    exact kz _ rfl
   apply GChV.v1
   ·rfl
   ·intro K' a wy ho hd hb hK kz
    have q0 := hd ⟨0, .data⟩ (by simp) rfl
    simp [rAt, IsV, slot] at q0
    clear hd ho
    have kx := (S1.out.drewK.kept hb); have kp := kx.p.cell (j := 0) rfl; have ki := HPI.out wy kx.b; clear kx
    go_simp
    try go_bits
    exact kz _ rfl
   apply GChV.v2
   ·rfl
   ·intro K' a wy ho hd hb hK kz
    have o3 := ho 3 (by decide)
    simp [slot] at o3
    clear hd ho
    go_simp
    try go_bits
    exact kz _ rfl
   apply GChV.v3
   ·rfl
   ·intro K' a wy ho hd hb hK kz
    have q2 := hd ⟨2, .data⟩ (by simp) rfl
    simp [rAt, IsV, slot] at q2
    clear hd ho
    go_simp
    refine (HSM.out wy).mono ?_
    rintro e wz ⟨rfl, hz⟩
    exact hK _ _ rfl hz
   apply GChV.v4
   ·rfl
   ·intro K' a wy ho hd hb hK kz
    have o5 := ho 5 (by decide)
    simp [slot] at o5
    clear hd ho
    go_simp
    try go_bits
    exact kz _ rfl
   apply GChV.v5
   ·rfl
   ·intro K' a wy ho hd hb hK kz
    have q4 := hd ⟨4, .data⟩ (by simp) rfl
    simp [rAt, IsV, slot] at q4
    clear hd ho
    have kx := (S1.out.drewK.kept hb); have kp := kx.p.cell (j := 0) rfl; have ki := HPI.out wy kx.b; clear kx
    go_simp
    try go_bits
    exact kz _ rfl
   apply GChV.v6
   ·rfl
   ·intro K' a wy ho hd hb hK kz
    have q5 := hd ⟨5, .data⟩ (by simp) rfl
    simp [rAt, IsV, slot] at q5
    clear hd ho
    go_simp
    try go_bits
    exact kz _ rfl
   apply GChV.v7
   ·rfl
   ·intro K' a wy ho hd hb hK kz
    have q3 := hd ⟨3, .data⟩ (by simp) rfl
    simp [rAt, IsV, slot] at q3
    have q6 := hd ⟨6, .data⟩ (by simp) rfl
    simp [rAt, IsV, slot] at q6
    clear hd ho
    go_simp
    try go_bits
    exact kz _ rfl
   apply GChV.v8
   ·rfl
   ·intro K' a wy ho hd hb hK kz
    have q1 := hd ⟨1, .data⟩ (by simp) rfl
    simp [rAt, IsV, slot] at q1
    have q7 := hd ⟨7, .data⟩ (by simp) rfl
    simp [rAt, IsV, slot] at q7
    clear hd ho
    go_simp
    try go_bits
    exact kz _ rfl
   apply GChV.v9
   ·rfl
   ·intro K' a wy ho hd hb hK kz
    have q8 := hd ⟨8, .data⟩ (by simp) rfl
    simp [rAt, IsV, slot] at q8
    clear hd ho
    have kx := (S1.out.drewK.kept hb); have kp := kx.p.cell (j := 0) rfl; have ki := HPI.out wy kx.b; clear kx
    go_simp
    try go_bits
    exact kz _ rfl
   intro X wz hR hz
   obtain ⟨x0, x1, x2, x3, x4, x5, x6, x7, x8, x9, -⟩ := hR
   simp only [IsV] at x0 x1 x2 x3 x4 x5 x6 x7 x8 x9
   simp only [putsFrom, x0, x1, x2, x3, x4, x5, x6, x7, x8, x9]
   clear x0 x1 x2 x3 x4 x5 x6 x7 x8 x9
   simp only [List.length_cons, List.length_nil, List.drop_succ_cons, List.drop_zero, Nat.zero_add, Nat.reduceAdd]
   intro K9 hK9
   go_simp
   refine hK9 _ _ ?_
   show Exit.then _ _ _ _ _
   refine hK2 _ _ (hJ _ _ ?_)
   (repeat apply Exists.intro)
   refine ⟨⟨rfl, (Below.refl _ w1).drew.trans hz⟩, rfl⟩
  case rest =>
   obtain ⟨rfl, hb4⟩ := hcut
   have S4 : Hid _ := S1.out.kept hb4
   clear hb4 S1 HSM HPI hrem hrem2
   generalize wc = w4 at *
   have k0 := S4.out.x.cell (j := 0) rfl
   go_wp2_with fail
   go_loopw [13, 14] (fun ov iv wr => ∃ i : Nat, i ≤ x.binds.length ∧ iv = iV ((i : Int) - 1) ∧ ov = .string (outIn (x.binds.drop i) od inn) ∧ PortSt w p x (some ⟨bp, op, none⟩) pc a b ca cb wr) (fun _ iv _ => (intOf iv + 1).toNat)
   case atStart => exact ⟨x.binds.length, Nat.le_refl _, rfl, by rw [List.drop_length]; rfl, S4.out⟩
   case round =>
    obtain ⟨i, hi, rfl, rfl, hS⟩ := hrel
    have S5 : Hid _ := hS
    have k0 := hS.x.cell (j := 0) rfl
    clear hS S4
    by_cases hi0 : 0 < i
    ·obtain ⟨j, rfl⟩ : ∃ j, i = j + 1 := ⟨i - 1, by omega⟩
     have hjl : j < x.binds.length := by omega
     obtain ⟨bb, ob, rfl, hbb, hatb⟩ := HR.out.bd.at hjl
     have hA := (hatb.below hbb S5.out.b) j hjl
     have HOS : Hid _ := outIn_step (d := od) (inn := inn) hjl
     obtain ⟨q, hq⟩ : ∃ q, q = x.binds[j] := ⟨_, rfl⟩
     rw [← hq] at hA HOS
     have c1 : wr.cell? ⟨bb, ob + j * 5 + 1, none⟩ = some (.string q.inn) := hA 1 _ rfl
     have c3 : wr.cell? ⟨bb, ob + j * 5 + 3, none⟩ = some (.string q.out) := hA 3 _ rfl
     have hji : ((j + 1 : Nat) : Int) - 1 = (j : Int) := by omega
     rw [hji]
     have hjn : 0 ≤ (j : Int) := by omega
     clear hA hatb hbb hq
     by_cases he : q.inn.toList = inn.toList
     ·have hb := beq_yes he
      have HON : Hid (outIn (x.binds.drop j) od inn = q.out) := by unfold Hid; rw [HOS.out]; unfold ofHost; rw [if_pos (decide_eq_true he)]
      clear he
      go_wp2_with fail
      go_roundw
      case rel => exact ⟨j, by omega, by go_num, by rw [HON.out], S5.out⟩
      case measure => simp [intOf] <;> omega
     ·have hb := beq_no he
      have HON : Hid (outIn (x.binds.drop j) od inn = outIn (x.binds.drop (j + 1)) od inn) := by unfold Hid; rw [HOS.out]; unfold ofHost; rw [if_neg (by simp [he])]
      clear he
      go_wp2_with fail
      go_roundw
      case rel => exact ⟨j, by omega, by go_num, by rw [HON.out], S5.out⟩
      case measure => simp [intOf] <;> omega
    ·have hie : i = 0 := by omega
     subst hie
     rw [List.drop_zero]
     obtain ⟨ou, hou⟩ : ∃ ou, ou = outIn x.binds od inn := ⟨_, rfl⟩
     rw [← hou] at HAN ⊢
     clear hou k0
     have B5 : Hid (Below wr.heap.size wr (wr.alloc (.cells #[iV proto, .string inn, iV port, .string ou, iV port] 48))) := bR.alloc lR _
     have Y5 : Hid (HoldsL (wr.alloc (.cells #[iV proto, .string inn, iV port, .string ou, iV port] 48)) wr.heap.size [iV proto, .string inn, iV port, .string ou, iV port]) := HoldsL.new wr [iV proto, .string inn, iV port, .string ou, iV port] 48
     have hyr : Hid (w.heap.size + 1 + 1 < wr.heap.size) := S5.out.r.lt (by simp)
     go_upto_region 11 with fail
     have S6 : Hid _ := S5.out.kept B5.out
     have hYl : wr.heap.size < (wr.alloc (.cells #[iV proto, .string inn, iV port, .string ou, iV port] 48)).heap.size := by simp
     have hYne : w.heap.size + 1 + 1 ≠ wr.heap.size := by have := hyr.out; omega
     generalize (wr.alloc (.cells #[iV proto, .string inn, iV port, .string ou, iV port] 48)) = W6 at *
     generalize wr.heap.size = Y at *
     have hYY : Hid (w.heap.size + 1 + 1 < Y) := hyr.out
     have HTW : Hid (∀ n V, PortSt w p x (some ⟨bp, op, none⟩) pc a b ca cb V → HoldsL V Y [iV proto, .string inn, iV port, .string ou, iV n] → HoldsL (((((V.setCell ⟨w.heap.size + 1 + 1, 0, none⟩ (iV proto)).setCell ⟨w.heap.size + 1 + 1, 1, none⟩ (.string inn)).setCell ⟨w.heap.size + 1 + 1, 2, none⟩ (iV port)).setCell ⟨w.heap.size + 1 + 1, 3, none⟩ (.string ou)).setCell ⟨w.heap.size + 1 + 1, 4, none⟩ (iV n)) (w.heap.size + 1 + 1) [iV proto, .string inn, iV port, .string ou, iV n] ∧ Below w.heap.size w (((((V.setCell ⟨w.heap.size + 1 + 1, 0, none⟩ (iV proto)).setCell ⟨w.heap.size + 1 + 1, 1, none⟩ (.string inn)).setCell ⟨w.heap.size + 1 + 1, 2, none⟩ (iV port)).setCell ⟨w.heap.size + 1 + 1, 3, none⟩ (.string ou)).setCell ⟨w.heap.size + 1 + 1, 4, none⟩ (iV n))) := fun n V hS hY =>
      ⟨((((hS.r.set 0 (iV proto)).set 1 (.string inn)).set 2 (iV port)).set 3 (.string ou)).set 4 (iV n), ((((hS.b.setCell (p := ⟨w.heap.size + 1 + 1, 0, none⟩) (by show w.heap.size ≤ w.heap.size + 1 + 1; omega) _).setCell (p := ⟨w.heap.size + 1 + 1, 1, none⟩) (by show w.heap.size ≤ w.heap.size + 1 + 1; omega) _).setCell (p := ⟨w.heap.size + 1 + 1, 2, none⟩) (by show w.heap.size ≤ w.heap.size + 1 + 1; omega) _).setCell (p := ⟨w.heap.size + 1 + 1, 3, none⟩) (by show w.heap.size ≤ w.heap.size + 1 + 1; omega) _).setCell (p := ⟨w.heap.size + 1 + 1, 4, none⟩) (by show w.heap.size ≤ w.heap.size + 1 + 1; omega) _⟩
     have HFR : Hid (∀ n, freeP x.binds proto ou n = decide (findI (ofOut proto ou n) x.binds < 0)) := fun _ => rfl
     have HLN : Hid (lendN p x.binds proto ou port = if (isIn port p.low p.high && freeP x.binds proto ou port) = true then some port else match leastN (fun n => decide (n % 2 = port % 2) && freeP x.binds proto ou n) p.low (p.high - p.low + 1).toNat with | some n => some n | none => leastN (freeP x.binds proto ou) p.low (p.high - p.low + 1).toNat) := rfl
     obtain ⟨-, z1, z2⟩ := S6.out.p.c3
     obtain ⟨k0, k1⟩ := S6.out.x.c2
     clear S5 B5
     go_cut [81] (fun v wx => v = .bool (isIn port p.low p.high && freeP x.binds proto ou port) ∧ Below W6.heap.size W6 wx)
     case first =>
      have hun : undef = Value.tuple #[] := rfl
      cases hisb : isIn port p.low p.high with
      | false =>
       go_wp2_with fail
       refine (HIS.out _).mono ?_
       rw [hisb]
       rintro e w7 ⟨rfl, rfl⟩
       go_wp2_with fail
       go_meet
       exact ⟨by rw [hisb]; rfl, Below.refl _ _⟩
      | true =>
       go_wp2_with fail
       refine (HIS.out _).mono ?_
       rw [hisb]
       rintro e w7 ⟨rfl, rfl⟩
       go_wp2_with fail
       refine (HAT.out ou port _ S6.out.b).mono ?_
       rintro e w8 ⟨rfl, q8⟩
       have Q8 : Hid _ := q8
       have HFP : Hid (freeP x.binds proto ou port = decide (findI (ofOut proto ou port) x.binds < 0)) := HFR.out port
       clear q8
       generalize findI (ofOut proto ou port) x.binds = fp at *
       by_cases hfp : fp < 0
       ·go_wp2_with fail
        go_meet
        exact ⟨by rw [hisb, HFP.out]; simp [hfp], Q8.out⟩
       ·go_wp2_with fail
        go_meet
        exact ⟨by rw [hisb, HFP.out]; simp [hfp], Q8.out⟩
     case rest =>
      obtain ⟨rfl, hb7⟩ := hcut
      have S7 : Hid _ := S6.out.kept hb7
      have Y7 : Hid _ := Y5.out.kept (by simp) hb7
      clear hb7 S6 Y5 z1 z2 k0 k1 HIS
      cases hc7 : (isIn port p.low p.high && freeP x.binds proto ou port) with
      | true =>
       have HAN2 : Hid (ans = (⟨proto, inn, port, ou, port⟩, 0)) := by unfold Hid; rw [HAN.out, HLN.out, hc7]; rfl
       obtain ⟨y0, y1, y2, y3, y4⟩ := Y7.out.c5
       obtain ⟨r0, r1, r2, r3, r4⟩ := S7.out.r.c5
       obtain ⟨f0, f1, f2, f3, f4⟩ := S7.out.r.f5
       obtain ⟨t1, t2⟩ := HTW.out port wc S7.out Y7.out
       have T1 : Hid _ := t1
       have T2 : Hid _ := t2
       clear t1 t2
       go_wp2_with fail
       have u0 := T1.out.cell (j := 0) (v := iV proto) rfl
       have u1 := T1.out.cell (j := 1) (v := .string inn) rfl
       have u2 := T1.out.cell (j := 2) (v := iV port) rfl
       have u3 := T1.out.cell (j := 3) (v := .string ou) rfl
       have u4 := T1.out.cell (j := 4) (v := iV port) rfl
       refine bodyPost_ret (v := .tuple #[.agg #[iV proto, .string inn, iV port, .string ou, iV port], iV 0]) (by simp [results, Tryz.results178, go_sem, u0, u1, u2, u3, u4]) rfl ?_
       exact ⟨by rw [HAN2.out]; rfl, T2.out⟩
      | false =>
       rw [hc7, if_neg (by decide)] at HLN
       go_wp2_with fail
       go_loopw [16] (fun tv wr => ∃ t : Nat, t ≤ 2 ∧ tv = iV t ∧ (1 ≤ t → leastN (fun n => decide (n % 2 = port % 2) && freeP x.binds proto ou n) p.low (p.high - p.low + 1).toNat = none) ∧ (2 ≤ t → leastN (freeP x.binds proto ou) p.low (p.high - p.low + 1).toNat = none) ∧ PortSt w p x (some ⟨bp, op, none⟩) pc a b ca cb wr ∧ HoldsL wr Y [iV proto, .string inn, iV port, .string ou, iV port]) (fun tv _ => 2 - (intOf tv).toNat)
       case atStart => exact ⟨0, by omega, rfl, fun h => by omega, fun h => by omega, S7.out, Y7.out⟩
       case round =>
        obtain ⟨t, ht, rfl, hn0, hn1, hS, hY⟩ := hrel
        have N0 : Hid (1 ≤ t → leastN (fun n => decide (n % 2 = port % 2) && freeP x.binds proto ou n) p.low (p.high - p.low + 1).toNat = none) := hn0
        have N1 : Hid (2 ≤ t → leastN (freeP x.binds proto ou) p.low (p.high - p.low + 1).toNat = none) := hn1
        have S8 : Hid _ := hS
        have Y8 : Hid _ := hY
        clear hn0 hn1 hS hY S7 Y7
        generalize wr = w9 at *
        by_cases htl : t < 2
        ·obtain ⟨f, hfd⟩ : ∃ f : Int → Bool, f = if t = 0 then (fun n => decide (n % 2 = port % 2) && freeP x.binds proto ou n) else (freeP x.binds proto ou) := ⟨_, rfl⟩
         have HFD : Hid (f = if t = 0 then (fun n => decide (n % 2 = port % 2) && freeP x.binds proto ou n) else (freeP x.binds proto ou)) := hfd
         have z1 := S8.out.p.cell (j := 1) rfl
         have htI : (t : Int) < 2 := by omega
         clear hfd
         go_wp2_with fail
         go_loopw [17] (fun nv wr => ∃ n : Int, p.low ≤ n ∧ n ≤ p.high + 1 ∧ nv = iV n ∧ leastN f p.low (p.high - p.low + 1).toNat = leastN f n (p.high - n + 1).toNat ∧ PortSt w p x (some ⟨bp, op, none⟩) pc a b ca cb wr ∧ HoldsL wr Y [iV proto, .string inn, iV port, .string ou, iV port]) (fun nv _ => (p.high + 1 - intOf nv).toNat)
         case atStart => exact ⟨p.low, by omega, by omega, rfl, rfl, S8.out, Y8.out⟩
         case round =>
          obtain ⟨n, hn1, hn2, rfl, hle, hS, hY⟩ := hrel
          have HLE : Hid (leastN f p.low (p.high - p.low + 1).toNat = leastN f n (p.high - n + 1).toNat) := hle
          have S9 : Hid _ := hS
          have Y9 : Hid _ := hY
          have z2 := hS.p.cell (j := 2) rfl
          obtain ⟨k0, k1⟩ := hS.x.c2
          clear hle hS hY S8 Y8 z1
          by_cases hnl : n ≤ p.high
          ·have HSTP : Hid _ := leastN_step (f := f) hnl
           have hn0 : 0 ≤ n := by omega
           have hn3 : n ≤ 65535 := by omega
           go_upto_region 19 with fail
           go_cut [111] (fun v wx => v = .bool (f n) ∧ Below wr.heap.size wr wx)
           case first =>
            have hun : undef = Value.tuple #[] := rfl
            have HFP : Hid (freeP x.binds proto ou n = decide (findI (ofOut proto ou n) x.binds < 0)) := HFR.out n
            by_cases ht0 : t = 0
            ·subst ht0
             have HFN : Hid (f n = (decide (n % 2 = port % 2) && freeP x.binds proto ou n)) := by unfold Hid; rw [HFD.out]; rfl
             by_cases hpar : n % 2 = port % 2
             ·go_wp2_with fail
              refine (HAT.out ou n _ S9.out.b).mono ?_
              rintro e wa ⟨rfl, qa⟩
              have QA : Hid _ := qa
              clear qa
              generalize findI (ofOut proto ou n) x.binds = fp at *
              by_cases hfp : fp < 0
              ·go_wp2_with fail
               go_meet
               exact ⟨by rw [HFN.out, HFP.out] <;> simp [hfp, hpar], QA.out⟩
              ·go_wp2_with fail
               go_meet
               exact ⟨by rw [HFN.out, HFP.out] <;> simp [hfp, hpar], QA.out⟩
             ·go_wp2_with fail
              go_meet
              exact ⟨by rw [HFN.out]; simp [hpar], Below.refl _ _⟩
            ·have ht1 : t = 1 := by omega
             subst ht1
             have HFN : Hid (f n = freeP x.binds proto ou n) := by unfold Hid; rw [HFD.out]; rfl
             go_wp2_with fail
             refine (HAT.out ou n _ S9.out.b).mono ?_
             rintro e wa ⟨rfl, qa⟩
             have QA : Hid _ := qa
             clear qa
             generalize findI (ofOut proto ou n) x.binds = fp at *
             by_cases hfp : fp < 0
             ·go_wp2_with fail
              go_meet
              exact ⟨by rw [HFN.out, HFP.out] <;> simp [hfp], QA.out⟩
             ·go_wp2_with fail
              go_meet
              exact ⟨by rw [HFN.out, HFP.out] <;> simp [hfp], QA.out⟩
           case rest =>
            obtain ⟨rfl, hba⟩ := hcut
            have SA : Hid _ := S9.out.kept hba
            have YA : Hid _ := Y9.out.kept (by simp) hba
            clear hba S9 Y9 z2 k0 k1
            cases hfn : f n with
            | true =>
             have HLN2 : Hid (lendN p x.binds proto ou port = some n) := by
              have e1 : leastN f p.low (p.high - p.low + 1).toNat = some n := by rw [HLE.out, HSTP.out, if_pos hfn]
              unfold Hid
              rw [HLN.out]
              by_cases ht0 : t = 0
              ·have e2 : f = (fun n => decide (n % 2 = port % 2) && freeP x.binds proto ou n) := by rw [HFD.out, if_pos ht0]
               rw [← e2, e1]
              ·have e2 : f = (freeP x.binds proto ou) := by rw [HFD.out, if_neg ht0]
               rw [N0.out (by omega), ← e2, e1]
             have HAN2 : Hid (ans = (⟨proto, inn, port, ou, n⟩, 0)) := by unfold Hid; rw [HAN.out, HLN2.out]
             have v4 := YA.out.cell (j := 4) rfl
             have g4 := YA.out.free (j := 4) (by simp)
             have SB : Hid _ := SA.out.setY hYY.out 4 (iV n)
             have YB : Hid (HoldsL (wc.setCell ⟨Y, 4, none⟩ (iV n)) Y [iV proto, .string inn, iV port, .string ou, iV n]) := YA.out.set 4 (iV n)
             clear hfn
             go_upto_region 21 with fail
             generalize wc.setCell ⟨Y, 4, none⟩ (iV n) = WB at *
             clear v4 g4
             obtain ⟨y0, y1, y2, y3, y4⟩ := YB.out.c5
             obtain ⟨r0, r1, r2, r3, r4⟩ := SB.out.r.c5
             obtain ⟨f0, f1, f2, f3, f4⟩ := SB.out.r.f5
             obtain ⟨t1, t2⟩ := HTW.out n WB SB.out YB.out
             have T1 : Hid _ := t1
             have T2 : Hid _ := t2
             clear t1 t2
             go_wp2_with fail
             have u0 := T1.out.cell (j := 0) (v := iV proto) rfl
             have u1 := T1.out.cell (j := 1) (v := .string inn) rfl
             have u2 := T1.out.cell (j := 2) (v := iV port) rfl
             have u3 := T1.out.cell (j := 3) (v := .string ou) rfl
             have u4 := T1.out.cell (j := 4) (v := iV n) rfl
             refine bodyPost_ret (v := .tuple #[.agg #[iV proto, .string inn, iV port, .string ou, iV n], iV 0]) (by simp [results, Tryz.results178, go_sem, u0, u1, u2, u3, u4]) rfl ?_
             exact ⟨by rw [HAN2.out]; rfl, T2.out⟩
            | false =>
             have HL2 : Hid (leastN f p.low (p.high - p.low + 1).toNat = leastN f (n + 1) (p.high - (n + 1) + 1).toNat) := by unfold Hid; rw [HLE.out, HSTP.out, if_neg (by rw [hfn]; decide)]
             clear hfn
             go_wp2_with fail
             go_roundw
             case rel => exact ⟨n + 1, by omega, by omega, rfl, HL2.out, SA.out, YA.out⟩
             case measure => simp [intOf] <;> omega
          ·have HNO : Hid (leastN f p.low (p.high - p.low + 1).toNat = none) := by unfold Hid; rw [HLE.out]; exact leastN_end (by omega)
           go_wp2_with fail
           go_roundw
           case rel =>
            refine ⟨t + 1, by omega, by go_num, fun h => ?_, fun h => ?_, S9.out, Y9.out⟩
            ·by_cases ht0 : t = 0
             ·have := HNO.out; rw [HFD.out, if_pos ht0] at this; exact this
             ·exact N0.out (by omega)
            ·have ht0 : ¬ t = 0 := by omega
             have := HNO.out; rw [HFD.out, if_neg ht0] at this; exact this
           case measure => simp [intOf] <;> omega
        ·have ht2 : t = 2 := by omega
         subst ht2
         have HAN2 : Hid (ans = (bdZ, 9)) := by unfold Hid; rw [HAN.out, HLN.out, N0.out (by omega), N1.out (by omega)]
         obtain ⟨r0, r1, r2, r3, r4⟩ := S8.out.r.c5
         obtain ⟨f0, f1, f2, f3, f4⟩ := S8.out.r.f5
         have T1 : Hid _ := (((((S8.out.r.set 0 (iV 0)).set 1 eS).set 2 (iV 0)).set 3 eS).set 4 (iV 0))
         have T2 : Hid _ := (((((S8.out.b.setCell (p := ⟨w.heap.size + 1 + 1, 0, none⟩) (by show w.heap.size ≤ w.heap.size + 1 + 1; omega) (iV 0)).setCell (p := ⟨w.heap.size + 1 + 1, 1, none⟩) (by show w.heap.size ≤ w.heap.size + 1 + 1; omega) eS).setCell (p := ⟨w.heap.size + 1 + 1, 2, none⟩) (by show w.heap.size ≤ w.heap.size + 1 + 1; omega) (iV 0)).setCell (p := ⟨w.heap.size + 1 + 1, 3, none⟩) (by show w.heap.size ≤ w.heap.size + 1 + 1; omega) eS).setCell (p := ⟨w.heap.size + 1 + 1, 4, none⟩) (by show w.heap.size ≤ w.heap.size + 1 + 1; omega) (iV 0))
         go_wp2_with fail
         have u0 := T1.out.cell (j := 0) (v := iV 0) rfl
         have u1 := T1.out.cell (j := 1) (v := eS) rfl
         have u2 := T1.out.cell (j := 2) (v := iV 0) rfl
         have u3 := T1.out.cell (j := 3) (v := eS) rfl
         have u4 := T1.out.cell (j := 4) (v := iV 0) rfl
         refine bodyPost_ret (v := .tuple #[.agg #[iV 0, eS, iV 0, eS, iV 0], iV 9]) (by simp [results, Tryz.results178, go_sem, u0, u1, u2, u3, u4]) rfl ?_
         exact ⟨by rw [HAN2.out]; rfl, T2.out⟩
 ·obtain ⟨i, hi, hfi, hfd⟩ := findBd_at _ _ hf
  have HAN : Hid (ans = (x.binds[i], 0)) := by unfold Hid; rw [HA.out]; unfold lendV; rw [hfd]
  rw [hfi]
  obtain ⟨bb, ob, rfl, hbb, hatb⟩ := HR.out.bd.at hi
  have hA := (hatb.below hbb S1.out.b) i hi
  obtain ⟨q, hq⟩ : ∃ q, q = x.binds[i] := ⟨_, rfl⟩
  rw [← hq] at hA HAN
  have c0 : w1.cell? ⟨bb, ob + i * 5, none⟩ = some (iV q.proto) := hA 0 _ rfl
  have c1 : w1.cell? ⟨bb, ob + i * 5 + 1, none⟩ = some (.string q.inn) := hA 1 _ rfl
  have c2 : w1.cell? ⟨bb, ob + i * 5 + 2, none⟩ = some (iV q.inPort) := hA 2 _ rfl
  have c3 : w1.cell? ⟨bb, ob + i * 5 + 3, none⟩ = some (.string q.out) := hA 3 _ rfl
  have c4 : w1.cell? ⟨bb, ob + i * 5 + 4, none⟩ = some (iV q.outPort) := hA 4 _ rfl
  have k0 := S1.out.x.cell (j := 0) rfl
  have hiI : (i : Int) < (x.binds.length : Int) := by omega
  clear hatb hbb hq hA hf hfi hfd HA
  obtain ⟨r0, r1, r2, r3, r4⟩ := S1.out.r.c5
  obtain ⟨f0, f1, f2, f3, f4⟩ := S1.out.r.f5
  have T1 : Hid _ := (((((S1.out.r.set 0 (iV q.proto)).set 1 (.string q.inn)).set 2 (iV q.inPort)).set 3 (.string q.out)).set 4 (iV q.outPort))
  have T2 : Hid _ := (((((S1.out.b.setCell (p := ⟨w.heap.size + 1 + 1, 0, none⟩) (by show w.heap.size ≤ w.heap.size + 1 + 1; omega) (iV q.proto)).setCell (p := ⟨w.heap.size + 1 + 1, 1, none⟩) (by show w.heap.size ≤ w.heap.size + 1 + 1; omega) (.string q.inn)).setCell (p := ⟨w.heap.size + 1 + 1, 2, none⟩) (by show w.heap.size ≤ w.heap.size + 1 + 1; omega) (iV q.inPort)).setCell (p := ⟨w.heap.size + 1 + 1, 3, none⟩) (by show w.heap.size ≤ w.heap.size + 1 + 1; omega) (.string q.out)).setCell (p := ⟨w.heap.size + 1 + 1, 4, none⟩) (by show w.heap.size ≤ w.heap.size + 1 + 1; omega) (iV q.outPort))
  go_wp2_with fail
  have u0 := T1.out.cell (j := 0) (v := iV q.proto) rfl
  have u1 := T1.out.cell (j := 1) (v := .string q.inn) rfl
  have u2 := T1.out.cell (j := 2) (v := iV q.inPort) rfl
  have u3 := T1.out.cell (j := 3) (v := .string q.out) rfl
  have u4 := T1.out.cell (j := 4) (v := iV q.outPort) rfl
  refine bodyPost_ret (v := .tuple #[.agg #[iV q.proto, .string q.inn, iV q.inPort, .string q.out, iV q.outPort], iV 0]) (by simp [results, Tryz.results178, go_sem, u0, u1, u2, u3, u4]) rfl ?_
  exact ⟨by rw [HAN.out]; rfl, T2.out⟩

end Go.Proofs.YtdkepkaflielhaaGreatDoor
