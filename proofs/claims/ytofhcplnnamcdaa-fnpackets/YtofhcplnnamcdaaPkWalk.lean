/- PkWalk: the law FnPackets, walked: whatever is drawn, it returns true. -/
import Derived.Test.YtofhcplnnamcdaaPkM
import Derived.Test.YtofhcplnnamcdaaPkDb
import Derived.Test.YtofhcplnnamcdaaPkDa
import Derived.Test.YtofhcplnnamcdaaIV4B
import Derived.Test.YtofhcplnnamcdaaIV6B
import Derived.Test.YtofhcplnnamcdaaIV4D
import Derived.Test.YtofhcplnnamcdaaIV6D
import Derived.Test.YtofhcplnnamcdaaSV4R
import Derived.Test.YtofhcplnnamcdaaSV6R
import Derived.Test.YtofhcplnnamcdaaGrowG
import Derived.Test.YtofhcplnnamcdaaGrowU
import Derived.Test.YtofhcplnnamcdaaIOut
import Derived.Deep.RegionWith
namespace Go.Proofs.Ytofhcplnnamcdaa
open Go.RowKit Go.PlainAid
set_option linter.unusedVariables false
set_option linter.unusedSimpArgs false

/-- What is kept while the law goes on: the two packets' boxes, and what was there. -/
structure PK (w W : World) (Pb : Nat) (p : P4) (Qb : Nat) (q : P6) : Prop where
  bel : Below w.heap.size w W
  kp : BoxV4 W Pb p
  kq : BoxV6 W Qb q
theorem PK.kept {w W W' : World} {Pb : Nat} {p : P4} {Qb : Nat} {q : P6} (h : PK w W Pb p Qb q) (hb : Below W.heap.size W W') : PK w W' Pb p Qb q := ⟨h.bel.trans (hb.mono h.bel.size), h.kp.kept hb, h.kq.kept hb⟩
theorem isE (t : ByteArray) : t.toList.isEmpty = decide (t = ⟨#[]⟩) := by
  by_cases h : t = ⟨#[]⟩
  · subst h; rw [decide_eq_true rfl, ByteArray.toList_eq]; rfl
  · rw [decide_eq_false h]
    have : t.toList ≠ [] := fun e => h (by
      rw [ByteArray.toList_eq] at e
      apply ByteArray.ext
      exact Array.toList_inj.1 (e.trans rfl))
    simpa using this
theorem bytes_at {w W : World} {a : Option Addr} {len : Nat} (h : Bytes w a len w.heap.size) (hb : Below w.heap.size w W) : Bytes W a len W.heap.size := (h.kept (grown_of_below (r := none) hb) (by simp)).mono hb.size

theorem xor_ne (x c : Int) (hx : 0 ≤ x ∧ x ≤ 255) (hc : 1 ≤ c ∧ c ≤ 255) : (0 ≤ bits .xor .u8 x c ∧ bits .xor .u8 x c ≤ 255) ∧ bits .xor .u8 x c ≠ x := by
  have h : bits .xor .u8 x c = ((BitVec.ofInt 8 x ^^^ BitVec.ofInt 8 c).toNat : Int) := by
    show IntKind.u8.wrap ((BitVec.ofInt 8 x ^^^ BitVec.ofInt 8 c).toNat : Nat) = _
    rw [IntKind.wrap_u8]
    have := (BitVec.ofInt 8 x ^^^ BitVec.ofInt 8 c).isLt
    omega
  have hl := (BitVec.ofInt 8 x ^^^ BitVec.ofInt 8 c).isLt
  refine ⟨by rw [h]; omega, fun e => ?_⟩
  rw [h] at e
  have hxn : (BitVec.ofInt 8 x).toNat = x.toNat := by rw [BitVec.toNat_ofInt]; omega
  have hcn : (BitVec.ofInt 8 c).toNat = c.toNat := by rw [BitVec.toNat_ofInt]; omega
  have he : BitVec.ofInt 8 x ^^^ BitVec.ofInt 8 c = BitVec.ofInt 8 x := BitVec.eq_of_toNat_eq (by omega)
  have hb : BitVec.ofInt 8 c = BitVec.ofInt 8 x ^^^ (BitVec.ofInt 8 x ^^^ BitVec.ofInt 8 c) := by rw [← BitVec.xor_assoc, BitVec.xor_self, BitVec.zero_xor]
  rw [he, BitVec.xor_self] at hb
  have := congrArg BitVec.toNat hb
  rw [hcn] at this
  simp at this
  omega
theorem PK.set {w W : World} {Pb : Nat} {p : P4} {Qb : Nat} {q : P6} (h : PK w W Pb p Qb q) {C o : Nat} (v : Value) (h1 : C ≠ Pb) (h2 : C ≠ Qb) (h3 : w.heap.size ≤ C) : PK w (W.setCell ⟨C, o, none⟩ v) Pb p Qb q := by
  have hc : ∀ X j, C ≠ X → (W.setCell ⟨C, o, none⟩ v).cell? ⟨X, j, none⟩ = W.cell? ⟨X, j, none⟩ := fun X j hX => World.cell?_setCell_other W _ _ v (fun e => hX (congrArg Addr.block e))
  refine ⟨h.bel.setCell h3 _, ?_, ?_⟩
  · obtain ⟨k0, k1, k2, k3, k4, k5, k6, k7, k8, k9, k10⟩ := h.kp
    exact ⟨(hc Pb 0 h1).trans k0, (hc Pb 1 h1).trans k1, (hc Pb 2 h1).trans k2, (hc Pb 3 h1).trans k3, (hc Pb 4 h1).trans k4, (hc Pb 5 h1).trans k5, (hc Pb 6 h1).trans k6, (hc Pb 7 h1).trans k7, (hc Pb 8 h1).trans k8, (hc Pb 9 h1).trans k9, (hc Pb 10 h1).trans k10⟩
  · obtain ⟨k0, k1, k2, k3, k4, k5, k6, k7, k8, k9, k10⟩ := h.kq
    exact ⟨(hc Qb 0 h2).trans k0, (hc Qb 1 h2).trans k1, (hc Qb 2 h2).trans k2, (hc Qb 3 h2).trans k3, (hc Qb 4 h2).trans k4, (hc Qb 5 h2).trans k5, (hc Qb 6 h2).trans k6, (hc Qb 7 h2).trans k7, (hc Qb 8 h2).trans k8, (hc Qb 9 h2).trans k9, (hc Qb 10 h2).trans k10⟩
theorem Holds.kept {w W : World} {B n : Nat} {f : Nat → Int} (h : Holds w B n f) (hn : 0 < n) (hb : Below w.heap.size w W) : Holds W B n f := by
  have hl := World.block_lt_of_cell? w _ (h.get 0 hn).1
  exact ⟨fun i hi => ⟨((bcell hb).1 B i hl).trans (h.get i hi).1, ((bcell hb).2 B i hl).trans (h.get i hi).2⟩⟩
def IsRg (lo hi : Int) : Value → World → Prop := fun v _ => ∃ r, v = .int .i64 r ∧ lo ≤ r ∧ r ≤ hi
def IsRu (lo hi : Int) : Value → World → Prop := fun v _ => ∃ r, v = .int .u8 r ∧ lo ≤ r ∧ r ≤ hi
def IsXo (x : Int) : Value → World → Prop := fun v _ => ∃ y, v = .int .u8 y ∧ (0 ≤ y ∧ y ≤ 255) ∧ y ≠ x
theorem stable_isRg (lo hi : Int) : Stable (IsRg lo hi) := fun _ _ _ h _ => h
theorem stable_isRu (lo hi : Int) : Stable (IsRu lo hi) := fun _ _ _ h _ => h
theorem stable_isXo (x : Int) : Stable (IsXo x) := fun _ _ _ h _ => h

set_option maxRecDepth 100000 in
set_option maxHeartbeats 8000000 in
theorem pkWalk (a0 : Option Addr) (len0 cap0 : Nat) (a1 : Option Addr) (len1 cap1 : Nat) (w : World) (h0 : len0 ≤ 1048576) (h1 : len1 ≤ 1048576) (b0 : Bytes w a0 len0 w.heap.size) (b1 : Bytes w a1 len1 w.heap.size) :
    Calls Try.prog 7 #[.slice a0 len0 cap0, .slice a1 len1 cap1] w fun e w' => e = .returned (.bool true) ∧ Below w.heap.size w w' := by
  have B0 : Hid (Bytes w a0 len0 w.heap.size) := b0
  have B1 : Hid (Bytes w a1 len1 w.heap.size) := b1
  have l0 : ¬ (1048576 : Int) < len0 := by omega
  have l1 : ¬ (1048576 : Int) < len1 := by omega
  clear b0 b1
  go_enter Try.func7, Try.ntmps7
  go_wp2_with fail
  refine (drawV4Bytes_any a0 len0 cap0 _ h0 B0.out).mono ?_
  rintro e w1 ⟨p, rfl, hp, q1⟩
  have G1 : Hid (Below w.heap.size w (w1.alloc (.cells #[.int .i64 p.tos, .int .i64 p.id, .bool p.whole, .bool p.more, .int .i64 p.off, .int .i64 p.ttl, .int .i64 p.proto, .string p.src, .string p.dst, .string p.opts, .string p.data] 56))) := q1.alloc q1.size _
  have K1 : Hid (BoxV4 (w1.alloc (.cells #[.int .i64 p.tos, .int .i64 p.id, .bool p.whole, .bool p.more, .int .i64 p.off, .int .i64 p.ttl, .int .i64 p.proto, .string p.src, .string p.dst, .string p.opts, .string p.data] 56)) w1.heap.size p) := BoxV4.new w1 p
  clear q1
  unfold p4C
  go_wp2_with fail
  generalize w1.alloc (.cells #[.int .i64 p.tos, .int .i64 p.id, .bool p.whole, .bool p.more, .int .i64 p.off, .int .i64 p.ttl, .int .i64 p.proto, .string p.src, .string p.dst, .string p.opts, .string p.data] 56) = W1 at *
  generalize w1.heap.size = Pb at *
  refine (drawV6Bytes_any a0 len0 cap0 _ h0 (bytes_at B0.out G1.out)).mono ?_
  rintro e w2 ⟨q, rfl, hq, q2⟩
  have q2' : Below w2.heap.size w2 (w2.alloc (.cells #[.int .i64 q.cls, .int .i64 q.flow, .int .i64 q.next, .int .i64 q.hops, .string q.src, .string q.dst, .bool q.piece, .bool q.more, .int .i64 q.off, .int .i64 q.id, .string q.data] 59)) := (Below.refl _ _).alloc (Nat.le_refl _) _
  have S0 : Hid (PK w (w2.alloc (.cells #[.int .i64 q.cls, .int .i64 q.flow, .int .i64 q.next, .int .i64 q.hops, .string q.src, .string q.dst, .bool q.piece, .bool q.more, .int .i64 q.off, .int .i64 q.id, .string q.data] 59)) Pb p w2.heap.size q) := ⟨(G1.out.trans (q2.mono G1.out.size)).trans (q2'.mono (Nat.le_trans G1.out.size q2.size)), (K1.out.kept q2).kept q2', BoxV6.new w2 q⟩
  clear q2 q2' G1 K1 B0
  unfold p6C
  go_upto_region 5 with fail
  generalize w2.alloc (.cells #[.int .i64 q.cls, .int .i64 q.flow, .int .i64 q.next, .int .i64 q.hops, .string q.src, .string q.dst, .bool q.piece, .bool q.more, .int .i64 q.off, .int .i64 q.id, .string q.data] 59) = W2 at *
  generalize w2.heap.size = Qb at *
  have HI4 : Hid (∀ W, Calls Try.prog 36 #[.agg #[.int .i64 p.tos, .int .i64 p.id, .bool p.whole, .bool p.more, .int .i64 p.off, .int .i64 p.ttl, .int .i64 p.proto, .string p.src, .string p.dst, .string p.opts, .string p.data]] W fun e w' => e = .returned (.string (v4BytesV p)) ∧ Below W.heap.size W w') := fun W => implV4Bytes_sm p W hp.sm.1 hp.sm.2
  have HS4 : Hid (∀ W, Calls Try.prog 38 #[.agg #[.int .i64 p.tos, .int .i64 p.id, .bool p.whole, .bool p.more, .int .i64 p.off, .int .i64 p.ttl, .int .i64 p.proto, .string p.src, .string p.dst, .string p.opts, .string p.data]] W fun e w' => e = .returned (.string (v4BytesV p)) ∧ Below W.heap.size W w') := fun W => specV4Bytes_sm p W hp.sm.1 hp.sm.2
  have HR4 : Hid (∀ W, Calls Try.prog 40 #[.agg #[.int .i64 p.tos, .int .i64 p.id, .bool p.whole, .bool p.more, .int .i64 p.off, .int .i64 p.ttl, .int .i64 p.proto, .string p.src, .string p.dst, .string p.opts, .string p.data]] W fun e w' => e = .returned (.bool (v4Ok p)) ∧ Below W.heap.size W w') := fun W => implV4Right_sm p W hp.sm.1 hp.sm.2
  have HI6 : Hid (∀ W, Calls Try.prog 37 #[.agg #[.int .i64 q.cls, .int .i64 q.flow, .int .i64 q.next, .int .i64 q.hops, .string q.src, .string q.dst, .bool q.piece, .bool q.more, .int .i64 q.off, .int .i64 q.id, .string q.data]] W fun e w' => e = .returned (.string (v6BytesV q)) ∧ Below W.heap.size W w') := fun W => implV6Bytes_sm q W hq.sm.1 hq.sm.2
  have HS6 : Hid (∀ W, Calls Try.prog 39 #[.agg #[.int .i64 q.cls, .int .i64 q.flow, .int .i64 q.next, .int .i64 q.hops, .string q.src, .string q.dst, .bool q.piece, .bool q.more, .int .i64 q.off, .int .i64 q.id, .string q.data]] W fun e w' => e = .returned (.string (v6BytesV q)) ∧ Below W.heap.size W w') := fun W => specV6Bytes_sm q W hq.sm.1 hq.sm.2
  have HR6 : Hid (∀ W, Calls Try.prog 41 #[.agg #[.int .i64 q.cls, .int .i64 q.flow, .int .i64 q.next, .int .i64 q.hops, .string q.src, .string q.dst, .bool q.piece, .bool q.more, .int .i64 q.off, .int .i64 q.id, .string q.data]] W fun e w' => e = .returned (.bool (v6Ok q)) ∧ Below W.heap.size W w') := fun W => implV6Right_sm q W hq.sm.1 hq.sm.2
  have hz4 := v4Bytes_size hp
  have hz6 := v6Bytes_size hq
  have E4 : Hid (_ ↔ _) := v4_empty p
  have E6 : Hid (_ ↔ _) := v6_empty q
  have HB4 : Hid (v4Ok p = true → v4BytesV p = v4Raw p) := fun h => by unfold v4BytesV; rw [if_pos h]
  have HB6 : Hid (v6Ok q = true → v6BytesV q = v6Raw q) := fun h => by unfold v6BytesV; rw [if_pos h]
  generalize v4BytesV p = t4 at *
  generalize v6BytesV q = t6 at *
  obtain ⟨ok4, hok4⟩ : ∃ b, b = v4Ok p := ⟨_, rfl⟩
  obtain ⟨ok6, hok6⟩ : ∃ b, b = v6Ok q := ⟨_, rfl⟩
  have HO4 : Hid (ok4 = v4Ok p) := hok4
  have HO6 : Hid (ok6 = v6Ok q) := hok6
  rw [← hok4] at HR4 E4
  rw [← hok6] at HR6 E6
  clear hok4 hok6
  have ie4 : t4.toList.isEmpty = !ok4 := by
    rw [isE]; cases hh : ok4 with
    | false => rw [hh] at E4; exact decide_eq_true (E4.out.2 rfl)
    | true => rw [hh] at E4; exact decide_eq_false (fun e => by cases E4.out.1 e)
  have ie6 : t6.toList.isEmpty = !ok6 := by
    rw [isE]; cases hh : ok6 with
    | false => rw [hh] at E6; exact decide_eq_true (E6.out.2 rfl)
    | true => rw [hh] at E6; exact decide_eq_false (fun e => by cases E6.out.1 e)
  obtain ⟨k0, k1, k2, k3, k4, k5, k6, k7, k8, k9, k10⟩ := S0.out.kp
  go_wp2_with fail
  refine (HI4.out _).mono ?_
  rintro e W3 ⟨rfl, q3⟩
  have S3 : Hid _ := S0.out.kept q3
  clear q3 S0 k0 k1 k2 k3 k4 k5 k6 k7 k8 k9 k10
  obtain ⟨j0, j1, j2, j3, j4, j5, j6, j7, j8, j9, j10⟩ := S3.out.kq
  go_wp2_with fail
  refine (HI6.out _).mono ?_
  rintro e W4 ⟨rfl, q4⟩
  have S4 : Hid _ := S3.out.kept q4
  clear q4 S3 j0 j1 j2 j3 j4 j5 j6 j7 j8 j9 j10
  obtain ⟨k0, k1, k2, k3, k4, k5, k6, k7, k8, k9, k10⟩ := S4.out.kp
  go_upto_region 7 with fail
  go_wp2_with fail
  refine (HS4.out _).mono ?_
  rintro e W5 ⟨rfl, q5⟩
  have S5 : Hid _ := S4.out.kept q5
  clear q5 S4 k0 k1 k2 k3 k4 k5 k6 k7 k8 k9 k10
  obtain ⟨j0, j1, j2, j3, j4, j5, j6, j7, j8, j9, j10⟩ := S5.out.kq
  go_wp2_with fail
  refine (HS6.out _).mono ?_
  rintro e W6 ⟨rfl, q6⟩
  have S6 : Hid _ := S5.out.kept q6
  clear q6 S5 j0 j1 j2 j3 j4 j5 j6 j7 j8 j9 j10
  obtain ⟨k0, k1, k2, k3, k4, k5, k6, k7, k8, k9, k10⟩ := S6.out.kp
  go_wp2_with fail
  refine (HR4.out _).mono ?_
  rintro e W7 ⟨rfl, q7⟩
  have S7 : Hid _ := S6.out.kept q7
  clear q7 S6 k0 k1 k2 k3 k4 k5 k6 k7 k8 k9 k10
  obtain ⟨j0, j1, j2, j3, j4, j5, j6, j7, j8, j9, j10⟩ := S7.out.kq
  go_wp2_with fail
  refine (HR6.out _).mono ?_
  rintro e W8 ⟨rfl, q8⟩
  have S8 : Hid _ := S7.out.kept q8
  clear q8 S7 j0 j1 j2 j3 j4 j5 j6 j7 j8 j9 j10 HI4 HS4 HR4 HI6 HS6 HR6
  have HBm : Hid (∀ W, PK w W Pb p Qb q → Bytes W a1 len1 w.heap.size) := fun W h => B1.out.kept (grown_of_below (r := none) h.bel) (by simp)
  go_upto_region 9 with fail
  go_wp2_with fail
  refine (lwAt_any a1 len1 cap1 0 20 w.heap.size _ (by omega) (by omega) h1 (by omega) (HBm.out _ S8.out)).mono ?_
  rintro e W8' ⟨r, rfl, rfl, r0, r1, r2⟩
  obtain ⟨k, rfl⟩ := Int.eq_ofNat_of_zero_le r0
  have hk : k ≤ 20 := by omega
  clear r0 r1 r2
  obtain ⟨rest, W9, hmk, hcv, hzr, hbz, -⟩ := mkz k W8' (by omega)
  have S9 : Hid _ := S8.out.kept hbz
  clear hbz S8
  go_upto_region 10 with fail
  clear hmk hcv
  have HRest : Hid (rest.size ≤ 20) := by unfold Hid; omega
  have n1 : ¬ 9223372036854775807 < t4.size + rest.size := by omega
  have n2 : ¬ 9223372036854775807 < t6.size + rest.size := by omega
  have n3 : ¬ 9223372036854775807 < t4.size + k := by omega
  have n4 : ¬ 9223372036854775807 < t6.size + k := by omega
  have HRd4 : Hid (ok4 = true → ∀ W, Calls Try.prog 42 #[.string (t4 ++ rest)] W fun e w' => e = .returned (.agg #[.int .i64 p.tos, .int .i64 p.id, .bool p.whole, .bool p.more, .int .i64 p.off, .int .i64 p.ttl, .int .i64 p.proto, .string p.src, .string p.dst, .string p.opts, .string p.data, .int .i64 0]) ∧ Below W.heap.size W w') := fun h W => by
    have hv : v4Ok p = true := by rw [← HO4.out]; exact h
    have ht := HB4.out hv
    obtain ⟨c1, c2⟩ := v4_round p hv rest (by have := HRest.out; omega)
    rw [← ht] at c1 c2
    refine (implV4Read_any (t4 ++ rest) W (by rw [ByteArray.size_append]; have := HRest.out; omega)).mono fun e w' hh => ⟨?_, hh.2⟩
    rw [hh.1]; unfold v4ReadV; rw [c1, if_pos rfl, c2]; rfl
  have HRd6 : Hid (ok6 = true → ∀ W, Calls Try.prog 43 #[.string (t6 ++ rest)] W fun e w' => e = .returned (.agg #[.int .i64 q.cls, .int .i64 q.flow, .int .i64 q.next, .int .i64 q.hops, .string q.src, .string q.dst, .bool q.piece, .bool q.more, .int .i64 q.off, .int .i64 q.id, .string q.data, .int .i64 0]) ∧ Below W.heap.size W w') := fun h W => by
    have hv : v6Ok q = true := by rw [← HO6.out]; exact h
    have ht := HB6.out hv
    obtain ⟨c1, c2⟩ := v6_round q hv rest (by have := HRest.out; omega)
    rw [← ht] at c1 c2
    refine (implV6Read_any (t6 ++ rest) W (by rw [ByteArray.size_append]; have := HRest.out; omega)).mono fun e w' hh => ⟨?_, hh.2⟩
    rw [hh.1]; unfold v6ReadV; rw [c1, if_pos rfl, c2]; rfl
  have ne4 := neV4O_bin p 0
  have ne6 := neV6O_bin q 0
  have nr4 := eqV4O_run p 0
  have nr6 := eqV6O_run q 0
  clear hk hzr
  have HKP : Hid (∀ wy, Below W9.drew.heap.size W9.drew wy → BoxV4 wy Pb p) := fun wy hy => S9.out.kp.kept ((Below.refl _ W9).drew.trans hy)
  have HKQ : Hid (∀ wy, Below W9.drew.heap.size W9.drew wy → BoxV6 wy Qb q) := fun wy hy => S9.out.kq.kept ((Below.refl _ W9).drew.trans hy)
  go_cut [82] (fun v wx => v = .bool false ∧ PK w wx Pb p Qb q)
  case first =>
    rename_i J K2 hJ hK2
    refine wp_region_growG (Rs := [IsV (.string t4), IsV (.bool ok4), IsV (.bool ok4), On ok4 (IsV (.string t4)), On ok4 (IsV (.string rest)), On ok4 (IsV (.string (t4 ++ rest))), On ok4 (IsV (.agg #[.int .i64 p.tos, .int .i64 p.id, .bool p.whole, .bool p.more, .int .i64 p.off, .int .i64 p.ttl, .int .i64 p.proto, .string p.src, .string p.dst, .string p.opts, .string p.data, .int .i64 0])), On ok4 (IsV (.agg #[.int .i64 p.tos, .int .i64 p.id, .bool p.whole, .bool p.more, .int .i64 p.off, .int .i64 p.ttl, .int .i64 p.proto, .string p.src, .string p.dst, .string p.opts, .string p.data])), On ok4 (IsV (.agg #[.int .i64 p.tos, .int .i64 p.id, .bool p.whole, .bool p.more, .int .i64 p.off, .int .i64 p.ttl, .int .i64 p.proto, .string p.src, .string p.dst, .string p.opts, .string p.data, .int .i64 0])), On ok4 (IsV (.bool false)), IsV (.bool false), IsV (.bool false), IsV (.string t6), IsV (.bool ok6), IsV (.bool ok6), On ok6 (IsV (.string t6)), On ok6 (IsV (.string rest)), On ok6 (IsV (.string (t6 ++ rest))), On ok6 (IsV (.agg #[.int .i64 q.cls, .int .i64 q.flow, .int .i64 q.next, .int .i64 q.hops, .string q.src, .string q.dst, .bool q.piece, .bool q.more, .int .i64 q.off, .int .i64 q.id, .string q.data, .int .i64 0])), On ok6 (IsV (.agg #[.int .i64 q.cls, .int .i64 q.flow, .int .i64 q.next, .int .i64 q.hops, .string q.src, .string q.dst, .bool q.piece, .bool q.more, .int .i64 q.off, .int .i64 q.id, .string q.data])), On ok6 (IsV (.agg #[.int .i64 q.cls, .int .i64 q.flow, .int .i64 q.next, .int .i64 q.hops, .string q.src, .string q.dst, .bool q.piece, .bool q.more, .int .i64 q.off, .int .i64 q.id, .string q.data, .int .i64 0])), On ok6 (IsV (.bool false)), IsV (.bool false), IsV (.bool false)]) [59, 60, 61, 62, 63, 64, 65, 66, 67, 68, 69, 70, 71, 72, 73, 74, 75, 76, 77, 78, 79, 80, 81, 82] (by kernel_rfl) (by kernel_rfl) rfl ?st ?steps ?done
    case st => simp [stable_isV, stable_on]
    case steps =>
      refine ⟨?s0, ?s1, ?s2, ?s3, ?s4, ?s5, ?s6, ?s7, ?s8, ?s9, ?s10, ?s11, ?s12, ?s13, ?s14, ?s15, ?s16, ?s17, ?s18, ?s19, ?s20, ?s21, ?s22, ?s23, trivial⟩
      case s0 =>
        intro K' a wy ho hd hb hK
        rw [if_pos (wanted_none rfl)]
        have h3 := ho 7 (by decide)
        simp [slot] at h3
        clear hd
        go_simp
        exact hK _ _ rfl (Below.refl _ _)
      case s1 =>
        intro K' a wy ho hd hb hK
        rw [if_pos (wanted_none rfl)]
        have q0 : IsV (.string t4) (slot a 59) wy := hd ⟨0, .data⟩ (by simp) rfl
        clear hd
        simp [IsV, slot] at q0
        go_simp
        exact hK _ _ (by simp [rAt, IsV, ie4]) (Below.refl _ _)
      case s2 =>
        intro K' a wy ho hd hb hK
        rw [if_pos (wanted_none rfl)]
        have q1 : IsV (.bool ok4) (slot a 60) wy := hd ⟨1, .data⟩ (by simp) rfl
        clear hd
        simp [IsV, slot] at q1
        go_simp
        exact hK _ _ rfl (Below.refl _ _)
      case s3 =>
        intro K' a wy ho hd hb hK
        have hgs : IsV (.bool ok4) (slot a 61) wy := hd ⟨2, .guard⟩ (by simp) rfl
        rw [wanted_of (j := 2) (d := 61) (b := ok4) (want := true) (hg := ?g1) (ho := ?g2) (hd := ?g3) (hs := hgs)]
        · cases ok4 with
          | false =>
            rw [if_neg (by decide)]
            exact hK _ _ (fun e => by cases e) (Below.refl _ _)
          | true =>
            rw [if_pos (by decide)]
            have h3 := ho 7 (by decide)
            simp [slot] at h3
            clear hd
            go_simp
            exact hK _ _ (fun _ => rfl) (Below.refl _ _)
        case g2 => rfl
        case g1 => rfl
        case g3 => rfl
      case s4 =>
        intro K' a wy ho hd hb hK
        have hgs : IsV (.bool ok4) (slot a 61) wy := hd ⟨2, .guard⟩ (by simp) rfl
        rw [wanted_of (j := 2) (d := 61) (b := ok4) (want := true) (hg := ?g1) (ho := ?g2) (hd := ?g3) (hs := hgs)]
        · cases ok4 with
          | false =>
            rw [if_neg (by decide)]
            exact hK _ _ (fun e => by cases e) (Below.refl _ _)
          | true =>
            rw [if_pos (by decide)]
            have h3 := ho 9 (by decide)
            simp [slot] at h3
            clear hd
            go_simp
            exact hK _ _ (fun _ => rfl) (Below.refl _ _)
        case g2 => rfl
        case g1 => rfl
        case g3 => rfl
      case s5 =>
        intro K' a wy ho hd hb hK
        have hgs : IsV (.bool ok4) (slot a 61) wy := hd ⟨2, .guard⟩ (by simp) rfl
        rw [wanted_of (j := 2) (d := 61) (b := ok4) (want := true) (hg := ?g1) (ho := ?g2) (hd := ?g3) (hs := hgs)]
        · cases ok4 with
          | false =>
            rw [if_neg (by decide)]
            exact hK _ _ (fun e => by cases e) (Below.refl _ _)
          | true =>
            rw [if_pos (by decide)]
            have q3 : IsV (.string t4) (slot a 62) wy := hd ⟨3, .data⟩ (by simp) rfl rfl
            have q4 : IsV (.string rest) (slot a 63) wy := hd ⟨4, .data⟩ (by simp) rfl rfl
            clear hd
            simp [IsV, slot] at q3
            simp [IsV, slot] at q4
            go_simp
            exact hK _ _ (fun _ => rfl) (Below.refl _ _)
        case g2 => rfl
        case g1 => rfl
        case g3 => rfl
      case s6 =>
        intro K' a wy ho hd hb hK
        have hgs : IsV (.bool ok4) (slot a 61) wy := hd ⟨2, .guard⟩ (by simp) rfl
        rw [wanted_of (j := 2) (d := 61) (b := ok4) (want := true) (hg := ?g1) (ho := ?g2) (hd := ?g3) (hs := hgs)]
        · cases ok4 with
          | false =>
            rw [if_neg (by decide)]
            exact hK _ _ (fun e => by cases e) (Below.refl _ _)
          | true =>
            rw [if_pos (by decide)]
            have q5 : IsV (.string (t4 ++ rest)) (slot a 64) wy := hd ⟨5, .data⟩ (by simp) rfl rfl
            clear hd
            simp [IsV, slot] at q5
            go_simp
            refine (HRd4.out rfl _).mono ?_
            rintro e wz ⟨rfl, hz⟩
            exact hK _ _ (fun _ => rfl) hz
        case g2 => rfl
        case g1 => rfl
        case g3 => rfl
      case s7 =>
        intro K' a wy ho hd hb hK
        have hgs : IsV (.bool ok4) (slot a 61) wy := hd ⟨2, .guard⟩ (by simp) rfl
        rw [wanted_of (j := 2) (d := 61) (b := ok4) (want := true) (hg := ?g1) (ho := ?g2) (hd := ?g3) (hs := hgs)]
        · cases ok4 with
          | false =>
            rw [if_neg (by decide)]
            exact hK _ _ (fun e => by cases e) (Below.refl _ _)
          | true =>
            rw [if_pos (by decide)]
            clear hd
            obtain ⟨k0, k1, k2, k3, k4, k5, k6, k7, k8, k9, k10⟩ := HKP.out wy hb
            have h3 := ho 5 (by decide)
            simp [slot] at h3
            go_simp
            exact hK _ _ (fun _ => rfl) (Below.refl _ _)
        case g2 => rfl
        case g1 => rfl
        case g3 => rfl
      case s8 =>
        intro K' a wy ho hd hb hK
        have hgs : IsV (.bool ok4) (slot a 61) wy := hd ⟨2, .guard⟩ (by simp) rfl
        rw [wanted_of (j := 2) (d := 61) (b := ok4) (want := true) (hg := ?g1) (ho := ?g2) (hd := ?g3) (hs := hgs)]
        · cases ok4 with
          | false =>
            rw [if_neg (by decide)]
            exact hK _ _ (fun e => by cases e) (Below.refl _ _)
          | true =>
            rw [if_pos (by decide)]
            have q7 : IsV (.agg #[.int .i64 p.tos, .int .i64 p.id, .bool p.whole, .bool p.more, .int .i64 p.off, .int .i64 p.ttl, .int .i64 p.proto, .string p.src, .string p.dst, .string p.opts, .string p.data]) (slot a 66) wy := hd ⟨7, .data⟩ (by simp) rfl rfl
            clear hd
            simp [IsV, slot] at q7
            go_simp
            exact hK _ _ (fun _ => rfl) (Below.refl _ _)
        case g2 => rfl
        case g1 => rfl
        case g3 => rfl
      case s9 =>
        intro K' a wy ho hd hb hK
        have hgs : IsV (.bool ok4) (slot a 61) wy := hd ⟨2, .guard⟩ (by simp) rfl
        rw [wanted_of (j := 2) (d := 61) (b := ok4) (want := true) (hg := ?g1) (ho := ?g2) (hd := ?g3) (hs := hgs)]
        · cases ok4 with
          | false =>
            rw [if_neg (by decide)]
            exact hK _ _ (fun e => by cases e) (Below.refl _ _)
          | true =>
            rw [if_pos (by decide)]
            have q6 : IsV (.agg #[.int .i64 p.tos, .int .i64 p.id, .bool p.whole, .bool p.more, .int .i64 p.off, .int .i64 p.ttl, .int .i64 p.proto, .string p.src, .string p.dst, .string p.opts, .string p.data, .int .i64 0]) (slot a 65) wy := hd ⟨6, .data⟩ (by simp) rfl rfl
            have q8 : IsV (.agg #[.int .i64 p.tos, .int .i64 p.id, .bool p.whole, .bool p.more, .int .i64 p.off, .int .i64 p.ttl, .int .i64 p.proto, .string p.src, .string p.dst, .string p.opts, .string p.data, .int .i64 0]) (slot a 67) wy := hd ⟨8, .data⟩ (by simp) rfl rfl
            clear hd
            simp [IsV, slot] at q6
            simp [IsV, slot] at q8
            go_simp
            exact hK _ _ (fun _ => rfl) (Below.refl _ _)
        case g2 => rfl
        case g1 => rfl
        case g3 => rfl
      case s10 =>
        intro K' a wy ho hd hb hK
        rw [if_pos (wanted_none rfl)]
        cases ok4 with
        | false =>
          have q2 : IsV (.bool false) (slot a 61) wy := hd ⟨2, .data⟩ (by simp) rfl
          clear hd
          simp [IsV, slot] at q2
          go_simp
          exact hK _ _ rfl (Below.refl _ _)
        | true =>
          have qx : IsV (.bool false) (slot a 68) wy := hd ⟨9, .data⟩ (by simp) rfl rfl
          simp [IsV, slot] at qx
          have q2 : IsV (.bool true) (slot a 61) wy := hd ⟨2, .data⟩ (by simp) rfl
          clear hd
          simp [IsV, slot] at q2
          go_simp
          exact hK _ _ rfl (Below.refl _ _)
      case s11 =>
        intro K' a wy ho hd hb hK
        rw [if_pos (wanted_none rfl)]
        have q10 : IsV (.bool false) (slot a 69) wy := hd ⟨10, .data⟩ (by simp) rfl
        clear hd
        simp [IsV, slot] at q10
        go_simp
        exact hK _ _ rfl (Below.refl _ _)
      case s12 =>
        intro K' a wy ho hd hb hK
        have hgs : IsV (.bool false) (slot a 70) wy := hd ⟨11, .guard⟩ (by simp) rfl
        rw [wanted_of (j := 11) (d := 70) (b := false) (want := false) (hg := ?g1) (ho := ?g2) (hd := ?g3) (hs := hgs)]
        · rw [if_pos (by decide)]
          have h3 := ho 8 (by decide)
          simp [slot] at h3
          clear hd
          go_simp
          exact hK _ _ rfl (Below.refl _ _)
        case g2 => rfl
        case g1 => rfl
        case g3 => rfl
      case s13 =>
        intro K' a wy ho hd hb hK
        have hgs : IsV (.bool false) (slot a 70) wy := hd ⟨11, .guard⟩ (by simp) rfl
        rw [wanted_of (j := 11) (d := 70) (b := false) (want := false) (hg := ?g1) (ho := ?g2) (hd := ?g3) (hs := hgs)]
        · rw [if_pos (by decide)]
          have q12 : IsV (.string t6) (slot a 71) wy := hd ⟨12, .data⟩ (by simp) rfl
          clear hd
          simp [IsV, slot] at q12
          go_simp
          exact hK _ _ (by simp [rAt, IsV, ie6]) (Below.refl _ _)
        case g2 => rfl
        case g1 => rfl
        case g3 => rfl
      case s14 =>
        intro K' a wy ho hd hb hK
        have hgs : IsV (.bool false) (slot a 70) wy := hd ⟨11, .guard⟩ (by simp) rfl
        rw [wanted_of (j := 11) (d := 70) (b := false) (want := false) (hg := ?g1) (ho := ?g2) (hd := ?g3) (hs := hgs)]
        · rw [if_pos (by decide)]
          have q13 : IsV (.bool ok6) (slot a 72) wy := hd ⟨13, .data⟩ (by simp) rfl
          clear hd
          simp [IsV, slot] at q13
          go_simp
          exact hK _ _ rfl (Below.refl _ _)
        case g2 => rfl
        case g1 => rfl
        case g3 => rfl
      case s15 =>
        intro K' a wy ho hd hb hK
        have hgs : IsV (.bool ok6) (slot a 73) wy := hd ⟨14, .guard⟩ (by simp) rfl
        rw [wanted_of (j := 14) (d := 73) (b := ok6) (want := true) (hg := ?g1) (ho := ?g2) (hd := ?g3) (hs := hgs)]
        · cases ok6 with
          | false =>
            rw [if_neg (by decide)]
            exact hK _ _ (fun e => by cases e) (Below.refl _ _)
          | true =>
            rw [if_pos (by decide)]
            have h3 := ho 8 (by decide)
            simp [slot] at h3
            clear hd
            go_simp
            exact hK _ _ (fun _ => rfl) (Below.refl _ _)
        case g2 => rfl
        case g1 => rfl
        case g3 => rfl
      case s16 =>
        intro K' a wy ho hd hb hK
        have hgs : IsV (.bool ok6) (slot a 73) wy := hd ⟨14, .guard⟩ (by simp) rfl
        rw [wanted_of (j := 14) (d := 73) (b := ok6) (want := true) (hg := ?g1) (ho := ?g2) (hd := ?g3) (hs := hgs)]
        · cases ok6 with
          | false =>
            rw [if_neg (by decide)]
            exact hK _ _ (fun e => by cases e) (Below.refl _ _)
          | true =>
            rw [if_pos (by decide)]
            have h3 := ho 9 (by decide)
            simp [slot] at h3
            clear hd
            go_simp
            exact hK _ _ (fun _ => rfl) (Below.refl _ _)
        case g2 => rfl
        case g1 => rfl
        case g3 => rfl
      case s17 =>
        intro K' a wy ho hd hb hK
        have hgs : IsV (.bool ok6) (slot a 73) wy := hd ⟨14, .guard⟩ (by simp) rfl
        rw [wanted_of (j := 14) (d := 73) (b := ok6) (want := true) (hg := ?g1) (ho := ?g2) (hd := ?g3) (hs := hgs)]
        · cases ok6 with
          | false =>
            rw [if_neg (by decide)]
            exact hK _ _ (fun e => by cases e) (Below.refl _ _)
          | true =>
            rw [if_pos (by decide)]
            have q15 : IsV (.string t6) (slot a 74) wy := hd ⟨15, .data⟩ (by simp) rfl rfl
            have q16 : IsV (.string rest) (slot a 75) wy := hd ⟨16, .data⟩ (by simp) rfl rfl
            clear hd
            simp [IsV, slot] at q15
            simp [IsV, slot] at q16
            go_simp
            exact hK _ _ (fun _ => rfl) (Below.refl _ _)
        case g2 => rfl
        case g1 => rfl
        case g3 => rfl
      case s18 =>
        intro K' a wy ho hd hb hK
        have hgs : IsV (.bool ok6) (slot a 73) wy := hd ⟨14, .guard⟩ (by simp) rfl
        rw [wanted_of (j := 14) (d := 73) (b := ok6) (want := true) (hg := ?g1) (ho := ?g2) (hd := ?g3) (hs := hgs)]
        · cases ok6 with
          | false =>
            rw [if_neg (by decide)]
            exact hK _ _ (fun e => by cases e) (Below.refl _ _)
          | true =>
            rw [if_pos (by decide)]
            have q17 : IsV (.string (t6 ++ rest)) (slot a 76) wy := hd ⟨17, .data⟩ (by simp) rfl rfl
            clear hd
            simp [IsV, slot] at q17
            go_simp
            refine (HRd6.out rfl _).mono ?_
            rintro e wz ⟨rfl, hz⟩
            exact hK _ _ (fun _ => rfl) hz
        case g2 => rfl
        case g1 => rfl
        case g3 => rfl
      case s19 =>
        intro K' a wy ho hd hb hK
        have hgs : IsV (.bool ok6) (slot a 73) wy := hd ⟨14, .guard⟩ (by simp) rfl
        rw [wanted_of (j := 14) (d := 73) (b := ok6) (want := true) (hg := ?g1) (ho := ?g2) (hd := ?g3) (hs := hgs)]
        · cases ok6 with
          | false =>
            rw [if_neg (by decide)]
            exact hK _ _ (fun e => by cases e) (Below.refl _ _)
          | true =>
            rw [if_pos (by decide)]
            clear hd
            obtain ⟨j0, j1, j2, j3, j4, j5, j6, j7, j8, j9, j10⟩ := HKQ.out wy hb
            have h3 := ho 6 (by decide)
            simp [slot] at h3
            go_simp
            exact hK _ _ (fun _ => rfl) (Below.refl _ _)
        case g2 => rfl
        case g1 => rfl
        case g3 => rfl
      case s20 =>
        intro K' a wy ho hd hb hK
        have hgs : IsV (.bool ok6) (slot a 73) wy := hd ⟨14, .guard⟩ (by simp) rfl
        rw [wanted_of (j := 14) (d := 73) (b := ok6) (want := true) (hg := ?g1) (ho := ?g2) (hd := ?g3) (hs := hgs)]
        · cases ok6 with
          | false =>
            rw [if_neg (by decide)]
            exact hK _ _ (fun e => by cases e) (Below.refl _ _)
          | true =>
            rw [if_pos (by decide)]
            have q19 : IsV (.agg #[.int .i64 q.cls, .int .i64 q.flow, .int .i64 q.next, .int .i64 q.hops, .string q.src, .string q.dst, .bool q.piece, .bool q.more, .int .i64 q.off, .int .i64 q.id, .string q.data]) (slot a 78) wy := hd ⟨19, .data⟩ (by simp) rfl rfl
            clear hd
            simp [IsV, slot] at q19
            go_simp
            exact hK _ _ (fun _ => rfl) (Below.refl _ _)
        case g2 => rfl
        case g1 => rfl
        case g3 => rfl
      case s21 =>
        intro K' a wy ho hd hb hK
        have hgs : IsV (.bool ok6) (slot a 73) wy := hd ⟨14, .guard⟩ (by simp) rfl
        rw [wanted_of (j := 14) (d := 73) (b := ok6) (want := true) (hg := ?g1) (ho := ?g2) (hd := ?g3) (hs := hgs)]
        · cases ok6 with
          | false =>
            rw [if_neg (by decide)]
            exact hK _ _ (fun e => by cases e) (Below.refl _ _)
          | true =>
            rw [if_pos (by decide)]
            have q18 : IsV (.agg #[.int .i64 q.cls, .int .i64 q.flow, .int .i64 q.next, .int .i64 q.hops, .string q.src, .string q.dst, .bool q.piece, .bool q.more, .int .i64 q.off, .int .i64 q.id, .string q.data, .int .i64 0]) (slot a 77) wy := hd ⟨18, .data⟩ (by simp) rfl rfl
            have q20 : IsV (.agg #[.int .i64 q.cls, .int .i64 q.flow, .int .i64 q.next, .int .i64 q.hops, .string q.src, .string q.dst, .bool q.piece, .bool q.more, .int .i64 q.off, .int .i64 q.id, .string q.data, .int .i64 0]) (slot a 79) wy := hd ⟨20, .data⟩ (by simp) rfl rfl
            clear hd
            simp [IsV, slot] at q18
            simp [IsV, slot] at q20
            go_simp
            exact hK _ _ (fun _ => rfl) (Below.refl _ _)
        case g2 => rfl
        case g1 => rfl
        case g3 => rfl
      case s22 =>
        intro K' a wy ho hd hb hK
        have hgs : IsV (.bool false) (slot a 70) wy := hd ⟨11, .guard⟩ (by simp) rfl
        rw [wanted_of (j := 11) (d := 70) (b := false) (want := false) (hg := ?g1) (ho := ?g2) (hd := ?g3) (hs := hgs)]
        · rw [if_pos (by decide)]
          cases ok6 with
          | false =>
            have q14 : IsV (.bool false) (slot a 73) wy := hd ⟨14, .data⟩ (by simp) rfl
            clear hd
            simp [IsV, slot] at q14
            go_simp
            exact hK _ _ rfl (Below.refl _ _)
          | true =>
            have qx : IsV (.bool false) (slot a 80) wy := hd ⟨21, .data⟩ (by simp) rfl rfl
            simp [IsV, slot] at qx
            have q14 : IsV (.bool true) (slot a 73) wy := hd ⟨14, .data⟩ (by simp) rfl
            clear hd
            simp [IsV, slot] at q14
            go_simp
            exact hK _ _ rfl (Below.refl _ _)
        case g2 => rfl
        case g1 => rfl
        case g3 => rfl
      case s23 =>
        intro K' a wy ho hd hb hK
        rw [if_pos (wanted_none rfl)]
        have q11 : IsV (.bool false) (slot a 70) wy := hd ⟨11, .data⟩ (by simp) rfl
        have q22 : IsV (.bool false) (slot a 81) wy := hd ⟨22, .data⟩ (by simp) rfl
        clear hd
        simp [IsV, slot] at q11
        simp [IsV, slot] at q22
        go_simp
        exact hK _ _ rfl (Below.refl _ _)
    case done =>
      intro X wz hR hz
      obtain ⟨x0, x1, x2, x3, x4, x5, x6, x7, x8, x9, x10, x11, x12, x13, x14, x15, x16, x17, x18, x19, x20, x21, x22, x23, -⟩ := hR
      simp only [IsV] at x23
      simp only [putsFrom, x23]
      clear x0 x1 x2 x3 x4 x5 x6 x7 x8 x9 x10 x11 x12 x13 x14 x15 x16 x17 x18 x19 x20 x21 x22 x23
      go_simp
      refine hK2 _ _ (hJ _ _ ?_)
      (repeat apply Exists.intro)
      refine ⟨⟨rfl, S9.out.kept ((Below.refl _ W9).drew.trans hz)⟩, rfl⟩
  case rest =>
  obtain ⟨rfl, hS⟩ := hcut
  have S10 : Hid _ := hS
  clear hS S9 HKP HKQ n1 n2 n3 n4 HRd4 HRd6 ne4 ne6 nr4 nr6
  go_upto_if 84 with fail
  go_cut [1] (fun v wx => v = .slice a1 len1 cap1 ∧ PK w wx Pb p Qb q)
  case first =>
    cases ok4 with
    | false =>
      go_wp2_with fail
      go_meet
      exact ⟨rfl, S10.out⟩
    | true =>
      have hv : v4Ok p = true := HO4.out.symm
      have HT4 : Hid (t4 = v4Raw p) := HB4.out hv
      have HP20 : Hid (20 ≤ t4.size) := by
        have hr := (v4_round p hv (ByteArray.mk #[]) (by decide)).1
        rw [HT4.out]
        have e : v4Raw p ++ ByteArray.mk #[] = v4Raw p := ByteArray.append_empty
        rw [e] at hr
        unfold v4CodeV at hr
        by_cases g : (v4Raw p).size < 20
        · rw [if_neg (by omega), if_pos g] at hr; cases hr
        · exact Nat.le_of_not_lt g
      have HVO : Hid (v4Ok p = true) := hv
      clear hv
      obtain ⟨cap2, W11, hcv, hold, hb11, hcp⟩ := bytes_new wc t4
      have S11 : Hid _ := S10.out.kept hb11
      have HH : Hid (Holds W11 wc.heap.size t4.size (bt t4)) := hold
      have HNe : Hid (wc.heap.size ≠ Pb ∧ wc.heap.size ≠ Qb ∧ w.heap.size ≤ wc.heap.size) := by
        have x1 := World.block_lt_of_cell? wc _ S10.out.kp.c0
        have x2 := World.block_lt_of_cell? wc _ S10.out.kq.c0
        have x3 := S10.out.bel.size
        simp only at x1 x2
        exact ⟨by omega, by omega, x3⟩
      have HPos : Hid (0 < t4.size) := by have := HP20.out; unfold Hid; omega
      clear hold hb11 S10
      go_upto_region 14 with fail
      clear hcv
      go_wp2_with fail
      refine (lwAt_any a1 len1 cap1 1 20 w.heap.size _ (by omega) (by omega) h1 (by omega) (HBm.out _ S11.out)).mono ?_
      rintro e W12 ⟨r, rfl, rfl, r0, r1, r2⟩
      obtain ⟨at', rfl⟩ := Int.eq_ofNat_of_zero_le r0
      have hat : at' < 20 := by omega
      have HAt : Hid (at' < t4.size) := by have := HP20.out; unfold Hid; omega
      have S12 : Hid _ := S11.out
      have hil : (at' : Int) < t4.size := by have := HAt.out; omega
      clear S11 r0 r1 r2
      go_upto_region 15 with fail
      obtain ⟨bb, hbb⟩ : ∃ b, b = wc.heap.size := ⟨_, rfl⟩
      rw [← hbb] at HH HNe ⊢
      clear hbb
      go_cut [10] (fun v wx => v = .slice (some ⟨bb, 0, none⟩) t4.size cap2 ∧ PK w wx Pb p Qb q ∧ ∃ y, (0 ≤ y ∧ y ≤ 255) ∧ y ≠ bt t4 at' ∧ Holds wx bb t4.size (fun i => if i = at' then y else bt t4 i))
      case first =>
        rename_i J9 K9 hJ9 hK9
        refine wp_region_growU (Rs := [IsV (.slice (some ⟨bb, 0, none⟩) t4.size cap2), IsV (.int .i64 (at' : Int)), IsV (.slice (some ⟨bb, 0, none⟩) t4.size cap2), IsV (.int .i64 (at' : Int)), IsV (.pointer (some ⟨bb, at', none⟩)), IsV (.int .u8 (bt t4 at')), IsV (.slice a1 len1 cap1), IsRg 0 254, IsRg 1 255, IsRu 1 255, IsXo (bt t4 at'), IsV (.pointer (some ⟨bb, at', none⟩))]) [89, 90, 91, 92, 93, 94, 95, 96, 97, 98, 99, 100] _ (by kernel_rfl) rfl (by kernel_rfl) rfl ?st ?steps ?lst
        case st => simp [stable_isV, stable_isRg, stable_isRu, stable_isXo]
        case steps =>
          refine ⟨?s0, ?s1, ?s2, ?s3, ?s4, ?s5, ?s6, ?s7, ?s8, ?s9, ?s10, ?s11, trivial⟩
          case s0 =>
            intro K' a wy ho hd hb hK
            have h3 := ho 10 (by decide)
            simp [slot] at h3
            clear hd
            go_simp
            exact hK _ _ rfl (Below.refl _ _)
          case s1 =>
            intro K' a wy ho hd hb hK
            have h3 := ho 11 (by decide)
            simp [slot] at h3
            clear hd
            go_simp
            exact hK _ _ rfl (Below.refl _ _)
          case s2 =>
            intro K' a wy ho hd hb hK
            have h3 := ho 10 (by decide)
            simp [slot] at h3
            clear hd
            go_simp
            exact hK _ _ rfl (Below.refl _ _)
          case s3 =>
            intro K' a wy ho hd hb hK
            have h3 := ho 11 (by decide)
            simp [slot] at h3
            clear hd
            go_simp
            exact hK _ _ rfl (Below.refl _ _)
          case s4 =>
            intro K' a wy ho hd hb hK
            have q2 : IsV (.slice (some ⟨bb, 0, none⟩) t4.size cap2) (slot a 91) wy := hd ⟨2, .data⟩ (by simp) rfl
            have q3 : IsV (.int .i64 (at' : Int)) (slot a 92) wy := hd ⟨3, .data⟩ (by simp) rfl
            clear hd
            simp [IsV, slot] at q2
            simp [IsV, slot] at q3
            go_simp
            exact hK _ _ rfl (Below.refl _ _)
          case s5 =>
            intro K' a wy ho hd hb hK
            have q4 : IsV (.pointer (some ⟨bb, at', none⟩)) (slot a 93) wy := hd ⟨4, .data⟩ (by simp) rfl
            clear hd
            simp [IsV, slot] at q4
            have hcl := ((HH.out.kept HPos.out ((Below.refl _ W12).drew.trans hb)).get at' HAt.out).1
            go_simp
            exact hK _ _ rfl (Below.refl _ _)
          case s6 =>
            intro K' a wy ho hd hb hK
            have h3 := ho 1 (by decide)
            simp [slot] at h3
            clear hd
            go_simp
            exact hK _ _ rfl (Below.refl _ _)
          case s7 =>
            intro K' a wy ho hd hb hK
            have q6 : IsV (.slice a1 len1 cap1) (slot a 95) wy := hd ⟨6, .data⟩ (by simp) rfl
            clear hd
            simp [IsV, slot] at q6
            go_simp
            refine (lwAt_any a1 len1 cap1 2 255 w.heap.size _ (by omega) (by omega) h1 (by omega) (HBm.out _ (S12.out.kept ((Below.refl _ W12).drew.trans hb)))).mono ?_
            rintro e wz ⟨r, rfl, rfl, r0, r1, r2⟩
            exact hK _ _ ⟨r, rfl, r0, by omega⟩ (Below.refl _ _)
          case s8 =>
            intro K' a wy ho hd hb hK
            have q7 : IsRg 0 254 (slot a 96) wy := hd ⟨7, .data⟩ (by simp) rfl
            clear hd
            obtain ⟨r7, q7, l7, u7⟩ := q7
            simp [slot] at q7
            have hw : IntKind.i64.wrap (1 + r7) = 1 + r7 := by rw [IntKind.wrap_i64]; omega
            go_simp
            exact hK _ _ ⟨1 + r7, rfl, by omega, by omega⟩ (Below.refl _ _)
          case s9 =>
            intro K' a wy ho hd hb hK
            have q8 : IsRg 1 255 (slot a 97) wy := hd ⟨8, .data⟩ (by simp) rfl
            clear hd
            obtain ⟨r8, q8, l8, u8⟩ := q8
            simp [slot] at q8
            have hw : IntKind.u8.wrap r8 = r8 := by rw [IntKind.wrap_u8]; omega
            go_simp
            exact hK _ _ ⟨r8, rfl, l8, u8⟩ (Below.refl _ _)
          case s10 =>
            intro K' a wy ho hd hb hK
            have q5 : IsV (.int .u8 (bt t4 at')) (slot a 94) wy := hd ⟨5, .data⟩ (by simp) rfl
            have q9 : IsRu 1 255 (slot a 98) wy := hd ⟨9, .data⟩ (by simp) rfl
            clear hd
            simp [IsV, slot] at q5
            obtain ⟨r9, q9, l9, u9⟩ := q9
            simp [slot] at q9
            obtain ⟨xr, xn⟩ := xor_ne (bt t4 at') r9 (bt_isByte t4 at') ⟨l9, u9⟩
            go_simp
            exact hK _ _ ⟨_, rfl, xr, xn⟩ (Below.refl _ _)
          case s11 =>
            intro K' a wy ho hd hb hK
            have q0 : IsV (.slice (some ⟨bb, 0, none⟩) t4.size cap2) (slot a 89) wy := hd ⟨0, .data⟩ (by simp) rfl
            have q1 : IsV (.int .i64 (at' : Int)) (slot a 90) wy := hd ⟨1, .data⟩ (by simp) rfl
            clear hd
            simp [IsV, slot] at q0
            simp [IsV, slot] at q1
            go_simp
            exact hK _ _ rfl (Below.refl _ _)
        case lst =>
          intro X a K' wz ha hsl hR hb3 hK
          have HAct : Hid (a = _) := ha
          clear ha
          obtain ⟨z0, z1, z2, z3, z4, z5, z6, ⟨z7r, z7, -, -⟩, ⟨z8r, z8, -, -⟩, ⟨z9r, z9, -, -⟩, ⟨y, z10, hyr, hyn⟩, z11, -⟩ := hR
          simp only [IsV] at z0 z1 z2 z3 z4 z5 z6 z11
          have s99 := hsl 10 (by decide)
          have s100 := hsl 11 (by decide)
          rw [z10] at s99
          rw [z11] at s100
          simp [slot] at s99 s100
          clear hsl
          have hHz := HH.out.kept HPos.out ((Below.refl _ W12).drew.trans hb3)
          have hcl := (hHz.get at' HAt.out).1
          have hfl := (hHz.get at' HAt.out).2
          have HHf : Hid _ := hHz.set at' HAt.out y
          have HPf : Hid (PK w (wz.setCell ⟨bb, at', none⟩ (.int .u8 y)) Pb p Qb q) := (S12.out.kept ((Below.refl _ W12).drew.trans hb3)).set _ HNe.out.1 HNe.out.2.1 HNe.out.2.2
          clear hHz
          go_simp
          refine hK _ _ ?_
          rw [HAct.out]
          simp only [putsFrom, z0, z1, z2, z3, z4, z5, z6, z7, z8, z9, z10, z11]
          clear z0 z1 z2 z3 z4 z5 z6 z7 z8 z9 z10 z11
          go_simp
          refine hK9 _ _ (hJ9 _ _ ?_)
          (repeat apply Exists.intro)
          refine ⟨⟨rfl, HPf.out, y, hyr, hyn, HHf.out⟩, rfl⟩
      case rest =>
      obtain ⟨rfl, hS, y, hyr, hyn, hHy⟩ := hcut
      have S13 : Hid _ := hS
      have hfb : isByte (fun i => if i = at' then y else bt t4 i) := fun i => by
        show 0 ≤ (if i = at' then y else bt t4 i) ∧ (if i = at' then y else bt t4 i) ≤ 255
        split
        · exact hyr
        · exact bt_isByte t4 i
      have hcv := hHy.conv (cap := cap2) hfb
      obtain ⟨tt, htt⟩ : ∃ tt, tt = bytesOf t4.size (fun i => if i = at' then y else bt t4 i) := ⟨_, rfl⟩
      rw [← htt] at hcv
      have HTz : Hid (tt.size = t4.size) := by rw [htt]; exact bytesOf_size _ _
      have HTb : Hid (∀ i, i < t4.size → bt tt i = if i = at' then y else bt t4 i) := fun i hi => by rw [htt]; exact bytesOf_bt hi (hfb i).1 (hfb i).2
      have HTo : Hid (v4CodeV tt = 0 → v4ReadV tt ≠ p) := fun hc => by
        have hne := v4_turned p HVO.out tt at' hat (by rw [HTz.out, HT4.out]) (fun i hi => by
          by_cases hin : i < t4.size
          · rw [HTb.out i hin, if_neg hi, HT4.out]
          · rw [bt_out (by rw [HTz.out]; omega), bt_out (by rw [← HT4.out]; omega)]) (by rw [HTb.out at' HAt.out, if_pos rfl, ← HT4.out]; exact hyn) hc
        unfold v4ReadV; rw [if_pos hc]; exact hne
      have HRT : Hid (∀ W, Calls Try.prog 42 #[.string tt] W fun e w' => e = .returned (p4CO (v4ReadV tt) (v4CodeV tt)) ∧ Below W.heap.size W w') := fun W => implV4Read_any tt W (by rw [HTz.out]; omega)
      clear hS hHy hfb htt hyr hyn HH HTb HTz S12
      generalize v4ReadV tt = qq at *
      generalize v4CodeV tt = cc at *
      unfold p4CO at HRT
      go_wp2_with fail
      refine (HRT.out _).mono ?_
      rintro e W14 ⟨rfl, q14⟩
      have q15 : Below W14.heap.size W14 (W14.alloc (.cells #[.int .i64 qq.tos, .int .i64 qq.id, .bool qq.whole, .bool qq.more, .int .i64 qq.off, .int .i64 qq.ttl, .int .i64 qq.proto, .string qq.src, .string qq.dst, .string qq.opts, .string qq.data, .int .i64 cc] 66)) := (Below.refl _ _).alloc (Nat.le_refl _) _
      have S14 : Hid (PK w (W14.alloc (.cells #[.int .i64 qq.tos, .int .i64 qq.id, .bool qq.whole, .bool qq.more, .int .i64 qq.off, .int .i64 qq.ttl, .int .i64 qq.proto, .string qq.src, .string qq.dst, .string qq.opts, .string qq.data, .int .i64 cc] 66)) Pb p Qb q) := (S13.out.kept q14).kept q15
      have KX : Hid (BoxC4 (W14.alloc (.cells #[.int .i64 qq.tos, .int .i64 qq.id, .bool qq.whole, .bool qq.more, .int .i64 qq.off, .int .i64 qq.ttl, .int .i64 qq.proto, .string qq.src, .string qq.dst, .string qq.opts, .string qq.data, .int .i64 cc] 66)) W14.heap.size qq cc) := BoxC4.new W14 qq cc
      clear q14 q15 S13 HRT hcv
      go_upto_region 17 with fail
      generalize W14.alloc (.cells #[.int .i64 qq.tos, .int .i64 qq.id, .bool qq.whole, .bool qq.more, .int .i64 qq.off, .int .i64 qq.ttl, .int .i64 qq.proto, .string qq.src, .string qq.dst, .string qq.opts, .string qq.data, .int .i64 cc] 66) = W15 at *
      generalize W14.heap.size = Xb at *
      obtain ⟨x0, x1, x2, x3, x4, x5, x6, x7, x8, x9, x10, x11⟩ := KX.out
      obtain ⟨k0, k1, k2, k3, k4, k5, k6, k7, k8, k9, k10⟩ := S14.out.kp
      by_cases hc : cc = 0
      · have dc : (cc == 0) = true := by simp [hc]
        have hsm : sameV4 qq p = false := by
          cases hs : sameV4 qq p with
          | false => rfl
          | true => exact absurd ((sameV4_iff qq p).1 hs) (HTo.out hc)
        have heq := eqV4_bin qq p
        have her := eqV4_run 9998 qq p
        rw [hsm] at heq her
        clear hc HTo hsm
        go_wp2_with fail
        go_meet
        exact ⟨rfl, S14.out⟩
      · have dc : (cc == 0) = false := by simp [hc]
        have hun : undef = Value.tuple #[] := rfl
        clear HTo hc
        go_wp2_with fail
        go_meet
        exact ⟨rfl, S14.out⟩
  case rest =>
  obtain ⟨rfl, hS⟩ := hcut
  have S20 : Hid _ := hS
  clear hS S10
  go_wp2_with fail
  refine (drawV4Read_any a1 len1 cap1 _ h1 (bytes_at B1.out S20.out.bel)).mono ?_
  rintro e W21 ⟨v4, rfl, hv4, q21⟩
  have S21 : Hid _ := S20.out.kept q21
  clear q21 S20
  go_wp2_with fail
  refine (drawV6Read_any a1 len1 cap1 _ h1 (bytes_at B1.out S21.out.bel)).mono ?_
  rintro e W22 ⟨v6, rfl, hv6, q22⟩
  have S22 : Hid _ := S21.out.kept q22
  clear q22 S21
  have R1 : Hid (∀ W, Calls Try.prog 42 #[.string v4] W fun e w' => e = .returned (p4CO (v4ReadV v4) (v4CodeV v4)) ∧ Below W.heap.size W w') := fun W => implV4Read_any v4 W (by omega)
  have R2 : Hid (∀ W, Calls Try.prog 46 #[.string v4] W fun e w' => e = .returned (p4CO (v4ReadV v4) (v4CodeV v4)) ∧ Below W.heap.size W w') := fun W => specV4Read_any v4 W (by omega)
  have R3 : Hid (∀ W, Calls Try.prog 43 #[.string v6] W fun e w' => e = .returned (p6CO (v6ReadV v6) (v6CodeV v6)) ∧ Below W.heap.size W w') := fun W => implV6Read_any v6 W (by omega)
  have R4 : Hid (∀ W, Calls Try.prog 47 #[.string v6] W fun e w' => e = .returned (p6CO (v6ReadV v6) (v6CodeV v6)) ∧ Below W.heap.size W w') := fun W => specV6Read_any v6 W (by omega)
  generalize v4ReadV v4 = q4 at *
  generalize v4CodeV v4 = c4 at *
  generalize v6ReadV v6 = q6 at *
  generalize v6CodeV v6 = c6 at *
  unfold p4CO at R1 R2
  unfold p6CO at R3 R4
  have eb4 := eqV4O_bin q4 c4
  have er4 := eqV4O_run q4 c4
  have eb6 := eqV6O_bin q6 c6
  have er6 := eqV6O_run q6 c6
  go_wp2_with fail
  refine (R1.out _).mono ?_
  rintro e W23 ⟨rfl, q23⟩
  have S23 : Hid _ := S22.out.kept q23
  clear q23 S22
  go_wp2_with fail
  refine (R2.out _).mono ?_
  rintro e W24 ⟨rfl, q24⟩
  have S24 : Hid _ := S23.out.kept q24
  clear q24 S23
  go_wp2_with fail
  refine (R3.out _).mono ?_
  rintro e W25 ⟨rfl, q25⟩
  have S25 : Hid _ := S24.out.kept q25
  clear q25 S24
  go_wp2_with fail
  refine (R4.out _).mono ?_
  rintro e W26 ⟨rfl, q26⟩
  have S26 : Hid _ := S25.out.kept q26
  clear q26 S25
  go_wp2_with fail
  go_ret
  exact ⟨rfl, S26.out.bel⟩

end Go.Proofs.Ytofhcplnnamcdaa
