/- PktMath2: packets of IPv6 come back from their bytes; a byte of a header of IPv4 turned makes another packet. Nothing of the program. -/
import Derived.Test.YtofenlclefkgdaaPktMath
namespace Go.Proofs.Ytofenlclefkgdaa
open Go.RowKit Go.PlainAid
set_option linter.unusedVariables false
set_option linter.unusedSimpArgs false

theorem head6_bt (f n x y : Int) (hf : 0 ≤ f ∧ f ≤ 4294967295) (hn : 0 ≤ n ∧ n ≤ 65535) (hx : 0 ≤ x ∧ x ≤ 255) (hy : 0 ≤ y ∧ y ≤ 255) (H : ByteArray) (hH : H = twoV (f / 65536) ++ twoV (f % 65536) ++ twoV n ++ pairV x y) :
  H.size = 8 ∧ bt H 0 = f / 16777216 ∧ wordN (bt H) 0 = f / 65536 ∧ wordN (bt H) 2 = f % 65536 ∧ wordN (bt H) 4 = n ∧ bt H 6 = x ∧ bt H 7 = y := by
 have q1 := bt_two (f / 65536) (by omega) (by omega)
 have q2 := bt_two (f % 65536) (by omega) (by omega)
 have q3 := bt_two n hn.1 hn.2
 have q4 := pairV_bt x y hx hy
 subst hH
 unfold wordN
 refine ⟨by simp only [ByteArray.size_append, pairV_size, twoV_size], ?_, ?_, ?_, ?_, ?_, ?_⟩ <;> simp [bt_append, ByteArray.size_append, pairV_size, twoV_size, q1, q2, q3, q4] <;> omega
theorem piece_bt (x o d : Int) (hx : 0 ≤ x ∧ x ≤ 255) (ho : 0 ≤ o ∧ o ≤ 65535) (hd : 0 ≤ d ∧ d ≤ 4294967295) (H : ByteArray) (hH : H = pairV x 0 ++ twoV o ++ twoV (d / 65536) ++ twoV (d % 65536)) :
  H.size = 8 ∧ bt H 0 = x ∧ wordN (bt H) 2 = o ∧ bt H 3 = o % 256 ∧ wordN (bt H) 4 = d / 65536 ∧ wordN (bt H) 6 = d % 65536 := by
 have q1 := bt_two (d / 65536) (by omega) (by omega)
 have q2 := bt_two (d % 65536) (by omega) (by omega)
 have q3 := bt_two o ho.1 ho.2
 have q4 := pairV_bt x 0 hx (by decide)
 subst hH
 unfold wordN
 refine ⟨by simp only [ByteArray.size_append, pairV_size, twoV_size], ?_, ?_, ?_, ?_, ?_⟩ <;> simp [bt_append, ByteArray.size_append, pairV_size, twoV_size, q1, q2, q3, q4] <;> omega

theorem v6_round (p : P6) (h : v6Ok p = true) (z : ByteArray) (hz : z.size ≤ 100) : v6CodeV (v6Raw p ++ z) = 0 ∧ v6Cut (v6Raw p ++ z) = p := by
 obtain ⟨a1, a2, a3, a4, a5, a6, a7, a8⟩ := v6Ok_parts h
 have hf : firstN p = 6 * 268435456 + p.cls * 1048576 + p.flow := rfl
 have h44 : p.next ≠ 44 := by
  unfold v6Ok v6A at h
  simp only [Bool.and_eq_true, Bool.not_eq_true', decide_eq_false_iff_not] at h
  exact h.1.2
 have hnp : p.piece = false → p.more = false ∧ p.off = 0 ∧ p.id = 0 := fun hp => by
  unfold v6Ok v6B at h
  rw [hp] at h
  simp only [Bool.and_eq_true, Bool.false_eq_true, if_false, Bool.not_eq_true', decide_eq_true_iff] at h
  exact ⟨h.2.1.1, h.2.1.2, h.2.2⟩
 have hrz : (restV p).size = (if p.piece then 8 else 0) + p.data.size := by
  unfold restV; cases p.piece <;> simp only [Bool.false_eq_true, if_false, if_true, ByteArray.size_append, pairV_size, twoV_size] <;> omega
 have hr : (restV p).size ≤ 1408 := by rw [hrz]; split <;> omega
 obtain ⟨nx, hnx⟩ : ∃ nx, nx = if p.piece then (44 : Int) else p.next := ⟨_, rfl⟩
 have hxr : 0 ≤ nx ∧ nx ≤ 255 := by rw [hnx]; split <;> omega
 obtain ⟨H, hH⟩ : ∃ H, H = twoV (firstN p / 65536) ++ twoV (firstN p % 65536) ++ twoV (restV p).size ++ pairV nx p.hops := ⟨_, rfl⟩
 obtain ⟨H8, e0, w0, w2, w4, e6, e7⟩ := head6_bt (firstN p) (restV p).size nx p.hops (by omega) (by omega) hxr a3 H hH
 have hT : v6Raw p ++ z = H ++ p.src ++ p.dst ++ restV p ++ z := by rw [hH, hnx]; rfl
 have hsz : (v6Raw p ++ z).size = 40 + (restV p).size + z.size := by rw [hT]; simp only [ByteArray.size_append]; omega
 have hb : ∀ i, i < 8 → bt (v6Raw p ++ z) i = bt H i := fun i hi => by rw [hT]; simp only [ByteArray.append_assoc]; rw [bt_append, if_pos (by omega)]
 have hw : ∀ i, i + 1 < 8 → wordN (bt (v6Raw p ++ z)) i = wordN (bt H) i := fun i hi => by unfold wordN; rw [hb i (by omega), hb (i + 1) hi]
 have hbr : ∀ i, i < (restV p).size → bt (v6Raw p ++ z) (40 + i) = bt (restV p) i := fun i hi => by
  rw [hT, bt_append, if_pos (by simp only [ByteArray.size_append]; omega), bt_append, if_neg (by simp only [ByteArray.size_append]; omega)]
  congr 1; simp only [ByteArray.size_append]; omega
 have x1 : (v6Raw p ++ z).extract 8 24 = p.src := ext_at (X := H) (Z := p.dst ++ restV p ++ z) (by rw [hT]; simp only [ByteArray.append_assoc]) (by omega) (by omega)
 have x2 : (v6Raw p ++ z).extract 24 40 = p.dst := ext_at (X := H ++ p.src) (Z := restV p ++ z) (by rw [hT]; simp only [ByteArray.append_assoc]) (by simp only [ByteArray.size_append]; omega) (by simp only [ByteArray.size_append]; omega)
 have hW0 := (hw 0 (by omega)).trans w0
 have hW2 := (hw 2 (by omega)).trans w2
 have hW4 := (hw 4 (by omega)).trans w4
 have hE6 := (hb 6 (by omega)).trans e6
 have hE7 := (hb 7 (by omega)).trans e7
 have hfs : firstN p / 65536 * 65536 + firstN p % 65536 = firstN p := by omega
 have hcut : v6Cut (v6Raw p ++ z) = p := by
  unfold v6Cut
  simp only []
  rw [hE6, hE7, hW0, hW2, hW4, hfs, x1, x2, show ((restV p).size : Int).toNat = (restV p).size by omega]
  have y1 : firstN p / 1048576 % 256 = p.cls := by omega
  have y2 : firstN p % 1048576 = p.flow := by omega
  rw [y1, y2]
  cases hp : p.piece with
  | true =>
   have hnx' : nx = 44 := by rw [hnx, hp]; rfl
   rw [hnx', if_pos rfl]
   obtain ⟨p1, p2, p3⟩ := a8 hp
   obtain ⟨K, hK⟩ : ∃ K, K = pairV p.next 0 ++ twoV (8 * p.off + if p.more then 1 else 0) ++ twoV (p.id / 65536) ++ twoV (p.id % 65536) := ⟨_, rfl⟩
   have ho : 0 ≤ 8 * p.off + (if p.more then (1 : Int) else 0) ∧ 8 * p.off + (if p.more then (1 : Int) else 0) ≤ 65535 := by split <;> omega
   obtain ⟨K8, k0, k2, k3, k4, k6⟩ := piece_bt p.next _ p.id a2 ho p2 K hK
   have hR : restV p = K ++ p.data := by unfold restV; rw [hp, hK]; rfl
   have hrk : ∀ i, i < 8 → bt (v6Raw p ++ z) (40 + i) = bt K i := fun i hi => by
    rw [hbr i (by rw [hR, ByteArray.size_append]; omega), hR, bt_append, if_pos (by omega)]
   have hrw : ∀ i, i + 1 < 8 → wordN (bt (v6Raw p ++ z)) (40 + i) = wordN (bt K) i := fun i hi => by
    show bt _ (40 + i) * 256 + bt _ (40 + (i + 1)) = _
    rw [hrk i (by omega), hrk (i + 1) hi]; rfl
   have x3 : (v6Raw p ++ z).extract 48 (40 + (restV p).size) = p.data := ext_at (X := H ++ p.src ++ p.dst ++ K) (Z := z) (by rw [hT, hR]; simp only [ByteArray.append_assoc]) (by simp only [ByteArray.size_append]; omega) (by rw [hR]; simp only [ByteArray.size_append]; omega)
   have z0 := (hrk 0 (by omega)).trans k0
   have z3 := (hrk 3 (by omega)).trans k3
   have z2 := (hrw 2 (by omega)).trans k2
   have z4 := (hrw 4 (by omega)).trans k4
   have z6 := (hrw 6 (by omega)).trans k6
   simp only [Nat.reduceAdd, Nat.add_zero] at z0 z3 z2 z4 z6
   rw [z0, z3, z2, z4, z6, x3]
   have m1 : decide ((8 * p.off + (if p.more then (1 : Int) else 0)) % 256 % 2 = 1) = p.more := by cases p.more <;> simp <;> omega
   have m2 : (8 * p.off + (if p.more then (1 : Int) else 0)) / 8 = p.off := by split <;> omega
   have m3 : p.id / 65536 * 65536 + p.id % 65536 = p.id := by omega
   rw [m1, m2, m3, ← hp]
  | false =>
   have hnx' : nx = p.next := by rw [hnx, hp]; rfl
   rw [hnx', if_neg h44]
   obtain ⟨n1, n2, n3⟩ := hnp hp
   have hR : restV p = p.data := by unfold restV; rw [hp]; rfl
   have x3 : (v6Raw p ++ z).extract 40 (40 + (restV p).size) = p.data := ext_at (X := H ++ p.src ++ p.dst) (Z := z) (by rw [hT, hR]) (by simp only [ByteArray.size_append]; omega) (by rw [hR]; simp only [ByteArray.size_append]; omega)
   rw [x3]
   show _ = (⟨p.cls, p.flow, p.next, p.hops, p.src, p.dst, p.piece, p.more, p.off, p.id, p.data⟩ : P6)
   rw [hp, n1, n2, n3]
 refine ⟨?_, hcut⟩
 unfold v6CodeV
 rw [if_neg (by omega), if_neg (by omega), (hb 0 (by omega)).trans e0, if_neg (by omega), hW4, hE6, if_neg (by
  rintro (hh | ⟨hh1, hh2⟩)
  ·omega
  ·have : p.piece = true := by
    cases hp : p.piece with
    | true => rfl
    | false => rw [hnx, hp] at hh1; exact absurd hh1 h44
   rw [hrz, this] at hh2
   simp only [if_true] at hh2
   omega), hcut, if_pos h]

end Go.Proofs.Ytofenlclefkgdaa
