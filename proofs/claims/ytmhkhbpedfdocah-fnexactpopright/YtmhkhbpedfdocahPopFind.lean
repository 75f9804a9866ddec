/- PopFind: what the specification's l03PopFind and PopFind answer. -/
import Derived.Test.YtmhkhbpedfdocahPopRight
import Derived.Test.YtmhkhbpedfdocahPopRoutes
namespace Go.Proofs.Ytmhkhbpedfdocah
open Go.RowKit Go.PlainAid
set_option linter.unusedVariables false
set_option linter.unusedSimpArgs false

/-- What the table tells of an address, from a node on. -/
def pnFind (ns : List Pn) (ls : List Int) (nib : Nat → Nat) : Nat → Nat → Pn → Int
  | 0, _, _ => 0
  | f + 1, d, x => if x.kids.toNat / 2 ^ nib d % 2 = 0 then ls.getD (x.leafs + cntMask x.leaf.toNat (nib d + 1) - 1).toNat 0 else pnFind ns ls nib f (d + 1) (ns.getD (x.base + cntMask x.kids.toNat (nib d)).toNat default)
def popFindV (ns : List Pn) (ls : List Int) (a : ByteArray) : Int := if popOk ns ls && addrOk a then pnFind ns ls (nibA a) (2 * a.size) 0 (ns.getD 0 default) else 0

theorem cntMask_mono (m : Nat) : ∀ a b, a ≤ b → cntMask m a ≤ cntMask m b := by
  intro a b h
  induction b with
  | zero => rw [show a = 0 by omega]; exact Nat.le_refl _
  | succ b ih =>
    by_cases e : a = b + 1
    · rw [e]; exact Nat.le_refl _
    · have := ih (by omega)
      have e2 : cntMask m (b + 1) = cntMask m b + m / 2 ^ b % 2 := rfl
      omega
theorem cntMask_lt (m : Nat) {k n : Nat} (h : k < n) (hb : m / 2 ^ k % 2 = 1) : cntMask m k < cntMask m n := by
  have := cntMask_mono m (k + 1) n (by omega)
  have e : cntMask m (k + 1) = cntMask m k + m / 2 ^ k % 2 := rfl
  omega

/-- The first place that is no kid is at most any such place. -/
theorem ones_le (m : Nat) : ∀ f k0 k, k0 ≤ k → k < k0 + f → m / 2 ^ k % 2 = 0 → onesN m f k0 ≤ k
  | 0, k0, k, h0, h1, _ => by omega
  | f + 1, k0, k, h0, h1, hb => by
    unfold onesN
    split
    · next e =>
      by_cases he : k = k0
      · subst he; omega
      · exact ones_le m f (k0 + 1) k (by omega) (by omega) hb
    · exact h0

theorem cnt_zero (l : Nat) (h : l = 0) : ∀ k, cntMask l k = 0
  | 0 => rfl
  | k + 1 => by unfold cntMask; rw [cnt_zero l h k, h]; simp

theorem node_facts {n L i : Nat} {x : Pn} (h : nodeOk n L i x = true) : ∃ m l : Nat, x.kids = m ∧ x.leaf = l ∧ m < 65536 ∧ l < 65536 ∧
    (∀ k, k < 16 → m / 2 ^ k % 2 = 1 → 0 ≤ x.base ∧ x.base + cntMask m k < n) ∧ (∀ k, k < 16 → m / 2 ^ k % 2 = 0 → 1 ≤ cntMask l (k + 1) ∧ 0 ≤ x.leafs ∧ x.leafs + cntMask l (k + 1) ≤ L) := by
  unfold nodeOk at h
  simp only [Bool.and_eq_true, Bool.not_eq_true'] at h
  obtain ⟨⟨⟨⟨⟨h1, h2⟩, h3⟩, h4⟩, h5⟩, h6⟩ := h
  obtain ⟨a1, a2⟩ := isW_parts h1
  obtain ⟨b1, b2⟩ := isW_parts h2
  obtain ⟨xk, xl, xb, xf⟩ := x
  dsimp only at *
  obtain ⟨m, rfl⟩ := Int.eq_ofNat_of_zero_le a1
  obtain ⟨l, rfl⟩ := Int.eq_ofNat_of_zero_le b1
  refine ⟨m, l, rfl, rfl, by omega, by omega, fun k hk hb => ?_, fun k hk hb => ?_⟩
  · have hm : m ≠ 0 := by rintro rfl; simp at hb
    unfold nodeBase at h4
    dsimp only at h4
    rw [decide_eq_false (show ¬ ((m : Int) = 0) by omega)] at h4
    simp at h4
    have := cntMask_lt m hk hb
    omega
  · have hf : firstZ m ≤ k := ones_le m 16 0 k (by omega) (by omega) hb
    have hfl : l / 2 ^ firstZ m % 2 = 1 := by
      have h2 : l / 2 ^ firstZ m % 2 < 2 := Nat.mod_lt _ (by omega)
      rw [show ((m : Int)).toNat = m from rfl, show ((l : Int)).toNat = l from rfl, decide_eq_true (show firstZ m < 16 by omega), Bool.true_and, decide_eq_false_iff_not] at h6
      omega
    have hc := cntMask_lt l (k := firstZ m) (n := k + 1) (by omega) hfl
    have hl : l ≠ 0 := by rintro rfl; simp at hfl
    unfold nodeLeafs at h5
    dsimp only at h5
    rw [decide_eq_false (show ¬ ((l : Int) = 0) by omega)] at h5
    simp at h5
    have := cntMask_mono l (k + 1) 16 (by omega)
    omega

theorem nodes_all {ns : List Pn} {L : Nat} : ∀ n, n ≤ ns.length → nodesOkN ns L n = true → ∀ i (h : i < n) (h2 : i < ns.length), nodeOk ns.length L i ns[i] = true
  | 0, _, _, i, h, _ => by omega
  | n + 1, hn, hr, i, h, h2 => by
    rw [nodesOkN_step (by omega), Bool.and_eq_true] at hr
    by_cases e : i = n
    · subst e; exact hr.2
    · exact nodes_all n (by omega) hr.1 i (by omega) h2

theorem popOk_facts {ns : List Pn} {ls : List Int} (h : popOk ns ls = true) : 1 ≤ ns.length ∧ ns.length ≤ 3300 ∧ ∀ i (h2 : i < ns.length), nodeOk ns.length ls.length i ns[i] = true := by
  unfold popOk at h
  simp only [Bool.and_eq_true, decide_eq_true_iff] at h
  exact ⟨h.1.1.1, h.1.1.2, fun i h2 => nodes_all ns.length (Nat.le_refl _) h.1.2 i h2 h2⟩

theorem PnsAt.below {w W : World} {b off : Nat} {ns : List Pn} (h : PnsAt w b off ns) (hb : b < w.heap.size) (hB : Below w.heap.size w W) : PnsAt W b off ns :=
  ⟨fun i hi => ((bcell hB).1 b _ hb).trans (h.c0 i hi), fun i hi => ((bcell hB).1 b _ hb).trans (h.c1 i hi), fun i hi => ((bcell hB).1 b _ hb).trans (h.c2 i hi), fun i hi => ((bcell hB).1 b _ hb).trans (h.c3 i hi)⟩

/-- A node in a box of its own. -/
structure BoxN (w : World) (X : Nat) (x : Pn) : Prop where
  c0 : w.cell? ⟨X, 0, none⟩ = some (.int .i64 x.kids)
  c1 : w.cell? ⟨X, 1, none⟩ = some (.int .i64 x.leaf)
  c2 : w.cell? ⟨X, 2, none⟩ = some (.int .i64 x.base)
  c3 : w.cell? ⟨X, 3, none⟩ = some (.int .i64 x.leafs)
  f0 : w.frozen? ⟨X, 0, none⟩ = false
  f1 : w.frozen? ⟨X, 1, none⟩ = false
  f2 : w.frozen? ⟨X, 2, none⟩ = false
  f3 : w.frozen? ⟨X, 3, none⟩ = false

theorem BoxN.put {w : World} {X : Nat} {x : Pn} (h : BoxN w X x) (z : Pn) : BoxN (((((w.setCell ⟨X, 0, none⟩ (.int .i64 z.kids)).setCell ⟨X, 1, none⟩ (.int .i64 z.leaf)).setCell ⟨X, 2, none⟩ (.int .i64 z.base)).setCell ⟨X, 3, none⟩ (.int .i64 z.leafs)).drew) X z := by
  obtain ⟨e0, e1, e2, e3, g0, g1, g2, g3⟩ := h
  have ot : ∀ (i j : Nat) (W : World) (v : Value), i ≠ j → (W.setCell ⟨X, j, none⟩ v).cell? ⟨X, i, none⟩ = W.cell? ⟨X, i, none⟩ := fun i j W v hne => World.cell?_setCell_other _ _ _ _ (fun e => hne (by injection e with _ h2; exact h2.symm))
  refine ⟨?_, ?_, ?_, ?_, by simp [g0], by simp [g1], by simp [g2], by simp [g3]⟩
  · show World.cell? _ _ = _
    rw [World.cell?_drew, ot 0 3 _ _ (by omega), ot 0 2 _ _ (by omega), ot 0 1 _ _ (by omega)]
    exact World.cell?_setCell_same _ _ _ e0
  · rw [World.cell?_drew, ot 1 3 _ _ (by omega), ot 1 2 _ _ (by omega)]
    exact World.cell?_setCell_same _ _ _ (by rw [ot 1 0 _ _ (by omega)]; exact e1)
  · rw [World.cell?_drew, ot 2 3 _ _ (by omega)]
    exact World.cell?_setCell_same _ _ _ (by rw [ot 2 1 _ _ (by omega), ot 2 0 _ _ (by omega)]; exact e2)
  · rw [World.cell?_drew]
    exact World.cell?_setCell_same _ _ _ (by rw [ot 3 2 _ _ (by omega), ot 3 1 _ _ (by omega), ot 3 0 _ _ (by omega)]; exact e3)

set_option maxRecDepth 100000 in
theorem and_15b (n : Int) (h0 : 0 ≤ n) (h1 : n ≤ 255) : bits .and .u8 n 15 = n % 16 := by
  obtain ⟨m, rfl⟩ := Int.eq_ofNat_of_zero_le h0
  have : ∀ k : Fin 256, bits .and .u8 ((k.val : Nat) : Int) 15 = ((k.val : Nat) : Int) % 16 := by decide
  exact this ⟨m, by omega⟩

theorem nib_val (a : ByteArray) (d : Nat) : wrap64 (bits .and .u8 (bt a (4 * d / 8) / 2 ^ (4 - 4 * d % 8)) 15) = ((nibA a d : Nat) : Int) := by
  have h0 := bt_nonneg a (d / 2)
  have h1 := bt_le a (d / 2)
  rw [show 4 * d / 8 = d / 2 by omega]
  unfold nibA
  by_cases e : d % 2 = 0
  · rw [if_pos e, show 4 - 4 * d % 8 = 4 by omega, and_15b _ (by omega) (by omega), IntWalk.wrap64_in _ ⟨by omega, by omega⟩]
    omega
  · rw [if_neg e, show 4 - 4 * d % 8 = 0 by omega, and_15b _ (by simp; omega) (by simp; omega), IntWalk.wrap64_in _ ⟨by omega, by omega⟩]
    simp; omega

set_option maxRecDepth 100000 in
set_option maxHeartbeats 1000000 in
theorem spec03PopFind_any (ns : List Pn) (ls : List Int) (a : ByteArray) (b1 o1 : Nat) (a2 : Option Addr) (cap1 cap2 : Nat) (w : World) (hok : popOk ns ls = true) (ha : addrOk a = true) (hl2 : ls.length ≤ 1048576) (hin : PnsIn ns) (hb1 : b1 < w.heap.size) (h1 : PnsAt w b1 o1 ns) (h2 : IntsIs w a2 ls) :
    Calls Try.prog 48 #[.agg #[.slice (some ⟨b1, o1, none⟩) ns.length cap1, .slice a2 ls.length cap2], .string a] w fun e w' => e = .returned (.int .i64 (pnFind ns ls (nibA a) (2 * a.size) 0 (ns.getD 0 default))) ∧ Below w.heap.size w w' := by
  obtain ⟨n1, n2, hall⟩ := popOk_facts hok
  have HN : Hid (∀ i (h2 : i < ns.length), nodeOk ns.length ls.length i ns[i] = true) := hall
  have H1 : Hid (PnsAt w b1 o1 ns) := h1
  have H2 : Hid (IntsIs w a2 ls) := h2
  have HI : Hid (PnsIn ns) := hin
  have hsz := addrOk_size ha
  have hsz' : a.size ≤ 16 := by omega
  have c0 := h1.c0 0 (by omega)
  have c1 := h1.c1 0 (by omega)
  have c2 := h1.c2 0 (by omega)
  have c3 := h1.c3 0 (by omega)
  have hz : ns.getD 0 default = ns[0] := by simp [List.getD, List.getElem?_eq_getElem (show 0 < ns.length by omega)]
  rw [hz]
  have HX0 : Hid (nodeOk ns.length ls.length 0 ns[0] = true) := hall 0 (by omega)
  have hI0 := hin ns[0] (List.getElem_mem (by omega))
  generalize ns[0] = x0 at *
  obtain ⟨xk, xl, xb, xf⟩ := x0
  dsimp only at c0 c1 c2 c3
  rw [Nat.zero_mul, Nat.add_zero] at c0 c1 c2 c3
  clear h1 h2 hin hall hok
  have HBT : Hid (∀ W, Calls Try.prog 75 #[.string a] W fun e w' => e = .returned (.int .i64 (8 * (a.size : Int))) ∧ w' = W) := fun W => specBits_any a W (by omega)
  have HMM : Hid (⟨xk, xl, xb, xf⟩ ∈ ns) := by
    unfold Hid
    have : (⟨xk, xl, xb, xf⟩ : Pn) = ns.getD 0 default := hz.symm
    rw [this]; simp [List.getD, List.getElem?_eq_getElem (show 0 < ns.length by omega)]
  go_enter Try.func48, Try.ntmps48
  go_wp2_with fail
  go_loopw [6] (fun v wr => ∃ (d t : Nat) (x : Pn), t = 4 * d ∧ d ≤ 2 * a.size ∧ v = .int .i64 t ∧ BoxN wr (w.heap.size + 1) x ∧ (∃ i, nodeOk ns.length ls.length i x = true) ∧ x ∈ ns ∧ pnFind ns ls (nibA a) (2 * a.size) 0 ⟨xk, xl, xb, xf⟩ = pnFind ns ls (nibA a) (2 * a.size - d) d x ∧ Below (w.heap.size + 1) (w.alloc (.cells #[.slice (some ⟨b1, o1, none⟩) ns.length cap1, .slice a2 ls.length cap2] 27)) wr) (fun v _ => 8 * a.size - (intOf v).toNat)
  case atStart => exact ⟨0, 0, ⟨xk, xl, xb, xf⟩, rfl, Nat.zero_le _, rfl, ⟨by simp, by simp, by simp, by simp, by simp, by simp, by simp, by simp⟩, ⟨0, HX0.out⟩, HMM.out, rfl, (Below.refl _ _).alloc (by simp) _⟩
  case round =>
    obtain ⟨d, t, x, ht, hd, rfl, hbox, ⟨i, hnode⟩, hmem, hfind, hbel⟩ := hrel
    have HBX : Hid (BoxN wr (w.heap.size + 1) x) := hbox
    have HFI : Hid _ := hfind
    have HL : Hid (Below (w.heap.size + 1) (w.alloc (.cells #[.slice (some ⟨b1, o1, none⟩) ns.length cap1, .slice a2 ls.length cap2] 27)) wr) := hbel
    have k0 : wr.cell? ⟨w.heap.size, 0, none⟩ = some (.slice (some ⟨b1, o1, none⟩) ns.length cap1) := by rw [hbel.cell (p := ⟨w.heap.size, 0, none⟩) (show w.heap.size < w.heap.size + 1 by omega)]; simp
    have k1 : wr.cell? ⟨w.heap.size, 1, none⟩ = some (.slice a2 ls.length cap2) := by rw [hbel.cell (p := ⟨w.heap.size, 1, none⟩) (show w.heap.size < w.heap.size + 1 by omega)]; simp
    have HM : Hid (Below w.heap.size w wr) := ((Below.refl _ _).alloc (Nat.le_refl _) _).trans (hbel.mono (by omega))
    have hI := HI.out x hmem
    obtain ⟨m, l, hxk, hxl, hm, hl, hkid, hleaf⟩ := node_facts hnode
    obtain ⟨e0, e1, e2, e3, g0, g1, g2, g3⟩ := hbox
    obtain ⟨yk, yl, yb, yf⟩ := x
    dsimp only at *
    subst hxk hxl
    unfold In64s at hI
    clear hfind hbel hnode
    by_cases hlt : d < 2 * a.size
    · have hlt' : (t : Int) < 8 * (a.size : Int) := by omega
      have hgb := get_bt a
      have hby := bt_isByte a (t / 8)
      go_wp2_with fail
      refine (HBT.out _).mono ?_
      rintro e wr ⟨rfl, rfl⟩
      go_upto_region 6 with fail
      rw [nib_val a d]
      have HKK := nibA_lt a d
      have HST : Hid (pnFind ns ls (nibA a) (2 * a.size - d) d ⟨(m : Int), (l : Int), yb, yf⟩ = if m / 2 ^ nibA a d % 2 = 0 then ls.getD (yf + cntMask l (nibA a d + 1) - 1).toNat 0 else pnFind ns ls (nibA a) (2 * a.size - (d + 1)) (d + 1) (ns.getD (yb + cntMask m (nibA a d)).toNat default)) := by
        unfold Hid
        obtain ⟨g, hg⟩ : ∃ g, 2 * a.size - d = g + 1 := ⟨2 * a.size - d - 1, by omega⟩
        rw [hg, show 2 * a.size - (d + 1) = g by omega]; rfl
      rw [← HFI.out] at HST
      have hab := and_bit m (nibA a d)
      generalize nibA a d = kk at *
      have hbl : m / 2 ^ kk % 2 = 0 ∨ m / 2 ^ kk % 2 = 1 := by have : m / 2 ^ kk % 2 < 2 := Nat.mod_lt _ (by omega); omega
      rcases hbl with hb0 | hbt
      · obtain ⟨q1, q2, q3⟩ := hleaf kk HKK hb0
        have HCL : Hid (∀ W, Calls Try.prog 56 #[.int .i64 (l : Int), .int .i64 ((kk : Int) + 1)] W fun e w' => e = .returned (.int .i64 (cntMask l (kk + 1) : Nat)) ∧ w' = W) := fun W => specCount_any l (kk + 1) W hl (by omega)
        have HX : Hid (pnFind ns ls (nibA a) (2 * a.size) 0 ⟨xk, xl, xb, xf⟩ = ls.getD (yf + cntMask l (kk + 1) - 1).toNat 0) := by unfold Hid; rw [HST.out, if_pos hb0]
        rw [hb0] at hab
        have hc16 := cntMask_le l (kk + 1)
        generalize cntMask l (kk + 1) = c at *
        clear hb0
        obtain ⟨j, hj⟩ : ∃ j : Nat, yf + (c : Int) - 1 = (j : Int) := ⟨(yf + (c : Int) - 1).toNat, by omega⟩
        have hjl : j < ls.length := by omega
        obtain ⟨b2, o2, rfl, hb2, hat⟩ : ∃ b off, a2 = some ⟨b, off, none⟩ ∧ b < wr.heap.size ∧ IntsAt wr b off ls := by
          rcases H2.out.below HM.out with h | h
          · rw [h] at hjl; simp at hjl
          · exact h
        have cj := hat j hjl
        have HX2 : Hid (pnFind ns ls (nibA a) (2 * a.size) 0 ⟨xk, xl, xb, xf⟩ = ls[j]) := by unfold Hid; rw [HX.out, hj]; simp [List.getD, List.getElem?_eq_getElem hjl]
        generalize ls[j] = lv at *
        have hjl' : (j : Int) < (ls.length : Int) := by omega
        clear HX hat
        go_wp2_with fail
        go_quiet ((go_at_call 56; exact Calls.quiet_of_same (HCL.out _)))
        all_goals
          go_wp2_with fail
          go_ret
          exact ⟨ret_int HX2.out.symm, HM.out.trans ⟨rfl, rfl, rfl, Nat.le_refl _, fun _ _ => rfl⟩⟩
      · obtain ⟨q1, q2⟩ := hkid kk HKK hbt
        have HCK : Hid (∀ W, Calls Try.prog 56 #[.int .i64 (m : Int), .int .i64 (kk : Int)] W fun e w' => e = .returned (.int .i64 (cntMask m kk : Nat)) ∧ w' = W) := fun W => specCount_any m kk W hm (by omega)
        have HX : Hid (pnFind ns ls (nibA a) (2 * a.size) 0 ⟨xk, xl, xb, xf⟩ = pnFind ns ls (nibA a) (2 * a.size - (d + 1)) (d + 1) (ns.getD (yb + cntMask m kk).toNat default)) := by unfold Hid; rw [HST.out, if_neg (by omega)]
        rw [hbt] at hab
        have hc16 := cntMask_le m kk
        generalize cntMask m kk = c at *
        clear hbt
        obtain ⟨j, hj⟩ : ∃ j : Nat, yb + (c : Int) = (j : Int) := ⟨(yb + (c : Int)).toNat, by omega⟩
        have hjl : j < ns.length := by omega
        have hA := PnsAt.below H1.out hb1 HM.out
        have c0 := hA.c0 j hjl
        have c1 := hA.c1 j hjl
        have c2 := hA.c2 j hjl
        have c3 := hA.c3 j hjl
        have HX2 : Hid (pnFind ns ls (nibA a) (2 * a.size) 0 ⟨xk, xl, xb, xf⟩ = pnFind ns ls (nibA a) (2 * a.size - (d + 1)) (d + 1) ns[j]) := by unfold Hid; rw [HX.out, hj]; simp [List.getD, List.getElem?_eq_getElem hjl]
        have HNJ : Hid (nodeOk ns.length ls.length j ns[j] = true) := HN.out j hjl
        have HMJ : Hid (ns[j] ∈ ns) := List.getElem_mem hjl
        generalize ns[j] = y at *
        obtain ⟨zk, zl, zb, zf⟩ := y
        dsimp only at c0 c1 c2 c3
        have hjl' : (j : Int) < (ns.length : Int) := by omega
        have hne : ¬ b1 = w.heap.size + 1 := by omega
        have hw1 : IntKind.i64.wrap (yb + (c : Int)) = (j : Int) := by rw [IntKind.wrap_i64, hj]; omega
        have hw2 : IntKind.i64.wrap (j : Int) = (j : Int) := by have := hw1; rw [hj] at this; exact this
        have hj1 : ¬ (j : Int) < 0 := Int.not_lt.mpr (Int.natCast_nonneg j)
        clear HX hA
        go_wp2_with fail
        go_region_with (go_at_call 56; refine (HCK.out _).mono ?_; rintro e w2 ⟨rfl, rfl⟩)
        all_goals
          go_wp2_with fail
          go_roundw
          case rel => exact ⟨d + 1, 4 * d + 4, ⟨zk, zl, zb, zf⟩, by omega, by omega, by go_num, (HBX.out.put ⟨zk, zl, zb, zf⟩), ⟨j, HNJ.out⟩, HMJ.out, HX2.out, (((((HL.out.setCell (Nat.le_refl _) _).setCell (Nat.le_refl _) _).setCell (Nat.le_refl _) _).setCell (Nat.le_refl _) _)).drew⟩
          case measure => simp [intOf]; omega
    · have hlt' : ¬ (t : Int) < 8 * (a.size : Int) := by omega
      have HX : Hid (pnFind ns ls (nibA a) (2 * a.size) 0 ⟨xk, xl, xb, xf⟩ = 0) := by unfold Hid; rw [HFI.out, show 2 * a.size - d = 0 by omega]; rfl
      go_wp2_with fail
      refine (HBT.out _).mono ?_
      rintro e wr ⟨rfl, rfl⟩
      go_wp2_with fail
      go_ret
      exact ⟨ret_int HX.out.symm, HM.out⟩

set_option maxRecDepth 100000 in
set_option maxHeartbeats 1000000 in
theorem specPopFind_any (ns : List Pn) (ls : List Int) (a : ByteArray) (a1 a2 : Option Addr) (cap1 cap2 : Nat) (w : World) (hl1 : ns.length ≤ 1048576) (hl2 : ls.length ≤ 1048576) (ha : a.size ≤ 1048576) (hin : PnsIn ns) (hil : IntsIn ls) (h1 : PnsIs w a1 ns) (h2 : IntsIs w a2 ls) :
    Calls Try.prog 18 #[.agg #[.slice a1 ns.length cap1, .slice a2 ls.length cap2], .string a] w fun e w' => e = .returned (.int .i64 (popFindV ns ls a)) ∧ Below w.heap.size w w' := by
  have H1 : Hid (PnsIs w a1 ns) := h1
  have H2 : Hid (IntsIs w a2 ls) := h2
  have HB0 : Hid (Below w.heap.size w (w.alloc (.cells #[.slice a1 ns.length cap1, .slice a2 ls.length cap2] 27))) := (Below.refl _ _).alloc (Nat.le_refl _) _
  have HC : Hid (∀ W, Below w.heap.size w W → Calls Try.prog 21 #[.agg #[.slice a1 ns.length cap1, .slice a2 ls.length cap2]] W fun e w' => e = .returned (.bool (popOk ns ls)) ∧ Below W.heap.size W w') := fun W hW => specPopRight_any ns ls a1 a2 cap1 cap2 W hl1 hl2 hin hil (H1.out.below hW) (H2.out.below hW)
  have HD : Hid (∀ W, Calls Try.prog 47 #[.string a] W fun e w' => e = .returned (.bool (addrOk a)) ∧ w' = W) := fun W => specAddrRight_any a W
  clear h1 h2
  cases hok : popOk ns ls with
  | false =>
    have HV : Hid (popFindV ns ls a = 0) := by unfold Hid popFindV; rw [hok]; rfl
    rw [hok] at HC
    clear hok
    go_enter Try.func18, Try.ntmps18
    go_wp2_with fail
    refine (HC.out _ HB0.out).mono ?_
    rintro e w1 ⟨rfl, q1⟩
    go_wp2_with fail
    go_ret
    exact ⟨ret_int HV.out.symm, HB0.out.trans (q1.mono HB0.out.size)⟩
  | true =>
    cases hao : addrOk a with
    | false =>
      have HV : Hid (popFindV ns ls a = 0) := by unfold Hid popFindV; rw [hao, Bool.and_false]; rfl
      rw [hok] at HC
      rw [hao] at HD
      clear hok hao
      go_enter Try.func18, Try.ntmps18
      go_wp2_with fail
      refine (HC.out _ HB0.out).mono ?_
      rintro e w1 ⟨rfl, q1⟩
      go_wp2_with fail
      refine (HD.out _).mono ?_
      rintro e w1 ⟨rfl, rfl⟩
      go_wp2_with fail
      go_ret
      exact ⟨ret_int HV.out.symm, HB0.out.trans (q1.mono HB0.out.size)⟩
    | true =>
      have HV : Hid (popFindV ns ls a = pnFind ns ls (nibA a) (2 * a.size) 0 (ns.getD 0 default)) := by unfold Hid popFindV; rw [hok, hao]; rfl
      obtain ⟨b1, o1, rfl, hb1, hat⟩ : ∃ b off, a1 = some ⟨b, off, none⟩ ∧ b < w.heap.size ∧ PnsAt w b off ns := by
        rcases H1.out with h | h
        · have := (popOk_facts hok).1; rw [h] at this; simp at this
        · exact h
      have HF : Hid (∀ W, Below w.heap.size w W → Calls Try.prog 48 #[.agg #[.slice (some ⟨b1, o1, none⟩) ns.length cap1, .slice a2 ls.length cap2], .string a] W fun e w' => e = .returned (.int .i64 (pnFind ns ls (nibA a) (2 * a.size) 0 (ns.getD 0 default))) ∧ Below W.heap.size W w') := fun W hW => spec03PopFind_any ns ls a b1 o1 a2 cap1 cap2 W hok hao hl2 hin (Nat.lt_of_lt_of_le hb1 hW.size) (hat.below hb1 hW) (H2.out.below hW)
      rw [hok] at HC
      rw [hao] at HD
      clear hok hao hat
      go_enter Try.func18, Try.ntmps18
      go_wp2_with fail
      refine (HC.out _ HB0.out).mono ?_
      rintro e w1 ⟨rfl, q1⟩
      have HQ : Hid (Below w.heap.size w w1) := HB0.out.trans (q1.mono HB0.out.size)
      obtain ⟨hc, hf⟩ := bcell q1
      go_wp2_with fail
      refine (HD.out _).mono ?_
      rintro e w1 ⟨rfl, rfl⟩
      go_wp2_with fail
      refine (HF.out _ HQ.out).mono ?_
      rintro e w2 ⟨rfl, q2⟩
      go_wp2_with fail
      go_ret
      exact ⟨ret_int HV.out.symm, HQ.out.trans (q2.mono HQ.out.size)⟩

end Go.Proofs.Ytmhkhbpedfdocah
