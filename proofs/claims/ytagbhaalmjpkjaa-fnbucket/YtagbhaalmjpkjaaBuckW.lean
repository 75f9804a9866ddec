/- BuckW: the law FnBucket, walked. Printed by mkbuckw.py. -/
import Derived.Test.YtagbhaalmjpkjaaDrawBt
import Derived.Test.YtagbhaalmjpkjaaSBuck
import Derived.Test.YtagbhaalmjpkjaaIBuck
import Derived.Test.YtagbhaalmjpkjaaBkSame
import Derived.Test.YtagbhaalmjpkjaaBuckM
import Derived.Test.YtagbhaalmjpkjaaDrawSum
import Derived.Test.YtagbhaalmjpkjaaBoxes
namespace Go.Proofs.Ytagbhaalmjpkjaa
open Go.RowKit Go.PlainAid
set_option linter.unusedVariables false
set_option linter.unusedSimpArgs false

theorem BInv.ge {b c : Bk} {now took : Int} (h : BInv b c now took) (hb : bucketOk b = true) : b.since ≤ now := by
  obtain ⟨m, m0, m1, m2⟩ := h.some
  obtain ⟨p1, p2, p3, p4⟩ := bk_parts hb
  have hu := h.up
  have : 0 ≤ m * b.each := Int.mul_nonneg m0 (by omega)
  omega
/-- What the last line reckons. -/
theorem BInv.last {b c : Bk} {now took : Int} (h : BInv b c now took) (hb : bucketOk b = true) (hm : now ≤ 1000000000) : ∃ q : Int, IntKind.i64.wrap (now - b.since) = now - b.since ∧ (now - b.since).tdiv b.each = q ∧ IntKind.i64.wrap q = q ∧ IntKind.i64.wrap (b.left + q) = b.left + q ∧ b.each ≠ 0 ∧ took ≤ b.left + q := by
  obtain ⟨p1, p2, p3, p4⟩ := bk_parts hb
  have hg := h.ge hb
  obtain ⟨c1, c2, c3, c4⟩ := came_ok (a := now - b.since) (c := b.each) (by omega) p3.1
  refine ⟨(now - b.since) / b.each, ?_, c1, ?_, ?_, by omega, h.ends hb⟩ <;> (rw [IntKind.wrap_i64]; omega)
set_option maxRecDepth 100000 in
set_option maxHeartbeats 8000000 in
theorem buckWalk (a0 : Option Addr) (len0 cap0 : Nat) (a1 : Option Addr) (len1 cap1 : Nat) (w : World) (h0 : len0 ≤ 1048576) (h1 : len1 ≤ 1048576) (b0 : Bytes w a0 len0 w.heap.size) (b1 : Bytes w a1 len1 w.heap.size) :
    Calls Try.prog 3 #[.slice a0 len0 cap0, .slice a1 len1 cap1] w fun e w' => e = .returned (.bool true) ∧ Below w.heap.size w w' := by
  have HLA : Hid (∀ W (k : Int), 0 ≤ k → k ≤ 40 → Below w.heap.size w W → Calls Try.prog 10 #[.slice a1 len1 cap1, .int .i64 k, .int .i64 4] W fun e w' => ∃ m, e = .returned (.int .i64 m) ∧ w' = W) := fun W k k0 k1 hW => (lwAt_any a1 len1 cap1 k 4 w.heap.size W k0 (by omega) h1 (by omega) (b1.kept (grown_of_below (r := none) hW) (by simp))).mono (fun e w' ⟨m, x1, x2, _⟩ => ⟨m, x1, x2⟩)
  have HD0 : Hid _ := drawBucketTake_any a0 len0 cap0 w h0 b0
  have l0 : ¬ (1048576 : Int) < len0 := by omega
  have l1 : ¬ (1048576 : Int) < len1 := by omega
  clear b0 b1
  go_enter Try.func3, Try.ntmps3
  go_wp2_with fail
  refine Calls.mono HD0.out ?_
  rintro e w1 ⟨b, now, rfl, hbd, hnow, qq⟩
  clear HD0
  have HI : Hid (∀ W (c : Bk) (t : Int), Calls Try.prog 6 #[bkC c, .int .i64 t] W fun e w' => e = .returned (bkO (takeB c t) (takeK c t)) ∧ Below W.heap.size W w') := fun W c t => implBucketTake_any c t W
  have HSp : Hid (∀ W, Calls Try.prog 7 #[bkC b, .int .i64 now] W fun e w' => e = .returned (bkO (takeB b now) (takeK b now)) ∧ Below W.heap.size W w') := fun W => specBucketTake_any b now W
  have HIR : Hid (∀ W, Calls Try.prog 8 #[bkC b] W fun e w' => e = .returned (.bool (bucketOk b)) ∧ Below W.heap.size W w') := fun W => implBucketRight_any b W
  have HSR : Hid (∀ W (c : Bk), Calls Try.prog 9 #[bkC c] W fun e w' => e = .returned (.bool (bucketOk c)) ∧ Below W.heap.size W w') := fun W c => specBucketRight_any c W
  have HSB : Hid (∀ W, Calls Try.prog 9 #[bkC b] W fun e w' => e = .returned (.bool (bucketOk b)) ∧ Below W.heap.size W w') := fun W => specBucketRight_any b W
  have HNO : Hid (bucketOk b = false ∨ bkTime now = false ∨ now < b.since → takeB b now = b ∧ takeK b now = false) := take_no
  have HNW : Hid (In64 now) := hnow
  have HBD : Hid (BkDr b) := hbd
  clear hnow hbd
  unfold bkC bkO at *
  have S1 : Hid (Bxs w [(w1.heap.size, [.int .i64 b.left, .int .i64 b.most, .int .i64 b.each, .int .i64 b.since])] (w1.alloc (.cells #[.int .i64 b.left, .int .i64 b.most, .int .i64 b.each, .int .i64 b.since] 24))) := (⟨fun e he => (by cases he), qq, fun e he => (by cases he)⟩ : Bxs w [] w1).push [.int .i64 b.left, .int .i64 b.most, .int .i64 b.each, .int .i64 b.since] (by simp) 24
  have hw1 : w.heap.size ≤ w1.heap.size := qq.size
  clear qq
  go_upto_region 4 with fail
  generalize w1.alloc (.cells #[.int .i64 b.left, .int .i64 b.most, .int .i64 b.each, .int .i64 b.since] 24) = W1 at *
  generalize w1.heap.size = Bb at *
  have HHq : HoldsL W1 Bb [.int .i64 b.left, .int .i64 b.most, .int .i64 b.each, .int .i64 b.since] := S1.out.k _ (.head _)
  obtain ⟨k0, k1, k2, k3⟩ := HHq.c4
  clear HHq
  go_wp2_with fail
  refine (HI.out W1 b now).mono ?_
  rintro e w2 ⟨rfl, q2⟩
  generalize htb : takeB b now = tb at *
  generalize htk : takeK b now = tk at *
  have S2 : Hid (Bxs w [(w2.heap.size, [.int .i64 tb.left, .int .i64 tb.most, .int .i64 tb.each, .int .i64 tb.since, .bool tk]), (Bb, [.int .i64 b.left, .int .i64 b.most, .int .i64 b.each, .int .i64 b.since])] (w2.alloc (.cells #[.int .i64 tb.left, .int .i64 tb.most, .int .i64 tb.each, .int .i64 tb.since, .bool tk] 28))) := (S1.out.kept q2).push [.int .i64 tb.left, .int .i64 tb.most, .int .i64 tb.each, .int .i64 tb.since, .bool tk] (by simp) 28
  have hx1 : Bb < w2.heap.size := ((S1.out.kept q2).k _ (.head _)).lt (by simp)
  clear S1 q2 k0 k1 k2 k3 htb htk
  go_upto_region 5 with fail
  generalize w2.alloc (.cells #[.int .i64 tb.left, .int .i64 tb.most, .int .i64 tb.each, .int .i64 tb.since, .bool tk] 28) = W2 at *
  generalize w2.heap.size = Xb at *
  go_cut [40] (fun v wx => v = .bool false ∧ Bxs w [(Xb, [.int .i64 tb.left, .int .i64 tb.most, .int .i64 tb.each, .int .i64 tb.since, .bool tk]), (Bb, [.int .i64 b.left, .int .i64 b.most, .int .i64 b.each, .int .i64 b.since])] wx)
  case first =>
    rename_i J K2 hJ hK2
    have HCP : Hid (∀ wy, Below W2.drew.heap.size W2.drew wy → Bxs w [(Xb, [.int .i64 tb.left, .int .i64 tb.most, .int .i64 tb.each, .int .i64 tb.since, .bool tk]), (Bb, [.int .i64 b.left, .int .i64 b.most, .int .i64 b.each, .int .i64 b.since])] wy) := fun wy hy => S2.out.kept ((Below.refl _ _).drew.trans hy)
    generalize bucketOk b = bo at *
    refine wp_region_growH [29, 30, 31, 32, 33, 34, 35, 36, 37, 38, 39, 40] (by kernel_rfl) (by kernel_rfl) ?_
    refine GCh.val (n := 0) (fun v => [IsV v]) (fun _ => rfl) rfl ?_
    apply Exists.intro
    refine And.intro ?_ ?_
    · intro K' a wy ho hd hb hK
      rw [if_pos (wanted_none rfl)]
      have o7 := ho 7 (by decide)
      simp [slot] at o7
      clear hd ho
      have hst := HCP.out wy hb
      have HHq : HoldsL wy Xb [.int .i64 tb.left, .int .i64 tb.most, .int .i64 tb.each, .int .i64 tb.since, .bool tk] := hst.k _ (.head _)
      obtain ⟨k0, k1, k2, k3, k4⟩ := HHq.c5
      clear HHq
      have HHq : HoldsL wy Bb [.int .i64 b.left, .int .i64 b.most, .int .i64 b.each, .int .i64 b.since] := hst.k _ (.tail _ (.head _))
      obtain ⟨j0, j1, j2, j3⟩ := HHq.c4
      clear HHq hst
      go_simp
      try go_bits
      exact hK _ _ rfl (Below.refl _ _)
    refine GCh.val (n := 1) (fun v => [_, IsV v]) (fun _ => rfl) rfl ?_
    apply Exists.intro
    refine And.intro ?_ ?_
    · intro K' a wy ho hd hb hK
      rw [if_pos (wanted_none rfl)]
      have o5 := ho 5 (by decide)
      simp [slot] at o5
      clear hd ho
      have hst := HCP.out wy hb
      have HHq : HoldsL wy Xb [.int .i64 tb.left, .int .i64 tb.most, .int .i64 tb.each, .int .i64 tb.since, .bool tk] := hst.k _ (.head _)
      obtain ⟨k0, k1, k2, k3, k4⟩ := HHq.c5
      clear HHq
      have HHq : HoldsL wy Bb [.int .i64 b.left, .int .i64 b.most, .int .i64 b.each, .int .i64 b.since] := hst.k _ (.tail _ (.head _))
      obtain ⟨j0, j1, j2, j3⟩ := HHq.c4
      clear HHq hst
      go_simp
      try go_bits
      exact hK _ _ rfl (Below.refl _ _)
    refine GCh.val (n := 2) (fun v => [_, _, IsV v]) (fun _ => rfl) rfl ?_
    apply Exists.intro
    refine And.intro ?_ ?_
    · intro K' a wy ho hd hb hK
      rw [if_pos (wanted_none rfl)]
      have o6 := ho 6 (by decide)
      simp [slot] at o6
      clear hd ho
      go_simp
      try go_bits
      exact hK _ _ rfl (Below.refl _ _)
    refine GCh.val (n := 3) (fun v => [_, _, _, IsV v]) (fun _ => rfl) rfl ?_
    apply Exists.intro
    refine And.intro ?_ ?_
    · intro K' a wy ho hd hb hK
      rw [if_pos (wanted_none rfl)]
      have q1 := hd ⟨1, .data⟩ (by simp) rfl
      simp [rAt, IsV, slot] at q1
      have q2 := hd ⟨2, .data⟩ (by simp) rfl
      simp [rAt, IsV, slot] at q2
      clear hd ho
      go_simp
      refine (HSp.out wy).mono ?_
      rintro e wz ⟨rfl, hz⟩
      exact hK _ _ rfl hz
    refine GCh.val (n := 4) (fun v => [_, _, _, _, IsV v]) (fun _ => rfl) rfl ?_
    apply Exists.intro
    refine And.intro ?_ ?_
    · intro K' a wy ho hd hb hK
      rw [if_pos (wanted_none rfl)]
      have q0 := hd ⟨0, .data⟩ (by simp) rfl
      simp [rAt, IsV, slot] at q0
      have q3 := hd ⟨3, .data⟩ (by simp) rfl
      simp [rAt, IsV, slot] at q3
      clear hd ho
      have hne := neBkO_bin tb tk wy
      go_simp
      try go_bits
      exact hK _ _ rfl (Below.refl _ _)
    refine GCh.val (n := 5) (fun v => [_, _, _, _, _, IsV v]) (fun _ => rfl) rfl ?_
    apply Exists.intro
    refine And.intro ?_ ?_
    · intro K' a wy ho hd hb hK
      rw [if_pos (wanted_none rfl)]
      have q4 := hd ⟨4, .data⟩ (by simp) rfl
      simp [rAt, IsV, slot] at q4
      clear hd ho
      go_simp
      try go_bits
      exact hK _ _ rfl (Below.refl _ _)
    refine GCh.val (n := 6) (fun v => [_, _, _, _, _, _, IsV v]) (fun _ => rfl) rfl ?_
    apply Exists.intro
    refine And.intro ?_ ?_
    · intro K' a wy ho hd hb hK
      have hgs : IsV (.bool false) (slot a 34) wy := hd ⟨5, .guard⟩ (by simp) rfl
      rw [wanted_of (j := 5) (d := 34) (b := false) (want := false) (hg := rfl) (ho := rfl) (hd := rfl) (hs := hgs)]
      rw [if_pos (by decide)]
      clear hgs
      have o5 := ho 5 (by decide)
      simp [slot] at o5
      clear hd ho
      have hst := HCP.out wy hb
      have HHq : HoldsL wy Xb [.int .i64 tb.left, .int .i64 tb.most, .int .i64 tb.each, .int .i64 tb.since, .bool tk] := hst.k _ (.head _)
      obtain ⟨k0, k1, k2, k3, k4⟩ := HHq.c5
      clear HHq
      have HHq : HoldsL wy Bb [.int .i64 b.left, .int .i64 b.most, .int .i64 b.each, .int .i64 b.since] := hst.k _ (.tail _ (.head _))
      obtain ⟨j0, j1, j2, j3⟩ := HHq.c4
      clear HHq hst
      go_simp
      try go_bits
      exact hK _ _ rfl (Below.refl _ _)
    refine GCh.val (n := 7) (fun v => [_, _, _, _, _, _, _, IsV v]) (fun _ => rfl) rfl ?_
    apply Exists.intro
    refine And.intro ?_ ?_
    · intro K' a wy ho hd hb hK
      have hgs : IsV (.bool false) (slot a 34) wy := hd ⟨5, .guard⟩ (by simp) rfl
      rw [wanted_of (j := 5) (d := 34) (b := false) (want := false) (hg := rfl) (ho := rfl) (hd := rfl) (hs := hgs)]
      rw [if_pos (by decide)]
      clear hgs
      have q6 := hd ⟨6, .data⟩ (by simp) rfl
      simp [rAt, IsV, slot] at q6
      clear hd ho
      go_simp
      refine (HIR.out wy).mono ?_
      rintro e wz ⟨rfl, hz⟩
      exact hK _ _ rfl hz
    refine GCh.val (n := 8) (fun v => [_, _, _, _, _, _, _, _, IsV v]) (fun _ => rfl) rfl ?_
    apply Exists.intro
    refine And.intro ?_ ?_
    · intro K' a wy ho hd hb hK
      have hgs : IsV (.bool false) (slot a 34) wy := hd ⟨5, .guard⟩ (by simp) rfl
      rw [wanted_of (j := 5) (d := 34) (b := false) (want := false) (hg := rfl) (ho := rfl) (hd := rfl) (hs := hgs)]
      rw [if_pos (by decide)]
      clear hgs
      have o5 := ho 5 (by decide)
      simp [slot] at o5
      clear hd ho
      have hst := HCP.out wy hb
      have HHq : HoldsL wy Xb [.int .i64 tb.left, .int .i64 tb.most, .int .i64 tb.each, .int .i64 tb.since, .bool tk] := hst.k _ (.head _)
      obtain ⟨k0, k1, k2, k3, k4⟩ := HHq.c5
      clear HHq
      have HHq : HoldsL wy Bb [.int .i64 b.left, .int .i64 b.most, .int .i64 b.each, .int .i64 b.since] := hst.k _ (.tail _ (.head _))
      obtain ⟨j0, j1, j2, j3⟩ := HHq.c4
      clear HHq hst
      go_simp
      try go_bits
      exact hK _ _ rfl (Below.refl _ _)
    refine GCh.val (n := 9) (fun v => [_, _, _, _, _, _, _, _, _, IsV v]) (fun _ => rfl) rfl ?_
    apply Exists.intro
    refine And.intro ?_ ?_
    · intro K' a wy ho hd hb hK
      have hgs : IsV (.bool false) (slot a 34) wy := hd ⟨5, .guard⟩ (by simp) rfl
      rw [wanted_of (j := 5) (d := 34) (b := false) (want := false) (hg := rfl) (ho := rfl) (hd := rfl) (hs := hgs)]
      rw [if_pos (by decide)]
      clear hgs
      have q8 := hd ⟨8, .data⟩ (by simp) rfl
      simp [rAt, IsV, slot] at q8
      clear hd ho
      go_simp
      refine (HSB.out wy).mono ?_
      rintro e wz ⟨rfl, hz⟩
      exact hK _ _ rfl hz
    refine GCh.val (n := 10) (fun v => [_, _, _, _, _, _, _, _, _, _, IsV v]) (fun _ => rfl) rfl ?_
    apply Exists.intro
    refine And.intro ?_ ?_
    · intro K' a wy ho hd hb hK
      have hgs : IsV (.bool false) (slot a 34) wy := hd ⟨5, .guard⟩ (by simp) rfl
      rw [wanted_of (j := 5) (d := 34) (b := false) (want := false) (hg := rfl) (ho := rfl) (hd := rfl) (hs := hgs)]
      rw [if_pos (by decide)]
      clear hgs
      have q7 := hd ⟨7, .data⟩ (by simp) rfl
      simp [rAt, IsV, slot] at q7
      have q9 := hd ⟨9, .data⟩ (by simp) rfl
      simp [rAt, IsV, slot] at q9
      clear hd ho
      go_simp
      try go_bits
      exact hK _ _ rfl (Below.refl _ _)
    refine GCh.val (n := 11) (fun v => [_, _, _, _, _, _, _, _, _, _, _, IsV v]) (fun _ => rfl) rfl ?_
    apply Exists.intro
    refine And.intro ?_ ?_
    · intro K' a wy ho hd hb hK
      rw [if_pos (wanted_none rfl)]
      have q5 := hd ⟨5, .data⟩ (by simp) rfl
      simp [rAt, IsV, slot] at q5
      have q10 := hd ⟨10, .data⟩ (by simp) rfl
      simp [rAt, IsV, slot] at q10
      clear hd ho
      go_simp
      try go_bits
      exact hK _ _ rfl (Below.refl _ _)
    intro X wz hR hz
    obtain ⟨x0, x1, x2, x3, x4, x5, x6, x7, x8, x9, x10, x11, -⟩ := hR
    simp only [IsV] at x0 x1 x2 x3 x4 x5 x6 x7 x8 x9 x10 x11
    simp only [putsFrom, x0, x1, x2, x3, x4, x5, x6, x7, x8, x9, x10, x11]
    clear x0 x1 x2 x3 x4 x5 x6 x7 x8 x9 x10 x11
    have HF : Hid (Bxs w [(Xb, [.int .i64 tb.left, .int .i64 tb.most, .int .i64 tb.each, .int .i64 tb.since, .bool tk]), (Bb, [.int .i64 b.left, .int .i64 b.most, .int .i64 b.each, .int .i64 b.since])] wz) := HCP.out wz hz
    clear HCP
    go_simp
    refine hK2 _ _ (hJ _ _ ?_)
    (repeat apply Exists.intro)
    exact ⟨⟨rfl, HF.out⟩, rfl⟩
  case rest =>
  obtain ⟨rfl, hS⟩ := hcut
  have S3 : Hid (Bxs w [(Xb, [.int .i64 tb.left, .int .i64 tb.most, .int .i64 tb.each, .int .i64 tb.since, .bool tk]), (Bb, [.int .i64 b.left, .int .i64 b.most, .int .i64 b.each, .int .i64 b.since])] wc) := hS
  clear hS S2 HSp HIR HSB
  generalize wc = W3 at *
  have HHq : HoldsL W3 Bb [.int .i64 b.left, .int .i64 b.most, .int .i64 b.each, .int .i64 b.since] := S3.out.k _ (.tail _ (.head _))
  obtain ⟨k0, k1, k2, k3⟩ := HHq.c4
  clear HHq
  go_upto_region 7 with fail
  go_wp2_with fail
  refine (HSR.out W3 b).mono ?_
  rintro e w4 ⟨rfl, q4⟩
  have S4 : Hid (Bxs w [(Xb, [.int .i64 tb.left, .int .i64 tb.most, .int .i64 tb.each, .int .i64 tb.since, .bool tk]), (Bb, [.int .i64 b.left, .int .i64 b.most, .int .i64 b.each, .int .i64 b.since])] w4) := S3.out.kept q4
  clear S3 q4 k0 k1 k2 k3
  have HHq : HoldsL w4 Bb [.int .i64 b.left, .int .i64 b.most, .int .i64 b.each, .int .i64 b.since] := S4.out.k _ (.tail _ (.head _))
  obtain ⟨k0, k1, k2, k3⟩ := HHq.c4
  clear HHq
  have HHq : HoldsL w4 Xb [.int .i64 tb.left, .int .i64 tb.most, .int .i64 tb.each, .int .i64 tb.since, .bool tk] := S4.out.k _ (.head _)
  obtain ⟨m0, m1, m2, m3, m4⟩ := HHq.c5
  clear HHq
  cases hbo : bucketOk b with
  | false =>
    obtain ⟨et, rfl⟩ : tb = b ∧ tk = false := HNO.out (.inl hbo)
    subst et
    have heq := eqBk_bin tb
    clear HNO HI HSR HNW HBD HLA hx1 hw1 h0 h1
    go_wp2_with fail
    go_ret
    exact ⟨rfl, S4.out.b⟩
  | true =>
  by_cases hns : now < b.since
  case pos =>
    obtain ⟨et, rfl⟩ : tb = b ∧ tk = false := HNO.out (.inr (.inr hns))
    subst et
    have heq := eqBk_bin tb
    clear HNO HI HSR HNW HBD HLA hx1 hw1 h0 h1
    go_wp2_with fail
    go_ret
    exact ⟨rfl, S4.out.b⟩
  by_cases hmx : 1000000000 < now
  case pos =>
    obtain ⟨et, rfl⟩ : tb = b ∧ tk = false := HNO.out (.inr (.inl (by unfold bkTime isIn; simp; omega)))
    subst et
    have heq := eqBk_bin tb
    clear HNO HI HSR HNW HBD HLA hx1 hw1 h0 h1
    go_wp2_with fail
    go_ret
    exact ⟨rfl, S4.out.b⟩
  obtain ⟨p1, p2, p3, p4⟩ := bk_parts hbo
  have HNB : Hid (¬ now < b.since) := hns
  have S5 : Hid (Bxs w [(w4.heap.size, [.int .i64 b.left, .int .i64 b.most, .int .i64 b.each, .int .i64 b.since]), (Xb, [.int .i64 tb.left, .int .i64 tb.most, .int .i64 tb.each, .int .i64 tb.since, .bool tk]), (Bb, [.int .i64 b.left, .int .i64 b.most, .int .i64 b.each, .int .i64 b.since])] (w4.alloc (.cells #[.int .i64 b.left, .int .i64 b.most, .int .i64 b.each, .int .i64 b.since] 24))) := S4.out.push [.int .i64 b.left, .int .i64 b.most, .int .i64 b.each, .int .i64 b.since] (by simp) 24
  have hx2 : Bb < w4.heap.size := (S4.out.k _ (.tail _ (.head _))).lt (by simp)
  have hx3 : Xb < w4.heap.size := (S4.out.k _ (.head _)).lt (by simp)
  clear S4 HNO
  have INV : Hid (BInv b b now 0) := BInv.start hbo (by omega)
  have HOB : Hid (bucketOk b = true) := hbo
  have HMX : Hid (now ≤ 1000000000) := by unfold Hid; omega
  have HNW2 : Hid (0 ≤ now) := by unfold Hid; omega
  go_upto_region 12 with fail
  generalize w4.alloc (.cells #[.int .i64 b.left, .int .i64 b.most, .int .i64 b.each, .int .i64 b.since] 24) = W5 at *
  generalize w4.heap.size = Cb at *
  clear k0 k1 k2 k3 m0 m1 m2 m3 m4 hbo hns hmx p1 p2 p3 p4
  go_wp2_with fail
  go_loopw [8, 9, 11] (fun tv av iv wr => ∃ (c : Bk) (n t : Int) (k : Nat), k ≤ 40 ∧ 0 ≤ n ∧ n ≤ k ∧ 0 ≤ t ∧ t ≤ 1000000000 ∧ tv = .int .i64 n ∧ av = .int .i64 t ∧ iv = .int .i64 k ∧ BInv b c t n ∧ Bxs w [(Cb, [.int .i64 c.left, .int .i64 c.most, .int .i64 c.each, .int .i64 c.since]), (Xb, [.int .i64 tb.left, .int .i64 tb.most, .int .i64 tb.each, .int .i64 tb.since, .bool tk]), (Bb, [.int .i64 b.left, .int .i64 b.most, .int .i64 b.each, .int .i64 b.since])] wr) (fun _ _ iv _ => 40 - (intOf iv).toNat)
  case atStart => exact ⟨b, 0, now, 0, by omega, by omega, by omega, HNW2.out, HMX.out, rfl, rfl, rfl, INV.out, S5.out⟩
  case round =>
    obtain ⟨c, n, t, k, hk, hn, hnk, ht, htm, rfl, rfl, rfl, hinv, hst⟩ := hrel
    have HV : Hid (BInv b c t n) := hinv
    have S6 : Hid (Bxs w [(Cb, [.int .i64 c.left, .int .i64 c.most, .int .i64 c.each, .int .i64 c.since]), (Xb, [.int .i64 tb.left, .int .i64 tb.most, .int .i64 tb.each, .int .i64 tb.since, .bool tk]), (Bb, [.int .i64 b.left, .int .i64 b.most, .int .i64 b.each, .int .i64 b.since])] wr) := hst
    clear hinv hst S5 INV HMX HNW2
    have HHq : HoldsL wr Cb [.int .i64 c.left, .int .i64 c.most, .int .i64 c.each, .int .i64 c.since] := S6.out.k _ (.head _)
    obtain ⟨c0, c1, c2, c3⟩ := HHq.c4
    clear HHq
    by_cases hlt : k < 40
    case neg =>
      have hk2 : ¬ (k : Int) < 40 := by omega
      clear c0 c1 c2 c3
      go_upto_region 23 with fail
      obtain ⟨q, wr1, dv, wr2, wr3, ne, hle⟩ := HV.out.last HOB.out htm
      have HLE : Hid (n ≤ b.left + q) := hle
      have HCP : Hid (∀ wy, Below wr.drew.heap.size wr.drew wy → Bxs w [(Cb, [.int .i64 c.left, .int .i64 c.most, .int .i64 c.each, .int .i64 c.since]), (Xb, [.int .i64 tb.left, .int .i64 tb.most, .int .i64 tb.each, .int .i64 tb.since, .bool tk]), (Bb, [.int .i64 b.left, .int .i64 b.most, .int .i64 b.each, .int .i64 b.since])] wy) := fun wy hy => S6.out.kept ((Below.refl _ _).drew.trans hy)
      clear hle HV HOB S6
      refine wp_region_growV [92, 93, 94, 95, 96, 97, 98, 99, 100, 101, 102, 103] (by kernel_rfl) (by kernel_rfl) ?_
      refine GChV.val (n := 0) (fun v => [IsV v]) (fun _ => rfl) rfl ?_
      apply Exists.intro
      refine And.intro ?_ ?_
      · intro K' a wy ho hd hb hK
        rw [if_pos (wanted_none rfl)]
        have o8 := ho 8 (by decide)
        simp [slot] at o8
        clear hd ho
        go_simp
        try go_bits
        exact hK _ _ rfl (Below.refl _ _)
      refine GChV.val (n := 1) (fun v => [_, IsV v]) (fun _ => rfl) rfl ?_
      apply Exists.intro
      refine And.intro ?_ ?_
      · intro K' a wy ho hd hb hK
        rw [if_pos (wanted_none rfl)]
        have o5 := ho 5 (by decide)
        simp [slot] at o5
        clear hd ho
        go_simp
        try go_bits
        exact hK _ _ rfl (Below.refl _ _)
      refine GChV.val (n := 2) (fun v => [_, _, IsV v]) (fun _ => rfl) rfl ?_
      apply Exists.intro
      refine And.intro ?_ ?_
      · intro K' a wy ho hd hb hK
        rw [if_pos (wanted_none rfl)]
        have q1 := hd ⟨1, .data⟩ (by simp) rfl
        simp [rAt, IsV, slot] at q1
        clear hd ho
        have hst := HCP.out wy hb
        have HHq : HoldsL wy Bb [.int .i64 b.left, .int .i64 b.most, .int .i64 b.each, .int .i64 b.since] := hst.k _ (.tail _ (.tail _ (.head _)))
        obtain ⟨j0, j1, j2, j3⟩ := HHq.c4
        clear HHq hst
        go_simp
        try go_bits
        exact hK _ _ rfl (Below.refl _ _)
      refine GChV.val (n := 3) (fun v => [_, _, _, IsV v]) (fun _ => rfl) rfl ?_
      apply Exists.intro
      refine And.intro ?_ ?_
      · intro K' a wy ho hd hb hK
        rw [if_pos (wanted_none rfl)]
        have o9 := ho 9 (by decide)
        simp [slot] at o9
        clear hd ho
        go_simp
        try go_bits
        exact hK _ _ rfl (Below.refl _ _)
      refine GChV.val (n := 4) (fun v => [_, _, _, _, IsV v]) (fun _ => rfl) rfl ?_
      apply Exists.intro
      refine And.intro ?_ ?_
      · intro K' a wy ho hd hb hK
        rw [if_pos (wanted_none rfl)]
        have o5 := ho 5 (by decide)
        simp [slot] at o5
        clear hd ho
        go_simp
        try go_bits
        exact hK _ _ rfl (Below.refl _ _)
      refine GChV.val (n := 5) (fun v => [_, _, _, _, _, IsV v]) (fun _ => rfl) rfl ?_
      apply Exists.intro
      refine And.intro ?_ ?_
      · intro K' a wy ho hd hb hK
        rw [if_pos (wanted_none rfl)]
        have q4 := hd ⟨4, .data⟩ (by simp) rfl
        simp [rAt, IsV, slot] at q4
        clear hd ho
        have hst := HCP.out wy hb
        have HHq : HoldsL wy Bb [.int .i64 b.left, .int .i64 b.most, .int .i64 b.each, .int .i64 b.since] := hst.k _ (.tail _ (.tail _ (.head _)))
        obtain ⟨j0, j1, j2, j3⟩ := HHq.c4
        clear HHq hst
        go_simp
        try go_bits
        exact hK _ _ rfl (Below.refl _ _)
      refine GChV.val (n := 6) (fun v => [_, _, _, _, _, _, IsV v]) (fun _ => rfl) rfl ?_
      apply Exists.intro
      refine And.intro ?_ ?_
      · intro K' a wy ho hd hb hK
        rw [if_pos (wanted_none rfl)]
        have q3 := hd ⟨3, .data⟩ (by simp) rfl
        simp [rAt, IsV, slot] at q3
        have q5 := hd ⟨5, .data⟩ (by simp) rfl
        simp [rAt, IsV, slot] at q5
        clear hd ho
        go_simp
        try go_bits
        exact hK _ _ rfl (Below.refl _ _)
      refine GChV.val (n := 7) (fun v => [_, _, _, _, _, _, _, IsV v]) (fun _ => rfl) rfl ?_
      apply Exists.intro
      refine And.intro ?_ ?_
      · intro K' a wy ho hd hb hK
        rw [if_pos (wanted_none rfl)]
        have o5 := ho 5 (by decide)
        simp [slot] at o5
        clear hd ho
        go_simp
        try go_bits
        exact hK _ _ rfl (Below.refl _ _)
      refine GChV.val (n := 8) (fun v => [_, _, _, _, _, _, _, _, IsV v]) (fun _ => rfl) rfl ?_
      apply Exists.intro
      refine And.intro ?_ ?_
      · intro K' a wy ho hd hb hK
        rw [if_pos (wanted_none rfl)]
        have q7 := hd ⟨7, .data⟩ (by simp) rfl
        simp [rAt, IsV, slot] at q7
        clear hd ho
        have hst := HCP.out wy hb
        have HHq : HoldsL wy Bb [.int .i64 b.left, .int .i64 b.most, .int .i64 b.each, .int .i64 b.since] := hst.k _ (.tail _ (.tail _ (.head _)))
        obtain ⟨j0, j1, j2, j3⟩ := HHq.c4
        clear HHq hst
        go_simp
        try go_bits
        exact hK _ _ rfl (Below.refl _ _)
      refine GChV.val (n := 9) (fun v => [_, _, _, _, _, _, _, _, _, IsV v]) (fun _ => rfl) rfl ?_
      apply Exists.intro
      refine And.intro ?_ ?_
      · intro K' a wy ho hd hb hK
        rw [if_pos (wanted_none rfl)]
        have q6 := hd ⟨6, .data⟩ (by simp) rfl
        simp [rAt, IsV, slot] at q6
        have q8 := hd ⟨8, .data⟩ (by simp) rfl
        simp [rAt, IsV, slot] at q8
        clear hd ho
        go_simp
        try go_bits
        exact hK _ _ rfl (Below.refl _ _)
      refine GChV.val (n := 10) (fun v => [_, _, _, _, _, _, _, _, _, _, IsV v]) (fun _ => rfl) rfl ?_
      apply Exists.intro
      refine And.intro ?_ ?_
      · intro K' a wy ho hd hb hK
        rw [if_pos (wanted_none rfl)]
        have q2 := hd ⟨2, .data⟩ (by simp) rfl
        simp [rAt, IsV, slot] at q2
        have q9 := hd ⟨9, .data⟩ (by simp) rfl
        simp [rAt, IsV, slot] at q9
        clear hd ho
        go_simp
        try go_bits
        exact hK _ _ rfl (Below.refl _ _)
      refine GChV.val (n := 11) (fun v => [_, _, _, _, _, _, _, _, _, _, _, IsV v]) (fun _ => rfl) rfl ?_
      apply Exists.intro
      refine And.intro ?_ ?_
      · intro K' a wy ho hd hb hK
        rw [if_pos (wanted_none rfl)]
        have q0 := hd ⟨0, .data⟩ (by simp) rfl
        simp [rAt, IsV, slot] at q0
        have q10 := hd ⟨10, .data⟩ (by simp) rfl
        simp [rAt, IsV, slot] at q10
        clear hd ho
        go_simp
        try go_bits
        exact hK _ _ rfl (Below.refl _ _)
      intro X wz hR hz
      obtain ⟨x0, x1, x2, x3, x4, x5, x6, x7, x8, x9, x10, x11, -⟩ := hR
      simp only [IsV] at x0 x1 x2 x3 x4 x5 x6 x7 x8 x9 x10 x11
      simp only [putsFrom, x0, x1, x2, x3, x4, x5, x6, x7, x8, x9, x10, x11]
      clear x0 x1 x2 x3 x4 x5 x6 x7 x8 x9 x10 x11
      have HF : Hid (Bxs w [(Cb, [.int .i64 c.left, .int .i64 c.most, .int .i64 c.each, .int .i64 c.since]), (Xb, [.int .i64 tb.left, .int .i64 tb.most, .int .i64 tb.each, .int .i64 tb.since, .bool tk]), (Bb, [.int .i64 b.left, .int .i64 b.most, .int .i64 b.each, .int .i64 b.since])] wz) := HCP.out wz hz
      clear HCP
      have hdec : decide (n ≤ b.left + q) = true := decide_eq_true HLE.out
      go_simp
      simp only [wpSeq]
      intro K5 hK5
      refine hK5 _ _ ?_
      go_wp2_with fail
      go_ret
      exact ⟨rfl, HF.out.b⟩
    have hlt2 : (k : Int) < 40 := by omega
    go_wp2_with fail
    refine (HI.out wr c t).mono ?_
    rintro e w6 ⟨rfl, q6⟩
    have hbt : bkTime t = true := by unfold bkTime isIn; simp; omega
    have INV2 : Hid (BInv b (takeB c t) t (n + if takeK c t = true then 1 else 0)) := HV.out.take hbt
    clear hbt HV c0 c1 c2 c3
    generalize takeB c t = c' at *
    generalize takeK c t = tk' at *
    have S7 : Hid (Bxs w [(w6.heap.size, [.int .i64 c'.left, .int .i64 c'.most, .int .i64 c'.each, .int .i64 c'.since, .bool tk']), (Cb, [.int .i64 c.left, .int .i64 c.most, .int .i64 c.each, .int .i64 c.since]), (Xb, [.int .i64 tb.left, .int .i64 tb.most, .int .i64 tb.each, .int .i64 tb.since, .bool tk]), (Bb, [.int .i64 b.left, .int .i64 b.most, .int .i64 b.each, .int .i64 b.since])] (w6.alloc (.cells #[.int .i64 c'.left, .int .i64 c'.most, .int .i64 c'.each, .int .i64 c'.since, .bool tk'] 28))) := (S6.out.kept q6).push [.int .i64 c'.left, .int .i64 c'.most, .int .i64 c'.each, .int .i64 c'.since, .bool tk'] (by simp) 28
    have hy1 : Bb < w6.heap.size := ((S6.out.kept q6).k _ (.tail _ (.tail _ (.head _)))).lt (by simp)
    have hy2 : Xb < w6.heap.size := ((S6.out.kept q6).k _ (.tail _ (.head _))).lt (by simp)
    have hy3 : Cb < w6.heap.size := ((S6.out.kept q6).k _ (.head _)).lt (by simp)
    clear S6 q6
    go_upto_region 16 with fail
    generalize w6.alloc (.cells #[.int .i64 c'.left, .int .i64 c'.most, .int .i64 c'.each, .int .i64 c'.since, .bool tk'] 28) = W6 at *
    generalize w6.heap.size = Yb at *
    have HHq : HoldsL W6 Yb [.int .i64 c'.left, .int .i64 c'.most, .int .i64 c'.each, .int .i64 c'.since, .bool tk'] := S7.out.k _ (.head _)
    obtain ⟨y0, y1, y2, y3, y4⟩ := HHq.c5
    clear HHq
    have HR2 : Hid (bucketOk c' = true) := INV2.out.right
    go_wp2_with fail
    refine (HSR.out W6 c').mono ?_
    rintro e w7 ⟨rfl, q7⟩
    rw [HR2.out]
    have S8 : Hid (Bxs w [(Yb, [.int .i64 c'.left, .int .i64 c'.most, .int .i64 c'.each, .int .i64 c'.since, .bool tk']), (Cb, [.int .i64 c.left, .int .i64 c.most, .int .i64 c.each, .int .i64 c.since]), (Xb, [.int .i64 tb.left, .int .i64 tb.most, .int .i64 tb.each, .int .i64 tb.since, .bool tk]), (Bb, [.int .i64 b.left, .int .i64 b.most, .int .i64 b.each, .int .i64 b.since])] w7) := S7.out.kept q7
    clear S7 q7 y0 y1 y2 y3 y4
    have HHq : HoldsL w7 Yb [.int .i64 c'.left, .int .i64 c'.most, .int .i64 c'.each, .int .i64 c'.since, .bool tk'] := S8.out.k _ (.head _)
    obtain ⟨y0, y1, y2, y3, y4⟩ := HHq.c5
    clear HHq
    have HHq : HoldsL w7 Cb [.int .i64 c.left, .int .i64 c.most, .int .i64 c.each, .int .i64 c.since] := S8.out.k _ (.tail _ (.head _))
    obtain ⟨c0, c1, c2, c3⟩ := HHq.c4
    obtain ⟨cf0, cf1, cf2, cf3⟩ := HHq.f4
    clear HHq
    have SA : Hid (Bxs w [(Cb, [.int .i64 c'.left, .int .i64 c'.most, .int .i64 c'.each, .int .i64 c'.since]), (Xb, [.int .i64 tb.left, .int .i64 tb.most, .int .i64 tb.each, .int .i64 tb.since, .bool tk]), (Bb, [.int .i64 b.left, .int .i64 b.most, .int .i64 b.each, .int .i64 b.since])] ((((w7.setCell ⟨Cb, 0, none⟩ (.int .i64 c'.left)).setCell ⟨Cb, 1, none⟩ (.int .i64 c'.most)).setCell ⟨Cb, 2, none⟩ (.int .i64 c'.each)).setCell ⟨Cb, 3, none⟩ (.int .i64 c'.since))) := ⟨fun e he => by
      simp only [List.mem_cons, List.not_mem_nil, or_false] at he
      rcases he with rfl | rfl | rfl
      · exact (((((S8.out.k _ (.tail _ (.head _))).set 0 _).set 1 _).set 2 _).set 3 _)
      · exact (((((S8.out.k _ (.tail _ (.tail _ (.head _)))).setOther (by omega) _).setOther (by omega) _).setOther (by omega) _).setOther (by omega) _)
      · exact (((((S8.out.k _ (.tail _ (.tail _ (.tail _ (.head _))))).setOther (by omega) _).setOther (by omega) _).setOther (by omega) _).setOther (by omega) _), ((((S8.out.b.setCell (p := ⟨Cb, 0, none⟩) (show w.heap.size ≤ Cb by omega) _).setCell (p := ⟨Cb, 1, none⟩) (show w.heap.size ≤ Cb by omega) _).setCell (p := ⟨Cb, 2, none⟩) (show w.heap.size ≤ Cb by omega) _).setCell (p := ⟨Cb, 3, none⟩) (show w.heap.size ≤ Cb by omega) _), fun e he => by
      simp only [List.mem_cons, List.not_mem_nil, or_false] at he
      rcases he with rfl | rfl | rfl <;> simp⟩
    have hyc : ¬ Yb = Cb := by omega
    have hcy : ¬ Cb = Yb := by omega
    have hn2 : 0 ≤ (n + if tk' = true then 1 else 0) ∧ (n + if tk' = true then (1 : Int) else 0) ≤ k + 1 := by cases tk' <;> simp <;> omega
    have hw8 : IntKind.i64.wrap (n + 1) = n + 1 := by rw [IntKind.wrap_i64]; omega
    have hw9 : IntKind.i64.wrap (t + 1) = t + 1 := by rw [IntKind.wrap_i64]; omega
    have hwk : IntKind.i64.wrap ((k : Int) + 1) = (k : Int) + 1 := by rw [IntKind.wrap_i64]; omega
    cases tk' with
    | true =>
      have INV3 : Hid (BInv b c' t (n + 1)) := by have h := INV2.out; simp at h; exact h
      clear INV2 hn2
      by_cases htl : t < 1000000000
      case neg =>
        go_wp2_with fail
        exact ⟨⟨c', n + 1, t, k + 1, by omega, by omega, by omega, by omega, by omega, rfl, rfl, by first | rfl | omega, INV3.out, SA.out⟩, by simp [intOf]; omega⟩
      go_wp2_with fail
      refine (HLA.out _ k (by omega) (by omega) SA.out.b).mono ?_
      rintro e w8 ⟨m, rfl, rfl⟩
      by_cases hm0 : m = 0
      case pos =>
        subst hm0
        go_wp2_with fail
        exact ⟨⟨c', n + 1, t + 1, k + 1, by omega, by omega, by omega, by omega, by omega, rfl, rfl, by first | rfl | omega, INV3.out.later, SA.out⟩, by simp [intOf]; omega⟩
      have hm1 : (m == 0) = false := by simp [hm0]
      go_wp2_with fail
      exact ⟨⟨c', n + 1, t, k + 1, by omega, by omega, by omega, by omega, by omega, rfl, rfl, by first | rfl | omega, INV3.out, SA.out⟩, by simp [intOf]; omega⟩
    | false =>
      have INV3 : Hid (BInv b c' t (n)) := by have h := INV2.out; simp at h; exact h
      clear INV2 hn2
      by_cases htl : t < 1000000000
      case neg =>
        go_wp2_with fail
        exact ⟨⟨c', n, t, k + 1, by omega, by omega, by omega, by omega, by omega, rfl, rfl, by first | rfl | omega, INV3.out, SA.out⟩, by simp [intOf]; omega⟩
      go_wp2_with fail
      refine (HLA.out _ k (by omega) (by omega) SA.out.b).mono ?_
      rintro e w8 ⟨m, rfl, rfl⟩
      by_cases hm0 : m = 0
      case pos =>
        subst hm0
        go_wp2_with fail
        exact ⟨⟨c', n, t + 1, k + 1, by omega, by omega, by omega, by omega, by omega, rfl, rfl, by first | rfl | omega, INV3.out.later, SA.out⟩, by simp [intOf]; omega⟩
      have hm1 : (m == 0) = false := by simp [hm0]
      go_wp2_with fail
      exact ⟨⟨c', n, t, k + 1, by omega, by omega, by omega, by omega, by omega, rfl, rfl, by first | rfl | omega, INV3.out, SA.out⟩, by simp [intOf]; omega⟩
end Go.Proofs.Ytagbhaalmjpkjaa
