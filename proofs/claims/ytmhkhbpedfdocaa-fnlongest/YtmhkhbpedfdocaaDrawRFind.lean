/- DrawRFind: what the draws of an address for routes, and of both, answer. -/
import Derived.Test.YtmhkhbpedfdocaaDrawRoutes
namespace Go.Proofs.Ytmhkhbpedfdocaa
open Go.RowKit Go.PlainAid
set_option linter.unusedVariables false
set_option linter.unusedSimpArgs false

set_option maxRecDepth 100000 in
set_option maxHeartbeats 1000000 in
theorem drawRAddr_any (g c : Nat) (rs : List Rt) (B : Nat) (a : Option Addr) (len cap : Nat) (size : Int) (w : World) (hl : len ≤ 1048576) (h14 : rs.length ≤ 14) (hall : ∀ q ∈ rs, RtD q) (hg : g < w.heap.size) (hgB : g ≠ B) (hat : RtsAt w g 0 rs) (hs : Src w B a len cap size) :
    Calls Try.prog 58 #[.pointer (some ⟨B, 0, none⟩), .slice (some ⟨g, 0, none⟩) rs.length c] w fun e w' => ∃ s : ByteArray, e = .returned (.string s) ∧ s.size ≤ 17 ∧ Src w' B a len cap size ∧ w.grownBy w' (some B) := by
  have H0 : Hid (Dr w B a len cap size w) := Dr.start hs
  have hB : B < w.heap.size := H0.out.hB
  have HT : Hid (RtsAt w g 0 rs) := hat
  have HA : Hid (∀ q ∈ rs, RtD q) := hall
  clear hs hat hall
  by_cases hr : 0 < rs.length
  · have hr' : (0 : Int) < (rs.length : Int) := by omega
    go_enter Try.func58, Try.ntmps58
    go_wp2_with fail
    refine (drawOne_any 3 B a len cap size _ (by omega) hl H0.out.src).mono ?_
    rintro e w1 ⟨b1, rfl, hs1, hg1⟩
    have H1 : Hid (Dr w B a len cap size w1) := H0.out.draw hs1 hg1
    clear hs1 hg1 H0
    cases b1 with
    | true =>
      go_wp2_with fail
      refine (drawAny_any B a len cap size _ hl H1.out.src).mono ?_
      rintro e w2 ⟨s, rfl, hsz, hs2, hg2⟩
      have H2 : Hid (Dr w B a len cap size w2) := H1.out.draw hs2 hg2
      clear hs2 hg2
      go_wp2_with fail
      go_ret
      exact ⟨s, rfl, hsz, H2.out.src, H2.out.grown⟩
    | false =>
      go_wp2_with fail
      refine (drawN_any (rs.length : Int) B a len cap size _ (by omega) hl H1.out.src).mono ?_
      rintro e w2 ⟨r, rfl, r0, r1, hs2, hg2⟩
      have H2 : Hid (Dr w B a len cap size w2) := H1.out.draw hs2 hg2
      clear hs2 hg2 H1
      obtain ⟨i, rfl⟩ := Int.eq_ofNat_of_zero_le r0
      have hi : i < rs.length := by omega
      have hi' : (i : Int) < (rs.length : Int) := by omega
      have hne : some g ≠ some B := by simpa using hgB
      have c0 := H2.out.grown.cell (HT.out.c0 i hi) hne
      have c1 := H2.out.grown.cell (HT.out.c1 i hi) hne
      have hq := HA.out rs[i] (List.getElem_mem hi)
      generalize rs[i] = q at *
      rw [Nat.zero_add] at c0 c1
      obtain ⟨hq1, -, -⟩ := hq
      have H3 : Hid (Dr w B a len cap size (w2.alloc (.cells #[.string q.addr, .int .i64 q.bits] 33))) := H2.out.alloc _
      have HC : Hid (∀ W, Calls Try.prog 30 #[.string q.addr] W fun e w' => e = .returned (.bool (addrOk q.addr)) ∧ w' = W) := fun W => specAddrRight_any q.addr W
      clear r0 r1 H2
      cases hok : addrOk q.addr with
      | false =>
        rw [hok] at HC
        clear hok
        go_wp2_with fail
        refine (HC.out _).mono ?_
        rintro e w3 ⟨rfl, rfl⟩
        go_wp2_with fail
        refine (drawAny_any B a len cap size _ hl H3.out.src).mono ?_
        rintro e w4 ⟨s, rfl, hsz, hs4, hg4⟩
        have H4 : Hid (Dr w B a len cap size w4) := H3.out.draw hs4 hg4
        clear hs4 hg4
        go_wp2_with fail
        go_ret
        exact ⟨s, rfl, hsz, H4.out.src, H4.out.grown⟩
      | true =>
        have hsz4 := addrOk_size hok
        rw [hok] at HC
        clear hok
        obtain ⟨cp, W2, hcv, hh, hb2, hcp⟩ := bytes_new (w2.alloc (.cells #[.string q.addr, .int .i64 q.bits] 33)) q.addr
        have HR : Hid (RowB W2 (w2.heap.size + 1) q.addr.size) := ⟨fun i hi => ⟨bt q.addr i, bt_nonneg _ _, bt_le _ _, by have := (hh.get i hi).1; rwa [World.size_alloc] at this, by have := (hh.get i hi).2; rwa [World.size_alloc] at this⟩⟩
        have H4 : Hid (Dr w B a len cap size W2) := H3.out.below hb2
        have hRw : w.heap.size ≤ w2.heap.size + 1 := by have := H3.out.le; rwa [World.size_alloc] at this
        go_wp2_with fail
        refine (HC.out _).mono ?_
        rintro e w3 ⟨rfl, rfl⟩
        clear hh hb2 H3
        go_wp2_with fail
        clear hcv
        generalize w2.heap.size + 1 = R at *
        refine (drawOne_any 2 B a len cap size _ (by omega) hl H4.out.src).mono ?_
        rintro e w5 ⟨b5, rfl, hs5, hg5⟩
        have H5 : Hid (Dr w B a len cap size w5) := H4.out.draw hs5 hg5
        have R5 : Hid (RowB w5 R q.addr.size) := HR.out.kept hg5 (by simp; omega)
        clear hs5 hg5 H4 HR
        cases b5 with
        | false =>
          obtain ⟨u, hu, hcv2⟩ := R5.out.conv (cap := cp)
          have HU : Hid (u.size = q.addr.size) := hu
          clear hu
          go_wp2_with fail
          go_ret
          exact ⟨u, rfl, by rw [HU.out]; omega, H5.out.src, H5.out.grown⟩
        | true =>
          go_wp2_with fail
          refine (drawN_more 256 B a len cap size _ (by omega) (by omega) hl H5.out.src).mono ?_
          rintro e w6 ⟨r, rfl, r0, r1, hs6, hg6⟩
          have H6 : Hid (Dr w B a len cap size w6) := H5.out.draw hs6 hg6
          have R6 : Hid (RowB w6 R q.addr.size) := R5.out.kept hg6 (by simp; omega)
          clear hs6 hg6 H5 R5
          obtain ⟨x, x0, x1, hc, hf⟩ := R6.out.get (q.addr.size - 1) (by omega)
          have R7 := R6.out.set (q.addr.size - 1) r (by omega) (by omega)
          obtain ⟨u, hu, hcv2⟩ := R7.conv (cap := cp)
          have H7 : Hid (Dr w B a len cap size (w6.setCell ⟨R, q.addr.size - 1, none⟩ (.int .u8 r))) := H6.out.set R _ _ hRw
          have HU : Hid (u.size = q.addr.size) := hu
          have hz1 : ((q.addr.size : Int) - 1).toNat = q.addr.size - 1 := by omega
          have hz0 : 0 ≤ (q.addr.size : Int) - 1 := by omega
          clear hu R7
          go_wp2_with fail
          go_ret
          exact ⟨u, rfl, by rw [HU.out]; omega, H7.out.src, H7.out.grown⟩
  · have hr' : rs.length = 0 := by omega
    go_enter Try.func58, Try.ntmps58
    go_wp2_with fail
    refine (drawAny_any B a len cap size _ hl H0.out.src).mono ?_
    rintro e w2 ⟨s, rfl, hsz, hs2, hg2⟩
    have H2 : Hid (Dr w B a len cap size w2) := H0.out.draw hs2 hg2
    clear hs2 hg2
    go_wp2_with fail
    go_ret
    exact ⟨s, rfl, hsz, H2.out.src, H2.out.grown⟩

set_option maxRecDepth 100000 in
set_option maxHeartbeats 1000000 in
theorem drawRFind_any (a : Option Addr) (len cap : Nat) (w : World) (hl : len ≤ 1048576) (hb : Bytes w a len w.heap.size) :
    Calls Try.prog 24 #[.slice a len cap] w fun e w' => ∃ (g c : Nat) (rs : List Rt) (s : ByteArray), e = .returned (.tuple #[.slice (some ⟨g, 0, none⟩) rs.length c, .string s]) ∧ rs.length ≤ c ∧ rs.length ≤ 14 ∧ (∀ q ∈ rs, RtD q) ∧ s.size ≤ 17 ∧ g < w'.heap.size ∧ RtsAt w' g 0 rs ∧ Below w.heap.size w w' := by
  have HB : Hid (Bytes w a len w.heap.size) := hb
  clear hb
  go_enter Try.func24, Try.ntmps24
  go_wp2_with fail
  refine (source_any a len cap _ hl HB.out).mono ?_
  rintro e w1 ⟨rfl, q1, size, z0, z12, hs1⟩
  have H1 : Hid (Src w1 w.heap.size a len cap size) := hs1
  have Q1 : Hid (Below w.heap.size w w1) := q1
  clear q1 hs1
  go_wp2_with fail
  refine (drawRoutes_any w.heap.size a len cap size _ hl z0 z12 H1.out).mono ?_
  rintro e w2 ⟨g, c, rs, rfl, hc, h14, hall, hg1, hg2, hat, hs2, hgr2⟩
  have H2 : Hid (Src w2 w.heap.size a len cap size) := hs2
  have Q2 : Hid (w1.grownBy w2 (some w.heap.size)) := hgr2
  have HT : Hid (RtsAt w2 g 0 rs) := hat
  have HA : Hid (∀ q ∈ rs, RtD q) := hall
  have hlt : w.heap.size < w1.heap.size := by obtain ⟨_, _, _, h⟩ := H1.out; exact World.block_lt_of_cell? w1 _ h.cb
  clear hs2 hgr2 hat hall H1
  go_wp2_with fail
  refine (drawRAddr_any g c rs w.heap.size a len cap size _ hl h14 HA.out hg2 (by omega) HT.out H2.out).mono ?_
  rintro e w3 ⟨s, rfl, hsz, hs3, hg3⟩
  have HQ : Hid (Below w.heap.size w w3) := ⟨(hg3.os.trans (Q2.out.os.trans Q1.out.os)), hg3.tape.trans (Q2.out.tape.trans Q1.out.tape), hg3.output.trans (Q2.out.output.trans Q1.out.output), Nat.le_trans Q1.out.size (Nat.le_trans Q2.out.size hg3.size), fun k hk => by
    have hk1 : k < w1.heap.size := Nat.lt_of_lt_of_le hk Q1.out.size
    have hne : some k ≠ some w.heap.size := by simp; omega
    rw [hg3.block k (Nat.lt_of_lt_of_le hk1 Q2.out.size) hne, Q2.out.block k hk1 hne, Q1.out.block k hk]⟩
  have hne : some g ≠ some w.heap.size := by simp; omega
  have HT3 : Hid (RtsAt w3 g 0 rs) := ⟨fun i hi => hg3.cell (HT.out.c0 i hi) hne, fun i hi => hg3.cell (HT.out.c1 i hi) hne, fun i hi => hg3.cell (HT.out.c2 i hi) hne⟩
  have hg3' : g < w3.heap.size := Nat.lt_of_lt_of_le hg2 hg3.size
  clear hs3 hg3
  go_wp2_with fail
  go_ret2
  exact ⟨g, c, rs, s, rfl, hc, h14, HA.out, hsz, hg3', HT3.out, HQ.out⟩

end Go.Proofs.Ytmhkhbpedfdocaa
