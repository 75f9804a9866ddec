/- The draws of FnEmbed: what DrawEmbed and DrawExtract answer: a prefix of at most 16 bytes and a text of at most 17. -/
import Derived.Test.YtebhljogijemoaaDrawPrefix
import Derived.Deep.RegionWith
import Derived.Laws.ResultCell
namespace Go.Proofs.Ytebhljogijemoaa
open Go.RowKit Go.PlainAid
set_option linter.unusedVariables false
set_option linter.unusedSimpArgs false

theorem grown_below {w wx : World} {B : Nat} (hg : w.grownBy wx (some B)) (hB : w.heap.size ≤ B) : Below w.heap.size w wx := ⟨hg.os, hg.tape, hg.output, hg.size, fun k hk => hg.block k hk (by simp; omega)⟩

set_option maxRecDepth 100000 in
set_option maxHeartbeats 1000000 in
theorem drawEmbed_any (a : Option Addr) (len cap : Nat) (w : World) (hl : len ≤ 1048576) (hb : Bytes w a len w.heap.size) :
    Calls Try.prog 15 #[.slice a len cap] w fun e w' => ∃ (s : ByteArray) (b : Int) (u : ByteArray), e = .returned (.tuple #[.agg #[.string s, .int .i64 b], .string u]) ∧ s.size ≤ 16 ∧ In64 b ∧ u.size ≤ 17 ∧ Below w.heap.size w w' := by
  have HB : Hid (Bytes (w.alloc (.cells #[.string ⟨#[]⟩, .int .i64 0] 33)) a len (w.alloc (.cells #[.string ⟨#[]⟩, .int .i64 0] 33)).heap.size) := (hb.kept (World.grownBy_alloc _ _ none) (by simp)).mono (by simp)
  have P0 : Hid (BoxP (w.alloc (.cells #[.string ⟨#[]⟩, .int .i64 0] 33)) w.heap.size ⟨#[]⟩ 0) := BoxP.new w _ _ _
  clear hb
  go_enter Try.func15, Try.ntmps15
  go_wp2_with fail
  refine (source_any a len cap _ hl HB.out).mono ?_
  rintro e w1 ⟨rfl, q1, size, -, -, hs1⟩
  obtain ⟨B, hBdef⟩ : ∃ B, B = w.heap.size + 1 := ⟨_, rfl⟩
  have hsz : (w.alloc (.cells #[.string ⟨#[]⟩, .int .i64 0] 33)).heap.size = B := by rw [hBdef]; simp
  rw [hsz] at hs1 q1 ⊢
  have P1 : Hid (BoxP w1 w.heap.size ⟨#[]⟩ 0) := P0.out.kept (grown_of_below (r := none) (by rw [hsz]; exact q1)) (by simp)
  have L1 : Hid (Below w.heap.size w w1) := ((Below.refl _ w).alloc (Nat.le_refl _) _).trans (q1.mono (by omega))
  have D1 : Hid (Dr w1 B a len cap size w1) := Dr.start hs1
  have hBw : w.heap.size < B := by omega
  clear HB P0 q1 hs1 hsz hBdef
  go_wp2_with fail
  refine (drawNatPrefix_any B a len cap size _ hl D1.out.src).mono ?_
  rintro e w2 ⟨s, b, rfl, hs16, hb64, hs2, hg2⟩
  have D2 : Hid (Dr w1 B a len cap size (w2.alloc (.cells #[.string s, .int .i64 b] 33))) := (D1.out.draw hs2 hg2).alloc _
  have P2 : Hid (BoxP (w2.alloc (.cells #[.string s, .int .i64 b] 33)) w.heap.size ⟨#[]⟩ 0) := (P1.out.kept hg2 (by simp; omega)).kept (World.grownBy_alloc _ _ none) (by simp)
  have Q2 : Hid (BoxP (w2.alloc (.cells #[.string s, .int .i64 b] 33)) w2.heap.size s b) := BoxP.new _ _ _ _
  have hQB : B < w2.heap.size := Nat.lt_of_lt_of_le D1.out.hB hg2.size
  have HP : Hid (s.size ≤ 16 ∧ In64 b) := ⟨hs16, hb64⟩
  clear D1 P1 hs2 hg2 hs16 hb64
  go_upto_region 3 with fail
  generalize hW : w2.alloc (.cells #[.string s, .int .i64 b] 33) = W at *
  generalize w2.heap.size = Q at *
  clear hW
  obtain ⟨d0, d1, g0, g1⟩ := Q2.out
  go_cut [3] (fun v wx => ∃ u : ByteArray, v = .string u ∧ u.size ≤ 17 ∧ BoxP wx w.heap.size s b ∧ Below w.heap.size w wx)
  case first =>
    go_region_with (first | (go_at_call 25; refine (drawOne_any 10 B a len cap size W.drew (by omega) hl (D2.out.src.kept (grown_drew (World.grownBy.refl W none)) (by simp))).mono ?_; rintro e w3 ⟨c, rfl, hs3, hg3⟩; have D3 : Hid (Dr w1 B a len cap size w3) := D2.out.draw hs3 (grown_trans (grown_drew (World.grownBy.refl W _)) hg3); have P3 : Hid (BoxP w3 w.heap.size ⟨#[]⟩ 0) := (P2.out.kept (grown_drew (World.grownBy.refl W none)) (by simp)).kept hg3 (by simp; omega); have Q3 : Hid (BoxP w3 Q s b) := (Q2.out.kept (grown_drew (World.grownBy.refl W none)) (by simp)).kept hg3 (by simp; omega); have d03 := Q3.out.c0; have d13 := Q3.out.c1; clear hs3 hg3) | (go_at_call 36; refine (drawAddr_any _ B a len cap size _ hl D3.out.src).mono ?_; rintro e w4 ⟨u, rfl, hu, hs4, hg4⟩; have D4 : Hid (Dr w1 B a len cap size w4) := D3.out.draw hs4 hg4; have P4 : Hid (BoxP w4 w.heap.size ⟨#[]⟩ 0) := P3.out.kept hg4 (by simp; omega); have Q4 : Hid (BoxP w4 Q s b) := Q3.out.kept hg4 (by simp; omega); have d04 := Q4.out.c0; have d14 := Q4.out.c1; have p04 := P4.out.c0; have p14 := P4.out.c1; have y04 := P4.out.f0; have y14 := P4.out.f1; clear hs4 hg4))
    all_goals go_wp2_with fail
    all_goals go_meet
    all_goals exact ⟨u, rfl, by rw [hu]; split <;> omega, (P4.out.set0 s).set1 b, ((L1.out.grown D4.out.grown L1.out.size (fun k e => by injection e with e; omega)).setCell (Nat.le_refl _) _).setCell (Nat.le_refl _) _⟩
  case rest =>
  obtain ⟨u, rfl, hu, hbx, hbel⟩ := hcut
  obtain ⟨x0, x1, _, _⟩ := hbx
  go_wp2
  exact bodyPost_ret (v := .tuple #[.agg #[.string s, .int .i64 b], .string u]) (by simp [results, Try.results15, go_sem, x0, x1]) rfl ⟨s, b, u, rfl, HP.out.1, HP.out.2, hu, hbel⟩

theorem embed_size (s : ByteArray) (b : Int) (u : ByteArray) : (embedV s b u).1.size ≤ 16 := by
  unfold embedV; split
  · show (embV _ _ _).size ≤ 16; unfold embV; rw [bytesOf_size]; omega
  · decide

set_option maxRecDepth 100000 in
set_option maxHeartbeats 1000000 in
theorem drawExtract_any (a : Option Addr) (len cap : Nat) (w : World) (hl : len ≤ 1048576) (hb : Bytes w a len w.heap.size) :
    Calls Try.prog 20 #[.slice a len cap] w fun e w' => ∃ (s : ByteArray) (b : Int) (u : ByteArray), e = .returned (.tuple #[.agg #[.string s, .int .i64 b], .string u]) ∧ s.size ≤ 16 ∧ In64 b ∧ u.size ≤ 17 ∧ Below w.heap.size w w' := by
  have HB : Hid (Bytes (w.alloc (.cells #[.string ⟨#[]⟩, .int .i64 0] 33)) a len (w.alloc (.cells #[.string ⟨#[]⟩, .int .i64 0] 33)).heap.size) := (hb.kept (World.grownBy_alloc _ _ none) (by simp)).mono (by simp)
  have P0 : Hid (BoxP (w.alloc (.cells #[.string ⟨#[]⟩, .int .i64 0] 33)) w.heap.size ⟨#[]⟩ 0) := BoxP.new w _ _ _
  clear hb
  go_enter Try.func20, Try.ntmps20
  go_wp2_with fail
  refine (source_any a len cap _ hl HB.out).mono ?_
  rintro e w1 ⟨rfl, q1, size, -, -, hs1⟩
  obtain ⟨B, hBdef⟩ : ∃ B, B = w.heap.size + 1 := ⟨_, rfl⟩
  have hsz : (w.alloc (.cells #[.string ⟨#[]⟩, .int .i64 0] 33)).heap.size = B := by rw [hBdef]; simp
  rw [hsz] at hs1 q1 ⊢
  have P1 : Hid (BoxP w1 w.heap.size ⟨#[]⟩ 0) := P0.out.kept (grown_of_below (r := none) (by rw [hsz]; exact q1)) (by simp)
  have L1 : Hid (Below w.heap.size w w1) := ((Below.refl _ w).alloc (Nat.le_refl _) _).trans (q1.mono (by omega))
  have D1 : Hid (Dr w1 B a len cap size w1) := Dr.start hs1
  have hBw : w.heap.size < B := by omega
  clear HB P0 q1 hs1 hsz hBdef
  go_wp2_with fail
  refine (drawNatPrefix_any B a len cap size _ hl D1.out.src).mono ?_
  rintro e w2 ⟨s, b, rfl, hs16, hb64, hs2, hg2⟩
  have D2 : Hid (Dr w1 B a len cap size (w2.alloc (.cells #[.string s, .int .i64 b] 33))) := (D1.out.draw hs2 hg2).alloc _
  have P2 : Hid (BoxP (w2.alloc (.cells #[.string s, .int .i64 b] 33)) w.heap.size ⟨#[]⟩ 0) := (P1.out.kept hg2 (by simp; omega)).kept (World.grownBy_alloc _ _ none) (by simp)
  have Q2 : Hid (BoxP (w2.alloc (.cells #[.string s, .int .i64 b] 33)) w2.heap.size s b) := BoxP.new _ _ _ _
  have hQB : B < w2.heap.size := Nat.lt_of_lt_of_le D1.out.hB hg2.size
  have hQw : w.heap.size ≤ w2.heap.size := by omega
  have HP : Hid (s.size ≤ 16 ∧ In64 b) := ⟨hs16, hb64⟩
  clear D1 P1 hs2 hg2 hb64
  go_upto_region 3 with fail
  generalize hW : w2.alloc (.cells #[.string s, .int .i64 b] 33) = W at *
  generalize w2.heap.size = Q at *
  clear hW
  obtain ⟨d0, d1, g0, g1⟩ := Q2.out
  have hfld : ∀ (x y : Value) (W : World), (Instr.field 37 (.agg #[x, y]) 0).run Try.prog W = .ok x W := fun _ _ _ => by kernel_rfl
  go_cut [6] (fun v wx => ∃ u : ByteArray, v = .string u ∧ u.size ≤ 16 ∧ Dr w1 B a len cap size wx ∧ BoxP wx w.heap.size ⟨#[]⟩ 0 ∧ BoxP wx Q s b)
  case first =>
    go_region_with (first | (go_at_call 36; refine (drawAddr_any false B a len cap size W.drew hl (D2.out.src.kept (grown_drew (World.grownBy.refl W none)) (by simp))).mono ?_; rintro e w3 ⟨u, rfl, hu, hs3, hg3⟩; have D3 : Hid (Dr w1 B a len cap size w3) := D2.out.draw hs3 (grown_trans (grown_drew (World.grownBy.refl W _)) hg3); have P3 : Hid (BoxP w3 w.heap.size ⟨#[]⟩ 0) := (P2.out.kept (grown_drew (World.grownBy.refl W none)) (by simp)).kept hg3 (by simp; omega); have Q3 : Hid (BoxP w3 Q s b) := (Q2.out.kept (grown_drew (World.grownBy.refl W none)) (by simp)).kept hg3 (by simp; omega); have d03 := Q3.out.c0; have d13 := Q3.out.c1; have hu4 : u.size ≤ 1048576 := (by rw [hu]; simp); clear hs3 hg3) | (go_at_call 17; refine (specEmbed_any s b u _ (by omega) hu4).mono ?_; rintro e w4 ⟨rfl, q4⟩; have D4 : Hid (Dr w1 B a len cap size w4) := D3.out.below q4; have P4 : Hid (BoxP w4 w.heap.size ⟨#[]⟩ 0) := P3.out.kept (grown_of_below (r := none) q4) (by simp); have Q4 : Hid (BoxP w4 Q s b) := Q3.out.kept (grown_of_below (r := none) q4) (by simp); clear q4))
    all_goals go_wp2_with fail
    all_goals go_meet
    all_goals exact ⟨_, rfl, embed_size s b u, D4.out, P4.out, Q4.out⟩
  case rest =>
  obtain ⟨u, rfl, hu, h5, p5, q5⟩ := hcut
  have D5 : Hid _ := h5
  have P5 : Hid _ := p5
  have Q5 : Hid _ := q5
  clear h5 p5 q5 D2 P2 Q2 d0 d1 g0 g1 hfld
  go_wp2_with fail
  refine (drawOne_any 4 B a len cap size _ (by omega) hl D5.out.src).mono ?_
  rintro e w5 ⟨c, rfl, hs5, hg5⟩
  have D6 : Hid (Dr w1 B a len cap size w5) := D5.out.draw hs5 hg5
  have P6 : Hid (BoxP w5 w.heap.size ⟨#[]⟩ 0) := P5.out.kept hg5 (by simp; omega)
  have Q6 : Hid (BoxP w5 Q s b) := Q5.out.kept hg5 (by simp; omega)
  clear hs5 hg5 D5 P5 Q5
  go_upto_if 18 with fail
  go_cut [6] (fun v wx => ∃ u : ByteArray, v = .string u ∧ u.size ≤ 17 ∧ Dr w1 B a len cap size wx ∧ BoxP wx w.heap.size ⟨#[]⟩ 0 ∧ BoxP wx Q s b)
  case first =>
    cases c
    · go_wp2
      all_goals go_meet
      all_goals exact ⟨u, rfl, by omega, D6.out, P6.out, Q6.out⟩
    · go_wp2_with fail
      refine (drawAny_any B a len cap size _ hl D6.out.src).mono ?_
      rintro e w6 ⟨u, rfl, hu, hs6, hg6⟩
      have D7 : Hid (Dr w1 B a len cap size w6 ∧ BoxP w6 w.heap.size ⟨#[]⟩ 0 ∧ BoxP w6 Q s b) := ⟨D6.out.draw hs6 hg6, P6.out.kept hg6 (by simp; omega), Q6.out.kept hg6 (by simp; omega)⟩
      clear hs6 hg6
      go_wp2
      all_goals go_meet
      all_goals exact ⟨u, rfl, hu, D7.out.1, D7.out.2.1, D7.out.2.2⟩
  case rest =>
  clear hu D6 P6 Q6
  obtain ⟨u, rfl, hu, h7, p7, q7⟩ := hcut
  have D7 : Hid _ := h7
  have P7 : Hid _ := p7
  have Q7 : Hid _ := q7
  clear h7 p7 q7
  go_wp2_with fail
  refine (drawOne_any 6 B a len cap size _ (by omega) hl D7.out.src).mono ?_
  rintro e w7 ⟨c, rfl, hs7, hg7⟩
  have D8 : Hid (Dr w1 B a len cap size w7) := D7.out.draw hs7 hg7
  have P8 : Hid (BoxP w7 w.heap.size ⟨#[]⟩ 0) := P7.out.kept hg7 (by simp; omega)
  have Q8 : Hid (BoxP w7 Q s b) := Q7.out.kept hg7 (by simp; omega)
  clear hs7 hg7 D7 P7 Q7
  cases c
  · obtain ⟨p0, p1, y0, y1⟩ := P8.out
    obtain ⟨d0, d1, _, _⟩ := Q8.out
    go_wp2
    exact bodyPost_ret (v := .tuple #[.agg #[.string s, .int .i64 b], .string u]) (by simp [results, Try.results20, go_sem, p0, p1, d0, d1, y0, y1]) rfl ⟨s, b, u, rfl, HP.out.1, HP.out.2, by omega, ((L1.out.grown D8.out.grown L1.out.size (fun k e => by injection e with e; omega)).setCell (Nat.le_refl _) _).setCell (Nat.le_refl _) _⟩
  · by_cases h16 : u.size = 16
    · have e16 : ((u.size : Int) == 16) = true := by simp; omega
      obtain ⟨cp, W2, hcv, hh, hb2, hcp⟩ := bytes_new w7 u
      rw [h16] at hcv hh
      have HR : Hid (RowB W2 w7.heap.size 16) := ⟨fun i hi => ⟨bt u i, bt_nonneg u i, bt_le u i, (hh.get i hi).1, (hh.get i hi).2⟩⟩
      have D9 : Hid (Dr w1 B a len cap size W2) := D8.out.below hb2
      have P9 : Hid (BoxP W2 w.heap.size ⟨#[]⟩ 0) := P8.out.kept (grown_of_below (r := none) hb2) (by simp)
      have Q9 : Hid (BoxP W2 Q s b) := Q8.out.kept (grown_of_below (r := none) hb2) (by simp)
      have hw7 : w1.heap.size ≤ w7.heap.size := D8.out.le
      have hw7P : w.heap.size < w7.heap.size := P8.out.lt
      have hw7Q : Q < w7.heap.size := Q8.out.lt
      have hB1 : B < w1.heap.size := D8.out.hB
      have hbz : (u.size : Int) = 16 := by omega
      clear hh hb2 D8 P8 Q8
      go_wp2_with fail
      refine (drawN_more 16 B a len cap size _ (by omega) (by omega) hl D9.out.src).mono ?_
      rintro e w8 ⟨k, rfl, k0, k1, hs8, hg8⟩
      obtain ⟨k, rfl⟩ := Int.eq_ofNat_of_zero_le k0
      have R8 : Hid (RowB w8 w7.heap.size 16) := HR.out.kept hg8 (by simp; omega)
      obtain ⟨x, _, _, c8, f8⟩ := R8.out.get k (by omega)
      have R9 : Hid (RowB (w8.setCell ⟨w7.heap.size, k, none⟩ (.int .u8 1)) w7.heap.size 16) := R8.out.set k 1 (by omega) (by omega)
      have D10 : Hid (Dr w1 B a len cap size (w8.setCell ⟨w7.heap.size, k, none⟩ (.int .u8 1))) := (D9.out.draw hs8 hg8).set _ _ _ hw7
      have P10 := (P9.out.kept hg8 (by simp; omega)).kept (grown_cell w8 w7.heap.size k (.int .u8 1)) (by simp; omega)
      have Q10 := (Q9.out.kept hg8 (by simp; omega)).kept (grown_cell w8 w7.heap.size k (.int .u8 1)) (by simp; omega)
      obtain ⟨v, hv, hcv2⟩ := R9.out.conv (cap := cp)
      have HV : Hid (v.size = 16) := hv
      clear hs8 hg8 D9 P9 Q9 HR R8 hv
      obtain ⟨p0, p1, y0, y1⟩ := P10
      obtain ⟨d0, d1, _, _⟩ := Q10
      go_wp2
      exact bodyPost_ret (v := .tuple #[.agg #[.string s, .int .i64 b], .string v]) (by simp [results, Try.results20, go_sem, p0, p1, d0, d1, y0, y1]) rfl ⟨s, b, v, rfl, HP.out.1, HP.out.2, by rw [HV.out]; omega, ((L1.out.grown D10.out.grown L1.out.size (fun k e => by injection e with e; omega)).setCell (Nat.le_refl _) _).setCell (Nat.le_refl _) _⟩
    · have e16 : ((u.size : Int) == 16) = false := by simp; omega
      obtain ⟨p0, p1, y0, y1⟩ := P8.out
      obtain ⟨d0, d1, _, _⟩ := Q8.out
      go_wp2
      exact bodyPost_ret (v := .tuple #[.agg #[.string s, .int .i64 b], .string u]) (by simp [results, Try.results20, go_sem, p0, p1, d0, d1, y0, y1]) rfl ⟨s, b, u, rfl, HP.out.1, HP.out.2, by omega, ((L1.out.grown D8.out.grown L1.out.size (fun k e => by injection e with e; omega)).setCell (Nat.le_refl _) _).setCell (Nat.le_refl _) _⟩

end Go.Proofs.Ytebhljogijemoaa
