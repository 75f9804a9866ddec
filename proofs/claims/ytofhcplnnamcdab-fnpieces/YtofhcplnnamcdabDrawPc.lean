/- DrawPc: what the draw of a piece (l06Piece) answers. Printed by mkdpc.py. -/
import Derived.Test.YtofhcplnnamcdabDrState
import Derived.Test.YtofhcplnnamcdabHoldL
import Derived.Test.YtofhcplnnamcdabPieces
import Derived.Deep.DeepCutAuto
import Derived.Great.BuildSlice
namespace Go.Proofs.Ytofhcplnnamcdab
open Go.RowKit Go.PlainAid
set_option linter.unusedVariables false
set_option linter.unusedSimpArgs false

/-- A drawn piece. -/
def PcDr (p : Pc) : Prop := p.src.size ≤ 100 ∧ p.dst.size ≤ 100 ∧ p.data.size ≤ 100 ∧ -2000000000 ≤ p.since ∧ p.since ≤ 2000000000
def pcZ0 : List Value := [.string ⟨#[]⟩, .string ⟨#[]⟩, .int .i64 0, .int .i64 0, .int .i64 0, .bool false, .string ⟨#[]⟩, .int .i64 0]
/-- The source, the piece's box, the answer's box. -/
structure DP (w : World) (B : Nat) (a : Option Addr) (len cap : Nat) (size : Int) (X : Nat) (p : Pc) (wx : World) : Prop where
  dr : Dr w B a len cap size wx
  box : HoldsL wx X (pcL p)
  out : HoldsL wx w.heap.size pcZ0
  ok : PcDr p
  hX : w.heap.size < X
section
variable {w wx wy : World} {B len cap X : Nat} {a : Option Addr} {size : Int} {p : Pc}
theorem DP.draw (h : DP w B a len cap size X p wx) (hs : Src wy B a len cap size) (hg : wx.grownBy wy (some B)) : DP w B a len cap size X p wy := by
  have := h.dr.hB
  have := h.hX
  exact ⟨h.dr.draw hs hg, h.box.grown (by simp [pcL]) hg (by simp; omega), h.out.grown (by simp [pcZ0]) hg (by simp; omega), h.ok, h.hX⟩
theorem DP.below (h : DP w B a len cap size X p wx) (hb : Below wx.heap.size wx wy) : DP w B a len cap size X p wy := ⟨h.dr.below hb, h.box.kept (by simp [pcL]) hb, h.out.kept (by simp [pcZ0]) hb, h.ok, h.hX⟩
theorem DP.alloc (h : DP w B a len cap size X p wx) (o : Obj) : DP w B a len cap size X p (wx.alloc o) := h.below ((Below.refl _ _).alloc (Nat.le_refl _) o)
theorem DP.set (h : DP w B a len cap size X p wx) (j : Nat) (v : Value) (q : Pc) (hq : (pcL p).set j v = pcL q) (hok : PcDr q) : DP w B a len cap size X q (wx.setCell ⟨X, j, none⟩ v) := by
  have := h.hX
  exact ⟨h.dr.set X j v (by omega), hq ▸ h.box.set j v, h.out.setOther (by omega) v, hok, h.hX⟩
end
theorem pick3 {w w1 : World} {B k : Nat} {x y z : Int} {t : TypeId} (hg : (w.alloc (.cells #[.int .i64 x, .int .i64 y, .int .i64 z] t)).grownBy w1 (some B)) (hB : B < w.heap.size) (hk : k < 3) : ∃ r, w1.cell? ⟨w.heap.size, k, none⟩ = some (.int .i64 r) ∧ (r = x ∨ r = y ∨ r = z) := by
  match k, hk with
  | 0, _ => exact ⟨_, hg.cell ((World.cell?_alloc_mark w _ _ _ 0).trans rfl) (by simp; omega), .inl rfl⟩
  | 1, _ => exact ⟨_, hg.cell ((World.cell?_alloc_mark w _ _ _ 1).trans rfl) (by simp; omega), .inr (.inl rfl)⟩
  | 2, _ => exact ⟨_, hg.cell ((World.cell?_alloc_mark w _ _ _ 2).trans rfl) (by simp; omega), .inr (.inr rfl)⟩

set_option maxRecDepth 100000 in
set_option maxHeartbeats 2000000 in
theorem drawPiece_any (B : Nat) (a : Option Addr) (len cap : Nat) (size : Int) (w : World) (hl : len ≤ 1048576) (hs : Src w B a len cap size) :
    Calls Try.prog 45 #[.pointer (some ⟨B, 0, none⟩)] w fun e w' => ∃ p : Pc, e = .returned (pcC p) ∧ PcDr p ∧ Src w' B a len cap size ∧ w.grownBy w' (some B) := by
  have hB : B < w.heap.size := (Dr.start hs).hB
  have hmk := mk16
  have D0 : Hid (Dr w B a len cap size (w.alloc (.cells pcZ0.toArray 37))) := (Dr.start hs).alloc _
  have O0 : Hid (HoldsL (w.alloc (.cells pcZ0.toArray 37)) w.heap.size pcZ0) := HoldsL.new w pcZ0 _
  rw [show pcZ0.toArray = #[.string ⟨#[]⟩, .string ⟨#[]⟩, .int .i64 0, .int .i64 0, .int .i64 0, .bool false, .string ⟨#[]⟩, .int .i64 0] from rfl] at D0 O0
  have hZ : (pcZ0).length = 8 := rfl
  clear hs
  go_enter Try.func45, Try.ntmps45
  go_wp2_with fail
  refine (drawOne_any 3 B a len cap size _ (by omega) hl D0.out.src).mono ?_
  rintro e w1 ⟨six, rfl, hs1, hg1⟩
  have D1 : Hid (Dr w B a len cap size w1) := D0.out.draw hs1 hg1
  have O1 : Hid (HoldsL w1 w.heap.size pcZ0) := O0.out.grown (by rw [hZ]; omega) hg1 (by simp; omega)
  clear hs1 hg1 D0 O0
  go_wp2_with fail
  refine (drawAddr_any false B a len cap size _ hl D1.out.src).mono ?_
  rintro e w2 ⟨src, rfl, hsrc, hs1, hg1⟩
  have D2 : Hid (Dr w B a len cap size w2) := D1.out.draw hs1 hg1
  have O2 : Hid (HoldsL w2 w.heap.size pcZ0) := O1.out.grown (by rw [hZ]; omega) hg1 (by simp; omega)
  clear hs1 hg1 D1 O1
  go_wp2_with fail
  refine (drawN_more 2 B a len cap size _ (by omega) (by omega) hl D2.out.src).mono ?_
  rintro e w3 ⟨id, rfl, id0, id1, hs1, hg1⟩
  have D3 : Hid (Dr w B a len cap size w3) := D2.out.draw hs1 hg1
  have O3 : Hid (HoldsL w3 w.heap.size pcZ0) := O2.out.grown (by rw [hZ]; omega) hg1 (by simp; omega)
  clear hs1 hg1 D2 O2
  go_wp2_with fail
  refine (drawN_more 4 B a len cap size _ (by omega) (by omega) hl D3.out.src).mono ?_
  rintro e w4 ⟨off, rfl, off0, off1, hs1, hg1⟩
  have D4 : Hid (Dr w B a len cap size w4) := D3.out.draw hs1 hg1
  have O4 : Hid (HoldsL w4 w.heap.size pcZ0) := O3.out.grown (by rw [hZ]; omega) hg1 (by simp; omega)
  clear hs1 hg1 D3 O3
  go_wp2_with fail
  refine (drawOne_any 3 B a len cap size _ (by omega) hl D4.out.src).mono ?_
  rintro e w5 ⟨more, rfl, hs1, hg1⟩
  have D5 : Hid (Dr w B a len cap size w5) := D4.out.draw hs1 hg1
  have O5 : Hid (HoldsL w5 w.heap.size pcZ0) := O4.out.grown (by rw [hZ]; omega) hg1 (by simp; omega)
  clear hs1 hg1 D4 O4
  go_wp2_with fail
  refine (drawBytes_any 8 B a len cap size _ (by omega) hl D5.out.src).mono ?_
  rintro e w6 ⟨data, rfl, hdata, hs1, hg1⟩
  have D6 : Hid (Dr w B a len cap size w6) := D5.out.draw hs1 hg1
  have O6 : Hid (HoldsL w6 w.heap.size pcZ0) := O5.out.grown (by rw [hZ]; omega) hg1 (by simp; omega)
  clear hs1 hg1 D5 O5
  have hsrc4 : src.size ≤ 100 := by simp at hsrc; omega
  have hdata8 : data.size ≤ 100 := by omega
  clear hsrc hdata
  go_upto_if 19 with fail
  obtain ⟨p, hp⟩ : ∃ p : Pc, p = ⟨src, ⟨#[10, 0, 0, 1]⟩, 17, id, off, !more, data, 0⟩ := ⟨_, rfl⟩
  have B7 : Hid (HoldsL (w6.alloc (.cells (pcL p).toArray 37)) w6.heap.size (pcL p)) := HoldsL.new w6 (pcL p) _
  have hw6 : w.heap.size < w6.heap.size := O6.out.lt (by rw [hZ]; omega)
  have P7 : Hid (DP w B a len cap size w6.heap.size p (w6.alloc (.cells (pcL p).toArray 37))) := ⟨D6.out.alloc _, B7.out, O6.out.alloc _, by rw [hp]; exact ⟨hsrc4, by show (4 : Nat) ≤ 100; omega, hdata8, by show (-2000000000 : Int) ≤ 0; omega, by show (0 : Int) ≤ 2000000000; omega⟩, hw6⟩
  rw [show (pcL p).toArray = #[.string src, .string ⟨#[10, 0, 0, 1]⟩, .int .i64 17, .int .i64 id, .int .i64 off, .bool (!more), .string data, .int .i64 0] by rw [hp]; rfl] at P7
  clear B7 D6 O6 hp
  generalize w6.alloc (.cells #[.string src, .string ⟨#[10, 0, 0, 1]⟩, .int .i64 17, .int .i64 id, .int .i64 off, .bool (!more), .string data, .int .i64 0] 37) = W7 at *
  generalize w6.heap.size = X at *
  go_cut [] (fun wx => ∃ p, DP w B a len cap size X p wx)
  case first =>
    cases six with
    | false =>
      go_wp2_with fail
      go_meet
      exact ⟨p, P7.out⟩
    | true =>
      obtain ⟨s, hsz, hcv⟩ := (rowB_new W7).conv (cap := 16)
      have P8 : Hid (DP w B a len cap size X p (W7.alloc (.cells (Array.replicate 16 (.int .u8 0)) 5))) := P7.out.alloc _
      have P9 : Hid (DP w B a len cap size X { p with src := s } ((W7.alloc (.cells (Array.replicate 16 (.int .u8 0)) 5)).setCell ⟨X, 0, none⟩ (.string s))) := P8.out.set 0 _ _ rfl ⟨by show s.size ≤ 100; omega, P8.out.ok.2.1, P8.out.ok.2.2⟩
      have P10 : Hid (DP w B a len cap size X { p with src := s, dst := s } (((W7.alloc (.cells (Array.replicate 16 (.int .u8 0)) 5)).setCell ⟨X, 0, none⟩ (.string s)).setCell ⟨X, 1, none⟩ (.string s))) := P9.out.set 1 _ _ rfl ⟨by show s.size ≤ 100; omega, by show s.size ≤ 100; omega, P8.out.ok.2.2⟩
      have y0 : (W7.alloc (.cells (Array.replicate 16 (.int .u8 0)) 5)).frozen? ⟨X, 0, none⟩ = false := P8.out.box.free (j := 0) (by simp [pcL])
      have x0 : (W7.alloc (.cells (Array.replicate 16 (.int .u8 0)) 5)).cell? ⟨X, 0, none⟩ = some (.string p.src) := P8.out.box.cell rfl
      have y1 : (W7.alloc (.cells (Array.replicate 16 (.int .u8 0)) 5)).frozen? ⟨X, 1, none⟩ = false := P8.out.box.free (j := 1) (by simp [pcL])
      have x1 : (W7.alloc (.cells (Array.replicate 16 (.int .u8 0)) 5)).cell? ⟨X, 1, none⟩ = some (.string p.dst) := P8.out.box.cell rfl
      clear P7 P8 P9
      go_wp2_with fail
      go_meet
      exact ⟨_, P10.out⟩
  case rest =>
  obtain ⟨p, hP⟩ := hcut
  have P11 : Hid (DP w B a len cap size X p wc) := hP
  clear hP
  generalize wc = V11 at *
  go_wp2_with fail
  refine (drawOne_any 2 B a len cap size _ (by omega) hl P11.out.dr.src).mono ?_
  rintro e w12 ⟨c12, rfl, hs1, hg1⟩
  have P12 : Hid (DP w B a len cap size X p w12) := P11.out.draw hs1 hg1
  clear hs1 hg1 P11
  go_upto_if 27 with fail
  go_cut [] (fun wx => ∃ p, DP w B a len cap size X p wx)
  case first =>
    cases c12 with
    | false =>
      go_wp2_with fail
      go_meet
      exact ⟨p, P12.out⟩
    | true =>
      have y0 := P12.out.box.free (j := 0) (by simp [pcL])
      have x0 : w12.cell? ⟨X, 0, none⟩ = some (.string p.src) := P12.out.box.cell rfl
      have x1 : w12.cell? ⟨X, 1, none⟩ = some (.string p.dst) := P12.out.box.cell rfl
      have P13 : Hid (DP w B a len cap size X { p with src := p.dst } (w12.setCell ⟨X, 0, none⟩ (.string p.dst))) := P12.out.set 0 _ _ rfl ⟨P12.out.ok.2.1, P12.out.ok.2.1, P12.out.ok.2.2⟩
      clear P12
      go_wp2_with fail
      go_meet
      exact ⟨_, P13.out⟩
  case rest =>
  obtain ⟨p, hP⟩ := hcut
  have P14 : Hid (DP w B a len cap size X p wc) := hP
  clear hP
  generalize wc = V14 at *
  go_wp2_with fail
  refine (drawOne_any 4 B a len cap size _ (by omega) hl P14.out.dr.src).mono ?_
  rintro e w15 ⟨c15, rfl, hs1, hg1⟩
  have P15 : Hid (DP w B a len cap size X p w15) := P14.out.draw hs1 hg1
  clear hs1 hg1 P14
  go_upto_if 32 with fail
  go_cut [] (fun wx => ∃ p, DP w B a len cap size X p wx)
  case first =>
    cases c15 with
    | false =>
      go_wp2_with fail
      go_meet
      exact ⟨p, P15.out⟩
    | true =>
      go_wp2_with fail
      refine (drawN_more 2 B a len cap size _ (by omega) (by omega) hl P15.out.dr.src).mono ?_
      rintro e w16 ⟨r, rfl, r0, r1, hs1, hg1⟩
      obtain ⟨k, rfl⟩ := Int.eq_ofNat_of_zero_le r0
      have P16 : Hid (DP w B a len cap size X p w16) := P15.out.draw hs1 hg1
      have HDB : Hid _ := drawBytes_any (8 * (1 + k)) B a len cap size w16 (by omega) hl P16.out.dr.src
      rw [show ((8 * (1 + k) : Nat) : Int) = 8 * (1 + (k : Int)) by omega] at HDB
      clear hs1 hg1 P15
      go_wp2_with fail
      refine Calls.mono HDB.out ?_
      rintro e w17 ⟨d, rfl, hd, hs1, hg1⟩
      have P17 : Hid (DP w B a len cap size X p w17) := P16.out.draw hs1 hg1
      clear hs1 hg1 P16 HDB
      have y6 := P17.out.box.free (j := 6) (by simp [pcL])
      have x6 : w17.cell? ⟨X, 6, none⟩ = some (.string p.data) := P17.out.box.cell rfl
      have P99 : Hid (DP w B a len cap size X { p with data := d } (w17.setCell ⟨X, 6, none⟩ (.string d))) := P17.out.set 6 _ _ rfl ⟨P17.out.ok.1, P17.out.ok.2.1, by show d.size ≤ 100; omega, P17.out.ok.2.2.2⟩
      clear P17
      go_wp2_with fail
      go_meet
      exact ⟨_, P99.out⟩
  case rest =>
  obtain ⟨p, hP⟩ := hcut
  have P18 : Hid (DP w B a len cap size X p wc) := hP
  clear hP
  generalize wc = V18 at *
  go_upto_region 10 with fail
  go_cut [46] (fun v wx => ∃ c, v = .bool c ∧ DP w B a len cap size X p wx)
  case first =>
    have hun : undef = Value.tuple #[] := rfl
    have x5 : V18.cell? ⟨X, 5, none⟩ = some (.bool p.more) := P18.out.box.cell rfl
    cases hmo : p.more with
    | true =>
      rw [hmo] at x5
      go_wp2_with fail
      go_meet
      exact ⟨false, rfl, P18.out⟩
    | false =>
      rw [hmo] at x5
      go_wp2_with fail
      refine (drawOne_any 2 B a len cap size _ (by omega) hl P18.out.dr.src).mono ?_
      rintro e w19 ⟨c, rfl, hs1, hg1⟩
      have P19 : Hid (DP w B a len cap size X p w19) := P18.out.draw hs1 hg1
      clear hs1 hg1 x5
      go_wp2_with fail
      go_meet
      exact ⟨c, by simp, P19.out⟩
  case rest =>
  obtain ⟨c20, rfl, hP⟩ := hcut
  have P20 : Hid (DP w B a len cap size X p wc) := hP
  clear hP P18
  generalize wc = V20 at *
  go_upto_if 46 with fail
  go_cut [] (fun wx => ∃ p, DP w B a len cap size X p wx)
  case first =>
    cases c20 with
    | false =>
      go_wp2_with fail
      go_meet
      exact ⟨p, P20.out⟩
    | true =>
      go_wp2_with fail
      refine (drawN_more 9 B a len cap size _ (by omega) (by omega) hl P20.out.dr.src).mono ?_
      rintro e w21 ⟨r, rfl, r0, r1, hs1, hg1⟩
      obtain ⟨k, rfl⟩ := Int.eq_ofNat_of_zero_le r0
      have P21 : Hid (DP w B a len cap size X p w21) := P20.out.draw hs1 hg1
      have HDB : Hid _ := drawBytes_any (1 + k) B a len cap size w21 (by omega) hl P21.out.dr.src
      rw [show ((1 + k : Nat) : Int) = 1 + (k : Int) by omega] at HDB
      clear hs1 hg1 P20
      go_wp2_with fail
      refine Calls.mono HDB.out ?_
      rintro e w22 ⟨d, rfl, hd, hs1, hg1⟩
      have P22 : Hid (DP w B a len cap size X p w22) := P21.out.draw hs1 hg1
      clear hs1 hg1 P21 HDB
      have y6 := P22.out.box.free (j := 6) (by simp [pcL])
      have x6 : w22.cell? ⟨X, 6, none⟩ = some (.string p.data) := P22.out.box.cell rfl
      have P99 : Hid (DP w B a len cap size X { p with data := d } (w22.setCell ⟨X, 6, none⟩ (.string d))) := P22.out.set 6 _ _ rfl ⟨P22.out.ok.1, P22.out.ok.2.1, by show d.size ≤ 100; omega, P22.out.ok.2.2.2⟩
      clear P22
      go_wp2_with fail
      go_meet
      exact ⟨_, P99.out⟩
  case rest =>
  obtain ⟨p, hP⟩ := hcut
  have P23 : Hid (DP w B a len cap size X p wc) := hP
  clear hP
  generalize wc = V23 at *
  go_wp2_with fail
  refine (drawOne_any 25 B a len cap size _ (by omega) hl P23.out.dr.src).mono ?_
  rintro e w24 ⟨c24, rfl, hs1, hg1⟩
  have P24 : Hid (DP w B a len cap size X p w24) := P23.out.draw hs1 hg1
  clear hs1 hg1 P23
  go_upto_if 54 with fail
  go_cut [] (fun wx => ∃ p, DP w B a len cap size X p wx)
  case first =>
    cases c24 with
    | false =>
      go_wp2_with fail
      go_meet
      exact ⟨p, P24.out⟩
    | true =>
      go_wp2_with fail
      refine (drawN_more 4 B a len cap size _ (by omega) (by omega) hl P24.out.dr.src).mono ?_
      rintro e w25 ⟨z, rfl, z0, z1, hs1, hg1⟩
      have P25 : Hid (DP w B a len cap size X p w25) := P24.out.draw hs1 hg1
      clear hs1 hg1 P24
      by_cases e0 : z = 0
      · have d0 : (z == 0) = true := by simp [e0]
        clear e0
        go_wp2_with fail
        have D26 : Hid (DP w B a len cap size X p (w25.alloc (.cells #[.int .i64 (-1), .int .i64 8191, .int .i64 8192] 2))) := P25.out.alloc _
        have hBW : B < w25.heap.size := Nat.lt_of_lt_of_le P25.out.dr.hB P25.out.dr.le
        refine (drawN_more 3 B a len cap size _ (by omega) (by omega) hl D26.out.dr.src).mono ?_
        rintro e w26 ⟨r, rfl, r0, r1, hs1, hg1⟩
        obtain ⟨k, rfl⟩ := Int.eq_ofNat_of_zero_le r0
        obtain ⟨r, hcell, hr⟩ := pick3 (k := k) hg1 hBW (by omega)
        have E26 : Hid (DP w B a len cap size X p w26) := D26.out.draw hs1 hg1
        have r1' : (k : Int) < 3 := by omega
        clear hs1 hg1 D26 r0 r1
        have y4 := E26.out.box.free (j := 4) (by simp [pcL])
        have x4 : w26.cell? ⟨X, 4, none⟩ = some (.int .i64 p.off) := E26.out.box.cell rfl
        have F26 : Hid (DP w B a len cap size X { p with off := r } (w26.setCell ⟨X, 4, none⟩ (.int .i64 r))) := E26.out.set 4 _ _ rfl P25.out.ok
        clear E26 hr
        go_wp2_with fail
        go_meet
        exact ⟨_, F26.out⟩
      · have d0 : (z == 0) = false := by simp [e0]
        by_cases e1 : z = 1
        · have d1 : (z == 1) = true := by simp [e1]
          clear e1 e0
          go_wp2_with fail
          refine (drawN_more 20 B a len cap size _ (by omega) (by omega) hl P25.out.dr.src).mono ?_
          rintro e w26 ⟨r, rfl, r0, r1, hs1, hg1⟩
          obtain ⟨k, rfl⟩ := Int.eq_ofNat_of_zero_le r0
          have P26 : Hid (DP w B a len cap size X p w26) := P25.out.draw hs1 hg1
          have HDB : Hid _ := drawBytes_any k B a len cap size w26 (by omega) hl P26.out.dr.src
          clear hs1 hg1 P25
          go_wp2_with fail
          refine Calls.mono HDB.out ?_
          rintro e w27 ⟨d, rfl, hd, hs1, hg1⟩
          have P27 : Hid (DP w B a len cap size X p w27) := P26.out.draw hs1 hg1
          clear hs1 hg1 P26 HDB
          have y6 := P27.out.box.free (j := 6) (by simp [pcL])
          have x6 : w27.cell? ⟨X, 6, none⟩ = some (.string p.data) := P27.out.box.cell rfl
          have P99 : Hid (DP w B a len cap size X { p with data := d } (w27.setCell ⟨X, 6, none⟩ (.string d))) := P27.out.set 6 _ _ rfl ⟨P27.out.ok.1, P27.out.ok.2.1, by show d.size ≤ 100; omega, P27.out.ok.2.2.2⟩
          clear P27
          go_wp2_with fail
          go_meet
          exact ⟨_, P99.out⟩
        · have d1 : (z == 1) = false := by simp [e1]
          by_cases e2 : z = 2
          · have d2 : (z == 2) = true := by simp [e2]
            clear e2 e1 e0
            go_wp2_with fail
            have D28 : Hid (DP w B a len cap size X p (w25.alloc (.cells #[.int .i64 (-1), .int .i64 4294967295, .int .i64 4294967296] 2))) := P25.out.alloc _
            have hBW : B < w25.heap.size := Nat.lt_of_lt_of_le P25.out.dr.hB P25.out.dr.le
            refine (drawN_more 3 B a len cap size _ (by omega) (by omega) hl D28.out.dr.src).mono ?_
            rintro e w28 ⟨r, rfl, r0, r1, hs1, hg1⟩
            obtain ⟨k, rfl⟩ := Int.eq_ofNat_of_zero_le r0
            obtain ⟨r, hcell, hr⟩ := pick3 (k := k) hg1 hBW (by omega)
            have E28 : Hid (DP w B a len cap size X p w28) := D28.out.draw hs1 hg1
            have r1' : (k : Int) < 3 := by omega
            clear hs1 hg1 D28 r0 r1
            have y3 := E28.out.box.free (j := 3) (by simp [pcL])
            have x3 : w28.cell? ⟨X, 3, none⟩ = some (.int .i64 p.id) := E28.out.box.cell rfl
            have F28 : Hid (DP w B a len cap size X { p with id := r } (w28.setCell ⟨X, 3, none⟩ (.int .i64 r))) := E28.out.set 3 _ _ rfl P25.out.ok
            clear E28 hr
            go_wp2_with fail
            go_meet
            exact ⟨_, F28.out⟩
          · have d2 : (z == 2) = false := by simp [e2]
            clear e2 e1 e0
            go_wp2_with fail
            have D29 : Hid (DP w B a len cap size X p (w25.alloc (.cells #[.int .i64 (-1), .int .i64 1000000000, .int .i64 1000000001] 2))) := P25.out.alloc _
            have hBW : B < w25.heap.size := Nat.lt_of_lt_of_le P25.out.dr.hB P25.out.dr.le
            refine (drawN_more 3 B a len cap size _ (by omega) (by omega) hl D29.out.dr.src).mono ?_
            rintro e w29 ⟨r, rfl, r0, r1, hs1, hg1⟩
            obtain ⟨k, rfl⟩ := Int.eq_ofNat_of_zero_le r0
            obtain ⟨r, hcell, hr⟩ := pick3 (k := k) hg1 hBW (by omega)
            have E29 : Hid (DP w B a len cap size X p w29) := D29.out.draw hs1 hg1
            have r1' : (k : Int) < 3 := by omega
            clear hs1 hg1 D29 r0 r1
            have y7 := E29.out.box.free (j := 7) (by simp [pcL])
            have x7 : w29.cell? ⟨X, 7, none⟩ = some (.int .i64 p.since) := E29.out.box.cell rfl
            have F29 : Hid (DP w B a len cap size X { p with since := r } (w29.setCell ⟨X, 7, none⟩ (.int .i64 r))) := E29.out.set 7 _ _ rfl ⟨P25.out.ok.1, P25.out.ok.2.1, P25.out.ok.2.2.1, by show -2000000000 ≤ r; omega, by show r ≤ 2000000000; omega⟩
            clear E29 hr
            go_wp2_with fail
            go_meet
            exact ⟨_, F29.out⟩
  case rest =>
  obtain ⟨p, hP⟩ := hcut
  have P30 : Hid (DP w B a len cap size X p wc) := hP
  clear hP
  generalize wc = V30 at *
  obtain ⟨k0, k1, k2, k3, k4, k5, k6, k7⟩ : _ := (⟨P30.out.box.cell rfl, P30.out.box.cell rfl, P30.out.box.cell rfl, P30.out.box.cell rfl, P30.out.box.cell rfl, P30.out.box.cell rfl, P30.out.box.cell rfl, P30.out.box.cell rfl⟩ : V30.cell? ⟨X, 0, none⟩ = some (.string p.src) ∧ V30.cell? ⟨X, 1, none⟩ = some (.string p.dst) ∧ V30.cell? ⟨X, 2, none⟩ = some (.int .i64 p.proto) ∧ V30.cell? ⟨X, 3, none⟩ = some (.int .i64 p.id) ∧ V30.cell? ⟨X, 4, none⟩ = some (.int .i64 p.off) ∧ V30.cell? ⟨X, 5, none⟩ = some (.bool p.more) ∧ V30.cell? ⟨X, 6, none⟩ = some (.string p.data) ∧ V30.cell? ⟨X, 7, none⟩ = some (.int .i64 p.since))
  have z0 : V30.cell? ⟨w.heap.size, 0, none⟩ = some (.string ⟨#[]⟩) := P30.out.out.cell rfl
  have zf0 := P30.out.out.free (j := 0) (by simp [pcZ0])
  have z1 : V30.cell? ⟨w.heap.size, 1, none⟩ = some (.string ⟨#[]⟩) := P30.out.out.cell rfl
  have zf1 := P30.out.out.free (j := 1) (by simp [pcZ0])
  have z2 : V30.cell? ⟨w.heap.size, 2, none⟩ = some (.int .i64 0) := P30.out.out.cell rfl
  have zf2 := P30.out.out.free (j := 2) (by simp [pcZ0])
  have z3 : V30.cell? ⟨w.heap.size, 3, none⟩ = some (.int .i64 0) := P30.out.out.cell rfl
  have zf3 := P30.out.out.free (j := 3) (by simp [pcZ0])
  have z4 : V30.cell? ⟨w.heap.size, 4, none⟩ = some (.int .i64 0) := P30.out.out.cell rfl
  have zf4 := P30.out.out.free (j := 4) (by simp [pcZ0])
  have z5 : V30.cell? ⟨w.heap.size, 5, none⟩ = some (.bool false) := P30.out.out.cell rfl
  have zf5 := P30.out.out.free (j := 5) (by simp [pcZ0])
  have z6 : V30.cell? ⟨w.heap.size, 6, none⟩ = some (.string ⟨#[]⟩) := P30.out.out.cell rfl
  have zf6 := P30.out.out.free (j := 6) (by simp [pcZ0])
  have z7 : V30.cell? ⟨w.heap.size, 7, none⟩ = some (.int .i64 0) := P30.out.out.cell rfl
  have zf7 := P30.out.out.free (j := 7) (by simp [pcZ0])
  have PF : Hid (∀ v0 v1 v2 v3 v4 v5 v6 v7, Dr w B a len cap size ((((((((V30.setCell ⟨w.heap.size, 0, none⟩ v0).setCell ⟨w.heap.size, 1, none⟩ v1).setCell ⟨w.heap.size, 2, none⟩ v2).setCell ⟨w.heap.size, 3, none⟩ v3).setCell ⟨w.heap.size, 4, none⟩ v4).setCell ⟨w.heap.size, 5, none⟩ v5).setCell ⟨w.heap.size, 6, none⟩ v6).setCell ⟨w.heap.size, 7, none⟩ v7)) := fun v0 v1 v2 v3 v4 v5 v6 v7 => (((((((P30.out.dr.set _ 0 v0 (Nat.le_refl _)).set _ 1 v1 (Nat.le_refl _)).set _ 2 v2 (Nat.le_refl _)).set _ 3 v3 (Nat.le_refl _)).set _ 4 v4 (Nat.le_refl _)).set _ 5 v5 (Nat.le_refl _)).set _ 6 v6 (Nat.le_refl _)).set _ 7 v7 (Nat.le_refl _)
  have HPO : Hid (PcDr p) := P30.out.ok
  clear P30
  go_wp2_with fail
  refine bodyPost_ret (v := .agg #[.string p.src, .string p.dst, .int .i64 p.proto, .int .i64 p.id, .int .i64 p.off, .bool p.more, .string p.data, .int .i64 p.since]) (by simp [results, Try.results45, go_sem, z0, z1, z2, z3, z4, z5, z6, z7]) rfl ⟨p, rfl, HPO.out, (PF.out _ _ _ _ _ _ _ _).src, (PF.out _ _ _ _ _ _ _ _).grown⟩
end Go.Proofs.Ytofhcplnnamcdab
