/- PcWalk: the law FnPieces, walked. -/
import Derived.Test.YtofhcplnnamcdabMgDp
import Derived.Test.YtofhcplnnamcdabMgPc
import Derived.Test.YtofhcplnnamcdabMgPa
import Derived.Deep.DeepCutAuto
namespace Go.Proofs.Ytofhcplnnamcdab
open Go.RowKit Go.PlainAid
set_option linter.unusedVariables false
set_option linter.unusedSimpArgs false

theorem filter_at {α : Type} (f : α → Bool) (xs : List α) (i : Nat) (h : i < xs.length) (hf : f xs[i] = true) : (xs.filter f)[((xs.take i).filter f).length]? = some xs[i] := by
  have e : xs.filter f = (xs.take i).filter f ++ xs[i] :: (xs.drop (i + 1)).filter f := by
    conv => lhs; rw [← List.take_append_drop i xs]
    rw [List.filter_append, List.drop_eq_getElem_cons h, List.filter_cons, if_pos hf]
  rw [e, List.getElem?_append_right (Nat.le_refl _)]
  simp
def cntF {α : Type} (f : α → Bool) (xs : List α) (i : Nat) : Nat := ((xs.take i).filter f).length
theorem cntF_step {α : Type} (f : α → Bool) (xs : List α) (i : Nat) (h : i < xs.length) : cntF f xs (i + 1) = if f xs[i] = true then cntF f xs i + 1 else cntF f xs i := by
  unfold cntF
  rw [filter_take f xs i h]
  split <;> simp
theorem cntF_le {α : Type} (f : α → Bool) (xs : List α) (i : Nat) : cntF f xs i ≤ i := Nat.le_trans (List.length_filter_le _ _) (by rw [List.length_take]; omega)
theorem addV_len (xs : List Pc) (q : Pc) : (addV xs q).pieces.length ≤ xs.length + 1 := by
  unfold addV
  split
  · exact Nat.le_succ_of_le (List.length_filter_le _ _)
  · split
    · exact Nat.le_succ _
    · split
      · exact Nat.le_trans (List.length_filter_le _ _) (by simp)
      · simp
theorem addPc_len (xs : List Pc) (p : Pc) (now : Int) : (addPc xs p now).pieces.length ≤ 401 := by
  unfold addPc
  split
  · simp
  · split
    · simp
    · have := addV_len xs (withS p (sincePc xs p now)); omega
def tickF (ok : Bool) (late : Int) (q : Pc) : Bool := ok && decide (late < q.since + 30)
theorem tick_filter {xs : List Pc} {late : Int} (h0 : 0 ≤ late) (h1 : late < 80) : tickPc xs late = xs.filter (tickF (piecesOk xs) late) := by
  rw [tick_400]
  have ht : isTime late = true := by unfold isTime isIn; simp; omega
  rw [ht, Bool.and_true]
  cases h : piecesOk xs with
  | false => simp [tickF]
  | true => rw [if_pos rfl]; congr 1
def xL (a : Option Addr) (cap : Nat) (o : PcOut) : List Value := [.slice a o.pieces.length cap, .string o.data, .bool o.done, .int .i64 o.code]
theorem cells4 {w : World} {B : Nat} {a : Option Addr} {cap : Nat} {o : PcOut} (h : HoldsL w B (xL a cap o)) : w.cell? ⟨B, 0, none⟩ = some (.slice a o.pieces.length cap) ∧ w.cell? ⟨B, 1, none⟩ = some (.string o.data) ∧ w.cell? ⟨B, 2, none⟩ = some (.bool o.done) ∧ w.cell? ⟨B, 3, none⟩ = some (.int .i64 o.code) := ⟨h.cell rfl, h.cell rfl, h.cell rfl, h.cell rfl⟩
/-- The piece's box, the answer's box, the answer's pieces. -/
structure PW (w1 W : World) (Pb : Nat) (p : Pc) (Xb : Nat) (a : Option Addr) (cap : Nat) (o : PcOut) : Prop where
  bel : Below w1.heap.size w1 W
  kp : HoldsL W Pb (pcL p)
  kx : HoldsL W Xb (xL a cap o)
  is : SlIs pcL 8 W a o.pieces
theorem PW.kept {w1 W W' : World} {Pb : Nat} {p : Pc} {Xb : Nat} {a : Option Addr} {cap : Nat} {o : PcOut} (h : PW w1 W Pb p Xb a cap o) (hb : Below W.heap.size W W') : PW w1 W' Pb p Xb a cap o := ⟨h.bel.trans (hb.mono h.bel.size), h.kp.kept (by simp [pcL]) hb, h.kx.kept (by simp [xL]) hb, h.is.below hb⟩
theorem PW.alloc {w1 W : World} {Pb : Nat} {p : Pc} {Xb : Nat} {a : Option Addr} {cap : Nat} {o : PcOut} (h : PW w1 W Pb p Xb a cap o) (ob : Obj) : PW w1 (W.alloc ob) Pb p Xb a cap o := h.kept ((Below.refl _ _).alloc (Nat.le_refl _) _)
theorem samePc_refl (q : Pc) : samePc q q = true := (samePc_iff q q).2 rfl

set_option maxRecDepth 100000 in
set_option maxHeartbeats 2000000 in
theorem pcWalk (a0 : Option Addr) (len0 cap0 : Nat) (a1 : Option Addr) (len1 cap1 : Nat) (w : World) (h0 : len0 ≤ 1048576) (h1 : len1 ≤ 1048576) (b0 : Bytes w a0 len0 w.heap.size) (b1 : Bytes w a1 len1 w.heap.size) :
    Calls Try.prog 4 #[.slice a0 len0 cap0, .slice a1 len1 cap1] w fun e w' => e = .returned (.bool true) ∧ Below w.heap.size w w' := by
  have hun : undef = Value.tuple #[] := rfl
  have HB1 : Hid (Bytes w a1 len1 w.heap.size) := b1
  have HDA : Hid _ := drawPA_any a0 len0 cap0 w h0 b0
  clear b0 b1
  have e0 : ¬ (1048576 : Int) < (len0 : Int) := by omega
  have e1 : ¬ (1048576 : Int) < (len1 : Int) := by omega
  go_enter Try.func4, Try.ntmps4
  go_wp2_with fail
  refine Calls.mono HDA.out ?_
  rintro e w1 ⟨xs, p, now, g, c, rfl, hx100, hall, hp, hnow, hg, hat, bl1⟩
  have HALL : Hid (∀ x ∈ xs, PcDr x) := hall
  have HP : Hid (PcDr p) := hp
  have HIN : Hid (PcsIn xs) := pcs_dr_in hall (by omega)
  have HSM : Hid (PcSm p) := pcDr_sm hp
  have BL1 : Hid (Below w.heap.size w w1) := bl1
  have HIS : Hid (∀ W, Below w1.heap.size w1 W → g < W.heap.size ∧ SlAt pcL 8 W g 0 xs) := fun W hW => ⟨Nat.lt_of_lt_of_le hg hW.size, hat.below hg hW⟩
  have HIA : Hid (∀ W, Below w1.heap.size w1 W → Calls Try.prog 11 #[.slice (some ⟨g, 0, none⟩) xs.length c, pcC p, .int .i64 now] W (AddRet W (addPc xs p now))) := fun W hW => implPieceAdd_any xs p now g 0 c W HIN.out HSM.out (HIS.out W hW).1 (HIS.out W hW).2
  have HSA : Hid (∀ W, Below w1.heap.size w1 W → Calls Try.prog 13 #[.slice (some ⟨g, 0, none⟩) xs.length c, pcC p, .int .i64 now] W (AddRet W (addPc xs p now))) := fun W hW => specPieceAdd_any xs p now g 0 c W HIN.out HSM.out (HIS.out W hW).1 (HIS.out W hW).2
  have HIR : Hid (∀ W, Below w1.heap.size w1 W → Calls Try.prog 14 #[.slice (some ⟨g, 0, none⟩) xs.length c] W fun e w' => e = .returned (.bool (piecesOk xs)) ∧ Below W.heap.size W w') := fun W hW => implPiecesRight_any xs _ c W HIN.out (.inr ⟨g, 0, rfl, (HIS.out W hW).1, (HIS.out W hW).2⟩)
  have HSR : Hid (∀ W, Below w1.heap.size w1 W → Calls Try.prog 15 #[.slice (some ⟨g, 0, none⟩) xs.length c] W fun e w' => e = .returned (.bool (piecesOk xs)) ∧ Below W.heap.size W w') := fun W hW => specPiecesRight_any xs _ c W HIN.out (.inr ⟨g, 0, rfl, (HIS.out W hW).1, (HIS.out W hW).2⟩)
  have HAR : Hid _ := addPc_right xs p now
  have HDR : Hid (∀ y ∈ (addPc xs p now).pieces, PcSm y) := by
    intro y hy
    have hq : ∀ s, PcSm (withS p s) := fun s => HSM.out
    have hxs : ∀ x ∈ xs, PcSm x := HIN.out.2
    revert hy
    unfold addPc
    split
    · intro hy; simp at hy
    · split
      · intro hy; simp at hy
      · have hq' := hq (sincePc xs p now)
        generalize withS p (sincePc xs p now) = q at *
        have hall2 : ∀ y ∈ xs ++ [q], PcSm y := fun y hy => by
          rcases List.mem_append.1 hy with h | h
          · exact hxs y h
          · rw [List.mem_singleton.1 h]; exact hq'
        unfold addV
        split
        · intro hy; exact hxs y (List.mem_filter.1 hy).1
        · split
          · exact hxs y
          · cases wholePc (xs ++ [q]) q with
            | none => exact hall2 y
            | some t => intro hy; exact hall2 y (List.mem_filter.1 hy).1
  have hol := addPc_len xs p now
  clear hall hp hat bl1 HDA
  generalize addPc xs p now = o at *
  have HPN : Hid (HoldsL (w1.alloc (.cells (pcL p).toArray 37)) w1.heap.size (pcL p)) := HoldsL.new w1 (pcL p) _
  have BA : Hid (Below w1.heap.size w1 (w1.alloc (.cells (pcL p).toArray 37))) := (Below.refl _ _).alloc (Nat.le_refl _) _
  rw [show (pcL p).toArray = #[.string p.src, .string p.dst, .int .i64 p.proto, .int .i64 p.id, .int .i64 p.off, .bool p.more, .string p.data, .int .i64 p.since] from rfl] at HPN BA
  unfold pcC at HIA HSA ⊢
  go_wp2_with fail
  refine (HIA.out _ BA.out).mono ?_
  rintro e w2 ⟨a2, cap2, rfl, hc2, ho2, bl2⟩
  have S2 : Hid (PW w1 (w2.alloc (.cells (xL a2 cap2 o).toArray 34)) w1.heap.size p w2.heap.size a2 cap2 o) :=
    ⟨(BA.out.trans (bl2.mono BA.out.size)).alloc (Nat.le_trans BA.out.size bl2.size) _, (HPN.out.kept (by simp [pcL]) bl2).alloc _, HoldsL.new w2 (xL a2 cap2 o) _, ho2.is.below ((Below.refl _ _).alloc (Nat.le_refl _) _)⟩
  rw [show (xL a2 cap2 o).toArray = #[.slice a2 o.pieces.length cap2, .string o.data, .bool o.done, .int .i64 o.code] from rfl] at S2
  clear bl2 ho2 HPN BA hc2 HIA
  obtain ⟨k0, k1, k2, k3, k4, k5, k6, k7⟩ := cells8 S2.out.kp
  go_wp2_with fail
  refine (HSA.out _ S2.out.bel).mono ?_
  rintro e w3 ⟨a3, cap3, rfl, hc3, ho3, bl3⟩
  have S3 : Hid (PW w1 (w3.alloc (.cells (xL a3 cap3 o).toArray 34)) w1.heap.size p w2.heap.size a2 cap2 o) := (S2.out.kept bl3).alloc _
  have Y3 : Hid (HoldsL (w3.alloc (.cells (xL a3 cap3 o).toArray 34)) w3.heap.size (xL a3 cap3 o)) := HoldsL.new w3 (xL a3 cap3 o) _
  rw [show (xL a3 cap3 o).toArray = #[.slice a3 o.pieces.length cap3, .string o.data, .bool o.done, .int .i64 o.code] from rfl] at S3 Y3
  clear k0 k1 k2 k3 k4 k5 k6 k7 S2 ho3 hc3 HSA
  have hw3 : w2.heap.size < w3.heap.size := by have := bl3.size; simp at this; omega
  clear bl3
  obtain ⟨x0, x1, x2, x3⟩ := cells4 S3.out.kx
  obtain ⟨y0, y1, y2, y3⟩ := cells4 Y3.out
  go_wp2_with fail
  refine (HIR.out _ S3.out.bel).mono ?_
  rintro e w4 ⟨rfl, bl4⟩
  have S4 : Hid (PW w1 w4 w1.heap.size p w2.heap.size a2 cap2 o) := S3.out.kept bl4
  clear bl4 S3 Y3 x0 x1 x2 x3 y0 y1 y2 y3 HIR
  go_wp2_with fail
  refine (HSR.out _ S4.out.bel).mono ?_
  rintro e w5 ⟨rfl, bl5⟩
  have S5 : Hid (PW w1 w5 w1.heap.size p w2.heap.size a2 cap2 o) := S4.out.kept bl5
  clear bl5 S4 HSR
  obtain ⟨x0, x1, x2, x3⟩ := cells4 S5.out.kx
  clear HIS HIN HALL hw3
  have HPR : Hid (o.code ≠ 1 → ∀ W, PW w1 W w1.heap.size p w2.heap.size a2 cap2 o → Calls Try.prog 14 #[.slice a2 o.pieces.length cap2] W fun e w' => e = .returned (.bool true) ∧ Below W.heap.size W w') := fun h W hW => by
    have := implPiecesRight_any o.pieces a2 cap2 W ⟨by omega, HDR.out⟩ hW.is
    rwa [HAR.out.1 h] at this
  go_upto_region 8 with fail
  go_cut [82] (fun v wx => v = .bool false ∧ PW w1 wx w1.heap.size p w2.heap.size a2 cap2 o)
  case first =>
    by_cases hc1 : o.code = 1
    · have HC1 : Hid (o.code = 1) := hc1
      have hd : (decide (o.code = 1)) = true := decide_eq_true hc1
      rw [hc1] at x3
      go_wp2_with fail
      go_meet
      exact ⟨rfl, S5.out⟩
    · have HP1 : Hid _ := HPR.out hc1
      go_wp2_with fail
      refine Calls.mono (HP1.out _ S5.out) ?_
      rintro e w6 ⟨rfl, bl6⟩
      have S6 : Hid (PW w1 w6 w1.heap.size p w2.heap.size a2 cap2 o) := S5.out.kept bl6
      clear bl6 S5
      go_wp2_with fail
      go_meet
      exact ⟨rfl, S6.out⟩
  case rest =>
  obtain ⟨rfl, hS⟩ := hcut
  have S6 : Hid _ := hS
  clear hS S5 x0 x1 x2 x3 HPR
  generalize wc = W6 at *
  obtain ⟨x0, x1, x2, x3⟩ := cells4 S6.out.kx
  go_upto_region 10 with fail
  go_cut [89] (fun v wx => v = .bool (decide (o.code = 10) || o.done) ∧ wx = W6)
  case first =>
    cases hd : o.done <;> rw [hd] at x2 <;> by_cases hc : o.code = 10
    all_goals
      go_wp2_with fail
      go_meet
      simp [hc, hd]
  case rest =>
  obtain ⟨rfl, rfl⟩ := hcut
  go_upto_if 89 with fail
  go_cut [] (fun wx => PW w1 wx w1.heap.size p w2.heap.size a2 cap2 o)
  case first =>
    clear x0 x1 x2 x3
    cases hb : (decide (o.code = 10) || o.done) with
    | false =>
      go_wp2_with fail
      go_meet
      exact S6.out
    | true =>
      have HNO : Hid (∀ y ∈ o.pieces, onePk y p = false) := HAR.out.2 (by simpa using hb)
      clear hb
      go_wp2_with fail
      go_loopw [10] (fun iv wr => ∃ i : Nat, i ≤ o.pieces.length ∧ iv = .int .i64 i ∧ PW w1 wr w1.heap.size p w2.heap.size a2 cap2 o) (fun iv _ => o.pieces.length - (intOf iv).toNat)
      case atStart => exact ⟨0, Nat.zero_le _, rfl, S6.out⟩
      case round =>
        obtain ⟨i, hi, rfl, hS⟩ := hrel
        have S7 : Hid _ := hS
        clear hS
        obtain ⟨x0, x1, x2, x3⟩ := cells4 S7.out.kx
        by_cases hlt : i < o.pieces.length
        · obtain ⟨b, off, rfl, hb, hat⟩ := S7.out.is.at hlt
          have hA := hat i hlt
          have hno := HNO.out _ (List.getElem_mem hlt)
          generalize o.pieces[i] = y at *
          have c0 : wr.cell? ⟨b, off + i * 8, none⟩ = some (.string y.src) := hA 0 _ rfl
          have c1 : wr.cell? ⟨b, off + i * 8 + 1, none⟩ = some (.string y.dst) := hA 1 _ rfl
          have c2 : wr.cell? ⟨b, off + i * 8 + 2, none⟩ = some (.int .i64 y.proto) := hA 2 _ rfl
          have c3 : wr.cell? ⟨b, off + i * 8 + 3, none⟩ = some (.int .i64 y.id) := hA 3 _ rfl
          have c4 : wr.cell? ⟨b, off + i * 8 + 4, none⟩ = some (.int .i64 y.off) := hA 4 _ rfl
          have c5 : wr.cell? ⟨b, off + i * 8 + 5, none⟩ = some (.bool y.more) := hA 5 _ rfl
          have c6 : wr.cell? ⟨b, off + i * 8 + 6, none⟩ = some (.string y.data) := hA 6 _ rfl
          have c7 : wr.cell? ⟨b, off + i * 8 + 7, none⟩ = some (.int .i64 y.since) := hA 7 _ rfl
          have HNF : Hid (onePk y p = false) := hno
          clear hA hat hno
          have S8 : Hid (PW w1 (wr.alloc (.cells (pcL y).toArray 37)) w1.heap.size p w2.heap.size (some ⟨b, off, none⟩) cap2 o) := S7.out.alloc _
          have Y8 : Hid (HoldsL (wr.alloc (.cells (pcL y).toArray 37)) wr.heap.size (pcL y)) := HoldsL.new wr (pcL y) _
          rw [show (pcL y).toArray = #[.string y.src, .string y.dst, .int .i64 y.proto, .int .i64 y.id, .int .i64 y.off, .bool y.more, .string y.data, .int .i64 y.since] from rfl] at S8 Y8
          go_upto_region 15 with fail
          clear c0 c1 c2 c3 c4 c5 c6 c7 x0 x1 x2 x3 S7
          generalize wr.alloc (.cells #[.string y.src, .string y.dst, .int .i64 y.proto, .int .i64 y.id, .int .i64 y.off, .bool y.more, .string y.data, .int .i64 y.since] 37) = W8 at *
          generalize wr.heap.size = Yb at *
          obtain ⟨k0, k1, k2, k3, k4, k5, k6, k7⟩ := cells8 S8.out.kp
          obtain ⟨y0, y1, y2, y3, y4, y5, y6, y7⟩ := cells8 Y8.out
          clear k4 k5 k6 k7 y4 y5 y6 y7
          go_cut [127] (fun v wx => v = .bool false ∧ wx = W8)
          case first =>
            by_cases d0 : y.src.toList = p.src.toList
            · by_cases d1 : y.dst.toList = p.dst.toList
              · by_cases d2 : y.proto = p.proto
                · have d3 : ¬ y.id = p.id := fun d3 => by
                    have h := HNF.out
                    unfold onePk at h
                    rw [← ba_dec, ← ba_dec, decide_eq_true d0, decide_eq_true d1, decide_eq_true d2, decide_eq_true d3] at h
                    cases h
                  go_wp2_with fail
                  go_meet
                  first | exact ⟨rfl, rfl⟩ | simp [d3]
                · go_wp2_with fail
                  go_meet
                  first | exact ⟨rfl, rfl⟩ | simp [d2]
              · go_wp2_with fail
                go_meet
                first | exact ⟨rfl, rfl⟩ | simp [d1]
            · go_wp2_with fail
              go_meet
              first | exact ⟨rfl, rfl⟩ | simp [d0]
          case rest =>
          obtain ⟨rfl, rfl⟩ := hcut
          clear k0 k1 k2 k3 y0 y1 y2 y3
          go_wp2_with fail
          go_roundw
          case rel => exact ⟨i + 1, by omega, by go_num, S8.out⟩
          case measure => simp [intOf]; omega
        · have hie : i = o.pieces.length := by omega
          go_wp2_with fail
          go_meet
          exact S7.out
  case rest =>
  have S9 : Hid (PW w1 wc w1.heap.size p w2.heap.size a2 cap2 o) := hcut
  clear hcut S6 x0 x1 x2 x3
  generalize wc = W9 at *
  have B9 : Hid (Below w.heap.size w W9) := BL1.out.trans (S9.out.bel.mono BL1.out.size)
  have HT : Hid _ := drawTick_any a1 len1 cap1 W9 h1 ((HB1.out.kept (grown_of_below (r := none) B9.out) (by simp)).mono B9.out.size)
  clear S9 HB1 HAR HDR hol BL1
  go_wp2_with fail
  refine Calls.mono HT.out ?_
  rintro e w10 ⟨ms, late, g2, c2, rfl, hm100, hmall, hl0, hl1, hg2, hat2, bl10⟩
  have HT2 : Hid (Calls Try.prog 17 #[.slice (some ⟨g2, 0, none⟩) ms.length c2, .int .i64 late] w10 (SlRet pcL 8 w10 (ms.filter (tickF (piecesOk ms) late)))) := by
    have h := implPieceTick_any ms (some ⟨g2, 0, none⟩) c2 late w10 (pcs_dr_in hmall (by omega)) (.inr ⟨g2, 0, rfl, hg2, hat2⟩)
    rwa [tick_filter hl0 hl1] at h
  have HSR : Hid (∀ W, Below w10.heap.size w10 W → Calls Try.prog 15 #[.slice (some ⟨g2, 0, none⟩) ms.length c2] W fun e w' => e = .returned (.bool (piecesOk ms)) ∧ Below W.heap.size W w') := fun W hW => specPiecesRight_any ms _ c2 W (pcs_dr_in hmall (by omega)) (.inr ⟨g2, 0, rfl, Nat.lt_of_lt_of_le hg2 hW.size, hat2.below hg2 hW⟩)
  have HMS : Hid (∀ x ∈ ms, PcDr x) := hmall
  have HMI : Hid (SlIs pcL 8 w10 (some ⟨g2, 0, none⟩) ms) := .inr ⟨g2, 0, rfl, hg2, hat2⟩
  have B10 : Hid (Below w.heap.size w w10) := B9.out.trans (bl10.mono B9.out.size)
  have HF : Hid (∀ q, tickF (piecesOk ms) late q = (piecesOk ms && decide (late < q.since + 30))) := fun q => rfl
  generalize tickF (piecesOk ms) late = F at *
  generalize piecesOk ms = ok at *
  generalize (some ⟨g2, 0, none⟩ : Option Addr) = am at *
  clear bl10 B9 HT hmall hat2 hg2
  go_wp2_with fail
  refine Calls.mono HT2.out ?_
  rintro e w11 ⟨a4, cap4, rfl, hc4, ho4, bl11⟩
  have HKI : Hid (SlIs pcL 8 w11 a4 (ms.filter F)) := ho4.is
  have HMI2 : Hid (SlIs pcL 8 w11 am ms) := HMI.out.below bl11
  have B11 : Hid (Below w.heap.size w w11) := B10.out.trans (bl11.mono B10.out.size)
  have B12 : Hid (Below w10.heap.size w10 w11) := bl11
  have hkl : (ms.filter F).length ≤ ms.length := List.length_filter_le _ _
  have HKS : Hid (∀ i, i < ms.length → (h : i < ms.length) → F ms[i] = true → (ms.filter F)[cntF F ms i]? = some ms[i]) := fun i _ h hf => filter_at F ms i h hf
  have HCE : Hid (cntF F ms ms.length = (ms.filter F).length) := by unfold Hid cntF; rw [List.take_length]
  generalize ms.filter F = ks at *
  clear bl11 HMI ho4 B10 HT2 hc4
  go_wp2_with fail
  go_loopw [15, 16] (fun nv iv wr => ∃ i : Nat, i ≤ ms.length ∧ nv = .int .i64 (cntF F ms i) ∧ iv = .int .i64 i ∧ Below w11.heap.size w11 wr) (fun _ iv _ => ms.length - (intOf iv).toNat)
  case atStart => exact ⟨0, Nat.zero_le _, rfl, rfl, Below.refl _ _⟩
  case round =>
    obtain ⟨i, hi, rfl, rfl, hbel⟩ := hrel
    have HB : Hid (Below w11.heap.size w11 wr) := hbel
    clear hbel
    by_cases hlt : i < ms.length
    · obtain ⟨b, off, rfl, hb, hat⟩ := HMI2.out.at hlt
      have hA := (hat.below hb HB.out) i hlt
      have hst := cntF_step F ms i hlt
      have hdr := HMS.out _ (List.getElem_mem hlt)
      have HKA := HKS.out i hlt hlt
      have hFq := HF.out ms[i]
      obtain ⟨q, hq⟩ : ∃ q, ms[i] = q := ⟨_, rfl⟩
      rw [hq] at hA hst hdr HKA hFq
      have hcl : cntF F ms i ≤ i := cntF_le F ms i
      have hs0 := hdr.2.2.2.1
      have hs1 := hdr.2.2.2.2
      have c7 : wr.cell? ⟨b, off + i * 8 + 7, none⟩ = some (.int .i64 q.since) := hA 7 _ rfl
      have HCI : Hid (∀ wy, Below w11.heap.size w11 wy → wy.cell? ⟨b, off + i * 8, none⟩ = some (.string q.src) ∧ wy.cell? ⟨b, off + i * 8 + 1, none⟩ = some (.string q.dst) ∧ wy.cell? ⟨b, off + i * 8 + 2, none⟩ = some (.int .i64 q.proto) ∧ wy.cell? ⟨b, off + i * 8 + 3, none⟩ = some (.int .i64 q.id) ∧ wy.cell? ⟨b, off + i * 8 + 4, none⟩ = some (.int .i64 q.off) ∧ wy.cell? ⟨b, off + i * 8 + 5, none⟩ = some (.bool q.more) ∧ wy.cell? ⟨b, off + i * 8 + 6, none⟩ = some (.string q.data) ∧ wy.cell? ⟨b, off + i * 8 + 7, none⟩ = some (.int .i64 q.since)) := fun wy hy => by
        have h2 : wy.rangeAt b (off + i * 8) (pcL q) := by have h3 := (hat.below hb hy) i hlt; rwa [hq] at h3
        exact ⟨h2 0 _ rfl, h2 1 _ rfl, h2 2 _ rfl, h2 3 _ rfl, h2 4 _ rfl, h2 5 _ rfl, h2 6 _ rfl, h2 7 _ rfl⟩
      have HST : Hid _ := hst
      have HFQ : Hid _ := hFq
      have HKAH : Hid (F q = true → ks[cntF F ms i]? = some q) := HKA
      have HSRW : Hid (∀ W, Below w11.heap.size w11 W → Calls Try.prog 15 #[.slice (some ⟨b, off, none⟩) ms.length c2] W fun e w' => e = .returned (.bool ok) ∧ Below W.heap.size W w') := fun W hW => HSR.out W (B12.out.trans (hW.mono B12.out.size))
      clear hA hat hst hdr HKA hFq hq
      go_upto_region 23 with fail
      go_cut [157] (fun v wx => v = .bool (F q) ∧ Below w11.heap.size w11 wx)
      case first =>
        by_cases hs : late < q.since + 30
        · go_wp2_with fail
          refine (HSRW.out _ HB.out).mono ?_
          rintro e w12 ⟨rfl, bl12⟩
          have HB2 : Hid (Below w11.heap.size w11 w12) := HB.out.trans (bl12.mono HB.out.size)
          have HG : Hid (F q = ok) := by unfold Hid; rw [HFQ.out, decide_eq_true hs, Bool.and_true]
          clear bl12 HB
          cases ok with
          | false =>
            go_wp2_with fail
            go_meet
            exact ⟨by rw [HG.out], HB2.out⟩
          | true =>
            go_wp2_with fail
            go_meet
            exact ⟨by rw [HG.out], HB2.out⟩
        · have HG : Hid (F q = false) := by unfold Hid; rw [HFQ.out, decide_eq_false hs, Bool.and_false]
          go_wp2_with fail
          go_meet
          exact ⟨by rw [HG.out], HB.out⟩
      case rest =>
      obtain ⟨rfl, hbc⟩ := hcut
      have HB2 : Hid (Below w11.heap.size w11 wc) := hbc
      clear hbc HB c7
      generalize wc = W12 at *
      cases hf : F q with
      | false =>
        have HS2 : Hid (cntF F ms (i + 1) = cntF F ms i) := by unfold Hid; rw [HST.out, hf]; rfl
        go_wp2_with fail
        go_roundw
        case rel => exact ⟨i + 1, by omega, by rw [HS2.out], by go_num, HB2.out⟩
        case measure => simp [intOf]; omega
      | true =>
        have HS2 : Hid (cntF F ms (i + 1) = cntF F ms i + 1) := by unfold Hid; rw [HST.out, hf]; rfl
        have hka := HKAH.out hf
        clear HST HFQ HKAH HSRW HSR
        generalize cntF F ms i = n at *
        obtain ⟨hnk, hkq⟩ := List.getElem?_eq_some_iff.1 hka
        obtain ⟨b2, off2, rfl, hb2, hat2⟩ := HKI.out.at hnk
        have HCK : Hid (∀ wy, Below w11.heap.size w11 wy → wy.cell? ⟨b2, off2 + n * 8, none⟩ = some (.string q.src) ∧ wy.cell? ⟨b2, off2 + n * 8 + 1, none⟩ = some (.string q.dst) ∧ wy.cell? ⟨b2, off2 + n * 8 + 2, none⟩ = some (.int .i64 q.proto) ∧ wy.cell? ⟨b2, off2 + n * 8 + 3, none⟩ = some (.int .i64 q.id) ∧ wy.cell? ⟨b2, off2 + n * 8 + 4, none⟩ = some (.int .i64 q.off) ∧ wy.cell? ⟨b2, off2 + n * 8 + 5, none⟩ = some (.bool q.more) ∧ wy.cell? ⟨b2, off2 + n * 8 + 6, none⟩ = some (.string q.data) ∧ wy.cell? ⟨b2, off2 + n * 8 + 7, none⟩ = some (.int .i64 q.since)) := fun wy hy => by
          have h2 : wy.rangeAt b2 (off2 + n * 8) (pcL q) := by have h3 := (hat2.below hb2 hy) n hnk; rwa [hkq] at h3
          exact ⟨h2 0 _ rfl, h2 1 _ rfl, h2 2 _ rfl, h2 3 _ rfl, h2 4 _ rfl, h2 5 _ rfl, h2 6 _ rfl, h2 7 _ rfl⟩
        have HNE : Hid (∀ W, (binOp .neq 37 (.agg #[.string q.src, .string q.dst, .int .i64 q.proto, .int .i64 q.id, .int .i64 q.off, .bool q.more, .string q.data, .int .i64 q.since]) (.agg #[.string q.src, .string q.dst, .int .i64 q.proto, .int .i64 q.id, .int .i64 q.off, .bool q.more, .string q.data, .int .i64 q.since])).run Try.prog W = .ok (.bool false) W) := fun W => by rw [nePc_bin q q W, samePc_refl]; rfl
        have hng : ¬ (ks.length : Int) ≤ (n : Int) := by omega
        have hnd : decide ((ks.length : Int) ≤ (n : Int)) = false := decide_eq_false hng
        clear hka hkq hat2 hf
        go_upto_region 24 with fail
        go_cut [172] (fun v wx => v = .bool false ∧ Below w11.heap.size w11 wx)
        case first =>
          rename_i J K2 hJ hK2
          clear hun
          refine wp_region_growH [158, 159, 160, 161, 162, 163, 164, 165, 166, 167, 168, 169, 170, 171, 172] (by kernel_rfl) (by kernel_rfl) ?_
          refine GCh.val (n := 0) (fun v => [IsV v]) (fun _ => rfl) rfl ?_
          apply Exists.intro
          refine And.intro ?_ ?_
          · intro K' a wy ho hd hb hK
            rw [if_pos (wanted_none rfl)]
            have o15 := ho 15 (by decide)
            simp [slot] at o15
            clear hd ho
            go_simp
            try go_bits
            exact hK _ _ rfl (Below.refl _ _)
          refine GCh.val (n := 1) (fun v => [_, IsV v]) (fun _ => rfl) rfl ?_
          apply Exists.intro
          refine And.intro ?_ ?_
          · intro K' a wy ho hd hb hK
            rw [if_pos (wanted_none rfl)]
            have o14 := ho 14 (by decide)
            simp [slot] at o14
            clear hd ho
            go_simp
            try go_bits
            exact hK _ _ rfl (Below.refl _ _)
          refine GCh.val (n := 2) (fun v => [_, _, IsV v]) (fun _ => rfl) rfl ?_
          apply Exists.intro
          refine And.intro ?_ ?_
          · intro K' a wy ho hd hb hK
            rw [if_pos (wanted_none rfl)]
            have q1 := hd ⟨1, .data⟩ (by simp) rfl
            simp [rAt, IsV, slot] at q1
            clear hd ho
            go_simp
            try go_bits
            exact hK _ _ rfl (Below.refl _ _)
          refine GCh.val (n := 3) (fun v => [_, _, _, IsV v]) (fun _ => rfl) rfl ?_
          apply Exists.intro
          refine And.intro ?_ ?_
          · intro K' a wy ho hd hb hK
            rw [if_pos (wanted_none rfl)]
            have q0 := hd ⟨0, .data⟩ (by simp) rfl
            simp [rAt, IsV, slot] at q0
            have q2 := hd ⟨2, .data⟩ (by simp) rfl
            simp [rAt, IsV, slot] at q2
            clear hd ho
            go_simp
            try go_bits
            exact hK _ _ rfl (Below.refl _ _)
          refine GCh.val (n := 4) (fun v => [_, _, _, _, IsV v]) (fun _ => rfl) rfl ?_
          apply Exists.intro
          refine And.intro ?_ ?_
          · intro K' a wy ho hd hb hK
            rw [if_pos (wanted_none rfl)]
            have q3 := hd ⟨3, .data⟩ (by simp) rfl
            simp [rAt, IsV, slot] at q3
            clear hd ho
            go_simp
            try go_bits
            exact hK _ _ rfl (Below.refl _ _)
          refine GCh.val (n := 5) (fun v => [_, _, _, _, _, IsV v]) (fun _ => rfl) rfl ?_
          apply Exists.intro
          refine And.intro ?_ ?_
          · intro K' a wy ho hd hb hK
            have hgs : IsV (.bool false) (slot a 162) wy := hd ⟨4, .guard⟩ (by simp) rfl
            rw [wanted_of (j := 4) (d := 162) (b := false) (want := false) (hg := rfl) (ho := rfl) (hd := rfl) (hs := hgs)]
            rw [if_pos (by decide)]
            clear hgs
            have o14 := ho 14 (by decide)
            simp [slot] at o14
            clear hd ho
            go_simp
            try go_bits
            exact hK _ _ rfl (Below.refl _ _)
          refine GCh.val (n := 6) (fun v => [_, _, _, _, _, _, IsV v]) (fun _ => rfl) rfl ?_
          apply Exists.intro
          refine And.intro ?_ ?_
          · intro K' a wy ho hd hb hK
            have hgs : IsV (.bool false) (slot a 162) wy := hd ⟨4, .guard⟩ (by simp) rfl
            rw [wanted_of (j := 4) (d := 162) (b := false) (want := false) (hg := rfl) (ho := rfl) (hd := rfl) (hs := hgs)]
            rw [if_pos (by decide)]
            clear hgs
            have o15 := ho 15 (by decide)
            simp [slot] at o15
            clear hd ho
            go_simp
            try go_bits
            exact hK _ _ rfl (Below.refl _ _)
          refine GCh.val (n := 7) (fun v => [_, _, _, _, _, _, _, IsV v]) (fun _ => rfl) rfl ?_
          apply Exists.intro
          refine And.intro ?_ ?_
          · intro K' a wy ho hd hb hK
            have hgs : IsV (.bool false) (slot a 162) wy := hd ⟨4, .guard⟩ (by simp) rfl
            rw [wanted_of (j := 4) (d := 162) (b := false) (want := false) (hg := rfl) (ho := rfl) (hd := rfl) (hs := hgs)]
            rw [if_pos (by decide)]
            clear hgs
            have q5 := hd ⟨5, .data⟩ (by simp) rfl
            simp [rAt, IsV, slot] at q5
            have q6 := hd ⟨6, .data⟩ (by simp) rfl
            simp [rAt, IsV, slot] at q6
            clear hd ho
            go_simp
            try go_bits
            exact hK _ _ rfl (Below.refl _ _)
          refine GCh.val (n := 8) (fun v => [_, _, _, _, _, _, _, _, IsV v]) (fun _ => rfl) rfl ?_
          apply Exists.intro
          refine And.intro ?_ ?_
          · intro K' a wy ho hd hb hK
            have hgs : IsV (.bool false) (slot a 162) wy := hd ⟨4, .guard⟩ (by simp) rfl
            rw [wanted_of (j := 4) (d := 162) (b := false) (want := false) (hg := rfl) (ho := rfl) (hd := rfl) (hs := hgs)]
            rw [if_pos (by decide)]
            clear hgs
            have q7 := hd ⟨7, .data⟩ (by simp) rfl
            simp [rAt, IsV, slot] at q7
            clear hd ho
            obtain ⟨c0, c1, c2, c3, c4, c5, c6, c7⟩ := HCI.out wy (HB2.out.trans (((Below.refl _ _).drew.trans hb).mono HB2.out.size)); obtain ⟨d0, d1, d2, d3, d4, d5, d6, d7⟩ := HCK.out wy (HB2.out.trans (((Below.refl _ _).drew.trans hb).mono HB2.out.size))
            go_simp
            try go_bits
            exact hK _ _ rfl (Below.refl _ _)
          refine GCh.val (n := 9) (fun v => [_, _, _, _, _, _, _, _, _, IsV v]) (fun _ => rfl) rfl ?_
          apply Exists.intro
          refine And.intro ?_ ?_
          · intro K' a wy ho hd hb hK
            have hgs : IsV (.bool false) (slot a 162) wy := hd ⟨4, .guard⟩ (by simp) rfl
            rw [wanted_of (j := 4) (d := 162) (b := false) (want := false) (hg := rfl) (ho := rfl) (hd := rfl) (hs := hgs)]
            rw [if_pos (by decide)]
            clear hgs
            have o12 := ho 12 (by decide)
            simp [slot] at o12
            clear hd ho
            go_simp
            try go_bits
            exact hK _ _ rfl (Below.refl _ _)
          refine GCh.val (n := 10) (fun v => [_, _, _, _, _, _, _, _, _, _, IsV v]) (fun _ => rfl) rfl ?_
          apply Exists.intro
          refine And.intro ?_ ?_
          · intro K' a wy ho hd hb hK
            have hgs : IsV (.bool false) (slot a 162) wy := hd ⟨4, .guard⟩ (by simp) rfl
            rw [wanted_of (j := 4) (d := 162) (b := false) (want := false) (hg := rfl) (ho := rfl) (hd := rfl) (hs := hgs)]
            rw [if_pos (by decide)]
            clear hgs
            have o16 := ho 16 (by decide)
            simp [slot] at o16
            clear hd ho
            go_simp
            try go_bits
            exact hK _ _ rfl (Below.refl _ _)
          refine GCh.val (n := 11) (fun v => [_, _, _, _, _, _, _, _, _, _, _, IsV v]) (fun _ => rfl) rfl ?_
          apply Exists.intro
          refine And.intro ?_ ?_
          · intro K' a wy ho hd hb hK
            have hgs : IsV (.bool false) (slot a 162) wy := hd ⟨4, .guard⟩ (by simp) rfl
            rw [wanted_of (j := 4) (d := 162) (b := false) (want := false) (hg := rfl) (ho := rfl) (hd := rfl) (hs := hgs)]
            rw [if_pos (by decide)]
            clear hgs
            have q9 := hd ⟨9, .data⟩ (by simp) rfl
            simp [rAt, IsV, slot] at q9
            have q10 := hd ⟨10, .data⟩ (by simp) rfl
            simp [rAt, IsV, slot] at q10
            clear hd ho
            go_simp
            try go_bits
            exact hK _ _ rfl (Below.refl _ _)
          refine GCh.val (n := 12) (fun v => [_, _, _, _, _, _, _, _, _, _, _, _, IsV v]) (fun _ => rfl) rfl ?_
          apply Exists.intro
          refine And.intro ?_ ?_
          · intro K' a wy ho hd hb hK
            have hgs : IsV (.bool false) (slot a 162) wy := hd ⟨4, .guard⟩ (by simp) rfl
            rw [wanted_of (j := 4) (d := 162) (b := false) (want := false) (hg := rfl) (ho := rfl) (hd := rfl) (hs := hgs)]
            rw [if_pos (by decide)]
            clear hgs
            have q11 := hd ⟨11, .data⟩ (by simp) rfl
            simp [rAt, IsV, slot] at q11
            clear hd ho
            obtain ⟨c0, c1, c2, c3, c4, c5, c6, c7⟩ := HCI.out wy (HB2.out.trans (((Below.refl _ _).drew.trans hb).mono HB2.out.size)); obtain ⟨d0, d1, d2, d3, d4, d5, d6, d7⟩ := HCK.out wy (HB2.out.trans (((Below.refl _ _).drew.trans hb).mono HB2.out.size))
            go_simp
            try go_bits
            exact hK _ _ rfl (Below.refl _ _)
          refine GCh.val (n := 13) (fun v => [_, _, _, _, _, _, _, _, _, _, _, _, _, IsV v]) (fun _ => rfl) rfl ?_
          apply Exists.intro
          refine And.intro ?_ ?_
          · intro K' a wy ho hd hb hK
            have hgs : IsV (.bool false) (slot a 162) wy := hd ⟨4, .guard⟩ (by simp) rfl
            rw [wanted_of (j := 4) (d := 162) (b := false) (want := false) (hg := rfl) (ho := rfl) (hd := rfl) (hs := hgs)]
            rw [if_pos (by decide)]
            clear hgs
            have q8 := hd ⟨8, .data⟩ (by simp) rfl
            simp [rAt, IsV, slot] at q8
            have q12 := hd ⟨12, .data⟩ (by simp) rfl
            simp [rAt, IsV, slot] at q12
            clear hd ho
            have hne := HNE.out wy
            go_simp
            try go_bits
            exact hK _ _ rfl (Below.refl _ _)
          refine GCh.val (n := 14) (fun v => [_, _, _, _, _, _, _, _, _, _, _, _, _, _, IsV v]) (fun _ => rfl) rfl ?_
          apply Exists.intro
          refine And.intro ?_ ?_
          · intro K' a wy ho hd hb hK
            rw [if_pos (wanted_none rfl)]
            have q4 := hd ⟨4, .data⟩ (by simp) rfl
            simp [rAt, IsV, slot] at q4
            have q13 := hd ⟨13, .data⟩ (by simp) rfl
            simp [rAt, IsV, slot] at q13
            clear hd ho
            go_simp
            try go_bits
            exact hK _ _ rfl (Below.refl _ _)
          intro X wz hR hz
          obtain ⟨x0, x1, x2, x3, x4, x5, x6, x7, x8, x9, x10, x11, x12, x13, x14, -⟩ := hR
          simp only [IsV] at x0 x1 x2 x3 x4 x5 x6 x7 x8 x9 x10 x11 x12 x13 x14
          simp only [putsFrom, x0, x1, x2, x3, x4, x5, x6, x7, x8, x9, x10, x11, x12, x13, x14]
          clear x0 x1 x2 x3 x4 x5 x6 x7 x8 x9 x10 x11 x12 x13 x14
          go_simp
          refine hK2 _ _ (hJ _ _ ?_)
          (repeat apply Exists.intro)
          refine ⟨⟨rfl, HB2.out.trans (((Below.refl _ _).drew.trans hz).mono HB2.out.size)⟩, rfl⟩
        case rest =>
        obtain ⟨rfl, hbd⟩ := hcut
        have HB3 : Hid (Below w11.heap.size w11 wc) := hbd
        clear hbd
        go_wp2_with fail
        go_roundw
        case rel => exact ⟨i + 1, by omega, by rw [HS2.out]; go_num, by go_num, HB3.out⟩
        case measure => simp [intOf]; omega
    · have hie : i = ms.length := by omega
      rw [hie, HCE.out]
      have HB2 : Hid (Below w.heap.size w wr) := B11.out.trans (HB.out.mono B11.out.size)
      go_wp2_with fail
      go_ret
      exact ⟨rfl, HB2.out⟩
end Go.Proofs.Ytofhcplnnamcdab
