/- DrawPcs: what the draw of pieces (l06Pieces) answers. -/
import Derived.Test.YtofhcplnnamcdabDrawPc
import Derived.Test.YtofhcplnnamcdabMgRw
import Derived.Deep.DeepCutAuto
namespace Go.Proofs.Ytofhcplnnamcdab
open Go.RowKit Go.PlainAid
set_option linter.unusedVariables false
set_option linter.unusedSimpArgs false

theorem pcDr_sm {p : Pc} (h : PcDr p) : PcSm p := ⟨by have := h.1; omega, by have := h.2.1; omega, by have := h.2.2.1; omega⟩
theorem pcs_dr_in {xs : List Pc} (h : ∀ x ∈ xs, PcDr x) (hl : xs.length ≤ 1000) : PcsIn xs := ⟨by omega, fun x hx => pcDr_sm (h x hx)⟩
theorem pcDr_withS {p : Pc} (h : PcDr p) {s : Int} (h0 : -2000000000 ≤ s) (h1 : s ≤ 2000000000) : PcDr (withS p s) := ⟨h.1, h.2.1, h.2.2.1, h0, h1⟩
theorem sincePc_dr {xs : List Pc} {p : Pc} {now : Int} (hx : ∀ x ∈ xs, PcDr x) (h0 : -2000000000 ≤ now) (h1 : now ≤ 2000000000) : -2000000000 ≤ sincePc xs p now ∧ sincePc xs p now ≤ 2000000000 := by
  unfold sincePc
  cases hf : xs.find? (fun q => onePk q p) with
  | none => exact ⟨h0, h1⟩
  | some q => have := hx q (List.mem_of_find?_eq_some hf); exact ⟨this.2.2.2.1, this.2.2.2.2⟩
theorem addPc_dr {xs : List Pc} {p : Pc} {now : Int} (hx : ∀ x ∈ xs, PcDr x) (hp : PcDr p) (h0 : -2000000000 ≤ now) (h1 : now ≤ 2000000000) : (∀ y ∈ (addPc xs p now).pieces, PcDr y) ∧ (addPc xs p now).pieces.length ≤ xs.length + 1 := by
  have hs := sincePc_dr (p := p) hx h0 h1
  have hq : PcDr (withS p (sincePc xs p now)) := pcDr_withS hp hs.1 hs.2
  unfold addPc
  split
  · exact ⟨fun y hy => by simp at hy, by simp⟩
  · split
    · exact ⟨fun y hy => by simp at hy, by simp⟩
    · generalize withS p (sincePc xs p now) = q at *
      unfold addV
      split
      · refine ⟨fun y hy => hx y (List.mem_filter.1 hy).1, ?_⟩
        have := List.length_filter_le (fun x => !onePk x q) xs
        show (butPc xs q).length ≤ _
        unfold butPc; omega
      · split
        · exact ⟨hx, by simp⟩
        · have hall : ∀ y ∈ xs ++ [q], PcDr y := fun y hy => by
            rcases List.mem_append.1 hy with h | h
            · exact hx y h
            · rw [List.mem_singleton.1 h]; exact hq
          cases wholePc (xs ++ [q]) q with
          | none => exact ⟨hall, by simp⟩
          | some t =>
            refine ⟨fun y hy => hall y (List.mem_filter.1 hy).1, ?_⟩
            have := List.length_filter_le (fun x => !onePk x q) (xs ++ [q])
            show (butPc (xs ++ [q]) q).length ≤ _
            unfold butPc; rw [List.length_append] at this; exact this
theorem Dr.row {w wx wy : World} {B len cap : Nat} {a : Option Addr} {size : Int} {r : Option Nat} (h : Dr w B a len cap size wx) (hg : wx.grownBy wy r) (hr : ∀ k, r = some k → w.heap.size ≤ k) : Dr w B a len cap size wy :=
  ⟨h.src.kept hg (fun k e => by have := hr k e; have := h.hB; omega), ⟨hg.os.trans h.grown.os, hg.tape.trans h.grown.tape, hg.output.trans h.grown.output, Nat.le_trans h.grown.size hg.size, fun k hk hne => by
    rw [hg.block k (Nat.lt_of_lt_of_le hk h.grown.size) (fun e => by have := hr k e.symm; omega), h.grown.block k hk hne]⟩, h.hB⟩
def lenOf : Value → Nat
  | .slice _ n _ => n
  | _ => 0

/-- The source, and pieces that were drawn. -/
structure LS (w : World) (B : Nat) (a : Option Addr) (len cap : Nat) (size : Int) (v : Value) (xs : List Pc) (wx : World) : Prop where
  dr : Dr w B a len cap size wx
  row : ∃ g c, v = .slice (some ⟨g, 0, none⟩) xs.length c ∧ SlRow w.heap.size wx (some ⟨g, 0, none⟩) c xs
  all : ∀ x ∈ xs, PcDr x
section
variable {w wx wy : World} {B len cap : Nat} {a : Option Addr} {size : Int} {v : Value} {xs : List Pc}
theorem SlRow.addr {base : Nat} {w : World} {a : Option Addr} {c : Nat} {xs : List Pc} (h : SlRow base w a c xs) : ∃ g, a = some ⟨g, 0, none⟩ := by
  obtain ⟨g, h1, _⟩ := h.laid
  exact ⟨g, h1⟩
theorem LS.draw (h : LS w B a len cap size v xs wx) (hs : Src wy B a len cap size) (hg : wx.grownBy wy (some B)) : LS w B a len cap size v xs wy := by
  obtain ⟨g, c, h1, h2⟩ := h.row
  exact ⟨h.dr.draw hs hg, ⟨g, c, h1, h2.grown hg h.dr.hB⟩, h.all⟩
theorem LS.below (h : LS w B a len cap size v xs wx) (hb : Below wx.heap.size wx wy) : LS w B a len cap size v xs wy := by
  obtain ⟨g, c, h1, h2⟩ := h.row
  exact ⟨h.dr.below hb, ⟨g, c, h1, h2.kept hb⟩, h.all⟩
theorem LS.alloc (h : LS w B a len cap size v xs wx) (o : Obj) : LS w B a len cap size v xs (wx.alloc o) := h.below ((Below.refl _ _).alloc (Nat.le_refl _) o)
theorem LS.append (h : LS w B a len cap size v xs wx) {o : Obj} {q : Pc} {v' : Value} (hown : wy.ownsRow w.heap.size 37 8 v' (xs.length + 1) (flatS pcL xs ++ pcL q)) (hg : (wx.alloc o).grownBy wy v.ownBlock) (hq : PcDr q) : LS w B a len cap size v' (xs ++ [q]) wy := by
  obtain ⟨g, c, h1, h2⟩ := h.row
  have hlo : ∀ k, v.ownBlock = some k → w.heap.size ≤ k := fun k hk => by rw [h1] at hk; exact (h2.1.lt k hk).1
  refine ⟨(h.dr.alloc o).row hg hlo, ?_, fun x hx => ?_⟩
  · rw [← flatS_snoc] at hown
    have hl : (xs ++ [q]).length = xs.length + 1 := by simp
    rw [← hl] at hown
    obtain ⟨a', c', e1, e2, e3⟩ := Row.shapeN (w0 := wy) ⟨hown, Below.refl _ _⟩ (by simp)
    obtain ⟨g', rfl⟩ := e3.addr
    exact ⟨g', c', e1, e3⟩
  · rcases List.mem_append.1 hx with hx | hx
    · exact h.all x hx
    · rw [List.mem_singleton.1 hx]; exact hq
end
def XPc : List Value := [.slice none 0 0, .string ⟨#[]⟩, .bool false, .int .i64 0]
theorem addPc_codes (xs : List Pc) (p : Pc) (now : Int) : (addPc xs p now).code = 0 ∨ (addPc xs p now).code = 10 → ¬ ((addPc xs p now).code = 1 ∨ (addPc xs p now).code = 2) := fun h => by omega

set_option maxRecDepth 100000 in
set_option maxHeartbeats 2000000 in
theorem drawPieces_any (B : Nat) (a : Option Addr) (len cap : Nat) (size : Int) (w : World) (hl : len ≤ 1048576) (hs : Src w B a len cap size) :
    Calls Try.prog 44 #[.pointer (some ⟨B, 0, none⟩)] w fun e w' => ∃ v xs, e = .returned v ∧ xs.length ≤ 100 ∧ LS w B a len cap size v xs w' := by
  have hB : B < w.heap.size := (Dr.start hs).hB
  obtain ⟨i0, hi, hz0, hz1, hz2⟩ := info_parts Try.infoPt
  have L0 : Hid (LS w B a len cap size (.slice (some ⟨w.heap.size, 0, none⟩) 0 0) [] (w.alloc (.cells #[] 37))) := ⟨(Dr.start hs).alloc _, ⟨w.heap.size, 0, rfl, World.ownsRow_made w #[] 0 (Nat.le_refl _) (by unfold maxLen; omega) rfl, by simp⟩, fun x hx => by simp at hx⟩
  clear hs
  go_enter Try.func44, Try.ntmps44
  go_wp2_with fail
  refine (drawN_more 6 B a len cap size _ (by omega) (by omega) hl L0.out.dr.src).mono ?_
  rintro e w1 ⟨k, rfl, k0, k1, hs1, hg1⟩
  have L1 : Hid (LS w B a len cap size (.slice (some ⟨w.heap.size, 0, none⟩) 0 0) [] w1) := L0.out.draw hs1 hg1
  clear hs1 hg1 L0
  obtain ⟨k, rfl⟩ := Int.eq_ofNat_of_zero_le k0
  go_wp2_with fail
  go_loopw [3, 4] (fun v kv wr => ∃ (xs : List Pc) (k : Nat), kv = .int .i64 k ∧ k ≤ 5 ∧ xs.length + k ≤ 6 ∧ LS w B a len cap size v xs wr) (fun _ kv _ => (intOf kv).toNat)
  case atStart => exact ⟨[], k, rfl, by omega, by simp; omega, L1.out⟩
  case round =>
    clear k0 k1 L1
    obtain ⟨xs, k, rfl, hk5, hxk, hL⟩ := hrel
    have L2 : Hid (LS w B a len cap size u3 xs wr) := hL
    clear hL
    by_cases hk : 0 < k
    · go_wp2_with fail
      refine (drawPiece_any B a len cap size _ hl L2.out.dr.src).mono ?_
      rintro e w2 ⟨p, rfl, hp, hs1, hg1⟩
      have L3 : Hid (LS w B a len cap size u3 xs w2) := L2.out.draw hs1 hg1
      have HP : Hid (PcDr p) := hp
      clear hs1 hg1 L2 hp
      unfold pcC
      go_wp2_with fail
      refine (drawN_more 40 B a len cap size _ (by omega) (by omega) hl L3.out.dr.src).mono ?_
      rintro e w3 ⟨now, rfl, n0, n1, hs1, hg1⟩
      have L4 : Hid (LS w B a len cap size u3 xs w3) := L3.out.draw hs1 hg1
      clear hs1 hg1 L3
      obtain ⟨g, c, rfl, hrow⟩ := L4.out.row
      obtain ⟨g', hg', hbg, hlaid⟩ := hrow.laid
      injection hg' with hg'
      injection hg' with hg' _
      subst hg'
      have HAD : Hid _ := specPieceAdd_row xs p now g 0 c w3 (pcs_dr_in L4.out.all (by omega)) (pcDr_sm HP.out) hlaid.blk hlaid.at
      have HO : Hid _ := addPc_dr (p := p) (now := now) L4.out.all HP.out (by omega) (by omega)
      unfold pcC at HAD
      clear hrow hbg hlaid
      generalize addPc xs p now = o at *
      go_wp2_with fail
      refine Calls.mono HAD.out ?_
      rintro e w4 ⟨a4, c4, rfl, hc4, hor, b4⟩
      have L5 : Hid (LS w B a len cap size (.slice (some ⟨g, 0, none⟩) xs.length c) xs (w4.alloc (.cells #[.slice a4 o.pieces.length c4, .string o.data, .bool o.done, .int .i64 o.code] 34))) := (L4.out.below b4).alloc _
      have HOR : Hid (o.code = 0 ∨ o.code = 10 → LS w B a len cap size (.slice a4 o.pieces.length c4) o.pieces (w4.alloc (.cells #[.slice a4 o.pieces.length c4, .string o.data, .bool o.done, .int .i64 o.code] 34))) := fun hcd => by
        rcases hor with h | h | h
        · omega
        · omega
        · obtain ⟨g4, rfl⟩ := h.addr
          exact ⟨L5.out.dr, ⟨g4, c4, rfl, (h.down L4.out.dr.le).kept ((Below.refl _ _).alloc (Nat.le_refl _) _)⟩, HO.out.1⟩
      have hol : o.pieces.length ≤ xs.length + 1 := HO.out.2
      clear hor b4 L4 HAD HO hc4
      generalize hpl : o.pieces.length = pl at *
      have HPL : Hid (o.pieces.length = pl) := hpl
      clear hpl
      have hun : undef = Value.tuple #[] := rfl
      by_cases e0 : o.code = 0
      · have d0 : (o.code == 0) = true := by simp [e0]
        have L6 : Hid _ := HOR.out (.inl e0)
        clear e0 HOR
        go_wp2_with fail
        go_roundw
        case rel =>
          (repeat apply Exists.intro)
          refine ⟨?_, rfl⟩
          exact ⟨o.pieces, k - 1, by go_num, by omega, by rw [HPL.out]; omega, L6.out⟩
        case measure => simp [intOf]; omega
      · have d0 : (o.code == 0) = false := by simp [e0]
        by_cases e1 : o.code = 10
        · have d1 : (o.code == 10) = true := by simp [e1]
          have L6 : Hid _ := HOR.out (.inr e1)
          clear e0 e1 HOR
          go_wp2_with fail
          go_roundw
          case rel =>
            (repeat apply Exists.intro)
            refine ⟨?_, rfl⟩
            exact ⟨o.pieces, k - 1, by go_num, by omega, by rw [HPL.out]; omega, L6.out⟩
          case measure => simp [intOf]; omega
        · have d1 : (o.code == 10) = false := by simp [e1]
          clear e0 e1 HOR
          go_wp2_with fail
          go_roundw
          case rel =>
            (repeat apply Exists.intro)
            refine ⟨?_, rfl⟩
            exact ⟨xs, k - 1, by go_num, by omega, by omega, L5.out⟩
          case measure => simp [intOf]; omega
    · -- EXIT
      have hx6 : xs.length ≤ 6 := by omega
      clear hk5 hxk
      go_wp2_with fail
      refine (drawOne_any 20 B a len cap size _ (by omega) hl L2.out.dr.src).mono ?_
      rintro e w5 ⟨c5, rfl, hs1, hg1⟩
      have L5 : Hid (LS w B a len cap size u3 xs w5) := L2.out.draw hs1 hg1
      clear hs1 hg1 L2
      cases c5 with
      | false =>
        go_wp2_with fail
        go_ret
        exact ⟨_, xs, rfl, by omega, L5.out⟩
      | true =>
        go_wp2_with fail
        refine (drawN_more 3 B a len cap size _ (by omega) (by omega) hl L5.out.dr.src).mono ?_
        rintro e w6 ⟨z, rfl, z0, z1, hs1, hg1⟩
        have L6 : Hid (LS w B a len cap size u3 xs w6) := L5.out.draw hs1 hg1
        clear hs1 hg1 L5
        by_cases e0 : z = 0
        · have d0 : (z == 0) = true := by simp [e0]
          clear e0
          go_wp2_with fail
          refine (drawPiece_any B a len cap size _ hl L6.out.dr.src).mono ?_
          rintro e w7 ⟨p, rfl, hp, hs1, hg1⟩
          have L7 : Hid (LS w B a len cap size u3 xs w7) := L6.out.draw hs1 hg1
          have HP : Hid (PcDr p) := hp
          clear hs1 hg1 L6 hp
          unfold pcC
          obtain ⟨g, c, rfl, hrow⟩ := L7.out.row
          have hown := hrow.1
          have hsz : w.heap.size ≤ w7.heap.size := L7.out.dr.le
          clear hrow
          go_wp2_with (at_builtin; refine wpList_append_own _ rfl (.tmp 50) (.tmp 53) 30 rfl w.heap.size 37 i0 (.agg #[.string ⟨#[]⟩, .string ⟨#[]⟩, .int .i64 0, .int .i64 0, .int .i64 0, .bool false, .string ⟨#[]⟩, .int .i64 0]) 8 88 Try.underlying30 hi hz0 hz1 hz2 rfl (by decide) _ _ _ rfl (hown.alloc _) ⟨w7.heap.size, 0, none⟩ 1 1 (pcL p) rfl rfl (news8 w7 p _) (pcL_one p) (by unfold maxLen; omega) (by omega) (by simp; omega) ?_)
          intro v' w8 hown2 hgrow hnil
          have L8 : Hid (LS w B a len cap size v' (xs ++ [p]) w8) := L7.out.append hown2 hgrow HP.out
          clear hown2 hgrow hnil hown L7
          go_wp2_with fail
          go_ret
          exact ⟨_, xs ++ [p], rfl, by simp; omega, L8.out⟩
        · have d0 : (z == 0) = false := by simp [e0]
          by_cases e1 : z = 1
          · have d1 : (z == 1) = true := by simp [e1]
            clear e0 e1
            obtain ⟨g, c, rfl, hrow⟩ := L6.out.row
            by_cases hx0 : 0 < xs.length
            · obtain ⟨g', hg', hbg, hlaid⟩ := hrow.laid
              injection hg' with hg'
              injection hg' with hg' _
              subst hg'
              have hA := hlaid.at 0 hx0
              have HQ : Hid (PcDr xs[0]) := L6.out.all _ (List.getElem_mem hx0)
              generalize xs[0] = q at *
              have c0 : w6.cell? ⟨g, 0, none⟩ = some (.string q.src) := by have := hA 0 _ rfl; simpa using this
              have c1 : w6.cell? ⟨g, 1, none⟩ = some (.string q.dst) := by have := hA 1 _ rfl; simpa using this
              have c2 : w6.cell? ⟨g, 2, none⟩ = some (.int .i64 q.proto) := by have := hA 2 _ rfl; simpa using this
              have c3 : w6.cell? ⟨g, 3, none⟩ = some (.int .i64 q.id) := by have := hA 3 _ rfl; simpa using this
              have c4 : w6.cell? ⟨g, 4, none⟩ = some (.int .i64 q.off) := by have := hA 4 _ rfl; simpa using this
              have c5 : w6.cell? ⟨g, 5, none⟩ = some (.bool q.more) := by have := hA 5 _ rfl; simpa using this
              have c6 : w6.cell? ⟨g, 6, none⟩ = some (.string q.data) := by have := hA 6 _ rfl; simpa using this
              have c7 : w6.cell? ⟨g, 7, none⟩ = some (.int .i64 q.since) := by have := hA 7 _ rfl; simpa using this
              have hown := hrow.1
              have hsz : w.heap.size ≤ w6.heap.size := L6.out.dr.le
              clear hrow hA hlaid hbg
              go_wp2_with (at_builtin; refine wpList_append_own _ rfl (.tmp 60) (.tmp 64) 30 rfl w.heap.size 37 i0 (.agg #[.string ⟨#[]⟩, .string ⟨#[]⟩, .int .i64 0, .int .i64 0, .int .i64 0, .bool false, .string ⟨#[]⟩, .int .i64 0]) 8 88 Try.underlying30 hi hz0 hz1 hz2 rfl (by decide) _ _ _ rfl (hown.alloc _) ⟨w6.heap.size, 0, none⟩ 1 1 (pcL q) rfl rfl (news8 w6 q _) (pcL_one q) (by unfold maxLen; omega) (by omega) (by simp; omega) ?_)
              intro v' w8 hown2 hgrow hnil
              have L8 : Hid (LS w B a len cap size v' (xs ++ [q]) w8) := L6.out.append hown2 hgrow HQ.out
              clear hown2 hgrow hnil hown L6 c0 c1 c2 c3 c4 c5 c6 c7
              go_wp2_with fail
              go_ret
              exact ⟨_, xs ++ [q], rfl, by simp; omega, L8.out⟩
            · have hx0' : ¬ (0 : Int) < (xs.length : Int) := by omega
              clear hrow
              go_wp2_with fail
              go_ret
              exact ⟨_, xs, rfl, by omega, L6.out⟩
          · have d1 : (z == 1) = false := by simp [e1]
            clear e0 e1 z0 z1
            go_wp2_with fail
            go_loopw [3, 6] (fun v iv wr => ∃ (xs : List Pc) (i : Nat), iv = .int .i64 i ∧ i ≤ 1000 ∧ i ≤ xs.length ∧ xs.length ≤ 41 ∧ LS w B a len cap size v xs wr) (fun v _ _ => 41 - lenOf v)
            case atStart => exact ⟨xs, 0, rfl, by omega, by omega, by omega, L6.out⟩
            case round =>
              clear hx6 L6
              obtain ⟨xs, i, rfl, hi1, hix, hx41, hL⟩ := hrel
              obtain ⟨g, c, rfl, hrow⟩ := hL.row
              have L7 : Hid (LS w B a len cap size (.slice (some ⟨g, 0, none⟩) xs.length c) xs wr) := hL
              clear hL hrow
              go_wp2_with fail
              refine (drawN_more 3 B a len cap size _ (by omega) (by omega) hl L7.out.dr.src).mono ?_
              rintro e w8 ⟨r, rfl, r0, r1, hs1, hg1⟩
              have L8 : Hid (LS w B a len cap size (.slice (some ⟨g, 0, none⟩) xs.length c) xs w8) := L7.out.draw hs1 hg1
              clear hs1 hg1 L7
              by_cases hlt : (xs.length : Int) < 39 + r
              · have HQ : Hid (PcDr ⟨⟨#[97, 98, 99, 100]⟩, ⟨#[97, 98, 99, 100]⟩, 0, 100 + (i : Int), 0, true, ⟨#[49, 50, 51, 52, 53, 54, 55, 56]⟩, 0⟩) := ⟨by show (4 : Nat) ≤ 100; omega, by show (4 : Nat) ≤ 100; omega, by show (8 : Nat) ≤ 100; omega, by show (-2000000000 : Int) ≤ 0; omega, by show (0 : Int) ≤ 2000000000; omega⟩
                have hn8 := news8 w8 ⟨⟨#[97, 98, 99, 100]⟩, ⟨#[97, 98, 99, 100]⟩, 0, 100 + (i : Int), 0, true, ⟨#[49, 50, 51, 52, 53, 54, 55, 56]⟩, 0⟩ 37
                obtain ⟨g2, c2, e2, hrow⟩ := L8.out.row
                injection e2 with e2 _ e3
                injection e2 with e2
                injection e2 with e2 _
                subst e2 e3
                have hown := hrow.1
                have hsz : w.heap.size ≤ w8.heap.size := L8.out.dr.le
                clear hrow
                go_wp2_with (at_builtin; refine wpList_append_own _ rfl (.tmp 42) (.tmp 46) 30 rfl w.heap.size 37 i0 (.agg #[.string ⟨#[]⟩, .string ⟨#[]⟩, .int .i64 0, .int .i64 0, .int .i64 0, .bool false, .string ⟨#[]⟩, .int .i64 0]) 8 88 Try.underlying30 hi hz0 hz1 hz2 rfl (by decide) _ _ _ rfl (hown.alloc _) ⟨w8.heap.size, 0, none⟩ 1 1 (pcL ⟨⟨#[97, 98, 99, 100]⟩, ⟨#[97, 98, 99, 100]⟩, 0, 100 + (i : Int), 0, true, ⟨#[49, 50, 51, 52, 53, 54, 55, 56]⟩, 0⟩) rfl rfl hn8 (pcL_one _) (by unfold maxLen; omega) (by omega) (by simp; omega) ?_)
                intro v' w9 hown2 hgrow hnil
                have L9 : Hid (LS w B a len cap size v' (xs ++ [⟨⟨#[97, 98, 99, 100]⟩, ⟨#[97, 98, 99, 100]⟩, 0, 100 + (i : Int), 0, true, ⟨#[49, 50, 51, 52, 53, 54, 55, 56]⟩, 0⟩]) w9) := L8.out.append hown2 hgrow HQ.out
                have hl9 : lenOf v' = xs.length + 1 := by
                  obtain ⟨g9, c9, e9, _⟩ := L9.out.row
                  rw [e9]; simp [lenOf]
                clear hown2 hgrow hnil hown L8 hn8
                have HL9 : Hid _ := hl9
                clear hl9
                go_wp2_with fail
                go_roundw
                case rel => exact ⟨_, i + 1, by go_num, by omega, by simp; omega, by simp; omega, L9.out⟩
                case measure => rw [HL9.out]; simp [lenOf]; omega
              · go_wp2_with fail
                go_ret
                exact ⟨_, xs, rfl, by omega, L8.out⟩
end Go.Proofs.Ytofhcplnnamcdab
