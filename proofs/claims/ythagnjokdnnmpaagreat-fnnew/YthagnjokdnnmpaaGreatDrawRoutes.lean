import Derived.Test.YthagnjokdnnmpaaGreatDrawPrefix
import Derived.Test.YthagnjokdnnmpaaGreatMerged6
import Derived.OwnWalk
import Derived.BigQuiet
import Derived.Deep.DeepCutAuto
import Derived.Deep.AppendLies
set_option linter.unusedVariables false
set_option linter.unusedSimpArgs false
set_option maxRecDepth 100000
set_option maxHeartbeats 8000000
/- DrawRoutes: what the draw of routes answers. -/
namespace Go.Proofs.YthagnjokdnnmpaaGreat
open Go.RowKit Go.PlainAid
set_option linter.unusedVariables false
set_option linter.unusedSimpArgs false

/-- The cells of routes. -/
def flatR (rs : List Rt) : List Value := rs.flatMap fun q => [.string q.addr, .int .i64 q.bits, .int .i64 q.hop]
theorem flatR_snoc (rs : List Rt) (q : Rt) : flatR (rs ++ [q]) = flatR rs ++ [.string q.addr, .int .i64 q.bits, .int .i64 q.hop] := by
 unfold flatR; rw [List.flatMap_append]; simp
theorem flatR_get : ∀ (rs : List Rt) (i : Nat) (h : i < rs.length), (flatR rs)[i * 3]? = some (.string rs[i].addr) ∧ (flatR rs)[i * 3 + 1]? = some (.int .i64 rs[i].bits) ∧ (flatR rs)[i * 3 + 2]? = some (.int .i64 rs[i].hop)
 | [], i, h => by simp at h
 | q :: rs, 0, h => by unfold flatR; simp
 | q :: rs, i + 1, h => by
  have := flatR_get rs i (by simpa using h)
  unfold flatR at *
  rw [List.flatMap_cons]
  have e : ∀ j, ([Value.string q.addr, .int .i64 q.bits, .int .i64 q.hop] ++ List.flatMap (fun q : Rt => [Value.string q.addr, .int .i64 q.bits, .int .i64 q.hop]) rs)[j + 3]? = (List.flatMap (fun q : Rt => [Value.string q.addr, .int .i64 q.bits, .int .i64 q.hop]) rs)[j]? := fun j => by
   rw [List.getElem?_append_right (by simp)]; simp
  rw [show (i + 1) * 3 = i * 3 + 3 by omega, show i * 3 + 3 + 1 = i * 3 + 1 + 3 by omega, show i * 3 + 3 + 2 = i * 3 + 2 + 3 by omega, e, e, e]
  simpa using this
theorem rts_of_own {w : World} {base : Nat} {e : TypeId} {g cap : Nat} {rs : List Rt} (h : w.ownsRow base e 3 (.slice (some ⟨g, 0, none⟩) rs.length cap) rs.length (flatR rs)) : RtsAt w g 0 rs := by
 refine ⟨fun i hi => ?_, fun i hi => ?_, fun i hi => ?_⟩
 ·rw [Nat.zero_add, h.cellAt (i * 3) (by omega)]; exact (flatR_get rs i hi).1
 ·rw [Nat.zero_add, h.cellAt (i * 3 + 1) (by omega)]; exact (flatR_get rs i hi).2.1
 ·rw [Nat.zero_add, h.cellAt (i * 3 + 2) (by omega)]; exact (flatR_get rs i hi).2.2

theorem own_shape3 {w : World} {base e n z : Nat} {v : Value} {xs : List Value} (h : w.ownsRow base e z v n xs) (hv : v ≠ .slice none 0 0) : ∃ g cap, v = .slice (some ⟨g, 0, none⟩) n cap ∧ n ≤ cap ∧ base ≤ g ∧ g < w.heap.size := by
 rcases h.2 with ⟨h1, _⟩ | ⟨g, cap, cur, h1, hb, hg, hc, _⟩
 ·exact absurd h1 hv
 ·exact ⟨g, cap, h1, hc, hb, (Array.getElem?_eq_some_iff.1 hg).1⟩
theorem own_ne3 {w : World} {base e n z B : Nat} {v : Value} {xs : List Value} (h : w.ownsRow base e z v n xs) (hB : B < base) : v.ownBlock = none ∨ v.ownBlock ≠ some B := by
 by_cases hv : v.ownBlock = some B
 ·have := (h.lt B hv).1; omega
 ·exact .inr hv
theorem own_none {v : Value} : v.ownBlock = none ∨ v.ownBlock ≠ (none : Option Nat) := by cases v.ownBlock <;> simp

/-- A route that is drawn. -/
def RtD (q : Rt) : Prop := q.addr.size ≤ 16 ∧ In64 q.bits ∧ In64 q.hop

/-- A route in a box that may be written. -/
structure BoxQ (w : World) (X : Nat) (q : Rt) : Prop where
 b : BoxR w X q
 f : w.frozen? ⟨X, 2, none⟩ = false

section
variable {w wx wy : World} {X : Nat} {q : Rt}
theorem BoxQ.kept {row : Option Nat} (h : BoxQ wx X q) (hg : wx.grownBy wy row) (hr : some X ≠ row) : BoxQ wy X q :=
 ⟨⟨hg.cell h.b.c0 hr, hg.cell h.b.c1 hr, hg.cell h.b.c2 hr⟩, (World.frozen?_of_block (a := ⟨X, 2, none⟩) (hg.block X (World.block_lt_of_cell? wx _ h.b.c0) hr)).trans h.f⟩
theorem BoxQ.setHop (h : BoxQ wx X q) (n : Int) : BoxQ (wx.setCell ⟨X, 2, none⟩ (.int .i64 n)) X ⟨q.addr, q.bits, n⟩ :=
 ⟨⟨(World.cell?_setCell_other _ _ _ _ (by simp)).trans h.b.c0, (World.cell?_setCell_other _ _ _ _ (by simp)).trans h.b.c1, World.cell?_setCell_same _ _ _ h.b.c2⟩, by rw [World.frozen?_setCell]; exact h.f⟩
end

/-- The state of the draw of routes: the source, the row so far. -/
structure RtSt (w : World) (B : Nat) (a : Option Addr) (len cap : Nat) (size : Int) (e : TypeId) (v : Value) (rs : List Rt) (wx : World) : Prop where
 dr : Dr w B a len cap size wx
 own : wx.ownsRow w.heap.size e 3 v rs.length (flatR rs)

section
variable {w wx wy : World} {B len cap : Nat} {a : Option Addr} {size : Int} {e : TypeId} {v : Value} {rs : List Rt}
theorem RtSt.draw (h : RtSt w B a len cap size e v rs wx) (hs : Src wy B a len cap size) (hg : wx.grownBy wy (some B)) : RtSt w B a len cap size e v rs wy :=
 ⟨h.dr.draw hs hg, h.own.kept hg (own_ne3 h.own h.dr.hB)⟩
theorem RtSt.below (h : RtSt w B a len cap size e v rs wx) (hb : Below wx.heap.size wx wy) : RtSt w B a len cap size e v rs wy :=
 ⟨h.dr.below hb, h.own.kept (grown_of_below (r := none) hb) own_none⟩
theorem RtSt.alloc (h : RtSt w B a len cap size e v rs wx) (o : Obj) : RtSt w B a len cap size e v rs (wx.alloc o) := h.below ((Below.refl _ _).alloc (Nat.le_refl _) o)
theorem RtSt.set (h : RtSt w B a len cap size e v rs wx) (R j : Nat) (u : Value) (hR : w.heap.size ≤ R) (hne : v.ownBlock ≠ some R) : RtSt w B a len cap size e v rs (wx.setCell ⟨R, j, none⟩ u) :=
 ⟨h.dr.set R j u hR, h.own.kept (grown_cell wx R j u) (.inr hne)⟩
theorem RtSt.append (h : RtSt w B a len cap size e v rs wx) {o : Obj} {q : Rt} {v' : Value} (hown : wy.ownsRow w.heap.size e 3 v' (rs.length + 1) (flatR rs ++ [.string q.addr, .int .i64 q.bits, .int .i64 q.hop])) (hgrow : (wx.alloc o).grownBy wy v.ownBlock) :
  RtSt w B a len cap size e v' (rs ++ [q]) wy := by
 have hlo : ∀ q, v.ownBlock = some q → w.heap.size ≤ q := fun q hq => (h.own.lt q hq).1
 have hB := h.dr.hB
 refine ⟨⟨(h.dr.alloc o).src.kept hgrow (fun q hq => by have := hlo q hq; omega), ?_, hB⟩, by rw [flatR_snoc]; simpa using hown⟩
 have h1 := (h.dr.alloc o).grown
 refine ⟨hgrow.os.trans h1.os, hgrow.tape.trans h1.tape, hgrow.output.trans h1.output, Nat.le_trans h1.size hgrow.size, fun q hq hne => ?_⟩
 rw [hgrow.block q (Nat.lt_of_lt_of_le hq h1.size) (fun e => by have := hlo q e.symm; omega), h1.block q hq hne]
end

theorem Tryz.infoR3 : (Tryz.prog.info? 94).map (fun i => (i.zero, i.size, i.bytes)) = some (some (.agg #[.string ⟨#[]⟩, .int .i64 0, .int .i64 0]), 3, 32) := by kernel_rfl

theorem BoxQ.new (w : World) (q : Rt) : BoxQ (w.alloc (.cells #[.string q.addr, .int .i64 q.bits, .int .i64 q.hop] 94)) w.heap.size q := ⟨BoxR.new w q, by simp⟩

set_option maxRecDepth 100000 in
set_option maxHeartbeats 1000000 in
theorem drawRoutes_any (B : Nat) (a : Option Addr) (len cap : Nat) (size : Int) (w : World) (hl : len ≤ 1048576) (h0 : 0 ≤ size) (h12 : size ≤ 12) (hs : Src w B a len cap size) :
  Calls Tryz.prog 30 #[.pointer (some ⟨B, 0, none⟩)] w fun e w' => ∃ (g c : Nat) (rs : List Rt), e = .returned (.slice (some ⟨g, 0, none⟩) rs.length c) ∧ rs.length ≤ c ∧ rs.length ≤ 14 ∧ (∀ q ∈ rs, RtD q) ∧ w.heap.size ≤ g ∧ g < w'.heap.size ∧ RtsAt w' g 0 rs ∧ Src w' B a len cap size ∧ w.grownBy w' (some B) := by
 obtain ⟨i0, hi, hz0, hz1, hz2⟩ := info_parts Tryz.infoR3
 have H0 : Hid (RtSt w B a len cap size 94 (.slice (some ⟨w.heap.size, 0, none⟩) 0 0) [] (w.alloc (.cells #[] 94))) := ⟨(Dr.start hs).alloc _, World.ownsRow_made w #[] 0 (Nat.le_refl _) (by unfold maxLen; omega) rfl⟩
 have hB : B < w.heap.size := (Dr.start hs).hB
 have c3 : (w.alloc (.cells #[] 94)).cell? ⟨B, 3, none⟩ = some (.int .i64 size) := by obtain ⟨_, _, _, h⟩ := H0.out.dr.src; exact h.csize
 clear hs
 go_enter Tryz.func30, Tryz.ntmps30
 go_wp2_with fail
 refine (drawN_more (3 + size) B a len cap size _ (by omega) (by omega) hl H0.out.dr.src).mono ?_
 rintro e w1 ⟨r, rfl, r0, r1, hs1, hg1⟩
 have H1 : Hid (RtSt w B a len cap size 94 (.slice (some ⟨w.heap.size, 0, none⟩) 0 0) [] w1) := H0.out.draw hs1 hg1
 clear hs1 hg1 H0 c3
 obtain ⟨kk, rfl⟩ := Int.eq_ofNat_of_zero_le r0
 have hk14 : kk ≤ 14 := by omega
 clear r0 r1
 go_wp2_with fail
 go_loopw [3, 4] (fun v kv wr => ∃ (k : Nat) (rs : List Rt), kv = .int .i64 k ∧ rs.length + k ≤ 14 ∧ (∀ q ∈ rs, RtD q) ∧ v ≠ .slice none 0 0 ∧ RtSt w B a len cap size 94 v rs wr) (fun _ kv _ => (intOf kv).toNat)
 case atStart => exact ⟨kk, [], rfl, by simpa using hk14, by simp, by simp, H1.out⟩
 case round =>
  obtain ⟨k, rs, rfl, hk, hall, hnn, hst⟩ := hrel
  have HS : Hid (RtSt w B a len cap size 94 u3 rs wr) := hst
  have HA : Hid (∀ q ∈ rs, RtD q) := hall
  clear hst hall H1
  obtain ⟨g, c, rfl, hc, hgw, hgl⟩ := own_shape3 HS.out.own hnn
  clear hnn
  by_cases hk0 : 0 < k
  ·have hk0' : (0 : Int) < (k : Int) := by omega
   go_wp2_with fail
   refine (drawOne_any 2 B a len cap size _ (by omega) hl HS.out.dr.src).mono ?_
   rintro e w1 ⟨b1, rfl, hs1, hg1⟩
   have H1 : Hid (RtSt w B a len cap size 94 (.slice (some ⟨g, 0, none⟩) rs.length c) rs w1) := HS.out.draw hs1 hg1
   clear hs1 hg1 HS
   go_wp2_with fail
   refine (drawPrefix_any b1 B a len cap size _ hl H1.out.dr.src).mono ?_
   rintro e w2 ⟨s, bt, rfl, hsz, hbt, hs2, hg2⟩
   have H2 : Hid (RtSt w B a len cap size 94 (.slice (some ⟨g, 0, none⟩) rs.length c) rs w2) := H1.out.draw hs2 hg2
   have HBT : Hid (In64 bt) := hbt
   clear hs2 hg2 H1 hbt
   go_wp2_with fail
   refine (drawN_more 4 B a len cap size _ (by omega) (by omega) hl H2.out.dr.src).mono ?_
   rintro e w3 ⟨r, rfl, r0, r1, hs3, hg3⟩
   have H3 : Hid (RtSt w B a len cap size 94 (.slice (some ⟨g, 0, none⟩) rs.length c) rs w3) := H2.out.draw hs3 hg3
   have H4 : Hid (RtSt w B a len cap size 94 (.slice (some ⟨g, 0, none⟩) rs.length c) rs (w3.alloc (.cells #[.string s, .int .i64 bt, .int .i64 (1 + r)] 94))) := H3.out.alloc _
   have X4 : Hid (BoxQ (w3.alloc (.cells #[.string s, .int .i64 bt, .int .i64 (1 + r)] 94)) w3.heap.size ⟨s, bt, 1 + r⟩) := BoxQ.new w3 ⟨s, bt, 1 + r⟩
   have hXw : w.heap.size ≤ w3.heap.size := H3.out.dr.le
   have hXg : g < w3.heap.size := (H3.out.own.lt g rfl).2
   clear hs3 hg3 H2 H3
   go_wp2_with fail
   refine (drawOne_any 60 B a len cap size _ (by omega) hl H4.out.dr.src).mono ?_
   rintro e w5 ⟨b5, rfl, hs5, hg5⟩
   have H5 : Hid (RtSt w B a len cap size 94 (.slice (some ⟨g, 0, none⟩) rs.length c) rs w5) := H4.out.draw hs5 hg5
   have X5 : Hid (BoxQ w5 w3.heap.size ⟨s, bt, 1 + r⟩) := X4.out.kept hg5 (by simp; omega)
   clear hs5 hg5 H4 X4
   generalize w3.heap.size = X at *
   go_upto_if 29 with fail
   go_cut [] (fun wx => ∃ hop, In64 hop ∧ BoxQ wx X ⟨s, bt, hop⟩ ∧ RtSt w B a len cap size 94 (.slice (some ⟨g, 0, none⟩) rs.length c) rs wx)
   case first =>
    cases b5 with
    | false =>
     go_wp2_with fail
     go_meet
     exact ⟨1 + r, ⟨by omega, by omega⟩, X5.out, H5.out⟩
    | true =>
     have hXl : X < w5.heap.size := World.block_lt_of_cell? w5 _ X5.out.b.c0
     have H6 : Hid (RtSt w B a len cap size 94 (.slice (some ⟨g, 0, none⟩) rs.length c) rs (w5.alloc (.cells #[.int .i64 0, .int .i64 1000, .int .i64 1001] 2))) := H5.out.alloc _
     have X6 : Hid (BoxQ (w5.alloc (.cells #[.int .i64 0, .int .i64 1000, .int .i64 1001] 2)) X ⟨s, bt, 1 + r⟩) := X5.out.kept (World.grownBy_alloc _ _ none) (by simp)
     have t0 : (w5.alloc (.cells #[.int .i64 0, .int .i64 1000, .int .i64 1001] 2)).cell? ⟨w5.heap.size, 0, none⟩ = some (.int .i64 0) := by simp
     have t1 : (w5.alloc (.cells #[.int .i64 0, .int .i64 1000, .int .i64 1001] 2)).cell? ⟨w5.heap.size, 1, none⟩ = some (.int .i64 1000) := by simp
     have t2 : (w5.alloc (.cells #[.int .i64 0, .int .i64 1000, .int .i64 1001] 2)).cell? ⟨w5.heap.size, 2, none⟩ = some (.int .i64 1001) := by simp
     have T0 : Hid _ := t0
     have T1 : Hid _ := t1
     have T2 : Hid _ := t2
     clear t0 t1 t2
     go_wp2_with fail
     refine (drawN_more 3 B a len cap size _ (by omega) (by omega) hl H6.out.dr.src).mono ?_
     rintro e w7 ⟨i, rfl, i0', i1, hs7, hg7⟩
     have hbne : some w5.heap.size ≠ some B := by simp; omega
     have t0 : w7.cell? ⟨w5.heap.size, 0, none⟩ = some (.int .i64 0) := hg7.cell T0.out hbne
     have t1 : w7.cell? ⟨w5.heap.size, 1, none⟩ = some (.int .i64 1000) := hg7.cell T1.out hbne
     have t2 : w7.cell? ⟨w5.heap.size, 2, none⟩ = some (.int .i64 1001) := hg7.cell T2.out hbne
     have H7 : Hid (RtSt w B a len cap size 94 (.slice (some ⟨g, 0, none⟩) rs.length c) rs w7) := H6.out.draw hs7 hg7
     have X7 : Hid (BoxQ w7 X ⟨s, bt, 1 + r⟩) := X6.out.kept hg7 (by simp; omega)
     obtain ⟨⟨x0, x1, x2⟩, xf⟩ := X7.out
     dsimp only at x0 x1 x2
     clear hs7 hg7 H6 X6 T0 T1 T2 hbne
     have hi3 : i = 0 ∨ i = 1 ∨ i = 2 := by omega
     have hgX : (Value.slice (some ⟨g, 0, none⟩) rs.length c).ownBlock ≠ some X := by simp [Value.ownBlock]; omega
     rcases hi3 with rfl | rfl | rfl
     ·go_wp2_with fail
      go_meet
      exact ⟨0, ⟨by omega, by omega⟩, X7.out.setHop 0, H7.out.set X 2 _ hXw hgX⟩
     ·go_wp2_with fail
      go_meet
      exact ⟨1000, ⟨by omega, by omega⟩, X7.out.setHop 1000, H7.out.set X 2 _ hXw hgX⟩
     ·go_wp2_with fail
      go_meet
      exact ⟨1001, ⟨by omega, by omega⟩, X7.out.setHop 1001, H7.out.set X 2 _ hXw hgX⟩
   case rest =>
   obtain ⟨hop, hhop, hX, hS⟩ := hcut
   have HH : Hid (In64 hop) := hhop
   have X8 : Hid (BoxQ wc X ⟨s, bt, hop⟩) := hX
   have H8 : Hid (RtSt w B a len cap size 94 (.slice (some ⟨g, 0, none⟩) rs.length c) rs wc) := hS
   clear hhop hX hS X5 H5 r0 r1
   go_wp2_with fail
   generalize hwo : wc = wo at *
   go_loopw [6, 7] (fun tv iv wi => ∃ (m : Nat) (tb : Bool), m ≤ rs.length ∧ iv = .int .i64 m ∧ tv = .bool tb ∧ Below wo.heap.size wo wi) (fun _ iv _ => rs.length - (intOf iv).toNat)
   case atStart => exact ⟨0, false, Nat.zero_le _, rfl, rfl, Below.refl _ _⟩
   case round =>
    obtain ⟨m, tb, hm, rfl, rfl, hbel⟩ := hrel
    have HL : Hid (Below wo.heap.size wo wr) := hbel
    have H9 : Hid (RtSt w B a len cap size 94 (.slice (some ⟨g, 0, none⟩) rs.length c) rs wr) := H8.out.below hbel
    have X9 : Hid (BoxQ wr X ⟨s, bt, hop⟩) := X8.out.kept (grown_of_below (r := none) hbel) (by simp)
    clear hbel
    by_cases hmr : m < rs.length
    ·have hat := rts_of_own H9.out.own
     have f0 := hat.c0 m hmr
     have f1 := hat.c1 m hmr
     obtain ⟨p, hp⟩ : ∃ p, p = rs[m] := ⟨_, rfl⟩
     rw [← hp] at f0 f1
     rw [Nat.zero_add] at f0 f1
     have d0 := X9.out.b.c0
     have d1 := X9.out.b.c1
     dsimp only at d0 d1
     have heq := eqp_any p.addr s p.bits bt
     clear hp hat
     have hmr' : (m : Int) < (rs.length : Int) := by omega
     cases tb with
     | true =>
      go_wp2_with fail
      go_quiet (fail)
      all_goals
       go_wp2_with fail
       go_roundw
       case rel => exact ⟨m + 1, _, by omega, by go_num, rfl, HL.out.trans ⟨rfl, rfl, rfl, Nat.le_refl _, fun _ _ => rfl⟩⟩
       case measure => simp [intOf]; omega
     | false =>
      go_wp2_with fail
      go_quiet (fail)
      all_goals
       go_wp2_with fail
       go_roundw
       case rel => exact ⟨m + 1, _, by omega, by go_num, rfl, HL.out.trans ⟨rfl, rfl, rfl, Nat.le_refl _, fun _ _ => rfl⟩⟩
       case measure => simp [intOf]; omega
    ·have hmr' : ¬ (m : Int) < (rs.length : Int) := by omega
     go_upto_region 13 with fail
     go_cut [58] (fun cv wx => ∃ b, cv = .bool b ∧ BoxQ wx X ⟨s, bt, hop⟩ ∧ RtSt w B a len cap size 94 (.slice (some ⟨g, 0, none⟩) rs.length c) rs wx)
     case first =>
      cases tb with
      | false =>
       go_wp2_with fail
       go_meet
       exact ⟨true, rfl, X9.out, H9.out⟩
      | true =>
       go_wp2_with fail
       refine (drawOne_any 30 B a len cap size _ (by omega) hl H9.out.dr.src).mono ?_
       rintro e w10 ⟨b10, rfl, hs10, hg10⟩
       have H10 : Hid (RtSt w B a len cap size 94 (.slice (some ⟨g, 0, none⟩) rs.length c) rs w10) := H9.out.draw hs10 hg10
       have X10 : Hid (BoxQ w10 X ⟨s, bt, hop⟩) := X9.out.kept hg10 (by simp; omega)
       clear hs10 hg10
       go_wp2_with fail
       go_meet
       exact ⟨b10, rfl, X10.out, H10.out⟩
     case rest =>
     obtain ⟨b, rfl, hX, hS⟩ := hcut
     have X11 : Hid (BoxQ wc X ⟨s, bt, hop⟩) := hX
     have H11 : Hid (RtSt w B a len cap size 94 (.slice (some ⟨g, 0, none⟩) rs.length c) rs wc) := hS
     clear hX hS X9 H9 X8 H8 HL
     cases b with
     | false =>
      go_wp2_with fail
      go_roundw
      case rel => exact ⟨k - 1, rs, by go_num, by omega, HA.out, by simp, H11.out⟩
      case measure => simp [intOf]; omega
     | true =>
      obtain ⟨⟨x0, x1, x2⟩, xf⟩ := X11.out
      dsimp only at x0 x1 x2
      have hown := H11.out.own
      have hwsz : w.heap.size ≤ wc.heap.size := H11.out.dr.le
      have HN1 : Hid (∀ j u, ([.string s, .int .i64 bt, .int .i64 hop] : List Value)[j]? = some u → (wc.alloc (.cells #[.string s, .int .i64 bt, .int .i64 hop] 94)).cell? ((⟨wc.heap.size, 0, none⟩ : Addr).add j) = some u) := World.news_of_block (heap_alloc_new wc _)
      have HN2 : Hid (∀ u ∈ ([.string s, .int .i64 bt, .int .i64 hop] : List Value), u.oneCell' = true) := fun u hu => by simp at hu; rcases hu with rfl | rfl | rfl <;> rfl
      go_wp2_with (at_builtin; refine wpList_append_own _ rfl (.tmp 59) (.tmp 61) 23 rfl w.heap.size 94 i0 (.agg #[.string ⟨#[]⟩, .int .i64 0, .int .i64 0]) 3 32 Tryz.underlying23 hi hz0 hz1 hz2 rfl (by decide) _ _ _ rfl (hown.alloc _) ⟨wc.heap.size, 0, none⟩ 1 1 [.string s, .int .i64 bt, .int .i64 hop] rfl rfl HN1.out HN2.out (by unfold maxLen; omega) (by omega) (by simp; omega) ?_)
      ·intro v' w12 hown2 hgrow hnil
       have R : Hid (RtSt w B a len cap size 94 v' (rs ++ [⟨s, bt, hop⟩]) w12) := H11.out.append (q := ⟨s, bt, hop⟩) hown2 hgrow
       have HNN : Hid (v' ≠ .slice none 0 0) := hnil
       have HAA : Hid (∀ q ∈ rs ++ [⟨s, bt, hop⟩], RtD q) := fun q hq => by
        rcases List.mem_append.1 hq with h | h
        ·exact HA.out q h
        ·simp at h; subst h; exact ⟨hsz, HBT.out, HH.out⟩
       clear hown2 hgrow hnil hown
       go_wp2_with fail
       go_roundw
       case rel => exact ⟨k - 1, rs ++ [⟨s, bt, hop⟩], by go_num, by simp; omega, HAA.out, HNN.out, R.out⟩
       case measure => simp [intOf]; omega
  ·have hk0' : k = 0 := by omega
   subst hk0'
   have HAT : Hid (RtsAt wr g 0 rs) := rts_of_own HS.out.own
   go_wp2_with fail
   go_ret
   exact ⟨g, c, rs, rfl, hc, by omega, HA.out, hgw, hgl, HAT.out, HS.out.dr.src, HS.out.dr.grown⟩

end Go.Proofs.YthagnjokdnnmpaaGreat
