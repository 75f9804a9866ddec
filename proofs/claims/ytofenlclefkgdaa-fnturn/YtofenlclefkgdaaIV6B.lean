/- IV6B: what the program's layPiece and V6Bytes answer. Printed by mkiv6b.py. -/
import Derived.Test.YtofenlclefkgdaaMerged5
import Derived.Test.YtofenlclefkgdaaMerged12
import Derived.Deep.RegionWith
import Derived.Deep.DeepCutAuto
namespace Go.Proofs.Ytofenlclefkgdaa
open Go.RowKit Go.PlainAid Go.Lib
set_option linter.unusedVariables false
set_option linter.unusedSimpArgs false

/-- A row of bytes that is owned, as a text. -/
theorem owns_conv {w : World} {base g n cap : Nat} {t : ByteArray} (h : w.ownsRow base 5 1 (.slice (some ⟨g, 0, none⟩) n cap) n (strCells t)) (hn : n = t.size) :
  (convert 22 9 (.slice (some ⟨g, 0, none⟩) n cap)).run Try.prog w = .ok (.string t) w := by
 subst hn
 have := take_conv (w := w) (b := g) (k := 0) (n := t.size) (cap := cap) (t := t) (fun i hi => by rw [h.cellAt i (by omega)]; exact strCells_at t i hi) (by omega)
 rw [show t.extract 0 (0 + t.size) = t by rw [Nat.zero_add]; exact ByteArray.extract_zero_size] at this
 exact this

theorem piece_words (x0 x1 x2 : Int) (h0 : 0 ≤ x0 ∧ x0 ≤ 255) (h1 : 0 ≤ x1 ∧ x1 ≤ 65535) (h2 : 0 ≤ x2 ∧ x2 ≤ 4294967295) :
  (layL ([x0 * 256, x1, x2 / 65536, x2].map (· % 65536))).map (Value.int .u8) = strCells (pairV x0 0 ++ twoV x1 ++ twoV (x2 / 65536) ++ twoV (x2 % 65536)) := by
 simp only [strCells_append]
 rw [strCells_pair x0 0 h0 (by decide), strCells_two x1 h1.1 h1.2, strCells_two (x2 / 65536) (by omega) (by omega), strCells_two (x2 % 65536) (by omega) (by omega)]
 simp only [layL, List.map_cons, List.map_nil, List.cons_append, List.nil_append]
 rw [show x0 * 256 % 65536 / 256 = x0 by omega, show x0 * 256 % 65536 % 256 = 0 by omega, show x1 % 65536 = x1 by omega, show x2 / 65536 % 65536 = x2 / 65536 by omega]
theorem six_words (x0 x1 x2 x3 : Int) (h0 : 0 ≤ x0 ∧ x0 ≤ 4294967295) (h1 : 0 ≤ x1 ∧ x1 ≤ 65535) (h2 : 0 ≤ x2 ∧ x2 ≤ 255) (h3 : 0 ≤ x3 ∧ x3 ≤ 255) :
  (layL ([x0 / 65536, x0, x1, x2 * 256 + x3].map (· % 65536))).map (Value.int .u8) = strCells (twoV (x0 / 65536) ++ twoV (x0 % 65536) ++ twoV x1 ++ pairV x2 x3) := by
 simp only [strCells_append]
 rw [strCells_pair x2 x3 h2 h3, strCells_two x1 h1.1 h1.2, strCells_two (x0 / 65536) (by omega) (by omega), strCells_two (x0 % 65536) (by omega) (by omega)]
 simp only [layL, List.map_cons, List.map_nil, List.cons_append, List.nil_append]
 rw [show (x2 * 256 + x3) % 65536 / 256 = x2 by omega, show (x2 * 256 + x3) % 65536 % 256 = x3 by omega, show x1 % 65536 = x1 by omega, show x0 / 65536 % 65536 = x0 / 65536 by omega]

theorem or_one (n : Int) (h0 : 0 ≤ n) (h1 : n ≤ 8191) : bits .or .i64 (n * 8) 1 = n * 8 + 1 :=
 bits_join .i64 63 (by decide) wraps_i64 3 (n * 8) 1 (by omega) (by omega) (by omega) (by omega) (by omega) (by omega)

/-- layWords over a list that the caller has just laid. -/
theorem layAtM (ws : List Int) (t : ByteArray) (w : World) (hm : ws.length ≤ 1000) (h : ∀ n ∈ ws, 0 ≤ n ∧ n ≤ 4294967295) (ht : (layL (ws.map (· % 65536))).map (Value.int .u8) = strCells t) :
  Calls Try.prog 39 #[.slice (some ⟨w.heap.size, 0, none⟩) ws.length ws.length] (w.alloc (.cells (ws.map (Value.int .i64)).toArray 2)) fun e w' =>
   ∃ g n, e = .returned (.slice (some ⟨g, 0, none⟩) n n) ∧ (convert 22 9 (.slice (some ⟨g, 0, none⟩) n n)).run Try.prog w' = .ok (.string t) w' ∧ Below w.heap.size w w' := by
 have hg : ∀ k, 0 ≤ ws.getD k 0 ∧ ws.getD k 0 ≤ 4294967295 := fun k => by
  by_cases hk : k < ws.length
  ·simp only [List.getD, List.getElem?_eq_getElem hk, Option.getD_some]; exact h _ (List.getElem_mem hk)
  ·simp [List.getD, List.getElem?_eq_none (show ws.length ≤ k by omega)]
 refine (layWordsM_any ws w.heap.size ws.length ws.length (w.alloc (.cells (ws.map (Value.int .i64)).toArray 2)) hm (by simp) rfl hg (by intro k hk; simp [hk])).mono ?_
 rintro e w' ⟨rfl, hown, hB⟩
 rw [ht] at hown
 have hsz : 2 * ws.length = t.size := by
  have := congrArg List.length ht
  rw [List.length_map, layL_length, strCells_length, List.length_map] at this
  exact this
 have hz : (w.alloc (.cells (ws.map (Value.int .i64)).toArray 2)).heap.size = w.heap.size + 1 := by simp
 exact ⟨_, _, rfl, owns_conv hown hsz, ((Below.refl _ _).alloc (Nat.le_refl _) _).trans (hB.mono (by omega))⟩

/-- A piece's header. -/
def pieceH (p : P6) : ByteArray := pairV p.next 0 ++ twoV (8 * p.off + if p.more then 1 else 0) ++ twoV (p.id / 65536) ++ twoV (p.id % 65536)
set_option maxRecDepth 100000 in
set_option maxHeartbeats 1000000 in
theorem layPiece_any (p : P6) (w : World) (h1 : 0 ≤ p.next ∧ p.next ≤ 255) (h2 : 0 ≤ p.off ∧ p.off ≤ 8191) (h3 : 0 ≤ p.id ∧ p.id ≤ 4294967295) :
  Calls Try.prog 38 #[p6C p] w fun e w' => e = .returned (.string (pieceH p)) ∧ Below w.heap.size w w' := by
 obtain ⟨x, hx⟩ : ∃ x, x = 8 * p.off + if p.more then 1 else 0 := ⟨_, rfl⟩
 have hxr : 0 ≤ x ∧ x ≤ 65535 := by rw [hx]; split <;> omega
 have HL : Hid (∀ W : World, Calls Try.prog 39 #[.slice (some ⟨W.heap.size, 0, none⟩) 4 4] (W.alloc (.cells #[.int .i64 (p.next * 256), .int .i64 x, .int .i64 (p.id / 65536), .int .i64 p.id] 2)) fun e w' =>
   ∃ g n, e = .returned (.slice (some ⟨g, 0, none⟩) n n) ∧ (convert 22 9 (.slice (some ⟨g, 0, none⟩) n n)).run Try.prog w' = .ok (.string (pieceH p)) w' ∧ Below W.heap.size W w') := fun W =>
  layAtM [p.next * 256, x, p.id / 65536, p.id] (pieceH p) W (by simp) (by simp only [List.forall_mem_cons, List.not_mem_nil, false_imp_iff, implies_true, and_true]; omega) (by unfold pieceH; rw [← hx]; exact piece_words _ _ _ h1 hxr h3)
 generalize pieceH p = ans at *
 obtain ⟨cls, flow, next, hops, src, dst, piece, more, off, id, data⟩ := p
 unfold p6C
 dsimp only at *
 have HX : Hid (x = 8 * off + if more then 1 else 0) := hx
 have e1 := or_one off h2.1 h2.2
 have HZ : Hid (Below w.heap.size w (w.alloc (.cells #[.int .i64 cls, .int .i64 flow, .int .i64 next, .int .i64 hops, .string src, .string dst, .bool piece, .bool more, .int .i64 off, .int .i64 id, .string data] 28))) := (Below.refl _ _).alloc (Nat.le_refl _) _
 have HSz : Hid ((w.alloc (.cells #[.int .i64 cls, .int .i64 flow, .int .i64 next, .int .i64 hops, .string src, .string dst, .bool piece, .bool more, .int .i64 off, .int .i64 id, .string data] 28)).heap.size = w.heap.size + 1) := by unfold Hid; simp
 clear hx
 cases more
 all_goals simp only [Bool.false_eq_true, if_false, if_true, Int.add_zero] at HX
 ·have ex : off * 8 = x := by have := HX.out; omega
  go_enter Try.func38, Try.ntmps38
  go_wp2_with fail
  rw [← HSz.out]
  refine (HL.out _).mono ?_
  rintro e w2 ⟨g, n, rfl, hcv, hB⟩
  have G : Hid (Below w.heap.size w w2) := HZ.out.trans (hB.mono HZ.out.size)
  clear hB
  go_wp2_with fail
  go_ret
  exact ⟨rfl, G.out⟩
 ·have ex : off * 8 + 1 = x := by have := HX.out; omega
  go_enter Try.func38, Try.ntmps38
  go_wp2_with fail
  rw [← HSz.out]
  refine (HL.out _).mono ?_
  rintro e w2 ⟨g, n, rfl, hcv, hB⟩
  have G : Hid (Below w.heap.size w w2) := HZ.out.trans (hB.mono HZ.out.size)
  clear hB
  go_wp2_with fail
  go_ret
  exact ⟨rfl, G.out⟩


end Go.Proofs.Ytofenlclefkgdaa
