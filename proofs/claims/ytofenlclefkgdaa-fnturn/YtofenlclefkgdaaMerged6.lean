/- Xlat, LawV6, in one text. -/
import Derived.Test.YtofenlclefkgdaaPktMath2
import Derived.Test.YtofenlclefkgdaaMerged2
import Derived.Test.YtofenlclefkgdaaMerged3

/- Xlat: a packet of one kind turned to the other, as plain functions, and that it is read of the bytes that it would have. Nothing of the program. -/
namespace Go.Proofs.Ytofenlclefkgdaa
open Go.RowKit Go.PlainAid
set_option linter.unusedVariables false
set_option linter.unusedSimpArgs false

def four6 (p : P6) (src dst : ByteArray) : P4 := ⟨p.cls, if p.piece then p.id % 65536 else 0, !p.piece, p.more, p.off, p.hops, if p.next = 58 then 1 else p.next, src, dst, ⟨#[]⟩, p.data⟩
def pcd (p : P4) : Bool := p.more || !decide (p.off = 0)
def six4 (p : P4) (src dst : ByteArray) : P6 := ⟨p.tos, 0, if p.proto = 1 then 58 else p.proto, p.ttl, src, dst, pcd p, p.more && pcd p, if pcd p then p.off else 0, if pcd p then p.id else 0, p.data⟩
def long2 (src dst : ByteArray) : Bool := decide (20000 < src.size) || decide (20000 < dst.size)
def four6C (p : P6) (src dst : ByteArray) : Int := if long2 src dst then 2 else if !v6Ok p || !decide (src.size = 4) || !decide (dst.size = 4) then 1 else if v4Ok (four6 p src dst) then 0 else 1
def four6V (p : P6) (src dst : ByteArray) : P4 := if four6C p src dst = 0 then four6 p src dst else p4Zero
def six4C (p : P4) (src dst : ByteArray) : Int := if long2 src dst then 2 else if !v4Ok p || !decide (src.size = 16) || !decide (dst.size = 16) then 1 else if v6Ok (six4 p src dst) then 0 else 1
def six4V (p : P4) (src dst : ByteArray) : P6 := if six4C p src dst = 0 then six4 p src dst else p6Zero

theorem v6A_parts {p : P6} (h : v6A p = true) : (0 ≤ p.cls ∧ p.cls ≤ 255) ∧ (0 ≤ p.next ∧ p.next ≤ 255) ∧ (0 ≤ p.hops ∧ p.hops ≤ 255) ∧ (0 ≤ p.flow ∧ p.flow ≤ 1048575) ∧ p.src.size = 16 ∧ p.dst.size = 16 ∧ p.data.size ≤ 1400 ∧ p.next ≠ 44 := by
 unfold v6A at h
 simp only [Bool.and_eq_true, Bool.not_eq_true', decide_eq_true_iff, decide_eq_false_iff_not] at h
 obtain ⟨⟨⟨⟨⟨⟨⟨h1, h2⟩, h3⟩, h4⟩, h5⟩, h6⟩, h7⟩, h8⟩ := h
 exact ⟨isIn_parts h1, isIn_parts h2, isIn_parts h3, isIn_parts h4, h5, h6, h7, h8⟩
theorem v6Ok_ab {p : P6} (h : v6Ok p = true) : v6A p = true ∧ v6B p = true := by unfold v6Ok at h; simpa only [Bool.and_eq_true] using h
theorem v6B_parts {p : P6} (h : v6B p = true) : (0 ≤ p.off ∧ p.off ≤ 8191) ∧ (0 ≤ p.id ∧ p.id ≤ 4294967295) ∧ (p.piece = false → p.more = false ∧ p.off = 0 ∧ p.id = 0) := by
 unfold v6B at h
 cases hp : p.piece with
 | true =>
  rw [hp, if_pos rfl] at h
  simp only [Bool.and_eq_true] at h
  exact ⟨isIn_parts h.1.1.1, isIn_parts h.1.1.2, fun x => by cases x⟩
 | false =>
  rw [hp, if_neg (by decide)] at h
  simp only [Bool.and_eq_true, Bool.not_eq_true', decide_eq_true_iff] at h
  obtain ⟨⟨h1, h2⟩, h3⟩ := h
  exact ⟨by omega, by omega, fun _ => ⟨h1, h2, h3⟩⟩
theorem isIn_of {n lo hi : Int} (h : lo ≤ n ∧ n ≤ hi) : isIn n lo hi = true := by unfold isIn; simp [h.1, h.2]

theorem four6_A {p : P6} {src dst : ByteArray} (h : v6Ok p = true) (hs : src.size = 4) (hd : dst.size = 4) : v4A (four6 p src dst) = true := by
 obtain ⟨hA, hB⟩ := v6Ok_ab h
 obtain ⟨a1, a2, a3, a4, -, -, a7, a8⟩ := v6A_parts hA
 obtain ⟨b1, b2, b3⟩ := v6B_parts hB
 unfold v4A four6
 simp only [Bool.and_eq_true, decide_eq_true_iff]
 refine ⟨⟨⟨⟨⟨⟨isIn_of a1, isIn_of a3⟩, isIn_of ?_⟩, isIn_of ?_⟩, isIn_of b1⟩, hs⟩, hd⟩
 ·split <;> omega
 ·split <;> omega
/-- The reader tells what the header becomes, of the bytes of it. -/
theorem four6_read {p : P6} {src dst : ByteArray} (h : v6Ok p = true) (hs : src.size = 4) (hd : dst.size = 4) : v4CodeV (v4Raw (four6 p src dst)) = four6C p src dst ∧ v4ReadV (v4Raw (four6 p src dst)) = four6V p src dst := by
 have hA := four6_A h hs hd
 obtain ⟨hA6, hB6⟩ := v6Ok_ab h
 obtain ⟨a1, a2, a3, a4, -, -, a7, a8⟩ := v6A_parts hA6
 have hr := v4_round' (four6 p src dst) hA (by show (⟨#[]⟩ : ByteArray).size ≤ 40; decide) (by show (⟨#[]⟩ : ByteArray).size % 4 = 0; decide) a7 ⟨#[]⟩ (by decide)
 rw [show v4Raw (four6 p src dst) ++ ⟨#[]⟩ = v4Raw (four6 p src dst) from ByteArray.append_empty] at hr
 have hc : four6C p src dst = if v4Ok (four6 p src dst) then 0 else 1 := by
  unfold four6C
  rw [if_neg (by unfold long2; simp; omega), if_neg (by simp [h, hs, hd])]
 refine ⟨hr.1.trans hc.symm, ?_⟩
 unfold v4ReadV four6V
 rw [hr.1, hr.2, hc]

theorem six4_ok {p : P4} {src dst : ByteArray} (h : v4Ok p = true) (hs : src.size = 16) (hd : dst.size = 16) (hp : p.proto ≠ 44) : v6Ok (six4 p src dst) = true := by
 have hA : v4A p = true := by unfold v4Ok at h; simp only [Bool.and_eq_true] at h; exact h.1.1
 have hB : v4B p = true := by unfold v4Ok at h; simp only [Bool.and_eq_true] at h; exact h.1.2
 obtain ⟨a1, a2, a3, a4, a5, a6, a7⟩ := v4A_parts hA
 obtain ⟨b1, b2, b3, b4, b5⟩ := v4B_parts hB
 have hpc : pcd p = false → p.more = false ∧ p.off = 0 := fun hh => by unfold pcd at hh; simpa using hh
 unfold v6Ok v6A v6B six4
 simp only [Bool.and_eq_true, Bool.not_eq_true', decide_eq_true_iff, decide_eq_false_iff_not]
 refine ⟨⟨⟨⟨⟨⟨⟨⟨isIn_of a1, isIn_of ?_⟩, isIn_of a2⟩, isIn_of (by decide)⟩, hs⟩, hd⟩, b3⟩, ?_⟩, ?_⟩
 ·split <;> omega
 ·split <;> omega
 ·cases hc : pcd p with
  | true =>
   simp only [if_pos, Bool.and_true, Bool.and_eq_true, decide_eq_true_iff, Bool.or_eq_true, Bool.not_eq_true']
   refine ⟨⟨⟨isIn_of a5, isIn_of (by omega)⟩, ?_⟩, by omega⟩
   cases hm : p.more with
   | true => exact .inr (b4 hm)
   | false => exact .inl rfl
  | false => simp
theorem six4_not {p : P4} {src dst : ByteArray} (hp : p.proto = 44) : v6Ok (six4 p src dst) = false := by
 unfold v6Ok v6A six4
 simp [hp]
theorem six4_read {p : P4} {src dst : ByteArray} (h : v4Ok p = true) (hs : src.size = 16) (hd : dst.size = 16) (hp : p.proto ≠ 44) : v6CodeV (v6Raw (six4 p src dst)) = six4C p src dst ∧ v6ReadV (v6Raw (six4 p src dst)) = six4V p src dst := by
 have hk := six4_ok h hs hd hp
 have hr := v6_round (six4 p src dst) hk ⟨#[]⟩ (by decide)
 rw [show v6Raw (six4 p src dst) ++ ⟨#[]⟩ = v6Raw (six4 p src dst) from ByteArray.append_empty] at hr
 have hc : six4C p src dst = 0 := by
  unfold six4C
  rw [if_neg (by unfold long2; simp; omega), if_neg (by simp [h, hs, hd]), if_pos hk]
 refine ⟨hr.1.trans hc.symm, ?_⟩
 unfold v6ReadV six4V
 rw [hr.1, hr.2, hc, if_pos rfl]

end Go.Proofs.Ytofenlclefkgdaa

/- LawV6: the laws' helpers for V6, its box, and one that came in, opened. Printed by mkflat.py. -/
namespace Go.Proofs.Ytofenlclefkgdaa
open Go.RowKit Go.PlainAid Go.ChangeShapes Go.WideShapes
set_option linter.unusedVariables false
set_option linter.unusedSimpArgs false

/-- As memory may hold it. -/
def P6Wf (p : P6) : Prop := In64t p.cls ∧ In64t p.flow ∧ In64t p.next ∧ In64t p.hops ∧ p.src.size ≤ maxLen ∧ p.dst.size ≤ maxLen ∧ In64t p.off ∧ In64t p.id ∧ p.data.size ≤ maxLen
/-- Its texts are in the laws' limits. -/
def P6Sm (p : P6) : Prop := p.src.size ≤ 1048576 ∧ p.dst.size ≤ 1048576 ∧ p.data.size ≤ 1048576
/-- It lies in a block. -/
structure BoxV6 (w : World) (B : Nat) (p : P6) : Prop where
 c0 : w.cell? ⟨B, 0, none⟩ = some (.int .i64 p.cls)
 c1 : w.cell? ⟨B, 1, none⟩ = some (.int .i64 p.flow)
 c2 : w.cell? ⟨B, 2, none⟩ = some (.int .i64 p.next)
 c3 : w.cell? ⟨B, 3, none⟩ = some (.int .i64 p.hops)
 c4 : w.cell? ⟨B, 4, none⟩ = some (.string p.src)
 c5 : w.cell? ⟨B, 5, none⟩ = some (.string p.dst)
 c6 : w.cell? ⟨B, 6, none⟩ = some (.bool p.piece)
 c7 : w.cell? ⟨B, 7, none⟩ = some (.bool p.more)
 c8 : w.cell? ⟨B, 8, none⟩ = some (.int .i64 p.off)
 c9 : w.cell? ⟨B, 9, none⟩ = some (.int .i64 p.id)
 c10 : w.cell? ⟨B, 10, none⟩ = some (.string p.data)
theorem BoxV6.kept {w W : World} {B : Nat} {p : P6} (h : BoxV6 w B p) (hB : Below w.heap.size w W) : BoxV6 W B p := by
 have hb := World.block_lt_of_cell? w _ h.c0
 exact ⟨((bcell hB).1 B 0 hb).trans h.c0, ((bcell hB).1 B 1 hb).trans h.c1, ((bcell hB).1 B 2 hb).trans h.c2, ((bcell hB).1 B 3 hb).trans h.c3, ((bcell hB).1 B 4 hb).trans h.c4, ((bcell hB).1 B 5 hb).trans h.c5, ((bcell hB).1 B 6 hb).trans h.c6, ((bcell hB).1 B 7 hb).trans h.c7, ((bcell hB).1 B 8 hb).trans h.c8, ((bcell hB).1 B 9 hb).trans h.c9, ((bcell hB).1 B 10 hb).trans h.c10⟩
theorem BoxV6.new (w : World) (p : P6) {t : TypeId} : BoxV6 (w.alloc (.cells #[.int .i64 p.cls, .int .i64 p.flow, .int .i64 p.next, .int .i64 p.hops, .string p.src, .string p.dst, .bool p.piece, .bool p.more, .int .i64 p.off, .int .i64 p.id, .string p.data] t)) w.heap.size p := ⟨cell_new rfl, cell_new rfl, cell_new rfl, cell_new rfl, cell_new rfl, cell_new rfl, cell_new rfl, cell_new rfl, cell_new rfl, cell_new rfl, cell_new rfl⟩






end Go.Proofs.Ytofenlclefkgdaa
