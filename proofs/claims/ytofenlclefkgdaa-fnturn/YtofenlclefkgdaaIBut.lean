/- IBut: what is left as it was beside one block; the state within the program's withPiece. -/
import Derived.Test.YtofenlclefkgdaaIBox
namespace Go.Proofs.Ytofenlclefkgdaa
open Go.RowKit Go.PlainAid
set_option linter.unusedVariables false
set_option linter.unusedSimpArgs false

/-- Below n all is as it was, but for block R. -/
structure BelowBut (n R : Nat) (w w' : World) : Prop where
 os : w'.os = w.os
 tape : w'.tape = w.tape
 output : w'.output = w.output
 size : w.heap.size ≤ w'.heap.size
 block : ∀ k, k < n → k ≠ R → w'.heap[k]? = w.heap[k]?
theorem BelowBut.refl (n R : Nat) (w : World) : BelowBut n R w w := ⟨rfl, rfl, rfl, Nat.le_refl _, fun _ _ _ => rfl⟩
theorem Below.but {n : Nat} {w w' : World} (h : Below n w w') (R : Nat) : BelowBut n R w w' := ⟨h.os, h.tape, h.output, h.size, fun k hk _ => h.block k hk⟩
theorem BelowBut.trans {n R : Nat} {a b c : World} (h : BelowBut n R a b) (k : BelowBut n R b c) : BelowBut n R a c :=
 ⟨k.os.trans h.os, k.tape.trans h.tape, k.output.trans h.output, Nat.le_trans h.size k.size, fun i hi hr => (k.block i hi hr).trans (h.block i hi hr)⟩
theorem BelowBut.mono {n m R : Nat} {w w' : World} (h : BelowBut n R w w') (hm : m ≤ n) : BelowBut m R w w' := ⟨h.os, h.tape, h.output, h.size, fun k hk hr => h.block k (by omega) hr⟩
theorem BelowBut.set {n R : Nat} {w w' : World} (h : BelowBut n R w w') (o : Nat) (v : Value) : BelowBut n R w (w'.setCell ⟨R, o, none⟩ v) :=
 h.trans ⟨rfl, rfl, rfl, by simp [World.setCell], fun k _ hr => Below.heap_setCell _ _ _ _ hr⟩
theorem BelowBut.far {n R C : Nat} {w w' : World} (h : BelowBut n R w w') (hC : n ≤ C) (o : Nat) (v : Value) : BelowBut n R w (w'.setCell ⟨C, o, none⟩ v) :=
 h.trans ⟨rfl, rfl, rfl, by simp [World.setCell], fun k hk _ => Below.heap_setCell _ _ _ _ (by show k ≠ C; omega)⟩
theorem BelowBut.below {n R : Nat} {w w' : World} (h : BelowBut n R w w') {m : Nat} (hm : m ≤ n) (hR : m ≤ R) : Below m w w' := ⟨h.os, h.tape, h.output, h.size, fun k hk => h.block k (by omega) (by omega)⟩
theorem BelowBut.cell {n R : Nat} {w w' : World} (h : BelowBut n R w w') {b o : Nat} (hb : b < n) (hR : b ≠ R) : w'.cell? ⟨b, o, none⟩ = w.cell? ⟨b, o, none⟩ ∧ w'.frozen? ⟨b, o, none⟩ = w.frozen? ⟨b, o, none⟩ :=
 ⟨World.cell?_of_block (h.block b hb hR), World.frozen?_of_block (h.block b hb hR)⟩

theorem BoxW6.but {w W : World} {B R : Nat} {p : P6} (h : BoxW6 w B p) (hB : BelowBut w.heap.size R w W) (hR : B ≠ R) : BoxW6 W B p := by
 have hb := World.block_lt_of_cell? w _ h.c0
 have q := fun o => hB.cell (b := B) (o := o) hb hR
 exact ⟨(q 0).1.trans h.c0, (q 0).2.trans h.f0, (q 1).1.trans h.c1, (q 1).2.trans h.f1, (q 2).1.trans h.c2, (q 2).2.trans h.f2, (q 3).1.trans h.c3, (q 3).2.trans h.f3, (q 4).1.trans h.c4, (q 4).2.trans h.f4, (q 5).1.trans h.c5, (q 5).2.trans h.f5, (q 6).1.trans h.c6, (q 6).2.trans h.f6, (q 7).1.trans h.c7, (q 7).2.trans h.f7, (q 8).1.trans h.c8, (q 8).2.trans h.f8, (q 9).1.trans h.c9, (q 9).2.trans h.f9, (q 10).1.trans h.c10, (q 10).2.trans h.f10⟩
theorem BoxR6.but {w W : World} {B R : Nat} (h : BoxR6 w B) (hB : BelowBut w.heap.size R w W) (hR : B ≠ R) : BoxR6 W B := by
 have hb := World.block_lt_of_cell? w _ h.c0
 have q := fun o => hB.cell (b := B) (o := o) hb hR
 exact ⟨(q 0).1.trans h.c0, (q 0).2.trans h.f0, (q 1).1.trans h.c1, (q 1).2.trans h.f1, (q 2).1.trans h.c2, (q 2).2.trans h.f2, (q 3).1.trans h.c3, (q 3).2.trans h.f3, (q 4).1.trans h.c4, (q 4).2.trans h.f4, (q 5).1.trans h.c5, (q 5).2.trans h.f5, (q 6).1.trans h.c6, (q 6).2.trans h.f6, (q 7).1.trans h.c7, (q 7).2.trans h.f7, (q 8).1.trans h.c8, (q 8).2.trans h.f8, (q 9).1.trans h.c9, (q 9).2.trans h.f9, (q 10).1.trans h.c10, (q 10).2.trans h.f10, (q 11).1.trans h.c11, (q 11).2.trans h.f11⟩
/-- The reader's state behind a call that has changed the cursor alone (perhaps its text too). -/
theorem RS6.but {n : Nat} {w0 w W : World} {R b cap : Nat} {t : ByteArray} {O P k : Nat} {p : P6} (h : RS6 n w0 R b cap t O P w k p) (hB : BelowBut w.heap.size R w W) {b' cap' k' : Nat} {t' : ByteArray} (hc : CurAt W R b' cap' t' k') (h1 : b' ≠ O) (h2 : b' ≠ P) : RS6 n w0 R b' cap' t' O P W k' p := by
 have hn : n ≤ w.heap.size := Nat.le_trans h.nR (Nat.le_of_lt (World.block_lt_of_cell? w _ h.cur.c0))
 exact ⟨hc, h.out.but hB h.RO.symm, h.box.but hB h.RP.symm, h.bel.trans (hB.below hn h.nR), h.nR, h.nP, h.nO, h.RO, h.RP, h.OP, h1, h2⟩

/-- Where withPiece stands: O its result's box, P its packet's. -/
structure WS6 (n : Nat) (w0 : World) (R b cap : Nat) (t : ByteArray) (O P : Nat) (w : World) (k : Nat) (p : P6) : Prop where
 cur : CurAt w R b cap t k
 out : BoxW6 w O p6Zero
 box : BoxW6 w P p
 bel : BelowBut n R w0 w
 nP : n ≤ P
 nO : n ≤ O
 RO : R ≠ O
 RP : R ≠ P
 OP : O ≠ P
 bO : b ≠ O
 bP : b ≠ P
 nw : n ≤ w.heap.size
section
variable {n : Nat} {w0 w W : World} {R b cap : Nat} {t : ByteArray} {O P k : Nat} {p : P6}
theorem WS6.num (h : WS6 n w0 R b cap t O P w k p) (k' : Nat) (hB : Below w.heap.size (w.setCell ⟨R, 1, none⟩ (.int .i64 k')) W) : WS6 n w0 R b cap t O P W k' p := by
 have hz : (w.setCell ⟨R, 1, none⟩ (.int .i64 k')).heap.size = w.heap.size := by simp [World.setCell]
 have hB' : Below (w.setCell ⟨R, 1, none⟩ (.int .i64 k')).heap.size (w.setCell ⟨R, 1, none⟩ (.int .i64 k')) W := by rw [hz]; exact hB
 exact ⟨(h.cur.step k').kept hB', (h.out.other _ h.RO).kept hB', (h.box.other _ h.RP).kept hB', (h.bel.set 1 _).trans ((Below.but hB R).mono h.nw), h.nP, h.nO, h.RO, h.RP, h.OP, h.bO, h.bP, Nat.le_trans h.nw (by rw [← hz]; exact hB'.size)⟩
theorem WS6.setP (h : WS6 n w0 R b cap t O P w k p) {o : Nat} {v : Value} {p' : P6} (hb : BoxW6 (w.setCell ⟨P, o, none⟩ v) P p') : WS6 n w0 R b cap t O P (w.setCell ⟨P, o, none⟩ v) k p' :=
 ⟨h.cur.other _ h.RP.symm h.bP.symm, h.out.other _ h.OP.symm, hb, h.bel.far h.nP _ _, h.nP, h.nO, h.RO, h.RP, h.OP, h.bO, h.bP, by simpa [World.setCell] using h.nw⟩
end
end Go.Proofs.Ytofenlclefkgdaa
