/- Pieces, SFlow, LawPiece, SPiece, in one text. -/
import Derived.Test.YtkakehchiadpbamK6
import Derived.Test.YtkakehchiadpbamK1
import Derived.BigQuiet
import Derived.Deep.DeepCutAuto
import Derived.Test.YtkakehchiadpbamSV4

/- Pieces: pieces of packets as plain functions; nothing of the program. -/
namespace Go.Proofs.Ytkakehchiadpbam
open Go.RowKit Go.PlainAid
set_option linter.unusedVariables false
set_option linter.unusedSimpArgs false

/-- A piece. -/
structure Pc where
  src : ByteArray
  dst : ByteArray
  proto : Int
  id : Int
  off : Int
  more : Bool
  data : ByteArray
  since : Int
def pcC (p : Pc) : Value := .agg #[.string p.src, .string p.dst, .int .i64 p.proto, .int .i64 p.id, .int .i64 p.off, .bool p.more, .string p.data, .int .i64 p.since]
def pcL (p : Pc) : List Value := [.string p.src, .string p.dst, .int .i64 p.proto, .int .i64 p.id, .int .i64 p.off, .bool p.more, .string p.data, .int .i64 p.since]
theorem pcL_length (p : Pc) : (pcL p).length = 8 := rfl
instance : Inhabited Pc := ⟨⟨⟨#[]⟩, ⟨#[]⟩, 0, 0, 0, false, ⟨#[]⟩, 0⟩⟩
def isTime (n : Int) : Bool := isIn n 0 1000000000
def pieceOk (p : Pc) : Bool := pairOk p.src p.dst && isIn p.proto 0 255 && isIn p.id 0 4294967295 && isIn p.off 0 8191 && decide (1 ≤ p.data.size) && decide (p.data.size ≤ 1400) && (!p.more || decide (p.data.size % 8 = 0)) && decide (8 * p.off + p.data.size ≤ 65535) && isTime p.since
/-- Two are of one packet. -/
def onePk (a b : Pc) : Bool := decide (a.src = b.src) && decide (a.dst = b.dst) && decide (a.proto = b.proto) && decide (a.id = b.id)
def endPc (p : Pc) : Int := 8 * p.off + p.data.size
/-- Two of one packet may not be together. -/
def meetPc (a b : Pc) : Bool := (decide (8 * a.off < endPc b) && decide (8 * b.off < endPc a)) || (!a.more && (!b.more || decide (endPc a ≤ 8 * b.off))) || (!b.more && decide (endPc b ≤ 8 * a.off))
def hitPc (a b : Pc) : Bool := onePk a b && meetPc a b
/-- None of the first k ones meets p. -/
def hitN (xs : List Pc) (p : Pc) : Nat → Bool
  | 0 => false
  | k + 1 => hitN xs p k || (match xs[k]? with | some q => hitPc p q | none => false)
/-- The first k ones are right together. -/
def allN (xs : List Pc) : Nat → Bool
  | 0 => true
  | k + 1 => allN xs k && (match xs[k]? with | some p => pieceOk p && !hitN xs p k | none => true)
def allPc (xs : List Pc) : Bool := allN xs xs.length
def piecesOk (xs : List Pc) : Bool := decide (xs.length ≤ 40) && allPc xs
def butPc (xs : List Pc) (p : Pc) : List Pc := xs.filter (fun q => !onePk q p)
def tickPc (xs : List Pc) (now : Int) : List Pc := if decide (xs.length ≤ 400) && piecesOk xs && isTime now then xs.filter (fun q => decide (now < q.since + 30)) else []
/-- The piece that goes on where t bytes end. -/
def nextPc (xs : List Pc) (p : Pc) (t : Nat) : Option Pc := xs.find? (fun q => onePk q p && decide (8 * q.off = (t : Int)))
def wholeF (xs : List Pc) (p : Pc) : Nat → ByteArray → Option ByteArray
  | 0, _ => none
  | f + 1, t => match nextPc xs p t.size with
    | none => none
    | some q => if q.more = true then wholeF xs p f (t ++ q.data) else some (t ++ q.data)
/-- The data of p's packet, if none lacks. -/
def wholePc (xs : List Pc) (p : Pc) : Option ByteArray := wholeF xs p 70000 ⟨#[]⟩
theorem wholeF_none {xs : List Pc} {p : Pc} {f : Nat} {t : ByteArray} (h : nextPc xs p t.size = none) : wholeF xs p f t = none := by
  cases f with
  | zero => rfl
  | succ f => unfold wholeF; rw [h]
theorem wholeF_some {xs : List Pc} {p q : Pc} {f : Nat} {t : ByteArray} (h : nextPc xs p t.size = some q) : wholeF xs p (f + 1) t = if q.more = true then wholeF xs p f (t ++ q.data) else some (t ++ q.data) := by
  show (match nextPc xs p t.size with | none => _ | some q => _) = _
  rw [h]
theorem find_at {α : Type} {p : α → Bool} {xs : List α} {i : Nat} (h : i < xs.length) (hn : (xs.take i).find? p = none) (hp : p xs[i] = true) : xs.find? p = some xs[i] := by
  conv => lhs; rw [← List.take_append_drop i xs]
  rw [List.find?_append, hn, List.drop_eq_getElem_cons h, List.find?_cons_of_pos hp]
  rfl
theorem find_on {α : Type} {p : α → Bool} {xs : List α} {i : Nat} (h : i < xs.length) (hn : (xs.take i).find? p = none) (hp : p xs[i] = false) : (xs.take (i + 1)).find? p = none := by
  rw [List.take_succ_eq_append_getElem h, List.find?_append, hn]
  simp [hp]

/-- The Since of one that is added. -/
def sincePc (xs : List Pc) (p : Pc) (now : Int) : Int := match xs.find? (fun q => onePk q p) with | some q => q.since | none => now
def withS (p : Pc) (s : Int) : Pc := { p with since := s }
structure PcOut where
  pieces : List Pc
  data : ByteArray
  done : Bool
  code : Int
def addIn (xs : List Pc) (p : Pc) (now : Int) : Bool := piecesOk xs && pieceOk p && isTime now
/-- What PieceAdd tells of what is right. -/
def addV (xs : List Pc) (q : Pc) : PcOut :=
  if allPc (xs ++ [q]) = false then ⟨butPc xs q, ⟨#[]⟩, false, 10⟩
  else if 40 ≤ xs.length then ⟨xs, ⟨#[]⟩, false, 9⟩
  else match wholePc (xs ++ [q]) q with
    | some t => ⟨butPc (xs ++ [q]) q, t, true, 0⟩
    | none => ⟨xs ++ [q], ⟨#[]⟩, false, 0⟩
def addPc (xs : List Pc) (p : Pc) (now : Int) : PcOut :=
  if 400 < xs.length then ⟨[], ⟨#[]⟩, false, 2⟩ else if addIn xs p now = false then ⟨[], ⟨#[]⟩, false, 1⟩ else addV xs (withS p (sincePc xs p now))
theorem onePk_withS (q p : Pc) (s : Int) : onePk q (withS p s) = onePk q p := rfl
end Go.Proofs.Ytkakehchiadpbam

/- SFlow: what the specification's l05Pair, l05Echo, l05Proto, FlowRight and TcpFlags answer. -/
namespace Go.Proofs.Ytkakehchiadpbam
open Go.RowKit Go.PlainAid
set_option linter.unusedVariables false
set_option linter.unusedSimpArgs false





end Go.Proofs.Ytkakehchiadpbam

/- LawPiece: the laws' helpers for Piece, its box, and one that came in, opened. Printed by mkflat.py. -/
namespace Go.Proofs.Ytkakehchiadpbam
open Go.RowKit Go.PlainAid Go.ChangeShapes Go.WideShapes
set_option linter.unusedVariables false
set_option linter.unusedSimpArgs false

theorem arr8 {α : Type} {cs : Array α} (h : cs.size = 8) : ∃ c0 c1 c2 c3 c4 c5 c6 c7, cs = #[c0, c1, c2, c3, c4, c5, c6, c7] := by
  obtain ⟨l⟩ := cs
  match l, h with
  | [c0, c1, c2, c3, c4, c5, c6, c7], _ => exact ⟨c0, c1, c2, c3, c4, c5, c6, c7, rfl⟩

/-- As memory may hold it. -/
def PcWf (p : Pc) : Prop := p.src.size ≤ maxLen ∧ p.dst.size ≤ maxLen ∧ In64t p.proto ∧ In64t p.id ∧ In64t p.off ∧ p.data.size ≤ maxLen ∧ In64t p.since
/-- Its texts are in the laws' limits. -/
def PcSm (p : Pc) : Prop := p.src.size ≤ 1048576 ∧ p.dst.size ≤ 1048576 ∧ p.data.size ≤ 1048576
def szPieceV (p : Pc) : Int := szN [p.src.size, p.dst.size, p.data.size] 1048576
theorem szPiece_in {p : Pc} (h : 0 ≤ szPieceV p) : PcSm p := by
  have hb := szN_bound _ _ h
  exact ⟨by have := hb p.src.size (by simp); omega, by have := hb p.dst.size (by simp); omega, by have := hb p.data.size (by simp); omega⟩
/-- It lies in a block. -/
structure BoxPiece (w : World) (B : Nat) (p : Pc) : Prop where
  c0 : w.cell? ⟨B, 0, none⟩ = some (.string p.src)
  c1 : w.cell? ⟨B, 1, none⟩ = some (.string p.dst)
  c2 : w.cell? ⟨B, 2, none⟩ = some (.int .i64 p.proto)
  c3 : w.cell? ⟨B, 3, none⟩ = some (.int .i64 p.id)
  c4 : w.cell? ⟨B, 4, none⟩ = some (.int .i64 p.off)
  c5 : w.cell? ⟨B, 5, none⟩ = some (.bool p.more)
  c6 : w.cell? ⟨B, 6, none⟩ = some (.string p.data)
  c7 : w.cell? ⟨B, 7, none⟩ = some (.int .i64 p.since)
theorem BoxPiece.kept {w W : World} {B : Nat} {p : Pc} (h : BoxPiece w B p) (hB : Below w.heap.size w W) : BoxPiece W B p := by
  have hb := World.block_lt_of_cell? w _ h.c0
  exact ⟨((bcell hB).1 B 0 hb).trans h.c0, ((bcell hB).1 B 1 hb).trans h.c1, ((bcell hB).1 B 2 hb).trans h.c2, ((bcell hB).1 B 3 hb).trans h.c3, ((bcell hB).1 B 4 hb).trans h.c4, ((bcell hB).1 B 5 hb).trans h.c5, ((bcell hB).1 B 6 hb).trans h.c6, ((bcell hB).1 B 7 hb).trans h.c7⟩
theorem BoxPiece.new (w : World) (p : Pc) {t : TypeId} : BoxPiece (w.alloc (.cells #[.string p.src, .string p.dst, .int .i64 p.proto, .int .i64 p.id, .int .i64 p.off, .bool p.more, .string p.data, .int .i64 p.since] t)) w.heap.size p := ⟨cell_new rfl, cell_new rfl, cell_new rfl, cell_new rfl, cell_new rfl, cell_new rfl, cell_new rfl, cell_new rfl⟩





end Go.Proofs.Ytkakehchiadpbam

/- SPiece: what the specification's PieceRight, l06Time, l06One, l06End and l06Meet answer. -/
namespace Go.Proofs.Ytkakehchiadpbam
open Go.RowKit Go.PlainAid
set_option linter.unusedVariables false
set_option linter.unusedSimpArgs false

theorem spTime_any (n : Int) (w : World) :
    Calls Try.prog 19 #[.int .i64 n] w fun e w' => e = .returned (.bool (isTime n)) ∧ w' = w := by
  by_cases h1 : 0 ≤ n
  · by_cases h2 : n ≤ 1000000000
    · have HV : Hid (isTime n = true) := by unfold Hid isTime isIn; simp [h1, h2]
      go_enter Try.func19, Try.ntmps19
      go_wp2_with fail
      go_ret
      exact ⟨ret_bool (by rw [HV.out]), rfl⟩
    · have HV : Hid (isTime n = false) := by unfold Hid isTime isIn; simp [h2]
      go_enter Try.func19, Try.ntmps19
      go_wp2_with fail
      go_ret
      exact ⟨ret_bool (by rw [HV.out]), rfl⟩
  · have HV : Hid (isTime n = false) := by unfold Hid isTime isIn; simp [h1]
    have h1' : n < 0 := by omega
    go_enter Try.func19, Try.ntmps19
    go_wp2_with fail
    go_ret
    exact ⟨ret_bool (by rw [HV.out]), rfl⟩



/-- Two boxes of pieces. -/
theorem two_pieces (w : World) {o1 o2 : Obj} : Below w.heap.size w ((w.alloc o1).alloc o2) := ((Below.refl _ _).alloc (Nat.le_refl _) _).alloc (by simp) _
theorem ba_dec (a b : ByteArray) : decide (a.toList = b.toList) = decide (a = b) := by
  rw [Bool.eq_iff_iff, decide_eq_true_iff, decide_eq_true_iff]
  exact ⟨fun h => by rw [ByteArray.toList_eq, ByteArray.toList_eq] at h; exact ByteArray.ext (Array.toList_inj.1 h), fun h => by rw [h]⟩

end Go.Proofs.Ytkakehchiadpbam
