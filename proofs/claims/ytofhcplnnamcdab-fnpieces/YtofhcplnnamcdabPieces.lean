/- Pieces: pieces of packets as plain functions; nothing of the program. -/
import Derived.Test.YtofhcplnnamcdabCarry
namespace Go.Proofs.Ytofhcplnnamcdab
open Go.RowKit Go.PlainAid
set_option linter.unusedVariables false
set_option linter.unusedSimpArgs false

/-- A piece. -/
structure Pc where
  src : ByteArray
  dst : ByteArray
  proto : Int
  id : Int
  off : Int
  more : Bool
  data : ByteArray
  since : Int
def pcC (p : Pc) : Value := .agg #[.string p.src, .string p.dst, .int .i64 p.proto, .int .i64 p.id, .int .i64 p.off, .bool p.more, .string p.data, .int .i64 p.since]
def pcL (p : Pc) : List Value := [.string p.src, .string p.dst, .int .i64 p.proto, .int .i64 p.id, .int .i64 p.off, .bool p.more, .string p.data, .int .i64 p.since]
theorem pcL_length (p : Pc) : (pcL p).length = 8 := rfl
instance : Inhabited Pc := ⟨⟨⟨#[]⟩, ⟨#[]⟩, 0, 0, 0, false, ⟨#[]⟩, 0⟩⟩
def isTime (n : Int) : Bool := isIn n 0 1000000000
def pieceOk (p : Pc) : Bool := pairOk p.src p.dst && isIn p.proto 0 255 && isIn p.id 0 4294967295 && isIn p.off 0 8191 && decide (1 ≤ p.data.size) && decide (p.data.size ≤ 1400) && (!p.more || decide (p.data.size % 8 = 0)) && decide (8 * p.off + p.data.size ≤ 65535) && isTime p.since
/-- Two are of one packet. -/
def onePk (a b : Pc) : Bool := decide (a.src = b.src) && decide (a.dst = b.dst) && decide (a.proto = b.proto) && decide (a.id = b.id)
def endPc (p : Pc) : Int := 8 * p.off + p.data.size
/-- Two of one packet may not be together. -/
def meetPc (a b : Pc) : Bool := (decide (8 * a.off < endPc b) && decide (8 * b.off < endPc a)) || (!a.more && (!b.more || decide (endPc a ≤ 8 * b.off))) || (!b.more && decide (endPc b ≤ 8 * a.off))
def hitPc (a b : Pc) : Bool := onePk a b && meetPc a b
/-- None of the first k ones meets p. -/
def hitN (xs : List Pc) (p : Pc) : Nat → Bool
  | 0 => false
  | k + 1 => hitN xs p k || (match xs[k]? with | some q => hitPc p q | none => false)
/-- The first k ones are right together. -/
def allN (xs : List Pc) : Nat → Bool
  | 0 => true
  | k + 1 => allN xs k && (match xs[k]? with | some p => pieceOk p && !hitN xs p k | none => true)
def allPc (xs : List Pc) : Bool := allN xs xs.length
def piecesOk (xs : List Pc) : Bool := decide (xs.length ≤ 40) && allPc xs
def butPc (xs : List Pc) (p : Pc) : List Pc := xs.filter (fun q => !onePk q p)
def tickPc (xs : List Pc) (now : Int) : List Pc := if decide (xs.length ≤ 400) && piecesOk xs && isTime now then xs.filter (fun q => decide (now < q.since + 30)) else []
/-- The piece that goes on where t bytes end. -/
def nextPc (xs : List Pc) (p : Pc) (t : Nat) : Option Pc := xs.find? (fun q => onePk q p && decide (8 * q.off = (t : Int)))
def wholeF (xs : List Pc) (p : Pc) : Nat → ByteArray → Option ByteArray
  | 0, _ => none
  | f + 1, t => match nextPc xs p t.size with
    | none => none
    | some q => if q.more = true then wholeF xs p f (t ++ q.data) else some (t ++ q.data)
/-- The data of p's packet, if none lacks. -/
def wholePc (xs : List Pc) (p : Pc) : Option ByteArray := wholeF xs p 70000 ⟨#[]⟩
theorem wholeF_none {xs : List Pc} {p : Pc} {f : Nat} {t : ByteArray} (h : nextPc xs p t.size = none) : wholeF xs p f t = none := by
  cases f with
  | zero => rfl
  | succ f => unfold wholeF; rw [h]
theorem wholeF_some {xs : List Pc} {p q : Pc} {f : Nat} {t : ByteArray} (h : nextPc xs p t.size = some q) : wholeF xs p (f + 1) t = if q.more = true then wholeF xs p f (t ++ q.data) else some (t ++ q.data) := by
  show (match nextPc xs p t.size with | none => _ | some q => _) = _
  rw [h]
theorem find_at {α : Type} {p : α → Bool} {xs : List α} {i : Nat} (h : i < xs.length) (hn : (xs.take i).find? p = none) (hp : p xs[i] = true) : xs.find? p = some xs[i] := by
  conv => lhs; rw [← List.take_append_drop i xs]
  rw [List.find?_append, hn, List.drop_eq_getElem_cons h, List.find?_cons_of_pos hp]
  rfl
theorem find_on {α : Type} {p : α → Bool} {xs : List α} {i : Nat} (h : i < xs.length) (hn : (xs.take i).find? p = none) (hp : p xs[i] = false) : (xs.take (i + 1)).find? p = none := by
  rw [List.take_succ_eq_append_getElem h, List.find?_append, hn]
  simp [hp]

/-- The Since of one that is added. -/
def sincePc (xs : List Pc) (p : Pc) (now : Int) : Int := match xs.find? (fun q => onePk q p) with | some q => q.since | none => now
def withS (p : Pc) (s : Int) : Pc := { p with since := s }
structure PcOut where
  pieces : List Pc
  data : ByteArray
  done : Bool
  code : Int
def addIn (xs : List Pc) (p : Pc) (now : Int) : Bool := piecesOk xs && pieceOk p && isTime now
/-- What PieceAdd tells of what is right. -/
def addV (xs : List Pc) (q : Pc) : PcOut :=
  if allPc (xs ++ [q]) = false then ⟨butPc xs q, ⟨#[]⟩, false, 10⟩
  else if 40 ≤ xs.length then ⟨xs, ⟨#[]⟩, false, 9⟩
  else match wholePc (xs ++ [q]) q with
    | some t => ⟨butPc (xs ++ [q]) q, t, true, 0⟩
    | none => ⟨xs ++ [q], ⟨#[]⟩, false, 0⟩
def addPc (xs : List Pc) (p : Pc) (now : Int) : PcOut :=
  if 400 < xs.length then ⟨[], ⟨#[]⟩, false, 2⟩ else if addIn xs p now = false then ⟨[], ⟨#[]⟩, false, 1⟩ else addV xs (withS p (sincePc xs p now))
theorem onePk_withS (q p : Pc) (s : Int) : onePk q (withS p s) = onePk q p := rfl
end Go.Proofs.Ytofhcplnnamcdab
