/- Bibs, Track, Bits, Bibs2, Flat, LawBind, in one text. -/
import Derived.Test.YtllagodlgipcpaaMerged1
import Derived.ChangeArms
import Derived.WideShapes
import Derived.ChangeShapes

/- Bibs: binds, sessions, touches (chapter 9), as plain structures for both sides. -/
namespace Go.Proofs.Ytllagodlgipcpaa
open Go.RowKit
set_option linter.unusedVariables false
set_option linter.unusedSimpArgs false

structure Bd where
 proto : Int
 inn : ByteArray
 inPort : Int
 out : ByteArray
 outPort : Int
def bdC (p : Bd) : Value := .agg #[.int .i64 p.proto, .string p.inn, .int .i64 p.inPort, .string p.out, .int .i64 p.outPort]
def bdL (p : Bd) : List Value := [.int .i64 p.proto, .string p.inn, .int .i64 p.inPort, .string p.out, .int .i64 p.outPort]
theorem bdL_length (p : Bd) : (bdL p).length = 5 := rfl
instance : Inhabited Bd := ⟨⟨0, ⟨#[]⟩, 0, ⟨#[]⟩, 0⟩⟩
structure Ss where
 proto : Int
 inn : ByteArray
 inPort : Int
 peer : ByteArray
 peerPort : Int
 state : Int
 untl : Int
def ssC (p : Ss) : Value := .agg #[.int .i64 p.proto, .string p.inn, .int .i64 p.inPort, .string p.peer, .int .i64 p.peerPort, .int .i64 p.state, .int .i64 p.untl]
def ssL (p : Ss) : List Value := [.int .i64 p.proto, .string p.inn, .int .i64 p.inPort, .string p.peer, .int .i64 p.peerPort, .int .i64 p.state, .int .i64 p.untl]
theorem ssL_length (p : Ss) : (ssL p).length = 7 := rfl
instance : Inhabited Ss := ⟨⟨0, ⟨#[]⟩, 0, ⟨#[]⟩, 0, 0, 0⟩⟩
structure Tc where
 proto : Int
 inside : Bool
 addr : ByteArray
 port : Int
 peer : ByteArray
 peerPort : Int
 flags : Int
def tcC (p : Tc) : Value := .agg #[.int .i64 p.proto, .bool p.inside, .string p.addr, .int .i64 p.port, .string p.peer, .int .i64 p.peerPort, .int .i64 p.flags]
end Go.Proofs.Ytllagodlgipcpaa

/- Track: how connections go (chapter 8), as plain functions for both sides. -/
namespace Go.Proofs.Ytllagodlgipcpaa
open Go.RowKit
set_option linter.unusedVariables false
set_option linter.unusedSimpArgs false

structure Lv where
 udp : Int
 echo : Int
 opening : Int
 opn : Int
 closing : Int
def lvC (l : Lv) : Value := .agg #[.int .i64 l.udp, .int .i64 l.echo, .int .i64 l.opening, .int .i64 l.opn, .int .i64 l.closing]
def lvL (l : Lv) : List Value := [.int .i64 l.udp, .int .i64 l.echo, .int .i64 l.opening, .int .i64 l.opn, .int .i64 l.closing]
def livesOk (l : Lv) : Bool := isIn l.udp 1 10000 && isIn l.echo 1 10000 && isIn l.opening 1 10000 && isIn l.opn 1 10000 && isIn l.closing 1 10000
def stillP (proto : Int) : Bool := decide (proto = 17) || decide (proto = 1)
/-- A flag of a byte. -/
def flagB (flags : Int) (m : Int) : Bool := decide (bits .and .i64 flags m ≠ 0)
def trackNewV (proto : Int) (inside : Bool) (flags : Int) : Int :=
 if isIn flags 0 255 = false then 0 else if stillP proto = true then 3
 else if proto = 6 ∧ flagB flags 2 = true ∧ flagB flags 4 = false ∧ flagB flags 16 = false then (if inside = true then 1 else 2) else 0
def trackNextV (proto state : Int) (inside : Bool) (flags : Int) : Int :=
 if stillP proto = true then 3
 else if proto = 6 ∧ isIn state 1 7 = true ∧ isIn flags 0 255 = true then
  if flagB flags 4 = true then 7
  else if state = 1 then (if inside = false ∧ flagB flags 2 = true then 3 else 1)
  else if state = 2 then (if inside = true ∧ flagB flags 2 = true then 3 else 2)
  else if state = 3 then (if flagB flags 1 = true then (if inside = true then 4 else 5) else 3)
  else if state = 4 then (if inside = false ∧ flagB flags 1 = true then 6 else 4)
  else if state = 5 then (if inside = true ∧ flagB flags 1 = true then 6 else 5)
  else if state = 7 then 3 else state
 else 0
def trackLifeV (l : Lv) (proto state : Int) : Int :=
 if livesOk l = false then 0
 else if proto = 17 then l.udp else if proto = 1 then l.echo else if proto = 6 then
  (if state = 1 ∨ state = 2 then l.opening else if state = 3 ∨ state = 4 ∨ state = 5 then l.opn else if state = 6 ∨ state = 7 then l.closing else 0)
 else 0
end Go.Proofs.Ytllagodlgipcpaa

/- Addresses and their bits: what the specification's AddrRight, l02Bits and l02Bit answer. -/
namespace Go.Proofs.Ytllagodlgipcpaa
open Go.RowKit Go.PlainAid
set_option linter.unusedVariables false
set_option linter.unusedSimpArgs false

/-- Is a text an address? -/
def addrOk (s : ByteArray) : Bool := s.size == 4 || s.size == 16

theorem addrOk_size {s : ByteArray} (h : addrOk s = true) : s.size = 4 ∨ s.size = 16 := by simpa [addrOk] using h
theorem addrOk_yes {s : ByteArray} (h : s.size = 4 ∨ s.size = 16) : addrOk s = true := by simpa [addrOk] using h
theorem addrOk_no {s : ByteArray} (h : ¬ (s.size = 4 ∨ s.size = 16)) : addrOk s = false := by
 rw [Bool.eq_false_iff]; intro hh; exact h (addrOk_size hh)

theorem specAddrRight_any (s : ByteArray) (w : World) :
  Calls Try.prog 28 #[.string s] w fun e w' => e = .returned (.bool (addrOk s)) ∧ w' = w := by
 by_cases h4 : s.size = 4
 ·have HV : Hid (addrOk s = true) := addrOk_yes (.inl h4)
  have h4' : (s.size : Int) = 4 := by omega
  clear h4
  go_enter Try.func28, Try.ntmps28
  go_wp2
  go_ret
  exact ⟨ret_bool HV.out.symm, rfl⟩
 ·by_cases h16 : s.size = 16
  ·have HV : Hid (addrOk s = true) := addrOk_yes (.inr h16)
   have h16' : (s.size : Int) = 16 := by omega
   clear h16 h4
   go_enter Try.func28, Try.ntmps28
   go_wp2
   go_ret
   exact ⟨ret_bool HV.out.symm, rfl⟩
  ·have HV : Hid (addrOk s = false) := addrOk_no (by omega)
   have e1 : ((s.size : Int) == 4) = false := by simp; omega
   have e2 : ((s.size : Int) == 16) = false := by simp; omega
   go_enter Try.func28, Try.ntmps28
   go_wp2
   go_ret
   exact ⟨ret_bool HV.out.symm, rfl⟩


end Go.Proofs.Ytllagodlgipcpaa

/- Bibs2: pools and bibs (chapter 9), what is right of them and what is done with them, as plain functions for both sides. -/
namespace Go.Proofs.Ytllagodlgipcpaa
open Go.RowKit
set_option linter.unusedVariables false
set_option linter.unusedSimpArgs false

structure Pl where
 addrs : List ByteArray
 low : Int
 high : Int
 most : Int
 filter : Int
 lv : Lv
def plL (a : Option Addr) (cap : Nat) (p : Pl) : List Value := [.slice a p.addrs.length cap, .int .i64 p.low, .int .i64 p.high, .int .i64 p.most, .int .i64 p.filter, .int .i64 p.lv.udp, .int .i64 p.lv.echo, .int .i64 p.lv.opening, .int .i64 p.lv.opn, .int .i64 p.lv.closing]
def plC (a : Option Addr) (cap : Nat) (p : Pl) : Value := .agg #[.slice a p.addrs.length cap, .int .i64 p.low, .int .i64 p.high, .int .i64 p.most, .int .i64 p.filter, .int .i64 p.lv.udp, .int .i64 p.lv.echo, .int .i64 p.lv.opening, .int .i64 p.lv.opn, .int .i64 p.lv.closing]
structure Bb where
 binds : List Bd
 sess : List Ss
def bbC (a b : Option Addr) (ca cb : Nat) (x : Bb) : Value := .agg #[.slice a x.binds.length ca, .slice b x.sess.length cb]

def strL1 (s : ByteArray) : List Value := [.string s]
def protoB (proto : Int) : Bool := decide (proto = 6) || decide (proto = 17) || decide (proto = 1)
def inL (xs : List ByteArray) (s : ByteArray) : Bool := xs.any fun t => decide (t.toList = s.toList)
def findI {α : Type} (f : α → Bool) (xs : List α) : Int := match xs.findIdx? f with | some i => i | none => -1
def ofIn (proto : Int) (s : ByteArray) (port : Int) (q : Bd) : Bool := decide (q.proto = proto) && decide (q.inn.toList = s.toList) && decide (q.inPort = port)
def ofOut (proto : Int) (s : ByteArray) (port : Int) (q : Bd) : Bool := decide (q.proto = proto) && decide (q.out.toList = s.toList) && decide (q.outPort = port)
def hasS (p : Bd) (q : Ss) : Bool := decide (p.proto = q.proto) && decide (p.inn.toList = q.inn.toList) && decide (p.inPort = q.inPort)

/-- What is asked of each item, ahead of it those before, as far as n. -/
def upN {α : Type} (f : List α → α → Bool) (xs : List α) : Nat → Bool
 | 0 => true
 | n + 1 => upN f xs n && (match xs[n]? with | some x => f (xs.take n) x | none => true)
theorem upN_step {α : Type} {f : List α → α → Bool} {xs : List α} {n : Nat} (h : n < xs.length) : upN f xs (n + 1) = (upN f xs n && f (xs.take n) xs[n]) := by
 show (upN f xs n && _) = _
 rw [List.getElem?_eq_getElem h]
theorem upN_false {α : Type} {f : List α → α → Bool} {xs : List α} : ∀ {m n : Nat}, n ≤ m → upN f xs n = false → upN f xs m = false
 | 0, n, h, hf => by have e : n = 0 := (by omega); rw [e] at hf; exact hf
 | m + 1, n, h, hf => by
  by_cases e : n = m + 1
  ·subst e; exact hf
  ·show (upN f xs m && _) = false
   rw [upN_false (m := m) (n := n) (by omega) hf]; rfl
theorem upN_at {α : Type} {f : List α → α → Bool} {xs : List α} {i : Nat} (h : i < xs.length) (hf : f (xs.take i) xs[i] = false) : upN f xs xs.length = false := by
 refine upN_false (n := i + 1) (by omega) ?_
 rw [upN_step h, hf, Bool.and_false]

def addrOne (ys : List ByteArray) (s : ByteArray) : Bool := decide (s.size = 4) && !inL ys s
def poolOk (p : Pl) : Bool := decide (1 ≤ p.addrs.length) && decide (p.addrs.length ≤ 8) && decide (1 ≤ p.low) && decide (p.low ≤ p.high) && decide (p.high ≤ 65535) && isIn p.most 1 60 && isIn p.filter 0 2 && livesOk p.lv && upN addrOne p.addrs p.addrs.length

/-- Two binds that one bib may not have. -/
def clashB (c b : Bd) : Bool := (decide (c.inn.toList = b.inn.toList) && !decide (c.out.toList = b.out.toList)) || (decide (c.proto = b.proto) && ((decide (c.inn.toList = b.inn.toList) && decide (c.inPort = b.inPort)) || (decide (c.out.toList = b.out.toList) && decide (c.outPort = b.outPort))))
def bindOne (p : Pl) (ys : List Bd) (b : Bd) : Bool := protoB b.proto && addrOk b.inn && isW b.inPort && inL p.addrs b.out && isIn b.outPort p.low p.high && !ys.any fun c => clashB c b
/-- Two sessions that are one. -/
def sameS (s t : Ss) : Bool := decide (s.proto = t.proto) && decide (s.inn.toList = t.inn.toList) && decide (s.inPort = t.inPort) && decide (s.peer.toList = t.peer.toList) && decide (s.peerPort = t.peerPort)
def sessOne (bs : List Bd) (ys : List Ss) (s : Ss) : Bool := decide (s.peer.size = 4) && isW s.peerPort && isIn s.state 1 7 && (decide (s.proto = 6) || decide (s.state = 3)) && isIn s.untl 0 2000000000 && decide (0 ≤ findI (ofIn s.proto s.inn s.inPort) bs) && !ys.any fun t => sameS s t
def bibOk (p : Pl) (b : Bb) : Bool := poolOk p && decide ((b.sess.length : Int) ≤ p.most) && decide (b.binds.length ≤ 60) && upN (bindOne p) b.binds b.binds.length && upN (sessOne b.binds) b.sess b.sess.length && b.binds.all fun x => b.sess.any fun s => hasS x s

end Go.Proofs.Ytllagodlgipcpaa

/- Flat: structs of one-cell fields: opened, their boxes; what is left behind texts. -/
namespace Go.Proofs.Ytllagodlgipcpaa
open Go.RowKit Go.ChangeShapes Go.WideShapes
set_option linter.unusedVariables false
set_option linter.unusedSimpArgs false

def In64t (n : Int) : Prop := -9223372036854775808 ≤ n ∧ n ≤ 9223372036854775807
theorem cell_new {w : World} {cs : Array Value} {t : TypeId} {j : Nat} {v : Value} (h : cs[j]? = some v) : (w.alloc (.cells cs t)).cell? ⟨w.heap.size, j, none⟩ = some v := by
 simp [h]

section
variable {H : Type} {enc : TypeId × Value → H} {P : Program} {w : World} {base : Nat} {spare : Nat → Bool} {held : Bool}
end

end Go.Proofs.Ytllagodlgipcpaa

/- LawBind: the laws' helpers for Bind, its box, and one that came in, opened. Printed by mkflat.py. -/
namespace Go.Proofs.Ytllagodlgipcpaa
open Go.RowKit Go.PlainAid Go.ChangeShapes Go.WideShapes
set_option linter.unusedVariables false
set_option linter.unusedSimpArgs false

/-- It lies in a block. -/
structure BoxBind (w : World) (B : Nat) (p : Bd) : Prop where
 c0 : w.cell? ⟨B, 0, none⟩ = some (.int .i64 p.proto)
 c1 : w.cell? ⟨B, 1, none⟩ = some (.string p.inn)
 c2 : w.cell? ⟨B, 2, none⟩ = some (.int .i64 p.inPort)
 c3 : w.cell? ⟨B, 3, none⟩ = some (.string p.out)
 c4 : w.cell? ⟨B, 4, none⟩ = some (.int .i64 p.outPort)
theorem BoxBind.kept {w W : World} {B : Nat} {p : Bd} (h : BoxBind w B p) (hB : Below w.heap.size w W) : BoxBind W B p := by
 have hb := World.block_lt_of_cell? w _ h.c0
 exact ⟨((bcell hB).1 B 0 hb).trans h.c0, ((bcell hB).1 B 1 hb).trans h.c1, ((bcell hB).1 B 2 hb).trans h.c2, ((bcell hB).1 B 3 hb).trans h.c3, ((bcell hB).1 B 4 hb).trans h.c4⟩
theorem BoxBind.new (w : World) (p : Bd) {t : TypeId} : BoxBind (w.alloc (.cells #[.int .i64 p.proto, .string p.inn, .int .i64 p.inPort, .string p.out, .int .i64 p.outPort] t)) w.heap.size p := ⟨cell_new rfl, cell_new rfl, cell_new rfl, cell_new rfl, cell_new rfl⟩





end Go.Proofs.Ytllagodlgipcpaa
