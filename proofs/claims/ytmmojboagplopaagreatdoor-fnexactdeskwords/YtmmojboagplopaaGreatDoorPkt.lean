/- Pkt: packets, as plain functions: when they are right, their bytes, what is read of a text; nothing of the program. -/
import Derived.Test.YtmmojboagplopaaGreatDoorTwo
import Derived.Test.YtmmojboagplopaaGreatDoorText
import Derived.Test.YtmmojboagplopaaGreatDoorSumMath
namespace Go.Proofs.YtmmojboagplopaaGreatDoor
open Go.RowKit Go.PlainAid
set_option linter.unusedVariables false
set_option linter.unusedSimpArgs false

/-- A packet of IPv4. -/
structure P4 where
  tos : Int
  id : Int
  whole : Bool
  more : Bool
  off : Int
  ttl : Int
  proto : Int
  src : ByteArray
  dst : ByteArray
  opts : ByteArray
  data : ByteArray
/-- A packet of IPv6. -/
structure P6 where
  cls : Int
  flow : Int
  next : Int
  hops : Int
  src : ByteArray
  dst : ByteArray
  piece : Bool
  more : Bool
  off : Int
  id : Int
  data : ByteArray

def p4C (p : P4) : Value := .agg #[.int .i64 p.tos, .int .i64 p.id, .bool p.whole, .bool p.more, .int .i64 p.off, .int .i64 p.ttl, .int .i64 p.proto, .string p.src, .string p.dst, .string p.opts, .string p.data]
def p6C (p : P6) : Value := .agg #[.int .i64 p.cls, .int .i64 p.flow, .int .i64 p.next, .int .i64 p.hops, .string p.src, .string p.dst, .bool p.piece, .bool p.more, .int .i64 p.off, .int .i64 p.id, .string p.data]
/-- A packet and a code. -/
def p4CO (p : P4) (code : Int) : Value := .agg #[.int .i64 p.tos, .int .i64 p.id, .bool p.whole, .bool p.more, .int .i64 p.off, .int .i64 p.ttl, .int .i64 p.proto, .string p.src, .string p.dst, .string p.opts, .string p.data, .int .i64 code]
def p6CO (p : P6) (code : Int) : Value := .agg #[.int .i64 p.cls, .int .i64 p.flow, .int .i64 p.next, .int .i64 p.hops, .string p.src, .string p.dst, .bool p.piece, .bool p.more, .int .i64 p.off, .int .i64 p.id, .string p.data, .int .i64 code]

def isIn (n lo hi : Int) : Bool := decide (lo ≤ n) && decide (n ≤ hi)
theorem isIn_parts {n lo hi : Int} (h : isIn n lo hi = true) : lo ≤ n ∧ n ≤ hi := by simpa [isIn] using h
theorem isIn_no {n lo hi : Int} (h : isIn n lo hi = false) : ¬ (lo ≤ n ∧ n ≤ hi) := fun hh => by simp [isIn, hh.1, hh.2] at h

/-- The first test of a packet of IPv4. -/
def v4A (p : P4) : Bool := isIn p.tos 0 255 && isIn p.ttl 0 255 && isIn p.proto 0 255 && isIn p.id 0 65535 && isIn p.off 0 8191 && decide (p.src.size = 4) && decide (p.dst.size = 4)
/-- The second. -/
def v4B (p : P4) : Bool := decide (p.opts.size ≤ 40) && decide (p.opts.size % 4 = 0) && decide (p.data.size ≤ 1400) && !(p.more && !decide (p.data.size % 8 = 0)) && decide (8 * p.off + p.data.size ≤ 65515)
def v4C (p : P4) : Bool := !p.whole || (!p.more && decide (p.off = 0))
def v4Ok (p : P4) : Bool := v4A p && v4B p && v4C p

def v6A (p : P6) : Bool := isIn p.cls 0 255 && isIn p.next 0 255 && isIn p.hops 0 255 && isIn p.flow 0 1048575 && decide (p.src.size = 16) && decide (p.dst.size = 16) && decide (p.data.size ≤ 1400) && !decide (p.next = 44)
def v6B (p : P6) : Bool := if p.piece then isIn p.off 0 8191 && isIn p.id 0 4294967295 && (!p.more || decide (p.data.size % 8 = 0)) && decide (8 * p.off + p.data.size ≤ 65535) else !p.more && decide (p.off = 0) && decide (p.id = 0)
def v6Ok (p : P6) : Bool := v6A p && v6B p

theorem v4A_parts {p : P4} (h : v4A p = true) : (0 ≤ p.tos ∧ p.tos ≤ 255) ∧ (0 ≤ p.ttl ∧ p.ttl ≤ 255) ∧ (0 ≤ p.proto ∧ p.proto ≤ 255) ∧ (0 ≤ p.id ∧ p.id ≤ 65535) ∧ (0 ≤ p.off ∧ p.off ≤ 8191) ∧ p.src.size = 4 ∧ p.dst.size = 4 := by
  unfold v4A at h
  simp only [Bool.and_eq_true, decide_eq_true_iff] at h
  obtain ⟨⟨⟨⟨⟨⟨h1, h2⟩, h3⟩, h4⟩, h5⟩, h6⟩, h7⟩ := h
  exact ⟨isIn_parts h1, isIn_parts h2, isIn_parts h3, isIn_parts h4, isIn_parts h5, h6, h7⟩
theorem v4B_parts {p : P4} (h : v4B p = true) : p.opts.size ≤ 40 ∧ p.opts.size % 4 = 0 ∧ p.data.size ≤ 1400 ∧ (p.more = true → p.data.size % 8 = 0) ∧ 8 * p.off + p.data.size ≤ 65515 := by
  unfold v4B at h
  simp only [Bool.and_eq_true, Bool.not_eq_true', decide_eq_true_iff] at h
  obtain ⟨⟨⟨⟨h1, h2⟩, h3⟩, h4⟩, h5⟩ := h
  refine ⟨h1, h2, h3, fun hm => ?_, h5⟩
  rw [hm, Bool.true_and, Bool.not_eq_false', decide_eq_true_iff] at h4
  exact h4

/-- Two bytes. -/
def pairV (x y : Int) : ByteArray := ⟨#[UInt8.ofNat x.toNat, UInt8.ofNat y.toNat]⟩
theorem pairV_size (x y : Int) : (pairV x y).size = 2 := rfl
theorem pairV_bt (x y : Int) (hx : 0 ≤ x ∧ x ≤ 255) (hy : 0 ≤ y ∧ y ≤ 255) : bt (pairV x y) 0 = x ∧ bt (pairV x y) 1 = y := by
  constructor
  · exact u8_ofNat x hx.1 hx.2
  · exact u8_ofNat y hy.1 hy.2

/-- The number with Off and the two bits ahead of it. -/
def offV (p : P4) : Int := p.off + (if p.whole then 16384 else 0) + (if p.more then 8192 else 0)
def hlen (p : P4) : Int := 20 + p.opts.size
/-- The bytes ahead of the check, and those behind it. -/
def headA (p : P4) : ByteArray := pairV (64 + hlen p / 4) p.tos ++ twoV (hlen p + p.data.size) ++ twoV p.id ++ twoV (offV p) ++ pairV p.ttl p.proto
def headB (p : P4) : ByteArray := p.src ++ p.dst ++ p.opts
def v4Raw (p : P4) : ByteArray := headA p ++ twoV (65535 - sumV (headA p ++ headB p)) ++ headB p ++ p.data
/-- The bytes of a packet of IPv4. -/
def v4BytesV (p : P4) : ByteArray := if v4Ok p then v4Raw p else ⟨#[]⟩

/-- The first four bytes of a packet of IPv6, as a number. -/
def firstN (p : P6) : Int := 6 * 268435456 + p.cls * 1048576 + p.flow
def restV (p : P6) : ByteArray := if p.piece then pairV p.next 0 ++ twoV (8 * p.off + if p.more then 1 else 0) ++ twoV (p.id / 65536) ++ twoV (p.id % 65536) ++ p.data else p.data
def v6Raw (p : P6) : ByteArray := twoV (firstN p / 65536) ++ twoV (firstN p % 65536) ++ twoV (restV p).size ++ pairV (if p.piece then 44 else p.next) p.hops ++ p.src ++ p.dst ++ restV p
def v6BytesV (p : P6) : ByteArray := if v6Ok p then v6Raw p else ⟨#[]⟩

def p4Zero : P4 := ⟨0, 0, false, false, 0, 0, 0, ⟨#[]⟩, ⟨#[]⟩, ⟨#[]⟩, ⟨#[]⟩⟩
def p6Zero : P6 := ⟨0, 0, 0, 0, ⟨#[]⟩, ⟨#[]⟩, false, false, 0, 0, ⟨#[]⟩⟩

/-- What is read of a text as a packet of IPv4: the packet that it would be. -/
def v4Cut (t : ByteArray) : P4 :=
  let h := 4 * (bt t 0 % 16).toNat
  let all := (wordN (bt t) 2).toNat
  let off := wordN (bt t) 6
  ⟨bt t 1, wordN (bt t) 4, decide (off / 16384 % 2 = 1), decide (off / 8192 % 2 = 1), off % 8192, bt t 8, bt t 9, t.extract 12 16, t.extract 16 20, t.extract 20 h, t.extract h all⟩
/-- The code of a text that is read as a packet of IPv4. -/
def v4CodeV (t : ByteArray) : Int :=
  if 20000 < t.size then 2
  else if t.size < 20 then 4
  else if bt t 0 / 16 ≠ 4 ∨ 4 * (bt t 0 % 16) < 20 ∨ wordN (bt t) 2 < 4 * (bt t 0 % 16) ∨ 32768 ≤ wordN (bt t) 6 then 3
  else if (t.size : Int) < wordN (bt t) 2 then 4
  else if sumV (t.extract 0 (4 * (bt t 0 % 16).toNat)) ≠ 65535 then 5
  else if v4Ok (v4Cut t) then 0 else 1
def v4ReadV (t : ByteArray) : P4 := if v4CodeV t = 0 then v4Cut t else p4Zero

/-- What is read of a text as a packet of IPv6. -/
def v6Cut (t : ByteArray) : P6 :=
  let n := (wordN (bt t) 4).toNat
  let first := wordN (bt t) 0 * 65536 + wordN (bt t) 2
  if bt t 6 = 44 then ⟨first / 1048576 % 256, first % 1048576, bt t 40, bt t 7, t.extract 8 24, t.extract 24 40, true, decide (bt t 43 % 2 = 1), wordN (bt t) 42 / 8, wordN (bt t) 44 * 65536 + wordN (bt t) 46, t.extract 48 (40 + n)⟩
  else ⟨first / 1048576 % 256, first % 1048576, bt t 6, bt t 7, t.extract 8 24, t.extract 24 40, false, false, 0, 0, t.extract 40 (40 + n)⟩
def v6CodeV (t : ByteArray) : Int :=
  if 20000 < t.size then 2
  else if t.size < 40 then 4
  else if bt t 0 / 16 ≠ 6 then 3
  else if (t.size : Int) < 40 + wordN (bt t) 4 ∨ (bt t 6 = 44 ∧ wordN (bt t) 4 < 8) then 4
  else if v6Ok (v6Cut t) then 0 else 1
def v6ReadV (t : ByteArray) : P6 := if v6CodeV t = 0 then v6Cut t else p6Zero

end Go.Proofs.YtmmojboagplopaaGreatDoor
