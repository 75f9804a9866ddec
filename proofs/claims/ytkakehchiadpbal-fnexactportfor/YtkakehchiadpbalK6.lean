/- Carry, ABit, LawFlow, IFlow, in one text. -/
import Derived.Test.YtkakehchiadpbalK3
import Derived.Test.YtkakehchiadpbalK4
import Derived.Test.YtkakehchiadpbalK1
import Derived.Test.YtkakehchiadpbalK2
import Derived.BigQuiet
import Derived.Deep.DeepCutAuto

/- Carry: what packets carry, as plain functions: flows, sums with their pseudo header, what is set; nothing of the program. -/
namespace Go.Proofs.Ytkakehchiadpbal
open Go.RowKit Go.PlainAid
set_option linter.unusedVariables false
set_option linter.unusedSimpArgs false

/-- A flow. -/
structure Fl where
  proto : Int
  src : ByteArray
  dst : ByteArray
  sp : Int
  dp : Int
def fwC (f : Fl) : Value := .agg #[.int .i64 f.proto, .string f.src, .string f.dst, .int .i64 f.sp, .int .i64 f.dp]
/-- A flow and a code. -/
def fwCO (f : Fl) (code : Int) : Value := .agg #[.int .i64 f.proto, .string f.src, .string f.dst, .int .i64 f.sp, .int .i64 f.dp, .int .i64 code]
def flZero : Fl := ⟨0, ⟨#[]⟩, ⟨#[]⟩, 0, 0⟩

/-- Two addresses of as many bytes. -/
def pairOk (s d : ByteArray) : Bool := addrOk s && decide (s.size = d.size)
def echoP (p : Int) : Bool := decide (p = 1) || decide (p = 58)
/-- May a flow of addresses of so many bytes be of this proto? -/
def protoOk (p : Int) (n : Nat) : Bool := decide (p = 6) || decide (p = 17) || (decide (p = 1) && decide (n = 4)) || (decide (p = 58) && decide (n = 16))
def flowOk (f : Fl) : Bool := pairOk f.src f.dst && protoOk f.proto f.src.size && isW f.sp && isW f.dp && (!echoP f.proto || decide (f.sp = f.dp))

theorem pairOk_parts {s d : ByteArray} (h : pairOk s d = true) : (s.size = 4 ∨ s.size = 16) ∧ d.size = s.size := by
  unfold pairOk at h
  rw [Bool.and_eq_true, decide_eq_true_iff] at h
  exact ⟨addrOk_size h.1, h.2.symm⟩

/-- Data too short for their proto. -/
def shortP (p : Int) (t : ByteArray) : Bool := (decide (p = 6) && (decide (t.size < 20) || decide (bt t 12 / 16 < 5) || decide ((t.size : Int) < 4 * (bt t 12 / 16)))) || decide (t.size < 8)
def askP (p : Int) : Int := if p = 58 then 128 else 8
def ansP (p : Int) : Int := if p = 58 then 129 else 0
/-- The code of what a flow's data tell, between addresses that are right. -/
def ofCode (n : Nat) (p : Int) (t : ByteArray) : Int :=
  if protoOk p n = false then 11
  else if shortP p t = true then 4
  else if echoP p = true then (if (bt t 0 ≠ askP p ∧ bt t 0 ≠ ansP p) ∨ bt t 1 ≠ 0 then 11 else 0)
  else 0
def ofFl (s d : ByteArray) (p : Int) (t : ByteArray) : Fl :=
  if ofCode s.size p t = 0 then (if echoP p = true then ⟨p, s, d, wordN (bt t) 4, wordN (bt t) 4⟩ else ⟨p, s, d, wordN (bt t) 0, wordN (bt t) 2⟩)
  else ⟨p, s, d, 0, 0⟩
def flowCode (s d : ByteArray) (p : Int) (t : ByteArray) : Int :=
  if 20000 < t.size ∨ 20000 < s.size ∨ 20000 < d.size then 2 else if pairOk s d = false then 1 else ofCode s.size p t
def flowOfV (s d : ByteArray) (p : Int) (t : ByteArray) : Fl := if flowCode s d p t = 0 then ofFl s d p t else flZero

/-- Four bytes, the two in the middle 0. -/
def quadW (x y : Int) : ByteArray := ⟨#[UInt8.ofNat x.toNat, 0, 0, UInt8.ofNat y.toNat]⟩
theorem quadW_size (x y : Int) : (quadW x y).size = 4 := rfl
/-- The pseudo header. -/
def pseudoV (s d : ByteArray) (p : Int) (n : Nat) : ByteArray :=
  if p = 1 ∧ s.size = 4 then ⟨#[]⟩
  else if s.size = 4 then s ++ d ++ pairV 0 p ++ twoV (n : Int)
  else s ++ d ++ twoV ((n : Int) / 65536) ++ twoV ((n : Int) % 65536) ++ quadW 0 p
def cSum (s d : ByteArray) (p : Int) (t : ByteArray) : Int := sumV (pseudoV s d p t.size ++ t)
/-- What is summed at all. -/
def cIn (s d : ByteArray) (p : Int) (t : ByteArray) : Bool := decide (t.size ≤ 20000) && decide (s.size ≤ 20000) && decide (d.size ≤ 20000) && pairOk s d && isIn p 0 255
def carrySumV (s d : ByteArray) (p : Int) (t : ByteArray) : Int := if cIn s d p t = true then cSum s d p t else 0
def carryOk (s d : ByteArray) (p : Int) (t : ByteArray) : Bool := cIn s d p t && (decide (cSum s d p t = 65535) || (decide (p = 17) && decide (s.size = 4) && decide (8 ≤ t.size) && decide (wordN (bt t) 6 = 0)))

theorem pseudoV_size (s d : ByteArray) (p : Int) (n : Nat) (hs : s.size ≤ 16) (hd : d.size ≤ 16) : (pseudoV s d p n).size ≤ 40 := by
  unfold pseudoV
  split
  · exact Nat.zero_le _
  · split
    · simp only [ByteArray.size_append, pairV_size, twoV_size]; omega
    · simp only [ByteArray.size_append, twoV_size, quadW_size]; omega

/-- A text laid over bytes. -/
def putV (t : ByteArray) (k : Nat) (u : ByteArray) : ByteArray := t.extract 0 k ++ u ++ t.extract (k + u.size) t.size
theorem putV_size {t u : ByteArray} {k : Nat} (h : k + u.size ≤ t.size) : (putV t k u).size = t.size := by
  unfold putV; simp only [ByteArray.size_append, ByteArray.size_extract]; omega
def checkP (p : Int) : Nat := if p = 6 then 16 else if p = 17 then 6 else 2
/-- What of a flow stands in a check's sum. -/
def partV (f : Fl) (t : ByteArray) : ByteArray := (if echoP f.proto = true then t.extract 0 2 ++ t.extract 4 6 else t.extract 0 4) ++ pseudoV f.src f.dst f.proto t.size
def swapV (b : Int) : Int := if b = 8 then 128 else if b = 0 then 129 else if b = 128 then 8 else 0
def firstV8 (f g : Fl) (t : ByteArray) : Int := if f.proto ≠ g.proto then swapV (bt t 0) else bt t 0
def oneV (x : Int) : ByteArray := ⟨#[UInt8.ofNat x.toNat]⟩
/-- Data with another flow's ports, the check as it was. -/
def setOut (f g : Fl) (t : ByteArray) : ByteArray :=
  if echoP f.proto = true then putV (putV t 0 (oneV (firstV8 f g t))) 4 (twoV g.sp) else putV t 0 (twoV g.sp ++ twoV g.dp)
/-- The new check. -/
def newCheck (f g : Fl) (t : ByteArray) : Int :=
  let n := 65535 - add1 (add1 (65535 - wordN (bt t) (checkP f.proto)) (65535 - sumV (partV f t))) (sumV (partV g (setOut f g t)))
  if n = 0 then 65535 else n
def bareUdp (f : Fl) (t : ByteArray) : Bool := decide (f.proto = 17) && decide (wordN (bt t) (checkP f.proto) = 0) && decide (f.src.size = 4)
def setIn (f g : Fl) (t : ByteArray) : Bool := flowOk f && flowOk g && (decide (f.proto = g.proto) || (echoP f.proto && echoP g.proto)) && decide (ofCode f.src.size f.proto t = 0) && decide ((ofFl f.src f.dst f.proto t).sp = f.sp) && decide ((ofFl f.src f.dst f.proto t).dp = f.dp)
def setCode (f g : Fl) (t : ByteArray) : Int :=
  if 20000 < t.size then 2 else if setIn f g t = false then 1 else if bareUdp f t = true ∧ g.src.size = 16 then 5 else 0
def setData (f g : Fl) (t : ByteArray) : ByteArray :=
  if setCode f g t = 0 then (if bareUdp f t = true then setOut f g t else putV (setOut f g t) (checkP f.proto) (twoV (newCheck f g t))) else ⟨#[]⟩
def dtCO (t : ByteArray) (code : Int) : Value := .agg #[.string t, .int .i64 code]
def tcpFlagsV (t : ByteArray) : Int := if 20000 < t.size ∨ t.size < 20 then 0 else bt t 13
end Go.Proofs.Ytkakehchiadpbal

/- AddrRight and AddrBit: what the program's answer, and the specification's AddrBit. -/
namespace Go.Proofs.Ytkakehchiadpbal
open Go.RowKit Go.PlainAid
set_option linter.unusedVariables false
set_option linter.unusedSimpArgs false

/-- What AddrBit answers. -/
def addrBitV (s : ByteArray) (a : Int) : Int := if addrOk s = true ∧ 0 ≤ a ∧ a < 8 * (s.size : Int) then bitN (bt s) a.toNat else 0


theorem implAddrRight_any (s : ByteArray) (w : World) :
    Calls Try.prog 61 #[.string s] w fun e w' => e = .returned (.bool (addrOk s)) ∧ w' = w := by
  by_cases h4 : s.size = 4
  · have HV : Hid (addrOk s = true) := addrOk_yes (.inl h4)
    have h4' : (s.size : Int) = 4 := by omega
    clear h4
    go_enter Try.func61, Try.ntmps61
    go_wp2
    go_ret
    exact ⟨ret_bool HV.out.symm, rfl⟩
  · by_cases h16 : s.size = 16
    · have HV : Hid (addrOk s = true) := addrOk_yes (.inr h16)
      have h16' : (s.size : Int) = 16 := by omega
      clear h16 h4
      go_enter Try.func61, Try.ntmps61
      go_wp2
      go_ret
      exact ⟨ret_bool HV.out.symm, rfl⟩
    · have HV : Hid (addrOk s = false) := addrOk_no (by omega)
      have e1 : ((s.size : Int) == 4) = false := by simp; omega
      have e2 : ((s.size : Int) == 16) = false := by simp; omega
      go_enter Try.func61, Try.ntmps61
      go_wp2
      go_ret
      exact ⟨ret_bool HV.out.symm, rfl⟩


theorem and8_1 (n : Int) : bits .and .u8 n 1 = n % 2 := by
  have h127 : (BitVec.ofInt 8 1).toNat = 2 ^ 1 - 1 := by decide
  have key : (BitVec.ofInt 8 n &&& BitVec.ofInt 8 1).toNat = (n % ((2 ^ 8 : Nat) : Int)).toNat % 2 ^ 1 := by
    rw [BitVec.toNat_and, BitVec.toNat_ofInt, h127, Nat.and_two_pow_sub_one_eq_mod]
  show IntKind.u8.wrap ((BitVec.ofInt 8 n &&& BitVec.ofInt 8 1).toNat : Nat) = n % 2
  rw [key, IntKind.wrap_u8]
  omega

theorem bit8_of (x : Int) (m : Nat) (h0 : 0 ≤ x) (h1 : x ≤ 255) : wrap64 (bits .and .u8 (x / 2 ^ m) 1) = x / 2 ^ m % 2 := by
  rw [and8_1, IntWalk.wrap64_in _ ⟨by omega, by omega⟩]


end Go.Proofs.Ytkakehchiadpbal

/- LawFlow: the laws' helpers for Flow, its box, and one that came in, opened. Printed by mkflat.py. -/
namespace Go.Proofs.Ytkakehchiadpbal
open Go.RowKit Go.PlainAid Go.ChangeShapes Go.WideShapes
set_option linter.unusedVariables false
set_option linter.unusedSimpArgs false

theorem arr5 {α : Type} {cs : Array α} (h : cs.size = 5) : ∃ c0 c1 c2 c3 c4, cs = #[c0, c1, c2, c3, c4] := by
  obtain ⟨l⟩ := cs
  match l, h with
  | [c0, c1, c2, c3, c4], _ => exact ⟨c0, c1, c2, c3, c4, rfl⟩

/-- As memory may hold it. -/
def FlWf (p : Fl) : Prop := In64t p.proto ∧ p.src.size ≤ maxLen ∧ p.dst.size ≤ maxLen ∧ In64t p.sp ∧ In64t p.dp
/-- Its texts are in the laws' limits. -/
def FlSm (p : Fl) : Prop := p.src.size ≤ 1048576 ∧ p.dst.size ≤ 1048576
def szFlowV (p : Fl) : Int := szN [p.src.size, p.dst.size] 1048576
theorem szFlow_in {p : Fl} (h : 0 ≤ szFlowV p) : FlSm p := by
  have hb := szN_bound _ _ h
  exact ⟨by have := hb p.src.size (by simp); omega, by have := hb p.dst.size (by simp); omega⟩
/-- It lies in a block. -/
structure BoxFlow (w : World) (B : Nat) (p : Fl) : Prop where
  c0 : w.cell? ⟨B, 0, none⟩ = some (.int .i64 p.proto)
  c1 : w.cell? ⟨B, 1, none⟩ = some (.string p.src)
  c2 : w.cell? ⟨B, 2, none⟩ = some (.string p.dst)
  c3 : w.cell? ⟨B, 3, none⟩ = some (.int .i64 p.sp)
  c4 : w.cell? ⟨B, 4, none⟩ = some (.int .i64 p.dp)
theorem BoxFlow.kept {w W : World} {B : Nat} {p : Fl} (h : BoxFlow w B p) (hB : Below w.heap.size w W) : BoxFlow W B p := by
  have hb := World.block_lt_of_cell? w _ h.c0
  exact ⟨((bcell hB).1 B 0 hb).trans h.c0, ((bcell hB).1 B 1 hb).trans h.c1, ((bcell hB).1 B 2 hb).trans h.c2, ((bcell hB).1 B 3 hb).trans h.c3, ((bcell hB).1 B 4 hb).trans h.c4⟩
theorem BoxFlow.new (w : World) (p : Fl) {t : TypeId} : BoxFlow (w.alloc (.cells #[.int .i64 p.proto, .string p.src, .string p.dst, .int .i64 p.sp, .int .i64 p.dp] t)) w.heap.size p := ⟨cell_new rfl, cell_new rfl, cell_new rfl, cell_new rfl, cell_new rfl⟩






end Go.Proofs.Ytkakehchiadpbal

/- IFlow: what the program's TcpFlags, addrsPair, isCarried, isEcho and FlowRight answer. -/
namespace Go.Proofs.Ytkakehchiadpbal
open Go.RowKit Go.PlainAid
set_option linter.unusedVariables false
set_option linter.unusedSimpArgs false

theorem implLong_any (t : ByteArray) (w : World) :
    Calls Try.prog 59 #[.string t] w fun e w' => e = .returned (.bool (decide (20000 < t.size))) ∧ w' = w := by
  by_cases h : 20000 < t.size
  · have d : decide ((20000 : Int) < (t.size : Int)) = true := by simp; omega
    rw [decide_eq_true h]
    go_enter Try.func59, Try.ntmps59
    go_wp2_with fail
    go_ret
    exact ⟨rfl, rfl⟩
  · have d : decide ((20000 : Int) < (t.size : Int)) = false := by simp; omega
    rw [decide_eq_false h]
    go_enter Try.func59, Try.ntmps59
    go_wp2_with fail
    go_ret
    exact ⟨rfl, rfl⟩





end Go.Proofs.Ytkakehchiadpbal
