/- EndSame: ends and session keys compared as wholes. Printed by mkend.py. -/
import Derived.Test.YtkakehchiadpbalK4
import Derived.Test.YtkakehchiadpbalChecked
import Derived.Laws.StructEq
namespace Go.Proofs.Ytkakehchiadpbal
open Go.RowKit
set_option linter.unusedVariables false
set_option linter.unusedSimpArgs false

/-- An end: a proto, a text, a port. -/
structure En where
  proto : Int
  addr : ByteArray
  port : Int
def enC (q : En) : Value := .agg #[.int .i64 q.proto, .string q.addr, .int .i64 q.port]
def enL (q : En) : List Value := [.int .i64 q.proto, .string q.addr, .int .i64 q.port]
def sameEn (q p : En) : Bool := (q.proto == p.proto) && ((q.addr.toList == p.addr.toList) && (q.port == p.port))
/-- A session's key. -/
structure Sk where
  host : En
  peer : ByteArray
  peerPort : Int
def skC (q : Sk) : Value := .agg #[.int .i64 q.host.proto, .string q.host.addr, .int .i64 q.host.port, .string q.peer, .int .i64 q.peerPort]
def skL (q : Sk) : List Value := [.int .i64 q.host.proto, .string q.host.addr, .int .i64 q.host.port, .string q.peer, .int .i64 q.peerPort]
def sameSk (q p : Sk) : Bool := sameEn q.host p.host && ((q.peer.toList == p.peer.toList) && (q.peerPort == p.peerPort))

set_option maxRecDepth 10000 in
set_option maxHeartbeats 1000000 in
theorem eqEn_run (D : Nat) (q p : En) (W : World) : (Op.equalIn (D + 2) 90 (.agg #[.int .i64 q.proto, .string q.addr, .int .i64 q.port]) (.agg #[.int .i64 p.proto, .string p.addr, .int .i64 p.port])).run Try.prog W = .ok (sameEn q p) W := by
  have h1 : Try.prog.underlying 90 = some (.struct (Try.prog.fieldsOf 90)) := by kernel_rfl
  have h2 : Try.prog.stoodInHeld 90 = false := by kernel_rfl
  rw [run_equalIn_agg _ _ _ _ _ h1 h2]
  have h3 : (Try.prog.fieldsOf 90).toList.length = 3 := by kernel_rfl
  have h4 : ((Try.prog.fieldsOf 90).toList.map fun f => (f.type, f.offset, f.name == "_")) = [(2, 0, false), (9, 1, false), (2, 2, false)] := by kernel_rfl
  generalize (Try.prog.fieldsOf 90).toList = fs at *
  match fs, h3 with
  | [f0, f1, f2], _ =>
    simp only [List.map_cons, List.map_nil, List.cons.injEq, Prod.mk.injEq, and_true] at h4
    obtain ⟨⟨a0, b0, c0⟩, ⟨a1, b1, c1⟩, ⟨a2, b2, c2⟩⟩ := h4
    have d0 : (f0.name ≠ "_") = True := by simpa using c0
    have q0 : ∀ W, (part 2 #[.int .i64 q.proto, .string q.addr, .int .i64 q.port] 0).run Try.prog W = .ok (.int .i64 q.proto) W := fun W => by kernel_rfl
    have p0 : ∀ W, (part 2 #[.int .i64 p.proto, .string p.addr, .int .i64 p.port] 0).run Try.prog W = .ok (.int .i64 p.proto) W := fun W => by kernel_rfl
    have d1 : (f1.name ≠ "_") = True := by simpa using c1
    have q1 : ∀ W, (part 9 #[.int .i64 q.proto, .string q.addr, .int .i64 q.port] 1).run Try.prog W = .ok (.string q.addr) W := fun W => by kernel_rfl
    have p1 : ∀ W, (part 9 #[.int .i64 p.proto, .string p.addr, .int .i64 p.port] 1).run Try.prog W = .ok (.string p.addr) W := fun W => by kernel_rfl
    have d2 : (f2.name ≠ "_") = True := by simpa using c2
    have q2 : ∀ W, (part 2 #[.int .i64 q.proto, .string q.addr, .int .i64 q.port] 2).run Try.prog W = .ok (.int .i64 q.port) W := fun W => by kernel_rfl
    have p2 : ∀ W, (part 2 #[.int .i64 p.proto, .string p.addr, .int .i64 p.port] 2).run Try.prog W = .ok (.int .i64 p.port) W := fun W => by kernel_rfl
    unfold sameEn
    simp only [Op.eqFields, a0, b0, d0, q0, p0, a1, b1, d1, q1, p1, a2, b2, d2, q2, p2, if_true, Sem.run_bind, Sem.run_ite, Sem.run_pure, Result.andThen_ok, run_equalIn_string _ _ _ _ _ Try.underlying9, run_equalIn_int _ _ _ _ _ _ _ Try.underlying2]
    generalize (q.proto == p.proto) = g0
    generalize (q.addr.toList == p.addr.toList) = g1
    generalize (q.port == p.port) = g2
    cases g0
    · simp
    simp only [Bool.not_true, Bool.false_eq_true, if_false, Bool.true_and]
    cases g1
    · simp
    simp only [Bool.not_true, Bool.false_eq_true, if_false, Bool.true_and]
    cases g2 <;> simp
theorem eqEn_bin (q p : En) (W : World) : (binOp .eql 90 (.agg #[.int .i64 q.proto, .string q.addr, .int .i64 q.port]) (.agg #[.int .i64 p.proto, .string p.addr, .int .i64 p.port])).run Try.prog W = .ok (.bool (sameEn q p)) W := by
  rw [run_eql_struct, eqEn_run 9998 q p W]; rfl
set_option maxRecDepth 10000 in
set_option maxHeartbeats 1000000 in
theorem eqSk_run (D : Nat) (q p : Sk) (W : World) : (Op.equalIn (D + 3) 108 (.agg #[.int .i64 q.host.proto, .string q.host.addr, .int .i64 q.host.port, .string q.peer, .int .i64 q.peerPort]) (.agg #[.int .i64 p.host.proto, .string p.host.addr, .int .i64 p.host.port, .string p.peer, .int .i64 p.peerPort])).run Try.prog W = .ok (sameSk q p) W := by
  have h1 : Try.prog.underlying 108 = some (.struct (Try.prog.fieldsOf 108)) := by kernel_rfl
  have h2 : Try.prog.stoodInHeld 108 = false := by kernel_rfl
  rw [run_equalIn_agg _ _ _ _ _ h1 h2]
  have h3 : (Try.prog.fieldsOf 108).toList.length = 3 := by kernel_rfl
  have h4 : ((Try.prog.fieldsOf 108).toList.map fun f => (f.type, f.offset, f.name == "_")) = [(90, 0, false), (9, 3, false), (2, 4, false)] := by kernel_rfl
  generalize (Try.prog.fieldsOf 108).toList = fs at *
  match fs, h3 with
  | [f0, f1, f2], _ =>
    simp only [List.map_cons, List.map_nil, List.cons.injEq, Prod.mk.injEq, and_true] at h4
    obtain ⟨⟨a0, b0, c0⟩, ⟨a1, b1, c1⟩, ⟨a2, b2, c2⟩⟩ := h4
    have d0 : (f0.name ≠ "_") = True := by simpa using c0
    have q0 : ∀ W, (part 90 #[.int .i64 q.host.proto, .string q.host.addr, .int .i64 q.host.port, .string q.peer, .int .i64 q.peerPort] 0).run Try.prog W = .ok (.agg #[.int .i64 q.host.proto, .string q.host.addr, .int .i64 q.host.port]) W := fun W => by kernel_rfl
    have p0 : ∀ W, (part 90 #[.int .i64 p.host.proto, .string p.host.addr, .int .i64 p.host.port, .string p.peer, .int .i64 p.peerPort] 0).run Try.prog W = .ok (.agg #[.int .i64 p.host.proto, .string p.host.addr, .int .i64 p.host.port]) W := fun W => by kernel_rfl
    have d1 : (f1.name ≠ "_") = True := by simpa using c1
    have q1 : ∀ W, (part 9 #[.int .i64 q.host.proto, .string q.host.addr, .int .i64 q.host.port, .string q.peer, .int .i64 q.peerPort] 3).run Try.prog W = .ok (.string q.peer) W := fun W => by kernel_rfl
    have p1 : ∀ W, (part 9 #[.int .i64 p.host.proto, .string p.host.addr, .int .i64 p.host.port, .string p.peer, .int .i64 p.peerPort] 3).run Try.prog W = .ok (.string p.peer) W := fun W => by kernel_rfl
    have d2 : (f2.name ≠ "_") = True := by simpa using c2
    have q2 : ∀ W, (part 2 #[.int .i64 q.host.proto, .string q.host.addr, .int .i64 q.host.port, .string q.peer, .int .i64 q.peerPort] 4).run Try.prog W = .ok (.int .i64 q.peerPort) W := fun W => by kernel_rfl
    have p2 : ∀ W, (part 2 #[.int .i64 p.host.proto, .string p.host.addr, .int .i64 p.host.port, .string p.peer, .int .i64 p.peerPort] 4).run Try.prog W = .ok (.int .i64 p.peerPort) W := fun W => by kernel_rfl
    unfold sameSk
    simp only [Op.eqFields, a0, b0, d0, q0, p0, a1, b1, d1, q1, p1, a2, b2, d2, q2, p2, if_true, Sem.run_bind, Sem.run_ite, Sem.run_pure, Result.andThen_ok, run_equalIn_string _ _ _ _ _ Try.underlying9, run_equalIn_int _ _ _ _ _ _ _ Try.underlying2, eqEn_run D q.host p.host]
    generalize (sameEn q.host p.host) = g0
    generalize (q.peer.toList == p.peer.toList) = g1
    generalize (q.peerPort == p.peerPort) = g2
    cases g0
    · simp
    simp only [Bool.not_true, Bool.false_eq_true, if_false, Bool.true_and]
    cases g1
    · simp
    simp only [Bool.not_true, Bool.false_eq_true, if_false, Bool.true_and]
    cases g2 <;> simp
theorem eqSk_bin (q p : Sk) (W : World) : (binOp .eql 108 (.agg #[.int .i64 q.host.proto, .string q.host.addr, .int .i64 q.host.port, .string q.peer, .int .i64 q.peerPort]) (.agg #[.int .i64 p.host.proto, .string p.host.addr, .int .i64 p.host.port, .string p.peer, .int .i64 p.peerPort])).run Try.prog W = .ok (.bool (sameSk q p)) W := by
  rw [run_eql_struct, eqSk_run 9997 q p W]; rfl
end Go.Proofs.Ytkakehchiadpbal
