/- BkSame: a bucket, and what is told of one, compared as wholes with themselves. -/
import Derived.Test.YtagbhaalmjpkjaaBuck
import Derived.Test.YtagbhaalmjpkjaaChecked
import Derived.Laws.StructEq
namespace Go.Proofs.Ytagbhaalmjpkjaa
open Go.RowKit
set_option linter.unusedVariables false
set_option linter.unusedSimpArgs false
set_option maxRecDepth 10000 in
set_option maxHeartbeats 1000000 in
theorem eqBkW_run (D : Nat) (q : Bk) (W : World) : (Op.equalIn (D + 2) 24 (.agg #[.int .i64 q.left, .int .i64 q.most, .int .i64 q.each, .int .i64 q.since]) (.agg #[.int .i64 q.left, .int .i64 q.most, .int .i64 q.each, .int .i64 q.since])).run Try.prog W = .ok true W := by
  have h1 : Try.prog.underlying 24 = some (.struct (Try.prog.fieldsOf 24)) := by kernel_rfl
  have h2 : Try.prog.stoodInHeld 24 = false := by kernel_rfl
  rw [run_equalIn_agg _ _ _ _ _ h1 h2]
  have h3 : (Try.prog.fieldsOf 24).toList.length = 4 := by kernel_rfl
  have h4 : ((Try.prog.fieldsOf 24).toList.map fun f => (f.type, f.offset, f.name == "_")) = [(2, 0, false), (2, 1, false), (2, 2, false), (2, 3, false)] := by kernel_rfl
  generalize (Try.prog.fieldsOf 24).toList = fs at *
  match fs, h3 with
  | [f0, f1, f2, f3], _ =>
    simp at h4
    obtain ⟨⟨a1, a2, a3⟩, ⟨b1, b2, b3⟩, ⟨c1, c2, c3⟩, d1, d2, d3⟩ := h4
    have p0 : ∀ W, (part 2 #[.int .i64 q.left, .int .i64 q.most, .int .i64 q.each, .int .i64 q.since] 0).run Try.prog W = .ok (.int .i64 q.left) W := fun W => by kernel_rfl
    have p1 : ∀ W, (part 2 #[.int .i64 q.left, .int .i64 q.most, .int .i64 q.each, .int .i64 q.since] 1).run Try.prog W = .ok (.int .i64 q.most) W := fun W => by kernel_rfl
    have p2 : ∀ W, (part 2 #[.int .i64 q.left, .int .i64 q.most, .int .i64 q.each, .int .i64 q.since] 2).run Try.prog W = .ok (.int .i64 q.each) W := fun W => by kernel_rfl
    have p3 : ∀ W, (part 2 #[.int .i64 q.left, .int .i64 q.most, .int .i64 q.each, .int .i64 q.since] 3).run Try.prog W = .ok (.int .i64 q.since) W := fun W => by kernel_rfl
    simp [Op.eqFields, a1, a2, a3, b1, b2, b3, c1, c2, c3, d1, d2, d3, p0, p1, p2, p3, run_equalIn_int _ _ _ _ _ _ _ Try.underlying2]
theorem eqBk_bin (q : Bk) (W : World) : (binOp .eql 24 (.agg #[.int .i64 q.left, .int .i64 q.most, .int .i64 q.each, .int .i64 q.since]) (.agg #[.int .i64 q.left, .int .i64 q.most, .int .i64 q.each, .int .i64 q.since])).run Try.prog W = .ok (.bool true) W := by
  rw [run_eql_struct, eqBkW_run 9998 q W]; rfl
theorem neBk_bin (q : Bk) (W : World) : (binOp .neq 24 (.agg #[.int .i64 q.left, .int .i64 q.most, .int .i64 q.each, .int .i64 q.since]) (.agg #[.int .i64 q.left, .int .i64 q.most, .int .i64 q.each, .int .i64 q.since])).run Try.prog W = .ok (.bool false) W := by
  rw [run_neq_struct, eqBkW_run 9998 q W]; rfl
set_option maxRecDepth 10000 in
set_option maxHeartbeats 1000000 in
theorem eqBkO_run (q : Bk) (ok : Bool) (W : World) : (Op.equalIn 10000 28 (.agg #[.int .i64 q.left, .int .i64 q.most, .int .i64 q.each, .int .i64 q.since, .bool ok]) (.agg #[.int .i64 q.left, .int .i64 q.most, .int .i64 q.each, .int .i64 q.since, .bool ok])).run Try.prog W = .ok true W := by
  have h1 : Try.prog.underlying 28 = some (.struct (Try.prog.fieldsOf 28)) := by kernel_rfl
  have h2 : Try.prog.stoodInHeld 28 = false := by kernel_rfl
  rw [run_equalIn_agg _ _ _ _ _ h1 h2]
  have h3 : (Try.prog.fieldsOf 28).toList.length = 2 := by kernel_rfl
  have h4 : ((Try.prog.fieldsOf 28).toList.map fun f => (f.type, f.offset, f.name == "_")) = [(24, 0, false), (4, 4, false)] := by kernel_rfl
  have hq := eqBkW_run 9997 q
  generalize (Try.prog.fieldsOf 28).toList = fs at *
  match fs, h3 with
  | [f, g], _ =>
    simp at h4
    obtain ⟨⟨a1, a2, a3⟩, b1, b2, b3⟩ := h4
    have p0 : ∀ W, (part 24 #[.int .i64 q.left, .int .i64 q.most, .int .i64 q.each, .int .i64 q.since, .bool ok] 0).run Try.prog W = .ok (.agg #[.int .i64 q.left, .int .i64 q.most, .int .i64 q.each, .int .i64 q.since]) W := fun W => by kernel_rfl
    have p1 : ∀ W, (part 4 #[.int .i64 q.left, .int .i64 q.most, .int .i64 q.each, .int .i64 q.since, .bool ok] 4).run Try.prog W = .ok (.bool ok) W := fun W => by kernel_rfl
    simp [Op.eqFields, a1, a2, a3, b1, b2, b3, p0, p1, hq, run_equalIn_bool _ _ _ _ _ Try.underlying4]
theorem neBkO_bin (q : Bk) (ok : Bool) (W : World) : (binOp .neq 28 (.agg #[.int .i64 q.left, .int .i64 q.most, .int .i64 q.each, .int .i64 q.since, .bool ok]) (.agg #[.int .i64 q.left, .int .i64 q.most, .int .i64 q.each, .int .i64 q.since, .bool ok])).run Try.prog W = .ok (.bool false) W := by
  rw [run_neq_struct, eqBkO_run]; rfl
end Go.Proofs.Ytagbhaalmjpkjaa
