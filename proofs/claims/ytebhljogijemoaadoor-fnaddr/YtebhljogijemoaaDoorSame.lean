/- Two outcomes that are the same, compared as wholes. -/
import Derived.Test.YtebhljogijemoaaDoorBase
import Derived.Test.YtebhljogijemoaaDoorChecked
import Derived.Laws.StructEq
namespace Go.Proofs.YtebhljogijemoaaDoor
open Go.RowKit

theorem eqs_same (u : ByteArray) (c : Int) (W : World) : (Op.equalIn 10000 27 (.agg #[.string u, .int .i64 c]) (.agg #[.string u, .int .i64 c])).run Tryd.prog W = .ok true W := by
  have h1 : Tryd.prog.underlying 27 = some (.struct (Tryd.prog.fieldsOf 27)) := by kernel_rfl
  have h2 : Tryd.prog.stoodInHeld 27 = false := by kernel_rfl
  rw [run_equalIn_agg _ _ _ _ _ h1 h2]
  have h3 : (Tryd.prog.fieldsOf 27).toList.length = 2 := by kernel_rfl
  have h4 : ((Tryd.prog.fieldsOf 27).toList.map fun f => (f.type, f.offset, f.name == "_")) = [(9, 0, false), (2, 1, false)] := by kernel_rfl
  generalize (Tryd.prog.fieldsOf 27).toList = fs at *
  match fs, h3 with
  | [f, g], _ =>
    simp at h4
    obtain ⟨⟨a1, a2, a3⟩, b1, b2, b3⟩ := h4
    have p0 : ∀ W, (part 9 #[.string u, .int .i64 c] 0).run Tryd.prog W = .ok (.string u) W := fun W => by kernel_rfl
    have p1 : ∀ W, (part 2 #[.string u, .int .i64 c] 1).run Tryd.prog W = .ok (.int .i64 c) W := fun W => by kernel_rfl
    simp [Op.eqFields, a1, a2, a3, b1, b2, b3, p0, p1, run_equalIn_string _ _ _ _ _ Tryd.underlying9, run_equalIn_int _ _ _ _ _ _ _ Tryd.underlying2]

theorem eql_same (u : ByteArray) (c : Int) (W : World) : (binOp .eql 27 (.agg #[.string u, .int .i64 c]) (.agg #[.string u, .int .i64 c])).run Tryd.prog W = .ok (.bool true) W := by
  rw [run_eql_struct, eqs_same]; rfl

theorem neq_same (u : ByteArray) (c : Int) (W : World) : (binOp .neq 27 (.agg #[.string u, .int .i64 c]) (.agg #[.string u, .int .i64 c])).run Tryd.prog W = .ok (.bool false) W := by
  rw [run_neq_struct, eqs_same]; rfl

end Go.Proofs.YtebhljogijemoaaDoor
