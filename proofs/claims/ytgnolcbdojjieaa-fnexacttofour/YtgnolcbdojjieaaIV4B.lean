/- IV4B: what the program's offWord and V4Bytes answer. Printed by mkiv4b.py. -/
import Derived.Test.YtgnolcbdojjieaaIV4BM
import Derived.Test.YtgnolcbdojjieaaIV4
import Derived.Test.YtgnolcbdojjieaaLay
import Derived.Test.YtgnolcbdojjieaaGrowU
import Derived.Laws.CopyOwn
namespace Go.Proofs.Ytgnolcbdojjieaa
open Go.RowKit Go.PlainAid Go.Lib
set_option linter.unusedVariables false
set_option linter.unusedSimpArgs false

set_option maxHeartbeats 1000000 in
theorem offWord_any (p : P4) (w : World) (h0 : 0 ≤ p.off) (h1 : p.off ≤ 8191) :
  Calls Try.prog 55 #[p4C p] w fun e w' => e = .returned (.int .i64 (offV p)) ∧ Below w.heap.size w w' := by
 have HO : Hid (offV p = p.off + (if p.whole then 16384 else 0) + (if p.more then 8192 else 0)) := rfl
 generalize offV p = ans at *
 obtain ⟨tos, id, whole, more, off, ttl, proto, src, dst, opts, data⟩ := p
 unfold p4C
 dsimp only at *
 have HZ : Hid (Below w.heap.size w (w.alloc (.cells #[.int .i64 tos, .int .i64 id, .bool whole, .bool more, .int .i64 off, .int .i64 ttl, .int .i64 proto, .string src, .string dst, .string opts, .string data] 24))) := (Below.refl _ _).alloc (Nat.le_refl _) _
 have e1 := or_16384 off h0 h1
 have e2 := or_8192 off h0 h1
 have e3 := or_8192b off h0 h1
 cases whole
 all_goals cases more
 all_goals go_enter Try.func55, Try.ntmps55
 all_goals go_wp2_with fail
 all_goals go_ret
 all_goals exact ⟨ret_int (by rw [HO.out]; simp <;> omega), HZ.out⟩

end Go.Proofs.Ytgnolcbdojjieaa
