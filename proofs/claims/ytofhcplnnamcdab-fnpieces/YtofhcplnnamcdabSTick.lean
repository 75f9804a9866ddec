/- STick: what the specification's PiecesRight, PieceTick and l06But answer. -/
import Derived.Test.YtofhcplnnamcdabSAll
import Derived.Test.YtofhcplnnamcdabMgSl
import Derived.Deep.DeepCutAuto
import Derived.Great.BuildSlice
import Derived.Deep.AppendLies
namespace Go.Proofs.Ytofhcplnnamcdab
open Go.RowKit Go.PlainAid
set_option linter.unusedVariables false
set_option linter.unusedSimpArgs false

theorem filter_take {α : Type} (p : α → Bool) (xs : List α) (i : Nat) (h : i < xs.length) : (xs.take (i + 1)).filter p = if p xs[i] = true then (xs.take i).filter p ++ [xs[i]] else (xs.take i).filter p := by
  rw [List.take_succ_eq_append_getElem h, List.filter_append]
  by_cases hp : p xs[i] = true
  · rw [if_pos hp]; simp [hp]
  · rw [if_neg hp]; simp [hp]
theorem filter_le {α : Type} (p : α → Bool) (xs : List α) (i : Nat) : ((xs.take i).filter p).length ≤ i := Nat.le_trans (List.length_filter_le _ _) (by simp; omega)

theorem tickPc_le (xs : List Pc) (now : Int) : (tickPc xs now).length ≤ xs.length := by
  unfold tickPc
  split
  · exact List.length_filter_le _ _
  · simp

theorem specPiecesRight_any (xs : List Pc) (a : Option Addr) (cap : Nat) (w : World) (hin : PcsIn xs) (hr : SlIs pcL 8 w a xs) :
    Calls Try.prog 15 #[.slice a xs.length cap] w fun e w' => e = .returned (.bool (piecesOk xs)) ∧ Below w.heap.size w w' := by
  have HC : Hid (∀ W, Below w.heap.size w W → Calls Try.prog 49 #[.slice a xs.length cap] W fun e w' => e = .returned (.bool (allPc xs)) ∧ Below W.heap.size W w') := fun W hW => spAll_any xs a cap W hin (hr.below hW)
  have hlen := hin.1
  unfold piecesOk
  generalize allPc xs = b at *
  clear hin hr
  have hun : undef = Value.tuple #[] := rfl
  by_cases h : xs.length ≤ 40
  · rw [decide_eq_true h]
    go_enter Try.func15, Try.ntmps15
    go_wp2_with fail
    refine (HC.out _ (Below.refl _ _)).mono ?_
    rintro e w1 ⟨rfl, q1⟩
    go_wp2_with fail
    go_ret
    exact ⟨rfl, q1⟩
  · rw [decide_eq_false h]
    go_enter Try.func15, Try.ntmps15
    go_wp2_with fail
    go_ret
    exact ⟨rfl, Below.refl _ _⟩

theorem Try.infoPt : (Try.prog.info? 37).map (fun i => (i.zero, i.size, i.bytes)) = some (some (.agg #[.string ⟨#[]⟩, .string ⟨#[]⟩, .int .i64 0, .int .i64 0, .int .i64 0, .bool false, .string ⟨#[]⟩, .int .i64 0]), 8, 88) := by kernel_rfl
theorem news8 (w : World) (q : Pc) (t : TypeId) : ∀ j u, (pcL q)[j]? = some u → (w.alloc (.cells #[.string q.src, .string q.dst, .int .i64 q.proto, .int .i64 q.id, .int .i64 q.off, .bool q.more, .string q.data, .int .i64 q.since] t)).cell? ((⟨w.heap.size, 0, none⟩ : Addr).add j) = some u := World.news_of_block (heap_alloc_new w _)
theorem pcL_one (q : Pc) : ∀ u ∈ pcL q, u.oneCell' = true := fun u hu => by simp [pcL] at hu; rcases hu with rfl | rfl | rfl | rfl | rfl | rfl | rfl | rfl <;> rfl

end Go.Proofs.Ytofhcplnnamcdab
