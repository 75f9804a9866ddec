/- STick: what the specification's PiecesRight, PieceTick and l06But answer. -/
import Derived.Test.YtofhcplnnamcdakSAll
import Derived.Test.YtofhcplnnamcdakOwnS
import Derived.Deep.DeepCutAuto
import Derived.Great.BuildSlice
import Derived.Deep.AppendLies
namespace Go.Proofs.Ytofhcplnnamcdak
open Go.RowKit Go.PlainAid
set_option linter.unusedVariables false
set_option linter.unusedSimpArgs false

theorem filter_take {α : Type} (p : α → Bool) (xs : List α) (i : Nat) (h : i < xs.length) : (xs.take (i + 1)).filter p = if p xs[i] = true then (xs.take i).filter p ++ [xs[i]] else (xs.take i).filter p := by
  rw [List.take_succ_eq_append_getElem h, List.filter_append]
  by_cases hp : p xs[i] = true
  · rw [if_pos hp]; simp [hp]
  · rw [if_neg hp]; simp [hp]
theorem filter_le {α : Type} (p : α → Bool) (xs : List α) (i : Nat) : ((xs.take i).filter p).length ≤ i := Nat.le_trans (List.length_filter_le _ _) (by simp; omega)

theorem tickPc_le (xs : List Pc) (now : Int) : (tickPc xs now).length ≤ xs.length := by
  unfold tickPc
  split
  · exact List.length_filter_le _ _
  · simp

theorem specPiecesRight_any (xs : List Pc) (a : Option Addr) (cap : Nat) (w : World) (hin : PcsIn xs) (hr : SlIs pcL 8 w a xs) :
    Calls Try.prog 20 #[.slice a xs.length cap] w fun e w' => e = .returned (.bool (piecesOk xs)) ∧ Below w.heap.size w w' := by
  have HC : Hid (∀ W, Below w.heap.size w W → Calls Try.prog 38 #[.slice a xs.length cap] W fun e w' => e = .returned (.bool (allPc xs)) ∧ Below W.heap.size W w') := fun W hW => spAll_any xs a cap W hin (hr.below hW)
  have hlen := hin.1
  unfold piecesOk
  generalize allPc xs = b at *
  clear hin hr
  have hun : undef = Value.tuple #[] := rfl
  by_cases h : xs.length ≤ 40
  · rw [decide_eq_true h]
    go_enter Try.func20, Try.ntmps20
    go_wp2_with fail
    refine (HC.out _ (Below.refl _ _)).mono ?_
    rintro e w1 ⟨rfl, q1⟩
    go_wp2_with fail
    go_ret
    exact ⟨rfl, q1⟩
  · rw [decide_eq_false h]
    go_enter Try.func20, Try.ntmps20
    go_wp2_with fail
    go_ret
    exact ⟨rfl, Below.refl _ _⟩

theorem Try.infoPt : (Try.prog.info? 45).map (fun i => (i.zero, i.size, i.bytes)) = some (some (.agg #[.string ⟨#[]⟩, .string ⟨#[]⟩, .int .i64 0, .int .i64 0, .int .i64 0, .bool false, .string ⟨#[]⟩, .int .i64 0]), 8, 88) := by kernel_rfl
theorem news8 (w : World) (q : Pc) (t : TypeId) : ∀ j u, (pcL q)[j]? = some u → (w.alloc (.cells #[.string q.src, .string q.dst, .int .i64 q.proto, .int .i64 q.id, .int .i64 q.off, .bool q.more, .string q.data, .int .i64 q.since] t)).cell? ((⟨w.heap.size, 0, none⟩ : Addr).add j) = some u := World.news_of_block (heap_alloc_new w _)
theorem pcL_one (q : Pc) : ∀ u ∈ pcL q, u.oneCell' = true := fun u hu => by simp [pcL] at hu; rcases hu with rfl | rfl | rfl | rfl | rfl | rfl | rfl | rfl <;> rfl

set_option maxRecDepth 100000 in
set_option maxHeartbeats 1000000 in
theorem specPieceTick_any (xs : List Pc) (a : Option Addr) (cap : Nat) (now : Int) (w : World) (hin : PcsIn xs) (hr : SlIs pcL 8 w a xs) :
    Calls Try.prog 6 #[.slice a xs.length cap, .int .i64 now] w (SlRet pcL 8 w (tickPc xs now)) := by
  have hlen := hin.1
  have HA : Hid (∀ W, Below w.heap.size w W → Calls Try.prog 20 #[.slice a xs.length cap] W fun e w' => e = .returned (.bool (piecesOk xs)) ∧ Below W.heap.size W w') := fun W hW => specPiecesRight_any xs a cap W hin (hr.below hW)
  have HT : Hid (∀ W, Calls Try.prog 21 #[.int .i64 now] W fun e w' => e = .returned (.bool (isTime now)) ∧ w' = W) := fun W => spTime_any now W
  have HR : Hid (SlIs pcL 8 w a xs) := hr
  have HOK : Hid (piecesOk xs = true → ∀ i (h : i < xs.length), pieceOk xs[i] = true) := fun h i hi => by
    unfold piecesOk at h
    rw [Bool.and_eq_true] at h
    exact allN_ok h.2 i hi hi
  have HV : Hid (tickPc xs now = if (decide (xs.length ≤ 400) && piecesOk xs && isTime now) = true then xs.filter (fun q => decide (now < q.since + 30)) else []) := rfl
  have HTM : Hid (isTime now = true → 0 ≤ now ∧ now ≤ 1000000000) := fun h => isIn_parts h
  generalize tickPc xs now = ys at *
  generalize piecesOk xs = ok at *
  generalize isTime now = tm at *
  have hun : undef = Value.tuple #[] := rfl
  obtain ⟨i0, hi, hz0, hz1, hz2⟩ := info_parts Try.infoPt
  clear hin hr
  have H0 : Hid (Row pcL 8 w.heap.size 45 (.slice (some ⟨w.heap.size, 0, none⟩) 0 0) [] w (w.alloc (.cells #[] 45))) := ⟨World.ownsRow_made w #[] 0 (Nat.le_refl _) (by unfold maxLen; omega) rfl, (Below.refl _ _).alloc (Nat.le_refl _) _⟩
  have HE : Hid (ys = [] → ∀ W, Below (w.alloc (.cells #[] 45)).heap.size (w.alloc (.cells #[] 45)) W → Below w.heap.size w W) := fun _ W hW => ((Below.refl _ w).alloc (Nat.le_refl _) _).trans (hW.mono (by simp))
  by_cases h4 : xs.length ≤ 400
  · cases ok with
    | false =>
      have HY : Hid (ys = []) := by unfold Hid; rw [HV.out]; simp
      rw [HY.out]
      go_enter Try.func6, Try.ntmps6
      go_wp2_with fail
      refine (HA.out _ ((Below.refl _ _).alloc (Nat.le_refl _) _)).mono ?_
      rintro e w1 ⟨rfl, q1⟩
      have HQ : Hid (Below w.heap.size w w1) := HE.out HY.out _ q1
      clear q1
      go_wp2_with fail
      go_ret
      exact SlRet.nil rfl HQ.out
    | true =>
    cases tm with
    | false =>
      have HY : Hid (ys = []) := by unfold Hid; rw [HV.out]; simp
      rw [HY.out]
      go_enter Try.func6, Try.ntmps6
      go_wp2_with fail
      refine (HA.out _ ((Below.refl _ _).alloc (Nat.le_refl _) _)).mono ?_
      rintro e w1 ⟨rfl, q1⟩
      have HQ : Hid (Below w.heap.size w w1) := HE.out HY.out _ q1
      clear q1
      go_wp2_with fail
      refine (HT.out _).mono ?_
      rintro e w2 ⟨rfl, rfl⟩
      go_wp2_with fail
      go_ret
      exact SlRet.nil rfl HQ.out
    | true =>
      have HY : Hid (ys = xs.filter (fun q => decide (now < q.since + 30))) := by unfold Hid; rw [HV.out, decide_eq_true h4]; rfl
      have htm := HTM.out rfl
      have HOK2 : Hid (∀ i (h : i < xs.length), pieceOk xs[i] = true) := HOK.out rfl
      clear HV HOK HTM HE
      go_enter Try.func6, Try.ntmps6
      go_wp2_with fail
      refine (HA.out _ ((Below.refl _ _).alloc (Nat.le_refl _) _)).mono ?_
      rintro e w1 ⟨rfl, q1⟩
      have H1 : Hid (Row pcL 8 w.heap.size 45 (.slice (some ⟨w.heap.size, 0, none⟩) 0 0) [] w w1) := H0.out.kept q1 (by simp)
      clear q1 H0
      go_wp2_with fail
      refine (HT.out _).mono ?_
      rintro e w2 ⟨rfl, rfl⟩
      go_wp2_with fail
      go_loopw [5, 6] (fun v iv wr => ∃ i : Nat, i ≤ xs.length ∧ iv = .int .i64 i ∧ Row pcL 8 w.heap.size 45 v ((xs.take i).filter (fun q => decide (now < q.since + 30))) w wr) (fun _ iv _ => xs.length - (intOf iv).toNat)
      case atStart => exact ⟨0, Nat.zero_le _, rfl, by simpa using H1.out⟩
      case round =>
        obtain ⟨i, hil, rfl, hrow⟩ := hrel
        have HW : Hid (Row pcL 8 w.heap.size 45 u5 ((xs.take i).filter (fun q => decide (now < q.since + 30))) w wr) := hrow
        have hsz : w.heap.size ≤ wr.heap.size := hrow.bel.size
        clear hrow H1
        by_cases hlt : i < xs.length
        · obtain ⟨b, off, rfl, hb, hat⟩ := HR.out.at hlt
          have hA := (hat.below hb HW.out.bel) i hlt
          have hok := HOK2.out i hlt
          have hft := filter_take (fun q : Pc => decide (now < q.since + 30)) xs i hlt
          have hfl := filter_le (fun q : Pc => decide (now < q.since + 30)) xs i
          obtain ⟨q, hq⟩ : ∃ q, q = xs[i] := ⟨_, rfl⟩
          rw [← hq] at hA hok hft
          have HFT : Hid _ := hft
          have hsn : 0 ≤ q.since ∧ q.since ≤ 1000000000 := by
            unfold pieceOk at hok
            simp only [Bool.and_eq_true] at hok
            exact isIn_parts hok.2
          have c0 : wr.cell? ⟨b, off + i * 8, none⟩ = some (.string q.src) := hA 0 _ rfl
          have c1 : wr.cell? ⟨b, off + i * 8 + 1, none⟩ = some (.string q.dst) := hA 1 _ rfl
          have c2 : wr.cell? ⟨b, off + i * 8 + 2, none⟩ = some (.int .i64 q.proto) := hA 2 _ rfl
          have c3 : wr.cell? ⟨b, off + i * 8 + 3, none⟩ = some (.int .i64 q.id) := hA 3 _ rfl
          have c4 : wr.cell? ⟨b, off + i * 8 + 4, none⟩ = some (.int .i64 q.off) := hA 4 _ rfl
          have c5 : wr.cell? ⟨b, off + i * 8 + 5, none⟩ = some (.bool q.more) := hA 5 _ rfl
          have c6 : wr.cell? ⟨b, off + i * 8 + 6, none⟩ = some (.string q.data) := hA 6 _ rfl
          have c7 : wr.cell? ⟨b, off + i * 8 + 7, none⟩ = some (.int .i64 q.since) := hA 7 _ rfl
          clear hq hA hat hok hft
          by_cases hp : now < q.since + 30
          · have HF2 : Hid ((xs.take (i + 1)).filter (fun q => decide (now < q.since + 30)) = (xs.take i).filter (fun q => decide (now < q.since + 30)) ++ [q]) := by unfold Hid; rw [HFT.out, if_pos (by simpa using hp)]
            have hown := HW.out.own
            generalize (xs.take i).filter (fun q => decide (now < q.since + 30)) = zs at *
            go_wp2_with (at_builtin; refine wpList_append_own _ rfl (.tmp 36) (.tmp 41) 24 rfl w.heap.size 45 i0 (.agg #[.string ⟨#[]⟩, .string ⟨#[]⟩, .int .i64 0, .int .i64 0, .int .i64 0, .bool false, .string ⟨#[]⟩, .int .i64 0]) 8 88 Try.underlying24 hi hz0 hz1 hz2 rfl (by decide) _ _ _ rfl (hown.alloc _) ⟨wr.heap.size, 0, none⟩ 1 1 (pcL q) rfl rfl (news8 wr q _) (pcL_one q) (by unfold maxLen; omega) (by omega) (by simp; omega) ?_)
            · intro v' w12 hown2 hgrow hnil
              have R : Hid (Row pcL 8 w.heap.size 45 v' (zs ++ [q]) w w12) := HW.out.append hsz hown2 hgrow
              clear hown2 hgrow hnil hown
              go_wp2_with fail
              go_roundw
              case rel => exact ⟨i + 1, by omega, by go_num, by rw [HF2.out]; exact R.out⟩
              case measure => simp [intOf]; omega
          · have HF2 : Hid ((xs.take (i + 1)).filter (fun q => decide (now < q.since + 30)) = (xs.take i).filter (fun q => decide (now < q.since + 30))) := by unfold Hid; rw [HFT.out, if_neg (by simpa using hp)]
            generalize (xs.take i).filter (fun q => decide (now < q.since + 30)) = zs at *
            go_wp2_with fail
            go_roundw
            case rel => exact ⟨i + 1, by omega, by go_num, by rw [HF2.out]; exact HW.out⟩
            case measure => simp [intOf]; omega
        · have hie : i = xs.length := by omega
          have HE : Hid (Row pcL 8 w.heap.size 45 u5 ys w wr) := by
            have h := HW.out
            rw [hie, List.take_of_length_le (Nat.le_refl _), ← HY.out] at h
            exact h
          go_wp2_with fail
          go_ret
          exact SlRet.row pcL_length HE.out
  · have HY : Hid (ys = []) := by unfold Hid; rw [HV.out, decide_eq_false h4]; rfl
    rw [HY.out]
    go_enter Try.func6, Try.ntmps6
    go_wp2_with fail
    go_ret
    exact SlRet.nil rfl ((Below.refl _ _).alloc (Nat.le_refl _) _)
end Go.Proofs.Ytofhcplnnamcdak
