/- IPieces: what the program's PieceTick answers (and, by IGather, PiecesRight). -/
import Derived.Test.YtofhcplnnamcdakICopy
import Derived.Deep.DeepCutAuto
import Derived.Great.BuildSlice
import Derived.Deep.AppendLies
namespace Go.Proofs.Ytofhcplnnamcdak
open Go.RowKit Go.PlainAid
set_option linter.unusedVariables false
set_option linter.unusedSimpArgs false

theorem tick_400 (xs : List Pc) (now : Int) : tickPc xs now = if (piecesOk xs && isTime now) = true then xs.filter (fun q => decide (now < q.since + 30)) else [] := by
  unfold tickPc
  cases h : piecesOk xs with
  | false => simp
  | true =>
    have h4 : xs.length ≤ 400 := by
      unfold piecesOk at h
      rw [Bool.and_eq_true, decide_eq_true_iff] at h; omega
    rw [decide_eq_true h4]; rfl
theorem box_one (w : World) (q : Pc) {t : TypeId} : Below w.heap.size w (w.alloc (.cells #[.string q.src, .string q.dst, .int .i64 q.proto, .int .i64 q.id, .int .i64 q.off, .bool q.more, .string q.data, .int .i64 q.since] t)) := (Below.refl _ _).alloc (Nat.le_refl _) _

set_option maxRecDepth 100000 in
set_option maxHeartbeats 1000000 in
theorem implPieceTick_any (xs : List Pc) (a : Option Addr) (cap : Nat) (now : Int) (w : World) (hin : PcsIn xs) (hr : SlIs pcL 8 w a xs) :
    Calls Try.prog 8 #[.slice a xs.length cap, .int .i64 now] w (SlRet pcL 8 w (tickPc xs now)) := by
  have hlen := hin.1
  have HIN : Hid (PcsIn xs) := hin
  have HA : Hid (∀ W, Below w.heap.size w W → Calls Try.prog 23 #[.slice a xs.length cap] W fun e w' => e = .returned (.bool (piecesOk xs)) ∧ Below W.heap.size W w') := fun W hW => implPiecesRight_any xs a cap W hin (hr.below hW)
  have HT : Hid (∀ W, Calls Try.prog 24 #[.int .i64 now] W fun e w' => e = .returned (.bool (isTime now)) ∧ w' = W) := fun W => implTime_any now W
  have HR : Hid (SlIs pcL 8 w a xs) := hr
  have HOK : Hid (piecesOk xs = true → ∀ i (h : i < xs.length), pieceOk xs[i] = true) := fun h i hi => by
    unfold piecesOk at h
    rw [Bool.and_eq_true] at h
    exact allN_ok h.2 i hi hi
  have HV : Hid (tickPc xs now = if (piecesOk xs && isTime now) = true then xs.filter (fun q => decide (now < q.since + 30)) else []) := tick_400 xs now
  have HTM : Hid (isTime now = true → 0 ≤ now ∧ now ≤ 1000000000) := fun h => isIn_parts h
  generalize tickPc xs now = ys at *
  generalize piecesOk xs = ok at *
  generalize isTime now = tm at *
  have hun : undef = Value.tuple #[] := rfl
  obtain ⟨i0, hi, hz0, hz1, hz2⟩ := info_parts Try.infoPt
  clear hin hr
  cases ok with
  | false =>
    have HY : Hid (ys = []) := by unfold Hid; rw [HV.out]; simp
    rw [HY.out]
    go_enter Try.func8, Try.ntmps8
    go_wp2_with fail
    refine (HA.out _ (Below.refl _ _)).mono ?_
    rintro e w1 ⟨rfl, q1⟩
    have HQ : Hid (Below w.heap.size w w1) := q1
    clear q1
    go_wp2_with fail
    go_ret
    exact SlRet.nil rfl HQ.out
  | true =>
  cases tm with
  | false =>
    have HY : Hid (ys = []) := by unfold Hid; rw [HV.out]; simp
    rw [HY.out]
    go_enter Try.func8, Try.ntmps8
    go_wp2_with fail
    refine (HA.out _ (Below.refl _ _)).mono ?_
    rintro e w1 ⟨rfl, q1⟩
    have HQ : Hid (Below w.heap.size w w1) := q1
    clear q1
    go_wp2_with fail
    refine (HT.out _).mono ?_
    rintro e w2 ⟨rfl, rfl⟩
    go_wp2_with fail
    go_ret
    exact SlRet.nil rfl HQ.out
  | true =>
    have HY : Hid (ys = xs.filter (fun q => decide (now < q.since + 30))) := by unfold Hid; rw [HV.out]; rfl
    have htm := HTM.out rfl
    have HOK2 : Hid (∀ i (h : i < xs.length), pieceOk xs[i] = true) := HOK.out rfl
    clear HV HOK HTM
    go_enter Try.func8, Try.ntmps8
    go_wp2_with fail
    refine (HA.out _ (Below.refl _ _)).mono ?_
    rintro e w1 ⟨rfl, q1⟩
    have H1 : Hid (Row pcL 8 w.heap.size 45 (.slice none 0 0) [] w w1) := ⟨World.ownsRow_nil _ _ _ _, q1⟩
    clear q1
    go_wp2_with fail
    refine (HT.out _).mono ?_
    rintro e w2 ⟨rfl, rfl⟩
    go_wp2_with fail
    go_loopw [5, 18] (fun v iv wr => ∃ i : Nat, i ≤ xs.length ∧ iv = .int .i64 i ∧ Row pcL 8 w.heap.size 45 v ((xs.take i).filter (fun q => decide (now < q.since + 30))) w wr) (fun _ iv _ => xs.length - (intOf iv).toNat)
    case atStart => exact ⟨0, Nat.zero_le _, rfl, by simpa using H1.out⟩
    case round =>
      obtain ⟨i, hil, rfl, hrow⟩ := hrel
      have HW : Hid (Row pcL 8 w.heap.size 45 u5 ((xs.take i).filter (fun q => decide (now < q.since + 30))) w wr) := hrow
      have hsz : w.heap.size ≤ wr.heap.size := hrow.bel.size
      clear hrow H1
      by_cases hlt : i < xs.length
      · obtain ⟨b, off, rfl, hb, hat⟩ := HR.out.at hlt
        have hA := (hat.below hb HW.out.bel) i hlt
        have hok := HOK2.out i hlt
        have hft := filter_take (fun q : Pc => decide (now < q.since + 30)) xs i hlt
        have hfl := filter_le (fun q : Pc => decide (now < q.since + 30)) xs i
        have HCP : Hid (∀ W, Calls Try.prog 25 #[pcC xs[i]] W fun e w' => e = .returned (pcC xs[i]) ∧ Below W.heap.size W w') := fun W => implCopy_any xs[i] W (HIN.out.2 _ (List.getElem_mem hlt))
        obtain ⟨q, hq⟩ : ∃ q, q = xs[i] := ⟨_, rfl⟩
        rw [← hq] at hA hok hft HCP
        have HFT : Hid _ := hft
        have hsn : 0 ≤ q.since ∧ q.since ≤ 1000000000 := by have := pcOk_in hok; omega
        have c0 : wr.cell? ⟨b, off + i * 8, none⟩ = some (.string q.src) := hA 0 _ rfl
        have c1 : wr.cell? ⟨b, off + i * 8 + 1, none⟩ = some (.string q.dst) := hA 1 _ rfl
        have c2 : wr.cell? ⟨b, off + i * 8 + 2, none⟩ = some (.int .i64 q.proto) := hA 2 _ rfl
        have c3 : wr.cell? ⟨b, off + i * 8 + 3, none⟩ = some (.int .i64 q.id) := hA 3 _ rfl
        have c4 : wr.cell? ⟨b, off + i * 8 + 4, none⟩ = some (.int .i64 q.off) := hA 4 _ rfl
        have c5 : wr.cell? ⟨b, off + i * 8 + 5, none⟩ = some (.bool q.more) := hA 5 _ rfl
        have c6 : wr.cell? ⟨b, off + i * 8 + 6, none⟩ = some (.string q.data) := hA 6 _ rfl
        have c7 : wr.cell? ⟨b, off + i * 8 + 7, none⟩ = some (.int .i64 q.since) := hA 7 _ rfl
        clear hq hA hat hok hft
        have HBX : Hid (Below wr.heap.size wr (wr.alloc (.cells #[.string q.src, .string q.dst, .int .i64 q.proto, .int .i64 q.id, .int .i64 q.off, .bool q.more, .string q.data, .int .i64 q.since] 45))) := box_one wr q
        unfold pcC at HCP
        by_cases hp : now < q.since + 30
        · have HF2 : Hid ((xs.take (i + 1)).filter (fun q => decide (now < q.since + 30)) = (xs.take i).filter (fun q => decide (now < q.since + 30)) ++ [q]) := by unfold Hid; rw [HFT.out, if_pos (by simpa using hp)]
          generalize (xs.take i).filter (fun q => decide (now < q.since + 30)) = zs at *
          go_wp2_with fail
          refine (HCP.out _).mono ?_
          rintro e w3 ⟨rfl, b3⟩
          have HW3 : Hid (Row pcL 8 w.heap.size 45 u5 zs w w3) := HW.out.kept (HBX.out.trans (b3.mono (by simp))) hsz
          have hown := HW3.out.own
          have hsz3 : w.heap.size ≤ w3.heap.size := HW3.out.bel.size
          clear b3 c0 c1 c2 c3 c4 c5 c6 c7 HBX
          go_wp2_with (at_builtin; refine wpList_append_own _ rfl (.tmp 27) (.tmp 30) 24 rfl w.heap.size 45 i0 (.agg #[.string ⟨#[]⟩, .string ⟨#[]⟩, .int .i64 0, .int .i64 0, .int .i64 0, .bool false, .string ⟨#[]⟩, .int .i64 0]) 8 88 Try.underlying24 hi hz0 hz1 hz2 rfl (by decide) _ _ _ rfl (hown.alloc _) ⟨w3.heap.size, 0, none⟩ 1 1 (pcL q) rfl rfl (news8 w3 q _) (pcL_one q) (by unfold maxLen; omega) (by omega) (by simp; omega) ?_)
          intro v' w12 hown2 hgrow hnil
          have R : Hid (Row pcL 8 w.heap.size 45 v' (zs ++ [q]) w w12) := HW3.out.append hsz3 hown2 hgrow
          clear hown2 hgrow hnil hown
          go_wp2_with fail
          go_roundw
          case rel => exact ⟨i + 1, by omega, by go_num, by rw [HF2.out]; exact R.out⟩
          case measure => simp [intOf]; omega
        · have HF2 : Hid ((xs.take (i + 1)).filter (fun q => decide (now < q.since + 30)) = (xs.take i).filter (fun q => decide (now < q.since + 30))) := by unfold Hid; rw [HFT.out, if_neg (by simpa using hp)]
          generalize (xs.take i).filter (fun q => decide (now < q.since + 30)) = zs at *
          have HW3 : Hid _ := HW.out.kept HBX.out hsz
          go_wp2_with fail
          go_roundw
          case rel => exact ⟨i + 1, by omega, by go_num, by rw [HF2.out]; exact HW3.out⟩
          case measure => simp [intOf]; omega
      · have hie : i = xs.length := by omega
        have HE : Hid (Row pcL 8 w.heap.size 45 u5 ys w wr) := by
          have h := HW.out
          rw [hie, List.take_of_length_le (Nat.le_refl _), ← HY.out] at h
          exact h
        go_wp2_with fail
        go_ret
        exact SlRet.row pcL_length HE.out
end Go.Proofs.Ytofhcplnnamcdak
