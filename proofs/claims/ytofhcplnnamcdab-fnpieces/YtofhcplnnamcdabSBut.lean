/- SBut: what the specification's l06But answers. Printed by mkspbut.py. -/
import Derived.Test.YtofhcplnnamcdabSTick
import Derived.Deep.DeepCutAuto
namespace Go.Proofs.Ytofhcplnnamcdab
open Go.RowKit Go.PlainAid
set_option linter.unusedVariables false
set_option linter.unusedSimpArgs false

set_option maxRecDepth 100000 in
set_option maxHeartbeats 1000000 in
theorem spBut_any (xs : List Pc) (p : Pc) (a : Option Addr) (cap : Nat) (w : World) (hlen : xs.length ≤ 1048576) (hr : SlIs pcL 8 w a xs) :
    Calls Try.prog 50 #[.slice a xs.length cap, pcC p] w (SlRet pcL 8 w (butPc xs p)) := by
  have HR : Hid (SlIs pcL 8 w a xs) := hr
  have HY : Hid (butPc xs p = xs.filter (fun q => !onePk q p)) := rfl
  generalize butPc xs p = ys at *
  obtain ⟨i0, hi, hz0, hz1, hz2⟩ := info_parts Try.infoPt
  have KP : Hid (BoxPiece (w.alloc (.cells (pcL p).toArray 37)) w.heap.size p) := BoxPiece.new w p (t := 37)
  have H0 : Hid (Row pcL 8 (w.alloc (.cells (pcL p).toArray 37)).heap.size 37 (.slice (some ⟨(w.alloc (.cells (pcL p).toArray 37)).heap.size, 0, none⟩) 0 0) [] (w.alloc (.cells (pcL p).toArray 37)) ((w.alloc (.cells (pcL p).toArray 37)).alloc (.cells #[] 37))) := ⟨World.ownsRow_made _ #[] 0 (Nat.le_refl _) (by unfold maxLen; omega) rfl, (Below.refl _ _).alloc (Nat.le_refl _) _⟩
  have HB0 : Hid (Below w.heap.size w (w.alloc (.cells (pcL p).toArray 37))) := (Below.refl _ _).alloc (Nat.le_refl _) _
  rw [World.size_alloc] at H0
  rw [show (pcL p).toArray = #[.string p.src, .string p.dst, .int .i64 p.proto, .int .i64 p.id, .int .i64 p.off, .bool p.more, .string p.data, .int .i64 p.since] from rfl] at KP H0 HB0
  unfold pcC
  clear hr
  go_enter Try.func50, Try.ntmps50
  go_wp2_with fail
  generalize w.alloc (.cells #[.string p.src, .string p.dst, .int .i64 p.proto, .int .i64 p.id, .int .i64 p.off, .bool p.more, .string p.data, .int .i64 p.since] 37) = W at *
  go_loopw [5, 6] (fun v iv wr => ∃ i : Nat, i ≤ xs.length ∧ iv = .int .i64 i ∧ Row pcL 8 (w.heap.size + 1) 37 v ((xs.take i).filter (fun q => !onePk q p)) W wr) (fun _ iv _ => xs.length - (intOf iv).toNat)
  case atStart => exact ⟨0, Nat.zero_le _, rfl, by simpa using H0.out⟩
  case round =>
    obtain ⟨i, hil, rfl, hrow⟩ := hrel
    have HW : Hid (Row pcL 8 (w.heap.size + 1) 37 u5 ((xs.take i).filter (fun q => !onePk q p)) W wr) := hrow
    have hW : w.heap.size < W.heap.size := World.block_lt_of_cell? W _ KP.out.c0
    have hsz : w.heap.size + 1 ≤ wr.heap.size := Nat.le_trans hW hrow.bel.size
    clear hrow H0
    by_cases hlt : i < xs.length
    · obtain ⟨b, off, rfl, hb, hat⟩ := HR.out.at hlt
      have HBL : Below w.heap.size w wr := HB0.out.trans (HW.out.bel.mono (by omega))
      have hA := (hat.below hb HBL) i hlt
      have hbr : b < wr.heap.size := by omega
      have hft := filter_take (fun q : Pc => !onePk q p) xs i hlt
      have hfl := filter_le (fun q : Pc => !onePk q p) xs i
      obtain ⟨q, hq⟩ : ∃ q, q = xs[i] := ⟨_, rfl⟩
      rw [← hq] at hA hft
      have HFT : Hid _ := hft
      have HAI : Hid (wr.rangeAt b (off + i * 8) (pcL q)) := hA
      have HCI : Hid (∀ wy, Below wr.heap.size wr wy → wy.cell? ⟨b, off + i * 8, none⟩ = some (.string q.src) ∧ wy.cell? ⟨b, off + i * 8 + 1, none⟩ = some (.string q.dst) ∧ wy.cell? ⟨b, off + i * 8 + 2, none⟩ = some (.int .i64 q.proto) ∧ wy.cell? ⟨b, off + i * 8 + 3, none⟩ = some (.int .i64 q.id) ∧ wy.cell? ⟨b, off + i * 8 + 4, none⟩ = some (.int .i64 q.off) ∧ wy.cell? ⟨b, off + i * 8 + 5, none⟩ = some (.bool q.more) ∧ wy.cell? ⟨b, off + i * 8 + 6, none⟩ = some (.string q.data) ∧ wy.cell? ⟨b, off + i * 8 + 7, none⟩ = some (.int .i64 q.since)) := fun wy hy => by
        have h2 : wy.rangeAt b (off + i * 8) (pcL q) := fun j v hv => ((bcell hy).1 b _ hbr).trans (hA j v hv)
        exact ⟨h2 0 _ rfl, h2 1 _ rfl, h2 2 _ rfl, h2 3 _ rfl, h2 4 _ rfl, h2 5 _ rfl, h2 6 _ rfl, h2 7 _ rfl⟩
      have HCP : Hid (∀ wy, Below wr.heap.size wr wy → wy.cell? ⟨w.heap.size, 0, none⟩ = some (.string p.src) ∧ wy.cell? ⟨w.heap.size, 1, none⟩ = some (.string p.dst) ∧ wy.cell? ⟨w.heap.size, 2, none⟩ = some (.int .i64 p.proto) ∧ wy.cell? ⟨w.heap.size, 3, none⟩ = some (.int .i64 p.id) ∧ wy.cell? ⟨w.heap.size, 4, none⟩ = some (.int .i64 p.off) ∧ wy.cell? ⟨w.heap.size, 5, none⟩ = some (.bool p.more) ∧ wy.cell? ⟨w.heap.size, 6, none⟩ = some (.string p.data) ∧ wy.cell? ⟨w.heap.size, 7, none⟩ = some (.int .i64 p.since)) := fun wy hy => by
        obtain ⟨k0, k1, k2, k3, k4, k5, k6, k7⟩ := KP.out
        have h1 : ∀ o, wy.cell? ⟨w.heap.size, o, none⟩ = W.cell? ⟨w.heap.size, o, none⟩ := fun o => ((bcell hy).1 _ _ (by omega)).trans (HW.out.bel.cell (p := ⟨w.heap.size, o, none⟩) (show w.heap.size < w.heap.size + 1 by omega))
        simp only [h1]
        exact ⟨k0, k1, k2, k3, k4, k5, k6, k7⟩
      have HO : Hid (∀ W, Calls Try.prog 48 #[pcC q, pcC p] W fun e w' => e = .returned (.bool (onePk q p)) ∧ Below W.heap.size W w') := fun W => spOne_any q p W
      unfold pcC at HO
      clear hq hA hat hft HBL
      go_upto_region 5 with fail
      go_cut [20] (fun v wx => v = .bool (!onePk q p) ∧ Below wr.heap.size wr wx)
      case first =>
          rename_i J K2 hJ hK2
          clear HFT HY
          generalize onePk q p = o1 at *
          refine wp_region_growH [14, 15, 16, 17, 18, 19, 20] (by kernel_rfl) (by kernel_rfl) ?_
          refine GCh.val (n := 0) (fun v => [IsV v]) (fun _ => rfl) rfl ?_
          apply Exists.intro
          refine And.intro ?_ ?_
          · intro K' a wy ho hd hb hK
            rw [if_pos (wanted_none rfl)]
            have o0 := ho 0 (by decide)
            simp [slot] at o0
            clear hd ho
            go_simp
            try go_bits
            exact hK _ _ rfl (Below.refl _ _)
          refine GCh.val (n := 1) (fun v => [_, IsV v]) (fun _ => rfl) rfl ?_
          apply Exists.intro
          refine And.intro ?_ ?_
          · intro K' a wy ho hd hb hK
            rw [if_pos (wanted_none rfl)]
            have o6 := ho 6 (by decide)
            simp [slot] at o6
            clear hd ho
            go_simp
            try go_bits
            exact hK _ _ rfl (Below.refl _ _)
          refine GCh.val (n := 2) (fun v => [_, _, IsV v]) (fun _ => rfl) rfl ?_
          apply Exists.intro
          refine And.intro ?_ ?_
          · intro K' a wy ho hd hb hK
            rw [if_pos (wanted_none rfl)]
            have q0 := hd ⟨0, .data⟩ (by simp) rfl
            simp [rAt, IsV, slot] at q0
            have q1 := hd ⟨1, .data⟩ (by simp) rfl
            simp [rAt, IsV, slot] at q1
            clear hd ho
            go_simp
            try go_bits
            exact hK _ _ rfl (Below.refl _ _)
          refine GCh.val (n := 3) (fun v => [_, _, _, IsV v]) (fun _ => rfl) rfl ?_
          apply Exists.intro
          refine And.intro ?_ ?_
          · intro K' a wy ho hd hb hK
            rw [if_pos (wanted_none rfl)]
            have q2 := hd ⟨2, .data⟩ (by simp) rfl
            simp [rAt, IsV, slot] at q2
            clear hd ho
            obtain ⟨c0, c1, c2, c3, c4, c5, c6, c7⟩ := HCI.out wy ((Below.refl _ _).drew.trans hb); obtain ⟨d0, d1, d2, d3, d4, d5, d6, d7⟩ := HCP.out wy ((Below.refl _ _).drew.trans hb)
            go_simp
            try go_bits
            exact hK _ _ rfl (Below.refl _ _)
          refine GCh.val (n := 4) (fun v => [_, _, _, _, IsV v]) (fun _ => rfl) rfl ?_
          apply Exists.intro
          refine And.intro ?_ ?_
          · intro K' a wy ho hd hb hK
            rw [if_pos (wanted_none rfl)]
            have o3 := ho 3 (by decide)
            simp [slot] at o3
            clear hd ho
            obtain ⟨c0, c1, c2, c3, c4, c5, c6, c7⟩ := HCI.out wy ((Below.refl _ _).drew.trans hb); obtain ⟨d0, d1, d2, d3, d4, d5, d6, d7⟩ := HCP.out wy ((Below.refl _ _).drew.trans hb)
            go_simp
            try go_bits
            exact hK _ _ rfl (Below.refl _ _)
          refine GCh.val (n := 5) (fun v => [_, _, _, _, _, IsV v]) (fun _ => rfl) rfl ?_
          apply Exists.intro
          refine And.intro ?_ ?_
          · intro K' a wy ho hd hb hK
            rw [if_pos (wanted_none rfl)]
            have q3 := hd ⟨3, .data⟩ (by simp) rfl
            simp [rAt, IsV, slot] at q3
            have q4 := hd ⟨4, .data⟩ (by simp) rfl
            simp [rAt, IsV, slot] at q4
            clear hd ho
            go_simp
            refine (HO.out wy).mono ?_
            rintro e wz ⟨rfl, hz⟩
            exact hK _ _ rfl hz
          refine GCh.val (n := 6) (fun v => [_, _, _, _, _, _, IsV v]) (fun _ => rfl) rfl ?_
          apply Exists.intro
          refine And.intro ?_ ?_
          · intro K' a wy ho hd hb hK
            rw [if_pos (wanted_none rfl)]
            have q5 := hd ⟨5, .data⟩ (by simp) rfl
            simp [rAt, IsV, slot] at q5
            clear hd ho
            go_simp
            try go_bits
            exact hK _ _ rfl (Below.refl _ _)
          intro X wz hR hz
          obtain ⟨x0, x1, x2, x3, x4, x5, x6, -⟩ := hR
          simp only [IsV] at x0 x1 x2 x3 x4 x5 x6
          simp only [putsFrom, x0, x1, x2, x3, x4, x5, x6]
          clear x0 x1 x2 x3 x4 x5 x6
          go_simp
          refine hK2 _ _ (hJ _ _ ?_)
          (repeat apply Exists.intro)
          refine ⟨⟨rfl, (Below.refl _ wr).drew.trans hz⟩, rfl⟩
      case rest =>
      obtain ⟨rfl, hbc⟩ := hcut
      have HW2 : Hid (Row pcL 8 (w.heap.size + 1) 37 u5 ((xs.take i).filter (fun q => !onePk q p)) W wc) := HW.out.kept hbc hsz
      have hsz2 : w.heap.size + 1 ≤ wc.heap.size := Nat.le_trans hsz hbc.size
      have hA2 : wc.rangeAt b (off + i * 8) (pcL q) := fun j v hv => ((bcell hbc).1 b _ hbr).trans (HAI.out j v hv)
      have c0 : wc.cell? ⟨b, off + i * 8, none⟩ = some (.string q.src) := hA2 0 _ rfl
      have c1 : wc.cell? ⟨b, off + i * 8 + 1, none⟩ = some (.string q.dst) := hA2 1 _ rfl
      have c2 : wc.cell? ⟨b, off + i * 8 + 2, none⟩ = some (.int .i64 q.proto) := hA2 2 _ rfl
      have c3 : wc.cell? ⟨b, off + i * 8 + 3, none⟩ = some (.int .i64 q.id) := hA2 3 _ rfl
      have c4 : wc.cell? ⟨b, off + i * 8 + 4, none⟩ = some (.int .i64 q.off) := hA2 4 _ rfl
      have c5 : wc.cell? ⟨b, off + i * 8 + 5, none⟩ = some (.bool q.more) := hA2 5 _ rfl
      have c6 : wc.cell? ⟨b, off + i * 8 + 6, none⟩ = some (.string q.data) := hA2 6 _ rfl
      have c7 : wc.cell? ⟨b, off + i * 8 + 7, none⟩ = some (.int .i64 q.since) := hA2 7 _ rfl
      clear hA2 hbc HAI HCI HCP HO HW
      cases ho : onePk q p with
      | false =>
        have HF2 : Hid ((xs.take (i + 1)).filter (fun q => !onePk q p) = (xs.take i).filter (fun q => !onePk q p) ++ [q]) := by unfold Hid; rw [HFT.out, if_pos (by simp [ho])]
        have hown := HW2.out.own
        generalize (xs.take i).filter (fun q => !onePk q p) = zs at *
        go_wp2_with (at_builtin; refine wpList_append_own _ rfl (.tmp 21) (.tmp 26) 30 rfl (w.heap.size + 1) 37 i0 (.agg #[.string ⟨#[]⟩, .string ⟨#[]⟩, .int .i64 0, .int .i64 0, .int .i64 0, .bool false, .string ⟨#[]⟩, .int .i64 0]) 8 88 Try.underlying30 hi hz0 hz1 hz2 rfl (by decide) _ _ _ rfl (hown.alloc _) ⟨wc.heap.size, 0, none⟩ 1 1 (pcL q) rfl rfl (news8 wc q _) (pcL_one q) (by unfold maxLen; omega) (by omega) (by simp; omega) ?_)
        · intro v' w12 hown2 hgrow hnil
          have R : Hid (Row pcL 8 (w.heap.size + 1) 37 v' (zs ++ [q]) W w12) := HW2.out.append hsz2 hown2 hgrow
          clear hown2 hgrow hnil hown
          go_wp2_with fail
          go_roundw
          case rel => exact ⟨i + 1, by omega, by go_num, by rw [HF2.out]; exact R.out⟩
          case measure => simp [intOf]; omega
      | true =>
        have HF2 : Hid ((xs.take (i + 1)).filter (fun q => !onePk q p) = (xs.take i).filter (fun q => !onePk q p)) := by unfold Hid; rw [HFT.out, if_neg (by simp [ho])]
        generalize (xs.take i).filter (fun q => !onePk q p) = zs at *
        go_wp2_with fail
        go_roundw
        case rel => exact ⟨i + 1, by omega, by go_num, by rw [HF2.out]; exact HW2.out⟩
        case measure => simp [intOf]; omega
    · have hie : i = xs.length := by omega
      have HE : Hid (Row pcL 8 (w.heap.size + 1) 37 u5 ys W wr) := by
        have h := HW.out
        rw [hie, List.take_of_length_le (Nat.le_refl _), ← HY.out] at h
        exact h
      go_wp2_with fail
      go_ret
      exact SlRet.row pcL_length (HE.out.down HB0.out (by omega))
end Go.Proofs.Ytofhcplnnamcdab
