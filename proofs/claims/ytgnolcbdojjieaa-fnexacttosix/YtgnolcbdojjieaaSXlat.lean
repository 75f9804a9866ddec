/- SXlat: what the specification's l09Proto, l10Four, l10Six, ToFour and ToSix answer. Printed by mkxlat.py. -/
import Derived.Test.YtgnolcbdojjieaaXlat
import Derived.Test.YtgnolcbdojjieaaBoxes
import Derived.Test.YtgnolcbdojjieaaGrowV
import Derived.Test.YtgnolcbdojjieaaSmV
import Derived.Test.YtgnolcbdojjieaaLawV4
import Derived.Test.YtgnolcbdojjieaaLawV6
import Derived.Deep.DeepCutAuto
import Derived.RegionTactic
namespace Go.Proofs.Ytgnolcbdojjieaa
open Go.RowKit Go.PlainAid
set_option linter.unusedVariables false
set_option linter.unusedSimpArgs false

set_option maxRecDepth 100000 in
set_option maxHeartbeats 4000000 in
theorem spSix_any (p : P4) (src dst : ByteArray) (w : World) :
  Calls Try.prog 27 #[p4C p, .string src, .string dst] w fun e w' => e = .returned (p6C (six4 p src dst)) ∧ Below w.heap.size w w' := by
 have HV : Hid (six4 p src dst = ⟨p.tos, 0, if p.proto = 1 then 58 else p.proto, p.ttl, src, dst, pcd p, p.more && pcd p, if pcd p then p.off else 0, if pcd p then p.id else 0, p.data⟩) := rfl
 have HC : Hid (pcd p = (p.more || !decide (p.off = 0))) := rfl
 obtain ⟨tos, id, whole, more, off, ttl, proto, src4, dst4, opts, data⟩ := p
 dsimp only at *
 generalize six4 ⟨tos, id, whole, more, off, ttl, proto, src4, dst4, opts, data⟩ src dst = ans at *
 generalize pcd ⟨tos, id, whole, more, off, ttl, proto, src4, dst4, opts, data⟩ = pc at *
 unfold p4C
 dsimp only
 have e0 : HoldsL ((w.alloc (.cells #[.int .i64 tos, .int .i64 id, .bool whole, .bool more, .int .i64 off, .int .i64 ttl, .int .i64 proto, .string src4, .string dst4, .string opts, .string data] 24)).alloc (.cells #[.int .i64 0, .int .i64 0, .int .i64 0, .int .i64 0, .string ⟨#[]⟩, .string ⟨#[]⟩, .bool false, .bool false, .int .i64 0, .int .i64 0, .string ⟨#[]⟩] 28)) (w.heap.size) [.int .i64 tos, .int .i64 id, .bool whole, .bool more, .int .i64 off, .int .i64 ttl, .int .i64 proto, .string src4, .string dst4, .string opts, .string data] := by
  have h := HoldsL.new w [.int .i64 tos, .int .i64 id, .bool whole, .bool more, .int .i64 off, .int .i64 ttl, .int .i64 proto, .string src4, .string dst4, .string opts, .string data] 24
  try simp only [World.size_alloc] at h
  exact (h.alloc _)
 have e1 : HoldsL ((w.alloc (.cells #[.int .i64 tos, .int .i64 id, .bool whole, .bool more, .int .i64 off, .int .i64 ttl, .int .i64 proto, .string src4, .string dst4, .string opts, .string data] 24)).alloc (.cells #[.int .i64 0, .int .i64 0, .int .i64 0, .int .i64 0, .string ⟨#[]⟩, .string ⟨#[]⟩, .bool false, .bool false, .int .i64 0, .int .i64 0, .string ⟨#[]⟩] 28)) (w.heap.size + 1) [.int .i64 0, .int .i64 0, .int .i64 0, .int .i64 0, .string ⟨#[]⟩, .string ⟨#[]⟩, .bool false, .bool false, .int .i64 0, .int .i64 0, .string ⟨#[]⟩] := by
  have h := HoldsL.new (w.alloc (.cells #[.int .i64 tos, .int .i64 id, .bool whole, .bool more, .int .i64 off, .int .i64 ttl, .int .i64 proto, .string src4, .string dst4, .string opts, .string data] 24)) [.int .i64 0, .int .i64 0, .int .i64 0, .int .i64 0, .string ⟨#[]⟩, .string ⟨#[]⟩, .bool false, .bool false, .int .i64 0, .int .i64 0, .string ⟨#[]⟩] 28
  try simp only [World.size_alloc] at h
  exact h
 have HS0 : Hid (Bxs w [(w.heap.size, [.int .i64 tos, .int .i64 id, .bool whole, .bool more, .int .i64 off, .int .i64 ttl, .int .i64 proto, .string src4, .string dst4, .string opts, .string data]), (w.heap.size + 1, [.int .i64 0, .int .i64 0, .int .i64 0, .int .i64 0, .string ⟨#[]⟩, .string ⟨#[]⟩, .bool false, .bool false, .int .i64 0, .int .i64 0, .string ⟨#[]⟩])] ((w.alloc (.cells #[.int .i64 tos, .int .i64 id, .bool whole, .bool more, .int .i64 off, .int .i64 ttl, .int .i64 proto, .string src4, .string dst4, .string opts, .string data] 24)).alloc (.cells #[.int .i64 0, .int .i64 0, .int .i64 0, .int .i64 0, .string ⟨#[]⟩, .string ⟨#[]⟩, .bool false, .bool false, .int .i64 0, .int .i64 0, .string ⟨#[]⟩] 28))) := by
  refine ⟨fun e he => ?_, (((Below.refl _ _).alloc (by (try simp only [World.size_alloc]); omega) _).alloc (by (try simp only [World.size_alloc]); omega) _), fun e he => ?_⟩
  ·simp only [List.mem_cons, List.not_mem_nil, or_false] at he
   rcases he with rfl | rfl
   ·exact e0
   ·exact e1
  ·simp only [List.mem_cons, List.not_mem_nil, or_false] at he
   rcases he with rfl | rfl <;> simp
 clear e0 e1
 have HSG : Hid (HoldsL (((w.alloc (.cells #[.int .i64 tos, .int .i64 id, .bool whole, .bool more, .int .i64 off, .int .i64 ttl, .int .i64 proto, .string src4, .string dst4, .string opts, .string data] 24)).alloc (.cells #[.int .i64 0, .int .i64 0, .int .i64 0, .int .i64 0, .string ⟨#[]⟩, .string ⟨#[]⟩, .bool false, .bool false, .int .i64 0, .int .i64 0, .string ⟨#[]⟩] 28)).alloc (.cells #[.int .i64 tos, .int .i64 0, .int .i64 proto, .int .i64 ttl, .string src, .string dst, .bool false, .bool false, .int .i64 0, .int .i64 0, .string data] 28)) (w.heap.size + 1 + 1) [.int .i64 tos, .int .i64 0, .int .i64 proto, .int .i64 ttl, .string src, .string dst, .bool false, .bool false, .int .i64 0, .int .i64 0, .string data]) := by
  have h := HoldsL.new ((w.alloc (.cells #[.int .i64 tos, .int .i64 id, .bool whole, .bool more, .int .i64 off, .int .i64 ttl, .int .i64 proto, .string src4, .string dst4, .string opts, .string data] 24)).alloc (.cells #[.int .i64 0, .int .i64 0, .int .i64 0, .int .i64 0, .string ⟨#[]⟩, .string ⟨#[]⟩, .bool false, .bool false, .int .i64 0, .int .i64 0, .string ⟨#[]⟩] 28)) [.int .i64 tos, .int .i64 0, .int .i64 proto, .int .i64 ttl, .string src, .string dst, .bool false, .bool false, .int .i64 0, .int .i64 0, .string data] 28
  simp only [World.size_alloc] at h
  exact h
 have HS1 : Hid (Bxs w [(w.heap.size, [.int .i64 tos, .int .i64 id, .bool whole, .bool more, .int .i64 off, .int .i64 ttl, .int .i64 proto, .string src4, .string dst4, .string opts, .string data]), (w.heap.size + 1, [.int .i64 0, .int .i64 0, .int .i64 0, .int .i64 0, .string ⟨#[]⟩, .string ⟨#[]⟩, .bool false, .bool false, .int .i64 0, .int .i64 0, .string ⟨#[]⟩])] (((w.alloc (.cells #[.int .i64 tos, .int .i64 id, .bool whole, .bool more, .int .i64 off, .int .i64 ttl, .int .i64 proto, .string src4, .string dst4, .string opts, .string data] 24)).alloc (.cells #[.int .i64 0, .int .i64 0, .int .i64 0, .int .i64 0, .string ⟨#[]⟩, .string ⟨#[]⟩, .bool false, .bool false, .int .i64 0, .int .i64 0, .string ⟨#[]⟩] 28)).alloc (.cells #[.int .i64 tos, .int .i64 0, .int .i64 proto, .int .i64 ttl, .string src, .string dst, .bool false, .bool false, .int .i64 0, .int .i64 0, .string data] 28))) := HS0.out.kept ((Below.refl _ _).alloc (Nat.le_refl _) _)
 have hn1 : ¬ w.heap.size + 1 + 1 = w.heap.size := by omega
 have hn2 : ¬ w.heap.size + 1 + 1 = w.heap.size + 1 := by omega
 have hn3 : ¬ w.heap.size = w.heap.size + 1 + 1 := by omega
 have hn4 : ¬ w.heap.size + 1 = w.heap.size + 1 + 1 := by omega
 have hlo : w.heap.size ≤ w.heap.size + 1 + 1 := by omega
 have hlr : w.heap.size ≤ w.heap.size + 1 := by omega
 go_enter Try.func27, Try.ntmps27
 go_upto_region 2 with fail
 generalize ((w.alloc (.cells #[.int .i64 tos, .int .i64 id, .bool whole, .bool more, .int .i64 off, .int .i64 ttl, .int .i64 proto, .string src4, .string dst4, .string opts, .string data] 24)).alloc (.cells #[.int .i64 0, .int .i64 0, .int .i64 0, .int .i64 0, .string ⟨#[]⟩, .string ⟨#[]⟩, .bool false, .bool false, .int .i64 0, .int .i64 0, .string ⟨#[]⟩] 28)).alloc (.cells #[.int .i64 tos, .int .i64 0, .int .i64 proto, .int .i64 ttl, .string src, .string dst, .bool false, .bool false, .int .i64 0, .int .i64 0, .string data] 28) = W1 at *
 clear HS0
 by_cases c1 : proto = 1
 ·subst c1
  cases more with
  | true =>
   have hpc : pc = true := by rw [HC.out]; rfl
   subst hpc
   have HHk := HS1.out.at (.head _)
   have k0 := HHk.cell (j := 0) rfl
   have k1 := HHk.cell (j := 1) rfl
   have k2 := HHk.cell (j := 2) rfl
   have k3 := HHk.cell (j := 3) rfl
   have k4 := HHk.cell (j := 4) rfl
   have k5 := HHk.cell (j := 5) rfl
   have k6 := HHk.cell (j := 6) rfl
   have k7 := HHk.cell (j := 7) rfl
   have k8 := HHk.cell (j := 8) rfl
   have k9 := HHk.cell (j := 9) rfl
   have k10 := HHk.cell (j := 10) rfl
   clear HHk
   have j0 := HSG.out.cell (j := 0) rfl
   have j1 := HSG.out.cell (j := 1) rfl
   have j2 := HSG.out.cell (j := 2) rfl
   have j3 := HSG.out.cell (j := 3) rfl
   have j4 := HSG.out.cell (j := 4) rfl
   have j5 := HSG.out.cell (j := 5) rfl
   have j6 := HSG.out.cell (j := 6) rfl
   have j7 := HSG.out.cell (j := 7) rfl
   have j8 := HSG.out.cell (j := 8) rfl
   have j9 := HSG.out.cell (j := 9) rfl
   have j10 := HSG.out.cell (j := 10) rfl
   have jf2 := HSG.out.free (j := 2) (by simp)
   have jf6 := HSG.out.free (j := 6) (by simp)
   have jf7 := HSG.out.free (j := 7) (by simp)
   have jf8 := HSG.out.free (j := 8) (by simp)
   have jf9 := HSG.out.free (j := 9) (by simp)
   have HHz0 := HS1.out.at (.tail _ (.head _))
   have HHz : HoldsL (((((W1.setCell ⟨w.heap.size + 1 + 1, 2, none⟩ (.int .i64 58)).setCell ⟨w.heap.size + 1 + 1, 6, none⟩ (.bool true)).setCell ⟨w.heap.size + 1 + 1, 7, none⟩ (.bool true)).setCell ⟨w.heap.size + 1 + 1, 8, none⟩ (.int .i64 off)).setCell ⟨w.heap.size + 1 + 1, 9, none⟩ (.int .i64 id)) (w.heap.size + 1) [.int .i64 0, .int .i64 0, .int .i64 0, .int .i64 0, .string ⟨#[]⟩, .string ⟨#[]⟩, .bool false, .bool false, .int .i64 0, .int .i64 0, .string ⟨#[]⟩] := (((((HHz0.setOther hn4 _).setOther hn4 _).setOther hn4 _).setOther hn4 _).setOther hn4 _)
   have zf0 := HHz0.free (j := 0) (by simp)
   have zf1 := HHz0.free (j := 1) (by simp)
   have zf2 := HHz0.free (j := 2) (by simp)
   have zf3 := HHz0.free (j := 3) (by simp)
   have zf4 := HHz0.free (j := 4) (by simp)
   have zf5 := HHz0.free (j := 5) (by simp)
   have zf6 := HHz0.free (j := 6) (by simp)
   have zf7 := HHz0.free (j := 7) (by simp)
   have zf8 := HHz0.free (j := 8) (by simp)
   have zf9 := HHz0.free (j := 9) (by simp)
   have zf10 := HHz0.free (j := 10) (by simp)
   have z0 := HHz0.cell (j := 0) rfl
   have z1 := HHz0.cell (j := 1) rfl
   have z2 := HHz0.cell (j := 2) rfl
   have z3 := HHz0.cell (j := 3) rfl
   have z4 := HHz0.cell (j := 4) rfl
   have z5 := HHz0.cell (j := 5) rfl
   have z6 := HHz0.cell (j := 6) rfl
   have z7 := HHz0.cell (j := 7) rfl
   have z8 := HHz0.cell (j := 8) rfl
   have z9 := HHz0.cell (j := 9) rfl
   have z10 := HHz0.cell (j := 10) rfl
   have RB : Hid _ := ((((((((((((((((HS1.out.b.setCell (p := ⟨w.heap.size + 1 + 1, 2, none⟩) hlo (.int .i64 58)).setCell (p := ⟨w.heap.size + 1 + 1, 6, none⟩) hlo (.bool true)).setCell (p := ⟨w.heap.size + 1 + 1, 7, none⟩) hlo (.bool true)).setCell (p := ⟨w.heap.size + 1 + 1, 8, none⟩) hlo (.int .i64 off)).setCell (p := ⟨w.heap.size + 1 + 1, 9, none⟩) hlo (.int .i64 id)).setCell (p := ⟨w.heap.size + 1, 0, none⟩) hlr (.int .i64 tos)).setCell (p := ⟨w.heap.size + 1, 1, none⟩) hlr (.int .i64 0)).setCell (p := ⟨w.heap.size + 1, 2, none⟩) hlr (.int .i64 58)).setCell (p := ⟨w.heap.size + 1, 3, none⟩) hlr (.int .i64 ttl)).setCell (p := ⟨w.heap.size + 1, 4, none⟩) hlr (.string src)).setCell (p := ⟨w.heap.size + 1, 5, none⟩) hlr (.string dst)).setCell (p := ⟨w.heap.size + 1, 6, none⟩) hlr (.bool true)).setCell (p := ⟨w.heap.size + 1, 7, none⟩) hlr (.bool true)).setCell (p := ⟨w.heap.size + 1, 8, none⟩) hlr (.int .i64 off)).setCell (p := ⟨w.heap.size + 1, 9, none⟩) hlr (.int .i64 id)).setCell (p := ⟨w.heap.size + 1, 10, none⟩) hlr (.string data))
   have HRR : Hid (HoldsL ((((((((((((((((W1.setCell ⟨w.heap.size + 1 + 1, 2, none⟩ (.int .i64 58)).setCell ⟨w.heap.size + 1 + 1, 6, none⟩ (.bool true)).setCell ⟨w.heap.size + 1 + 1, 7, none⟩ (.bool true)).setCell ⟨w.heap.size + 1 + 1, 8, none⟩ (.int .i64 off)).setCell ⟨w.heap.size + 1 + 1, 9, none⟩ (.int .i64 id)).setCell ⟨w.heap.size + 1, 0, none⟩ (.int .i64 tos)).setCell ⟨w.heap.size + 1, 1, none⟩ (.int .i64 0)).setCell ⟨w.heap.size + 1, 2, none⟩ (.int .i64 58)).setCell ⟨w.heap.size + 1, 3, none⟩ (.int .i64 ttl)).setCell ⟨w.heap.size + 1, 4, none⟩ (.string src)).setCell ⟨w.heap.size + 1, 5, none⟩ (.string dst)).setCell ⟨w.heap.size + 1, 6, none⟩ (.bool true)).setCell ⟨w.heap.size + 1, 7, none⟩ (.bool true)).setCell ⟨w.heap.size + 1, 8, none⟩ (.int .i64 off)).setCell ⟨w.heap.size + 1, 9, none⟩ (.int .i64 id)).setCell ⟨w.heap.size + 1, 10, none⟩ (.string data)) (w.heap.size + 1) [.int .i64 tos, .int .i64 0, .int .i64 58, .int .i64 ttl, .string src, .string dst, .bool true, .bool true, .int .i64 off, .int .i64 id, .string data]) := (((((((((((HHz.set 0 (.int .i64 tos)).set 1 (.int .i64 0)).set 2 (.int .i64 58)).set 3 (.int .i64 ttl)).set 4 (.string src)).set 5 (.string dst)).set 6 (.bool true)).set 7 (.bool true)).set 8 (.int .i64 off)).set 9 (.int .i64 id)).set 10 (.string data))
   have HX : Hid (ans = ⟨tos, 0, 58, ttl, src, dst, true, true, off, id, data⟩) := by
    unfold Hid; rw [HV.out]
    simp []
   clear HV HC HHz HHz0 HSG HS1
   go_wp2_with fail
   exact bodyPost_ret (results_mid Try.results27 _ _ (w.heap.size + 1) [.int .i64 tos, .int .i64 0, .int .i64 58, .int .i64 ttl, .string src, .string dst, .bool true, .bool true, .int .i64 off, .int .i64 id, .string data] _ rfl HRR.out Try.underlying28 rfl (show (Try.prog.info? 28).map (·.size) = some 11 by kernel_rfl)) rfl (And.intro (by rw [HX.out]; rfl) RB.out)
  | false =>
   by_cases c2 : off = 0
   ·subst c2
    have hpc : pc = false := by rw [HC.out]; rfl
    subst hpc
    have HHk := HS1.out.at (.head _)
    have k0 := HHk.cell (j := 0) rfl
    have k1 := HHk.cell (j := 1) rfl
    have k2 := HHk.cell (j := 2) rfl
    have k3 := HHk.cell (j := 3) rfl
    have k4 := HHk.cell (j := 4) rfl
    have k5 := HHk.cell (j := 5) rfl
    have k6 := HHk.cell (j := 6) rfl
    have k7 := HHk.cell (j := 7) rfl
    have k8 := HHk.cell (j := 8) rfl
    have k9 := HHk.cell (j := 9) rfl
    have k10 := HHk.cell (j := 10) rfl
    clear HHk
    have j0 := HSG.out.cell (j := 0) rfl
    have j1 := HSG.out.cell (j := 1) rfl
    have j2 := HSG.out.cell (j := 2) rfl
    have j3 := HSG.out.cell (j := 3) rfl
    have j4 := HSG.out.cell (j := 4) rfl
    have j5 := HSG.out.cell (j := 5) rfl
    have j6 := HSG.out.cell (j := 6) rfl
    have j7 := HSG.out.cell (j := 7) rfl
    have j8 := HSG.out.cell (j := 8) rfl
    have j9 := HSG.out.cell (j := 9) rfl
    have j10 := HSG.out.cell (j := 10) rfl
    have jf2 := HSG.out.free (j := 2) (by simp)
    have HHz0 := HS1.out.at (.tail _ (.head _))
    have HHz : HoldsL (W1.setCell ⟨w.heap.size + 1 + 1, 2, none⟩ (.int .i64 58)) (w.heap.size + 1) [.int .i64 0, .int .i64 0, .int .i64 0, .int .i64 0, .string ⟨#[]⟩, .string ⟨#[]⟩, .bool false, .bool false, .int .i64 0, .int .i64 0, .string ⟨#[]⟩] := (HHz0.setOther hn4 _)
    have zf0 := HHz0.free (j := 0) (by simp)
    have zf1 := HHz0.free (j := 1) (by simp)
    have zf2 := HHz0.free (j := 2) (by simp)
    have zf3 := HHz0.free (j := 3) (by simp)
    have zf4 := HHz0.free (j := 4) (by simp)
    have zf5 := HHz0.free (j := 5) (by simp)
    have zf6 := HHz0.free (j := 6) (by simp)
    have zf7 := HHz0.free (j := 7) (by simp)
    have zf8 := HHz0.free (j := 8) (by simp)
    have zf9 := HHz0.free (j := 9) (by simp)
    have zf10 := HHz0.free (j := 10) (by simp)
    have z0 := HHz0.cell (j := 0) rfl
    have z1 := HHz0.cell (j := 1) rfl
    have z2 := HHz0.cell (j := 2) rfl
    have z3 := HHz0.cell (j := 3) rfl
    have z4 := HHz0.cell (j := 4) rfl
    have z5 := HHz0.cell (j := 5) rfl
    have z6 := HHz0.cell (j := 6) rfl
    have z7 := HHz0.cell (j := 7) rfl
    have z8 := HHz0.cell (j := 8) rfl
    have z9 := HHz0.cell (j := 9) rfl
    have z10 := HHz0.cell (j := 10) rfl
    have RB : Hid _ := ((((((((((((HS1.out.b.setCell (p := ⟨w.heap.size + 1 + 1, 2, none⟩) hlo (.int .i64 58)).setCell (p := ⟨w.heap.size + 1, 0, none⟩) hlr (.int .i64 tos)).setCell (p := ⟨w.heap.size + 1, 1, none⟩) hlr (.int .i64 0)).setCell (p := ⟨w.heap.size + 1, 2, none⟩) hlr (.int .i64 58)).setCell (p := ⟨w.heap.size + 1, 3, none⟩) hlr (.int .i64 ttl)).setCell (p := ⟨w.heap.size + 1, 4, none⟩) hlr (.string src)).setCell (p := ⟨w.heap.size + 1, 5, none⟩) hlr (.string dst)).setCell (p := ⟨w.heap.size + 1, 6, none⟩) hlr (.bool false)).setCell (p := ⟨w.heap.size + 1, 7, none⟩) hlr (.bool false)).setCell (p := ⟨w.heap.size + 1, 8, none⟩) hlr (.int .i64 0)).setCell (p := ⟨w.heap.size + 1, 9, none⟩) hlr (.int .i64 0)).setCell (p := ⟨w.heap.size + 1, 10, none⟩) hlr (.string data))
    have HRR : Hid (HoldsL ((((((((((((W1.setCell ⟨w.heap.size + 1 + 1, 2, none⟩ (.int .i64 58)).setCell ⟨w.heap.size + 1, 0, none⟩ (.int .i64 tos)).setCell ⟨w.heap.size + 1, 1, none⟩ (.int .i64 0)).setCell ⟨w.heap.size + 1, 2, none⟩ (.int .i64 58)).setCell ⟨w.heap.size + 1, 3, none⟩ (.int .i64 ttl)).setCell ⟨w.heap.size + 1, 4, none⟩ (.string src)).setCell ⟨w.heap.size + 1, 5, none⟩ (.string dst)).setCell ⟨w.heap.size + 1, 6, none⟩ (.bool false)).setCell ⟨w.heap.size + 1, 7, none⟩ (.bool false)).setCell ⟨w.heap.size + 1, 8, none⟩ (.int .i64 0)).setCell ⟨w.heap.size + 1, 9, none⟩ (.int .i64 0)).setCell ⟨w.heap.size + 1, 10, none⟩ (.string data)) (w.heap.size + 1) [.int .i64 tos, .int .i64 0, .int .i64 58, .int .i64 ttl, .string src, .string dst, .bool false, .bool false, .int .i64 0, .int .i64 0, .string data]) := (((((((((((HHz.set 0 (.int .i64 tos)).set 1 (.int .i64 0)).set 2 (.int .i64 58)).set 3 (.int .i64 ttl)).set 4 (.string src)).set 5 (.string dst)).set 6 (.bool false)).set 7 (.bool false)).set 8 (.int .i64 0)).set 9 (.int .i64 0)).set 10 (.string data))
    have HX : Hid (ans = ⟨tos, 0, 58, ttl, src, dst, false, false, 0, 0, data⟩) := by
     unfold Hid; rw [HV.out]
     simp []
    clear HV HC HHz HHz0 HSG HS1
    go_wp2_with fail
    exact bodyPost_ret (results_mid Try.results27 _ _ (w.heap.size + 1) [.int .i64 tos, .int .i64 0, .int .i64 58, .int .i64 ttl, .string src, .string dst, .bool false, .bool false, .int .i64 0, .int .i64 0, .string data] _ rfl HRR.out Try.underlying28 rfl (show (Try.prog.info? 28).map (·.size) = some 11 by kernel_rfl)) rfl (And.intro (by rw [HX.out]; rfl) RB.out)
   ·have d2 : (off != 0) = true := by simpa using c2
    have hpc : pc = true := by rw [HC.out]; simp [c2]
    subst hpc
    have HHk := HS1.out.at (.head _)
    have k0 := HHk.cell (j := 0) rfl
    have k1 := HHk.cell (j := 1) rfl
    have k2 := HHk.cell (j := 2) rfl
    have k3 := HHk.cell (j := 3) rfl
    have k4 := HHk.cell (j := 4) rfl
    have k5 := HHk.cell (j := 5) rfl
    have k6 := HHk.cell (j := 6) rfl
    have k7 := HHk.cell (j := 7) rfl
    have k8 := HHk.cell (j := 8) rfl
    have k9 := HHk.cell (j := 9) rfl
    have k10 := HHk.cell (j := 10) rfl
    clear HHk
    have j0 := HSG.out.cell (j := 0) rfl
    have j1 := HSG.out.cell (j := 1) rfl
    have j2 := HSG.out.cell (j := 2) rfl
    have j3 := HSG.out.cell (j := 3) rfl
    have j4 := HSG.out.cell (j := 4) rfl
    have j5 := HSG.out.cell (j := 5) rfl
    have j6 := HSG.out.cell (j := 6) rfl
    have j7 := HSG.out.cell (j := 7) rfl
    have j8 := HSG.out.cell (j := 8) rfl
    have j9 := HSG.out.cell (j := 9) rfl
    have j10 := HSG.out.cell (j := 10) rfl
    have jf2 := HSG.out.free (j := 2) (by simp)
    have jf6 := HSG.out.free (j := 6) (by simp)
    have jf7 := HSG.out.free (j := 7) (by simp)
    have jf8 := HSG.out.free (j := 8) (by simp)
    have jf9 := HSG.out.free (j := 9) (by simp)
    have HHz0 := HS1.out.at (.tail _ (.head _))
    have HHz : HoldsL (((((W1.setCell ⟨w.heap.size + 1 + 1, 2, none⟩ (.int .i64 58)).setCell ⟨w.heap.size + 1 + 1, 6, none⟩ (.bool true)).setCell ⟨w.heap.size + 1 + 1, 7, none⟩ (.bool false)).setCell ⟨w.heap.size + 1 + 1, 8, none⟩ (.int .i64 off)).setCell ⟨w.heap.size + 1 + 1, 9, none⟩ (.int .i64 id)) (w.heap.size + 1) [.int .i64 0, .int .i64 0, .int .i64 0, .int .i64 0, .string ⟨#[]⟩, .string ⟨#[]⟩, .bool false, .bool false, .int .i64 0, .int .i64 0, .string ⟨#[]⟩] := (((((HHz0.setOther hn4 _).setOther hn4 _).setOther hn4 _).setOther hn4 _).setOther hn4 _)
    have zf0 := HHz0.free (j := 0) (by simp)
    have zf1 := HHz0.free (j := 1) (by simp)
    have zf2 := HHz0.free (j := 2) (by simp)
    have zf3 := HHz0.free (j := 3) (by simp)
    have zf4 := HHz0.free (j := 4) (by simp)
    have zf5 := HHz0.free (j := 5) (by simp)
    have zf6 := HHz0.free (j := 6) (by simp)
    have zf7 := HHz0.free (j := 7) (by simp)
    have zf8 := HHz0.free (j := 8) (by simp)
    have zf9 := HHz0.free (j := 9) (by simp)
    have zf10 := HHz0.free (j := 10) (by simp)
    have z0 := HHz0.cell (j := 0) rfl
    have z1 := HHz0.cell (j := 1) rfl
    have z2 := HHz0.cell (j := 2) rfl
    have z3 := HHz0.cell (j := 3) rfl
    have z4 := HHz0.cell (j := 4) rfl
    have z5 := HHz0.cell (j := 5) rfl
    have z6 := HHz0.cell (j := 6) rfl
    have z7 := HHz0.cell (j := 7) rfl
    have z8 := HHz0.cell (j := 8) rfl
    have z9 := HHz0.cell (j := 9) rfl
    have z10 := HHz0.cell (j := 10) rfl
    have RB : Hid _ := ((((((((((((((((HS1.out.b.setCell (p := ⟨w.heap.size + 1 + 1, 2, none⟩) hlo (.int .i64 58)).setCell (p := ⟨w.heap.size + 1 + 1, 6, none⟩) hlo (.bool true)).setCell (p := ⟨w.heap.size + 1 + 1, 7, none⟩) hlo (.bool false)).setCell (p := ⟨w.heap.size + 1 + 1, 8, none⟩) hlo (.int .i64 off)).setCell (p := ⟨w.heap.size + 1 + 1, 9, none⟩) hlo (.int .i64 id)).setCell (p := ⟨w.heap.size + 1, 0, none⟩) hlr (.int .i64 tos)).setCell (p := ⟨w.heap.size + 1, 1, none⟩) hlr (.int .i64 0)).setCell (p := ⟨w.heap.size + 1, 2, none⟩) hlr (.int .i64 58)).setCell (p := ⟨w.heap.size + 1, 3, none⟩) hlr (.int .i64 ttl)).setCell (p := ⟨w.heap.size + 1, 4, none⟩) hlr (.string src)).setCell (p := ⟨w.heap.size + 1, 5, none⟩) hlr (.string dst)).setCell (p := ⟨w.heap.size + 1, 6, none⟩) hlr (.bool true)).setCell (p := ⟨w.heap.size + 1, 7, none⟩) hlr (.bool false)).setCell (p := ⟨w.heap.size + 1, 8, none⟩) hlr (.int .i64 off)).setCell (p := ⟨w.heap.size + 1, 9, none⟩) hlr (.int .i64 id)).setCell (p := ⟨w.heap.size + 1, 10, none⟩) hlr (.string data))
    have HRR : Hid (HoldsL ((((((((((((((((W1.setCell ⟨w.heap.size + 1 + 1, 2, none⟩ (.int .i64 58)).setCell ⟨w.heap.size + 1 + 1, 6, none⟩ (.bool true)).setCell ⟨w.heap.size + 1 + 1, 7, none⟩ (.bool false)).setCell ⟨w.heap.size + 1 + 1, 8, none⟩ (.int .i64 off)).setCell ⟨w.heap.size + 1 + 1, 9, none⟩ (.int .i64 id)).setCell ⟨w.heap.size + 1, 0, none⟩ (.int .i64 tos)).setCell ⟨w.heap.size + 1, 1, none⟩ (.int .i64 0)).setCell ⟨w.heap.size + 1, 2, none⟩ (.int .i64 58)).setCell ⟨w.heap.size + 1, 3, none⟩ (.int .i64 ttl)).setCell ⟨w.heap.size + 1, 4, none⟩ (.string src)).setCell ⟨w.heap.size + 1, 5, none⟩ (.string dst)).setCell ⟨w.heap.size + 1, 6, none⟩ (.bool true)).setCell ⟨w.heap.size + 1, 7, none⟩ (.bool false)).setCell ⟨w.heap.size + 1, 8, none⟩ (.int .i64 off)).setCell ⟨w.heap.size + 1, 9, none⟩ (.int .i64 id)).setCell ⟨w.heap.size + 1, 10, none⟩ (.string data)) (w.heap.size + 1) [.int .i64 tos, .int .i64 0, .int .i64 58, .int .i64 ttl, .string src, .string dst, .bool true, .bool false, .int .i64 off, .int .i64 id, .string data]) := (((((((((((HHz.set 0 (.int .i64 tos)).set 1 (.int .i64 0)).set 2 (.int .i64 58)).set 3 (.int .i64 ttl)).set 4 (.string src)).set 5 (.string dst)).set 6 (.bool true)).set 7 (.bool false)).set 8 (.int .i64 off)).set 9 (.int .i64 id)).set 10 (.string data))
    have HX : Hid (ans = ⟨tos, 0, 58, ttl, src, dst, true, false, off, id, data⟩) := by
     unfold Hid; rw [HV.out]
     simp []
    clear HV HC HHz HHz0 HSG HS1
    go_wp2_with fail
    exact bodyPost_ret (results_mid Try.results27 _ _ (w.heap.size + 1) [.int .i64 tos, .int .i64 0, .int .i64 58, .int .i64 ttl, .string src, .string dst, .bool true, .bool false, .int .i64 off, .int .i64 id, .string data] _ rfl HRR.out Try.underlying28 rfl (show (Try.prog.info? 28).map (·.size) = some 11 by kernel_rfl)) rfl (And.intro (by rw [HX.out]; rfl) RB.out)
 ·have d1 : (proto == 1) = false := by simpa using c1
  cases more with
  | true =>
   have hpc : pc = true := by rw [HC.out]; rfl
   subst hpc
   have HHk := HS1.out.at (.head _)
   have k0 := HHk.cell (j := 0) rfl
   have k1 := HHk.cell (j := 1) rfl
   have k2 := HHk.cell (j := 2) rfl
   have k3 := HHk.cell (j := 3) rfl
   have k4 := HHk.cell (j := 4) rfl
   have k5 := HHk.cell (j := 5) rfl
   have k6 := HHk.cell (j := 6) rfl
   have k7 := HHk.cell (j := 7) rfl
   have k8 := HHk.cell (j := 8) rfl
   have k9 := HHk.cell (j := 9) rfl
   have k10 := HHk.cell (j := 10) rfl
   clear HHk
   have j0 := HSG.out.cell (j := 0) rfl
   have j1 := HSG.out.cell (j := 1) rfl
   have j2 := HSG.out.cell (j := 2) rfl
   have j3 := HSG.out.cell (j := 3) rfl
   have j4 := HSG.out.cell (j := 4) rfl
   have j5 := HSG.out.cell (j := 5) rfl
   have j6 := HSG.out.cell (j := 6) rfl
   have j7 := HSG.out.cell (j := 7) rfl
   have j8 := HSG.out.cell (j := 8) rfl
   have j9 := HSG.out.cell (j := 9) rfl
   have j10 := HSG.out.cell (j := 10) rfl
   have jf6 := HSG.out.free (j := 6) (by simp)
   have jf7 := HSG.out.free (j := 7) (by simp)
   have jf8 := HSG.out.free (j := 8) (by simp)
   have jf9 := HSG.out.free (j := 9) (by simp)
   have HHz0 := HS1.out.at (.tail _ (.head _))
   have HHz : HoldsL ((((W1.setCell ⟨w.heap.size + 1 + 1, 6, none⟩ (.bool true)).setCell ⟨w.heap.size + 1 + 1, 7, none⟩ (.bool true)).setCell ⟨w.heap.size + 1 + 1, 8, none⟩ (.int .i64 off)).setCell ⟨w.heap.size + 1 + 1, 9, none⟩ (.int .i64 id)) (w.heap.size + 1) [.int .i64 0, .int .i64 0, .int .i64 0, .int .i64 0, .string ⟨#[]⟩, .string ⟨#[]⟩, .bool false, .bool false, .int .i64 0, .int .i64 0, .string ⟨#[]⟩] := ((((HHz0.setOther hn4 _).setOther hn4 _).setOther hn4 _).setOther hn4 _)
   have zf0 := HHz0.free (j := 0) (by simp)
   have zf1 := HHz0.free (j := 1) (by simp)
   have zf2 := HHz0.free (j := 2) (by simp)
   have zf3 := HHz0.free (j := 3) (by simp)
   have zf4 := HHz0.free (j := 4) (by simp)
   have zf5 := HHz0.free (j := 5) (by simp)
   have zf6 := HHz0.free (j := 6) (by simp)
   have zf7 := HHz0.free (j := 7) (by simp)
   have zf8 := HHz0.free (j := 8) (by simp)
   have zf9 := HHz0.free (j := 9) (by simp)
   have zf10 := HHz0.free (j := 10) (by simp)
   have z0 := HHz0.cell (j := 0) rfl
   have z1 := HHz0.cell (j := 1) rfl
   have z2 := HHz0.cell (j := 2) rfl
   have z3 := HHz0.cell (j := 3) rfl
   have z4 := HHz0.cell (j := 4) rfl
   have z5 := HHz0.cell (j := 5) rfl
   have z6 := HHz0.cell (j := 6) rfl
   have z7 := HHz0.cell (j := 7) rfl
   have z8 := HHz0.cell (j := 8) rfl
   have z9 := HHz0.cell (j := 9) rfl
   have z10 := HHz0.cell (j := 10) rfl
   have RB : Hid _ := (((((((((((((((HS1.out.b.setCell (p := ⟨w.heap.size + 1 + 1, 6, none⟩) hlo (.bool true)).setCell (p := ⟨w.heap.size + 1 + 1, 7, none⟩) hlo (.bool true)).setCell (p := ⟨w.heap.size + 1 + 1, 8, none⟩) hlo (.int .i64 off)).setCell (p := ⟨w.heap.size + 1 + 1, 9, none⟩) hlo (.int .i64 id)).setCell (p := ⟨w.heap.size + 1, 0, none⟩) hlr (.int .i64 tos)).setCell (p := ⟨w.heap.size + 1, 1, none⟩) hlr (.int .i64 0)).setCell (p := ⟨w.heap.size + 1, 2, none⟩) hlr (.int .i64 proto)).setCell (p := ⟨w.heap.size + 1, 3, none⟩) hlr (.int .i64 ttl)).setCell (p := ⟨w.heap.size + 1, 4, none⟩) hlr (.string src)).setCell (p := ⟨w.heap.size + 1, 5, none⟩) hlr (.string dst)).setCell (p := ⟨w.heap.size + 1, 6, none⟩) hlr (.bool true)).setCell (p := ⟨w.heap.size + 1, 7, none⟩) hlr (.bool true)).setCell (p := ⟨w.heap.size + 1, 8, none⟩) hlr (.int .i64 off)).setCell (p := ⟨w.heap.size + 1, 9, none⟩) hlr (.int .i64 id)).setCell (p := ⟨w.heap.size + 1, 10, none⟩) hlr (.string data))
   have HRR : Hid (HoldsL (((((((((((((((W1.setCell ⟨w.heap.size + 1 + 1, 6, none⟩ (.bool true)).setCell ⟨w.heap.size + 1 + 1, 7, none⟩ (.bool true)).setCell ⟨w.heap.size + 1 + 1, 8, none⟩ (.int .i64 off)).setCell ⟨w.heap.size + 1 + 1, 9, none⟩ (.int .i64 id)).setCell ⟨w.heap.size + 1, 0, none⟩ (.int .i64 tos)).setCell ⟨w.heap.size + 1, 1, none⟩ (.int .i64 0)).setCell ⟨w.heap.size + 1, 2, none⟩ (.int .i64 proto)).setCell ⟨w.heap.size + 1, 3, none⟩ (.int .i64 ttl)).setCell ⟨w.heap.size + 1, 4, none⟩ (.string src)).setCell ⟨w.heap.size + 1, 5, none⟩ (.string dst)).setCell ⟨w.heap.size + 1, 6, none⟩ (.bool true)).setCell ⟨w.heap.size + 1, 7, none⟩ (.bool true)).setCell ⟨w.heap.size + 1, 8, none⟩ (.int .i64 off)).setCell ⟨w.heap.size + 1, 9, none⟩ (.int .i64 id)).setCell ⟨w.heap.size + 1, 10, none⟩ (.string data)) (w.heap.size + 1) [.int .i64 tos, .int .i64 0, .int .i64 proto, .int .i64 ttl, .string src, .string dst, .bool true, .bool true, .int .i64 off, .int .i64 id, .string data]) := (((((((((((HHz.set 0 (.int .i64 tos)).set 1 (.int .i64 0)).set 2 (.int .i64 proto)).set 3 (.int .i64 ttl)).set 4 (.string src)).set 5 (.string dst)).set 6 (.bool true)).set 7 (.bool true)).set 8 (.int .i64 off)).set 9 (.int .i64 id)).set 10 (.string data))
   have HX : Hid (ans = ⟨tos, 0, proto, ttl, src, dst, true, true, off, id, data⟩) := by
    unfold Hid; rw [HV.out]
    simp [c1]
   clear HV HC HHz HHz0 HSG HS1
   go_wp2_with fail
   exact bodyPost_ret (results_mid Try.results27 _ _ (w.heap.size + 1) [.int .i64 tos, .int .i64 0, .int .i64 proto, .int .i64 ttl, .string src, .string dst, .bool true, .bool true, .int .i64 off, .int .i64 id, .string data] _ rfl HRR.out Try.underlying28 rfl (show (Try.prog.info? 28).map (·.size) = some 11 by kernel_rfl)) rfl (And.intro (by rw [HX.out]; rfl) RB.out)
  | false =>
   by_cases c2 : off = 0
   ·subst c2
    have hpc : pc = false := by rw [HC.out]; rfl
    subst hpc
    have HHk := HS1.out.at (.head _)
    have k0 := HHk.cell (j := 0) rfl
    have k1 := HHk.cell (j := 1) rfl
    have k2 := HHk.cell (j := 2) rfl
    have k3 := HHk.cell (j := 3) rfl
    have k4 := HHk.cell (j := 4) rfl
    have k5 := HHk.cell (j := 5) rfl
    have k6 := HHk.cell (j := 6) rfl
    have k7 := HHk.cell (j := 7) rfl
    have k8 := HHk.cell (j := 8) rfl
    have k9 := HHk.cell (j := 9) rfl
    have k10 := HHk.cell (j := 10) rfl
    clear HHk
    have j0 := HSG.out.cell (j := 0) rfl
    have j1 := HSG.out.cell (j := 1) rfl
    have j2 := HSG.out.cell (j := 2) rfl
    have j3 := HSG.out.cell (j := 3) rfl
    have j4 := HSG.out.cell (j := 4) rfl
    have j5 := HSG.out.cell (j := 5) rfl
    have j6 := HSG.out.cell (j := 6) rfl
    have j7 := HSG.out.cell (j := 7) rfl
    have j8 := HSG.out.cell (j := 8) rfl
    have j9 := HSG.out.cell (j := 9) rfl
    have j10 := HSG.out.cell (j := 10) rfl
    have HHz0 := HS1.out.at (.tail _ (.head _))
    have HHz : HoldsL W1 (w.heap.size + 1) [.int .i64 0, .int .i64 0, .int .i64 0, .int .i64 0, .string ⟨#[]⟩, .string ⟨#[]⟩, .bool false, .bool false, .int .i64 0, .int .i64 0, .string ⟨#[]⟩] := HHz0
    have zf0 := HHz0.free (j := 0) (by simp)
    have zf1 := HHz0.free (j := 1) (by simp)
    have zf2 := HHz0.free (j := 2) (by simp)
    have zf3 := HHz0.free (j := 3) (by simp)
    have zf4 := HHz0.free (j := 4) (by simp)
    have zf5 := HHz0.free (j := 5) (by simp)
    have zf6 := HHz0.free (j := 6) (by simp)
    have zf7 := HHz0.free (j := 7) (by simp)
    have zf8 := HHz0.free (j := 8) (by simp)
    have zf9 := HHz0.free (j := 9) (by simp)
    have zf10 := HHz0.free (j := 10) (by simp)
    have z0 := HHz0.cell (j := 0) rfl
    have z1 := HHz0.cell (j := 1) rfl
    have z2 := HHz0.cell (j := 2) rfl
    have z3 := HHz0.cell (j := 3) rfl
    have z4 := HHz0.cell (j := 4) rfl
    have z5 := HHz0.cell (j := 5) rfl
    have z6 := HHz0.cell (j := 6) rfl
    have z7 := HHz0.cell (j := 7) rfl
    have z8 := HHz0.cell (j := 8) rfl
    have z9 := HHz0.cell (j := 9) rfl
    have z10 := HHz0.cell (j := 10) rfl
    have RB : Hid _ := (((((((((((HS1.out.b.setCell (p := ⟨w.heap.size + 1, 0, none⟩) hlr (.int .i64 tos)).setCell (p := ⟨w.heap.size + 1, 1, none⟩) hlr (.int .i64 0)).setCell (p := ⟨w.heap.size + 1, 2, none⟩) hlr (.int .i64 proto)).setCell (p := ⟨w.heap.size + 1, 3, none⟩) hlr (.int .i64 ttl)).setCell (p := ⟨w.heap.size + 1, 4, none⟩) hlr (.string src)).setCell (p := ⟨w.heap.size + 1, 5, none⟩) hlr (.string dst)).setCell (p := ⟨w.heap.size + 1, 6, none⟩) hlr (.bool false)).setCell (p := ⟨w.heap.size + 1, 7, none⟩) hlr (.bool false)).setCell (p := ⟨w.heap.size + 1, 8, none⟩) hlr (.int .i64 0)).setCell (p := ⟨w.heap.size + 1, 9, none⟩) hlr (.int .i64 0)).setCell (p := ⟨w.heap.size + 1, 10, none⟩) hlr (.string data))
    have HRR : Hid (HoldsL (((((((((((W1.setCell ⟨w.heap.size + 1, 0, none⟩ (.int .i64 tos)).setCell ⟨w.heap.size + 1, 1, none⟩ (.int .i64 0)).setCell ⟨w.heap.size + 1, 2, none⟩ (.int .i64 proto)).setCell ⟨w.heap.size + 1, 3, none⟩ (.int .i64 ttl)).setCell ⟨w.heap.size + 1, 4, none⟩ (.string src)).setCell ⟨w.heap.size + 1, 5, none⟩ (.string dst)).setCell ⟨w.heap.size + 1, 6, none⟩ (.bool false)).setCell ⟨w.heap.size + 1, 7, none⟩ (.bool false)).setCell ⟨w.heap.size + 1, 8, none⟩ (.int .i64 0)).setCell ⟨w.heap.size + 1, 9, none⟩ (.int .i64 0)).setCell ⟨w.heap.size + 1, 10, none⟩ (.string data)) (w.heap.size + 1) [.int .i64 tos, .int .i64 0, .int .i64 proto, .int .i64 ttl, .string src, .string dst, .bool false, .bool false, .int .i64 0, .int .i64 0, .string data]) := (((((((((((HHz.set 0 (.int .i64 tos)).set 1 (.int .i64 0)).set 2 (.int .i64 proto)).set 3 (.int .i64 ttl)).set 4 (.string src)).set 5 (.string dst)).set 6 (.bool false)).set 7 (.bool false)).set 8 (.int .i64 0)).set 9 (.int .i64 0)).set 10 (.string data))
    have HX : Hid (ans = ⟨tos, 0, proto, ttl, src, dst, false, false, 0, 0, data⟩) := by
     unfold Hid; rw [HV.out]
     simp [c1]
    clear HV HC HHz HHz0 HSG HS1
    go_wp2_with fail
    exact bodyPost_ret (results_mid Try.results27 _ _ (w.heap.size + 1) [.int .i64 tos, .int .i64 0, .int .i64 proto, .int .i64 ttl, .string src, .string dst, .bool false, .bool false, .int .i64 0, .int .i64 0, .string data] _ rfl HRR.out Try.underlying28 rfl (show (Try.prog.info? 28).map (·.size) = some 11 by kernel_rfl)) rfl (And.intro (by rw [HX.out]; rfl) RB.out)
   ·have d2 : (off != 0) = true := by simpa using c2
    have hpc : pc = true := by rw [HC.out]; simp [c2]
    subst hpc
    have HHk := HS1.out.at (.head _)
    have k0 := HHk.cell (j := 0) rfl
    have k1 := HHk.cell (j := 1) rfl
    have k2 := HHk.cell (j := 2) rfl
    have k3 := HHk.cell (j := 3) rfl
    have k4 := HHk.cell (j := 4) rfl
    have k5 := HHk.cell (j := 5) rfl
    have k6 := HHk.cell (j := 6) rfl
    have k7 := HHk.cell (j := 7) rfl
    have k8 := HHk.cell (j := 8) rfl
    have k9 := HHk.cell (j := 9) rfl
    have k10 := HHk.cell (j := 10) rfl
    clear HHk
    have j0 := HSG.out.cell (j := 0) rfl
    have j1 := HSG.out.cell (j := 1) rfl
    have j2 := HSG.out.cell (j := 2) rfl
    have j3 := HSG.out.cell (j := 3) rfl
    have j4 := HSG.out.cell (j := 4) rfl
    have j5 := HSG.out.cell (j := 5) rfl
    have j6 := HSG.out.cell (j := 6) rfl
    have j7 := HSG.out.cell (j := 7) rfl
    have j8 := HSG.out.cell (j := 8) rfl
    have j9 := HSG.out.cell (j := 9) rfl
    have j10 := HSG.out.cell (j := 10) rfl
    have jf6 := HSG.out.free (j := 6) (by simp)
    have jf7 := HSG.out.free (j := 7) (by simp)
    have jf8 := HSG.out.free (j := 8) (by simp)
    have jf9 := HSG.out.free (j := 9) (by simp)
    have HHz0 := HS1.out.at (.tail _ (.head _))
    have HHz : HoldsL ((((W1.setCell ⟨w.heap.size + 1 + 1, 6, none⟩ (.bool true)).setCell ⟨w.heap.size + 1 + 1, 7, none⟩ (.bool false)).setCell ⟨w.heap.size + 1 + 1, 8, none⟩ (.int .i64 off)).setCell ⟨w.heap.size + 1 + 1, 9, none⟩ (.int .i64 id)) (w.heap.size + 1) [.int .i64 0, .int .i64 0, .int .i64 0, .int .i64 0, .string ⟨#[]⟩, .string ⟨#[]⟩, .bool false, .bool false, .int .i64 0, .int .i64 0, .string ⟨#[]⟩] := ((((HHz0.setOther hn4 _).setOther hn4 _).setOther hn4 _).setOther hn4 _)
    have zf0 := HHz0.free (j := 0) (by simp)
    have zf1 := HHz0.free (j := 1) (by simp)
    have zf2 := HHz0.free (j := 2) (by simp)
    have zf3 := HHz0.free (j := 3) (by simp)
    have zf4 := HHz0.free (j := 4) (by simp)
    have zf5 := HHz0.free (j := 5) (by simp)
    have zf6 := HHz0.free (j := 6) (by simp)
    have zf7 := HHz0.free (j := 7) (by simp)
    have zf8 := HHz0.free (j := 8) (by simp)
    have zf9 := HHz0.free (j := 9) (by simp)
    have zf10 := HHz0.free (j := 10) (by simp)
    have z0 := HHz0.cell (j := 0) rfl
    have z1 := HHz0.cell (j := 1) rfl
    have z2 := HHz0.cell (j := 2) rfl
    have z3 := HHz0.cell (j := 3) rfl
    have z4 := HHz0.cell (j := 4) rfl
    have z5 := HHz0.cell (j := 5) rfl
    have z6 := HHz0.cell (j := 6) rfl
    have z7 := HHz0.cell (j := 7) rfl
    have z8 := HHz0.cell (j := 8) rfl
    have z9 := HHz0.cell (j := 9) rfl
    have z10 := HHz0.cell (j := 10) rfl
    have RB : Hid _ := (((((((((((((((HS1.out.b.setCell (p := ⟨w.heap.size + 1 + 1, 6, none⟩) hlo (.bool true)).setCell (p := ⟨w.heap.size + 1 + 1, 7, none⟩) hlo (.bool false)).setCell (p := ⟨w.heap.size + 1 + 1, 8, none⟩) hlo (.int .i64 off)).setCell (p := ⟨w.heap.size + 1 + 1, 9, none⟩) hlo (.int .i64 id)).setCell (p := ⟨w.heap.size + 1, 0, none⟩) hlr (.int .i64 tos)).setCell (p := ⟨w.heap.size + 1, 1, none⟩) hlr (.int .i64 0)).setCell (p := ⟨w.heap.size + 1, 2, none⟩) hlr (.int .i64 proto)).setCell (p := ⟨w.heap.size + 1, 3, none⟩) hlr (.int .i64 ttl)).setCell (p := ⟨w.heap.size + 1, 4, none⟩) hlr (.string src)).setCell (p := ⟨w.heap.size + 1, 5, none⟩) hlr (.string dst)).setCell (p := ⟨w.heap.size + 1, 6, none⟩) hlr (.bool true)).setCell (p := ⟨w.heap.size + 1, 7, none⟩) hlr (.bool false)).setCell (p := ⟨w.heap.size + 1, 8, none⟩) hlr (.int .i64 off)).setCell (p := ⟨w.heap.size + 1, 9, none⟩) hlr (.int .i64 id)).setCell (p := ⟨w.heap.size + 1, 10, none⟩) hlr (.string data))
    have HRR : Hid (HoldsL (((((((((((((((W1.setCell ⟨w.heap.size + 1 + 1, 6, none⟩ (.bool true)).setCell ⟨w.heap.size + 1 + 1, 7, none⟩ (.bool false)).setCell ⟨w.heap.size + 1 + 1, 8, none⟩ (.int .i64 off)).setCell ⟨w.heap.size + 1 + 1, 9, none⟩ (.int .i64 id)).setCell ⟨w.heap.size + 1, 0, none⟩ (.int .i64 tos)).setCell ⟨w.heap.size + 1, 1, none⟩ (.int .i64 0)).setCell ⟨w.heap.size + 1, 2, none⟩ (.int .i64 proto)).setCell ⟨w.heap.size + 1, 3, none⟩ (.int .i64 ttl)).setCell ⟨w.heap.size + 1, 4, none⟩ (.string src)).setCell ⟨w.heap.size + 1, 5, none⟩ (.string dst)).setCell ⟨w.heap.size + 1, 6, none⟩ (.bool true)).setCell ⟨w.heap.size + 1, 7, none⟩ (.bool false)).setCell ⟨w.heap.size + 1, 8, none⟩ (.int .i64 off)).setCell ⟨w.heap.size + 1, 9, none⟩ (.int .i64 id)).setCell ⟨w.heap.size + 1, 10, none⟩ (.string data)) (w.heap.size + 1) [.int .i64 tos, .int .i64 0, .int .i64 proto, .int .i64 ttl, .string src, .string dst, .bool true, .bool false, .int .i64 off, .int .i64 id, .string data]) := (((((((((((HHz.set 0 (.int .i64 tos)).set 1 (.int .i64 0)).set 2 (.int .i64 proto)).set 3 (.int .i64 ttl)).set 4 (.string src)).set 5 (.string dst)).set 6 (.bool true)).set 7 (.bool false)).set 8 (.int .i64 off)).set 9 (.int .i64 id)).set 10 (.string data))
    have HX : Hid (ans = ⟨tos, 0, proto, ttl, src, dst, true, false, off, id, data⟩) := by
     unfold Hid; rw [HV.out]
     simp [c1]
    clear HV HC HHz HHz0 HSG HS1
    go_wp2_with fail
    exact bodyPost_ret (results_mid Try.results27 _ _ (w.heap.size + 1) [.int .i64 tos, .int .i64 0, .int .i64 proto, .int .i64 ttl, .string src, .string dst, .bool true, .bool false, .int .i64 off, .int .i64 id, .string data] _ rfl HRR.out Try.underlying28 rfl (show (Try.prog.info? 28).map (·.size) = some 11 by kernel_rfl)) rfl (And.intro (by rw [HX.out]; rfl) RB.out)
end Go.Proofs.Ytgnolcbdojjieaa
