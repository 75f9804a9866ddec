/- The law's own draws: what DrawSum and lwAt answer. -/
import Derived.Test.YtaoolicfjpaggaaDrawBytes
namespace Go.Proofs.Ytaoolicfjpaggaa
open Go.RowKit

set_option maxRecDepth 100000 in
set_option maxHeartbeats 1000000 in
theorem drawSum_any (a : Option Addr) (len cap : Nat) (w : World) (hl : len ≤ 1048576) (hb : Bytes w a len w.heap.size) :
    Calls Try.prog 8 #[.slice a len cap] w fun e w' => ∃ s : ByteArray, e = .returned (.string s) ∧ s.size ≤ 21 ∧ Below w.heap.size w w' := by
  have HB : Hid (Bytes w a len w.heap.size) := hb
  clear hb
  go_enter Try.func8, Try.ntmps8
  go_wp2_with fail
  refine (source_any a len cap _ hl HB.out).mono ?_
  rintro e w1 ⟨rfl, hbel, size, z0, z1, hs1⟩
  have HS1 : Hid (Src w1 w.heap.size a len cap size) := hs1
  clear hs1 z0 z1
  go_wp2_with fail
  refine (drawN_more 20 w.heap.size a len cap size _ (by omega) (by omega) hl HS1.out).mono ?_
  rintro e w2 ⟨r, rfl, r0, r1, hs2, hg2⟩
  obtain ⟨m, rfl⟩ := Int.eq_ofNat_of_zero_le r0
  have hbel2 : Below w.heap.size w w2 := hbel.grown hg2 hbel.size (by simp)
  have HS2 : Hid (Src w2 w.heap.size a len cap size) := hs2
  clear hs2 hg2 hbel HS1
  go_wp2_with fail
  refine (drawBytes_any m w.heap.size a len cap size _ (by omega) hl HS2.out).mono ?_
  rintro e w3 ⟨s, rfl, hsz, hs3, hg3⟩
  have hbel3 : Below w.heap.size w w3 := hbel2.grown hg3 hbel2.size (by simp)
  have HS3 : Hid (Src w3 w.heap.size a len cap size) := hs3
  have hsz' : s.size ≤ 19 := by omega
  clear hs3 hg3 hbel2 HS2 hsz
  go_wp2_with fail
  refine (drawOne_any 4 w.heap.size a len cap size _ (by omega) hl HS3.out).mono ?_
  rintro e w4 ⟨r, rfl, hs4, hg4⟩
  have hbel4 : Below w.heap.size w w4 := hbel3.grown hg4 hbel3.size (by simp)
  clear hs4 hg4 hbel3 HS3
  cases r
  · go_wp2
    go_ret
    exact ⟨s, rfl, by omega, hbel4⟩
  · go_wp2
    go_ret
    exact ⟨s ++ ⟨#[255, 255]⟩, rfl, by rw [ByteArray.size_append]; exact Nat.add_le_add hsz' (Nat.le_refl 2), hbel4⟩

theorem lwAt_any (a : Option Addr) (len cap : Nat) (k most : Int) (B : Nat) (w : World) (hk : 0 ≤ k) (hk2 : k ≤ 1000000) (hl : len ≤ 1048576) (hm2 : most ≤ 9223372036854775807) (hb : Bytes w a len B) :
    Calls Try.prog 15 #[.slice a len cap, .int .i64 k, .int .i64 most] w fun e w' => ∃ r, e = .returned (.int .i64 r) ∧ w' = w ∧ 0 ≤ r ∧ (r < most ∨ r = 0) ∧ r ≤ 255 := by
  by_cases hm : most ≤ 1
  · clear hb
    go_enter Try.func15, Try.ntmps15
    go_wp2
    go_ret
    exact ⟨0, rfl, rfl, by omega, .inr rfl, by omega⟩
  · by_cases h0 : len = 0
    · subst h0
      clear hb
      go_enter Try.func15, Try.ntmps15
      go_wp2
      go_ret
      exact ⟨0, rfl, rfl, by omega, .inr rfl, by omega⟩
    · have e0 := Int.emod_nonneg k (show (len : Int) ≠ 0 by omega)
      have e1 := Int.emod_lt_of_pos k (show 0 < (len : Int) by omega)
      obtain ⟨j, hj⟩ := Int.eq_ofNat_of_zero_le e0
      obtain ⟨b, off, rfl, hbB, x, x0, x1, cx⟩ := hb.get j (by omega)
      have r0 := Int.emod_nonneg x (show most ≠ 0 by omega)
      have r1 := Int.emod_lt_of_pos x (show 0 < most by omega)
      have r2 : x % most ≤ 255 := by
        by_cases h : x < most
        · rw [Int.emod_eq_of_lt x0 h]; exact x1
        · omega
      clear hb
      have hjl : (j : Int) < len := by omega
      go_enter Try.func15, Try.ntmps15
      go_wp2
      go_ret
      exact ⟨x % most, rfl, rfl, r0, .inl r1, r2⟩

end Go.Proofs.Ytaoolicfjpaggaa
