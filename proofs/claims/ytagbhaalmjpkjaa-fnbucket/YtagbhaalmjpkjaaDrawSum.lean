/- The law's own draws: what DrawSum and lwAt answer. -/
import Derived.Test.YtagbhaalmjpkjaaDrawBytes
namespace Go.Proofs.Ytagbhaalmjpkjaa
open Go.RowKit


theorem lwAt_any (a : Option Addr) (len cap : Nat) (k most : Int) (B : Nat) (w : World) (hk : 0 ≤ k) (hk2 : k ≤ 1000000) (hl : len ≤ 1048576) (hm2 : most ≤ 9223372036854775807) (hb : Bytes w a len B) :
    Calls Try.prog 10 #[.slice a len cap, .int .i64 k, .int .i64 most] w fun e w' => ∃ r, e = .returned (.int .i64 r) ∧ w' = w ∧ 0 ≤ r ∧ (r < most ∨ r = 0) ∧ r ≤ 255 := by
  by_cases hm : most ≤ 1
  · clear hb
    go_enter Try.func10, Try.ntmps10
    go_wp2
    go_ret
    exact ⟨0, rfl, rfl, by omega, .inr rfl, by omega⟩
  · by_cases h0 : len = 0
    · subst h0
      clear hb
      go_enter Try.func10, Try.ntmps10
      go_wp2
      go_ret
      exact ⟨0, rfl, rfl, by omega, .inr rfl, by omega⟩
    · have e0 := Int.emod_nonneg k (show (len : Int) ≠ 0 by omega)
      have e1 := Int.emod_lt_of_pos k (show 0 < (len : Int) by omega)
      obtain ⟨j, hj⟩ := Int.eq_ofNat_of_zero_le e0
      obtain ⟨b, off, rfl, hbB, x, x0, x1, cx⟩ := hb.get j (by omega)
      have r0 := Int.emod_nonneg x (show most ≠ 0 by omega)
      have r1 := Int.emod_lt_of_pos x (show 0 < most by omega)
      have r2 : x % most ≤ 255 := by
        by_cases h : x < most
        · rw [Int.emod_eq_of_lt x0 h]; exact x1
        · omega
      clear hb
      have hjl : (j : Int) < len := by omega
      go_enter Try.func10, Try.ntmps10
      go_wp2
      go_ret
      exact ⟨x % most, rfl, rfl, r0, .inl r1, r2⟩

end Go.Proofs.Ytagbhaalmjpkjaa
