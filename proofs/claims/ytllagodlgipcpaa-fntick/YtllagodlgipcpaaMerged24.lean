/- TickR, DrawSum, in one text. -/
import Derived.Test.YtllagodlgipcpaaTouchR
import Derived.Test.YtllagodlgipcpaaMerged23
import Derived.Test.YtllagodlgipcpaaMerged18

/- TickR: a right bib at a later time is right, and two steps are one (chapter 9); nothing of the program. -/
namespace Go.Proofs.Ytllagodlgipcpaa
open Go.RowKit
set_option linter.unusedVariables false
set_option linter.unusedSimpArgs false

/-- What is asked of a bind by itself. -/
def bindP (p : Pl) (b : Bd) : Bool := protoB b.proto && addrOk b.inn && isW b.inPort && inL p.addrs b.out && isIn b.outPort p.low p.high
theorem bind_iff {p : Pl} {xs : List Bd} : (∀ i (h : i < xs.length), bindOne p (xs.take i) xs[i] = true) ↔ (∀ c ∈ xs, bindP p c = true) ∧ xs.Pairwise (fun c b => clashB c b = false) := by
 have e : ∀ ys b, bindOne p ys b = (bindP p b && !ys.any fun c => clashB c b) := fun ys b => rfl
 rw [List.pairwise_iff_getElem]
 constructor
 ·intro h
  refine ⟨fun c hc => ?_, fun i j hi hj hij => ?_⟩
  ·obtain ⟨i, hi, rfl⟩ := List.getElem_of_mem hc
   have := h i hi
   rw [e] at this
   simp only [Bool.and_eq_true] at this
   exact this.1
  ·have := h j hj
   rw [e] at this
   simp only [Bool.and_eq_true, Bool.not_eq_true'] at this
   have := List.any_eq_false.1 this.2 xs[i] (take_mem hi hij)
   simpa using this
 ·rintro ⟨h1, h2⟩ i hi
  rw [e]
  simp only [Bool.and_eq_true, Bool.not_eq_true']
  refine ⟨h1 _ (List.getElem_mem hi), ?_⟩
  rw [List.any_eq_false]
  intro c hc
  obtain ⟨k, hk, hki, rfl⟩ := mem_take hc
  rw [h2 k i hk hi hki]; decide
/-- A right bib at a later time is right. -/
theorem tick_right {p : Pl} {x : Bb} (h : BibR p x) (now : Int) : BibR p (tickV x now) := by
 obtain ⟨b1, b2⟩ := bind_iff.1 h.bind
 have hm := h.most
 have hl := h.len
 unfold tickV
 refine ⟨h.pool, ?_, ?_, ?_, fun s hs => h.sess s (List.mem_filter.1 hs).1, fun s hs => ?_, ?_, fun c hc => ?_⟩
 ·have := List.length_filter_le (lateS now) x.sess
  dsimp only; omega
 ·have := List.length_filter_le (fun y => (x.sess.filter (lateS now)).any fun s => hasS y s) x.binds
  dsimp only; omega
 ·refine bind_iff.2 ⟨fun c hc => b1 c (List.mem_filter.1 hc).1, b2.filter _⟩
 ·obtain ⟨b, hb, ho⟩ := List.any_eq_true.1 (h.has s (List.mem_filter.1 hs).1)
  refine List.any_eq_true.2 ⟨b, List.mem_filter.2 ⟨hb, ?_⟩, ho⟩
  refine List.any_eq_true.2 ⟨s, hs, ?_⟩
  unfold ofIn at ho
  unfold hasS
  simpa using ho
 ·exact h.nodup.sublist ((List.filter_sublist (p := lateS now)).map key5)
 ·have := (List.mem_filter.1 hc).2
  rw [any_has] at this
  exact of_decide_eq_true this
/-- Two steps are one. -/
theorem tick_twice (x : Bb) {m now : Int} (h : m ≤ now) : tickV (tickV x m) now = tickV x now := by
 have hs : (x.sess.filter (lateS m)).filter (lateS now) = x.sess.filter (lateS now) := by
  rw [List.filter_filter]
  refine List.filter_congr fun s _ => ?_
  unfold lateS
  rw [Bool.eq_iff_iff]
  simp only [Bool.and_eq_true, decide_eq_true_iff]
  omega
 unfold tickV
 dsimp only
 rw [hs, List.filter_filter]
 congr 1
 refine List.filter_congr fun c _ => ?_
 rw [Bool.eq_iff_iff]
 simp only [Bool.and_eq_true, List.any_eq_true]
 constructor
 ·rintro ⟨h1, _⟩; exact h1
 ·rintro ⟨s, h1, h2⟩
  refine ⟨⟨s, h1, h2⟩, s, ?_, h2⟩
  rw [← hs] at h1
  exact (List.mem_filter.1 h1).1
theorem bibTick_right {p : Pl} {x : Bb} {now : Int} (h : bibOk p x = true) (hn : isTime now = true) : bibTickV p x now = tickV x now ∧ bibOk p (tickV x now) = true := by
 refine ⟨?_, bibR_iff.2 (tick_right (bibR_iff.1 h) now)⟩
 unfold bibTickV; rw [if_pos (by rw [h, hn]; rfl)]
theorem bibTick_twice {p : Pl} {x : Bb} {m now : Int} (h : bibOk p x = true) (hm : isTime m = true) (hn : isTime now = true) (hmn : m ≤ now) : bibTickV p (bibTickV p x m) now = bibTickV p x now := by
 obtain ⟨h1, h2⟩ := bibTick_right (now := m) h hm
 rw [h1, (bibTick_right h2 hn).1, (bibTick_right h hn).1, tick_twice x hmn]
/-- The sessions of a later time, in their order. -/
theorem tick_sess {p : Pl} {x : Bb} {now : Int} (h : bibOk p x = true) (hn : isTime now = true) : (bibTickV p x now).sess = x.sess.filter (lateS now) := by rw [(bibTick_right h hn).1]; rfl
end Go.Proofs.Ytllagodlgipcpaa

/- The law's own draws: what DrawSum and lwAt answer. -/
namespace Go.Proofs.Ytllagodlgipcpaa
open Go.RowKit


theorem lwAt_any (a : Option Addr) (len cap : Nat) (k most : Int) (B : Nat) (w : World) (hk : 0 ≤ k) (hk2 : k ≤ 1000000) (hl : len ≤ 1048576) (hm2 : most ≤ 9223372036854775807) (hb : Bytes w a len B) :
  Calls Try.prog 16 #[.slice a len cap, .int .i64 k, .int .i64 most] w fun e w' => ∃ r, e = .returned (.int .i64 r) ∧ w' = w ∧ 0 ≤ r ∧ (r < most ∨ r = 0) ∧ r ≤ 255 := by
 by_cases hm : most ≤ 1
 ·clear hb
  go_enter Try.func16, Try.ntmps16
  go_wp2
  go_ret
  exact ⟨0, rfl, rfl, by omega, .inr rfl, by omega⟩
 ·by_cases h0 : len = 0
  ·subst h0
   clear hb
   go_enter Try.func16, Try.ntmps16
   go_wp2
   go_ret
   exact ⟨0, rfl, rfl, by omega, .inr rfl, by omega⟩
  ·have e0 := Int.emod_nonneg k (show (len : Int) ≠ 0 by omega)
   have e1 := Int.emod_lt_of_pos k (show 0 < (len : Int) by omega)
   obtain ⟨j, hj⟩ := Int.eq_ofNat_of_zero_le e0
   obtain ⟨b, off, rfl, hbB, x, x0, x1, cx⟩ := hb.get j (by omega)
   have r0 := Int.emod_nonneg x (show most ≠ 0 by omega)
   have r1 := Int.emod_lt_of_pos x (show 0 < most by omega)
   have r2 : x % most ≤ 255 := by
    by_cases h : x < most
    ·rw [Int.emod_eq_of_lt x0 h]; exact x1
    ·omega
   clear hb
   have hjl : (j : Int) < len := by omega
   go_enter Try.func16, Try.ntmps16
   go_wp2
   go_ret
   exact ⟨x % most, rfl, rfl, r0, .inl r1, r2⟩

end Go.Proofs.Ytllagodlgipcpaa
