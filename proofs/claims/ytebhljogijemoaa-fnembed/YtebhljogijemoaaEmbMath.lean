/- Four bytes that are put into a prefix come out of it, and the prefix has the address; what comes out makes just the address. -/
import Derived.Test.YtebhljogijemoaaExtract
namespace Go.Proofs.Ytebhljogijemoaa
open Go.RowKit Go.PlainAid
set_option linter.unusedVariables false
set_option linter.unusedSimpArgs false

theorem posE_inj {at1 j k : Nat} (h : posE at1 j = posE at1 k) : j = k := by unfold posE at h; split at h <;> split at h <;> omega
theorem posE_ge (at1 k : Nat) : at1 ≤ posE at1 k := by unfold posE; split <;> omega

theorem embF_at (p : ByteArray) (at1 : Nat) (four : ByteArray) (k : Nat) : ∀ n, k < n → embF p at1 four n (posE at1 k) = bt four k
  | 0, h => by omega
  | n + 1, h => by
    show (if posE at1 k = posE at1 n then bt four n else embF p at1 four n (posE at1 k)) = _
    by_cases e : k = n
    · subst e; rw [if_pos rfl]
    · rw [if_neg (fun e2 => e (posE_inj e2)), embF_at p at1 four k n (by omega)]

theorem embF_low (p : ByteArray) (at1 : Nat) (four : ByteArray) (i : Nat) (hi : i < at1) : ∀ n, embF p at1 four n i = bt p i
  | 0 => rfl
  | n + 1 => by
    show (if i = posE at1 n then bt four n else embF p at1 four n i) = _
    rw [if_neg (fun e => by have := posE_ge at1 n; omega), embF_low p at1 four i hi n]

theorem embV_size (p : ByteArray) (at1 : Nat) (four : ByteArray) : (embV p at1 four).size = 16 := bytesOf_size _ _
theorem embV_bt (p : ByteArray) (at1 : Nat) (four : ByteArray) (i : Nat) (hi : i < 16) : bt (embV p at1 four) i = embF p at1 four 4 i := bytesOf_bt hi (embF_byte p at1 four 4 i).1 (embF_byte p at1 four 4 i).2

theorem ext_emb (p : ByteArray) (at1 : Nat) (four : ByteArray) (ha : at1 ≤ 8 ∨ at1 = 12) (hf : four.size = 4) : extV (embV p at1 four) at1 = four := by
  refine ba_ext ((bytesOf_size _ _).trans hf.symm) (fun i hi => ?_)
  have hi4 : i < 4 := by rw [show (extV (embV p at1 four) at1).size = 4 from bytesOf_size _ _] at hi; exact hi
  have hb := extF_byte (embV p at1 four) at1 i
  rw [show bt (extV (embV p at1 four) at1) i = extF (embV p at1 four) at1 i from bytesOf_bt hi4 hb.1 hb.2]
  show bt (embV p at1 four) (posE at1 i) = _
  rw [embV_bt p at1 four _ (embE at1 i ha hi4).1, embF_at p at1 four i 4 hi4]

theorem sameN_all {f g : Nat → Int} : ∀ (n k : Nat), (∀ i, k ≤ i → i < k + n → bitN f i = bitN g i) → sameN f g k n = true
  | 0, _, _ => rfl
  | n + 1, k, h => by
    show (bitN f k == bitN g k && sameN f g (k + 1) n) = true
    rw [h k (Nat.le_refl _) (by omega), sameN_all n (k + 1) (fun i h1 h2 => h i (by omega) (by omega))]; simp

/-- The prefix has what is put into it. -/
theorem has_emb {p : ByteArray} {b : Int} {four : ByteArray} (hn : natOk p b = true) (hf : four.size = 4) : prefixHasV p b (embedV p b four).1 = true ∧ extractV p b (embedV p b four).1 = (four, 0) ∧ (embedV p b four).2 = 0 := by
  obtain ⟨hp, h16, hb0, hb1, at1, ha, hba, ha12, ha8⟩ := natOk_parts hn
  have e : embedV p b four = (embV p at1 four, 0) := by unfold embedV; rw [if_pos ⟨hn, hf⟩, ha]; rfl
  have hz := embV_size p at1 four
  have hh : hasV p b (embV p at1 four) = true := by
    unfold hasV
    rw [decide_eq_true (show (embV p at1 four).size = p.size by rw [hz, h16]), Bool.true_and]
    refine sameN_all _ _ (fun i _ hi => ?_)
    have hi8 : i / 8 < at1 := by omega
    unfold bitN
    rw [embV_bt p at1 four _ (by omega), embF_low p at1 four _ hi8]
  rw [e]
  refine ⟨?_, ?_, rfl⟩
  · unfold prefixHasV; rw [hp, hh, addrOk_yes (.inr hz)]; rfl
  · show extractV p b (embV p at1 four) = (four, 0)
    unfold extractV
    rw [if_pos ⟨hn, hz⟩, if_pos hh, ha]
    show (if ((embV p at1 (extV (embV p at1 four) at1)).toList == (embV p at1 four).toList) = true then (extV (embV p at1 four) at1, (0 : Int)) else (⟨#[]⟩, 3)) = _
    rw [ext_emb p at1 four ha8 hf, if_pos (by simp)]

/-- What comes out of an address makes just it. -/
theorem emb_ext {p : ByteArray} {b : Int} {six : ByteArray} (h : (extractV p b six).2 = 0) : embedV p b (extractV p b six).1 = (six, 0) := by
  unfold extractV at h ⊢
  split at h
  · rename_i hc
    obtain ⟨_, _, _, _, at1, ha, _⟩ := natOk_parts hc.1
    rw [if_pos hc]
    split at h
    · rename_i hh
      rw [if_pos hh]
      split at h
      · rename_i he
        rw [if_pos he]
        rw [ha] at he ⊢
        unfold embedV
        rw [if_pos ⟨hc.1, show (extV six at1).size = 4 from bytesOf_size _ _⟩, ha]
        have := eq_of_beq he
        rw [ByteArray.toList_eq, ByteArray.toList_eq] at this
        have h2 : embV p at1 (extV six at1) = six := ByteArray.ext (Array.toList_inj.1 this)
        show (embV p at1 (extV six at1), (0 : Int)) = _
        rw [h2]
      · simp at h
    · simp at h
  · simp at h

end Go.Proofs.Ytebhljogijemoaa
