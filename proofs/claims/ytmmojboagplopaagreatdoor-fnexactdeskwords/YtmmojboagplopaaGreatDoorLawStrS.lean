/- LawStrS: the laws' helpers for slices of texts: one that came in, opened; its size; told anew; held against another; marked. -/
import Derived.Test.YtmmojboagplopaaGreatDoorFlatS
import Derived.Test.YtmmojboagplopaaGreatDoorOwnS
import Derived.Test.YtmmojboagplopaaGreatDoorMarkS
import Derived.Test.YtmmojboagplopaaGreatDoorBibs2
import Derived.Test.YtmmojboagplopaaGreatDoorGrow
import Derived.Deep.RegionWith
import Derived.Deep.DeepCutAuto
namespace Go.Proofs.YtmmojboagplopaaGreatDoor
open Go.RowKit Go.PlainAid Go.ChangeShapes Go.WideShapes
set_option linter.unusedVariables false
set_option linter.unusedSimpArgs false

theorem SlLaid.setOther {α : Type} {en : α → List Value} {n : Nat} {w : World} {B X o : Nat} {xs : List α} {L k : Nat} (h : SlLaid en n w B xs L k) (hne : B ≠ X) (v : Value) : SlLaid en n (w.setCell ⟨X, o, none⟩ v) B xs L k := by
  have ho : ∀ i, (w.setCell ⟨X, o, none⟩ v).cell? ⟨B, i, none⟩ = w.cell? ⟨B, i, none⟩ := fun i => World.cell?_setCell_other _ _ _ _ (fun e => hne (by injection e with h1 h2; exact h1.symm))
  exact ⟨Nat.lt_of_lt_of_le h.blk ((Below.refl 0 w).setCell (Nat.zero_le _) _).size, fun i hi hk j u hu => (ho _).trans (h.at0 i hi hk j u hu), fun i hi => by rw [ho]; exact h.there i hi, fun i hi => by rw [World.frozen?_setCell]; exact h.free i hi⟩

theorem strL1_length (s : ByteArray) : (strL1 s).length = 1 := rfl
def strN (s : ByteArray) : List Nat := [s.size]
def StrWf (s : ByteArray) : Prop := s.size ≤ maxLen
def StrsWf (xs : List ByteArray) : Prop := xs.length ≤ maxLen ∧ ∀ q ∈ xs, StrWf q

section
variable {H : Type} {enc : TypeId × Value → H} {w : World} {base : Nat} {spare : Nat → Bool} {held : Bool}
theorem elem_Str {m : Nat} {cs : List Value} {y : DataW H × List MemPlace} (h : DataW.trod enc Tryz.prog w base spare held m 9 cs = some y) : ∃ q : ByteArray, cs = strL1 q ∧ StrWf q := by
  obtain ⟨x, e, _, g⟩ := DataW.trod_string Tryz.underlying9 h
  exact ⟨x, e, g⟩
theorem open_StringS {fuel : Nat} {a : Option Addr} {len cap : Nat} {x : DataW H × List MemPlace} (h : DataW.trod enc Tryz.prog w base spare held fuel 22 [.slice a len cap] = some x) : ∃ xs : List ByteArray, xs.length = len ∧ StrsWf xs ∧ SlIs strL1 1 w a xs :=
  open_flat strL1_length (by omega) Tryz.underlying22 (by kernel_rfl) StrWf (fun m cs y h => elem_Str h) h
end



set_option maxRecDepth 100000 in
set_option maxHeartbeats 1000000 in
theorem eqStringS_same (xs : List ByteArray) (a1 a2 : Option Addr) (cap1 cap2 : Nat) (w : World) (hlen : xs.length ≤ 1048576) (h1 : SlIs strL1 1 w a1 xs) (h2 : SlIs strL1 1 w a2 xs) :
    Calls Tryz.prog 6 #[.slice a1 xs.length cap1, .slice a2 xs.length cap2] w fun e w' => e = .returned (.bool true) ∧ Below w.heap.size w w' := by
  have H1 : Hid (SlIs strL1 1 w a1 xs) := h1
  have H2 : Hid (SlIs strL1 1 w a2 xs) := h2
  clear h1 h2
  go_enter Tryz.func6, Tryz.ntmps6
  go_wp2_with fail
  go_loopw [5] (fun i wr => ∃ k : Nat, k ≤ xs.length ∧ i = .int .i64 k ∧ Below w.heap.size w wr) (fun i _ => xs.length - (intOf i).toNat)
  case atStart => exact ⟨0, Nat.zero_le _, rfl, Below.refl _ _⟩
  case round =>
    obtain ⟨k, hk, rfl, hbel⟩ := hrel
    have HL : Hid (Below w.heap.size w wr) := hbel
    clear hbel
    by_cases hlt : k < xs.length
    · obtain ⟨b1, o1, rfl, hb1, hA⟩ := H1.out.at hlt
      obtain ⟨b2, o2, rfl, hb2, hB⟩ := H2.out.at hlt
      have hA := (hA.below hb1 HL.out) k hlt
      have hB := (hB.below hb2 HL.out) k hlt
      obtain ⟨q, hq⟩ : ∃ q, q = xs[k] := ⟨_, rfl⟩
      rw [← hq] at hA hB
      have c0 : wr.cell? ⟨b1, o1 + k * 1, none⟩ = some (.string q) := hA 0 _ rfl
      have d0 : wr.cell? ⟨b2, o2 + k * 1, none⟩ = some (.string q) := hB 0 _ rfl
      rw [Nat.mul_one] at c0 d0
      clear hq hA hB
      have hqq : (q.toList == q.toList) = true := by simp
      go_wp2_with fail
      go_quiet (fail)
      go_wp2_with fail
      go_roundw
      case rel => exact ⟨k + 1, by omega, by go_num, ⟨HL.out.os, HL.out.tape, HL.out.output, HL.out.size, HL.out.block⟩⟩
      case measure => simp [intOf]; omega
    · go_wp2_with fail
      go_ret
      exact ⟨rfl, HL.out⟩

/-- The mark of one. -/
def strM (k : Nat) : List Value := [.string (markV k)]
theorem strM_length (k : Nat) : (strM k).length = 1 := rfl

set_option maxRecDepth 100000 in
set_option maxHeartbeats 2000000 in
theorem markStringS_any (B L cap k : Nat) (w : World) (hk : 0 < k) (hL : k + 1 * L ≤ 1073741824) (hs : SlLaid strM 1 w B (marksOf 1 k L) L 0) :
    Calls Tryz.prog 7 #[.slice (some ⟨B, 0, none⟩) L cap, .int .i64 k] w fun e w' => e = .returned (.int .i64 ((k + 1 * L : Nat) : Int)) ∧ SlLaid strM 1 w' B (marksOf 1 k L) L L ∧ w.grownBy w' (some B) := by
  have HS : Hid _ := hs
  clear hs
  go_enter Tryz.func7, Tryz.ntmps7
  go_wp2_with fail
  go_loopw [1, 5] (fun kv i wr => ∃ m : Nat, m ≤ L ∧ i = .int .i64 m ∧ kv = .int .i64 ((k + 1 * m : Nat) : Int) ∧ SlLaid strM 1 wr B (marksOf 1 k L) L m ∧ w.grownBy wr (some B)) (fun _ i _ => L - (intOf i).toNat)
  case atStart => exact ⟨0, Nat.zero_le _, rfl, rfl, HS.out, World.grownBy.refl _ _⟩
  case round =>
    obtain ⟨m, hm, rfl, rfl, hy, hg⟩ := hrel
    have HK : Hid (MkSt strM 1 w B k L m [] wr) := MkSt.new hy hg
    clear hy hg HS
    by_cases hlt : m < L
    · obtain ⟨kk, hkk⟩ : ∃ kk, kk = k + 1 * m := ⟨_, rfl⟩
      have HKK : Hid (kk = k + 1 * m) := hkk
      rw [← hkk]
      have hk1 : 0 < kk := by omega
      have hk2 : kk + 1 ≤ 1073741824 := by omega
      clear hkk
      go_wp2_with fail
      refine (markText_at _ kk _ (by omega) (by omega) (by omega)).mono ?_
      rintro e wA1 ⟨rfl, qA1⟩
      have HA1 : Hid (MkSt strM 1 w B k L m [] wA1) := HK.out.call qA1
      clear qA1 HK
      obtain ⟨v0, t0⟩ := HA1.out.there (j := 0) hlt (by omega)
      have f0 := HA1.out.free (j := 0) hlt (by omega)
      rw [Nat.add_zero, Nat.mul_one] at t0 f0
      have hF : Hid (MkSt strM 1 w B k L m (strM kk) _) := HA1.out.put strM_length (by simp) hlt (.string (markV kk))
      go_wp2_with fail
      go_roundw
      case rel =>
        exact ⟨m + 1, by omega, by go_num, by have := HKK.out; congr 1; omega, by have := hF.out.next strM_length (by rw [HKK.out]) hlt; simpa using this, by have := hF.out.grown; simpa using this⟩
      case measure => simp [intOf]; omega
    · have hml : m = L := by omega
      have HE : Hid (SlLaid strM 1 wr B (marksOf 1 k L) L L ∧ w.grownBy wr (some B)) := ⟨by have h := HK.out.laid; rw [hml] at h; exact h, HK.out.grown⟩
      clear HK
      go_wp2_with fail
      go_ret
      exact ⟨ret_int (by rw [hml]), HE.out.1, HE.out.2⟩

theorem markStringS_nil (a : Option Addr) (cap k : Nat) (w : World) (hL : k ≤ 1073741824) :
    Calls Tryz.prog 7 #[.slice a 0 cap, .int .i64 k] w fun e w' => e = .returned (.int .i64 (k : Int)) ∧ w' = w := by
  go_enter Tryz.func7, Tryz.ntmps7
  go_wp2_with fail
  go_loopw [1, 5] (fun kv i wr => kv = .int .i64 k ∧ i = .int .i64 0 ∧ wr = w) (fun _ _ _ => 0)
  case atStart => exact ⟨rfl, rfl, rfl⟩
  case round =>
    obtain ⟨rfl, rfl, rfl⟩ := hrel
    go_wp2_with fail
    go_ret
    exact ⟨rfl, rfl⟩
theorem markStringS_own (base : Nat) (ys : List ByteArray) (a : Option Addr) (cap k : Nat) (w : World) (hk : 0 < k) (hL : k + 1 * ys.length ≤ 1073741824) (hs : SlOwn strL1 1 base w a ys) :
    Calls Tryz.prog 7 #[.slice a ys.length cap, .int .i64 k] w fun e w' => e = .returned (.int .i64 ((k + 1 * ys.length : Nat) : Int)) ∧ MkOwn 1 strM base w' a k ys.length ∧ Below base w w' := by
  rcases hs with rfl | ⟨g, rfl, hb, hl⟩
  · refine (markStringS_nil a cap k w (by omega)).mono ?_
    rintro e w' ⟨rfl, rfl⟩
    exact ⟨rfl, .inl rfl, Below.refl _ _⟩
  · refine (markStringS_any g ys.length cap k w hk hL (hl.other _)).mono ?_
    rintro e w' ⟨rfl, h1, h2⟩
    exact ⟨rfl, .inr ⟨g, rfl, hb, h1⟩, ⟨h2.os, h2.tape, h2.output, h2.size, fun j hj => h2.block j (Nat.lt_trans (Nat.lt_of_lt_of_le hj hb) hl.blk) (by simp; omega)⟩⟩

end Go.Proofs.YtmmojboagplopaaGreatDoor
