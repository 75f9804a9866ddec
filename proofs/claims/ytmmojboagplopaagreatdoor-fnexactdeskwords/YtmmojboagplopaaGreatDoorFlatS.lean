/- FlatS: slices of structs of one-cell fields, whatever their number: opened, laid, and a row that is being laid; nothing of the program. -/
import Derived.Test.YtmmojboagplopaaGreatDoorFlat
import Derived.Deep.Slices
import Derived.Deep.MidRow
import Derived.OwnWalk
import Derived.WideShapes
import Derived.WalkLawsBesides
import Derived.Lib.LazyBuf
namespace Go.Proofs.YtmmojboagplopaaGreatDoor
open Go.RowKit Go.ChangeShapes Go.WideShapes
set_option linter.unusedVariables false
set_option linter.unusedSimpArgs false

section
variable {α : Type} (en : α → List Value) (n : Nat)
/-- The structs lie in block b from off on. -/
def SlAt (w : World) (b off : Nat) (xs : List α) : Prop := ∀ i (h : i < xs.length), w.rangeAt b (off + i * n) (en xs[i])
/-- A slice of structs. -/
def SlIs (w : World) (a : Option Addr) (xs : List α) : Prop := xs = [] ∨ ∃ b off, a = some ⟨b, off, none⟩ ∧ b < w.heap.size ∧ SlAt en n w b off xs
/-- A row of L structs, of which the first k of xs are laid. -/
structure SlLaid (w : World) (B : Nat) (xs : List α) (L k : Nat) : Prop where
  blk : B < w.heap.size
  at0 : ∀ i (h : i < xs.length), i < k → w.rangeAt B (i * n) (en xs[i])
  there : ∀ i, i < L * n → (w.cell? ⟨B, i, none⟩).isSome = true
  free : ∀ i, i < L * n → w.frozen? ⟨B, i, none⟩ = false
end

section
variable {α : Type} {en : α → List Value} {n : Nat} {w W : World}
theorem SlAt.below {b off : Nat} {xs : List α} (h : SlAt en n w b off xs) {m : Nat} (hb : b < m) (hB : Below m w W) : SlAt en n W b off xs :=
  fun i hi j v hv => (hB.cell (p := ⟨b, off + i * n + j, none⟩) hb).trans (h i hi j v hv)
theorem SlIs.below {a : Option Addr} {xs : List α} (h : SlIs en n w a xs) (hB : Below w.heap.size w W) : SlIs en n W a xs := by
  rcases h with h | ⟨b, off, ha, hb, hr⟩
  · exact .inl h
  · exact .inr ⟨b, off, ha, Nat.lt_of_lt_of_le hb hB.size, hr.below hb hB⟩
theorem SlIs.grown {a : Option Addr} {xs : List α} (h : SlIs en n w a xs) {B : Nat} (hg : w.grownBy W (some B)) (hne : xs = [] ∨ ∀ g o, a = some ⟨g, o, none⟩ → g ≠ B) : SlIs en n W a xs := by
  rcases h with h | ⟨b, off, ha, hb, hr⟩
  · exact .inl h
  · rcases hne with h0 | hne
    · exact .inl h0
    · have hbl := hg.block b hb (by simp; exact hne b off ha)
      refine .inr ⟨b, off, ha, Nat.lt_of_lt_of_le hb hg.size, fun i hi j v hv => ?_⟩
      have hc : ∀ o, W.cell? ⟨b, o, none⟩ = w.cell? ⟨b, o, none⟩ := fun o => by unfold World.cell?; rw [show (⟨b, o, none⟩ : Addr).block = b from rfl, hbl]
      exact (hc _).trans (hr i hi j v hv)
theorem SlIs.belowU {a : Option Addr} {xs : List α} (h : SlIs en n w a xs) {m : Nat} (hB : Below m w W) (hU : xs = [] ∨ ∀ g o, a = some ⟨g, o, none⟩ → g < m) : SlIs en n W a xs := by
  rcases h with h | ⟨b, off, ha, hb, hr⟩
  · exact .inl h
  · rcases hU with h0 | hU
    · exact .inl h0
    · exact .inr ⟨b, off, ha, Nat.lt_of_lt_of_le hb hB.size, hr.below (hU b off ha) hB⟩
theorem SlIs.upto {a : Option Addr} {xs : List α} (h : SlIs en n w a xs) : xs = [] ∨ ∀ g o, a = some ⟨g, o, none⟩ → g < w.heap.size := by
  rcases h with h | ⟨b, off, rfl, hb, _⟩
  · exact .inl h
  · exact .inr fun g o e => by injection e with e; injection e with e1 _; omega
theorem SlIs.at {a : Option Addr} {xs : List α} (h : SlIs en n w a xs) {k : Nat} (hk : k < xs.length) : ∃ b off, a = some ⟨b, off, none⟩ ∧ b < w.heap.size ∧ SlAt en n w b off xs := by
  rcases h with h | h
  · rw [h] at hk; simp at hk
  · exact h

theorem SlLaid.at {B : Nat} {xs : List α} {L : Nat} (h : SlLaid en n w B xs L xs.length) : SlAt en n w B 0 xs := fun i hi => by
  rw [Nat.zero_add]; exact h.at0 i hi hi
theorem SlLaid.is {B : Nat} {xs : List α} {L : Nat} (h : SlLaid en n w B xs L xs.length) : SlIs en n w (some ⟨B, 0, none⟩) xs := .inr ⟨B, 0, rfl, h.blk, h.at⟩
theorem SlLaid.below {B : Nat} {xs : List α} {L k : Nat} (h : SlLaid en n w B xs L k) {m : Nat} (hm : B < m) (hB : Below m w W) (hs : w.heap.size ≤ W.heap.size) : SlLaid en n W B xs L k := by
  have hc : ∀ o, W.cell? ⟨B, o, none⟩ = w.cell? ⟨B, o, none⟩ := fun o => hB.cell (p := ⟨B, o, none⟩) hm
  have hf : ∀ o, W.frozen? ⟨B, o, none⟩ = w.frozen? ⟨B, o, none⟩ := fun o => hB.frozen (p := ⟨B, o, none⟩) hm
  exact ⟨Nat.lt_of_lt_of_le h.blk hs, fun i hi hk j v hv => (hc _).trans (h.at0 i hi hk j v hv), fun i hi => by rw [hc]; exact h.there i hi, fun i hi => by rw [hf]; exact h.free i hi⟩
theorem SlLaid.kept {B : Nat} {xs : List α} {L k : Nat} (h : SlLaid en n w B xs L k) (hB : Below w.heap.size w W) : SlLaid en n W B xs L k := h.below h.blk hB hB.size
theorem SlLaid.mono {B : Nat} {xs : List α} {L k k' : Nat} (h : SlLaid en n w B xs L k) (hk : k' ≤ k) : SlLaid en n w B xs L k' :=
  ⟨h.blk, fun i hi hk' => h.at0 i hi (by omega), h.there, h.free⟩
/-- Another list, of which nothing is laid yet. -/
theorem SlLaid.other {β : Type} {en' : β → List Value} {B : Nat} {xs : List α} {L k : Nat} (h : SlLaid en n w B xs L k) (ys : List β) : SlLaid en' n w B ys L 0 :=
  ⟨h.blk, fun i hi hk => by omega, h.there, h.free⟩
theorem SlLaid.set (hn : ∀ x, (en x).length = n) {B : Nat} {xs : List α} {L k : Nat} (h : SlLaid en n w B xs L k) (hk : k < xs.length) (hL : k < L) : SlLaid en n (w.setCells B (k * n) (en xs[k])) B xs L (k + 1) := by
  have hb : k * n + n ≤ L * n := by have := Nat.mul_le_mul_right n (show k + 1 ≤ L from hL); rw [Nat.succ_mul] at this; exact this
  have hin := World.cell?_setCells_in B (en xs[k]) (k * n) w (fun j hj => h.there _ (by rw [hn] at hj; omega))
  refine ⟨Nat.lt_of_lt_of_le h.blk (below_setCells (B := 0) (Nat.zero_le _) _ _ _ (Below.refl 0 w)).size, fun i hi hk' j v hv => ?_, fun i hi => ?_, fun i hi => by rw [World.frozen?_setCells]; exact h.free i hi⟩
  · by_cases e : i = k
    · subst e
      obtain ⟨hj, hjv⟩ := List.getElem?_eq_some_iff.1 hv
      rw [hin j hj, hjv]
    · have hj := (List.getElem?_eq_some_iff.1 hv).1
      rw [hn] at hj
      have hle : i * n + n ≤ k * n := by have := Nat.mul_le_mul_right n (show i + 1 ≤ k by omega); rw [Nat.succ_mul] at this; exact this
      rw [World.cell?_setCells_out B _ (k * n) w _ (fun _ _ => .inl (by show i * n + j < k * n; omega))]
      exact h.at0 i hi (by omega) j v hv
  · by_cases e : k * n ≤ i ∧ i < k * n + n
    · obtain ⟨j, rfl⟩ : ∃ j, i = k * n + j := ⟨i - k * n, by omega⟩
      have hj : j < (en xs[k]).length := by rw [hn]; omega
      rw [hin j hj]; rfl
    · rw [World.cell?_setCells_out B _ (k * n) w _ (fun _ _ => by show i < k * n ∨ k * n + (en xs[k]).length ≤ i; rw [hn]; omega)]; exact h.there i hi

/-- A row that was made. -/
theorem SlLaid.start {base len cap g : Nat} {e : TypeId} {vs : List Value} {xs : List α} (h : w.ownsRow base e n (.slice (some ⟨g, 0, none⟩) len cap) len vs) : SlLaid en n w g xs len 0 := by
  obtain ⟨hl, h | ⟨g', cap', cur, hv, _, hh, hc, _, hsz, _⟩⟩ := h
  · simp at h
  · injection hv with hv _ hv3
    injection hv with hv
    injection hv with hv _
    subst hv hv3
    have hlt : g < w.heap.size := by
      by_cases hb : g < w.heap.size
      · exact hb
      · rw [Array.getElem?_eq_none (by omega)] at hh; simp at hh
    refine ⟨hlt, fun i hi hk => by omega, fun i hi => ?_, fun i hi => ?_⟩
    · have : i < cur.size := by rw [hsz]; have := Nat.mul_le_mul_right n hc; omega
      simp [World.cell?, hh, this]
    · simp [World.frozen?, hh]
end

section
variable {H : Type} {enc : TypeId × Value → H} {P : Program} {w : World} {base : Nat} {spare : Nat → Bool} {held : Bool}
/-- A slice of structs that came in, opened. -/
theorem open_flat {α : Type} [Inhabited α] {en : α → List Value} {n : Nat} (hn : ∀ x, (en x).length = n) (hn0 : 0 < n) {t e : TypeId} (ht : P.underlying t = some (.slice e)) (hc : P.cellsOf e = n) (Wf : α → Prop)
    (hel : ∀ m cs y, DataW.trod enc P w base spare held m e cs = some y → ∃ q : α, cs = en q ∧ Wf q)
    {fuel : Nat} {a : Option Addr} {len cap : Nat} {x : DataW H × List MemPlace} (h : DataW.trod enc P w base spare held fuel t [.slice a len cap] = some x) :
    ∃ xs : List α, xs.length = len ∧ (xs.length ≤ maxLen ∧ ∀ q ∈ xs, Wf q) ∧ SlIs en n w a xs := by
  rcases Go.Deep.open_slice ht h with ⟨hcs, _⟩ | ⟨a', len', cap', m, n', D, Pl, hcs, _, hl, hm, hmm, _, hel2⟩
  · simp at hcs
    obtain ⟨rfl, rfl, rfl⟩ := hcs
    exact ⟨[], rfl, ⟨by simp, fun q hq => by simp at hq⟩, .inl rfl⟩
  · simp at hcs
    obtain ⟨rfl, rfl, rfl⟩ := hcs
    have hle : len ≤ m := by rw [hmm]; split <;> omega
    rw [hc] at hel2
    have hq : ∀ i, i < len → ∃ q : α, w.cells? base (a'.add (i * n)) n = some (en q) ∧ Wf q := fun i hi => by
      obtain ⟨cs', h1, h2⟩ := hel2 i (by omega)
      obtain ⟨q, rfl, hq⟩ := hel _ _ _ h2
      exact ⟨q, h1, hq⟩
    obtain ⟨f, hf⟩ := Go.Deep.choose_lt hq
    have hcell : ∀ i, i < len → ∀ j, j < n → w.cell? (a'.add (i * n + j)) = (en (f i))[j]? := fun i hi j hj => by
      have := (World.cells?_some (hf i hi).1).2.2 j hj
      rwa [Go.Deep.add_add] at this
    refine ⟨(List.range len).map f, by simp, ⟨by simp; omega, fun q hq => ?_⟩, ?_⟩
    · simp only [List.mem_map, List.mem_range] at hq
      obtain ⟨i, hi, rfl⟩ := hq
      exact (hf i hi).2
    · by_cases h0 : len = 0
      · subst h0; exact .inl rfl
      · right
        have hc0 := hcell 0 (by omega) 0 hn0
        obtain ⟨b, off, spot⟩ := a'
        rw [Nat.zero_mul, show ((⟨b, off, spot⟩ : Addr).add (0 + 0)) = ⟨b, off, spot⟩ from rfl, List.getElem?_eq_getElem (by rw [hn]; exact hn0)] at hc0
        have hspot : spot = none := by
          unfold World.cell? at hc0
          split at hc0
          · cases spot with
            | none => rfl
            | some _ => simp at hc0
          · simp at hc0
        subst hspot
        have hblk : b < w.heap.size := World.block_lt_of_cell? w _ hc0
        have hadd : ∀ k, ((⟨b, off, none⟩ : Addr).add k) = ⟨b, off + k, none⟩ := fun k => by
          unfold Addr.add; split
          · next e => subst e; rfl
          · rfl
        refine ⟨b, off, rfl, hblk, fun i hi j v hv => ?_⟩
        have hi' : i < len := by simpa using hi
        simp only [List.getElem_map, List.getElem_range] at hv
        have hj : j < n := by have := (List.getElem?_eq_some_iff.1 hv).1; rwa [hn] at this
        have := hcell i hi' j hj
        rw [hadd, hv] at this
        rw [Nat.add_assoc]; exact this
end

/-- What is left behind many things, each of texts of so many bytes. -/
def szL : List (List Nat) → Int → Int
  | [], left => left
  | ns :: l, left => if szN ns left < 0 then -1 else szL l (szN ns left)
theorem szN_range : ∀ (ns : List Nat) (left : Int), 0 ≤ left → -1 ≤ szN ns left ∧ szN ns left ≤ left
  | [], left, h => by unfold szN; omega
  | p :: l, left, h => by
    unfold szN
    split
    · omega
    · have := szN_range l (left - p) (by omega); omega
theorem szL_bound : ∀ (l : List (List Nat)) (left : Int), 0 ≤ left → 0 ≤ szL l left → ∀ ns ∈ l, ∀ q ∈ ns, (q : Int) ≤ left
  | [], _, _, _, ns, hns, _, _ => by simp at hns
  | p :: l, left, h0, h, ns, hns, q, hq => by
    unfold szL at h
    split at h
    · omega
    · next hp =>
      simp only [List.mem_cons] at hns
      rcases hns with rfl | hns
      · exact szN_bound _ _ (by omega) q hq
      · have h1 := szL_bound l _ (by omega) h ns hns q hq
        have h2 := szN_range p left h0
        omega
theorem szL_range : ∀ (l : List (List Nat)) (left : Int), 0 ≤ left → -1 ≤ szL l left ∧ szL l left ≤ left
  | [], left, h => by unfold szL; omega
  | p :: l, left, h => by
    unfold szL
    have h2 := szN_range p left h
    split
    · omega
    · have := szL_range l (szN p left) (by omega); omega
theorem szL_drop {α : Type} {f : α → List Nat} {xs : List α} {k : Nat} (h : k < xs.length) (left : Int) : szL ((xs.drop k).map f) left = if szN (f xs[k]) left < 0 then -1 else szL ((xs.drop (k + 1)).map f) (szN (f xs[k]) left) := by
  rw [List.drop_eq_getElem_cons h]; rfl
theorem szL_end {α : Type} {f : α → List Nat} {xs : List α} {k : Nat} (h : xs.length ≤ k) (left : Int) : szL ((xs.drop k).map f) left = left := by
  rw [List.drop_eq_nil_of_le h]; rfl
/-- What is left behind a list of things. -/
def szSl {α : Type} (f : α → List Nat) (xs : List α) (left : Int) : Int := if left < (xs.length : Int) then -1 else szL (xs.map f) (left - xs.length)
theorem szSl_range {α : Type} (f : α → List Nat) (xs : List α) (left : Int) (h : 0 ≤ left) : -1 ≤ szSl f xs left ∧ szSl f xs left ≤ left := by
  unfold szSl
  split
  · omega
  · have := szL_range (xs.map f) (left - xs.length) (by omega); omega
theorem szSl_in {α : Type} {f : α → List Nat} {xs : List α} {left : Int} (h0 : 0 ≤ left) (h : 0 ≤ szSl f xs left) : (xs.length : Int) ≤ left ∧ ∀ x ∈ xs, ∀ q ∈ f x, (q : Int) ≤ left := by
  unfold szSl at h
  split at h
  · omega
  · refine ⟨by omega, fun x hx q hq => ?_⟩
    have := szL_bound (xs.map f) (left - xs.length) (by omega) h (f x) (List.mem_map_of_mem hx) q hq
    omega

end Go.Proofs.YtmmojboagplopaaGreatDoor
