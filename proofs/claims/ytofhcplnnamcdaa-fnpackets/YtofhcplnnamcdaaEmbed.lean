/- Addresses of IPv4 in prefixes: what the specification's l02Nat, Embed and Extract answer. -/
import Derived.Test.YtofhcplnnamcdaaPrefix
import Derived.Laws.IdiomStrings
namespace Go.Proofs.Ytofhcplnnamcdaa
open Go.RowKit Go.PlainAid
set_option linter.unusedVariables false
set_option linter.unusedSimpArgs false

/-- The text of the first n numbers of a row of bytes. -/
def bytesOf (n : Nat) (f : Nat → Int) : ByteArray := ⟨((List.range n).map fun i => UInt8.ofNat (f i).toNat).toArray⟩

theorem bytesOf_size (n : Nat) (f : Nat → Int) : (bytesOf n f).size = n := by simp [bytesOf, ByteArray.size]

theorem bytesOf_bt {n : Nat} {f : Nat → Int} {i : Nat} (hi : i < n) (h0 : 0 ≤ f i) (h1 : f i ≤ 255) : bt (bytesOf n f) i = f i := by
  have hs := bytesOf_size n f
  unfold bt
  rw [dif_pos (by omega), ByteArray.getElem_eq_getElem_data]
  simp only [bytesOf, List.getElem_toArray, List.getElem_map, List.getElem_range, UInt8.toNat_ofNat']
  omega

theorem ba_ext {a b : ByteArray} (hs : a.size = b.size) (h : ∀ i, i < a.size → bt a i = bt b i) : a = b := by
  apply ByteArray.ext
  apply Array.ext
  · exact hs
  · intro i h1 h2
    have hi := h i h1
    unfold bt at hi
    rw [dif_pos (show i < a.size from h1), dif_pos (show i < b.size from h2), ByteArray.getElem_eq_getElem_data, ByteArray.getElem_eq_getElem_data] at hi
    exact UInt8.toNat_inj.1 (by exact_mod_cast hi)

/-- A row of n bytes in block B that may be written. -/
structure Holds (w : World) (B n : Nat) (f : Nat → Int) : Prop where
  get : ∀ i, i < n → w.cell? ⟨B, i, none⟩ = some (.int .u8 (f i)) ∧ w.frozen? ⟨B, i, none⟩ = false

theorem Holds.set {w : World} {B n : Nat} {f : Nat → Int} (h : Holds w B n f) (j : Nat) (hj : j < n) (x : Int) : Holds (w.setCell ⟨B, j, none⟩ (.int .u8 x)) B n (fun i => if i = j then x else f i) := by
  refine ⟨fun i hi => ⟨?_, by rw [World.frozen?_setCell]; exact (h.get i hi).2⟩⟩
  by_cases e : i = j
  · subst e; show _ = some (Value.int .u8 (if i = i then x else f i)); rw [if_pos rfl]; exact World.cell?_setCell_same _ _ _ (h.get i hi).1
  · show _ = some (Value.int .u8 (if i = j then x else f i)); rw [if_neg e, World.cell?_setCell_other _ _ _ _ (fun e2 => e (by injection e2 with _ h2; exact h2.symm))]; exact (h.get i hi).1

theorem Holds.conv {w : World} {B n cap : Nat} {f : Nat → Int} (h : Holds w B n f) (hf : isByte f) :
    (convert 22 9 (.slice (some ⟨B, 0, none⟩) n cap)).run Try.prog w = .ok (.string (bytesOf n f)) w := by
  have hl : ((List.range n).map fun i => UInt8.ofNat (f i).toNat).length = n := by simp
  have := run_convert_bytes_back (P := Try.prog) w 22 9 5 ⟨B, 0, none⟩ cap ((List.range n).map fun i => UInt8.ofNat (f i).toNat) Try.underlying22 Try.underlying5 Try.underlying9 (by
    intro j hj
    have hj' : j < n := by simpa using hj
    have ha : Addr.add ⟨B, 0, none⟩ j = ⟨B, j, none⟩ := by simp only [Addr.add, Nat.zero_add]; split <;> simp_all
    rw [ha, (h.get j hj').1]
    have := hf j
    simp only [List.getElem_map, List.getElem_range, UInt8.toNat_ofNat']
    congr 2; omega)
  rw [hl] at this
  exact this

/-- A new row of a text's bytes. -/
theorem bytes_new (w : World) (s : ByteArray) : ∃ cap W2, (convert 9 22 (.string s)).run Try.prog w = .ok (.slice (some ⟨w.heap.size, 0, none⟩) s.size cap) W2 ∧ Holds W2 w.heap.size s.size (bt s) ∧ Below w.heap.size w W2 ∧ s.size ≤ cap := by
  refine ⟨grownCap w s.size 0 5, _, run_bytes_of_string (P := Try.prog) w 9 22 5 s Try.underlying9 Try.underlying22 Try.underlying5, ?_, ?_, ?_⟩
  · refine ⟨fun i hi => ?_⟩
    have hz : (bytesRow s (grownCap w s.size 0 5)).size = s.size + (grownCap w s.size 0 5 - s.size) := by unfold bytesRow; rw [Array.size_append, Array.size_map, Array.size_replicate]; rfl
    constructor
    · refine (World.cell?_alloc_mark w.drew _ _ _ i).trans ?_
      rw [bytesRow_at s _ i hi, ← get_bt s i hi]; rfl
    · refine (World.frozen?_alloc_mark w.drew _ _ _ _ i).trans ?_
      simp; omega
  · exact (Below.refl _ w).drew.alloc (Nat.le_refl _) _
  · exact grownCap_ge _ _ _ _

/-- Where the byte of the number k comes to lie: that of the number 8 is passed over. -/
def posE (at1 k : Nat) : Nat := if at1 ≤ 8 ∧ 8 ≤ at1 + k then at1 + k + 1 else at1 + k
/-- Where the next one is looked for. -/
def nextE (at1 k : Nat) : Nat := if at1 ≤ 8 ∧ 8 < at1 + k then at1 + k + 1 else at1 + k
/-- The bytes of a prefix into which k bytes have been put. -/
def embF (p : ByteArray) (at1 : Nat) (four : ByteArray) : Nat → Nat → Int
  | 0 => bt p
  | k + 1 => fun i => if i = posE at1 k then bt four k else embF p at1 four k i

theorem embF_byte (p : ByteArray) (at1 : Nat) (four : ByteArray) : ∀ k, isByte (embF p at1 four k)
  | 0 => bt_isByte p
  | k + 1 => fun i => by
    show 0 ≤ (if i = posE at1 k then bt four k else embF p at1 four k i) ∧ (if i = posE at1 k then bt four k else embF p at1 four k i) ≤ 255
    split
    · exact bt_isByte four k
    · exact embF_byte p at1 four k i

theorem nextE_zero (at1 : Nat) : nextE at1 0 = at1 := by unfold nextE; split <;> omega

theorem embE (at1 k : Nat) (ha : at1 ≤ 8 ∨ at1 = 12) (hk : k < 4) : posE at1 k < 16 ∧ nextE at1 (k + 1) = posE at1 k + 1 ∧ posE at1 k = if nextE at1 k = 8 then 9 else nextE at1 k := by
  unfold posE nextE
  refine ⟨by split <;> omega, by split <;> split <;> omega, ?_⟩
  split <;> split <;> split <;> omega

/-- What l02Embed answers. -/
def embV (p : ByteArray) (at1 : Nat) (four : ByteArray) : ByteArray := bytesOf 16 (embF p at1 four 4)

set_option maxRecDepth 100000 in
set_option maxHeartbeats 1000000 in
theorem specEmbed1_any (p : ByteArray) (b : Int) (at1 : Nat) (four : ByteArray) (w : World) (hp : p.size = 16) (hf : four.size = 4) (hb : b / 8 = (at1 : Int)) (hb0 : 0 ≤ b) (ha : at1 ≤ 12) (ha8 : at1 ≤ 8 ∨ at1 = 12) :
    Calls Try.prog 66 #[.agg #[.string p, .int .i64 b], .string four] w fun e w' => e = .returned (.string (embV p at1 four)) ∧ Below w.heap.size w w' := by
  have hB : Hid (Below w.heap.size w (w.alloc (.cells #[.string p, .int .i64 b] 33))) := (Below.refl _ _).alloc (Nat.le_refl _) _
  obtain ⟨cap, W2, hcv, hh, hb2, _⟩ := bytes_new (w.alloc (.cells #[.string p, .int .i64 b] 33)) p
  obtain ⟨hc, hfz⟩ := bcell hb2
  have hsz : (w.alloc (.cells #[.string p, .int .i64 b] 33)).heap.size = w.heap.size + 1 := by simp
  rw [hsz] at hcv hh hb2
  rw [hp] at hcv hh
  have HB2 : Hid (Below w.heap.size w W2) := hB.out.trans (hb2.mono (by omega))
  have HH : Hid (Holds W2 (w.heap.size + 1) 16 (bt p)) := hh
  have hgb := get_bt four
  clear hb2 hh hB
  go_enter Try.func66, Try.ntmps66
  go_wp2_with fail
  go_loopw [6, 7] (fun a i wr => ∃ k : Nat, k ≤ 4 ∧ i = .int .i64 k ∧ a = .int .i64 (nextE at1 k : Nat) ∧ Holds wr (w.heap.size + 1) 16 (embF p at1 four k) ∧ Below w.heap.size w wr) (fun _ i _ => 4 - (intOf i).toNat)
  case atStart => exact ⟨0, Nat.zero_le _, rfl, by rw [nextE_zero, ← hb], HH.out, HB2.out⟩
  case round =>
    obtain ⟨k, hk, rfl, rfl, hh, hbel⟩ := hrel
    have HH : Hid (Holds wr (w.heap.size + 1) 16 (embF p at1 four k)) := hh
    have HL : Hid (Below w.heap.size w wr) := hbel
    clear hh hbel
    by_cases hlt : k < 4
    · have E := embE at1 k ha8 hlt
      have hq := HH.out.get (posE at1 k) E.1
      have HN : Hid _ := E.2.1
      have HP : Hid (embF p at1 four (k + 1) = fun i => if i = posE at1 k then bt four k else embF p at1 four k i) := rfl
      by_cases h8 : nextE at1 k = 8
      · have h9 : posE at1 k = 9 := by have := E.2.2; rw [if_pos h8] at this; exact this
        rw [h9] at hq
        obtain ⟨hq1, hq2⟩ := hq
        have H9 : Hid (posE at1 k = 9) := h9
        clear h9 E
        rw [h8]
        have H8 : Hid (nextE at1 k = 8) := h8
        clear h8
        go_wp2
        go_roundw
        case rel => exact ⟨k + 1, by omega, by go_num, by rw [HN.out, H9.out]; rfl, by rw [HP.out, H9.out]; exact HH.out.set 9 (by omega) _, HL.out.setCell (by simp) _⟩
        case measure => simp [intOf]; omega
      · have h9 : posE at1 k = nextE at1 k := by have := E.2.2; rw [if_neg h8] at this; exact this
        have hq0 := E.1
        rw [h9] at hq hq0
        obtain ⟨hq1, hq2⟩ := hq
        have H9 : Hid (posE at1 k = nextE at1 k) := h9
        clear h9 E
        obtain ⟨q, hqq⟩ : ∃ q, q = nextE at1 k := ⟨_, rfl⟩
        rw [← hqq] at hq1 hq2 hq0 h8 ⊢
        have h8' : ((q : Int) == 8) = false := by simp; omega
        have HQ : Hid (q = nextE at1 k) := hqq
        clear hqq
        go_wp2
        go_roundw
        case rel => exact ⟨k + 1, by omega, by go_num, by rw [HN.out, H9.out, ← HQ.out]; rfl, by rw [HP.out, H9.out, ← HQ.out]; exact HH.out.set q hq0 _, HL.out.setCell (by simp) _⟩
        case measure => simp [intOf]; omega
    · have hk4 : k = 4 := by omega
      subst hk4
      have hcv2 := HH.out.conv (cap := cap) (embF_byte p at1 four 4)
      go_wp2
      go_ret
      exact ⟨rfl, HL.out⟩

/-- May addresses of IPv4 lie in a prefix? -/
def natBits (b : Int) : Bool := b == 96 || (decide (32 ≤ b) && decide (b ≤ 64) && b % 8 == 0)
def natOk (s : ByteArray) (b : Int) : Bool := prefixOk s b && s.size == 16 && natBits b

theorem natOk_parts {s : ByteArray} {b : Int} (h : natOk s b = true) : prefixOk s b = true ∧ s.size = 16 ∧ 0 ≤ b ∧ b ≤ 128 ∧ ∃ at1 : Nat, b / 8 = (at1 : Int) ∧ b = 8 * (at1 : Int) ∧ at1 ≤ 12 ∧ (at1 ≤ 8 ∨ at1 = 12) := by
  simp [natOk, natBits] at h
  obtain ⟨⟨h1, h2⟩, h3⟩ := h
  obtain ⟨a, b', _⟩ := prefixOk_le h1
  refine ⟨h1, h2, a, by omega, (b / 8).toNat, by omega, ?_, ?_, ?_⟩ <;> omega

set_option maxHeartbeats 1000000 in
theorem specNat_any (s : ByteArray) (b : Int) (w : World) (hs : s.size ≤ 1048576) :
    Calls Try.prog 65 #[.agg #[.string s, .int .i64 b]] w fun e w' => e = .returned (.bool (natOk s b)) ∧ Below w.heap.size w w' := by
  have hB : Hid (Below w.heap.size w (w.alloc (.cells #[.string s, .int .i64 b] 33))) := (Below.refl _ _).alloc (Nat.le_refl _) _
  by_cases hp : prefixOk s b = true
  · obtain ⟨hb0, hb1, hsz⟩ := prefixOk_le hp
    by_cases h16 : s.size = 16
    · have HV : Hid (natOk s b = natBits b) := by unfold Hid natOk; simp [hp, h16]
      have e16 : ((s.size : Int) == 16) = true := by simp; omega
      have hb1' : b ≤ 128 := by omega
      clear hsz h16 hb1
      go_enter Try.func65, Try.ntmps65
      go_wp2_with fail
      refine (specPrefixRight_any s b _ hs).mono ?_
      rw [hp]
      rintro e w1 ⟨rfl, hb1⟩
      obtain ⟨hc, hf⟩ := bcell hb1
      have HB1 : Hid _ := hB.out.trans (hb1.mono (by simp))
      clear hf hb1 hp
      by_cases h96 : b = 96
      · have HN : Hid (natBits b = true) := by unfold Hid natBits; simp [h96]
        have e96 : (b == 96) = true := by simp [h96]
        clear h96
        go_wp2
        go_ret
        exact ⟨ret_bool (by rw [HV.out, HN.out]), HB1.out⟩
      · have e96 : (b == 96) = false := by simp [h96]
        by_cases h32 : 32 ≤ b
        · by_cases h64 : b ≤ 64
          · have HN : Hid (natBits b = (b % 8 == 0)) := by unfold Hid natBits; simp [h96, h32, h64]
            go_wp2
            go_ret
            exact ⟨ret_bool (by rw [HV.out, HN.out]), HB1.out⟩
          · have HN : Hid (natBits b = false) := by unfold Hid natBits; simp [h96, h64]
            have e64 : decide (b ≤ 64) = false := by simpa using h64
            go_wp2
            go_ret
            exact ⟨ret_bool (by rw [HV.out, HN.out]), HB1.out⟩
        · have HN : Hid (natBits b = false) := by unfold Hid natBits; simp [h96, h32]
          have e32 : decide (32 ≤ b) = false := by simpa using h32
          go_wp2
          go_ret
          exact ⟨ret_bool (by rw [HV.out, HN.out]), HB1.out⟩
    · have HV : Hid (natOk s b = false) := by unfold Hid natOk; simp [h16]
      have e16 : ((s.size : Int) == 16) = false := by simp; omega
      go_enter Try.func65, Try.ntmps65
      go_wp2_with fail
      refine (specPrefixRight_any s b _ hs).mono ?_
      rw [hp]
      rintro e w1 ⟨rfl, hb1⟩
      obtain ⟨hc, hf⟩ := bcell hb1
      have HB1 : Hid _ := hB.out.trans (hb1.mono (by simp))
      clear hf hb1
      go_wp2
      go_ret
      exact ⟨ret_bool HV.out.symm, HB1.out⟩
  · have hp' : prefixOk s b = false := by simpa using hp
    have HV : Hid (natOk s b = false) := by unfold Hid natOk; simp [hp']
    go_enter Try.func65, Try.ntmps65
    go_wp2_with fail
    refine (specPrefixRight_any s b _ hs).mono ?_
    rw [hp']
    rintro e w1 ⟨rfl, hb1⟩
    have HB1 : Hid _ := hB.out.trans (hb1.mono (by simp))
    clear hb1
    go_wp2
    go_ret
    exact ⟨ret_bool HV.out.symm, HB1.out⟩

/-- Two boxes of two cells that the call has just laid, in a later world. -/
theorem box_cells {w wx : World} {t1 t2 : TypeId} {a0 a1 v0 v1 : Value} (h : Below (w.heap.size + 2) ((w.alloc (.cells #[a0, a1] t1)).alloc (.cells #[v0, v1] t2)) wx) :
    wx.cell? ⟨w.heap.size, 0, none⟩ = some a0 ∧ wx.cell? ⟨w.heap.size, 1, none⟩ = some a1 ∧ wx.cell? ⟨w.heap.size + 1, 0, none⟩ = some v0 ∧ wx.cell? ⟨w.heap.size + 1, 1, none⟩ = some v1 ∧
      wx.frozen? ⟨w.heap.size + 1, 0, none⟩ = false ∧ wx.frozen? ⟨w.heap.size + 1, 1, none⟩ = false := by
  refine ⟨?_, ?_, ?_, ?_, ?_, ?_⟩
  · rw [h.cell (p := ⟨w.heap.size, 0, none⟩) (show w.heap.size < w.heap.size + 2 by omega)]; simp
  · rw [h.cell (p := ⟨w.heap.size, 1, none⟩) (show w.heap.size < w.heap.size + 2 by omega)]; simp
  · rw [h.cell (p := ⟨w.heap.size + 1, 0, none⟩) (show w.heap.size + 1 < w.heap.size + 2 by omega)]; simp
  · rw [h.cell (p := ⟨w.heap.size + 1, 1, none⟩) (show w.heap.size + 1 < w.heap.size + 2 by omega)]; simp
  · rw [h.frozen (p := ⟨w.heap.size + 1, 0, none⟩) (show w.heap.size + 1 < w.heap.size + 2 by omega)]; simp
  · rw [h.frozen (p := ⟨w.heap.size + 1, 1, none⟩) (show w.heap.size + 1 < w.heap.size + 2 by omega)]; simp

theorem box_keep {w wx : World} {o1 o2 : Obj} (h : Below ((w.alloc o1).alloc o2).heap.size ((w.alloc o1).alloc o2) wx) : Below (w.heap.size + 2) ((w.alloc o1).alloc o2) wx := h.mono (by simp)
theorem box_size {w wx : World} {o1 o2 : Obj} (h : Below (w.heap.size + 2) ((w.alloc o1).alloc o2) wx) : w.heap.size + 2 ≤ wx.heap.size := Nat.le_trans (by simp) h.size

/-- What Embed answers: the text, and the code. -/
def embedV (p : ByteArray) (b : Int) (four : ByteArray) : ByteArray × Int := if natOk p b = true ∧ four.size = 4 then (embV p (b / 8).toNat four, 0) else (⟨#[]⟩, 1)

theorem specEmbed_any (p : ByteArray) (b : Int) (four : ByteArray) (w : World) (hp : p.size ≤ 1048576) (hf : four.size ≤ 1048576) :
    Calls Try.prog 20 #[.agg #[.string p, .int .i64 b], .string four] w fun e w' => e = .returned (.agg #[.string (embedV p b four).1, .int .i64 (embedV p b four).2]) ∧ Below w.heap.size w w' := by
  have hB : Hid (Below w.heap.size w ((w.alloc (.cells #[.string p, .int .i64 b] 33)).alloc (.cells #[.string ⟨#[]⟩, .int .i64 0] 37))) := ((Below.refl _ _).alloc (Nat.le_refl _) _).alloc (by simp) _
  by_cases hn : natOk p b = true
  · obtain ⟨-, hp16, hb0, -, at1, ha, -, ha12, ha8⟩ := natOk_parts hn
    by_cases h4 : four.size = 4
    · have HV : Hid (embedV p b four = (embV p at1 four, 0)) := by unfold Hid embedV; rw [if_pos ⟨hn, h4⟩, ha]; rfl
      have HC : Hid (∀ W, Calls Try.prog 66 #[.agg #[.string p, .int .i64 b], .string four] W fun e w' => e = .returned (.string (embV p at1 four)) ∧ Below W.heap.size W w') := fun W => specEmbed1_any p b at1 four W hp16 h4 ha hb0 ha12 ha8
      have e4 : ((four.size : Int) != 4) = false := by simp; omega
      clear h4 hp16 ha
      go_enter Try.func20, Try.ntmps20
      go_wp2_with fail
      refine (specNat_any p b _ hp).mono ?_
      rw [hn]
      rintro e w1 ⟨rfl, hb1⟩
      have HX1 := box_keep hb1
      obtain ⟨k0, k1, k2, k3, k4, k5⟩ := box_cells HX1
      clear hb1 hn
      have HX : Hid _ := HX1
      clear HX1
      go_wp2_with fail
      refine (HC.out _).mono ?_
      rintro e w2 ⟨rfl, hb2⟩
      have HX2 := HX.out.trans (hb2.mono (box_size HX.out))
      clear hb2 HX k0 k1 k2 k3 k4 k5
      obtain ⟨k0, k1, k2, k3, k4, k5⟩ := box_cells HX2
      have HB2 : Hid (Below w.heap.size w w2) := hB.out.trans (HX2.mono (by omega))
      clear HX2 hB
      go_wp2
      exact bodyPost_ret (v := .agg #[.string (embV p at1 four), .int .i64 0]) (by simp [results, Try.results20, go_sem, k0, k1, k2, k3, k4, k5]) rfl ⟨by rw [HV.out], (HB2.out.setCell (by simp) _).setCell (by simp) _⟩
    · have HV : Hid (embedV p b four = (⟨#[]⟩, 1)) := if_neg (fun h => h4 h.2)
      have e4 : ((four.size : Int) != 4) = true := by simp; omega
      clear h4 hp16 ha
      go_enter Try.func20, Try.ntmps20
      go_wp2_with fail
      refine (specNat_any p b _ hp).mono ?_
      rw [hn]
      rintro e w1 ⟨rfl, hb1⟩
      have HX1 := box_keep hb1
      obtain ⟨k0, k1, k2, k3, k4, k5⟩ := box_cells HX1
      have HB1 : Hid (Below w.heap.size w w1) := hB.out.trans (HX1.mono (by omega))
      clear HX1 hb1 hB
      go_wp2
      exact bodyPost_ret (v := .agg #[.string ⟨#[]⟩, .int .i64 1]) (by simp [results, Try.results20, go_sem, k0, k1, k2, k3, k4, k5]) rfl ⟨by rw [HV.out], (HB1.out.setCell (by simp) _).setCell (by simp) _⟩
  · have HV : Hid (embedV p b four = (⟨#[]⟩, 1)) := if_neg (fun h => hn h.1)
    have hn' : natOk p b = false := by simpa using hn
    go_enter Try.func20, Try.ntmps20
    go_wp2_with fail
    refine (specNat_any p b _ hp).mono ?_
    rw [hn']
    rintro e w1 ⟨rfl, hb1⟩
    have HX1 := box_keep hb1
    obtain ⟨k0, k1, k2, k3, k4, k5⟩ := box_cells HX1
    have HB1 : Hid (Below w.heap.size w w1) := hB.out.trans (HX1.mono (by omega))
    clear HX1 hb1 hB
    go_wp2
    exact bodyPost_ret (v := .agg #[.string ⟨#[]⟩, .int .i64 1]) (by simp [results, Try.results20, go_sem, k0, k1, k2, k3, k4, k5]) rfl ⟨by rw [HV.out], (HB1.out.setCell (by simp) _).setCell (by simp) _⟩

end Go.Proofs.Ytofhcplnnamcdaa
