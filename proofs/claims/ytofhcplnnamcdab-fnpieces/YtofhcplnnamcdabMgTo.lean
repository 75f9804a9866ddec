/- MgTo: ISort, IBld, ITog, in one text. -/
import Derived.Test.YtofhcplnnamcdabShelf
import Derived.Test.YtofhcplnnamcdabMgPc
import Derived.Test.YtofhcplnnamcdabMgSl
import Derived.Test.YtofhcplnnamcdabSTick
import Derived.Test.YtofhcplnnamcdabBase
import Derived.Shelf.Strings.Builder1
import Derived.Test.YtofhcplnnamcdabHoldL
import Derived.Test.YtofhcplnnamcdabMgGr
import Derived.Test.YtofhcplnnamcdabIClash
import Derived.Deep.DeepCutAuto

/- ISort: pieces sorted by their Off, at this translation. -/
namespace Go.Proofs.Ytofhcplnnamcdab
open Go.RowKit
open Go.Sort hiding Below
set_option linter.unusedVariables false
set_option linter.unusedSimpArgs false

def cmpOff (a b : Pc) : Int := Lib.compareInt a.off b.off
theorem lt_off (x y : Pc) : ltOf cmpOff x y = decide (x.off < y.off) := by
  unfold ltOf cmpOff Lib.compareInt
  by_cases h1 : x.off < y.off
  · simp [h1]
  · by_cases h2 : y.off < x.off <;> simp [h1, h2]
theorem swo_off : Sort.SWO (ltOf cmpOff) where
  irrefl x := by rw [lt_off]; simp
  trans x y z h1 h2 := by rw [lt_off] at *; simp at *; omega
  ntrans x y z h1 h2 := by rw [lt_off] at *; simp at *; omega

set_option maxHeartbeats 1000000 in
theorem cmp_any (x y : Pc) (W : World) : Calls Try.prog 68 #[.agg (pcL x).toArray, .agg (pcL y).toArray] W fun e w' => e = .returned (.int .i64 (cmpOff x y)) ∧ ∃ q os', w' = grow (W.drewN q) os' := by
  have hcon := fun W' => Try.cmp_Compare_int x.off y.off W'
  unfold cmpOff
  generalize Lib.compareInt x.off y.off = r at hcon ⊢
  rw [show (pcL x).toArray = #[.string x.src, .string x.dst, .int .i64 x.proto, .int .i64 x.id, .int .i64 x.off, .bool x.more, .string x.data, .int .i64 x.since] from rfl, show (pcL y).toArray = #[.string y.src, .string y.dst, .int .i64 y.proto, .int .i64 y.id, .int .i64 y.off, .bool y.more, .string y.data, .int .i64 y.since] from rfl]
  go_enter Try.func68, Try.ntmps68
  go_wp2_with (go_at_call 69; refine (hcon _).mono ?_; rintro e w' ⟨rfl, rfl⟩)
  go_ret
  exact ⟨rfl, 0, _, by rw [alloc_eq_grow, alloc_eq_grow, grow_grow]; rfl⟩

theorem flatK_at (ys : List Pc) (i r : Nat) (hi : i < ys.length) (hr : r < 8) : (flatK pcL 8 ys.toArray)[i * 8 + r]! = ((pcL ys[i])[r]'(by rw [pcL_length]; exact hr)) := by
  have hb : i * 8 + r < ys.toArray.size * 8 := by have : i * 8 + 8 ≤ ys.length * 8 := by omega
                                                  simp; omega
  rw [get_flatK _ _ _ _ hb, show (i * 8 + r) / 8 = i by omega, show (i * 8 + r) % 8 = r by omega]
  have h1 : ys.toArray[i]! = ys[i] := by simp [hi]
  rw [h1, getElem!_pos (pcL ys[i]) r (by rw [pcL_length]; exact hr)]
theorem holdsK_of {w : World} {g : Nat} {ys : List Pc} (h : SlLaid pcL 8 w g ys ys.length ys.length) : HoldsK pcL 8 w g 0 ys.toArray := by
  intro j hj
  rw [size_flatK] at hj
  have hj' : j < ys.length * 8 := by simpa using hj
  have hi : j / 8 < ys.length := by omega
  have hr : j % 8 < 8 := by omega
  have e : j = j / 8 * 8 + j % 8 := by omega
  refine ⟨?_, by rw [Nat.zero_add]; exact h.free j hj'⟩
  rw [Nat.zero_add]
  have h1 := h.at0 (j / 8) hi hi (j % 8) _ (List.getElem?_eq_getElem (by rw [pcL_length]; exact hr))
  rw [← e] at h1
  rw [h1]
  congr 1
  have h2 := flatK_at ys (j / 8) (j % 8) hi hr
  rw [← e] at h2
  exact h2.symm
theorem at_of_holdsK {w : World} {g : Nat} {ss : List Pc} (h : HoldsK pcL 8 w g 0 ss.toArray) : SlAt pcL 8 w g 0 ss := by
  intro i hi r u hu
  have hr : r < 8 := by have := (List.getElem?_eq_some_iff.1 hu).1; rwa [pcL_length] at this
  have hb : i * 8 + r < (flatK pcL 8 ss.toArray).size := by rw [size_flatK]; simp; omega
  have h1 := (h (i * 8 + r) hb).1
  rw [Nat.zero_add] at h1 ⊢
  rw [h1]
  congr 1
  rw [show (id (flatK pcL 8 ss.toArray)[i * 8 + r]! : Value) = (flatK pcL 8 ss.toArray)[i * 8 + r]! from rfl, flatK_at ss i r hi hr]
  exact (List.getElem?_eq_some_iff.1 hu).2
theorem sort_grown (w : World) (g n : Nat) (d : Array Pc) (os : Array Obj) : w.grownBy (sortWorldK pcL 8 w g 0 n d os) (some g) := by
  refine ⟨rfl, rfl, rfl, size_sortWorldK_c (w := w) (enc := pcL) (k := 8) (blk := g) (off := 0) n d os, fun k hk hne => ?_⟩
  have hkg : g ≠ k := fun e => hne (by rw [e])
  unfold sortWorldK grow putRowK Sort.putRow Sort.mapBlock
  show ((w.heap.modify g _) ++ os)[k]? = w.heap[k]?
  rw [Array.getElem?_append_left (by simpa using hk)]
  rw [Array.getElem?_modify]
  simp [hkg]

set_option maxHeartbeats 1000000 in
theorem sort_any (ys : List Pc) (g cap : Nat) (w : World) (hs : SlLaid pcL 8 w g ys ys.length ys.length) (hl : ys.length ≤ 1048576) :
    Calls Try.prog 67 #[.slice (some ⟨g, 0, none⟩) ys.length cap, .func (.func 68) #[] #[]] w fun e w' => e = .returned (.tuple #[]) ∧ ∃ ss : List Pc, ss.length = ys.length ∧ ss.Perm ys ∧ ss.Pairwise (fun a b => a.off ≤ b.off) ∧ SlAt pcL 8 w' g 0 ss ∧ w.grownBy w' (some g) := by
  have eg : ∀ args w, (callFunc 68 args).run Try.prog w = .ok (.enter 68 args) w := enters_of Try.func68 (by kernel_rfl) rfl
  have hH := holdsK_of hs
  have hcon := AnyQ.slices_SortFunc Try.laysSort 8 Try.isAgg37 Try.sizeOf37 pcL pcL_length (fun x v hv => pcL_one x v hv) cmpOff swo_off 68 #[] g 0 cap ys.toArray w eg (fun _ _ _ _ x y => cmp_any x y _) hH hs.blk (by simp; omega)
  change Calls Try.prog 67 _ _ _ at hcon
  rw [show ys.toArray.size = ys.length by simp] at hcon
  refine hcon.mono ?_
  rintro e w' ⟨rfl, d', n, os, hp, hso, rfl⟩
  obtain ⟨h1, h2, h3⟩ := hp
  have hsz : d'.size = ys.length := by rw [h1]; simp
  refine ⟨rfl, d'.toList, by simpa using hsz, ?_, ?_, ?_, sort_grown w g n d' os⟩
  · have e1 : d'.extract 0 ys.length = d' := by rw [← hsz]; simp
    have e2 : ys.toArray.extract 0 ys.length = ys.toArray := by rw [show ys.length = ys.toArray.size by simp]; simp
    rw [e1, e2] at h3
    simpa using h3
  · rw [List.pairwise_iff_getElem]
    intro i j hi hj hij
    have hi' : i < d'.size := by simpa using hi
    have hj' : j < d'.size := by simpa using hj
    have := hso i j (Nat.zero_le _) hij (by rw [← hsz]; exact hj')
    rw [lt_off, getElem!_pos d' i hi', getElem!_pos d' j hj'] at this
    simp at this
    simpa using this
  · apply at_of_holdsK
    have := holdsK_sortWorldK_c (w := w) (enc := pcL) (k := 8) (blk := g) (off := 0) ys.toArray d' n os hH hs.blk (by rw [h1])
    simpa using this
end Go.Proofs.Ytofhcplnnamcdab

/- IBld: what strings.Builder's copyCheck and WriteString answer at this translation (its panic is cut away here). -/
namespace Go.Proofs.Ytofhcplnnamcdab
open Go.RowKit
set_option linter.unusedVariables false
set_option linter.unusedSimpArgs false

theorem bld_size : (Try.prog.info? 102).map (·.size) = some 2 := by kernel_rfl
theorem bld_lies : liesAt Try.prog Try.prog.depth 102 (2 / Try.prog.cellsOf 102) 0 102 1 = true := by kernel_rfl

set_option maxHeartbeats 1000000 in
set_option maxRecDepth 100000 in
theorem check_used (b : Nat) (w : World) (h0 : w.cell? ⟨b, 0, none⟩ = some (.pointer (some ⟨b, 0, none⟩))) :
    Calls Try.prog 88 #[.pointer (some ⟨b, 0, none⟩)] w fun e w' => e = .returned (.tuple #[]) ∧ w' = w := by
  obtain ⟨j, hj, _⟩ := Option.map_eq_some_iff.1 bld_size
  go_enter Try.func88, Try.ntmps88
  go_wp2
  rw [Lib.run_neq_ptr_same w _ Try.underlying100 hj]
  go_wp2
  go_end0
  exact ⟨rfl, rfl⟩

set_option maxHeartbeats 1000000 in
set_option maxRecDepth 100000 in
theorem check_fresh (b : Nat) (w : World) (h0 : w.cell? ⟨b, 0, none⟩ = some (.pointer none)) (hsh : w.shape? b = some (102, 2)) (hfz : w.frozen? ⟨b, 0, none⟩ = false) :
    Calls Try.prog 88 #[.pointer (some ⟨b, 0, none⟩)] w fun e w' => e = .returned (.tuple #[]) ∧ w' = w.setCell ⟨b, 0, none⟩ (.pointer (some ⟨b, 0, none⟩)) := by
  obtain ⟨j, hj, hjs⟩ := Option.map_eq_some_iff.1 bld_size
  go_enter Try.func88, Try.ntmps88
  go_wp2
  rw [Lib.run_to_unsafe w ⟨b, 0, none⟩ Try.underlying100 Try.underlying132 hj (by rw [hjs]; decide) hsh (Nat.zero_lt_succ 1)]
  simp only [Result.andThen]
  rw [Oper.upon_value]
  go_wp2
  rw [run_callFunc_extern Try.func103 (by kernel_rfl) (by kernel_rfl) (by kernel_rfl) (e := Extern.AbiNoEscape.same) (by kernel_rfl)]
  rw [Lib.run_noEscape]
  simp only [Result.andThen]
  rw [Oper.upon_value]
  go_wp2
  rw [Lib.run_from_unsafe w ⟨b, 0, none⟩ Try.underlying132 Try.underlying100 hj hsh bld_lies]
  simp only [Result.andThen]
  rw [Oper.upon_value]
  go_wp2
  go_end0
  exact ⟨rfl, rfl⟩

theorem check_any (B b : Nat) (bs : List Value) (w : World) (h : Lib.IsBuilder 102 5 B b bs w) :
    Calls Try.prog 88 #[.pointer (some ⟨b, 0, none⟩)] w fun e w' => e = .returned (.tuple #[]) ∧ (Lib.BuilderAt 102 5 B b (.pointer (some ⟨b, 0, none⟩)) bs w' ∧ Below B w w') := by
  rcases h with h | h
  · refine (check_fresh b w h.cell0 h.shape h.frozen0).mono ?_
    rintro e w' ⟨rfl, rfl⟩
    exact ⟨rfl, h.used _, (Below.refl B w).setCell (p := ⟨b, 0, none⟩) h.1 _⟩
  · refine (check_used b w h.cell0).mono ?_
    rintro e w' ⟨rfl, rfl⟩
    exact ⟨rfl, h, Below.refl B _⟩

theorem info_byte : (Try.prog.info? 5).map (fun i => (i.zero, i.size, i.bytes)) = some (some (.int .u8 0), 1, 1) := by kernel_rfl
set_option maxHeartbeats 2000000 in
set_option maxRecDepth 100000 in
theorem write_any (B b : Nat) (bs : List Value) (s : ByteArray) (w : World) (h : Lib.IsBuilder 102 5 B b bs w) (hlen : bs.length + s.size ≤ 140737488355328) (hBw : B ≤ w.heap.size) :
    Calls Try.prog 71 #[.pointer (some ⟨b, 0, none⟩), .string s] w fun e w' => e = .returned (.tuple #[.int .i64 s.size, .nilIface]) ∧ (Lib.BuilderAt 102 5 B b (.pointer (some ⟨b, 0, none⟩)) (bs ++ Lib.strCells s) w' ∧ Below B w w') := by
  obtain ⟨i0, hi, hz0, hz1, hz2⟩ := info_parts info_byte
  have HCK : Hid _ := check_any B b bs w h
  clear h
  go_enter Try.func71, Try.ntmps71
  go_wp2_with fail
  refine Calls.mono HCK.out ?_
  rintro e w1 ⟨rfl, h1, hb1⟩
  obtain ⟨hB, v, hbk, hown, hne⟩ := h1
  have c0 : w1.cell? ⟨b, 0, none⟩ = some (.pointer (some ⟨b, 0, none⟩)) := by rw [Lib.cell_of_heap hbk]; rfl
  have c1 : w1.cell? ⟨b, 1, none⟩ = some v := by rw [Lib.cell_of_heap hbk]; rfl
  clear HCK
  go_wp2_with (at_builtin; refine Lib.wpList_append_own_string _ rfl _ _ 22 9 rfl B 5 i0 Try.underlying22 Try.underlying9 hi hz0 hz1 hz2 _ _ _ rfl hown s rfl ?c3 ?c4 ?c5 ?_)
  case c3 => unfold maxLen; omega
  case c4 => omega
  case c5 => have := hb1.size; omega
  intro v' w2 hown' hgrow _
  have hlt : b < w1.heap.size := by
    rcases Nat.lt_or_ge b w1.heap.size with h' | h'
    · exact h'
    · simp [Array.getElem?_eq_none h'] at hbk
  have hb2 : w2.heap[b]? = some (.cells #[.pointer (some ⟨b, 0, none⟩), v] 102 (0, 0)) := by
    rw [hgrow.block b hlt (fun e => hne e.symm)]
    exact hbk
  have d0 : w2.cell? ⟨b, 0, none⟩ = some (.pointer (some ⟨b, 0, none⟩)) := by rw [Lib.cell_of_heap hb2]; rfl
  have d1 : w2.cell? ⟨b, 1, none⟩ = some v := by rw [Lib.cell_of_heap hb2]; rfl
  have f1 : w2.frozen? ⟨b, 1, none⟩ = false := Lib.frozen_of_heap hb2 1
  obtain ⟨ao, n', cap, rfl⟩ : ∃ ao n' cap, v' = .slice ao n' cap := by
    rcases hown'.2 with ⟨hv, _⟩ | ⟨g, cap, cur, hv, _⟩
    · exact ⟨_, _, _, hv⟩
    · exact ⟨_, _, _, hv⟩
  go_wp2
  go_ret2
  refine ⟨rfl, ?_, ?_⟩
  · exact Lib.BuilderAt.put (T := 102) (e := 5) hB hb2 (bs' := bs ++ Lib.strCells s) (by simpa [Lib.strCells_length] using hown') (by decide)
  · exact (hb1.grown hgrow (by have := hb1.size; omega) (fun k hk => (hown.lt k hk).1)).setCell (p := ⟨b, 1, none⟩) hB _
end Go.Proofs.Ytofhcplnnamcdab

/- ITog: what the program's together answers. -/
namespace Go.Proofs.Ytofhcplnnamcdab
open Go.RowKit Go.PlainAid
set_option linter.unusedVariables false
set_option linter.unusedSimpArgs false

theorem walk_app : ∀ (l r : List Pc) (t : ByteArray), walkPc (l ++ r) t = (walkPc l t).bind (walkPc r)
  | [], r, t => rfl
  | q :: l, r, t => by
    show (if 8 * q.off = (t.size : Int) then walkPc (l ++ r) (t ++ q.data) else none) = _
    rw [walkPc]
    by_cases h : 8 * q.off = (t.size : Int)
    · rw [if_pos h, if_pos h]; exact walk_app l r _
    · rw [if_neg h, if_neg h]; rfl
theorem walk_take {ss : List Pc} {i : Nat} (h : i < ss.length) {t : ByteArray} (ht : walkPc (ss.take i) ⟨#[]⟩ = some t) :
    (8 * ss[i].off = (t.size : Int) → walkPc (ss.take (i + 1)) ⟨#[]⟩ = some (t ++ ss[i].data)) ∧ (¬ 8 * ss[i].off = (t.size : Int) → walkPc ss ⟨#[]⟩ = none) := by
  constructor
  · intro e
    rw [List.take_succ_eq_append_getElem h, walk_app, ht]
    show walkPc [ss[i]] t = _
    rw [walkPc, if_pos e]; rfl
  · intro e
    conv => lhs; rw [← List.take_append_drop i ss]
    rw [walk_app, ht, List.drop_eq_getElem_cons h]
    show walkPc (ss[i] :: _) t = none
    rw [walkPc, if_neg e]
def TogRet (w : World) (r : Option ByteArray) : Ending → World → Prop := fun e w' => e = .returned (.tuple #[.string (r.getD ⟨#[]⟩), .bool r.isSome]) ∧ Below w.heap.size w w'
theorem walk_size {ss : List Pc} (hd : ∀ q ∈ ss, q.data.size ≤ 1400) : ∀ (t t' : ByteArray), walkPc ss t = some t' → t'.size ≤ t.size + ss.length * 1400 := by
  induction ss with
  | nil => intro t t' h; simp [walkPc] at h; subst h; simp
  | cons q r ih =>
    intro t t' h
    rw [walkPc] at h
    split at h
    · have h1 := ih (fun x hx => hd x (by simp [hx])) _ _ h
      have h2 := hd q (by simp)
      rw [ba_size_append] at h1
      simp only [List.length_cons]; omega
    · simp at h
theorem bld_kept {T e : TypeId} {B b : Nat} {bs : List Value} {w W : World} (h : Lib.IsBuilder T e B b bs w) (hb : Below w.heap.size w W) : Lib.IsBuilder T e B b bs W := by
  have key : ∀ p, Lib.BuilderAt T e B b p bs w → Lib.BuilderAt T e B b p bs W := fun p h => by
    have hlt := h.lt
    obtain ⟨h1, v, h2, h3, h4⟩ := h
    exact ⟨h1, v, (hb.block b hlt).trans h2, h3.kept (grown_of_below (r := none) hb) (by cases v.ownBlock <;> simp), h4⟩
  rcases h with h | h
  · exact .inl (key _ h)
  · exact .inr (key _ h)

theorem bld_new (w : World) : Lib.IsBuilder 102 5 w.heap.size w.heap.size [] (w.alloc (.cells #[.pointer none, .slice none 0 0] 102)) :=
  .inl ⟨Nat.le_refl _, .slice none 0 0, heap_alloc_new w _, World.ownsRow_nil _ _ _ _, by simp [Value.ownBlock]⟩
theorem clonePcs_any (ys : List Pc) (b off cap : Nat) (w : World) (hl : ys.length ≤ 1048576) (hy : ys ≠ []) (hat : SlAt pcL 8 w b off ys) :
    Calls Try.prog 66 #[.slice (some ⟨b, off, none⟩) ys.length cap] w fun e w' => ∃ g c, e = .returned (.slice (some ⟨g, 0, none⟩) ys.length c) ∧ w.heap.size ≤ g ∧ SlLaid pcL 8 w' g ys ys.length ys.length ∧ Below w.heap.size w w' := by
  obtain ⟨i0, hi, hz0, hz1, hz2⟩ := info_parts Try.infoPt
  have hcon := AnyE.slices_Clone Try.laysClone i0 _ 8 88 hi hz0 hz1 hz2 rfl (by decide) Try.sizeOf37 b off ys.length cap (flatS pcL ys) w (flatS_length pcL_length ys) (by unfold maxLen; omega) (by omega) (fun j u hu => flatS_cells pcL_length (by omega) hat j u hu) (fun u hu => by
    unfold flatS at hu
    obtain ⟨q, _, hq⟩ := List.mem_flatMap.1 hu
    exact pcL_one q u hq)
  change Calls Try.prog 66 _ _ _ at hcon
  refine hcon.mono ?_
  rintro e w' ⟨v', rfl, hown, hne, hb⟩
  rcases hown.2 with ⟨h1, _⟩ | ⟨g, c, cur, h1, h2, h3⟩
  · exact absurd h1 hne
  · subst h1
    exact ⟨g, c, rfl, h2, Row.laid pcL_length hown, hb⟩

set_option maxRecDepth 100000 in
set_option maxHeartbeats 2000000 in
theorem implTog_any (ys : List Pc) (a : Option Addr) (cap : Nat) (w : World) (hl : ys.length ≤ 1000) (hy : ys ≠ []) (hr : SlIs pcL 8 w a ys) (hok : ∀ q ∈ ys, pieceOk q = true) (hc : ys.Pairwise (fun a b => clashPc a b = false)) :
    Calls Try.prog 42 #[.agg #[.slice a ys.length cap]] w fun e w' => ∃ ss : List Pc, ss.Perm ys ∧ ss.Pairwise InRow ∧ TogRet w (togPc ss) e w' := by
  obtain ⟨b, off, rfl, hb, hat⟩ := hr.at (k := 0) (List.length_pos_iff.2 hy)
  have HC : Hid (∀ W, Below w.heap.size w W → Calls Try.prog 66 #[.slice (some ⟨b, off, none⟩) ys.length cap] W fun e w' => ∃ g c, e = .returned (.slice (some ⟨g, 0, none⟩) ys.length c) ∧ W.heap.size ≤ g ∧ SlLaid pcL 8 w' g ys ys.length ys.length ∧ Below W.heap.size W w') := fun W hW => clonePcs_any ys b off cap W (by omega) hy (hat.below hb hW)
  have HS : Hid (∀ W g c, SlLaid pcL 8 W g ys ys.length ys.length → Calls Try.prog 67 #[.slice (some ⟨g, 0, none⟩) ys.length c, .func (.func 68) #[] #[]] W fun e w' => e = .returned (.tuple #[]) ∧ ∃ ss : List Pc, ss.length = ys.length ∧ ss.Perm ys ∧ ss.Pairwise (fun a b => a.off ≤ b.off) ∧ SlAt pcL 8 w' g 0 ss ∧ W.grownBy w' (some g)) := fun W g c h => sort_any ys g c W h (by omega)
  have hn : 1 ≤ ys.length := List.length_pos_iff.2 hy
  have HZ : Hid (Below w.heap.size w (w.alloc (.cells #[.slice (some ⟨b, off, none⟩) ys.length cap] 71))) := (Below.refl _ _).alloc (Nat.le_refl _) _
  have HOK : Hid (∀ q ∈ ys, pieceOk q = true) := hok
  have HCL : Hid (ys.Pairwise (fun a b => clashPc a b = false)) := hc
  clear hr hok hc hat
  go_enter Try.func42, Try.ntmps42
  go_wp2_with fail
  refine (HC.out _ HZ.out).mono ?_
  rintro e w1 ⟨g, c, rfl, hg, hlaid, b1⟩
  have B1 : Hid (Below w.heap.size w w1) := HZ.out.trans (b1.mono (by simp))
  have hgw : w.heap.size ≤ g := by simp at hg; omega
  have HS2 : Hid _ := HS.out w1 g c hlaid
  clear b1 hlaid HC HS HZ hg
  go_wp2_with fail
  refine Calls.mono HS2.out ?_
  rintro e w2 ⟨rfl, ss, hsl, hperm, hsort, hat, hgr⟩
  have B2 : Hid (Below w.heap.size w w2) := below_grown B1.out hgr hgw B1.out.size
  have HPM : Hid (ss.Perm ys) := hperm
  have HSD : Hid (∀ q ∈ ss, pieceOk q = true) := fun q hq => HOK.out q (hperm.mem_iff.1 hq)
  have HIR : Hid (ss.Pairwise InRow) := by
    refine inRow_of hsort ?_ (fun q hq => (pcOk_in (HSD.out q hq)).1)
    exact (hperm.pairwise_iff (fun {x y} h => by rw [clash_comm]; exact h)).2 HCL.out
  have HAT : Hid (SlAt pcL 8 w2 g 0 ss) := hat
  -- BEGIN
  obtain ⟨m, hm⟩ : ∃ m, ys.length = m + 1 := ⟨ys.length - 1, by omega⟩
  have HSL : Hid (ss.length = m + 1) := by unfold Hid; rw [hsl, hm]
  have HSZ : Hid (∀ i t, walkPc (ss.take i) ⟨#[]⟩ = some t → t.size ≤ 1000 * 1400) := fun i t h => by
    have h1 := walk_size (ss := ss.take i) (fun q hq => (pcOk_in (HSD.out q (List.mem_of_mem_take hq))).2.1) _ _ h
    have h2 : (ss.take i).length ≤ 1000 := by have := HSL.out; have := hl; rw [List.length_take]; omega
    have h3 : (⟨#[]⟩ : ByteArray).size = 0 := rfl
    have h4 := Nat.mul_le_mul_right 1400 h2
    omega
  obtain ⟨lq, HLQ⟩ : ∃ lq, Hid (ss.getLast? = some lq ∧ SlAt pcL 8 w2 g 0 ss ∧ ∀ j u, (pcL lq)[j]? = some u → w2.cell? ⟨g, m * 8 + j, none⟩ = some u) := by
    have hlt : m < ss.length := by rw [HSL.out]; omega
    refine ⟨ss[m], ?_, hat, fun j u hu => ?_⟩
    · rw [List.getLast?_eq_getElem?, HSL.out, List.getElem?_eq_getElem (by rw [HSL.out]; omega)]; rfl
    · have := hat m hlt j u hu
      rwa [Nat.zero_add] at this
  have c5 : w2.cell? ⟨g, m * 8 + 5, none⟩ = some (.bool lq.more) := HLQ.out.2.2 5 _ rfl
  clear hperm hsort hat hgr hsl HS2 HCL HOK hn hy hb
  rw [hm]
  have hml : m ≤ 1000 := by omega
  cases hmo : lq.more with
  | true =>
    have HX : Hid (togPc ss = none) := by unfold Hid togPc; rw [HLQ.out.1]; exact if_pos hmo
    rw [hmo] at c5
    go_wp2_with fail
    go_ret2
    refine ⟨ss, HPM.out, HIR.out, ?_⟩
    rw [HX.out]
    exact ⟨rfl, B2.out⟩
  | false =>
    have HX : Hid (togPc ss = walkPc ss ⟨#[]⟩) := by unfold Hid togPc; rw [HLQ.out.1]; exact if_neg (by rw [hmo]; simp)
    rw [hmo] at c5
    clear hmo
    go_wp2_with fail
    have HB0 : Hid (Lib.IsBuilder 102 5 w2.heap.size w2.heap.size [] (w2.alloc (.cells #[.pointer none, .slice none 0 0] 102))) := bld_new w2
    have HZ0 : Hid (Below w2.heap.size w2 (w2.alloc (.cells #[.pointer none, .slice none 0 0] 102))) := (Below.refl _ _).alloc (Nat.le_refl _) _
    have hz0 : w2.heap.size + 1 ≤ (w2.alloc (.cells #[.pointer none, .slice none 0 0] 102)).heap.size := by simp
    generalize w2.alloc (.cells #[.pointer none, .slice none 0 0] 102) = W0 at *
    have HAW : Hid (∀ W, Below w2.heap.size w2 W → SlAt pcL 8 W g 0 ss) := fun W hW => HLQ.out.2.1.below (by
      have h := HLQ.out.2.2 0 _ rfl
      exact World.block_lt_of_cell? w2 _ h) hW
    clear c5
    go_loopw [22] (fun iv wr => ∃ (i : Nat) (t : ByteArray), i ≤ m + 1 ∧ iv = .int .i64 i ∧ walkPc (ss.take i) ⟨#[]⟩ = some t ∧ Lib.IsBuilder 102 5 w2.heap.size w2.heap.size (Lib.byteCells t.data.toList) wr ∧ Below w2.heap.size w2 wr ∧ w2.heap.size + 1 ≤ wr.heap.size) (fun iv _ => m + 1 - (intOf iv).toNat)
    case atStart => exact ⟨0, ⟨#[]⟩, Nat.zero_le _, rfl, rfl, HB0.out, HZ0.out, hz0⟩
    case round =>
      obtain ⟨i, t, hil, rfl, hwt, hbd, hbw, hsz⟩ := hrel
      have HWT : Hid (walkPc (ss.take i) ⟨#[]⟩ = some t) := hwt
      have HBD : Hid (Lib.IsBuilder 102 5 w2.heap.size w2.heap.size (Lib.byteCells t.data.toList) wr) := hbd
      have HBW : Hid (Below w2.heap.size w2 wr) := hbw
      have hts := HSZ.out i t hwt
      clear hwt hbd hbw HB0 HZ0 hz0
      by_cases hlt : i < m + 1
      · have hls : i < ss.length := by rw [HSL.out]; exact hlt
        have hA := (HAW.out wr HBW.out) i hls
        have hqo := HSD.out ss[i] (List.getElem_mem hls)
        have hwk := walk_take hls HWT.out
        obtain ⟨q, hq⟩ : ∃ q, q = ss[i] := ⟨_, rfl⟩
        rw [← hq] at hA hqo hwk
        have hoff := pcOk_in hqo
        have HWK : Hid _ := hwk
        have c0 : wr.cell? ⟨g, i * 8, none⟩ = some (.string q.src) := by have := hA 0 _ rfl; simpa using this
        have c1 : wr.cell? ⟨g, i * 8 + 1, none⟩ = some (.string q.dst) := by have := hA 1 _ rfl; simpa using this
        have c2 : wr.cell? ⟨g, i * 8 + 2, none⟩ = some (.int .i64 q.proto) := by have := hA 2 _ rfl; simpa using this
        have c3 : wr.cell? ⟨g, i * 8 + 3, none⟩ = some (.int .i64 q.id) := by have := hA 3 _ rfl; simpa using this
        have c4 : wr.cell? ⟨g, i * 8 + 4, none⟩ = some (.int .i64 q.off) := by have := hA 4 _ rfl; simpa using this
        have c5 : wr.cell? ⟨g, i * 8 + 5, none⟩ = some (.bool q.more) := by have := hA 5 _ rfl; simpa using this
        have c6 : wr.cell? ⟨g, i * 8 + 6, none⟩ = some (.string q.data) := by have := hA 6 _ rfl; simpa using this
        have c7 : wr.cell? ⟨g, i * 8 + 7, none⟩ = some (.int .i64 q.since) := by have := hA 7 _ rfl; simpa using this
        clear hq hA hqo hwk
        have HPN : Hid (HoldsL (wr.alloc (.cells (pcL q).toArray 37)) wr.heap.size (pcL q)) := HoldsL.new wr (pcL q) _
        have HBX : Hid (Below wr.heap.size wr (wr.alloc (.cells (pcL q).toArray 37))) := (Below.refl _ _).alloc (Nat.le_refl _) _
        rw [show (pcL q).toArray = #[.string q.src, .string q.dst, .int .i64 q.proto, .int .i64 q.id, .int .i64 q.off, .bool q.more, .string q.data, .int .i64 q.since] from rfl] at HPN HBX
        go_upto_region 9 with fail
        have HBD1 : Hid (Lib.IsBuilder 102 5 w2.heap.size w2.heap.size (Lib.byteCells t.data.toList) (wr.alloc (.cells #[.string q.src, .string q.dst, .int .i64 q.proto, .int .i64 q.id, .int .i64 q.off, .bool q.more, .string q.data, .int .i64 q.since] 37))) := bld_kept HBD.out HBX.out
        have HWB : Hid (Below wr.heap.size wr (wr.alloc (.cells #[.string q.src, .string q.dst, .int .i64 q.proto, .int .i64 q.id, .int .i64 q.off, .bool q.more, .string q.data, .int .i64 q.since] 37))) := HBX.out
        have hbs : wr.heap.size < (wr.alloc (.cells #[.string q.src, .string q.dst, .int .i64 q.proto, .int .i64 q.id, .int .i64 q.off, .bool q.more, .string q.data, .int .i64 q.since] 37)).heap.size := by simp
        generalize wr.alloc (.cells #[.string q.src, .string q.dst, .int .i64 q.proto, .int .i64 q.id, .int .i64 q.off, .bool q.more, .string q.data, .int .i64 q.since] 37) = W1 at *
        have HTS : Hid (((Lib.byteCells t.data.toList).length : Int) = (t.size : Int)) := by
          unfold Hid; rw [Lib.byteCells_length, Array.length_toList]; rfl
        have HLEN : Hid (∀ wy, Below W1.drew.heap.size W1.drew wy → Calls Try.prog 70 #[.pointer (some ⟨w2.heap.size, 0, none⟩)] wy fun e w' => e = .returned (.int .i64 (t.size : Int)) ∧ Below wy.heap.size wy w') := fun wy hy => (Try.Builder_Len w2.heap.size w2.heap.size (Lib.byteCells t.data.toList) wy (bld_kept HBD1.out ((Below.refl _ W1).drew.trans hy))).mono (by rintro e w' ⟨rfl, rfl⟩; exact ⟨by rw [HTS.out], Below.refl _ _⟩)
        have HCB : Hid (∀ wy, Below W1.drew.heap.size W1.drew wy → HoldsL wy wr.heap.size (pcL q)) := fun wy hy => HPN.out.kept (by simp [pcL]) ((Below.refl _ W1).drew.trans hy)
        clear c0 c1 c2 c3 c4 c5 c6 c7
        go_cut [30] (fun v wx => v = .bool (8 * q.off != (t.size : Int)) ∧ Below W1.heap.size W1 wx)
        case first =>
          rename_i J K2 hJ hK2
          refine wp_region_growH [26, 27, 28, 29, 30] (by kernel_rfl) (by kernel_rfl) ?_
          refine GCh.val (n := 0) (fun v => [IsV v]) (fun _ => rfl) rfl ?_
          apply Exists.intro
          refine And.intro ?_ ?_
          · intro K' a wy ho hd hb hK
            rw [if_pos (wanted_none rfl)]
            have o7 := ho 7 (by decide)
            simp [slot] at o7
            clear hd ho
            go_simp
            try go_bits
            exact hK _ _ rfl (Below.refl _ _)
          refine GCh.val (n := 1) (fun v => [_, IsV v]) (fun _ => rfl) rfl ?_
          apply Exists.intro
          refine And.intro ?_ ?_
          · intro K' a wy ho hd hb hK
            rw [if_pos (wanted_none rfl)]
            have q0 := hd ⟨0, .data⟩ (by simp) rfl
            simp [rAt, IsV, slot] at q0
            clear hd ho
            obtain ⟨k0, k1, k2, k3, k4, k5, k6, k7⟩ := cells8 (HCB.out wy hb)
            go_simp
            try go_bits
            exact hK _ _ rfl (Below.refl _ _)
          refine GCh.val (n := 2) (fun v => [_, _, IsV v]) (fun _ => rfl) rfl ?_
          apply Exists.intro
          refine And.intro ?_ ?_
          · intro K' a wy ho hd hb hK
            rw [if_pos (wanted_none rfl)]
            have q1 := hd ⟨1, .data⟩ (by simp) rfl
            simp [rAt, IsV, slot] at q1
            clear hd ho
            go_simp
            try go_bits
            exact hK _ _ rfl (Below.refl _ _)
          refine GCh.val (n := 3) (fun v => [_, _, _, IsV v]) (fun _ => rfl) rfl ?_
          apply Exists.intro
          refine And.intro ?_ ?_
          · intro K' a wy ho hd hb hK
            rw [if_pos (wanted_none rfl)]
            have o5 := ho 5 (by decide)
            simp [slot] at o5
            clear hd ho
            go_simp
            refine (HLEN.out wy hb).mono ?_
            rintro e wz ⟨rfl, hz⟩
            exact hK _ _ rfl hz
          refine GCh.val (n := 4) (fun v => [_, _, _, _, IsV v]) (fun _ => rfl) rfl ?_
          apply Exists.intro
          refine And.intro ?_ ?_
          · intro K' a wy ho hd hb hK
            rw [if_pos (wanted_none rfl)]
            have q2 := hd ⟨2, .data⟩ (by simp) rfl
            simp [rAt, IsV, slot] at q2
            have q3 := hd ⟨3, .data⟩ (by simp) rfl
            simp [rAt, IsV, slot] at q3
            clear hd ho
            go_simp
            try go_bits
            exact hK _ _ rfl (Below.refl _ _)
          intro X wz hR hz
          obtain ⟨x0, x1, x2, x3, x4, -⟩ := hR
          simp only [IsV] at x0 x1 x2 x3 x4
          simp only [putsFrom, x0, x1, x2, x3, x4]
          clear x0 x1 x2 x3 x4
          refine hK2 _ _ (hJ _ _ ?_)
          (repeat apply Exists.intro)
          refine ⟨⟨?_, (Below.refl _ W1).drew.trans hz⟩, rfl⟩
          first | rfl | (rw [HTS.out]; rfl)
        case rest =>
        obtain ⟨rfl, hbc⟩ := hcut
        have HBD2 : Hid (Lib.IsBuilder 102 5 w2.heap.size w2.heap.size (Lib.byteCells t.data.toList) wc) := bld_kept HBD1.out hbc
        have P2 := HPN.out.kept (by simp [pcL]) hbc
        have HBC : Hid (Below w2.heap.size w2 wc) := HBW.out.trans ((HWB.out.trans (hbc.mono HWB.out.size)).mono HBW.out.size)
        have hszc : w2.heap.size + 1 ≤ wc.heap.size := Nat.le_trans hsz (Nat.le_trans HWB.out.size hbc.size)
        clear hbc HBD1 HWB HCB HLEN
        by_cases e8 : 8 * q.off = (t.size : Int)
        · have HT2 : Hid (walkPc (ss.take (i + 1)) ⟨#[]⟩ = some (t ++ q.data)) := HWK.out.1 e8
          have d8 : (8 * q.off != (t.size : Int)) = false := by simp [e8]
          rw [d8]
          obtain ⟨k0, k1, k2, k3, k4, k5, k6, k7⟩ := cells8 P2
          have HWR : Hid _ := write_any w2.heap.size w2.heap.size (Lib.byteCells t.data.toList) q.data wc HBD2.out (by rw [Lib.byteCells_length, Array.length_toList]; have : t.data.size = t.size := rfl; omega) (by omega)
          clear e8 d8 P2
          go_wp2_with fail
          refine Calls.mono HWR.out ?_
          rintro e w6 ⟨rfl, hbd, hb6⟩
          have HBD3 : Hid (Lib.IsBuilder 102 5 w2.heap.size w2.heap.size (Lib.byteCells (t ++ q.data).data.toList) w6) := by
            refine .inr ?_
            rw [ByteArray.data_append, Array.toList_append, Lib.byteCells_append]
            exact hbd
          have HB6 : Hid (Below w2.heap.size w2 w6) := HBC.out.trans hb6
          have hs6 : w2.heap.size + 1 ≤ w6.heap.size := Nat.le_trans hszc hb6.size
          clear hbd hb6 k0 k1 k2 k3 k4 k5 k6 k7 HWR
          go_wp2_with fail
          go_roundw
          case rel => exact ⟨i + 1, t ++ q.data, by omega, by go_num, HT2.out, HBD3.out, HB6.out, hs6⟩
          case measure => simp [intOf]; omega
        · have HT2 : Hid (walkPc ss ⟨#[]⟩ = none) := HWK.out.2 e8
          have d8 : (8 * q.off != (t.size : Int)) = true := by simp [e8]
          rw [d8]
          have HBF : Hid (Below w.heap.size w wc) := B2.out.trans (HBC.out.mono B2.out.size)
          clear e8 d8 P2
          go_wp2_with fail
          go_ret2
          refine ⟨ss, HPM.out, HIR.out, ?_⟩
          rw [HX.out, HT2.out]
          exact ⟨rfl, HBF.out⟩
      · have hie : i = m + 1 := by omega
        have HT2 : Hid (walkPc ss ⟨#[]⟩ = some t) := by
          have := HWT.out
          rw [hie, List.take_of_length_le (by rw [HSL.out]; omega)] at this
          exact this
        have HST : Hid (Calls Try.prog 72 #[.pointer (some ⟨w2.heap.size, 0, none⟩)] wr fun e w' => e = .returned (.string t) ∧ Below w2.heap.size wr w') := (Try.Builder_String_any w2.heap.size w2.heap.size t.data.toList wr HBD.out (by omega)).mono (by rintro e w' ⟨rfl, hb⟩; exact ⟨by simp, hb⟩)
        go_wp2_with fail
        refine Calls.mono HST.out ?_
        rintro e w7 ⟨rfl, b7⟩
        have HBF : Hid (Below w.heap.size w w7) := B2.out.trans ((HBW.out.trans b7).mono B2.out.size)
        clear b7 HST
        go_wp2_with fail
        go_ret2
        refine ⟨ss, HPM.out, HIR.out, ?_⟩
        rw [HX.out, HT2.out]
        exact ⟨rfl, HBF.out⟩
end Go.Proofs.Ytofhcplnnamcdab
