/- MgCp: ICopy, ILeft, in one text. -/
import Derived.Test.YtofhcplnnamcdabShelf
import Derived.Test.YtofhcplnnamcdabIGather
import Derived.Test.YtofhcplnnamcdabGrowV
import Derived.Deep.DeepCutAuto
import Derived.Great.BuildSlice
import Derived.Deep.AppendLies

/- ICopy: what the program's copyPiece answers. -/
namespace Go.Proofs.Ytofhcplnnamcdab
open Go.RowKit Go.PlainAid
set_option linter.unusedVariables false
set_option linter.unusedSimpArgs false

theorem clone_any (s : ByteArray) (w : World) (h : s.size ≤ 1048576) :
    Calls Try.prog 59 #[.string s] w fun e w' => e = .returned (.string s) ∧ Below w.heap.size w w' := by
  have HC : Hid (∀ W, Calls Try.prog 80 #[.string s] W fun e w' => e = .returned (.string s) ∧ Below W.heap.size W w') := fun W => Try.stringslite_Clone s W (by omega)
  go_enter Try.func59, Try.ntmps59
  go_wp2_with fail
  refine (HC.out _).mono ?_
  rintro e w1 ⟨rfl, b1⟩
  go_wp2_with fail
  go_ret
  exact ⟨rfl, b1⟩

theorem set8 {w W : World} {v0 v1 v2 v3 v4 v5 v6 v7 : Value} (h : Below w.heap.size w W) : Below w.heap.size w ((((((((W.setCell ⟨w.heap.size + 1, 0, none⟩ v0).setCell ⟨w.heap.size + 1, 1, none⟩ v1).setCell ⟨w.heap.size + 1, 2, none⟩ v2).setCell ⟨w.heap.size + 1, 3, none⟩ v3).setCell ⟨w.heap.size + 1, 4, none⟩ v4).setCell ⟨w.heap.size + 1, 5, none⟩ v5).setCell ⟨w.heap.size + 1, 6, none⟩ v6).setCell ⟨w.heap.size + 1, 7, none⟩ v7) := by
  have hs : w.heap.size ≤ w.heap.size + 1 := by omega
  exact (((((((h.setCell (p := ⟨w.heap.size + 1, 0, none⟩) hs _).setCell (p := ⟨w.heap.size + 1, 1, none⟩) hs _).setCell (p := ⟨w.heap.size + 1, 2, none⟩) hs _).setCell (p := ⟨w.heap.size + 1, 3, none⟩) hs _).setCell (p := ⟨w.heap.size + 1, 4, none⟩) hs _).setCell (p := ⟨w.heap.size + 1, 5, none⟩) hs _).setCell (p := ⟨w.heap.size + 1, 6, none⟩) hs _).setCell (p := ⟨w.heap.size + 1, 7, none⟩) hs _
def pcZ : List Value := [.string ⟨#[]⟩, .string ⟨#[]⟩, .int .i64 0, .int .i64 0, .int .i64 0, .bool false, .string ⟨#[]⟩, .int .i64 0]
set_option maxRecDepth 100000 in
set_option maxHeartbeats 2000000 in
theorem implCopy_any (p : Pc) (w : World) (hs : PcSm p) :
    Calls Try.prog 43 #[pcC p] w fun e w' => e = .returned (pcC p) ∧ Below w.heap.size w w' := by
  obtain ⟨s1, s2, s3⟩ := hs
  have H1 : Hid (∀ W, Calls Try.prog 59 #[.string p.src] W fun e w' => e = .returned (.string p.src) ∧ Below W.heap.size W w') := fun W => clone_any _ W s1
  have H2 : Hid (∀ W, Calls Try.prog 59 #[.string p.dst] W fun e w' => e = .returned (.string p.dst) ∧ Below W.heap.size W w') := fun W => clone_any _ W s2
  have H3 : Hid (∀ W, Calls Try.prog 59 #[.string p.data] W fun e w' => e = .returned (.string p.data) ∧ Below W.heap.size W w') := fun W => clone_any _ W s3
  have hun : undef = Value.tuple #[] := rfl
  clear s1 s2 s3
  have HP : Hid (HoldsL ((w.alloc (.cells (pcL p).toArray 37)).alloc (.cells pcZ.toArray 37)) w.heap.size (pcL p)) := (HoldsL.new w (pcL p) _).alloc _
  have HO : Hid (HoldsL ((w.alloc (.cells (pcL p).toArray 37)).alloc (.cells pcZ.toArray 37)) (w.heap.size + 1) pcZ) := by
    have h := HoldsL.new (w.alloc (.cells (pcL p).toArray 37)) pcZ 37
    rwa [World.size_alloc] at h
  have HZ : Hid (Below w.heap.size w ((w.alloc (.cells (pcL p).toArray 37)).alloc (.cells pcZ.toArray 37))) := two_pieces w
  rw [show (pcL p).toArray = #[.string p.src, .string p.dst, .int .i64 p.proto, .int .i64 p.id, .int .i64 p.off, .bool p.more, .string p.data, .int .i64 p.since] from rfl, show pcZ.toArray = #[.string ⟨#[]⟩, .string ⟨#[]⟩, .int .i64 0, .int .i64 0, .int .i64 0, .bool false, .string ⟨#[]⟩, .int .i64 0] from rfl] at HP HO HZ
  unfold pcC
  go_enter Try.func43, Try.ntmps43
  go_upto_region 1 with fail
  generalize (w.alloc (.cells #[.string p.src, .string p.dst, .int .i64 p.proto, .int .i64 p.id, .int .i64 p.off, .bool p.more, .string p.data, .int .i64 p.since] 37)).alloc (.cells #[.string ⟨#[]⟩, .string ⟨#[]⟩, .int .i64 0, .int .i64 0, .int .i64 0, .bool false, .string ⟨#[]⟩, .int .i64 0] 37) = W at *
  go_cut [3] (fun v wx => HoldsL wx w.heap.size (pcL p) ∧ HoldsL wx (w.heap.size + 1) pcZ ∧ Below w.heap.size w wx)
  case first =>
    rename_i J K2 hJ hK2
    clear hun
    have HCP : Hid (∀ wy, Below W.drew.heap.size W.drew wy → HoldsL wy w.heap.size (pcL p) ∧ HoldsL wy (w.heap.size + 1) pcZ) := fun wy hy => ⟨HP.out.drew.kept (by simp [pcL]) hy, HO.out.drew.kept (by simp [pcZ]) hy⟩
    refine wp_region_growV [3, 4, 5, 6, 7, 8, 9, 10, 11, 12] (by kernel_rfl) (by kernel_rfl) ?_
    refine GChV.val (n := 0) (fun v => [IsV v]) (fun _ => rfl) rfl ?_
    apply Exists.intro
    refine And.intro ?_ ?_
    · intro K' a wy ho hd hb hK
      rw [if_pos (wanted_none rfl)]
      have o1 := ho 1 (by decide)
      simp [slot] at o1
      clear hd ho
      go_simp
      try go_bits
      exact hK _ _ rfl (Below.refl _ _)
    refine GChV.val (n := 1) (fun v => [_, IsV v]) (fun _ => rfl) rfl ?_
    apply Exists.intro
    refine And.intro ?_ ?_
    · intro K' a wy ho hd hb hK
      rw [if_pos (wanted_none rfl)]
      have q0 := hd ⟨0, .data⟩ (by simp) rfl
      simp [rAt, IsV, slot] at q0
      clear hd ho
      obtain ⟨k0, k1, k2, k3, k4, k5, k6, k7⟩ := cells8 (HCP.out wy hb).1
      go_simp
      try go_bits
      exact hK _ _ rfl (Below.refl _ _)
    refine GChV.val (n := 2) (fun v => [_, _, IsV v]) (fun _ => rfl) rfl ?_
    apply Exists.intro
    refine And.intro ?_ ?_
    · intro K' a wy ho hd hb hK
      rw [if_pos (wanted_none rfl)]
      have q1 := hd ⟨1, .data⟩ (by simp) rfl
      simp [rAt, IsV, slot] at q1
      clear hd ho
      go_simp
      refine (H1.out wy).mono ?_
      rintro e wz ⟨rfl, hz⟩
      exact hK _ _ rfl hz
    refine GChV.val (n := 3) (fun v => [_, _, _, IsV v]) (fun _ => rfl) rfl ?_
    apply Exists.intro
    refine And.intro ?_ ?_
    · intro K' a wy ho hd hb hK
      rw [if_pos (wanted_none rfl)]
      have o1 := ho 1 (by decide)
      simp [slot] at o1
      clear hd ho
      go_simp
      try go_bits
      exact hK _ _ rfl (Below.refl _ _)
    refine GChV.val (n := 4) (fun v => [_, _, _, _, IsV v]) (fun _ => rfl) rfl ?_
    apply Exists.intro
    refine And.intro ?_ ?_
    · intro K' a wy ho hd hb hK
      rw [if_pos (wanted_none rfl)]
      have q3 := hd ⟨3, .data⟩ (by simp) rfl
      simp [rAt, IsV, slot] at q3
      clear hd ho
      obtain ⟨k0, k1, k2, k3, k4, k5, k6, k7⟩ := cells8 (HCP.out wy hb).1
      go_simp
      try go_bits
      exact hK _ _ rfl (Below.refl _ _)
    refine GChV.val (n := 5) (fun v => [_, _, _, _, _, IsV v]) (fun _ => rfl) rfl ?_
    apply Exists.intro
    refine And.intro ?_ ?_
    · intro K' a wy ho hd hb hK
      rw [if_pos (wanted_none rfl)]
      have q4 := hd ⟨4, .data⟩ (by simp) rfl
      simp [rAt, IsV, slot] at q4
      clear hd ho
      go_simp
      refine (H2.out wy).mono ?_
      rintro e wz ⟨rfl, hz⟩
      exact hK _ _ rfl hz
    refine GChV.val (n := 6) (fun v => [_, _, _, _, _, _, IsV v]) (fun _ => rfl) rfl ?_
    apply Exists.intro
    refine And.intro ?_ ?_
    · intro K' a wy ho hd hb hK
      rw [if_pos (wanted_none rfl)]
      have o1 := ho 1 (by decide)
      simp [slot] at o1
      clear hd ho
      go_simp
      try go_bits
      exact hK _ _ rfl (Below.refl _ _)
    refine GChV.val (n := 7) (fun v => [_, _, _, _, _, _, _, IsV v]) (fun _ => rfl) rfl ?_
    apply Exists.intro
    refine And.intro ?_ ?_
    · intro K' a wy ho hd hb hK
      rw [if_pos (wanted_none rfl)]
      have q6 := hd ⟨6, .data⟩ (by simp) rfl
      simp [rAt, IsV, slot] at q6
      clear hd ho
      obtain ⟨k0, k1, k2, k3, k4, k5, k6, k7⟩ := cells8 (HCP.out wy hb).1
      go_simp
      try go_bits
      exact hK _ _ rfl (Below.refl _ _)
    refine GChV.val (n := 8) (fun v => [_, _, _, _, _, _, _, _, IsV v]) (fun _ => rfl) rfl ?_
    apply Exists.intro
    refine And.intro ?_ ?_
    · intro K' a wy ho hd hb hK
      rw [if_pos (wanted_none rfl)]
      have q7 := hd ⟨7, .data⟩ (by simp) rfl
      simp [rAt, IsV, slot] at q7
      clear hd ho
      go_simp
      refine (H3.out wy).mono ?_
      rintro e wz ⟨rfl, hz⟩
      exact hK _ _ rfl hz
    refine GChV.val (n := 9) (fun v => [_, _, _, _, _, _, _, _, _, IsV v]) (fun _ => rfl) rfl ?_
    apply Exists.intro
    refine And.intro ?_ ?_
    · intro K' a wy ho hd hb hK
      rw [if_pos (wanted_none rfl)]
      have o1 := ho 1 (by decide)
      simp [slot] at o1
      clear hd ho
      go_simp
      try go_bits
      exact hK _ _ rfl (Below.refl _ _)
    intro X wz hR hz
    obtain ⟨x0, x1, x2, x3, x4, x5, x6, x7, x8, x9, -⟩ := hR
    simp only [IsV] at x0 x1 x2 x3 x4 x5 x6 x7 x8 x9
    simp only [putsFrom, x0, x1, x2, x3, x4, x5, x6, x7, x8, x9]
    clear x0 x1 x2 x3 x4 x5 x6 x7 x8 x9
    obtain ⟨hh, hz0⟩ := HCP.out wz hz
    have HB : Hid (Below w.heap.size w wz) := HZ.out.drew.trans (hz.mono HZ.out.size)
    have f0 : wz.frozen? ⟨w.heap.size, 0, none⟩ = false := hh.free (j := 0) (by simp [pcL])
    have f1 : wz.frozen? ⟨w.heap.size, 1, none⟩ = false := hh.free (j := 1) (by simp [pcL])
    have f6 : wz.frozen? ⟨w.heap.size, 6, none⟩ = false := hh.free (j := 6) (by simp [pcL])
    obtain ⟨k0, k1, k2, k3, k4, k5, k6, k7⟩ := cells8 hh
    have HH : Hid (HoldsL wz w.heap.size (pcL p)) := hh
    have HH0 : Hid (HoldsL wz (w.heap.size + 1) pcZ) := hz0
    clear hh hz0
    intro K10 hK10
    go_simp
    refine hK10 _ _ ?_
    intro K11 hK11
    go_simp
    refine hK11 _ _ ?_
    intro K12 hK12
    go_simp
    refine hK12 _ _ ?_
    intro K13 hK13
    go_simp
    refine hK13 _ _ ?_
    intro K14 hK14
    go_simp
    refine hK14 _ _ ?_
    show Exit.then _ _ _ _ _
    refine hK2 _ _ (hJ _ _ ?_)
    (repeat apply Exists.intro)
    refine ⟨⟨((HH.out.set 0 _).set 1 _).set 6 _, ((HH0.out.setOther (by omega) _).setOther (by omega) _).setOther (by omega) _, ?_⟩, rfl⟩
    exact ((HB.out.setCell (p := ⟨w.heap.size, 0, none⟩) (Nat.le_refl _) _).setCell (p := ⟨w.heap.size, 1, none⟩) (Nat.le_refl _) _).setCell (p := ⟨w.heap.size, 6, none⟩) (Nat.le_refl _) _
  case rest =>
    obtain ⟨hh, h0, hb⟩ := hcut
    obtain ⟨k0, k1, k2, k3, k4, k5, k6, k7⟩ := cells8 hh
    have HB : Hid (Below w.heap.size w wc) := hb
    have y0 : wc.frozen? ⟨w.heap.size + 1, 0, none⟩ = false := h0.free (j := 0) (by simp [pcZ])
    have y1 : wc.frozen? ⟨w.heap.size + 1, 1, none⟩ = false := h0.free (j := 1) (by simp [pcZ])
    have y2 : wc.frozen? ⟨w.heap.size + 1, 2, none⟩ = false := h0.free (j := 2) (by simp [pcZ])
    have y3 : wc.frozen? ⟨w.heap.size + 1, 3, none⟩ = false := h0.free (j := 3) (by simp [pcZ])
    have y4 : wc.frozen? ⟨w.heap.size + 1, 4, none⟩ = false := h0.free (j := 4) (by simp [pcZ])
    have y5 : wc.frozen? ⟨w.heap.size + 1, 5, none⟩ = false := h0.free (j := 5) (by simp [pcZ])
    have y6 : wc.frozen? ⟨w.heap.size + 1, 6, none⟩ = false := h0.free (j := 6) (by simp [pcZ])
    have y7 : wc.frozen? ⟨w.heap.size + 1, 7, none⟩ = false := h0.free (j := 7) (by simp [pcZ])
    have z0 : wc.cell? ⟨w.heap.size + 1, 0, none⟩ = some (.string ⟨#[]⟩) := h0.cell rfl
    have z1 : wc.cell? ⟨w.heap.size + 1, 1, none⟩ = some (.string ⟨#[]⟩) := h0.cell rfl
    have z2 : wc.cell? ⟨w.heap.size + 1, 2, none⟩ = some (.int .i64 0) := h0.cell rfl
    have z3 : wc.cell? ⟨w.heap.size + 1, 3, none⟩ = some (.int .i64 0) := h0.cell rfl
    have z4 : wc.cell? ⟨w.heap.size + 1, 4, none⟩ = some (.int .i64 0) := h0.cell rfl
    have z5 : wc.cell? ⟨w.heap.size + 1, 5, none⟩ = some (.bool false) := h0.cell rfl
    have z6 : wc.cell? ⟨w.heap.size + 1, 6, none⟩ = some (.string ⟨#[]⟩) := h0.cell rfl
    have z7 : wc.cell? ⟨w.heap.size + 1, 7, none⟩ = some (.int .i64 0) := h0.cell rfl
    clear hh h0 hb
    go_wp2_with fail
    refine bodyPost_ret (v := .agg #[.string p.src, .string p.dst, .int .i64 p.proto, .int .i64 p.id, .int .i64 p.off, .bool p.more, .string p.data, .int .i64 p.since]) (by simp [results, Try.results43, go_sem, z0, z1, z2, z3, z4, z5, z6, z7]) rfl ⟨rfl, ?_⟩
    exact set8 HB.out
end Go.Proofs.Ytofhcplnnamcdab

/- ILeft: what the program's left and since answer. -/
namespace Go.Proofs.Ytofhcplnnamcdab
open Go.RowKit Go.PlainAid
set_option linter.unusedVariables false
set_option linter.unusedSimpArgs false

def sinceL (ys : List Pc) (now : Int) : Int := match ys with | [] => now | q :: _ => q.since
theorem since_grp (xs : List Pc) (p : Pc) (now : Int) : sinceL (grpPc xs p) now = sincePc xs p now := by
  unfold sinceL sincePc grpPc
  rw [← List.head?_filter]
  cases xs.filter (fun q => onePk q p) <;> rfl
set_option maxRecDepth 100000 in
set_option maxHeartbeats 1000000 in
theorem implSince_any (ys : List Pc) (a : Option Addr) (cap : Nat) (now : Int) (w : World) (hl : ys.length ≤ 1048576) (hr : SlIs pcL 8 w a ys) :
    Calls Try.prog 39 #[.agg #[.slice a ys.length cap], .int .i64 now] w fun e w' => e = .returned (.int .i64 (sinceL ys now)) ∧ Below w.heap.size w w' := by
  have HZ : Hid (Below w.heap.size w (w.alloc (.cells #[.slice a ys.length cap] 71))) := (Below.refl _ _).alloc (Nat.le_refl _) _
  have HR : Hid (SlIs pcL 8 w a ys) := hr
  clear hr
  cases ys with
  | nil =>
    have d0 : (((([] : List Pc).length : Nat) : Int) == 0) = true := rfl
    go_enter Try.func39, Try.ntmps39
    go_wp2_with fail
    go_ret
    exact ⟨rfl, HZ.out⟩
  | cons q r =>
    obtain ⟨b, off, rfl, hb, hat⟩ := HR.out.at (k := 0) (by simp)
    have c7 : w.cell? ⟨b, off + 7, none⟩ = some (.int .i64 q.since) := by
      have := hat 0 (by simp) 7 _ rfl
      simpa using this
    have hn : 1 ≤ (q :: r).length := by simp
    have HV : Hid (sinceL (q :: r) now = q.since) := rfl
    clear hat
    generalize sinceL (q :: r) now = ans at *
    generalize (q :: r).length = n at *
    have d0 : ((n : Int) == 0) = false := by simp; omega
    go_enter Try.func39, Try.ntmps39
    go_wp2_with fail
    go_ret
    exact ⟨ret_int HV.out.symm, HZ.out⟩

/-- A row of its own is told. -/
def RowRet (w : World) (ys : List Pc) : Ending → World → Prop := fun e w' => ∃ v, e = .returned v ∧ Row pcL 8 w.heap.size 37 v ys w w'
set_option maxRecDepth 100000 in
set_option maxHeartbeats 2000000 in
theorem implLeft_any (xs : List Pc) (a : Option Addr) (cap b : Nat) (M : Value → Option Value) (D : Pc → Bool) (w : World) (hin : PcsIn xs) (hr : SlIs pcL 8 w a xs) (hm : MapAt Try.prog 68 w b M) (hk : ∀ x ∈ xs, KeyIn x) (hD : ∀ x ∈ xs, (M (keyC x)).isSome = D x) (hsh : ∀ x ∈ xs, ∀ v, M (keyC x) = some v → ∃ a n c, v = .agg #[.slice a n c]) :
    Calls Try.prog 41 #[.map (some b), .slice a xs.length cap] w (RowRet w (xs.filter D)) := by
  have hlen := hin.1
  have HIN : Hid (PcsIn xs) := hin
  have HR : Hid (SlIs pcL 8 w a xs) := hr
  have HM : Hid (MapAt Try.prog 68 w b M) := hm
  have HKY : Hid (∀ x ∈ xs, KeyIn x) := hk
  have HDD : Hid (∀ x ∈ xs, (M (keyC x)).isSome = D x) := hD
  have HSH : Hid (∀ x ∈ xs, ∃ a n c, (M (keyC x)).getD (.agg #[.slice none 0 0]) = .agg #[.slice a n c]) := fun x hxm => by
    cases hx : M (keyC x) with
    | none => exact ⟨none, 0, 0, rfl⟩
    | some v =>
      obtain ⟨a, n, c, rfl⟩ := hsh x hxm v hx
      exact ⟨a, n, c, rfl⟩
  obtain ⟨i0, hi, hz0, hz1, hz2⟩ := info_parts Try.infoPt
  clear hin hr hm hk hD hsh
  have H1 : Hid (Row pcL 8 w.heap.size 37 (.slice none 0 0) [] w w) := ⟨World.ownsRow_nil _ _ _ _, Below.refl _ _⟩
  go_enter Try.func41, Try.ntmps41
  go_wp2_with fail
  go_loopw [5, 12] (fun v iv wr => ∃ i : Nat, i ≤ xs.length ∧ iv = .int .i64 i ∧ Row pcL 8 w.heap.size 37 v ((xs.take i).filter D) w wr) (fun _ iv _ => xs.length - (intOf iv).toNat)
  case atStart => exact ⟨0, Nat.zero_le _, rfl, by simpa using H1.out⟩
  case round =>
    obtain ⟨i, hil, rfl, hrow⟩ := hrel
    have HW : Hid (Row pcL 8 w.heap.size 37 u5 ((xs.take i).filter D) w wr) := hrow
    have hsz : w.heap.size ≤ wr.heap.size := hrow.bel.size
    clear hrow H1
    by_cases hlt : i < xs.length
    · obtain ⟨b0, off, rfl, hb, hat⟩ := HR.out.at hlt
      have hA := (hat.below hb HW.out.bel) i hlt
      have hft := filter_take D xs i hlt
      have hfl := filter_le D xs i
      have HCP : Hid (∀ W, Calls Try.prog 43 #[pcC xs[i]] W fun e w' => e = .returned (pcC xs[i]) ∧ Below W.heap.size W w') := fun W => implCopy_any xs[i] W (HIN.out.2 _ (List.getElem_mem hlt))
      have HKO : Hid (∀ W, Calls Try.prog 38 #[pcC xs[i]] W fun e w' => e = .returned (keyC xs[i]) ∧ Below W.heap.size W w') := fun W => implKey_any xs[i] W
      have HKI := HKY.out xs[i] (List.getElem_mem hlt)
      have HDI := HDD.out xs[i] (List.getElem_mem hlt)
      have HSI := HSH.out xs[i] (List.getElem_mem hlt)
      obtain ⟨q, hq⟩ : ∃ q, q = xs[i] := ⟨_, rfl⟩
      rw [← hq] at hA hft HCP HKO HKI HDI HSI
      have HFT : Hid _ := hft
      obtain ⟨sa, sn, sc, hsl⟩ := HSI
      have HLK : Hid (∀ W, Below w.heap.size w W → Sem.run Try.prog (Instr.lookup 63 (.map (some b)) (keyC q) true) W = .ok (.tuple #[.agg #[.slice sa sn sc], .bool (D q)]) W) := fun W hW => by
        obtain ⟨l, hl⟩ := keyOf_pk q HKI
        have h2 := ((HM.out.below hW).look (t := 63) keyed_pk Try.underlying63 hl (zero_pps W)).2
        rw [hsl, HDI] at h2
        exact h2
      have c0 : wr.cell? ⟨b0, off + i * 8, none⟩ = some (.string q.src) := hA 0 _ rfl
      have c1 : wr.cell? ⟨b0, off + i * 8 + 1, none⟩ = some (.string q.dst) := hA 1 _ rfl
      have c2 : wr.cell? ⟨b0, off + i * 8 + 2, none⟩ = some (.int .i64 q.proto) := hA 2 _ rfl
      have c3 : wr.cell? ⟨b0, off + i * 8 + 3, none⟩ = some (.int .i64 q.id) := hA 3 _ rfl
      have c4 : wr.cell? ⟨b0, off + i * 8 + 4, none⟩ = some (.int .i64 q.off) := hA 4 _ rfl
      have c5 : wr.cell? ⟨b0, off + i * 8 + 5, none⟩ = some (.bool q.more) := hA 5 _ rfl
      have c6 : wr.cell? ⟨b0, off + i * 8 + 6, none⟩ = some (.string q.data) := hA 6 _ rfl
      have c7 : wr.cell? ⟨b0, off + i * 8 + 7, none⟩ = some (.int .i64 q.since) := hA 7 _ rfl
      clear hq hA hat hft HKI HDI hsl
      have HPN : Hid (HoldsL (wr.alloc (.cells (pcL q).toArray 37)) wr.heap.size (pcL q)) := HoldsL.new wr (pcL q) _
      have HBX : Hid (Below wr.heap.size wr (wr.alloc (.cells (pcL q).toArray 37))) := (Below.refl _ _).alloc (Nat.le_refl _) _
      rw [show (pcL q).toArray = #[.string q.src, .string q.dst, .int .i64 q.proto, .int .i64 q.id, .int .i64 q.off, .bool q.more, .string q.data, .int .i64 q.since] from rfl] at HPN HBX
      unfold pcC at HCP HKO
      generalize D q = dq at *
      go_wp2_with fail
      refine (HKO.out _).mono ?_
      rintro e w1 ⟨rfl, b1⟩
      have B1 : Below wr.heap.size wr w1 := HBX.out.trans (b1.mono (by simp))
      have P1 := HPN.out.kept (by simp [pcL]) b1
      have hlk := HLK.out w1 (HW.out.bel.trans (B1.mono hsz))
      unfold keyC at hlk ⊢
      have HW1 : Hid (Row pcL 8 w.heap.size 37 u5 ((xs.take i).filter D) w w1) := HW.out.kept B1 hsz
      have HP1 : Hid (HoldsL w1 wr.heap.size (pcL q)) := P1
      have hs1 : w.heap.size ≤ w1.heap.size := HW1.out.bel.size
      have hlt1 : wr.heap.size < w1.heap.size := P1.lt (by simp [pcL])
      clear b1 c0 c1 c2 c3 c4 c5 c6 c7 B1 P1 HLK HKO HBX HPN
      cases dq with
      | false =>
        have HF2 : Hid ((xs.take (i + 1)).filter D = (xs.take i).filter D) := by unfold Hid; rw [HFT.out, if_neg (by simp)]
        have HW2 : Hid (Row pcL 8 w.heap.size 37 u5 ((xs.take (i + 1)).filter D) w (w1.alloc (.cells #[.slice sa sn sc] 71))) := by
          unfold Hid; rw [HF2.out]; exact HW1.out.kept ((Below.refl _ _).alloc (Nat.le_refl _) _) hs1
        clear HF2 HW1 HFT
        go_wp2_with (at_lookup; refine wpList_lookup_run rfl _ _ _ _ rfl rfl rfl hlk ?_)
        go_roundw
        case rel => exact ⟨i + 1, by omega, by go_num, HW2.out⟩
        case measure => simp [intOf]; omega
      | true =>
        have HF2 : Hid ((xs.take (i + 1)).filter D = (xs.take i).filter D ++ [q]) := by unfold Hid; rw [HFT.out, if_pos rfl]
        have HW2 : Hid (Row pcL 8 w.heap.size 37 u5 ((xs.take i).filter D) w (w1.alloc (.cells #[.slice sa sn sc] 71))) := HW1.out.kept ((Below.refl _ _).alloc (Nat.le_refl _) _) hs1
        obtain ⟨k0, k1, k2, k3, k4, k5, k6, k7⟩ := cells8 HP1.out
        generalize (xs.take i).filter D = zs at *
        clear HFT
        go_wp2_with (at_lookup; refine wpList_lookup_run rfl _ _ _ _ rfl rfl rfl hlk ?_)
        refine (HCP.out _).mono ?_
        rintro e w3 ⟨rfl, b3⟩
        have HW3 : Hid (Row pcL 8 w.heap.size 37 u5 zs w w3) := HW2.out.kept b3 (by simp; omega)
        have hown := HW3.out.own
        have hsz3 : w.heap.size ≤ w3.heap.size := HW3.out.bel.size
        clear b3 k0 k1 k2 k3 k4 k5 k6 k7
        go_wp2_with (at_builtin; refine wpList_append_own _ rfl (.tmp 24) (.tmp 27) 30 rfl w.heap.size 37 i0 (.agg #[.string ⟨#[]⟩, .string ⟨#[]⟩, .int .i64 0, .int .i64 0, .int .i64 0, .bool false, .string ⟨#[]⟩, .int .i64 0]) 8 88 Try.underlying30 hi hz0 hz1 hz2 rfl (by decide) _ _ _ rfl (hown.alloc _) ⟨w3.heap.size, 0, none⟩ 1 1 (pcL q) rfl rfl (news8 w3 q _) (pcL_one q) (by unfold maxLen; omega) (by omega) (by simp; omega) ?_)
        intro v' w12 hown2 hgrow hnil
        have R : Hid (Row pcL 8 w.heap.size 37 v' (zs ++ [q]) w w12) := HW3.out.append hsz3 hown2 hgrow
        clear hown2 hgrow hnil hown
        go_wp2_with fail
        go_roundw
        case rel => exact ⟨i + 1, by omega, by go_num, by rw [HF2.out]; exact R.out⟩
        case measure => simp [intOf]; omega
    · have hie : i = xs.length := by omega
      have HE : Hid (Row pcL 8 w.heap.size 37 u5 (xs.filter D) w wr) := by
        have h := HW.out
        rw [hie, List.take_of_length_le (Nat.le_refl _)] at h
        exact h
      go_wp2_with fail
      go_ret
      exact ⟨_, rfl, HE.out⟩
end Go.Proofs.Ytofhcplnnamcdab
