/- SAdd: what the specification's PieceAdd answers (AddRet: addPc). -/
import Derived.Test.YtofhcplnnamcdabSAddA
import Derived.Deep.DeepCutAuto
namespace Go.Proofs.Ytofhcplnnamcdab
open Go.RowKit Go.PlainAid
set_option linter.unusedVariables false
set_option linter.unusedSimpArgs false

def AddRet (w : World) (o : PcOut) : Ending → World → Prop := fun e w' => ∃ a cap, e = .returned (.agg #[.slice a o.pieces.length cap, .string o.data, .bool o.done, .int .i64 o.code]) ∧ o.pieces.length ≤ cap ∧ SlOwn pcL 8 w.heap.size w' a o.pieces ∧ Below w.heap.size w w'
def outZ : List Value := [.slice none 0 0, .string ⟨#[]⟩, .bool false, .int .i64 0]
/-- The piece's box, the answer's box. -/
structure AddSt (w : World) (q : Pc) (wr : World) : Prop where
  p : HoldsL wr w.heap.size (pcL q)
  r : HoldsL wr (w.heap.size + 1) outZ
  bel : Below w.heap.size w wr
section
variable {w wr wy : World} {q : Pc}
theorem AddSt.kept (h : AddSt w q wr) (hb : Below wr.heap.size wr wy) : AddSt w q wy := ⟨h.p.kept (by simp [pcL]) hb, h.r.kept (by simp [outZ]) hb, h.bel.trans (hb.mono h.bel.size)⟩
theorem AddSt.set (h : AddSt w q wr) (s : Int) : AddSt w (withS q s) (wr.setCell ⟨w.heap.size, 7, none⟩ (.int .i64 s)) := ⟨h.p.set 7 _, h.r.setOther (by omega) _, h.bel.setCell (Nat.le_refl _) _⟩
theorem AddSt.lt (h : AddSt w q wr) : w.heap.size + 1 < wr.heap.size := h.r.lt (by simp [outZ])
theorem AddSt.new (w : World) (q : Pc) {t1 t2 : TypeId} : AddSt w q ((w.alloc (.cells (pcL q).toArray t1)).alloc (.cells outZ.toArray t2)) := by
  refine ⟨(HoldsL.new w (pcL q) t1).alloc _, ?_, ((Below.refl _ _).alloc (Nat.le_refl _) _).alloc (by simp) _⟩
  have h := HoldsL.new (w.alloc (.cells (pcL q).toArray t1)) outZ t2
  rwa [World.size_alloc] at h
/-- The answer is stored. -/
theorem AddSt.store (h : AddSt w q wr) {base : Nat} {a : Option Addr} {o : PcOut} (hb : w.heap.size + 2 ≤ base) (hs : SlOwn pcL 8 base wr a o.pieces) (v0 v1 v2 v3 : Value) :
    SlOwn pcL 8 w.heap.size ((((wr.setCell ⟨w.heap.size + 1, 0, none⟩ v0).setCell ⟨w.heap.size + 1, 1, none⟩ v1).setCell ⟨w.heap.size + 1, 2, none⟩ v2).setCell ⟨w.heap.size + 1, 3, none⟩ v3) a o.pieces ∧ Below w.heap.size w ((((wr.setCell ⟨w.heap.size + 1, 0, none⟩ v0).setCell ⟨w.heap.size + 1, 1, none⟩ v1).setCell ⟨w.heap.size + 1, 2, none⟩ v2).setCell ⟨w.heap.size + 1, 3, none⟩ v3) :=
  ⟨(hs.grown (grown_set (grown_set (grown_set (grown_set (World.grownBy.refl _ _) v0) v1) v2) v3) (by omega)).down (by omega), (((h.bel.setCell (show w.heap.size ≤ w.heap.size + 1 by omega) v0).setCell (show w.heap.size ≤ w.heap.size + 1 by omega) v1).setCell (show w.heap.size ≤ w.heap.size + 1 by omega) v2).setCell (show w.heap.size ≤ w.heap.size + 1 by omega) v3⟩
end

theorem row_last {wr wz w5 : World} {e : TypeId} {v v5 : Value} {xs : List Pc} {q : Pc} (hz : Below wr.drew.heap.size wr.drew wz) (h : wz.ownsRow wr.drew.heap.size e 8 v xs.length (flatS pcL xs)) (h2 : w5.ownsRow wr.drew.heap.size e 8 v5 (xs.length + 1) (flatS pcL xs ++ pcL q)) (h3 : wz.grownBy w5 v.ownBlock) : Row pcL 8 wr.heap.size e v5 (xs ++ [q]) wr w5 := by
  have hlo : ∀ k, v.ownBlock = some k → wr.heap.size ≤ k := fun k hk => (h.lt k hk).1
  have hz2 : Below wr.heap.size wr wz := (Below.refl _ wr).drew.trans hz
  refine ⟨by rw [flatS_snoc]; simpa using h2, ⟨h3.os.trans hz2.os, h3.tape.trans hz2.tape, h3.output.trans hz2.output, Nat.le_trans hz2.size h3.size, fun k hk => ?_⟩⟩
  rw [h3.block k (Nat.lt_of_lt_of_le hk hz2.size) (fun e2 => by have := hlo k e2.symm; omega), hz2.block k hk]

set_option maxRecDepth 100000 in
set_option maxHeartbeats 2000000 in
theorem specPieceAdd_any (xs : List Pc) (p : Pc) (now : Int) (b off cap : Nat) (w : World) (hin : PcsIn xs) (hp : PcSm p) (hb : b < w.heap.size) (hr : SlAt pcL 8 w b off xs) :
    Calls Try.prog 13 #[.slice (some ⟨b, off, none⟩) xs.length cap, pcC p, .int .i64 now] w (AddRet w (addPc xs p now)) := by
  have hlen := hin.1
  have HAT : Hid (SlAt pcL 8 w b off xs) := hr
  have HIN : Hid (PcsIn xs) := hin
  have HSM : Hid (PcSm p) := hp
  have H0 : Hid (AddSt w p ((w.alloc (.cells (pcL p).toArray 37)).alloc (.cells outZ.toArray 34))) := AddSt.new w p
  have hun : undef = Value.tuple #[] := rfl
  rw [show (pcL p).toArray = #[.string p.src, .string p.dst, .int .i64 p.proto, .int .i64 p.id, .int .i64 p.off, .bool p.more, .string p.data, .int .i64 p.since] from rfl, show outZ.toArray = #[.slice none 0 0, .string ⟨#[]⟩, .bool false, .int .i64 0] from rfl] at H0
  clear hin hp hr
  unfold pcC
  by_cases h4 : 400 < xs.length
  · have HX : Hid (addPc xs p now = ⟨[], ⟨#[]⟩, false, 2⟩) := by unfold Hid addPc; rw [if_pos h4]
    rw [HX.out]
    clear HX
    go_enter Try.func13, Try.ntmps13
    go_wp2_with fail
    refine bodyPost_ret (v := .agg #[.slice none 0 0, .string ⟨#[]⟩, .bool false, .int .i64 2]) (by simp [results, Try.results13, go_sem]) rfl ⟨none, 0, rfl, Nat.le_refl _, .inl rfl, ?_⟩
    exact ((Below.refl _ _).alloc (Nat.le_refl _) _).alloc (by simp) _
  · have HD : Hid (addPc xs p now = if addIn xs p now = false then ⟨[], ⟨#[]⟩, false, 1⟩ else addV xs (withS p (sincePc xs p now))) := by unfold Hid addPc; rw [if_neg h4]
    have HA1 : Hid (∀ W, Below w.heap.size w W → Calls Try.prog 15 #[.slice (some ⟨b, off, none⟩) xs.length cap] W fun e w' => e = .returned (.bool (piecesOk xs)) ∧ Below W.heap.size W w') := fun W hW => specPiecesRight_any xs _ cap W HIN.out (.inr ⟨b, off, rfl, Nat.lt_of_lt_of_le hb hW.size, HAT.out.below hb hW⟩)
    have HA2 : Hid (∀ W, Calls Try.prog 46 #[pcC p] W fun e w' => e = .returned (.bool (pieceOk p)) ∧ Below W.heap.size W w') := fun W => specPieceRight_any p W HSM.out.1 HSM.out.2.1 HSM.out.2.2
    have HA3 : Hid (∀ W, Calls Try.prog 47 #[.int .i64 now] W fun e w' => e = .returned (.bool (isTime now)) ∧ w' = W) := fun W => spTime_any now W
    have HAI : Hid (addIn xs p now = (piecesOk xs && pieceOk p && isTime now)) := rfl
    have HR1 : Hid (piecesOk xs = true → allPc xs = true ∧ xs.length ≤ 40) := fun h => by
      unfold piecesOk at h; rw [Bool.and_eq_true, decide_eq_true_iff] at h; exact ⟨h.2, h.1⟩
    have HR2 : Hid (pieceOk p = true) → Hid (pieceOk p = true) := fun h => h
    generalize hans : addPc xs p now = ans
    have HD2 : Hid (ans = if addIn xs p now = false then ⟨[], ⟨#[]⟩, false, 1⟩ else addV xs (withS p (sincePc xs p now))) := by unfold Hid; rw [← hans]; exact HD.out
    clear hans HD
    generalize hav : addV xs (withS p (sincePc xs p now)) = av
    have HAV : Hid (addV xs (withS p (sincePc xs p now)) = av) := hav
    rw [hav] at HD2
    clear hav
    generalize addIn xs p now = ai at *
    generalize hpk : pieceOk p = pk at *
    have HPK : Hid (pieceOk p = pk) := hpk
    clear hpk HR2
    generalize piecesOk xs = xk at *
    generalize isTime now = tk at *
    unfold pcC at HA2
    go_enter Try.func13, Try.ntmps13
    go_upto_region 3 with fail
    have hW1 := H0.out.lt
    generalize (w.alloc (.cells #[.string p.src, .string p.dst, .int .i64 p.proto, .int .i64 p.id, .int .i64 p.off, .bool p.more, .string p.data, .int .i64 p.since] 37)).alloc (.cells #[.slice none 0 0, .string ⟨#[]⟩, .bool false, .int .i64 0] 34) = W0 at *
    go_cut [27] (fun v wx => v = .bool (!ai) ∧ Below W0.heap.size W0 wx)
    case first =>
      rename_i J K2 hJ hK2
      rw [HAI.out] at hJ
      clear HAI HD2 HAV HR1
      go_wp2_with fail
      refine (HA1.out _ H0.out.bel).mono ?_
      rintro e w1 ⟨rfl, q1⟩
      cases xk with
      | false =>
        have Q1 : Hid (Below W0.heap.size W0 w1) := q1
        clear q1
        go_wp2_with fail
        go_meet
        exact ⟨rfl, Q1.out⟩
      | true =>
      have S1 : Hid (AddSt w p w1) := H0.out.kept q1
      have Q1 : Hid (Below W0.heap.size W0 w1) := q1
      clear q1
      have k0 : w1.cell? ⟨w.heap.size, 0, none⟩ = some (.string p.src) := S1.out.p.cell rfl
      have k1 : w1.cell? ⟨w.heap.size, 1, none⟩ = some (.string p.dst) := S1.out.p.cell rfl
      have k2 : w1.cell? ⟨w.heap.size, 2, none⟩ = some (.int .i64 p.proto) := S1.out.p.cell rfl
      have k3 : w1.cell? ⟨w.heap.size, 3, none⟩ = some (.int .i64 p.id) := S1.out.p.cell rfl
      have k4 : w1.cell? ⟨w.heap.size, 4, none⟩ = some (.int .i64 p.off) := S1.out.p.cell rfl
      have k5 : w1.cell? ⟨w.heap.size, 5, none⟩ = some (.bool p.more) := S1.out.p.cell rfl
      have k6 : w1.cell? ⟨w.heap.size, 6, none⟩ = some (.string p.data) := S1.out.p.cell rfl
      have k7 : w1.cell? ⟨w.heap.size, 7, none⟩ = some (.int .i64 p.since) := S1.out.p.cell rfl
      go_wp2_with fail
      refine (HA2.out _).mono ?_
      rintro e w2 ⟨rfl, q2⟩
      have Q2 : Hid (Below W0.heap.size W0 w2) := Q1.out.trans (q2.mono Q1.out.size)
      clear q2 k0 k1 k2 k3 k4 k5 k6 k7
      cases pk with
      | false =>
        go_wp2_with fail
        go_meet
        exact ⟨rfl, Q2.out⟩
      | true =>
      go_wp2_with fail
      refine (HA3.out _).mono ?_
      rintro e w3 ⟨rfl, rfl⟩
      go_wp2_with fail
      go_meet
      exact ⟨rfl, Q2.out⟩
    case rest =>
    obtain ⟨rfl, hbc⟩ := hcut
    have S1 : Hid (AddSt w p wc) := H0.out.kept hbc
    clear hbc H0
    generalize wc = W1 at *
    cases ai with
    | false =>
      have HX : Hid (ans = ⟨[], ⟨#[]⟩, false, 1⟩) := HD2.out
      have z0 : W1.cell? ⟨w.heap.size + 1, 0, none⟩ = some (.slice none 0 0) := S1.out.r.cell rfl
      have zf0 := S1.out.r.free (j := 0) (by simp [outZ])
      have z1 : W1.cell? ⟨w.heap.size + 1, 1, none⟩ = some (.string ⟨#[]⟩) := S1.out.r.cell rfl
      have zf1 := S1.out.r.free (j := 1) (by simp [outZ])
      have z2 : W1.cell? ⟨w.heap.size + 1, 2, none⟩ = some (.bool false) := S1.out.r.cell rfl
      have zf2 := S1.out.r.free (j := 2) (by simp [outZ])
      have z3 : W1.cell? ⟨w.heap.size + 1, 3, none⟩ = some (.int .i64 0) := S1.out.r.cell rfl
      have zf3 := S1.out.r.free (j := 3) (by simp [outZ])
      go_wp2_with fail
      refine bodyPost_ret (v := .agg #[.slice none 0 0, .string ⟨#[]⟩, .bool false, .int .i64 1]) (by simp [results, Try.results13, go_sem, z0, z1, z2, z3]) rfl ?_
      rw [HX.out]
      have hst := S1.out.store (base := w.heap.size + 2) (a := none) (o := ⟨[], ⟨#[]⟩, false, 1⟩) (Nat.le_refl _) (.inl rfl) (.slice none 0 0) (.string ⟨#[]⟩) (.bool false) (.int .i64 1)
      exact ⟨none, 0, rfl, Nat.le_refl _, .inl rfl, hst.2⟩
    | true =>
      have hxp : xk = true ∧ pk = true := by
        have h := HAI.out
        cases xk with
        | false => simp at h
        | true => cases pk with
          | false => simp at h
          | true => exact ⟨rfl, rfl⟩
      have HIX : Hid (∀ i (h : i < xs.length), pieceOk xs[i] = true) := fun i hi => allN_ok (HR1.out hxp.1).1 i hi hi
      have hx40 : xs.length ≤ 40 := (HR1.out hxp.1).2
      replace HPK : Hid (pieceOk p = true) := HPK.out.trans hxp.2
      clear hxp HR1 HA1 HA2 HA3 HAI
      replace HD2 : Hid (ans = av) := HD2.out
      have yy : W1.frozen? ⟨w.heap.size, 7, none⟩ = false := S1.out.p.free (j := 7) (by simp [pcL])
      have yc : W1.cell? ⟨w.heap.size, 7, none⟩ = some (.int .i64 p.since) := S1.out.p.cell rfl
      have S2 : Hid (AddSt w (withS p now) (W1.setCell ⟨w.heap.size, 7, none⟩ (.int .i64 now))) := S1.out.set now
      clear S1
      go_wp2_with fail
      clear yy yc
      generalize W1.setCell ⟨w.heap.size, 7, none⟩ (.int .i64 now) = W2 at *
      go_loopw [7] (fun iv wr => ∃ (k : Nat) (s : Int), k ≤ xs.length ∧ iv = .int .i64 ((k : Int) - 1) ∧ s = sincePc (xs.drop k) p now ∧ AddSt w (withS p s) wr) (fun iv _ => (intOf iv + 1).toNat)
      case atStart => exact ⟨xs.length, now, Nat.le_refl _, rfl, by rw [List.drop_of_length_le (Nat.le_refl _)]; rfl, S2.out⟩
      case round =>
        obtain ⟨k, s, hk, rfl, hs, hst⟩ := hrel
        have HS : Hid (s = sincePc (xs.drop k) p now) := hs
        have S3 : Hid (AddSt w (withS p s) wr) := hst
        clear hs hst S2
        by_cases hk0 : 0 < k
        · have hlt : k - 1 < xs.length := by omega
          have hA := (HAT.out.below hb S3.out.bel) (k - 1) hlt
          have hbr : b < wr.heap.size := Nat.lt_of_lt_of_le hb S3.out.bel.size
          have hwr := S3.out.lt
          obtain ⟨x, hx⟩ : ∃ x, x = xs[k - 1] := ⟨_, rfl⟩
          have HXX : Hid (x = xs[k - 1]) := hx
          rw [← hx] at hA
          have HAX : Hid (wr.rangeAt b (off + (k - 1) * 8) (pcL x)) := hA
          have HCI : Hid (∀ wy, Below wr.heap.size wr wy → wy.cell? ⟨b, off + (k - 1) * 8, none⟩ = some (.string x.src) ∧ wy.cell? ⟨b, off + (k - 1) * 8 + 1, none⟩ = some (.string x.dst) ∧ wy.cell? ⟨b, off + (k - 1) * 8 + 2, none⟩ = some (.int .i64 x.proto) ∧ wy.cell? ⟨b, off + (k - 1) * 8 + 3, none⟩ = some (.int .i64 x.id) ∧ wy.cell? ⟨b, off + (k - 1) * 8 + 4, none⟩ = some (.int .i64 x.off) ∧ wy.cell? ⟨b, off + (k - 1) * 8 + 5, none⟩ = some (.bool x.more) ∧ wy.cell? ⟨b, off + (k - 1) * 8 + 6, none⟩ = some (.string x.data) ∧ wy.cell? ⟨b, off + (k - 1) * 8 + 7, none⟩ = some (.int .i64 x.since)) := fun wy hy => by
            have h2 : wy.rangeAt b (off + (k - 1) * 8) (pcL x) := fun j v hv => ((bcell hy).1 b _ hbr).trans (hA j v hv)
            exact ⟨h2 0 _ rfl, h2 1 _ rfl, h2 2 _ rfl, h2 3 _ rfl, h2 4 _ rfl, h2 5 _ rfl, h2 6 _ rfl, h2 7 _ rfl⟩
          obtain ⟨q, hq⟩ : ∃ q, q = withS p s := ⟨_, rfl⟩
          have HQ : Hid (q = withS p s) := hq
          have HCP : Hid (∀ wy, Below wr.heap.size wr wy → wy.cell? ⟨w.heap.size, 0, none⟩ = some (.string q.src) ∧ wy.cell? ⟨w.heap.size, 1, none⟩ = some (.string q.dst) ∧ wy.cell? ⟨w.heap.size, 2, none⟩ = some (.int .i64 q.proto) ∧ wy.cell? ⟨w.heap.size, 3, none⟩ = some (.int .i64 q.id) ∧ wy.cell? ⟨w.heap.size, 4, none⟩ = some (.int .i64 q.off) ∧ wy.cell? ⟨w.heap.size, 5, none⟩ = some (.bool q.more) ∧ wy.cell? ⟨w.heap.size, 6, none⟩ = some (.string q.data) ∧ wy.cell? ⟨w.heap.size, 7, none⟩ = some (.int .i64 q.since)) := fun wy hy => by
            have hS := S3.out.kept hy
            rw [← hq] at hS
            exact ⟨hS.p.cell rfl, hS.p.cell rfl, hS.p.cell rfl, hS.p.cell rfl, hS.p.cell rfl, hS.p.cell rfl, hS.p.cell rfl, hS.p.cell rfl⟩
          have HO : Hid (∀ W, Calls Try.prog 48 #[pcC x, pcC q] W fun e w' => e = .returned (.bool (onePk x p)) ∧ Below W.heap.size W w') := fun W => by rw [hq]; exact spOne_any x (withS p s) W
          have HF : Hid (xs.drop (k - 1) = x :: xs.drop k) := by
            unfold Hid
            rw [List.drop_eq_getElem_cons hlt, ← hx, show k - 1 + 1 = k by omega]
          have e1 : ((k : Int) - 1).toNat = k - 1 := by omega
          have hki : (k : Int) - 1 < (xs.length : Int) := by omega
          have hki0 : 0 ≤ (k : Int) - 1 := by omega
          unfold pcC at HO
          clear hx hA hq
          go_upto_region 9 with fail
          go_cut [43] (fun v wx => v = .bool (onePk x p) ∧ Below wr.heap.size wr wx)
          case first =>
            rename_i J K2 hJ hK2
            clear HXX HF HQ HS HIX HD2 HAV hun
            generalize onePk x p = o1 at *
            refine wp_region_growH [38, 39, 40, 41, 42, 43] (by kernel_rfl) (by kernel_rfl) ?_
            refine GCh.val (n := 0) (fun v => [IsV v]) (fun _ => rfl) rfl ?_
            apply Exists.intro
            refine And.intro ?_ ?_
            · intro K' a wy ho hd hb hK
              rw [if_pos (wanted_none rfl)]
              have o0 := ho 0 (by decide)
              simp [slot] at o0
              clear hd ho
              go_simp
              try go_bits
              exact hK _ _ rfl (Below.refl _ _)
            refine GCh.val (n := 1) (fun v => [_, IsV v]) (fun _ => rfl) rfl ?_
            apply Exists.intro
            refine And.intro ?_ ?_
            · intro K' a wy ho hd hb hK
              rw [if_pos (wanted_none rfl)]
              have o7 := ho 7 (by decide)
              simp [slot] at o7
              clear hd ho
              go_simp
              try go_bits
              exact hK _ _ rfl (Below.refl _ _)
            refine GCh.val (n := 2) (fun v => [_, _, IsV v]) (fun _ => rfl) rfl ?_
            apply Exists.intro
            refine And.intro ?_ ?_
            · intro K' a wy ho hd hb hK
              rw [if_pos (wanted_none rfl)]
              have q0 := hd ⟨0, .data⟩ (by simp) rfl
              simp [rAt, IsV, slot] at q0
              have q1 := hd ⟨1, .data⟩ (by simp) rfl
              simp [rAt, IsV, slot] at q1
              clear hd ho
              go_simp
              try go_bits
              exact hK _ _ rfl (Below.refl _ _)
            refine GCh.val (n := 3) (fun v => [_, _, _, IsV v]) (fun _ => rfl) rfl ?_
            apply Exists.intro
            refine And.intro ?_ ?_
            · intro K' a wy ho hd hb hK
              rw [if_pos (wanted_none rfl)]
              have q2 := hd ⟨2, .data⟩ (by simp) rfl
              simp [rAt, IsV, slot] at q2
              clear hd ho
              obtain ⟨c0, c1, c2, c3, c4, c5, c6, c7⟩ := HCI.out wy ((Below.refl _ _).drew.trans hb); obtain ⟨d0, d1, d2, d3, d4, d5, d6, d7⟩ := HCP.out wy ((Below.refl _ _).drew.trans hb)
              go_simp
              try go_bits
              exact hK _ _ rfl (Below.refl _ _)
            refine GCh.val (n := 4) (fun v => [_, _, _, _, IsV v]) (fun _ => rfl) rfl ?_
            apply Exists.intro
            refine And.intro ?_ ?_
            · intro K' a wy ho hd hb hK
              rw [if_pos (wanted_none rfl)]
              have o4 := ho 4 (by decide)
              simp [slot] at o4
              clear hd ho
              obtain ⟨c0, c1, c2, c3, c4, c5, c6, c7⟩ := HCI.out wy ((Below.refl _ _).drew.trans hb); obtain ⟨d0, d1, d2, d3, d4, d5, d6, d7⟩ := HCP.out wy ((Below.refl _ _).drew.trans hb)
              go_simp
              try go_bits
              exact hK _ _ rfl (Below.refl _ _)
            refine GCh.val (n := 5) (fun v => [_, _, _, _, _, IsV v]) (fun _ => rfl) rfl ?_
            apply Exists.intro
            refine And.intro ?_ ?_
            · intro K' a wy ho hd hb hK
              rw [if_pos (wanted_none rfl)]
              have q3 := hd ⟨3, .data⟩ (by simp) rfl
              simp [rAt, IsV, slot] at q3
              have q4 := hd ⟨4, .data⟩ (by simp) rfl
              simp [rAt, IsV, slot] at q4
              clear hd ho
              go_simp
              refine (HO.out wy).mono ?_
              rintro e wz ⟨rfl, hz⟩
              exact hK _ _ rfl hz
            intro X wz hR hz
            obtain ⟨x0, x1, x2, x3, x4, x5, -⟩ := hR
            simp only [IsV] at x0 x1 x2 x3 x4 x5
            simp only [putsFrom, x0, x1, x2, x3, x4, x5]
            clear x0 x1 x2 x3 x4 x5
            go_simp
            refine hK2 _ _ (hJ _ _ ?_)
            (repeat apply Exists.intro)
            refine ⟨⟨rfl, (Below.refl _ wr).drew.trans hz⟩, rfl⟩
          case rest =>
          obtain ⟨rfl, hbc⟩ := hcut
          have S4 : Hid (AddSt w (withS p s) wc) := S3.out.kept hbc
          have hbcc : b < wc.heap.size := Nat.lt_of_lt_of_le hbr hbc.size
          have c7 : wc.cell? ⟨b, off + (k - 1) * 8 + 7, none⟩ = some (.int .i64 x.since) := ((bcell hbc).1 b _ hbr).trans (HAX.out 7 _ rfl)
          clear hbc HCI HCP HO HAX S3
          cases ho : onePk x p with
          | true =>
            have S5 : Hid (AddSt w (withS p x.since) (wc.setCell ⟨w.heap.size, 7, none⟩ (.int .i64 x.since))) := S4.out.set x.since
            have HS5 : Hid (x.since = sincePc (xs.drop (k - 1)) p now) := by unfold Hid sincePc; rw [HF.out, List.find?_cons_of_pos (by exact ho)]
            have yy : wc.frozen? ⟨w.heap.size, 7, none⟩ = false := S4.out.p.free (j := 7) (by simp [pcL])
            have yc : wc.cell? ⟨w.heap.size, 7, none⟩ = some (.int .i64 s) := S4.out.p.cell rfl
            clear S4
            go_wp2_with fail
            go_roundw
            case rel => exact ⟨k - 1, x.since, by omega, by go_num, HS5.out, S5.out⟩
            case measure => simp [intOf]; omega
          | false =>
            have HS5 : Hid (s = sincePc (xs.drop (k - 1)) p now) := by unfold Hid sincePc; rw [HF.out, List.find?_cons_of_neg (by rw [ho]; simp)]; exact HS.out
            go_wp2_with fail
            go_roundw
            case rel => exact ⟨k - 1, s, by omega, by go_num, HS5.out, S4.out⟩
            case measure => simp [intOf]; omega
        · obtain rfl : k = 0 := by omega
          obtain ⟨q, hq⟩ : ∃ q, q = withS p s := ⟨_, rfl⟩
          have HQ : Hid (withS p (sincePc xs p now) = q) := by unfold Hid; rw [hq, HS.out]; rfl
          have S4 : Hid (AddSt w q wr) := by rw [hq]; exact S3.out
          have HSQ : Hid (PcSm q) := by rw [hq]; exact HSM.out
          rw [HQ.out] at HAV
          clear hq HS S3 HQ
          have HATW : Hid (SlAt pcL 8 wr b off xs) := HAT.out.below hb S4.out.bel
          have hbW : b < wr.heap.size := Nat.lt_of_lt_of_le hb S4.out.bel.size
          have HCP : Hid (∀ wy, Below wr.heap.size wr wy → wy.cell? ⟨w.heap.size, 0, none⟩ = some (.string q.src) ∧ wy.cell? ⟨w.heap.size, 1, none⟩ = some (.string q.dst) ∧ wy.cell? ⟨w.heap.size, 2, none⟩ = some (.int .i64 q.proto) ∧ wy.cell? ⟨w.heap.size, 3, none⟩ = some (.int .i64 q.id) ∧ wy.cell? ⟨w.heap.size, 4, none⟩ = some (.int .i64 q.off) ∧ wy.cell? ⟨w.heap.size, 5, none⟩ = some (.bool q.more) ∧ wy.cell? ⟨w.heap.size, 6, none⟩ = some (.string q.data) ∧ wy.cell? ⟨w.heap.size, 7, none⟩ = some (.int .i64 q.since)) := fun wy hy => by
            have hS := S4.out.kept hy
            exact ⟨hS.p.cell rfl, hS.p.cell rfl, hS.p.cell rfl, hS.p.cell rfl, hS.p.cell rfl, hS.p.cell rfl, hS.p.cell rfl, hS.p.cell rfl⟩
          obtain ⟨i0, hi, hz0, hz1, hz2⟩ := info_parts Try.infoPt
          go_upto_region 11 with fail
          go_cut [8] (fun v wx => Row pcL 8 wr.heap.size 37 v (xs ++ [q]) wr wx)
          case first =>
            rename_i J K2 hJ hK2
            clear HIX HD2 HAV hun
            refine wp_region_growV [50, 51, 52, 53, 54] (by kernel_rfl) (by kernel_rfl) ?_
            refine GChV.rel (n := 0) (IsEmp wr.drew.heap.size 37) (stable_isEmp _ _) [IsEmp wr.drew.heap.size 37] rfl rfl ?_ ?_
            · intro K' a wy ho hd hb hK
              rw [if_pos (wanted_none rfl)]
              clear hd ho
              go_simp
              exact hK _ _ ⟨wy.heap.size, rfl, World.ownsRow_made wy #[] 0 hb.size (by unfold maxLen; omega) rfl⟩ ((Below.refl _ _).alloc (Nat.le_refl _) _)
            refine GChV.val (n := 1) (fun v => [_, IsV v]) (fun _ => rfl) rfl ?_
            apply Exists.intro
            refine And.intro ?_ ?_
            · intro K' a wy ho hd hb hK
              rw [if_pos (wanted_none rfl)]
              have o0 := ho 0 (by decide)
              simp [slot] at o0
              clear hd ho
              go_simp
              try go_bits
              exact hK _ _ rfl (Below.refl _ _)
            refine GChV.rel (n := 2) (IsRws wr.drew.heap.size 37 xs) (stable_isRws _ _ _) [_, _, IsRws wr.drew.heap.size 37 xs] rfl rfl ?_ ?_
            · intro K' a wy ho hd hb hK
              rw [if_pos (wanted_none rfl)]
              obtain ⟨g0, e0, r0⟩ : IsEmp wr.drew.heap.size 37 (slot a 50) wy := hd ⟨0, .data⟩ (by simp) rfl
              rw [e0] at r0
              simp [slot] at e0
              have q1 := hd ⟨1, .data⟩ (by simp) rfl
              simp [rAt, IsV, slot] at q1
              clear hd ho
              obtain ⟨v2, w2, hrun, h22, h23⟩ := append_all (ty := 30) (cap := cap) r0 (HATW.out.below hbW ((Below.refl _ wr).drew.trans hb)) hlen hb.size
              refine wp_append_run (.tmp 50) (.tmp 51) _ rfl ?_ ?_ hrun (hK _ _ h22 h23)
              · simpa [Act.eval] using e0
              · simpa [Act.eval] using q1
            refine GChV.val (n := 3) (fun v => [_, _, _, IsV v]) (fun _ => rfl) rfl ?_
            apply Exists.intro
            refine And.intro ?_ ?_
            · intro K' a wy ho hd hb hK
              rw [if_pos (wanted_none rfl)]
              have o4 := ho 4 (by decide)
              simp [slot] at o4
              clear hd ho
              obtain ⟨k0, k1, k2, k3, k4, k5, k6, k7⟩ := HCP.out wy ((Below.refl _ _).drew.trans hb)
              go_simp
              try go_bits
              exact hK _ _ rfl (Below.refl _ _)
            refine GChV.rel (n := 4) (IsOneP q) (stable_isOneP _) [_, _, _, _, IsOneP q] rfl rfl ?_ ?_
            · intro K' a wy ho hd hb hK
              rw [if_pos (wanted_none rfl)]
              have q3 := hd ⟨3, .data⟩ (by simp) rfl
              simp [rAt, IsV, slot] at q3
              clear hd ho
              go_simp
              exact hK _ _ ⟨wy.heap.size, rfl, news8 wy q _⟩ ((Below.refl _ _).alloc (Nat.le_refl _) _)
            intro X wz hR hz
            obtain ⟨x0, x1, x2, x3, x4, -⟩ := hR
            obtain ⟨g0, e0, -⟩ := x0
            obtain ⟨g4, e4, r4⟩ := x4
            simp only [IsV] at x1 x3
            obtain ⟨v5, w5, hrun, h52, h53, h54, h55⟩ := run_append_own_at (P := Try.prog) wz wr.drew.heap.size 30 30 37 i0 _ 8 88 Try.underlying30 hi hz0 hz1 hz2 rfl (by decide) (X 2) xs.length (flatS pcL xs) x2 ⟨g4, 0, none⟩ 1 1 (pcL q) rfl r4 (pcL_one q) (by unfold maxLen; omega) (by omega) hz.size
            have hrow : Row pcL 8 wr.heap.size 37 v5 (xs ++ [q]) wr w5 := row_last hz x2 h52 h53
            simp only [putsFrom, e0, x1, x3, e4]
            generalize X 2 = v2 at *
            clear x1 x3 e0 e4 x2 r4 h52 h53 h54 h55
            intro K5 hK5
            refine wp_append_run (.tmp 52) (.tmp 54) _ rfl ?_ ?_ hrun (hK5 _ _ ?_)
            · simp [Act.eval, putsFrom, Act.put]
            · simp [Act.eval, putsFrom, Act.put]
            intro K6 hK6
            go_simp
            refine hK6 _ _ ?_
            show Exit.then _ _ _ _ _
            refine hK2 _ _ (hJ _ _ ?_)
            (repeat apply Exists.intro)
            exact ⟨hrow, rfl⟩
          case rest =>
          clear HCP
          have S5 : Hid (AddSt w q wc) := S4.out.kept hcut.bel
          have hwl := S4.out.lt
          obtain ⟨a2, cap2, hu8, hcap2, hown⟩ := hcut.shape pcL_length
          subst hu8
          have HATC : Hid (SlAt pcL 8 wc b off xs) := HATW.out.below hbW hcut.bel
          have hbC : b < wc.heap.size := Nat.lt_of_lt_of_le hbW hcut.bel.size
          have hle : wr.heap.size ≤ wc.heap.size := hcut.bel.size
          clear hcut S4 HATW hbW
          obtain ⟨ys, hys⟩ : ∃ ys, ys = xs ++ [q] := ⟨_, rfl⟩
          have hyl : ys.length = xs.length + 1 := by rw [hys]; simp
          rw [← hys] at hown hcap2 ⊢
          have HOWN : Hid (SlOwn pcL 8 wr.heap.size wc a2 ys) := hown
          have HAV2 : Hid (av = if allPc ys = false then ⟨butPc xs q, ⟨#[]⟩, false, 10⟩ else if 40 ≤ xs.length then ⟨xs, ⟨#[]⟩, false, 9⟩ else match wholePc ys q with | some t => ⟨butPc ys q, t, true, 0⟩ | none => ⟨ys, ⟨#[]⟩, false, 0⟩) := by unfold Hid; rw [← HAV.out, addV, ← hys]; cases wholePc ys q <;> rfl
          have HYI : Hid (PcsIn ys) := by
            refine ⟨by omega, fun y hy => ?_⟩
            rw [hys] at hy
            rcases List.mem_append.1 hy with h | h
            · exact HIN.out.2 y h
            · rw [List.mem_singleton.1 h]; exact HSQ.out
          have HC1 : Hid (∀ W, Below wc.heap.size wc W → Calls Try.prog 49 #[.slice a2 ys.length cap2] W fun e w' => e = .returned (.bool (allPc ys)) ∧ Below W.heap.size W w') := fun W hW => spAll_any ys a2 cap2 W HYI.out (HOWN.out.kept hW).is
          have HC2 : Hid (∀ W, Below wc.heap.size wc W → Calls Try.prog 50 #[.slice (some ⟨b, off, none⟩) xs.length cap, pcC q] W (SlRet pcL 8 W (butPc xs q))) := fun W hW => spBut_any xs q _ cap W hlen (.inr ⟨b, off, rfl, Nat.lt_of_lt_of_le hbC hW.size, HATC.out.below hbC hW⟩)
          have HC3 : Hid (∀ W, Below wc.heap.size wc W → Calls Try.prog 50 #[.slice a2 ys.length cap2, pcC q] W (SlRet pcL 8 W (butPc ys q))) := fun W hW => spBut_any ys q a2 cap2 W HYI.out.1 (HOWN.out.kept hW).is
          have HC4 : Hid (allPc ys = true → ∀ W, Below wc.heap.size wc W → Calls Try.prog 51 #[.slice a2 ys.length cap2, pcC q] W fun e w' => e = .returned (.tuple #[.string (optS (wholePc ys q)), .bool (wholePc ys q).isSome]) ∧ Below W.heap.size W w') := fun ha W hW => spWhole_any ys q a2 cap2 W HYI.out.1 (fun y hy => by
            obtain ⟨i, hi, rfl⟩ := List.getElem_of_mem hy
            exact allN_ok ha i hi hi) (HOWN.out.kept hW).is
          have HCQ : Hid (∀ wy, Below wc.heap.size wc wy → wy.cell? ⟨w.heap.size, 0, none⟩ = some (.string q.src) ∧ wy.cell? ⟨w.heap.size, 1, none⟩ = some (.string q.dst) ∧ wy.cell? ⟨w.heap.size, 2, none⟩ = some (.int .i64 q.proto) ∧ wy.cell? ⟨w.heap.size, 3, none⟩ = some (.int .i64 q.id) ∧ wy.cell? ⟨w.heap.size, 4, none⟩ = some (.int .i64 q.off) ∧ wy.cell? ⟨w.heap.size, 5, none⟩ = some (.bool q.more) ∧ wy.cell? ⟨w.heap.size, 6, none⟩ = some (.string q.data) ∧ wy.cell? ⟨w.heap.size, 7, none⟩ = some (.int .i64 q.since)) := fun wy hy => by
            have hS := S5.out.kept hy
            exact ⟨hS.p.cell rfl, hS.p.cell rfl, hS.p.cell rfl, hS.p.cell rfl, hS.p.cell rfl, hS.p.cell rfl, hS.p.cell rfl, hS.p.cell rfl⟩
          unfold pcC at HC2 HC3 HC4
          generalize butPc xs q = b1 at *
          generalize butPc ys q = b2 at *
          generalize wholePc ys q = wo at *
          generalize allPc ys = al at *
          clear hys hown HAV HIX HIN HSM HSQ HYI HPK hyl
          go_wp2_with fail
          refine (HC1.out _ (Below.refl _ _)).mono ?_
          rintro e w1 ⟨rfl, q1⟩
          have Q1 : Hid (Below wc.heap.size wc w1) := q1
          clear q1 HC1
          cases al with
          | false =>
            have HX : Hid (ans = ⟨b1, ⟨#[]⟩, false, 10⟩) := by unfold Hid; rw [HD2.out, HAV2.out]; rfl
            clear HD2 HAV2 HC3 HC4
            obtain ⟨k0, k1, k2, k3, k4, k5, k6, k7⟩ := HCQ.out w1 Q1.out
            go_wp2_with fail
            refine (HC2.out _ Q1.out).mono ?_
            rintro e w2 ⟨a3, cap3, rfl, hc3, ho3, q2⟩
            clear k0 k1 k2 k3 k4 k5 k6 k7
            have S6 : Hid (AddSt w q w2) := S5.out.kept (Q1.out.trans (q2.mono Q1.out.size))
            have hs1 : wc.heap.size ≤ w1.heap.size := Q1.out.size
            have HO3 : Hid (SlOwn pcL 8 w1.heap.size w2 a3 b1) := ho3
            clear ho3 q2
            have z0 : w2.cell? ⟨w.heap.size + 1, 0, none⟩ = some (.slice none 0 0) := S6.out.r.cell rfl
            have zf0 := S6.out.r.free (j := 0) (by simp [outZ])
            have z1 : w2.cell? ⟨w.heap.size + 1, 1, none⟩ = some (.string ⟨#[]⟩) := S6.out.r.cell rfl
            have zf1 := S6.out.r.free (j := 1) (by simp [outZ])
            have z2 : w2.cell? ⟨w.heap.size + 1, 2, none⟩ = some (.bool false) := S6.out.r.cell rfl
            have zf2 := S6.out.r.free (j := 2) (by simp [outZ])
            have z3 : w2.cell? ⟨w.heap.size + 1, 3, none⟩ = some (.int .i64 0) := S6.out.r.cell rfl
            have zf3 := S6.out.r.free (j := 3) (by simp [outZ])
            go_wp2_with fail
            refine bodyPost_ret (v := .agg #[.slice a3 b1.length cap3, .string ⟨#[]⟩, .bool false, .int .i64 10]) (by simp [results, Try.results13, go_sem, z0, z1, z2, z3]) rfl ?_
            rw [HX.out]
            have hst := S6.out.store (base := w1.heap.size) (a := a3) (o := ⟨b1, ⟨#[]⟩, false, 10⟩) (by have := S6.out.lt; have := S5.out.lt; omega) HO3.out (.slice a3 b1.length cap3) (.string ⟨#[]⟩) (.bool false) (.int .i64 10)
            exact ⟨a3, cap3, rfl, hc3, hst.1, hst.2⟩
          | true =>
            replace HC4 := HC4.out rfl
            have HC4 : Hid (∀ W, Below wc.heap.size wc W → Calls Try.prog 51 #[.slice a2 ys.length cap2, .agg #[.string q.src, .string q.dst, .int .i64 q.proto, .int .i64 q.id, .int .i64 q.off, .bool q.more, .string q.data, .int .i64 q.since]] W fun e w' => e = .returned (.tuple #[.string (optS wo), .bool wo.isSome]) ∧ Below W.heap.size W w') := HC4
            have S6 : Hid (AddSt w q w1) := S5.out.kept Q1.out
            have hs1 : wc.heap.size ≤ w1.heap.size := Q1.out.size
            by_cases h40 : 40 ≤ xs.length
            · have HX : Hid (ans = ⟨xs, ⟨#[]⟩, false, 9⟩) := by unfold Hid; rw [HD2.out, HAV2.out, if_neg (by simp), if_pos h40]
              clear HD2 HAV2 HC4 HC3 HC2
              obtain ⟨v3, w3, hrun, h32, h33⟩ := append_all (base := w1.heap.size) (ty := 30) (cap := cap) (World.ownsRow_made w1 #[] 0 (Nat.le_refl _) (by unfold maxLen; omega) rfl) ((HATC.out.below hbC Q1.out).below (Nat.lt_of_lt_of_le hbC hs1) ((Below.refl _ _).alloc (Nat.le_refl _) _)) hlen (by simp)
              have hrow : Row pcL 8 w1.heap.size 37 v3 xs w1 w3 := ⟨h32, ((Below.refl _ _).alloc (Nat.le_refl _) _).trans (h33.mono (by simp))⟩
              obtain ⟨a3, cap3, hv3, hc3, ho3⟩ := hrow.shape pcL_length
              subst hv3
              have S7 : Hid (AddSt w q w3) := S6.out.kept hrow.bel
              have HO3 : Hid (SlOwn pcL 8 w1.heap.size w3 a3 xs) := ho3
              clear h32 h33 hrow ho3
              have z0 : w3.cell? ⟨w.heap.size + 1, 0, none⟩ = some (.slice none 0 0) := S7.out.r.cell rfl
              have zf0 := S7.out.r.free (j := 0) (by simp [outZ])
              have z1 : w3.cell? ⟨w.heap.size + 1, 1, none⟩ = some (.string ⟨#[]⟩) := S7.out.r.cell rfl
              have zf1 := S7.out.r.free (j := 1) (by simp [outZ])
              have z2 : w3.cell? ⟨w.heap.size + 1, 2, none⟩ = some (.bool false) := S7.out.r.cell rfl
              have zf2 := S7.out.r.free (j := 2) (by simp [outZ])
              have z3 : w3.cell? ⟨w.heap.size + 1, 3, none⟩ = some (.int .i64 0) := S7.out.r.cell rfl
              have zf3 := S7.out.r.free (j := 3) (by simp [outZ])
              go_wp2_with (first | (at_builtin; refine wpList_append_run rfl (.tmp 66) (.tmp 67) _ rfl rfl rfl hrun ?_) | go_in)
              refine bodyPost_ret (v := .agg #[.slice a3 xs.length cap3, .string ⟨#[]⟩, .bool false, .int .i64 9]) (by simp [results, Try.results13, go_sem, z0, z1, z2, z3]) rfl ?_
              rw [HX.out]
              have hst := S7.out.store (base := w1.heap.size) (a := a3) (o := ⟨xs, ⟨#[]⟩, false, 9⟩) (by have := S7.out.lt; have := S5.out.lt; omega) HO3.out (.slice a3 xs.length cap3) (.string ⟨#[]⟩) (.bool false) (.int .i64 9)
              exact ⟨a3, cap3, rfl, hc3, hst.1, hst.2⟩
            · obtain ⟨k0, k1, k2, k3, k4, k5, k6, k7⟩ := HCQ.out w1 Q1.out
              go_wp2_with fail
              refine (HC4.out _ Q1.out).mono ?_
              rintro e w2 ⟨rfl, q2⟩
              clear k0 k1 k2 k3 k4 k5 k6 k7
              have S7 : Hid (AddSt w q w2) := S6.out.kept q2
              have Q2 : Hid (Below wc.heap.size wc w2) := Q1.out.trans (q2.mono Q1.out.size)
              have hs2 : w1.heap.size ≤ w2.heap.size := q2.size
              clear q2
              cases wo with
              | none =>
                have HX : Hid (ans = ⟨ys, ⟨#[]⟩, false, 0⟩) := by unfold Hid; rw [HD2.out, HAV2.out, if_neg (by simp), if_neg h40]
                have HO3 : Hid (SlOwn pcL 8 wr.heap.size w2 a2 ys) := HOWN.out.kept Q2.out
                have hos : optS none = ⟨#[]⟩ := rfl
                rw [hos]
                have hin : (none : Option ByteArray).isSome = false := rfl
                rw [hin]
                clear HD2 HAV2 HC4 HC3 HC2
                have z0 : w2.cell? ⟨w.heap.size + 1, 0, none⟩ = some (.slice none 0 0) := S7.out.r.cell rfl
                have zf0 := S7.out.r.free (j := 0) (by simp [outZ])
                have z1 : w2.cell? ⟨w.heap.size + 1, 1, none⟩ = some (.string ⟨#[]⟩) := S7.out.r.cell rfl
                have zf1 := S7.out.r.free (j := 1) (by simp [outZ])
                have z2 : w2.cell? ⟨w.heap.size + 1, 2, none⟩ = some (.bool false) := S7.out.r.cell rfl
                have zf2 := S7.out.r.free (j := 2) (by simp [outZ])
                have z3 : w2.cell? ⟨w.heap.size + 1, 3, none⟩ = some (.int .i64 0) := S7.out.r.cell rfl
                have zf3 := S7.out.r.free (j := 3) (by simp [outZ])
                go_wp2_with fail
                refine bodyPost_ret (v := .agg #[.slice a2 ys.length cap2, .string ⟨#[]⟩, .bool false, .int .i64 0]) (by simp [results, Try.results13, go_sem, z0, z1, z2, z3]) rfl ?_
                rw [HX.out]
                have hst := S7.out.store (base := wr.heap.size) (a := a2) (o := ⟨ys, ⟨#[]⟩, false, 0⟩) (by have := S7.out.lt; have := S5.out.lt; omega) HO3.out (.slice a2 ys.length cap2) (.string ⟨#[]⟩) (.bool false) (.int .i64 0)
                exact ⟨a2, cap2, rfl, hcap2, hst.1, hst.2⟩
              | some t =>
                have HX : Hid (ans = ⟨b2, t, true, 0⟩) := by unfold Hid; rw [HD2.out, HAV2.out, if_neg (by simp), if_neg h40]
                have hos : optS (some t) = t := rfl
                rw [hos]
                have hin : (some t).isSome = true := rfl
                rw [hin]
                clear HD2 HAV2 HC4 HC2
                obtain ⟨k0, k1, k2, k3, k4, k5, k6, k7⟩ := HCQ.out w2 Q2.out
                go_wp2_with fail
                refine (HC3.out _ Q2.out).mono ?_
                rintro e w3 ⟨a3, cap3, rfl, hc3, ho3, q3⟩
                clear k0 k1 k2 k3 k4 k5 k6 k7
                have S8 : Hid (AddSt w q w3) := S7.out.kept q3
                have HO3 : Hid (SlOwn pcL 8 w2.heap.size w3 a3 b2) := ho3
                clear ho3 q3
                have z0 : w3.cell? ⟨w.heap.size + 1, 0, none⟩ = some (.slice none 0 0) := S8.out.r.cell rfl
                have zf0 := S8.out.r.free (j := 0) (by simp [outZ])
                have z1 : w3.cell? ⟨w.heap.size + 1, 1, none⟩ = some (.string ⟨#[]⟩) := S8.out.r.cell rfl
                have zf1 := S8.out.r.free (j := 1) (by simp [outZ])
                have z2 : w3.cell? ⟨w.heap.size + 1, 2, none⟩ = some (.bool false) := S8.out.r.cell rfl
                have zf2 := S8.out.r.free (j := 2) (by simp [outZ])
                have z3 : w3.cell? ⟨w.heap.size + 1, 3, none⟩ = some (.int .i64 0) := S8.out.r.cell rfl
                have zf3 := S8.out.r.free (j := 3) (by simp [outZ])
                go_wp2_with fail
                refine bodyPost_ret (v := .agg #[.slice a3 b2.length cap3, .string t, .bool true, .int .i64 0]) (by simp [results, Try.results13, go_sem, z0, z1, z2, z3]) rfl ?_
                rw [HX.out]
                have hst := S8.out.store (base := w2.heap.size) (a := a3) (o := ⟨b2, t, true, 0⟩) (by have := S8.out.lt; have := S5.out.lt; omega) HO3.out (.slice a3 b2.length cap3) (.string t) (.bool true) (.int .i64 0)
                exact ⟨a3, cap3, rfl, hc3, hst.1, hst.2⟩
end Go.Proofs.Ytofhcplnnamcdab
