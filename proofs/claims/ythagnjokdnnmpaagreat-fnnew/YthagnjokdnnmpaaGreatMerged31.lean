import Derived.Test.YthagnjokdnnmpaaGreatDrawGwN
import Derived.Test.YthagnjokdnnmpaaGreatMerged29
import Derived.Test.YthagnjokdnnmpaaGreatMerged30
import Derived.Test.YthagnjokdnnmpaaGreatIGwR
import Derived.Test.YthagnjokdnnmpaaGreatMerged28
import Derived.WalkKit
import Derived.Below
import Derived.Test.YthagnjokdnnmpaaGreatMerged2
set_option linter.unusedVariables false
set_option linter.unusedSimpArgs false
set_option maxRecDepth 100000
set_option maxHeartbeats 8000000
namespace Go.Proofs.YthagnjokdnnmpaaGreat
open Go.RowKit Go.PlainAid
theorem gwSm_zero (A : Ga) : GwSm A gwZero :=
  ⟨Nat.zero_le _, Nat.zero_le _, fun q hq => (by cases hq), Nat.zero_le _, Nat.zero_le _, fun s hs => (by cases hs), Nat.zero_le _, Nat.zero_le _, Nat.zero_le _, Nat.zero_le _, Nat.zero_le _, fun q hq => (by cases hq), fun q hq => (by cases hq), ⟨Nat.zero_le _, fun q hq => (by cases hq)⟩⟩
theorem gwOk_zero : gwOk gwZero = false := by
  unfold gwOk
  rw [show isIn gwZero.mtu 1280 1500 = false from by decide]
  simp
theorem gwOk_mtu {rs : List Rt} {p : Pl} {s : ByteArray} {b m : Int} (h : gwOk (gwOf rs p s b m) = true) : 1280 ≤ m := by
  unfold gwOk at h
  simp only [Bool.and_eq_true] at h
  exact (isIn_parts h.1.1.1.1.1.2).1
theorem newWalk (a0 : Option Addr) (len0 cap0 : Nat) (w : World) (h0 : len0 ≤ 1048576) (b0 : Bytes w a0 len0 w.heap.size) :
    Calls Tryz.prog 3 #[.slice a0 len0 cap0] w fun e w' => e = .returned (.bool true) ∧ Below w.heap.size w w' := by
  have HD0 : Hid _ := drawGwNew_any a0 len0 cap0 w h0 b0
  have l0 : ¬ (1048576 : Int) < len0 := by omega
  clear b0
  go_enter Tryz.func3, Tryz.ntmps3
  go_wp2_with fail
  refine Calls.mono HD0.out ?_
  rintro e w1 ⟨ra, rc, rs, pa, pc, p, s, b, m, rfl, hrc, hrn, hrd, hpd, hpc, hsz, hrt, hpl, qq⟩
  clear HD0
  have HRI : Hid (RtsIn rs) := fun q hq => ⟨by have := (hrd q hq).1; omega, (hrd q hq).2.1, (hrd q hq).2.2⟩
  have HPS : Hid (∀ x ∈ p.addrs, x.size ≤ 1048576) := fun x hx => by have := hpd.2.2 x hx; omega
  have hpn : p.addrs.length ≤ 1048576 := by have := hpd.2.1; omega
  have HZ0 : Hid (Below w.heap.size w ((w1.alloc (.cells #[.slice pa p.addrs.length pc, .int .i64 p.low, .int .i64 p.high, .int .i64 p.most, .int .i64 p.filter, .int .i64 p.lv.udp, .int .i64 p.lv.echo, .int .i64 p.lv.opening, .int .i64 p.lv.opn, .int .i64 p.lv.closing] 28)).alloc (.cells #[.string s, .int .i64 b] 30))) := (qq.alloc qq.size _).alloc (by have := qq.size; simp; omega) _
  have HRT : Hid (RtsIs ((w1.alloc (.cells #[.slice pa p.addrs.length pc, .int .i64 p.low, .int .i64 p.high, .int .i64 p.most, .int .i64 p.filter, .int .i64 p.lv.udp, .int .i64 p.lv.echo, .int .i64 p.lv.opening, .int .i64 p.lv.opn, .int .i64 p.lv.closing] 28)).alloc (.cells #[.string s, .int .i64 b] 30)) ra rs) := (hrt.below ((Below.refl _ _).alloc (Nat.le_refl _) _)).below ((Below.refl _ _).alloc (Nat.le_refl _) _)
  have HPL : Hid (SlIs strL1 1 ((w1.alloc (.cells #[.slice pa p.addrs.length pc, .int .i64 p.low, .int .i64 p.high, .int .i64 p.most, .int .i64 p.filter, .int .i64 p.lv.udp, .int .i64 p.lv.echo, .int .i64 p.lv.opening, .int .i64 p.lv.opn, .int .i64 p.lv.closing] 28)).alloc (.cells #[.string s, .int .i64 b] 30)) pa p.addrs) := (hpl.below ((Below.refl _ _).alloc (Nat.le_refl _) _)).below ((Below.refl _ _).alloc (Nat.le_refl _) _)
  have HB0 : Hid (HoldsL ((w1.alloc (.cells #[.slice pa p.addrs.length pc, .int .i64 p.low, .int .i64 p.high, .int .i64 p.most, .int .i64 p.filter, .int .i64 p.lv.udp, .int .i64 p.lv.echo, .int .i64 p.lv.opening, .int .i64 p.lv.opn, .int .i64 p.lv.closing] 28)).alloc (.cells #[.string s, .int .i64 b] 30)) w1.heap.size [.slice pa p.addrs.length pc, .int .i64 p.low, .int .i64 p.high, .int .i64 p.most, .int .i64 p.filter, .int .i64 p.lv.udp, .int .i64 p.lv.echo, .int .i64 p.lv.opening, .int .i64 p.lv.opn, .int .i64 p.lv.closing]) := (HoldsL.new w1 [.slice pa p.addrs.length pc, .int .i64 p.low, .int .i64 p.high, .int .i64 p.most, .int .i64 p.filter, .int .i64 p.lv.udp, .int .i64 p.lv.echo, .int .i64 p.lv.opening, .int .i64 p.lv.opn, .int .i64 p.lv.closing] 28).alloc _
  have HB1 : Hid (HoldsL ((w1.alloc (.cells #[.slice pa p.addrs.length pc, .int .i64 p.low, .int .i64 p.high, .int .i64 p.most, .int .i64 p.filter, .int .i64 p.lv.udp, .int .i64 p.lv.echo, .int .i64 p.lv.opening, .int .i64 p.lv.opn, .int .i64 p.lv.closing] 28)).alloc (.cells #[.string s, .int .i64 b] 30)) (w1.heap.size + 1) [.string s, .int .i64 b]) := by
    have h := HoldsL.new (w1.alloc (.cells #[.slice pa p.addrs.length pc, .int .i64 p.low, .int .i64 p.high, .int .i64 p.most, .int .i64 p.filter, .int .i64 p.lv.udp, .int .i64 p.lv.echo, .int .i64 p.lv.opening, .int .i64 p.lv.opn, .int .i64 p.lv.closing] 28)) [.string s, .int .i64 b] 30
    rw [World.size_alloc] at h
    exact h
  clear hrd hpd hrt hpl qq
  unfold plC
  have hun : undef = Value.tuple #[] := rfl
  go_upto_region 4 with fail
  generalize ((w1.alloc (.cells #[.slice pa p.addrs.length pc, .int .i64 p.low, .int .i64 p.high, .int .i64 p.most, .int .i64 p.filter, .int .i64 p.lv.udp, .int .i64 p.lv.echo, .int .i64 p.lv.opening, .int .i64 p.lv.opn, .int .i64 p.lv.closing] 28)).alloc (.cells #[.string s, .int .i64 b] 30)) = W0 at *
  generalize w1.heap.size = P at *
  have A_0 : Hid (Below w.heap.size w W0) := HZ0.out
  have R_0 : Hid (RtsIs W0 ra rs) := HRT.out
  have L_0 : Hid (SlIs strL1 1 W0 pa p.addrs) := HPL.out
  have P_0 : Hid (HoldsL W0 P [.slice pa p.addrs.length pc, .int .i64 p.low, .int .i64 p.high, .int .i64 p.most, .int .i64 p.filter, .int .i64 p.lv.udp, .int .i64 p.lv.echo, .int .i64 p.lv.opening, .int .i64 p.lv.opn, .int .i64 p.lv.closing]) := HB0.out
  have X_0 : Hid (HoldsL W0 (P + 1) [.string s, .int .i64 b]) := HB1.out
  clear HZ0 HRT HPL HB0 HB1
  have HVC : Hid ((gwNewV rs p s b m = gwZero) ∨ (gwNewV rs p s b m = gwOf rs p s b m ∧ gwOk (gwOf rs p s b m) = true)) := by
    unfold Hid gwNewV
    split
    · exact .inr ⟨rfl, ‹_›⟩
    · exact .inl rfl
  have cP0 : W0.cell? ⟨P, 0, none⟩ = some (.slice pa p.addrs.length pc) := P_0.out.cell rfl
  have cP1 : W0.cell? ⟨P, 1, none⟩ = some (.int .i64 p.low) := P_0.out.cell rfl
  have cP2 : W0.cell? ⟨P, 2, none⟩ = some (.int .i64 p.high) := P_0.out.cell rfl
  have cP3 : W0.cell? ⟨P, 3, none⟩ = some (.int .i64 p.most) := P_0.out.cell rfl
  have cP4 : W0.cell? ⟨P, 4, none⟩ = some (.int .i64 p.filter) := P_0.out.cell rfl
  have cP5 : W0.cell? ⟨P, 5, none⟩ = some (.int .i64 p.lv.udp) := P_0.out.cell rfl
  have cP6 : W0.cell? ⟨P, 6, none⟩ = some (.int .i64 p.lv.echo) := P_0.out.cell rfl
  have cP7 : W0.cell? ⟨P, 7, none⟩ = some (.int .i64 p.lv.opening) := P_0.out.cell rfl
  have cP8 : W0.cell? ⟨P, 8, none⟩ = some (.int .i64 p.lv.opn) := P_0.out.cell rfl
  have cP9 : W0.cell? ⟨P, 9, none⟩ = some (.int .i64 p.lv.closing) := P_0.out.cell rfl
  have cX0 : W0.cell? ⟨(P + 1), 0, none⟩ = some (.string s) := X_0.out.cell rfl
  have cX1 : W0.cell? ⟨(P + 1), 1, none⟩ = some (.int .i64 b) := X_0.out.cell rfl
  go_wp2_with fail
  refine (implGwNew_any ra rc rs pa pc p s b m _ (by omega) hrc HRI.out hpn hpc HPS.out (by omega) R_0.out L_0.out).mono ?_
  rintro e v1 ⟨⟨A1, rfl, ho⟩, q⟩
  clear cP0 cP1 cP2 cP3 cP4 cP5 cP6 cP7 cP8 cP9 cX0 cX1
  have A_1 : Hid (Below w.heap.size w v1) := A_0.out.trans (q.mono A_0.out.size)
  have R_1 : Hid (RtsIs v1 ra rs) := R_0.out.below q
  have L_1 : Hid (SlIs strL1 1 v1 pa p.addrs) := L_0.out.below q
  have P_1 : Hid (HoldsL v1 P [.slice pa p.addrs.length pc, .int .i64 p.low, .int .i64 p.high, .int .i64 p.most, .int .i64 p.filter, .int .i64 p.lv.udp, .int .i64 p.lv.echo, .int .i64 p.lv.opening, .int .i64 p.lv.opn, .int .i64 p.lv.closing]) := P_0.out.kept (by simp) q
  have X_1 : Hid (HoldsL v1 (P + 1) [.string s, .int .i64 b]) := X_0.out.kept (by simp) q
  clear A_0 R_0 L_0 P_0 X_0
  have hz101 : W0.heap.size ≤ v1.heap.size := q.size
  clear q
  have Go_1 : Hid (GwO W0.heap.size v1 A1 (gwNewV rs p s b m)) := ho
  clear ho
  have hz : HoldsL (v1.alloc (.cells #[.slice none 0 0, .slice none 0 0, .int .i64 0, .int .i64 0, .int .i64 0, .int .i64 0, .int .i64 0, .int .i64 0, .int .i64 0, .int .i64 0, .int .i64 0, .string ⟨#[]⟩, .int .i64 0, .string ⟨#[]⟩, .string ⟨#[]⟩, .int .i64 0, .slice none 0 0, .slice none 0 0, .slice none 0 0, .int .i64 0, .int .i64 0, .int .i64 0, .int .i64 0, .int .i64 0] 41)) v1.heap.size gwZ := HoldsL.new v1 [.slice none 0 0, .slice none 0 0, .int .i64 0, .int .i64 0, .int .i64 0, .int .i64 0, .int .i64 0, .int .i64 0, .int .i64 0, .int .i64 0, .int .i64 0, .string ⟨#[]⟩, .int .i64 0, .string ⟨#[]⟩, .string ⟨#[]⟩, .int .i64 0, .slice none 0 0, .slice none 0 0, .slice none 0 0, .int .i64 0, .int .i64 0, .int .i64 0, .int .i64 0, .int .i64 0] 41
  have HTZ : Hid ((v1.alloc (.cells #[.slice none 0 0, .slice none 0 0, .int .i64 0, .int .i64 0, .int .i64 0, .int .i64 0, .int .i64 0, .int .i64 0, .int .i64 0, .int .i64 0, .int .i64 0, .string ⟨#[]⟩, .int .i64 0, .string ⟨#[]⟩, .string ⟨#[]⟩, .int .i64 0, .slice none 0 0, .slice none 0 0, .slice none 0 0, .int .i64 0, .int .i64 0, .int .i64 0, .int .i64 0, .int .i64 0] 41)).there v1.heap.size 0 (gwL A1 (gwNewV rs p s b m)).toArray.size) := gwL_there hz rfl _ _
  have hnb : HoldsL ((v1.alloc (.cells #[.slice none 0 0, .slice none 0 0, .int .i64 0, .int .i64 0, .int .i64 0, .int .i64 0, .int .i64 0, .int .i64 0, .int .i64 0, .int .i64 0, .int .i64 0, .string ⟨#[]⟩, .int .i64 0, .string ⟨#[]⟩, .string ⟨#[]⟩, .int .i64 0, .slice none 0 0, .slice none 0 0, .slice none 0 0, .int .i64 0, .int .i64 0, .int .i64 0, .int .i64 0, .int .i64 0] 41)).setCells v1.heap.size 0 (gwL A1 (gwNewV rs p s b m)).toArray.toList) v1.heap.size (gwL A1 (gwNewV rs p s b m)) := hz.midG rfl
  have HNB : Hid _ := hnb
  have bn : Below v1.heap.size v1 ((v1.alloc (.cells #[.slice none 0 0, .slice none 0 0, .int .i64 0, .int .i64 0, .int .i64 0, .int .i64 0, .int .i64 0, .int .i64 0, .int .i64 0, .int .i64 0, .int .i64 0, .string ⟨#[]⟩, .int .i64 0, .string ⟨#[]⟩, .string ⟨#[]⟩, .int .i64 0, .slice none 0 0, .slice none 0 0, .slice none 0 0, .int .i64 0, .int .i64 0, .int .i64 0, .int .i64 0, .int .i64 0] 41)).setCells v1.heap.size 0 (gwL A1 (gwNewV rs p s b m)).toArray.toList) := Below.midG ((Below.refl _ _).alloc (Nat.le_refl _) _) (Nat.le_refl _) _
  have HBN : Hid _ := bn
  clear hz hnb bn
  unfold gwC
  go_upto_region 5 with (refine wpList_store_mid (by rfl) 41 (.tmp 7) (.tmp 23) (by rfl) v1.heap.size 0 (gwL A1 (gwNewV rs p s b m)).toArray (by rfl) (by rfl) HTZ.out gw_info (gwL_one _ _) ?_)
  generalize ((v1.alloc (.cells #[.slice none 0 0, .slice none 0 0, .int .i64 0, .int .i64 0, .int .i64 0, .int .i64 0, .int .i64 0, .int .i64 0, .int .i64 0, .int .i64 0, .int .i64 0, .string ⟨#[]⟩, .int .i64 0, .string ⟨#[]⟩, .string ⟨#[]⟩, .int .i64 0, .slice none 0 0, .slice none 0 0, .slice none 0 0, .int .i64 0, .int .i64 0, .int .i64 0, .int .i64 0, .int .i64 0] 41)).setCells v1.heap.size 0 (gwL A1 (gwNewV rs p s b m)).toArray.toList) = v2 at *
  clear HTZ
  have A_2 : Hid (Below w.heap.size w v2) := A_1.out.trans (HBN.out.mono A_1.out.size)
  have R_2 : Hid (RtsIs v2 ra rs) := R_1.out.below HBN.out
  have L_2 : Hid (SlIs strL1 1 v2 pa p.addrs) := L_1.out.below HBN.out
  have P_2 : Hid (HoldsL v2 P [.slice pa p.addrs.length pc, .int .i64 p.low, .int .i64 p.high, .int .i64 p.most, .int .i64 p.filter, .int .i64 p.lv.udp, .int .i64 p.lv.echo, .int .i64 p.lv.opening, .int .i64 p.lv.opn, .int .i64 p.lv.closing]) := P_1.out.kept (by simp) HBN.out
  have X_2 : Hid (HoldsL v2 (P + 1) [.string s, .int .i64 b]) := X_1.out.kept (by simp) HBN.out
  have Go_2 : Hid (GwO W0.heap.size v2 A1 (gwNewV rs p s b m)) := Go_1.out.kept HBN.out
  clear A_1 R_1 L_1 P_1 X_1 Go_1
  have hz102 : v1.heap.size ≤ v2.heap.size := HBN.out.size
  have G_2 : Hid (HoldsL v2 v1.heap.size (gwL A1 (gwNewV rs p s b m))) := HNB.out
  clear HNB HBN
  have cP0 : v2.cell? ⟨P, 0, none⟩ = some (.slice pa p.addrs.length pc) := P_2.out.cell rfl
  have cP1 : v2.cell? ⟨P, 1, none⟩ = some (.int .i64 p.low) := P_2.out.cell rfl
  have cP2 : v2.cell? ⟨P, 2, none⟩ = some (.int .i64 p.high) := P_2.out.cell rfl
  have cP3 : v2.cell? ⟨P, 3, none⟩ = some (.int .i64 p.most) := P_2.out.cell rfl
  have cP4 : v2.cell? ⟨P, 4, none⟩ = some (.int .i64 p.filter) := P_2.out.cell rfl
  have cP5 : v2.cell? ⟨P, 5, none⟩ = some (.int .i64 p.lv.udp) := P_2.out.cell rfl
  have cP6 : v2.cell? ⟨P, 6, none⟩ = some (.int .i64 p.lv.echo) := P_2.out.cell rfl
  have cP7 : v2.cell? ⟨P, 7, none⟩ = some (.int .i64 p.lv.opening) := P_2.out.cell rfl
  have cP8 : v2.cell? ⟨P, 8, none⟩ = some (.int .i64 p.lv.opn) := P_2.out.cell rfl
  have cP9 : v2.cell? ⟨P, 9, none⟩ = some (.int .i64 p.lv.closing) := P_2.out.cell rfl
  have cX0 : v2.cell? ⟨(P + 1), 0, none⟩ = some (.string s) := X_2.out.cell rfl
  have cX1 : v2.cell? ⟨(P + 1), 1, none⟩ = some (.int .i64 b) := X_2.out.cell rfl
  go_wp2_with fail
  refine (specGwNew_any ra rc rs pa pc p s b m _ (by omega) hrc HRI.out hpn hpc HPS.out (by omega) R_2.out L_2.out).mono ?_
  rintro e v3 ⟨⟨A3, rfl, ho⟩, q⟩
  clear cP0 cP1 cP2 cP3 cP4 cP5 cP6 cP7 cP8 cP9 cX0 cX1
  have A_3 : Hid (Below w.heap.size w v3) := A_2.out.trans (q.mono A_2.out.size)
  have R_3 : Hid (RtsIs v3 ra rs) := R_2.out.below q
  have L_3 : Hid (SlIs strL1 1 v3 pa p.addrs) := L_2.out.below q
  have P_3 : Hid (HoldsL v3 P [.slice pa p.addrs.length pc, .int .i64 p.low, .int .i64 p.high, .int .i64 p.most, .int .i64 p.filter, .int .i64 p.lv.udp, .int .i64 p.lv.echo, .int .i64 p.lv.opening, .int .i64 p.lv.opn, .int .i64 p.lv.closing]) := P_2.out.kept (by simp) q
  have X_3 : Hid (HoldsL v3 (P + 1) [.string s, .int .i64 b]) := X_2.out.kept (by simp) q
  have Go_3 : Hid (GwO W0.heap.size v3 A1 (gwNewV rs p s b m)) := Go_2.out.kept q
  have G_3 : Hid (HoldsL v3 v1.heap.size (gwL A1 (gwNewV rs p s b m))) := G_2.out.kept (by rw [gwL_len]; omega) q
  clear A_2 R_2 L_2 P_2 X_2 Go_2 G_2
  have hz103 : v2.heap.size ≤ v3.heap.size := q.size
  clear q
  have So_3 : Hid (GwB v2.heap.size v3 A3 (gwNewV rs p s b m)) := ho
  clear ho
  have hz : HoldsL (v3.alloc (.cells #[.slice none 0 0, .slice none 0 0, .int .i64 0, .int .i64 0, .int .i64 0, .int .i64 0, .int .i64 0, .int .i64 0, .int .i64 0, .int .i64 0, .int .i64 0, .string ⟨#[]⟩, .int .i64 0, .string ⟨#[]⟩, .string ⟨#[]⟩, .int .i64 0, .slice none 0 0, .slice none 0 0, .slice none 0 0, .int .i64 0, .int .i64 0, .int .i64 0, .int .i64 0, .int .i64 0] 41)) v3.heap.size gwZ := HoldsL.new v3 [.slice none 0 0, .slice none 0 0, .int .i64 0, .int .i64 0, .int .i64 0, .int .i64 0, .int .i64 0, .int .i64 0, .int .i64 0, .int .i64 0, .int .i64 0, .string ⟨#[]⟩, .int .i64 0, .string ⟨#[]⟩, .string ⟨#[]⟩, .int .i64 0, .slice none 0 0, .slice none 0 0, .slice none 0 0, .int .i64 0, .int .i64 0, .int .i64 0, .int .i64 0, .int .i64 0] 41
  have HTZ : Hid ((v3.alloc (.cells #[.slice none 0 0, .slice none 0 0, .int .i64 0, .int .i64 0, .int .i64 0, .int .i64 0, .int .i64 0, .int .i64 0, .int .i64 0, .int .i64 0, .int .i64 0, .string ⟨#[]⟩, .int .i64 0, .string ⟨#[]⟩, .string ⟨#[]⟩, .int .i64 0, .slice none 0 0, .slice none 0 0, .slice none 0 0, .int .i64 0, .int .i64 0, .int .i64 0, .int .i64 0, .int .i64 0] 41)).there v3.heap.size 0 (gwL A3 (gwNewV rs p s b m)).toArray.size) := gwL_there hz rfl _ _
  have hnb : HoldsL ((v3.alloc (.cells #[.slice none 0 0, .slice none 0 0, .int .i64 0, .int .i64 0, .int .i64 0, .int .i64 0, .int .i64 0, .int .i64 0, .int .i64 0, .int .i64 0, .int .i64 0, .string ⟨#[]⟩, .int .i64 0, .string ⟨#[]⟩, .string ⟨#[]⟩, .int .i64 0, .slice none 0 0, .slice none 0 0, .slice none 0 0, .int .i64 0, .int .i64 0, .int .i64 0, .int .i64 0, .int .i64 0] 41)).setCells v3.heap.size 0 (gwL A3 (gwNewV rs p s b m)).toArray.toList) v3.heap.size (gwL A3 (gwNewV rs p s b m)) := hz.midG rfl
  have HNB : Hid _ := hnb
  have bn : Below v3.heap.size v3 ((v3.alloc (.cells #[.slice none 0 0, .slice none 0 0, .int .i64 0, .int .i64 0, .int .i64 0, .int .i64 0, .int .i64 0, .int .i64 0, .int .i64 0, .int .i64 0, .int .i64 0, .string ⟨#[]⟩, .int .i64 0, .string ⟨#[]⟩, .string ⟨#[]⟩, .int .i64 0, .slice none 0 0, .slice none 0 0, .slice none 0 0, .int .i64 0, .int .i64 0, .int .i64 0, .int .i64 0, .int .i64 0] 41)).setCells v3.heap.size 0 (gwL A3 (gwNewV rs p s b m)).toArray.toList) := Below.midG ((Below.refl _ _).alloc (Nat.le_refl _) _) (Nat.le_refl _) _
  have HBN : Hid _ := bn
  clear hz hnb bn
  unfold gwC
  go_upto_region 6 with (refine wpList_store_mid (by rfl) 41 (.tmp 8) (.tmp 28) (by rfl) v3.heap.size 0 (gwL A3 (gwNewV rs p s b m)).toArray (by rfl) (by rfl) HTZ.out gw_info (gwL_one _ _) ?_)
  generalize ((v3.alloc (.cells #[.slice none 0 0, .slice none 0 0, .int .i64 0, .int .i64 0, .int .i64 0, .int .i64 0, .int .i64 0, .int .i64 0, .int .i64 0, .int .i64 0, .int .i64 0, .string ⟨#[]⟩, .int .i64 0, .string ⟨#[]⟩, .string ⟨#[]⟩, .int .i64 0, .slice none 0 0, .slice none 0 0, .slice none 0 0, .int .i64 0, .int .i64 0, .int .i64 0, .int .i64 0, .int .i64 0] 41)).setCells v3.heap.size 0 (gwL A3 (gwNewV rs p s b m)).toArray.toList) = v4 at *
  clear HTZ
  have A_4 : Hid (Below w.heap.size w v4) := A_3.out.trans (HBN.out.mono A_3.out.size)
  have R_4 : Hid (RtsIs v4 ra rs) := R_3.out.below HBN.out
  have L_4 : Hid (SlIs strL1 1 v4 pa p.addrs) := L_3.out.below HBN.out
  have P_4 : Hid (HoldsL v4 P [.slice pa p.addrs.length pc, .int .i64 p.low, .int .i64 p.high, .int .i64 p.most, .int .i64 p.filter, .int .i64 p.lv.udp, .int .i64 p.lv.echo, .int .i64 p.lv.opening, .int .i64 p.lv.opn, .int .i64 p.lv.closing]) := P_3.out.kept (by simp) HBN.out
  have X_4 : Hid (HoldsL v4 (P + 1) [.string s, .int .i64 b]) := X_3.out.kept (by simp) HBN.out
  have Go_4 : Hid (GwO W0.heap.size v4 A1 (gwNewV rs p s b m)) := Go_3.out.kept HBN.out
  have G_4 : Hid (HoldsL v4 v1.heap.size (gwL A1 (gwNewV rs p s b m))) := G_3.out.kept (by rw [gwL_len]; omega) HBN.out
  have So_4 : Hid (GwB v2.heap.size v4 A3 (gwNewV rs p s b m)) := So_3.out.kept HBN.out
  clear A_3 R_3 L_3 P_3 X_3 Go_3 G_3 So_3
  have hz104 : v3.heap.size ≤ v4.heap.size := HBN.out.size
  have S_4 : Hid (HoldsL v4 v3.heap.size (gwL A3 (gwNewV rs p s b m))) := HNB.out
  clear HNB HBN
  rcases HVC.out with hV | ⟨hV, hok⟩
  case inl =>
    have HG : Hid (HoldsL v4 v1.heap.size (gwL A1 gwZero)) := by have h := G_4.out; rw [hV] at h; exact h
    have HS : Hid (HoldsL v4 v3.heap.size (gwL A3 gwZero)) := by have h := S_4.out; rw [hV] at h; exact h
    have HO : Hid (GwO W0.heap.size v4 A1 gwZero) := by have h := Go_4.out; rw [hV] at h; exact h
    have HR : Hid (Calls Tryz.prog 9 #[.agg (gwL A1 gwZero).toArray] v4 fun e w' => e = .returned (.bool (gwOk gwZero)) ∧ Below v4.heap.size v4 w') := implGwRight_any A1 gwZero _ (gwSm_zero _) HO.out.is
    have hok : gwOk gwZero = false := gwOk_zero
    rw [hok] at HR
    have g0 : v4.cell? ⟨v1.heap.size, 0, none⟩ = some (.slice A1.ra 0 A1.rc) := HG.out.cell rfl
    have g15 : v4.cell? ⟨v1.heap.size, 15, none⟩ = some (.int .i64 0) := HG.out.cell rfl
    have t0 : v4.cell? ⟨v3.heap.size, 0, none⟩ = some (.slice A3.ra 0 A3.rc) := HS.out.cell rfl
    have t15 : v4.cell? ⟨v3.heap.size, 15, none⟩ = some (.int .i64 0) := HS.out.cell rfl
    clear hV hok HVC
    go_upto_region 8 with fail
    go_wp2_with (first | (refine wpList_load_g ?gw 41 (.tmp 7) (by rfl) (v1.heap.size) 0 (by rfl) (gwL A1 gwZero) _ HG.out.at0 Tryz.underlying41 rfl gw_info ?_; case gw => (first | rfl | (simp [Region.wanted, yielded]; done))) | fail)
    refine Calls.mono HR.out ?_
    rintro e vz ⟨rfl, q⟩
    have AZ : Hid (Below w.heap.size w vz) := A_4.out.trans (q.mono A_4.out.size)
    clear q
    go_wp2_with fail
    go_ret
    exact ⟨rfl, AZ.out⟩
  case inr =>
    have HG : Hid (HoldsL v4 v1.heap.size (gwL A1 (gwOf rs p s b m))) := by have h := G_4.out; rw [hV] at h; exact h
    have HS : Hid (HoldsL v4 v3.heap.size (gwL A3 (gwOf rs p s b m))) := by have h := S_4.out; rw [hV] at h; exact h
    have HO : Hid (GwO W0.heap.size v4 A1 (gwOf rs p s b m)) := by have h := Go_4.out; rw [hV] at h; exact h
    have HR : Hid (Calls Tryz.prog 9 #[.agg (gwL A1 (gwOf rs p s b m)).toArray] v4 fun e w' => e = .returned (.bool (gwOk (gwOf rs p s b m))) ∧ Below v4.heap.size v4 w') := implGwRight_any A1 (gwOf rs p s b m) _ (gwOf_sm (by omega) HO.out.caps.1 HRI.out hpn HO.out.caps.2 HPS.out (by omega)) HO.out.is
    rw [hok] at HR
    have hm : 1280 ≤ m := gwOk_mtu hok
    have g0 : v4.cell? ⟨v1.heap.size, 0, none⟩ = some (.slice A1.ra rs.length A1.rc) := HG.out.cell rfl
    have g15 : v4.cell? ⟨v1.heap.size, 15, none⟩ = some (.int .i64 m) := HG.out.cell rfl
    have t0 : v4.cell? ⟨v3.heap.size, 0, none⟩ = some (.slice A3.ra rs.length A3.rc) := HS.out.cell rfl
    have t15 : v4.cell? ⟨v3.heap.size, 15, none⟩ = some (.int .i64 m) := HS.out.cell rfl
    have dm : (m == 0) = false := by simp; omega
    have dm2 : ¬ m = 0 := by omega
    clear hV hok HVC
    go_upto_region 8 with fail
    go_wp2_with (first | (refine wpList_load_g ?gw 41 (.tmp 7) (by rfl) (v1.heap.size) 0 (by rfl) (gwL A1 (gwOf rs p s b m)) _ HG.out.at0 Tryz.underlying41 rfl gw_info ?_; case gw => (first | rfl | (simp [Region.wanted, yielded]; done))) | fail)
    refine Calls.mono HR.out ?_
    rintro e vz ⟨rfl, q⟩
    have AZ : Hid (Below w.heap.size w vz) := A_4.out.trans (q.mono A_4.out.size)
    have HGz : Hid (HoldsL vz v1.heap.size (gwL A1 (gwOf rs p s b m))) := HG.out.kept (by rw [gwL_len]; omega) q
    have z16 : vz.cell? ⟨v1.heap.size, 16, none⟩ = some (.slice A1.ba 0 A1.ca) := HGz.out.cell rfl
    have z23 : vz.cell? ⟨v1.heap.size, 23, none⟩ = some (.int .i64 0) := HGz.out.cell rfl
    clear q
    go_wp2_with fail
    go_ret
    exact ⟨rfl, AZ.out⟩
end Go.Proofs.YthagnjokdnnmpaaGreat
namespace Go.Proofs.YthagnjokdnnmpaaGreat
open Go.RowKit
theorem bytes_of_row {w:World} {a:Option Addr} {len cap:Nat} {zs:List Int}
  (h:(a=none∧len=0∧cap=0∧zs=[])∨∃ x,a=some x∧len≤cap∧cap≤maxLen∧zs.length=cap∧(∀ i,i < zs.length→w.cell? (x.add i)=some (.int .u8 (zs.getD i 0)))∧∀ n∈zs,(Lit.int .u8 n).wf=true) :
  Bytes w a len w.heap.size:=by
 refine ⟨fun i hi=>?_⟩;rcases h with ⟨_,h0,_⟩ | ⟨⟨b,off,spot⟩,rfl,hl,_,hz,hc,hw⟩
 ·omega
 ·have hci:=hc i (by omega);have hsp:spot=none:=by
   have:=hc 0 (by omega);simpa [Addr.add] using World.cell?_spot this
  subst hsp;have hwf:=hw (zs.getD i 0) (by rw [List.getD,List.getElem?_eq_getElem (by omega)]; exact List.getElem_mem _);have hbd:0≤zs.getD i 0∧zs.getD i 0≤255:=by simpa [Lit.wf,IntKind.min,IntKind.max,IntKind.signed,IntKind.bits] using hwf
  have hci':w.cell? ⟨b,off+i,none⟩=some (.int .u8 (zs.getD i 0)):=by
   have e:Addr.add ⟨b,off,none⟩ i=⟨b,off+i,none⟩:=by simp only [Addr.add]; split<;>simp_all
   rw [← e]; exact hci
  exact ⟨b,off,rfl,World.block_lt_of_cell? w _ hci',zs.getD i 0,hbd.1,hbd.2,hci'⟩
end Go.Proofs.YthagnjokdnnmpaaGreat
