/- TickW: the law FnTick, walked. Printed by mktickw.py. -/
import Derived.Test.YtllagodlgipcpaaDrawTick
import Derived.Test.YtllagodlgipcpaaITick9
import Derived.Test.YtllagodlgipcpaaMerged23
import Derived.Test.YtllagodlgipcpaaSBibR
import Derived.Test.YtllagodlgipcpaaLwSame
import Derived.Test.YtllagodlgipcpaaMerged24
import Derived.Test.YtllagodlgipcpaaMerged16
import Derived.Test.YtllagodlgipcpaaMerged21
namespace Go.Proofs.Ytllagodlgipcpaa
open Go.RowKit Go.PlainAid
set_option linter.unusedVariables false
set_option linter.unusedSimpArgs false

theorem filter_at {α : Type} (p : α → Bool) (xs : List α) (i : Nat) (h : i < xs.length) (hp : p xs[i] = true) : ∃ hn : ((xs.take i).filter p).length < (xs.filter p).length, (xs.filter p)[((xs.take i).filter p).length] = xs[i] := by
 have e : xs.filter p = (xs.take i).filter p ++ (xs[i] :: (xs.drop (i + 1)).filter p) := by
  conv => lhs; rw [← List.take_append_drop i xs]
  rw [List.filter_append, List.drop_eq_getElem_cons h, List.filter_cons_of_pos hp]
 have hl : ((xs.take i).filter p).length < (xs.filter p).length := by rw [e]; simp
 refine ⟨hl, ?_⟩
 have : (xs.filter p)[((xs.take i).filter p).length]? = some xs[i] := by
  conv => lhs; rw [e]
  rw [List.getElem?_append_right (Nat.le_refl _)]; simp
 rw [List.getElem?_eq_getElem hl] at this
 exact Option.some.inj this
theorem tick_sub {p : Pl} {x : Bb} {now : Int} : (∀ q ∈ (bibTickV p x now).binds, q ∈ x.binds) ∧ (∀ s ∈ (bibTickV p x now).sess, s ∈ x.sess) ∧ (bibTickV p x now).binds.length ≤ x.binds.length ∧ (bibTickV p x now).sess.length ≤ x.sess.length := by
 unfold bibTickV
 split
 ·exact ⟨fun q hq => (List.mem_filter.1 hq).1, fun s hs => (List.mem_filter.1 hs).1, List.length_filter_le _ _, List.length_filter_le _ _⟩
 ·exact ⟨fun q hq => (by cases hq), fun s hs => (by cases hs), Nat.zero_le _, Nat.zero_le _⟩
/-- The boxes, the pool's texts, the bib drawn and the one told. -/
structure TkS (w : World) (ks : List (Nat × List Value)) (pa : Option Addr) (p : Pl) (ba bo : Option Addr) (x : Bb) (xa xb : Option Addr) (y : Bb) (wx : World) : Prop where
 bx : Bxs w ks wx
 pl : SlIs strL1 1 wx pa p.addrs
 bb : BbIs wx ba bo x
 yy : BbIs wx xa xb y
theorem TkS.kept {w : World} {ks : List (Nat × List Value)} {pa : Option Addr} {p : Pl} {ba bo : Option Addr} {x : Bb} {xa xb : Option Addr} {y : Bb} {wx wy : World} (h : TkS w ks pa p ba bo x xa xb y wx) (hb : Below wx.heap.size wx wy) : TkS w ks pa p ba bo x xa xb y wy := ⟨h.bx.kept hb, h.pl.below hb, h.bb.below hb, h.yy.below hb⟩
def IsBk (y : Bb) : Value → World → Prop := fun v w => ∃ a b ca cb, v = bbC a b ca cb y ∧ BbIs w a b y
theorem stable_isBk (y : Bb) : Stable (IsBk y) := fun v w w' ⟨a, b, ca, cb, h1, h2⟩ hb => ⟨a, b, ca, cb, h1, h2.below hb⟩
theorem slis_set {α : Type} {en : α → List Value} {n g : Nat} {w : World} {a : Option Addr} {xs : List α} (h : SlIs en n w a xs) (hne : xs = [] ∨ ∀ g' o, a = some ⟨g', o, none⟩ → g' ≠ g) (j : Nat) (u : Value) : SlIs en n (w.setCell ⟨g, j, none⟩ u) a xs := by
 rcases h with h | ⟨b, off, ha, hb, hr⟩
 ·exact .inl h
 ·rcases hne with h0 | hne
  ·exact .inl h0
  ·exact .inr ⟨b, off, ha, by simpa [World.setCell] using hb, fun i hi k v hv => (World.cell?_setCell_other _ _ _ _ (fun e2 => hne b off ha (by injection e2 with e3 _; exact e3.symm))).trans (hr i hi k v hv)⟩
theorem bb_set {base g : Nat} {w : World} {a b : Option Addr} {y : Bb} (h : BbOwn base w a b y) (hg : HoldsL w g [.slice none 0 0, .slice none 0 0]) (u v : Value) : BbIs ((w.setCell ⟨g, 0, none⟩ u).setCell ⟨g, 1, none⟩ v) a b y := by
 have h1 := own_box h.bd (fun q => ⟨_, _, rfl⟩) hg
 have h2 := own_box h.ss (fun q => ⟨_, _, rfl⟩) hg
 exact ⟨slis_set (slis_set h.bd.is h1 0 u) h1 1 v, slis_set (slis_set h.ss.is h2 0 u) h2 1 v⟩
def IsBo (base : Nat) (y : Bb) : Value → World → Prop := fun v w => ∃ a b ca cb, v = bbC a b ca cb y ∧ BbOwn base w a b y
theorem stable_isBo (base : Nat) (y : Bb) : Stable (IsBo base y) := fun v w w' ⟨a, b, ca, cb, h1, h2⟩ hb => ⟨a, b, ca, cb, h1, h2.kept hb⟩
def IsTm (now : Int) : Value → World → Prop := fun v _ => ∃ m, v = .int .i64 m ∧ 0 ≤ m ∧ m ≤ now
theorem stable_isTm (now : Int) : Stable (IsTm now) := fun _ _ _ h _ => h
def IsBt (p : Pl) (x : Bb) (now : Int) : Value → World → Prop := fun v w => ∃ m, 0 ≤ m ∧ m ≤ now ∧ IsBk (bibTickV p x m) v w
theorem stable_isBt (p : Pl) (x : Bb) (now : Int) : Stable (IsBt p x now) := fun v w w' ⟨m, h1, h2, h3⟩ hb => ⟨m, h1, h2, stable_isBk _ v w w' h3 hb⟩

set_option maxRecDepth 100000 in
set_option maxHeartbeats 8000000 in
theorem tickWalk (a0 : Option Addr) (len0 cap0 : Nat) (a1 : Option Addr) (len1 cap1 : Nat) (w : World) (h0 : len0 ≤ 1048576) (h1 : len1 ≤ 1048576) (b0 : Bytes w a0 len0 w.heap.size) (b1 : Bytes w a1 len1 w.heap.size) :
  Calls Try.prog 4 #[.slice a0 len0 cap0, .slice a1 len1 cap1] w fun e w' => e = .returned (.bool true) ∧ Below w.heap.size w w' := by
 have HLA : Hid (∀ W (n : Int), n ≤ 1000 → Below w.heap.size w W → Calls Try.prog 16 #[.slice a1 len1 cap1, .int .i64 0, .int .i64 n] W fun e w' => (∃ m, e = .returned (.int .i64 m) ∧ 0 ≤ m ∧ (m < n ∨ m = 0)) ∧ Below W.heap.size W w') := fun W n hn hW => (lwAt_any a1 len1 cap1 0 n w.heap.size W (by omega) (by omega) h1 (by omega) (b1.kept (grown_of_below (r := none) hW) (by simp))).mono fun e w' ⟨r, e1, e2, e3, e4, _⟩ => ⟨⟨r, e1, e3, e4⟩, by rw [e2]; exact Below.refl _ _⟩
 have HD0 : Hid _ := drawBibTick_any a0 len0 cap0 w h0 b0
 have l0 : ¬ (1048576 : Int) < len0 := by omega
 have l1 : ¬ (1048576 : Int) < len1 := by omega
 clear b0 b1
 go_enter Try.func4, Try.ntmps4
 go_wp2_with fail
 refine Calls.mono HD0.out ?_
 rintro e w1 ⟨pa, pc, p, ba, bo, ca, cb, x, now, rfl, hpd, hpc, hbd, hn0, hn1, hpl, hbb, qq⟩
 clear HD0
 have c1 : p.addrs.length ≤ 1048576 := by have := hpd.2.1; omega
 have HPS : Hid (∀ s ∈ p.addrs, s.size ≤ 1048576) := fun s hs => by have := hpd.2.2 s hs; omega
 have c2 : x.binds.length ≤ 100 := hbd.1
 have c3 : x.sess.length ≤ 100 := hbd.2.1
 have HGB : Hid (∀ q ∈ x.binds, BdGood q) := fun q hq => (hbd.2.2.1 q hq).good
 have HGS : Hid (∀ s ∈ x.sess, SsGood s) := fun s hs => (hbd.2.2.2 s hs).good
 clear hpd hbd
 have HI : Hid (∀ W, SlIs strL1 1 W pa p.addrs → BbIs W ba bo x → ∀ m, Calls Try.prog 12 #[plC pa pc p, bbC ba bo ca cb x, .int .i64 m] W fun e w' => BbRet W.heap.size (bibTickV p x m) e w' ∧ Below W.heap.size W w') := fun W h1 h2 m => implBibTick_any pa pc p ba bo ca cb x m W c1 hpc HPS.out (by omega) (by omega) HGB.out HGS.out h1 h2
 have HIn : Hid (∀ W, SlIs strL1 1 W pa p.addrs → BbIs W ba bo x → Calls Try.prog 12 #[plC pa pc p, bbC ba bo ca cb x, .int .i64 now] W fun e w' => BbRet W.heap.size (bibTickV p x now) e w' ∧ Below W.heap.size W w') := fun W h1 h2 => HI.out W h1 h2 now
 have HI2 : Hid (∀ W m a b cc cd, SlIs strL1 1 W pa p.addrs → BbIs W a b (bibTickV p x m) → Calls Try.prog 12 #[plC pa pc p, bbC a b cc cd (bibTickV p x m), .int .i64 now] W fun e w' => BbRet W.heap.size (bibTickV p (bibTickV p x m) now) e w' ∧ Below W.heap.size W w') := fun W m a b cc cd h1 h2 => by
  obtain ⟨t1, t2, t3, t4⟩ := @tick_sub p x m
  exact implBibTick_any pa pc p a b cc cd _ now W c1 hpc HPS.out (by omega) (by omega) (fun q hq => HGB.out q (t1 q hq)) (fun s hs => HGS.out s (t2 s hs)) h1 h2
 have HSp : Hid (∀ W, SlIs strL1 1 W pa p.addrs → BbIs W ba bo x → Calls Try.prog 14 #[plC pa pc p, bbC ba bo ca cb x, .int .i64 now] W fun e w' => BbRet W.heap.size (bibTickV p x now) e w' ∧ Below W.heap.size W w') := fun W h1 h2 => specBibTick_any p x pa pc ba bo ca cb now W c1 hpc HPS.out (by omega) (by omega) h1 h2
 have HBR : Hid (∀ W, SlIs strL1 1 W pa p.addrs → BbIs W ba bo x → Calls Try.prog 15 #[plC pa pc p, bbC ba bo ca cb x] W fun e w' => e = .returned (.bool (bibOk p x)) ∧ Below W.heap.size W w') := fun W h1 h2 => specBib_any p x pa pc ba bo ca cb W c1 hpc HPS.out (by omega) (by omega) h1 h2
 have hsub := @tick_sub p x now
 have d2 : (bibTickV p x now).binds.length ≤ 100 := by omega
 have d3 : (bibTickV p x now).sess.length ≤ 100 := by omega
 have HBY : Hid (∀ W a b cc cd, SlIs strL1 1 W pa p.addrs → BbIs W a b (bibTickV p x now) → Calls Try.prog 15 #[plC pa pc p, bbC a b cc cd (bibTickV p x now)] W fun e w' => e = .returned (.bool (bibOk p (bibTickV p x now))) ∧ Below W.heap.size W w') := fun W a b cc cd h1 h2 => specBib_any p _ pa pc a b cc cd W c1 hpc HPS.out (by omega) (by omega) h1 h2
 have HLW : Hid (∀ W a b cc cd a' b' cc' cd', BbIs W a b (bibTickV p x now) → BbIs W a' b' (bibTickV p x now) → Calls Try.prog 13 #[bbC a b cc cd (bibTickV p x now), bbC a' b' cc' cd' (bibTickV p x now)] W fun e w' => e = .returned (.bool true) ∧ Below W.heap.size W w') := fun W a b cc cd a' b' cc' cd' h1 h2 => lwSame_same _ a b a' b' cc cd cc' cd' W (by omega) (by omega) h1 h2
 have HT : Hid (isTime now = true) := by unfold Hid isTime isIn; simp; omega
 have HOK : Hid (bibOk p x = true → bibOk p (bibTickV p x now) = true ∧ (bibTickV p x now).sess = x.sess.filter (lateS now) ∧ ∀ m, 0 ≤ m → m ≤ now → bibTickV p (bibTickV p x m) now = bibTickV p x now) := fun h => ⟨by rw [(bibTick_right h HT.out).1]; exact (bibTick_right h HT.out).2, tick_sess h HT.out, fun m m0 m1 => bibTick_twice h (by unfold isTime isIn; simp; omega) HT.out m1⟩
 have HNO : Hid (bibOk p x = false → (bibTickV p x now).sess.length = 0) := fun h => by unfold bibTickV; rw [h]; rfl
 clear HPS HGB HGS hpc hsub HT
 generalize hy : bibTickV p x now = y at *
 clear hy
 have S1 : Hid (Bxs w [(w1.heap.size + 1, [.slice ba x.binds.length ca, .slice bo x.sess.length cb]), (w1.heap.size, [.slice pa p.addrs.length pc, .int .i64 p.low, .int .i64 p.high, .int .i64 p.most, .int .i64 p.filter, .int .i64 p.lv.udp, .int .i64 p.lv.echo, .int .i64 p.lv.opening, .int .i64 p.lv.opn, .int .i64 p.lv.closing])] ((w1.alloc (.cells #[.slice pa p.addrs.length pc, .int .i64 p.low, .int .i64 p.high, .int .i64 p.most, .int .i64 p.filter, .int .i64 p.lv.udp, .int .i64 p.lv.echo, .int .i64 p.lv.opening, .int .i64 p.lv.opn, .int .i64 p.lv.closing] 27)).alloc (.cells #[.slice ba x.binds.length ca, .slice bo x.sess.length cb] 31))) := by
  have h := ((⟨fun e he => (by cases he), qq, fun e he => (by cases he)⟩ : Bxs w [] w1).push [.slice pa p.addrs.length pc, .int .i64 p.low, .int .i64 p.high, .int .i64 p.most, .int .i64 p.filter, .int .i64 p.lv.udp, .int .i64 p.lv.echo, .int .i64 p.lv.opening, .int .i64 p.lv.opn, .int .i64 p.lv.closing] (by simp) 27).push [.slice ba x.binds.length ca, .slice bo x.sess.length cb] (by simp) 31
  rw [World.size_alloc] at h
  exact h
 have hbl : Below w1.heap.size w1 ((w1.alloc (.cells #[.slice pa p.addrs.length pc, .int .i64 p.low, .int .i64 p.high, .int .i64 p.most, .int .i64 p.filter, .int .i64 p.lv.udp, .int .i64 p.lv.echo, .int .i64 p.lv.opening, .int .i64 p.lv.opn, .int .i64 p.lv.closing] 27)).alloc (.cells #[.slice ba x.binds.length ca, .slice bo x.sess.length cb] 31)) := ((Below.refl _ _).alloc (Nat.le_refl _) _).alloc (by simp) _
 have P1 : Hid (SlIs strL1 1 ((w1.alloc (.cells #[.slice pa p.addrs.length pc, .int .i64 p.low, .int .i64 p.high, .int .i64 p.most, .int .i64 p.filter, .int .i64 p.lv.udp, .int .i64 p.lv.echo, .int .i64 p.lv.opening, .int .i64 p.lv.opn, .int .i64 p.lv.closing] 27)).alloc (.cells #[.slice ba x.binds.length ca, .slice bo x.sess.length cb] 31)) pa p.addrs) := hpl.below hbl
 have B1 : Hid (BbIs ((w1.alloc (.cells #[.slice pa p.addrs.length pc, .int .i64 p.low, .int .i64 p.high, .int .i64 p.most, .int .i64 p.filter, .int .i64 p.lv.udp, .int .i64 p.lv.echo, .int .i64 p.lv.opening, .int .i64 p.lv.opn, .int .i64 p.lv.closing] 27)).alloc (.cells #[.slice ba x.binds.length ca, .slice bo x.sess.length cb] 31)) ba bo x) := hbb.below hbl
 have hpw : w.heap.size ≤ w1.heap.size := qq.size
 clear hbl hpl hbb qq
 unfold plC bbC at *
 go_upto_region 4 with fail
 generalize (w1.alloc (.cells #[.slice pa p.addrs.length pc, .int .i64 p.low, .int .i64 p.high, .int .i64 p.most, .int .i64 p.filter, .int .i64 p.lv.udp, .int .i64 p.lv.echo, .int .i64 p.lv.opening, .int .i64 p.lv.opn, .int .i64 p.lv.closing] 27)).alloc (.cells #[.slice ba x.binds.length ca, .slice bo x.sess.length cb] 31) = W1 at *
 have HHk := S1.out.at (.tail _ (.head _))
 have k0 := HHk.cell (j := 0) rfl
 have k1 := HHk.cell (j := 1) rfl
 have k2 := HHk.cell (j := 2) rfl
 have k3 := HHk.cell (j := 3) rfl
 have k4 := HHk.cell (j := 4) rfl
 have k5 := HHk.cell (j := 5) rfl
 have k6 := HHk.cell (j := 6) rfl
 have k7 := HHk.cell (j := 7) rfl
 have k8 := HHk.cell (j := 8) rfl
 have k9 := HHk.cell (j := 9) rfl
 clear HHk
 have HHl := S1.out.at (.head _)
 have l0 := HHl.cell (j := 0) rfl
 have l1 := HHl.cell (j := 1) rfl
 clear HHl
 go_wp2_with fail
 refine (HIn.out W1 P1.out B1.out).mono ?_
 rintro e w2 ⟨⟨xa, xb, cxa, cxb, rfl, hown⟩, q2⟩
 unfold bbC
 have hb2 : Below w2.heap.size w2 (w2.alloc (.cells #[.slice xa y.binds.length cxa, .slice xb y.sess.length cxb] 31)) := (Below.refl _ _).alloc (Nat.le_refl _) _
 have S2 : Hid (TkS w ((w2.heap.size, [.slice xa y.binds.length cxa, .slice xb y.sess.length cxb]) :: [(w1.heap.size + 1, [.slice ba x.binds.length ca, .slice bo x.sess.length cb]), (w1.heap.size, [.slice pa p.addrs.length pc, .int .i64 p.low, .int .i64 p.high, .int .i64 p.most, .int .i64 p.filter, .int .i64 p.lv.udp, .int .i64 p.lv.echo, .int .i64 p.lv.opening, .int .i64 p.lv.opn, .int .i64 p.lv.closing])]) pa p ba bo x xa xb y (w2.alloc (.cells #[.slice xa y.binds.length cxa, .slice xb y.sess.length cxb] 31))) := ⟨(S1.out.kept q2).push [.slice xa y.binds.length cxa, .slice xb y.sess.length cxb] (by simp) _, (P1.out.below q2).below hb2, (B1.out.below q2).below hb2, hown.is.below hb2⟩
 have hx1 : w1.heap.size + 1 < w2.heap.size := ((S1.out.kept q2).k _ (.head _)).lt (by simp)
 clear q2 hb2 hown S1 P1 B1 k0 k1 k2 k3 k4 k5 k6 k7 k8 k9 l0 l1
 go_upto_region 5 with fail
 generalize w2.alloc (.cells #[.slice xa y.binds.length cxa, .slice xb y.sess.length cxb] 31) = W2 at *
 generalize w2.heap.size = Xb at *
 go_cut [36] (fun v wx => v = .bool false ∧ TkS w [(Xb, [.slice xa y.binds.length cxa, .slice xb y.sess.length cxb]), (w1.heap.size + 1, [.slice ba x.binds.length ca, .slice bo x.sess.length cb]), (w1.heap.size, [.slice pa p.addrs.length pc, .int .i64 p.low, .int .i64 p.high, .int .i64 p.most, .int .i64 p.filter, .int .i64 p.lv.udp, .int .i64 p.lv.echo, .int .i64 p.lv.opening, .int .i64 p.lv.opn, .int .i64 p.lv.closing])] pa p ba bo x xa xb y wx)
 case first =>
  rename_i J K2 hJ hK2
  have HCP : Hid (∀ wy, Below W2.drew.heap.size W2.drew wy → _) := fun wy hy => S2.out.kept ((Below.refl _ _).drew.trans hy)
  refine wp_region_growH [30, 31, 32, 33, 34, 35, 36] (by kernel_rfl) (by kernel_rfl) ?_
  refine GCh.val (n := 0) (fun v => [IsV v]) (fun _ => rfl) rfl ?_
  apply Exists.intro
  refine And.intro ?_ ?_
  ·intro K' a wy ho hd hb hK
   rw [if_pos (wanted_none rfl)]
   have o8 := ho 8 (by decide)
   simp [slot] at o8
   clear hd ho
   have hst := HCP.out wy hb
   have HHk := hst.bx.at (.tail _ (.tail _ (.head _)))
   have k0 := HHk.cell (j := 0) rfl
   have k1 := HHk.cell (j := 1) rfl
   have k2 := HHk.cell (j := 2) rfl
   have k3 := HHk.cell (j := 3) rfl
   have k4 := HHk.cell (j := 4) rfl
   have k5 := HHk.cell (j := 5) rfl
   have k6 := HHk.cell (j := 6) rfl
   have k7 := HHk.cell (j := 7) rfl
   have k8 := HHk.cell (j := 8) rfl
   have k9 := HHk.cell (j := 9) rfl
   clear HHk
   have HHl := hst.bx.at (.tail _ (.head _))
   have l0 := HHl.cell (j := 0) rfl
   have l1 := HHl.cell (j := 1) rfl
   clear HHl
   have HHm := hst.bx.at (.head _)
   have m0 := HHm.cell (j := 0) rfl
   have m1 := HHm.cell (j := 1) rfl
   clear HHm
   clear hst
   go_simp
   try go_bits
   exact hK _ _ rfl (Below.refl _ _)
  refine GCh.val (n := 1) (fun v => [_, IsV v]) (fun _ => rfl) rfl ?_
  apply Exists.intro
  refine And.intro ?_ ?_
  ·intro K' a wy ho hd hb hK
   rw [if_pos (wanted_none rfl)]
   have o5 := ho 5 (by decide)
   simp [slot] at o5
   clear hd ho
   have hst := HCP.out wy hb
   have HHk := hst.bx.at (.tail _ (.tail _ (.head _)))
   have k0 := HHk.cell (j := 0) rfl
   have k1 := HHk.cell (j := 1) rfl
   have k2 := HHk.cell (j := 2) rfl
   have k3 := HHk.cell (j := 3) rfl
   have k4 := HHk.cell (j := 4) rfl
   have k5 := HHk.cell (j := 5) rfl
   have k6 := HHk.cell (j := 6) rfl
   have k7 := HHk.cell (j := 7) rfl
   have k8 := HHk.cell (j := 8) rfl
   have k9 := HHk.cell (j := 9) rfl
   clear HHk
   have HHl := hst.bx.at (.tail _ (.head _))
   have l0 := HHl.cell (j := 0) rfl
   have l1 := HHl.cell (j := 1) rfl
   clear HHl
   have HHm := hst.bx.at (.head _)
   have m0 := HHm.cell (j := 0) rfl
   have m1 := HHm.cell (j := 1) rfl
   clear HHm
   clear hst
   go_simp
   try go_bits
   exact hK _ _ rfl (Below.refl _ _)
  refine GCh.val (n := 2) (fun v => [_, _, IsV v]) (fun _ => rfl) rfl ?_
  apply Exists.intro
  refine And.intro ?_ ?_
  ·intro K' a wy ho hd hb hK
   rw [if_pos (wanted_none rfl)]
   have o6 := ho 6 (by decide)
   simp [slot] at o6
   clear hd ho
   have hst := HCP.out wy hb
   have HHk := hst.bx.at (.tail _ (.tail _ (.head _)))
   have k0 := HHk.cell (j := 0) rfl
   have k1 := HHk.cell (j := 1) rfl
   have k2 := HHk.cell (j := 2) rfl
   have k3 := HHk.cell (j := 3) rfl
   have k4 := HHk.cell (j := 4) rfl
   have k5 := HHk.cell (j := 5) rfl
   have k6 := HHk.cell (j := 6) rfl
   have k7 := HHk.cell (j := 7) rfl
   have k8 := HHk.cell (j := 8) rfl
   have k9 := HHk.cell (j := 9) rfl
   clear HHk
   have HHl := hst.bx.at (.tail _ (.head _))
   have l0 := HHl.cell (j := 0) rfl
   have l1 := HHl.cell (j := 1) rfl
   clear HHl
   have HHm := hst.bx.at (.head _)
   have m0 := HHm.cell (j := 0) rfl
   have m1 := HHm.cell (j := 1) rfl
   clear HHm
   clear hst
   go_simp
   try go_bits
   exact hK _ _ rfl (Below.refl _ _)
  refine GCh.val (n := 3) (fun v => [_, _, _, IsV v]) (fun _ => rfl) rfl ?_
  apply Exists.intro
  refine And.intro ?_ ?_
  ·intro K' a wy ho hd hb hK
   rw [if_pos (wanted_none rfl)]
   have o7 := ho 7 (by decide)
   simp [slot] at o7
   clear hd ho
   go_simp
   try go_bits
   exact hK _ _ rfl (Below.refl _ _)
  refine GCh.rel (n := 4) (IsBk y) (stable_isBk _) [_, _, _, _, IsBk y] rfl rfl ?_ ?_
  ·intro K' a wy ho hd hb hK
   rw [if_pos (wanted_none rfl)]
   have q1 := hd ⟨1, .data⟩ (by simp) rfl
   simp [rAt, IsV, slot] at q1
   have q2 := hd ⟨2, .data⟩ (by simp) rfl
   simp [rAt, IsV, slot] at q2
   have q3 := hd ⟨3, .data⟩ (by simp) rfl
   simp [rAt, IsV, slot] at q3
   clear hd ho
   go_simp
   have hst := HCP.out wy hb
   refine (HSp.out wy hst.pl hst.bb).mono ?_
   rintro e wz ⟨⟨a4, b4, c4, d4, rfl, hown⟩, hz⟩
   exact hK _ _ ⟨a4, b4, c4, d4, rfl, hown.is⟩ hz
  refine GCh.val (n := 5) (fun v => [_, _, _, _, _, IsV v]) (fun _ => rfl) rfl ?_
  apply Exists.intro
  refine And.intro ?_ ?_
  ·intro K' a wy ho hd hb hK
   rw [if_pos (wanted_none rfl)]
   have q0 := hd ⟨0, .data⟩ (by simp) rfl
   simp [rAt, IsV, slot] at q0
   have hr : IsBk y (slot a 34) wy := hd ⟨4, .data⟩ (by simp) rfl
   obtain ⟨a4, b4, c4, d4, e4, i4⟩ := hr
   unfold bbC at e4
   simp [slot] at e4
   clear hd ho
   go_simp
   refine (HLW.out wy xa xb cxa cxb a4 b4 c4 d4 (HCP.out wy hb).yy i4).mono ?_
   rintro e wz ⟨rfl, hz⟩
   exact hK _ _ rfl hz
  refine GCh.val (n := 6) (fun v => [_, _, _, _, _, _, IsV v]) (fun _ => rfl) rfl ?_
  apply Exists.intro
  refine And.intro ?_ ?_
  ·intro K' a wy ho hd hb hK
   rw [if_pos (wanted_none rfl)]
   have q5 := hd ⟨5, .data⟩ (by simp) rfl
   simp [rAt, IsV, slot] at q5
   clear hd ho
   go_simp
   try go_bits
   exact hK _ _ rfl (Below.refl _ _)
  intro X wz hR hz
  obtain ⟨x0, x1, x2, x3, x4, x5, x6, -⟩ := hR
  obtain ⟨a4, b4, c4, d4, e4, -⟩ := x4
  simp only [IsV] at x0 x1 x2 x3 x5 x6
  simp only [putsFrom, x0, x1, x2, x3, e4, x5, x6]
  clear x0 x1 x2 x3 x5 x6
  have HF : Hid (TkS w [(Xb, [.slice xa y.binds.length cxa, .slice xb y.sess.length cxb]), (w1.heap.size + 1, [.slice ba x.binds.length ca, .slice bo x.sess.length cb]), (w1.heap.size, [.slice pa p.addrs.length pc, .int .i64 p.low, .int .i64 p.high, .int .i64 p.most, .int .i64 p.filter, .int .i64 p.lv.udp, .int .i64 p.lv.echo, .int .i64 p.lv.opening, .int .i64 p.lv.opn, .int .i64 p.lv.closing])] pa p ba bo x xa xb y wz) := HCP.out wz hz
  clear HCP
  go_simp
  refine hK2 _ _ (hJ _ _ ?_)
  (repeat apply Exists.intro)
  exact ⟨⟨rfl, HF.out⟩, rfl⟩
 case rest =>
 obtain ⟨rfl, hS⟩ := hcut
 have S3 : Hid _ := hS
 clear hS S2 HSp
 generalize wc = W3 at *
 go_upto_region 7 with fail
 have HHk := S3.out.bx.at (.tail _ (.tail _ (.head _)))
 have k0 := HHk.cell (j := 0) rfl
 have k1 := HHk.cell (j := 1) rfl
 have k2 := HHk.cell (j := 2) rfl
 have k3 := HHk.cell (j := 3) rfl
 have k4 := HHk.cell (j := 4) rfl
 have k5 := HHk.cell (j := 5) rfl
 have k6 := HHk.cell (j := 6) rfl
 have k7 := HHk.cell (j := 7) rfl
 have k8 := HHk.cell (j := 8) rfl
 have k9 := HHk.cell (j := 9) rfl
 clear HHk
 have HHl := S3.out.bx.at (.tail _ (.head _))
 have l0 := HHl.cell (j := 0) rfl
 have l1 := HHl.cell (j := 1) rfl
 clear HHl
 go_wp2_with fail
 refine (HBR.out W3 S3.out.pl S3.out.bb).mono ?_
 rintro e W4 ⟨rfl, q4⟩
 have S4 : Hid (TkS w [(Xb, [.slice xa y.binds.length cxa, .slice xb y.sess.length cxb]), (w1.heap.size + 1, [.slice ba x.binds.length ca, .slice bo x.sess.length cb]), (w1.heap.size, [.slice pa p.addrs.length pc, .int .i64 p.low, .int .i64 p.high, .int .i64 p.most, .int .i64 p.filter, .int .i64 p.lv.udp, .int .i64 p.lv.echo, .int .i64 p.lv.opening, .int .i64 p.lv.opn, .int .i64 p.lv.closing])] pa p ba bo x xa xb y W4) := S3.out.kept q4
 clear q4 S3 HBR k0 k1 k2 k3 k4 k5 k6 k7 k8 k9 l0 l1
 have hm1 : ¬ now < 0 := by omega
 have hm2 : ¬ 1000000000 < now := by omega
 cases hok : bibOk p x with
 | false =>
  have hz : y.sess.length = 0 := HNO.out hok
  have HFB : Hid (Below w.heap.size w W4) := S4.out.bx.b
  have HHm := S4.out.bx.at (.head _)
  have m0 := HHm.cell (j := 0) rfl
  have m1 := HHm.cell (j := 1) rfl
  clear HHm
  have m1' : W4.cell? ⟨Xb, 1, none⟩ = some (.slice xb 0 cxb) := by rw [← hz]; exact m1
  clear m1 S4 hz hok
  go_wp2_with fail
  go_ret
  exact ⟨rfl, HFB.out⟩
 | true =>
 obtain ⟨hky, hsy, htw⟩ := HOK.out hok
 have HKY : Hid _ := hky
 have HSY : Hid _ := hsy
 have HTW : Hid _ := htw
 clear hky hsy htw hok HOK HNO
 go_upto_region 9 with fail
 go_wp2_with fail
 go_loopw [9, 10] (fun n i wr => ∃ k : Nat, k ≤ x.sess.length ∧ i = .int .i64 k ∧ n = .int .i64 (((x.sess.take k).filter (lateS now)).length : Nat) ∧ TkS w [(Xb, [.slice xa y.binds.length cxa, .slice xb y.sess.length cxb]), (w1.heap.size + 1, [.slice ba x.binds.length ca, .slice bo x.sess.length cb]), (w1.heap.size, [.slice pa p.addrs.length pc, .int .i64 p.low, .int .i64 p.high, .int .i64 p.most, .int .i64 p.filter, .int .i64 p.lv.udp, .int .i64 p.lv.echo, .int .i64 p.lv.opening, .int .i64 p.lv.opn, .int .i64 p.lv.closing])] pa p ba bo x xa xb y wr) (fun _ i _ => x.sess.length - (intOf i).toNat)
 case atStart => exact ⟨0, Nat.zero_le _, rfl, rfl, S4.out⟩
 case round =>
  obtain ⟨k, hk, rfl, rfl, hst⟩ := hrel
  have S5 : Hid (TkS w [(Xb, [.slice xa y.binds.length cxa, .slice xb y.sess.length cxb]), (w1.heap.size + 1, [.slice ba x.binds.length ca, .slice bo x.sess.length cb]), (w1.heap.size, [.slice pa p.addrs.length pc, .int .i64 p.low, .int .i64 p.high, .int .i64 p.most, .int .i64 p.filter, .int .i64 p.lv.udp, .int .i64 p.lv.echo, .int .i64 p.lv.opening, .int .i64 p.lv.opn, .int .i64 p.lv.closing])] pa p ba bo x xa xb y wr) := hst
  clear hst S4
  have HHl := S5.out.bx.at (.tail _ (.head _))
  have l0 := HHl.cell (j := 0) rfl
  have l1 := HHl.cell (j := 1) rfl
  clear HHl
  have HHm := S5.out.bx.at (.head _)
  have m0 := HHm.cell (j := 0) rfl
  have m1 := HHm.cell (j := 1) rfl
  clear HHm
  by_cases hlt : k < x.sess.length
  case neg =>
   have hk2 : (x.sess.length : Int) ≤ (k : Int) := by omega
   have hke : k = x.sess.length := by omega
   have HN : Hid (((x.sess.take k).filter (lateS now)).length = y.sess.length) := by unfold Hid; rw [HSY.out, hke, List.take_length]
   clear hke
   generalize ((x.sess.take k).filter (lateS now)).length = nn at *
   go_upto_region 17 with fail
   clear l0 l1 m0 m1
   go_cut [11] (fun v wx => ∃ g a b cc cd, v = .pointer (some ⟨g, 0, none⟩) ∧ HoldsL wx g [.slice a y.binds.length cc, .slice b y.sess.length cd] ∧ BbIs wx a b y ∧ TkS w [(Xb, [.slice xa y.binds.length cxa, .slice xb y.sess.length cxb]), (w1.heap.size + 1, [.slice ba x.binds.length ca, .slice bo x.sess.length cb]), (w1.heap.size, [.slice pa p.addrs.length pc, .int .i64 p.low, .int .i64 p.high, .int .i64 p.most, .int .i64 p.filter, .int .i64 p.lv.udp, .int .i64 p.lv.echo, .int .i64 p.lv.opening, .int .i64 p.lv.opn, .int .i64 p.lv.closing])] pa p ba bo x xa xb y wx)
   case first =>
    rename_i J K2 hJ hK2
    have HCP : Hid (∀ wy, Below wr.drew.heap.size wr.drew wy → _) := fun wy hy => S5.out.kept ((Below.refl _ _).drew.trans hy)
    refine wp_region_growV [88, 89, 90, 91, 92, 93, 94, 95, 96, 97, 11] (by kernel_rfl) (by kernel_rfl) ?_
    refine GChV.val (n := 0) (fun v => [IsV v]) (fun _ => rfl) rfl ?_
    apply Exists.intro
    refine And.intro ?_ ?_
    ·intro K' a wy ho hd hb hK
     rw [if_pos (wanted_none rfl)]
     have o5 := ho 5 (by decide)
     simp [slot] at o5
     clear hd ho
     have hst := HCP.out wy hb
     have HHk := hst.bx.at (.tail _ (.tail _ (.head _)))
     have k0 := HHk.cell (j := 0) rfl
     have k1 := HHk.cell (j := 1) rfl
     have k2 := HHk.cell (j := 2) rfl
     have k3 := HHk.cell (j := 3) rfl
     have k4 := HHk.cell (j := 4) rfl
     have k5 := HHk.cell (j := 5) rfl
     have k6 := HHk.cell (j := 6) rfl
     have k7 := HHk.cell (j := 7) rfl
     have k8 := HHk.cell (j := 8) rfl
     have k9 := HHk.cell (j := 9) rfl
     clear HHk
     have HHl := hst.bx.at (.tail _ (.head _))
     have l0 := HHl.cell (j := 0) rfl
     have l1 := HHl.cell (j := 1) rfl
     clear HHl
     clear hst
     go_simp
     try go_bits
     exact hK _ _ rfl (Below.refl _ _)
    refine GChV.val (n := 1) (fun v => [_, IsV v]) (fun _ => rfl) rfl ?_
    apply Exists.intro
    refine And.intro ?_ ?_
    ·intro K' a wy ho hd hb hK
     rw [if_pos (wanted_none rfl)]
     have o5 := ho 5 (by decide)
     simp [slot] at o5
     clear hd ho
     have hst := HCP.out wy hb
     have HHk := hst.bx.at (.tail _ (.tail _ (.head _)))
     have k0 := HHk.cell (j := 0) rfl
     have k1 := HHk.cell (j := 1) rfl
     have k2 := HHk.cell (j := 2) rfl
     have k3 := HHk.cell (j := 3) rfl
     have k4 := HHk.cell (j := 4) rfl
     have k5 := HHk.cell (j := 5) rfl
     have k6 := HHk.cell (j := 6) rfl
     have k7 := HHk.cell (j := 7) rfl
     have k8 := HHk.cell (j := 8) rfl
     have k9 := HHk.cell (j := 9) rfl
     clear HHk
     have HHl := hst.bx.at (.tail _ (.head _))
     have l0 := HHl.cell (j := 0) rfl
     have l1 := HHl.cell (j := 1) rfl
     clear HHl
     clear hst
     go_simp
     try go_bits
     exact hK _ _ rfl (Below.refl _ _)
    refine GChV.val (n := 2) (fun v => [_, _, IsV v]) (fun _ => rfl) rfl ?_
    apply Exists.intro
    refine And.intro ?_ ?_
    ·intro K' a wy ho hd hb hK
     rw [if_pos (wanted_none rfl)]
     have o6 := ho 6 (by decide)
     simp [slot] at o6
     clear hd ho
     have hst := HCP.out wy hb
     have HHk := hst.bx.at (.tail _ (.tail _ (.head _)))
     have k0 := HHk.cell (j := 0) rfl
     have k1 := HHk.cell (j := 1) rfl
     have k2 := HHk.cell (j := 2) rfl
     have k3 := HHk.cell (j := 3) rfl
     have k4 := HHk.cell (j := 4) rfl
     have k5 := HHk.cell (j := 5) rfl
     have k6 := HHk.cell (j := 6) rfl
     have k7 := HHk.cell (j := 7) rfl
     have k8 := HHk.cell (j := 8) rfl
     have k9 := HHk.cell (j := 9) rfl
     clear HHk
     have HHl := hst.bx.at (.tail _ (.head _))
     have l0 := HHl.cell (j := 0) rfl
     have l1 := HHl.cell (j := 1) rfl
     clear HHl
     clear hst
     go_simp
     try go_bits
     exact hK _ _ rfl (Below.refl _ _)
    refine GChV.val (n := 3) (fun v => [_, _, _, IsV v]) (fun _ => rfl) rfl ?_
    apply Exists.intro
    refine And.intro ?_ ?_
    ·intro K' a wy ho hd hb hK
     rw [if_pos (wanted_none rfl)]
     have o1 := ho 1 (by decide)
     simp [slot] at o1
     clear hd ho
     go_simp
     try go_bits
     exact hK _ _ rfl (Below.refl _ _)
    refine GChV.val (n := 4) (fun v => [_, _, _, _, IsV v]) (fun _ => rfl) rfl ?_
    apply Exists.intro
    refine And.intro ?_ ?_
    ·intro K' a wy ho hd hb hK
     rw [if_pos (wanted_none rfl)]
     have o7 := ho 7 (by decide)
     simp [slot] at o7
     clear hd ho
     go_simp
     try go_bits
     exact hK _ _ rfl (Below.refl _ _)
    refine GChV.val (n := 5) (fun v => [_, _, _, _, _, IsV v]) (fun _ => rfl) rfl ?_
    apply Exists.intro
    refine And.intro ?_ ?_
    ·intro K' a wy ho hd hb hK
     rw [if_pos (wanted_none rfl)]
     have q4 := hd ⟨4, .data⟩ (by simp) rfl
     simp [rAt, IsV, slot] at q4
     clear hd ho
     go_simp
     try go_bits
     exact hK _ _ rfl (Below.refl _ _)
    refine GChV.rel (n := 6) (IsTm now) (stable_isTm _) [_, _, _, _, _, _, IsTm now] rfl rfl ?_ ?_
    ·intro K' a wy ho hd hb hK
     rw [if_pos (wanted_none rfl)]
     have q3 := hd ⟨3, .data⟩ (by simp) rfl
     simp [rAt, IsV, slot] at q3
     have q5 := hd ⟨5, .data⟩ (by simp) rfl
     simp [rAt, IsV, slot] at q5
     clear hd ho
     go_simp
     refine (HLA.out wy (now + 1) (by omega) (HCP.out wy hb).bx.b).mono ?_
     rintro e wz ⟨⟨m, rfl, g0, g1⟩, hz⟩
     exact hK _ _ ⟨m, rfl, g0, by omega⟩ hz
    refine GChV.rel (n := 7) (IsBt p x now) (stable_isBt _ _ _) [_, _, _, _, _, _, _, IsBt p x now] rfl rfl ?_ ?_
    ·intro K' a wy ho hd hb hK
     rw [if_pos (wanted_none rfl)]
     have q1 := hd ⟨1, .data⟩ (by simp) rfl
     simp [rAt, IsV, slot] at q1
     have q2 := hd ⟨2, .data⟩ (by simp) rfl
     simp [rAt, IsV, slot] at q2
     have hr6 : IsTm now (slot a 94) wy := hd ⟨6, .data⟩ (by simp) rfl
     obtain ⟨m6, e6, i6, j6⟩ := hr6
     simp [slot] at e6
     clear hd ho
     go_simp
     have hst := HCP.out wy hb
     refine (HI.out wy hst.pl hst.bb m6).mono ?_
     rintro e wz ⟨⟨a7, b7, c7, d7, rfl, hown⟩, hz⟩
     exact hK _ _ ⟨m6, i6, j6, a7, b7, c7, d7, rfl, hown.is⟩ hz
    refine GChV.val (n := 8) (fun v => [_, _, _, _, _, _, _, _, IsV v]) (fun _ => rfl) rfl ?_
    apply Exists.intro
    refine And.intro ?_ ?_
    ·intro K' a wy ho hd hb hK
     rw [if_pos (wanted_none rfl)]
     have o7 := ho 7 (by decide)
     simp [slot] at o7
     clear hd ho
     go_simp
     try go_bits
     exact hK _ _ rfl (Below.refl _ _)
    refine GChV.rel (n := 9) (IsBo 0 y) (stable_isBo _ _) [_, _, _, _, _, _, _, _, _, IsBo 0 y] rfl rfl ?_ ?_
    ·intro K' a wy ho hd hb hK
     rw [if_pos (wanted_none rfl)]
     have q0 := hd ⟨0, .data⟩ (by simp) rfl
     simp [rAt, IsV, slot] at q0
     have hr7 : IsBt p x now (slot a 95) wy := hd ⟨7, .data⟩ (by simp) rfl
     obtain ⟨m7, f7, g7, a7, b7, c7, d7, e7, i7⟩ := hr7
     unfold bbC at e7
     simp [slot] at e7
     have q8 := hd ⟨8, .data⟩ (by simp) rfl
     simp [rAt, IsV, slot] at q8
     clear hd ho
     go_simp
     have hst := HCP.out wy hb
     refine (HI2.out wy m7 a7 b7 c7 d7 hst.pl i7).mono ?_
     rintro e wz ⟨hret, hz⟩
     rw [HTW.out m7 f7 g7] at hret
     obtain ⟨a9, b9, c9, d9, rfl, hown⟩ := hret
     exact hK _ _ ⟨a9, b9, c9, d9, rfl, ⟨hown.bd.down (Nat.zero_le _), hown.ss.down (Nat.zero_le _), hown.ne⟩⟩ hz
    refine GChV.rel (n := 10) (IsZy wr.drew.heap.size [.slice none 0 0, .slice none 0 0]) (stable_isZy _ _ (by simp)) [_, _, _, _, _, _, _, _, _, _, IsZy wr.drew.heap.size [.slice none 0 0, .slice none 0 0]] rfl rfl ?_ ?_
    ·intro K' a wy ho hd hb hK
     rw [if_pos (wanted_none rfl)]
     clear hd ho
     go_simp
     exact hK _ _ ⟨wy.heap.size, rfl, hb.size, HoldsL.new wy [.slice none 0 0, .slice none 0 0] 31⟩ ((Below.refl _ _).alloc (Nat.le_refl _) _)
    intro X wz hR hz
    obtain ⟨x0, x1, x2, x3, x4, x5, x6, x7, x8, x9, x10, -⟩ := hR
    obtain ⟨m6, e6, -, -⟩ := x6
    obtain ⟨m7, -, -, a7, b7, c7, d7, e7, -⟩ := x7
    obtain ⟨a9, b9, c9, d9, e9, i9⟩ := x9
    obtain ⟨g8, e8, b8, y8⟩ := x10
    simp only [IsV] at x0 x1 x2 x3 x4 x5 x8
    simp only [putsFrom, x0, x1, x2, x3, x4, x5, e6, e7, x8, e9, e8]
    clear x0 x1 x2 x3 x4 x5 x8
    have z0 := y8.cell (j := 0) rfl
    have z1 := y8.cell (j := 1) rfl
    have zf0 := y8.free (j := 0) (by simp)
    have zf1 := y8.free (j := 1) (by simp)
    have b8' : wr.heap.size ≤ g8 := b8
    have HB6 : Hid (Below wr.heap.size wr ((wz.setCell ⟨g8, 0, none⟩ (.slice a9 y.binds.length c9)).setCell ⟨g8, 1, none⟩ (.slice b9 y.sess.length d9))) := ((((Below.refl _ _).drew.trans hz).setCell (p := ⟨g8, 0, none⟩) b8' (.slice a9 y.binds.length c9)).setCell (p := ⟨g8, 1, none⟩) b8' (.slice b9 y.sess.length d9))
    have HQ6 : Hid (HoldsL ((wz.setCell ⟨g8, 0, none⟩ (.slice a9 y.binds.length c9)).setCell ⟨g8, 1, none⟩ (.slice b9 y.sess.length d9)) g8 [.slice a9 y.binds.length c9, .slice b9 y.sess.length d9]) := (y8.set 0 _).set 1 _
    have HI9 : Hid (BbIs ((wz.setCell ⟨g8, 0, none⟩ (.slice a9 y.binds.length c9)).setCell ⟨g8, 1, none⟩ (.slice b9 y.sess.length d9)) a9 b9 y) := bb_set i9 y8 _ _
    clear y8 b8 b8' hz HCP i9
    unfold bbC
    intro K10 hK10
    go_simp
    refine hK10 _ _ ?_
    show Exit.then _ _ _ _ _
    refine hK2 _ _ (hJ _ _ ?_)
    (repeat apply Exists.intro)
    exact ⟨⟨g8, a9, b9, c9, d9, rfl, HQ6.out, HI9.out, S5.out.kept HB6.out⟩, rfl⟩
   case rest =>
   obtain ⟨g, a9, b9, c9, d9, rfl, hg9, i9, hS⟩ := hcut
   have S6 : Hid _ := hS
   have G9 : Hid _ := hg9
   have I9 : Hid _ := i9
   clear hS hg9 i9 S5 HI HI2 HTW HLA
   generalize wc = W8 at *
   have hnn := HN.out
   subst hnn
   clear HN
   have HHk := S6.out.bx.at (.tail _ (.tail _ (.head _)))
   have k0 := HHk.cell (j := 0) rfl
   have k1 := HHk.cell (j := 1) rfl
   have k2 := HHk.cell (j := 2) rfl
   have k3 := HHk.cell (j := 3) rfl
   have k4 := HHk.cell (j := 4) rfl
   have k5 := HHk.cell (j := 5) rfl
   have k6 := HHk.cell (j := 6) rfl
   have k7 := HHk.cell (j := 7) rfl
   have k8 := HHk.cell (j := 8) rfl
   have k9 := HHk.cell (j := 9) rfl
   clear HHk
   have HHm := S6.out.bx.at (.head _)
   have m0 := HHm.cell (j := 0) rfl
   have m1 := HHm.cell (j := 1) rfl
   clear HHm
   have HBZ : Hid (∀ W a b cc cd, SlIs strL1 1 W pa p.addrs → BbIs W a b y → Calls Try.prog 15 #[plC pa pc p, bbC a b cc cd y] W fun e w' => e = .returned (.bool true) ∧ Below W.heap.size W w') := by
    have h := HBY.out
    rw [HKY.out] at h
    exact h
   unfold plC bbC at HBZ
   go_wp2_with fail
   refine (HBZ.out W8 xa xb cxa cxb S6.out.pl S6.out.yy).mono ?_
   rintro e W9 ⟨rfl, q9⟩
   have S7 : Hid (TkS w [(Xb, [.slice xa y.binds.length cxa, .slice xb y.sess.length cxb]), (w1.heap.size + 1, [.slice ba x.binds.length ca, .slice bo x.sess.length cb]), (w1.heap.size, [.slice pa p.addrs.length pc, .int .i64 p.low, .int .i64 p.high, .int .i64 p.most, .int .i64 p.filter, .int .i64 p.lv.udp, .int .i64 p.lv.echo, .int .i64 p.lv.opening, .int .i64 p.lv.opn, .int .i64 p.lv.closing])] pa p ba bo x xa xb y W9) := S6.out.kept q9
   have G10 : Hid _ := G9.out.kept (by simp) q9
   have I10 : Hid (BbIs W9 a9 b9 y) := I9.out.below q9
   clear q9 S6 G9 I9 HBY HBZ k0 k1 k2 k3 k4 k5 k6 k7 k8 k9 m0 m1
   have HHm := S7.out.bx.at (.head _)
   have m0 := HHm.cell (j := 0) rfl
   have m1 := HHm.cell (j := 1) rfl
   clear HHm
   have n0 := G10.out.cell (j := 0) rfl
   have n1 := G10.out.cell (j := 1) rfl
   go_wp2_with fail
   refine (HLW.out W9 xa xb cxa cxb a9 b9 c9 d9 S7.out.yy I10.out).mono ?_
   rintro e W10 ⟨rfl, q10⟩
   have HFB : Hid (Below w.heap.size w W10) := S7.out.bx.b.trans (q10.mono S7.out.bx.b.size)
   clear q10 S7 G10 I10 m0 m1 n0 n1
   go_wp2_with fail
   go_ret
   exact ⟨rfl, HFB.out⟩
  case pos =>
   obtain ⟨c1, o1, hbo, hc1, hA⟩ := S5.out.bb.ss.at hlt
   have HBO : Hid (bo = some ⟨c1, o1, none⟩) := hbo
   rw [hbo] at l1
   clear hbo
   have hk2 : ¬ (x.sess.length : Int) ≤ (k : Int) := by omega
   obtain ⟨q, hq⟩ : ∃ q, q = x.sess[k] := ⟨_, rfl⟩
   have HQ : Hid (q = x.sess[k]) := hq
   have CA : Hid (∀ wy, Below wr.heap.size wr wy → wy.cell? ⟨c1, o1 + k * 7, none⟩ = some (.int .i64 q.proto) ∧ wy.cell? ⟨c1, o1 + k * 7 + 1, none⟩ = some (.string q.inn) ∧ wy.cell? ⟨c1, o1 + k * 7 + 2, none⟩ = some (.int .i64 q.inPort) ∧ wy.cell? ⟨c1, o1 + k * 7 + 3, none⟩ = some (.string q.peer) ∧ wy.cell? ⟨c1, o1 + k * 7 + 4, none⟩ = some (.int .i64 q.peerPort) ∧ wy.cell? ⟨c1, o1 + k * 7 + 5, none⟩ = some (.int .i64 q.state) ∧ wy.cell? ⟨c1, o1 + k * 7 + 6, none⟩ = some (.int .i64 q.untl)) := fun wy hy => by
    have h3 := (hA.below hc1 hy) k hlt
    rw [← hq] at h3
    exact ⟨h3 0 _ rfl, h3 1 _ rfl, h3 2 _ rfl, h3 3 _ rfl, h3 4 _ rfl, h3 5 _ rfl, h3 6 _ rfl⟩
   clear hA hq
   have hca := CA.out wr (Below.refl _ _)
   obtain ⟨s0, s1, s2, s3, s4, s5, s6⟩ := hca
   by_cases hu : now < q.untl
   case neg =>
    have HLN : Hid (((x.sess.take (k + 1)).filter (lateS now)).length = ((x.sess.take k).filter (lateS now)).length) := by
     unfold Hid; rw [filter_one _ _ _ hlt, if_neg (by unfold lateS; rw [← HQ.out]; simpa using hu)]
    generalize ((x.sess.take k).filter (lateS now)).length = nn at *
    go_wp2_with fail
    go_roundw
    case rel => exact ⟨k + 1, by omega, by go_num, by rw [HLN.out], S5.out⟩
    case measure => simp [intOf]; omega
   obtain ⟨hnl, hng⟩ := filter_at (lateS now) x.sess k hlt (by unfold lateS; rw [← HQ.out]; simpa using hu)
   have HLN : Hid (((x.sess.take (k + 1)).filter (lateS now)).length = ((x.sess.take k).filter (lateS now)).length + 1) := by
    unfold Hid; rw [filter_one _ _ _ hlt, if_pos (by unfold lateS; rw [← HQ.out]; simpa using hu), List.length_append]; rfl
   have hny : ((x.sess.take k).filter (lateS now)).length < y.sess.length := by rw [HSY.out]; exact hnl
   have HNG : Hid (y.sess[((x.sess.take k).filter (lateS now)).length] = q) := by
    unfold Hid; rw [HQ.out, ← hng]; simp only [HSY.out]
   clear hnl hng
   generalize ((x.sess.take k).filter (lateS now)).length = nn at *
   obtain ⟨c2, o2, hxo, hc2, hB⟩ := S5.out.yy.ss.at hny
   have HXO : Hid (xb = some ⟨c2, o2, none⟩) := hxo
   clear hxo
   have CB : Hid (∀ wy, Below wr.heap.size wr wy → wy.cell? ⟨c2, o2 + nn * 7, none⟩ = some (.int .i64 q.proto) ∧ wy.cell? ⟨c2, o2 + nn * 7 + 1, none⟩ = some (.string q.inn) ∧ wy.cell? ⟨c2, o2 + nn * 7 + 2, none⟩ = some (.int .i64 q.inPort) ∧ wy.cell? ⟨c2, o2 + nn * 7 + 3, none⟩ = some (.string q.peer) ∧ wy.cell? ⟨c2, o2 + nn * 7 + 4, none⟩ = some (.int .i64 q.peerPort) ∧ wy.cell? ⟨c2, o2 + nn * 7 + 5, none⟩ = some (.int .i64 q.state) ∧ wy.cell? ⟨c2, o2 + nn * 7 + 6, none⟩ = some (.int .i64 q.untl)) := fun wy hy => by
    have h3 := (hB.below hc2 hy) nn hny
    rw [HNG.out] at h3
    exact ⟨h3 0 _ rfl, h3 1 _ rfl, h3 2 _ rfl, h3 3 _ rfl, h3 4 _ rfl, h3 5 _ rfl, h3 6 _ rfl⟩
   clear hB HNG
   have HNE : Hid (∀ W, (binOp .neq 48 (.agg #[.int .i64 q.proto, .string q.inn, .int .i64 q.inPort, .string q.peer, .int .i64 q.peerPort, .int .i64 q.state, .int .i64 q.untl]) (.agg #[.int .i64 q.proto, .string q.inn, .int .i64 q.inPort, .string q.peer, .int .i64 q.peerPort, .int .i64 q.state, .int .i64 q.untl])).run Try.prog W = .ok (.bool false) W) := fun W => by rw [neSsW_bin q q W, sameSs_self]; rfl
   have hn2 : ¬ (y.sess.length : Int) ≤ (nn : Int) := by omega
   have hn3 : decide ((y.sess.length : Int) ≤ (nn : Int)) = false := decide_eq_false hn2
   go_upto_region 14 with fail
   clear l0 l1 m0 m1 s0 s1 s2 s3 s4 s5 s6
   go_cut [85] (fun v wx => v = .bool false ∧ TkS w [(Xb, [.slice xa y.binds.length cxa, .slice xb y.sess.length cxb]), (w1.heap.size + 1, [.slice ba x.binds.length ca, .slice bo x.sess.length cb]), (w1.heap.size, [.slice pa p.addrs.length pc, .int .i64 p.low, .int .i64 p.high, .int .i64 p.most, .int .i64 p.filter, .int .i64 p.lv.udp, .int .i64 p.lv.echo, .int .i64 p.lv.opening, .int .i64 p.lv.opn, .int .i64 p.lv.closing])] pa p ba bo x xa xb y wx)
   case first =>
    rename_i J K2 hJ hK2
    have HCP : Hid (∀ wy, Below wr.drew.heap.size wr.drew wy → _) := fun wy hy => S5.out.kept ((Below.refl _ _).drew.trans hy)
    refine wp_region_growH [68, 69, 70, 71, 72, 73, 74, 75, 76, 77, 78, 79, 80, 81, 82, 83, 84, 85] (by kernel_rfl) (by kernel_rfl) ?_
    refine GCh.val (n := 0) (fun v => [IsV v]) (fun _ => rfl) rfl ?_
    apply Exists.intro
    refine And.intro ?_ ?_
    ·intro K' a wy ho hd hb hK
     rw [if_pos (wanted_none rfl)]
     have o9 := ho 9 (by decide)
     simp [slot] at o9
     clear hd ho
     go_simp
     try go_bits
     exact hK _ _ rfl (Below.refl _ _)
    refine GCh.val (n := 1) (fun v => [_, IsV v]) (fun _ => rfl) rfl ?_
    apply Exists.intro
    refine And.intro ?_ ?_
    ·intro K' a wy ho hd hb hK
     rw [if_pos (wanted_none rfl)]
     have o8 := ho 8 (by decide)
     simp [slot] at o8
     clear hd ho
     go_simp
     try go_bits
     exact hK _ _ rfl (Below.refl _ _)
    refine GCh.val (n := 2) (fun v => [_, _, IsV v]) (fun _ => rfl) rfl ?_
    apply Exists.intro
    refine And.intro ?_ ?_
    ·intro K' a wy ho hd hb hK
     rw [if_pos (wanted_none rfl)]
     have q1 := hd ⟨1, .data⟩ (by simp) rfl
     simp [rAt, IsV, slot] at q1
     clear hd ho
     have hst := HCP.out wy hb
     have HHl := hst.bx.at (.tail _ (.head _))
     have l0 := HHl.cell (j := 0) rfl
     have l1 := HHl.cell (j := 1) rfl
     clear HHl
     have HHm := hst.bx.at (.head _)
     have m0 := HHm.cell (j := 0) rfl
     have m1 := HHm.cell (j := 1) rfl
     clear HHm
     clear hst
     rw [HBO.out] at l1
     rw [HXO.out] at m1
     have hca := CA.out wy ((Below.refl _ _).drew.trans hb)
     have hcb := CB.out wy ((Below.refl _ _).drew.trans hb)
     obtain ⟨s0, s1, s2, s3, s4, s5, s6⟩ := hca
     obtain ⟨t0, t1, t2, t3, t4, t5, t6⟩ := hcb
     go_simp
     try go_bits
     exact hK _ _ rfl (Below.refl _ _)
    refine GCh.val (n := 3) (fun v => [_, _, _, IsV v]) (fun _ => rfl) rfl ?_
    apply Exists.intro
    refine And.intro ?_ ?_
    ·intro K' a wy ho hd hb hK
     rw [if_pos (wanted_none rfl)]
     have q2 := hd ⟨2, .data⟩ (by simp) rfl
     simp [rAt, IsV, slot] at q2
     clear hd ho
     go_simp
     try go_bits
     exact hK _ _ rfl (Below.refl _ _)
    refine GCh.val (n := 4) (fun v => [_, _, _, _, IsV v]) (fun _ => rfl) rfl ?_
    apply Exists.intro
    refine And.intro ?_ ?_
    ·intro K' a wy ho hd hb hK
     rw [if_pos (wanted_none rfl)]
     have q0 := hd ⟨0, .data⟩ (by simp) rfl
     simp [rAt, IsV, slot] at q0
     have q3 := hd ⟨3, .data⟩ (by simp) rfl
     simp [rAt, IsV, slot] at q3
     clear hd ho
     go_simp
     try go_bits
     exact hK _ _ rfl (Below.refl _ _)
    refine GCh.val (n := 5) (fun v => [_, _, _, _, _, IsV v]) (fun _ => rfl) rfl ?_
    apply Exists.intro
    refine And.intro ?_ ?_
    ·intro K' a wy ho hd hb hK
     rw [if_pos (wanted_none rfl)]
     have q4 := hd ⟨4, .data⟩ (by simp) rfl
     simp [rAt, IsV, slot] at q4
     clear hd ho
     go_simp
     try go_bits
     exact hK _ _ rfl (Below.refl _ _)
    refine GCh.val (n := 6) (fun v => [_, _, _, _, _, _, IsV v]) (fun _ => rfl) rfl ?_
    apply Exists.intro
    refine And.intro ?_ ?_
    ·intro K' a wy ho hd hb hK
     have hgs : IsV (.bool false) (slot a 73) wy := hd ⟨5, .guard⟩ (by simp) rfl
     rw [wanted_of (j := 5) (d := 73) (b := false) (want := false) (hg := rfl) (ho := rfl) (hd := rfl) (hs := hgs)]
     rw [if_pos (by decide)]
     clear hgs
     have o8 := ho 8 (by decide)
     simp [slot] at o8
     clear hd ho
     go_simp
     try go_bits
     exact hK _ _ rfl (Below.refl _ _)
    refine GCh.val (n := 7) (fun v => [_, _, _, _, _, _, _, IsV v]) (fun _ => rfl) rfl ?_
    apply Exists.intro
    refine And.intro ?_ ?_
    ·intro K' a wy ho hd hb hK
     have hgs : IsV (.bool false) (slot a 73) wy := hd ⟨5, .guard⟩ (by simp) rfl
     rw [wanted_of (j := 5) (d := 73) (b := false) (want := false) (hg := rfl) (ho := rfl) (hd := rfl) (hs := hgs)]
     rw [if_pos (by decide)]
     clear hgs
     have q6 := hd ⟨6, .data⟩ (by simp) rfl
     simp [rAt, IsV, slot] at q6
     clear hd ho
     have hst := HCP.out wy hb
     have HHl := hst.bx.at (.tail _ (.head _))
     have l0 := HHl.cell (j := 0) rfl
     have l1 := HHl.cell (j := 1) rfl
     clear HHl
     have HHm := hst.bx.at (.head _)
     have m0 := HHm.cell (j := 0) rfl
     have m1 := HHm.cell (j := 1) rfl
     clear HHm
     clear hst
     rw [HBO.out] at l1
     rw [HXO.out] at m1
     have hca := CA.out wy ((Below.refl _ _).drew.trans hb)
     have hcb := CB.out wy ((Below.refl _ _).drew.trans hb)
     obtain ⟨s0, s1, s2, s3, s4, s5, s6⟩ := hca
     obtain ⟨t0, t1, t2, t3, t4, t5, t6⟩ := hcb
     go_simp
     try go_bits
     exact hK _ _ rfl (Below.refl _ _)
    refine GCh.val (n := 8) (fun v => [_, _, _, _, _, _, _, _, IsV v]) (fun _ => rfl) rfl ?_
    apply Exists.intro
    refine And.intro ?_ ?_
    ·intro K' a wy ho hd hb hK
     have hgs : IsV (.bool false) (slot a 73) wy := hd ⟨5, .guard⟩ (by simp) rfl
     rw [wanted_of (j := 5) (d := 73) (b := false) (want := false) (hg := rfl) (ho := rfl) (hd := rfl) (hs := hgs)]
     rw [if_pos (by decide)]
     clear hgs
     have o9 := ho 9 (by decide)
     simp [slot] at o9
     clear hd ho
     go_simp
     try go_bits
     exact hK _ _ rfl (Below.refl _ _)
    refine GCh.val (n := 9) (fun v => [_, _, _, _, _, _, _, _, _, IsV v]) (fun _ => rfl) rfl ?_
    apply Exists.intro
    refine And.intro ?_ ?_
    ·intro K' a wy ho hd hb hK
     have hgs : IsV (.bool false) (slot a 73) wy := hd ⟨5, .guard⟩ (by simp) rfl
     rw [wanted_of (j := 5) (d := 73) (b := false) (want := false) (hg := rfl) (ho := rfl) (hd := rfl) (hs := hgs)]
     rw [if_pos (by decide)]
     clear hgs
     have q7 := hd ⟨7, .data⟩ (by simp) rfl
     simp [rAt, IsV, slot] at q7
     have q8 := hd ⟨8, .data⟩ (by simp) rfl
     simp [rAt, IsV, slot] at q8
     clear hd ho
     go_simp
     try go_bits
     exact hK _ _ rfl (Below.refl _ _)
    refine GCh.val (n := 10) (fun v => [_, _, _, _, _, _, _, _, _, _, IsV v]) (fun _ => rfl) rfl ?_
    apply Exists.intro
    refine And.intro ?_ ?_
    ·intro K' a wy ho hd hb hK
     have hgs : IsV (.bool false) (slot a 73) wy := hd ⟨5, .guard⟩ (by simp) rfl
     rw [wanted_of (j := 5) (d := 73) (b := false) (want := false) (hg := rfl) (ho := rfl) (hd := rfl) (hs := hgs)]
     rw [if_pos (by decide)]
     clear hgs
     have q9 := hd ⟨9, .data⟩ (by simp) rfl
     simp [rAt, IsV, slot] at q9
     clear hd ho
     have hst := HCP.out wy hb
     have HHl := hst.bx.at (.tail _ (.head _))
     have l0 := HHl.cell (j := 0) rfl
     have l1 := HHl.cell (j := 1) rfl
     clear HHl
     have HHm := hst.bx.at (.head _)
     have m0 := HHm.cell (j := 0) rfl
     have m1 := HHm.cell (j := 1) rfl
     clear HHm
     clear hst
     rw [HBO.out] at l1
     rw [HXO.out] at m1
     have hca := CA.out wy ((Below.refl _ _).drew.trans hb)
     have hcb := CB.out wy ((Below.refl _ _).drew.trans hb)
     obtain ⟨s0, s1, s2, s3, s4, s5, s6⟩ := hca
     obtain ⟨t0, t1, t2, t3, t4, t5, t6⟩ := hcb
     go_simp
     try go_bits
     exact hK _ _ rfl (Below.refl _ _)
    refine GCh.val (n := 11) (fun v => [_, _, _, _, _, _, _, _, _, _, _, IsV v]) (fun _ => rfl) rfl ?_
    apply Exists.intro
    refine And.intro ?_ ?_
    ·intro K' a wy ho hd hb hK
     have hgs : IsV (.bool false) (slot a 73) wy := hd ⟨5, .guard⟩ (by simp) rfl
     rw [wanted_of (j := 5) (d := 73) (b := false) (want := false) (hg := rfl) (ho := rfl) (hd := rfl) (hs := hgs)]
     rw [if_pos (by decide)]
     clear hgs
     have o6 := ho 6 (by decide)
     simp [slot] at o6
     clear hd ho
     go_simp
     try go_bits
     exact hK _ _ rfl (Below.refl _ _)
    refine GCh.val (n := 12) (fun v => [_, _, _, _, _, _, _, _, _, _, _, _, IsV v]) (fun _ => rfl) rfl ?_
    apply Exists.intro
    refine And.intro ?_ ?_
    ·intro K' a wy ho hd hb hK
     have hgs : IsV (.bool false) (slot a 73) wy := hd ⟨5, .guard⟩ (by simp) rfl
     rw [wanted_of (j := 5) (d := 73) (b := false) (want := false) (hg := rfl) (ho := rfl) (hd := rfl) (hs := hgs)]
     rw [if_pos (by decide)]
     clear hgs
     have q11 := hd ⟨11, .data⟩ (by simp) rfl
     simp [rAt, IsV, slot] at q11
     clear hd ho
     have hst := HCP.out wy hb
     have HHl := hst.bx.at (.tail _ (.head _))
     have l0 := HHl.cell (j := 0) rfl
     have l1 := HHl.cell (j := 1) rfl
     clear HHl
     have HHm := hst.bx.at (.head _)
     have m0 := HHm.cell (j := 0) rfl
     have m1 := HHm.cell (j := 1) rfl
     clear HHm
     clear hst
     rw [HBO.out] at l1
     rw [HXO.out] at m1
     have hca := CA.out wy ((Below.refl _ _).drew.trans hb)
     have hcb := CB.out wy ((Below.refl _ _).drew.trans hb)
     obtain ⟨s0, s1, s2, s3, s4, s5, s6⟩ := hca
     obtain ⟨t0, t1, t2, t3, t4, t5, t6⟩ := hcb
     go_simp
     try go_bits
     exact hK _ _ rfl (Below.refl _ _)
    refine GCh.val (n := 13) (fun v => [_, _, _, _, _, _, _, _, _, _, _, _, _, IsV v]) (fun _ => rfl) rfl ?_
    apply Exists.intro
    refine And.intro ?_ ?_
    ·intro K' a wy ho hd hb hK
     have hgs : IsV (.bool false) (slot a 73) wy := hd ⟨5, .guard⟩ (by simp) rfl
     rw [wanted_of (j := 5) (d := 73) (b := false) (want := false) (hg := rfl) (ho := rfl) (hd := rfl) (hs := hgs)]
     rw [if_pos (by decide)]
     clear hgs
     have o10 := ho 10 (by decide)
     simp [slot] at o10
     clear hd ho
     go_simp
     try go_bits
     exact hK _ _ rfl (Below.refl _ _)
    refine GCh.val (n := 14) (fun v => [_, _, _, _, _, _, _, _, _, _, _, _, _, _, IsV v]) (fun _ => rfl) rfl ?_
    apply Exists.intro
    refine And.intro ?_ ?_
    ·intro K' a wy ho hd hb hK
     have hgs : IsV (.bool false) (slot a 73) wy := hd ⟨5, .guard⟩ (by simp) rfl
     rw [wanted_of (j := 5) (d := 73) (b := false) (want := false) (hg := rfl) (ho := rfl) (hd := rfl) (hs := hgs)]
     rw [if_pos (by decide)]
     clear hgs
     have q12 := hd ⟨12, .data⟩ (by simp) rfl
     simp [rAt, IsV, slot] at q12
     have q13 := hd ⟨13, .data⟩ (by simp) rfl
     simp [rAt, IsV, slot] at q13
     clear hd ho
     go_simp
     try go_bits
     exact hK _ _ rfl (Below.refl _ _)
    refine GCh.val (n := 15) (fun v => [_, _, _, _, _, _, _, _, _, _, _, _, _, _, _, IsV v]) (fun _ => rfl) rfl ?_
    apply Exists.intro
    refine And.intro ?_ ?_
    ·intro K' a wy ho hd hb hK
     have hgs : IsV (.bool false) (slot a 73) wy := hd ⟨5, .guard⟩ (by simp) rfl
     rw [wanted_of (j := 5) (d := 73) (b := false) (want := false) (hg := rfl) (ho := rfl) (hd := rfl) (hs := hgs)]
     rw [if_pos (by decide)]
     clear hgs
     have q14 := hd ⟨14, .data⟩ (by simp) rfl
     simp [rAt, IsV, slot] at q14
     clear hd ho
     have hst := HCP.out wy hb
     have HHl := hst.bx.at (.tail _ (.head _))
     have l0 := HHl.cell (j := 0) rfl
     have l1 := HHl.cell (j := 1) rfl
     clear HHl
     have HHm := hst.bx.at (.head _)
     have m0 := HHm.cell (j := 0) rfl
     have m1 := HHm.cell (j := 1) rfl
     clear HHm
     clear hst
     rw [HBO.out] at l1
     rw [HXO.out] at m1
     have hca := CA.out wy ((Below.refl _ _).drew.trans hb)
     have hcb := CB.out wy ((Below.refl _ _).drew.trans hb)
     obtain ⟨s0, s1, s2, s3, s4, s5, s6⟩ := hca
     obtain ⟨t0, t1, t2, t3, t4, t5, t6⟩ := hcb
     go_simp
     try go_bits
     exact hK _ _ rfl (Below.refl _ _)
    refine GCh.val (n := 16) (fun v => [_, _, _, _, _, _, _, _, _, _, _, _, _, _, _, _, IsV v]) (fun _ => rfl) rfl ?_
    apply Exists.intro
    refine And.intro ?_ ?_
    ·intro K' a wy ho hd hb hK
     have hgs : IsV (.bool false) (slot a 73) wy := hd ⟨5, .guard⟩ (by simp) rfl
     rw [wanted_of (j := 5) (d := 73) (b := false) (want := false) (hg := rfl) (ho := rfl) (hd := rfl) (hs := hgs)]
     rw [if_pos (by decide)]
     clear hgs
     have q10 := hd ⟨10, .data⟩ (by simp) rfl
     simp [rAt, IsV, slot] at q10
     have q15 := hd ⟨15, .data⟩ (by simp) rfl
     simp [rAt, IsV, slot] at q15
     clear hd ho
     have hne := HNE.out wy
     go_simp
     try go_bits
     exact hK _ _ rfl (Below.refl _ _)
    refine GCh.val (n := 17) (fun v => [_, _, _, _, _, _, _, _, _, _, _, _, _, _, _, _, _, IsV v]) (fun _ => rfl) rfl ?_
    apply Exists.intro
    refine And.intro ?_ ?_
    ·intro K' a wy ho hd hb hK
     rw [if_pos (wanted_none rfl)]
     have q5 := hd ⟨5, .data⟩ (by simp) rfl
     simp [rAt, IsV, slot] at q5
     have q16 := hd ⟨16, .data⟩ (by simp) rfl
     simp [rAt, IsV, slot] at q16
     clear hd ho
     go_simp
     try go_bits
     exact hK _ _ rfl (Below.refl _ _)
    intro X wz hR hz
    obtain ⟨x0, x1, x2, x3, x4, x5, x6, x7, x8, x9, x10, x11, x12, x13, x14, x15, x16, x17, -⟩ := hR
    simp only [IsV] at x0 x1 x2 x3 x4 x5 x6 x7 x8 x9 x10 x11 x12 x13 x14 x15 x16 x17
    simp only [putsFrom, x0, x1, x2, x3, x4, x5, x6, x7, x8, x9, x10, x11, x12, x13, x14, x15, x16, x17]
    clear x0 x1 x2 x3 x4 x5 x6 x7 x8 x9 x10 x11 x12 x13 x14 x15 x16 x17
    have HF : Hid (TkS w [(Xb, [.slice xa y.binds.length cxa, .slice xb y.sess.length cxb]), (w1.heap.size + 1, [.slice ba x.binds.length ca, .slice bo x.sess.length cb]), (w1.heap.size, [.slice pa p.addrs.length pc, .int .i64 p.low, .int .i64 p.high, .int .i64 p.most, .int .i64 p.filter, .int .i64 p.lv.udp, .int .i64 p.lv.echo, .int .i64 p.lv.opening, .int .i64 p.lv.opn, .int .i64 p.lv.closing])] pa p ba bo x xa xb y wz) := HCP.out wz hz
    clear HCP
    go_simp
    refine hK2 _ _ (hJ _ _ ?_)
    (repeat apply Exists.intro)
    exact ⟨⟨rfl, HF.out⟩, rfl⟩
   case rest =>
   obtain ⟨rfl, hS⟩ := hcut
   have S8 : Hid _ := hS
   clear hS S5 CA CB HNE
   go_wp2_with fail
   go_roundw
   case rel => exact ⟨k + 1, by omega, by go_num, by rw [HLN.out]; go_num, S8.out⟩
   case measure => simp [intOf]; omega
end Go.Proofs.Ytllagodlgipcpaa
