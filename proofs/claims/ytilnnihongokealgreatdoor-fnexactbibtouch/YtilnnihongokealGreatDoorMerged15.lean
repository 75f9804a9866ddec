/- TouchM, IPieceR, ITch1, in one text. -/
import Derived.Test.YtilnnihongokealGreatDoorMerged9
import Derived.Test.YtilnnihongokealGreatDoorIBindF
import Derived.Test.YtilnnihongokealGreatDoorMerged13
import Derived.Test.YtilnnihongokealGreatDoorMerged2
import Derived.Test.YtilnnihongokealGreatDoorMerged11
import Derived.Test.YtilnnihongokealGreatDoorMerged10
import Derived.BigQuiet
import Derived.Deep.DeepCutAuto
import Derived.Test.YtilnnihongokealGreatDoorSTrack

/- TouchM: the program's way to touch a bib (chapter 9), as plain functions, and that it is the specification's; nothing of the program. -/
namespace Go.Proofs.YtilnnihongokealGreatDoor
open Go.RowKit
set_option linter.unusedVariables false
set_option linter.unusedSimpArgs false

/-- Whether a peer outside may begin a session with a host. -/
def metB (h : En) (peer : ByteArray) (s : Ss) : Bool := sameEn (sessE s) h && decide (s.peer.toList = peer.toList)
def admitV (p : Pl) (x : Bb) (h : En) (peer : ByteArray) : Bool := if p.filter = 0 then true else if p.filter = 1 then x.sess.any (metB h peer) else false
def sessH (p : Pl) (t : Tc) (h : En) (st now : Int) : Ss := ⟨h.proto, h.addr, h.port, t.peer, t.peerPort, st, now + trackLifeV p.lv t.proto st⟩
def growB (p : Pl) (xs : List Bd) (h : En) : List Bd := if (xs.find? (ofIn h.proto h.addr h.port)).isSome = true then xs else xs ++ [(bindForV p xs h).1]
def beginV (p : Pl) (x : Bb) (h : En) (t : Tc) (now : Int) : Bo :=
 if trackNewV t.proto t.inside t.flags = 0 then boE 6
 else if (!t.inside && !admitV p x h t.peer) = true then boE 6
 else if (x.sess.length : Int) = p.most then boE 9
 else if (bindForV p x.binds h).2 = false then boE 9
 else ⟨⟨growB p x.binds h, x.sess ++ [sessH p t h (trackNewV t.proto t.inside t.flags) now]⟩, (bindForV p x.binds h).1, 0⟩
def hostV (x : Bb) (t : Tc) : En × Bool := if t.inside = true then (⟨t.proto, t.addr, t.port⟩, true) else (hostE ((x.binds.find? (ofOut t.proto t.addr t.port)).getD bdZ), (x.binds.find? (ofOut t.proto t.addr t.port)).isSome)
def keyT (h : En) (t : Tc) : Sk := ⟨h, t.peer, t.peerPort⟩
def goI (p : Pl) (x : Bb) (t : Tc) (now : Int) : Bo :=
 if (hostV x t).2 = false then boE 6
 else match x.sess.findIdx? (fun s => sameSk (sessK s) (keyT (hostV x t).1 t)) with
  | none => beginV p x (hostV x t).1 t now
  | some i => ⟨⟨x.binds, setN x.sess i (nextS p t now)⟩, (x.binds.find? (ofIn (hostV x t).1.proto (hostV x t).1.addr (hostV x t).1.port)).getD bdZ, 0⟩

theorem ba_ext {a b : ByteArray} (h : a.toList = b.toList) : a = b := by
 rw [ByteArray.toList_eq, ByteArray.toList_eq] at h
 apply ByteArray.ext
 exact Array.toList_inj.1 h
theorem sameEn_same (q p : En) : sameEn q p = true ↔ q = p := by
 rw [sameEn_eq]
 simp only [Bool.and_eq_true, decide_eq_true_iff]
 constructor
 ·rintro ⟨⟨h1, h2⟩, h3⟩
  have h4 := ba_ext h2
  cases q; cases p; simp_all
 ·rintro rfl; simp
theorem ofIn_host {h : En} {c : Bd} : ofIn h.proto h.addr h.port c = true ↔ hostE c = h := by
 rw [← host_in]; exact sameEn_same _ _
theorem withP_key {c : Bd} {h : En} (hc : hostE c = h) (t : Tc) (s : Ss) : withP c t.peer t.peerPort s = sameSk (sessK s) (keyT h t) := by
 unfold withP sameSk keyT
 rw [← sess_has, hc]
 show _ = (sameEn (sessE s) h && ((s.peer.toList == t.peer.toList) && (s.peerPort == t.peerPort)))
 rw [Bool.eq_iff_iff]; simp [and_assoc]
theorem withA_met {c : Bd} {h : En} (hc : hostE c = h) (peer : ByteArray) (s : Ss) : withA c peer s = metB h peer s := by
 unfold withA metB; rw [← sess_has, hc]

theorem book_sess {p : Pl} {x : Bb} (hok : bookOk p x = true) {s : Ss} (hs : s ∈ x.sess) : x.binds.any (ofIn s.proto s.inn s.inPort) = true := by
 unfold bookOk at hok
 simp only [Bool.and_eq_true] at hok
 obtain ⟨i, hi, rfl⟩ := List.getElem_of_mem hs
 have := upN_iff.1 hok.2 i hi
 unfold sessB at this
 simp only [Bool.and_eq_true] at this
 exact this.1.1
theorem book_one {p : Pl} {x : Bb} (hok : bookOk p x = true) {c d : Bd} (hc : c ∈ x.binds) (hd : d ∈ x.binds) (he : hostE c = hostE d) : c = d := by
 unfold bookOk at hok
 simp only [Bool.and_eq_true] at hok
 have hF := upN_iff.1 hok.1.2
 obtain ⟨i, hi, rfl⟩ := List.getElem_of_mem hc
 obtain ⟨j, hj, rfl⟩ := List.getElem_of_mem hd
 have key : ∀ i j (hi : i < x.binds.length) (hj : j < x.binds.length), i < j → hostE x.binds[i] = hostE x.binds[j] → False := by
  intro i j hi hj hij he
  have h1 := hF j hj
  unfold fitB at h1
  simp only [Bool.and_eq_true, Bool.not_eq_true'] at h1
  have h6 := h1.1.1.1.2
  refine List.any_eq_false.1 h6 x.binds[i] (take_mem hi hij) ?_
  exact (ofIn_host (h := hostE x.binds[j])).2 he
 rcases Nat.lt_trichotomy i j with h | h | h
 ·exact (key i j hi hj h he).elim
 ·subst h; rfl
 ·exact (key j i hj hi h he.symm).elim
theorem book_find {p : Pl} {x : Bb} (hok : bookOk p x = true) {c : Bd} (hc : c ∈ x.binds) {h : En} (he : hostE c = h) : x.binds.find? (ofIn h.proto h.addr h.port) = some c := by
 cases hf : x.binds.find? (ofIn h.proto h.addr h.port) with
 | none =>
  have := List.find?_eq_none.1 hf c hc
  exact absurd (ofIn_host.2 he) this
 | some d =>
  have h1 := List.mem_of_find?_eq_some hf
  have h2 := ofIn_host.1 (List.find?_some hf)
  rw [book_one hok h1 hc (h2.trans he.symm)]
theorem bindFor_host (p : Pl) (xs : List Bd) (h : En) : hostE (bindForV p xs h).1 = h := by
 unfold bindForV
 split
 ·rename_i hs
  cases hf : xs.find? (ofIn h.proto h.addr h.port) with
  | none => rw [hf] at hs; simp at hs
  | some c => exact ofIn_host.1 (List.find?_some hf)
 ·rfl
theorem findI_neg {α : Type} {f : α → Bool} {xs : List α} : findI f xs < 0 ↔ (xs.find? f).isSome = false := by
 rw [find_some_any, ← findI_any]; simp
theorem grow_new (p : Pl) (xs : List Bd) (h : En) : newB xs (bindForV p xs h).1 = growB p xs h := by
 have e := bindFor_host p xs h
 generalize hc : (bindForV p xs h).1 = c at *
 have e2 : ofIn c.proto c.inn c.inPort = ofIn h.proto h.addr h.port := by rw [← e]; rfl
 unfold newB growB
 rw [e2, hc]
 cases hs : (xs.find? (ofIn h.proto h.addr h.port)).isSome with
 | true => rw [if_neg (fun hh => by rw [findI_neg, hs] at hh; exact absurd hh (by decide)), if_pos rfl]
 | false => rw [if_pos (findI_neg.2 hs), if_neg (by decide)]
theorem sess_h (p : Pl) (t : Tc) (h : En) (c : Bd) (st now : Int) (he : hostE c = h) (hp : h.proto = t.proto) : sessN p t c st now = sessH p t h st now := by
 subst he
 unfold sessN sessH
 rw [hp]; rfl
theorem begin_in {p : Pl} {x : Bb} {t : Tc} (c : Bd) (now : Int) (hm : (x.sess.length : Int) ≤ p.most) (hin : t.inside = true) : newV p x t c now = beginV p x ⟨t.proto, t.addr, t.port⟩ t now := by
 unfold newV beginV
 by_cases h0 : trackNewV t.proto t.inside t.flags = 0
 ·rw [if_pos h0, if_pos h0]
 have ha : ¬ (!t.inside && !admitV p x ⟨t.proto, t.addr, t.port⟩ t.peer) = true := by rw [hin]; simp
 rw [if_neg h0, if_neg h0, if_neg ha]
 by_cases h1 : (x.sess.length : Int) = p.most
 ·have h2 : p.most ≤ (x.sess.length : Int) := by omega
  rw [if_pos h1, if_pos h2]
 have h2 : ¬ p.most ≤ (x.sess.length : Int) := by omega
 rw [if_neg h1, if_neg h2]
 clear h2
 have hl := bindFor_lend p x.binds ⟨t.proto, t.addr, t.port⟩
 dsimp only at hl
 rw [hin, if_pos rfl, hl]
 cases h2 : (bindForV p x.binds ⟨t.proto, t.addr, t.port⟩).2 with
 | false => simp [boE]
 | true =>
  simp only [if_true, ne_eq, not_true_eq_false, if_false, Bool.true_eq_false]
  rw [grow_new, sess_h p t ⟨t.proto, t.addr, t.port⟩ _ _ now (bindFor_host _ _ _) rfl]
theorem begin_out {p : Pl} {x : Bb} {t : Tc} {c : Bd} {now : Int} (hok : bookOk p x = true) (hfl : p.filter = 0 ∨ p.filter = 1 ∨ p.filter = 2) (hm : (x.sess.length : Int) ≤ p.most) (hin : t.inside = false) (hc : c ∈ x.binds) (hp : c.proto = t.proto) : (if goneB p x t c = true then boE 6 else newV p x t c now) = beginV p x (hostE c) t now := by
 have hf := book_find hok hc (h := hostE c) rfl
 have hb : bindForV p x.binds (hostE c) = (c, true) := by unfold bindForV; rw [hf]; rfl
 have hg : goneB p x t c = (!t.inside && !admitV p x (hostE c) t.peer) := by
  unfold goneB admitV
  rw [show withA c t.peer = metB (hostE c) t.peer from funext fun s => withA_met rfl _ s]
  rcases hfl with h | h | h <;> rw [h] <;> simp
 rw [hg]
 unfold newV beginV
 cases hd : (!t.inside && !admitV p x (hostE c) t.peer) with
 | true => simp
 | false =>
  simp only [Bool.false_eq_true, if_false]
  by_cases h0 : trackNewV t.proto t.inside t.flags = 0
  ·rw [if_pos h0, if_pos h0]
  rw [if_neg h0, if_neg h0]
  by_cases h1 : (x.sess.length : Int) = p.most
  ·have h2 : p.most ≤ (x.sess.length : Int) := by omega
   rw [if_pos h1, if_pos h2]
  have h2 : ¬ p.most ≤ (x.sess.length : Int) := by omega
  rw [if_neg h1, if_neg h2, hb, hin]
  simp only [Bool.false_eq_true, if_false, ne_eq, not_true_eq_false, Bool.true_eq_false]
  rw [show newB x.binds c = growB p x.binds (hostE c) from by rw [← grow_new, hb], sess_h p t (hostE c) c _ now rfl hp]
theorem pool_filter {p : Pl} (h : poolOk p = true) : p.filter = 0 ∨ p.filter = 1 ∨ p.filter = 2 := by
 unfold poolOk at h; simp only [Bool.and_eq_true] at h
 have := isIn_parts h.1.1.2
 omega
theorem go_same {p : Pl} {x : Bb} {t : Tc} {now : Int} (hok : bookOk p x = true) : goI p x t now = goV p x t now := by
 have hk := hok
 unfold bookOk at hk
 simp only [Bool.and_eq_true, decide_eq_true_iff] at hk
 have hpo := hk.1.1.1.1
 have hm := hk.1.1.1.2
 clear hk
 unfold goI goV hostV
 cases hin : t.inside with
 | true =>
  simp only [if_true, Bool.true_eq_false, if_false]
  cases hf : x.binds.find? (ofIn t.proto t.addr t.port) with
  | none =>
   have hn : x.sess.findIdx? (fun s => sameSk (sessK s) (keyT ⟨t.proto, t.addr, t.port⟩ t)) = none := by
    rw [List.findIdx?_eq_none_iff]
    intro s hs
    cases hh : sameSk (sessK s) (keyT ⟨t.proto, t.addr, t.port⟩ t) with
    | false => rfl
    | true =>
     unfold sameSk at hh
     simp only [Bool.and_eq_true] at hh
     have h1 : sessE s = ⟨t.proto, t.addr, t.port⟩ := (sameEn_same _ _).1 hh.1
     obtain ⟨d, hd, hq⟩ := List.any_eq_true.1 (book_sess hok hs)
     have h2 : hostE d = sessE s := (ofIn_host (h := sessE s)).1 hq
     exact absurd ((ofIn_host (h := ⟨t.proto, t.addr, t.port⟩)).2 (h2.trans h1)) (List.find?_eq_none.1 hf d hd)
   rw [hn]
   exact (begin_in bdZ now hm hin).symm
  | some c =>
   have hc := List.mem_of_find?_eq_some hf
   have he : hostE c = ⟨t.proto, t.addr, t.port⟩ := (ofIn_host (h := ⟨t.proto, t.addr, t.port⟩)).1 (List.find?_some hf)
   dsimp only
   rw [show withP c t.peer t.peerPort = fun s => sameSk (sessK s) (keyT ⟨t.proto, t.addr, t.port⟩ t) from funext fun s => withP_key he t s]
   cases x.sess.findIdx? (fun s => sameSk (sessK s) (keyT ⟨t.proto, t.addr, t.port⟩ t)) with
   | none =>
    dsimp only
    rw [if_neg (by unfold goneB; rw [hin]; simp)]
    exact (begin_in c now hm hin).symm
   | some i => rfl
 | false =>
  simp only [Bool.false_eq_true, if_false]
  cases hf : x.binds.find? (ofOut t.proto t.addr t.port) with
  | none => rfl
  | some c =>
   have hc := List.mem_of_find?_eq_some hf
   have hp : c.proto = t.proto := by
    have := List.find?_some hf
    unfold ofOut at this
    simp only [Bool.and_eq_true, decide_eq_true_iff] at this
    exact this.1.1
   simp only [Option.isSome_some, Bool.true_eq_false, if_false, Option.getD_some]
   rw [show withP c t.peer t.peerPort = fun s => sameSk (sessK s) (keyT (hostE c) t) from funext fun s => withP_key rfl t s]
   cases x.sess.findIdx? (fun s => sameSk (sessK s) (keyT (hostE c) t)) with
   | none => exact (begin_out hok (pool_filter hpo) hm hin hc hp).symm
   | some i =>
    dsimp only
    rw [book_find hok hc rfl]; rfl
theorem touch_same (p : Pl) (x : Bb) (t : Tc) (now : Int) : (if (bookOk p x && isTime now && touchOk t) = true then goI p x t now else boE 1) = bibTouchV p x t now := by
 unfold bibTouchV
 rw [book_bib]
 by_cases h : (bibOk p x && isTime now && touchOk t) = true
 ·rw [if_pos h, if_pos h]
  refine go_same ?_
  rw [book_bib]
  simp only [Bool.and_eq_true] at h
  exact h.1.1
 ·rw [if_neg h, if_neg h]
end Go.Proofs.YtilnnihongokealGreatDoor

/- IPieceR: what the program's addrsPair, isTime and PieceRight answer. -/
namespace Go.Proofs.YtilnnihongokealGreatDoor
open Go.RowKit Go.PlainAid
set_option linter.unusedVariables false
set_option linter.unusedSimpArgs false


theorem implTime_any (n : Int) (w : World) :
  Calls Tryz.prog 31 #[.int .i64 n] w fun e w' => e = .returned (.bool (isTime n)) ∧ w' = w := by
 by_cases h1 : 0 ≤ n
 ·by_cases h2 : n ≤ 1000000000
  ·have HV : Hid (isTime n = true) := by unfold Hid isTime isIn; simp [h1, h2]
   go_enter Tryz.func31, Tryz.ntmps31
   go_wp2_with fail
   go_ret
   exact ⟨ret_bool (by rw [HV.out]), rfl⟩
  ·have HV : Hid (isTime n = false) := by unfold Hid isTime isIn; simp [h2]
   go_enter Tryz.func31, Tryz.ntmps31
   go_wp2_with fail
   go_ret
   exact ⟨ret_bool (by rw [HV.out]), rfl⟩
 ·have HV : Hid (isTime n = false) := by unfold Hid isTime isIn; simp [h1]
  have h1' : n < 0 := by omega
  go_enter Tryz.func31, Tryz.ntmps31
  go_wp2_with fail
  go_ret
  exact ⟨ret_bool (by rw [HV.out]), rfl⟩

end Go.Proofs.YtilnnihongokealGreatDoor

/- ITch1: what the program's begins, TrackNew (of flags that are a byte) and touchRight answer. -/
namespace Go.Proofs.YtilnnihongokealGreatDoor
open Go.RowKit Go.PlainAid
set_option linter.unusedVariables false
set_option linter.unusedSimpArgs false

theorem begins_any (flags : Int) (w : World) :
  Calls Tryz.prog 107 #[.int .i64 flags] w fun e w' => e = .returned (.bool (decide (bits .and .i64 flags 22 = 2))) ∧ w' = w := by
 by_cases h : bits .and .i64 flags 22 = 2
 ·go_enter Tryz.func107, Tryz.ntmps107
  go_wp2_with fail
  go_ret
  exact ⟨ret_bool (by simp [h]), rfl⟩
 ·go_enter Tryz.func107, Tryz.ntmps107
  go_wp2_with fail
  go_ret
  exact ⟨ret_bool (by simp [h]), rfl⟩
theorem new_byte {proto : Int} {inside : Bool} {flags : Int} (hf : isIn flags 0 255 = true) : trackNewV proto inside flags = if stillP proto = true then 3 else if proto = 6 then (if bits .and .i64 flags 22 = 2 then (if inside = true then 1 else 2) else 0) else 0 := by
 unfold trackNewV
 have e := flags_22 hf
 rw [if_neg (by rw [hf]; decide)]
 by_cases h1 : stillP proto = true
 ·rw [if_pos h1, if_pos h1]
 ·rw [if_neg h1, if_neg h1]
  by_cases h2 : proto = 6
  ·rw [if_pos h2]
   by_cases h3 : bits .and .i64 flags 22 = 2
   ·rw [if_pos h3, if_pos ⟨h2, e.mpr h3⟩]
   ·rw [if_neg h3, if_neg (fun h => h3 (e.mp h.2))]
  ·rw [if_neg h2, if_neg (fun h => h2 h.1)]
theorem new_range (proto : Int) (inside : Bool) (flags : Int) : 0 ≤ trackNewV proto inside flags ∧ trackNewV proto inside flags ≤ 3 := by
 unfold trackNewV
 (repeat' split) <;> omega
set_option maxRecDepth 100000 in
set_option maxHeartbeats 1000000 in
theorem implNewB_any (proto : Int) (inside : Bool) (flags : Int) (w : World) (hf : isIn flags 0 255 = true) :
  Calls Tryz.prog 81 #[.int .i64 proto, .bool inside, .int .i64 flags] w fun e w' => e = .returned (.int .i64 (trackNewV proto inside flags)) ∧ w' = w := by
 have HA : Hid (∀ W, Calls Tryz.prog 85 #[.int .i64 proto] W fun e w' => e = .returned (.bool (stillP proto)) ∧ w' = W) := fun W => implStill_any _ W
 have HC : Hid (∀ W, Calls Tryz.prog 78 #[.int .i64 flags] W fun e w' => e = .returned (.bool (isIn flags 0 255)) ∧ w' = W) := fun W => implByte_any _ W
 have HB : Hid (∀ W, Calls Tryz.prog 107 #[.int .i64 flags] W fun e w' => e = .returned (.bool (decide (bits .and .i64 flags 22 = 2))) ∧ w' = W) := fun W => begins_any _ W
 have HV : Hid (trackNewV proto inside flags = if stillP proto = true then 3 else if proto = 6 then (if bits .and .i64 flags 22 = 2 then (if inside = true then 1 else 2) else 0) else 0) := new_byte hf
 rw [hf] at HC
 generalize trackNewV proto inside flags = ans at *
 clear hf
 cases hs : stillP proto with
 | true =>
  rw [hs] at HA
  have HX : Hid (ans = 3) := by unfold Hid; rw [HV.out, if_pos hs]
  clear HV hs
  go_enter Tryz.func81, Tryz.ntmps81
  go_wp2_with fail
  refine (HA.out _).mono ?_
  rintro e w1 ⟨rfl, rfl⟩
  go_wp2_with fail
  go_ret
  exact ⟨ret_int HX.out.symm, rfl⟩
 | false =>
  rw [hs, if_neg (by decide)] at HV
  rw [hs] at HA
  clear hs
  by_cases hp : proto = 6
  ·subst hp
   rw [if_pos rfl] at HV
   by_cases hb : bits .and .i64 flags 22 = 2
   ·rw [if_pos hb] at HV
    rw [decide_eq_true hb] at HB
    clear hb
    cases inside
    all_goals
     simp at HV
     go_enter Tryz.func81, Tryz.ntmps81
     go_wp2_with fail
     refine (HA.out _).mono ?_
     rintro e w1 ⟨rfl, rfl⟩
     go_wp2_with fail
     refine (HC.out _).mono ?_
     rintro e w1 ⟨rfl, rfl⟩
     go_wp2_with fail
     refine (HB.out _).mono ?_
     rintro e w1 ⟨rfl, rfl⟩
     go_wp2_with fail
     go_ret
     exact ⟨ret_int HV.out.symm, rfl⟩
   ·rw [if_neg hb] at HV
    rw [decide_eq_false hb] at HB
    clear hb
    go_enter Tryz.func81, Tryz.ntmps81
    go_wp2_with fail
    refine (HA.out _).mono ?_
    rintro e w1 ⟨rfl, rfl⟩
    go_wp2_with fail
    refine (HC.out _).mono ?_
    rintro e w1 ⟨rfl, rfl⟩
    go_wp2_with fail
    refine (HB.out _).mono ?_
    rintro e w1 ⟨rfl, rfl⟩
    go_wp2_with fail
    go_ret
    exact ⟨ret_int HV.out.symm, rfl⟩
  ·rw [if_neg hp] at HV
   go_enter Tryz.func81, Tryz.ntmps81
   go_wp2_with fail
   refine (HA.out _).mono ?_
   rintro e w1 ⟨rfl, rfl⟩
   go_wp2_with fail
   go_ret
   exact ⟨ret_int HV.out.symm, rfl⟩
set_option maxRecDepth 100000 in
set_option maxHeartbeats 1000000 in
theorem touchRight_any (t : Tc) (w : World) (hs1 : t.addr.size ≤ 1048576) (hs2 : t.peer.size ≤ 1048576) :
  Calls Tryz.prog 32 #[tcC t] w fun e w' => e = .returned (.bool (touchOk t)) ∧ Below w.heap.size w w' := by
 obtain ⟨proto, inside, addr, port, peer, peerPort, flags⟩ := t
 dsimp only at hs1 hs2
 have HZ : Hid (Below w.heap.size w (w.alloc (.cells #[.int .i64 proto, .bool inside, .string addr, .int .i64 port, .string peer, .int .i64 peerPort, .int .i64 flags] 50))) := (Below.refl _ _).alloc (Nat.le_refl _) _
 have HT : Hid (HoldsL (w.alloc (.cells #[.int .i64 proto, .bool inside, .string addr, .int .i64 port, .string peer, .int .i64 peerPort, .int .i64 flags] 50)) w.heap.size [.int .i64 proto, .bool inside, .string addr, .int .i64 port, .string peer, .int .i64 peerPort, .int .i64 flags]) := HoldsL.new w [.int .i64 proto, .bool inside, .string addr, .int .i64 port, .string peer, .int .i64 peerPort, .int .i64 flags] 50
 have H1 : Hid (∀ W, Calls Tryz.prog 75 #[.int .i64 proto] W fun e w' => e = .returned (.bool (protoB proto)) ∧ w' = W) := fun W => isBound_any _ W
 have H2 : Hid (∀ W, Calls Tryz.prog 76 #[.string addr] W fun e w' => e = .returned (.bool (addrOk addr)) ∧ w' = W) := fun W => implAddrRight_any addr W
 have H3 : Hid (∀ W, Calls Tryz.prog 77 #[.int .i64 port] W fun e w' => e = .returned (.bool (isW port)) ∧ w' = W) := fun W => implWordIs_any _ W
 have H4 : Hid (∀ W, Calls Tryz.prog 77 #[.int .i64 peerPort] W fun e w' => e = .returned (.bool (isW peerPort)) ∧ w' = W) := fun W => implWordIs_any _ W
 have H5 : Hid (∀ W, Calls Tryz.prog 78 #[.int .i64 flags] W fun e w' => e = .returned (.bool (isIn flags 0 255)) ∧ w' = W) := fun W => implByte_any _ W
 have HV : Hid (touchOk ⟨proto, inside, addr, port, peer, peerPort, flags⟩ = (protoB proto && addrOk addr && (inside || decide (addr.size = 4)) && isW port && decide (peer.size = 4) && isW peerPort && isIn flags 0 255)) := rfl
 generalize touchOk ⟨proto, inside, addr, port, peer, peerPort, flags⟩ = ans at *
 generalize protoB proto = b1 at *
 generalize addrOk addr = b2 at *
 generalize isW port = b3 at *
 generalize isW peerPort = b4 at *
 generalize isIn flags 0 255 = b5 at *
 unfold tcC
 go_enter Tryz.func32, Tryz.ntmps32
 go_upto_region 1 with fail
 generalize w.alloc (.cells #[.int .i64 proto, .bool inside, .string addr, .int .i64 port, .string peer, .int .i64 peerPort, .int .i64 flags] 50) = W at *
 have k0 := HT.out.cell (j := 0) rfl
 have k1 := HT.out.cell (j := 1) rfl
 have k2 := HT.out.cell (j := 2) rfl
 have k3 := HT.out.cell (j := 3) rfl
 have k4 := HT.out.cell (j := 4) rfl
 have k5 := HT.out.cell (j := 5) rfl
 have k6 := HT.out.cell (j := 6) rfl
 clear HT
 go_wp2_with fail
 refine (H1.out _).mono ?_
 rintro e W ⟨rfl, rfl⟩
 cases b1 with
 | false =>
  go_wp2_with fail
  go_ret
  exact ⟨ret_bool (by rw [HV.out]; rfl), HZ.out⟩
 | true =>
 go_wp2_with fail
 refine (H2.out _).mono ?_
 rintro e W ⟨rfl, rfl⟩
 cases b2 with
 | false =>
  go_wp2_with fail
  go_ret
  exact ⟨ret_bool (by rw [HV.out]; rfl), HZ.out⟩
 | true =>
 by_cases hi : inside = false ∧ ¬ addr.size = 4
 ·obtain ⟨rfl, ha⟩ := hi
  have haI : ¬ (addr.size : Int) = 4 := by omega
  go_wp2_with fail
  go_ret
  exact ⟨ret_bool (by rw [HV.out, decide_eq_false ha]; rfl), HZ.out⟩
 have HI : Hid ((inside || decide (addr.size = 4)) = true) := by
  unfold Hid
  cases inside with
  | true => rfl
  | false => simp at hi; simp [hi]
 have hsp : inside = true ∨ (inside = false ∧ addr.size = 4) := by
  cases inside with
  | true => exact .inl rfl
  | false => simp at hi; exact .inr ⟨rfl, hi⟩
 clear hi
 have HV2 : Hid (ans = (b3 && decide (peer.size = 4) && b4 && b5)) := by unfold Hid; rw [HV.out, HI.out]; rfl
 clear HV HI
 rcases hsp with rfl | ⟨rfl, ha⟩
 all_goals
  try have haI : (addr.size : Int) = 4 := by omega
  go_wp2_with fail
  refine (H3.out _).mono ?_
  rintro e W ⟨rfl, rfl⟩
  cases b3 with
  | false =>
   go_wp2_with fail
   go_ret
   exact ⟨ret_bool (by rw [HV2.out]; rfl), HZ.out⟩
  | true =>
  go_wp2_with fail
  refine (H4.out _).mono ?_
  rintro e W ⟨rfl, rfl⟩
  cases b4 with
  | false =>
   go_wp2_with fail
   go_ret
   exact ⟨ret_bool (by rw [HV2.out]; simp), HZ.out⟩
  | true =>
  by_cases hp : peer.size = 4
  ·have HX : Hid (ans = b5) := by unfold Hid; rw [HV2.out, decide_eq_true hp]; rfl
   have hpI : (peer.size : Int) = 4 := by omega
   go_wp2_with fail
   refine (H5.out _).mono ?_
   rintro e W ⟨rfl, rfl⟩
   go_wp2_with fail
   go_ret
   exact ⟨ret_bool HX.out.symm, HZ.out⟩
  ·have HX : Hid (ans = false) := by unfold Hid; rw [HV2.out, decide_eq_false hp]; rfl
   have hpI : ¬ (peer.size : Int) = 4 := by omega
   go_wp2_with fail
   go_ret
   exact ⟨ret_bool HX.out.symm, HZ.out⟩
end Go.Proofs.YtilnnihongokealGreatDoor
