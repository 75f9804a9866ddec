import Derived.Test.YthpopipedamciaaGreatMerged19
import Derived.Deep.RegionHeldLaw
import Derived.Test.YthpopipedamciaaGreatIBk1
set_option linter.unusedVariables false
set_option linter.unusedSimpArgs false
set_option maxRecDepth 100000
set_option maxHeartbeats 8000000
namespace Go.Proofs.YthpopipedamciaaGreat
open Go.RowKit Go.PlainAid
theorem implNat_any (s:ByteArray) (b:Int) (w:World) (hs:s.size≤1048576) :
  Calls Tryz.prog 40 #[.agg #[.string s,.int .i64 b]] w fun e w'=>e=.returned (.bool (natOk s b))∧Below w.heap.size w w':=by
 have hB:Hid (Below w.heap.size w (w.alloc (.cells #[.string s,.int .i64 b] 30))):=(Below.refl _ _).alloc (Nat.le_refl _) _;by_cases h16:s.size=16
 ·have e16:((s.size:Int) != 16)=false:=by simp; omega
  by_cases hp:prefixOk s b=true
  ·have hcall:Hid (∀ W,Calls Tryz.prog 89 #[.agg #[.string s,.int .i64 b]] W fun e w'=>e=.returned (.bool true)∧Below W.heap.size W w'):=fun W=>by rw [← hp]; exact implPrefixRight_any s b W hs
   have HV:Hid (natOk s b=natBits b):=by unfold Hid natOk; simp [hp,h16]
   clear h16 hp;by_cases hb:b=32∨b=40∨b=48∨b=56∨b=64∨b=96
   ·have HN:Hid (natBits b=true):=by unfold Hid natBits; rcases hb with h | h | h | h | h | h<;>subst h<;>rfl
    rcases hb with h | h | h | h | h | h<;>subst h
    all_goals
     go_enter Tryz.func40,Tryz.ntmps40
     go_wp2_with fail
     refine (hcall.out _).mono ?_;rintro e w1 ⟨rfl,hb1⟩;obtain ⟨hc,hf⟩:=bcell hb1;have HB1:Hid _:=hB.out.trans (hb1.mono (by simp));clear hf hb1;go_wp2
     go_ret;exact ⟨ret_bool (by rw [HV.out,HN.out]),HB1.out⟩
   ·have HN:Hid (natBits b=false):=by
     unfold Hid natBits;have h1:(b==96)=false:=by simp; omega
     rw [h1,Bool.false_or,Bool.eq_false_iff];intro hh;simp at hh;omega
    have e1:(b==32)=false:=by simp; omega
    have e2:(b==40)=false:=by simp; omega
    have e3:(b==48)=false:=by simp; omega
    have e4:(b==56)=false:=by simp; omega
    have e5:(b==64)=false:=by simp; omega
    have e6:(b==96)=false:=by simp; omega
    clear hb;go_enter Tryz.func40,Tryz.ntmps40
    go_wp2_with fail
    refine (hcall.out _).mono ?_;rintro e w1 ⟨rfl,hb1⟩;obtain ⟨hc,hf⟩:=bcell hb1;have HB1:Hid _:=hB.out.trans (hb1.mono (by simp));clear hf hb1;go_wp2
    go_ret;exact ⟨ret_bool (by rw [HV.out,HN.out]),HB1.out⟩
  ·have hp':prefixOk s b=false:=by simpa using hp
   have hcall:Hid (∀ W,Calls Tryz.prog 89 #[.agg #[.string s,.int .i64 b]] W fun e w'=>e=.returned (.bool false)∧Below W.heap.size W w'):=fun W=>by rw [← hp']; exact implPrefixRight_any s b W hs
   have HV:Hid (natOk s b=false):=by unfold Hid natOk; simp [hp']
   clear h16 hp hp';go_enter Tryz.func40,Tryz.ntmps40
   go_wp2_with fail
   refine (hcall.out _).mono ?_;rintro e w1 ⟨rfl,hb1⟩;have HB1:Hid _:=hB.out.trans (hb1.mono (by simp));clear hb1;go_wp2
   go_ret;exact ⟨ret_bool HV.out.symm,HB1.out⟩
 ·have e16:((s.size:Int) != 16)=true:=by simp; omega
  have HV:Hid (natOk s b=false):=by unfold Hid natOk; simp [h16]
  clear h16;go_enter Tryz.func40,Tryz.ntmps40
  go_wp2
  go_ret;exact ⟨ret_bool HV.out.symm,hB.out⟩
structure HoldsP (w:World) (B at1 k:Nat):Prop where
 get:∀ i,i < 4→w.cell? ⟨B,i,none⟩=some (.int .i64 (if i < k then (posE at1 i:Nat) else 0))∧w.frozen? ⟨B,i,none⟩=false
theorem HoldsP.set {w:World} {B at1 k:Nat} (h:HoldsP w B at1 k) (hk:k < 4):HoldsP (w.setCell ⟨B,k,none⟩ (.int .i64 (posE at1 k:Nat))) B at1 (k+1):=by
 refine ⟨fun i hi=>⟨?_,by rw [World.frozen?_setCell]; exact (h.get i hi).2⟩⟩;by_cases e:i=k
 ·subst e; rw [if_pos (by omega)]; exact World.cell?_setCell_same _ _ _ (h.get i hi).1
 ·rw [World.cell?_setCell_other _ _ _ _ (fun e2=>e (by injection e2 with _ h2; exact h2.symm)),(h.get i hi).1];by_cases h2:i < k
  ·rw [if_pos h2,if_pos (by omega)]
  ·rw [if_neg h2,if_neg (by omega)]
theorem Holds.below {w w3:World} {B n:Nat} {f:Nat→Int} (h:Holds w B n f) (hB:B < w.heap.size) (hb:Below w.heap.size w w3):Holds w3 B n f :=
 ⟨fun i hi=>⟨((bcell hb).1 B i hB).trans (h.get i hi).1,((bcell hb).2 B i hB).trans (h.get i hi).2⟩⟩
theorem implPool_any (p:Pl) (a:Option Addr) (cap:Nat) (w:World) (hl:p.addrs.length≤1048576) (hcap:p.addrs.length≤cap) (hsz:∀ s∈p.addrs,s.size≤1048576) (hr:SlIs strL1 1 w a p.addrs) :
  Calls Tryz.prog 121 #[plC a cap p] w fun e w'=>e=.returned (.bool (poolOk p))∧Below w.heap.size w w':=by
 have hun:undef=Value.tuple #[]:=rfl;have GA:Hid (Below w.heap.size w (w.alloc (.cells #[.slice a p.addrs.length cap,.int .i64 p.low,.int .i64 p.high,.int .i64 p.most,.int .i64 p.filter,.int .i64 p.lv.udp,.int .i64 p.lv.echo,.int .i64 p.lv.opening,.int .i64 p.lv.opn,.int .i64 p.lv.closing] 28))):=(Below.refl _ _).alloc (Nat.le_refl _) _;have H0:Hid (HoldsL (w.alloc (.cells #[.slice a p.addrs.length cap,.int .i64 p.low,.int .i64 p.high,.int .i64 p.most,.int .i64 p.filter,.int .i64 p.lv.udp,.int .i64 p.lv.echo,.int .i64 p.lv.opening,.int .i64 p.lv.opn,.int .i64 p.lv.closing] 28)) w.heap.size [.slice a p.addrs.length cap,.int .i64 p.low,.int .i64 p.high,.int .i64 p.most,.int .i64 p.filter,.int .i64 p.lv.udp,.int .i64 p.lv.echo,.int .i64 p.lv.opening,.int .i64 p.lv.opn,.int .i64 p.lv.closing]):=HoldsL.new w [.slice a p.addrs.length cap,.int .i64 p.low,.int .i64 p.high,.int .i64 p.most,.int .i64 p.filter,.int .i64 p.lv.udp,.int .i64 p.lv.echo,.int .i64 p.lv.opening,.int .i64 p.lv.opn,.int .i64 p.lv.closing] 28;have HA:Hid (∀ W,Below w.heap.size w W→Calls Tryz.prog 148 #[.slice a p.addrs.length cap] W fun e w'=>e=.returned (.bool (poolA p.addrs))∧Below W.heap.size W w'):=fun W hW=>implPoolA_any p.addrs a cap W hl hcap hsz (hr.below hW)
 have HL:Hid (∀ W,Calls Tryz.prog 149 #[lvC p.lv] W fun e w'=>e=.returned (.bool (livesOk p.lv))∧Below W.heap.size W w'):=fun W=>implLives_any p.lv W
 have HV:Hid (poolOk p=(poolA p.addrs&&decide (1≤p.low)&&decide (p.low≤p.high)&&decide (p.high≤65535)&&decide (1≤p.most)&&decide (p.most≤60)&&decide (0≤p.filter)&&decide (p.filter≤2)&&livesOk p.lv)):=by
  unfold Hid poolOk poolA isIn;generalize livesOk p.lv=x1;generalize upN addrOne p.addrs p.addrs.length=x2;rw [Bool.eq_iff_iff]; simp only [Bool.and_eq_true];constructor
  ·intro h; simp_all
  ·intro h; simp_all
 generalize poolOk p=ans at *;generalize poolA p.addrs=bA at *;generalize livesOk p.lv=bL at *;clear hr hsz;unfold plC;unfold lvC at HL;go_enter Tryz.func121,Tryz.ntmps121
 go_wp2_with fail
 refine (HA.out _ GA.out).mono ?_;rintro e w1 ⟨rfl,q1⟩;have G1:Hid (Below w.heap.size w w1):=GA.out.trans (q1.mono GA.out.size);have K1:=H0.out.kept (by simp) q1;obtain ⟨k0,k1,k2,k3,k4,k5,k6,k7,k8,k9⟩:=K1.c10;clear q1 K1 H0 GA HA
 cases bA with
 | false =>
  have HX:Hid (ans=false):=by unfold Hid; rw [HV.out]; simp
  go_wp2_with fail
  go_ret;exact ⟨ret_bool HX.out.symm,G1.out⟩
 | true =>
  by_cases t0:1≤p.low
  case neg =>
   have HX:Hid (ans=false):=by unfold Hid; rw [HV.out,decide_eq_false t0]; simp
   have d0:decide (1≤p.low)=false:=decide_eq_false t0;go_wp2_with fail
   go_ret;exact ⟨ret_bool HX.out.symm,G1.out⟩
  have d0:decide (1≤p.low)=true:=decide_eq_true t0;by_cases t1:p.low≤p.high
  case neg =>
   have HX:Hid (ans=false):=by unfold Hid; rw [HV.out,decide_eq_false t1]; simp
   have d1:decide (p.low≤p.high)=false:=decide_eq_false t1;go_wp2_with fail
   go_ret;exact ⟨ret_bool HX.out.symm,G1.out⟩
  have d1:decide (p.low≤p.high)=true:=decide_eq_true t1;by_cases t2:p.high≤65535
  case neg =>
   have HX:Hid (ans=false):=by unfold Hid; rw [HV.out,decide_eq_false t2]; simp
   have d2:decide (p.high≤65535)=false:=decide_eq_false t2;go_wp2_with fail
   go_ret;exact ⟨ret_bool HX.out.symm,G1.out⟩
  have d2:decide (p.high≤65535)=true:=decide_eq_true t2;by_cases t3:1≤p.most
  case neg =>
   have HX:Hid (ans=false):=by unfold Hid; rw [HV.out,decide_eq_false t3]; simp
   have d3:decide (1≤p.most)=false:=decide_eq_false t3;go_wp2_with fail
   go_ret;exact ⟨ret_bool HX.out.symm,G1.out⟩
  have d3:decide (1≤p.most)=true:=decide_eq_true t3;by_cases t4:p.most≤60
  case neg =>
   have HX:Hid (ans=false):=by unfold Hid; rw [HV.out,decide_eq_false t4]; simp
   have d4:decide (p.most≤60)=false:=decide_eq_false t4;go_wp2_with fail
   go_ret;exact ⟨ret_bool HX.out.symm,G1.out⟩
  have d4:decide (p.most≤60)=true:=decide_eq_true t4;by_cases t5:0≤p.filter
  case neg =>
   have HX:Hid (ans=false):=by unfold Hid; rw [HV.out,decide_eq_false t5]; simp
   have d5:decide (0≤p.filter)=false:=decide_eq_false t5;go_wp2_with fail
   go_ret;exact ⟨ret_bool HX.out.symm,G1.out⟩
  have d5:decide (0≤p.filter)=true:=decide_eq_true t5;by_cases t6:p.filter≤2
  case neg =>
   have HX:Hid (ans=false):=by unfold Hid; rw [HV.out,decide_eq_false t6]; simp
   have d6:decide (p.filter≤2)=false:=decide_eq_false t6;go_wp2_with fail
   go_ret;exact ⟨ret_bool HX.out.symm,G1.out⟩
  have d6:decide (p.filter≤2)=true:=decide_eq_true t6;have HX:Hid (ans=bL):=by unfold Hid; rw [HV.out,decide_eq_true t0,decide_eq_true t1,decide_eq_true t2,decide_eq_true t3,decide_eq_true t4,decide_eq_true t5,decide_eq_true t6]; rfl
  go_wp2_with fail
  refine (HL.out _).mono ?_;rintro e w2 ⟨rfl,q2⟩;have G2:Hid (Below w.heap.size w w2):=G1.out.trans (q2.mono G1.out.size);clear q2;go_wp2_with fail
  go_ret;exact ⟨ret_bool HX.out.symm,G2.out⟩
end Go.Proofs.YthpopipedamciaaGreat
