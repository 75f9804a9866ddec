import Derived.Test.YthagnjokdnnmpaaGreatMerged11
import Derived.Test.YthagnjokdnnmpaaGreatMerged13
import Derived.Test.YthagnjokdnnmpaaGreatMerged8
import Derived.Deep.DeepCutAuto
set_option linter.unusedVariables false
set_option linter.unusedSimpArgs false
set_option maxRecDepth 100000
set_option maxHeartbeats 8000000
namespace Go.Proofs.YthagnjokdnnmpaaGreat
open Go.RowKit Go.PlainAid
theorem SlIs.take {α:Type} {en:α→List Value} {n:Nat} {w:World} {a:Option Addr} {xs:List α} (h:SlIs en n w a xs) (i:Nat):SlIs en n w a (xs.take i):=by
 rcases h with rfl | ⟨b,off,rfl,hb,hat⟩
 ·exact .inl (by simp)
 ·exact .inr ⟨b,off,rfl,hb,fun j hj=>by rw [List.getElem_take]; exact hat j (by simp at hj; omega)⟩
theorem specPool_any (p:Pl) (a:Option Addr) (cap:Nat) (w:World) (hl:p.addrs.length≤1048576) (hcap:p.addrs.length≤cap) (hsz:∀ s∈p.addrs,s.size≤1048576) (hr:SlIs strL1 1 w a p.addrs) :
  Calls Tryz.prog 113 #[plC a cap p] w fun e w'=>e=.returned (.bool (poolOk p))∧Below w.heap.size w w':=by
 have hun:undef=Value.tuple #[]:=rfl;have GA:Hid (Below w.heap.size w (w.alloc (.cells #[.slice a p.addrs.length cap,.int .i64 p.low,.int .i64 p.high,.int .i64 p.most,.int .i64 p.filter,.int .i64 p.lv.udp,.int .i64 p.lv.echo,.int .i64 p.lv.opening,.int .i64 p.lv.opn,.int .i64 p.lv.closing] 28))):=(Below.refl _ _).alloc (Nat.le_refl _) _;have H0:Hid (HoldsL (w.alloc (.cells #[.slice a p.addrs.length cap,.int .i64 p.low,.int .i64 p.high,.int .i64 p.most,.int .i64 p.filter,.int .i64 p.lv.udp,.int .i64 p.lv.echo,.int .i64 p.lv.opening,.int .i64 p.lv.opn,.int .i64 p.lv.closing] 28)) w.heap.size [.slice a p.addrs.length cap,.int .i64 p.low,.int .i64 p.high,.int .i64 p.most,.int .i64 p.filter,.int .i64 p.lv.udp,.int .i64 p.lv.echo,.int .i64 p.lv.opening,.int .i64 p.lv.opn,.int .i64 p.lv.closing]):=HoldsL.new w [.slice a p.addrs.length cap,.int .i64 p.low,.int .i64 p.high,.int .i64 p.most,.int .i64 p.filter,.int .i64 p.lv.udp,.int .i64 p.lv.echo,.int .i64 p.lv.opening,.int .i64 p.lv.opn,.int .i64 p.lv.closing] 28;have HM:Hid (∀ W,Calls Tryz.prog 66 #[.int .i64 p.most,.int .i64 1,.int .i64 60] W fun e w'=>e=.returned (.bool (isIn p.most 1 60))∧w'=W):=fun W=>specIs_any _ _ _ W
 have HF:Hid (∀ W,Calls Tryz.prog 66 #[.int .i64 p.filter,.int .i64 0,.int .i64 2] W fun e w'=>e=.returned (.bool (isIn p.filter 0 2))∧w'=W):=fun W=>specIs_any _ _ _ W
 have HL:Hid (∀ W,Calls Tryz.prog 139 #[lvC p.lv] W fun e w'=>e=.returned (.bool (livesOk p.lv))∧Below W.heap.size W w'):=fun W=>specLives_any p.lv W
 have HV:Hid (poolOk p=(decide (1≤p.addrs.length)&&decide (p.addrs.length≤8)&&decide (1≤p.low)&&decide (p.low≤p.high)&&decide (p.high≤65535)&&isIn p.most 1 60&&isIn p.filter 0 2&&livesOk p.lv&&upN addrOne p.addrs p.addrs.length)):=rfl;generalize poolOk p=ans at *;generalize isIn p.most 1 60=bm at *;generalize isIn p.filter 0 2=bf at *;generalize livesOk p.lv=bl at *;have HR:Hid (SlIs strL1 1 w a p.addrs):=hr;have HZ:Hid (∀ s∈p.addrs,s.size≤1048576):=hsz;clear hr hsz;unfold plC;unfold lvC at HL;by_cases h1:p.addrs.length < 1
 ·have HX:Hid (ans=false):=by
    unfold Hid; rw [HV.out,show decide (1≤p.addrs.length)=false from decide_eq_false (by omega)];simp
  have h1':(p.addrs.length:Int) < 1:=by omega
  go_enter Tryz.func113,Tryz.ntmps113
  go_wp2_with fail
  go_ret;exact ⟨ret_bool HX.out.symm,GA.out⟩
 ·rw [show decide (1≤p.addrs.length)=true from decide_eq_true (by omega)] at HV;have h1n:¬ (p.addrs.length:Int) < 1:=by omega
  by_cases h2:8 < p.addrs.length
  ·have HX:Hid (ans=false):=by
     unfold Hid; rw [HV.out,show decide (p.addrs.length≤8)=false from decide_eq_false (by omega)];simp
   have h2':(8:Int) < (p.addrs.length:Int):=by omega
   go_enter Tryz.func113,Tryz.ntmps113
   go_wp2_with fail
   go_ret;exact ⟨ret_bool HX.out.symm,GA.out⟩
  ·rw [show decide (p.addrs.length≤8)=true from decide_eq_true (by omega)] at HV;have h2n:¬ (8:Int) < (p.addrs.length:Int):=by omega
   by_cases h3:p.low < 1
   ·have HX:Hid (ans=false):=by
      unfold Hid; rw [HV.out,show decide (1≤p.low)=false from decide_eq_false (by omega)];simp
    have h3':p.low < 1:=by omega
    go_enter Tryz.func113,Tryz.ntmps113
    go_wp2_with fail
    go_ret;exact ⟨ret_bool HX.out.symm,GA.out⟩
   ·rw [show decide (1≤p.low)=true from decide_eq_true (by omega)] at HV;have h3n:¬ p.low < 1:=by omega
    by_cases h4:p.high < p.low
    ·have HX:Hid (ans=false):=by
       unfold Hid; rw [HV.out,show decide (p.low≤p.high)=false from decide_eq_false (by omega)];simp
     have h4':p.high < p.low:=by omega
     go_enter Tryz.func113,Tryz.ntmps113
     go_wp2_with fail
     go_ret;exact ⟨ret_bool HX.out.symm,GA.out⟩
    ·rw [show decide (p.low≤p.high)=true from decide_eq_true (by omega)] at HV;have h4n:¬ p.high < p.low:=by omega
     by_cases h5:65535 < p.high
     ·have HX:Hid (ans=false):=by
        unfold Hid; rw [HV.out,show decide (p.high≤65535)=false from decide_eq_false (by omega)];simp
      have h5':65535 < p.high:=by omega
      go_enter Tryz.func113,Tryz.ntmps113
      go_wp2_with fail
      go_ret;exact ⟨ret_bool HX.out.symm,GA.out⟩
     ·rw [show decide (p.high≤65535)=true from decide_eq_true (by omega)] at HV;have h5n:¬ 65535 < p.high:=by omega
      cases bm with
      | false =>
       have HX:Hid (ans=false):=by unfold Hid; rw [HV.out]; simp
       go_enter Tryz.func113,Tryz.ntmps113
       go_wp2_with (go_at_call 66; refine (HM.out _).mono ?_; rintro e w1 ⟨rfl,rfl⟩)
       go_ret;exact ⟨ret_bool HX.out.symm,GA.out⟩
      | true =>
       cases bf with
       | false =>
        have HX:Hid (ans=false):=by unfold Hid; rw [HV.out]; simp
        go_enter Tryz.func113,Tryz.ntmps113
        go_wp2_with fail
        refine (HM.out _).mono ?_;rintro e w1 ⟨rfl,rfl⟩;go_wp2_with fail
        refine (HF.out _).mono ?_;rintro e w1 ⟨rfl,rfl⟩;go_wp2_with fail
        go_ret;exact ⟨ret_bool HX.out.symm,GA.out⟩
       | true =>
        go_enter Tryz.func113,Tryz.ntmps113
        go_wp2_with fail
        refine (HM.out _).mono ?_;rintro e w1 ⟨rfl,rfl⟩;go_wp2_with fail
        refine (HF.out _).mono ?_;rintro e w1 ⟨rfl,rfl⟩;go_wp2_with fail
        refine (HL.out _).mono ?_;rintro e w1 ⟨rfl,q1⟩;have G1:Hid (Below w.heap.size w w1):=GA.out.trans (q1.mono GA.out.size);have K1:=H0.out.kept (by simp) q1;have k0:=K1.cell (j:=0) rfl;have KB:Hid (w.heap.size < w1.heap.size):=K1.lt (by simp);have HK1:Hid _:=K1;clear q1 K1 H0 GA HM HF HL
        cases bl with
        | false =>
         have HX:Hid (ans=false):=by unfold Hid; rw [HV.out]; simp
         go_wp2_with fail
         go_ret;exact ⟨ret_bool HX.out.symm,G1.out⟩
        | true =>
         have HU:Hid (ans=upN addrOne p.addrs p.addrs.length):=by unfold Hid; rw [HV.out]; simp
         clear HV;go_wp2_with fail
         go_loopw [3] (fun iv wr=>∃ i:Nat,i≤p.addrs.length∧iv=.int .i64 i∧upN addrOne p.addrs i=true∧wr.cell? ⟨w.heap.size,0,none⟩=some (.slice a p.addrs.length cap)∧Below w.heap.size w wr) (fun iv _=>p.addrs.length-(intOf iv).toNat)
         case atStart=>exact ⟨0,Nat.zero_le _,rfl,rfl,k0,G1.out⟩
         case round =>
          obtain ⟨i,hi,rfl,hn,hk,hbel⟩:=hrel;have HN:Hid (upN addrOne p.addrs i=true):=hn;have HB:Hid (Below w.heap.size w wr):=hbel;have HK:Hid (wr.cell? ⟨w.heap.size,0,none⟩=some (.slice a p.addrs.length cap)):=hk;clear hn hbel k0;by_cases hlt:i < p.addrs.length
          ·obtain ⟨b,off,rfl,hb,hat⟩:=HR.out.at hlt;have HA:=(hat.below hb HB.out) i hlt;have HST:Hid _:=upN_step (f:=addrOne) hlt;have hsi:=HZ.out p.addrs[i] (List.getElem_mem hlt);have HATF:Hid (addrOne (p.addrs.take i) p.addrs[i]=false→upN addrOne p.addrs p.addrs.length=false):=upN_at hlt;obtain ⟨s,hs⟩ : ∃ s,s=p.addrs[i]:=⟨_,rfl⟩;rw [← hs] at HA HST HATF hsi;have c0:wr.cell? ⟨b,off+i,none⟩=some (.string s):=by have:=HA 0 _ rfl; simpa using this
           have C0:Hid (wr.cell? ⟨b,off+i,none⟩=some (.string s)):=c0;have hbw:Hid (b < wr.heap.size):=World.block_lt_of_cell? wr _ c0;have hwb:Hid (w.heap.size < wr.heap.size):=World.block_lt_of_cell? wr _ hk;have HIN:Hid (∀ W,Below wr.heap.size wr W→Calls Tryz.prog 140 #[.slice (some ⟨b,off,none⟩) i cap,.string s] W fun e w'=>e=.returned (.bool (inL (p.addrs.take i) s))∧Below W.heap.size W w'):=fun W hW=>by
            have:=spIn_any (p.addrs.take i) s (some ⟨b,off,none⟩) cap W (by simp; omega) (((HR.out.take i).below HB.out).below hW);rw [List.length_take_of_le (by omega)] at this;exact this
           have hic:(i:Int)≤(cap:Int):=by omega
           have hlt':(i:Int) < (p.addrs.length:Int):=by omega
           clear hat HA hs c0 hun;by_cases h4:s.size=4
           ·have hd:((s.size:Int) != 4)=false:=by rw [h4]; rfl
            have hd2:decide ((s.size:Int)=4)=true:=by rw [h4]; rfl
            generalize hin:inL (p.addrs.take i) s=bi at *;go_upto_region 6 with fail
            go_cut [74] (fun v wx=>v=.bool bi∧Below wr.heap.size wr wx)
            case first =>
             rename_i J K2 hJ hK2;refine wp_region_growH [56,57,58,59,60,61,62,63,64,65,66,67,68,69,70,71,72,73,74] (by kernel_rfl) (by kernel_rfl) ?_;apply GCh.v0
             ·rfl
             ·intro K' a wy ho hd hb hK kz;have o1:=ho 1 (by decide);simp [slot] at o1;clear hd ho;go_simp;try go_bits
              exact kz _ rfl
             apply GCh.v1
             ·rfl
             ·intro K' a wy ho hd hb hK kz;have q0:=hd ⟨0,.data⟩ (by simp) rfl;simp [rAt,IsV,slot] at q0;clear hd ho;have kk0:=((bcell ((Below.refl _ wr).drew.trans hb)).1 _ _ hwb.out).trans HK.out; have kk1:=((bcell ((Below.refl _ wr).drew.trans hb)).1 _ _ hbw.out).trans C0.out;go_simp;try go_bits
              exact kz _ rfl
             apply GCh.v2
             ·rfl
             ·intro K' a wy ho hd hb hK kz;have o3:=ho 3 (by decide);simp [slot] at o3;clear hd ho;go_simp;try go_bits
              exact kz _ rfl
             apply GCh.v3
             ·rfl
             ·intro K' a wy ho hd hb hK kz;have q1:=hd ⟨1,.data⟩ (by simp) rfl;simp [rAt,IsV,slot] at q1;have q2:=hd ⟨2,.data⟩ (by simp) rfl;simp [rAt,IsV,slot] at q2;clear hd ho;go_simp;try go_bits
              exact kz _ rfl
             apply GCh.v4
             ·rfl
             ·intro K' a wy ho hd hb hK kz;have q3:=hd ⟨3,.data⟩ (by simp) rfl;simp [rAt,IsV,slot] at q3;clear hd ho;have kk0:=((bcell ((Below.refl _ wr).drew.trans hb)).1 _ _ hwb.out).trans HK.out; have kk1:=((bcell ((Below.refl _ wr).drew.trans hb)).1 _ _ hbw.out).trans C0.out;go_simp;try go_bits
              exact kz _ rfl
             apply GCh.v5
             ·rfl
             ·intro K' a wy ho hd hb hK kz;have q4:=hd ⟨4,.data⟩ (by simp) rfl;simp [rAt,IsV,slot] at q4;clear hd ho;go_simp;try go_bits
              exact kz _ rfl
             apply GCh.v6
             ·rfl
             ·intro K' a wy ho hd hb hK kz;have q5:=hd ⟨5,.data⟩ (by simp) rfl;simp [rAt,IsV,slot] at q5;clear hd ho;go_simp;try go_bits
              exact kz _ rfl
             apply GCh.v7
             ·rfl
             ·intro K' a wy ho hd hb hK kz;have q6:=hd ⟨6,.data⟩ (by simp) rfl;simp [rAt,IsV,slot] at q6;clear hd ho;go_simp;try go_bits
              exact kz _ rfl
             refine GCh.val (n:=8) (fun v=>[_,_,_,_,_,_,_,_,IsV v]) (fun _=>rfl) rfl ?_;apply Exists.intro;refine And.intro ?_ ?_
             ·intro K' a wy ho hd hb hK;refine wants 7 63 false false rfl rfl rfl (hd ⟨7,.guard⟩ (by simp) rfl) rfl ?_;have o1:=ho 1 (by decide);simp [slot] at o1;clear hd ho;go_simp;try go_bits
              exact hK _ _ rfl (Below.refl _ _)
             refine GCh.val (n:=9) (fun v=>[_,_,_,_,_,_,_,_,_,IsV v]) (fun _=>rfl) rfl ?_;apply Exists.intro;refine And.intro ?_ ?_
             ·intro K' a wy ho hd hb hK;refine wants 7 63 false false rfl rfl rfl (hd ⟨7,.guard⟩ (by simp) rfl) rfl ?_;have q8:=hd ⟨8,.data⟩ (by simp) rfl;simp [rAt,IsV,slot] at q8;clear hd ho;have kk0:=((bcell ((Below.refl _ wr).drew.trans hb)).1 _ _ hwb.out).trans HK.out; have kk1:=((bcell ((Below.refl _ wr).drew.trans hb)).1 _ _ hbw.out).trans C0.out;go_simp;try go_bits
              exact hK _ _ rfl (Below.refl _ _)
             refine GCh.val (n:=10) (fun v=>[_,_,_,_,_,_,_,_,_,_,IsV v]) (fun _=>rfl) rfl ?_;apply Exists.intro;refine And.intro ?_ ?_
             ·intro K' a wy ho hd hb hK;refine wants 7 63 false false rfl rfl rfl (hd ⟨7,.guard⟩ (by simp) rfl) rfl ?_;have o3:=ho 3 (by decide);simp [slot] at o3;clear hd ho;go_simp;try go_bits
              exact hK _ _ rfl (Below.refl _ _)
             refine GCh.val (n:=11) (fun v=>[_,_,_,_,_,_,_,_,_,_,_,IsV v]) (fun _=>rfl) rfl ?_;apply Exists.intro;refine And.intro ?_ ?_
             ·intro K' a wy ho hd hb hK;refine wants 7 63 false false rfl rfl rfl (hd ⟨7,.guard⟩ (by simp) rfl) rfl ?_;have q9:=hd ⟨9,.data⟩ (by simp) rfl;simp [rAt,IsV,slot] at q9;have q10:=hd ⟨10,.data⟩ (by simp) rfl;simp [rAt,IsV,slot] at q10;clear hd ho;go_simp;try go_bits
              exact hK _ _ rfl (Below.refl _ _)
             refine GCh.val (n:=12) (fun v=>[_,_,_,_,_,_,_,_,_,_,_,_,IsV v]) (fun _=>rfl) rfl ?_;apply Exists.intro;refine And.intro ?_ ?_
             ·intro K' a wy ho hd hb hK;refine wants 7 63 false false rfl rfl rfl (hd ⟨7,.guard⟩ (by simp) rfl) rfl ?_;have o1:=ho 1 (by decide);simp [slot] at o1;clear hd ho;go_simp;try go_bits
              exact hK _ _ rfl (Below.refl _ _)
             refine GCh.val (n:=13) (fun v=>[_,_,_,_,_,_,_,_,_,_,_,_,_,IsV v]) (fun _=>rfl) rfl ?_;apply Exists.intro;refine And.intro ?_ ?_
             ·intro K' a wy ho hd hb hK;refine wants 7 63 false false rfl rfl rfl (hd ⟨7,.guard⟩ (by simp) rfl) rfl ?_;have q12:=hd ⟨12,.data⟩ (by simp) rfl;simp [rAt,IsV,slot] at q12;clear hd ho;have kk0:=((bcell ((Below.refl _ wr).drew.trans hb)).1 _ _ hwb.out).trans HK.out; have kk1:=((bcell ((Below.refl _ wr).drew.trans hb)).1 _ _ hbw.out).trans C0.out;go_simp;try go_bits
              exact hK _ _ rfl (Below.refl _ _)
             refine GCh.val (n:=14) (fun v=>[_,_,_,_,_,_,_,_,_,_,_,_,_,_,IsV v]) (fun _=>rfl) rfl ?_;apply Exists.intro;refine And.intro ?_ ?_
             ·intro K' a wy ho hd hb hK;refine wants 7 63 false false rfl rfl rfl (hd ⟨7,.guard⟩ (by simp) rfl) rfl ?_;have o3:=ho 3 (by decide);simp [slot] at o3;clear hd ho;go_simp;try go_bits
              exact hK _ _ rfl (Below.refl _ _)
             refine GCh.val (n:=15) (fun v=>[_,_,_,_,_,_,_,_,_,_,_,_,_,_,_,IsV v]) (fun _=>rfl) rfl ?_;apply Exists.intro;refine And.intro ?_ ?_
             ·intro K' a wy ho hd hb hK;refine wants 7 63 false false rfl rfl rfl (hd ⟨7,.guard⟩ (by simp) rfl) rfl ?_;have q13:=hd ⟨13,.data⟩ (by simp) rfl;simp [rAt,IsV,slot] at q13;have q14:=hd ⟨14,.data⟩ (by simp) rfl;simp [rAt,IsV,slot] at q14;clear hd ho;go_simp;try go_bits
              exact hK _ _ rfl (Below.refl _ _)
             refine GCh.val (n:=16) (fun v=>[_,_,_,_,_,_,_,_,_,_,_,_,_,_,_,_,IsV v]) (fun _=>rfl) rfl ?_;apply Exists.intro;refine And.intro ?_ ?_
             ·intro K' a wy ho hd hb hK;refine wants 7 63 false false rfl rfl rfl (hd ⟨7,.guard⟩ (by simp) rfl) rfl ?_;have q15:=hd ⟨15,.data⟩ (by simp) rfl;simp [rAt,IsV,slot] at q15;clear hd ho;have kk0:=((bcell ((Below.refl _ wr).drew.trans hb)).1 _ _ hwb.out).trans HK.out; have kk1:=((bcell ((Below.refl _ wr).drew.trans hb)).1 _ _ hbw.out).trans C0.out;go_simp;try go_bits
              exact hK _ _ rfl (Below.refl _ _)
             refine GCh.val (n:=17) (fun v=>[_,_,_,_,_,_,_,_,_,_,_,_,_,_,_,_,_,IsV v]) (fun _=>rfl) rfl ?_;apply Exists.intro;refine And.intro ?_ ?_
             ·intro K' a wy ho hd hb hK;refine wants 7 63 false false rfl rfl rfl (hd ⟨7,.guard⟩ (by simp) rfl) rfl ?_;have q11:=hd ⟨11,.data⟩ (by simp) rfl;simp [rAt,IsV,slot] at q11;have q16:=hd ⟨16,.data⟩ (by simp) rfl;simp [rAt,IsV,slot] at q16;clear hd ho;go_simp;refine (HIN.out wy ((Below.refl _ wr).drew.trans hb)).mono ?_;rintro e wz ⟨rfl,hz⟩;exact hK _ _ rfl hz
             apply GCh.v18
             ·rfl
             ·intro K' a wy ho hd hb hK kz;have q7:=hd ⟨7,.data⟩ (by simp) rfl;simp [rAt,IsV,slot] at q7;have q17:=hd ⟨17,.data⟩ (by simp) rfl;simp [rAt,IsV,slot] at q17;clear hd ho;go_simp;try go_bits
              exact kz _ rfl
             intro X wz hR hz;obtain ⟨x0,x1,x2,x3,x4,x5,x6,x7,x8,x9,x10,x11,x12,x13,x14,x15,x16,x17,x18,-⟩:=hR;simp only [IsV] at x0 x1 x2 x3 x4 x5 x6 x7 x8 x9 x10 x11 x12 x13 x14 x15 x16 x17 x18;simp only [putsFrom,x0,x1,x2,x3,x4,x5,x6,x7,x8,x9,x10,x11,x12,x13,x14,x15,x16,x17,x18];clear x0 x1 x2 x3 x4 x5 x6 x7 x8 x9 x10 x11 x12 x13 x14 x15 x16 x17 x18;go_simp;refine hK2 _ _ (hJ _ _ ?_);(repeat apply Exists.intro)
             refine ⟨⟨rfl,(Below.refl _ wr).drew.trans hz⟩,rfl⟩
            case rest =>
             obtain ⟨rfl,hb6⟩:=hcut;have HB2:Hid (Below w.heap.size w wc):=HB.out.trans (hb6.mono HB.out.size);have hk2:wc.cell? ⟨w.heap.size,0,none⟩=some (.slice (some ⟨b,off,none⟩) p.addrs.length cap):=((bcell hb6).1 _ _ hwb.out).trans HK.out;have HK2:Hid _:=hk2;clear hk2 hb6 hk
             cases bi with
             | true =>
              have HX:Hid (ans=false):=by
               unfold Hid; rw [HU.out]; refine HATF.out ?_;unfold addrOne; rw [hin]; simp
              go_wp2_with fail
              go_ret;exact ⟨ret_bool HX.out.symm,HB2.out⟩
             | false =>
              have HN2:Hid (upN addrOne p.addrs (i+1)=true):=by
               unfold Hid; rw [HST.out,HN.out]; unfold addrOne; rw [hin,h4]; rfl
              go_wp2_with fail
              go_roundw
              case rel=>exact ⟨i+1,by omega,by go_num,HN2.out,HK2.out,HB2.out⟩
              case measure=>simp [intOf]; omega
           ·have hd:((s.size:Int) != 4)=true:=by simp; omega
            have hd2:decide ((s.size:Int)=4)=false:=by simp; omega
            have HX:Hid (ans=false):=by
             unfold Hid; rw [HU.out]; refine HATF.out ?_;unfold addrOne; rw [decide_eq_false h4]; rfl
            go_upto_region 6 with fail
            go_cut [74] (fun v wx=>v=.bool true∧Below wr.heap.size wr wx)
            case first =>
             rename_i J K2 hJ hK2;refine wp_region_growH [56,57,58,59,60,61,62,63,64,65,66,67,68,69,70,71,72,73,74] (by kernel_rfl) (by kernel_rfl) ?_;apply GCh.v0
             ·rfl
             ·intro K' a wy ho hd hb hK kz;have o1:=ho 1 (by decide);simp [slot] at o1;clear hd ho;go_simp;try go_bits
              exact kz _ rfl
             apply GCh.v1
             ·rfl
             ·intro K' a wy ho hd hb hK kz;have q0:=hd ⟨0,.data⟩ (by simp) rfl;simp [rAt,IsV,slot] at q0;clear hd ho;have kk0:=((bcell ((Below.refl _ wr).drew.trans hb)).1 _ _ hwb.out).trans HK.out; have kk1:=((bcell ((Below.refl _ wr).drew.trans hb)).1 _ _ hbw.out).trans C0.out;go_simp;try go_bits
              exact kz _ rfl
             apply GCh.v2
             ·rfl
             ·intro K' a wy ho hd hb hK kz;have o3:=ho 3 (by decide);simp [slot] at o3;clear hd ho;go_simp;try go_bits
              exact kz _ rfl
             apply GCh.v3
             ·rfl
             ·intro K' a wy ho hd hb hK kz;have q1:=hd ⟨1,.data⟩ (by simp) rfl;simp [rAt,IsV,slot] at q1;have q2:=hd ⟨2,.data⟩ (by simp) rfl;simp [rAt,IsV,slot] at q2;clear hd ho;go_simp;try go_bits
              exact kz _ rfl
             apply GCh.v4
             ·rfl
             ·intro K' a wy ho hd hb hK kz;have q3:=hd ⟨3,.data⟩ (by simp) rfl;simp [rAt,IsV,slot] at q3;clear hd ho;have kk0:=((bcell ((Below.refl _ wr).drew.trans hb)).1 _ _ hwb.out).trans HK.out; have kk1:=((bcell ((Below.refl _ wr).drew.trans hb)).1 _ _ hbw.out).trans C0.out;go_simp;try go_bits
              exact kz _ rfl
             apply GCh.v5
             ·rfl
             ·intro K' a wy ho hd hb hK kz;have q4:=hd ⟨4,.data⟩ (by simp) rfl;simp [rAt,IsV,slot] at q4;clear hd ho;go_simp;try go_bits
              exact kz _ rfl
             apply GCh.v6
             ·rfl
             ·intro K' a wy ho hd hb hK kz;have q5:=hd ⟨5,.data⟩ (by simp) rfl;simp [rAt,IsV,slot] at q5;clear hd ho;go_simp;try go_bits
              exact kz _ rfl
             apply GCh.v7
             ·rfl
             ·intro K' a wy ho hd hb hK kz;have q6:=hd ⟨6,.data⟩ (by simp) rfl;simp [rAt,IsV,slot] at q6;clear hd ho;go_simp;try go_bits
              exact kz _ rfl
             refine GCh.val (n:=8) (fun v=>[_,_,_,_,_,_,_,_,IsV v]) (fun _=>rfl) rfl ?_;apply Exists.intro;refine And.intro ?_ ?_
             ·intro K' a wy ho hd hb hK;refine wantsN 7 63 true false rfl rfl rfl (hd ⟨7,.guard⟩ (by simp) rfl) rfl ?_;exact hK undef _ rfl (Below.refl _ _)
             refine GCh.val (n:=9) (fun v=>[_,_,_,_,_,_,_,_,_,IsV v]) (fun _=>rfl) rfl ?_;apply Exists.intro;refine And.intro ?_ ?_
             ·intro K' a wy ho hd hb hK;refine wantsN 7 63 true false rfl rfl rfl (hd ⟨7,.guard⟩ (by simp) rfl) rfl ?_;exact hK undef _ rfl (Below.refl _ _)
             refine GCh.val (n:=10) (fun v=>[_,_,_,_,_,_,_,_,_,_,IsV v]) (fun _=>rfl) rfl ?_;apply Exists.intro;refine And.intro ?_ ?_
             ·intro K' a wy ho hd hb hK;refine wantsN 7 63 true false rfl rfl rfl (hd ⟨7,.guard⟩ (by simp) rfl) rfl ?_;exact hK undef _ rfl (Below.refl _ _)
             refine GCh.val (n:=11) (fun v=>[_,_,_,_,_,_,_,_,_,_,_,IsV v]) (fun _=>rfl) rfl ?_;apply Exists.intro;refine And.intro ?_ ?_
             ·intro K' a wy ho hd hb hK;refine wantsN 7 63 true false rfl rfl rfl (hd ⟨7,.guard⟩ (by simp) rfl) rfl ?_;exact hK undef _ rfl (Below.refl _ _)
             refine GCh.val (n:=12) (fun v=>[_,_,_,_,_,_,_,_,_,_,_,_,IsV v]) (fun _=>rfl) rfl ?_;apply Exists.intro;refine And.intro ?_ ?_
             ·intro K' a wy ho hd hb hK;refine wantsN 7 63 true false rfl rfl rfl (hd ⟨7,.guard⟩ (by simp) rfl) rfl ?_;exact hK undef _ rfl (Below.refl _ _)
             refine GCh.val (n:=13) (fun v=>[_,_,_,_,_,_,_,_,_,_,_,_,_,IsV v]) (fun _=>rfl) rfl ?_;apply Exists.intro;refine And.intro ?_ ?_
             ·intro K' a wy ho hd hb hK;refine wantsN 7 63 true false rfl rfl rfl (hd ⟨7,.guard⟩ (by simp) rfl) rfl ?_;exact hK undef _ rfl (Below.refl _ _)
             refine GCh.val (n:=14) (fun v=>[_,_,_,_,_,_,_,_,_,_,_,_,_,_,IsV v]) (fun _=>rfl) rfl ?_;apply Exists.intro;refine And.intro ?_ ?_
             ·intro K' a wy ho hd hb hK;refine wantsN 7 63 true false rfl rfl rfl (hd ⟨7,.guard⟩ (by simp) rfl) rfl ?_;exact hK undef _ rfl (Below.refl _ _)
             refine GCh.val (n:=15) (fun v=>[_,_,_,_,_,_,_,_,_,_,_,_,_,_,_,IsV v]) (fun _=>rfl) rfl ?_;apply Exists.intro;refine And.intro ?_ ?_
             ·intro K' a wy ho hd hb hK;refine wantsN 7 63 true false rfl rfl rfl (hd ⟨7,.guard⟩ (by simp) rfl) rfl ?_;exact hK undef _ rfl (Below.refl _ _)
             refine GCh.val (n:=16) (fun v=>[_,_,_,_,_,_,_,_,_,_,_,_,_,_,_,_,IsV v]) (fun _=>rfl) rfl ?_;apply Exists.intro;refine And.intro ?_ ?_
             ·intro K' a wy ho hd hb hK;refine wantsN 7 63 true false rfl rfl rfl (hd ⟨7,.guard⟩ (by simp) rfl) rfl ?_;exact hK undef _ rfl (Below.refl _ _)
             refine GCh.val (n:=17) (fun v=>[_,_,_,_,_,_,_,_,_,_,_,_,_,_,_,_,_,IsV v]) (fun _=>rfl) rfl ?_;apply Exists.intro;refine And.intro ?_ ?_
             ·intro K' a wy ho hd hb hK;refine wantsN 7 63 true false rfl rfl rfl (hd ⟨7,.guard⟩ (by simp) rfl) rfl ?_;exact hK undef _ rfl (Below.refl _ _)
             apply GCh.v18
             ·rfl
             ·intro K' a wy ho hd hb hK kz;have q7:=hd ⟨7,.data⟩ (by simp) rfl;simp [rAt,IsV,slot] at q7;have q17:=hd ⟨17,.data⟩ (by simp) rfl;simp [rAt,IsV,slot] at q17;clear hd ho;go_simp;try go_bits
              exact kz _ rfl
             intro X wz hR hz;obtain ⟨x0,x1,x2,x3,x4,x5,x6,x7,x8,x9,x10,x11,x12,x13,x14,x15,x16,x17,x18,-⟩:=hR;simp only [IsV] at x0 x1 x2 x3 x4 x5 x6 x7 x8 x9 x10 x11 x12 x13 x14 x15 x16 x17 x18;simp only [putsFrom,x0,x1,x2,x3,x4,x5,x6,x7,x8,x9,x10,x11,x12,x13,x14,x15,x16,x17,x18];clear x0 x1 x2 x3 x4 x5 x6 x7 x8 x9 x10 x11 x12 x13 x14 x15 x16 x17 x18;go_simp;refine hK2 _ _ (hJ _ _ ?_);(repeat apply Exists.intro)
             refine ⟨⟨rfl,(Below.refl _ wr).drew.trans hz⟩,rfl⟩
            case rest =>
             obtain ⟨rfl,hb6⟩:=hcut;have HB2:Hid (Below w.heap.size w wc):=HB.out.trans (hb6.mono HB.out.size);clear hb6 hk;go_wp2_with fail
             go_ret;exact ⟨ret_bool HX.out.symm,HB2.out⟩
          ·have hie:i=p.addrs.length:=by omega
           have HX:Hid (ans=true):=by unfold Hid; rw [HU.out,← hie]; exact HN.out
           go_wp2_with fail
           go_ret;exact ⟨ret_bool HX.out.symm,HB.out⟩
end Go.Proofs.YthagnjokdnnmpaaGreat
