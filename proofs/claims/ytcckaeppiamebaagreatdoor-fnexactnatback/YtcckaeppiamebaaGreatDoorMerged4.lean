import Derived.Test.YtcckaeppiamebaaGreatDoorAb
import Derived.Test.YtcckaeppiamebaaGreatDoorMerged2
import Derived.Test.YtcckaeppiamebaaGreatDoorMerged3
import Derived.Deep.DeepCutAuto
set_option linter.unusedVariables false
set_option linter.unusedSimpArgs false
set_option maxRecDepth 100000
set_option maxHeartbeats 8000000
namespace Go.Proofs.YtcckaeppiamebaaGreatDoor
open Go.RowKit Go.PlainAid
theorem SlIs.take {α:Type} {en:α→List Value} {n:Nat} {w:World} {a:Option Addr} {xs:List α} (h:SlIs en n w a xs) (i:Nat):SlIs en n w a (xs.take i):=by
 rcases h with rfl | ⟨b,off,rfl,hb,hat⟩
 ·exact .inl (by simp)
 ·exact .inr ⟨b,off,rfl,hb,fun j hj=>by rw [List.getElem_take]; exact hat j (by simp at hj; omega)⟩
theorem specPool_any (p:Pl) (a:Option Addr) (cap:Nat) (w:World) (hl:p.addrs.length≤1048576) (hcap:p.addrs.length≤cap) (hsz:∀ s∈p.addrs,s.size≤1048576) (hr:SlIs strL1 1 w a p.addrs) :
  Cb 75 #[plC a cap p] w (.bool (poolOk p)):=by
 have hun:undef=Value.tuple #[]:=rfl;have GA:Hid (Below w.heap.size w (w.alloc (.cells (PlV a cap p).toArray 48))):=bR.alloc (Nat.le_refl _) _;have H0:Hid (HoldsL (w.alloc (.cells (PlV a cap p).toArray 48)) w.heap.size (PlV a cap p)):=HoldsL.new w (PlV a cap p) 48;have HM:Hid (∀ W,Cw 81 #[iV p.most,iV 1,iV 60] W (.bool (isIn p.most 1 60))):=fun W=>specIs_any _ _ _ W
 have HF:Hid (∀ W,Cw 81 #[iV p.filter,iV 0,iV 2] W (.bool (isIn p.filter 0 2))):=fun W=>specIs_any _ _ _ W
 have HL:Hid (∀ W,Cb 119 #[lvC p.lv] W (.bool (livesOk p.lv))):=fun W=>specLives_any p.lv W
 have HV:Hid (poolOk p=(decide (1≤p.addrs.length)&&decide (p.addrs.length≤8)&&decide (1≤p.low)&&decide (p.low≤p.high)&&decide (p.high≤65535)&&isIn p.most 1 60&&isIn p.filter 0 2&&livesOk p.lv&&upN addrOne p.addrs p.addrs.length)):=rfl;generalize poolOk p=ans at *;generalize isIn p.most 1 60=bm at *;generalize isIn p.filter 0 2=bf at *;generalize livesOk p.lv=bl at *;have HR:Hid (SlIs strL1 1 w a p.addrs):=hr;have HZ:Hid (∀ s∈p.addrs,s.size≤1048576):=hsz;clear hr hsz;unfold plC;unfold lvC at HL;by_cases h1:p.addrs.length < 1
 ·have HX:Hid (ans=false):=by
    unfold Hid; rw [HV.out,show decide (1≤p.addrs.length)=false from decide_eq_false (by omega)];simp
  have h1':(p.addrs.length:Int) < 1:=by omega
  go_enter Tryz.func75,Tryz.ntmps75
  go_wp2_with fail
  go_ret;exact ⟨ret_bool HX.out.symm,GA.out⟩
 ·rw [show decide (1≤p.addrs.length)=true from decide_eq_true (by omega)] at HV;have h1n:¬ (p.addrs.length:Int) < 1:=by omega
  by_cases h2:8 < p.addrs.length
  ·have HX:Hid (ans=false):=by
     unfold Hid; rw [HV.out,show decide (p.addrs.length≤8)=false from decide_eq_false (by omega)];simp
   have h2':(8:Int) < (p.addrs.length:Int):=by omega
   go_enter Tryz.func75,Tryz.ntmps75
   go_wp2_with fail
   go_ret;exact ⟨ret_bool HX.out.symm,GA.out⟩
  ·rw [show decide (p.addrs.length≤8)=true from decide_eq_true (by omega)] at HV;have h2n:¬ (8:Int) < (p.addrs.length:Int):=by omega
   by_cases h3:p.low < 1
   ·have HX:Hid (ans=false):=by
      unfold Hid; rw [HV.out,show decide (1≤p.low)=false from decide_eq_false (by omega)];simp
    have h3':p.low < 1:=by omega
    go_enter Tryz.func75,Tryz.ntmps75
    go_wp2_with fail
    go_ret;exact ⟨ret_bool HX.out.symm,GA.out⟩
   ·rw [show decide (1≤p.low)=true from decide_eq_true (by omega)] at HV;have h3n:¬ p.low < 1:=by omega
    by_cases h4:p.high < p.low
    ·have HX:Hid (ans=false):=by
       unfold Hid; rw [HV.out,show decide (p.low≤p.high)=false from decide_eq_false (by omega)];simp
     have h4':p.high < p.low:=by omega
     go_enter Tryz.func75,Tryz.ntmps75
     go_wp2_with fail
     go_ret;exact ⟨ret_bool HX.out.symm,GA.out⟩
    ·rw [show decide (p.low≤p.high)=true from decide_eq_true (by omega)] at HV;have h4n:¬ p.high < p.low:=by omega
     by_cases h5:65535 < p.high
     ·have HX:Hid (ans=false):=by
        unfold Hid; rw [HV.out,show decide (p.high≤65535)=false from decide_eq_false (by omega)];simp
      have h5':65535 < p.high:=by omega
      go_enter Tryz.func75,Tryz.ntmps75
      go_wp2_with fail
      go_ret;exact ⟨ret_bool HX.out.symm,GA.out⟩
     ·rw [show decide (p.high≤65535)=true from decide_eq_true (by omega)] at HV;have h5n:¬ 65535 < p.high:=by omega
      cases bm with
      | false =>
       have HX:Hid (ans=false):=by unfold Hid; rw [HV.out]; simp
       go_enter Tryz.func75,Tryz.ntmps75
       go_wp2_with (go_at_call 81; refine (HM.out _).mono ?_; rintro e w1 ⟨rfl,rfl⟩)
       go_ret;exact ⟨ret_bool HX.out.symm,GA.out⟩
      | true =>
       cases bf with
       | false =>
        have HX:Hid (ans=false):=by unfold Hid; rw [HV.out]; simp
        go_enter Tryz.func75,Tryz.ntmps75
        go_wp2_with fail
        refine (HM.out _).mono ?_;rintro e w1 ⟨rfl,rfl⟩;go_wp2_with fail
        refine (HF.out _).mono ?_;rintro e w1 ⟨rfl,rfl⟩;go_wp2_with fail
        go_ret;exact ⟨ret_bool HX.out.symm,GA.out⟩
       | true =>
        go_enter Tryz.func75,Tryz.ntmps75
        go_wp2_with fail
        refine (HM.out _).mono ?_;rintro e w1 ⟨rfl,rfl⟩;go_wp2_with fail
        refine (HF.out _).mono ?_;rintro e w1 ⟨rfl,rfl⟩;go_wp2_with fail
        refine (HL.out _).mono ?_;rintro e w1 ⟨rfl,q1⟩;have G1:Hid _:=GA.out.trans (q1.mono GA.out.size);have K1:=H0.out.kept (by simp) q1;have k0:=K1.cell (j:=0) rfl;have KB:Hid (w.heap.size < w1.heap.size):=K1.lt (by simp);have HK1:Hid _:=K1;clear q1 K1 H0 GA HM HF HL
        cases bl with
        | false =>
         have HX:Hid (ans=false):=by unfold Hid; rw [HV.out]; simp
         go_wp2_with fail
         go_ret;exact ⟨ret_bool HX.out.symm,G1.out⟩
        | true =>
         have HU:Hid (ans=upN addrOne p.addrs p.addrs.length):=by unfold Hid; rw [HV.out]; simp
         clear HV;go_wp2_with fail
         go_loopw [3] (fun iv wr=>∃ i:Nat,i≤p.addrs.length∧iv=iV i∧upN addrOne p.addrs i=true∧wr.cell? ⟨w.heap.size,0,none⟩=some (.slice a p.addrs.length cap)∧Below w.heap.size w wr) (fun iv _=>p.addrs.length-(intOf iv).toNat)
         case atStart=>exact ⟨0,Nat.zero_le _,rfl,rfl,k0,G1.out⟩
         case round =>
          obtain ⟨i,hi,rfl,hn,hk,hbel⟩:=hrel;have HN:Hid (upN addrOne p.addrs i=true):=hn;have HB:Hid (Below w.heap.size w wr):=hbel;have HK:Hid (wr.cell? ⟨w.heap.size,0,none⟩=some (.slice a p.addrs.length cap)):=hk;clear hn hbel k0;by_cases hlt:i < p.addrs.length
          ·obtain ⟨b,off,rfl,hb,hat⟩:=HR.out.at hlt;have HA:=(hat.below hb HB.out) i hlt;have HST:Hid _:=upN_step (f:=addrOne) hlt;have hsi:=HZ.out p.addrs[i] (List.getElem_mem hlt);have HATF:Hid (addrOne (p.addrs.take i) p.addrs[i]=false→upN addrOne p.addrs p.addrs.length=false):=upN_at hlt;obtain ⟨s,hs⟩ : ∃ s,s=p.addrs[i]:=⟨_,rfl⟩;rw [← hs] at HA HST HATF hsi;have c0:wr.cell? ⟨b,off+i,none⟩=some (.string s):=by have:=HA 0 _ rfl; simpa using this
           have C0:Hid (wr.cell? ⟨b,off+i,none⟩=some (.string s)):=c0;have hbw:Hid (b < wr.heap.size):=World.block_lt_of_cell? wr _ c0;have hwb:Hid (w.heap.size < wr.heap.size):=World.block_lt_of_cell? wr _ hk;have HIN:Hid (∀ W,Below wr.heap.size wr W→Cb 69 #[.slice (some ⟨b,off,none⟩) i cap,.string s] W (.bool (inL (p.addrs.take i) s))):=fun W hW=>by
            have:=spIn_any (p.addrs.take i) s (some ⟨b,off,none⟩) cap W (by simp; omega) (((HR.out.take i).below HB.out).below hW);rw [List.length_take_of_le (by omega)] at this;exact this
           have hic:(i:Int)≤(cap:Int):=by omega
           have hlt':(i:Int) < (p.addrs.length:Int):=by omega
           clear hat HA hs c0 hun;by_cases h4:s.size=4
           ·have hd:((s.size:Int) != 4)=false:=by rw [h4]; rfl
            have hd2:decide ((s.size:Int)=4)=true:=by rw [h4]; rfl
            generalize hin:inL (p.addrs.take i) s=bi at *;go_upto_region 6 with fail
            go_cut [74] (fun v wx=>v=.bool bi∧Below wr.heap.size wr wx)
            case first =>
             rename_i J K2 hJ hK2;refine wp_region_growH [56,57,58,59,60,61,62,63,64,65,66,67,68,69,70,71,72,73,74] (by kernel_rfl) (by kernel_rfl) ?_;apply GCh.v0
             ·rfl
             ·intro K' a wy ho hd hb hK kz;have o1:=ho 1 (by decide);simp [slot] at o1;clear hd ho;go_simp;try go_bits
              exact kz _ rfl
             apply GCh.v1
             ·rfl
             ·intro K' a wy ho hd hb hK kz;have q0:=hd ⟨0,.data⟩ (by simp) rfl;simp [rAt,IsV,slot] at q0;clear hd ho;have kk0:=((bcell ((Below.refl _ wr).drew.trans hb)).1 _ _ hwb.out).trans HK.out; have kk1:=((bcell ((Below.refl _ wr).drew.trans hb)).1 _ _ hbw.out).trans C0.out;go_simp;try go_bits
              exact kz _ rfl
             apply GCh.v2
             ·rfl
             ·intro K' a wy ho hd hb hK kz;have o3:=ho 3 (by decide);simp [slot] at o3;clear hd ho;go_simp;try go_bits
              exact kz _ rfl
             apply GCh.v3
             ·rfl
             ·intro K' a wy ho hd hb hK kz;have q1:=hd ⟨1,.data⟩ (by simp) rfl;have q2:=hd ⟨2,.data⟩ (by simp) rfl;simp [rAt,IsV,slot] at q1 q2;clear hd ho;go_simp;try go_bits
              exact kz _ rfl
             apply GCh.v4
             ·rfl
             ·intro K' a wy ho hd hb hK kz;have q3:=hd ⟨3,.data⟩ (by simp) rfl;simp [rAt,IsV,slot] at q3;clear hd ho;have kk0:=((bcell ((Below.refl _ wr).drew.trans hb)).1 _ _ hwb.out).trans HK.out; have kk1:=((bcell ((Below.refl _ wr).drew.trans hb)).1 _ _ hbw.out).trans C0.out;go_simp;try go_bits
              exact kz _ rfl
             apply GCh.v5
             ·rfl
             ·intro K' a wy ho hd hb hK kz;have q4:=hd ⟨4,.data⟩ (by simp) rfl;simp [rAt,IsV,slot] at q4;clear hd ho;go_simp;try go_bits
              exact kz _ rfl
             apply GCh.v6
             ·rfl
             ·intro K' a wy ho hd hb hK kz;have q5:=hd ⟨5,.data⟩ (by simp) rfl;simp [rAt,IsV,slot] at q5;clear hd ho;go_simp;try go_bits
              exact kz _ rfl
             apply GCh.v7
             ·rfl
             ·intro K' a wy ho hd hb hK kz;have q6:=hd ⟨6,.data⟩ (by simp) rfl;simp [rAt,IsV,slot] at q6;clear hd ho;go_simp;try go_bits
              exact kz _ rfl
             refine GCh.val (n:=8) (fun v=>[_,_,_,_,_,_,_,_,IsV v]) (fun _=>rfl) rfl ?_;apply Exists.intro;refine And.intro ?_ ?_
             ·intro K' a wy ho hd hb hK;refine wants 7 63 false false rfl rfl rfl (hd ⟨7,.guard⟩ (by simp) rfl) rfl ?_;have o1:=ho 1 (by decide);simp [slot] at o1;clear hd ho;go_simp;try go_bits
              exact hK _ _ rfl bR
             refine GCh.val (n:=9) (fun v=>[_,_,_,_,_,_,_,_,_,IsV v]) (fun _=>rfl) rfl ?_;apply Exists.intro;refine And.intro ?_ ?_
             ·intro K' a wy ho hd hb hK;refine wants 7 63 false false rfl rfl rfl (hd ⟨7,.guard⟩ (by simp) rfl) rfl ?_;have q8:=hd ⟨8,.data⟩ (by simp) rfl;simp [rAt,IsV,slot] at q8;clear hd ho;have kk0:=((bcell ((Below.refl _ wr).drew.trans hb)).1 _ _ hwb.out).trans HK.out; have kk1:=((bcell ((Below.refl _ wr).drew.trans hb)).1 _ _ hbw.out).trans C0.out;go_simp;try go_bits
              exact hK _ _ rfl bR
             refine GCh.val (n:=10) (fun v=>[_,_,_,_,_,_,_,_,_,_,IsV v]) (fun _=>rfl) rfl ?_;apply Exists.intro;refine And.intro ?_ ?_
             ·intro K' a wy ho hd hb hK;refine wants 7 63 false false rfl rfl rfl (hd ⟨7,.guard⟩ (by simp) rfl) rfl ?_;have o3:=ho 3 (by decide);simp [slot] at o3;clear hd ho;go_simp;try go_bits
              exact hK _ _ rfl bR
             refine GCh.val (n:=11) (fun v=>[_,_,_,_,_,_,_,_,_,_,_,IsV v]) (fun _=>rfl) rfl ?_;apply Exists.intro;refine And.intro ?_ ?_
             ·intro K' a wy ho hd hb hK;refine wants 7 63 false false rfl rfl rfl (hd ⟨7,.guard⟩ (by simp) rfl) rfl ?_;have q9:=hd ⟨9,.data⟩ (by simp) rfl;have q10:=hd ⟨10,.data⟩ (by simp) rfl;simp [rAt,IsV,slot] at q9 q10;clear hd ho;go_simp;try go_bits
              exact hK _ _ rfl bR
             refine GCh.val (n:=12) (fun v=>[_,_,_,_,_,_,_,_,_,_,_,_,IsV v]) (fun _=>rfl) rfl ?_;apply Exists.intro;refine And.intro ?_ ?_
             ·intro K' a wy ho hd hb hK;refine wants 7 63 false false rfl rfl rfl (hd ⟨7,.guard⟩ (by simp) rfl) rfl ?_;have o1:=ho 1 (by decide);simp [slot] at o1;clear hd ho;go_simp;try go_bits
              exact hK _ _ rfl bR
             refine GCh.val (n:=13) (fun v=>[_,_,_,_,_,_,_,_,_,_,_,_,_,IsV v]) (fun _=>rfl) rfl ?_;apply Exists.intro;refine And.intro ?_ ?_
             ·intro K' a wy ho hd hb hK;refine wants 7 63 false false rfl rfl rfl (hd ⟨7,.guard⟩ (by simp) rfl) rfl ?_;have q12:=hd ⟨12,.data⟩ (by simp) rfl;simp [rAt,IsV,slot] at q12;clear hd ho;have kk0:=((bcell ((Below.refl _ wr).drew.trans hb)).1 _ _ hwb.out).trans HK.out; have kk1:=((bcell ((Below.refl _ wr).drew.trans hb)).1 _ _ hbw.out).trans C0.out;go_simp;try go_bits
              exact hK _ _ rfl bR
             refine GCh.val (n:=14) (fun v=>[_,_,_,_,_,_,_,_,_,_,_,_,_,_,IsV v]) (fun _=>rfl) rfl ?_;apply Exists.intro;refine And.intro ?_ ?_
             ·intro K' a wy ho hd hb hK;refine wants 7 63 false false rfl rfl rfl (hd ⟨7,.guard⟩ (by simp) rfl) rfl ?_;have o3:=ho 3 (by decide);simp [slot] at o3;clear hd ho;go_simp;try go_bits
              exact hK _ _ rfl bR
             refine GCh.val (n:=15) (fun v=>[_,_,_,_,_,_,_,_,_,_,_,_,_,_,_,IsV v]) (fun _=>rfl) rfl ?_;apply Exists.intro;refine And.intro ?_ ?_
             ·intro K' a wy ho hd hb hK;refine wants 7 63 false false rfl rfl rfl (hd ⟨7,.guard⟩ (by simp) rfl) rfl ?_;have q13:=hd ⟨13,.data⟩ (by simp) rfl;have q14:=hd ⟨14,.data⟩ (by simp) rfl;simp [rAt,IsV,slot] at q13 q14;clear hd ho;go_simp;try go_bits
              exact hK _ _ rfl bR
             refine GCh.val (n:=16) (fun v=>[_,_,_,_,_,_,_,_,_,_,_,_,_,_,_,_,IsV v]) (fun _=>rfl) rfl ?_;apply Exists.intro;refine And.intro ?_ ?_
             ·intro K' a wy ho hd hb hK;refine wants 7 63 false false rfl rfl rfl (hd ⟨7,.guard⟩ (by simp) rfl) rfl ?_;have q15:=hd ⟨15,.data⟩ (by simp) rfl;simp [rAt,IsV,slot] at q15;clear hd ho;have kk0:=((bcell ((Below.refl _ wr).drew.trans hb)).1 _ _ hwb.out).trans HK.out; have kk1:=((bcell ((Below.refl _ wr).drew.trans hb)).1 _ _ hbw.out).trans C0.out;go_simp;try go_bits
              exact hK _ _ rfl bR
             refine GCh.val (n:=17) (fun v=>[_,_,_,_,_,_,_,_,_,_,_,_,_,_,_,_,_,IsV v]) (fun _=>rfl) rfl ?_;apply Exists.intro;refine And.intro ?_ ?_
             ·intro K' a wy ho hd hb hK;refine wants 7 63 false false rfl rfl rfl (hd ⟨7,.guard⟩ (by simp) rfl) rfl ?_;have q11:=hd ⟨11,.data⟩ (by simp) rfl;have q16:=hd ⟨16,.data⟩ (by simp) rfl;simp [rAt,IsV,slot] at q11 q16;clear hd ho;go_simp;refine (HIN.out wy ((Below.refl _ wr).drew.trans hb)).mono ?_;rintro e wz ⟨rfl,hz⟩;exact hK _ _ rfl hz
             apply GCh.v18
             ·rfl
             ·intro K' a wy ho hd hb hK kz;have q7:=hd ⟨7,.data⟩ (by simp) rfl;have q17:=hd ⟨17,.data⟩ (by simp) rfl;simp [rAt,IsV,slot] at q7 q17;clear hd ho;go_simp;try go_bits
              exact kz _ rfl
             intro X wz hR hz;obtain ⟨x0,x1,x2,x3,x4,x5,x6,x7,x8,x9,x10,x11,x12,x13,x14,x15,x16,x17,x18,-⟩:=hR;simp only [IsV] at x0 x1 x2 x3 x4 x5 x6 x7 x8 x9 x10 x11 x12 x13 x14 x15 x16 x17 x18;simp only [putsFrom,x0,x1,x2,x3,x4,x5,x6,x7,x8,x9,x10,x11,x12,x13,x14,x15,x16,x17,x18];clear x0 x1 x2 x3 x4 x5 x6 x7 x8 x9 x10 x11 x12 x13 x14 x15 x16 x17 x18;go_simp;refine hK2 _ _ (hJ _ _ ?_);(repeat apply Exists.intro)
             refine ⟨⟨rfl,(Below.refl _ wr).drew.trans hz⟩,rfl⟩
            case rest =>
             obtain ⟨rfl,hb6⟩:=hcut;have HB2:Hid _:=HB.out.trans (hb6.mono HB.out.size);have hk2:wc.cell? ⟨w.heap.size,0,none⟩=some (.slice (some ⟨b,off,none⟩) p.addrs.length cap):=((bcell hb6).1 _ _ hwb.out).trans HK.out;have HK2:Hid _:=hk2;clear hk2 hb6 hk
             cases bi with
             | true =>
              have HX:Hid (ans=false):=by
               unfold Hid; rw [HU.out]; refine HATF.out ?_;unfold addrOne; rw [hin]; simp
              go_wp2_with fail
              go_ret;exact ⟨ret_bool HX.out.symm,HB2.out⟩
             | false =>
              have HN2:Hid (upN addrOne p.addrs (i+1)=true):=by
               unfold Hid; rw [HST.out,HN.out]; unfold addrOne; rw [hin,h4]; rfl
              go_wp2_with fail
              go_roundw
              case rel=>exact ⟨i+1,by omega,by go_num,HN2.out,HK2.out,HB2.out⟩
              case measure=>simp [intOf]; omega
           ·have hd:((s.size:Int) != 4)=true:=by simp; omega
            have hd2:decide ((s.size:Int)=4)=false:=by simp; omega
            have HX:Hid (ans=false):=by
             unfold Hid; rw [HU.out]; refine HATF.out ?_;unfold addrOne; rw [decide_eq_false h4]; rfl
            go_upto_region 6 with fail
            go_cut [74] (fun v wx=>v=.bool true∧Below wr.heap.size wr wx)
            case first =>
             rename_i J K2 hJ hK2;refine wp_region_growH [56,57,58,59,60,61,62,63,64,65,66,67,68,69,70,71,72,73,74] (by kernel_rfl) (by kernel_rfl) ?_;apply GCh.v0
             ·rfl
             ·intro K' a wy ho hd hb hK kz;have o1:=ho 1 (by decide);simp [slot] at o1;clear hd ho;go_simp;try go_bits
              exact kz _ rfl
             apply GCh.v1
             ·rfl
             ·intro K' a wy ho hd hb hK kz;have q0:=hd ⟨0,.data⟩ (by simp) rfl;simp [rAt,IsV,slot] at q0;clear hd ho;have kk0:=((bcell ((Below.refl _ wr).drew.trans hb)).1 _ _ hwb.out).trans HK.out; have kk1:=((bcell ((Below.refl _ wr).drew.trans hb)).1 _ _ hbw.out).trans C0.out;go_simp;try go_bits
              exact kz _ rfl
             apply GCh.v2
             ·rfl
             ·intro K' a wy ho hd hb hK kz;have o3:=ho 3 (by decide);simp [slot] at o3;clear hd ho;go_simp;try go_bits
              exact kz _ rfl
             apply GCh.v3
             ·rfl
             ·intro K' a wy ho hd hb hK kz;have q1:=hd ⟨1,.data⟩ (by simp) rfl;have q2:=hd ⟨2,.data⟩ (by simp) rfl;simp [rAt,IsV,slot] at q1 q2;clear hd ho;go_simp;try go_bits
              exact kz _ rfl
             apply GCh.v4
             ·rfl
             ·intro K' a wy ho hd hb hK kz;have q3:=hd ⟨3,.data⟩ (by simp) rfl;simp [rAt,IsV,slot] at q3;clear hd ho;have kk0:=((bcell ((Below.refl _ wr).drew.trans hb)).1 _ _ hwb.out).trans HK.out; have kk1:=((bcell ((Below.refl _ wr).drew.trans hb)).1 _ _ hbw.out).trans C0.out;go_simp;try go_bits
              exact kz _ rfl
             apply GCh.v5
             ·rfl
             ·intro K' a wy ho hd hb hK kz;have q4:=hd ⟨4,.data⟩ (by simp) rfl;simp [rAt,IsV,slot] at q4;clear hd ho;go_simp;try go_bits
              exact kz _ rfl
             apply GCh.v6
             ·rfl
             ·intro K' a wy ho hd hb hK kz;have q5:=hd ⟨5,.data⟩ (by simp) rfl;simp [rAt,IsV,slot] at q5;clear hd ho;go_simp;try go_bits
              exact kz _ rfl
             apply GCh.v7
             ·rfl
             ·intro K' a wy ho hd hb hK kz;have q6:=hd ⟨6,.data⟩ (by simp) rfl;simp [rAt,IsV,slot] at q6;clear hd ho;go_simp;try go_bits
              exact kz _ rfl
             refine GCh.val (n:=8) (fun v=>[_,_,_,_,_,_,_,_,IsV v]) (fun _=>rfl) rfl ?_;apply Exists.intro;refine And.intro ?_ ?_
             ·intro K' a wy ho hd hb hK;refine wantsN 7 63 true false rfl rfl rfl (hd ⟨7,.guard⟩ (by simp) rfl) rfl ?_;exact hK undef _ rfl bR
             refine GCh.val (n:=9) (fun v=>[_,_,_,_,_,_,_,_,_,IsV v]) (fun _=>rfl) rfl ?_;apply Exists.intro;refine And.intro ?_ ?_
             ·intro K' a wy ho hd hb hK;refine wantsN 7 63 true false rfl rfl rfl (hd ⟨7,.guard⟩ (by simp) rfl) rfl ?_;exact hK undef _ rfl bR
             refine GCh.val (n:=10) (fun v=>[_,_,_,_,_,_,_,_,_,_,IsV v]) (fun _=>rfl) rfl ?_;apply Exists.intro;refine And.intro ?_ ?_
             ·intro K' a wy ho hd hb hK;refine wantsN 7 63 true false rfl rfl rfl (hd ⟨7,.guard⟩ (by simp) rfl) rfl ?_;exact hK undef _ rfl bR
             refine GCh.val (n:=11) (fun v=>[_,_,_,_,_,_,_,_,_,_,_,IsV v]) (fun _=>rfl) rfl ?_;apply Exists.intro;refine And.intro ?_ ?_
             ·intro K' a wy ho hd hb hK;refine wantsN 7 63 true false rfl rfl rfl (hd ⟨7,.guard⟩ (by simp) rfl) rfl ?_;exact hK undef _ rfl bR
             refine GCh.val (n:=12) (fun v=>[_,_,_,_,_,_,_,_,_,_,_,_,IsV v]) (fun _=>rfl) rfl ?_;apply Exists.intro;refine And.intro ?_ ?_
             ·intro K' a wy ho hd hb hK;refine wantsN 7 63 true false rfl rfl rfl (hd ⟨7,.guard⟩ (by simp) rfl) rfl ?_;exact hK undef _ rfl bR
             refine GCh.val (n:=13) (fun v=>[_,_,_,_,_,_,_,_,_,_,_,_,_,IsV v]) (fun _=>rfl) rfl ?_;apply Exists.intro;refine And.intro ?_ ?_
             ·intro K' a wy ho hd hb hK;refine wantsN 7 63 true false rfl rfl rfl (hd ⟨7,.guard⟩ (by simp) rfl) rfl ?_;exact hK undef _ rfl bR
             refine GCh.val (n:=14) (fun v=>[_,_,_,_,_,_,_,_,_,_,_,_,_,_,IsV v]) (fun _=>rfl) rfl ?_;apply Exists.intro;refine And.intro ?_ ?_
             ·intro K' a wy ho hd hb hK;refine wantsN 7 63 true false rfl rfl rfl (hd ⟨7,.guard⟩ (by simp) rfl) rfl ?_;exact hK undef _ rfl bR
             refine GCh.val (n:=15) (fun v=>[_,_,_,_,_,_,_,_,_,_,_,_,_,_,_,IsV v]) (fun _=>rfl) rfl ?_;apply Exists.intro;refine And.intro ?_ ?_
             ·intro K' a wy ho hd hb hK;refine wantsN 7 63 true false rfl rfl rfl (hd ⟨7,.guard⟩ (by simp) rfl) rfl ?_;exact hK undef _ rfl bR
             refine GCh.val (n:=16) (fun v=>[_,_,_,_,_,_,_,_,_,_,_,_,_,_,_,_,IsV v]) (fun _=>rfl) rfl ?_;apply Exists.intro;refine And.intro ?_ ?_
             ·intro K' a wy ho hd hb hK;refine wantsN 7 63 true false rfl rfl rfl (hd ⟨7,.guard⟩ (by simp) rfl) rfl ?_;exact hK undef _ rfl bR
             refine GCh.val (n:=17) (fun v=>[_,_,_,_,_,_,_,_,_,_,_,_,_,_,_,_,_,IsV v]) (fun _=>rfl) rfl ?_;apply Exists.intro;refine And.intro ?_ ?_
             ·intro K' a wy ho hd hb hK;refine wantsN 7 63 true false rfl rfl rfl (hd ⟨7,.guard⟩ (by simp) rfl) rfl ?_;exact hK undef _ rfl bR
             apply GCh.v18
             ·rfl
             ·intro K' a wy ho hd hb hK kz;have q7:=hd ⟨7,.data⟩ (by simp) rfl;have q17:=hd ⟨17,.data⟩ (by simp) rfl;simp [rAt,IsV,slot] at q7 q17;clear hd ho;go_simp;try go_bits
              exact kz _ rfl
             intro X wz hR hz;obtain ⟨x0,x1,x2,x3,x4,x5,x6,x7,x8,x9,x10,x11,x12,x13,x14,x15,x16,x17,x18,-⟩:=hR;simp only [IsV] at x0 x1 x2 x3 x4 x5 x6 x7 x8 x9 x10 x11 x12 x13 x14 x15 x16 x17 x18;simp only [putsFrom,x0,x1,x2,x3,x4,x5,x6,x7,x8,x9,x10,x11,x12,x13,x14,x15,x16,x17,x18];clear x0 x1 x2 x3 x4 x5 x6 x7 x8 x9 x10 x11 x12 x13 x14 x15 x16 x17 x18;go_simp;refine hK2 _ _ (hJ _ _ ?_);(repeat apply Exists.intro)
             refine ⟨⟨rfl,(Below.refl _ wr).drew.trans hz⟩,rfl⟩
            case rest =>
             obtain ⟨rfl,hb6⟩:=hcut;have HB2:Hid _:=HB.out.trans (hb6.mono HB.out.size);clear hb6 hk;go_wp2_with fail
             go_ret;exact ⟨ret_bool HX.out.symm,HB2.out⟩
          ·have hie:i=p.addrs.length:=by omega
           have HX:Hid (ans=true):=by unfold Hid; rw [HU.out,← hie]; exact HN.out
           go_wp2_with fail
           go_ret;exact ⟨ret_bool HX.out.symm,HB.out⟩
theorem beq_yes {a b:List UInt8} (h:a=b):(a==b)=true:=by simp [h]
theorem beq_no {a b:List UInt8} (h:¬ a=b):(a==b)=false:=by simp [h]
theorem spBinds_any (p:Pl) (xs:List Bd) (a:Option Addr) (cap:Nat) (b:Option Addr) (capb:Nat) (w:World) (hl:p.addrs.length≤1048576) (hlx:xs.length≤1048576) (hr:SlIs strL1 1 w a p.addrs) (hx:SlIs bdL 5 w b xs) :
  Cb 76 #[plC a cap p,.slice b xs.length capb] w (.bool (upN (bindOne p) xs xs.length)):=by
 have GA:Hid (Below w.heap.size w (w.alloc (.cells (PlV a cap p).toArray 48))):=bR.alloc (Nat.le_refl _) _;have H0:Hid (HoldsL (w.alloc (.cells (PlV a cap p).toArray 48)) w.heap.size (PlV a cap p)):=HoldsL.new w (PlV a cap p) 48;have HV:Hid (upN (bindOne p) xs xs.length=upN (bindOne p) xs xs.length):=rfl;obtain ⟨ans,hans⟩ : ∃ x,x=upN (bindOne p) xs xs.length:=⟨_,rfl⟩;rw [← hans];have HA:Hid (ans=upN (bindOne p) xs xs.length):=hans;have HR:Hid (SlIs strL1 1 w a p.addrs):=hr;have HX:Hid (SlIs bdL 5 w b xs):=hx;clear hr hx hans HV;unfold plC;go_enter Tryz.func76,Tryz.ntmps76
 go_wp2_with fail
 go_loopw [5] (fun iv wr=>∃ i:Nat,i≤xs.length∧iv=iV i∧upN (bindOne p) xs i=true∧HoldsL wr w.heap.size (PlV a cap p)∧Below w.heap.size w wr) (fun iv _=>xs.length-(intOf iv).toNat)
 case atStart=>exact ⟨0,Nat.zero_le _,rfl,rfl,H0.out,GA.out⟩
 case round =>
  obtain ⟨i,hi,rfl,hn,hk,hbel⟩:=hrel;have HN:Hid (upN (bindOne p) xs i=true):=hn;have HB:Hid (Below w.heap.size w wr):=hbel;have HK:Hid (HoldsL wr w.heap.size (PlV a cap p)):=hk;have hwb:w.heap.size < wr.heap.size:=hk.lt (by simp);clear hn hbel hk H0 GA;generalize wr=w0 at *;by_cases hlt:i < xs.length
  ·obtain ⟨bb,off,rfl,hb,hat⟩:=HX.out.at hlt;have hA:=(hat.below hb HB.out) i hlt;have HAT:Hid (∀ k,(hk:k < xs.length)→∀ W,Below w.heap.size w W→W.rangeAt bb (off+k*5) (bdL xs[k])):=fun k hk W hW=>(hat.below hb hW) k hk
   have HST:Hid _:=upN_step (f:=bindOne p) hlt;have HATF:Hid (bindOne p (xs.take i) xs[i]=false→upN (bindOne p) xs xs.length=false):=upN_at hlt;obtain ⟨q,hq⟩ : ∃ q,q=xs[i]:=⟨_,rfl⟩;rw [← hq] at hA HST HATF;have c0:w0.cell? ⟨bb,off+i*5,none⟩=some (iV q.proto):=hA 0 _ rfl;have c1:w0.cell? ⟨bb,off+i*5+1,none⟩=some (.string q.inn):=hA 1 _ rfl;have c2:w0.cell? ⟨bb,off+i*5+2,none⟩=some (iV q.inPort):=hA 2 _ rfl;have c3:w0.cell? ⟨bb,off+i*5+3,none⟩=some (.string q.out):=hA 3 _ rfl;have c4:w0.cell? ⟨bb,off+i*5+4,none⟩=some (iV q.outPort):=hA 4 _ rfl;have HOV:Hid (bindOne p (xs.take i) q=(protoB q.proto&&addrOk q.inn&&isW q.inPort&&inL p.addrs q.out&&isIn q.outPort p.low p.high&&!(xs.take i).any fun c=>clashB c q)):=rfl;have B4:Hid (Below w0.heap.size w0 (w0.alloc (.cells (BdV q).toArray 94))):=bR.alloc (Nat.le_refl _) _;have Y4:Hid (HoldsL (w0.alloc (.cells (BdV q).toArray 94)) w0.heap.size (bdL q)):=HoldsL.new w0 (bdL q) 94;clear hat hA hq;go_upto_region 5 with fail
   have H5:Hid _:=HB.out.trans (B4.out.mono HB.out.size);have K5:Hid _:=HK.out.kept (by simp) B4.out;have hY:w0.heap.size < (w0.alloc (.cells (BdV q).toArray 94)).heap.size:=by simp
   generalize (w0.alloc (.cells (BdV q).toArray 94))=W4 at *;have HP:Hid (∀ W,Cw 120 #[iV q.proto] W (.bool (protoB q.proto))):=fun W=>spBProto_any _ W
   have HAD:Hid (∀ W,Cw 121 #[.string q.inn] W (.bool (addrOk q.inn))):=fun W=>specAddrRight_any _ W
   have HWD:Hid (∀ W,Cw 80 #[iV q.inPort] W (.bool (isW q.inPort))):=fun W=>specWordIs_any _ W
   have HIN:Hid (∀ W,Below w.heap.size w W→Cb 69 #[.slice a p.addrs.length cap,.string q.out] W (.bool (inL p.addrs q.out))):=fun W hW=>spIn_any p.addrs q.out a cap W hl (HR.out.below hW)
   have HIS:Hid (∀ W,Cw 81 #[iV q.outPort,iV p.low,iV p.high] W (.bool (isIn q.outPort p.low p.high))):=fun W=>specIs_any _ _ _ W
   generalize protoB q.proto=b1 at *;generalize addrOk q.inn=b2 at *;generalize isW q.inPort=b3 at *;generalize inL p.addrs q.out=b4 at *;generalize isIn q.outPort p.low p.high=b5 at *;obtain ⟨y0,y1,y2,y3⟩:=Y4.out.c4;have z0:=K5.out.cell (j:=0) rfl;have hun:undef=Value.tuple #[]:=rfl;clear c0 c1 c2 c3 c4
   cases b1 with
   | false =>
    have HXF:Hid (ans=false):=by unfold Hid; rw [HA.out]; refine HATF.out ?_; rw [HOV.out]; simp
    go_wp2_with fail
    refine (HP.out _).mono ?_;rintro e w1 ⟨rfl,rfl⟩;go_wp2_with fail
    go_ret;exact ⟨ret_bool HXF.out.symm,H5.out⟩
   | true =>
    go_wp2_with fail
    refine (HP.out _).mono ?_;rintro e w1 ⟨rfl,rfl⟩
    cases b2 with
    | false =>
     have HXF:Hid (ans=false):=by unfold Hid; rw [HA.out]; refine HATF.out ?_; rw [HOV.out]; simp
     go_wp2_with fail
     refine (HAD.out _).mono ?_;rintro e w1 ⟨rfl,rfl⟩;go_wp2_with fail
     go_ret;exact ⟨ret_bool HXF.out.symm,H5.out⟩
    | true =>
     go_wp2_with fail
     refine (HAD.out _).mono ?_;rintro e w1 ⟨rfl,rfl⟩
     cases b3 with
     | false =>
      have HXF:Hid (ans=false):=by unfold Hid; rw [HA.out]; refine HATF.out ?_; rw [HOV.out]; simp
      go_wp2_with fail
      refine (HWD.out _).mono ?_;rintro e w1 ⟨rfl,rfl⟩;go_wp2_with fail
      go_ret;exact ⟨ret_bool HXF.out.symm,H5.out⟩
     | true =>
      go_wp2_with fail
      refine (HWD.out _).mono ?_;rintro e w1 ⟨rfl,rfl⟩;go_wp2_with fail
      refine (HIN.out _ H5.out).mono ?_;rintro e w2 ⟨rfl,q2⟩;have H6:Hid _:=H5.out.trans (q2.mono H5.out.size);have K6:Hid _:=K5.out.kept (by simp) q2;have Y6:Hid _:=Y4.out.kept (by simp [bdL]) q2;have y4:=Y6.out.cell (j:=4) rfl;obtain ⟨-,z1,z2⟩:=K6.out.c3;have hY2:w0.heap.size < w2.heap.size:=by have:=q2.size; omega
      clear q2 y0 y1 y2 y3 z0 H5 K5 Y4 B4
      cases b4 with
      | false =>
       have HXF:Hid (ans=false):=by unfold Hid; rw [HA.out]; refine HATF.out ?_; rw [HOV.out]; simp
       go_wp2_with fail
       go_ret;exact ⟨ret_bool HXF.out.symm,H6.out⟩
      | true =>
       cases b5 with
       | false =>
        have HXF:Hid (ans=false):=by unfold Hid; rw [HA.out]; refine HATF.out ?_; rw [HOV.out]; simp
        go_wp2_with fail
        refine (HIS.out _).mono ?_;rintro e w1 ⟨rfl,rfl⟩;go_wp2_with fail
        go_ret;exact ⟨ret_bool HXF.out.symm,H6.out⟩
       | true =>
        go_wp2_with fail
        refine (HIS.out _).mono ?_;rintro e w1 ⟨rfl,rfl⟩;have HOV2:Hid (bindOne p (xs.take i) q=!(xs.take i).any fun c=>clashB c q):=by unfold Hid; rw [HOV.out]; simp
        clear y4 z1 z2 HOV HP HAD HWD HIN HIS;go_wp2_with fail
        go_loopw [7] (fun kv wr=>∃ k:Nat,k≤i∧kv=iV k∧((xs.take k).any fun c=>clashB c q)=false∧HoldsL wr w.heap.size (PlV a cap p)∧HoldsL wr w0.heap.size (bdL q)∧Below w.heap.size w wr) (fun kv _=>i-(intOf kv).toNat)
        case atStart=>exact ⟨0,Nat.zero_le _,rfl,rfl,K6.out,Y6.out,H6.out⟩
        case round =>
         obtain ⟨k,hk,rfl,hn,hK,hY,hbel⟩:=hrel;have HNk:Hid (((xs.take k).any fun c=>clashB c q)=false):=hn;have HBk:Hid (Below w.heap.size w wr):=hbel;have HKk:Hid _:=hK;have HYk:Hid _:=hY;have hYl:w0.heap.size < wr.heap.size:=hY.lt (by simp [bdL]);clear hn hbel hK hY K6 Y6 H6;by_cases hkl:k < i
         ·have hkx:k < xs.length:=by omega
          have hA:=HAT.out k hkx wr HBk.out;have HSTk:Hid _:=any_take (fun c=>clashB c q) xs k hkx;have HYES:Hid (clashB xs[k] q=true→bindOne p (xs.take i) q=false):=fun h=>by
           rw [HOV2.out,any_at (fun c=>clashB c q) (xs.take i) k (by simp; omega) (by rw [List.getElem_take]; exact h)]; rfl
          obtain ⟨c,hc⟩ : ∃ c,c=xs[k]:=⟨_,rfl⟩;rw [← hc] at hA HSTk HYES;have c0:wr.cell? ⟨bb,off+k*5,none⟩=some (iV c.proto):=hA 0 _ rfl;have c1:wr.cell? ⟨bb,off+k*5+1,none⟩=some (.string c.inn):=hA 1 _ rfl;have c2:wr.cell? ⟨bb,off+k*5+2,none⟩=some (iV c.inPort):=hA 2 _ rfl;have c3:wr.cell? ⟨bb,off+k*5+3,none⟩=some (.string c.out):=hA 3 _ rfl;have c4:wr.cell? ⟨bb,off+k*5+4,none⟩=some (iV c.outPort):=hA 4 _ rfl;have B5:Hid (Below wr.heap.size wr (wr.alloc (.cells (BdV c).toArray 94))):=bR.alloc (Nat.le_refl _) _;have Z5:Hid (HoldsL (wr.alloc (.cells (BdV c).toArray 94)) wr.heap.size (bdL c)):=HoldsL.new wr (bdL c) 94;clear hA hc;go_upto_region 11 with fail
          have HB5:Hid _:=HBk.out.trans (B5.out.mono HBk.out.size);have HK5:Hid _:=HKk.out.kept (by simp) B5.out;have HY5:Hid _:=HYk.out.kept (by simp [bdL]) B5.out;generalize (wr.alloc (.cells (BdV c).toArray 94))=W5 at *;obtain ⟨y0,y1,y2,y3,y4⟩:=HY5.out.c5;obtain ⟨x0,x1,x2,x3,x4⟩:=Z5.out.c5;have HCV:Hid (clashB c q=((decide (c.inn.toList=q.inn.toList)&&!decide (c.out.toList=q.out.toList))||(decide (c.proto=q.proto)&&((decide (c.inn.toList=q.inn.toList)&&decide (c.inPort=q.inPort))||(decide (c.out.toList=q.out.toList)&&decide (c.outPort=q.outPort)))))):=rfl;clear c0 c1 c2 c3 c4 B5 Z5 HBk HKk HYk;go_cut [108] (fun v wx=>v=.bool (clashB c q)∧wx=W5)
          case first =>
           by_cases e1:c.inn.toList=q.inn.toList
           ·by_cases e2:c.out.toList=q.out.toList
            ·by_cases e3:c.proto=q.proto
             ·by_cases e4:c.inPort=q.inPort
              ·have HCW:Hid (clashB c q=true):=by unfold Hid; rw [HCV.out]; simp [e1,e2,e3,e4]
               have f1:=beq_yes e1;have f2:=beq_yes e2;go_wp2_with fail
               all_goals go_meet
               all_goals exact ⟨by rw [HCW.out]; try simp [e1,e2,e3,e4],rfl⟩
              ·by_cases e5:c.outPort=q.outPort
               ·have HCW:Hid (clashB c q=true):=by unfold Hid; rw [HCV.out]; simp [e1,e2,e3,e4,e5]
                have f1:=beq_yes e1;have f2:=beq_yes e2;go_wp2_with fail
                all_goals go_meet
                all_goals exact ⟨by rw [HCW.out]; try simp [e1,e2,e3,e4,e5],rfl⟩
               ·have HCW:Hid (clashB c q=false):=by unfold Hid; rw [HCV.out]; simp [e1,e2,e3,e4,e5]
                have f1:=beq_yes e1;have f2:=beq_yes e2;go_wp2_with fail
                all_goals go_meet
                all_goals exact ⟨by rw [HCW.out]; try simp [e1,e2,e3,e4,e5],rfl⟩
             ·have HCW:Hid (clashB c q=false):=by unfold Hid; rw [HCV.out]; simp [e1,e2,e3]
              have f1:=beq_yes e1;have f2:=beq_yes e2;go_wp2_with fail
              all_goals go_meet
              all_goals exact ⟨by rw [HCW.out]; try simp [e1,e2,e3],rfl⟩
            ·have HCW:Hid (clashB c q=true):=by unfold Hid; rw [HCV.out]; simp [e1,e2]
             have f1:=beq_yes e1;have f2:=beq_no e2;go_wp2_with fail
             all_goals go_meet
             all_goals exact ⟨by rw [HCW.out]; try simp [e1,e2],rfl⟩
           ·by_cases e3:c.proto=q.proto
            ·by_cases e2:c.out.toList=q.out.toList
             ·by_cases e5:c.outPort=q.outPort
              ·have HCW:Hid (clashB c q=true):=by unfold Hid; rw [HCV.out]; simp [e1,e3,e2,e5]
               have f1:=beq_no e1;have f2:=beq_yes e2;go_wp2_with fail
               all_goals go_meet
               all_goals exact ⟨by rw [HCW.out]; try simp [e1,e3,e2,e5],rfl⟩
              ·have HCW:Hid (clashB c q=false):=by unfold Hid; rw [HCV.out]; simp [e1,e3,e2,e5]
               have f1:=beq_no e1;have f2:=beq_yes e2;go_wp2_with fail
               all_goals go_meet
               all_goals exact ⟨by rw [HCW.out]; try simp [e1,e3,e2,e5],rfl⟩
             ·have HCW:Hid (clashB c q=false):=by unfold Hid; rw [HCV.out]; simp [e1,e3,e2]
              have f1:=beq_no e1;have f2:=beq_no e2;go_wp2_with fail
              all_goals go_meet
              all_goals exact ⟨by rw [HCW.out]; try simp [e1,e3,e2],rfl⟩
            ·have HCW:Hid (clashB c q=false):=by unfold Hid; rw [HCV.out]; simp [e1,e3]
             have f1:=beq_no e1;go_wp2_with fail
             all_goals go_meet
             all_goals exact ⟨by rw [HCW.out]; try simp [e1,e3],rfl⟩
          case rest =>
           obtain ⟨rfl,rfl⟩:=hcut
           cases hcl:clashB c q with
           | true =>
            have HXF:Hid (ans=false):=by unfold Hid; rw [HA.out]; exact HATF.out (HYES.out hcl)
            clear hcl;go_wp2_with fail
            go_ret;exact ⟨ret_bool HXF.out.symm,HB5.out⟩
           | false =>
            have HN2:Hid (((xs.take (k+1)).any fun c=>clashB c q)=false):=by unfold Hid; rw [HSTk.out,HNk.out,hcl]; rfl
            clear hcl;go_wp2_with fail
            go_roundw
            case rel=>exact ⟨k+1,by omega,by go_num,HN2.out,HK5.out,HY5.out,HB5.out⟩
            case measure=>simp [intOf]; omega
         ·have hke:k=i:=by omega
          have HN2:Hid (upN (bindOne p) xs (i+1)=true):=by
           unfold Hid; rw [HST.out,HN.out,HOV2.out,← hke,HNk.out]; rfl
          go_wp2_with fail
          go_roundw
          case rel =>
           (repeat apply Exists.intro)
           exact ⟨⟨i+1,by omega,by go_num,HN2.out,HKk.out,HBk.out⟩,rfl⟩
          case measure=>simp [intOf]; omega
  ·have hie:i=xs.length:=by omega
   have HXT:Hid (ans=true):=by unfold Hid; rw [HA.out,← hie]; exact HN.out
   go_wp2_with fail
   go_ret;exact ⟨ret_bool HXT.out.symm,HB.out⟩
theorem spSess_any (x:Bb) (a b:Option Addr) (ca cb:Nat) (w:World) (hl1:x.binds.length≤1048576) (hl2:x.sess.length≤1048576) (hr:BbIs w a b x) :
  Cb 77 #[bbC a b ca cb x] w (.bool (upN (sessOne x.binds) x.sess x.sess.length)):=by
 have GA:Hid (Below w.heap.size w (w.alloc (.cells (BbV a ca b cb x).toArray 39))):=bR.alloc (Nat.le_refl _) _;have H0:Hid (HoldsL (w.alloc (.cells (BbV a ca b cb x).toArray 39)) w.heap.size (BbV a ca b cb x)):=HoldsL.new w (BbV a ca b cb x) 39;obtain ⟨ans,hans⟩ : ∃ y,y=upN (sessOne x.binds) x.sess x.sess.length:=⟨_,rfl⟩;rw [← hans];have HA:Hid (ans=upN (sessOne x.binds) x.sess x.sess.length):=hans;have HR:Hid (BbIs w a b x):=hr;clear hr hans;unfold bbC;go_enter Tryz.func77,Tryz.ntmps77
 go_wp2_with fail
 go_loopw [3] (fun iv wr=>∃ i:Nat,i≤x.sess.length∧iv=iV i∧upN (sessOne x.binds) x.sess i=true∧HoldsL wr w.heap.size (BbV a ca b cb x)∧Below w.heap.size w wr) (fun iv _=>x.sess.length-(intOf iv).toNat)
 case atStart=>exact ⟨0,Nat.zero_le _,rfl,rfl,H0.out,GA.out⟩
 case round =>
  obtain ⟨i,hi,rfl,hn,hk,hbel⟩:=hrel;have HN:Hid (upN (sessOne x.binds) x.sess i=true):=hn;have HB:Hid (Below w.heap.size w wr):=hbel;have HK:Hid (HoldsL wr w.heap.size (BbV a ca b cb x)):=hk;have hwb:w.heap.size < wr.heap.size:=hk.lt (by simp);have z1:=hk.cell (j:=1) rfl;clear hn hbel hk H0 GA;generalize wr=w0 at *;by_cases hlt:i < x.sess.length
  ·obtain ⟨bb,off,rfl,hb,hat⟩:=HR.out.ss.at hlt;have hA:=(hat.below hb HB.out) i hlt;have HAT:Hid (∀ k,(hk:k < x.sess.length)→∀ W,Below w.heap.size w W→W.rangeAt bb (off+k*7) (ssL x.sess[k])):=fun k hk W hW=>(hat.below hb hW) k hk
   have HST:Hid _:=upN_step (f:=sessOne x.binds) hlt;have HATF:Hid (sessOne x.binds (x.sess.take i) x.sess[i]=false→upN (sessOne x.binds) x.sess x.sess.length=false):=upN_at hlt;obtain ⟨q,hq⟩ : ∃ q,q=x.sess[i]:=⟨_,rfl⟩;rw [← hq] at hA HST HATF;have c0:w0.cell? ⟨bb,off+i*7,none⟩=some (iV q.proto):=hA 0 _ rfl;have c1:w0.cell? ⟨bb,off+i*7+1,none⟩=some (.string q.inn):=hA 1 _ rfl;have c2:w0.cell? ⟨bb,off+i*7+2,none⟩=some (iV q.inPort):=hA 2 _ rfl;have c3:w0.cell? ⟨bb,off+i*7+3,none⟩=some (.string q.peer):=hA 3 _ rfl;have c4:w0.cell? ⟨bb,off+i*7+4,none⟩=some (iV q.peerPort):=hA 4 _ rfl;have c5:w0.cell? ⟨bb,off+i*7+5,none⟩=some (iV q.state):=hA 5 _ rfl;have c6:w0.cell? ⟨bb,off+i*7+6,none⟩=some (iV q.untl):=hA 6 _ rfl;have HOV:Hid (sessOne x.binds (x.sess.take i) q=(decide (q.peer.size=4)&&isW q.peerPort&&isIn q.state 1 7&&(decide (q.proto=6)||decide (q.state=3))&&isIn q.untl 0 2000000000&&decide (0≤findI (ofIn q.proto q.inn q.inPort) x.binds)&&!(x.sess.take i).any fun t=>sameS q t)):=rfl;have B4:Hid (Below w0.heap.size w0 (w0.alloc (.cells (SsV q).toArray 103))):=bR.alloc (Nat.le_refl _) _;have Y4:Hid (HoldsL (w0.alloc (.cells (SsV q).toArray 103)) w0.heap.size (ssL q)):=HoldsL.new w0 (ssL q) 103;clear hat hA hq;go_upto_region 5 with fail
   have H5:Hid _:=HB.out.trans (B4.out.mono HB.out.size);have K5:Hid _:=HK.out.kept (by simp) B4.out;have hY:w0.heap.size < (w0.alloc (.cells (SsV q).toArray 103)).heap.size:=by simp
   generalize (w0.alloc (.cells (SsV q).toArray 103))=W4 at *;have HWD:Hid (∀ W,Cw 80 #[iV q.peerPort] W (.bool (isW q.peerPort))):=fun W=>specWordIs_any _ W
   have HS1:Hid (∀ W,Cw 81 #[iV q.state,iV 1,iV 7] W (.bool (isIn q.state 1 7))):=fun W=>specIs_any _ _ _ W
   have HS2:Hid (∀ W,Cw 81 #[iV q.untl,iV 0,iV 2000000000] W (.bool (isIn q.untl 0 2000000000))):=fun W=>specIs_any _ _ _ W
   have HBI:Hid (∀ W,Below w.heap.size w W→Cb 122 #[.agg (BbV a ca (some ⟨bb,off,none⟩) cb x).toArray,iV q.proto,.string q.inn,iV q.inPort] W (iV (findI (ofIn q.proto q.inn q.inPort) x.binds))):=fun W hW=>spBind_any x.binds q.proto q.inn q.inPort a ca _ W hl1 (HR.out.bd.below hW)
   generalize isW q.peerPort=b2 at *;generalize isIn q.state 1 7=b3 at *;generalize isIn q.untl 0 2000000000=b5 at *;generalize findI (ofIn q.proto q.inn q.inPort) x.binds=fi at *;obtain ⟨y0,y1,y2,y3,y4,y5,y6⟩:=Y4.out.c7;obtain ⟨z0,z1⟩:=K5.out.c2;have hun:undef=Value.tuple #[]:=rfl;clear c0 c1 c2 c3 c4 c5 c6;obtain ⟨r5,hr5⟩ : ∃ r,r=(decide (q.peer.size=4)&&b2&&b3&&(decide (q.proto=6)||decide (q.state=3))&&b5):=⟨_,rfl⟩;have HRV:Hid (r5=_):=hr5;rw [← hr5] at HOV;clear hr5;go_cut [50] (fun v wx=>v=.bool (!r5)∧wx=W4)
   case first =>
    by_cases h4:q.peer.size=4
    ·have h4i:(q.peer.size:Int)=4:=by omega
     have d1:((q.peer.size:Int) != 4)=false:=by simp [h4i]
     cases b2 with
     | false =>
      go_wp2_with fail
      refine (HWD.out _).mono ?_;rintro e w1 ⟨rfl,rfl⟩;go_wp2_with fail
      go_meet;exact ⟨by rw [HRV.out]; simp,rfl⟩
     | true =>
      go_wp2_with fail
      refine (HWD.out _).mono ?_;rintro e w1 ⟨rfl,rfl⟩
      cases b3 with
      | false =>
       go_wp2_with fail
       refine (HS1.out _).mono ?_;rintro e w1 ⟨rfl,rfl⟩;go_wp2_with fail
       go_meet;exact ⟨by rw [HRV.out]; simp,rfl⟩
      | true =>
       go_wp2_with fail
       refine (HS1.out _).mono ?_;rintro e w1 ⟨rfl,rfl⟩;by_cases h6:q.proto=6<;>by_cases h3:q.state=3
       all_goals first | (have hno:¬ q.proto=6∧¬ q.state=3:=⟨h6,h3⟩; go_wp2_with fail; go_meet; exact ⟨by rw [HRV.out]; simp [h6,h3],rfl⟩) | skip
       all_goals
        cases b5 with
        | false =>
         go_wp2_with fail
         refine (HS2.out _).mono ?_;rintro e w1 ⟨rfl,rfl⟩;go_wp2_with fail
         go_meet;exact ⟨by rw [HRV.out]; simp [h6,h3],rfl⟩
        | true =>
         go_wp2_with fail
         refine (HS2.out _).mono ?_;rintro e w1 ⟨rfl,rfl⟩;go_wp2_with fail
         go_meet;exact ⟨by rw [HRV.out]; simp [h6,h3,h4],rfl⟩
    ·have h4i:¬ (q.peer.size:Int)=4:=by omega
     have d1:((q.peer.size:Int) != 4)=true:=by simp [h4i]
     go_wp2_with fail
     go_meet;exact ⟨by rw [HRV.out]; simp [h4],rfl⟩
   case rest =>
   obtain ⟨rfl,rfl⟩:=hcut
   cases r5 with
   | false =>
    have HXF:Hid (ans=false):=by unfold Hid; rw [HA.out]; refine HATF.out ?_; rw [HOV.out]; rfl
    go_wp2_with fail
    go_ret;exact ⟨ret_bool HXF.out.symm,H5.out⟩
   | true =>
    go_wp2_with fail
    refine (HBI.out _ H5.out).mono ?_;rintro e w2 ⟨rfl,q2⟩;have H6:Hid _:=H5.out.trans (q2.mono H5.out.size);have K6:Hid _:=K5.out.kept (by simp) q2;have Y6:Hid _:=Y4.out.kept (by simp [ssL]) q2;have hY2:w0.heap.size < w2.heap.size:=by have:=q2.size; omega
    clear q2 z0 z1 H5 K5 Y4 B4 y0 y1 y2 y3 y4 y5 y6;by_cases hfi:fi < 0
    ·have HXF:Hid (ans=false):=by unfold Hid; rw [HA.out]; refine HATF.out ?_; rw [HOV.out,decide_eq_false (show ¬ 0≤fi by omega)]; rfl
     go_wp2_with fail
     go_ret;exact ⟨ret_bool HXF.out.symm,H6.out⟩
    ·rw [decide_eq_true (show 0≤fi by omega)] at HOV;have HOV2:Hid (sessOne x.binds (x.sess.take i) q=!(x.sess.take i).any fun t=>sameS q t):=by unfold Hid; rw [HOV.out]; rfl
     clear HOV HWD HS1 HS2 HBI HRV;go_wp2_with fail
     go_loopw [5] (fun kv wr=>∃ k:Nat,k≤i∧kv=iV k∧((x.sess.take k).any fun t=>sameS q t)=false∧HoldsL wr w.heap.size (BbV a ca (some ⟨bb,off,none⟩) cb x)∧HoldsL wr w0.heap.size (ssL q)∧Below w.heap.size w wr) (fun kv _=>i-(intOf kv).toNat)
     case atStart=>exact ⟨0,Nat.zero_le _,rfl,rfl,K6.out,Y6.out,H6.out⟩
     case round =>
      obtain ⟨k,hk,rfl,hn,hK,hY,hbel⟩:=hrel;have HNk:Hid (((x.sess.take k).any fun t=>sameS q t)=false):=hn;have HBk:Hid (Below w.heap.size w wr):=hbel;have HKk:Hid _:=hK;have HYk:Hid _:=hY;have hYl:w0.heap.size < wr.heap.size:=hY.lt (by simp [ssL]);have z1:=hK.cell (j:=1) rfl;clear hn hbel hK hY K6 Y6 H6;by_cases hkl:k < i
      ·have hkx:k < x.sess.length:=by omega
       have hkx':(k:Int) < (x.sess.length:Int):=by omega
       have hA:=HAT.out k hkx wr HBk.out;have HSTk:Hid _:=any_take (fun t=>sameS q t) x.sess k hkx;have HYES:Hid (sameS q x.sess[k]=true→sessOne x.binds (x.sess.take i) q=false):=fun h=>by
        rw [HOV2.out,any_at (fun t=>sameS q t) (x.sess.take i) k (by simp; omega) (by rw [List.getElem_take]; exact h)]; rfl
       obtain ⟨c,hc⟩ : ∃ c,c=x.sess[k]:=⟨_,rfl⟩;rw [← hc] at hA HSTk HYES;have c0:wr.cell? ⟨bb,off+k*7,none⟩=some (iV c.proto):=hA 0 _ rfl;have c1:wr.cell? ⟨bb,off+k*7+1,none⟩=some (.string c.inn):=hA 1 _ rfl;have c2:wr.cell? ⟨bb,off+k*7+2,none⟩=some (iV c.inPort):=hA 2 _ rfl;have c3:wr.cell? ⟨bb,off+k*7+3,none⟩=some (.string c.peer):=hA 3 _ rfl;have c4:wr.cell? ⟨bb,off+k*7+4,none⟩=some (iV c.peerPort):=hA 4 _ rfl;have c5:wr.cell? ⟨bb,off+k*7+5,none⟩=some (iV c.state):=hA 5 _ rfl;have c6:wr.cell? ⟨bb,off+k*7+6,none⟩=some (iV c.untl):=hA 6 _ rfl;have B5:Hid (Below wr.heap.size wr (wr.alloc (.cells (SsV c).toArray 103))):=bR.alloc (Nat.le_refl _) _;have Z5:Hid (HoldsL (wr.alloc (.cells (SsV c).toArray 103)) wr.heap.size (ssL c)):=HoldsL.new wr (ssL c) 103;clear hA hc;go_upto_region 13 with fail
       have HB5:Hid _:=HBk.out.trans (B5.out.mono HBk.out.size);have HK5:Hid _:=HKk.out.kept (by simp) B5.out;have HY5:Hid _:=HYk.out.kept (by simp [ssL]) B5.out;generalize (wr.alloc (.cells (SsV c).toArray 103))=W5 at *;obtain ⟨y0,y1,y2,y3,y4,y5,y6⟩:=HY5.out.c7;obtain ⟨x0,x1,x2,x3,x4,x5,x6⟩:=Z5.out.c7;have HCV:Hid (sameS q c=(decide (q.proto=c.proto)&&decide (q.inn.toList=c.inn.toList)&&decide (q.inPort=c.inPort)&&decide (q.peer.toList=c.peer.toList)&&decide (q.peerPort=c.peerPort))):=rfl;clear c0 c1 c2 c3 c4 c5 c6 B5 Z5 HBk HKk HYk z1;go_cut [102] (fun v wx=>v=.bool (sameS q c)∧wx=W5)
       case first =>
        by_cases e1:q.proto=c.proto
        ·by_cases e2:q.inn.toList=c.inn.toList
         ·by_cases e3:q.inPort=c.inPort
          ·by_cases e4:q.peer.toList=c.peer.toList
           ·by_cases e5:q.peerPort=c.peerPort
            ·have HCW:Hid (sameS q c=true):=by unfold Hid; rw [HCV.out]; simp [e1,e2,e3,e4,e5]
             have f2:=beq_yes e2;have f4:=beq_yes e4;go_wp2_with fail
             all_goals go_meet
             all_goals exact ⟨by rw [HCW.out]; try simp [e1,e2,e3,e4,e5],rfl⟩
            ·have HCW:Hid (sameS q c=false):=by unfold Hid; rw [HCV.out]; simp [e1,e2,e3,e4,e5]
             have f2:=beq_yes e2;have f4:=beq_yes e4;have f5:(q.peerPort==c.peerPort)=false:=by simp [e5]
             go_wp2_with fail
             all_goals go_meet
             all_goals exact ⟨by rw [HCW.out]; try simp [e1,e2,e3,e4,e5],rfl⟩
           ·have HCW:Hid (sameS q c=false):=by unfold Hid; rw [HCV.out]; simp [e1,e2,e3,e4]
            have f2:=beq_yes e2;have f4:=beq_no e4;go_wp2_with fail
            all_goals go_meet
            all_goals exact ⟨by rw [HCW.out]; try simp [e1,e2,e3,e4],rfl⟩
          ·have HCW:Hid (sameS q c=false):=by unfold Hid; rw [HCV.out]; simp [e1,e2,e3]
           have f2:=beq_yes e2;have f3:(q.inPort==c.inPort)=false:=by simp [e3]
           go_wp2_with fail
           all_goals go_meet
           all_goals exact ⟨by rw [HCW.out]; try simp [e1,e2,e3],rfl⟩
         ·have HCW:Hid (sameS q c=false):=by unfold Hid; rw [HCV.out]; simp [e1,e2]
          have f2:=beq_no e2;go_wp2_with fail
          all_goals go_meet
          all_goals exact ⟨by rw [HCW.out]; try simp [e1,e2],rfl⟩
        ·have HCW:Hid (sameS q c=false):=by unfold Hid; rw [HCV.out]; simp [e1]
         have f1:(q.proto==c.proto)=false:=by simp [e1]
         go_wp2_with fail
         all_goals go_meet
         all_goals exact ⟨by rw [HCW.out]; try simp [e1],rfl⟩
       case rest =>
        obtain ⟨rfl,rfl⟩:=hcut
        cases hcl:sameS q c with
        | true =>
         have HXF:Hid (ans=false):=by unfold Hid; rw [HA.out]; exact HATF.out (HYES.out hcl)
         clear hcl;go_wp2_with fail
         go_ret;exact ⟨ret_bool HXF.out.symm,HB5.out⟩
        | false =>
         have HN2:Hid (((x.sess.take (k+1)).any fun t=>sameS q t)=false):=by unfold Hid; rw [HSTk.out,HNk.out,hcl]; rfl
         clear hcl;go_wp2_with fail
         go_roundw
         case rel=>exact ⟨k+1,by omega,by go_num,HN2.out,HK5.out,HY5.out,HB5.out⟩
         case measure=>simp [intOf]; omega
      ·have hke:k=i:=by omega
       have HN2:Hid (upN (sessOne x.binds) x.sess (i+1)=true):=by
        unfold Hid; rw [HST.out,HN.out,HOV2.out,← hke,HNk.out]; rfl
       go_wp2_with fail
       go_roundw
       case rel=>exact ⟨i+1,by omega,by go_num,HN2.out,HKk.out,HBk.out⟩
       case measure=>simp [intOf]; omega
  ·have hie:i=x.sess.length:=by omega
   have HXT:Hid (ans=true):=by unfold Hid; rw [HA.out,← hie]; exact HN.out
   go_wp2_with fail
   go_ret;exact ⟨ret_bool HXT.out.symm,HB.out⟩
theorem all_take {α:Type} (f:α→Bool) (xs:List α) (i:Nat) (h:i < xs.length):(xs.take (i+1)).all f=((xs.take i).all f&&f xs[i]):=by
 rw [List.take_succ_eq_append_getElem h,List.all_append]; simp
theorem all_no {α:Type} (f:α→Bool) (xs:List α) (i:Nat) (h:i < xs.length) (hf:f xs[i]=false):xs.all f=false:=by
 rw [List.all_eq_false]; exact ⟨_,List.getElem_mem h,by simp [hf]⟩
theorem specBib_any (p:Pl) (x:Bb) (pa:Option Addr) (pc:Nat) (a b:Option Addr) (ca cb:Nat) (w:World) (hlp:p.addrs.length≤1048576) (hpc:p.addrs.length≤pc) (hsz:∀ s∈p.addrs,s.size≤1048576) (hl1:x.binds.length≤1048576) (hl2:x.sess.length≤1048576) (hp:SlIs strL1 1 w pa p.addrs) (hr:BbIs w a b x) :
  Cb 50 #[plC pa pc p,bbC a b ca cb x] w (.bool (bibOk p x)):=by
 have HB:Hid (Below w.heap.size w ((aW w (PlV pa pc p) 48).alloc (.cells (BbV a ca b cb x).toArray 39))):=(bR.alloc (Nat.le_refl _) _).alloc (by simp) _;have H0:=(HoldsL.new w (PlV pa pc p) 48).alloc (.cells (BbV a ca b cb x).toArray 39);have H1:=HoldsL.new (w.alloc (.cells (PlV pa pc p).toArray 48)) (BbV a ca b cb x) 39;rw [World.size_alloc] at H1;have hs2:((aW w (PlV pa pc p) 48).alloc (.cells (BbV a ca b cb x).toArray 39)).heap.size=w.heap.size+1+1:=by simp
 have HP:Hid (∀ W,Below w.heap.size w W→Cb 75 #[plC pa pc p] W (.bool (poolOk p))):=fun W hW=>specPool_any p pa pc W hlp hpc hsz (hp.below hW)
 have HBD:Hid (∀ W,Below w.heap.size w W→Cb 76 #[plC pa pc p,.slice a x.binds.length ca] W (.bool (upN (bindOne p) x.binds x.binds.length))):=fun W hW=>spBinds_any p x.binds pa pc a ca W hlp hl1 (hp.below hW) (hr.bd.below hW)
 have HSS:Hid (∀ W,Below w.heap.size w W→Cb 77 #[bbC a b ca cb x] W (.bool (upN (sessOne x.binds) x.sess x.sess.length))):=fun W hW=>spSess_any x a b ca cb W hl1 hl2 (hr.below hW)
 have HV:Hid (bibOk p x=(poolOk p&&decide ((x.sess.length:Int)≤p.most)&&decide (x.binds.length≤60)&&upN (bindOne p) x.binds x.binds.length&&upN (sessOne x.binds) x.sess x.sess.length&&x.binds.all fun y=>x.sess.any fun s=>hasS y s)):=rfl;generalize bibOk p x=ans at *;generalize poolOk p=b1 at *;generalize upN (bindOne p) x.binds x.binds.length=b4 at *;generalize upN (sessOne x.binds) x.sess x.sess.length=b5 at *;have G0:Hid _:=H0;have G1:Hid _:=H1;have HR:Hid (BbIs w a b x):=hr;unfold plC at HP HBD ⊢;unfold bbC at HSS ⊢;clear hp hr H0 H1;go_enter Tryz.func50,Tryz.ntmps50
 go_upto_region 1 with fail
 generalize ((aW w (PlV pa pc p) 48).alloc (.cells (BbV a ca b cb x).toArray 39))=W2 at *;obtain ⟨r1,hr1⟩ : ∃ r,r=(b1&&decide ((x.sess.length:Int)≤p.most)&&decide (x.binds.length≤60)&&b4&&b5):=⟨_,rfl⟩;have HRV:Hid (r1=_):=hr1;rw [← hr1] at HV;clear hr1;go_cut [36] (fun v wx=>v=.bool (!r1)∧Below W2.heap.size W2 wx)
 case first =>
  have hun:undef=Value.tuple #[]:=rfl;obtain ⟨z0,z1,z2,z3,z4,z5,z6,z7,z8,z9⟩:=G0.out.c10;go_wp2_with fail
  refine (HP.out _ HB.out).mono ?_;rintro e w1 ⟨rfl,q1⟩;have Q1:Hid (Below W2.heap.size W2 w1):=q1;have B1:Hid _:=HB.out.trans (q1.mono HB.out.size);have K0:=G0.out.kept (by simp) q1;have K1:=G1.out.kept (by simp) q1;clear q1 z0 z1 z2 z3 z4 z5 z6 z7 z8 z9;obtain ⟨y0,y1,y2,y3,y4,y5,y6,y7,y8,y9⟩:=K0.c10;obtain ⟨k0,k1⟩:=K1.c2;clear K0 K1
  cases b1 with
  | false =>
   go_wp2_with fail
   go_meet;exact ⟨by rw [HRV.out]; simp,Q1.out⟩
  | true =>
   by_cases h2:p.most < (x.sess.length:Int)
   ·go_wp2_with fail
    go_meet;exact ⟨by rw [HRV.out,decide_eq_false (show ¬ (x.sess.length:Int)≤p.most by omega)]; simp,Q1.out⟩
   ·by_cases h3:60 < x.binds.length
    ·have h3':(60:Int) < (x.binds.length:Int):=by omega
     go_wp2_with fail
     go_meet;exact ⟨by rw [HRV.out,decide_eq_false (show ¬ x.binds.length≤60 by omega)]; simp,Q1.out⟩
    ·have h3':¬ (60:Int) < (x.binds.length:Int):=by omega
     rw [decide_eq_true (show (x.sess.length:Int)≤p.most by omega),decide_eq_true (show x.binds.length≤60 by omega)] at HRV;go_wp2_with fail
     refine (HBD.out _ B1.out).mono ?_;rintro e w2 ⟨rfl,q2⟩;have Q2:Hid _:=Q1.out.trans (q2.mono Q1.out.size);have B2:Hid _:=B1.out.trans (q2.mono B1.out.size);have K1:=G1.out.kept (by simp) Q2.out;clear q2 k0 k1 y0 y1 y2 y3 y4 y5 y6 y7 y8 y9;obtain ⟨k0,k1⟩:=K1.c2;clear K1
     cases b4 with
     | false =>
      go_wp2_with fail
      go_meet;exact ⟨by rw [HRV.out]; simp<;>omega,Q2.out⟩
     | true =>
      go_wp2_with fail
      refine (HSS.out _ B2.out).mono ?_;rintro e w3 ⟨rfl,q3⟩;have Q3:Hid _:=Q2.out.trans (q3.mono Q2.out.size);clear q3 k0 k1
      cases b5;all_goals
       go_wp2_with fail
       go_meet;exact ⟨by rw [HRV.out]; simp<;>omega,Q3.out⟩
 case rest =>
  obtain ⟨rfl,hQ⟩:=hcut;have B3:Hid _:=HB.out.trans (hQ.mono HB.out.size);have K3:Hid _:=G1.out.kept (by simp) hQ;clear hQ HP HBD HSS G0 G1 HRV HB hs2
  cases r1 with
  | false =>
   have HX:Hid (ans=false):=by unfold Hid; rw [HV.out]; rfl
   go_wp2_with fail
   go_ret;exact ⟨ret_bool HX.out.symm,B3.out⟩
  | true =>
   have HU:Hid (ans=x.binds.all fun y=>x.sess.any fun s=>hasS y s):=by unfold Hid; rw [HV.out]; rfl
   clear HV;generalize wc=w9 at *;go_wp2_with fail
   go_loopw [5] (fun iv wr=>∃ i:Nat,i≤x.binds.length∧iv=iV i∧((x.binds.take i).all fun y=>x.sess.any fun s=>hasS y s)=true∧HoldsL wr (w.heap.size+1) (BbV a ca b cb x)∧Below w.heap.size w wr) (fun iv _=>x.binds.length-(intOf iv).toNat)
   case atStart=>exact ⟨0,Nat.zero_le _,rfl,rfl,K3.out,B3.out⟩
   case round =>
    obtain ⟨i,hi,rfl,hn,hk,hbel⟩:=hrel;have HN:Hid (((x.binds.take i).all fun y=>x.sess.any fun s=>hasS y s)=true):=hn;have HBi:Hid (Below w.heap.size w wr):=hbel;have HKi:Hid _:=hk;have z0:=hk.cell (j:=0) rfl;clear hn hbel hk K3 B3;generalize wr=w0 at *;by_cases hlt:i < x.binds.length
    ·obtain ⟨ba,oa,rfl,hba,hata⟩:=HR.out.bd.at hlt;have HATA:Hid (∀ W,Below w.heap.size w W→W.rangeAt ba (oa+i*5) (bdL x.binds[i])):=fun W hW=>(hata.below hba hW) i hlt
     have HST:Hid _:=all_take (fun y=>x.sess.any fun s=>hasS y s) x.binds i hlt;have HNO:Hid _:=all_no (fun y=>x.sess.any fun s=>hasS y s) x.binds i hlt;obtain ⟨y,hy⟩ : ∃ y,y=x.binds[i]:=⟨_,rfl⟩;rw [← hy] at HATA HST HNO;clear hata hba hy;go_wp2_with fail
     go_loopw [6,7] (fun hv kv wr=>∃ k:Nat,k≤x.sess.length∧kv=iV k∧hv=.bool ((x.sess.take k).any fun s=>hasS y s)∧HoldsL wr (w.heap.size+1) (BbV (some ⟨ba,oa,none⟩) ca b cb x)∧Below w.heap.size w wr) (fun _ kv _=>x.sess.length-(intOf kv).toNat)
     case atStart=>exact ⟨0,Nat.zero_le _,rfl,rfl,HKi.out,HBi.out⟩
     case round =>
      obtain ⟨k,hk,rfl,rfl,hK,hbel⟩:=hrel;have HBk:Hid (Below w.heap.size w wr):=hbel;have HKk:Hid _:=hK;have z1:=hK.cell (j:=1) rfl;have hbx:Hid (w.heap.size+1 < wr.heap.size):=hK.lt (by simp);clear hbel hK z0;by_cases hkl:k < x.sess.length
      ·obtain ⟨bs,os,rfl,hbs,hats⟩:=HR.out.ss.at hkl;have HATS:Hid (∀ W,Below w.heap.size w W→W.rangeAt bs (os+k*7) (ssL x.sess[k])):=fun W hW=>(hats.below hbs hW) k hkl
       have HSK:Hid _:=any_take (fun s=>hasS y s) x.sess k hkl;obtain ⟨s,hs⟩ : ∃ s,s=x.sess[k]:=⟨_,rfl⟩;rw [← hs] at HATS HSK;have HHS:Hid (∀ W,Cb 78 #[bdC y,ssC s] W (.bool (hasS y s))):=fun W=>spHas_any y s W
       have hltI:(i:Int) < (x.binds.length:Int):=by omega
       have hklI:(k:Int) < (x.sess.length:Int):=by omega
       generalize (x.sess.take k).any (fun s=>hasS y s)=hb0 at *;unfold bdC ssC at HHS;clear hats hbs hs;go_upto_region 10 with fail
       cases hb0 with
       | false =>
        refine wp_region_growV [51,52,53,54,55,56,57,58,59,60,61,62,63,64] (by kernel_rfl) (by kernel_rfl) ?_;apply GChV.v0
        ·rfl
        ·intro K' a wy ho hd hb hK kz;have o6:=ho 6 (by decide);simp [slot] at o6;clear hd ho;go_simp;try go_bits
         exact kz _ rfl
        apply GChV.v1
        ·rfl
        ·intro K' a wy ho hd hb hK kz;have q0:=hd ⟨0,.data⟩ (by simp) rfl;simp [rAt,IsV,slot] at q0;clear hd ho;go_simp;try go_bits
         exact kz _ rfl
        refine GChV.val (n:=2) (fun v=>[_,_,IsV v]) (fun _=>rfl) rfl ?_;apply Exists.intro;refine And.intro ?_ ?_
        ·intro K' a wy ho hd hb hK;refine wants 1 52 false false rfl rfl rfl (hd ⟨1,.guard⟩ (by simp) rfl) rfl ?_;have o3:=ho 3 (by decide);simp [slot] at o3;clear hd ho;go_simp;try go_bits
         exact hK _ _ rfl bR
        refine GChV.val (n:=3) (fun v=>[_,_,_,IsV v]) (fun _=>rfl) rfl ?_;apply Exists.intro;refine And.intro ?_ ?_
        ·intro K' a wy ho hd hb hK;refine wants 1 52 false false rfl rfl rfl (hd ⟨1,.guard⟩ (by simp) rfl) rfl ?_;have q2:=hd ⟨2,.data⟩ (by simp) rfl;simp [rAt,IsV,slot] at q2;clear hd ho;have hbw:=HBk.out.drew.trans (hb.mono HBk.out.drew.size); have kx:=(HKk.out.drew.kept (by simp) hb); obtain ⟨k0,k1⟩:=kx.c2; have ra:=HATA.out wy hbw; have rs:=HATS.out wy hbw; have a0:wy.cell? ⟨ba,oa+i*5,none⟩=some (iV y.proto):=ra 0 _ rfl; have a1:wy.cell? ⟨ba,oa+i*5+1,none⟩=some (.string y.inn):=ra 1 _ rfl; have a2:wy.cell? ⟨ba,oa+i*5+2,none⟩=some (iV y.inPort):=ra 2 _ rfl; have a3:wy.cell? ⟨ba,oa+i*5+3,none⟩=some (.string y.out):=ra 3 _ rfl; have a4:wy.cell? ⟨ba,oa+i*5+4,none⟩=some (iV y.outPort):=ra 4 _ rfl; have s0:wy.cell? ⟨bs,os+k*7,none⟩=some (iV s.proto):=rs 0 _ rfl; have s1:wy.cell? ⟨bs,os+k*7+1,none⟩=some (.string s.inn):=rs 1 _ rfl; have s2:wy.cell? ⟨bs,os+k*7+2,none⟩=some (iV s.inPort):=rs 2 _ rfl; have s3:wy.cell? ⟨bs,os+k*7+3,none⟩=some (.string s.peer):=rs 3 _ rfl; have s4:wy.cell? ⟨bs,os+k*7+4,none⟩=some (iV s.peerPort):=rs 4 _ rfl; have s5:wy.cell? ⟨bs,os+k*7+5,none⟩=some (iV s.state):=rs 5 _ rfl; have s6:wy.cell? ⟨bs,os+k*7+6,none⟩=some (iV s.untl):=rs 6 _ rfl; clear ra rs kx hbw;go_simp;try go_bits
         exact hK _ _ rfl bR
        refine GChV.val (n:=4) (fun v=>[_,_,_,_,IsV v]) (fun _=>rfl) rfl ?_;apply Exists.intro;refine And.intro ?_ ?_
        ·intro K' a wy ho hd hb hK;refine wants 1 52 false false rfl rfl rfl (hd ⟨1,.guard⟩ (by simp) rfl) rfl ?_;have o5:=ho 5 (by decide);simp [slot] at o5;clear hd ho;go_simp;try go_bits
         exact hK _ _ rfl bR
        refine GChV.val (n:=5) (fun v=>[_,_,_,_,_,IsV v]) (fun _=>rfl) rfl ?_;apply Exists.intro;refine And.intro ?_ ?_
        ·intro K' a wy ho hd hb hK;refine wants 1 52 false false rfl rfl rfl (hd ⟨1,.guard⟩ (by simp) rfl) rfl ?_;have q3:=hd ⟨3,.data⟩ (by simp) rfl;have q4:=hd ⟨4,.data⟩ (by simp) rfl;simp [rAt,IsV,slot] at q3 q4;clear hd ho;go_simp;try go_bits
         exact hK _ _ rfl bR
        refine GChV.val (n:=6) (fun v=>[_,_,_,_,_,_,IsV v]) (fun _=>rfl) rfl ?_;apply Exists.intro;refine And.intro ?_ ?_
        ·intro K' a wy ho hd hb hK;refine wants 1 52 false false rfl rfl rfl (hd ⟨1,.guard⟩ (by simp) rfl) rfl ?_;have q5:=hd ⟨5,.data⟩ (by simp) rfl;simp [rAt,IsV,slot] at q5;clear hd ho;have hbw:=HBk.out.drew.trans (hb.mono HBk.out.drew.size); have kx:=(HKk.out.drew.kept (by simp) hb); obtain ⟨k0,k1⟩:=kx.c2; have ra:=HATA.out wy hbw; have rs:=HATS.out wy hbw; have a0:wy.cell? ⟨ba,oa+i*5,none⟩=some (iV y.proto):=ra 0 _ rfl; have a1:wy.cell? ⟨ba,oa+i*5+1,none⟩=some (.string y.inn):=ra 1 _ rfl; have a2:wy.cell? ⟨ba,oa+i*5+2,none⟩=some (iV y.inPort):=ra 2 _ rfl; have a3:wy.cell? ⟨ba,oa+i*5+3,none⟩=some (.string y.out):=ra 3 _ rfl; have a4:wy.cell? ⟨ba,oa+i*5+4,none⟩=some (iV y.outPort):=ra 4 _ rfl; have s0:wy.cell? ⟨bs,os+k*7,none⟩=some (iV s.proto):=rs 0 _ rfl; have s1:wy.cell? ⟨bs,os+k*7+1,none⟩=some (.string s.inn):=rs 1 _ rfl; have s2:wy.cell? ⟨bs,os+k*7+2,none⟩=some (iV s.inPort):=rs 2 _ rfl; have s3:wy.cell? ⟨bs,os+k*7+3,none⟩=some (.string s.peer):=rs 3 _ rfl; have s4:wy.cell? ⟨bs,os+k*7+4,none⟩=some (iV s.peerPort):=rs 4 _ rfl; have s5:wy.cell? ⟨bs,os+k*7+5,none⟩=some (iV s.state):=rs 5 _ rfl; have s6:wy.cell? ⟨bs,os+k*7+6,none⟩=some (iV s.untl):=rs 6 _ rfl; clear ra rs kx hbw;go_simp;try go_bits
         exact hK _ _ rfl bR
        refine GChV.val (n:=7) (fun v=>[_,_,_,_,_,_,_,IsV v]) (fun _=>rfl) rfl ?_;apply Exists.intro;refine And.intro ?_ ?_
        ·intro K' a wy ho hd hb hK;refine wants 1 52 false false rfl rfl rfl (hd ⟨1,.guard⟩ (by simp) rfl) rfl ?_;have o3:=ho 3 (by decide);simp [slot] at o3;clear hd ho;go_simp;try go_bits
         exact hK _ _ rfl bR
        refine GChV.val (n:=8) (fun v=>[_,_,_,_,_,_,_,_,IsV v]) (fun _=>rfl) rfl ?_;apply Exists.intro;refine And.intro ?_ ?_
        ·intro K' a wy ho hd hb hK;refine wants 1 52 false false rfl rfl rfl (hd ⟨1,.guard⟩ (by simp) rfl) rfl ?_;have q7:=hd ⟨7,.data⟩ (by simp) rfl;simp [rAt,IsV,slot] at q7;clear hd ho;have hbw:=HBk.out.drew.trans (hb.mono HBk.out.drew.size); have kx:=(HKk.out.drew.kept (by simp) hb); obtain ⟨k0,k1⟩:=kx.c2; have ra:=HATA.out wy hbw; have rs:=HATS.out wy hbw; have a0:wy.cell? ⟨ba,oa+i*5,none⟩=some (iV y.proto):=ra 0 _ rfl; have a1:wy.cell? ⟨ba,oa+i*5+1,none⟩=some (.string y.inn):=ra 1 _ rfl; have a2:wy.cell? ⟨ba,oa+i*5+2,none⟩=some (iV y.inPort):=ra 2 _ rfl; have a3:wy.cell? ⟨ba,oa+i*5+3,none⟩=some (.string y.out):=ra 3 _ rfl; have a4:wy.cell? ⟨ba,oa+i*5+4,none⟩=some (iV y.outPort):=ra 4 _ rfl; have s0:wy.cell? ⟨bs,os+k*7,none⟩=some (iV s.proto):=rs 0 _ rfl; have s1:wy.cell? ⟨bs,os+k*7+1,none⟩=some (.string s.inn):=rs 1 _ rfl; have s2:wy.cell? ⟨bs,os+k*7+2,none⟩=some (iV s.inPort):=rs 2 _ rfl; have s3:wy.cell? ⟨bs,os+k*7+3,none⟩=some (.string s.peer):=rs 3 _ rfl; have s4:wy.cell? ⟨bs,os+k*7+4,none⟩=some (iV s.peerPort):=rs 4 _ rfl; have s5:wy.cell? ⟨bs,os+k*7+5,none⟩=some (iV s.state):=rs 5 _ rfl; have s6:wy.cell? ⟨bs,os+k*7+6,none⟩=some (iV s.untl):=rs 6 _ rfl; clear ra rs kx hbw;go_simp;try go_bits
         exact hK _ _ rfl bR
        refine GChV.val (n:=9) (fun v=>[_,_,_,_,_,_,_,_,_,IsV v]) (fun _=>rfl) rfl ?_;apply Exists.intro;refine And.intro ?_ ?_
        ·intro K' a wy ho hd hb hK;refine wants 1 52 false false rfl rfl rfl (hd ⟨1,.guard⟩ (by simp) rfl) rfl ?_;have o7:=ho 7 (by decide);simp [slot] at o7;clear hd ho;go_simp;try go_bits
         exact hK _ _ rfl bR
        refine GChV.val (n:=10) (fun v=>[_,_,_,_,_,_,_,_,_,_,IsV v]) (fun _=>rfl) rfl ?_;apply Exists.intro;refine And.intro ?_ ?_
        ·intro K' a wy ho hd hb hK;refine wants 1 52 false false rfl rfl rfl (hd ⟨1,.guard⟩ (by simp) rfl) rfl ?_;have q8:=hd ⟨8,.data⟩ (by simp) rfl;have q9:=hd ⟨9,.data⟩ (by simp) rfl;simp [rAt,IsV,slot] at q8 q9;clear hd ho;go_simp;try go_bits
         exact hK _ _ rfl bR
        refine GChV.val (n:=11) (fun v=>[_,_,_,_,_,_,_,_,_,_,_,IsV v]) (fun _=>rfl) rfl ?_;apply Exists.intro;refine And.intro ?_ ?_
        ·intro K' a wy ho hd hb hK;refine wants 1 52 false false rfl rfl rfl (hd ⟨1,.guard⟩ (by simp) rfl) rfl ?_;have q10:=hd ⟨10,.data⟩ (by simp) rfl;simp [rAt,IsV,slot] at q10;clear hd ho;have hbw:=HBk.out.drew.trans (hb.mono HBk.out.drew.size); have kx:=(HKk.out.drew.kept (by simp) hb); obtain ⟨k0,k1⟩:=kx.c2; have ra:=HATA.out wy hbw; have rs:=HATS.out wy hbw; have a0:wy.cell? ⟨ba,oa+i*5,none⟩=some (iV y.proto):=ra 0 _ rfl; have a1:wy.cell? ⟨ba,oa+i*5+1,none⟩=some (.string y.inn):=ra 1 _ rfl; have a2:wy.cell? ⟨ba,oa+i*5+2,none⟩=some (iV y.inPort):=ra 2 _ rfl; have a3:wy.cell? ⟨ba,oa+i*5+3,none⟩=some (.string y.out):=ra 3 _ rfl; have a4:wy.cell? ⟨ba,oa+i*5+4,none⟩=some (iV y.outPort):=ra 4 _ rfl; have s0:wy.cell? ⟨bs,os+k*7,none⟩=some (iV s.proto):=rs 0 _ rfl; have s1:wy.cell? ⟨bs,os+k*7+1,none⟩=some (.string s.inn):=rs 1 _ rfl; have s2:wy.cell? ⟨bs,os+k*7+2,none⟩=some (iV s.inPort):=rs 2 _ rfl; have s3:wy.cell? ⟨bs,os+k*7+3,none⟩=some (.string s.peer):=rs 3 _ rfl; have s4:wy.cell? ⟨bs,os+k*7+4,none⟩=some (iV s.peerPort):=rs 4 _ rfl; have s5:wy.cell? ⟨bs,os+k*7+5,none⟩=some (iV s.state):=rs 5 _ rfl; have s6:wy.cell? ⟨bs,os+k*7+6,none⟩=some (iV s.untl):=rs 6 _ rfl; clear ra rs kx hbw;go_simp;try go_bits
         exact hK _ _ rfl bR
        refine GChV.val (n:=12) (fun v=>[_,_,_,_,_,_,_,_,_,_,_,_,IsV v]) (fun _=>rfl) rfl ?_;apply Exists.intro;refine And.intro ?_ ?_
        ·intro K' a wy ho hd hb hK;refine wants 1 52 false false rfl rfl rfl (hd ⟨1,.guard⟩ (by simp) rfl) rfl ?_;have q6:=hd ⟨6,.data⟩ (by simp) rfl;have q11:=hd ⟨11,.data⟩ (by simp) rfl;simp [rAt,IsV,slot] at q6 q11;clear hd ho;go_simp;refine (HHS.out wy).mono ?_;rintro e wz ⟨rfl,hz⟩;exact hK _ _ rfl hz
        apply GChV.v13
        ·rfl
        ·intro K' a wy ho hd hb hK kz;have q1:=hd ⟨1,.data⟩ (by simp) rfl;have q12:=hd ⟨12,.data⟩ (by simp) rfl;simp [rAt,IsV,slot] at q1 q12;clear hd ho;go_simp;try go_bits
         exact kz _ rfl
        intro X wz hR hz;obtain ⟨x0,x1,x2,x3,x4,x5,x6,x7,x8,x9,x10,x11,x12,x13,-⟩:=hR;simp only [IsV] at x0 x1 x2 x3 x4 x5 x6 x7 x8 x9 x10 x11 x12 x13;simp only [putsFrom,x0,x1,x2,x3,x4,x5,x6,x7,x8,x9,x10,x11,x12,x13];clear x0 x1 x2 x3 x4 x5 x6 x7 x8 x9 x10 x11 x12 x13;simp only [List.length_cons,List.length_nil,List.drop_succ_cons,List.drop_zero,Nat.zero_add,Nat.reduceAdd];intro K9 hK9;go_simp;refine hK9 _ _ ?_;have hb6:Below wr.heap.size wr wz:=(Below.refl _ wr).drew.trans hz;have HB2:Hid _:=HBk.out.trans (hb6.mono HBk.out.size);have HK2:Hid _:=HKk.out.kept (by simp) hb6;clear hb6 hz z1;simp only [wpSeq];go_wp2_with fail
        go_roundw
        case rel =>
         (repeat apply Exists.intro)
         exact ⟨⟨k+1,by omega,by go_num,by rw [HSK.out]; rfl,HK2.out,HB2.out⟩,rfl⟩
        case measure=>simp [intOf]; omega
       | true =>
        refine wp_region_growV [51,52,53,54,55,56,57,58,59,60,61,62,63,64] (by kernel_rfl) (by kernel_rfl) ?_;apply GChV.v0
        ·rfl
        ·intro K' a wy ho hd hb hK kz;have o6:=ho 6 (by decide);simp [slot] at o6;clear hd ho;go_simp;try go_bits
         exact kz _ rfl
        apply GChV.v1
        ·rfl
        ·intro K' a wy ho hd hb hK kz;have q0:=hd ⟨0,.data⟩ (by simp) rfl;simp [rAt,IsV,slot] at q0;clear hd ho;go_simp;try go_bits
         exact kz _ rfl
        refine GChV.val (n:=2) (fun v=>[_,_,IsV v]) (fun _=>rfl) rfl ?_;apply Exists.intro;refine And.intro ?_ ?_
        ·intro K' a wy ho hd hb hK;refine wantsN 1 52 true false rfl rfl rfl (hd ⟨1,.guard⟩ (by simp) rfl) rfl ?_;exact hK undef _ rfl bR
        refine GChV.val (n:=3) (fun v=>[_,_,_,IsV v]) (fun _=>rfl) rfl ?_;apply Exists.intro;refine And.intro ?_ ?_
        ·intro K' a wy ho hd hb hK;refine wantsN 1 52 true false rfl rfl rfl (hd ⟨1,.guard⟩ (by simp) rfl) rfl ?_;exact hK undef _ rfl bR
        refine GChV.val (n:=4) (fun v=>[_,_,_,_,IsV v]) (fun _=>rfl) rfl ?_;apply Exists.intro;refine And.intro ?_ ?_
        ·intro K' a wy ho hd hb hK;refine wantsN 1 52 true false rfl rfl rfl (hd ⟨1,.guard⟩ (by simp) rfl) rfl ?_;exact hK undef _ rfl bR
        refine GChV.val (n:=5) (fun v=>[_,_,_,_,_,IsV v]) (fun _=>rfl) rfl ?_;apply Exists.intro;refine And.intro ?_ ?_
        ·intro K' a wy ho hd hb hK;refine wantsN 1 52 true false rfl rfl rfl (hd ⟨1,.guard⟩ (by simp) rfl) rfl ?_;exact hK undef _ rfl bR
        refine GChV.val (n:=6) (fun v=>[_,_,_,_,_,_,IsV v]) (fun _=>rfl) rfl ?_;apply Exists.intro;refine And.intro ?_ ?_
        ·intro K' a wy ho hd hb hK;refine wantsN 1 52 true false rfl rfl rfl (hd ⟨1,.guard⟩ (by simp) rfl) rfl ?_;exact hK undef _ rfl bR
        refine GChV.val (n:=7) (fun v=>[_,_,_,_,_,_,_,IsV v]) (fun _=>rfl) rfl ?_;apply Exists.intro;refine And.intro ?_ ?_
        ·intro K' a wy ho hd hb hK;refine wantsN 1 52 true false rfl rfl rfl (hd ⟨1,.guard⟩ (by simp) rfl) rfl ?_;exact hK undef _ rfl bR
        refine GChV.val (n:=8) (fun v=>[_,_,_,_,_,_,_,_,IsV v]) (fun _=>rfl) rfl ?_;apply Exists.intro;refine And.intro ?_ ?_
        ·intro K' a wy ho hd hb hK;refine wantsN 1 52 true false rfl rfl rfl (hd ⟨1,.guard⟩ (by simp) rfl) rfl ?_;exact hK undef _ rfl bR
        refine GChV.val (n:=9) (fun v=>[_,_,_,_,_,_,_,_,_,IsV v]) (fun _=>rfl) rfl ?_;apply Exists.intro;refine And.intro ?_ ?_
        ·intro K' a wy ho hd hb hK;refine wantsN 1 52 true false rfl rfl rfl (hd ⟨1,.guard⟩ (by simp) rfl) rfl ?_;exact hK undef _ rfl bR
        refine GChV.val (n:=10) (fun v=>[_,_,_,_,_,_,_,_,_,_,IsV v]) (fun _=>rfl) rfl ?_;apply Exists.intro;refine And.intro ?_ ?_
        ·intro K' a wy ho hd hb hK;refine wantsN 1 52 true false rfl rfl rfl (hd ⟨1,.guard⟩ (by simp) rfl) rfl ?_;exact hK undef _ rfl bR
        refine GChV.val (n:=11) (fun v=>[_,_,_,_,_,_,_,_,_,_,_,IsV v]) (fun _=>rfl) rfl ?_;apply Exists.intro;refine And.intro ?_ ?_
        ·intro K' a wy ho hd hb hK;refine wantsN 1 52 true false rfl rfl rfl (hd ⟨1,.guard⟩ (by simp) rfl) rfl ?_;exact hK undef _ rfl bR
        refine GChV.val (n:=12) (fun v=>[_,_,_,_,_,_,_,_,_,_,_,_,IsV v]) (fun _=>rfl) rfl ?_;apply Exists.intro;refine And.intro ?_ ?_
        ·intro K' a wy ho hd hb hK;refine wantsN 1 52 true false rfl rfl rfl (hd ⟨1,.guard⟩ (by simp) rfl) rfl ?_;exact hK undef _ rfl bR
        apply GChV.v13
        ·rfl
        ·intro K' a wy ho hd hb hK kz;have q1:=hd ⟨1,.data⟩ (by simp) rfl;have q12:=hd ⟨12,.data⟩ (by simp) rfl;simp [rAt,IsV,slot] at q1 q12;clear hd ho;go_simp;try go_bits
         exact kz _ rfl
        intro X wz hR hz;obtain ⟨x0,x1,x2,x3,x4,x5,x6,x7,x8,x9,x10,x11,x12,x13,-⟩:=hR;simp only [IsV] at x0 x1 x2 x3 x4 x5 x6 x7 x8 x9 x10 x11 x12 x13;simp only [putsFrom,x0,x1,x2,x3,x4,x5,x6,x7,x8,x9,x10,x11,x12,x13];clear x0 x1 x2 x3 x4 x5 x6 x7 x8 x9 x10 x11 x12 x13;simp only [List.length_cons,List.length_nil,List.drop_succ_cons,List.drop_zero,Nat.zero_add,Nat.reduceAdd];intro K9 hK9;go_simp;refine hK9 _ _ ?_;have hb6:Below wr.heap.size wr wz:=(Below.refl _ wr).drew.trans hz;have HB2:Hid _:=HBk.out.trans (hb6.mono HBk.out.size);have HK2:Hid _:=HKk.out.kept (by simp) hb6;clear hb6 hz z1;simp only [wpSeq];go_wp2_with fail
        go_roundw
        case rel =>
         (repeat apply Exists.intro)
         exact ⟨⟨k+1,by omega,by go_num,by rw [HSK.out]; rfl,HK2.out,HB2.out⟩,rfl⟩
        case measure=>simp [intOf]; omega
      ·have hke:k=x.sess.length:=by omega
       rw [hke,List.take_length]
       cases hh:x.sess.any (fun s=>hasS y s) with
       | false =>
        have HX:Hid (ans=false):=by unfold Hid; rw [HU.out]; exact HNO.out hh
        clear hh;go_wp2_with fail
        go_ret;exact ⟨ret_bool HX.out.symm,HBk.out⟩
       | true =>
        have HN2:Hid (((x.binds.take (i+1)).all fun y=>x.sess.any fun s=>hasS y s)=true):=by unfold Hid; rw [HST.out,HN.out,hh]; rfl
        clear hh;go_wp2_with fail
        go_roundw
        case rel=>exact ⟨i+1,by omega,by go_num,HN2.out,HKk.out,HBk.out⟩
        case measure=>simp [intOf]; omega
    ·have hie:i=x.binds.length:=by omega
     have HX:Hid (ans=true):=by unfold Hid; rw [HU.out]; have:=HN.out; rw [hie,List.take_length] at this; exact this
     go_wp2_with fail
     go_ret;exact ⟨ret_bool HX.out.symm,HBi.out⟩
end Go.Proofs.YtcckaeppiamebaaGreatDoor
/- SPort: what the specification's l08Port answers. Printed by mksport.py. -/
namespace Go.Proofs.YtcckaeppiamebaaGreatDoor
open Go.RowKit Go.PlainAid
set_option linter.unusedVariables false
set_option linter.unusedSimpArgs false

/-- The boxes of l08Port: the pool, the bib, the bind that is told. -/
structure PortSt (w : World) (p : Pl) (x : Bb) (pa : Option Addr) (pc : Nat) (a b : Option Addr) (ca cb : Nat) (wx : World) : Prop where
 p : HoldsL wx w.heap.size [.slice pa p.addrs.length pc, iV p.low, iV p.high, iV p.most, iV p.filter, iV p.lv.udp, iV p.lv.echo, iV p.lv.opening, iV p.lv.opn, iV p.lv.closing]
 x : HoldsL wx (w.heap.size + 1) [.slice a x.binds.length ca, .slice b x.sess.length cb]
 r : HoldsL wx (w.heap.size + 1 + 1) [iV 0, .string ⟨#[]⟩, iV 0, .string ⟨#[]⟩, iV 0]
 b : Below w.heap.size w wx
theorem PortSt.kept {w : World} {p : Pl} {x : Bb} {pa : Option Addr} {pc : Nat} {a b : Option Addr} {ca cb : Nat} {wx wy : World} (h : PortSt w p x pa pc a b ca cb wx) (hB : Below wx.heap.size wx wy) : PortSt w p x pa pc a b ca cb wy :=
 ⟨h.p.kept (by simp) hB, h.x.kept (by simp) hB, h.r.kept (by simp) hB, h.b.trans (hB.mono h.b.size)⟩
theorem PortSt.setY {w : World} {p : Pl} {x : Bb} {pa : Option Addr} {pc : Nat} {a b : Option Addr} {ca cb : Nat} {wx : World} (h : PortSt w p x pa pc a b ca cb wx) {Y : Nat} (hY : w.heap.size + 1 + 1 < Y) (j : Nat) (v : Value) : PortSt w p x pa pc a b ca cb (wx.setCell ⟨Y, j, none⟩ v) :=
 ⟨h.p.setOther (by omega) v, h.x.setOther (by omega) v, h.r.setOther (by omega) v, h.b.setCell (p := ⟨Y, j, none⟩) (by show w.heap.size ≤ Y; omega) v⟩
theorem PortSt.drewK {w : World} {p : Pl} {x : Bb} {pa : Option Addr} {pc : Nat} {a b : Option Addr} {ca cb : Nat} {wx : World} (h : PortSt w p x pa pc a b ca cb wx) : PortSt w p x pa pc a b ca cb wx.drew := ⟨h.p.drew, h.x.drew, h.r.drew, h.b.drew⟩

set_option maxRecDepth 100000 in
set_option maxHeartbeats 4000000 in
theorem spPort_any (p : Pl) (x : Bb) (pa : Option Addr) (pc : Nat) (a b : Option Addr) (ca cb : Nat) (proto : Int) (inn : ByteArray) (port : Int) (w : World) (hpo : poolOk p = true) (hin : inn.size ≤ 1048576) (h0 : 0 ≤ port) (h1 : port ≤ 65535) (hl1 : x.binds.length ≤ 1048576) (hl2 : x.sess.length ≤ 1048576) (hp : SlIs strL1 1 w pa p.addrs) (hr : BbIs w a b x) :
  Cb 163 #[plC pa pc p, bbC a b ca cb x, iV proto, .string inn, iV port] w (.tuple #[bdC (lendV p x.binds proto inn port).1, iV (lendV p x.binds proto inn port).2]) := by
 have hpb : 1 ≤ p.addrs.length ∧ p.addrs.length ≤ 8 ∧ 1 ≤ p.low ∧ p.low ≤ p.high ∧ p.high ≤ 65535 := by
  unfold poolOk at hpo; simp only [Bool.and_eq_true, decide_eq_true_iff] at hpo; omega
 obtain ⟨hp1, hp8, hlo, hlh, hhi⟩ := hpb
 clear hpo
 have HST : Hid (PortSt w p x pa pc a b ca cb ((aW (aW w [.slice pa p.addrs.length pc, iV p.low, iV p.high, iV p.most, iV p.filter, iV p.lv.udp, iV p.lv.echo, iV p.lv.opening, iV p.lv.opn, iV p.lv.closing] 48) [.slice a x.binds.length ca, .slice b x.sess.length cb] 39).alloc (.cells #[iV 0, .string ⟨#[]⟩, iV 0, .string ⟨#[]⟩, iV 0] 94))) := by
  have H0 := ((HoldsL.new w [.slice pa p.addrs.length pc, iV p.low, iV p.high, iV p.most, iV p.filter, iV p.lv.udp, iV p.lv.echo, iV p.lv.opening, iV p.lv.opn, iV p.lv.closing] 48).alloc (.cells #[.slice a x.binds.length ca, .slice b x.sess.length cb] 39)).alloc (.cells #[iV 0, .string ⟨#[]⟩, iV 0, .string ⟨#[]⟩, iV 0] 94)
  have H1 := (HoldsL.new (w.alloc (.cells #[.slice pa p.addrs.length pc, iV p.low, iV p.high, iV p.most, iV p.filter, iV p.lv.udp, iV p.lv.echo, iV p.lv.opening, iV p.lv.opn, iV p.lv.closing] 48)) [.slice a x.binds.length ca, .slice b x.sess.length cb] 39).alloc (.cells #[iV 0, .string ⟨#[]⟩, iV 0, .string ⟨#[]⟩, iV 0] 94)
  have H2 := HoldsL.new ((aW w [.slice pa p.addrs.length pc, iV p.low, iV p.high, iV p.most, iV p.filter, iV p.lv.udp, iV p.lv.echo, iV p.lv.opening, iV p.lv.opn, iV p.lv.closing] 48).alloc (.cells #[.slice a x.binds.length ca, .slice b x.sess.length cb] 39)) [iV 0, .string ⟨#[]⟩, iV 0, .string ⟨#[]⟩, iV 0] 94
  rw [World.size_alloc] at H1 H2
  rw [World.size_alloc] at H2
  exact ⟨H0, H1, H2, ((bR.alloc (Nat.le_refl _) _).alloc (by simp) _).alloc (by simp; omega) _⟩
 have HBI : Hid (∀ W, Below w.heap.size w W → Cb 122 #[.agg #[.slice a x.binds.length ca, .slice b x.sess.length cb], iV proto, .string inn, iV port] W (iV (findI (ofIn proto inn port) x.binds))) := fun W hW => spBind_any x.binds proto inn port a ca _ W hl1 (hr.bd.below hW)
 have HAT : Hid (∀ o n W, Below w.heap.size w W → Cb 123 #[.agg #[.slice a x.binds.length ca, .slice b x.sess.length cb], iV proto, .string o, iV n] W (iV (findI (ofOut proto o n) x.binds))) := fun o n W hW => spAt_any x.binds proto o n a ca _ W hl1 (hr.bd.below hW)
 have HSM : Hid (∀ W, Cb 93 #[.string inn] W (iV (sumV inn))) := fun W => (specSum1_any inn W (by omega)).mono fun e w' h => ⟨h.1, by rw [h.2]; exact Below.refl _ _⟩
 have HIS : Hid (∀ W, Cw 81 #[iV port, iV p.low, iV p.high] W (.bool (isIn port p.low p.high))) := fun W => specIs_any _ _ _ W
 have hsr := sumV_range inn
 have HV : Hid (lendV p x.binds proto inn port = lendV p x.binds proto inn port) := rfl
 obtain ⟨ans, hans⟩ : ∃ y, y = lendV p x.binds proto inn port := ⟨_, rfl⟩
 rw [← hans]
 have HA : Hid (ans = lendV p x.binds proto inn port) := hans
 have HR : Hid (BbIs w a b x) := hr
 have HP : Hid (SlIs strL1 1 w pa p.addrs) := hp
 unfold plC bbC
 clear hp hr hans HV
 go_enter Tryz.func163, Tryz.ntmps163
 go_upto_region 1 with fail
 generalize ((aW (aW w [.slice pa p.addrs.length pc, iV p.low, iV p.high, iV p.most, iV p.filter, iV p.lv.udp, iV p.lv.echo, iV p.lv.opening, iV p.lv.opn, iV p.lv.closing] 48) [.slice a x.binds.length ca, .slice b x.sess.length cb] 39).alloc (.cells #[iV 0, .string ⟨#[]⟩, iV 0, .string ⟨#[]⟩, iV 0] 94)) = W3 at *
 obtain ⟨k0, k1⟩ := HST.out.x.c2
 go_wp2_with fail
 refine (HBI.out _ HST.out.b).mono ?_
 rintro e w1 ⟨rfl, q1⟩
 have S1 : Hid _ := HST.out.kept q1
 clear q1 k0 k1 HST HBI
 by_cases hf : findI (ofIn proto inn port) x.binds < 0
 ·have hno := find_no _ _ hf
  have HAN : Hid (ans = match lendN p x.binds proto (outIn x.binds (outD p inn) inn) port with | some n => (⟨proto, inn, port, outIn x.binds (outD p inn) inn, n⟩, 0) | none => (bdZ, 9)) := by unfold Hid; rw [HA.out]; unfold lendV; rw [hno]; rfl
  have hf' : ¬ 0 ≤ findI (ofIn proto inn port) x.binds := by omega
  generalize findI (ofIn proto inn port) x.binds = fi at *
  clear hno HA
  go_upto_region 4 with fail
  -- the address by the sum
  obtain ⟨ix, hix⟩ : ∃ ix : Nat, ix = (sumV inn).toNat % p.addrs.length := ⟨_, rfl⟩
  have hixl : ix < p.addrs.length := by rw [hix]; exact Nat.mod_lt _ (by omega)
  have hrem : (sumV inn) % (p.addrs.length : Int) = (ix : Int) := by
   obtain ⟨n, hn⟩ := Int.eq_ofNat_of_zero_le hsr.1
   rw [hix, hn, Int.toNat_natCast]; rfl
  obtain ⟨bp, op, rfl, hbp, hatp⟩ := HP.out.at hixl
  have HPI : Hid (∀ W, Below w.heap.size w W → W.cell? ⟨bp, op + ix, none⟩ = some (.string (outD p inn))) := fun W hW => by
   have h := (hatp.below hbp hW) ix hixl 0 _ rfl
   have e : outD p inn = p.addrs[ix] := by unfold outD; rw [← hix, List.getElem?_eq_getElem hixl]; rfl
   rw [e]; simpa using h
  have hixI : (ix : Int) < (p.addrs.length : Int) := by omega
  have hlen0 : ¬ (p.addrs.length : Int) = 0 := by omega
  have hnil : ¬ p.addrs = [] := fun e => by rw [e] at hp1; simp at hp1
  have hrem2 : (sumV inn).tmod (p.addrs.length : Int) = (ix : Int) := by rw [Int.tmod_eq_emod_of_nonneg hsr.1]; exact hrem
  have HDD : Hid (outD p inn = outD p inn) := rfl
  generalize outD p inn = od at *
  generalize sumV inn = sv at *
  clear hatp hbp hix HDD
  go_cut [13] (fun v wx => v = .string od ∧ Below w1.heap.size w1 wx)
  case first =>
   rename_i J K2 hJ hK2
   refine wp_region_growV [30, 31, 32, 33, 34, 35, 36, 37, 38, 39] (by kernel_rfl) (by kernel_rfl) ?_
   apply GChV.v0
   ·rfl
   ·intro K' a wy ho hd hb hK kz
    have o5 := ho 5 (by decide)
    simp [slot] at o5
    clear hd ho
    go_simp
    try go_bits
    exact kz _ rfl
   apply GChV.v1
   ·rfl
   ·intro K' a wy ho hd hb hK kz
    have q0 := hd ⟨0, .data⟩ (by simp) rfl
    simp [rAt, IsV, slot] at q0
    clear hd ho
    have kx := (S1.out.drewK.kept hb); have kp := kx.p.cell (j := 0) rfl; have ki := HPI.out wy kx.b; clear kx
    go_simp
    try go_bits
    exact kz _ rfl
   apply GChV.v2
   ·rfl
   ·intro K' a wy ho hd hb hK kz
    have o3 := ho 3 (by decide)
    simp [slot] at o3
    clear hd ho
    go_simp
    try go_bits
    exact kz _ rfl
   apply GChV.v3
   ·rfl
   ·intro K' a wy ho hd hb hK kz
    have q2 := hd ⟨2, .data⟩ (by simp) rfl
    simp [rAt, IsV, slot] at q2
    clear hd ho
    go_simp
    refine (HSM.out wy).mono ?_
    rintro e wz ⟨rfl, hz⟩
    exact hK _ _ rfl hz
   apply GChV.v4
   ·rfl
   ·intro K' a wy ho hd hb hK kz
    have o5 := ho 5 (by decide)
    simp [slot] at o5
    clear hd ho
    go_simp
    try go_bits
    exact kz _ rfl
   apply GChV.v5
   ·rfl
   ·intro K' a wy ho hd hb hK kz
    have q4 := hd ⟨4, .data⟩ (by simp) rfl
    simp [rAt, IsV, slot] at q4
    clear hd ho
    have kx := (S1.out.drewK.kept hb); have kp := kx.p.cell (j := 0) rfl; have ki := HPI.out wy kx.b; clear kx
    go_simp
    try go_bits
    exact kz _ rfl
   apply GChV.v6
   ·rfl
   ·intro K' a wy ho hd hb hK kz
    have q5 := hd ⟨5, .data⟩ (by simp) rfl
    simp [rAt, IsV, slot] at q5
    clear hd ho
    go_simp
    try go_bits
    exact kz _ rfl
   apply GChV.v7
   ·rfl
   ·intro K' a wy ho hd hb hK kz
    have q3 := hd ⟨3, .data⟩ (by simp) rfl
    simp [rAt, IsV, slot] at q3
    have q6 := hd ⟨6, .data⟩ (by simp) rfl
    simp [rAt, IsV, slot] at q6
    clear hd ho
    go_simp
    try go_bits
    exact kz _ rfl
   apply GChV.v8
   ·rfl
   ·intro K' a wy ho hd hb hK kz
    have q1 := hd ⟨1, .data⟩ (by simp) rfl
    simp [rAt, IsV, slot] at q1
    have q7 := hd ⟨7, .data⟩ (by simp) rfl
    simp [rAt, IsV, slot] at q7
    clear hd ho
    go_simp
    try go_bits
    exact kz _ rfl
   apply GChV.v9
   ·rfl
   ·intro K' a wy ho hd hb hK kz
    have q8 := hd ⟨8, .data⟩ (by simp) rfl
    simp [rAt, IsV, slot] at q8
    clear hd ho
    have kx := (S1.out.drewK.kept hb); have kp := kx.p.cell (j := 0) rfl; have ki := HPI.out wy kx.b; clear kx
    go_simp
    try go_bits
    exact kz _ rfl
   intro X wz hR hz
   obtain ⟨x0, x1, x2, x3, x4, x5, x6, x7, x8, x9, -⟩ := hR
   simp only [IsV] at x0 x1 x2 x3 x4 x5 x6 x7 x8 x9
   simp only [putsFrom, x0, x1, x2, x3, x4, x5, x6, x7, x8, x9]
   clear x0 x1 x2 x3 x4 x5 x6 x7 x8 x9
   simp only [List.length_cons, List.length_nil, List.drop_succ_cons, List.drop_zero, Nat.zero_add, Nat.reduceAdd]
   intro K9 hK9
   go_simp
   refine hK9 _ _ ?_
   show Exit.then _ _ _ _ _
   refine hK2 _ _ (hJ _ _ ?_)
   (repeat apply Exists.intro)
   refine ⟨⟨rfl, (Below.refl _ w1).drew.trans hz⟩, rfl⟩
  case rest =>
   obtain ⟨rfl, hb4⟩ := hcut
   have S4 : Hid _ := S1.out.kept hb4
   clear hb4 S1 HSM HPI hrem hrem2
   generalize wc = w4 at *
   have k0 := S4.out.x.cell (j := 0) rfl
   go_wp2_with fail
   go_loopw [13, 14] (fun ov iv wr => ∃ i : Nat, i ≤ x.binds.length ∧ iv = iV ((i : Int) - 1) ∧ ov = .string (outIn (x.binds.drop i) od inn) ∧ PortSt w p x (some ⟨bp, op, none⟩) pc a b ca cb wr) (fun _ iv _ => (intOf iv + 1).toNat)
   case atStart => exact ⟨x.binds.length, Nat.le_refl _, rfl, by rw [List.drop_length]; rfl, S4.out⟩
   case round =>
    obtain ⟨i, hi, rfl, rfl, hS⟩ := hrel
    have S5 : Hid _ := hS
    have k0 := hS.x.cell (j := 0) rfl
    clear hS S4
    by_cases hi0 : 0 < i
    ·obtain ⟨j, rfl⟩ : ∃ j, i = j + 1 := ⟨i - 1, by omega⟩
     have hjl : j < x.binds.length := by omega
     obtain ⟨bb, ob, rfl, hbb, hatb⟩ := HR.out.bd.at hjl
     have hA := (hatb.below hbb S5.out.b) j hjl
     have HOS : Hid _ := outIn_step (d := od) (inn := inn) hjl
     obtain ⟨q, hq⟩ : ∃ q, q = x.binds[j] := ⟨_, rfl⟩
     rw [← hq] at hA HOS
     have c1 : wr.cell? ⟨bb, ob + j * 5 + 1, none⟩ = some (.string q.inn) := hA 1 _ rfl
     have c3 : wr.cell? ⟨bb, ob + j * 5 + 3, none⟩ = some (.string q.out) := hA 3 _ rfl
     have hji : ((j + 1 : Nat) : Int) - 1 = (j : Int) := by omega
     rw [hji]
     have hjn : 0 ≤ (j : Int) := by omega
     clear hA hatb hbb hq
     by_cases he : q.inn.toList = inn.toList
     ·have hb := beq_yes he
      have HON : Hid (outIn (x.binds.drop j) od inn = q.out) := by unfold Hid; rw [HOS.out]; unfold ofHost; rw [if_pos (decide_eq_true he)]
      clear he
      go_wp2_with fail
      go_roundw
      case rel => exact ⟨j, by omega, by go_num, by rw [HON.out], S5.out⟩
      case measure => simp [intOf] <;> omega
     ·have hb := beq_no he
      have HON : Hid (outIn (x.binds.drop j) od inn = outIn (x.binds.drop (j + 1)) od inn) := by unfold Hid; rw [HOS.out]; unfold ofHost; rw [if_neg (by simp [he])]
      clear he
      go_wp2_with fail
      go_roundw
      case rel => exact ⟨j, by omega, by go_num, by rw [HON.out], S5.out⟩
      case measure => simp [intOf] <;> omega
    ·have hie : i = 0 := by omega
     subst hie
     rw [List.drop_zero]
     obtain ⟨ou, hou⟩ : ∃ ou, ou = outIn x.binds od inn := ⟨_, rfl⟩
     rw [← hou] at HAN ⊢
     clear hou k0
     have B5 : Hid (Below wr.heap.size wr (wr.alloc (.cells #[iV proto, .string inn, iV port, .string ou, iV port] 94))) := bR.alloc (Nat.le_refl _) _
     have Y5 : Hid (HoldsL (wr.alloc (.cells #[iV proto, .string inn, iV port, .string ou, iV port] 94)) wr.heap.size [iV proto, .string inn, iV port, .string ou, iV port]) := HoldsL.new wr [iV proto, .string inn, iV port, .string ou, iV port] 94
     have hyr : Hid (w.heap.size + 1 + 1 < wr.heap.size) := S5.out.r.lt (by simp)
     go_upto_region 11 with fail
     have S6 : Hid _ := S5.out.kept B5.out
     have hYl : wr.heap.size < (wr.alloc (.cells #[iV proto, .string inn, iV port, .string ou, iV port] 94)).heap.size := by simp
     have hYne : w.heap.size + 1 + 1 ≠ wr.heap.size := by have := hyr.out; omega
     generalize (wr.alloc (.cells #[iV proto, .string inn, iV port, .string ou, iV port] 94)) = W6 at *
     generalize wr.heap.size = Y at *
     have hYY : Hid (w.heap.size + 1 + 1 < Y) := hyr.out
     have HTW : Hid (∀ n V, PortSt w p x (some ⟨bp, op, none⟩) pc a b ca cb V → HoldsL V Y [iV proto, .string inn, iV port, .string ou, iV n] → HoldsL (((((V.setCell ⟨w.heap.size + 1 + 1, 0, none⟩ (iV proto)).setCell ⟨w.heap.size + 1 + 1, 1, none⟩ (.string inn)).setCell ⟨w.heap.size + 1 + 1, 2, none⟩ (iV port)).setCell ⟨w.heap.size + 1 + 1, 3, none⟩ (.string ou)).setCell ⟨w.heap.size + 1 + 1, 4, none⟩ (iV n)) (w.heap.size + 1 + 1) [iV proto, .string inn, iV port, .string ou, iV n] ∧ Below w.heap.size w (((((V.setCell ⟨w.heap.size + 1 + 1, 0, none⟩ (iV proto)).setCell ⟨w.heap.size + 1 + 1, 1, none⟩ (.string inn)).setCell ⟨w.heap.size + 1 + 1, 2, none⟩ (iV port)).setCell ⟨w.heap.size + 1 + 1, 3, none⟩ (.string ou)).setCell ⟨w.heap.size + 1 + 1, 4, none⟩ (iV n))) := fun n V hS hY =>
      ⟨((((hS.r.set 0 (iV proto)).set 1 (.string inn)).set 2 (iV port)).set 3 (.string ou)).set 4 (iV n), ((((hS.b.setCell (p := ⟨w.heap.size + 1 + 1, 0, none⟩) (by show w.heap.size ≤ w.heap.size + 1 + 1; omega) _).setCell (p := ⟨w.heap.size + 1 + 1, 1, none⟩) (by show w.heap.size ≤ w.heap.size + 1 + 1; omega) _).setCell (p := ⟨w.heap.size + 1 + 1, 2, none⟩) (by show w.heap.size ≤ w.heap.size + 1 + 1; omega) _).setCell (p := ⟨w.heap.size + 1 + 1, 3, none⟩) (by show w.heap.size ≤ w.heap.size + 1 + 1; omega) _).setCell (p := ⟨w.heap.size + 1 + 1, 4, none⟩) (by show w.heap.size ≤ w.heap.size + 1 + 1; omega) _⟩
     have HFR : Hid (∀ n, freeP x.binds proto ou n = decide (findI (ofOut proto ou n) x.binds < 0)) := fun _ => rfl
     have HLN : Hid (lendN p x.binds proto ou port = if (isIn port p.low p.high && freeP x.binds proto ou port) = true then some port else match leastN (fun n => decide (n % 2 = port % 2) && freeP x.binds proto ou n) p.low (p.high - p.low + 1).toNat with | some n => some n | none => leastN (freeP x.binds proto ou) p.low (p.high - p.low + 1).toNat) := rfl
     obtain ⟨-, z1, z2⟩ := S6.out.p.c3
     obtain ⟨k0, k1⟩ := S6.out.x.c2
     clear S5 B5
     go_cut [81] (fun v wx => v = .bool (isIn port p.low p.high && freeP x.binds proto ou port) ∧ Below W6.heap.size W6 wx)
     case first =>
      have hun : undef = Value.tuple #[] := rfl
      cases hisb : isIn port p.low p.high with
      | false =>
       go_wp2_with fail
       refine (HIS.out _).mono ?_
       rw [hisb]
       rintro e w7 ⟨rfl, rfl⟩
       go_wp2_with fail
       go_meet
       exact ⟨by rw [hisb]; rfl, Below.refl _ _⟩
      | true =>
       go_wp2_with fail
       refine (HIS.out _).mono ?_
       rw [hisb]
       rintro e w7 ⟨rfl, rfl⟩
       go_wp2_with fail
       refine (HAT.out ou port _ S6.out.b).mono ?_
       rintro e w8 ⟨rfl, q8⟩
       have Q8 : Hid _ := q8
       have HFP : Hid (freeP x.binds proto ou port = decide (findI (ofOut proto ou port) x.binds < 0)) := HFR.out port
       clear q8
       generalize findI (ofOut proto ou port) x.binds = fp at *
       by_cases hfp : fp < 0
       ·go_wp2_with fail
        go_meet
        exact ⟨by rw [hisb, HFP.out]; simp [hfp], Q8.out⟩
       ·go_wp2_with fail
        go_meet
        exact ⟨by rw [hisb, HFP.out]; simp [hfp], Q8.out⟩
     case rest =>
      obtain ⟨rfl, hb7⟩ := hcut
      have S7 : Hid _ := S6.out.kept hb7
      have Y7 : Hid _ := Y5.out.kept (by simp) hb7
      clear hb7 S6 Y5 z1 z2 k0 k1 HIS
      cases hc7 : (isIn port p.low p.high && freeP x.binds proto ou port) with
      | true =>
       have HAN2 : Hid (ans = (⟨proto, inn, port, ou, port⟩, 0)) := by unfold Hid; rw [HAN.out, HLN.out, hc7]; rfl
       obtain ⟨y0, y1, y2, y3, y4⟩ := Y7.out.c5
       obtain ⟨r0, r1, r2, r3, r4⟩ := S7.out.r.c5
       obtain ⟨f0, f1, f2, f3, f4⟩ := S7.out.r.f5
       obtain ⟨t1, t2⟩ := HTW.out port wc S7.out Y7.out
       have T1 : Hid _ := t1
       have T2 : Hid _ := t2
       clear t1 t2
       go_wp2_with fail
       have u0 := T1.out.cell (j := 0) (v := iV proto) rfl
       have u1 := T1.out.cell (j := 1) (v := .string inn) rfl
       have u2 := T1.out.cell (j := 2) (v := iV port) rfl
       have u3 := T1.out.cell (j := 3) (v := .string ou) rfl
       have u4 := T1.out.cell (j := 4) (v := iV port) rfl
       refine bodyPost_ret (v := .tuple #[.agg #[iV proto, .string inn, iV port, .string ou, iV port], iV 0]) (by simp [results, Tryz.results163, go_sem, u0, u1, u2, u3, u4]) rfl ?_
       exact ⟨by rw [HAN2.out]; rfl, T2.out⟩
      | false =>
       rw [hc7, if_neg (by decide)] at HLN
       go_wp2_with fail
       go_loopw [16] (fun tv wr => ∃ t : Nat, t ≤ 2 ∧ tv = iV t ∧ (1 ≤ t → leastN (fun n => decide (n % 2 = port % 2) && freeP x.binds proto ou n) p.low (p.high - p.low + 1).toNat = none) ∧ (2 ≤ t → leastN (freeP x.binds proto ou) p.low (p.high - p.low + 1).toNat = none) ∧ PortSt w p x (some ⟨bp, op, none⟩) pc a b ca cb wr ∧ HoldsL wr Y [iV proto, .string inn, iV port, .string ou, iV port]) (fun tv _ => 2 - (intOf tv).toNat)
       case atStart => exact ⟨0, by omega, rfl, fun h => by omega, fun h => by omega, S7.out, Y7.out⟩
       case round =>
        obtain ⟨t, ht, rfl, hn0, hn1, hS, hY⟩ := hrel
        have N0 : Hid (1 ≤ t → leastN (fun n => decide (n % 2 = port % 2) && freeP x.binds proto ou n) p.low (p.high - p.low + 1).toNat = none) := hn0
        have N1 : Hid (2 ≤ t → leastN (freeP x.binds proto ou) p.low (p.high - p.low + 1).toNat = none) := hn1
        have S8 : Hid _ := hS
        have Y8 : Hid _ := hY
        clear hn0 hn1 hS hY S7 Y7
        generalize wr = w9 at *
        by_cases htl : t < 2
        ·obtain ⟨f, hfd⟩ : ∃ f : Int → Bool, f = if t = 0 then (fun n => decide (n % 2 = port % 2) && freeP x.binds proto ou n) else (freeP x.binds proto ou) := ⟨_, rfl⟩
         have HFD : Hid (f = if t = 0 then (fun n => decide (n % 2 = port % 2) && freeP x.binds proto ou n) else (freeP x.binds proto ou)) := hfd
         have z1 := S8.out.p.cell (j := 1) rfl
         have htI : (t : Int) < 2 := by omega
         clear hfd
         go_wp2_with fail
         go_loopw [17] (fun nv wr => ∃ n : Int, p.low ≤ n ∧ n ≤ p.high + 1 ∧ nv = iV n ∧ leastN f p.low (p.high - p.low + 1).toNat = leastN f n (p.high - n + 1).toNat ∧ PortSt w p x (some ⟨bp, op, none⟩) pc a b ca cb wr ∧ HoldsL wr Y [iV proto, .string inn, iV port, .string ou, iV port]) (fun nv _ => (p.high + 1 - intOf nv).toNat)
         case atStart => exact ⟨p.low, by omega, by omega, rfl, rfl, S8.out, Y8.out⟩
         case round =>
          obtain ⟨n, hn1, hn2, rfl, hle, hS, hY⟩ := hrel
          have HLE : Hid (leastN f p.low (p.high - p.low + 1).toNat = leastN f n (p.high - n + 1).toNat) := hle
          have S9 : Hid _ := hS
          have Y9 : Hid _ := hY
          have z2 := hS.p.cell (j := 2) rfl
          obtain ⟨k0, k1⟩ := hS.x.c2
          clear hle hS hY S8 Y8 z1
          by_cases hnl : n ≤ p.high
          ·have HSTP : Hid _ := leastN_step (f := f) hnl
           have hn0 : 0 ≤ n := by omega
           have hn3 : n ≤ 65535 := by omega
           go_upto_region 19 with fail
           go_cut [111] (fun v wx => v = .bool (f n) ∧ Below wr.heap.size wr wx)
           case first =>
            have hun : undef = Value.tuple #[] := rfl
            have HFP : Hid (freeP x.binds proto ou n = decide (findI (ofOut proto ou n) x.binds < 0)) := HFR.out n
            by_cases ht0 : t = 0
            ·subst ht0
             have HFN : Hid (f n = (decide (n % 2 = port % 2) && freeP x.binds proto ou n)) := by unfold Hid; rw [HFD.out]; rfl
             by_cases hpar : n % 2 = port % 2
             ·go_wp2_with fail
              refine (HAT.out ou n _ S9.out.b).mono ?_
              rintro e wa ⟨rfl, qa⟩
              have QA : Hid _ := qa
              clear qa
              generalize findI (ofOut proto ou n) x.binds = fp at *
              by_cases hfp : fp < 0
              ·go_wp2_with fail
               go_meet
               exact ⟨by rw [HFN.out, HFP.out] <;> simp [hfp, hpar], QA.out⟩
              ·go_wp2_with fail
               go_meet
               exact ⟨by rw [HFN.out, HFP.out] <;> simp [hfp, hpar], QA.out⟩
             ·go_wp2_with fail
              go_meet
              exact ⟨by rw [HFN.out]; simp [hpar], Below.refl _ _⟩
            ·have ht1 : t = 1 := by omega
             subst ht1
             have HFN : Hid (f n = freeP x.binds proto ou n) := by unfold Hid; rw [HFD.out]; rfl
             go_wp2_with fail
             refine (HAT.out ou n _ S9.out.b).mono ?_
             rintro e wa ⟨rfl, qa⟩
             have QA : Hid _ := qa
             clear qa
             generalize findI (ofOut proto ou n) x.binds = fp at *
             by_cases hfp : fp < 0
             ·go_wp2_with fail
              go_meet
              exact ⟨by rw [HFN.out, HFP.out] <;> simp [hfp], QA.out⟩
             ·go_wp2_with fail
              go_meet
              exact ⟨by rw [HFN.out, HFP.out] <;> simp [hfp], QA.out⟩
           case rest =>
            obtain ⟨rfl, hba⟩ := hcut
            have SA : Hid _ := S9.out.kept hba
            have YA : Hid _ := Y9.out.kept (by simp) hba
            clear hba S9 Y9 z2 k0 k1
            cases hfn : f n with
            | true =>
             have HLN2 : Hid (lendN p x.binds proto ou port = some n) := by
              have e1 : leastN f p.low (p.high - p.low + 1).toNat = some n := by rw [HLE.out, HSTP.out, if_pos hfn]
              unfold Hid
              rw [HLN.out]
              by_cases ht0 : t = 0
              ·have e2 : f = (fun n => decide (n % 2 = port % 2) && freeP x.binds proto ou n) := by rw [HFD.out, if_pos ht0]
               rw [← e2, e1]
              ·have e2 : f = (freeP x.binds proto ou) := by rw [HFD.out, if_neg ht0]
               rw [N0.out (by omega), ← e2, e1]
             have HAN2 : Hid (ans = (⟨proto, inn, port, ou, n⟩, 0)) := by unfold Hid; rw [HAN.out, HLN2.out]
             have v4 := YA.out.cell (j := 4) rfl
             have g4 := YA.out.free (j := 4) (by simp)
             have SB : Hid _ := SA.out.setY hYY.out 4 (iV n)
             have YB : Hid (HoldsL (wc.setCell ⟨Y, 4, none⟩ (iV n)) Y [iV proto, .string inn, iV port, .string ou, iV n]) := YA.out.set 4 (iV n)
             clear hfn
             go_upto_region 21 with fail
             generalize wc.setCell ⟨Y, 4, none⟩ (iV n) = WB at *
             clear v4 g4
             obtain ⟨y0, y1, y2, y3, y4⟩ := YB.out.c5
             obtain ⟨r0, r1, r2, r3, r4⟩ := SB.out.r.c5
             obtain ⟨f0, f1, f2, f3, f4⟩ := SB.out.r.f5
             obtain ⟨t1, t2⟩ := HTW.out n WB SB.out YB.out
             have T1 : Hid _ := t1
             have T2 : Hid _ := t2
             clear t1 t2
             go_wp2_with fail
             have u0 := T1.out.cell (j := 0) (v := iV proto) rfl
             have u1 := T1.out.cell (j := 1) (v := .string inn) rfl
             have u2 := T1.out.cell (j := 2) (v := iV port) rfl
             have u3 := T1.out.cell (j := 3) (v := .string ou) rfl
             have u4 := T1.out.cell (j := 4) (v := iV n) rfl
             refine bodyPost_ret (v := .tuple #[.agg #[iV proto, .string inn, iV port, .string ou, iV n], iV 0]) (by simp [results, Tryz.results163, go_sem, u0, u1, u2, u3, u4]) rfl ?_
             exact ⟨by rw [HAN2.out]; rfl, T2.out⟩
            | false =>
             have HL2 : Hid (leastN f p.low (p.high - p.low + 1).toNat = leastN f (n + 1) (p.high - (n + 1) + 1).toNat) := by unfold Hid; rw [HLE.out, HSTP.out, if_neg (by rw [hfn]; decide)]
             clear hfn
             go_wp2_with fail
             go_roundw
             case rel => exact ⟨n + 1, by omega, by omega, rfl, HL2.out, SA.out, YA.out⟩
             case measure => simp [intOf] <;> omega
          ·have HNO : Hid (leastN f p.low (p.high - p.low + 1).toNat = none) := by unfold Hid; rw [HLE.out]; exact leastN_end (by omega)
           go_wp2_with fail
           go_roundw
           case rel =>
            refine ⟨t + 1, by omega, by go_num, fun h => ?_, fun h => ?_, S9.out, Y9.out⟩
            ·by_cases ht0 : t = 0
             ·have := HNO.out; rw [HFD.out, if_pos ht0] at this; exact this
             ·exact N0.out (by omega)
            ·have ht0 : ¬ t = 0 := by omega
             have := HNO.out; rw [HFD.out, if_neg ht0] at this; exact this
           case measure => simp [intOf] <;> omega
        ·have ht2 : t = 2 := by omega
         subst ht2
         have HAN2 : Hid (ans = (bdZ, 9)) := by unfold Hid; rw [HAN.out, HLN.out, N0.out (by omega), N1.out (by omega)]
         obtain ⟨r0, r1, r2, r3, r4⟩ := S8.out.r.c5
         obtain ⟨f0, f1, f2, f3, f4⟩ := S8.out.r.f5
         have T1 : Hid _ := (((((S8.out.r.set 0 (iV 0)).set 1 (.string ⟨#[]⟩)).set 2 (iV 0)).set 3 (.string ⟨#[]⟩)).set 4 (iV 0))
         have T2 : Hid _ := (((((S8.out.b.setCell (p := ⟨w.heap.size + 1 + 1, 0, none⟩) (by show w.heap.size ≤ w.heap.size + 1 + 1; omega) (iV 0)).setCell (p := ⟨w.heap.size + 1 + 1, 1, none⟩) (by show w.heap.size ≤ w.heap.size + 1 + 1; omega) (.string ⟨#[]⟩)).setCell (p := ⟨w.heap.size + 1 + 1, 2, none⟩) (by show w.heap.size ≤ w.heap.size + 1 + 1; omega) (iV 0)).setCell (p := ⟨w.heap.size + 1 + 1, 3, none⟩) (by show w.heap.size ≤ w.heap.size + 1 + 1; omega) (.string ⟨#[]⟩)).setCell (p := ⟨w.heap.size + 1 + 1, 4, none⟩) (by show w.heap.size ≤ w.heap.size + 1 + 1; omega) (iV 0))
         go_wp2_with fail
         have u0 := T1.out.cell (j := 0) (v := iV 0) rfl
         have u1 := T1.out.cell (j := 1) (v := .string ⟨#[]⟩) rfl
         have u2 := T1.out.cell (j := 2) (v := iV 0) rfl
         have u3 := T1.out.cell (j := 3) (v := .string ⟨#[]⟩) rfl
         have u4 := T1.out.cell (j := 4) (v := iV 0) rfl
         refine bodyPost_ret (v := .tuple #[.agg #[iV 0, .string ⟨#[]⟩, iV 0, .string ⟨#[]⟩, iV 0], iV 9]) (by simp [results, Tryz.results163, go_sem, u0, u1, u2, u3, u4]) rfl ?_
         exact ⟨by rw [HAN2.out]; rfl, T2.out⟩
 ·obtain ⟨i, hi, hfi, hfd⟩ := findBd_at _ _ hf
  have HAN : Hid (ans = (x.binds[i], 0)) := by unfold Hid; rw [HA.out]; unfold lendV; rw [hfd]
  rw [hfi]
  obtain ⟨bb, ob, rfl, hbb, hatb⟩ := HR.out.bd.at hi
  have hA := (hatb.below hbb S1.out.b) i hi
  obtain ⟨q, hq⟩ : ∃ q, q = x.binds[i] := ⟨_, rfl⟩
  rw [← hq] at hA HAN
  have c0 : w1.cell? ⟨bb, ob + i * 5, none⟩ = some (iV q.proto) := hA 0 _ rfl
  have c1 : w1.cell? ⟨bb, ob + i * 5 + 1, none⟩ = some (.string q.inn) := hA 1 _ rfl
  have c2 : w1.cell? ⟨bb, ob + i * 5 + 2, none⟩ = some (iV q.inPort) := hA 2 _ rfl
  have c3 : w1.cell? ⟨bb, ob + i * 5 + 3, none⟩ = some (.string q.out) := hA 3 _ rfl
  have c4 : w1.cell? ⟨bb, ob + i * 5 + 4, none⟩ = some (iV q.outPort) := hA 4 _ rfl
  have k0 := S1.out.x.cell (j := 0) rfl
  have hiI : (i : Int) < (x.binds.length : Int) := by omega
  clear hatb hbb hq hA hf hfi hfd HA
  obtain ⟨r0, r1, r2, r3, r4⟩ := S1.out.r.c5
  obtain ⟨f0, f1, f2, f3, f4⟩ := S1.out.r.f5
  have T1 : Hid _ := (((((S1.out.r.set 0 (iV q.proto)).set 1 (.string q.inn)).set 2 (iV q.inPort)).set 3 (.string q.out)).set 4 (iV q.outPort))
  have T2 : Hid _ := (((((S1.out.b.setCell (p := ⟨w.heap.size + 1 + 1, 0, none⟩) (by show w.heap.size ≤ w.heap.size + 1 + 1; omega) (iV q.proto)).setCell (p := ⟨w.heap.size + 1 + 1, 1, none⟩) (by show w.heap.size ≤ w.heap.size + 1 + 1; omega) (.string q.inn)).setCell (p := ⟨w.heap.size + 1 + 1, 2, none⟩) (by show w.heap.size ≤ w.heap.size + 1 + 1; omega) (iV q.inPort)).setCell (p := ⟨w.heap.size + 1 + 1, 3, none⟩) (by show w.heap.size ≤ w.heap.size + 1 + 1; omega) (.string q.out)).setCell (p := ⟨w.heap.size + 1 + 1, 4, none⟩) (by show w.heap.size ≤ w.heap.size + 1 + 1; omega) (iV q.outPort))
  go_wp2_with fail
  have u0 := T1.out.cell (j := 0) (v := iV q.proto) rfl
  have u1 := T1.out.cell (j := 1) (v := .string q.inn) rfl
  have u2 := T1.out.cell (j := 2) (v := iV q.inPort) rfl
  have u3 := T1.out.cell (j := 3) (v := .string q.out) rfl
  have u4 := T1.out.cell (j := 4) (v := iV q.outPort) rfl
  refine bodyPost_ret (v := .tuple #[.agg #[iV q.proto, .string q.inn, iV q.inPort, .string q.out, iV q.outPort], iV 0]) (by simp [results, Tryz.results163, go_sem, u0, u1, u2, u3, u4]) rfl ?_
  exact ⟨by rw [HAN.out]; rfl, T2.out⟩

end Go.Proofs.YtcckaeppiamebaaGreatDoor
