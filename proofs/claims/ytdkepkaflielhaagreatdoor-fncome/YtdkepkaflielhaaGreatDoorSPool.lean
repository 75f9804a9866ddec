import Derived.Test.YtdkepkaflielhaaGreatDoorSz
import Derived.Test.YtdkepkaflielhaaGreatDoorAb
import Derived.Test.YtdkepkaflielhaaGreatDoorUni
import Derived.Test.YtdkepkaflielhaaGreatDoorLawPool
import Derived.Test.YtdkepkaflielhaaGreatDoorSBib
import Derived.Test.YtdkepkaflielhaaGreatDoorSTrack
import Derived.Test.YtdkepkaflielhaaGreatDoorGrowH
import Derived.Deep.DeepCutAuto
set_option linter.unusedVariables false
set_option linter.unusedSimpArgs false
set_option maxRecDepth 100000
set_option maxHeartbeats 8000000
namespace Go.Proofs.YtdkepkaflielhaaGreatDoor
open Go.RowKit Go.PlainAid
theorem SlIs.take {α:Type} {en:α→List Value} {n:Nat} {w:World} {a:Option Addr} {xs:List α} (h:SlIs en n w a xs) (i:Nat):SlIs en n w a (xs.take i):=by
 rcases h with rfl | ⟨b,off,rfl,hb,hat⟩
 ·exact .inl (by simp)
 ·exact .inr ⟨b,off,rfl,hb,fun j hj=>by rw [List.getElem_take]; exact hat j (by simp at hj; omega)⟩
theorem specPool_any (p:Pl) (a:Option Addr) (cap:Nat) (w:World) (hl:p.addrs.length≤1048576) (hcap:p.addrs.length≤cap) (hsz:∀ s∈p.addrs,s.size≤1048576) (hr:SlIs strL1 1 w a p.addrs) :
  Cb 34 #[plC a cap p] w (.bool (poolOk p)):=by
 have hun:undef=Value.tuple #[]:=rfl;have GA:Hid (Below w.z w (w.alloc (.cells (PlV a cap p).toArray 27))):=bR.alloc lR _;have H0:Hid (HoldsL (w.alloc (.cells (PlV a cap p).toArray 27)) w.z (PlV a cap p)):=HoldsL.new w (PlV a cap p) 27;have HM:Hid (∀ W,Cw 40 #[iV p.most,iV 1,iV 60] W (.bool (isIn p.most 1 60))):=fun W=>specIs_any _ _ _ W
 have HF:Hid (∀ W,Cw 40 #[iV p.filter,iV 0,iV 2] W (.bool (isIn p.filter 0 2))):=fun W=>specIs_any _ _ _ W
 have HL:Hid (∀ W,Cb 67 #[lvC p.lv] W (.bool (livesOk p.lv))):=fun W=>specLives_any p.lv W
 have HV:Hid (poolOk p=(decide (1≤p.addrs.length)&&decide (p.addrs.length≤8)&&decide (1≤p.low)&&decide (p.low≤p.high)&&decide (p.high≤65535)&&isIn p.most 1 60&&isIn p.filter 0 2&&livesOk p.lv&&upN addrOne p.addrs p.addrs.length)):=rfl;generalize poolOk p=ans at *;generalize isIn p.most 1 60=bm at *;generalize isIn p.filter 0 2=bf at *;generalize livesOk p.lv=bl at *;have HR:Hid (SlIs strL1 1 w a p.addrs):=hr;have HZ:Hid (∀ s∈p.addrs,s.size≤1048576):=hsz;clear hr hsz;unfold plC;unfold lvC at HL;by_cases h1:p.addrs.length < 1
 ·have HX:Hid (ans=false):=by
    unfold Hid; rw [HV.out,show decide (1≤p.addrs.length)=false from decide_eq_false (by omega)];simp
  have h1':(p.addrs.length:Int) < 1:=by omega
  go_enter Tryz.func34,Tryz.ntmps34
  go_wp2_with fail
  go_ret;exact ⟨ret_bool HX.out.symm,GA.out⟩
 ·rw [show decide (1≤p.addrs.length)=true from decide_eq_true (by omega)] at HV;have h1n:¬ (p.addrs.length:Int) < 1:=by omega
  by_cases h2:8 < p.addrs.length
  ·have HX:Hid (ans=false):=by
     unfold Hid; rw [HV.out,show decide (p.addrs.length≤8)=false from decide_eq_false (by omega)];simp
   have h2':(8:Int) < (p.addrs.length:Int):=by omega
   go_enter Tryz.func34,Tryz.ntmps34
   go_wp2_with fail
   go_ret;exact ⟨ret_bool HX.out.symm,GA.out⟩
  ·rw [show decide (p.addrs.length≤8)=true from decide_eq_true (by omega)] at HV;have h2n:¬ (8:Int) < (p.addrs.length:Int):=by omega
   by_cases h3:p.low < 1
   ·have HX:Hid (ans=false):=by
      unfold Hid; rw [HV.out,show decide (1≤p.low)=false from decide_eq_false (by omega)];simp
    have h3':p.low < 1:=by omega
    go_enter Tryz.func34,Tryz.ntmps34
    go_wp2_with fail
    go_ret;exact ⟨ret_bool HX.out.symm,GA.out⟩
   ·rw [show decide (1≤p.low)=true from decide_eq_true (by omega)] at HV;have h3n:¬ p.low < 1:=by omega
    by_cases h4:p.high < p.low
    ·have HX:Hid (ans=false):=by
       unfold Hid; rw [HV.out,show decide (p.low≤p.high)=false from decide_eq_false (by omega)];simp
     have h4':p.high < p.low:=by omega
     go_enter Tryz.func34,Tryz.ntmps34
     go_wp2_with fail
     go_ret;exact ⟨ret_bool HX.out.symm,GA.out⟩
    ·rw [show decide (p.low≤p.high)=true from decide_eq_true (by omega)] at HV;have h4n:¬ p.high < p.low:=by omega
     by_cases h5:65535 < p.high
     ·have HX:Hid (ans=false):=by
        unfold Hid; rw [HV.out,show decide (p.high≤65535)=false from decide_eq_false (by omega)];simp
      have h5':65535 < p.high:=by omega
      go_enter Tryz.func34,Tryz.ntmps34
      go_wp2_with fail
      go_ret;exact ⟨ret_bool HX.out.symm,GA.out⟩
     ·rw [show decide (p.high≤65535)=true from decide_eq_true (by omega)] at HV;have h5n:¬ 65535 < p.high:=by omega
      cases bm with
      | false =>
       have HX:Hid (ans=false):=by unfold Hid; rw [HV.out]; simp
       go_enter Tryz.func34,Tryz.ntmps34
       go_wp2_with (go_at_call 40; refine (HM.out _).mono ?_; rintro e w1 ⟨rfl,rfl⟩)
       go_ret;exact ⟨ret_bool HX.out.symm,GA.out⟩
      | true =>
       cases bf with
       | false =>
        have HX:Hid (ans=false):=by unfold Hid; rw [HV.out]; simp
        go_enter Tryz.func34,Tryz.ntmps34
        go_wp2_with fail
        refine (HM.out _).mono ?_;rintro e w1 ⟨rfl,rfl⟩;go_wp2_with fail
        refine (HF.out _).mono ?_;rintro e w1 ⟨rfl,rfl⟩;go_wp2_with fail
        go_ret;exact ⟨ret_bool HX.out.symm,GA.out⟩
       | true =>
        go_enter Tryz.func34,Tryz.ntmps34
        go_wp2_with fail
        refine (HM.out _).mono ?_;rintro e w1 ⟨rfl,rfl⟩;go_wp2_with fail
        refine (HF.out _).mono ?_;rintro e w1 ⟨rfl,rfl⟩;go_wp2_with fail
        refine (HL.out _).mono ?_;rintro e w1 ⟨rfl,q1⟩;have G1:Hid _:=GA.out.trans (q1.mono GA.out.size);have K1:=H0.out.kept (by simp) q1;have k0:=K1.cell (j:=0) rfl;have KB:Hid (w.z < w1.heap.size):=K1.lt (by simp);have HK1:Hid _:=K1;clear q1 K1 H0 GA HM HF HL
        cases bl with
        | false =>
         have HX:Hid (ans=false):=by unfold Hid; rw [HV.out]; simp
         go_wp2_with fail
         go_ret;exact ⟨ret_bool HX.out.symm,G1.out⟩
        | true =>
         have HU:Hid (ans=upN addrOne p.addrs p.addrs.length):=by unfold Hid; rw [HV.out]; simp
         clear HV;go_wp2_with fail
         go_loopw [3] (fun iv wr=>∃ i:Nat,i≤p.addrs.length∧iv=iV i∧upN addrOne p.addrs i=true∧wr.cell? ⟨w.z,0,none⟩=some (.slice a p.addrs.length cap)∧Below w.z w wr) (fun iv _=>p.addrs.length-(intOf iv).toNat)
         case atStart=>exact ⟨0,Nat.zero_le _,rfl,rfl,k0,G1.out⟩
         case round =>
          obtain ⟨i,hi,rfl,hn,hk,hbel⟩:=hrel;have HN:Hid (upN addrOne p.addrs i=true):=hn;have HB:Hid (Below w.z w wr):=hbel;have HK:Hid (wr.cell? ⟨w.z,0,none⟩=some (.slice a p.addrs.length cap)):=hk;clear hn hbel k0;by_cases hlt:i < p.addrs.length
          ·obtain ⟨b,off,rfl,hb,hat⟩:=HR.out.at hlt;have HA:=(hat.below hb HB.out) i hlt;have HST:Hid _:=upN_step (f:=addrOne) hlt;have hsi:=HZ.out p.addrs[i] (List.getElem_mem hlt);have HATF:Hid (addrOne (p.addrs.take i) p.addrs[i]=false→upN addrOne p.addrs p.addrs.length=false):=upN_at hlt;obtain ⟨s,hs⟩ : ∃ s,s=p.addrs[i]:=⟨_,rfl⟩;rw [← hs] at HA HST HATF hsi;have c0:wr.cell? ⟨b,off+i,none⟩=some (.string s):=by have:=HA 0 _ rfl; simpa using this
           have C0:Hid (wr.cell? ⟨b,off+i,none⟩=some (.string s)):=c0;have hbw:Hid (b < wr.heap.size):=World.block_lt_of_cell? wr _ c0;have hwb:Hid (w.z < wr.heap.size):=World.block_lt_of_cell? wr _ hk;have HIN:Hid (∀ W,Below wr.heap.size wr W→Cb 68 #[.slice (some ⟨b,off,none⟩) i cap,.string s] W (.bool (inL (p.addrs.take i) s))):=fun W hW=>by
            have:=spIn_any (p.addrs.take i) s (some ⟨b,off,none⟩) cap W (by simp; omega) (((HR.out.take i).below HB.out).below hW);rw [List.length_take_of_le (by omega)] at this;exact this
           have hic:(i:Int)≤(cap:Int):=by omega
           have hlt':(i:Int) < (p.addrs.length:Int):=by omega
           clear hat HA hs c0 hun;by_cases h4:s.size=4
           ·have hd:((s.size:Int) != 4)=false:=by rw [h4]; rfl
            have hd2:decide ((s.size:Int)=4)=true:=by rw [h4]; rfl
            generalize hin:inL (p.addrs.take i) s=bi at *;go_upto_region 6 with fail
            go_cut [74] (fun v wx=>v=.bool bi∧Below wr.heap.size wr wx)
            case first =>
             rename_i J K2 hJ hK2;refine wp_region_growH [56,57,58,59,60,61,62,63,64,65,66,67,68,69,70,71,72,73,74] (by kernel_rfl) (by kernel_rfl) ?_;iterate 19 ((first|apply GCh.u rfl|apply GCh.g rfl rfl rfl rfl rfl (by simp));(·intro K' a wy ho hd hb hK;simp [rAt,IsV,slot,Region.binds] at ho hd;have kk0:=((bcell ((Below.refl _ wr).drew.trans hb)).1 _ _ hwb.out).trans HK.out; have kk1:=((bcell ((Below.refl _ wr).drew.trans hb)).1 _ _ hbw.out).trans C0.out;go_simp;first|((try go_bits);exact hK _ _ rfl bQ)|(refine (HIN.out wy ((Below.refl _ wr).drew.trans hb)).mono ?_;rintro e wz ⟨rfl,hz⟩;exact hK _ _ rfl hz));dsimp only [nA,cA])
             intro X wz hR hz;simp only [List.nil_append,List.cons_append,RAll,IsV] at hR;simp only [putsFrom,hR];clear hR;go_simp;refine hK2 _ _ (hJ _ _ ?_);(repeat apply Exists.intro)
             refine ⟨⟨rfl,(Below.refl _ wr).drew.trans hz⟩,rfl⟩
            case rest =>
             obtain ⟨rfl,hb6⟩:=hcut;have HB2:Hid _:=HB.out.trans (hb6.mono HB.out.size);have hk2:wc.cell? ⟨w.z,0,none⟩=some (.slice (some ⟨b,off,none⟩) p.addrs.length cap):=((bcell hb6).1 _ _ hwb.out).trans HK.out;have HK2:Hid _:=hk2;clear hk2 hb6 hk
             cases bi with
             | true =>
              have HX:Hid (ans=false):=by
               unfold Hid; rw [HU.out]; refine HATF.out ?_;unfold addrOne; rw [hin]; simp
              go_wp2_with fail
              go_ret;exact ⟨ret_bool HX.out.symm,HB2.out⟩
             | false =>
              have HN2:Hid (upN addrOne p.addrs (i+1)=true):=by
               unfold Hid; rw [HST.out,HN.out]; unfold addrOne; rw [hin,h4]; rfl
              go_wp2_with fail
              go_roundw
              case rel=>exact ⟨i+1,by omega,by go_num,HN2.out,HK2.out,HB2.out⟩
              case measure=>simp [intOf]; omega
           ·have hd:((s.size:Int) != 4)=true:=by simp; omega
            have hd2:decide ((s.size:Int)=4)=false:=by simp; omega
            have HX:Hid (ans=false):=by
             unfold Hid; rw [HU.out]; refine HATF.out ?_;unfold addrOne; rw [decide_eq_false h4]; rfl
            go_upto_region 6 with fail
            go_cut [74] (fun v wx=>v=.bool true∧Below wr.heap.size wr wx)
            case first =>
             rename_i J K2 hJ hK2;refine wp_region_growH [56,57,58,59,60,61,62,63,64,65,66,67,68,69,70,71,72,73,74] (by kernel_rfl) (by kernel_rfl) ?_;iterate 19 ((first|(refine GCh.n rfl rfl rfl rfl rfl (by simp) ?_)|(apply GCh.u rfl;(·intro K' a wy ho hd hb hK;simp [rAt,IsV,slot,Region.binds] at ho hd;have kk0:=((bcell ((Below.refl _ wr).drew.trans hb)).1 _ _ hwb.out).trans HK.out; have kk1:=((bcell ((Below.refl _ wr).drew.trans hb)).1 _ _ hbw.out).trans C0.out;go_simp;(try go_bits);exact hK _ _ rfl bQ)));dsimp only [nA,cA])
             intro X wz hR hz;simp only [List.nil_append,List.cons_append,RAll,IsV] at hR;simp only [putsFrom,hR];clear hR;go_simp;refine hK2 _ _ (hJ _ _ ?_);(repeat apply Exists.intro)
             refine ⟨⟨rfl,(Below.refl _ wr).drew.trans hz⟩,rfl⟩
            case rest =>
             obtain ⟨rfl,hb6⟩:=hcut;have HB2:Hid _:=HB.out.trans (hb6.mono HB.out.size);clear hb6 hk;go_wp2_with fail
             go_ret;exact ⟨ret_bool HX.out.symm,HB2.out⟩
          ·have hie:i=p.addrs.length:=by omega
           have HX:Hid (ans=true):=by unfold Hid; rw [HU.out,← hie]; exact HN.out
           go_wp2_with fail
           go_ret;exact ⟨ret_bool HX.out.symm,HB.out⟩
end Go.Proofs.YtdkepkaflielhaaGreatDoor
