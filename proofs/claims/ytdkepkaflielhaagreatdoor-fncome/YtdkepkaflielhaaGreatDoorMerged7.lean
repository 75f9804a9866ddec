import Derived.Test.YtdkepkaflielhaaGreatDoorMerged6
set_option linter.unusedVariables false
set_option linter.unusedSimpArgs false
set_option maxRecDepth 100000
set_option maxHeartbeats 8000000
namespace Go.Proofs.YtdkepkaflielhaaGreatDoor
open Go.RowKit Go.ChangeShapes
theorem nA {α:Type} (l:List α):[]++l=l:=rfl
theorem cA {α:Type} (a:α) (l m:List α):a::l++m=a::(l++m):=rfl
theorem bQ {w:World} {n:Nat}:Below n w w:=Below.refl _ _
section
variable {P:Program} {ops:Array Oper} {Q:Exit→Act→World→Prop} {ds:List Tmp} {a0:Act} {w0:World}
def GU (P:Program) (Q:Exit→Act→World→Prop) (ds:List Tmp) (Rs:List (Value→World→Prop)) (a0:Act) (w0:World) (v:Value) (o:Oper):Prop :=
 ∀ (K':Act→World→Prop) (a:Act) (wy:World),(∀ t,t ∉ ds→slot a t=slot a0 t)→(∀ e∈o.after,Region.binds .any e=true→rAt (Rs++[IsV v]) e.on (slot a (ds.getD e.on 0)) wy) →
  Below w0.heap.size w0 wy→(∀ x wz,x=v→Below wy.heap.size wy wz→K' (a.put o.dst x) wz)→Oper.wp P o a wy K' Q
theorem GU.k {Rs:List (Value→World→Prop)} {v:Value} {o:Oper} {K':Act→World→Prop} {a:Act} {wy:World} (hK:∀ x w',rAt (Rs++[IsV v]) Rs.length x w'→Below wy.heap.size wy w'→K' (a.put o.dst x) w'):∀ x wz,x=v→Below wy.heap.size wy wz→K' (a.put o.dst x) wz :=
 fun x wz hx hz=>hK x wz (by simp [rAt,IsV,hx]) hz
theorem GU.step {Rs:List (Value→World→Prop)} {v:Value} {o:Oper} (hg:o.guard=none) (h:GU P Q ds Rs a0 w0 v o):GStepG P ops Q ds (rAt (Rs++[IsV v])) a0 w0 Rs.length o :=
 GW.step hg fun K' a w ho hd hb hk _=>h K' a w ho hd hb (GU.k hk)
theorem rAt_of {Rs:List (Value→World→Prop)} {r s:Value→World→Prop} {k:Nat} (h:Rs[k]?=some r) (v:Value) (w:World):rAt (Rs++[s]) k v w=r v w:=by
 obtain ⟨hk,_⟩:=List.getElem?_eq_some_iff.1 h;rw [rAt_left hk]; unfold rAt; rw [List.getD_eq_getElem?_getD,h]; rfl
theorem GU.stepG {Rs:List (Value→World→Prop)} {v:Value} {o oj:Oper} {k:Nat} {b want:Bool} (hg:o.guard=some (k,want)) (hk:ops[k]?=some oj) (hj:oj.dst=some (ds.getD k 0)) (hR:Rs[k]?=some (IsV (.bool b))) (hb:(b==want)=true) (hm:⟨k,.guard⟩∈o.after) (h:GU P Q ds Rs a0 w0 v o):GStepG P ops Q ds (rAt (Rs++[IsV v])) a0 w0 Rs.length o:=fun K' a w ho hd hB hK=>by
 have hs:=hd _ hm rfl;rw [rAt_of hR] at hs;exact wants k _ b want hg hk hj hs hb (h K' a w ho hd hB (GU.k hK))
theorem stepN {Rs:List (Value→World→Prop)} {o oj:Oper} {k:Nat} {b want:Bool} (hg:o.guard=some (k,want)) (hk:ops[k]?=some oj) (hj:oj.dst=some (ds.getD k 0)) (hR:Rs[k]?=some (IsV (.bool b))) (hb:(b==want)=false) (hm:⟨k,.guard⟩∈o.after):GStepG P ops Q ds (rAt (Rs++[IsV undef])) a0 w0 Rs.length o:=fun K' a w ho hd hB hK=>by
 have hs:=hd _ hm rfl;rw [rAt_of hR] at hs;exact wantsN k _ b want hg hk hj hs hb (GU.k hK _ _ rfl bQ)
theorem stepM {Rs:List (Value→World→Prop)} {o oj:Oper} {k:Nat} {want:Bool} (hg:o.guard=some (k,want)) (hk:ops[k]?=some oj) (hj:oj.dst=some (ds.getD k 0)) (hR:Rs[k]?=some (IsV undef)) (hm:⟨k,.guard⟩∈o.after):GStepG P ops Q ds (rAt (Rs++[IsV undef])) a0 w0 Rs.length o:=fun K' a w ho hd hB hK=>by
 have hs:=hd _ hm rfl;rw [rAt_of hR] at hs;exact wantsU k _ hg hk hj hs (GU.k hK _ _ rfl bQ)
variable {suf:List Oper} {Rs:List (Value→World→Prop)} {o oj:Oper} {l:List Oper} {v:Value} {k:Nat} {b want:Bool}
theorem GChV.u (hg:o.guard=none) (h1:GU P Q ds Rs a0 w0 v o) (h2:GChV P ops Q ds a0 w0 suf (Rs++[IsV v]) l):GChV P ops Q ds a0 w0 suf Rs (o::l):=⟨IsV v,stable_isV v,h1.step hg,h2⟩
theorem GChV.g (hg:o.guard=some (k,want)) (hk:ops[k]?=some oj) (hj:oj.dst=some (ds.getD k 0)) (hR:Rs[k]?=some (IsV (.bool b))) (hb:(b==want)=true) (hm:⟨k,.guard⟩∈o.after) (h1:GU P Q ds Rs a0 w0 v o) (h2:GChV P ops Q ds a0 w0 suf (Rs++[IsV v]) l):GChV P ops Q ds a0 w0 suf Rs (o::l):=⟨IsV v,stable_isV v,h1.stepG hg hk hj hR hb hm,h2⟩
theorem GChV.n (hg:o.guard=some (k,want)) (hk:ops[k]?=some oj) (hj:oj.dst=some (ds.getD k 0)) (hR:Rs[k]?=some (IsV (.bool b))) (hb:(b==want)=false) (hm:⟨k,.guard⟩∈o.after) (h2:GChV P ops Q ds a0 w0 suf (Rs++[IsV undef]) l):GChV P ops Q ds a0 w0 suf Rs (o::l):=⟨IsV undef,stable_isV _,stepN hg hk hj hR hb hm,h2⟩
theorem GChV.m (hg:o.guard=some (k,want)) (hk:ops[k]?=some oj) (hj:oj.dst=some (ds.getD k 0)) (hR:Rs[k]?=some (IsV undef)) (hm:⟨k,.guard⟩∈o.after) (h2:GChV P ops Q ds a0 w0 suf (Rs++[IsV undef]) l):GChV P ops Q ds a0 w0 suf Rs (o::l):=⟨IsV undef,stable_isV _,stepM hg hk hj hR hm,h2⟩
theorem GCh.u (hg:o.guard=none) (h1:GU P Q ds Rs a0 w0 v o) (h2:GCh P ops Q ds a0 w0 (Rs++[IsV v]) l):GCh P ops Q ds a0 w0 Rs (o::l):=⟨IsV v,stable_isV v,h1.step hg,h2⟩
theorem GCh.g (hg:o.guard=some (k,want)) (hk:ops[k]?=some oj) (hj:oj.dst=some (ds.getD k 0)) (hR:Rs[k]?=some (IsV (.bool b))) (hb:(b==want)=true) (hm:⟨k,.guard⟩∈o.after) (h1:GU P Q ds Rs a0 w0 v o) (h2:GCh P ops Q ds a0 w0 (Rs++[IsV v]) l):GCh P ops Q ds a0 w0 Rs (o::l):=⟨IsV v,stable_isV v,h1.stepG hg hk hj hR hb hm,h2⟩
theorem GCh.n (hg:o.guard=some (k,want)) (hk:ops[k]?=some oj) (hj:oj.dst=some (ds.getD k 0)) (hR:Rs[k]?=some (IsV (.bool b))) (hb:(b==want)=false) (hm:⟨k,.guard⟩∈o.after) (h2:GCh P ops Q ds a0 w0 (Rs++[IsV undef]) l):GCh P ops Q ds a0 w0 Rs (o::l):=⟨IsV undef,stable_isV _,stepN hg hk hj hR hb hm,h2⟩
theorem GCh.m (hg:o.guard=some (k,want)) (hk:ops[k]?=some oj) (hj:oj.dst=some (ds.getD k 0)) (hR:Rs[k]?=some (IsV undef)) (hm:⟨k,.guard⟩∈o.after) (h2:GCh P ops Q ds a0 w0 (Rs++[IsV undef]) l):GCh P ops Q ds a0 w0 Rs (o::l):=⟨IsV undef,stable_isV _,stepM hg hk hj hR hm,h2⟩
end
open Go.PlainAid
theorem SlIs.take {α:Type} {en:α→List Value} {n:Nat} {w:World} {a:Option Addr} {xs:List α} (h:SlIs en n w a xs) (i:Nat):SlIs en n w a (xs.take i):=by
 rcases h with rfl | ⟨b,off,rfl,hb,hat⟩
 ·exact .inl (by simp)
 ·exact .inr ⟨b,off,rfl,hb,fun j hj=>by rw [List.getElem_take]; exact hat j (by simp at hj; omega)⟩
theorem specPool_any (p:Pl) (a:Option Addr) (cap:Nat) (w:World) (hl:p.addrs.length≤1048576) (hcap:p.addrs.length≤cap) (hsz:∀ s∈p.addrs,s.size≤1048576) (hr:SlIs strL1 1 w a p.addrs) :
  Cb 34 #[plC a cap p] w (.bool (poolOk p)):=by
 have hun:undef=Value.tuple #[]:=rfl;have GA:Hid (Below w.heap.size w (w.alloc (.cells (PlV a cap p).toArray 27))):=bR.alloc lR _;have H0:Hid (HoldsL (w.alloc (.cells (PlV a cap p).toArray 27)) w.heap.size (PlV a cap p)):=HoldsL.new w (PlV a cap p) 27;have HM:Hid (∀ W,Cw 40 #[iV p.most,iV 1,iV 60] W (.bool (isIn p.most 1 60))):=fun W=>specIs_any _ _ _ W
 have HF:Hid (∀ W,Cw 40 #[iV p.filter,iV 0,iV 2] W (.bool (isIn p.filter 0 2))):=fun W=>specIs_any _ _ _ W
 have HL:Hid (∀ W,Cb 67 #[lvC p.lv] W (.bool (livesOk p.lv))):=fun W=>specLives_any p.lv W
 have HV:Hid (poolOk p=(decide (1≤p.addrs.length)&&decide (p.addrs.length≤8)&&decide (1≤p.low)&&decide (p.low≤p.high)&&decide (p.high≤65535)&&isIn p.most 1 60&&isIn p.filter 0 2&&livesOk p.lv&&upN addrOne p.addrs p.addrs.length)):=rfl;generalize poolOk p=ans at *;generalize isIn p.most 1 60=bm at *;generalize isIn p.filter 0 2=bf at *;generalize livesOk p.lv=bl at *;have HR:Hid (SlIs strL1 1 w a p.addrs):=hr;have HZ:Hid (∀ s∈p.addrs,s.size≤1048576):=hsz;clear hr hsz;unfold plC;unfold lvC at HL;by_cases h1:p.addrs.length < 1
 ·have HX:Hid (ans=false):=by
    unfold Hid; rw [HV.out,show decide (1≤p.addrs.length)=false from decide_eq_false (by omega)];simp
  have h1':(p.addrs.length:Int) < 1:=by omega
  go_enter Tryz.func34,Tryz.ntmps34
  go_wp2_with fail
  go_ret;exact ⟨ret_bool HX.out.symm,GA.out⟩
 ·rw [show decide (1≤p.addrs.length)=true from decide_eq_true (by omega)] at HV;have h1n:¬ (p.addrs.length:Int) < 1:=by omega
  by_cases h2:8 < p.addrs.length
  ·have HX:Hid (ans=false):=by
     unfold Hid; rw [HV.out,show decide (p.addrs.length≤8)=false from decide_eq_false (by omega)];simp
   have h2':(8:Int) < (p.addrs.length:Int):=by omega
   go_enter Tryz.func34,Tryz.ntmps34
   go_wp2_with fail
   go_ret;exact ⟨ret_bool HX.out.symm,GA.out⟩
  ·rw [show decide (p.addrs.length≤8)=true from decide_eq_true (by omega)] at HV;have h2n:¬ (8:Int) < (p.addrs.length:Int):=by omega
   by_cases h3:p.low < 1
   ·have HX:Hid (ans=false):=by
      unfold Hid; rw [HV.out,show decide (1≤p.low)=false from decide_eq_false (by omega)];simp
    have h3':p.low < 1:=by omega
    go_enter Tryz.func34,Tryz.ntmps34
    go_wp2_with fail
    go_ret;exact ⟨ret_bool HX.out.symm,GA.out⟩
   ·rw [show decide (1≤p.low)=true from decide_eq_true (by omega)] at HV;have h3n:¬ p.low < 1:=by omega
    by_cases h4:p.high < p.low
    ·have HX:Hid (ans=false):=by
       unfold Hid; rw [HV.out,show decide (p.low≤p.high)=false from decide_eq_false (by omega)];simp
     have h4':p.high < p.low:=by omega
     go_enter Tryz.func34,Tryz.ntmps34
     go_wp2_with fail
     go_ret;exact ⟨ret_bool HX.out.symm,GA.out⟩
    ·rw [show decide (p.low≤p.high)=true from decide_eq_true (by omega)] at HV;have h4n:¬ p.high < p.low:=by omega
     by_cases h5:65535 < p.high
     ·have HX:Hid (ans=false):=by
        unfold Hid; rw [HV.out,show decide (p.high≤65535)=false from decide_eq_false (by omega)];simp
      have h5':65535 < p.high:=by omega
      go_enter Tryz.func34,Tryz.ntmps34
      go_wp2_with fail
      go_ret;exact ⟨ret_bool HX.out.symm,GA.out⟩
     ·rw [show decide (p.high≤65535)=true from decide_eq_true (by omega)] at HV;have h5n:¬ 65535 < p.high:=by omega
      cases bm with
      | false =>
       have HX:Hid (ans=false):=by unfold Hid; rw [HV.out]; simp
       go_enter Tryz.func34,Tryz.ntmps34
       go_wp2_with (go_at_call 40; refine (HM.out _).mono ?_; rintro e w1 ⟨rfl,rfl⟩)
       go_ret;exact ⟨ret_bool HX.out.symm,GA.out⟩
      | true =>
       cases bf with
       | false =>
        have HX:Hid (ans=false):=by unfold Hid; rw [HV.out]; simp
        go_enter Tryz.func34,Tryz.ntmps34
        go_wp2_with fail
        refine (HM.out _).mono ?_;rintro e w1 ⟨rfl,rfl⟩;go_wp2_with fail
        refine (HF.out _).mono ?_;rintro e w1 ⟨rfl,rfl⟩;go_wp2_with fail
        go_ret;exact ⟨ret_bool HX.out.symm,GA.out⟩
       | true =>
        go_enter Tryz.func34,Tryz.ntmps34
        go_wp2_with fail
        refine (HM.out _).mono ?_;rintro e w1 ⟨rfl,rfl⟩;go_wp2_with fail
        refine (HF.out _).mono ?_;rintro e w1 ⟨rfl,rfl⟩;go_wp2_with fail
        refine (HL.out _).mono ?_;rintro e w1 ⟨rfl,q1⟩;have G1:Hid _:=GA.out.trans (q1.mono GA.out.size);have K1:=H0.out.kept (by simp) q1;have k0:=K1.cell (j:=0) rfl;have KB:Hid (w.heap.size < w1.heap.size):=K1.lt (by simp);have HK1:Hid _:=K1;clear q1 K1 H0 GA HM HF HL
        cases bl with
        | false =>
         have HX:Hid (ans=false):=by unfold Hid; rw [HV.out]; simp
         go_wp2_with fail
         go_ret;exact ⟨ret_bool HX.out.symm,G1.out⟩
        | true =>
         have HU:Hid (ans=upN addrOne p.addrs p.addrs.length):=by unfold Hid; rw [HV.out]; simp
         clear HV;go_wp2_with fail
         go_loopw [3] (fun iv wr=>∃ i:Nat,i≤p.addrs.length∧iv=iV i∧upN addrOne p.addrs i=true∧wr.cell? ⟨w.heap.size,0,none⟩=some (.slice a p.addrs.length cap)∧Below w.heap.size w wr) (fun iv _=>p.addrs.length-(intOf iv).toNat)
         case atStart=>exact ⟨0,Nat.zero_le _,rfl,rfl,k0,G1.out⟩
         case round =>
          obtain ⟨i,hi,rfl,hn,hk,hbel⟩:=hrel;have HN:Hid (upN addrOne p.addrs i=true):=hn;have HB:Hid (Below w.heap.size w wr):=hbel;have HK:Hid (wr.cell? ⟨w.heap.size,0,none⟩=some (.slice a p.addrs.length cap)):=hk;clear hn hbel k0;by_cases hlt:i < p.addrs.length
          ·obtain ⟨b,off,rfl,hb,hat⟩:=HR.out.at hlt;have HA:=(hat.below hb HB.out) i hlt;have HST:Hid _:=upN_step (f:=addrOne) hlt;have hsi:=HZ.out p.addrs[i] (List.getElem_mem hlt);have HATF:Hid (addrOne (p.addrs.take i) p.addrs[i]=false→upN addrOne p.addrs p.addrs.length=false):=upN_at hlt;obtain ⟨s,hs⟩ : ∃ s,s=p.addrs[i]:=⟨_,rfl⟩;rw [← hs] at HA HST HATF hsi;have c0:wr.cell? ⟨b,off+i,none⟩=some (.string s):=by have:=HA 0 _ rfl; simpa using this
           have C0:Hid (wr.cell? ⟨b,off+i,none⟩=some (.string s)):=c0;have hbw:Hid (b < wr.heap.size):=World.block_lt_of_cell? wr _ c0;have hwb:Hid (w.heap.size < wr.heap.size):=World.block_lt_of_cell? wr _ hk;have HIN:Hid (∀ W,Below wr.heap.size wr W→Cb 68 #[.slice (some ⟨b,off,none⟩) i cap,.string s] W (.bool (inL (p.addrs.take i) s))):=fun W hW=>by
            have:=spIn_any (p.addrs.take i) s (some ⟨b,off,none⟩) cap W (by simp; omega) (((HR.out.take i).below HB.out).below hW);rw [List.length_take_of_le (by omega)] at this;exact this
           have hic:(i:Int)≤(cap:Int):=by omega
           have hlt':(i:Int) < (p.addrs.length:Int):=by omega
           clear hat HA hs c0 hun;by_cases h4:s.size=4
           ·have hd:((s.size:Int) != 4)=false:=by rw [h4]; rfl
            have hd2:decide ((s.size:Int)=4)=true:=by rw [h4]; rfl
            generalize hin:inL (p.addrs.take i) s=bi at *;go_upto_region 6 with fail
            go_cut [74] (fun v wx=>v=.bool bi∧Below wr.heap.size wr wx)
            case first =>
             rename_i J K2 hJ hK2;refine wp_region_growH [56,57,58,59,60,61,62,63,64,65,66,67,68,69,70,71,72,73,74] (by kernel_rfl) (by kernel_rfl) ?_;iterate 19 ((first|apply GCh.u rfl|apply GCh.g rfl rfl rfl rfl rfl (by simp));(·intro K' a wy ho hd hb hK;simp [rAt,IsV,slot,Region.binds] at ho hd;have kk0:=((bcell ((Below.refl _ wr).drew.trans hb)).1 _ _ hwb.out).trans HK.out; have kk1:=((bcell ((Below.refl _ wr).drew.trans hb)).1 _ _ hbw.out).trans C0.out;go_simp;first|((try go_bits);exact hK _ _ rfl bQ)|(refine (HIN.out wy ((Below.refl _ wr).drew.trans hb)).mono ?_;rintro e wz ⟨rfl,hz⟩;exact hK _ _ rfl hz));dsimp only [nA,cA])
             intro X wz hR hz;simp only [List.nil_append,List.cons_append,RAll,IsV] at hR;simp only [putsFrom,hR];clear hR;go_simp;refine hK2 _ _ (hJ _ _ ?_);(repeat apply Exists.intro)
             refine ⟨⟨rfl,(Below.refl _ wr).drew.trans hz⟩,rfl⟩
            case rest =>
             obtain ⟨rfl,hb6⟩:=hcut;have HB2:Hid _:=HB.out.trans (hb6.mono HB.out.size);have hk2:wc.cell? ⟨w.heap.size,0,none⟩=some (.slice (some ⟨b,off,none⟩) p.addrs.length cap):=((bcell hb6).1 _ _ hwb.out).trans HK.out;have HK2:Hid _:=hk2;clear hk2 hb6 hk
             cases bi with
             | true =>
              have HX:Hid (ans=false):=by
               unfold Hid; rw [HU.out]; refine HATF.out ?_;unfold addrOne; rw [hin]; simp
              go_wp2_with fail
              go_ret;exact ⟨ret_bool HX.out.symm,HB2.out⟩
             | false =>
              have HN2:Hid (upN addrOne p.addrs (i+1)=true):=by
               unfold Hid; rw [HST.out,HN.out]; unfold addrOne; rw [hin,h4]; rfl
              go_wp2_with fail
              go_roundw
              case rel=>exact ⟨i+1,by omega,by go_num,HN2.out,HK2.out,HB2.out⟩
              case measure=>simp [intOf]; omega
           ·have hd:((s.size:Int) != 4)=true:=by simp; omega
            have hd2:decide ((s.size:Int)=4)=false:=by simp; omega
            have HX:Hid (ans=false):=by
             unfold Hid; rw [HU.out]; refine HATF.out ?_;unfold addrOne; rw [decide_eq_false h4]; rfl
            go_upto_region 6 with fail
            go_cut [74] (fun v wx=>v=.bool true∧Below wr.heap.size wr wx)
            case first =>
             rename_i J K2 hJ hK2;refine wp_region_growH [56,57,58,59,60,61,62,63,64,65,66,67,68,69,70,71,72,73,74] (by kernel_rfl) (by kernel_rfl) ?_;iterate 19 ((first|(refine GCh.n rfl rfl rfl rfl rfl (by simp) ?_)|(apply GCh.u rfl;(·intro K' a wy ho hd hb hK;simp [rAt,IsV,slot,Region.binds] at ho hd;have kk0:=((bcell ((Below.refl _ wr).drew.trans hb)).1 _ _ hwb.out).trans HK.out; have kk1:=((bcell ((Below.refl _ wr).drew.trans hb)).1 _ _ hbw.out).trans C0.out;go_simp;(try go_bits);exact hK _ _ rfl bQ)));dsimp only [nA,cA])
             intro X wz hR hz;simp only [List.nil_append,List.cons_append,RAll,IsV] at hR;simp only [putsFrom,hR];clear hR;go_simp;refine hK2 _ _ (hJ _ _ ?_);(repeat apply Exists.intro)
             refine ⟨⟨rfl,(Below.refl _ wr).drew.trans hz⟩,rfl⟩
            case rest =>
             obtain ⟨rfl,hb6⟩:=hcut;have HB2:Hid _:=HB.out.trans (hb6.mono HB.out.size);clear hb6 hk;go_wp2_with fail
             go_ret;exact ⟨ret_bool HX.out.symm,HB2.out⟩
          ·have hie:i=p.addrs.length:=by omega
           have HX:Hid (ans=true):=by unfold Hid; rw [HU.out,← hie]; exact HN.out
           go_wp2_with fail
           go_ret;exact ⟨ret_bool HX.out.symm,HB.out⟩
open Go.WideShapes
theorem Tryz.infoBd:(Tryz.prog.info? 48).map (fun i=>(i.zero,i.size,i.bytes))=some (some (.agg (BdR 0 ⟨#[]⟩ 0 ⟨#[]⟩ 0).toArray),5,56):=by kernel_rfl
def bindM (k:Nat):List Value:=(BdR ((k:Nat):Int) (markV (k+1)) ((k+2:Nat):Int) (markV (k+3)) ((k+4:Nat):Int))
theorem beq_yes {a b:List UInt8} (h:a=b):(a==b)=true:=by simp [h]
theorem beq_no {a b:List UInt8} (h:¬ a=b):(a==b)=false:=by simp [h]
theorem spBinds_any (p:Pl) (xs:List Bd) (a:Option Addr) (cap:Nat) (b:Option Addr) (capb:Nat) (w:World) (hl:p.addrs.length≤1048576) (hlx:xs.length≤1048576) (hr:SlIs strL1 1 w a p.addrs) (hx:SlIs bdL 5 w b xs) :
  Cb 35 #[plC a cap p,.slice b xs.length capb] w (.bool (upN (bindOne p) xs xs.length)):=by
 have GA:Hid (Below w.heap.size w (w.alloc (.cells (PlV a cap p).toArray 27))):=bR.alloc lR _;have H0:Hid (HoldsL (w.alloc (.cells (PlV a cap p).toArray 27)) w.heap.size (PlV a cap p)):=HoldsL.new w (PlV a cap p) 27;have HV:Hid (upN (bindOne p) xs xs.length=upN (bindOne p) xs xs.length):=rfl;obtain ⟨ans,hans⟩ : ∃ x,x=upN (bindOne p) xs xs.length:=⟨_,rfl⟩;rw [← hans];have HA:Hid (ans=upN (bindOne p) xs xs.length):=hans;have HR:Hid (SlIs strL1 1 w a p.addrs):=hr;have HX:Hid (SlIs bdL 5 w b xs):=hx;clear hr hx hans HV;unfold plC;go_enter Tryz.func35,Tryz.ntmps35
 go_wp2_with fail
 go_loopw [5] (fun iv wr=>∃ i:Nat,i≤xs.length∧iv=iV i∧upN (bindOne p) xs i=true∧HoldsL wr w.heap.size (PlV a cap p)∧Below w.heap.size w wr) (fun iv _=>xs.length-(intOf iv).toNat)
 case atStart=>exact ⟨0,Nat.zero_le _,rfl,rfl,H0.out,GA.out⟩
 case round =>
  obtain ⟨i,hi,rfl,hn,hk,hbel⟩:=hrel;have HN:Hid (upN (bindOne p) xs i=true):=hn;have HB:Hid (Below w.heap.size w wr):=hbel;have HK:Hid (HoldsL wr w.heap.size (PlV a cap p)):=hk;have hwb:w.heap.size < wr.heap.size:=hk.lt (by simp);clear hn hbel hk H0 GA;generalize wr=w0 at *;by_cases hlt:i < xs.length
  ·obtain ⟨bb,off,rfl,hb,hat⟩:=HX.out.at hlt;have hA:=(hat.below hb HB.out) i hlt;have HAT:Hid (∀ k,(hk:k < xs.length)→∀ W,Below w.heap.size w W→W.rangeAt bb (off+k*5) (bdL xs[k])):=fun k hk W hW=>(hat.below hb hW) k hk
   have HST:Hid _:=upN_step (f:=bindOne p) hlt;have HATF:Hid (bindOne p (xs.take i) xs[i]=false→upN (bindOne p) xs xs.length=false):=upN_at hlt;obtain ⟨q,hq⟩ : ∃ q,q=xs[i]:=⟨_,rfl⟩;rw [← hq] at hA HST HATF;obtain ⟨c0,c1,c2,c3,c4⟩:=rc5 hA;have HOV:Hid (bindOne p (xs.take i) q=(protoB q.proto&&addrOk q.inn&&isW q.inPort&&inL p.addrs q.out&&isIn q.outPort p.low p.high&&!(xs.take i).any fun c=>clashB c q)):=rfl;have B4:Hid (Below w0.heap.size w0 (w0.alloc (.cells (BdV q).toArray 48))):=bR.alloc lR _;have Y4:Hid (HoldsL (w0.alloc (.cells (BdV q).toArray 48)) w0.heap.size (bdL q)):=HoldsL.new w0 (bdL q) 48;clear hat hA hq;go_upto_region 5 with fail
   have H5:Hid _:=HB.out.trans (B4.out.mono HB.out.size);have K5:Hid _:=HK.out.kept (by simp) B4.out;have hY:w0.heap.size < (w0.alloc (.cells (BdV q).toArray 48)).heap.size:=by simp
   generalize (w0.alloc (.cells (BdV q).toArray 48))=W4 at *;have HP:Hid (∀ W,Cw 69 #[iV q.proto] W (.bool (protoB q.proto))):=fun W=>spBProto_any _ W
   have HAD:Hid (∀ W,Cw 65 #[.string q.inn] W (.bool (addrOk q.inn))):=fun W=>specAddrRight_any _ W
   have HWD:Hid (∀ W,Cw 39 #[iV q.inPort] W (.bool (isW q.inPort))):=fun W=>specWordIs_any _ W
   have HIN:Hid (∀ W,Below w.heap.size w W→Cb 68 #[.slice a p.addrs.length cap,.string q.out] W (.bool (inL p.addrs q.out))):=fun W hW=>spIn_any p.addrs q.out a cap W hl (HR.out.below hW)
   have HIS:Hid (∀ W,Cw 40 #[iV q.outPort,iV p.low,iV p.high] W (.bool (isIn q.outPort p.low p.high))):=fun W=>specIs_any _ _ _ W
   generalize protoB q.proto=b1 at *;generalize addrOk q.inn=b2 at *;generalize isW q.inPort=b3 at *;generalize inL p.addrs q.out=b4 at *;generalize isIn q.outPort p.low p.high=b5 at *;obtain ⟨y0,y1,y2,y3⟩:=Y4.out.c4;have z0:=K5.out.cell (j:=0) rfl;have hun:undef=Value.tuple #[]:=rfl;clear c0 c1 c2 c3 c4
   cases b1 with
   | false =>
    have HXF:Hid (ans=false):=by unfold Hid; rw [HA.out]; refine HATF.out ?_; rw [HOV.out]; simp
    go_wp2_with fail
    refine (HP.out _).mono ?_;rintro e w1 ⟨rfl,rfl⟩;go_wp2_with fail
    go_ret;exact ⟨ret_bool HXF.out.symm,H5.out⟩
   | true =>
    go_wp2_with fail
    refine (HP.out _).mono ?_;rintro e w1 ⟨rfl,rfl⟩
    cases b2 with
    | false =>
     have HXF:Hid (ans=false):=by unfold Hid; rw [HA.out]; refine HATF.out ?_; rw [HOV.out]; simp
     go_wp2_with fail
     refine (HAD.out _).mono ?_;rintro e w1 ⟨rfl,rfl⟩;go_wp2_with fail
     go_ret;exact ⟨ret_bool HXF.out.symm,H5.out⟩
    | true =>
     go_wp2_with fail
     refine (HAD.out _).mono ?_;rintro e w1 ⟨rfl,rfl⟩
     cases b3 with
     | false =>
      have HXF:Hid (ans=false):=by unfold Hid; rw [HA.out]; refine HATF.out ?_; rw [HOV.out]; simp
      go_wp2_with fail
      refine (HWD.out _).mono ?_;rintro e w1 ⟨rfl,rfl⟩;go_wp2_with fail
      go_ret;exact ⟨ret_bool HXF.out.symm,H5.out⟩
     | true =>
      go_wp2_with fail
      refine (HWD.out _).mono ?_;rintro e w1 ⟨rfl,rfl⟩;go_wp2_with fail
      refine (HIN.out _ H5.out).mono ?_;rintro e w2 ⟨rfl,q2⟩;have H6:Hid _:=H5.out.trans (q2.mono H5.out.size);have K6:Hid _:=K5.out.kept (by simp) q2;have Y6:Hid _:=Y4.out.kept (by simp [bdL]) q2;have y4:=Y6.out.cell (j:=4) rfl;obtain ⟨-,z1,z2⟩:=K6.out.c3;have hY2:w0.heap.size < w2.heap.size:=by have:=q2.size; omega
      clear q2 y0 y1 y2 y3 z0 H5 K5 Y4 B4
      cases b4 with
      | false =>
       have HXF:Hid (ans=false):=by unfold Hid; rw [HA.out]; refine HATF.out ?_; rw [HOV.out]; simp
       go_wp2_with fail
       go_ret;exact ⟨ret_bool HXF.out.symm,H6.out⟩
      | true =>
       cases b5 with
       | false =>
        have HXF:Hid (ans=false):=by unfold Hid; rw [HA.out]; refine HATF.out ?_; rw [HOV.out]; simp
        go_wp2_with fail
        refine (HIS.out _).mono ?_;rintro e w1 ⟨rfl,rfl⟩;go_wp2_with fail
        go_ret;exact ⟨ret_bool HXF.out.symm,H6.out⟩
       | true =>
        go_wp2_with fail
        refine (HIS.out _).mono ?_;rintro e w1 ⟨rfl,rfl⟩;have HOV2:Hid (bindOne p (xs.take i) q=!(xs.take i).any fun c=>clashB c q):=by unfold Hid; rw [HOV.out]; simp
        clear y4 z1 z2 HOV HP HAD HWD HIN HIS;go_wp2_with fail
        go_loopw [7] (fun kv wr=>∃ k:Nat,k≤i∧kv=iV k∧((xs.take k).any fun c=>clashB c q)=false∧HoldsL wr w.heap.size (PlV a cap p)∧HoldsL wr w0.heap.size (bdL q)∧Below w.heap.size w wr) (fun kv _=>i-(intOf kv).toNat)
        case atStart=>exact ⟨0,Nat.zero_le _,rfl,rfl,K6.out,Y6.out,H6.out⟩
        case round =>
         obtain ⟨k,hk,rfl,hn,hK,hY,hbel⟩:=hrel;have HNk:Hid (((xs.take k).any fun c=>clashB c q)=false):=hn;have HBk:Hid (Below w.heap.size w wr):=hbel;have HKk:Hid _:=hK;have HYk:Hid _:=hY;have hYl:w0.heap.size < wr.heap.size:=hY.lt (by simp [bdL]);clear hn hbel hK hY K6 Y6 H6;by_cases hkl:k < i
         ·have hkx:k < xs.length:=by omega
          have hA:=HAT.out k hkx wr HBk.out;have HSTk:Hid _:=any_take (fun c=>clashB c q) xs k hkx;have HYES:Hid (clashB xs[k] q=true→bindOne p (xs.take i) q=false):=fun h=>by
           rw [HOV2.out,any_at (fun c=>clashB c q) (xs.take i) k (by simp; omega) (by rw [List.getElem_take]; exact h)]; rfl
          obtain ⟨c,hc⟩ : ∃ c,c=xs[k]:=⟨_,rfl⟩;rw [← hc] at hA HSTk HYES;obtain ⟨c0,c1,c2,c3,c4⟩:=rc5 hA;have B5:Hid (Below wr.heap.size wr (wr.alloc (.cells (BdV c).toArray 48))):=bR.alloc lR _;have Z5:Hid (HoldsL (wr.alloc (.cells (BdV c).toArray 48)) wr.heap.size (bdL c)):=HoldsL.new wr (bdL c) 48;clear hA hc;go_upto_region 11 with fail
          have HB5:Hid _:=HBk.out.trans (B5.out.mono HBk.out.size);have HK5:Hid _:=HKk.out.kept (by simp) B5.out;have HY5:Hid _:=HYk.out.kept (by simp [bdL]) B5.out;generalize (wr.alloc (.cells (BdV c).toArray 48))=W5 at *;obtain ⟨y0,y1,y2,y3,y4⟩:=HY5.out.c5;obtain ⟨x0,x1,x2,x3,x4⟩:=Z5.out.c5;have HCV:Hid (clashB c q=((decide (c.inn.toList=q.inn.toList)&&!decide (c.out.toList=q.out.toList))||(decide (c.proto=q.proto)&&((decide (c.inn.toList=q.inn.toList)&&decide (c.inPort=q.inPort))||(decide (c.out.toList=q.out.toList)&&decide (c.outPort=q.outPort)))))):=rfl;clear c0 c1 c2 c3 c4 B5 Z5 HBk HKk HYk;go_cut [108] (fun v wx=>v=.bool (clashB c q)∧wx=W5)
          case first =>
           by_cases e1:c.inn.toList=q.inn.toList
           ·by_cases e2:c.out.toList=q.out.toList
            ·by_cases e3:c.proto=q.proto
             ·by_cases e4:c.inPort=q.inPort
              ·have HCW:Hid (clashB c q=true):=by unfold Hid; rw [HCV.out]; simp [e1,e2,e3,e4]
               have f1:=beq_yes e1;have f2:=beq_yes e2;go_wp2_with fail
               all_goals go_meet
               all_goals exact ⟨by rw [HCW.out]; try simp [e1,e2,e3,e4],rfl⟩
              ·by_cases e5:c.outPort=q.outPort
               ·have HCW:Hid (clashB c q=true):=by unfold Hid; rw [HCV.out]; simp [e1,e2,e3,e4,e5]
                have f1:=beq_yes e1;have f2:=beq_yes e2;go_wp2_with fail
                all_goals go_meet
                all_goals exact ⟨by rw [HCW.out]; try simp [e1,e2,e3,e4,e5],rfl⟩
               ·have HCW:Hid (clashB c q=false):=by unfold Hid; rw [HCV.out]; simp [e1,e2,e3,e4,e5]
                have f1:=beq_yes e1;have f2:=beq_yes e2;go_wp2_with fail
                all_goals go_meet
                all_goals exact ⟨by rw [HCW.out]; try simp [e1,e2,e3,e4,e5],rfl⟩
             ·have HCW:Hid (clashB c q=false):=by unfold Hid; rw [HCV.out]; simp [e1,e2,e3]
              have f1:=beq_yes e1;have f2:=beq_yes e2;go_wp2_with fail
              all_goals go_meet
              all_goals exact ⟨by rw [HCW.out]; try simp [e1,e2,e3],rfl⟩
            ·have HCW:Hid (clashB c q=true):=by unfold Hid; rw [HCV.out]; simp [e1,e2]
             have f1:=beq_yes e1;have f2:=beq_no e2;go_wp2_with fail
             all_goals go_meet
             all_goals exact ⟨by rw [HCW.out]; try simp [e1,e2],rfl⟩
           ·by_cases e3:c.proto=q.proto
            ·by_cases e2:c.out.toList=q.out.toList
             ·by_cases e5:c.outPort=q.outPort
              ·have HCW:Hid (clashB c q=true):=by unfold Hid; rw [HCV.out]; simp [e1,e3,e2,e5]
               have f1:=beq_no e1;have f2:=beq_yes e2;go_wp2_with fail
               all_goals go_meet
               all_goals exact ⟨by rw [HCW.out]; try simp [e1,e3,e2,e5],rfl⟩
              ·have HCW:Hid (clashB c q=false):=by unfold Hid; rw [HCV.out]; simp [e1,e3,e2,e5]
               have f1:=beq_no e1;have f2:=beq_yes e2;go_wp2_with fail
               all_goals go_meet
               all_goals exact ⟨by rw [HCW.out]; try simp [e1,e3,e2,e5],rfl⟩
             ·have HCW:Hid (clashB c q=false):=by unfold Hid; rw [HCV.out]; simp [e1,e3,e2]
              have f1:=beq_no e1;have f2:=beq_no e2;go_wp2_with fail
              all_goals go_meet
              all_goals exact ⟨by rw [HCW.out]; try simp [e1,e3,e2],rfl⟩
            ·have HCW:Hid (clashB c q=false):=by unfold Hid; rw [HCV.out]; simp [e1,e3]
             have f1:=beq_no e1;go_wp2_with fail
             all_goals go_meet
             all_goals exact ⟨by rw [HCW.out]; try simp [e1,e3],rfl⟩
          case rest =>
           obtain ⟨rfl,rfl⟩:=hcut
           cases hcl:clashB c q with
           | true =>
            have HXF:Hid (ans=false):=by unfold Hid; rw [HA.out]; exact HATF.out (HYES.out hcl)
            clear hcl;go_wp2_with fail
            go_ret;exact ⟨ret_bool HXF.out.symm,HB5.out⟩
           | false =>
            have HN2:Hid (((xs.take (k+1)).any fun c=>clashB c q)=false):=by unfold Hid; rw [HSTk.out,HNk.out,hcl]; rfl
            clear hcl;go_wp2_with fail
            go_roundw
            case rel=>exact ⟨k+1,by omega,by go_num,HN2.out,HK5.out,HY5.out,HB5.out⟩
            case measure=>simp [intOf]; omega
         ·have hke:k=i:=by omega
          have HN2:Hid (upN (bindOne p) xs (i+1)=true):=by
           unfold Hid; rw [HST.out,HN.out,HOV2.out,← hke,HNk.out]; rfl
          go_wp2_with fail
          go_roundw
          case rel =>
           (repeat apply Exists.intro)
           exact ⟨⟨i+1,by omega,by go_num,HN2.out,HKk.out,HBk.out⟩,rfl⟩
          case measure=>simp [intOf]; omega
  ·have hie:i=xs.length:=by omega
   have HXT:Hid (ans=true):=by unfold Hid; rw [HA.out,← hie]; exact HN.out
   go_wp2_with fail
   go_ret;exact ⟨ret_bool HXT.out.symm,HB.out⟩
theorem Tryz.infoSs:(Tryz.prog.info? 59).map (fun i=>(i.zero,i.size,i.bytes))=some (some (.agg (SsR 0 ⟨#[]⟩ 0 ⟨#[]⟩ 0 0 0).toArray),7,72):=by kernel_rfl
def sessionM (k:Nat):List Value:=(SsR ((k:Nat):Int) (markV (k+1)) ((k+2:Nat):Int) (markV (k+3)) ((k+4:Nat):Int) ((k+5:Nat):Int) ((k+6:Nat):Int))
structure BbIs (w:World) (a b:Option Addr) (x:Bb):Prop where
 bd:SlIs bdL 5 w a x.binds
 ss:SlIs ssL 7 w b x.sess
theorem BbIs.below {w W:World} {a b:Option Addr} {x:Bb} (h:BbIs w a b x) (hB:Below w.heap.size w W):BbIs W a b x:=⟨h.bd.below hB,h.ss.below hB⟩
structure BbOwn (base:Nat) (w:World) (a b:Option Addr) (x:Bb):Prop where
 bd:SlOwn bdL 5 base w a x.binds
 ss:SlOwn ssL 7 base w b x.sess
 ne:∀ g h,a=some ⟨g,0,none⟩→b=some ⟨h,0,none⟩→x.binds≠[]→x.sess≠[]→g≠h
theorem BbOwn.is {base:Nat} {w:World} {a b:Option Addr} {x:Bb} (h:BbOwn base w a b x):BbIs w a b x:=⟨h.bd.is,h.ss.is⟩
theorem BbOwn.kept {base:Nat} {w W:World} {a b:Option Addr} {x:Bb} (h:BbOwn base w a b x) (hB:Below w.heap.size w W):BbOwn base W a b x:=⟨h.bd.kept hB,h.ss.kept hB,h.ne⟩
theorem spSess_any (x:Bb) (a b:Option Addr) (ca cb:Nat) (w:World) (hl1:x.binds.length≤1048576) (hl2:x.sess.length≤1048576) (hr:BbIs w a b x) :
  Cb 36 #[bbC a b ca cb x] w (.bool (upN (sessOne x.binds) x.sess x.sess.length)):=by
 have GA:Hid (Below w.heap.size w (w.alloc (.cells (BbV a ca b cb x).toArray 31))):=bR.alloc lR _;have H0:Hid (HoldsL (w.alloc (.cells (BbV a ca b cb x).toArray 31)) w.heap.size (BbV a ca b cb x)):=HoldsL.new w (BbV a ca b cb x) 31;obtain ⟨ans,hans⟩ : ∃ y,y=upN (sessOne x.binds) x.sess x.sess.length:=⟨_,rfl⟩;rw [← hans];have HA:Hid (ans=upN (sessOne x.binds) x.sess x.sess.length):=hans;have HR:Hid (BbIs w a b x):=hr;clear hr hans;unfold bbC;go_enter Tryz.func36,Tryz.ntmps36
 go_wp2_with fail
 go_loopw [3] (fun iv wr=>∃ i:Nat,i≤x.sess.length∧iv=iV i∧upN (sessOne x.binds) x.sess i=true∧HoldsL wr w.heap.size (BbV a ca b cb x)∧Below w.heap.size w wr) (fun iv _=>x.sess.length-(intOf iv).toNat)
 case atStart=>exact ⟨0,Nat.zero_le _,rfl,rfl,H0.out,GA.out⟩
 case round =>
  obtain ⟨i,hi,rfl,hn,hk,hbel⟩:=hrel;have HN:Hid (upN (sessOne x.binds) x.sess i=true):=hn;have HB:Hid (Below w.heap.size w wr):=hbel;have HK:Hid (HoldsL wr w.heap.size (BbV a ca b cb x)):=hk;have hwb:w.heap.size < wr.heap.size:=hk.lt (by simp);have z1:=hk.cell (j:=1) rfl;clear hn hbel hk H0 GA;generalize wr=w0 at *;by_cases hlt:i < x.sess.length
  ·obtain ⟨bb,off,rfl,hb,hat⟩:=HR.out.ss.at hlt;have hA:=(hat.below hb HB.out) i hlt;have HAT:Hid (∀ k,(hk:k < x.sess.length)→∀ W,Below w.heap.size w W→W.rangeAt bb (off+k*7) (ssL x.sess[k])):=fun k hk W hW=>(hat.below hb hW) k hk
   have HST:Hid _:=upN_step (f:=sessOne x.binds) hlt;have HATF:Hid (sessOne x.binds (x.sess.take i) x.sess[i]=false→upN (sessOne x.binds) x.sess x.sess.length=false):=upN_at hlt;obtain ⟨q,hq⟩ : ∃ q,q=x.sess[i]:=⟨_,rfl⟩;rw [← hq] at hA HST HATF;obtain ⟨c0,c1,c2,c3,c4,c5,c6⟩:=rc7 hA;have HOV:Hid (sessOne x.binds (x.sess.take i) q=(decide (q.peer.size=4)&&isW q.peerPort&&isIn q.state 1 7&&(decide (q.proto=6)||decide (q.state=3))&&isIn q.untl 0 2000000000&&decide (0≤findI (ofIn q.proto q.inn q.inPort) x.binds)&&!(x.sess.take i).any fun t=>sameS q t)):=rfl;have B4:Hid (Below w0.heap.size w0 (w0.alloc (.cells (SsV q).toArray 59))):=bR.alloc lR _;have Y4:Hid (HoldsL (w0.alloc (.cells (SsV q).toArray 59)) w0.heap.size (ssL q)):=HoldsL.new w0 (ssL q) 59;clear hat hA hq;go_upto_region 5 with fail
   have H5:Hid _:=HB.out.trans (B4.out.mono HB.out.size);have K5:Hid _:=HK.out.kept (by simp) B4.out;have hY:w0.heap.size < (w0.alloc (.cells (SsV q).toArray 59)).heap.size:=by simp
   generalize (w0.alloc (.cells (SsV q).toArray 59))=W4 at *;have HWD:Hid (∀ W,Cw 39 #[iV q.peerPort] W (.bool (isW q.peerPort))):=fun W=>specWordIs_any _ W
   have HS1:Hid (∀ W,Cw 40 #[iV q.state,iV 1,iV 7] W (.bool (isIn q.state 1 7))):=fun W=>specIs_any _ _ _ W
   have HS2:Hid (∀ W,Cw 40 #[iV q.untl,iV 0,iV 2000000000] W (.bool (isIn q.untl 0 2000000000))):=fun W=>specIs_any _ _ _ W
   have HBI:Hid (∀ W,Below w.heap.size w W→Cb 33 #[.agg (BbV a ca (some ⟨bb,off,none⟩) cb x).toArray,iV q.proto,.string q.inn,iV q.inPort] W (iV (findI (ofIn q.proto q.inn q.inPort) x.binds))):=fun W hW=>spBind_any x.binds q.proto q.inn q.inPort a ca _ W hl1 (HR.out.bd.below hW)
   generalize isW q.peerPort=b2 at *;generalize isIn q.state 1 7=b3 at *;generalize isIn q.untl 0 2000000000=b5 at *;generalize findI (ofIn q.proto q.inn q.inPort) x.binds=fi at *;obtain ⟨y0,y1,y2,y3,y4,y5,y6⟩:=Y4.out.c7;obtain ⟨z0,z1⟩:=K5.out.c2;have hun:undef=Value.tuple #[]:=rfl;clear c0 c1 c2 c3 c4 c5 c6;obtain ⟨r5,hr5⟩ : ∃ r,r=(decide (q.peer.size=4)&&b2&&b3&&(decide (q.proto=6)||decide (q.state=3))&&b5):=⟨_,rfl⟩;have HRV:Hid (r5=_):=hr5;rw [← hr5] at HOV;clear hr5;go_cut [50] (fun v wx=>v=.bool (!r5)∧wx=W4)
   case first =>
    by_cases h4:q.peer.size=4
    ·have h4i:(q.peer.size:Int)=4:=by omega
     have d1:((q.peer.size:Int) != 4)=false:=by simp [h4i]
     cases b2 with
     | false =>
      go_wp2_with fail
      refine (HWD.out _).mono ?_;rintro e w1 ⟨rfl,rfl⟩;go_wp2_with fail
      go_meet;exact ⟨by rw [HRV.out]; simp,rfl⟩
     | true =>
      go_wp2_with fail
      refine (HWD.out _).mono ?_;rintro e w1 ⟨rfl,rfl⟩
      cases b3 with
      | false =>
       go_wp2_with fail
       refine (HS1.out _).mono ?_;rintro e w1 ⟨rfl,rfl⟩;go_wp2_with fail
       go_meet;exact ⟨by rw [HRV.out]; simp,rfl⟩
      | true =>
       go_wp2_with fail
       refine (HS1.out _).mono ?_;rintro e w1 ⟨rfl,rfl⟩;by_cases h6:q.proto=6<;>by_cases h3:q.state=3
       all_goals first | (have hno:¬ q.proto=6∧¬ q.state=3:=⟨h6,h3⟩; go_wp2_with fail; go_meet; exact ⟨by rw [HRV.out]; simp [h6,h3],rfl⟩) | skip
       all_goals
        cases b5 with
        | false =>
         go_wp2_with fail
         refine (HS2.out _).mono ?_;rintro e w1 ⟨rfl,rfl⟩;go_wp2_with fail
         go_meet;exact ⟨by rw [HRV.out]; simp [h6,h3],rfl⟩
        | true =>
         go_wp2_with fail
         refine (HS2.out _).mono ?_;rintro e w1 ⟨rfl,rfl⟩;go_wp2_with fail
         go_meet;exact ⟨by rw [HRV.out]; simp [h6,h3,h4],rfl⟩
    ·have h4i:¬ (q.peer.size:Int)=4:=by omega
     have d1:((q.peer.size:Int) != 4)=true:=by simp [h4i]
     go_wp2_with fail
     go_meet;exact ⟨by rw [HRV.out]; simp [h4],rfl⟩
   case rest =>
   obtain ⟨rfl,rfl⟩:=hcut
   cases r5 with
   | false =>
    have HXF:Hid (ans=false):=by unfold Hid; rw [HA.out]; refine HATF.out ?_; rw [HOV.out]; rfl
    go_wp2_with fail
    go_ret;exact ⟨ret_bool HXF.out.symm,H5.out⟩
   | true =>
    go_wp2_with fail
    refine (HBI.out _ H5.out).mono ?_;rintro e w2 ⟨rfl,q2⟩;have H6:Hid _:=H5.out.trans (q2.mono H5.out.size);have K6:Hid _:=K5.out.kept (by simp) q2;have Y6:Hid _:=Y4.out.kept (by simp [ssL]) q2;have hY2:w0.heap.size < w2.heap.size:=by have:=q2.size; omega
    clear q2 z0 z1 H5 K5 Y4 B4 y0 y1 y2 y3 y4 y5 y6;by_cases hfi:fi < 0
    ·have HXF:Hid (ans=false):=by unfold Hid; rw [HA.out]; refine HATF.out ?_; rw [HOV.out,decide_eq_false (show ¬ 0≤fi by omega)]; rfl
     go_wp2_with fail
     go_ret;exact ⟨ret_bool HXF.out.symm,H6.out⟩
    ·rw [decide_eq_true (show 0≤fi by omega)] at HOV;have HOV2:Hid (sessOne x.binds (x.sess.take i) q=!(x.sess.take i).any fun t=>sameS q t):=by unfold Hid; rw [HOV.out]; rfl
     clear HOV HWD HS1 HS2 HBI HRV;go_wp2_with fail
     go_loopw [5] (fun kv wr=>∃ k:Nat,k≤i∧kv=iV k∧((x.sess.take k).any fun t=>sameS q t)=false∧HoldsL wr w.heap.size (BbV a ca (some ⟨bb,off,none⟩) cb x)∧HoldsL wr w0.heap.size (ssL q)∧Below w.heap.size w wr) (fun kv _=>i-(intOf kv).toNat)
     case atStart=>exact ⟨0,Nat.zero_le _,rfl,rfl,K6.out,Y6.out,H6.out⟩
     case round =>
      obtain ⟨k,hk,rfl,hn,hK,hY,hbel⟩:=hrel;have HNk:Hid (((x.sess.take k).any fun t=>sameS q t)=false):=hn;have HBk:Hid (Below w.heap.size w wr):=hbel;have HKk:Hid _:=hK;have HYk:Hid _:=hY;have hYl:w0.heap.size < wr.heap.size:=hY.lt (by simp [ssL]);have z1:=hK.cell (j:=1) rfl;clear hn hbel hK hY K6 Y6 H6;by_cases hkl:k < i
      ·have hkx:k < x.sess.length:=by omega
       have hkx':(k:Int) < (x.sess.length:Int):=by omega
       have hA:=HAT.out k hkx wr HBk.out;have HSTk:Hid _:=any_take (fun t=>sameS q t) x.sess k hkx;have HYES:Hid (sameS q x.sess[k]=true→sessOne x.binds (x.sess.take i) q=false):=fun h=>by
        rw [HOV2.out,any_at (fun t=>sameS q t) (x.sess.take i) k (by simp; omega) (by rw [List.getElem_take]; exact h)]; rfl
       obtain ⟨c,hc⟩ : ∃ c,c=x.sess[k]:=⟨_,rfl⟩;rw [← hc] at hA HSTk HYES;obtain ⟨c0,c1,c2,c3,c4,c5,c6⟩:=rc7 hA;have B5:Hid (Below wr.heap.size wr (wr.alloc (.cells (SsV c).toArray 59))):=bR.alloc lR _;have Z5:Hid (HoldsL (wr.alloc (.cells (SsV c).toArray 59)) wr.heap.size (ssL c)):=HoldsL.new wr (ssL c) 59;clear hA hc;go_upto_region 13 with fail
       have HB5:Hid _:=HBk.out.trans (B5.out.mono HBk.out.size);have HK5:Hid _:=HKk.out.kept (by simp) B5.out;have HY5:Hid _:=HYk.out.kept (by simp [ssL]) B5.out;generalize (wr.alloc (.cells (SsV c).toArray 59))=W5 at *;obtain ⟨y0,y1,y2,y3,y4,y5,y6⟩:=HY5.out.c7;obtain ⟨x0,x1,x2,x3,x4,x5,x6⟩:=Z5.out.c7;have HCV:Hid (sameS q c=(decide (q.proto=c.proto)&&decide (q.inn.toList=c.inn.toList)&&decide (q.inPort=c.inPort)&&decide (q.peer.toList=c.peer.toList)&&decide (q.peerPort=c.peerPort))):=rfl;clear c0 c1 c2 c3 c4 c5 c6 B5 Z5 HBk HKk HYk z1;go_cut [102] (fun v wx=>v=.bool (sameS q c)∧wx=W5)
       case first =>
        by_cases e1:q.proto=c.proto
        ·by_cases e2:q.inn.toList=c.inn.toList
         ·by_cases e3:q.inPort=c.inPort
          ·by_cases e4:q.peer.toList=c.peer.toList
           ·by_cases e5:q.peerPort=c.peerPort
            ·have HCW:Hid (sameS q c=true):=by unfold Hid; rw [HCV.out]; simp [e1,e2,e3,e4,e5]
             have f2:=beq_yes e2;have f4:=beq_yes e4;go_wp2_with fail
             all_goals go_meet
             all_goals exact ⟨by rw [HCW.out]; try simp [e1,e2,e3,e4,e5],rfl⟩
            ·have HCW:Hid (sameS q c=false):=by unfold Hid; rw [HCV.out]; simp [e1,e2,e3,e4,e5]
             have f2:=beq_yes e2;have f4:=beq_yes e4;have f5:(q.peerPort==c.peerPort)=false:=by simp [e5]
             go_wp2_with fail
             all_goals go_meet
             all_goals exact ⟨by rw [HCW.out]; try simp [e1,e2,e3,e4,e5],rfl⟩
           ·have HCW:Hid (sameS q c=false):=by unfold Hid; rw [HCV.out]; simp [e1,e2,e3,e4]
            have f2:=beq_yes e2;have f4:=beq_no e4;go_wp2_with fail
            all_goals go_meet
            all_goals exact ⟨by rw [HCW.out]; try simp [e1,e2,e3,e4],rfl⟩
          ·have HCW:Hid (sameS q c=false):=by unfold Hid; rw [HCV.out]; simp [e1,e2,e3]
           have f2:=beq_yes e2;have f3:(q.inPort==c.inPort)=false:=by simp [e3]
           go_wp2_with fail
           all_goals go_meet
           all_goals exact ⟨by rw [HCW.out]; try simp [e1,e2,e3],rfl⟩
         ·have HCW:Hid (sameS q c=false):=by unfold Hid; rw [HCV.out]; simp [e1,e2]
          have f2:=beq_no e2;go_wp2_with fail
          all_goals go_meet
          all_goals exact ⟨by rw [HCW.out]; try simp [e1,e2],rfl⟩
        ·have HCW:Hid (sameS q c=false):=by unfold Hid; rw [HCV.out]; simp [e1]
         have f1:(q.proto==c.proto)=false:=by simp [e1]
         go_wp2_with fail
         all_goals go_meet
         all_goals exact ⟨by rw [HCW.out]; try simp [e1],rfl⟩
       case rest =>
        obtain ⟨rfl,rfl⟩:=hcut
        cases hcl:sameS q c with
        | true =>
         have HXF:Hid (ans=false):=by unfold Hid; rw [HA.out]; exact HATF.out (HYES.out hcl)
         clear hcl;go_wp2_with fail
         go_ret;exact ⟨ret_bool HXF.out.symm,HB5.out⟩
        | false =>
         have HN2:Hid (((x.sess.take (k+1)).any fun t=>sameS q t)=false):=by unfold Hid; rw [HSTk.out,HNk.out,hcl]; rfl
         clear hcl;go_wp2_with fail
         go_roundw
         case rel=>exact ⟨k+1,by omega,by go_num,HN2.out,HK5.out,HY5.out,HB5.out⟩
         case measure=>simp [intOf]; omega
      ·have hke:k=i:=by omega
       have HN2:Hid (upN (sessOne x.binds) x.sess (i+1)=true):=by
        unfold Hid; rw [HST.out,HN.out,HOV2.out,← hke,HNk.out]; rfl
       go_wp2_with fail
       go_roundw
       case rel=>exact ⟨i+1,by omega,by go_num,HN2.out,HKk.out,HBk.out⟩
       case measure=>simp [intOf]; omega
  ·have hie:i=x.sess.length:=by omega
   have HXT:Hid (ans=true):=by unfold Hid; rw [HA.out,← hie]; exact HN.out
   go_wp2_with fail
   go_ret;exact ⟨ret_bool HXT.out.symm,HB.out⟩
theorem all_take {α:Type} (f:α→Bool) (xs:List α) (i:Nat) (h:i < xs.length):(xs.take (i+1)).all f=((xs.take i).all f&&f xs[i]):=by
 rw [List.take_succ_eq_append_getElem h,List.all_append]; simp
theorem all_no {α:Type} (f:α→Bool) (xs:List α) (i:Nat) (h:i < xs.length) (hf:f xs[i]=false):xs.all f=false:=by
 rw [List.all_eq_false]; exact ⟨_,List.getElem_mem h,by simp [hf]⟩
theorem specBib_any (p:Pl) (x:Bb) (pa:Option Addr) (pc:Nat) (a b:Option Addr) (ca cb:Nat) (w:World) (hlp:p.addrs.length≤1048576) (hpc:p.addrs.length≤pc) (hsz:∀ s∈p.addrs,s.size≤1048576) (hl1:x.binds.length≤1048576) (hl2:x.sess.length≤1048576) (hp:SlIs strL1 1 w pa p.addrs) (hr:BbIs w a b x) :
  Cb 13 #[plC pa pc p,bbC a b ca cb x] w (.bool (bibOk p x)):=by
 have HB:Hid (Below w.heap.size w ((aW w (PlV pa pc p) 27).alloc (.cells (BbV a ca b cb x).toArray 31))):=(bR.alloc lR _).alloc (by simp) _;have H0:=(HoldsL.new w (PlV pa pc p) 27).alloc (.cells (BbV a ca b cb x).toArray 31);have H1:=HoldsL.new (w.alloc (.cells (PlV pa pc p).toArray 27)) (BbV a ca b cb x) 31;rw [World.size_alloc] at H1;have hs2:((aW w (PlV pa pc p) 27).alloc (.cells (BbV a ca b cb x).toArray 31)).heap.size=w.heap.size+1+1:=by simp
 have HP:Hid (∀ W,Below w.heap.size w W→Cb 34 #[plC pa pc p] W (.bool (poolOk p))):=fun W hW=>specPool_any p pa pc W hlp hpc hsz (hp.below hW)
 have HBD:Hid (∀ W,Below w.heap.size w W→Cb 35 #[plC pa pc p,.slice a x.binds.length ca] W (.bool (upN (bindOne p) x.binds x.binds.length))):=fun W hW=>spBinds_any p x.binds pa pc a ca W hlp hl1 (hp.below hW) (hr.bd.below hW)
 have HSS:Hid (∀ W,Below w.heap.size w W→Cb 36 #[bbC a b ca cb x] W (.bool (upN (sessOne x.binds) x.sess x.sess.length))):=fun W hW=>spSess_any x a b ca cb W hl1 hl2 (hr.below hW)
 have HV:Hid (bibOk p x=(poolOk p&&decide ((x.sess.length:Int)≤p.most)&&decide (x.binds.length≤60)&&upN (bindOne p) x.binds x.binds.length&&upN (sessOne x.binds) x.sess x.sess.length&&x.binds.all fun y=>x.sess.any fun s=>hasS y s)):=rfl;generalize bibOk p x=ans at *;generalize poolOk p=b1 at *;generalize upN (bindOne p) x.binds x.binds.length=b4 at *;generalize upN (sessOne x.binds) x.sess x.sess.length=b5 at *;have G0:Hid _:=H0;have G1:Hid _:=H1;have HR:Hid (BbIs w a b x):=hr;unfold plC at HP HBD ⊢;unfold bbC at HSS ⊢;clear hp hr H0 H1;go_enter Tryz.func13,Tryz.ntmps13
 go_upto_region 1 with fail
 generalize World.alloc _ _=W2 at *;obtain ⟨r1,hr1⟩ : ∃ r,r=(b1&&decide ((x.sess.length:Int)≤p.most)&&decide (x.binds.length≤60)&&b4&&b5):=⟨_,rfl⟩;have HRV:Hid (r1=_):=hr1;rw [← hr1] at HV;clear hr1;go_cut [36] (fun v wx=>v=.bool (!r1)∧Below W2.heap.size W2 wx)
 case first =>
  have hun:undef=Value.tuple #[]:=rfl;obtain ⟨z0,z1,z2,z3,z4,z5,z6,z7,z8,z9⟩:=G0.out.c10;go_wp2_with fail
  refine (HP.out _ HB.out).mono ?_;rintro e w1 ⟨rfl,q1⟩;have Q1:Hid (Below W2.heap.size W2 w1):=q1;have B1:Hid _:=HB.out.trans (q1.mono HB.out.size);have K0:=G0.out.kept (by simp) q1;have K1:=G1.out.kept (by simp) q1;clear q1 z0 z1 z2 z3 z4 z5 z6 z7 z8 z9;obtain ⟨y0,y1,y2,y3,y4,y5,y6,y7,y8,y9⟩:=K0.c10;obtain ⟨k0,k1⟩:=K1.c2;clear K0 K1
  cases b1 with
  | false =>
   go_wp2_with fail
   go_meet;exact ⟨by rw [HRV.out]; simp,Q1.out⟩
  | true =>
   by_cases h2:p.most < (x.sess.length:Int)
   ·go_wp2_with fail
    go_meet;exact ⟨by rw [HRV.out,decide_eq_false (show ¬ (x.sess.length:Int)≤p.most by omega)]; simp,Q1.out⟩
   ·by_cases h3:60 < x.binds.length
    ·have h3':(60:Int) < (x.binds.length:Int):=by omega
     go_wp2_with fail
     go_meet;exact ⟨by rw [HRV.out,decide_eq_false (show ¬ x.binds.length≤60 by omega)]; simp,Q1.out⟩
    ·have h3':¬ (60:Int) < (x.binds.length:Int):=by omega
     rw [decide_eq_true (show (x.sess.length:Int)≤p.most by omega),decide_eq_true (show x.binds.length≤60 by omega)] at HRV;go_wp2_with fail
     refine (HBD.out _ B1.out).mono ?_;rintro e w2 ⟨rfl,q2⟩;have Q2:Hid _:=Q1.out.trans (q2.mono Q1.out.size);have B2:Hid _:=B1.out.trans (q2.mono B1.out.size);have K1:=G1.out.kept (by simp) Q2.out;clear q2 k0 k1 y0 y1 y2 y3 y4 y5 y6 y7 y8 y9;obtain ⟨k0,k1⟩:=K1.c2;clear K1
     cases b4 with
     | false =>
      go_wp2_with fail
      go_meet;exact ⟨by rw [HRV.out]; simp<;>omega,Q2.out⟩
     | true =>
      go_wp2_with fail
      refine (HSS.out _ B2.out).mono ?_;rintro e w3 ⟨rfl,q3⟩;have Q3:Hid _:=Q2.out.trans (q3.mono Q2.out.size);clear q3 k0 k1
      cases b5;all_goals
       go_wp2_with fail
       go_meet;exact ⟨by rw [HRV.out]; simp<;>omega,Q3.out⟩
 case rest =>
  obtain ⟨rfl,hQ⟩:=hcut;have B3:Hid _:=HB.out.trans (hQ.mono HB.out.size);have K3:Hid _:=G1.out.kept (by simp) hQ;clear hQ HP HBD HSS G0 G1 HRV HB hs2
  cases r1 with
  | false =>
   have HX:Hid (ans=false):=by unfold Hid; rw [HV.out]; rfl
   go_wp2_with fail
   go_ret;exact ⟨ret_bool HX.out.symm,B3.out⟩
  | true =>
   have HU:Hid (ans=x.binds.all fun y=>x.sess.any fun s=>hasS y s):=by unfold Hid; rw [HV.out]; rfl
   clear HV;generalize wc=w9 at *;go_wp2_with fail
   go_loopw [5] (fun iv wr=>∃ i:Nat,i≤x.binds.length∧iv=iV i∧((x.binds.take i).all fun y=>x.sess.any fun s=>hasS y s)=true∧HoldsL wr (w.heap.size+1) (BbV a ca b cb x)∧Below w.heap.size w wr) (fun iv _=>x.binds.length-(intOf iv).toNat)
   case atStart=>exact ⟨0,Nat.zero_le _,rfl,rfl,K3.out,B3.out⟩
   case round =>
    obtain ⟨i,hi,rfl,hn,hk,hbel⟩:=hrel;have HN:Hid (((x.binds.take i).all fun y=>x.sess.any fun s=>hasS y s)=true):=hn;have HBi:Hid (Below w.heap.size w wr):=hbel;have HKi:Hid _:=hk;have z0:=hk.cell (j:=0) rfl;clear hn hbel hk K3 B3;generalize wr=w0 at *;by_cases hlt:i < x.binds.length
    ·obtain ⟨ba,oa,rfl,hba,hata⟩:=HR.out.bd.at hlt;have HATA:Hid (∀ W,Below w.heap.size w W→W.rangeAt ba (oa+i*5) (bdL x.binds[i])):=fun W hW=>(hata.below hba hW) i hlt
     have HST:Hid _:=all_take (fun y=>x.sess.any fun s=>hasS y s) x.binds i hlt;have HNO:Hid _:=all_no (fun y=>x.sess.any fun s=>hasS y s) x.binds i hlt;obtain ⟨y,hy⟩ : ∃ y,y=x.binds[i]:=⟨_,rfl⟩;rw [← hy] at HATA HST HNO;clear hata hba hy;go_wp2_with fail
     go_loopw [6,7] (fun hv kv wr=>∃ k:Nat,k≤x.sess.length∧kv=iV k∧hv=.bool ((x.sess.take k).any fun s=>hasS y s)∧HoldsL wr (w.heap.size+1) (BbV (some ⟨ba,oa,none⟩) ca b cb x)∧Below w.heap.size w wr) (fun _ kv _=>x.sess.length-(intOf kv).toNat)
     case atStart=>exact ⟨0,Nat.zero_le _,rfl,rfl,HKi.out,HBi.out⟩
     case round =>
      obtain ⟨k,hk,rfl,rfl,hK,hbel⟩:=hrel;have HBk:Hid (Below w.heap.size w wr):=hbel;have HKk:Hid _:=hK;have z1:=hK.cell (j:=1) rfl;have hbx:Hid (w.heap.size+1 < wr.heap.size):=hK.lt (by simp);clear hbel hK z0;by_cases hkl:k < x.sess.length
      ·obtain ⟨bs,os,rfl,hbs,hats⟩:=HR.out.ss.at hkl;have HATS:Hid (∀ W,Below w.heap.size w W→W.rangeAt bs (os+k*7) (ssL x.sess[k])):=fun W hW=>(hats.below hbs hW) k hkl
       have HSK:Hid _:=any_take (fun s=>hasS y s) x.sess k hkl;obtain ⟨s,hs⟩ : ∃ s,s=x.sess[k]:=⟨_,rfl⟩;rw [← hs] at HATS HSK;have HHS:Hid (∀ W,Cb 37 #[bdC y,ssC s] W (.bool (hasS y s))):=fun W=>spHas_any y s W
       have hltI:(i:Int) < (x.binds.length:Int):=by omega
       have hklI:(k:Int) < (x.sess.length:Int):=by omega
       generalize (x.sess.take k).any (fun s=>hasS y s)=hb0 at *;unfold bdC ssC at HHS;clear hats hbs hs;go_upto_region 10 with fail
       cases hb0 with
       | false =>
        refine wp_region_growV [51,52,53,54,55,56,57,58,59,60,61,62,63,64] (by kernel_rfl) (by kernel_rfl) ?_;iterate 14 ((first|apply GChV.u rfl|apply GChV.g rfl rfl rfl rfl rfl (by simp));(·intro K' a wy ho hd hb hK;simp [rAt,IsV,slot,Region.binds] at ho hd;have hbw:=HBk.out.drew.trans (hb.mono HBk.out.drew.size); have kx:=(HKk.out.drew.kept (by simp) hb); have kC:=kx.c2; have ra:=HATA.out wy hbw; have rs:=HATS.out wy hbw; obtain ⟨a0,a1,a2,a3,a4⟩:=rc5 ra; obtain ⟨s0,s1,s2,s3,s4,s5,s6⟩:=rc7 rs; clear ra rs kx hbw;go_simp;first|((try go_bits);exact hK _ _ rfl bQ)|(refine (HHS.out wy).mono ?_;rintro e wz ⟨rfl,hz⟩;exact hK _ _ rfl hz));dsimp only [nA,cA])
        intro X wz hR hz;simp only [List.nil_append,List.cons_append,RAll,IsV] at hR;simp only [putsFrom,hR];clear hR;simp only [List.length_cons,List.length_nil,List.drop_succ_cons,List.drop_zero,Nat.zero_add,Nat.reduceAdd];intro K9 hK9;go_simp;refine hK9 _ _ ?_;have hb6:Below wr.heap.size wr wz:=(Below.refl _ wr).drew.trans hz;have HB2:Hid _:=HBk.out.trans (hb6.mono HBk.out.size);have HK2:Hid _:=HKk.out.kept (by simp) hb6;clear hb6 hz z1;simp only [wpSeq];go_wp2_with fail
        go_roundw
        case rel =>
         (repeat apply Exists.intro)
         exact ⟨⟨k+1,by omega,by go_num,by rw [HSK.out]; rfl,HK2.out,HB2.out⟩,rfl⟩
        case measure=>simp [intOf]; omega
       | true =>
        refine wp_region_growV [51,52,53,54,55,56,57,58,59,60,61,62,63,64] (by kernel_rfl) (by kernel_rfl) ?_;iterate 14 ((first|(refine GChV.n rfl rfl rfl rfl rfl (by simp) ?_)|(apply GChV.u rfl;(·intro K' a wy ho hd hb hK;simp [rAt,IsV,slot,Region.binds] at ho hd;go_simp;(try go_bits);exact hK _ _ rfl bQ)));dsimp only [nA,cA])
        intro X wz hR hz;simp only [List.nil_append,List.cons_append,RAll,IsV] at hR;simp only [putsFrom,hR];clear hR;simp only [List.length_cons,List.length_nil,List.drop_succ_cons,List.drop_zero,Nat.zero_add,Nat.reduceAdd];intro K9 hK9;go_simp;refine hK9 _ _ ?_;have hb6:Below wr.heap.size wr wz:=(Below.refl _ wr).drew.trans hz;have HB2:Hid _:=HBk.out.trans (hb6.mono HBk.out.size);have HK2:Hid _:=HKk.out.kept (by simp) hb6;clear hb6 hz z1;simp only [wpSeq];go_wp2_with fail
        go_roundw
        case rel =>
         (repeat apply Exists.intro)
         exact ⟨⟨k+1,by omega,by go_num,by rw [HSK.out]; rfl,HK2.out,HB2.out⟩,rfl⟩
        case measure=>simp [intOf]; omega
      ·have hke:k=x.sess.length:=by omega
       rw [hke,List.take_length]
       cases hh:x.sess.any (fun s=>hasS y s) with
       | false =>
        have HX:Hid (ans=false):=by unfold Hid; rw [HU.out]; exact HNO.out hh
        clear hh;go_wp2_with fail
        go_ret;exact ⟨ret_bool HX.out.symm,HBk.out⟩
       | true =>
        have HN2:Hid (((x.binds.take (i+1)).all fun y=>x.sess.any fun s=>hasS y s)=true):=by unfold Hid; rw [HST.out,HN.out,hh]; rfl
        clear hh;go_wp2_with fail
        go_roundw
        case rel=>exact ⟨i+1,by omega,by go_num,HN2.out,HKk.out,HBk.out⟩
        case measure=>simp [intOf]; omega
    ·have hie:i=x.binds.length:=by omega
     have HX:Hid (ans=true):=by unfold Hid; rw [HU.out]; have:=HN.out; rw [hie,List.take_length] at this; exact this
     go_wp2_with fail
     go_ret;exact ⟨ret_bool HX.out.symm,HBi.out⟩
end Go.Proofs.YtdkepkaflielhaaGreatDoor
