import Derived.Test.YthagnjokdnnmpaaGreatSMeet
import Derived.Test.YthagnjokdnnmpaaGreatLawPieceS
import Derived.Deep.DeepCutAuto
set_option linter.unusedVariables false
set_option linter.unusedSimpArgs false
set_option maxRecDepth 100000
set_option maxHeartbeats 8000000
namespace Go.Proofs.YthagnjokdnnmpaaGreat
open Go.RowKit Go.PlainAid
def PcsIn (xs:List Pc):Prop:=xs.length≤1048576∧∀ q∈xs,PcSm q
theorem allN_step {xs:List Pc} {k:Nat} (h:k < xs.length):allN xs (k+1)=(allN xs k&&(pieceOk xs[k]&&!hitN xs xs[k] k)):=by
 show (allN xs k&&_)=_;rw [List.getElem?_eq_getElem h]
theorem hitN_step {xs:List Pc} {p:Pc} {k:Nat} (h:k < xs.length):hitN xs p (k+1)=(hitN xs p k||hitPc p xs[k]):=by
 show (hitN xs p k||_)=_;rw [List.getElem?_eq_getElem h]
theorem allN_no {xs:List Pc}:∀ {n m:Nat},n≤m→allN xs n=false→allN xs m=false
 | n,0,h,hf=>by
   obtain rfl:n=0:=by omega
   exact hf
 | n,m+1,h,hf=>by
  by_cases e:n=m+1
  ·subst e; exact hf
  ·have:=allN_no (m:=m) (by omega) hf;show (allN xs m&&_)=false;rw [this]; rfl
theorem hitN_yes {xs:List Pc} {p:Pc}:∀ {n m:Nat},n≤m→hitN xs p n=true→hitN xs p m=true
 | n,0,h,hf=>by
   obtain rfl:n=0:=by omega
   exact hf
 | n,m+1,h,hf=>by
  by_cases e:n=m+1
  ·subst e; exact hf
  ·have:=hitN_yes (m:=m) (by omega) hf;show (hitN xs p m||_)=true;rw [this]; rfl
theorem allN_ok {xs:List Pc}:∀ {n:Nat},allN xs n=true→∀ j (h:j < xs.length),j < n→pieceOk xs[j]=true
 | 0,_,j,_,hj=>by omega
 | n+1,hn,j,h,hj=>by
  by_cases hl:n < xs.length
  ·rw [allN_step hl,Bool.and_eq_true,Bool.and_eq_true] at hn;by_cases e:j=n
   ·subst e; exact hn.2.1
   ·exact allN_ok hn.1 j h (by omega)
  ·have:allN xs n=true:=by
    have h2:allN xs (n+1)=(allN xs n&&true):=by
     show (allN xs n&&_)=_;rw [List.getElem?_eq_none (by omega)]
    rw [h2,Bool.and_true] at hn; exact hn
   exact allN_ok this j h (by omega)
theorem pieceOk_off {p:Pc} (h:pieceOk p=true):0≤p.off∧p.off≤8191:=by
 unfold pieceOk at h;simp only [Bool.and_eq_true] at h;exact isIn_parts h.1.1.1.1.1.2
theorem spAll_any (xs:List Pc) (a:Option Addr) (cap:Nat) (w:World) (hin:PcsIn xs) (hr:SlIs pcL 8 w a xs) :
  Calls Tryz.prog 116 #[.slice a xs.length cap] w fun e w'=>e=.returned (.bool (allPc xs))∧Below w.heap.size w w':=by
 have hlen:=hin.1;have HI:Hid (PcsIn xs):=hin;have HR:Hid (SlIs pcL 8 w a xs):=hr;have HV:Hid (allPc xs=allN xs xs.length):=rfl;generalize allPc xs=ans at *;clear hin hr;go_enter Tryz.func116,Tryz.ntmps116
 go_wp2_with fail
 go_loopw [3] (fun iv wr=>∃ i:Nat,i≤xs.length∧iv=.int .i64 i∧allN xs i=true∧Below w.heap.size w wr) (fun iv _=>xs.length-(intOf iv).toNat)
 case atStart=>exact ⟨0,Nat.zero_le _,rfl,rfl,Below.refl _ _⟩
 case round =>
  obtain ⟨i,hi,rfl,hn,hbel⟩:=hrel;have HN:Hid (allN xs i=true):=hn;have HL:Hid (Below w.heap.size w wr):=hbel;clear hn hbel;by_cases hlt:i < xs.length
  ·obtain ⟨b,off,rfl,hb,hat⟩:=HR.out.at hlt;have HAT:Hid (SlAt pcL 8 w b off xs):=hat;have hA:=(hat.below hb HL.out) i hlt;have hsm:=HI.out.2 xs[i] (List.getElem_mem hlt);have hst:=allN_step hlt;obtain ⟨p,hp⟩ : ∃ p,p=xs[i]:=⟨_,rfl⟩;rw [← hp] at hA hsm hst;have HP:Hid (p=xs[i]):=hp;have HST:Hid _:=hst;have HC:Hid (∀ W,Calls Tryz.prog 144 #[pcC p] W fun e w'=>e=.returned (.bool (pieceOk p))∧Below W.heap.size W w'):=fun W=>specPieceRight_any p W hsm.1 hsm.2.1 hsm.2.2
   have c0:wr.cell? ⟨b,off+i*8,none⟩=some (.string p.src):=hA 0 _ rfl;have c1:wr.cell? ⟨b,off+i*8+1,none⟩=some (.string p.dst):=hA 1 _ rfl;have c2:wr.cell? ⟨b,off+i*8+2,none⟩=some (.int .i64 p.proto):=hA 2 _ rfl;have c3:wr.cell? ⟨b,off+i*8+3,none⟩=some (.int .i64 p.id):=hA 3 _ rfl;have c4:wr.cell? ⟨b,off+i*8+4,none⟩=some (.int .i64 p.off):=hA 4 _ rfl;have c5:wr.cell? ⟨b,off+i*8+5,none⟩=some (.bool p.more):=hA 5 _ rfl;have c6:wr.cell? ⟨b,off+i*8+6,none⟩=some (.string p.data):=hA 6 _ rfl;have c7:wr.cell? ⟨b,off+i*8+7,none⟩=some (.int .i64 p.since):=hA 7 _ rfl;clear hat hA hst hp;unfold pcC at HC
   cases hok:pieceOk p with
   | false =>
    have HX:Hid (ans=false):=by
     unfold Hid;rw [HV.out];exact allN_no (show i+1≤xs.length from hlt) (by rw [HST.out,hok]; simp)
    rw [hok] at HC;go_wp2_with fail
    refine (HC.out _).mono ?_;rintro e w1 ⟨rfl,q1⟩;have HL1:Hid (Below w.heap.size w w1):=HL.out.trans (q1.mono HL.out.size);clear q1;go_wp2_with fail
    go_ret;exact ⟨ret_bool HX.out.symm,HL1.out⟩
   | true =>
    have hoff:=pieceOk_off hok;rw [hok] at HC HST;have HOK:Hid (pieceOk p=true):=hok;clear hok;go_wp2_with fail
    refine (HC.out _).mono ?_;rintro e w1 ⟨rfl,q1⟩;have HL1:Hid (Below w.heap.size w w1):=HL.out.trans (q1.mono HL.out.size);clear q1 c0 c1 c2 c3 c4 c5 c6 c7 HL;go_wp2_with fail
    generalize wr=wr0 at *;go_loopw [4] (fun kv wr=>∃ k:Nat,k≤i∧kv=.int .i64 k∧hitN xs p k=false∧Below w.heap.size w wr) (fun kv _=>i-(intOf kv).toNat)
    case atStart=>exact ⟨0,Nat.zero_le _,rfl,rfl,HL1.out⟩
    case round =>
     obtain ⟨k,hk,rfl,hh,hbel⟩:=hrel;have HH:Hid (hitN xs p k=false):=hh;have HL2:Hid (Below w.heap.size w wr):=hbel;clear hh hbel HL1;by_cases hkl:k < i
     ·have hk2:k < xs.length:=by omega
      have hA:=(HAT.out.below hb HL2.out) i hlt;have hB:=(HAT.out.below hb HL2.out) k hk2;have hbr:b < wr.heap.size:=Nat.lt_of_lt_of_le hb HL2.out.size;have hsk:=HI.out.2 xs[k] (List.getElem_mem hk2);have hok:=allN_ok HN.out k hk2 hkl;have hstk:=hitN_step (p:=p) hk2;obtain ⟨q,hq⟩ : ∃ q,q=xs[k]:=⟨_,rfl⟩;rw [← HP.out] at hA;rw [← hq] at hB hsk hok hstk;have HSK:Hid _:=hstk;have hoq:=pieceOk_off hok;have HCI:Hid (∀ wy,Below wr.heap.size wr wy→wy.cell? ⟨b,off+i*8,none⟩=some (.string p.src)∧wy.cell? ⟨b,off+i*8+1,none⟩=some (.string p.dst)∧wy.cell? ⟨b,off+i*8+2,none⟩=some (.int .i64 p.proto)∧wy.cell? ⟨b,off+i*8+3,none⟩=some (.int .i64 p.id)∧wy.cell? ⟨b,off+i*8+4,none⟩=some (.int .i64 p.off)∧wy.cell? ⟨b,off+i*8+5,none⟩=some (.bool p.more)∧wy.cell? ⟨b,off+i*8+6,none⟩=some (.string p.data)∧wy.cell? ⟨b,off+i*8+7,none⟩=some (.int .i64 p.since)):=fun wy hy=>by
       have h2:wy.rangeAt b (off+i*8) (pcL p):=fun j v hv=>((bcell hy).1 b _ hbr).trans (hA j v hv)
       exact ⟨h2 0 _ rfl,h2 1 _ rfl,h2 2 _ rfl,h2 3 _ rfl,h2 4 _ rfl,h2 5 _ rfl,h2 6 _ rfl,h2 7 _ rfl⟩
      have HCK:Hid (∀ wy,Below wr.heap.size wr wy→wy.cell? ⟨b,off+k*8,none⟩=some (.string q.src)∧wy.cell? ⟨b,off+k*8+1,none⟩=some (.string q.dst)∧wy.cell? ⟨b,off+k*8+2,none⟩=some (.int .i64 q.proto)∧wy.cell? ⟨b,off+k*8+3,none⟩=some (.int .i64 q.id)∧wy.cell? ⟨b,off+k*8+4,none⟩=some (.int .i64 q.off)∧wy.cell? ⟨b,off+k*8+5,none⟩=some (.bool q.more)∧wy.cell? ⟨b,off+k*8+6,none⟩=some (.string q.data)∧wy.cell? ⟨b,off+k*8+7,none⟩=some (.int .i64 q.since)):=fun wy hy=>by
       have h2:wy.rangeAt b (off+k*8) (pcL q):=fun j v hv=>((bcell hy).1 b _ hbr).trans (hB j v hv)
       exact ⟨h2 0 _ rfl,h2 1 _ rfl,h2 2 _ rfl,h2 3 _ rfl,h2 4 _ rfl,h2 5 _ rfl,h2 6 _ rfl,h2 7 _ rfl⟩
      have HO:Hid (∀ W,Calls Tryz.prog 145 #[pcC p,pcC q] W fun e w'=>e=.returned (.bool (onePk p q))∧Below W.heap.size W w'):=fun W=>spOne_any p q W
      have HM:Hid (∀ W,Calls Tryz.prog 146 #[pcC p,pcC q] W fun e w'=>e=.returned (.bool (meetPc p q))∧Below W.heap.size W w'):=fun W=>spMeet_any p q W hoff hoq hsm.2.2 hsk.2.2
      have HHV:Hid (hitPc p q=(onePk p q&&meetPc p q)):=rfl;unfold pcC at HO HM;clear hA hB hstk hok hq hsk hoq;generalize hitPc p q=hv at *;generalize onePk p q=o1 at *;generalize meetPc p q=m1 at *;go_upto_region 9 with fail
      go_cut [41] (fun v wx=>v=.bool hv∧Below w.heap.size w wx)
      case first =>
       rename_i J K2 hJ hK2;rw [HHV.out] at hJ;clear HSK HHV HH HST HV HN HI HP HC HOK
       cases o1 with
       | true =>
        rw [Bool.true_and] at hJ;refine wp_region_growH [22,23,24,25,26,27,28,29,30,31,32,33,34,35,36,37,38,39,40,41] (by kernel_rfl) (by kernel_rfl) ?_;refine GCh.val (n:=0) (fun v=>[IsV v]) (fun _=>rfl) rfl ?_;apply Exists.intro;refine And.intro ?_ ?_
        ·intro K' a wy ho hd hb hK;rw [if_pos (wanted_none rfl)];have o0:=ho 0 (by decide);simp [slot] at o0;clear hd ho;go_simp;try go_bits
         exact hK _ _ rfl (Below.refl _ _)
        refine GCh.val (n:=1) (fun v=>[_,IsV v]) (fun _=>rfl) rfl ?_;apply Exists.intro;refine And.intro ?_ ?_
        ·intro K' a wy ho hd hb hK;rw [if_pos (wanted_none rfl)];have o3:=ho 3 (by decide);simp [slot] at o3;clear hd ho;go_simp;try go_bits
         exact hK _ _ rfl (Below.refl _ _)
        refine GCh.val (n:=2) (fun v=>[_,_,IsV v]) (fun _=>rfl) rfl ?_;apply Exists.intro;refine And.intro ?_ ?_
        ·intro K' a wy ho hd hb hK;rw [if_pos (wanted_none rfl)];have q0:=hd ⟨0,.data⟩ (by simp) rfl;simp [rAt,IsV,slot] at q0;have q1:=hd ⟨1,.data⟩ (by simp) rfl;simp [rAt,IsV,slot] at q1;clear hd ho;go_simp;try go_bits
         exact hK _ _ rfl (Below.refl _ _)
        refine GCh.val (n:=3) (fun v=>[_,_,_,IsV v]) (fun _=>rfl) rfl ?_;apply Exists.intro;refine And.intro ?_ ?_
        ·intro K' a wy ho hd hb hK;rw [if_pos (wanted_none rfl)];have q2:=hd ⟨2,.data⟩ (by simp) rfl;simp [rAt,IsV,slot] at q2;clear hd ho;obtain ⟨c0,c1,c2,c3,c4,c5,c6,c7⟩:=HCI.out wy ((Below.refl _ _).drew.trans hb); obtain ⟨d0,d1,d2,d3,d4,d5,d6,d7⟩:=HCK.out wy ((Below.refl _ _).drew.trans hb);go_simp;try go_bits
         exact hK _ _ rfl (Below.refl _ _)
        refine GCh.val (n:=4) (fun v=>[_,_,_,_,IsV v]) (fun _=>rfl) rfl ?_;apply Exists.intro;refine And.intro ?_ ?_
        ·intro K' a wy ho hd hb hK;rw [if_pos (wanted_none rfl)];have o0:=ho 0 (by decide);simp [slot] at o0;clear hd ho;go_simp;try go_bits
         exact hK _ _ rfl (Below.refl _ _)
        refine GCh.val (n:=5) (fun v=>[_,_,_,_,_,IsV v]) (fun _=>rfl) rfl ?_;apply Exists.intro;refine And.intro ?_ ?_
        ·intro K' a wy ho hd hb hK;rw [if_pos (wanted_none rfl)];have o4:=ho 4 (by decide);simp [slot] at o4;clear hd ho;go_simp;try go_bits
         exact hK _ _ rfl (Below.refl _ _)
        refine GCh.val (n:=6) (fun v=>[_,_,_,_,_,_,IsV v]) (fun _=>rfl) rfl ?_;apply Exists.intro;refine And.intro ?_ ?_
        ·intro K' a wy ho hd hb hK;rw [if_pos (wanted_none rfl)];have q4:=hd ⟨4,.data⟩ (by simp) rfl;simp [rAt,IsV,slot] at q4;have q5:=hd ⟨5,.data⟩ (by simp) rfl;simp [rAt,IsV,slot] at q5;clear hd ho;go_simp;try go_bits
         exact hK _ _ rfl (Below.refl _ _)
        refine GCh.val (n:=7) (fun v=>[_,_,_,_,_,_,_,IsV v]) (fun _=>rfl) rfl ?_;apply Exists.intro;refine And.intro ?_ ?_
        ·intro K' a wy ho hd hb hK;rw [if_pos (wanted_none rfl)];have q6:=hd ⟨6,.data⟩ (by simp) rfl;simp [rAt,IsV,slot] at q6;clear hd ho;obtain ⟨c0,c1,c2,c3,c4,c5,c6,c7⟩:=HCI.out wy ((Below.refl _ _).drew.trans hb); obtain ⟨d0,d1,d2,d3,d4,d5,d6,d7⟩:=HCK.out wy ((Below.refl _ _).drew.trans hb);go_simp;try go_bits
         exact hK _ _ rfl (Below.refl _ _)
        refine GCh.val (n:=8) (fun v=>[_,_,_,_,_,_,_,_,IsV v]) (fun _=>rfl) rfl ?_;apply Exists.intro;refine And.intro ?_ ?_
        ·intro K' a wy ho hd hb hK;rw [if_pos (wanted_none rfl)];have q3:=hd ⟨3,.data⟩ (by simp) rfl;simp [rAt,IsV,slot] at q3;have q7:=hd ⟨7,.data⟩ (by simp) rfl;simp [rAt,IsV,slot] at q7;clear hd ho;go_simp;refine (HO.out wy).mono ?_;rintro e wz ⟨rfl,hz⟩;exact hK _ _ rfl hz
        refine GCh.val (n:=9) (fun v=>[_,_,_,_,_,_,_,_,_,IsV v]) (fun _=>rfl) rfl ?_;apply Exists.intro;refine And.intro ?_ ?_
        ·intro K' a wy ho hd hb hK;rw [if_pos (wanted_none rfl)];have q8:=hd ⟨8,.data⟩ (by simp) rfl;simp [rAt,IsV,slot] at q8;clear hd ho;go_simp;try go_bits
         exact hK _ _ rfl (Below.refl _ _)
        refine GCh.val (n:=10) (fun v=>[_,_,_,_,_,_,_,_,_,_,IsV v]) (fun _=>rfl) rfl ?_;apply Exists.intro;refine And.intro ?_ ?_
        ·intro K' a wy ho hd hb hK;have hgs:IsV (.bool true) (slot a 31) wy:=hd ⟨9,.guard⟩ (by simp) rfl;rw [wanted_of (j:=9) (d:=31) (b:=true) (want:=true) (hg:=rfl) (ho:=rfl) (hd:=rfl) (hs:=hgs)];rw [if_pos (by decide)];clear hgs;have o0:=ho 0 (by decide);simp [slot] at o0;clear hd ho;go_simp;try go_bits
         exact hK _ _ rfl (Below.refl _ _)
        refine GCh.val (n:=11) (fun v=>[_,_,_,_,_,_,_,_,_,_,_,IsV v]) (fun _=>rfl) rfl ?_;apply Exists.intro;refine And.intro ?_ ?_
        ·intro K' a wy ho hd hb hK;have hgs:IsV (.bool true) (slot a 31) wy:=hd ⟨9,.guard⟩ (by simp) rfl;rw [wanted_of (j:=9) (d:=31) (b:=true) (want:=true) (hg:=rfl) (ho:=rfl) (hd:=rfl) (hs:=hgs)];rw [if_pos (by decide)];clear hgs;have o3:=ho 3 (by decide);simp [slot] at o3;clear hd ho;go_simp;try go_bits
         exact hK _ _ rfl (Below.refl _ _)
        refine GCh.val (n:=12) (fun v=>[_,_,_,_,_,_,_,_,_,_,_,_,IsV v]) (fun _=>rfl) rfl ?_;apply Exists.intro;refine And.intro ?_ ?_
        ·intro K' a wy ho hd hb hK;have hgs:IsV (.bool true) (slot a 31) wy:=hd ⟨9,.guard⟩ (by simp) rfl;rw [wanted_of (j:=9) (d:=31) (b:=true) (want:=true) (hg:=rfl) (ho:=rfl) (hd:=rfl) (hs:=hgs)];rw [if_pos (by decide)];clear hgs;have q10:=hd ⟨10,.data⟩ (by simp) rfl;simp [rAt,IsV,slot] at q10;have q11:=hd ⟨11,.data⟩ (by simp) rfl;simp [rAt,IsV,slot] at q11;clear hd ho;go_simp;try go_bits
         exact hK _ _ rfl (Below.refl _ _)
        refine GCh.val (n:=13) (fun v=>[_,_,_,_,_,_,_,_,_,_,_,_,_,IsV v]) (fun _=>rfl) rfl ?_;apply Exists.intro;refine And.intro ?_ ?_
        ·intro K' a wy ho hd hb hK;have hgs:IsV (.bool true) (slot a 31) wy:=hd ⟨9,.guard⟩ (by simp) rfl;rw [wanted_of (j:=9) (d:=31) (b:=true) (want:=true) (hg:=rfl) (ho:=rfl) (hd:=rfl) (hs:=hgs)];rw [if_pos (by decide)];clear hgs;have q12:=hd ⟨12,.data⟩ (by simp) rfl;simp [rAt,IsV,slot] at q12;clear hd ho;obtain ⟨c0,c1,c2,c3,c4,c5,c6,c7⟩:=HCI.out wy ((Below.refl _ _).drew.trans hb); obtain ⟨d0,d1,d2,d3,d4,d5,d6,d7⟩:=HCK.out wy ((Below.refl _ _).drew.trans hb);go_simp;try go_bits
         exact hK _ _ rfl (Below.refl _ _)
        refine GCh.val (n:=14) (fun v=>[_,_,_,_,_,_,_,_,_,_,_,_,_,_,IsV v]) (fun _=>rfl) rfl ?_;apply Exists.intro;refine And.intro ?_ ?_
        ·intro K' a wy ho hd hb hK;have hgs:IsV (.bool true) (slot a 31) wy:=hd ⟨9,.guard⟩ (by simp) rfl;rw [wanted_of (j:=9) (d:=31) (b:=true) (want:=true) (hg:=rfl) (ho:=rfl) (hd:=rfl) (hs:=hgs)];rw [if_pos (by decide)];clear hgs;have o0:=ho 0 (by decide);simp [slot] at o0;clear hd ho;go_simp;try go_bits
         exact hK _ _ rfl (Below.refl _ _)
        refine GCh.val (n:=15) (fun v=>[_,_,_,_,_,_,_,_,_,_,_,_,_,_,_,IsV v]) (fun _=>rfl) rfl ?_;apply Exists.intro;refine And.intro ?_ ?_
        ·intro K' a wy ho hd hb hK;have hgs:IsV (.bool true) (slot a 31) wy:=hd ⟨9,.guard⟩ (by simp) rfl;rw [wanted_of (j:=9) (d:=31) (b:=true) (want:=true) (hg:=rfl) (ho:=rfl) (hd:=rfl) (hs:=hgs)];rw [if_pos (by decide)];clear hgs;have o4:=ho 4 (by decide);simp [slot] at o4;clear hd ho;go_simp;try go_bits
         exact hK _ _ rfl (Below.refl _ _)
        refine GCh.val (n:=16) (fun v=>[_,_,_,_,_,_,_,_,_,_,_,_,_,_,_,_,IsV v]) (fun _=>rfl) rfl ?_;apply Exists.intro;refine And.intro ?_ ?_
        ·intro K' a wy ho hd hb hK;have hgs:IsV (.bool true) (slot a 31) wy:=hd ⟨9,.guard⟩ (by simp) rfl;rw [wanted_of (j:=9) (d:=31) (b:=true) (want:=true) (hg:=rfl) (ho:=rfl) (hd:=rfl) (hs:=hgs)];rw [if_pos (by decide)];clear hgs;have q14:=hd ⟨14,.data⟩ (by simp) rfl;simp [rAt,IsV,slot] at q14;have q15:=hd ⟨15,.data⟩ (by simp) rfl;simp [rAt,IsV,slot] at q15;clear hd ho;go_simp;try go_bits
         exact hK _ _ rfl (Below.refl _ _)
        refine GCh.val (n:=17) (fun v=>[_,_,_,_,_,_,_,_,_,_,_,_,_,_,_,_,_,IsV v]) (fun _=>rfl) rfl ?_;apply Exists.intro;refine And.intro ?_ ?_
        ·intro K' a wy ho hd hb hK;have hgs:IsV (.bool true) (slot a 31) wy:=hd ⟨9,.guard⟩ (by simp) rfl;rw [wanted_of (j:=9) (d:=31) (b:=true) (want:=true) (hg:=rfl) (ho:=rfl) (hd:=rfl) (hs:=hgs)];rw [if_pos (by decide)];clear hgs;have q16:=hd ⟨16,.data⟩ (by simp) rfl;simp [rAt,IsV,slot] at q16;clear hd ho;obtain ⟨c0,c1,c2,c3,c4,c5,c6,c7⟩:=HCI.out wy ((Below.refl _ _).drew.trans hb); obtain ⟨d0,d1,d2,d3,d4,d5,d6,d7⟩:=HCK.out wy ((Below.refl _ _).drew.trans hb);go_simp;try go_bits
         exact hK _ _ rfl (Below.refl _ _)
        refine GCh.val (n:=18) (fun v=>[_,_,_,_,_,_,_,_,_,_,_,_,_,_,_,_,_,_,IsV v]) (fun _=>rfl) rfl ?_;apply Exists.intro;refine And.intro ?_ ?_
        ·intro K' a wy ho hd hb hK;have hgs:IsV (.bool true) (slot a 31) wy:=hd ⟨9,.guard⟩ (by simp) rfl;rw [wanted_of (j:=9) (d:=31) (b:=true) (want:=true) (hg:=rfl) (ho:=rfl) (hd:=rfl) (hs:=hgs)];rw [if_pos (by decide)];clear hgs;have q13:=hd ⟨13,.data⟩ (by simp) rfl;simp [rAt,IsV,slot] at q13;have q17:=hd ⟨17,.data⟩ (by simp) rfl;simp [rAt,IsV,slot] at q17;clear hd ho;go_simp;refine (HM.out wy).mono ?_;rintro e wz ⟨rfl,hz⟩;exact hK _ _ rfl hz
        refine GCh.val (n:=19) (fun v=>[_,_,_,_,_,_,_,_,_,_,_,_,_,_,_,_,_,_,_,IsV v]) (fun _=>rfl) rfl ?_;apply Exists.intro;refine And.intro ?_ ?_
        ·intro K' a wy ho hd hb hK;rw [if_pos (wanted_none rfl)];have q9:=hd ⟨9,.data⟩ (by simp) rfl;simp [rAt,IsV,slot] at q9;have q18:=hd ⟨18,.data⟩ (by simp) rfl;simp [rAt,IsV,slot] at q18;clear hd ho;go_simp;try go_bits
         exact hK _ _ rfl (Below.refl _ _)
        intro X wz hR hz;obtain ⟨x0,x1,x2,x3,x4,x5,x6,x7,x8,x9,x10,x11,x12,x13,x14,x15,x16,x17,x18,x19,-⟩:=hR;simp only [IsV] at x0 x1 x2 x3 x4 x5 x6 x7 x8 x9 x10 x11 x12 x13 x14 x15 x16 x17 x18 x19;simp only [putsFrom,x0,x1,x2,x3,x4,x5,x6,x7,x8,x9,x10,x11,x12,x13,x14,x15,x16,x17,x18,x19];clear x0 x1 x2 x3 x4 x5 x6 x7 x8 x9 x10 x11 x12 x13 x14 x15 x16 x17 x18 x19;go_simp;refine hK2 _ _ (hJ _ _ ?_);(repeat apply Exists.intro)
        refine ⟨⟨rfl,HL2.out.drew.trans (hz.mono HL2.out.size)⟩,rfl⟩
       | false =>
        rw [Bool.false_and] at hJ;refine wp_region_growH [22,23,24,25,26,27,28,29,30,31,32,33,34,35,36,37,38,39,40,41] (by kernel_rfl) (by kernel_rfl) ?_;refine GCh.val (n:=0) (fun v=>[IsV v]) (fun _=>rfl) rfl ?_;apply Exists.intro;refine And.intro ?_ ?_
        ·intro K' a wy ho hd hb hK;rw [if_pos (wanted_none rfl)];have o0:=ho 0 (by decide);simp [slot] at o0;clear hd ho;go_simp;try go_bits
         exact hK _ _ rfl (Below.refl _ _)
        refine GCh.val (n:=1) (fun v=>[_,IsV v]) (fun _=>rfl) rfl ?_;apply Exists.intro;refine And.intro ?_ ?_
        ·intro K' a wy ho hd hb hK;rw [if_pos (wanted_none rfl)];have o3:=ho 3 (by decide);simp [slot] at o3;clear hd ho;go_simp;try go_bits
         exact hK _ _ rfl (Below.refl _ _)
        refine GCh.val (n:=2) (fun v=>[_,_,IsV v]) (fun _=>rfl) rfl ?_;apply Exists.intro;refine And.intro ?_ ?_
        ·intro K' a wy ho hd hb hK;rw [if_pos (wanted_none rfl)];have q0:=hd ⟨0,.data⟩ (by simp) rfl;simp [rAt,IsV,slot] at q0;have q1:=hd ⟨1,.data⟩ (by simp) rfl;simp [rAt,IsV,slot] at q1;clear hd ho;go_simp;try go_bits
         exact hK _ _ rfl (Below.refl _ _)
        refine GCh.val (n:=3) (fun v=>[_,_,_,IsV v]) (fun _=>rfl) rfl ?_;apply Exists.intro;refine And.intro ?_ ?_
        ·intro K' a wy ho hd hb hK;rw [if_pos (wanted_none rfl)];have q2:=hd ⟨2,.data⟩ (by simp) rfl;simp [rAt,IsV,slot] at q2;clear hd ho;obtain ⟨c0,c1,c2,c3,c4,c5,c6,c7⟩:=HCI.out wy ((Below.refl _ _).drew.trans hb); obtain ⟨d0,d1,d2,d3,d4,d5,d6,d7⟩:=HCK.out wy ((Below.refl _ _).drew.trans hb);go_simp;try go_bits
         exact hK _ _ rfl (Below.refl _ _)
        refine GCh.val (n:=4) (fun v=>[_,_,_,_,IsV v]) (fun _=>rfl) rfl ?_;apply Exists.intro;refine And.intro ?_ ?_
        ·intro K' a wy ho hd hb hK;rw [if_pos (wanted_none rfl)];have o0:=ho 0 (by decide);simp [slot] at o0;clear hd ho;go_simp;try go_bits
         exact hK _ _ rfl (Below.refl _ _)
        refine GCh.val (n:=5) (fun v=>[_,_,_,_,_,IsV v]) (fun _=>rfl) rfl ?_;apply Exists.intro;refine And.intro ?_ ?_
        ·intro K' a wy ho hd hb hK;rw [if_pos (wanted_none rfl)];have o4:=ho 4 (by decide);simp [slot] at o4;clear hd ho;go_simp;try go_bits
         exact hK _ _ rfl (Below.refl _ _)
        refine GCh.val (n:=6) (fun v=>[_,_,_,_,_,_,IsV v]) (fun _=>rfl) rfl ?_;apply Exists.intro;refine And.intro ?_ ?_
        ·intro K' a wy ho hd hb hK;rw [if_pos (wanted_none rfl)];have q4:=hd ⟨4,.data⟩ (by simp) rfl;simp [rAt,IsV,slot] at q4;have q5:=hd ⟨5,.data⟩ (by simp) rfl;simp [rAt,IsV,slot] at q5;clear hd ho;go_simp;try go_bits
         exact hK _ _ rfl (Below.refl _ _)
        refine GCh.val (n:=7) (fun v=>[_,_,_,_,_,_,_,IsV v]) (fun _=>rfl) rfl ?_;apply Exists.intro;refine And.intro ?_ ?_
        ·intro K' a wy ho hd hb hK;rw [if_pos (wanted_none rfl)];have q6:=hd ⟨6,.data⟩ (by simp) rfl;simp [rAt,IsV,slot] at q6;clear hd ho;obtain ⟨c0,c1,c2,c3,c4,c5,c6,c7⟩:=HCI.out wy ((Below.refl _ _).drew.trans hb); obtain ⟨d0,d1,d2,d3,d4,d5,d6,d7⟩:=HCK.out wy ((Below.refl _ _).drew.trans hb);go_simp;try go_bits
         exact hK _ _ rfl (Below.refl _ _)
        refine GCh.val (n:=8) (fun v=>[_,_,_,_,_,_,_,_,IsV v]) (fun _=>rfl) rfl ?_;apply Exists.intro;refine And.intro ?_ ?_
        ·intro K' a wy ho hd hb hK;rw [if_pos (wanted_none rfl)];have q3:=hd ⟨3,.data⟩ (by simp) rfl;simp [rAt,IsV,slot] at q3;have q7:=hd ⟨7,.data⟩ (by simp) rfl;simp [rAt,IsV,slot] at q7;clear hd ho;go_simp;refine (HO.out wy).mono ?_;rintro e wz ⟨rfl,hz⟩;exact hK _ _ rfl hz
        refine GCh.val (n:=9) (fun v=>[_,_,_,_,_,_,_,_,_,IsV v]) (fun _=>rfl) rfl ?_;apply Exists.intro;refine And.intro ?_ ?_
        ·intro K' a wy ho hd hb hK;rw [if_pos (wanted_none rfl)];have q8:=hd ⟨8,.data⟩ (by simp) rfl;simp [rAt,IsV,slot] at q8;clear hd ho;go_simp;try go_bits
         exact hK _ _ rfl (Below.refl _ _)
        refine GCh.val (n:=10) (fun v=>[_,_,_,_,_,_,_,_,_,_,IsV v]) (fun _=>rfl) rfl ?_;apply Exists.intro;refine And.intro ?_ ?_
        ·intro K' a wy ho hd hb hK;have hgs:IsV (.bool false) (slot a 31) wy:=hd ⟨9,.guard⟩ (by simp) rfl;rw [wanted_of (j:=9) (d:=31) (b:=false) (want:=true) (hg:=rfl) (ho:=rfl) (hd:=rfl) (hs:=hgs)];rw [if_neg (by decide)];exact hK undef _ rfl (Below.refl _ _)
        refine GCh.val (n:=11) (fun v=>[_,_,_,_,_,_,_,_,_,_,_,IsV v]) (fun _=>rfl) rfl ?_;apply Exists.intro;refine And.intro ?_ ?_
        ·intro K' a wy ho hd hb hK;have hgs:IsV (.bool false) (slot a 31) wy:=hd ⟨9,.guard⟩ (by simp) rfl;rw [wanted_of (j:=9) (d:=31) (b:=false) (want:=true) (hg:=rfl) (ho:=rfl) (hd:=rfl) (hs:=hgs)];rw [if_neg (by decide)];exact hK undef _ rfl (Below.refl _ _)
        refine GCh.val (n:=12) (fun v=>[_,_,_,_,_,_,_,_,_,_,_,_,IsV v]) (fun _=>rfl) rfl ?_;apply Exists.intro;refine And.intro ?_ ?_
        ·intro K' a wy ho hd hb hK;have hgs:IsV (.bool false) (slot a 31) wy:=hd ⟨9,.guard⟩ (by simp) rfl;rw [wanted_of (j:=9) (d:=31) (b:=false) (want:=true) (hg:=rfl) (ho:=rfl) (hd:=rfl) (hs:=hgs)];rw [if_neg (by decide)];exact hK undef _ rfl (Below.refl _ _)
        refine GCh.val (n:=13) (fun v=>[_,_,_,_,_,_,_,_,_,_,_,_,_,IsV v]) (fun _=>rfl) rfl ?_;apply Exists.intro;refine And.intro ?_ ?_
        ·intro K' a wy ho hd hb hK;have hgs:IsV (.bool false) (slot a 31) wy:=hd ⟨9,.guard⟩ (by simp) rfl;rw [wanted_of (j:=9) (d:=31) (b:=false) (want:=true) (hg:=rfl) (ho:=rfl) (hd:=rfl) (hs:=hgs)];rw [if_neg (by decide)];exact hK undef _ rfl (Below.refl _ _)
        refine GCh.val (n:=14) (fun v=>[_,_,_,_,_,_,_,_,_,_,_,_,_,_,IsV v]) (fun _=>rfl) rfl ?_;apply Exists.intro;refine And.intro ?_ ?_
        ·intro K' a wy ho hd hb hK;have hgs:IsV (.bool false) (slot a 31) wy:=hd ⟨9,.guard⟩ (by simp) rfl;rw [wanted_of (j:=9) (d:=31) (b:=false) (want:=true) (hg:=rfl) (ho:=rfl) (hd:=rfl) (hs:=hgs)];rw [if_neg (by decide)];exact hK undef _ rfl (Below.refl _ _)
        refine GCh.val (n:=15) (fun v=>[_,_,_,_,_,_,_,_,_,_,_,_,_,_,_,IsV v]) (fun _=>rfl) rfl ?_;apply Exists.intro;refine And.intro ?_ ?_
        ·intro K' a wy ho hd hb hK;have hgs:IsV (.bool false) (slot a 31) wy:=hd ⟨9,.guard⟩ (by simp) rfl;rw [wanted_of (j:=9) (d:=31) (b:=false) (want:=true) (hg:=rfl) (ho:=rfl) (hd:=rfl) (hs:=hgs)];rw [if_neg (by decide)];exact hK undef _ rfl (Below.refl _ _)
        refine GCh.val (n:=16) (fun v=>[_,_,_,_,_,_,_,_,_,_,_,_,_,_,_,_,IsV v]) (fun _=>rfl) rfl ?_;apply Exists.intro;refine And.intro ?_ ?_
        ·intro K' a wy ho hd hb hK;have hgs:IsV (.bool false) (slot a 31) wy:=hd ⟨9,.guard⟩ (by simp) rfl;rw [wanted_of (j:=9) (d:=31) (b:=false) (want:=true) (hg:=rfl) (ho:=rfl) (hd:=rfl) (hs:=hgs)];rw [if_neg (by decide)];exact hK undef _ rfl (Below.refl _ _)
        refine GCh.val (n:=17) (fun v=>[_,_,_,_,_,_,_,_,_,_,_,_,_,_,_,_,_,IsV v]) (fun _=>rfl) rfl ?_;apply Exists.intro;refine And.intro ?_ ?_
        ·intro K' a wy ho hd hb hK;have hgs:IsV (.bool false) (slot a 31) wy:=hd ⟨9,.guard⟩ (by simp) rfl;rw [wanted_of (j:=9) (d:=31) (b:=false) (want:=true) (hg:=rfl) (ho:=rfl) (hd:=rfl) (hs:=hgs)];rw [if_neg (by decide)];exact hK undef _ rfl (Below.refl _ _)
        refine GCh.val (n:=18) (fun v=>[_,_,_,_,_,_,_,_,_,_,_,_,_,_,_,_,_,_,IsV v]) (fun _=>rfl) rfl ?_;apply Exists.intro;refine And.intro ?_ ?_
        ·intro K' a wy ho hd hb hK;have hgs:IsV (.bool false) (slot a 31) wy:=hd ⟨9,.guard⟩ (by simp) rfl;rw [wanted_of (j:=9) (d:=31) (b:=false) (want:=true) (hg:=rfl) (ho:=rfl) (hd:=rfl) (hs:=hgs)];rw [if_neg (by decide)];exact hK undef _ rfl (Below.refl _ _)
        refine GCh.val (n:=19) (fun v=>[_,_,_,_,_,_,_,_,_,_,_,_,_,_,_,_,_,_,_,IsV v]) (fun _=>rfl) rfl ?_;apply Exists.intro;refine And.intro ?_ ?_
        ·intro K' a wy ho hd hb hK;rw [if_pos (wanted_none rfl)];have q9:=hd ⟨9,.data⟩ (by simp) rfl;simp [rAt,IsV,slot] at q9;have q18:=hd ⟨18,.data⟩ (by simp) rfl;simp [rAt,IsV,slot] at q18;clear hd ho;go_simp;try go_bits
         exact hK _ _ rfl (Below.refl _ _)
        intro X wz hR hz;obtain ⟨x0,x1,x2,x3,x4,x5,x6,x7,x8,x9,x10,x11,x12,x13,x14,x15,x16,x17,x18,x19,-⟩:=hR;simp only [IsV] at x0 x1 x2 x3 x4 x5 x6 x7 x8 x9 x10 x11 x12 x13 x14 x15 x16 x17 x18 x19;simp only [putsFrom,x0,x1,x2,x3,x4,x5,x6,x7,x8,x9,x10,x11,x12,x13,x14,x15,x16,x17,x18,x19];clear x0 x1 x2 x3 x4 x5 x6 x7 x8 x9 x10 x11 x12 x13 x14 x15 x16 x17 x18 x19;go_simp;refine hK2 _ _ (hJ _ _ ?_);(repeat apply Exists.intro)
        refine ⟨⟨rfl,HL2.out.drew.trans (hz.mono HL2.out.size)⟩,rfl⟩
      case rest =>
      obtain ⟨rfl,hbc⟩:=hcut;have HL3:Hid (Below w.heap.size w wc):=hbc;clear hbc HCI HCK HO HM
      cases hv with
      | true =>
       have HX:Hid (ans=false):=by
        unfold Hid;rw [HV.out];refine allN_no (show i+1≤xs.length from hlt) ?_;rw [HST.out,hitN_yes (show k+1≤i from hkl) (by rw [HSK.out]; simp)]; simp
       go_wp2_with fail
       go_ret;exact ⟨ret_bool HX.out.symm,HL3.out⟩
      | false =>
       have HN2:Hid (hitN xs p (k+1)=false):=by unfold Hid; rw [HSK.out,HH.out]; rfl
       go_wp2_with fail
       go_roundw
       case rel=>exact ⟨k+1,by omega,by go_num,HN2.out,HL3.out⟩
       case measure=>simp [intOf]; omega
     ·have hke:k=i:=by omega
      have HN2:Hid (allN xs (i+1)=true):=by
       have h1:=HH.out;rw [hke] at h1;unfold Hid; rw [HST.out,HN.out,h1]; rfl
      go_wp2_with fail
      go_roundw
      case rel=>exact ⟨i+1,by omega,by go_num,HN2.out,HL2.out⟩
      case measure=>simp [intOf]; omega
  ·have hie:i=xs.length:=by omega
   have HX:Hid (ans=true):=by unfold Hid; rw [HV.out,← hie]; exact HN.out
   go_wp2_with fail
   go_ret;exact ⟨ret_bool HX.out.symm,HL.out⟩
end Go.Proofs.YthagnjokdnnmpaaGreat
