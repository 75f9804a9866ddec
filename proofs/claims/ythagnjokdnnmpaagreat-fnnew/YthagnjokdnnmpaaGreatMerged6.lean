import Derived.Test.YthagnjokdnnmpaaGreatMerged5
import Derived.Deep.RegionHeld
import Derived.Lib.QuietBelow
set_option linter.unusedVariables false
set_option linter.unusedSimpArgs false
set_option maxRecDepth 100000
set_option maxHeartbeats 8000000
namespace Go.Proofs.YthagnjokdnnmpaaGreat
open Go.RowKit Go.PlainAid
theorem andNot_bits:∀ (x:Fin 256) (r m:Fin 8),r.val≠0→bits .andNot .u8 (x.val:Int) (255 / 2 ^ r.val) / 2 ^ (7-m.val) % 2=if m.val < r.val then (x.val:Int) / 2 ^ (7-m.val) % 2 else 0:=by decide +kernel
theorem firstF_bit (s:ByteArray) (b k:Nat):bitN (firstF s b) k=if k < b then bitN (bt s) k else 0:=by
 unfold bitN;by_cases h1:k / 8 < b / 8
 ·rw [if_pos (by omega),show firstF s b (k / 8)=bt s (k / 8) from if_pos h1]
 ·by_cases h2:k / 8=b / 8∧b % 8≠0
  ·have hf:firstF s b (k / 8)=bits .andNot .u8 (bt s (k / 8)) (255 / 2 ^ (b % 8)):=by unfold firstF; rw [if_neg h1,if_pos h2]
   have hb:=bt_isByte s (k / 8);obtain ⟨x,hx⟩:=Int.eq_ofNat_of_zero_le hb.1;have:=andNot_bits ⟨x,by omega⟩ ⟨b % 8,by omega⟩ ⟨k % 8,by omega⟩ h2.2;simp only at this;rw [hf,hx,this];by_cases h3:k % 8 < b % 8
   ·rw [if_pos h3,if_pos (by omega)]
   ·rw [if_neg h3,if_neg (by omega)]
  ·have hf:firstF s b (k / 8)=0:=by unfold firstF; rw [if_neg h1,if_neg h2]
   rw [if_neg (by omega),hf]; simp
theorem byte_bits {x y:Int} (hx0:0≤x) (hx:x≤255) (hy0:0≤y) (hy:y≤255) (h:∀ m,m < 8→x / 2 ^ (7-m) % 2=y / 2 ^ (7-m) % 2):x=y:=by
 have h0:=h 0 (by omega); have h1:=h 1 (by omega); have h2:=h 2 (by omega); have h3:=h 3 (by omega);have h4:=h 4 (by omega); have h5:=h 5 (by omega); have h6:=h 6 (by omega); have h7:=h 7 (by omega);simp only [Nat.sub_zero,Nat.reduceSub,Int.reducePow,Int.ediv_one] at h0 h1 h2 h3 h4 h5 h6 h7;omega
theorem bytes_bits {a p:ByteArray} (hs:a.size=p.size) (h:∀ k,k < 8*p.size→bitN (bt a) k=bitN (bt p) k):a=p:=by
 refine ba_ext hs (fun i hi=>byte_bits (bt_isByte a i).1 (bt_isByte a i).2 (bt_isByte p i).1 (bt_isByte p i).2 (fun m hm=>?_));have:=h (8*i+m) (by omega);unfold bitN at this;rwa [show (8*i+m) / 8=i by omega,show (8*i+m) % 8=m by omega] at this
theorem firstV_bt (a:ByteArray) (b i:Nat) (hi:i < a.size):bt (firstV a b) i=firstF a b i:=bytesOf_bt hi (firstF_byte a b i).1 (firstF_byte a b i).2
theorem firstV_bit (a:ByteArray) (b k:Nat) (hk:k < 8*a.size):bitN (bt (firstV a b)) k=if k < b then bitN (bt a) k else 0:=by
 rw [← firstF_bit]; unfold bitN; rw [firstV_bt a b _ (by omega)]
theorem firstV_size (a:ByteArray) (b:Nat):(firstV a b).size=a.size:=bytesOf_size _ _
theorem firstV_iff {a p:ByteArray} (b:Nat) (hs:a.size=p.size):firstV a b=p↔∀ k,k < 8*p.size→bitN (bt p) k=if k < b then bitN (bt a) k else 0:=by
 constructor
 ·intro h k hk;rw [← firstV_bit a b k (by omega),h]
 ·intro h;exact bytes_bits ((firstV_size a b).trans hs) (fun k hk=>by rw [h k hk,firstV_bit a b k (by omega)])
theorem zerosN_iff {f:Nat→Int}:∀ (n k:Nat),zerosN f k n=true↔∀ i,k≤i→i < k+n→bitN f i=0
 | 0,k=>by simp [zerosN]; omega
 | n+1,k=>by
  show (bitN f k==0&&zerosN f (k+1) n)=true↔_;rw [Bool.and_eq_true,zerosN_iff n (k+1),beq_iff_eq];constructor
  ·rintro ⟨h0,h⟩ i h1 h2;by_cases e:i=k
   ·rw [e]; exact h0
   ·exact h i (by omega) (by omega)
  ·intro h;exact ⟨h k (by omega) (by omega),fun i h1 h2=>h i (by omega) (by omega)⟩
theorem first_right {s:ByteArray} {b:Nat} (hb:b≤8*s.size):firstV s b=s↔zerosN (bt s) b (8*s.size-b)=true:=by
 rw [firstV_iff b rfl,zerosN_iff];constructor
 ·intro h i h1 h2;have:=h i (by omega);rwa [if_neg (by omega)] at this
 ·intro h k hk;by_cases e:k < b
  ·rw [if_pos e]
  ·rw [if_neg e]; exact h k (by omega) (by omega)
theorem toList_beq (a b:ByteArray):(a.toList==b.toList)=decide (a=b):=by
 rw [Bool.eq_iff_iff,beq_iff_eq,decide_eq_true_iff];refine ⟨fun h=>?_,fun h=>by rw [h]⟩;rw [ByteArray.toList_eq,ByteArray.toList_eq] at h;exact ByteArray.ext (Array.toList_inj.1 h)
theorem decide_iff {p:Prop} [Decidable p] {b:Bool} (h:p↔b=true):decide p=b:=by rw [Bool.eq_iff_iff,decide_eq_true_iff]; exact h
theorem box_kept {w w3:World} {B:Nat} {v0 v1:Value} (hS:w.cell? ⟨B,0,none⟩=some v0∧w.cell? ⟨B,1,none⟩=some v1) (h:Below w.heap.size w w3):w3.cell? ⟨B,0,none⟩=some v0∧w3.cell? ⟨B,1,none⟩=some v1 :=
 ⟨((bcell h).1 B 0 (World.block_lt_of_cell? w _ hS.1)).trans hS.1,((bcell h).1 B 1 (World.block_lt_of_cell? w _ hS.1)).trans hS.2⟩
theorem implPrefixRight_any (s:ByteArray) (b:Int) (w:World) (hs:s.size≤1048576) :
  Calls Tryz.prog 88 #[.agg #[.string s,.int .i64 b]] w fun e w'=>e=.returned (.bool (prefixOk s b))∧Below w.heap.size w w':=by
 have hc0:(w.alloc (.cells #[.string s,.int .i64 b] 30)).cell? ⟨w.heap.size,0,none⟩=some (.string s):=by simp
 have hc1:(w.alloc (.cells #[.string s,.int .i64 b] 30)).cell? ⟨w.heap.size,1,none⟩=some (.int .i64 b):=by simp
 have HB:Hid (Below w.heap.size w (w.alloc (.cells #[.string s,.int .i64 b] 30))):=(Below.refl _ _).alloc (Nat.le_refl _) _;by_cases ha:addrOk s=true
 ·have hcall:Hid (∀ W,Calls Tryz.prog 117 #[.string s] W fun e w'=>e=.returned (.bool true)∧w'=W):=fun W=>by rw [← ha]; exact implAddrRight_any s W
  have HA:Hid (addrOk s=true):=ha;clear ha;by_cases h0:0≤b
  ·by_cases h1:b≤8*(s.size:Int)
   ·have HV:Hid (prefixOk s b=zerosN (bt s) b.toNat (8*s.size-b.toNat)):=by unfold Hid prefixOk; simp [HA.out,h0,h1]
    obtain ⟨b,rfl⟩:=Int.eq_ofNat_of_zero_le h0;have hs16:s.size≤16:=by have:=addrOk_size HA.out; omega
    go_enter Tryz.func88,Tryz.ntmps88
    go_wp2_with fail
    go_region_held (fun w'=>w'.cell? ⟨w.heap.size,0,none⟩=some (.string s)∧w'.cell? ⟨w.heap.size,1,none⟩=some (.int .i64 b)) (go_keep) (first | (go_at_call 117; refine (hcall.out _).mono ?_; rintro e w1 ⟨rfl,rfl⟩) | (go_at_call 118; refine (implBits_any s _ hs).mono ?_; rintro e w2 ⟨rfl,rfl⟩) | (go_at_call 119; refine (implFirst_any s b _ hs16 (by omega)).mono ?_; rintro e w3 ⟨rfl,q3⟩; have hk:w3.cell? ⟨w.heap.size,0,none⟩=some (.string s)∧w3.cell? ⟨w.heap.size,1,none⟩=some (.int .i64 b):=box_kept (by assumption) q3))
    have hq:((firstV s b).toList==s.toList)=prefixOk s b:=by
     rw [HV.out,show (b:Int).toNat=b from rfl,toList_beq];exact decide_iff (first_right (by omega))
    go_wp2_with fail
    go_ret;exact ⟨ret_bool hq,HB.out.trans ((below_undrew q3).mono (by simp))⟩
   ·have HV:Hid (prefixOk s b=false):=by unfold Hid prefixOk; simp [h1]
    have d1:decide (b≤8*(s.size:Int))=false:=by simpa using h1
    go_enter Tryz.func88,Tryz.ntmps88
    go_wp2_with fail
    generalize hW:w.alloc (.cells #[.string s,.int .i64 b] 30)=W at *;clear hW h1;first | go_quiet ((first | (go_at_call 117; exact Calls.quiet_of_same (hcall.out _)) | (go_at_call 118; exact Calls.quiet_of_same (implBits_any _ _ hs))))
    go_wp2_with fail
    go_ret;exact ⟨ret_bool HV.out.symm,HB.out.trans ⟨rfl,rfl,rfl,Nat.le_refl _,fun _ _=>rfl⟩⟩
  ·have HV:Hid (prefixOk s b=false):=by unfold Hid prefixOk; simp [h0]
   have d0:decide (0≤b)=false:=by simpa using h0
   clear h0;go_enter Tryz.func88,Tryz.ntmps88
   go_wp2_with fail
   generalize hW:w.alloc (.cells #[.string s,.int .i64 b] 30)=W at *;clear hW;first | go_quiet ((go_at_call 117; exact Calls.quiet_of_same (hcall.out _)))
   go_wp2_with fail
   go_ret;exact ⟨ret_bool HV.out.symm,HB.out.trans ⟨rfl,rfl,rfl,Nat.le_refl _,fun _ _=>rfl⟩⟩
 ·have ha':addrOk s=false:=by simpa using ha
  have HV:Hid (prefixOk s b=false):=by unfold Hid prefixOk; simp [ha']
  have hcall:Hid (∀ W,Calls Tryz.prog 117 #[.string s] W fun e w'=>e=.returned (.bool false)∧w'=W):=fun W=>by rw [← ha']; exact implAddrRight_any s W
  clear ha ha';go_enter Tryz.func88,Tryz.ntmps88
  go_wp2_with fail
  generalize hW:w.alloc (.cells #[.string s,.int .i64 b] 30)=W at *;clear hW;first | go_quiet ((go_at_call 117; exact Calls.quiet_of_same (hcall.out _)))
  go_wp2_with fail
  go_ret;exact ⟨ret_bool HV.out.symm,HB.out.trans ⟨rfl,rfl,rfl,Nat.le_refl _,fun _ _=>rfl⟩⟩
structure BoxR (w:World) (B:Nat) (q:Rt):Prop where
 c0:w.cell? ⟨B,0,none⟩=some (.string q.addr)
 c1:w.cell? ⟨B,1,none⟩=some (.int .i64 q.bits)
 c2:w.cell? ⟨B,2,none⟩=some (.int .i64 q.hop)
theorem BoxR.kept {w W:World} {B:Nat} {q:Rt} (h:BoxR w B q) (hB:Below w.heap.size w W):BoxR W B q:=by
 have hb:=World.block_lt_of_cell? w _ h.c0;exact ⟨((bcell hB).1 B 0 hb).trans h.c0,((bcell hB).1 B 1 hb).trans h.c1,((bcell hB).1 B 2 hb).trans h.c2⟩
theorem BoxR.new (w:World) (q:Rt):BoxR (w.alloc (.cells #[.string q.addr,.int .i64 q.bits,.int .i64 q.hop] 94)) w.heap.size q:=⟨by simp,by simp,by simp⟩
theorem implRoutesRight_any (rs:List Rt) (b off cap:Nat) (w:World) (hcap:rs.length≤cap) (hb:b < w.heap.size) (hin:RtsIn rs) (hr:RtsAt w b off rs) :
  Calls Tryz.prog 38 #[.slice (some ⟨b,off,none⟩) rs.length cap] w fun e w'=>e=.returned (.bool (routesOk rs))∧Below w.heap.size w w':=by
 have HR:Hid (RtsAt w b off rs):=hr;have HI:Hid (RtsIn rs):=hin;clear hr hin;by_cases h100:rs.length≤100
 ·have HV:Hid (routesOk rs=rightN rs rs.length):=by unfold Hid routesOk; rw [decide_eq_true h100]; rfl
  have h100':¬ (100:Int) < (rs.length:Int):=by omega
  go_enter Tryz.func38,Tryz.ntmps38
  go_wp2_with fail
  go_loopw [12] (fun i wr=>∃ k:Nat,k≤rs.length∧i=.int .i64 k∧rightN rs k=true∧Below w.heap.size w wr) (fun i _=>rs.length-(intOf i).toNat)
  case atStart=>exact ⟨0,Nat.zero_le _,rfl,rfl,Below.refl _ _⟩
  case round =>
   obtain ⟨k,hk,rfl,hrk,hbel⟩:=hrel;have HK:Hid (rightN rs k=true):=hrk;have HL:Hid (Below w.heap.size w wr):=hbel;clear hrk hbel;by_cases hlt:k < rs.length
   ·have HA:=HR.out.below hb HL.out;have c0:=HA.c0 k hlt;have c1:=HA.c1 k hlt;have c2:=HA.c2 k hlt;have hI:=HI.out rs[k] (List.getElem_mem hlt);obtain ⟨q,hq⟩ : ∃ q,q=rs[k]:=⟨_,rfl⟩;rw [← hq] at c0 c1 c2 hI;have HQ:Hid (q=rs[k]):=hq;obtain ⟨hI1,hI2,hI3⟩:=hI;have HP:Hid (∀ W,Calls Tryz.prog 88 #[.agg #[.string q.addr,.int .i64 q.bits]] W fun e w'=>e=.returned (.bool (prefixOk q.addr q.bits))∧Below W.heap.size W w'):=fun W=>implPrefixRight_any q.addr q.bits W hI1
    have HST:Hid (rightN rs (k+1)=(routeOk q&&!dupV rs q k)):=by unfold Hid; rw [rightN_step hlt,HK.out,← HQ.out]; rfl
    have HRO:Hid (routeOk q=(prefixOk q.addr q.bits&&decide (1≤q.hop)&&decide (q.hop≤1000))):=rfl;have HFIN:Hid (rightN rs (k+1)=false→routesOk rs=false):=fun h=>by rw [HV.out]; exact rightN_mono h _ (by omega)
    have HBX:Hid (BoxR (wr.alloc (.cells #[.string q.addr,.int .i64 q.bits,.int .i64 q.hop] 94)) wr.heap.size q):=BoxR.new wr q;have HLA:Hid (Below w.heap.size w (wr.alloc (.cells #[.string q.addr,.int .i64 q.bits,.int .i64 q.hop] 94))):=HL.out.alloc HL.out.size _;clear hq HA;go_wp2_with fail
    refine (HP.out _).mono ?_;rintro e w2 ⟨rfl,q2⟩;have HL2:Hid (Below w.heap.size w w2):=HLA.out.trans (q2.mono HLA.out.size);have HA2:Hid (RtsAt w2 b off rs):=HR.out.below hb HL2.out;have HB2:Hid (BoxR w2 wr.heap.size q):=HBX.out.kept q2;have x2:=HB2.out.c2;clear q2 c0 c1 c2 HP HBX HLA;generalize wr.heap.size=B at *;clear HL
    cases hok:prefixOk q.addr q.bits with
    | false =>
     have HX:Hid (routesOk rs=false):=HFIN.out (by rw [HST.out,HRO.out,hok]; rfl);clear hok;go_wp2_with fail
     go_ret;exact ⟨ret_bool HX.out.symm,HL2.out⟩
    | true =>
     by_cases p1:q.hop < 1
     ·have HX:Hid (routesOk rs=false):=HFIN.out (by rw [HST.out,HRO.out,hok,decide_eq_false (show ¬ 1≤q.hop by omega)]; rfl);clear hok;go_wp2_with fail
      go_ret;exact ⟨ret_bool HX.out.symm,HL2.out⟩
     ·by_cases p2:1000 < q.hop
      ·have HX:Hid (routesOk rs=false):=HFIN.out (by rw [HST.out,HRO.out,hok,decide_eq_false (show ¬ q.hop≤1000 by omega),Bool.and_false]; rfl);clear hok;go_wp2_with fail
       go_ret;exact ⟨ret_bool HX.out.symm,HL2.out⟩
      ·have HST2:Hid (rightN rs (k+1)=!dupV rs q k):=by unfold Hid; rw [HST.out,HRO.out,hok,decide_eq_true (show 1≤q.hop by omega),decide_eq_true (show q.hop≤1000 by omega)]; rfl
       have hcd:decide ((k:Int) < (rs.length:Int))=true:=by simp; omega
       have hkc:(k:Int)≤(cap:Int):=by omega
       clear hok HST HRO;go_wp2_with fail
       go_loopw [35] (fun j wi=>∃ m:Nat,m≤k∧j=.int .i64 m∧dupV rs q m=false∧Below w2.heap.size w2 wi) (fun j _=>k-(intOf j).toNat)
       case atStart=>exact ⟨0,Nat.zero_le _,rfl,rfl,Below.refl _ _⟩
       case round =>
        obtain ⟨m,hm,rfl,hdm,hbel⟩:=hrel;have HD:Hid (dupV rs q m=false):=hdm;have HL3:Hid (Below w2.heap.size w2 wr):=hbel;have HW3:Hid (Below w.heap.size w wr):=HL2.out.trans (hbel.mono HL2.out.size);clear hdm hbel;by_cases hmk:m < k
        ·have hml:m < rs.length:=by omega
         have HA3:=HR.out.below hb HW3.out;have HB3:=HB2.out.kept HL3.out;have d0:=HB3.c0;have d1:=HB3.c1;have f0:=HA3.c0 m hml;have f1:=HA3.c1 m hml;have f2:=HA3.c2 m hml;have hBlt:B < wr.heap.size:=World.block_lt_of_cell? wr _ HB3.c0;obtain ⟨p,hp⟩ : ∃ p,p=rs[m]:=⟨_,rfl⟩;rw [← hp] at f0 f1 f2;have heq:=eqp_any p.addr q.addr p.bits q.bits;have HDS:Hid (dupV rs q (m+1)=samePfx p q):=by unfold Hid; rw [dupV_step hml,HD.out,hp]; rfl
         have HSM:Hid (samePfx p q=(decide (p.addr.toList=q.addr.toList)&&decide (p.bits=q.bits))):=rfl;have HE3:Hid (Below w2.heap.size w2 (wr.alloc (.cells #[.string p.addr,.int .i64 p.bits,.int .i64 p.hop] 94))):=HL3.out.alloc HL3.out.size _;have HF3:Hid (Below w.heap.size w (wr.alloc (.cells #[.string p.addr,.int .i64 p.bits,.int .i64 p.hop] 94))):=HW3.out.alloc HW3.out.size _
         cases hs:(decide (p.addr.toList=q.addr.toList)&&decide (p.bits=q.bits)) with
         | true =>
          rw [hs] at heq;have HX:Hid (routesOk rs=false):=HFIN.out (by rw [HST2.out,dupV_mono (by rw [HDS.out,HSM.out]; exact hs) k (by omega)]; rfl);clear hs hp HA3 HB3;go_wp2_with fail
          go_ret;exact ⟨ret_bool HX.out.symm,HF3.out⟩
         | false =>
          rw [hs] at heq;have HX:Hid (dupV rs q (m+1)=false):=by unfold Hid; rw [HDS.out,HSM.out]; exact hs
          clear hs hp HA3 HB3;go_wp2_with fail
          go_roundw
          case rel=>exact ⟨m+1,by omega,by go_num,HX.out,HE3.out⟩
          case measure=>simp [intOf]; omega
        ·have hmk':m=k:=by omega
         subst hmk';have HX:Hid (rightN rs (m+1)=true):=by unfold Hid; rw [HST2.out,HD.out]; rfl
         go_wp2_with fail
         go_roundw
         case rel=>exact ⟨m+1,by omega,by go_num,HX.out,HW3.out⟩
         case measure=>simp [intOf]; omega
   ·have hkl:k=rs.length:=by omega
    subst hkl;go_wp2_with fail
    go_ret;exact ⟨ret_bool (by rw [HV.out,HK.out]),HL.out⟩
 ·have HV:Hid (routesOk rs=false):=by unfold Hid routesOk; rw [decide_eq_false h100]; rfl
  have h100':(100:Int) < (rs.length:Int):=by omega
  go_enter Tryz.func38,Tryz.ntmps38
  go_wp2_with fail
  go_ret;exact ⟨ret_bool HV.out.symm,Below.refl _ _⟩
end Go.Proofs.YthagnjokdnnmpaaGreat
