import Derived.Test.YthpopipedamciaaGreatMerged3
import Derived.RegionTactic
import Derived.BigQuiet
import Derived.Deep.QuietTactic
import Derived.Deep.DeepCutAuto
import Derived.Test.YthpopipedamciaaGreatMerged7
import Derived.Laws.StructEq
import Derived.Lib.QuietBelow
set_option linter.unusedVariables false
set_option linter.unusedSimpArgs false
set_option maxRecDepth 100000
set_option maxHeartbeats 8000000
namespace Go.Proofs.YthpopipedamciaaGreat
open Go.RowKit Go.PlainAid
def zerosN (f:Nat→Int) (k:Nat):Nat→Bool
 | 0=>true
 | n+1=>bitN f k==0&&zerosN f (k+1) n
def badP (s:ByteArray) (b:Int):Bool:=!(addrOk s&&decide (0≤b)&&decide (b≤8*(s.size:Int)))
def prefixOk (s:ByteArray) (b:Int):Bool:=addrOk s&&decide (0≤b)&&decide (b≤8*(s.size:Int))&&zerosN (bt s) b.toNat (8*s.size-b.toNat)
theorem zerosN_step (f:Nat→Int) (k m:Nat) (h:k < m):zerosN f k (m-k)=(bitN f k==0&&zerosN f (k+1) (m-(k+1))):=by
 obtain ⟨n,e⟩ : ∃ n,m-k=n+1:=⟨m-k-1,by omega⟩;rw [e,show m-(k+1)=n by omega]; rfl
theorem zerosN_end (f:Nat→Int) (k m:Nat) (h:m≤k):zerosN f k (m-k)=true:=by rw [show m-k=0 by omega]; rfl
theorem specPrefixRight_any (s:ByteArray) (b:Int) (w:World) (hs:s.size≤1048576) :
  Calls Tryz.prog 95 #[.agg #[.string s,.int .i64 b]] w fun e w'=>e=.returned (.bool (prefixOk s b))∧Below w.heap.size w w':=by
 have hc0:(w.alloc (.cells #[.string s,.int .i64 b] 30)).cell? ⟨w.heap.size,0,none⟩=some (.string s):=by simp
 have hc1:(w.alloc (.cells #[.string s,.int .i64 b] 30)).cell? ⟨w.heap.size,1,none⟩=some (.int .i64 b):=by simp
 have HB:Hid (Below w.heap.size w (w.alloc (.cells #[.string s,.int .i64 b] 30))):=(Below.refl _ _).alloc (Nat.le_refl _) _;go_enter Tryz.func95,Tryz.ntmps95
 go_upto_region 1 with fail
 generalize hW:w.alloc (.cells #[.string s,.int .i64 b] 30)=W at *;clear hW;go_cut [20] (fun v wx=>v=.bool (badP s b)∧∃ n,wx=W.drewN n)
 case first =>
  by_cases ha:addrOk s=true
  ·by_cases h0:0≤b
   ·by_cases h1:b≤8*(s.size:Int)
    ·have d0:decide (b < 0)=false:=by simpa using h0
     have d1:decide (8*(s.size:Int) < b)=false:=by simpa using h1
     go_quiet ((first | (go_at_call 132; exact Calls.quiet_of_same (specAddrRight_any _ _)) | (go_at_call 115; exact Calls.quiet_of_same (specBits_any _ _ hs))))
     go_wp2_with fail
     go_meet;exact ⟨by simp [badP,ha,h0,h1],_,rfl⟩
    ·have d0:decide (b < 0)=false:=by simpa using h0
     have d1:8*(s.size:Int) < b:=by omega
     go_quiet ((first | (go_at_call 132; exact Calls.quiet_of_same (specAddrRight_any _ _)) | (go_at_call 115; exact Calls.quiet_of_same (specBits_any _ _ hs))))
     go_wp2_with fail
     go_meet;exact ⟨by simp [badP,h1],_,rfl⟩
   ·have d0:b < 0:=by omega
    go_quiet ((first | (go_at_call 132; exact Calls.quiet_of_same (specAddrRight_any _ _)) | (go_at_call 115; exact Calls.quiet_of_same (specBits_any _ _ hs))))
    go_wp2_with fail
    go_meet;exact ⟨by simp [badP,h0],_,rfl⟩
  ·have ha':addrOk s=false:=by simpa using ha
   clear ha;go_quiet ((first | (go_at_call 132; exact Calls.quiet_of_same (specAddrRight_any _ _)) | (go_at_call 115; exact Calls.quiet_of_same (specBits_any _ _ hs))))
   go_wp2_with fail
   go_meet;exact ⟨by simp [badP,ha'],_,rfl⟩
 case rest =>
 obtain ⟨rfl,n,rfl⟩:=hcut;by_cases hok:(addrOk s&&decide (0≤b)&&decide (b≤8*(s.size:Int)))=true
 ·have hok':=hok;simp at hok';obtain ⟨⟨ha,h0⟩,h1⟩:=hok';have hbad:badP s b=false:=by unfold badP; rw [hok]; rfl
  obtain ⟨b,rfl⟩:=Int.eq_ofNat_of_zero_le h0;have HV:Hid (prefixOk s b=zerosN (bt s) b (8*s.size-b)):=by unfold Hid prefixOk; rw [hok]; simp
  clear ha hok;have HB2:Hid (Below w.heap.size w (W.drewN n)):=HB.out.trans ⟨rfl,rfl,rfl,Nat.le_refl _,fun _ _=>rfl⟩;have hd0:(W.drewN n).cell? ⟨w.heap.size,0,none⟩=some (.string s):=hc0;have hd1:(W.drewN n).cell? ⟨w.heap.size,1,none⟩=some (.int .i64 b):=hc1;generalize W.drewN n=W2 at *;clear hc0 hc1 HB;rw [hbad];clear hbad;go_wp2_with fail
  go_loop [3] (fun i=>∃ k:Nat,b≤k∧k≤8*s.size∧i=.int .i64 k∧zerosN (bt s) b (8*s.size-b)=zerosN (bt s) k (8*s.size-k)) (fun i=>8*s.size-(intOf i).toNat)
  case atStart=>exact ⟨b,Nat.le_refl _,by omega,rfl,rfl⟩
  case round =>
   obtain ⟨k,hk0,hk,rfl,hz⟩:=hrel;have HZ:Hid _:=hz;clear hz;by_cases hlt:k < 8*s.size
   ·have HS:Hid _:=zerosN_step (bt s) k (8*s.size) hlt;have hr:=bitN_range (bt s) k;by_cases hbit:bitN (bt s) k=1
    ·go_wp2_with (first | (go_at_call 115; refine (specBits_any s _ hs).mono ?_; rintro e w' ⟨rfl,rfl⟩) | (go_at_call 133; refine (specBit_any s k _ hlt hs).mono ?_; rintro e w' ⟨rfl,rfl⟩))
     go_ret;exact ⟨ret_bool (by rw [HV.out,HZ.out,HS.out,hbit]; rfl),HB2.out⟩
    ·have hb0:bitN (bt s) k=0:=by omega
     have hb':(bitN (bt s) k==1)=false:=by simp [hb0]
     have HB0:Hid (bitN (bt s) k=0):=hb0;clear hb0 hbit;go_wp2_with (first | (go_at_call 115; refine (specBits_any s _ hs).mono ?_; rintro e w' ⟨rfl,rfl⟩) | (go_at_call 133; refine (specBit_any s k _ hlt hs).mono ?_; rintro e w' ⟨rfl,rfl⟩))
     go_round
     case rel=>exact ⟨k+1,by omega,by omega,by go_num,by rw [HZ.out,HS.out,HB0.out]; rfl⟩
     case measure=>simp [intOf]; omega
   ·have HE:Hid _:=zerosN_end (bt s) k (8*s.size) (by omega);go_wp2_with (go_at_call 115; refine (specBits_any s _ hs).mono ?_; rintro e w' ⟨rfl,rfl⟩)
    go_ret;exact ⟨ret_bool (by rw [HV.out,HZ.out,HE.out]),HB2.out⟩
 ·have hok':(addrOk s&&decide (0≤b)&&decide (b≤8*(s.size:Int)))=false:=by simpa using hok
  have hbad:badP s b=true:=by unfold badP; rw [hok']; rfl
  have HV:Hid (prefixOk s b=false):=by unfold Hid prefixOk; rw [hok']; rfl
  clear hok hok';rw [hbad];clear hbad;go_wp2_with fail
  go_ret;exact ⟨ret_bool HV.out.symm,HB.out.trans ⟨rfl,rfl,rfl,Nat.le_refl _,fun _ _=>rfl⟩⟩
theorem prefixOk_le {s:ByteArray} {b:Int} (h:prefixOk s b=true):0≤b∧b≤8*(s.size:Int)∧(s.size=4∨s.size=16):=by
 simp [prefixOk] at h;exact ⟨h.1.1.2,h.1.2,addrOk_size h.1.1.1⟩
structure Rt where
 addr:ByteArray
 bits:Int
 hop:Int
def routeOk (q:Rt):Bool:=prefixOk q.addr q.bits&&decide (1≤q.hop)&&decide (q.hop≤1000)
section
variable (n:Nat) (l:List Rt)
end
structure RtsAt (w:World) (b off:Nat) (rs:List Rt):Prop where
 c0:∀ i (h:i < rs.length),w.cell? ⟨b,off+i*3,none⟩=some (.string rs[i].addr)
 c1:∀ i (h:i < rs.length),w.cell? ⟨b,off+i*3+1,none⟩=some (.int .i64 rs[i].bits)
 c2:∀ i (h:i < rs.length),w.cell? ⟨b,off+i*3+2,none⟩=some (.int .i64 rs[i].hop)
def RtsIn (rs:List Rt):Prop:=∀ q∈rs,q.addr.size≤1048576∧(-9223372036854775808≤q.bits∧q.bits≤9223372036854775807)∧(-9223372036854775808≤q.hop∧q.hop≤9223372036854775807)
theorem RtsAt.below {w W:World} {b off:Nat} {rs:List Rt} (h:RtsAt w b off rs) (hb:b < w.heap.size) (hB:Below w.heap.size w W):RtsAt W b off rs :=
 ⟨fun i hi=>((bcell hB).1 b _ hb).trans (h.c0 i hi),fun i hi=>((bcell hB).1 b _ hb).trans (h.c1 i hi),fun i hi=>((bcell hB).1 b _ hb).trans (h.c2 i hi)⟩
def samePfx (p q:Rt):Bool:=decide (p.addr.toList=q.addr.toList)&&decide (p.bits=q.bits)
def dupV (rs:List Rt) (q:Rt):Nat→Bool
 | 0=>false
 | k+1=>dupV rs q k||(match rs[k]? with
  | some p=>samePfx p q
  | none=>false)
def rightN (rs:List Rt):Nat→Bool
 | 0=>true
 | i+1=>rightN rs i&&(match rs[i]? with
  | some q=>routeOk q&&!dupV rs q i
  | none=>true)
def routesOk (rs:List Rt):Bool:=decide (rs.length≤100)&&rightN rs rs.length
theorem dupV_step {rs:List Rt} {q:Rt} {k:Nat} (h:k < rs.length):dupV rs q (k+1)=(dupV rs q k||samePfx rs[k] q):=by
 show (dupV rs q k||_)=_; rw [List.getElem?_eq_getElem h]
theorem rightN_step {rs:List Rt} {i:Nat} (h:i < rs.length):rightN rs (i+1)=(rightN rs i&&(routeOk rs[i]&&!dupV rs rs[i] i)):=by
 show (rightN rs i&&_)=_; rw [List.getElem?_eq_getElem h]
theorem rightN_mono {rs:List Rt} {i:Nat} (h:rightN rs i=false):∀ j,i≤j→rightN rs j=false:=by
 intro j hj;induction j with
 | zero=>rw [show i=0 by omega] at h; exact h
 | succ j ih =>
  by_cases e:i=j+1
  ·rw [← e]; exact h
  ·show (rightN rs j&&_)=false; rw [ih (by omega)]; rfl
theorem dupV_mono {rs:List Rt} {q:Rt} {i:Nat} (h:dupV rs q i=true):∀ j,i≤j→dupV rs q j=true:=by
 intro j hj;induction j with
 | zero=>rw [show i=0 by omega] at h; exact h
 | succ j ih =>
  by_cases e:i=j+1
  ·rw [← e]; exact h
  ·show (dupV rs q j||_)=true; rw [ih (by omega)]; rfl
theorem eqp_any (u v:ByteArray) (c d:Int) (W:World):(binOp .eql 30 (.agg #[.string u,.int .i64 c]) (.agg #[.string v,.int .i64 d])).run Tryz.prog W=.ok (.bool (decide (u.toList=v.toList)&&decide (c=d))) W:=by
 have h1:Tryz.prog.underlying 30=some (.struct (Tryz.prog.fieldsOf 30)):=by kernel_rfl
 have h2:Tryz.prog.stoodInHeld 30=false:=by kernel_rfl
 rw [run_eql_struct,run_equalIn_agg _ _ _ _ _ h1 h2];have h3:(Tryz.prog.fieldsOf 30).toList.length=2:=by kernel_rfl
 have h4 : ((Tryz.prog.fieldsOf 30).toList.map fun f => (f.type, f.offset, f.name == "_")) = [(9, 0, false), (2, 1, false)] := by kernel_rfl
 generalize (Tryz.prog.fieldsOf 30).toList=fs at *;match fs,h3 with
 | [f,g],_ =>
  simp at h4;obtain ⟨⟨a1,a2,a3⟩,b1,b2,b3⟩:=h4;have p0:∀ (u:ByteArray) (c:Int) W,(part 9 #[.string u,.int .i64 c] 0).run Tryz.prog W=.ok (.string u) W:=fun u c W=>by kernel_rfl
  have p1:∀ (u:ByteArray) (c:Int) W,(part 2 #[.string u,.int .i64 c] 1).run Tryz.prog W=.ok (.int .i64 c) W:=fun u c W=>by kernel_rfl
  simp [Op.eqFields,a1,a2,a3,b1,b2,b3,p0,p1,run_equalIn_string _ _ _ _ _ Tryz.underlying9,run_equalIn_int _ _ _ _ _ _ _ Tryz.underlying2];by_cases h:u.toList=v.toList<;>by_cases h':c=d<;>simp [h,h']
theorem specRoutesRight_any (rs:List Rt) (b off cap:Nat) (w:World) (hb:b < w.heap.size) (hin:RtsIn rs) (hr:RtsAt w b off rs) :
  Calls Tryz.prog 47 #[.slice (some ⟨b,off,none⟩) rs.length cap] w fun e w'=>e=.returned (.bool (routesOk rs))∧Below w.heap.size w w':=by
 have HR:Hid (RtsAt w b off rs):=hr;have HI:Hid (RtsIn rs):=hin;clear hr hin;by_cases h100:rs.length≤100
 ·have HV:Hid (routesOk rs=rightN rs rs.length):=by unfold Hid routesOk; rw [decide_eq_true h100]; rfl
  have h100':¬ (100:Int) < (rs.length:Int):=by omega
  go_enter Tryz.func47,Tryz.ntmps47
  go_wp2_with fail
  go_loopw [3] (fun i wr=>∃ k:Nat,k≤rs.length∧i=.int .i64 k∧rightN rs k=true∧Below w.heap.size w wr) (fun i _=>rs.length-(intOf i).toNat)
  case atStart=>exact ⟨0,Nat.zero_le _,rfl,rfl,Below.refl _ _⟩
  case round =>
   obtain ⟨k,hk,rfl,hrk,hbel⟩:=hrel;have HK:Hid (rightN rs k=true):=hrk;have HL:Hid (Below w.heap.size w wr):=hbel;clear hrk hbel;by_cases hlt:k < rs.length
   ·have HA:=HR.out.below hb HL.out;have c0:=HA.c0 k hlt;have c1:=HA.c1 k hlt;have c2:=HA.c2 k hlt;have hI:=HI.out rs[k] (List.getElem_mem hlt);obtain ⟨q,hq⟩ : ∃ q,q=rs[k]:=⟨_,rfl⟩;rw [← hq] at c0 c1 c2 hI;have HQ:Hid (q=rs[k]):=hq;obtain ⟨hI1,hI2,hI3⟩:=hI;have HP:Hid (∀ W,Calls Tryz.prog 95 #[.agg #[.string q.addr,.int .i64 q.bits]] W fun e w'=>e=.returned (.bool (prefixOk q.addr q.bits))∧Below W.heap.size W w'):=fun W=>specPrefixRight_any q.addr q.bits W hI1
    have HST:Hid (rightN rs (k+1)=(routeOk q&&!dupV rs q k)):=by unfold Hid; rw [rightN_step hlt,HK.out,← HQ.out]; rfl
    have HRO:Hid (routeOk q=(prefixOk q.addr q.bits&&decide (1≤q.hop)&&decide (q.hop≤1000))):=rfl;have HFIN:Hid (rightN rs (k+1)=false→routesOk rs=false):=fun h=>by rw [HV.out]; exact rightN_mono h _ (by omega)
    clear hq HA;go_wp2_with fail
    refine (HP.out _).mono ?_;rintro e w2 ⟨rfl,q2⟩;have HL2:Hid (Below w.heap.size w w2):=HL.out.trans (q2.mono HL.out.size);have HA2:Hid (RtsAt w2 b off rs):=HR.out.below hb HL2.out;clear q2 c0 c1 c2 HP;have c2:=HA2.out.c2 k hlt;rw [← HQ.out] at c2
    cases hok:prefixOk q.addr q.bits with
    | false =>
     have HX:Hid (routesOk rs=false):=HFIN.out (by rw [HST.out,HRO.out,hok]; rfl);clear hok;go_wp2_with fail
     go_ret;exact ⟨ret_bool HX.out.symm,HL2.out⟩
    | true =>
     by_cases p1:q.hop < 1
     ·have HX:Hid (routesOk rs=false):=HFIN.out (by rw [HST.out,HRO.out,hok,decide_eq_false (show ¬ 1≤q.hop by omega)]; rfl);clear hok;go_wp2_with fail
      go_ret;exact ⟨ret_bool HX.out.symm,HL2.out⟩
     ·by_cases p2:1000 < q.hop
      ·have HX:Hid (routesOk rs=false):=HFIN.out (by rw [HST.out,HRO.out,hok,decide_eq_false (show ¬ q.hop≤1000 by omega),Bool.and_false]; rfl);clear hok;go_wp2_with fail
       go_ret;exact ⟨ret_bool HX.out.symm,HL2.out⟩
      ·have HST2:Hid (rightN rs (k+1)=!dupV rs q k):=by unfold Hid; rw [HST.out,HRO.out,hok,decide_eq_true (show 1≤q.hop by omega),decide_eq_true (show q.hop≤1000 by omega)]; rfl
       have hcd:decide ((k:Int) < (rs.length:Int))=true:=by simp; omega
       clear hok HST HRO;go_wp2_with fail
       go_loopw [4] (fun j wi=>∃ m:Nat,m≤k∧j=.int .i64 m∧dupV rs q m=false∧Below w.heap.size w wi) (fun j _=>k-(intOf j).toNat)
       case atStart=>exact ⟨0,Nat.zero_le _,rfl,rfl,HL2.out⟩
       case round =>
        obtain ⟨m,hm,rfl,hdm,hbel⟩:=hrel;have HD:Hid (dupV rs q m=false):=hdm;have HL3:Hid (Below w.heap.size w wr):=hbel;clear hdm hbel;by_cases hmk:m < k
        ·have hml:m < rs.length:=by omega
         have HA3:=HR.out.below hb HL3.out;have d0:=HA3.c0 k hlt;have d1:=HA3.c1 k hlt;rw [← HQ.out] at d0 d1;have f0:=HA3.c0 m hml;have f1:=HA3.c1 m hml;obtain ⟨p,hp⟩ : ∃ p,p=rs[m]:=⟨_,rfl⟩;rw [← hp] at f0 f1;have heq:=eqp_any p.addr q.addr p.bits q.bits;have HDS:Hid (dupV rs q (m+1)=samePfx p q):=by unfold Hid; rw [dupV_step hml,HD.out,hp]; rfl
         have HSM:Hid (samePfx p q=(decide (p.addr.toList=q.addr.toList)&&decide (p.bits=q.bits))):=rfl
         cases hs:(decide (p.addr.toList=q.addr.toList)&&decide (p.bits=q.bits)) with
         | true =>
          rw [hs] at heq;have HX:Hid (routesOk rs=false):=HFIN.out (by rw [HST2.out,dupV_mono (by rw [HDS.out,HSM.out]; exact hs) k (by omega)]; rfl);clear hs hp HA3;go_wp2_with fail
          go_region
          all_goals
           go_wp2_with fail
           go_ret;exact ⟨ret_bool HX.out.symm,HL3.out.drew⟩
         | false =>
          rw [hs] at heq;have HX:Hid (dupV rs q (m+1)=false):=by unfold Hid; rw [HDS.out,HSM.out]; exact hs
          clear hs hp HA3;go_wp2_with fail
          go_region
          all_goals
           go_wp2_with fail
           go_roundw
           case rel=>exact ⟨m+1,by omega,by go_num,HX.out,HL3.out.drew⟩
           case measure=>simp [intOf]; omega
        ·have hmk':m=k:=by omega
         subst hmk';have HX:Hid (rightN rs (m+1)=true):=by unfold Hid; rw [HST2.out,HD.out]; rfl
         go_wp2_with fail
         go_roundw
         case rel=>exact ⟨m+1,by omega,by go_num,HX.out,HL3.out⟩
         case measure=>simp [intOf]; omega
   ·have hkl:k=rs.length:=by omega
    subst hkl;go_wp2_with fail
    go_ret;exact ⟨ret_bool (by rw [HV.out,HK.out]),HL.out⟩
 ·have HV:Hid (routesOk rs=false):=by unfold Hid routesOk; rw [decide_eq_false h100]; rfl
  have h100':(100:Int) < (rs.length:Int):=by omega
  go_enter Tryz.func47,Tryz.ntmps47
  go_wp2_with fail
  go_ret;exact ⟨ret_bool HV.out.symm,Below.refl _ _⟩
end Go.Proofs.YthpopipedamciaaGreat
