import Derived.Test.YthagnjokdnnmpaaGreatMerged4
import Derived.Laws.StructEq
import Derived.BigQuiet
import Derived.Lib.QuietBelow
import Derived.Deep.DeepCutAuto
import Derived.Deep.RegionWith
import Derived.Test.YthagnjokdnnmpaaGreatMerged3
import Derived.Lib.LazyBuf
set_option linter.unusedVariables false
set_option linter.unusedSimpArgs false
set_option maxRecDepth 100000
set_option maxHeartbeats 8000000
namespace Go.Proofs.YthagnjokdnnmpaaGreat
open Go.RowKit Go.PlainAid
structure RtsAt (w:World) (b off:Nat) (rs:List Rt):Prop where
 c0:∀ i (h:i < rs.length),w.cell? ⟨b,off+i*3,none⟩=some (.string rs[i].addr)
 c1:∀ i (h:i < rs.length),w.cell? ⟨b,off+i*3+1,none⟩=some (.int .i64 rs[i].bits)
 c2:∀ i (h:i < rs.length),w.cell? ⟨b,off+i*3+2,none⟩=some (.int .i64 rs[i].hop)
def RtsIn (rs:List Rt):Prop:=∀ q∈rs,q.addr.size≤1048576∧(-9223372036854775808≤q.bits∧q.bits≤9223372036854775807)∧(-9223372036854775808≤q.hop∧q.hop≤9223372036854775807)
theorem RtsAt.below {w W:World} {b off:Nat} {rs:List Rt} (h:RtsAt w b off rs) (hb:b < w.heap.size) (hB:Below w.heap.size w W):RtsAt W b off rs :=
 ⟨fun i hi=>((bcell hB).1 b _ hb).trans (h.c0 i hi),fun i hi=>((bcell hB).1 b _ hb).trans (h.c1 i hi),fun i hi=>((bcell hB).1 b _ hb).trans (h.c2 i hi)⟩
def samePfx (p q:Rt):Bool:=decide (p.addr.toList=q.addr.toList)&&decide (p.bits=q.bits)
def dupV (rs:List Rt) (q:Rt):Nat→Bool
 | 0=>false
 | k+1=>dupV rs q k||(match rs[k]? with
  | some p=>samePfx p q
  | none=>false)
def rightN (rs:List Rt):Nat→Bool
 | 0=>true
 | i+1=>rightN rs i&&(match rs[i]? with
  | some q=>routeOk q&&!dupV rs q i
  | none=>true)
def routesOk (rs:List Rt):Bool:=decide (rs.length≤100)&&rightN rs rs.length
theorem dupV_step {rs:List Rt} {q:Rt} {k:Nat} (h:k < rs.length):dupV rs q (k+1)=(dupV rs q k||samePfx rs[k] q):=by
 show (dupV rs q k||_)=_; rw [List.getElem?_eq_getElem h]
theorem rightN_step {rs:List Rt} {i:Nat} (h:i < rs.length):rightN rs (i+1)=(rightN rs i&&(routeOk rs[i]&&!dupV rs rs[i] i)):=by
 show (rightN rs i&&_)=_; rw [List.getElem?_eq_getElem h]
theorem rightN_mono {rs:List Rt} {i:Nat} (h:rightN rs i=false):∀ j,i≤j→rightN rs j=false:=by
 intro j hj;induction j with
 | zero=>rw [show i=0 by omega] at h; exact h
 | succ j ih =>
  by_cases e:i=j+1
  ·rw [← e]; exact h
  ·show (rightN rs j&&_)=false; rw [ih (by omega)]; rfl
theorem dupV_mono {rs:List Rt} {q:Rt} {i:Nat} (h:dupV rs q i=true):∀ j,i≤j→dupV rs q j=true:=by
 intro j hj;induction j with
 | zero=>rw [show i=0 by omega] at h; exact h
 | succ j ih =>
  by_cases e:i=j+1
  ·rw [← e]; exact h
  ·show (dupV rs q j||_)=true; rw [ih (by omega)]; rfl
theorem eqp_any (u v:ByteArray) (c d:Int) (W:World):(binOp .eql 30 (.agg #[.string u,.int .i64 c]) (.agg #[.string v,.int .i64 d])).run Tryz.prog W=.ok (.bool (decide (u.toList=v.toList)&&decide (c=d))) W:=by
 have h1:Tryz.prog.underlying 30=some (.struct (Tryz.prog.fieldsOf 30)):=by kernel_rfl
 have h2:Tryz.prog.stoodInHeld 30=false:=by kernel_rfl
 rw [run_eql_struct,run_equalIn_agg _ _ _ _ _ h1 h2];have h3:(Tryz.prog.fieldsOf 30).toList.length=2:=by kernel_rfl
 have h4 : ((Tryz.prog.fieldsOf 30).toList.map fun f => (f.type, f.offset, f.name == "_")) = [(9, 0, false), (2, 1, false)] := by kernel_rfl
 generalize (Tryz.prog.fieldsOf 30).toList=fs at *;match fs,h3 with
 | [f,g],_ =>
  simp at h4;obtain ⟨⟨a1,a2,a3⟩,b1,b2,b3⟩:=h4;have p0:∀ (u:ByteArray) (c:Int) W,(part 9 #[.string u,.int .i64 c] 0).run Tryz.prog W=.ok (.string u) W:=fun u c W=>by kernel_rfl
  have p1:∀ (u:ByteArray) (c:Int) W,(part 2 #[.string u,.int .i64 c] 1).run Tryz.prog W=.ok (.int .i64 c) W:=fun u c W=>by kernel_rfl
  simp [Op.eqFields,a1,a2,a3,b1,b2,b3,p0,p1,run_equalIn_string _ _ _ _ _ Tryz.underlying9,run_equalIn_int _ _ _ _ _ _ _ Tryz.underlying2];by_cases h:u.toList=v.toList<;>by_cases h':c=d<;>simp [h,h']
theorem specRoutesRight_any (rs:List Rt) (b off cap:Nat) (w:World) (hb:b < w.heap.size) (hin:RtsIn rs) (hr:RtsAt w b off rs) :
  Calls Tryz.prog 81 #[.slice (some ⟨b,off,none⟩) rs.length cap] w fun e w'=>e=.returned (.bool (routesOk rs))∧Below w.heap.size w w':=by
 have HR:Hid (RtsAt w b off rs):=hr;have HI:Hid (RtsIn rs):=hin;clear hr hin;by_cases h100:rs.length≤100
 ·have HV:Hid (routesOk rs=rightN rs rs.length):=by unfold Hid routesOk; rw [decide_eq_true h100]; rfl
  have h100':¬ (100:Int) < (rs.length:Int):=by omega
  go_enter Tryz.func81,Tryz.ntmps81
  go_wp2_with fail
  go_loopw [3] (fun i wr=>∃ k:Nat,k≤rs.length∧i=.int .i64 k∧rightN rs k=true∧Below w.heap.size w wr) (fun i _=>rs.length-(intOf i).toNat)
  case atStart=>exact ⟨0,Nat.zero_le _,rfl,rfl,Below.refl _ _⟩
  case round =>
   obtain ⟨k,hk,rfl,hrk,hbel⟩:=hrel;have HK:Hid (rightN rs k=true):=hrk;have HL:Hid (Below w.heap.size w wr):=hbel;clear hrk hbel;by_cases hlt:k < rs.length
   ·have HA:=HR.out.below hb HL.out;have c0:=HA.c0 k hlt;have c1:=HA.c1 k hlt;have c2:=HA.c2 k hlt;have hI:=HI.out rs[k] (List.getElem_mem hlt);obtain ⟨q,hq⟩ : ∃ q,q=rs[k]:=⟨_,rfl⟩;rw [← hq] at c0 c1 c2 hI;have HQ:Hid (q=rs[k]):=hq;obtain ⟨hI1,hI2,hI3⟩:=hI;have HP:Hid (∀ W,Calls Tryz.prog 112 #[.agg #[.string q.addr,.int .i64 q.bits]] W fun e w'=>e=.returned (.bool (prefixOk q.addr q.bits))∧Below W.heap.size W w'):=fun W=>specPrefixRight_any q.addr q.bits W hI1
    have HST:Hid (rightN rs (k+1)=(routeOk q&&!dupV rs q k)):=by unfold Hid; rw [rightN_step hlt,HK.out,← HQ.out]; rfl
    have HRO:Hid (routeOk q=(prefixOk q.addr q.bits&&decide (1≤q.hop)&&decide (q.hop≤1000))):=rfl;have HFIN:Hid (rightN rs (k+1)=false→routesOk rs=false):=fun h=>by rw [HV.out]; exact rightN_mono h _ (by omega)
    clear hq HA;go_wp2_with fail
    refine (HP.out _).mono ?_;rintro e w2 ⟨rfl,q2⟩;have HL2:Hid (Below w.heap.size w w2):=HL.out.trans (q2.mono HL.out.size);have HA2:Hid (RtsAt w2 b off rs):=HR.out.below hb HL2.out;clear q2 c0 c1 c2 HP;have c2:=HA2.out.c2 k hlt;rw [← HQ.out] at c2
    cases hok:prefixOk q.addr q.bits with
    | false =>
     have HX:Hid (routesOk rs=false):=HFIN.out (by rw [HST.out,HRO.out,hok]; rfl);clear hok;go_wp2_with fail
     go_ret;exact ⟨ret_bool HX.out.symm,HL2.out⟩
    | true =>
     by_cases p1:q.hop < 1
     ·have HX:Hid (routesOk rs=false):=HFIN.out (by rw [HST.out,HRO.out,hok,decide_eq_false (show ¬ 1≤q.hop by omega)]; rfl);clear hok;go_wp2_with fail
      go_ret;exact ⟨ret_bool HX.out.symm,HL2.out⟩
     ·by_cases p2:1000 < q.hop
      ·have HX:Hid (routesOk rs=false):=HFIN.out (by rw [HST.out,HRO.out,hok,decide_eq_false (show ¬ q.hop≤1000 by omega),Bool.and_false]; rfl);clear hok;go_wp2_with fail
       go_ret;exact ⟨ret_bool HX.out.symm,HL2.out⟩
      ·have HST2:Hid (rightN rs (k+1)=!dupV rs q k):=by unfold Hid; rw [HST.out,HRO.out,hok,decide_eq_true (show 1≤q.hop by omega),decide_eq_true (show q.hop≤1000 by omega)]; rfl
       have hcd:decide ((k:Int) < (rs.length:Int))=true:=by simp; omega
       clear hok HST HRO;go_wp2_with fail
       go_loopw [4] (fun j wi=>∃ m:Nat,m≤k∧j=.int .i64 m∧dupV rs q m=false∧Below w.heap.size w wi) (fun j _=>k-(intOf j).toNat)
       case atStart=>exact ⟨0,Nat.zero_le _,rfl,rfl,HL2.out⟩
       case round =>
        obtain ⟨m,hm,rfl,hdm,hbel⟩:=hrel;have HD:Hid (dupV rs q m=false):=hdm;have HL3:Hid (Below w.heap.size w wr):=hbel;clear hdm hbel;by_cases hmk:m < k
        ·have hml:m < rs.length:=by omega
         have HA3:=HR.out.below hb HL3.out;have d0:=HA3.c0 k hlt;have d1:=HA3.c1 k hlt;rw [← HQ.out] at d0 d1;have f0:=HA3.c0 m hml;have f1:=HA3.c1 m hml;obtain ⟨p,hp⟩ : ∃ p,p=rs[m]:=⟨_,rfl⟩;rw [← hp] at f0 f1;have heq:=eqp_any p.addr q.addr p.bits q.bits;have HDS:Hid (dupV rs q (m+1)=samePfx p q):=by unfold Hid; rw [dupV_step hml,HD.out,hp]; rfl
         have HSM:Hid (samePfx p q=(decide (p.addr.toList=q.addr.toList)&&decide (p.bits=q.bits))):=rfl
         cases hs:(decide (p.addr.toList=q.addr.toList)&&decide (p.bits=q.bits)) with
         | true =>
          rw [hs] at heq;have HX:Hid (routesOk rs=false):=HFIN.out (by rw [HST2.out,dupV_mono (by rw [HDS.out,HSM.out]; exact hs) k (by omega)]; rfl);clear hs hp HA3;go_wp2_with fail
          go_region
          all_goals
           go_wp2_with fail
           go_ret;exact ⟨ret_bool HX.out.symm,HL3.out.drew⟩
         | false =>
          rw [hs] at heq;have HX:Hid (dupV rs q (m+1)=false):=by unfold Hid; rw [HDS.out,HSM.out]; exact hs
          clear hs hp HA3;go_wp2_with fail
          go_region
          all_goals
           go_wp2_with fail
           go_roundw
           case rel=>exact ⟨m+1,by omega,by go_num,HX.out,HL3.out.drew⟩
           case measure=>simp [intOf]; omega
        ·have hmk':m=k:=by omega
         subst hmk';have HX:Hid (rightN rs (m+1)=true):=by unfold Hid; rw [HST2.out,HD.out]; rfl
         go_wp2_with fail
         go_roundw
         case rel=>exact ⟨m+1,by omega,by go_num,HX.out,HL3.out⟩
         case measure=>simp [intOf]; omega
   ·have hkl:k=rs.length:=by omega
    subst hkl;go_wp2_with fail
    go_ret;exact ⟨ret_bool (by rw [HV.out,HK.out]),HL.out⟩
 ·have HV:Hid (routesOk rs=false):=by unfold Hid routesOk; rw [decide_eq_false h100]; rfl
  have h100':(100:Int) < (rs.length:Int):=by omega
  go_enter Tryz.func81,Tryz.ntmps81
  go_wp2_with fail
  go_ret;exact ⟨ret_bool HV.out.symm,Below.refl _ _⟩
theorem implAddrRight_any (s:ByteArray) (w:World) :
  Calls Tryz.prog 117 #[.string s] w fun e w'=>e=.returned (.bool (addrOk s))∧w'=w:=by
 by_cases h4:s.size=4
 ·have HV:Hid (addrOk s=true):=addrOk_yes (.inl h4);have h4':(s.size:Int)=4:=by omega
  clear h4;go_enter Tryz.func117,Tryz.ntmps117
  go_wp2
  go_ret;exact ⟨ret_bool HV.out.symm,rfl⟩
 ·by_cases h16:s.size=16
  ·have HV:Hid (addrOk s=true):=addrOk_yes (.inr h16);have h16':(s.size:Int)=16:=by omega
   clear h16 h4;go_enter Tryz.func117,Tryz.ntmps117
   go_wp2
   go_ret;exact ⟨ret_bool HV.out.symm,rfl⟩
  ·have HV:Hid (addrOk s=false):=addrOk_no (by omega);have e1:((s.size:Int)==4)=false:=by simp; omega
   have e2:((s.size:Int)==16)=false:=by simp; omega
   go_enter Tryz.func117,Tryz.ntmps117
   go_wp2
   go_ret;exact ⟨ret_bool HV.out.symm,rfl⟩
theorem implBits_any (s:ByteArray) (w:World) (hs:s.size≤1048576) :
  Calls Tryz.prog 118 #[.string s] w fun e w'=>e=.returned (.int .i64 (8*(s.size:Int)))∧w'=w:=by
 go_enter Tryz.func118,Tryz.ntmps118
 go_wp2
 go_ret;exact ⟨rfl,rfl⟩
def firstF (s:ByteArray) (b:Nat) (i:Nat):Int:=if i < b / 8 then bt s i else if i=b / 8∧b % 8≠0 then bits .andNot .u8 (bt s i) (255 / 2 ^ (b % 8)) else 0
def firstV (s:ByteArray) (b:Nat):ByteArray:=bytesOf s.size (firstF s b)
theorem andNot8 (x y:Int):0≤bits .andNot .u8 x y∧bits .andNot .u8 x y≤255:=by
 show 0≤IntKind.u8.wrap _∧IntKind.u8.wrap _≤255;rw [IntKind.wrap_u8]; omega
theorem firstF_byte (s:ByteArray) (b:Nat):isByte (firstF s b):=fun i=>by
 unfold firstF;split
 ·exact bt_isByte s i
 ·split
  ·exact andNot8 _ _
  ·omega
theorem Holds.setCells {w:World} {B n:Nat} {f:Nat→Int} (h:Holds w B n f) (t:ByteArray) (ht:t.size≤n):Holds (w.setCells B 0 (t.data.toList.map fun x=>Value.int .u8 (x.toNat:Int))) B n (fun i=>if i < t.size then bt t i else f i):=by
 have hl:(t.data.toList.map fun x=>Value.int .u8 (x.toNat:Int)).length=t.size:=by rw [List.length_map,Array.length_toList]; rfl
 refine ⟨fun i hi=>⟨?_,by rw [World.frozen?_setCells]; exact (h.get i hi).2⟩⟩;by_cases e:i < t.size
 ·have:=World.cell?_setCells_in B (t.data.toList.map fun x=>Value.int .u8 (x.toNat:Int)) 0 w (fun j hj=>by rw [Nat.zero_add,(h.get j (by rw [hl] at hj; omega)).1]; rfl) i (by rw [hl]; exact e);rw [Nat.zero_add] at this;show _=some (Value.int .u8 (if i < t.size then bt t i else f i));rw [if_pos e,this,← get_bt t i e,ByteArray.getElem_eq_getElem_data];simp
 ·show _=some (Value.int .u8 (if i < t.size then bt t i else f i));rw [if_neg e,World.cell?_setCells_out B _ 0 w _ (fun _ _=>.inr (by rw [hl]; show 0+t.size≤i; omega))];exact (h.get i hi).1
theorem holds_zeros (w:World) (n:Nat) (t:TypeId):Holds (w.alloc (.cells (Array.replicate n (.int .u8 0)) t)) w.heap.size n (fun _=>0) :=
 ⟨fun i hi=>⟨by simp [hi],by simp⟩⟩
theorem Holds.drew {w:World} {B n:Nat} {f:Nat→Int} (h:Holds w B n f):Holds w.drew B n f:=⟨h.get⟩
theorem Holds.conv_to {w:World} {B n cap m:Nat} {f:Nat→Int} (h:Holds w B n f) (hm:m≤n) (hf:isByte f) :
  (convert 22 9 (.slice (some ⟨B,0,none⟩) m cap)).run Tryz.prog w=.ok (.string (bytesOf m f)) w :=
 Holds.conv (n:=m) ⟨fun i hi=>h.get i (by omega)⟩ hf
theorem Tryz.size8 (w:World):(Go.sizeOf 5).run Tryz.prog w=.ok 1 w:=by
 have h:(Tryz.prog.info? 5).map (fun i=>i.size)=some 1:=by kernel_rfl
 cases hq:Tryz.prog.info? 5 with
 | none=>simp [hq] at h
 | some i=>simp [hq] at h; simp [sizeOf,typeInfo,hq,h]
theorem extract_size (s:ByteArray) (k:Nat) (hk:k≤s.size):(s.extract 0 k).size=k:=by rw [ByteArray.size_extract]; omega
theorem extract_bt (s:ByteArray) (k i:Nat) (hk:k≤s.size) (hi:i < k):bt (s.extract 0 k) i=bt s i:=by
 unfold bt;rw [dif_pos (by rw [extract_size s k hk]; exact hi),dif_pos (by omega),ByteArray.getElem_extract];simp
theorem extract_map (s:ByteArray) (k:Nat):((s.extract 0 k).data.toList.map fun x:UInt8=>Value.int .u8 (x.toNat:Int))=List.take k (List.map (fun x:UInt8=>Value.int .u8 (x.toNat:Int)) s.data.toList):=by simp
theorem Holds.congr {w:World} {B n:Nat} {f g:Nat→Int} (h:Holds w B n f) (e:∀ i,i < n→f i=g i):Holds w B n g:=⟨fun i hi=>by rw [← e i hi]; exact h.get i hi⟩
theorem implFirst_any (s:ByteArray) (b:Nat) (w:World) (hs:s.size≤16) (hb:b≤8*s.size) :
  Calls Tryz.prog 119 #[.string s,.int .i64 b] w fun e w'=>e=.returned (.string (firstV s b))∧Below w.heap.size w w':=by
 have hw8:b / 8≤s.size:=by omega
 have hw8':(b:Int) / 8≤(s.size:Int):=by omega
 have hw0':0≤(b:Int) / 8:=by omega
 have hgb:=get_bt s;have hh0:=holds_zeros w 16 191;have HB0:Hid (Below w.heap.size w (w.alloc (.cells (Array.replicate 16 (.int .u8 0)) 191))):=(Below.refl _ _).alloc (Nat.le_refl _) _;go_enter Tryz.func119,Tryz.ntmps119
 go_wp2_with fail
 rw [show w.alloc (.cells #[.int .u8 0,.int .u8 0,.int .u8 0,.int .u8 0,.int .u8 0,.int .u8 0,.int .u8 0,.int .u8 0,.int .u8 0,.int .u8 0,.int .u8 0,.int .u8 0,.int .u8 0,.int .u8 0,.int .u8 0,.int .u8 0] 191)=w.alloc (.cells (Array.replicate 16 (.int .u8 0)) 191) from rfl];generalize hW:w.alloc (.cells (Array.replicate 16 (.int .u8 0)) 191)=W at *;clear hW;have hts:=extract_size s (b / 8) hw8;have hnat:((b:Int) / 8).toNat=b / 8:=by omega
 have HV:Hid (∀ i,firstF s b i=if i < b / 8 then bt s i else if i=b / 8∧b % 8≠0 then bits .andNot .u8 (bt s i) (255 / 2 ^ (b % 8)) else 0):=fun i=>rfl
 have HFB:Hid (isByte (firstF s b)):=firstF_byte s b;go_region_law (refine step_copy_string rfl (.tmp 10) (.tmp 13) 22 9 rfl 5 Tryz.underlying22 Tryz.size8 w.heap.size 0 16 16 (by simp [Act.eval,Act.put]) (s.extract 0 (b / 8)) (by simp [Act.eval,Act.put,hnat]) (by omega) (fun j hj=>by rw [Nat.zero_add,(hh0.drew.get j (by omega)).1]; rfl) (fun j hj=>by rw [Nat.zero_add]; exact (hh0.drew.get j (by omega)).2) ?_)
 have hh1:=hh0.drew.setCells (s.extract 0 (b / 8)) (by omega);have HB1:Hid (Below w.heap.size w (W.drew.setCells w.heap.size 0 ((s.extract 0 (b / 8)).data.toList.map fun x=>Value.int .u8 (x.toNat:Int)))):=below_setCells (Nat.le_refl _) _ _ _ HB0.out.drew;rw [extract_map] at hh1 HB1;replace hh1:=hh1.congr (g:=fun i=>if i < b / 8 then bt s i else 0) (fun i _=>by
  rw [hts];by_cases h:i < b / 8
  ·rw [if_pos h,if_pos h,extract_bt s _ i hw8 h]
  ·rw [if_neg h,if_neg h])
 generalize W.drew.setCells w.heap.size 0 (List.take (b / 8) (List.map (fun x:UInt8=>Value.int .u8 (x.toNat:Int)) s.data.toList))=W1 at hh1 HB1 ⊢;clear hh0 HB0 hts hw8';have HH1:Hid (Holds W1 w.heap.size 16 (fun i=>if i < b / 8 then bt s i else 0)):=hh1;have hz16:(s.size:Int)≤16:=by omega
 by_cases hr:b % 8=0
 ·have hr':(b:Int) % 8=0:=by omega
  have hcv:=(hh1.congr (g:=firstF s b) (fun i _=>by
   rw [HV.out];by_cases h:i < b / 8
   ·rw [if_pos h,if_pos h]
   ·rw [if_neg h,if_neg h,if_neg (fun hh=>hh.2 hr)])).conv_to (cap:=16) (m:=s.size) hs HFB.out
  clear hh1 hr;go_wp2_with fail
  go_ret;exact ⟨rfl,HB1.out⟩
 ·have hr':(0:Int) < (b:Int) % 8:=by omega
  have hlt:b / 8 < s.size:=by omega
  have hlt':(b:Int) / 8 < (s.size:Int):=by omega
  have hc:=hh1.get (b / 8) (by omega);obtain ⟨hc1,hc2⟩:=hc;have HS:Hid _:=(HH1.out.set (b / 8) (by omega) (bits .andNot .u8 (bt s (b / 8)) (255 / 2 ^ (b % 8)))).drew;clear hh1;have hrn:((b:Int) % 8).toNat=b % 8:=by omega
  go_wp2_with fail
  go_region
  have HB2:Hid (Below w.heap.size w (W1.setCell ⟨w.heap.size,b / 8,none⟩ (.int .u8 (bits .andNot .u8 (bt s (b / 8)) (255 / 2 ^ (b % 8))))).drew):=(HB1.out.setCell (by simp) _).drew;generalize (W1.setCell ⟨w.heap.size,b / 8,none⟩ (.int .u8 (bits .andNot .u8 (bt s (b / 8)) (255 / 2 ^ (b % 8))))).drew=W2 at HS HB2 ⊢;have hcv:=(HS.out.congr (g:=firstF s b) (fun i _=>by
   rw [HV.out];by_cases h:i < b / 8
   ·rw [if_neg (by omega),if_pos h,if_pos h]
   ·by_cases h2:i=b / 8
    ·rw [if_pos h2,if_neg h,if_pos ⟨h2,hr⟩,h2]
    ·rw [if_neg h2,if_neg h,if_neg h,if_neg (fun hh=>h2 hh.1)])).conv_to (cap:=16) (m:=s.size) hs HFB.out
  clear HS HH1;go_wp2_with fail
  go_ret;exact ⟨rfl,HB2.out⟩
end Go.Proofs.YthagnjokdnnmpaaGreat
