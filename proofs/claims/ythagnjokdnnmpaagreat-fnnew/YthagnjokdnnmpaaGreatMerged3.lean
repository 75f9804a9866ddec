import Derived.WalkKit
import Derived.PlainAid
import Derived.Laws.BitsLemmas
import Derived.Laws.Bits64
import Derived.Test.YthagnjokdnnmpaaGreatProg
import Derived.Test.YthagnjokdnnmpaaGreatMerged1
import Derived.WalkLawsBesides
import Derived.RegionTactic
import Derived.ChangeAlike
import Derived.Test.YthagnjokdnnmpaaGreatMerged2
import Derived.BigQuiet
import Derived.Deep.QuietTactic
import Derived.Deep.DeepCutAuto
import Derived.Laws.IdiomStrings
set_option linter.unusedVariables false
set_option linter.unusedSimpArgs false
set_option maxRecDepth 100000
set_option maxHeartbeats 8000000
namespace Go.Proofs.YthagnjokdnnmpaaGreat
open Go.PlainAid
def isByte (f:Nat→Int):Prop:=∀ i,0≤f i∧f i≤255
theorem bt_isByte (s:ByteArray):isByte (bt s):=fun i=>⟨bt_nonneg s i,bt_le s i⟩
open Go.RowKit
section
variable {w wx wy:World} {B len cap:Nat} {a:Option Addr} {size:Int}
structure Dr (w:World) (B:Nat) (a:Option Addr) (len cap:Nat) (size:Int) (wx:World):Prop where
 src:Src wx B a len cap size
 grown:w.grownBy wx (some B)
 hB:B < w.heap.size
theorem Dr.start (hs:Src w B a len cap size):Dr w B a len cap size w:=⟨hs,World.grownBy.refl _ _,by obtain ⟨_,_,_,h⟩:=hs; exact World.block_lt_of_cell? w _ h.cb⟩
theorem Dr.draw (h:Dr w B a len cap size wx) (hs:Src wy B a len cap size) (hg:wx.grownBy wy (some B)):Dr w B a len cap size wy:=⟨hs,grown_trans h.grown hg,h.hB⟩
theorem Dr.below (h:Dr w B a len cap size wx) (hb:Below wx.heap.size wx wy):Dr w B a len cap size wy:=⟨h.src.kept (grown_of_below (r:=none) hb) (by simp),grown_trans h.grown (grown_of_below hb),h.hB⟩
theorem Dr.alloc (h:Dr w B a len cap size wx) (o:Obj):Dr w B a len cap size (wx.alloc o):=h.below ((Below.refl _ _).alloc (Nat.le_refl _) o)
theorem Dr.set (h:Dr w B a len cap size wx) (R j:Nat) (v:Value) (hR:w.heap.size≤R):Dr w B a len cap size (wx.setCell ⟨R,j,none⟩ v) :=
 ⟨h.src.kept (grown_cell wx R j v) (fun k e=>by have:=h.hB; injection e with e; omega),grown_new h.grown hR,h.hB⟩
theorem Dr.le (h:Dr w B a len cap size wx):w.heap.size≤wx.heap.size:=h.grown.size
end
def addrOk (s:ByteArray):Bool:=s.size==4||s.size==16
theorem addrOk_size {s:ByteArray} (h:addrOk s=true):s.size=4∨s.size=16:=by simpa [addrOk] using h
theorem addrOk_yes {s:ByteArray} (h:s.size=4∨s.size=16):addrOk s=true:=by simpa [addrOk] using h
theorem addrOk_no {s:ByteArray} (h:¬ (s.size=4∨s.size=16)):addrOk s=false:=by
 rw [Bool.eq_false_iff]; intro hh; exact h (addrOk_size hh)
theorem specAddrRight_any (s:ByteArray) (w:World) :
  Calls Tryz.prog 137 #[.string s] w fun e w'=>e=.returned (.bool (addrOk s))∧w'=w:=by
 by_cases h4:s.size=4
 ·have HV:Hid (addrOk s=true):=addrOk_yes (.inl h4);have h4':(s.size:Int)=4:=by omega
  clear h4;go_enter Tryz.func137,Tryz.ntmps137
  go_wp2
  go_ret;exact ⟨ret_bool HV.out.symm,rfl⟩
 ·by_cases h16:s.size=16
  ·have HV:Hid (addrOk s=true):=addrOk_yes (.inr h16);have h16':(s.size:Int)=16:=by omega
   clear h16 h4;go_enter Tryz.func137,Tryz.ntmps137
   go_wp2
   go_ret;exact ⟨ret_bool HV.out.symm,rfl⟩
  ·have HV:Hid (addrOk s=false):=addrOk_no (by omega);have e1:((s.size:Int)==4)=false:=by simp; omega
   have e2:((s.size:Int)==16)=false:=by simp; omega
   go_enter Tryz.func137,Tryz.ntmps137
   go_wp2
   go_ret;exact ⟨ret_bool HV.out.symm,rfl⟩
theorem specBits_any (s:ByteArray) (w:World) (hs:s.size≤1048576) :
  Calls Tryz.prog 109 #[.string s] w fun e w'=>e=.returned (.int .i64 (8*(s.size:Int)))∧w'=w:=by
 go_enter Tryz.func109,Tryz.ntmps109
 go_wp2
 go_ret;exact ⟨rfl,rfl⟩
theorem and_1 (n:Int):bits .and .i64 n 1=n % 2:=by
 have h127:(BitVec.ofInt 64 1).toNat=2 ^ 1-1:=by decide
 have key:(BitVec.ofInt 64 n &&& BitVec.ofInt 64 1).toNat=(n % ((2 ^ 64:Nat):Int)).toNat % 2 ^ 1:=by
  rw [BitVec.toNat_and,BitVec.toNat_ofInt,h127,Nat.and_two_pow_sub_one_eq_mod]
 show IntKind.i64.wrap ((BitVec.ofInt 64 n &&& BitVec.ofInt 64 1).toNat:Nat)=n % 2;rw [key,IntKind.wrap_i64];omega
theorem bit_of (x:Int) (m:Nat) (h0:0≤x) (h1:x≤255):bits .and .i64 (wrap64 (x / 2 ^ m)) 1=x / 2 ^ m % 2:=by
 have a0:0≤x / 2 ^ m:=Int.ediv_nonneg h0 (Int.le_of_lt (Int.pow_pos (by decide)));have a1:x / 2 ^ m≤x:=Int.ediv_le_self _ h0;rw [IntWalk.wrap64_in _ ⟨by omega,by omega⟩,and_1]
def bitN (f:Nat→Int) (k:Nat):Int:=f (k / 8) / 2 ^ (7-k % 8) % 2
theorem bitN_range (f:Nat→Int) (k:Nat):0≤bitN f k∧bitN f k≤1:=by unfold bitN; omega
theorem specBit_any (s:ByteArray) (k:Nat) (w:World) (hk:k < 8*s.size) (hs:s.size≤1048576) :
  Calls Tryz.prog 138 #[.string s,.int .i64 k] w fun e w'=>e=.returned (.int .i64 (bitN (bt s) k))∧w'=w:=by
 have hb:=get_bt s;have b1:=bt_isByte s (k / 8);have HB:Hid _:=bit_of (bt s (k / 8)) (7-k % 8) b1.1 b1.2;go_enter Tryz.func138,Tryz.ntmps138
 go_wp2
 go_ret;exact ⟨ret_int HB.out,rfl⟩
def zerosN (f:Nat→Int) (k:Nat):Nat→Bool
 | 0=>true
 | n+1=>bitN f k==0&&zerosN f (k+1) n
def badP (s:ByteArray) (b:Int):Bool:=!(addrOk s&&decide (0≤b)&&decide (b≤8*(s.size:Int)))
def prefixOk (s:ByteArray) (b:Int):Bool:=addrOk s&&decide (0≤b)&&decide (b≤8*(s.size:Int))&&zerosN (bt s) b.toNat (8*s.size-b.toNat)
theorem zerosN_step (f:Nat→Int) (k m:Nat) (h:k < m):zerosN f k (m-k)=(bitN f k==0&&zerosN f (k+1) (m-(k+1))):=by
 obtain ⟨n,e⟩ : ∃ n,m-k=n+1:=⟨m-k-1,by omega⟩;rw [e,show m-(k+1)=n by omega]; rfl
theorem zerosN_end (f:Nat→Int) (k m:Nat) (h:m≤k):zerosN f k (m-k)=true:=by rw [show m-k=0 by omega]; rfl
theorem specPrefixRight_any (s:ByteArray) (b:Int) (w:World) (hs:s.size≤1048576) :
  Calls Tryz.prog 112 #[.agg #[.string s,.int .i64 b]] w fun e w'=>e=.returned (.bool (prefixOk s b))∧Below w.heap.size w w':=by
 have hc0:(w.alloc (.cells #[.string s,.int .i64 b] 30)).cell? ⟨w.heap.size,0,none⟩=some (.string s):=by simp
 have hc1:(w.alloc (.cells #[.string s,.int .i64 b] 30)).cell? ⟨w.heap.size,1,none⟩=some (.int .i64 b):=by simp
 have HB:Hid (Below w.heap.size w (w.alloc (.cells #[.string s,.int .i64 b] 30))):=(Below.refl _ _).alloc (Nat.le_refl _) _;go_enter Tryz.func112,Tryz.ntmps112
 go_upto_region 1 with fail
 generalize hW:w.alloc (.cells #[.string s,.int .i64 b] 30)=W at *;clear hW;go_cut [20] (fun v wx=>v=.bool (badP s b)∧∃ n,wx=W.drewN n)
 case first =>
  by_cases ha:addrOk s=true
  ·by_cases h0:0≤b
   ·by_cases h1:b≤8*(s.size:Int)
    ·have d0:decide (b < 0)=false:=by simpa using h0
     have d1:decide (8*(s.size:Int) < b)=false:=by simpa using h1
     go_quiet ((first | (go_at_call 137; exact Calls.quiet_of_same (specAddrRight_any _ _)) | (go_at_call 109; exact Calls.quiet_of_same (specBits_any _ _ hs))))
     go_wp2_with fail
     go_meet;exact ⟨by simp [badP,ha,h0,h1],_,rfl⟩
    ·have d0:decide (b < 0)=false:=by simpa using h0
     have d1:8*(s.size:Int) < b:=by omega
     go_quiet ((first | (go_at_call 137; exact Calls.quiet_of_same (specAddrRight_any _ _)) | (go_at_call 109; exact Calls.quiet_of_same (specBits_any _ _ hs))))
     go_wp2_with fail
     go_meet;exact ⟨by simp [badP,h1],_,rfl⟩
   ·have d0:b < 0:=by omega
    go_quiet ((first | (go_at_call 137; exact Calls.quiet_of_same (specAddrRight_any _ _)) | (go_at_call 109; exact Calls.quiet_of_same (specBits_any _ _ hs))))
    go_wp2_with fail
    go_meet;exact ⟨by simp [badP,h0],_,rfl⟩
  ·have ha':addrOk s=false:=by simpa using ha
   clear ha;go_quiet ((first | (go_at_call 137; exact Calls.quiet_of_same (specAddrRight_any _ _)) | (go_at_call 109; exact Calls.quiet_of_same (specBits_any _ _ hs))))
   go_wp2_with fail
   go_meet;exact ⟨by simp [badP,ha'],_,rfl⟩
 case rest =>
 obtain ⟨rfl,n,rfl⟩:=hcut;by_cases hok:(addrOk s&&decide (0≤b)&&decide (b≤8*(s.size:Int)))=true
 ·have hok':=hok;simp at hok';obtain ⟨⟨ha,h0⟩,h1⟩:=hok';have hbad:badP s b=false:=by unfold badP; rw [hok]; rfl
  obtain ⟨b,rfl⟩:=Int.eq_ofNat_of_zero_le h0;have HV:Hid (prefixOk s b=zerosN (bt s) b (8*s.size-b)):=by unfold Hid prefixOk; rw [hok]; simp
  clear ha hok;have HB2:Hid (Below w.heap.size w (W.drewN n)):=HB.out.trans ⟨rfl,rfl,rfl,Nat.le_refl _,fun _ _=>rfl⟩;have hd0:(W.drewN n).cell? ⟨w.heap.size,0,none⟩=some (.string s):=hc0;have hd1:(W.drewN n).cell? ⟨w.heap.size,1,none⟩=some (.int .i64 b):=hc1;generalize W.drewN n=W2 at *;clear hc0 hc1 HB;rw [hbad];clear hbad;go_wp2_with fail
  go_loop [3] (fun i=>∃ k:Nat,b≤k∧k≤8*s.size∧i=.int .i64 k∧zerosN (bt s) b (8*s.size-b)=zerosN (bt s) k (8*s.size-k)) (fun i=>8*s.size-(intOf i).toNat)
  case atStart=>exact ⟨b,Nat.le_refl _,by omega,rfl,rfl⟩
  case round =>
   obtain ⟨k,hk0,hk,rfl,hz⟩:=hrel;have HZ:Hid _:=hz;clear hz;by_cases hlt:k < 8*s.size
   ·have HS:Hid _:=zerosN_step (bt s) k (8*s.size) hlt;have hr:=bitN_range (bt s) k;by_cases hbit:bitN (bt s) k=1
    ·go_wp2_with (first | (go_at_call 109; refine (specBits_any s _ hs).mono ?_; rintro e w' ⟨rfl,rfl⟩) | (go_at_call 138; refine (specBit_any s k _ hlt hs).mono ?_; rintro e w' ⟨rfl,rfl⟩))
     go_ret;exact ⟨ret_bool (by rw [HV.out,HZ.out,HS.out,hbit]; rfl),HB2.out⟩
    ·have hb0:bitN (bt s) k=0:=by omega
     have hb':(bitN (bt s) k==1)=false:=by simp [hb0]
     have HB0:Hid (bitN (bt s) k=0):=hb0;clear hb0 hbit;go_wp2_with (first | (go_at_call 109; refine (specBits_any s _ hs).mono ?_; rintro e w' ⟨rfl,rfl⟩) | (go_at_call 138; refine (specBit_any s k _ hlt hs).mono ?_; rintro e w' ⟨rfl,rfl⟩))
     go_round
     case rel=>exact ⟨k+1,by omega,by omega,by go_num,by rw [HZ.out,HS.out,HB0.out]; rfl⟩
     case measure=>simp [intOf]; omega
   ·have HE:Hid _:=zerosN_end (bt s) k (8*s.size) (by omega);go_wp2_with (go_at_call 109; refine (specBits_any s _ hs).mono ?_; rintro e w' ⟨rfl,rfl⟩)
    go_ret;exact ⟨ret_bool (by rw [HV.out,HZ.out,HE.out]),HB2.out⟩
 ·have hok':(addrOk s&&decide (0≤b)&&decide (b≤8*(s.size:Int)))=false:=by simpa using hok
  have hbad:badP s b=true:=by unfold badP; rw [hok']; rfl
  have HV:Hid (prefixOk s b=false):=by unfold Hid prefixOk; rw [hok']; rfl
  clear hok hok';rw [hbad];clear hbad;go_wp2_with fail
  go_ret;exact ⟨ret_bool HV.out.symm,HB.out.trans ⟨rfl,rfl,rfl,Nat.le_refl _,fun _ _=>rfl⟩⟩
theorem prefixOk_le {s:ByteArray} {b:Int} (h:prefixOk s b=true):0≤b∧b≤8*(s.size:Int)∧(s.size=4∨s.size=16):=by
 simp [prefixOk] at h;exact ⟨h.1.1.2,h.1.2,addrOk_size h.1.1.1⟩
def bytesOf (n:Nat) (f:Nat→Int):ByteArray:=⟨((List.range n).map fun i=>UInt8.ofNat (f i).toNat).toArray⟩
theorem bytesOf_size (n:Nat) (f:Nat→Int):(bytesOf n f).size=n:=by simp [bytesOf,ByteArray.size]
theorem bytesOf_bt {n:Nat} {f:Nat→Int} {i:Nat} (hi:i < n) (h0:0≤f i) (h1:f i≤255):bt (bytesOf n f) i=f i:=by
 have hs:=bytesOf_size n f;unfold bt;rw [dif_pos (by omega),ByteArray.getElem_eq_getElem_data];simp only [bytesOf,List.getElem_toArray,List.getElem_map,List.getElem_range,UInt8.toNat_ofNat'];omega
theorem ba_ext {a b:ByteArray} (hs:a.size=b.size) (h:∀ i,i < a.size→bt a i=bt b i):a=b:=by
 apply ByteArray.ext;apply Array.ext
 ·exact hs
 ·intro i h1 h2;have hi:=h i h1;unfold bt at hi;rw [dif_pos (show i < a.size from h1),dif_pos (show i < b.size from h2),ByteArray.getElem_eq_getElem_data,ByteArray.getElem_eq_getElem_data] at hi;exact UInt8.toNat_inj.1 (by exact_mod_cast hi)
structure Holds (w:World) (B n:Nat) (f:Nat→Int):Prop where
 get:∀ i,i < n→w.cell? ⟨B,i,none⟩=some (.int .u8 (f i))∧w.frozen? ⟨B,i,none⟩=false
theorem Holds.set {w:World} {B n:Nat} {f:Nat→Int} (h:Holds w B n f) (j:Nat) (hj:j < n) (x:Int):Holds (w.setCell ⟨B,j,none⟩ (.int .u8 x)) B n (fun i=>if i=j then x else f i):=by
 refine ⟨fun i hi=>⟨?_,by rw [World.frozen?_setCell]; exact (h.get i hi).2⟩⟩;by_cases e:i=j
 ·subst e; show _=some (Value.int .u8 (if i=i then x else f i)); rw [if_pos rfl]; exact World.cell?_setCell_same _ _ _ (h.get i hi).1
 ·show _=some (Value.int .u8 (if i=j then x else f i)); rw [if_neg e,World.cell?_setCell_other _ _ _ _ (fun e2=>e (by injection e2 with _ h2; exact h2.symm))]; exact (h.get i hi).1
theorem Holds.conv {w:World} {B n cap:Nat} {f:Nat→Int} (h:Holds w B n f) (hf:isByte f) :
  (convert 22 9 (.slice (some ⟨B,0,none⟩) n cap)).run Tryz.prog w=.ok (.string (bytesOf n f)) w:=by
 have hl:((List.range n).map fun i=>UInt8.ofNat (f i).toNat).length=n:=by simp
 have:=run_convert_bytes_back (P:=Tryz.prog) w 22 9 5 ⟨B,0,none⟩ cap ((List.range n).map fun i=>UInt8.ofNat (f i).toNat) Tryz.underlying22 Tryz.underlying5 Tryz.underlying9 (by
  intro j hj;have hj':j < n:=by simpa using hj
  have ha:Addr.add ⟨B,0,none⟩ j=⟨B,j,none⟩:=by simp only [Addr.add,Nat.zero_add]; split<;>simp_all
  rw [ha,(h.get j hj').1];have:=hf j;simp only [List.getElem_map,List.getElem_range,UInt8.toNat_ofNat'];congr 2; omega)
 rw [hl] at this;exact this
theorem bytes_new (w:World) (s:ByteArray):∃ cap W2,(convert 9 22 (.string s)).run Tryz.prog w=.ok (.slice (some ⟨w.heap.size,0,none⟩) s.size cap) W2∧Holds W2 w.heap.size s.size (bt s)∧Below w.heap.size w W2∧s.size≤cap:=by
 refine ⟨grownCap w s.size 0 5,_,run_bytes_of_string (P:=Tryz.prog) w 9 22 5 s Tryz.underlying9 Tryz.underlying22 Tryz.underlying5,?_,?_,?_⟩
 ·refine ⟨fun i hi=>?_⟩;have hz:(bytesRow s (grownCap w s.size 0 5)).size=s.size+(grownCap w s.size 0 5-s.size):=by unfold bytesRow; rw [Array.size_append,Array.size_map,Array.size_replicate]; rfl
  constructor
  ·refine (World.cell?_alloc_mark w.drew _ _ _ i).trans ?_;rw [bytesRow_at s _ i hi,← get_bt s i hi]; rfl
  ·refine (World.frozen?_alloc_mark w.drew _ _ _ _ i).trans ?_;simp; omega
 ·exact (Below.refl _ w).drew.alloc (Nat.le_refl _) _
 ·exact grownCap_ge _ _ _ _
def posE (at1 k:Nat):Nat:=if at1≤8∧8≤at1+k then at1+k+1 else at1+k
def natBits (b:Int):Bool:=b==96||(decide (32≤b)&&decide (b≤64)&&b % 8==0)
def natOk (s:ByteArray) (b:Int):Bool:=prefixOk s b&&s.size==16&&natBits b
theorem specNat_any (s:ByteArray) (b:Int) (w:World) (hs:s.size≤1048576) :
  Calls Tryz.prog 82 #[.agg #[.string s,.int .i64 b]] w fun e w'=>e=.returned (.bool (natOk s b))∧Below w.heap.size w w':=by
 have hB:Hid (Below w.heap.size w (w.alloc (.cells #[.string s,.int .i64 b] 30))):=(Below.refl _ _).alloc (Nat.le_refl _) _;by_cases hp:prefixOk s b=true
 ·obtain ⟨hb0,hb1,hsz⟩:=prefixOk_le hp;by_cases h16:s.size=16
  ·have HV:Hid (natOk s b=natBits b):=by unfold Hid natOk; simp [hp,h16]
   have e16:((s.size:Int)==16)=true:=by simp; omega
   have hb1':b≤128:=by omega
   clear hsz h16 hb1;go_enter Tryz.func82,Tryz.ntmps82
   go_wp2_with fail
   refine (specPrefixRight_any s b _ hs).mono ?_;rw [hp];rintro e w1 ⟨rfl,hb1⟩;obtain ⟨hc,hf⟩:=bcell hb1;have HB1:Hid _:=hB.out.trans (hb1.mono (by simp));clear hf hb1 hp;by_cases h96:b=96
   ·have HN:Hid (natBits b=true):=by unfold Hid natBits; simp [h96]
    have e96:(b==96)=true:=by simp [h96]
    clear h96;go_wp2
    go_ret;exact ⟨ret_bool (by rw [HV.out,HN.out]),HB1.out⟩
   ·have e96:(b==96)=false:=by simp [h96]
    by_cases h32:32≤b
    ·by_cases h64:b≤64
     ·have HN:Hid (natBits b=(b % 8==0)):=by unfold Hid natBits; simp [h96,h32,h64]
      go_wp2
      go_ret;exact ⟨ret_bool (by rw [HV.out,HN.out]),HB1.out⟩
     ·have HN:Hid (natBits b=false):=by unfold Hid natBits; simp [h96,h64]
      have e64:decide (b≤64)=false:=by simpa using h64
      go_wp2
      go_ret;exact ⟨ret_bool (by rw [HV.out,HN.out]),HB1.out⟩
    ·have HN:Hid (natBits b=false):=by unfold Hid natBits; simp [h96,h32]
     have e32:decide (32≤b)=false:=by simpa using h32
     go_wp2
     go_ret;exact ⟨ret_bool (by rw [HV.out,HN.out]),HB1.out⟩
  ·have HV:Hid (natOk s b=false):=by unfold Hid natOk; simp [h16]
   have e16:((s.size:Int)==16)=false:=by simp; omega
   go_enter Tryz.func82,Tryz.ntmps82
   go_wp2_with fail
   refine (specPrefixRight_any s b _ hs).mono ?_;rw [hp];rintro e w1 ⟨rfl,hb1⟩;obtain ⟨hc,hf⟩:=bcell hb1;have HB1:Hid _:=hB.out.trans (hb1.mono (by simp));clear hf hb1;go_wp2
   go_ret;exact ⟨ret_bool HV.out.symm,HB1.out⟩
 ·have hp':prefixOk s b=false:=by simpa using hp
  have HV:Hid (natOk s b=false):=by unfold Hid natOk; simp [hp']
  go_enter Tryz.func82,Tryz.ntmps82
  go_wp2_with fail
  refine (specPrefixRight_any s b _ hs).mono ?_;rw [hp'];rintro e w1 ⟨rfl,hb1⟩;have HB1:Hid _:=hB.out.trans (hb1.mono (by simp));clear hb1;go_wp2
  go_ret;exact ⟨ret_bool HV.out.symm,HB1.out⟩
end Go.Proofs.YthagnjokdnnmpaaGreat
