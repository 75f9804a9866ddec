import Derived.WalkKit
import Derived.PlainAid
import Derived.Laws.BitsLemmas
import Derived.Laws.Bits64
import Derived.Deep.QuietTactic
import Derived.Test.YtjpdljkjalnmhaaChecked
import Derived.WalkLawsBesides
import Derived.RegionTactic
import Derived.ChangeAlike
import Derived.Laws.IdiomStrings
import Derived.Deep.DeepCutAuto
set_option linter.unusedVariables false
set_option linter.unusedSimpArgs false
set_option maxRecDepth 100000
set_option maxHeartbeats 8000000
namespace Go.Proofs.Ytjpdljkjalnmhaa
open Go.PlainAid
def add1 (a b:Int):Int:=if 65535 < a+b then a+b-65535 else a+b
theorem add1_range {a b:Int} (ha:0≤a) (ha':a≤65535) (hb:0≤b) (hb':b≤65535):0≤add1 a b∧add1 a b≤65535:=by
 unfold add1; split<;>omega
theorem wraps_i64 (n:Int) (h0:0≤n) (h1:n < 2 ^ 63):IntKind.i64.wrap n=n:=by rw [IntKind.wrap_i64]; omega
theorem join_word (a b:Int) (ha:0≤a) (ha':a≤255) (hb:0≤b) (hb':b≤255):bits .or .i64 (a*256) b=a*256+b :=
 bits_join .i64 63 (by decide) wraps_i64 8 (a*256) b (by omega) (by omega) (by omega) hb (by omega) (by omega)
theorem and_65535 (n:Int):bits .and .i64 n 65535=n % 65536:=by
 have h127:(BitVec.ofInt 64 65535).toNat=2 ^ 16-1:=by decide
 have key:(BitVec.ofInt 64 n &&& BitVec.ofInt 64 65535).toNat=(n % ((2 ^ 64:Nat):Int)).toNat % 2 ^ 16:=by
  rw [BitVec.toNat_and,BitVec.toNat_ofInt,h127,Nat.and_two_pow_sub_one_eq_mod]
 show IntKind.i64.wrap ((BitVec.ofInt 64 n &&& BitVec.ofInt 64 65535).toNat:Nat)=n % 65536;rw [key,IntKind.wrap_i64];omega
theorem fold_add (a b:Int) (ha:0≤a) (ha':a≤65535) (hb:0≤b) (hb':b≤65535):(a+b) % 65536+(a+b) / 65536=add1 a b:=by
 unfold add1; split<;>omega
def wordN (f:Nat→Int) (i:Nat):Int:=f i*256+f (i+1)
def sumN (f:Nat→Int):Nat→Int
 | 0=>0
 | k+1=>add1 (sumN f k) (wordN f (2*k))
def isByte (f:Nat→Int):Prop:=∀ i,0≤f i∧f i≤255
theorem wordN_range {f:Nat→Int} (h:isByte f) (i:Nat):0≤wordN f i∧wordN f i≤65535:=by
 have h1:=h i; have h2:=h (i+1); unfold wordN; omega
theorem sumN_range {f:Nat→Int} (h:isByte f) (k:Nat):0≤sumN f k∧sumN f k≤65535:=by
 induction k with
 | zero=>simp [sumN]
 | succ k ih=>have:=wordN_range h (2*k); exact add1_range ih.1 ih.2 this.1 this.2
theorem bt_isByte (s:ByteArray):isByte (bt s):=fun i=>⟨bt_nonneg s i,bt_le s i⟩
end Go.Proofs.Ytjpdljkjalnmhaa
namespace Go.Proofs.Ytjpdljkjalnmhaa
open Go.RowKit
theorem ret_int {k:IntKind} {a b:Int} (h:a=b):Ending.returned (.int k a)=.returned (.int k b):=by rw [h]
theorem ret_bool {a b:Bool} (h:a=b):Ending.returned (.bool a)=.returned (.bool b):=by rw [h]
theorem grown_trans {w w1 w2:World} {r:Option Nat} (h:w.grownBy w1 r) (h2:w1.grownBy w2 r):w.grownBy w2 r :=
 ⟨h2.os.trans h.os,h2.tape.trans h.tape,h2.output.trans h.output,Nat.le_trans h.size h2.size,fun k hk hne=>(h2.block k (Nat.lt_of_lt_of_le hk h.size) hne).trans (h.block k hk hne)⟩
theorem grown_drew {w w1:World} {r:Option Nat} (h:w.grownBy w1 r):w.grownBy w1.drew r:=⟨h.os,h.tape,h.output,h.size,h.block⟩
theorem grown_set {w w1:World} {B o:Nat} (h:w.grownBy w1 (some B)) (v:Value):w.grownBy (w1.setCell ⟨B,o,none⟩ v) (some B) :=
 ⟨h.os,h.tape,h.output,by rw [World.size_setCell]; exact h.size,fun k hk hne=>(Below.heap_setCell w1 _ v k (fun e=>hne (by rw [e]))).trans (h.block k hk hne)⟩
theorem grown_of_below {w w1:World} {r:Option Nat} (h:Below w.heap.size w w1):w.grownBy w1 r:=⟨h.os,h.tape,h.output,h.size,fun k hk _=>h.block k hk⟩
theorem own_ne {w:World} {base e n B:Nat} {v:Value} {xs:List Value} (h:w.ownsRow base e 1 v n xs) (hB:B < base):v.ownBlock=none∨v.ownBlock≠some B:=by
 by_cases hv:v.ownBlock=some B
 ·have:=(h.lt B hv).1; omega
 ·exact .inr hv
theorem own_shape {w:World} {base e n:Nat} {v:Value} {xs:List Value} (h:w.ownsRow base e 1 v n xs) (hv:v≠.slice none 0 0):∃ g cap,v=.slice (some ⟨g,0,none⟩) n cap∧w.ownsRow base e 1 (.slice (some ⟨g,0,none⟩) n cap) n xs:=by
 rcases h.2 with ⟨h1,_⟩ | ⟨g,cap,cur,h1,_⟩
 ·exact absurd h1 hv
 ·subst h1; exact ⟨g,cap,rfl,h⟩
theorem bcell {W w1:World} (hb:Below W.heap.size W w1):(∀ b o,b < W.heap.size→w1.cell? ⟨b,o,none⟩=W.cell? ⟨b,o,none⟩)∧(∀ b o,b < W.heap.size→w1.frozen? ⟨b,o,none⟩=W.frozen? ⟨b,o,none⟩) :=
 ⟨fun b o h=>hb.cell (p:=⟨b,o,none⟩) h,fun b o h=>hb.frozen (p:=⟨b,o,none⟩) h⟩
open Go.PlainAid
theorem wordFromS_any (s:ByteArray) (k:Nat) (w:World) (hk:k < s.size) (hs:s.size≤maxLen) :
  Calls Try.prog 77 #[.string s,.int .i64 k] w fun e w'=>e=.returned (.int .i64 (wordN (bt s) k))∧w'=w:=by
 unfold maxLen at hs;have hb:=get_bt s;have b1:=bt_isByte s k;have b2:=bt_isByte s (k+1);have hj:=join_word (bt s k) (bt s (k+1)) b1.1 b1.2 b2.1 b2.2;by_cases h:k+1 < s.size
 ·go_enter Try.func77,Try.ntmps77
  go_wp2
  go_ret;exact ⟨ret_int rfl,rfl⟩
 ·have h2:¬ (k:Int)+1 < s.size:=by omega
  have HE:Hid (bt s (k+1)=0):=bt_end s (by omega);go_enter Try.func77,Try.ntmps77
  go_wp2
  go_ret;exact ⟨ret_int (by unfold wordN; rw [HE.out]; omega),rfl⟩
theorem specAdd_any (a b:Int) (w:World) (ha:0≤a) (ha':a≤65535) (hb:0≤b) (hb':b≤65535) :
  Calls Try.prog 58 #[.int .i64 a,.int .i64 b] w fun e w'=>e=.returned (.int .i64 (add1 a b))∧w'=w:=by
 by_cases h:65535 < a+b
 ·have HV:Hid (add1 a b=a+b-65535):=by unfold Hid add1; rw [if_pos h]
  go_enter Try.func58,Try.ntmps58
  go_wp2
  go_ret;exact ⟨ret_int HV.out.symm,rfl⟩
 ·have HV:Hid (add1 a b=a+b):=by unfold Hid add1; rw [if_neg h]
  go_enter Try.func58,Try.ntmps58
  go_wp2
  go_ret;exact ⟨ret_int HV.out.symm,rfl⟩
def sumV (s:ByteArray):Int:=sumN (bt s) ((s.size+1) / 2)
theorem sumV_range (s:ByteArray):0≤sumV s∧sumV s≤65535:=sumN_range (bt_isByte s) _
theorem specSum1_any (s:ByteArray) (w:World) (hs:s.size≤1048578) :
  Calls Try.prog 28 #[.string s] w fun e w'=>e=.returned (.int .i64 (sumV s))∧w'=w:=by
 have hb:=get_bt s;go_enter Try.func28,Try.ntmps28
 go_wp2
 go_loop [3,4] (fun n i=>∃ k:Nat,2*k≤s.size+1∧i=.int .i64 (2*(k:Int))∧n=.int .i64 (sumN (bt s) k)) (fun _ i=>s.size+2-(intOf i).toNat)
 case atStart=>exact ⟨0,Nat.zero_le _,rfl,rfl⟩
 case round =>
  obtain ⟨k,hk,rfl,rfl⟩:=hrel;have hr:=sumN_range (bt_isByte s) k;have hq:=wordN_range (bt_isByte s) (2*k);have HW:Hid (wordN (bt s) (2*k)=bt s (2*k)*256+bt s (2*k+1)):=rfl;have HN:Hid (sumN (bt s) (k+1)=add1 (sumN (bt s) k) (wordN (bt s) (2*k))):=rfl;have b1:=bt_isByte s (2*k);have b2:=bt_isByte s (2*k+1);have hj:=join_word (bt s (2*k)) (bt s (2*k+1)) b1.1 b1.2 b2.1 b2.2;by_cases hlt:2*k < s.size
  ·by_cases h2:2*k+1 < s.size
   ·go_wp2_with (go_at_call 58; refine (specAdd_any _ _ _ hr.1 hr.2 (by omega) (by omega)).mono ?_; rintro e w' ⟨rfl,rfl⟩)
    go_round
    case rel=>exact ⟨k+1,by omega,by go_num,by rw [HN.out,HW.out]⟩
    case measure=>simp [intOf]; omega
   ·have HE:Hid (bt s (2*k+1)=0):=bt_end s (by omega);go_wp2_with (go_at_call 58; refine (specAdd_any _ _ _ hr.1 hr.2 (by omega) (by omega)).mono ?_; rintro e w' ⟨rfl,rfl⟩)
    go_round
    case rel=>exact ⟨k+1,by omega,by go_num,by rw [HN.out,HW.out,HE.out,Int.add_zero]⟩
    case measure=>simp [intOf]; omega
  ·go_wp2
   go_ret;exact ⟨ret_int (by unfold sumV; rw [show (s.size+1) / 2=k by omega]),rfl⟩
theorem sumOfS_any (s:ByteArray) (w:World) (hs:s.size≤1048578) :
  Calls Try.prog 46 #[.string s] w fun e w'=>e=.returned (.int .i64 (sumV s))∧w'=w:=by
 have hs':s.size≤maxLen:=by unfold maxLen; omega
 go_enter Try.func46,Try.ntmps46
 go_wp2
 go_loop [3,9] (fun n i=>∃ k:Nat,k≤(s.size+1) / 2∧i=.int .i64 k∧n=.int .i64 (sumN (bt s) k)) (fun _ i=>(s.size+1) / 2-(intOf i).toNat)
 case atStart=>exact ⟨0,Nat.zero_le _,rfl,rfl⟩
 case round =>
  obtain ⟨k,hk,rfl,rfl⟩:=hrel;have hr:=sumN_range (bt_isByte s) k;have hq:=wordN_range (bt_isByte s) (2*k);have HN:Hid (sumN (bt s) (k+1)=add1 (sumN (bt s) k) (wordN (bt s) (2*k))):=rfl;have HF:Hid _:=fold_add (sumN (bt s) k) (wordN (bt s) (2*k)) hr.1 hr.2 hq.1 hq.2;have ha:=and_65535 (sumN (bt s) k+wordN (bt s) (2*k));by_cases hlt:k < (s.size+1) / 2
  ·have h2:2*k < s.size:=by omega
   go_wp2_with (go_at_call 77; refine (wordFromS_any s (2*k) _ h2 hs').mono ?_; rintro e w' ⟨rfl,rfl⟩)
   go_round
   case rel=>exact ⟨k+1,by omega,by go_num,by rw [HN.out,← HF.out]⟩
   case measure=>simp [intOf]; omega
  ·go_wp2
   go_ret;exact ⟨ret_int (by unfold sumV; rw [show (s.size+1) / 2=k by omega]),rfl⟩
def sumA (s:ByteArray):Int:=if s.size≤20000 then sumV s else 0
theorem specSum_any (s:ByteArray) (w:World) (hs:s.size≤maxLen) :
  Calls Try.prog 9 #[.string s] w fun e w'=>e=.returned (.int .i64 (sumA s))∧w'=w:=by
 unfold maxLen at hs;by_cases h:s.size≤20000
 ·have HV:Hid (sumA s=sumV s):=if_pos h;go_enter Try.func9,Try.ntmps9
  go_wp2_with (go_at_call 28; refine (specSum1_any s _ (by omega)).mono ?_; rintro e w' ⟨rfl,rfl⟩)
  go_ret;exact ⟨ret_int HV.out.symm,rfl⟩
 ·have HV:Hid (sumA s=0):=if_neg h;go_enter Try.func9,Try.ntmps9
  go_wp2
  go_ret;exact ⟨ret_int HV.out.symm,rfl⟩
def isW (n:Int):Bool:=decide (0≤n)&&decide (n≤65535)
theorem isW_yes {n:Int} (h0:0≤n) (h1:n≤65535):isW n=true:=by simp [isW,h0,h1]
theorem isW_no {n:Int} (h:¬ (0≤n∧n≤65535)):isW n=false:=by
 rw [Bool.eq_false_iff]; intro hh; simp [isW] at hh; exact h hh
theorem specWordIs_any (n:Int) (w:World) :
  Calls Try.prog 23 #[.int .i64 n] w fun e w'=>e=.returned (.bool (isW n))∧w'=w:=by
 by_cases h0:0≤n
 ·by_cases h1:n≤65535
  ·have HV:Hid (isW n=true):=isW_yes h0 h1;go_enter Try.func23,Try.ntmps23
   go_wp2
   go_ret;exact ⟨ret_bool HV.out.symm,rfl⟩
  ·have HV:Hid (isW n=false):=isW_no (fun h=>h1 h.2);go_enter Try.func23,Try.ntmps23
   go_wp2
   go_ret;exact ⟨ret_bool HV.out.symm,rfl⟩
 ·have HV:Hid (isW n=false):=isW_no (fun h=>h0 h.1);go_enter Try.func23,Try.ntmps23
  go_wp2
  go_ret;exact ⟨ret_bool HV.out.symm,rfl⟩
theorem implWordIs_any (n:Int) (w:World) :
  Calls Try.prog 17 #[.int .i64 n] w fun e w'=>e=.returned (.bool (isW n))∧w'=w:=by
 by_cases h0:0≤n
 ·by_cases h1:n≤65535
  ·have HV:Hid (isW n=true):=isW_yes h0 h1;go_enter Try.func17,Try.ntmps17
   go_wp2
   go_ret;exact ⟨ret_bool HV.out.symm,rfl⟩
  ·have HV:Hid (isW n=false):=isW_no (fun h=>h1 h.2);go_enter Try.func17,Try.ntmps17
   go_wp2
   go_ret;exact ⟨ret_bool HV.out.symm,rfl⟩
 ·have HV:Hid (isW n=false):=isW_no (fun h=>h0 h.1);go_enter Try.func17,Try.ntmps17
  go_wp2
  go_ret;exact ⟨ret_bool HV.out.symm,rfl⟩
section
variable {t:ByteArray} {j K:Nat} {n:Int}
end
structure P4 where
 tos:Int
 id:Int
 whole:Bool
 more:Bool
 off:Int
 ttl:Int
 proto:Int
 src:ByteArray
 dst:ByteArray
 opts:ByteArray
 data:ByteArray
structure P6 where
 cls:Int
 flow:Int
 next:Int
 hops:Int
 src:ByteArray
 dst:ByteArray
 piece:Bool
 more:Bool
 off:Int
 id:Int
 data:ByteArray
def isIn (n lo hi:Int):Bool:=decide (lo≤n)&&decide (n≤hi)
theorem isIn_parts {n lo hi:Int} (h:isIn n lo hi=true):lo≤n∧n≤hi:=by simpa [isIn] using h
def hlen (p:P4):Int:=20+p.opts.size
end Go.Proofs.Ytjpdljkjalnmhaa
namespace Go.Proofs.Ytjpdljkjalnmhaa
open Go.RowKit
structure Bd where
 proto:Int
 inn:ByteArray
 inPort:Int
 out:ByteArray
 outPort:Int
def bdC (p:Bd):Value:=.agg #[.int .i64 p.proto,.string p.inn,.int .i64 p.inPort,.string p.out,.int .i64 p.outPort]
def bdL (p:Bd):List Value:=[.int .i64 p.proto,.string p.inn,.int .i64 p.inPort,.string p.out,.int .i64 p.outPort]
theorem bdL_length (p:Bd):(bdL p).length=5:=rfl
instance:Inhabited Bd:=⟨⟨0,⟨#[]⟩,0,⟨#[]⟩,0⟩⟩
structure Ss where
 proto:Int
 inn:ByteArray
 inPort:Int
 peer:ByteArray
 peerPort:Int
 state:Int
 untl:Int
def ssC (p:Ss):Value:=.agg #[.int .i64 p.proto,.string p.inn,.int .i64 p.inPort,.string p.peer,.int .i64 p.peerPort,.int .i64 p.state,.int .i64 p.untl]
def ssL (p:Ss):List Value:=[.int .i64 p.proto,.string p.inn,.int .i64 p.inPort,.string p.peer,.int .i64 p.peerPort,.int .i64 p.state,.int .i64 p.untl]
theorem ssL_length (p:Ss):(ssL p).length=7:=rfl
instance:Inhabited Ss:=⟨⟨0,⟨#[]⟩,0,⟨#[]⟩,0,0,0⟩⟩
structure Tc where
 proto:Int
 inside:Bool
 addr:ByteArray
 port:Int
 peer:ByteArray
 peerPort:Int
 flags:Int
def tcC (p:Tc):Value:=.agg #[.int .i64 p.proto,.bool p.inside,.string p.addr,.int .i64 p.port,.string p.peer,.int .i64 p.peerPort,.int .i64 p.flags]
structure Lv where
 udp:Int
 echo:Int
 opening:Int
 opn:Int
 closing:Int
def lvC (l:Lv):Value:=.agg #[.int .i64 l.udp,.int .i64 l.echo,.int .i64 l.opening,.int .i64 l.opn,.int .i64 l.closing]
def lvL (l:Lv):List Value:=[.int .i64 l.udp,.int .i64 l.echo,.int .i64 l.opening,.int .i64 l.opn,.int .i64 l.closing]
def livesOk (l:Lv):Bool:=isIn l.udp 1 10000&&isIn l.echo 1 10000&&isIn l.opening 1 10000&&isIn l.opn 1 10000&&isIn l.closing 1 10000
def stillP (proto:Int):Bool:=decide (proto=17)||decide (proto=1)
def flagB (flags:Int) (m:Int):Bool:=decide (bits .and .i64 flags m≠0)
def trackNewV (proto:Int) (inside:Bool) (flags:Int):Int :=
 if isIn flags 0 255=false then 0 else if stillP proto=true then 3
 else if proto=6∧flagB flags 2=true∧flagB flags 4=false∧flagB flags 16=false then (if inside=true then 1 else 2) else 0
def trackNextV (proto state:Int) (inside:Bool) (flags:Int):Int :=
 if stillP proto=true then 3
 else if proto=6∧isIn state 1 7=true∧isIn flags 0 255=true then
  if flagB flags 4=true then 7
  else if state=1 then (if inside=false∧flagB flags 2=true then 3 else 1)
  else if state=2 then (if inside=true∧flagB flags 2=true then 3 else 2)
  else if state=3 then (if flagB flags 1=true then (if inside=true then 4 else 5) else 3)
  else if state=4 then (if inside=false∧flagB flags 1=true then 6 else 4)
  else if state=5 then (if inside=true∧flagB flags 1=true then 6 else 5)
  else if state=7 then 3 else state
 else 0
def trackLifeV (l:Lv) (proto state:Int):Int :=
 if livesOk l=false then 0
 else if proto=17 then l.udp else if proto=1 then l.echo else if proto=6 then
  (if state=1∨state=2 then l.opening else if state=3∨state=4∨state=5 then l.opn else if state=6∨state=7 then l.closing else 0)
 else 0
open Go.PlainAid
def addrOk (s:ByteArray):Bool:=s.size==4||s.size==16
theorem addrOk_size {s:ByteArray} (h:addrOk s=true):s.size=4∨s.size=16:=by simpa [addrOk] using h
theorem addrOk_yes {s:ByteArray} (h:s.size=4∨s.size=16):addrOk s=true:=by simpa [addrOk] using h
theorem addrOk_no {s:ByteArray} (h:¬ (s.size=4∨s.size=16)):addrOk s=false:=by
 rw [Bool.eq_false_iff]; intro hh; exact h (addrOk_size hh)
theorem specAddrRight_any (s:ByteArray) (w:World) :
  Calls Try.prog 22 #[.string s] w fun e w'=>e=.returned (.bool (addrOk s))∧w'=w:=by
 by_cases h4:s.size=4
 ·have HV:Hid (addrOk s=true):=addrOk_yes (.inl h4);have h4':(s.size:Int)=4:=by omega
  clear h4;go_enter Try.func22,Try.ntmps22
  go_wp2
  go_ret;exact ⟨ret_bool HV.out.symm,rfl⟩
 ·by_cases h16:s.size=16
  ·have HV:Hid (addrOk s=true):=addrOk_yes (.inr h16);have h16':(s.size:Int)=16:=by omega
   clear h16 h4;go_enter Try.func22,Try.ntmps22
   go_wp2
   go_ret;exact ⟨ret_bool HV.out.symm,rfl⟩
  ·have HV:Hid (addrOk s=false):=addrOk_no (by omega);have e1:((s.size:Int)==4)=false:=by simp; omega
   have e2:((s.size:Int)==16)=false:=by simp; omega
   go_enter Try.func22,Try.ntmps22
   go_wp2
   go_ret;exact ⟨ret_bool HV.out.symm,rfl⟩
end Go.Proofs.Ytjpdljkjalnmhaa
