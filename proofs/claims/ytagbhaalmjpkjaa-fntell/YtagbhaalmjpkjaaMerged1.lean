import Derived.WalkKit
import Derived.PlainAid
import Derived.Laws.BitsLemmas
import Derived.Laws.Bits64
import Derived.Test.YtagbhaalmjpkjaaChecked
import Derived.Test.YtagbhaalmjpkjaaBase
import Derived.WalkLawsBesides
import Derived.RegionTactic
import Derived.ChangeAlike
import Derived.Test.YtagbhaalmjpkjaaDrawAddr
set_option linter.unusedVariables false
set_option linter.unusedSimpArgs false
set_option maxRecDepth 100000
set_option maxHeartbeats 8000000
namespace Go.Proofs.Ytagbhaalmjpkjaa
open Go.PlainAid
def add1 (a b:Int):Int:=if 65535 < a+b then a+b-65535 else a+b
theorem add1_range {a b:Int} (ha:0≤a) (ha':a≤65535) (hb:0≤b) (hb':b≤65535):0≤add1 a b∧add1 a b≤65535:=by
 unfold add1; split<;>omega
theorem wraps_i64 (n:Int) (h0:0≤n) (h1:n < 2 ^ 63):IntKind.i64.wrap n=n:=by rw [IntKind.wrap_i64]; omega
theorem join_word (a b:Int) (ha:0≤a) (ha':a≤255) (hb:0≤b) (hb':b≤255):bits .or .i64 (a*256) b=a*256+b :=
 bits_join .i64 63 (by decide) wraps_i64 8 (a*256) b (by omega) (by omega) (by omega) hb (by omega) (by omega)
theorem and_65535 (n:Int):bits .and .i64 n 65535=n % 65536:=by
 have h127:(BitVec.ofInt 64 65535).toNat=2 ^ 16-1:=by decide
 have key:(BitVec.ofInt 64 n &&& BitVec.ofInt 64 65535).toNat=(n % ((2 ^ 64:Nat):Int)).toNat % 2 ^ 16:=by
  rw [BitVec.toNat_and,BitVec.toNat_ofInt,h127,Nat.and_two_pow_sub_one_eq_mod]
 show IntKind.i64.wrap ((BitVec.ofInt 64 n &&& BitVec.ofInt 64 65535).toNat:Nat)=n % 65536;rw [key,IntKind.wrap_i64];omega
theorem fold_add (a b:Int) (ha:0≤a) (ha':a≤65535) (hb:0≤b) (hb':b≤65535):(a+b) % 65536+(a+b) / 65536=add1 a b:=by
 unfold add1; split<;>omega
def wordN (f:Nat→Int) (i:Nat):Int:=f i*256+f (i+1)
def sumN (f:Nat→Int):Nat→Int
 | 0=>0
 | k+1=>add1 (sumN f k) (wordN f (2*k))
def isByte (f:Nat→Int):Prop:=∀ i,0≤f i∧f i≤255
theorem wordN_range {f:Nat→Int} (h:isByte f) (i:Nat):0≤wordN f i∧wordN f i≤65535:=by
 have h1:=h i; have h2:=h (i+1); unfold wordN; omega
theorem sumN_range {f:Nat→Int} (h:isByte f) (k:Nat):0≤sumN f k∧sumN f k≤65535:=by
 induction k with
 | zero=>simp [sumN]
 | succ k ih=>have:=wordN_range h (2*k); exact add1_range ih.1 ih.2 this.1 this.2
theorem bt_isByte (s:ByteArray):isByte (bt s):=fun i=>⟨bt_nonneg s i,bt_le s i⟩
open Go.RowKit
theorem specAt_any (s:ByteArray) (k:Nat) (w:World) (hk:k+1 < s.size) (hs:s.size≤maxLen) :
  Calls Try.prog 50 #[.string s,.int .i64 k] w fun e w'=>e=.returned (.int .i64 (wordN (bt s) k))∧Below w.heap.size w w':=by
 unfold maxLen at hs;have hb:=get_bt s;have b1:=bt_isByte s k;have b2:=bt_isByte s (k+1);have hj:=join_word (bt s k) (bt s (k+1)) b1.1 b1.2 b2.1 b2.2;go_enter Try.func50,Try.ntmps50
 go_wp2
 go_region
 all_goals
  go_wp2
  go_ret;exact ⟨ret_int rfl,(Below.refl _ _).drew⟩
theorem tooLong_any (s:ByteArray) (w:World) :
  Calls Try.prog 33 #[.string s] w fun e w'=>e=.returned (.bool (decide ((20000:Int) < s.size)))∧w'=w:=by
 go_enter Try.func33,Try.ntmps33
 go_wp2
 go_ret;exact ⟨rfl,rfl⟩
theorem wordFromS_any (s:ByteArray) (k:Nat) (w:World) (hk:k < s.size) (hs:s.size≤maxLen) :
  Calls Try.prog 79 #[.string s,.int .i64 k] w fun e w'=>e=.returned (.int .i64 (wordN (bt s) k))∧w'=w:=by
 unfold maxLen at hs;have hb:=get_bt s;have b1:=bt_isByte s k;have b2:=bt_isByte s (k+1);have hj:=join_word (bt s k) (bt s (k+1)) b1.1 b1.2 b2.1 b2.2;by_cases h:k+1 < s.size
 ·go_enter Try.func79,Try.ntmps79
  go_wp2
  go_ret;exact ⟨ret_int rfl,rfl⟩
 ·have h2:¬ (k:Int)+1 < s.size:=by omega
  have HE:Hid (bt s (k+1)=0):=bt_end s (by omega);go_enter Try.func79,Try.ntmps79
  go_wp2
  go_ret;exact ⟨ret_int (by unfold wordN; rw [HE.out]; omega),rfl⟩
section
variable {w wx wy:World} {B len cap:Nat} {a:Option Addr} {size:Int}
structure Dr (w:World) (B:Nat) (a:Option Addr) (len cap:Nat) (size:Int) (wx:World):Prop where
 src:Src wx B a len cap size
 grown:w.grownBy wx (some B)
 hB:B < w.heap.size
theorem Dr.start (hs:Src w B a len cap size):Dr w B a len cap size w:=⟨hs,World.grownBy.refl _ _,by obtain ⟨_,_,_,h⟩:=hs; exact World.block_lt_of_cell? w _ h.cb⟩
theorem Dr.draw (h:Dr w B a len cap size wx) (hs:Src wy B a len cap size) (hg:wx.grownBy wy (some B)):Dr w B a len cap size wy:=⟨hs,grown_trans h.grown hg,h.hB⟩
theorem Dr.below (h:Dr w B a len cap size wx) (hb:Below wx.heap.size wx wy):Dr w B a len cap size wy:=⟨h.src.kept (grown_of_below (r:=none) hb) (by simp),grown_trans h.grown (grown_of_below hb),h.hB⟩
theorem Dr.alloc (h:Dr w B a len cap size wx) (o:Obj):Dr w B a len cap size (wx.alloc o):=h.below ((Below.refl _ _).alloc (Nat.le_refl _) o)
theorem Dr.set (h:Dr w B a len cap size wx) (R j:Nat) (v:Value) (hR:w.heap.size≤R):Dr w B a len cap size (wx.setCell ⟨R,j,none⟩ v) :=
 ⟨h.src.kept (grown_cell wx R j v) (fun k e=>by have:=h.hB; injection e with e; omega),grown_new h.grown hR,h.hB⟩
theorem Dr.le (h:Dr w B a len cap size wx):w.heap.size≤wx.heap.size:=h.grown.size
end
end Go.Proofs.Ytagbhaalmjpkjaa
