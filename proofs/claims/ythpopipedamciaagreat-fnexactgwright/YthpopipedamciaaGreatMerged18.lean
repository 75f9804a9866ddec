import Derived.Test.YthpopipedamciaaGreatMerged8
import Derived.Deep.RegionWith
import Derived.Test.YthpopipedamciaaGreatMerged9
import Derived.Test.YthpopipedamciaaGreatMerged13
import Derived.Lib.LazyBuf
set_option linter.unusedVariables false
set_option linter.unusedSimpArgs false
set_option maxRecDepth 100000
set_option maxHeartbeats 8000000
namespace Go.Proofs.YthpopipedamciaaGreat
open Go.RowKit Go.PlainAid
def firstF (s:ByteArray) (b:Nat) (i:Nat):Int:=if i < b / 8 then bt s i else if i=b / 8∧b % 8≠0 then bits .andNot .u8 (bt s i) (255 / 2 ^ (b % 8)) else 0
def firstV (s:ByteArray) (b:Nat):ByteArray:=bytesOf s.size (firstF s b)
theorem andNot8 (x y:Int):0≤bits .andNot .u8 x y∧bits .andNot .u8 x y≤255:=by
 show 0≤IntKind.u8.wrap _∧IntKind.u8.wrap _≤255;rw [IntKind.wrap_u8]; omega
theorem firstF_byte (s:ByteArray) (b:Nat):isByte (firstF s b):=fun i=>by
 unfold firstF;split
 ·exact bt_isByte s i
 ·split
  ·exact andNot8 _ _
  ·omega
theorem Holds.setCells {w:World} {B n:Nat} {f:Nat→Int} (h:Holds w B n f) (t:ByteArray) (ht:t.size≤n):Holds (w.setCells B 0 (t.data.toList.map fun x=>Value.int .u8 (x.toNat:Int))) B n (fun i=>if i < t.size then bt t i else f i):=by
 have hl:(t.data.toList.map fun x=>Value.int .u8 (x.toNat:Int)).length=t.size:=by rw [List.length_map,Array.length_toList]; rfl
 refine ⟨fun i hi=>⟨?_,by rw [World.frozen?_setCells]; exact (h.get i hi).2⟩⟩;by_cases e:i < t.size
 ·have:=World.cell?_setCells_in B (t.data.toList.map fun x=>Value.int .u8 (x.toNat:Int)) 0 w (fun j hj=>by rw [Nat.zero_add,(h.get j (by rw [hl] at hj; omega)).1]; rfl) i (by rw [hl]; exact e);rw [Nat.zero_add] at this;show _=some (Value.int .u8 (if i < t.size then bt t i else f i));rw [if_pos e,this,← get_bt t i e,ByteArray.getElem_eq_getElem_data];simp
 ·show _=some (Value.int .u8 (if i < t.size then bt t i else f i));rw [if_neg e,World.cell?_setCells_out B _ 0 w _ (fun _ _=>.inr (by rw [hl]; show 0+t.size≤i; omega))];exact (h.get i hi).1
theorem holds_zeros (w:World) (n:Nat) (t:TypeId):Holds (w.alloc (.cells (Array.replicate n (.int .u8 0)) t)) w.heap.size n (fun _=>0) :=
 ⟨fun i hi=>⟨by simp [hi],by simp⟩⟩
theorem Holds.drew {w:World} {B n:Nat} {f:Nat→Int} (h:Holds w B n f):Holds w.drew B n f:=⟨h.get⟩
theorem Holds.conv_to {w:World} {B n cap m:Nat} {f:Nat→Int} (h:Holds w B n f) (hm:m≤n) (hf:isByte f) :
  (convert 22 9 (.slice (some ⟨B,0,none⟩) m cap)).run Tryz.prog w=.ok (.string (bytesOf m f)) w :=
 Holds.conv (n:=m) ⟨fun i hi=>h.get i (by omega)⟩ hf
theorem Tryz.size8 (w:World):(Go.sizeOf 5).run Tryz.prog w=.ok 1 w:=by
 have h:(Tryz.prog.info? 5).map (fun i=>i.size)=some 1:=by kernel_rfl
 cases hq:Tryz.prog.info? 5 with
 | none=>simp [hq] at h
 | some i=>simp [hq] at h; simp [sizeOf,typeInfo,hq,h]
theorem extract_size (s:ByteArray) (k:Nat) (hk:k≤s.size):(s.extract 0 k).size=k:=by rw [ByteArray.size_extract]; omega
theorem extract_bt (s:ByteArray) (k i:Nat) (hk:k≤s.size) (hi:i < k):bt (s.extract 0 k) i=bt s i:=by
 unfold bt;rw [dif_pos (by rw [extract_size s k hk]; exact hi),dif_pos (by omega),ByteArray.getElem_extract];simp
theorem extract_map (s:ByteArray) (k:Nat):((s.extract 0 k).data.toList.map fun x:UInt8=>Value.int .u8 (x.toNat:Int))=List.take k (List.map (fun x:UInt8=>Value.int .u8 (x.toNat:Int)) s.data.toList):=by simp
theorem Holds.congr {w:World} {B n:Nat} {f g:Nat→Int} (h:Holds w B n f) (e:∀ i,i < n→f i=g i):Holds w B n g:=⟨fun i hi=>by rw [← e i hi]; exact h.get i hi⟩
theorem implFirst_any (s:ByteArray) (b:Nat) (w:World) (hs:s.size≤16) (hb:b≤8*s.size) :
  Calls Tryz.prog 120 #[.string s,.int .i64 b] w fun e w'=>e=.returned (.string (firstV s b))∧Below w.heap.size w w':=by
 have hw8:b / 8≤s.size:=by omega
 have hw8':(b:Int) / 8≤(s.size:Int):=by omega
 have hw0':0≤(b:Int) / 8:=by omega
 have hgb:=get_bt s;have hh0:=holds_zeros w 16 192;have HB0:Hid (Below w.heap.size w (w.alloc (.cells (Array.replicate 16 (.int .u8 0)) 192))):=(Below.refl _ _).alloc (Nat.le_refl _) _;go_enter Tryz.func120,Tryz.ntmps120
 go_wp2_with fail
 rw [show w.alloc (.cells #[.int .u8 0,.int .u8 0,.int .u8 0,.int .u8 0,.int .u8 0,.int .u8 0,.int .u8 0,.int .u8 0,.int .u8 0,.int .u8 0,.int .u8 0,.int .u8 0,.int .u8 0,.int .u8 0,.int .u8 0,.int .u8 0] 192)=w.alloc (.cells (Array.replicate 16 (.int .u8 0)) 192) from rfl];generalize hW:w.alloc (.cells (Array.replicate 16 (.int .u8 0)) 192)=W at *;clear hW;have hts:=extract_size s (b / 8) hw8;have hnat:((b:Int) / 8).toNat=b / 8:=by omega
 have HV:Hid (∀ i,firstF s b i=if i < b / 8 then bt s i else if i=b / 8∧b % 8≠0 then bits .andNot .u8 (bt s i) (255 / 2 ^ (b % 8)) else 0):=fun i=>rfl
 have HFB:Hid (isByte (firstF s b)):=firstF_byte s b;go_region_law (refine step_copy_string rfl (.tmp 10) (.tmp 13) 22 9 rfl 5 Tryz.underlying22 Tryz.size8 w.heap.size 0 16 16 (by simp [Act.eval,Act.put]) (s.extract 0 (b / 8)) (by simp [Act.eval,Act.put,hnat]) (by omega) (fun j hj=>by rw [Nat.zero_add,(hh0.drew.get j (by omega)).1]; rfl) (fun j hj=>by rw [Nat.zero_add]; exact (hh0.drew.get j (by omega)).2) ?_)
 have hh1:=hh0.drew.setCells (s.extract 0 (b / 8)) (by omega);have HB1:Hid (Below w.heap.size w (W.drew.setCells w.heap.size 0 ((s.extract 0 (b / 8)).data.toList.map fun x=>Value.int .u8 (x.toNat:Int)))):=below_setCells (Nat.le_refl _) _ _ _ HB0.out.drew;rw [extract_map] at hh1 HB1;replace hh1:=hh1.congr (g:=fun i=>if i < b / 8 then bt s i else 0) (fun i _=>by
  rw [hts];by_cases h:i < b / 8
  ·rw [if_pos h,if_pos h,extract_bt s _ i hw8 h]
  ·rw [if_neg h,if_neg h])
 generalize W.drew.setCells w.heap.size 0 (List.take (b / 8) (List.map (fun x:UInt8=>Value.int .u8 (x.toNat:Int)) s.data.toList))=W1 at hh1 HB1 ⊢;clear hh0 HB0 hts hw8';have HH1:Hid (Holds W1 w.heap.size 16 (fun i=>if i < b / 8 then bt s i else 0)):=hh1;have hz16:(s.size:Int)≤16:=by omega
 by_cases hr:b % 8=0
 ·have hr':(b:Int) % 8=0:=by omega
  have hcv:=(hh1.congr (g:=firstF s b) (fun i _=>by
   rw [HV.out];by_cases h:i < b / 8
   ·rw [if_pos h,if_pos h]
   ·rw [if_neg h,if_neg h,if_neg (fun hh=>hh.2 hr)])).conv_to (cap:=16) (m:=s.size) hs HFB.out
  clear hh1 hr;go_wp2_with fail
  go_ret;exact ⟨rfl,HB1.out⟩
 ·have hr':(0:Int) < (b:Int) % 8:=by omega
  have hlt:b / 8 < s.size:=by omega
  have hlt':(b:Int) / 8 < (s.size:Int):=by omega
  have hc:=hh1.get (b / 8) (by omega);obtain ⟨hc1,hc2⟩:=hc;have HS:Hid _:=(HH1.out.set (b / 8) (by omega) (bits .andNot .u8 (bt s (b / 8)) (255 / 2 ^ (b % 8)))).drew;clear hh1;have hrn:((b:Int) % 8).toNat=b % 8:=by omega
  go_wp2_with fail
  go_region
  have HB2:Hid (Below w.heap.size w (W1.setCell ⟨w.heap.size,b / 8,none⟩ (.int .u8 (bits .andNot .u8 (bt s (b / 8)) (255 / 2 ^ (b % 8))))).drew):=(HB1.out.setCell (by simp) _).drew;generalize (W1.setCell ⟨w.heap.size,b / 8,none⟩ (.int .u8 (bits .andNot .u8 (bt s (b / 8)) (255 / 2 ^ (b % 8))))).drew=W2 at HS HB2 ⊢;have hcv:=(HS.out.congr (g:=firstF s b) (fun i _=>by
   rw [HV.out];by_cases h:i < b / 8
   ·rw [if_neg (by omega),if_pos h,if_pos h]
   ·by_cases h2:i=b / 8
    ·rw [if_pos h2,if_neg h,if_pos ⟨h2,hr⟩,h2]
    ·rw [if_neg h2,if_neg h,if_neg h,if_neg (fun hh=>h2 hh.1)])).conv_to (cap:=16) (m:=s.size) hs HFB.out
  clear HS HH1;go_wp2_with fail
  go_ret;exact ⟨rfl,HB2.out⟩
end Go.Proofs.YthpopipedamciaaGreat
