import Derived.Test.YthagnjokdnnmpaaGreatMerged6
import Derived.Test.YthagnjokdnnmpaaGreatMerged9
import Derived.Lib.LazyBuf
import Derived.Test.YthagnjokdnnmpaaGreatMerged4
import Derived.Deep.MidRow
import Derived.Deep.AppendLies
import Derived.Great.BuildSlice
import Derived.Test.YthagnjokdnnmpaaGreatMerged16
set_option linter.unusedVariables false
set_option linter.unusedSimpArgs false
set_option maxRecDepth 100000
set_option maxHeartbeats 8000000
namespace Go.Proofs.YthagnjokdnnmpaaGreat
open Go.RowKit Go.PlainAid
def firstF (s:ByteArray) (b:Nat) (i:Nat):Int:=if i < b / 8 then bt s i else if i=b / 8∧b % 8≠0 then bits .andNot .u8 (bt s i) (255 / 2 ^ (b % 8)) else 0
def firstV (s:ByteArray) (b:Nat):ByteArray:=bytesOf s.size (firstF s b)
theorem andNot8 (x y:Int):0≤bits .andNot .u8 x y∧bits .andNot .u8 x y≤255:=by
 show 0≤IntKind.u8.wrap _∧IntKind.u8.wrap _≤255;rw [IntKind.wrap_u8]; omega
theorem firstF_byte (s:ByteArray) (b:Nat):isByte (firstF s b):=fun i=>by
 unfold firstF;split
 ·exact bt_isByte s i
 ·split
  ·exact andNot8 _ _
  ·omega
theorem Holds.setCells {w:World} {B n:Nat} {f:Nat→Int} (h:Holds w B n f) (t:ByteArray) (ht:t.size≤n):Holds (w.setCells B 0 (t.data.toList.map fun x=>Value.int .u8 (x.toNat:Int))) B n (fun i=>if i < t.size then bt t i else f i):=by
 have hl:(t.data.toList.map fun x=>Value.int .u8 (x.toNat:Int)).length=t.size:=by rw [List.length_map,Array.length_toList]; rfl
 refine ⟨fun i hi=>⟨?_,by rw [World.frozen?_setCells]; exact (h.get i hi).2⟩⟩;by_cases e:i < t.size
 ·have:=World.cell?_setCells_in B (t.data.toList.map fun x=>Value.int .u8 (x.toNat:Int)) 0 w (fun j hj=>by rw [Nat.zero_add,(h.get j (by rw [hl] at hj; omega)).1]; rfl) i (by rw [hl]; exact e);rw [Nat.zero_add] at this;show _=some (Value.int .u8 (if i < t.size then bt t i else f i));rw [if_pos e,this,← get_bt t i e,ByteArray.getElem_eq_getElem_data];simp
 ·show _=some (Value.int .u8 (if i < t.size then bt t i else f i));rw [if_neg e,World.cell?_setCells_out B _ 0 w _ (fun _ _=>.inr (by rw [hl]; show 0+t.size≤i; omega))];exact (h.get i hi).1
theorem holds_zeros (w:World) (n:Nat) (t:TypeId):Holds (w.alloc (.cells (Array.replicate n (.int .u8 0)) t)) w.heap.size n (fun _=>0) :=
 ⟨fun i hi=>⟨by simp [hi],by simp⟩⟩
theorem Holds.drew {w:World} {B n:Nat} {f:Nat→Int} (h:Holds w B n f):Holds w.drew B n f:=⟨h.get⟩
theorem Holds.conv_to {w:World} {B n cap m:Nat} {f:Nat→Int} (h:Holds w B n f) (hm:m≤n) (hf:isByte f) :
  (convert 22 9 (.slice (some ⟨B,0,none⟩) m cap)).run Tryz.prog w=.ok (.string (bytesOf m f)) w :=
 Holds.conv (n:=m) ⟨fun i hi=>h.get i (by omega)⟩ hf
theorem Tryz.size8 (w:World):(Go.sizeOf 5).run Tryz.prog w=.ok 1 w:=by
 have h:(Tryz.prog.info? 5).map (fun i=>i.size)=some 1:=by kernel_rfl
 cases hq:Tryz.prog.info? 5 with
 | none=>simp [hq] at h
 | some i=>simp [hq] at h; simp [sizeOf,typeInfo,hq,h]
theorem extract_size (s:ByteArray) (k:Nat) (hk:k≤s.size):(s.extract 0 k).size=k:=by rw [ByteArray.size_extract]; omega
theorem extract_bt (s:ByteArray) (k i:Nat) (hk:k≤s.size) (hi:i < k):bt (s.extract 0 k) i=bt s i:=by
 unfold bt;rw [dif_pos (by rw [extract_size s k hk]; exact hi),dif_pos (by omega),ByteArray.getElem_extract];simp
theorem extract_map (s:ByteArray) (k:Nat):((s.extract 0 k).data.toList.map fun x:UInt8=>Value.int .u8 (x.toNat:Int))=List.take k (List.map (fun x:UInt8=>Value.int .u8 (x.toNat:Int)) s.data.toList):=by simp
theorem Holds.congr {w:World} {B n:Nat} {f g:Nat→Int} (h:Holds w B n f) (e:∀ i,i < n→f i=g i):Holds w B n g:=⟨fun i hi=>by rw [← e i hi]; exact h.get i hi⟩
theorem implFirst_any (s:ByteArray) (b:Nat) (w:World) (hs:s.size≤16) (hb:b≤8*s.size) :
  Calls Tryz.prog 119 #[.string s,.int .i64 b] w fun e w'=>e=.returned (.string (firstV s b))∧Below w.heap.size w w':=by
 have hw8:b / 8≤s.size:=by omega
 have hw8':(b:Int) / 8≤(s.size:Int):=by omega
 have hw0':0≤(b:Int) / 8:=by omega
 have hgb:=get_bt s;have hh0:=holds_zeros w 16 191;have HB0:Hid (Below w.heap.size w (w.alloc (.cells (Array.replicate 16 (.int .u8 0)) 191))):=(Below.refl _ _).alloc (Nat.le_refl _) _;go_enter Tryz.func119,Tryz.ntmps119
 go_wp2_with fail
 rw [show w.alloc (.cells #[.int .u8 0,.int .u8 0,.int .u8 0,.int .u8 0,.int .u8 0,.int .u8 0,.int .u8 0,.int .u8 0,.int .u8 0,.int .u8 0,.int .u8 0,.int .u8 0,.int .u8 0,.int .u8 0,.int .u8 0,.int .u8 0] 191)=w.alloc (.cells (Array.replicate 16 (.int .u8 0)) 191) from rfl];generalize hW:w.alloc (.cells (Array.replicate 16 (.int .u8 0)) 191)=W at *;clear hW;have hts:=extract_size s (b / 8) hw8;have hnat:((b:Int) / 8).toNat=b / 8:=by omega
 have HV:Hid (∀ i,firstF s b i=if i < b / 8 then bt s i else if i=b / 8∧b % 8≠0 then bits .andNot .u8 (bt s i) (255 / 2 ^ (b % 8)) else 0):=fun i=>rfl
 have HFB:Hid (isByte (firstF s b)):=firstF_byte s b;go_region_law (refine step_copy_string rfl (.tmp 10) (.tmp 13) 22 9 rfl 5 Tryz.underlying22 Tryz.size8 w.heap.size 0 16 16 (by simp [Act.eval,Act.put]) (s.extract 0 (b / 8)) (by simp [Act.eval,Act.put,hnat]) (by omega) (fun j hj=>by rw [Nat.zero_add,(hh0.drew.get j (by omega)).1]; rfl) (fun j hj=>by rw [Nat.zero_add]; exact (hh0.drew.get j (by omega)).2) ?_)
 have hh1:=hh0.drew.setCells (s.extract 0 (b / 8)) (by omega);have HB1:Hid (Below w.heap.size w (W.drew.setCells w.heap.size 0 ((s.extract 0 (b / 8)).data.toList.map fun x=>Value.int .u8 (x.toNat:Int)))):=below_setCells (Nat.le_refl _) _ _ _ HB0.out.drew;rw [extract_map] at hh1 HB1;replace hh1:=hh1.congr (g:=fun i=>if i < b / 8 then bt s i else 0) (fun i _=>by
  rw [hts];by_cases h:i < b / 8
  ·rw [if_pos h,if_pos h,extract_bt s _ i hw8 h]
  ·rw [if_neg h,if_neg h])
 generalize W.drew.setCells w.heap.size 0 (List.take (b / 8) (List.map (fun x:UInt8=>Value.int .u8 (x.toNat:Int)) s.data.toList))=W1 at hh1 HB1 ⊢;clear hh0 HB0 hts hw8';have HH1:Hid (Holds W1 w.heap.size 16 (fun i=>if i < b / 8 then bt s i else 0)):=hh1;have hz16:(s.size:Int)≤16:=by omega
 by_cases hr:b % 8=0
 ·have hr':(b:Int) % 8=0:=by omega
  have hcv:=(hh1.congr (g:=firstF s b) (fun i _=>by
   rw [HV.out];by_cases h:i < b / 8
   ·rw [if_pos h,if_pos h]
   ·rw [if_neg h,if_neg h,if_neg (fun hh=>hh.2 hr)])).conv_to (cap:=16) (m:=s.size) hs HFB.out
  clear hh1 hr;go_wp2_with fail
  go_ret;exact ⟨rfl,HB1.out⟩
 ·have hr':(0:Int) < (b:Int) % 8:=by omega
  have hlt:b / 8 < s.size:=by omega
  have hlt':(b:Int) / 8 < (s.size:Int):=by omega
  have hc:=hh1.get (b / 8) (by omega);obtain ⟨hc1,hc2⟩:=hc;have HS:Hid _:=(HH1.out.set (b / 8) (by omega) (bits .andNot .u8 (bt s (b / 8)) (255 / 2 ^ (b % 8)))).drew;clear hh1;have hrn:((b:Int) % 8).toNat=b % 8:=by omega
  go_wp2_with fail
  go_region
  have HB2:Hid (Below w.heap.size w (W1.setCell ⟨w.heap.size,b / 8,none⟩ (.int .u8 (bits .andNot .u8 (bt s (b / 8)) (255 / 2 ^ (b % 8))))).drew):=(HB1.out.setCell (by simp) _).drew;generalize (W1.setCell ⟨w.heap.size,b / 8,none⟩ (.int .u8 (bits .andNot .u8 (bt s (b / 8)) (255 / 2 ^ (b % 8))))).drew=W2 at HS HB2 ⊢;have hcv:=(HS.out.congr (g:=firstF s b) (fun i _=>by
   rw [HV.out];by_cases h:i < b / 8
   ·rw [if_neg (by omega),if_pos h,if_pos h]
   ·by_cases h2:i=b / 8
    ·rw [if_pos h2,if_neg h,if_pos ⟨h2,hr⟩,h2]
    ·rw [if_neg h2,if_neg h,if_neg h,if_neg (fun hh=>h2 hh.1)])).conv_to (cap:=16) (m:=s.size) hs HFB.out
  clear HS HH1;go_wp2_with fail
  go_ret;exact ⟨rfl,HB2.out⟩
theorem andNot_bits:∀ (x:Fin 256) (r m:Fin 8),r.val≠0→bits .andNot .u8 (x.val:Int) (255 / 2 ^ r.val) / 2 ^ (7-m.val) % 2=if m.val < r.val then (x.val:Int) / 2 ^ (7-m.val) % 2 else 0:=by decide +kernel
theorem firstF_bit (s:ByteArray) (b k:Nat):bitN (firstF s b) k=if k < b then bitN (bt s) k else 0:=by
 unfold bitN;by_cases h1:k / 8 < b / 8
 ·rw [if_pos (by omega),show firstF s b (k / 8)=bt s (k / 8) from if_pos h1]
 ·by_cases h2:k / 8=b / 8∧b % 8≠0
  ·have hf:firstF s b (k / 8)=bits .andNot .u8 (bt s (k / 8)) (255 / 2 ^ (b % 8)):=by unfold firstF; rw [if_neg h1,if_pos h2]
   have hb:=bt_isByte s (k / 8);obtain ⟨x,hx⟩:=Int.eq_ofNat_of_zero_le hb.1;have:=andNot_bits ⟨x,by omega⟩ ⟨b % 8,by omega⟩ ⟨k % 8,by omega⟩ h2.2;simp only at this;rw [hf,hx,this];by_cases h3:k % 8 < b % 8
   ·rw [if_pos h3,if_pos (by omega)]
   ·rw [if_neg h3,if_neg (by omega)]
  ·have hf:firstF s b (k / 8)=0:=by unfold firstF; rw [if_neg h1,if_neg h2]
   rw [if_neg (by omega),hf]; simp
theorem byte_bits {x y:Int} (hx0:0≤x) (hx:x≤255) (hy0:0≤y) (hy:y≤255) (h:∀ m,m < 8→x / 2 ^ (7-m) % 2=y / 2 ^ (7-m) % 2):x=y:=by
 have h0:=h 0 (by omega); have h1:=h 1 (by omega); have h2:=h 2 (by omega); have h3:=h 3 (by omega);have h4:=h 4 (by omega); have h5:=h 5 (by omega); have h6:=h 6 (by omega); have h7:=h 7 (by omega);simp only [Nat.sub_zero,Nat.reduceSub,Int.reducePow,Int.ediv_one] at h0 h1 h2 h3 h4 h5 h6 h7;omega
theorem bytes_bits {a p:ByteArray} (hs:a.size=p.size) (h:∀ k,k < 8*p.size→bitN (bt a) k=bitN (bt p) k):a=p:=by
 refine ba_ext hs (fun i hi=>byte_bits (bt_isByte a i).1 (bt_isByte a i).2 (bt_isByte p i).1 (bt_isByte p i).2 (fun m hm=>?_));have:=h (8*i+m) (by omega);unfold bitN at this;rwa [show (8*i+m) / 8=i by omega,show (8*i+m) % 8=m by omega] at this
theorem firstV_bt (a:ByteArray) (b i:Nat) (hi:i < a.size):bt (firstV a b) i=firstF a b i:=bytesOf_bt hi (firstF_byte a b i).1 (firstF_byte a b i).2
theorem firstV_bit (a:ByteArray) (b k:Nat) (hk:k < 8*a.size):bitN (bt (firstV a b)) k=if k < b then bitN (bt a) k else 0:=by
 rw [← firstF_bit]; unfold bitN; rw [firstV_bt a b _ (by omega)]
theorem firstV_size (a:ByteArray) (b:Nat):(firstV a b).size=a.size:=bytesOf_size _ _
theorem firstV_iff {a p:ByteArray} (b:Nat) (hs:a.size=p.size):firstV a b=p↔∀ k,k < 8*p.size→bitN (bt p) k=if k < b then bitN (bt a) k else 0:=by
 constructor
 ·intro h k hk;rw [← firstV_bit a b k (by omega),h]
 ·intro h;exact bytes_bits ((firstV_size a b).trans hs) (fun k hk=>by rw [h k hk,firstV_bit a b k (by omega)])
theorem zerosN_iff {f:Nat→Int}:∀ (n k:Nat),zerosN f k n=true↔∀ i,k≤i→i < k+n→bitN f i=0
 | 0,k=>by simp [zerosN]; omega
 | n+1,k=>by
  show (bitN f k==0&&zerosN f (k+1) n)=true↔_;rw [Bool.and_eq_true,zerosN_iff n (k+1),beq_iff_eq];constructor
  ·rintro ⟨h0,h⟩ i h1 h2;by_cases e:i=k
   ·rw [e]; exact h0
   ·exact h i (by omega) (by omega)
  ·intro h;exact ⟨h k (by omega) (by omega),fun i h1 h2=>h i (by omega) (by omega)⟩
theorem first_right {s:ByteArray} {b:Nat} (hb:b≤8*s.size):firstV s b=s↔zerosN (bt s) b (8*s.size-b)=true:=by
 rw [firstV_iff b rfl,zerosN_iff];constructor
 ·intro h i h1 h2;have:=h i (by omega);rwa [if_neg (by omega)] at this
 ·intro h k hk;by_cases e:k < b
  ·rw [if_pos e]
  ·rw [if_neg e]; exact h k (by omega) (by omega)
section
variable (n:Nat)
end
def bytesC (a:ByteArray):List Value:=a.data.toList.map fun x=>Value.int .u8 (x.toNat:Int)
def rowC (a:ByteArray) (b:Int):List Value:=bytesC a++[.int .i64 b]
theorem bytesC_length (a:ByteArray):(bytesC a).length=a.size:=by unfold bytesC; rw [List.length_map,Array.length_toList]; rfl
theorem rowC_length (a:ByteArray) (b:Int):(rowC a b).length=a.size+1:=by unfold rowC; rw [List.length_append,bytesC_length]; rfl
def hopC (q:Rt):List Value:=rowC q.addr q.bits++[.int .i64 q.hop]
def flatH (ms:List Rt):List Value:=ms.flatMap hopC
theorem hopC_length (q:Rt):(hopC q).length=q.addr.size+2:=by unfold hopC; rw [List.length_append,rowC_length]; rfl
section
variable {w W:World} {B o:Nat} {xs ys:List Value}
theorem rangeAt_left (h:w.rangeAt B o (xs++ys)):w.rangeAt B o xs:=fun j v hv=>h j v (by rw [List.getElem?_append_left (List.getElem?_eq_some_iff.1 hv).1]; exact hv)
theorem HoldsL.left (h:HoldsL w B (xs++ys)):w.rangeAt B 0 xs:=rangeAt_left h.at0
end
theorem flatH_get (n:Nat):∀ (ms:List Rt) (hm:∀ q∈ms,q.addr.size=n) (i:Nat) (h:i < ms.length) (j:Nat) (v:Value),(hopC ms[i])[j]?=some v→(flatH ms)[i*(n+2)+j]?=some v
 | [],_,i,h,_,_,_=>by simp at h
 | q::ms,hm,0,h,j,v,hv=>by
  have hv:(hopC q)[j]?=some v:=hv;unfold flatH;rw [List.flatMap_cons,Nat.zero_mul,Nat.zero_add,List.getElem?_append_left (List.getElem?_eq_some_iff.1 hv).1]; exact hv
 | q::ms,hm,i+1,h,j,v,hv=>by
  have ih:=flatH_get n ms (fun x hx=>hm x (by simp [hx])) i (by simpa using h) j v (by simpa using hv);unfold flatH at *;have hl:(hopC q).length=n+2:=by rw [hopC_length,hm q (by simp)]
  rw [List.flatMap_cons,List.getElem?_append_right (by rw [hl,Nat.succ_mul]; omega),hl];rw [show (i+1)*(n+2)+j-(n+2)=i*(n+2)+j by rw [Nat.succ_mul]; omega];exact ih
def MoreAt (w:World) (n:Nat) (E:TypeId) (mv:Value) (ms:List Rt):Prop:=w.ownsRow 0 E (n+2) mv ms.length (flatH ms)
section
variable {w W:World} {n E:Nat} {mv:Value} {ms:List Rt}
theorem MoreAt.nil:MoreAt w n E (.slice none 0 0) []:=⟨by simp [flatH],.inl ⟨rfl,rfl⟩⟩
theorem MoreAt.shape (h:MoreAt w n E mv ms):(mv=.slice none 0 0∧ms=[])∨∃ g cap,mv=.slice (some ⟨g,0,none⟩) ms.length cap∧ms.length≤cap∧g < w.heap.size:=by
 rcases h.2 with ⟨h1,h2⟩ | ⟨g,cap,cur,h1,_,hg,hc,_⟩
 ·exact .inl ⟨h1,List.length_eq_zero_iff.1 h2⟩
 ·exact .inr ⟨g,cap,h1,hc,(Array.getElem?_eq_some_iff.1 hg).1⟩
theorem MoreAt.one (h:MoreAt w n E mv ms):mv.oneCell'=true:=by
 rcases h.shape with ⟨rfl,_⟩ | ⟨g,cap,rfl,_,_⟩<;>rfl
theorem MoreAt.get {g cap:Nat} (h:MoreAt w n E (.slice (some ⟨g,0,none⟩) ms.length cap) ms) (hm:∀ q∈ms,q.addr.size=n) (i:Nat) (hi:i < ms.length):w.rangeAt g (i*(n+2)) (hopC ms[i]):=fun j v hv=>by
 have hj:j < n+2:=by have:=(List.getElem?_eq_some_iff.1 hv).1; rwa [hopC_length,hm _ (List.getElem_mem hi)] at this
 have hlt:i*(n+2)+j < ms.length*(n+2):=by
  have:=Nat.mul_le_mul_right (n+2) (show i+1≤ms.length from hi);rw [Nat.succ_mul] at this; omega
 rw [World.ownsRow.cellAt h _ hlt];exact flatH_get n ms hm i hi j v hv
theorem MoreAt.kept {row:Option Nat} (h:MoreAt w n E mv ms) (hg:w.grownBy W row) (hne:mv.ownBlock=none∨mv.ownBlock≠row):MoreAt W n E mv ms:=World.ownsRow.kept h hg hne
theorem MoreAt.below (h:MoreAt w n E mv ms) (hB:Below w.heap.size w W):MoreAt W n E mv ms:=h.kept (grown_of_below (r:=none) hB) (by cases mv.ownBlock<;>simp)
end
structure FSt (w:World) (m X:Nat) (cs zs:List Value) (mv:Value) (wx:World):Prop where
 x:HoldsL wx X cs
 z:HoldsL wx (w.heap.size+1) zs
 c:wx.cell? ⟨w.heap.size,m,none⟩=some mv
 b:Below w.heap.size w wx
 le:w.heap.size+1+1≤X
section
variable {w wx wy:World} {m X:Nat} {cs zs:List Value} {mv:Value}
theorem FSt.set (h:FSt w m X cs zs mv wx) (j:Nat) (v:Value):FSt w m X (cs.set j v) zs mv (wx.setCell ⟨X,j,none⟩ v):=by
 have hle:=h.le;exact ⟨h.x.set j v,h.z.setOther (by omega) v,(World.cell?_setCell_other _ _ _ _ (fun e=>by injection e with e1 _; omega)).trans h.c,h.b.setCell (by show w.heap.size≤X; omega) v,hle⟩
theorem FSt.below (h:FSt w m X cs zs mv wx) (hx:0 < cs.length) (hz:0 < zs.length) (hB:Below wx.heap.size wx wy):FSt w m X cs zs mv wy :=
 ⟨h.x.kept hx hB,h.z.kept hz hB,((bcell hB).1 _ _ (World.block_lt_of_cell? wx _ h.c)).trans h.c,h.b.trans (hB.mono h.b.size),h.le⟩
theorem FSt.grown {row:Option Nat} (h:FSt w m X cs zs mv wx) (hx:0 < cs.length) (hz:0 < zs.length) (hg:wx.grownBy wy row) (hr:∀ g,row=some g→w.heap.size+1+1≤g∧g≠X):FSt w m X cs zs mv wy:=by
 have h1:some X≠row:=fun e=>(hr X e.symm).2 rfl
 have h2:some (w.heap.size+1)≠row:=fun e=>by have:=(hr _ e.symm).1; omega
 have h3:some w.heap.size≠row:=fun e=>by have:=(hr _ e.symm).1; omega
 refine ⟨h.x.grown hx hg h1,h.z.grown hz hg h2,hg.cell h.c h3,?_,h.le⟩;exact ⟨hg.os.trans h.b.os,hg.tape.trans h.b.tape,hg.output.trans h.b.output,Nat.le_trans h.b.size hg.size,fun k hk=>by
  rw [hg.block k (Nat.lt_of_lt_of_le hk h.b.size) (fun e=>by have:=(hr k e.symm).1; omega)]; exact h.b.block k hk⟩
theorem FSt.alloc (h:FSt w m X cs zs mv wx) (hx:0 < cs.length) (hz:0 < zs.length) (o:Obj):FSt w m X cs zs mv (wx.alloc o):=h.below hx hz ((Below.refl _ _).alloc (Nat.le_refl _) o)
theorem FSt.drew (h:FSt w m X cs zs mv wx):FSt w m X cs zs mv wx.drew:=⟨h.x.drew,h.z.drew,h.c,h.b.drew,h.le⟩
end
end Go.Proofs.YthagnjokdnnmpaaGreat
