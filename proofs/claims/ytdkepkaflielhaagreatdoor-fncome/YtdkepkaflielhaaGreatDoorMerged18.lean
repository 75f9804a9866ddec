import Derived.Test.YtdkepkaflielhaaGreatDoorAb
import Derived.Test.YtdkepkaflielhaaGreatDoorMerged2
import Derived.RegionTactic
import Derived.BigQuiet
import Derived.Deep.QuietTactic
import Derived.Deep.DeepCutAuto
import Derived.Laws.IdiomStrings
import Derived.Test.YtdkepkaflielhaaGreatDoorMerged16
import Derived.Test.YtdkepkaflielhaaGreatDoorDrawPool
import Derived.Test.YtdkepkaflielhaaGreatDoorMerged11
import Derived.Test.YtdkepkaflielhaaGreatDoorMerged15
set_option linter.unusedVariables false
set_option linter.unusedSimpArgs false
set_option maxRecDepth 100000
set_option maxHeartbeats 8000000
namespace Go.Proofs.YtdkepkaflielhaaGreatDoor
open Go.RowKit Go.PlainAid
def bytesOf (n:Nat) (f:Nat→Int):ByteArray:=⟨((List.range n).map fun i=>UInt8.ofNat (f i).toNat).toArray⟩
theorem bytesOf_size (n:Nat) (f:Nat→Int):(bytesOf n f).size=n:=by simp [bytesOf,ByteArray.size]
theorem bytesOf_bt {n:Nat} {f:Nat→Int} {i:Nat} (hi:i < n) (h0:0≤f i) (h1:f i≤255):bt (bytesOf n f) i=f i:=by
 have hs:=bytesOf_size n f;unfold bt;rw [dif_pos (by omega),ByteArray.getElem_eq_getElem_data];simp only [bytesOf,List.getElem_toArray,List.getElem_map,List.getElem_range,UInt8.toNat_ofNat'];omega
theorem ba_ext {a b:ByteArray} (hs:a.size=b.size) (h:∀ i,i < a.size→bt a i=bt b i):a=b:=by
 apply ByteArray.ext;apply Array.ext
 ·exact hs
 ·intro i h1 h2;have hi:=h i h1;unfold bt at hi;rw [dif_pos (show i < a.size from h1),dif_pos (show i < b.size from h2),ByteArray.getElem_eq_getElem_data,ByteArray.getElem_eq_getElem_data] at hi;exact UInt8.toNat_inj.1 (by exact_mod_cast hi)
structure Holds (w:World) (B n:Nat) (f:Nat→Int):Prop where
 get:∀ i,i < n→w.cell? ⟨B,i,none⟩=some (.int .u8 (f i))∧w.frozen? ⟨B,i,none⟩=false
theorem Holds.set {w:World} {B n:Nat} {f:Nat→Int} (h:Holds w B n f) (j:Nat) (hj:j < n) (x:Int):Holds (w.setCell ⟨B,j,none⟩ (.int .u8 x)) B n (fun i=>if i=j then x else f i):=by
 refine ⟨fun i hi=>⟨?_,by rw [World.frozen?_setCell]; exact (h.get i hi).2⟩⟩;by_cases e:i=j
 ·subst e; show _=some (Value.int .u8 (if i=i then x else f i)); rw [if_pos rfl]; exact World.cell?_setCell_same _ _ _ (h.get i hi).1
 ·show _=some (Value.int .u8 (if i=j then x else f i)); rw [if_neg e,World.cell?_setCell_other _ _ _ _ (fun e2=>e (by injection e2 with _ h2; exact h2.symm))]; exact (h.get i hi).1
theorem Holds.conv {w:World} {B n cap:Nat} {f:Nat→Int} (h:Holds w B n f) (hf:isByte f) :
  (convert 22 9 (.slice (some ⟨B,0,none⟩) n cap)).run Tryz.prog w=.ok (.string (bytesOf n f)) w:=by
 have hl:((List.range n).map fun i=>UInt8.ofNat (f i).toNat).length=n:=by simp
 have:=run_convert_bytes_back (P:=Tryz.prog) w 22 9 5 ⟨B,0,none⟩ cap ((List.range n).map fun i=>UInt8.ofNat (f i).toNat) Tryz.underlying22 Tryz.underlying5 Tryz.underlying9 (by
  intro j hj;have hj':j < n:=by simpa using hj
  have ha:Addr.add ⟨B,0,none⟩ j=⟨B,j,none⟩:=by simp only [Addr.add,Nat.zero_add]; split<;>simp_all
  rw [ha,(h.get j hj').1];have:=hf j;simp only [List.getElem_map,List.getElem_range,UInt8.toNat_ofNat'];congr 2; omega)
 rw [hl] at this;exact this
theorem bytes_new (w:World) (s:ByteArray):∃ cap W2,(convert 9 22 (.string s)).run Tryz.prog w=.ok (.slice (some ⟨w.heap.size,0,none⟩) s.size cap) W2∧Holds W2 w.heap.size s.size (bt s)∧Below w.heap.size w W2∧s.size≤cap:=by
 refine ⟨grownCap w s.size 0 5,_,run_bytes_of_string (P:=Tryz.prog) w 9 22 5 s Tryz.underlying9 Tryz.underlying22 Tryz.underlying5,?_,?_,?_⟩
 ·refine ⟨fun i hi=>?_⟩;have hz:(bytesRow s (grownCap w s.size 0 5)).size=s.size+(grownCap w s.size 0 5-s.size):=by unfold bytesRow; rw [Array.size_append,Array.size_map,Array.size_replicate]; rfl
  constructor
  ·refine (World.cell?_alloc_mark w.drew _ _ _ i).trans ?_;rw [bytesRow_at s _ i hi,← get_bt s i hi]; rfl
  ·refine (World.frozen?_alloc_mark w.drew _ _ _ _ i).trans ?_;simp; omega
 ·exact (Below.refl _ w).drew.alloc (Nat.le_refl _) _
 ·exact grownCap_ge _ _ _ _
def In64 (r:Int):Prop:=-9223372036854775808≤r∧r≤9223372036854775807
theorem drawEdge_any (B:Nat) (a:Option Addr) (len cap:Nat) (size:Int) (w:World) (hl:len≤1048576) (hs:Src w B a len cap size) :
  Calls Tryz.prog 56 #[.pointer (some ⟨B,0,none⟩)] w fun e w'=>∃ r,e=.returned (iV r)∧In64 r∧Src w' B a len cap size∧w.grownBy w' (some B):=by
 have hB:B < w.heap.size:=by obtain ⟨_,_,_,h⟩:=hs; exact World.block_lt_of_cell? w _ h.cb
 have HS:Hid (Src w B a len cap size):=hs;clear hs;go_enter Tryz.func56,Tryz.ntmps56
 go_wp2_with fail
 refine (drawN_more 14 B a len cap size _ (by omega) (by omega) hl (HS.out.kept (World.grownBy_alloc _ _ none) (by simp))).mono ?_;rintro e w1 ⟨q,rfl,q0,q1,hs1,hg1⟩;obtain ⟨k,rfl⟩:=Int.eq_ofNat_of_zero_le q0;have hc:∃ r,w1.cell? ⟨w.heap.size,k,none⟩=some (iV r)∧In64 r:=by
  have hk:k < 14:=by omega
  match k,hk with
  | 0,_=>exact ⟨_,hg1.cell ((World.cell?_alloc_mark w _ _ _ 0).trans rfl) (by simp; omega),by unfold In64; omega⟩
  | 1,_=>exact ⟨_,hg1.cell ((World.cell?_alloc_mark w _ _ _ 1).trans rfl) (by simp; omega),by unfold In64; omega⟩
  | 2,_=>exact ⟨_,hg1.cell ((World.cell?_alloc_mark w _ _ _ 2).trans rfl) (by simp; omega),by unfold In64; omega⟩
  | 3,_=>exact ⟨_,hg1.cell ((World.cell?_alloc_mark w _ _ _ 3).trans rfl) (by simp; omega),by unfold In64; omega⟩
  | 4,_=>exact ⟨_,hg1.cell ((World.cell?_alloc_mark w _ _ _ 4).trans rfl) (by simp; omega),by unfold In64; omega⟩
  | 5,_=>exact ⟨_,hg1.cell ((World.cell?_alloc_mark w _ _ _ 5).trans rfl) (by simp; omega),by unfold In64; omega⟩
  | 6,_=>exact ⟨_,hg1.cell ((World.cell?_alloc_mark w _ _ _ 6).trans rfl) (by simp; omega),by unfold In64; omega⟩
  | 7,_=>exact ⟨_,hg1.cell ((World.cell?_alloc_mark w _ _ _ 7).trans rfl) (by simp; omega),by unfold In64; omega⟩
  | 8,_=>exact ⟨_,hg1.cell ((World.cell?_alloc_mark w _ _ _ 8).trans rfl) (by simp; omega),by unfold In64; omega⟩
  | 9,_=>exact ⟨_,hg1.cell ((World.cell?_alloc_mark w _ _ _ 9).trans rfl) (by simp; omega),by unfold In64; omega⟩
  | 10,_=>exact ⟨_,hg1.cell ((World.cell?_alloc_mark w _ _ _ 10).trans rfl) (by simp; omega),by unfold In64; omega⟩
  | 11,_=>exact ⟨_,hg1.cell ((World.cell?_alloc_mark w _ _ _ 11).trans rfl) (by simp; omega),by unfold In64; omega⟩
  | 12,_=>exact ⟨_,hg1.cell ((World.cell?_alloc_mark w _ _ _ 12).trans rfl) (by simp; omega),by unfold In64; omega⟩
  | 13,_=>exact ⟨_,hg1.cell ((World.cell?_alloc_mark w _ _ _ 13).trans rfl) (by simp; omega),by unfold In64; omega⟩
 obtain ⟨r,hc,hr⟩:=hc;have H1:Hid (In64 r∧Src w1 B a len cap size∧w.grownBy w1 (some B)):=⟨hr,hs1,grown_trans (World.grownBy_alloc _ _ _) hg1⟩;clear hr hs1 hg1;go_wp2
 go_ret;exact ⟨r,rfl,H1.out.1,H1.out.2.1,H1.out.2.2⟩
structure BoxP (w:World) (P:Nat) (s:ByteArray) (b:Int):Prop where
 c0:w.cell? ⟨P,0,none⟩=some (.string s)
 c1:w.cell? ⟨P,1,none⟩=some (iV b)
 f0:w.frozen? ⟨P,0,none⟩=false
 f1:w.frozen? ⟨P,1,none⟩=false
section
variable {w wx wy:World} {B P:Nat} {s:ByteArray} {b:Int} {a:Option Addr} {len cap:Nat} {size:Int}
theorem BoxP.new (w:World) (s:ByteArray) (b:Int) (t:TypeId):BoxP (w.alloc (.cells #[.string s,iV b] t)) w.heap.size s b:=⟨by simp,by simp,by simp,by simp⟩
theorem BoxP.lt (h:BoxP w P s b):P < w.heap.size:=World.block_lt_of_cell? w _ h.c0
theorem BoxP.kept {row:Option Nat} (h:BoxP wx P s b) (hg:wx.grownBy wy row) (hr:some P≠row):BoxP wy P s b :=
 have hb:=hg.block P h.lt hr;⟨hg.cell h.c0 hr,hg.cell h.c1 hr,(World.frozen?_of_block (a:=⟨P,0,none⟩) hb).trans h.f0,(World.frozen?_of_block (a:=⟨P,1,none⟩) hb).trans h.f1⟩
end
structure DB (w:World) (B:Nat) (sa:Option Addr) (len cap:Nat) (size:Int) (ks:List (Nat × List Value)) (wx:World):Prop where
 dr:Dr w B sa len cap size wx
 k:∀ e∈ks,HoldsL wx e.1 e.2
 z:∀ e∈ks,0 < e.2.length
 n:∀ e∈ks,w.heap.size≤e.1
section
variable {w wx wy:World} {B:Nat} {sa:Option Addr} {len cap:Nat} {size:Int} {ks:List (Nat × List Value)}
theorem DB.draw (h:DB w B sa len cap size ks wx) (hs:Src wy B sa len cap size) (hg:wx.grownBy wy (some B)):DB w B sa len cap size ks wy :=
 ⟨h.dr.draw hs hg,fun e he=>(h.k e he).grown (h.z e he) hg (by have:=h.n e he; have:=h.dr.hB; simp; omega),h.z,h.n⟩
theorem DB.below (h:DB w B sa len cap size ks wx) (hb:Below wx.heap.size wx wy):DB w B sa len cap size ks wy :=
 ⟨h.dr.below hb,fun e he=>(h.k e he).kept (h.z e he) hb,h.z,h.n⟩
theorem DB.push (h:DB w B sa len cap size ks wx) (vs:List Value) (hv:0 < vs.length) (T:TypeId):DB w B sa len cap size ((wx.heap.size,vs)::ks) (wx.alloc (.cells vs.toArray T)):=by
 have h2:=h.below ((Below.refl wx.heap.size wx).alloc (Nat.le_refl _) (.cells vs.toArray T));refine ⟨h2.dr,fun e he=>?_,fun e he=>?_,fun e he=>?_⟩
 ·rcases List.mem_cons.1 he with rfl | he
  ·exact HoldsL.new wx vs T
  ·exact h2.k e he
 ·rcases List.mem_cons.1 he with rfl | he
  ·exact hv
  ·exact h.z e he
 ·rcases List.mem_cons.1 he with rfl | he
  ·exact h.dr.le
  ·exact h.n e he
theorem DB.at {X:Nat} {l:List Value} (h:DB w B sa len cap size ks wx) (hm:(X,l)∈ks):HoldsL wx X l:=h.k _ hm
theorem DB.set {X:Nat} {vs vs':List Value} (h:DB w B sa len cap size ((X,vs)::ks) wx) (j:Nat) (v:Value) (hv:vs.set j v=vs') (hne:∀ e∈ks,e.1≠X):DB w B sa len cap size ((X,vs')::ks) (wx.setCell ⟨X,j,none⟩ v):=by
 subst hv;refine ⟨h.dr.set X j v (h.n _ (List.mem_cons_self ..)),fun e he=>?_,fun e he=>?_,fun e he=>?_⟩
 ·rcases List.mem_cons.1 he with rfl | he
  ·exact (h.k _ (List.mem_cons_self ..)).set j v
  ·exact (h.k e (List.mem_cons_of_mem _ he)).setOther (hne e he) v
 ·rcases List.mem_cons.1 he with rfl | he
  ·have:=h.z _ (List.mem_cons_self ..); simpa using this
  ·exact h.z e (List.mem_cons_of_mem _ he)
 ·rcases List.mem_cons.1 he with rfl | he
  ·exact h.n (X,vs) (List.mem_cons_self ..)
  ·exact h.n e (List.mem_cons_of_mem _ he)
theorem DB.tail {e:Nat × List Value} (h:DB w B sa len cap size (e::ks) wx):DB w B sa len cap size ks wx:=⟨h.dr,fun x hx=>h.k x (List.mem_cons_of_mem _ hx),fun x hx=>h.z x (List.mem_cons_of_mem _ hx),fun x hx=>h.n x (List.mem_cons_of_mem _ hx)⟩
theorem DB.swap {e f:Nat × List Value} (h:DB w B sa len cap size (e::f::ks) wx):DB w B sa len cap size (f::e::ks) wx :=
 ⟨h.dr,fun x hx=>h.k x (by simp at hx ⊢; rcases hx with h | h | h<;>simp [h]),fun x hx=>h.z x (by simp at hx ⊢; rcases hx with h | h | h<;>simp [h]),fun x hx=>h.n x (by simp at hx ⊢; rcases hx with h | h | h<;>simp [h])⟩
theorem DB.sub {ks':List (Nat × List Value)} (h:DB w B sa len cap size ks wx) (hs:∀ e∈ks',e∈ks):DB w B sa len cap size ks' wx:=⟨h.dr,fun e he=>h.k e (hs e he),fun e he=>h.z e (hs e he),fun e he=>h.n e (hs e he)⟩
theorem DB.lts (h:DB w B sa len cap size ks wx):∀ e∈ks,e.1 < wx.heap.size:=fun e he=>(h.k e he).lt (h.z e he)
end
def XIx (n:Nat):Value→World→Prop:=fun v _=>∃ k:Nat,v=iV k∧k < n
theorem st_XIx {B n:Nat}:StableX (EB B) (XIx n):=fun _ _ _ h _=>h
def inR (n:Int):Prop:=-3000000000≤n∧n≤3000000000
def BdDr (q:Bd):Prop:=q.inn.size≤1000∧q.out.size≤1000∧inR q.proto∧inR q.inPort∧inR q.outPort
def SsDr (s:Ss):Prop:=s.inn.size≤1000∧s.peer.size≤1000∧inR s.proto∧inR s.inPort∧inR s.peerPort
def BbDr (x:Bb):Prop:=x.binds.length≤100∧x.sess.length≤100∧(∀ q∈x.binds,BdDr q)∧∀ s∈x.sess,SsDr s
def TcDr (t:Tc):Prop:=t.addr.size≤1000∧t.peer.size≤1000∧inR t.proto
theorem inR_64 {n:Int} (h:inR n):In64t n:=by unfold inR at h; unfold In64t; constructor<;>omega
theorem BdDr.good {q:Bd} (h:BdDr q):BdGood q:=⟨by have:=h.1; omega,by have:=h.2.1; omega,inR_64 h.2.2.1,inR_64 h.2.2.2.1,inR_64 h.2.2.2.2⟩
theorem SsDr.good {s:Ss} (h:SsDr s):SsGood s:=⟨by have:=h.1; omega,by have:=h.2.1; omega,inR_64 h.2.2.1,inR_64 h.2.2.2.1⟩
theorem drawNum_any (B:Nat) (a:Option Addr) (len cap:Nat) (size:Int) (w:World) (hl:len≤1048576) (hs:Src w B a len cap size) :
  Calls Tryz.prog 95 #[.pointer (some ⟨B,0,none⟩)] w fun e w'=>∃ r,e=.returned (iV r)∧Src w' B a len cap size∧w.grownBy w' (some B):=by
 have D0:Hid (Dr w B a len cap size w):=Dr.start hs;clear hs;go_enter Tryz.func95,Tryz.ntmps95
 go_wp2_with fail
 refine (drawOne_any 12 B a len cap size _ (by omega) hl D0.out.src).mono ?_;rintro e w1 ⟨c,rfl,hs,hg⟩;have D1:Hid (Dr w B a len cap size w1):=D0.out.draw hs hg;clear hs hg D0
 cases c with
 | true =>
  go_wp2_with fail
  refine (drawEdge_any B a len cap size _ hl D1.out.src).mono ?_;rintro e w2 ⟨r2,rfl,-,hs,hg⟩;have D2:Hid (Dr w B a len cap size w2):=D1.out.draw hs hg;clear hs hg D1;have D3:Hid (Dr w B a len cap size (w2.alloc (.cells #[iV (-1),iV 65536,iV r2] 2))):=D2.out.alloc _;have hB2:B < w2.heap.size:=Nat.lt_of_lt_of_le D2.out.hB D2.out.le;go_wp2_with fail
  refine (drawN_more 3 B a len cap size _ (by omega) (by omega) hl D3.out.src).mono ?_;rintro e w4 ⟨r,rfl,r0,r1,hs2,hg2⟩;obtain ⟨k,rfl⟩:=Int.eq_ofNat_of_zero_le r0;obtain ⟨y,hcell,hy⟩:=pickI (k:=k) [-1,65536,r2] hg2 hB2 (by simp; omega);have r1':(k:Int) < 3:=by omega
  have D4:Hid (Dr w B a len cap size w4):=D3.out.draw hs2 hg2;clear hs2 hg2 r0 r1 D3 D2 hy;go_wp2_with fail
  go_ret;exact ⟨y,rfl,D4.out.src,D4.out.grown⟩
 | false =>
  go_wp2_with fail
  refine (drawN_more 65536 B a len cap size _ (by omega) (by omega) hl D1.out.src).mono ?_;rintro e w2 ⟨r2,rfl,lo2,hi2,hs,hg⟩;have D2:Hid (Dr w B a len cap size w2):=D1.out.draw hs hg;clear hs hg D1;go_wp2_with fail
  refine (drawN_more 65536 B a len cap size _ (by omega) (by omega) hl D2.out.src).mono ?_;rintro e w3 ⟨r3,rfl,lo3,hi3,hs,hg⟩;have D3:Hid (Dr w B a len cap size w3):=D2.out.draw hs hg;clear hs hg D2;have D4:Hid (Dr w B a len cap size (w3.alloc (.cells #[iV 0,iV 1,iV 255,iV 256,iV 65534,iV 65535,iV r2,iV r3] 2))):=D3.out.alloc _;have hB2:B < w3.heap.size:=Nat.lt_of_lt_of_le D3.out.hB D3.out.le;go_wp2_with fail
  refine (drawN_more 8 B a len cap size _ (by omega) (by omega) hl D4.out.src).mono ?_;rintro e w5 ⟨r,rfl,r0,r1,hs2,hg2⟩;obtain ⟨k,rfl⟩:=Int.eq_ofNat_of_zero_le r0;obtain ⟨y,hcell,hy⟩:=pickI (k:=k) [0,1,255,256,65534,65535,r2,r3] hg2 hB2 (by simp; omega);have r1':(k:Int) < 8:=by omega
  have D5:Hid (Dr w B a len cap size w5):=D4.out.draw hs2 hg2;clear hs2 hg2 r0 r1 D4 D3 hy;go_wp2_with fail
  go_ret;exact ⟨y,rfl,D5.out.src,D5.out.grown⟩
end Go.Proofs.YtdkepkaflielhaaGreatDoor
namespace Go.Proofs.YtdkepkaflielhaaGreatDoor
open Go.RowKit
theorem isW_R {n:Int} (h:isW n=true):inR n:=by have:=isIn_parts h; unfold inR; omega
theorem protoB_R {n:Int} (h:protoB n=true):inR n:=by
 unfold protoB at h;simp only [Bool.or_eq_true,decide_eq_true_iff] at h;unfold inR;rcases h with (h | h) | h<;>omega
theorem addrOk_sz {s:ByteArray} (h:addrOk s=true):s.size≤16:=by
 unfold addrOk at h;simp at h;omega
theorem toList_sz {a b:ByteArray} (h:a.toList=b.toList):a.size=b.size:=by rw [baT_ext h]
theorem bind_dr {p:Pl} {ys:List Bd} {c:Bd} (hp:poolOk p=true) (hd:PlDr p) (h:bindOne p ys c=true):BdDr c:=by
 unfold bindOne at h;simp only [Bool.and_eq_true] at h;obtain ⟨⟨⟨⟨⟨h1,h2⟩,h3⟩,h4⟩,h5⟩,-⟩:=h;have hz:=addrOk_sz h2;have ho:c.out.size≤4:=by
  unfold inL at h4;obtain ⟨s,hs,e⟩:=List.any_eq_true.1 h4;have:=toList_sz (of_decide_eq_true e);have:=hd.2.2 s hs;omega
 unfold poolOk at hp;simp only [Bool.and_eq_true,decide_eq_true_iff] at hp;have h5':=isIn_parts h5;exact ⟨by omega,by omega,protoB_R h1,isW_R h3,by unfold inR; omega⟩
theorem bibR_dr {p:Pl} {x:Bb} (h:BibR p x) (hd:PlDr p) (h1:x.binds.length≤100) (h2:x.sess.length≤100):BbDr x:=by
 have hb:∀ q∈x.binds,BdDr q:=fun q hq=>by
  obtain ⟨i,hi,rfl⟩:=List.getElem_of_mem hq;exact bind_dr h.pool hd (h.bind i hi)
 refine ⟨h1,h2,hb,fun s hs=>?_⟩;obtain ⟨c,hc,ho⟩:=List.any_eq_true.1 (h.has s hs);have hcd:=hb c hc;have hv:=h.sess s hs;unfold sessV at hv;simp only [Bool.and_eq_true,decide_eq_true_iff] at hv;unfold ofIn at ho;simp only [Bool.and_eq_true,decide_eq_true_iff] at ho;have hi:=toList_sz ho.1.2;exact ⟨by have:=hcd.1; omega,by have:=hv.1.1.1.1; omega,ho.1.1 ▸ hcd.2.2.1,ho.2 ▸ hcd.2.2.2.1,isW_R hv.1.1.1.2⟩
def DrX (p:Pl) (n:Nat) (x:Bb):Prop:=(x=bbZ∨BibR p x)∧x.binds.length≤n∧x.sess.length≤n
theorem DrX.dr {p:Pl} {n:Nat} {x:Bb} (h:DrX p n x) (hd:PlDr p) (hn:n≤100):BbDr x:=by
 rcases h.1 with rfl | h1
 ·exact ⟨by decide,by decide,fun q hq=>by simp [bbZ] at hq,fun q hq=>by simp [bbZ] at hq⟩
 ·exact bibR_dr h1 hd (by have:=h.2.1; omega) (by have:=h.2.2; omega)
theorem DrX.ne {p:Pl} {n:Nat} {x:Bb} (h:DrX p n x):x.binds≠[]→x.sess≠[]:=fun hb hs=>by
 rcases h.1 with rfl | h1
 ·exact hb rfl
 ·obtain ⟨c,l,e⟩:=List.exists_cons_of_ne_nil hb;have:=h1.all c (by rw [e]; simp);rw [hs] at this;simp at this
theorem DrX.touch {p:Pl} {n:Nat} {x:Bb} {t:Tc} {now:Int} (h:DrX p n x) (hc:(bibTouchV p x t now).code=0):DrX p (n+1) (bibTouchV p x t now).bib:=by
 unfold bibTouchV at hc ⊢;by_cases hk:(bibOk p x&&isTime now&&touchOk t)=true
 ·rw [if_pos hk] at hc ⊢;simp only [Bool.and_eq_true] at hk;have hg:=goV_len p x t now;have h1:=h.2.1;have h2:=h.2.2;exact ⟨.inr (go_right (bibR_iff.1 hk.1.1) hk.1.2 hk.2 hc).1,by omega,by omega⟩
 ·rw [if_neg hk] at hc; simp [boE] at hc
end Go.Proofs.YtdkepkaflielhaaGreatDoor
