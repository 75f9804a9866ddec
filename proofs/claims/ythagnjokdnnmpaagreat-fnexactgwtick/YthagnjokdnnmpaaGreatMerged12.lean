import Derived.Test.YthagnjokdnnmpaaGreatMerged6
import Derived.Test.YthagnjokdnnmpaaGreatMerged11
import Derived.OwnWalk
import Derived.Deep.RegionWith
import Derived.WalkLawsBesides
import Derived.Lib.LazyBuf
import Derived.Test.YthagnjokdnnmpaaGreatMerged7
import Derived.Test.YthagnjokdnnmpaaGreatMerged5
import Derived.Test.YthagnjokdnnmpaaGreatLawPieceS
import Derived.Test.YthagnjokdnnmpaaGreatMerged10
set_option linter.unusedVariables false
set_option linter.unusedSimpArgs false
set_option maxRecDepth 100000
set_option maxHeartbeats 8000000
namespace Go.Proofs.YthagnjokdnnmpaaGreat
open Go.RowKit Go.PlainAid
def szP (n:Nat) (left:Int):Int:=if left < (n:Int) then -1 else left-n
def szV:List Rt→Int→Int
 | [],left=>left
 | q::l,left=>if left < (q.addr.size:Int) then -1 else szV l (left-q.addr.size)
theorem szV_bound:∀ (rs:List Rt) (left:Int),0≤szV rs left→∀ q∈rs,(q.addr.size:Int)≤left
 | [],_,_,q,hq=>by simp at hq
 | p::l,left,h,q,hq=>by
  unfold szV at h;split at h
  ·omega
  ·simp only [List.mem_cons] at hq;rcases hq with rfl | hq
   ·omega
   ·have:=szV_bound l _ h q hq; omega
theorem szV_range:∀ (rs:List Rt) (left:Int),0≤left→-1≤szV rs left∧szV rs left≤left
 | [],left,h=>by unfold szV; omega
 | p::l,left,h=>by
  unfold szV;split
  ·omega
  ·have:=szV_range l (left-p.addr.size) (by omega); omega
theorem szPrefix_any (s:ByteArray) (b left:Int) (w:World) (hs:s.size≤maxLen) (h0:0≤left) (h1:left≤1048576) :
  Calls Tryz.prog 12 #[.agg #[.string s,.int .i64 b],.int .i64 left] w fun e w'=>e=.returned (.int .i64 (szP s.size left))∧Below w.heap.size w w':=by
 unfold maxLen at hs;by_cases h:left < (s.size:Int)
 ·have HV:Hid (szP s.size left=-1):=if_pos h;go_enter Tryz.func12,Tryz.ntmps12
  go_wp2
  go_ret;exact ⟨ret_int HV.out.symm,(Below.refl _ _).alloc (Nat.le_refl _) _⟩
 ·have HV:Hid (szP s.size left=left-s.size):=if_neg h;go_enter Tryz.func12,Tryz.ntmps12
  go_wp2
  go_ret;exact ⟨ret_int HV.out.symm,(Below.refl _ _).alloc (Nat.le_refl _) _⟩
theorem szRoute_any (q:Rt) (left:Int) (w:World) (hs:q.addr.size≤maxLen) (h0:0≤left) (h1:left≤1048576) :
  Calls Tryz.prog 44 #[.agg #[.string q.addr,.int .i64 q.bits,.int .i64 q.hop],.int .i64 left] w fun e w'=>e=.returned (.int .i64 (szP q.addr.size left))∧Below w.heap.size w w':=by
 have HB:Hid (Below w.heap.size w (w.alloc (.cells #[.string q.addr,.int .i64 q.bits,.int .i64 q.hop] 91))):=(Below.refl _ _).alloc (Nat.le_refl _) _;have HC:Hid (∀ W,Calls Tryz.prog 12 #[.agg #[.string q.addr,.int .i64 q.bits],.int .i64 left] W fun e w'=>e=.returned (.int .i64 (szP q.addr.size left))∧Below W.heap.size W w'):=fun W=>szPrefix_any q.addr q.bits left W hs h0 h1
 unfold maxLen at hs;by_cases h:left < (q.addr.size:Int)
 ·have HV:Hid (szP q.addr.size left=-1):=if_pos h;rw [HV.out] at HC ⊢;clear HV;go_enter Tryz.func44,Tryz.ntmps44
  go_wp2_with fail
  refine (HC.out _).mono ?_;rintro e w1 ⟨rfl,q1⟩;go_wp2_with fail
  go_ret;exact ⟨rfl,HB.out.trans (q1.mono (by simp))⟩
 ·have HV:Hid (szP q.addr.size left=left-q.addr.size):=if_neg h;rw [HV.out] at HC ⊢;clear HV;go_enter Tryz.func44,Tryz.ntmps44
  go_wp2_with fail
  refine (HC.out _).mono ?_;rintro e w1 ⟨rfl,q1⟩;go_wp2_with fail
  go_ret;exact ⟨rfl,HB.out.trans (q1.mono (by simp))⟩
def szS (rs:List Rt):Int:=if (1048576:Int) < (rs.length:Int) then -1 else szV rs (1048576-rs.length)
theorem szS_in {rs:List Rt} (h:0≤szS rs):rs.length≤1048576∧∀ q∈rs,q.addr.size≤1048576:=by
 unfold szS at h;split at h
 ·omega
 ·exact ⟨by omega,fun q hq=>by have:=szV_bound _ _ h q hq; omega⟩
theorem szV_drop {rs:List Rt} {k:Nat} (h:k < rs.length) (left:Int):szV (rs.drop k) left=if left < (rs[k].addr.size:Int) then -1 else szV (rs.drop (k+1)) (left-rs[k].addr.size):=by
 rw [List.drop_eq_getElem_cons h]; rfl
theorem szV_end {rs:List Rt} {k:Nat} (h:rs.length≤k) (left:Int):szV (rs.drop k) left=left:=by
 rw [List.drop_eq_nil_of_le h]; rfl
theorem szRouteS_any (rs:List Rt) (a:Option Addr) (cap:Nat) (w:World) (hwf:RtsWf rs) (hr:RtsIs w a rs) :
  Calls Tryz.prog 10 #[.slice a rs.length cap,.int .i64 1048576] w fun e w'=>e=.returned (.int .i64 (szS rs))∧Below w.heap.size w w':=by
 have hlm:=hwf.1;unfold maxLen at hlm;by_cases hlong:(1048576:Int) < (rs.length:Int)
 ·have HV:Hid (szS rs=-1):=if_pos hlong;clear hr hwf;go_enter Tryz.func10,Tryz.ntmps10
  go_wp2_with fail
  go_ret;exact ⟨ret_int HV.out.symm,Below.refl _ _⟩
 ·have HV:Hid (szS rs=szV rs (1048576-rs.length)):=if_neg hlong;have HR:Hid (RtsIs w a rs):=hr;have HW:Hid (RtsWf rs):=hwf;clear hr hwf;go_enter Tryz.func10,Tryz.ntmps10
  go_wp2_with fail
  go_loopw [1,5] (fun l i wr=>∃ (k:Nat) (left:Int),k≤rs.length∧i=.int .i64 k∧l=.int .i64 left∧0≤left∧left≤1048576∧szV rs (1048576-rs.length)=szV (rs.drop k) left∧Below w.heap.size w wr) (fun _ i _=>rs.length-(intOf i).toNat)
  case atStart=>exact ⟨0,1048576-rs.length,Nat.zero_le _,rfl,rfl,by omega,by omega,rfl,Below.refl _ _⟩
  case round =>
   obtain ⟨k,left,hk,rfl,rfl,hl0,hl1,hz,hbel⟩:=hrel;have HK:Hid _:=hz;have HL:Hid (Below w.heap.size w wr):=hbel;clear hz hbel;by_cases hlt:k < rs.length
   ·obtain ⟨b,off,rfl,hb,hat⟩ : ∃ b off,a=some ⟨b,off,none⟩∧b < w.heap.size∧RtsAt w b off rs:=by
     rcases HR.out with h | h
     ·rw [h] at hlt; simp at hlt
     ·exact h
    have HA:=hat.below hb HL.out;have c0:=HA.c0 k hlt;have c1:=HA.c1 k hlt;have c2:=HA.c2 k hlt;have hst:=szV_drop hlt left;have hq2:=HW.out.2 rs[k] (List.getElem_mem hlt);obtain ⟨q,hq⟩ : ∃ q,q=rs[k]:=⟨_,rfl⟩;rw [← hq] at c0 c1 c2 hst hq2;have HST:Hid _:=hst;obtain ⟨hq3,hq4,hq5⟩:=hq2;have HC:Hid (∀ W,Calls Tryz.prog 44 #[.agg #[.string q.addr,.int .i64 q.bits,.int .i64 q.hop],.int .i64 left] W fun e w'=>e=.returned (.int .i64 (szP q.addr.size left))∧Below W.heap.size W w'):=fun W=>szRoute_any q left W hq3 hl0 hl1
    clear hq HA hat hst hq3;by_cases hs:left < (q.addr.size:Int)
    ·have HX:Hid (szS rs=-1):=by unfold Hid; rw [HV.out,HK.out,HST.out,if_pos hs]
     have hsz:szP q.addr.size left=-1:=if_pos hs;rw [hsz] at HC;clear hsz hs;go_wp2_with fail
     refine (HC.out _).mono ?_;rintro e w1 ⟨rfl,q1⟩;go_wp2_with fail
     go_ret;exact ⟨ret_int HX.out.symm,HL.out.trans (q1.mono HL.out.size)⟩
    ·have HX:Hid (szV (rs.drop k) left=szV (rs.drop (k+1)) (left-q.addr.size)):=HST.out.trans (if_neg hs);have hsz:szP q.addr.size left=left-q.addr.size:=if_neg hs;rw [hsz] at HC;obtain ⟨left',hle⟩ : ∃ x,x=left-(q.addr.size:Int):=⟨_,rfl⟩;rw [← hle] at HC HX;have hl0':0≤left':=by omega
     have hl1':left'≤1048576:=by omega
     clear hsz hs hle;go_wp2_with fail
     refine (HC.out _).mono ?_;rintro e w1 ⟨rfl,q1⟩;have HL1:Hid (Below w.heap.size w w1):=HL.out.trans (q1.mono HL.out.size);clear q1;go_wp2_with fail
     go_roundw
     case rel=>exact ⟨k+1,left',by omega,by go_num,rfl,hl0',hl1',by rw [HK.out,HX.out],HL1.out⟩
     case measure=>simp [intOf]; omega
   ·have HX:Hid (szS rs=left):=by unfold Hid; rw [HV.out,HK.out,szV_end (by omega)]
    go_wp2_with fail
    go_ret;exact ⟨ret_int HX.out.symm,HL.out⟩
structure RtsLaid (w:World) (B:Nat) (rs:List Rt) (k:Nat):Prop where
 blk:B < w.heap.size
 c0:∀ i (h:i < rs.length),i < k→w.cell? ⟨B,i*3,none⟩=some (.string rs[i].addr)
 c1:∀ i (h:i < rs.length),i < k→w.cell? ⟨B,i*3+1,none⟩=some (.int .i64 rs[i].bits)
 c2:∀ i (h:i < rs.length),i < k→w.cell? ⟨B,i*3+2,none⟩=some (.int .i64 rs[i].hop)
 there:∀ i,i < rs.length*3→(w.cell? ⟨B,i,none⟩).isSome=true
 free:∀ i,i < rs.length*3→w.frozen? ⟨B,i,none⟩=false
theorem RtsLaid.at {w:World} {B:Nat} {rs:List Rt} (h:RtsLaid w B rs rs.length):RtsAt w B 0 rs :=
 ⟨fun i hi=>by rw [Nat.zero_add]; exact h.c0 i hi hi,fun i hi=>by rw [Nat.zero_add]; exact h.c1 i hi hi,fun i hi=>by rw [Nat.zero_add]; exact h.c2 i hi hi⟩
theorem RtsLaid.below {w W:World} {B:Nat} {rs:List Rt} {k:Nat} (h:RtsLaid w B rs k) {n:Nat} (hn:B < n) (hB:Below n w W):RtsLaid W B rs k:=by
 have hc:∀ b o,b < n→W.cell? ⟨b,o,none⟩=w.cell? ⟨b,o,none⟩:=fun b o hb=>hB.cell (p:=⟨b,o,none⟩) hb
 have hf:∀ b o,b < n→W.frozen? ⟨b,o,none⟩=w.frozen? ⟨b,o,none⟩:=fun b o hb=>hB.frozen (p:=⟨b,o,none⟩) hb
 exact ⟨Nat.lt_of_lt_of_le h.blk hB.size,fun i hi hk=>(hc B _ hn).trans (h.c0 i hi hk),fun i hi hk=>(hc B _ hn).trans (h.c1 i hi hk),fun i hi hk=>(hc B _ hn).trans (h.c2 i hi hk),fun i hi=>by rw [hc B _ hn]; exact h.there i hi,fun i hi=>by rw [hf B _ hn]; exact h.free i hi⟩
theorem RtsLaid.set {w:World} {B:Nat} {rs:List Rt} {k:Nat} (h:RtsLaid w B rs k) (hk:k < rs.length):RtsLaid (w.setCells B (k*3) [.string rs[k].addr,.int .i64 rs[k].bits,.int .i64 rs[k].hop]) B rs (k+1):=by
 have hin:=World.cell?_setCells_in B [.string rs[k].addr,.int .i64 rs[k].bits,.int .i64 rs[k].hop] (k*3) w (fun j hj=>h.there _ (by simp at hj; omega));have hout:∀ n,n < k*3→(w.setCells B (k*3) [.string rs[k].addr,.int .i64 rs[k].bits,.int .i64 rs[k].hop]).cell? ⟨B,n,none⟩=w.cell? ⟨B,n,none⟩:=fun n hn=>World.cell?_setCells_out B _ (k*3) w _ (fun _ _=>.inl hn)
 refine ⟨Nat.lt_of_lt_of_le h.blk (below_setCells (B:=0) (Nat.zero_le _) _ _ _ (Below.refl 0 w)).size,fun i hi hk'=>?_,fun i hi hk'=>?_,fun i hi hk'=>?_,fun i hi=>?_,fun i hi=>by rw [World.frozen?_setCells]; exact h.free i hi⟩
 ·by_cases e:i=k
  ·subst e; exact hin 0 (by simp)
  ·rw [hout _ (by omega)]; exact h.c0 i hi (by omega)
 ·by_cases e:i=k
  ·subst e; exact hin 1 (by simp)
  ·rw [hout _ (by omega)]; exact h.c1 i hi (by omega)
 ·by_cases e:i=k
  ·subst e; exact hin 2 (by simp)
  ·rw [hout _ (by omega)]; exact h.c2 i hi (by omega)
 ·by_cases e:k*3≤i∧i < k*3+3
  ·obtain ⟨j,rfl⟩ : ∃ j,i=k*3+j:=⟨i-k*3,by omega⟩;rw [hin j (by simp; omega)]; rfl
  ·rw [World.cell?_setCells_out B _ (k*3) w _ (fun _ _=>by show i < k*3∨k*3+3≤i; omega)]; exact h.there i hi
theorem RtsLaid.start {w:World} {base n cap:Nat} {g:Nat} {e:TypeId} {xs:List Value} {rs:List Rt} (hn:n=rs.length) (h:w.ownsRow base e 3 (.slice (some ⟨g,0,none⟩) n cap) n xs):RtsLaid w g rs 0:=by
 obtain ⟨hl,h | ⟨g',cap',cur,hv,_,hh,hc,_,hsz,_⟩⟩:=h
 ·simp at h
 ·injection hv with hv _ hv3
  injection hv with hv
  injection hv with hv _
  subst hv hn hv3;have hlt:g < w.heap.size:=by
   by_cases hb:g < w.heap.size
   ·exact hb
   ·rw [Array.getElem?_eq_none (by omega)] at hh; simp at hh
  refine ⟨hlt,fun i hi hk=>by omega,fun i hi hk=>by omega,fun i hi hk=>by omega,fun i hi=>?_,fun i hi=>?_⟩
  ·have:i < cur.size:=by rw [hsz]; have:=Nat.mul_le_mul_right 3 hc; omega
   simp [World.cell?,hh,this]
  ·simp [World.frozen?,hh]
theorem three_back {w wx:World} {o1 o2 o3:Obj} (h:Below (((w.alloc o1).alloc o2).alloc o3).heap.size (((w.alloc o1).alloc o2).alloc o3) wx):Below w.heap.size w wx :=
 ((((Below.refl _ w).alloc (Nat.le_refl _) o1).alloc (by simp) o2).alloc (by simp; omega) o3).trans (h.mono (by simp; omega))
theorem three_size {w:World} {o1 o2 o3:Obj}:(((w.alloc o1).alloc o2).alloc o3).heap.size=w.heap.size+3:=by simp
theorem mid_cell {w:World} (o1 o3:Obj) {cs:Array Value} (t:TypeId) (j:Nat):(((w.alloc o1).alloc (.cells cs t)).alloc o3).cell? ⟨w.heap.size+1,j,none⟩=cs[j]?:=by
 have h:Below (w.heap.size+2) ((w.alloc o1).alloc (.cells cs t)) (((w.alloc o1).alloc (.cells cs t)).alloc o3):=(Below.refl _ _).alloc (by simp) _;rw [h.cell (p:=⟨w.heap.size+1,j,none⟩) (show w.heap.size+1 < w.heap.size+2 by omega)];show (w.alloc o1 |>.alloc (.cells cs t)).cell? ⟨w.heap.size+1,j,none⟩=cs[j]?;have e:((w.alloc o1).alloc (.cells cs t)).heap[w.heap.size+1]?=some (.cells cs t (0,0)):=by
  show ((w.heap.push o1).push (.cells cs t))[w.heap.size+1]?=_;rw [Array.getElem?_push,if_pos (by simp)]
 unfold World.cell?;rw [show (⟨w.heap.size+1,j,none⟩ : Addr).block=w.heap.size+1 from rfl,e];rfl
theorem toRoute_any (q:Rt) (w:World) :
  Calls Tryz.prog 46 #[.agg #[.string q.addr,.int .i64 q.bits,.int .i64 q.hop]] w fun e w'=>e=.returned (.agg #[.string q.addr,.int .i64 q.bits,.int .i64 q.hop])∧Below w.heap.size w w':=by
 have HC:Hid (∀ W,Calls Tryz.prog 15 #[.agg #[.string q.addr,.int .i64 q.bits]] W fun e w'=>e=.returned (.agg #[.string q.addr,.int .i64 q.bits])∧Below W.heap.size W w'):=fun W=>toPrefix_any q.addr q.bits W
 go_enter Tryz.func46,Tryz.ntmps46
 go_wp2_with fail
 refine (HC.out _).mono ?_;rintro e w1 ⟨rfl,q1⟩;have HQ:Hid _:=q1;obtain ⟨hc,hf⟩:=bcell q1;have r0:w1.cell? ⟨w.heap.size+1,0,none⟩=some (.string ⟨#[]⟩):=(hc (w.heap.size+1) 0 (by rw [three_size]; omega)).trans (mid_cell _ _ _ 0);have r1:w1.cell? ⟨w.heap.size+1,1,none⟩=some (.int .i64 0):=(hc (w.heap.size+1) 1 (by rw [three_size]; omega)).trans (mid_cell _ _ _ 1);have r2:w1.cell? ⟨w.heap.size+1,2,none⟩=some (.int .i64 0):=(hc (w.heap.size+1) 2 (by rw [three_size]; omega)).trans (mid_cell _ _ _ 2);go_wp2_with fail
 exact bodyPost_ret (v:=.agg #[.string q.addr,.int .i64 q.bits,.int .i64 q.hop]) (by simp [results,Tryz.results46,go_sem,r0,r1,r2]) rfl ⟨rfl,((((((three_back HQ.out).setCell (show w.heap.size≤w.heap.size+1+1 by omega) _).setCell (show w.heap.size≤w.heap.size+1+1 by omega) _).setCell (show w.heap.size≤w.heap.size+1+1 by omega) _).setCell (show w.heap.size≤w.heap.size+1 by omega) _).setCell (show w.heap.size≤w.heap.size+1 by omega) _).setCell (show w.heap.size≤w.heap.size+1 by omega) _⟩
theorem Tryz.infoR:(Tryz.prog.info? 94).map (fun i=>(i.zero,i.size,i.bytes))=some (some (.agg #[.string ⟨#[]⟩,.int .i64 0,.int .i64 0]),3,32):=by kernel_rfl
theorem toRouteS_any (rs:List Rt) (a:Option Addr) (cap:Nat) (w:World) (hwf:RtsWf rs) (hlen:rs.length≤1048576) (hr:RtsIs w a rs) :
  Calls Tryz.prog 13 #[.slice a rs.length cap] w fun e w'=>e=.returned (.slice (some ⟨w.heap.size,0,none⟩) rs.length rs.length)∧Below w.heap.size w w'∧RtsLaid w' w.heap.size rs rs.length:=by
 have HR:Hid (RtsIs w a rs):=hr;have HW:Hid (RtsWf rs):=hwf;clear hr hwf;obtain ⟨i0,hi,hz0,hz1,hz2⟩:=info_parts Tryz.infoR;go_enter Tryz.func13,Tryz.ntmps13
 go_wp2_with (at_make; refine wpList_make_full _ rfl _ _ 23 rfl w.heap.size 94 i0 (.agg #[.string ⟨#[]⟩,.int .i64 0,.int .i64 0]) 3 Tryz.underlying23 hi hz0 hz1 .i64 .i64 _ _ rs.length rfl rfl (by omega) (by omega) (by rw [hz2]; omega) (by unfold maxLen; omega) (Nat.le_refl _) ?_; intro w1 hown hgrow)
 have hlaid:=RtsLaid.start (rs:=rs) rfl hown;have hbel:Below w.heap.size w w1:=⟨hgrow.os,hgrow.tape,hgrow.output,hgrow.size,fun k hk=>hgrow.block k hk (by simp)⟩;have HY:Hid (RtsLaid w1 w.heap.size rs 0):=hlaid;have HB:Hid (Below w.heap.size w w1):=hbel;clear hown hgrow hlaid hbel hi hz0 hz1 hz2;go_wp2_with fail
 go_loopw [4] (fun i wr=>∃ k:Nat,k≤rs.length∧i=.int .i64 k∧RtsLaid wr w.heap.size rs k∧Below w.heap.size w wr) (fun i _=>rs.length-(intOf i).toNat)
 case atStart=>exact ⟨0,Nat.zero_le _,rfl,HY.out,HB.out⟩
 case round =>
  obtain ⟨k,hk,rfl,hy,hbel⟩:=hrel;have HK:Hid (RtsLaid wr w.heap.size rs k):=hy;have HL:Hid (Below w.heap.size w wr):=hbel;clear hy hbel;by_cases hlt:k < rs.length
  ·obtain ⟨b,off,rfl,hb,hat⟩ : ∃ b off,a=some ⟨b,off,none⟩∧b < w.heap.size∧RtsAt w b off rs:=by
    rcases HR.out with h | h
    ·rw [h] at hlt; simp at hlt
    ·exact h
   have HA:=hat.below hb HL.out;have c0:=HA.c0 k hlt;have c1:=HA.c1 k hlt;have c2:=HA.c2 k hlt;obtain ⟨q,hq⟩ : ∃ q,q=rs[k]:=⟨_,rfl⟩;rw [← hq] at c0 c1 c2;have HQ:Hid (q=rs[k]):=hq;have HC:Hid (∀ W,Calls Tryz.prog 46 #[.agg #[.string q.addr,.int .i64 q.bits,.int .i64 q.hop]] W fun e w'=>e=.returned (.agg #[.string q.addr,.int .i64 q.bits,.int .i64 q.hop])∧Below W.heap.size W w'):=fun W=>toRoute_any q W
   clear hq HA hat;go_wp2_with fail
   refine (HC.out _).mono ?_;rintro e w2 ⟨rfl,q2⟩;have HL2:Hid (Below w.heap.size w w2):=HL.out.trans (q2.mono HL.out.size);have HK2:Hid (RtsLaid w2 w.heap.size rs k):=HK.out.below HK.out.blk q2;clear q2 c0 c1 c2;obtain ⟨v0,t0⟩:=Option.isSome_iff_exists.1 (HK2.out.there (k*3) (by omega));obtain ⟨v1,t1⟩:=Option.isSome_iff_exists.1 (HK2.out.there (k*3+1) (by omega));obtain ⟨v2,t2⟩:=Option.isSome_iff_exists.1 (HK2.out.there (k*3+2) (by omega));have f0:=HK2.out.free (k*3) (by omega);have f1:=HK2.out.free (k*3+1) (by omega);have f2:=HK2.out.free (k*3+2) (by omega);go_wp2_with fail
   go_roundw
   case rel =>
    have hset:=HK2.out.set hlt;rw [← HQ.out] at hset;exact ⟨k+1,by omega,by go_num,hset,((HL2.out.setCell (Nat.le_refl _) _).setCell (Nat.le_refl _) _).setCell (Nat.le_refl _) _⟩
   case measure=>simp [intOf]; omega
  ·have hkl:k=rs.length:=by omega
   have HE:Hid (RtsLaid wr w.heap.size rs rs.length):=by unfold Hid; rw [← hkl]; exact HK.out
   clear HK;go_wp2_with fail
   go_ret;exact ⟨rfl,HL.out,HE.out⟩
theorem eqPrefix_same (s:ByteArray) (c:Int) (w:World) :
  Calls Tryz.prog 49 #[.agg #[.string s,.int .i64 c],.agg #[.string s,.int .i64 c]] w fun e w'=>e=.returned (.bool true)∧Below w.heap.size w w':=by
 go_enter Tryz.func49,Tryz.ntmps49
 go_wp2
 go_ret;exact ⟨rfl,((Below.refl _ _).alloc (Nat.le_refl _) _).alloc (by simp) _⟩
theorem two_back {w wx:World} {o1 o2:Obj} (h:Below ((w.alloc o1).alloc o2).heap.size ((w.alloc o1).alloc o2) wx):Below w.heap.size w wx :=
 (((Below.refl _ w).alloc (Nat.le_refl _) o1).alloc (by simp) o2).trans (h.mono (by simp; omega))
theorem eqRoute_same (q:Rt) (w:World) :
  Calls Tryz.prog 53 #[.agg #[.string q.addr,.int .i64 q.bits,.int .i64 q.hop],.agg #[.string q.addr,.int .i64 q.bits,.int .i64 q.hop]] w fun e w'=>e=.returned (.bool true)∧Below w.heap.size w w':=by
 have HC:Hid (∀ W,Calls Tryz.prog 49 #[.agg #[.string q.addr,.int .i64 q.bits],.agg #[.string q.addr,.int .i64 q.bits]] W fun e w'=>e=.returned (.bool true)∧Below W.heap.size W w'):=fun W=>eqPrefix_same q.addr q.bits W
 go_enter Tryz.func53,Tryz.ntmps53
 go_wp2_with fail
 refine (HC.out _).mono ?_;rintro e w1 ⟨rfl,q1⟩;have HQ:Hid _:=q1;obtain ⟨hc,hf⟩:=bcell q1;go_wp2_with fail
 go_ret;exact ⟨rfl,two_back HQ.out⟩
open Go.ChangeShapes Go.WideShapes
structure GwWf (g:Gw):Prop where
 rt:RtsWf g.routes
 pl:PlWf g.pool
 sa:g.sixA.size≤maxLen
 sb:In64t g.sixB
 f1:g.four1.size≤maxLen
 s1:g.six1.size≤maxLen
 mt:In64t g.mtu
 bb:BbWf g.bib
 pc:PcsWf g.pcs
 bk:BkWf g.bk
 nw:In64t g.now
def szG0 (g:Gw):Int:=szS g.routes
def szG1 (g:Gw):Int:=szSl strN g.pool.addrs (szG0 g)
def szG2 (g:Gw):Int:=szP g.sixA.size (szG1 g)
def szG3 (g:Gw):Int:=szG2 g-g.four1.size
def szG4 (g:Gw):Int:=szG3 g-g.six1.size
def szG5 (g:Gw):Int:=szBb g.bib (szG4 g)
def szG6 (g:Gw):Int:=szSl pieceN g.pcs (szG5 g)
def szGwV (g:Gw):Int:=if szG0 g < 0 then -1 else if szG1 g < 0 then -1 else if szG2 g < 0 then -1 else if szG3 g < 0 then -1 else if szG4 g < 0 then -1 else if szG5 g < 0 then -1 else szG6 g
theorem szS_range (rs:List Rt) : -1≤szS rs∧szS rs≤1048576:=by
 unfold szS;split
 ·omega
 ·have:=szV_range rs (1048576-rs.length) (by omega); omega
theorem szP_range (n:Nat) (left:Int) (h:0≤left) : -1≤szP n left∧szP n left≤left:=by unfold szP; split<;>omega
structure GwRg (s0 s1 s2 s3 s4 s5 s6:Int) (f1 n1:Nat):Prop where
 r0 : -1≤s0∧s0≤1048576
 r1:0≤s0→-1≤s1∧s1≤s0
 r2:0≤s1→-1≤s2∧s2≤s1
 r3:s3=s2-f1
 r4:s4=s3-n1
 r5:0≤s4→-1≤s5∧s5≤s4
 r6:0≤s5→-1≤s6∧s6≤s5
theorem gw_rg (g:Gw):GwRg (szG0 g) (szG1 g) (szG2 g) (szG3 g) (szG4 g) (szG5 g) (szG6 g) g.four1.size g.six1.size :=
 ⟨szS_range _,fun h=>szSl_range strN g.pool.addrs _ h,fun h=>szP_range _ _ h,rfl,rfl,fun h=>szBb_range _ _ h,fun h=>szSl_range pieceN g.pcs _ h⟩
theorem szGw_in {g:Gw} (h:0≤szGwV g):(g.routes.length≤1048576∧∀ q∈g.routes,q.addr.size≤1048576)∧(g.pool.addrs.length≤1048576∧∀ s∈g.pool.addrs,s.size≤1048576)∧g.sixA.size≤1048576∧g.four1.size≤1048576∧g.six1.size≤1048576∧BbSm g.bib∧PcsIn g.pcs:=by
 have hr:=gw_rg g;unfold szGwV at h;(repeat' split at h)<;>try omega
 rename_i h0 h1 h2 h3 h4 h5;have r0:=hr.r0;have r1:=hr.r1 (by omega);have r2:=hr.r2 (by omega);have r3:=hr.r3;have r4:=hr.r4;have r5:=hr.r5 (by omega);refine ⟨szS_in (show 0≤szS g.routes by show 0≤szG0 g; omega),strs_in (left:=szG0 g) (by omega) (by omega) (by show 0≤szG1 g; omega),?_,by omega,by omega,bb_in (left:=szG4 g) (by omega) (by omega) (by show 0≤szG5 g; omega),pcs_in (left:=szG5 g) (by omega) (by omega) (by show 0≤szG6 g; omega)⟩;have:0≤szP g.sixA.size (szG1 g):=by show 0≤szG2 g; omega
 unfold szP at this;split at this<;>omega
section
variable {H:Type} {enc:TypeId × Value→H} {P:Program} {w:World} {base:Nat} {spare:Nat→Bool} {held:Bool}
theorem flat_part {t:TypeId} {fs:Array Field} {n:Nat} {cs:List Value} {x:DataW H × List MemPlace} (ht:P.underlying t=some (.struct fs)) (h:DataW.trod enc P w base spare held n t cs=some x) (i o k:Nat) (f:Field) (hf:fs[i]?=some f) (ho:f.offset=o) (hc:P.cellsOf f.type=k) (ds:List Value) (hd:(cs.drop o).take k=ds) :
  ∃ m y,DataW.trod enc P w base spare held m f.type ds=some y:=by
 obtain ⟨xs,m,_,_,hl,hx,hg⟩:=DataW.trod_struct ht h;have h1:=hg i f hf;rw [ho,hc,hd] at h1;have hi:i < xs.length:=by rw [hx]; exact (Array.getElem?_eq_some_iff.mp hf).1
 rw [List.getElem?_eq_getElem hi] at h1;exact ⟨m,_,h1⟩
theorem arrG24 {α:Type} {cs:Array α} (h:cs.size=24):∃ c0 c1 c2 c3 c4 c5 c6 c7 c8 c9 c10 c11 c12 c13 c14 c15 c16 c17 c18 c19 c20 c21 c22 c23,cs=#[c0,c1,c2,c3,c4,c5,c6,c7,c8,c9,c10,c11,c12,c13,c14,c15,c16,c17,c18,c19,c20,c21,c22,c23]:=by
 obtain ⟨l⟩:=cs;match l,h with
 | [c0,c1,c2,c3,c4,c5,c6,c7,c8,c9,c10,c11,c12,c13,c14,c15,c16,c17,c18,c19,c20,c21,c22,c23],_=>exact ⟨c0,c1,c2,c3,c4,c5,c6,c7,c8,c9,c10,c11,c12,c13,c14,c15,c16,c17,c18,c19,c20,c21,c22,c23,rfl⟩
theorem openL_Pool {m:Nat} {c0 c1 c2 c3 c4 c5 c6 c7 c8 c9:Value} {y:DataW H × List MemPlace} (hf:DataW.trod enc Tryz.prog w base spare held m 48 [c0,c1,c2,c3,c4,c5,c6,c7,c8,c9]=some y) :
  ∃ (a:Option Addr) (cap:Nat) (q:Pl),[c0,c1,c2,c3,c4,c5,c6,c7,c8,c9]=plL a cap q∧PlWf q∧SlIs strL1 1 w a q.addrs:=by
 obtain ⟨n0,z0,k0⟩:=flat_part Tryz.underlying48 hf 0 0 1 _ rfl rfl (show Tryz.prog.cellsOf 24=1 by kernel_rfl) [c0] rfl;obtain ⟨nc1,zc1,kc1⟩:=flat_part Tryz.underlying48 hf 1 1 1 _ rfl rfl (show Tryz.prog.cellsOf 2=1 by kernel_rfl) [c1] rfl;obtain ⟨xc1,ec1,_,gc1⟩:=DataW.trod_int Tryz.underlying2 kc1;obtain ⟨nc2,zc2,kc2⟩:=flat_part Tryz.underlying48 hf 2 2 1 _ rfl rfl (show Tryz.prog.cellsOf 2=1 by kernel_rfl) [c2] rfl;obtain ⟨xc2,ec2,_,gc2⟩:=DataW.trod_int Tryz.underlying2 kc2;obtain ⟨nc3,zc3,kc3⟩:=flat_part Tryz.underlying48 hf 3 3 1 _ rfl rfl (show Tryz.prog.cellsOf 2=1 by kernel_rfl) [c3] rfl;obtain ⟨xc3,ec3,_,gc3⟩:=DataW.trod_int Tryz.underlying2 kc3;obtain ⟨nc4,zc4,kc4⟩:=flat_part Tryz.underlying48 hf 4 4 1 _ rfl rfl (show Tryz.prog.cellsOf 2=1 by kernel_rfl) [c4] rfl;obtain ⟨xc4,ec4,_,gc4⟩:=DataW.trod_int Tryz.underlying2 kc4;obtain ⟨n5,z5,k5⟩:=flat_part Tryz.underlying48 hf 5 5 5 _ rfl rfl (show Tryz.prog.cellsOf 46=5 by kernel_rfl) [c5,c6,c7,c8,c9] rfl;obtain ⟨nc5,zc5,kc5⟩:=flat_part Tryz.underlying46 k5 0 0 1 _ rfl rfl (show Tryz.prog.cellsOf 2=1 by kernel_rfl) [c5] rfl;obtain ⟨xc5,ec5,_,gc5⟩:=DataW.trod_int Tryz.underlying2 kc5;obtain ⟨nc6,zc6,kc6⟩:=flat_part Tryz.underlying46 k5 1 1 1 _ rfl rfl (show Tryz.prog.cellsOf 2=1 by kernel_rfl) [c6] rfl;obtain ⟨xc6,ec6,_,gc6⟩:=DataW.trod_int Tryz.underlying2 kc6;obtain ⟨nc7,zc7,kc7⟩:=flat_part Tryz.underlying46 k5 2 2 1 _ rfl rfl (show Tryz.prog.cellsOf 2=1 by kernel_rfl) [c7] rfl;obtain ⟨xc7,ec7,_,gc7⟩:=DataW.trod_int Tryz.underlying2 kc7;obtain ⟨nc8,zc8,kc8⟩:=flat_part Tryz.underlying46 k5 3 3 1 _ rfl rfl (show Tryz.prog.cellsOf 2=1 by kernel_rfl) [c8] rfl;obtain ⟨xc8,ec8,_,gc8⟩:=DataW.trod_int Tryz.underlying2 kc8;obtain ⟨nc9,zc9,kc9⟩:=flat_part Tryz.underlying46 k5 4 4 1 _ rfl rfl (show Tryz.prog.cellsOf 2=1 by kernel_rfl) [c9] rfl;obtain ⟨xc9,ec9,_,gc9⟩:=DataW.trod_int Tryz.underlying2 kc9;simp only [List.cons.injEq,and_true] at ec1 ec2 ec3 ec4 ec5 ec6 ec7 ec8 ec9;subst ec1 ec2 ec3 ec4 ec5 ec6 ec7 ec8 ec9;obtain ⟨a0,l0,p0,rfl⟩ : ∃ a len cap,c0=.slice a len cap:=by
  rcases DataW.trod_slice Tryz.underlying24 k0 with ⟨e,_⟩ | ⟨b,l,c,_,_,_,_,e,_⟩
  ·simp at e; exact ⟨_,_,_,e⟩
  ·simp at e; exact ⟨_,_,_,e⟩
 obtain ⟨ys,rfl,hw,hs⟩:=open_StringS k0;exact ⟨a0,p0,⟨ys,xc1,xc2,xc3,xc4,⟨xc5,xc6,xc7,xc8,xc9⟩⟩,rfl,⟨hw,wf64s gc1,wf64s gc2,wf64s gc3,wf64s gc4,wf64s gc5,wf64s gc6,wf64s gc7,wf64s gc8,wf64s gc9⟩,hs⟩
theorem openL_Bib {m:Nat} {c0 c1:Value} {y:DataW H × List MemPlace} (hf:DataW.trod enc Tryz.prog w base spare held m 66 [c0,c1]=some y) :
  ∃ (a b:Option Addr) (ca cb:Nat) (x:Bb),[c0,c1]=[.slice a x.binds.length ca,.slice b x.sess.length cb]∧BbWf x∧BbIs w a b x:=by
 obtain ⟨n0,z0,k0⟩:=flat_part Tryz.underlying66 hf 0 0 1 _ rfl rfl (show Tryz.prog.cellsOf 63=1 by kernel_rfl) [c0] rfl;obtain ⟨n1,z1,k1⟩:=flat_part Tryz.underlying66 hf 1 1 1 _ rfl rfl (show Tryz.prog.cellsOf 64=1 by kernel_rfl) [c1] rfl;obtain ⟨a0,l0,p0,rfl⟩ : ∃ a len cap,c0=.slice a len cap:=by
  rcases DataW.trod_slice Tryz.underlying63 k0 with ⟨e,_⟩ | ⟨b,l,c,_,_,_,_,e,_⟩
  ·simp at e; exact ⟨_,_,_,e⟩
  ·simp at e; exact ⟨_,_,_,e⟩
 obtain ⟨a1,l1,p1,rfl⟩ : ∃ a len cap,c1=.slice a len cap:=by
  rcases DataW.trod_slice Tryz.underlying64 k1 with ⟨e,_⟩ | ⟨b,l,c,_,_,_,_,e,_⟩
  ·simp at e; exact ⟨_,_,_,e⟩
  ·simp at e; exact ⟨_,_,_,e⟩
 obtain ⟨xs,rfl,hw1,hs1⟩:=open_BindS k0;obtain ⟨ys,rfl,hw2,hs2⟩:=open_SessionS k1;exact ⟨a0,a1,p0,p1,⟨xs,ys⟩,rfl,⟨hw1,hw2⟩,⟨hs1,hs2⟩⟩
theorem open_Gw {r:Reach} {b0:Nat} {v:Value} {d:DataW H} {p:List MemPlace} (hv:Value.okWide Tryz.prog w r b0 70 v) (h:DataW.Trod enc Tryz.prog w base spare held 70 v d p) :
  ∃ (A:Ga) (g:Gw),v=gwC A g∧GwWf g∧GwIs w A g:=by
 obtain ⟨cs,rfl,hsz⟩:=okWide_struct Tryz.underlying70 hv;obtain ⟨c0,c1,c2,c3,c4,c5,c6,c7,c8,c9,c10,c11,c12,c13,c14,c15,c16,c17,c18,c19,c20,c21,c22,c23,rfl⟩:=arrG24 (hsz.trans (show Tryz.prog.cellsOf 70=24 by kernel_rfl));obtain ⟨fuel,hf⟩:=h;obtain ⟨mrt,yrt,hrt⟩:=flat_part Tryz.underlying70 hf 0 0 1 _ rfl rfl (show Tryz.prog.cellsOf 45=1 by kernel_rfl) [c0] rfl;obtain ⟨mpl,ypl,hpl⟩:=flat_part Tryz.underlying70 hf 1 1 10 _ rfl rfl (show Tryz.prog.cellsOf 48=10 by kernel_rfl) [c1,c2,c3,c4,c5,c6,c7,c8,c9,c10] rfl;obtain ⟨msx,ysx,hsx⟩:=flat_part Tryz.underlying70 hf 2 11 2 _ rfl rfl (show Tryz.prog.cellsOf 49=2 by kernel_rfl) [c11,c12] rfl;obtain ⟨mf1,yf1,hf1⟩:=flat_part Tryz.underlying70 hf 3 13 1 _ rfl rfl (show Tryz.prog.cellsOf 9=1 by kernel_rfl) [c13] rfl;obtain ⟨ms1,ys1,hs1⟩:=flat_part Tryz.underlying70 hf 4 14 1 _ rfl rfl (show Tryz.prog.cellsOf 9=1 by kernel_rfl) [c14] rfl;obtain ⟨mmt,ymt,hmt⟩:=flat_part Tryz.underlying70 hf 5 15 1 _ rfl rfl (show Tryz.prog.cellsOf 2=1 by kernel_rfl) [c15] rfl;obtain ⟨mbb,ybb,hbb⟩:=flat_part Tryz.underlying70 hf 6 16 2 _ rfl rfl (show Tryz.prog.cellsOf 66=2 by kernel_rfl) [c16,c17] rfl;obtain ⟨mpc,ypc,hpc⟩:=flat_part Tryz.underlying70 hf 7 18 1 _ rfl rfl (show Tryz.prog.cellsOf 67=1 by kernel_rfl) [c18] rfl;obtain ⟨mbk,ybk,hbk⟩:=flat_part Tryz.underlying70 hf 8 19 4 _ rfl rfl (show Tryz.prog.cellsOf 68=4 by kernel_rfl) [c19,c20,c21,c22] rfl;obtain ⟨mnw,ynw,hnw⟩:=flat_part Tryz.underlying70 hf 9 23 1 _ rfl rfl (show Tryz.prog.cellsOf 2=1 by kernel_rfl) [c23] rfl;obtain ⟨pa,pcap,plq,epl,wpl,spl⟩:=openL_Pool hpl;obtain ⟨ba,bo,bca,bcb,bx,ebb,wbb,sbb⟩:=openL_Bib hbb;obtain ⟨n11,z11,k11⟩:=flat_part Tryz.underlying49 hsx 0 0 1 _ rfl rfl (show Tryz.prog.cellsOf 9=1 by kernel_rfl) [c11] rfl;obtain ⟨xc11,ec11,_,gc11⟩:=DataW.trod_string Tryz.underlying9 k11;obtain ⟨nc12,zc12,kc12⟩:=flat_part Tryz.underlying49 hsx 1 1 1 _ rfl rfl (show Tryz.prog.cellsOf 2=1 by kernel_rfl) [c12] rfl;obtain ⟨xc12,ec12,_,gc12⟩:=DataW.trod_int Tryz.underlying2 kc12;obtain ⟨xc13,ec13,_,gc13⟩:=DataW.trod_string Tryz.underlying9 hf1;obtain ⟨xc14,ec14,_,gc14⟩:=DataW.trod_string Tryz.underlying9 hs1;obtain ⟨xc15,ec15,_,gc15⟩:=DataW.trod_int Tryz.underlying2 hmt;obtain ⟨xc23,ec23,_,gc23⟩:=DataW.trod_int Tryz.underlying2 hnw;obtain ⟨nc19,zc19,kc19⟩:=flat_part Tryz.underlying68 hbk 0 0 1 _ rfl rfl (show Tryz.prog.cellsOf 2=1 by kernel_rfl) [c19] rfl;obtain ⟨xc19,ec19,_,gc19⟩:=DataW.trod_int Tryz.underlying2 kc19;obtain ⟨nc20,zc20,kc20⟩:=flat_part Tryz.underlying68 hbk 1 1 1 _ rfl rfl (show Tryz.prog.cellsOf 2=1 by kernel_rfl) [c20] rfl;obtain ⟨xc20,ec20,_,gc20⟩:=DataW.trod_int Tryz.underlying2 kc20;obtain ⟨nc21,zc21,kc21⟩:=flat_part Tryz.underlying68 hbk 2 2 1 _ rfl rfl (show Tryz.prog.cellsOf 2=1 by kernel_rfl) [c21] rfl;obtain ⟨xc21,ec21,_,gc21⟩:=DataW.trod_int Tryz.underlying2 kc21;obtain ⟨nc22,zc22,kc22⟩:=flat_part Tryz.underlying68 hbk 3 3 1 _ rfl rfl (show Tryz.prog.cellsOf 2=1 by kernel_rfl) [c22] rfl;obtain ⟨xc22,ec22,_,gc22⟩:=DataW.trod_int Tryz.underlying2 kc22;simp only [List.cons.injEq,and_true] at ec11 ec12 ec13 ec14 ec15 ec19 ec20 ec21 ec22 ec23 ebb;subst ec11 ec12 ec13 ec14 ec15 ec19 ec20 ec21 ec22 ec23;obtain ⟨rfl,rfl⟩:=ebb;unfold plL at epl;simp only [List.cons.injEq,and_true] at epl;obtain ⟨rfl,rfl,rfl,rfl,rfl,rfl,rfl,rfl,rfl,rfl⟩:=epl;obtain ⟨ar,lr,pr,rfl⟩ : ∃ a len cap,c0=.slice a len cap:=by
  rcases DataW.trod_slice Tryz.underlying45 hrt with ⟨e,_⟩ | ⟨b,l,c,_,_,_,_,e,_⟩
  ·simp at e; exact ⟨_,_,_,e⟩
  ·simp at e; exact ⟨_,_,_,e⟩
 obtain ⟨aq,lq,pq,rfl⟩ : ∃ a len cap,c18=.slice a len cap:=by
  rcases DataW.trod_slice Tryz.underlying67 hpc with ⟨e,_⟩ | ⟨b,l,c,_,_,_,_,e,_⟩
  ·simp at e; exact ⟨_,_,_,e⟩
  ·simp at e; exact ⟨_,_,_,e⟩
 obtain ⟨rs,rfl,wrt,srt⟩:=open_routes hrt;obtain ⟨qs,rfl,wpc,spc⟩:=open_PieceS hpc;exact ⟨⟨ar,pr,pa,pcap,ba,bca,bo,bcb,aq,pq⟩,⟨rs,plq,xc11,xc12,xc13,xc14,xc15,bx,qs,⟨xc19,xc20,xc21,xc22⟩,xc23⟩,rfl,⟨wrt,wpl,gc11,wf64s gc12,gc13,gc14,wf64s gc15,wbb,wpc,⟨wf64s gc19,wf64s gc20,wf64s gc21,wf64s gc22⟩,wf64s gc23⟩,⟨srt,spl,sbb,spc⟩⟩
end
theorem gw_sm {A:Ga} {g:Gw} (h:0≤szGwV g) (hw:GwWf g) (h1:g.routes.length≤A.rc) (h2:g.pool.addrs.length≤A.pc):GwSm A g:=by
 obtain ⟨⟨r1,r2⟩,⟨p1,p2⟩,sx,f1,s1,⟨b1,b2,b3,b4⟩,pi⟩:=szGw_in h;exact ⟨r1,h1,fun q hq=>⟨r2 q hq,(hw.rt.2 q hq).2⟩,p1,h2,p2,sx,f1,s1,b1,b2,fun q hq=>⟨(b3 q hq).1,(b3 q hq).2,(hw.bb.1.2 q hq).1,(hw.bb.1.2 q hq).2.2.1,(hw.bb.1.2 q hq).2.2.2.2⟩,fun s hs=>⟨(b4 s hs).1,(b4 s hs).2,(hw.bb.2.2 s hs).1,(hw.bb.2.2 s hs).2.2.1⟩,pi⟩
end Go.Proofs.YthagnjokdnnmpaaGreat
