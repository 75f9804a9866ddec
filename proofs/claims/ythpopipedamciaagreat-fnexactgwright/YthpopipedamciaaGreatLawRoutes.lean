import Derived.Test.YthpopipedamciaaGreatMerged9
import Derived.Test.YthpopipedamciaaGreatMerged15
import Derived.OwnWalk
import Derived.Deep.RegionWith
import Derived.WalkLawsBesides
import Derived.Lib.LazyBuf
set_option linter.unusedVariables false
set_option linter.unusedSimpArgs false
set_option maxRecDepth 100000
set_option maxHeartbeats 8000000
namespace Go.Proofs.YthpopipedamciaaGreat
open Go.RowKit Go.PlainAid
def szP (n:Nat) (left:Int):Int:=if left < (n:Int) then -1 else left-n
def szV:List Rt→Int→Int
 | [],left=>left
 | q::l,left=>if left < (q.addr.size:Int) then -1 else szV l (left-q.addr.size)
theorem szV_bound:∀ (rs:List Rt) (left:Int),0≤szV rs left→∀ q∈rs,(q.addr.size:Int)≤left
 | [],_,_,q,hq=>by simp at hq
 | p::l,left,h,q,hq=>by
  unfold szV at h;split at h
  ·omega
  ·simp only [List.mem_cons] at hq;rcases hq with rfl | hq
   ·omega
   ·have:=szV_bound l _ h q hq; omega
theorem szV_range:∀ (rs:List Rt) (left:Int),0≤left→-1≤szV rs left∧szV rs left≤left
 | [],left,h=>by unfold szV; omega
 | p::l,left,h=>by
  unfold szV;split
  ·omega
  ·have:=szV_range l (left-p.addr.size) (by omega); omega
theorem szPrefix_any (s:ByteArray) (b left:Int) (w:World) (hs:s.size≤maxLen) (h0:0≤left) (h1:left≤1048576) :
  Calls Tryz.prog 17 #[.agg #[.string s,.int .i64 b],.int .i64 left] w fun e w'=>e=.returned (.int .i64 (szP s.size left))∧Below w.heap.size w w':=by
 unfold maxLen at hs;by_cases h:left < (s.size:Int)
 ·have HV:Hid (szP s.size left=-1):=if_pos h;go_enter Tryz.func17,Tryz.ntmps17
  go_wp2
  go_ret;exact ⟨ret_int HV.out.symm,(Below.refl _ _).alloc (Nat.le_refl _) _⟩
 ·have HV:Hid (szP s.size left=left-s.size):=if_neg h;go_enter Tryz.func17,Tryz.ntmps17
  go_wp2
  go_ret;exact ⟨ret_int HV.out.symm,(Below.refl _ _).alloc (Nat.le_refl _) _⟩
theorem szRoute_any (q:Rt) (left:Int) (w:World) (hs:q.addr.size≤maxLen) (h0:0≤left) (h1:left≤1048576) :
  Calls Tryz.prog 61 #[.agg #[.string q.addr,.int .i64 q.bits,.int .i64 q.hop],.int .i64 left] w fun e w'=>e=.returned (.int .i64 (szP q.addr.size left))∧Below w.heap.size w w':=by
 have HB:Hid (Below w.heap.size w (w.alloc (.cells #[.string q.addr,.int .i64 q.bits,.int .i64 q.hop] 102))):=(Below.refl _ _).alloc (Nat.le_refl _) _;have HC:Hid (∀ W,Calls Tryz.prog 17 #[.agg #[.string q.addr,.int .i64 q.bits],.int .i64 left] W fun e w'=>e=.returned (.int .i64 (szP q.addr.size left))∧Below W.heap.size W w'):=fun W=>szPrefix_any q.addr q.bits left W hs h0 h1
 unfold maxLen at hs;by_cases h:left < (q.addr.size:Int)
 ·have HV:Hid (szP q.addr.size left=-1):=if_pos h;rw [HV.out] at HC ⊢;clear HV;go_enter Tryz.func61,Tryz.ntmps61
  go_wp2_with fail
  refine (HC.out _).mono ?_;rintro e w1 ⟨rfl,q1⟩;go_wp2_with fail
  go_ret;exact ⟨rfl,HB.out.trans (q1.mono (by simp))⟩
 ·have HV:Hid (szP q.addr.size left=left-q.addr.size):=if_neg h;rw [HV.out] at HC ⊢;clear HV;go_enter Tryz.func61,Tryz.ntmps61
  go_wp2_with fail
  refine (HC.out _).mono ?_;rintro e w1 ⟨rfl,q1⟩;go_wp2_with fail
  go_ret;exact ⟨rfl,HB.out.trans (q1.mono (by simp))⟩
def szS (rs:List Rt):Int:=if (1048576:Int) < (rs.length:Int) then -1 else szV rs (1048576-rs.length)
theorem szS_in {rs:List Rt} (h:0≤szS rs):rs.length≤1048576∧∀ q∈rs,q.addr.size≤1048576:=by
 unfold szS at h;split at h
 ·omega
 ·exact ⟨by omega,fun q hq=>by have:=szV_bound _ _ h q hq; omega⟩
theorem szV_drop {rs:List Rt} {k:Nat} (h:k < rs.length) (left:Int):szV (rs.drop k) left=if left < (rs[k].addr.size:Int) then -1 else szV (rs.drop (k+1)) (left-rs[k].addr.size):=by
 rw [List.drop_eq_getElem_cons h]; rfl
theorem szV_end {rs:List Rt} {k:Nat} (h:rs.length≤k) (left:Int):szV (rs.drop k) left=left:=by
 rw [List.drop_eq_nil_of_le h]; rfl
theorem szRouteS_any (rs:List Rt) (a:Option Addr) (cap:Nat) (w:World) (hwf:RtsWf rs) (hr:RtsIs w a rs) :
  Calls Tryz.prog 15 #[.slice a rs.length cap,.int .i64 1048576] w fun e w'=>e=.returned (.int .i64 (szS rs))∧Below w.heap.size w w':=by
 have hlm:=hwf.1;unfold maxLen at hlm;by_cases hlong:(1048576:Int) < (rs.length:Int)
 ·have HV:Hid (szS rs=-1):=if_pos hlong;clear hr hwf;go_enter Tryz.func15,Tryz.ntmps15
  go_wp2_with fail
  go_ret;exact ⟨ret_int HV.out.symm,Below.refl _ _⟩
 ·have HV:Hid (szS rs=szV rs (1048576-rs.length)):=if_neg hlong;have HR:Hid (RtsIs w a rs):=hr;have HW:Hid (RtsWf rs):=hwf;clear hr hwf;go_enter Tryz.func15,Tryz.ntmps15
  go_wp2_with fail
  go_loopw [1,5] (fun l i wr=>∃ (k:Nat) (left:Int),k≤rs.length∧i=.int .i64 k∧l=.int .i64 left∧0≤left∧left≤1048576∧szV rs (1048576-rs.length)=szV (rs.drop k) left∧Below w.heap.size w wr) (fun _ i _=>rs.length-(intOf i).toNat)
  case atStart=>exact ⟨0,1048576-rs.length,Nat.zero_le _,rfl,rfl,by omega,by omega,rfl,Below.refl _ _⟩
  case round =>
   obtain ⟨k,left,hk,rfl,rfl,hl0,hl1,hz,hbel⟩:=hrel;have HK:Hid _:=hz;have HL:Hid (Below w.heap.size w wr):=hbel;clear hz hbel;by_cases hlt:k < rs.length
   ·obtain ⟨b,off,rfl,hb,hat⟩ : ∃ b off,a=some ⟨b,off,none⟩∧b < w.heap.size∧RtsAt w b off rs:=by
     rcases HR.out with h | h
     ·rw [h] at hlt; simp at hlt
     ·exact h
    have HA:=hat.below hb HL.out;have c0:=HA.c0 k hlt;have c1:=HA.c1 k hlt;have c2:=HA.c2 k hlt;have hst:=szV_drop hlt left;have hq2:=HW.out.2 rs[k] (List.getElem_mem hlt);obtain ⟨q,hq⟩ : ∃ q,q=rs[k]:=⟨_,rfl⟩;rw [← hq] at c0 c1 c2 hst hq2;have HST:Hid _:=hst;obtain ⟨hq3,hq4,hq5⟩:=hq2;have HC:Hid (∀ W,Calls Tryz.prog 61 #[.agg #[.string q.addr,.int .i64 q.bits,.int .i64 q.hop],.int .i64 left] W fun e w'=>e=.returned (.int .i64 (szP q.addr.size left))∧Below W.heap.size W w'):=fun W=>szRoute_any q left W hq3 hl0 hl1
    clear hq HA hat hst hq3;by_cases hs:left < (q.addr.size:Int)
    ·have HX:Hid (szS rs=-1):=by unfold Hid; rw [HV.out,HK.out,HST.out,if_pos hs]
     have hsz:szP q.addr.size left=-1:=if_pos hs;rw [hsz] at HC;clear hsz hs;go_wp2_with fail
     refine (HC.out _).mono ?_;rintro e w1 ⟨rfl,q1⟩;go_wp2_with fail
     go_ret;exact ⟨ret_int HX.out.symm,HL.out.trans (q1.mono HL.out.size)⟩
    ·have HX:Hid (szV (rs.drop k) left=szV (rs.drop (k+1)) (left-q.addr.size)):=HST.out.trans (if_neg hs);have hsz:szP q.addr.size left=left-q.addr.size:=if_neg hs;rw [hsz] at HC;obtain ⟨left',hle⟩ : ∃ x,x=left-(q.addr.size:Int):=⟨_,rfl⟩;rw [← hle] at HC HX;have hl0':0≤left':=by omega
     have hl1':left'≤1048576:=by omega
     clear hsz hs hle;go_wp2_with fail
     refine (HC.out _).mono ?_;rintro e w1 ⟨rfl,q1⟩;have HL1:Hid (Below w.heap.size w w1):=HL.out.trans (q1.mono HL.out.size);clear q1;go_wp2_with fail
     go_roundw
     case rel=>exact ⟨k+1,left',by omega,by go_num,rfl,hl0',hl1',by rw [HK.out,HX.out],HL1.out⟩
     case measure=>simp [intOf]; omega
   ·have HX:Hid (szS rs=left):=by unfold Hid; rw [HV.out,HK.out,szV_end (by omega)]
    go_wp2_with fail
    go_ret;exact ⟨ret_int HX.out.symm,HL.out⟩
structure RtsLaid (w:World) (B:Nat) (rs:List Rt) (k:Nat):Prop where
 blk:B < w.heap.size
 c0:∀ i (h:i < rs.length),i < k→w.cell? ⟨B,i*3,none⟩=some (.string rs[i].addr)
 c1:∀ i (h:i < rs.length),i < k→w.cell? ⟨B,i*3+1,none⟩=some (.int .i64 rs[i].bits)
 c2:∀ i (h:i < rs.length),i < k→w.cell? ⟨B,i*3+2,none⟩=some (.int .i64 rs[i].hop)
 there:∀ i,i < rs.length*3→(w.cell? ⟨B,i,none⟩).isSome=true
 free:∀ i,i < rs.length*3→w.frozen? ⟨B,i,none⟩=false
theorem RtsLaid.at {w:World} {B:Nat} {rs:List Rt} (h:RtsLaid w B rs rs.length):RtsAt w B 0 rs :=
 ⟨fun i hi=>by rw [Nat.zero_add]; exact h.c0 i hi hi,fun i hi=>by rw [Nat.zero_add]; exact h.c1 i hi hi,fun i hi=>by rw [Nat.zero_add]; exact h.c2 i hi hi⟩
theorem RtsLaid.below {w W:World} {B:Nat} {rs:List Rt} {k:Nat} (h:RtsLaid w B rs k) {n:Nat} (hn:B < n) (hB:Below n w W):RtsLaid W B rs k:=by
 have hc:∀ b o,b < n→W.cell? ⟨b,o,none⟩=w.cell? ⟨b,o,none⟩:=fun b o hb=>hB.cell (p:=⟨b,o,none⟩) hb
 have hf:∀ b o,b < n→W.frozen? ⟨b,o,none⟩=w.frozen? ⟨b,o,none⟩:=fun b o hb=>hB.frozen (p:=⟨b,o,none⟩) hb
 exact ⟨Nat.lt_of_lt_of_le h.blk hB.size,fun i hi hk=>(hc B _ hn).trans (h.c0 i hi hk),fun i hi hk=>(hc B _ hn).trans (h.c1 i hi hk),fun i hi hk=>(hc B _ hn).trans (h.c2 i hi hk),fun i hi=>by rw [hc B _ hn]; exact h.there i hi,fun i hi=>by rw [hf B _ hn]; exact h.free i hi⟩
theorem RtsLaid.set {w:World} {B:Nat} {rs:List Rt} {k:Nat} (h:RtsLaid w B rs k) (hk:k < rs.length):RtsLaid (w.setCells B (k*3) [.string rs[k].addr,.int .i64 rs[k].bits,.int .i64 rs[k].hop]) B rs (k+1):=by
 have hin:=World.cell?_setCells_in B [.string rs[k].addr,.int .i64 rs[k].bits,.int .i64 rs[k].hop] (k*3) w (fun j hj=>h.there _ (by simp at hj; omega));have hout:∀ n,n < k*3→(w.setCells B (k*3) [.string rs[k].addr,.int .i64 rs[k].bits,.int .i64 rs[k].hop]).cell? ⟨B,n,none⟩=w.cell? ⟨B,n,none⟩:=fun n hn=>World.cell?_setCells_out B _ (k*3) w _ (fun _ _=>.inl hn)
 refine ⟨Nat.lt_of_lt_of_le h.blk (below_setCells (B:=0) (Nat.zero_le _) _ _ _ (Below.refl 0 w)).size,fun i hi hk'=>?_,fun i hi hk'=>?_,fun i hi hk'=>?_,fun i hi=>?_,fun i hi=>by rw [World.frozen?_setCells]; exact h.free i hi⟩
 ·by_cases e:i=k
  ·subst e; exact hin 0 (by simp)
  ·rw [hout _ (by omega)]; exact h.c0 i hi (by omega)
 ·by_cases e:i=k
  ·subst e; exact hin 1 (by simp)
  ·rw [hout _ (by omega)]; exact h.c1 i hi (by omega)
 ·by_cases e:i=k
  ·subst e; exact hin 2 (by simp)
  ·rw [hout _ (by omega)]; exact h.c2 i hi (by omega)
 ·by_cases e:k*3≤i∧i < k*3+3
  ·obtain ⟨j,rfl⟩ : ∃ j,i=k*3+j:=⟨i-k*3,by omega⟩;rw [hin j (by simp; omega)]; rfl
  ·rw [World.cell?_setCells_out B _ (k*3) w _ (fun _ _=>by show i < k*3∨k*3+3≤i; omega)]; exact h.there i hi
theorem RtsLaid.start {w:World} {base n cap:Nat} {g:Nat} {e:TypeId} {xs:List Value} {rs:List Rt} (hn:n=rs.length) (h:w.ownsRow base e 3 (.slice (some ⟨g,0,none⟩) n cap) n xs):RtsLaid w g rs 0:=by
 obtain ⟨hl,h | ⟨g',cap',cur,hv,_,hh,hc,_,hsz,_⟩⟩:=h
 ·simp at h
 ·injection hv with hv _ hv3
  injection hv with hv
  injection hv with hv _
  subst hv hn hv3;have hlt:g < w.heap.size:=by
   by_cases hb:g < w.heap.size
   ·exact hb
   ·rw [Array.getElem?_eq_none (by omega)] at hh; simp at hh
  refine ⟨hlt,fun i hi hk=>by omega,fun i hi hk=>by omega,fun i hi hk=>by omega,fun i hi=>?_,fun i hi=>?_⟩
  ·have:i < cur.size:=by rw [hsz]; have:=Nat.mul_le_mul_right 3 hc; omega
   simp [World.cell?,hh,this]
  ·simp [World.frozen?,hh]
theorem three_back {w wx:World} {o1 o2 o3:Obj} (h:Below (((w.alloc o1).alloc o2).alloc o3).heap.size (((w.alloc o1).alloc o2).alloc o3) wx):Below w.heap.size w wx :=
 ((((Below.refl _ w).alloc (Nat.le_refl _) o1).alloc (by simp) o2).alloc (by simp; omega) o3).trans (h.mono (by simp; omega))
theorem three_size {w:World} {o1 o2 o3:Obj}:(((w.alloc o1).alloc o2).alloc o3).heap.size=w.heap.size+3:=by simp
theorem mid_cell {w:World} (o1 o3:Obj) {cs:Array Value} (t:TypeId) (j:Nat):(((w.alloc o1).alloc (.cells cs t)).alloc o3).cell? ⟨w.heap.size+1,j,none⟩=cs[j]?:=by
 have h:Below (w.heap.size+2) ((w.alloc o1).alloc (.cells cs t)) (((w.alloc o1).alloc (.cells cs t)).alloc o3):=(Below.refl _ _).alloc (by simp) _;rw [h.cell (p:=⟨w.heap.size+1,j,none⟩) (show w.heap.size+1 < w.heap.size+2 by omega)];show (w.alloc o1 |>.alloc (.cells cs t)).cell? ⟨w.heap.size+1,j,none⟩=cs[j]?;have e:((w.alloc o1).alloc (.cells cs t)).heap[w.heap.size+1]?=some (.cells cs t (0,0)):=by
  show ((w.heap.push o1).push (.cells cs t))[w.heap.size+1]?=_;rw [Array.getElem?_push,if_pos (by simp)]
 unfold World.cell?;rw [show (⟨w.heap.size+1,j,none⟩ : Addr).block=w.heap.size+1 from rfl,e];rfl
theorem toRoute_any (q:Rt) (w:World) :
  Calls Tryz.prog 63 #[.agg #[.string q.addr,.int .i64 q.bits,.int .i64 q.hop]] w fun e w'=>e=.returned (.agg #[.string q.addr,.int .i64 q.bits,.int .i64 q.hop])∧Below w.heap.size w w':=by
 have HC:Hid (∀ W,Calls Tryz.prog 20 #[.agg #[.string q.addr,.int .i64 q.bits]] W fun e w'=>e=.returned (.agg #[.string q.addr,.int .i64 q.bits])∧Below W.heap.size W w'):=fun W=>toPrefix_any q.addr q.bits W
 go_enter Tryz.func63,Tryz.ntmps63
 go_wp2_with fail
 refine (HC.out _).mono ?_;rintro e w1 ⟨rfl,q1⟩;have HQ:Hid _:=q1;obtain ⟨hc,hf⟩:=bcell q1;have r0:w1.cell? ⟨w.heap.size+1,0,none⟩=some (.string ⟨#[]⟩):=(hc (w.heap.size+1) 0 (by rw [three_size]; omega)).trans (mid_cell _ _ _ 0);have r1:w1.cell? ⟨w.heap.size+1,1,none⟩=some (.int .i64 0):=(hc (w.heap.size+1) 1 (by rw [three_size]; omega)).trans (mid_cell _ _ _ 1);have r2:w1.cell? ⟨w.heap.size+1,2,none⟩=some (.int .i64 0):=(hc (w.heap.size+1) 2 (by rw [three_size]; omega)).trans (mid_cell _ _ _ 2);go_wp2_with fail
 exact bodyPost_ret (v:=.agg #[.string q.addr,.int .i64 q.bits,.int .i64 q.hop]) (by simp [results,Tryz.results63,go_sem,r0,r1,r2]) rfl ⟨rfl,((((((three_back HQ.out).setCell (show w.heap.size≤w.heap.size+1+1 by omega) _).setCell (show w.heap.size≤w.heap.size+1+1 by omega) _).setCell (show w.heap.size≤w.heap.size+1+1 by omega) _).setCell (show w.heap.size≤w.heap.size+1 by omega) _).setCell (show w.heap.size≤w.heap.size+1 by omega) _).setCell (show w.heap.size≤w.heap.size+1 by omega) _⟩
theorem Tryz.infoR:(Tryz.prog.info? 105).map (fun i=>(i.zero,i.size,i.bytes))=some (some (.agg #[.string ⟨#[]⟩,.int .i64 0,.int .i64 0]),3,32):=by kernel_rfl
theorem toRouteS_any (rs:List Rt) (a:Option Addr) (cap:Nat) (w:World) (hwf:RtsWf rs) (hlen:rs.length≤1048576) (hr:RtsIs w a rs) :
  Calls Tryz.prog 18 #[.slice a rs.length cap] w fun e w'=>e=.returned (.slice (some ⟨w.heap.size,0,none⟩) rs.length rs.length)∧Below w.heap.size w w'∧RtsLaid w' w.heap.size rs rs.length:=by
 have HR:Hid (RtsIs w a rs):=hr;have HW:Hid (RtsWf rs):=hwf;clear hr hwf;obtain ⟨i0,hi,hz0,hz1,hz2⟩:=info_parts Tryz.infoR;go_enter Tryz.func18,Tryz.ntmps18
 go_wp2_with (at_make; refine wpList_make_full _ rfl _ _ 23 rfl w.heap.size 105 i0 (.agg #[.string ⟨#[]⟩,.int .i64 0,.int .i64 0]) 3 Tryz.underlying23 hi hz0 hz1 .i64 .i64 _ _ rs.length rfl rfl (by omega) (by omega) (by rw [hz2]; omega) (by unfold maxLen; omega) (Nat.le_refl _) ?_; intro w1 hown hgrow)
 have hlaid:=RtsLaid.start (rs:=rs) rfl hown;have hbel:Below w.heap.size w w1:=⟨hgrow.os,hgrow.tape,hgrow.output,hgrow.size,fun k hk=>hgrow.block k hk (by simp)⟩;have HY:Hid (RtsLaid w1 w.heap.size rs 0):=hlaid;have HB:Hid (Below w.heap.size w w1):=hbel;clear hown hgrow hlaid hbel hi hz0 hz1 hz2;go_wp2_with fail
 go_loopw [4] (fun i wr=>∃ k:Nat,k≤rs.length∧i=.int .i64 k∧RtsLaid wr w.heap.size rs k∧Below w.heap.size w wr) (fun i _=>rs.length-(intOf i).toNat)
 case atStart=>exact ⟨0,Nat.zero_le _,rfl,HY.out,HB.out⟩
 case round =>
  obtain ⟨k,hk,rfl,hy,hbel⟩:=hrel;have HK:Hid (RtsLaid wr w.heap.size rs k):=hy;have HL:Hid (Below w.heap.size w wr):=hbel;clear hy hbel;by_cases hlt:k < rs.length
  ·obtain ⟨b,off,rfl,hb,hat⟩ : ∃ b off,a=some ⟨b,off,none⟩∧b < w.heap.size∧RtsAt w b off rs:=by
    rcases HR.out with h | h
    ·rw [h] at hlt; simp at hlt
    ·exact h
   have HA:=hat.below hb HL.out;have c0:=HA.c0 k hlt;have c1:=HA.c1 k hlt;have c2:=HA.c2 k hlt;obtain ⟨q,hq⟩ : ∃ q,q=rs[k]:=⟨_,rfl⟩;rw [← hq] at c0 c1 c2;have HQ:Hid (q=rs[k]):=hq;have HC:Hid (∀ W,Calls Tryz.prog 63 #[.agg #[.string q.addr,.int .i64 q.bits,.int .i64 q.hop]] W fun e w'=>e=.returned (.agg #[.string q.addr,.int .i64 q.bits,.int .i64 q.hop])∧Below W.heap.size W w'):=fun W=>toRoute_any q W
   clear hq HA hat;go_wp2_with fail
   refine (HC.out _).mono ?_;rintro e w2 ⟨rfl,q2⟩;have HL2:Hid (Below w.heap.size w w2):=HL.out.trans (q2.mono HL.out.size);have HK2:Hid (RtsLaid w2 w.heap.size rs k):=HK.out.below HK.out.blk q2;clear q2 c0 c1 c2;obtain ⟨v0,t0⟩:=Option.isSome_iff_exists.1 (HK2.out.there (k*3) (by omega));obtain ⟨v1,t1⟩:=Option.isSome_iff_exists.1 (HK2.out.there (k*3+1) (by omega));obtain ⟨v2,t2⟩:=Option.isSome_iff_exists.1 (HK2.out.there (k*3+2) (by omega));have f0:=HK2.out.free (k*3) (by omega);have f1:=HK2.out.free (k*3+1) (by omega);have f2:=HK2.out.free (k*3+2) (by omega);go_wp2_with fail
   go_roundw
   case rel =>
    have hset:=HK2.out.set hlt;rw [← HQ.out] at hset;exact ⟨k+1,by omega,by go_num,hset,((HL2.out.setCell (Nat.le_refl _) _).setCell (Nat.le_refl _) _).setCell (Nat.le_refl _) _⟩
   case measure=>simp [intOf]; omega
  ·have hkl:k=rs.length:=by omega
   have HE:Hid (RtsLaid wr w.heap.size rs rs.length):=by unfold Hid; rw [← hkl]; exact HK.out
   clear HK;go_wp2_with fail
   go_ret;exact ⟨rfl,HL.out,HE.out⟩
theorem eqPrefix_same (s:ByteArray) (c:Int) (w:World) :
  Calls Tryz.prog 57 #[.agg #[.string s,.int .i64 c],.agg #[.string s,.int .i64 c]] w fun e w'=>e=.returned (.bool true)∧Below w.heap.size w w':=by
 go_enter Tryz.func57,Tryz.ntmps57
 go_wp2
 go_ret;exact ⟨rfl,((Below.refl _ _).alloc (Nat.le_refl _) _).alloc (by simp) _⟩
theorem two_back {w wx:World} {o1 o2:Obj} (h:Below ((w.alloc o1).alloc o2).heap.size ((w.alloc o1).alloc o2) wx):Below w.heap.size w wx :=
 (((Below.refl _ w).alloc (Nat.le_refl _) o1).alloc (by simp) o2).trans (h.mono (by simp; omega))
theorem eqRoute_same (q:Rt) (w:World) :
  Calls Tryz.prog 66 #[.agg #[.string q.addr,.int .i64 q.bits,.int .i64 q.hop],.agg #[.string q.addr,.int .i64 q.bits,.int .i64 q.hop]] w fun e w'=>e=.returned (.bool true)∧Below w.heap.size w w':=by
 have HC:Hid (∀ W,Calls Tryz.prog 57 #[.agg #[.string q.addr,.int .i64 q.bits],.agg #[.string q.addr,.int .i64 q.bits]] W fun e w'=>e=.returned (.bool true)∧Below W.heap.size W w'):=fun W=>eqPrefix_same q.addr q.bits W
 go_enter Tryz.func66,Tryz.ntmps66
 go_wp2_with fail
 refine (HC.out _).mono ?_;rintro e w1 ⟨rfl,q1⟩;have HQ:Hid _:=q1;obtain ⟨hc,hf⟩:=bcell q1;go_wp2_with fail
 go_ret;exact ⟨rfl,two_back HQ.out⟩
end Go.Proofs.YthpopipedamciaaGreat
