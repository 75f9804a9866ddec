import Derived.Test.YthagnjokdnnmpaaGreatMerged5
import Derived.Deep.Slices
import Derived.WideShapes
import Derived.Test.YthagnjokdnnmpaaGreatDrawRoutes
import Derived.Test.YthagnjokdnnmpaaGreatDrawPool
import Derived.Deep.RegionHeld
import Derived.Test.YthagnjokdnnmpaaGreatMerged1
import Derived.Test.YthagnjokdnnmpaaGreatProg
import Derived.WalkLawsBesides
import Derived.OwnWalk
import Derived.Deep.RegionWith
import Derived.Lib.LazyBuf
import Derived.Test.YthagnjokdnnmpaaGreatMerged10
import Derived.Test.YthagnjokdnnmpaaGreatDrawPrefix
set_option linter.unusedVariables false
set_option linter.unusedSimpArgs false
set_option maxRecDepth 100000
set_option maxHeartbeats 8000000
namespace Go.Proofs.YthagnjokdnnmpaaGreat
open Go.RowKit Go.PlainAid Go.ChangeShapes Go.WideShapes
def RtsIs (w:World) (a:Option Addr) (rs:List Rt):Prop:=rs=[]∨∃ b off,a=some ⟨b,off,none⟩∧b < w.heap.size∧RtsAt w b off rs
theorem RtsIs.below {w W:World} {a:Option Addr} {rs:List Rt} (h:RtsIs w a rs) (hB:Below w.heap.size w W):RtsIs W a rs:=by
 rcases h with h | ⟨b,off,ha,hb,hr⟩
 ·exact .inl h
 ·exact .inr ⟨b,off,ha,Nat.lt_of_lt_of_le hb hB.size,hr.below hb hB⟩
instance:Inhabited Rt:=⟨⟨ByteArray.empty,0,0⟩⟩
section
variable {H:Type} {enc:TypeId × Value→H} {w:World} {base:Nat} {spare:Nat→Bool} {held:Bool}
end
end Go.Proofs.YthagnjokdnnmpaaGreat
namespace Go.Proofs.YthagnjokdnnmpaaGreat
open Go.RowKit Go.PlainAid
theorem Tryz.infoGn:(Tryz.prog.info? 5).map (fun i=>(i.zero,i.size,i.bytes))=some (some (.int .u8 0),1,1):=by kernel_rfl
theorem mkzG (n:Nat) (w:World) (hn:n≤3000):∃ (u:ByteArray) (W:World),(Instr.makeSlice 22 (.int .i64 n) (.int .i64 n)).run Tryz.prog w=.ok (.slice (some ⟨w.heap.size,0,none⟩) n n) W∧(convert 22 9 (.slice (some ⟨w.heap.size,0,none⟩) n n)).run Tryz.prog W=.ok (.string u) W∧u.size=n∧Below w.heap.size w W:=by
 obtain ⟨i0,hi,hz0,hz1,hz2⟩:=info_parts Tryz.infoGn;obtain ⟨W,h1,h2,h3⟩:=run_make_full (P:=Tryz.prog) w w.heap.size 22 5 i0 (.int .u8 0) 1 Tryz.underlying22 hi hz0 hz1 .i64 .i64 n (by rw [hz2]; omega) (by unfold maxLen; omega) (Nat.le_refl _);have hx:∀ j,j < n→W.cell? ⟨w.heap.size,j,none⟩=some (.int .u8 0):=fun j hj=>by
  rw [h2.cellAt j (by omega)];simp [madeCells,Value.cells,hj,Nat.mod_one]
 have hcv:=run_convert_bytes_back (P:=Tryz.prog) W 22 9 5 ⟨w.heap.size,0,none⟩ n (List.replicate n 0) Tryz.underlying22 Tryz.underlying5 Tryz.underlying9 (fun j hj=>by
  have hj':j < n:=by simpa using hj
  have ha:Addr.add ⟨w.heap.size,0,none⟩ j=⟨w.heap.size,j,none⟩:=by simp only [Addr.add,Nat.zero_add]; split<;>simp_all
  rw [ha,hx j hj']; simp)
 rw [List.length_replicate] at hcv;exact ⟨_,W,h1,hcv,by simp [ByteArray.size],⟨h3.os,h3.tape,h3.output,h3.size,fun k hk=>h3.block k hk (by simp)⟩⟩
theorem own_two (W:World) (base:Nat) (hb:base≤W.heap.size) (q r:Rt) (e:TypeId):(W.alloc (.cells #[.string q.addr,.int .i64 q.bits,.int .i64 q.hop,.string r.addr,.int .i64 r.bits,.int .i64 r.hop] e)).ownsRow base e 3 (.slice (some ⟨W.heap.size,0,none⟩) 2 2) 2 (flatR [q,r]) :=
 ⟨by simp [flatR],.inr ⟨W.heap.size,2,_,rfl,hb,heap_alloc_new W _,Nat.le_refl _,by unfold maxLen; omega,rfl,by simp [flatR]⟩⟩
theorem rtD_mk (s:ByteArray) (b h:Int) (h1:s.size≤16) (h2:In64 b) (h3:In64 h):RtD ⟨s,b,h⟩:=⟨h1,h2,h3⟩
theorem rts_tail {w:World} {b:Nat} {rs:List Rt} (h:RtsAt w b 0 rs):RtsAt w b 3 rs.tail:=by
 refine ⟨fun i hi=>?_,fun i hi=>?_,fun i hi=>?_⟩;all_goals have hi':i+1 < rs.length:=by rw [List.length_tail] at hi; omega
 ·have:=h.c0 (i+1) hi'; rw [List.getElem_tail,show 3+i*3=0+(i+1)*3 by omega]; exact this
 ·have:=h.c1 (i+1) hi'; rw [List.getElem_tail,show 3+i*3+1=0+(i+1)*3+1 by omega]; exact this
 ·have:=h.c2 (i+1) hi'; rw [List.getElem_tail,show 3+i*3+2=0+(i+1)*3+2 by omega]; exact this
def RtGn (w:World) (B:Nat) (a:Option Addr) (len cap:Nat) (size:Int) (lo hi:Nat) (v:Value) (wx:World):Prop:=∃ (g c:Nat) (rs:List Rt),v=.slice (some ⟨g,0,none⟩) rs.length c∧rs.length≤c∧lo≤rs.length∧rs.length≤hi∧(∀ q∈rs,RtD q)∧RtSt w B a len cap size 94 v rs wx
theorem RtGn.draw {w wx wy:World} {B:Nat} {a:Option Addr} {len cap:Nat} {size:Int} {lo hi:Nat} {v:Value} (h:RtGn w B a len cap size lo hi v wx) (hs:Src wy B a len cap size) (hg:wx.grownBy wy (some B)):RtGn w B a len cap size lo hi v wy:=by
 obtain ⟨g,c,rs,h1,h2,h3,h4,h5,h6⟩:=h;exact ⟨g,c,rs,h1,h2,h3,h4,h5,h6.draw hs hg⟩
theorem draw13_any (B:Nat) (a:Option Addr) (len cap:Nat) (size:Int) (w:World) (hl:len≤1048576) (hs:Src w B a len cap size) :
  Calls Tryz.prog 28 #[.pointer (some ⟨B,0,none⟩)] w fun e w'=>∃ (ra:Option Addr) (c:Nat) (rs:List Rt),e=.returned (.slice ra rs.length c)∧rs.length≤c∧rs.length≤14∧(∀ q∈rs,RtD q)∧RtsIs w' ra rs∧(∀ g o,ra=some ⟨g,o,none⟩→w.heap.size≤g)∧Src w' B a len cap size∧w.grownBy w' (some B):=by
 obtain ⟨i0,hi,hz0,hz1,hz2⟩:=info_parts Tryz.infoR3;obtain ⟨u,W1,hmk,hcv,hu,hbw⟩:=mkzG 15 w (by omega);have hmk':(Instr.makeSlice 22 (.int .i64 15) (.int .i64 15)).run Tryz.prog w=.ok (.slice (some ⟨w.heap.size,0,none⟩) 15 15) W1:=hmk;have HD:Hid (Dr w B a len cap size W1):=(Dr.start hs).below hbw;have hsz:w.heap.size≤W1.heap.size:=hbw.size;have H2:Hid (RtSt w B a len cap size 94 (.slice (some ⟨W1.heap.size,0,none⟩) 2 2) [⟨⟨#[10,0,0,0]⟩,8,7⟩,⟨⟨#[32]⟩++u,8,8⟩] (W1.alloc (.cells #[.string ⟨#[10,0,0,0]⟩,.int .i64 8,.int .i64 7,.string (⟨#[32]⟩++u),.int .i64 8,.int .i64 8] 94))):=⟨HD.out.alloc _,own_two W1 w.heap.size hsz ⟨⟨#[10,0,0,0]⟩,8,7⟩ ⟨⟨#[32]⟩++u,8,8⟩ _⟩;have HR2:Hid (∀ q∈([⟨⟨#[10,0,0,0]⟩,8,7⟩,⟨⟨#[32]⟩++u,8,8⟩]:List Rt),RtD q):=fun q hq=>by
  simp at hq;rcases hq with rfl | rfl
  ·exact ⟨by decide,⟨by decide,by decide⟩,⟨by decide,by decide⟩⟩
  ·exact rtD_mk _ 8 8 (by rw [ByteArray.size_append,hu]; decide) ⟨by decide,by decide⟩ ⟨by decide,by decide⟩
 have hcat:¬ 9223372036854775807 < 1+u.size:=by omega
 clear hmk hs hbw HD hu;go_enter Tryz.func28,Tryz.ntmps28
 go_upto_region 2 with fail
 clear hmk' hcv hcat;generalize W1.alloc (.cells #[.string ⟨#[10,0,0,0]⟩,.int .i64 8,.int .i64 7,.string (⟨#[32]⟩++u),.int .i64 8,.int .i64 8] 94)=W2 at *;generalize hrs2:([⟨⟨#[10,0,0,0]⟩,8,7⟩,⟨⟨#[32]⟩++u,8,8⟩]:List Rt)=rs2 at *;have hlen2:rs2.length=2:=by rw [← hrs2]; rfl
 clear hrs2;go_wp2_with fail
 refine (drawOne_any 5 B a len cap size _ (by omega) hl H2.out.dr.src).mono ?_;rintro e W3 ⟨b3,rfl,hs3,hg3⟩;have H3:Hid (RtSt w B a len cap size 94 (.slice (some ⟨W1.heap.size,0,none⟩) 2 2) rs2 W3):=H2.out.draw hs3 hg3;clear hs3 hg3 H2;go_upto_if 14 with fail
 go_cut [3] (fun v wx=>RtGn w B a len cap size 2 3 v wx)
 case first =>
  cases b3 with
  | true =>
   go_wp2_with fail
   go_meet;exact ⟨W1.heap.size,2,rs2,by rw [hlen2],by omega,by omega,by omega,HR2.out,H3.out⟩
  | false =>
   have hown:=H3.out.own;have hwsz:w.heap.size≤W3.heap.size:=H3.out.dr.le;have HN1:Hid (∀ j u,([.string ⟨#[0,0,0,0]⟩,.int .i64 0,.int .i64 600]:List Value)[j]?=some u→(W3.alloc (.cells #[.string ⟨#[0,0,0,0]⟩,.int .i64 0,.int .i64 600] 94)).cell? ((⟨W3.heap.size,0,none⟩ : Addr).add j)=some u):=World.news_of_block (heap_alloc_new W3 _);have HN2:Hid (∀ u∈([.string ⟨#[0,0,0,0]⟩,.int .i64 0,.int .i64 600]:List Value),u.oneCell'=true):=fun u hu=>by simp at hu; rcases hu with rfl | rfl | rfl<;>rfl
   rw [hlen2] at hown;go_wp2_with (at_builtin; refine wpList_append_own _ rfl (.tmp 15) (.tmp 18) 23 rfl w.heap.size 94 i0 (.agg #[.string ⟨#[]⟩,.int .i64 0,.int .i64 0]) 3 32 Tryz.underlying23 hi hz0 hz1 hz2 rfl (by decide) _ _ _ rfl (hown.alloc _) ⟨W3.heap.size,0,none⟩ 1 1 [.string ⟨#[0,0,0,0]⟩,.int .i64 0,.int .i64 600] rfl rfl HN1.out HN2.out (by unfold maxLen; omega) (by omega) (by simp; omega) ?_)
   intro v' w12 hown2 hgrow hnil;have R:Hid (RtSt w B a len cap size 94 v' (rs2++[⟨⟨#[0,0,0,0]⟩,0,600⟩]) w12):=H3.out.append (q:=⟨⟨#[0,0,0,0]⟩,0,600⟩) (by rw [hlen2]; exact hown2) hgrow;obtain ⟨g,c,rfl,hc,hgw,hgl⟩:=own_shape3 R.out.own hnil;clear hown2 hgrow hnil hown;go_wp2_with fail
   go_meet;exact ⟨g,c,_,rfl,hc,by simp; omega,by simp; omega,fun q hq=>by
    rcases List.mem_append.1 hq with h | h
    ·exact HR2.out q h
    ·simp at h; subst h; exact ⟨by decide,⟨by decide,by decide⟩,⟨by decide,by decide⟩⟩,R.out⟩
 case rest =>
 obtain ⟨g4,c4,rs4,rfl,hc4,hlo4,hhi4,hr4,hst4⟩:=hcut;have H4:Hid (RtSt w B a len cap size 94 (.slice (some ⟨g4,0,none⟩) rs4.length c4) rs4 wc):=hst4;have HR4:Hid (∀ q∈rs4,RtD q):=hr4;clear hst4 hr4 H3 HR2 hlen2 hsz;generalize wc=W4 at *;go_wp2_with fail
 refine (drawOne_any 3 B a len cap size _ (by omega) hl H4.out.dr.src).mono ?_;rintro e W5 ⟨b5,rfl,hs5,hg5⟩;have H5:Hid (RtSt w B a len cap size 94 (.slice (some ⟨g4,0,none⟩) rs4.length c4) rs4 W5):=H4.out.draw hs5 hg5;clear hs5 hg5 H4;go_upto_if 21 with fail
 go_cut [3] (fun v wx=>RtGn w B a len cap size 2 4 v wx)
 case first =>
  cases b5 with
  | false =>
   go_wp2_with fail
   go_meet;exact ⟨g4,c4,rs4,rfl,hc4,by omega,by omega,HR4.out,H5.out⟩
  | true =>
   obtain ⟨u6,W6,hmk,hcv,hu,hbw⟩:=mkzG 16 W5 (by omega);have hmk':(Instr.makeSlice 22 (.int .i64 16) (.int .i64 16)).run Tryz.prog W5=.ok (.slice (some ⟨W5.heap.size,0,none⟩) 16 16) W6:=hmk;have H6:Hid (RtSt w B a len cap size 94 (.slice (some ⟨g4,0,none⟩) rs4.length c4) rs4 W6):=H5.out.below hbw;have HU6:Hid (u6.size=16):=hu;clear hmk hbw hu H5;have hown:=H6.out.own;have hwsz:w.heap.size≤W6.heap.size:=H6.out.dr.le;have HN1:Hid (∀ j u,([.string u6,.int .i64 0,.int .i64 601]:List Value)[j]?=some u→(W6.alloc (.cells #[.string u6,.int .i64 0,.int .i64 601] 94)).cell? ((⟨W6.heap.size,0,none⟩ : Addr).add j)=some u):=World.news_of_block (heap_alloc_new W6 _);have HN2:Hid (∀ u∈([.string u6,.int .i64 0,.int .i64 601]:List Value),u.oneCell'=true):=fun u hu=>by simp at hu; rcases hu with rfl | rfl | rfl<;>rfl
   go_wp2_with (at_builtin; refine wpList_append_own _ rfl (.tmp 22) (.tmp 27) 23 rfl w.heap.size 94 i0 (.agg #[.string ⟨#[]⟩,.int .i64 0,.int .i64 0]) 3 32 Tryz.underlying23 hi hz0 hz1 hz2 rfl (by decide) _ _ _ rfl (hown.alloc _) ⟨W6.heap.size,0,none⟩ 1 1 [.string u6,.int .i64 0,.int .i64 601] rfl rfl HN1.out HN2.out (by unfold maxLen; omega) (by omega) (by simp; omega) ?_)
   intro v' w12 hown2 hgrow hnil;have R:Hid (RtSt w B a len cap size 94 v' (rs4++[⟨u6,0,601⟩]) w12):=H6.out.append (q:=⟨u6,0,601⟩) hown2 hgrow;obtain ⟨g,c,rfl,hc,hgw,hgl⟩:=own_shape3 R.out.own hnil;clear hown2 hgrow hnil hown hmk' hcv;go_wp2_with fail
   go_meet;exact ⟨g,c,_,rfl,hc,by simp; omega,by simp; omega,fun q hq=>by
    rcases List.mem_append.1 hq with h | h
    ·exact HR4.out q h
    ·simp at h; subst h; exact rtD_mk _ 0 601 (by rw [HU6.out]; decide) ⟨by decide,by decide⟩ ⟨by decide,by decide⟩,R.out⟩
 case rest =>
 obtain ⟨g7,c7,rs7,rfl,hc7,hlo7,hhi7,hr7,hst7⟩:=hcut;have H7:Hid (RtSt w B a len cap size 94 (.slice (some ⟨g7,0,none⟩) rs7.length c7) rs7 wc):=hst7;have HR7:Hid (∀ q∈rs7,RtD q):=hr7;clear hst7 hr7 H5 HR4 hc4 hlo4 hhi4;generalize wc=W7 at *;go_wp2_with fail
 refine (drawOne_any 6 B a len cap size _ (by omega) hl H7.out.dr.src).mono ?_;rintro e W8 ⟨b8,rfl,hs8,hg8⟩;have H8:Hid (RtSt w B a len cap size 94 (.slice (some ⟨g7,0,none⟩) rs7.length c7) rs7 W8):=H7.out.draw hs8 hg8;clear hs8 hg8 H7;have HAT:Hid (RtsAt W8 g7 0 rs7):=rts_of_own H8.out.own;have hg:=H8.out.own.lt g7 rfl
 cases b8 with
 | false =>
  go_wp2_with fail
  go_ret;exact ⟨_,_,rs7,rfl,hc7,by omega,HR7.out,.inr ⟨g7,0,rfl,hg.2,HAT.out⟩,fun g o e=>by cases e; exact hg.1,H8.out.dr.src,H8.out.dr.grown⟩
 | true =>
  have h1:¬ ((rs7.length:Int) < 1):=by omega
  have h2:¬ ((c7:Int) < (rs7.length:Int)):=by omega
  go_wp2_with fail
  go_ret;exact ⟨some ⟨g7,3,none⟩,c7-1,rs7.tail,by rw [List.length_tail]; first | rfl | simp,by rw [List.length_tail]; omega,by rw [List.length_tail]; omega,fun q hq=>HR7.out q (List.mem_of_mem_tail hq),.inr ⟨g7,3,rfl,hg.2,rts_tail HAT.out⟩,fun g o e=>by cases e; exact hg.1,H8.out.dr.src,H8.out.dr.grown⟩
structure RtsLaid (w:World) (B:Nat) (rs:List Rt) (k:Nat):Prop where
 blk:B < w.heap.size
 c0:∀ i (h:i < rs.length),i < k→w.cell? ⟨B,i*3,none⟩=some (.string rs[i].addr)
 c1:∀ i (h:i < rs.length),i < k→w.cell? ⟨B,i*3+1,none⟩=some (.int .i64 rs[i].bits)
 c2:∀ i (h:i < rs.length),i < k→w.cell? ⟨B,i*3+2,none⟩=some (.int .i64 rs[i].hop)
 there:∀ i,i < rs.length*3→(w.cell? ⟨B,i,none⟩).isSome=true
 free:∀ i,i < rs.length*3→w.frozen? ⟨B,i,none⟩=false
theorem RtsLaid.at {w:World} {B:Nat} {rs:List Rt} (h:RtsLaid w B rs rs.length):RtsAt w B 0 rs :=
 ⟨fun i hi=>by rw [Nat.zero_add]; exact h.c0 i hi hi,fun i hi=>by rw [Nat.zero_add]; exact h.c1 i hi hi,fun i hi=>by rw [Nat.zero_add]; exact h.c2 i hi hi⟩
theorem RtsLaid.below {w W:World} {B:Nat} {rs:List Rt} {k:Nat} (h:RtsLaid w B rs k) {n:Nat} (hn:B < n) (hB:Below n w W):RtsLaid W B rs k:=by
 have hc:∀ b o,b < n→W.cell? ⟨b,o,none⟩=w.cell? ⟨b,o,none⟩:=fun b o hb=>hB.cell (p:=⟨b,o,none⟩) hb
 have hf:∀ b o,b < n→W.frozen? ⟨b,o,none⟩=w.frozen? ⟨b,o,none⟩:=fun b o hb=>hB.frozen (p:=⟨b,o,none⟩) hb
 exact ⟨Nat.lt_of_lt_of_le h.blk hB.size,fun i hi hk=>(hc B _ hn).trans (h.c0 i hi hk),fun i hi hk=>(hc B _ hn).trans (h.c1 i hi hk),fun i hi hk=>(hc B _ hn).trans (h.c2 i hi hk),fun i hi=>by rw [hc B _ hn]; exact h.there i hi,fun i hi=>by rw [hf B _ hn]; exact h.free i hi⟩
theorem RtsLaid.set {w:World} {B:Nat} {rs:List Rt} {k:Nat} (h:RtsLaid w B rs k) (hk:k < rs.length):RtsLaid (w.setCells B (k*3) [.string rs[k].addr,.int .i64 rs[k].bits,.int .i64 rs[k].hop]) B rs (k+1):=by
 have hin:=World.cell?_setCells_in B [.string rs[k].addr,.int .i64 rs[k].bits,.int .i64 rs[k].hop] (k*3) w (fun j hj=>h.there _ (by simp at hj; omega));have hout:∀ n,n < k*3→(w.setCells B (k*3) [.string rs[k].addr,.int .i64 rs[k].bits,.int .i64 rs[k].hop]).cell? ⟨B,n,none⟩=w.cell? ⟨B,n,none⟩:=fun n hn=>World.cell?_setCells_out B _ (k*3) w _ (fun _ _=>.inl hn)
 refine ⟨Nat.lt_of_lt_of_le h.blk (below_setCells (B:=0) (Nat.zero_le _) _ _ _ (Below.refl 0 w)).size,fun i hi hk'=>?_,fun i hi hk'=>?_,fun i hi hk'=>?_,fun i hi=>?_,fun i hi=>by rw [World.frozen?_setCells]; exact h.free i hi⟩
 ·by_cases e:i=k
  ·subst e; exact hin 0 (by simp)
  ·rw [hout _ (by omega)]; exact h.c0 i hi (by omega)
 ·by_cases e:i=k
  ·subst e; exact hin 1 (by simp)
  ·rw [hout _ (by omega)]; exact h.c1 i hi (by omega)
 ·by_cases e:i=k
  ·subst e; exact hin 2 (by simp)
  ·rw [hout _ (by omega)]; exact h.c2 i hi (by omega)
 ·by_cases e:k*3≤i∧i < k*3+3
  ·obtain ⟨j,rfl⟩ : ∃ j,i=k*3+j:=⟨i-k*3,by omega⟩;rw [hin j (by simp; omega)]; rfl
  ·rw [World.cell?_setCells_out B _ (k*3) w _ (fun _ _=>by show i < k*3∨k*3+3≤i; omega)]; exact h.there i hi
theorem RtsLaid.start {w:World} {base n cap:Nat} {g:Nat} {e:TypeId} {xs:List Value} {rs:List Rt} (hn:n=rs.length) (h:w.ownsRow base e 3 (.slice (some ⟨g,0,none⟩) n cap) n xs):RtsLaid w g rs 0:=by
 obtain ⟨hl,h | ⟨g',cap',cur,hv,_,hh,hc,_,hsz,_⟩⟩:=h
 ·simp at h
 ·injection hv with hv _ hv3
  injection hv with hv
  injection hv with hv _
  subst hv hn hv3;have hlt:g < w.heap.size:=by
   by_cases hb:g < w.heap.size
   ·exact hb
   ·rw [Array.getElem?_eq_none (by omega)] at hh; simp at hh
  refine ⟨hlt,fun i hi hk=>by omega,fun i hi hk=>by omega,fun i hi hk=>by omega,fun i hi=>?_,fun i hi=>?_⟩
  ·have:i < cur.size:=by rw [hsz]; have:=Nat.mul_le_mul_right 3 hc; omega
   simp [World.cell?,hh,this]
  ·simp [World.frozen?,hh]
def rtL (q:Rt):List Value:=[.string q.addr,.int .i64 q.bits,.int .i64 q.hop]
theorem rtL_length (q:Rt):(rtL q).length=3:=rfl
theorem sl_of_rts {w:World} {b off:Nat} {rs:List Rt} (h:RtsAt w b off rs):SlAt rtL 3 w b off rs:=fun i hi j v hv=>by
 match j,hv with
 | 0,hv=>rw [← Option.some.inj hv]; exact h.c0 i hi
 | 1,hv=>rw [← Option.some.inj hv]; exact h.c1 i hi
 | 2,hv=>rw [← Option.some.inj hv]; exact h.c2 i hi
 | j+3,hv=>simp [rtL] at hv
theorem rts_of_sl {w:World} {b off:Nat} {rs:List Rt} (h:SlAt rtL 3 w b off rs):RtsAt w b off rs :=
 ⟨fun i hi=>h i hi 0 _ rfl,fun i hi=>h i hi 1 _ rfl,fun i hi=>h i hi 2 _ rfl⟩
theorem rts_is {w:World} {a:Option Addr} {rs:List Rt}:RtsIs w a rs↔SlIs rtL 3 w a rs:=by
 constructor
 ·rintro (h | ⟨b,off,e,hb,h⟩)
  ·exact .inl h
  ·exact .inr ⟨b,off,e,hb,sl_of_rts h⟩
 ·rintro (h | ⟨b,off,e,hb,h⟩)
  ·exact .inl h
  ·exact .inr ⟨b,off,e,hb,rts_of_sl h⟩
structure GS (w:World) (B:Nat) (sa:Option Addr) (len cap:Nat) (size:Int) (R0 R1 P X:Nat) (pa:Option Addr) (pc:Nat) (p:Pl) (s:ByteArray) (b:Int) (ra:Option Addr) (rs:List Rt) (wx:World):Prop where
 dr:Dr w B sa len cap size wx
 r0:HoldsL wx R0 plZ0
 r1:HoldsL wx R1 [.string ⟨#[]⟩,.int .i64 0]
 bp:HoldsL wx P (plL pa pc p)
 bx:HoldsL wx X [.string s,.int .i64 b]
 pl:SlIs strL1 1 wx pa p.addrs
 rt:SlIs rtL 3 wx ra rs
 fp:∀ g o,pa=some ⟨g,o,none⟩→w.heap.size≤g
 fr:∀ g o,ra=some ⟨g,o,none⟩→w.heap.size≤g
 hP:R0 < R1∧R1 < B∧w.heap.size≤P∧P < X
theorem GS.draw {w wx wy:World} {B:Nat} {sa:Option Addr} {len cap:Nat} {size:Int} {R0 R1 P X:Nat} {pa:Option Addr} {pc:Nat} {p:Pl} {s:ByteArray} {b:Int} {ra:Option Addr} {rs:List Rt} (h:GS w B sa len cap size R0 R1 P X pa pc p s b ra rs wx) (hs:Src wy B sa len cap size) (hg:wx.grownBy wy (some B)):GS w B sa len cap size R0 R1 P X pa pc p s b ra rs wy:=by
 have hB:=h.dr.hB;obtain ⟨h1,h2,h3,h4⟩:=h.hP;refine ⟨h.dr.draw hs hg,h.r0.grown (by simp [plZ0]) hg (by simp; omega),h.r1.grown (by simp) hg (by simp; omega),h.bp.grown (by simp [plL]) hg (by simp; omega),h.bx.grown (by simp) hg (by simp; omega),h.pl.grown hg (.inr fun g o e=>?_),h.rt.grown hg (.inr fun g o e=>?_),h.fp,h.fr,h1,h2,h3,h4⟩
 ·have:=h.fp g o e; omega
 ·have:=h.fr g o e; omega
theorem GS.below {w wx wy:World} {B:Nat} {sa:Option Addr} {len cap:Nat} {size:Int} {R0 R1 P X:Nat} {pa:Option Addr} {pc:Nat} {p:Pl} {s:ByteArray} {b:Int} {ra:Option Addr} {rs:List Rt} (h:GS w B sa len cap size R0 R1 P X pa pc p s b ra rs wx) (hb:Below wx.heap.size wx wy):GS w B sa len cap size R0 R1 P X pa pc p s b ra rs wy :=
 ⟨h.dr.below hb,h.r0.kept (by simp [plZ0]) hb,h.r1.kept (by simp) hb,h.bp.kept (by simp [plL]) hb,h.bx.kept (by simp) hb,h.pl.below hb,h.rt.below hb,h.fp,h.fr,h.hP⟩
structure GF (R0 R1:Nat) (pa:Option Addr) (pc:Nat) (p:Pl) (s:ByteArray) (b:Int) (ra:Option Addr) (rs:List Rt) (wx:World):Prop where
 r0:HoldsL wx R0 (plL pa pc p)
 r1:HoldsL wx R1 [.string s,.int .i64 b]
 pl:SlIs strL1 1 wx pa p.addrs
 rt:SlIs rtL 3 wx ra rs
theorem GF.below {w wx wy:World} {B:Nat} {sa:Option Addr} {len cap:Nat} {size:Int} {R0 R1 P X:Nat} {pa:Option Addr} {pc:Nat} {p:Pl} {s:ByteArray} {b:Int} {ra:Option Addr} {rs:List Rt} (h:GF R0 R1 pa pc p s b ra rs wx) (hb:Below wx.heap.size wx wy):GF R0 R1 pa pc p s b ra rs wy:=⟨h.r0.kept (by simp [plL]) hb,h.r1.kept (by simp) hb,h.pl.below hb,h.rt.below hb⟩
theorem GS.fin {w wx:World} {B:Nat} {sa:Option Addr} {len cap:Nat} {size:Int} {R0 R1 P X:Nat} {pa:Option Addr} {pc:Nat} {p:Pl} {s:ByteArray} {b:Int} {ra:Option Addr} {rs:List Rt} (h:GS w B sa len cap size R0 R1 P X pa pc p s b ra rs wx):GF R0 R1 pa pc p s b ra rs ((((((((((((wx.setCell ⟨R0,0,none⟩ (.slice pa p.addrs.length pc)).setCell ⟨R0,1,none⟩ (.int .i64 p.low)).setCell ⟨R0,2,none⟩ (.int .i64 p.high)).setCell ⟨R0,3,none⟩ (.int .i64 p.most)).setCell ⟨R0,4,none⟩ (.int .i64 p.filter)).setCell ⟨R0,5,none⟩ (.int .i64 p.lv.udp)).setCell ⟨R0,6,none⟩ (.int .i64 p.lv.echo)).setCell ⟨R0,7,none⟩ (.int .i64 p.lv.opening)).setCell ⟨R0,8,none⟩ (.int .i64 p.lv.opn)).setCell ⟨R0,9,none⟩ (.int .i64 p.lv.closing)).setCell ⟨R1,0,none⟩ (.string s)).setCell ⟨R1,1,none⟩ (.int .i64 b)):=by
 have hB:=h.dr.hB;obtain ⟨h1,h2,h3,h4⟩:=h.hP;have np:∀ g o,pa=some ⟨g,o,none⟩→g≠R0:=fun g o e=>by have:=h.fp g o e; omega
 have np1:∀ g o,pa=some ⟨g,o,none⟩→g≠R1:=fun g o e=>by have:=h.fp g o e; omega
 have nr:∀ g o,ra=some ⟨g,o,none⟩→g≠R0:=fun g o e=>by have:=h.fr g o e; omega
 have nr1:∀ g o,ra=some ⟨g,o,none⟩→g≠R1:=fun g o e=>by have:=h.fr g o e; omega
 exact ⟨((((((((((((h.r0.set 0 (.slice pa p.addrs.length pc)).set 1 (.int .i64 p.low)).set 2 (.int .i64 p.high)).set 3 (.int .i64 p.most)).set 4 (.int .i64 p.filter)).set 5 (.int .i64 p.lv.udp)).set 6 (.int .i64 p.lv.echo)).set 7 (.int .i64 p.lv.opening)).set 8 (.int .i64 p.lv.opn)).set 9 (.int .i64 p.lv.closing)).setOther (by omega) _).setOther (by omega) _),((((((((((((h.r1.setOther (by omega) _).setOther (by omega) _).setOther (by omega) _).setOther (by omega) _).setOther (by omega) _).setOther (by omega) _).setOther (by omega) _).setOther (by omega) _).setOther (by omega) _).setOther (by omega) _).set 0 (.string s)).set 1 (.int .i64 b)),((((((((((((h.pl.grown (grown_cell _ R0 0 _) (.inr np)).grown (grown_cell _ R0 1 _) (.inr np)).grown (grown_cell _ R0 2 _) (.inr np)).grown (grown_cell _ R0 3 _) (.inr np)).grown (grown_cell _ R0 4 _) (.inr np)).grown (grown_cell _ R0 5 _) (.inr np)).grown (grown_cell _ R0 6 _) (.inr np)).grown (grown_cell _ R0 7 _) (.inr np)).grown (grown_cell _ R0 8 _) (.inr np)).grown (grown_cell _ R0 9 _) (.inr np)).grown (grown_cell _ R1 0 _) (.inr np1)).grown (grown_cell _ R1 1 _) (.inr np1)),((((((((((((h.rt.grown (grown_cell _ R0 0 _) (.inr nr)).grown (grown_cell _ R0 1 _) (.inr nr)).grown (grown_cell _ R0 2 _) (.inr nr)).grown (grown_cell _ R0 3 _) (.inr nr)).grown (grown_cell _ R0 4 _) (.inr nr)).grown (grown_cell _ R0 5 _) (.inr nr)).grown (grown_cell _ R0 6 _) (.inr nr)).grown (grown_cell _ R0 7 _) (.inr nr)).grown (grown_cell _ R0 8 _) (.inr nr)).grown (grown_cell _ R0 9 _) (.inr nr)).grown (grown_cell _ R1 0 _) (.inr nr1)).grown (grown_cell _ R1 1 _) (.inr nr1))⟩
structure GR (w:World) (B:Nat) (sa:Option Addr) (len cap:Nat) (size:Int) (R0 R1:Nat) (ra:Option Addr) (rs:List Rt) (wx:World):Prop where
 dr:Dr w B sa len cap size wx
 r0:HoldsL wx R0 plZ0
 r1:HoldsL wx R1 [.string ⟨#[]⟩,.int .i64 0]
 rt:SlIs rtL 3 wx ra rs
 fr:∀ g o,ra=some ⟨g,o,none⟩→w.heap.size≤g
 hR:R0 < R1∧R1 < B
theorem GR.draw {w wx wy:World} {B:Nat} {sa:Option Addr} {len cap:Nat} {size:Int} {R0 R1:Nat} {ra:Option Addr} {rs:List Rt} (h:GR w B sa len cap size R0 R1 ra rs wx) (hs:Src wy B sa len cap size) (hg:wx.grownBy wy (some B)):GR w B sa len cap size R0 R1 ra rs wy:=by
 have hB:=h.dr.hB;obtain ⟨h1,h2⟩:=h.hR;refine ⟨h.dr.draw hs hg,h.r0.grown (by simp [plZ0]) hg (by simp; omega),h.r1.grown (by simp) hg (by simp; omega),h.rt.grown hg (.inr fun g o e=>?_),h.fr,h1,h2⟩;have:=h.fr g o e; omega
theorem GR.below {w wx wy:World} {B:Nat} {sa:Option Addr} {len cap:Nat} {size:Int} {R0 R1:Nat} {ra:Option Addr} {rs:List Rt} (h:GR w B sa len cap size R0 R1 ra rs wx) (hb:Below wx.heap.size wx wy):GR w B sa len cap size R0 R1 ra rs wy :=
 ⟨h.dr.below hb,h.r0.kept (by simp [plZ0]) hb,h.r1.kept (by simp) hb,h.rt.below hb,h.fr,h.hR⟩
end Go.Proofs.YthagnjokdnnmpaaGreat
