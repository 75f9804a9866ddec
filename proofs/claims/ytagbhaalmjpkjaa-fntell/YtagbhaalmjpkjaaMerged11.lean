import Derived.Test.YtagbhaalmjpkjaaIV4BM
import Derived.Test.YtagbhaalmjpkjaaMerged10
import Derived.Laws.IdiomCopy
import Derived.Deep.OwnRows
import Derived.Lib.LazyBuf
import Derived.Lib.BufferWrite
import Derived.Test.YtagbhaalmjpkjaaMerged8
import Derived.Deep.MidRow
import Derived.Great.Walk
import Derived.WalkMore
import Derived.Deep.DeepCutAuto
set_option linter.unusedVariables false
set_option linter.unusedSimpArgs false
set_option maxRecDepth 100000
set_option maxHeartbeats 8000000
namespace Go.Proofs.Ytagbhaalmjpkjaa
open Go.RowKit Go.PlainAid Go.Lib
def zs (n:Nat):ByteArray:=⟨Array.replicate n 0⟩
theorem lay_at {w:World} {g o:Nat} {A Z B s:ByteArray} (h:HoldsL w g (strCells (A++Z++B))) (hA:A.size=o) (hZ:Z.size=s.size):HoldsL (w.setCells g o (strCells s)) g (strCells (A++s++B)):=by
 have hl:(strCells (A++Z++B)).length=o+s.size+B.size:=by rw [strCells_length]; simp only [ByteArray.size_append]; omega
 have:=h.setRange o (strCells s) (by rw [hl,strCells_length]; omega);rw [strCells_length] at this;rw [strCells_append,strCells_append] at this ⊢;rw [List.append_assoc (strCells A),List.take_left' (by rw [strCells_length]; exact hA),← List.append_assoc,List.drop_left' (by rw [List.length_append,strCells_length,strCells_length]; omega)] at this;exact this
theorem below_setCells {w W:World} {B g:Nat} (h:Below B w W) (hg:B≤g):∀ (cs:List Value) (o:Nat),Below B w (W.setCells g o cs)
 | [],o=>h
 | c::cs,o=>by rw [World.setCells]; exact below_setCells (h.setCell (p:=⟨g,o,none⟩) hg c) hg cs (o+1)
theorem ByteArray.empty_append' (t:ByteArray):(⟨#[]⟩ : ByteArray)++t=t:=ByteArray.empty_append
theorem Bxs.cells {w wx:World} {ks:List (Nat × List Value)} (h:Bxs w ks wx) {g:Nat} (hne:∀ e∈ks,e.1≠g) (hg:w.heap.size≤g) {o:Nat} {cs:List Value}:Bxs w ks (wx.setCells g o cs) :=
 ⟨fun e he=>(h.k e he).setCellsOther (hne e he) cs,below_setCells h.b hg cs o,h.z⟩
theorem hold_bt {w:World} {g:Nat} {t:ByteArray} (h:HoldsL w g (strCells t)) (i:Nat) (hi:i < t.size):w.cell? ⟨g,i,none⟩=some (.int .u8 (bt t i)):=h.cell (strCells_at t i hi)
end Go.Proofs.Ytagbhaalmjpkjaa
namespace Go.Proofs.Ytagbhaalmjpkjaa
open Go.RowKit Go.PlainAid Go.Great
def qL (t:ByteArray) (i:Nat):List Value:=(List.range 1200).map (fun j=>Value.int .u8 (if j < i then bt t j else 0))++[.int .i64 (i:Int)]
theorem qL_length (t:ByteArray) (i:Nat):(qL t i).length=1201:=by simp [qL]
theorem qL_get (t:ByteArray) (i j:Nat) (h:j < 1200):(qL t i)[j]?=some (.int .u8 (if j < i then bt t j else 0)):=by
 unfold qL; rw [List.getElem?_append_left (by simp; omega)]; simp [h]
theorem qL_last (t:ByteArray) (i:Nat):(qL t i)[1200]?=some (.int .i64 (i:Int)):=by
 unfold qL; rw [List.getElem?_append_right (by simp)]; simp
theorem qL_over (t:ByteArray) (i j:Nat) (h:1200 < j):(qL t i)[j]?=none:=List.getElem?_eq_none (by rw [qL_length]; omega)
theorem qL_step (t:ByteArray) (i:Nat) (h:i < 1200):((qL t i).set i (.int .u8 (bt t i))).set 1200 (.int .i64 ((i:Int)+1))=qL t (i+1):=by
 apply List.ext_getElem?;intro j;rw [List.getElem?_set,List.getElem?_set];have hl:=qL_length t i;by_cases h1:1200=j
 ·subst h1;rw [if_pos rfl,if_pos (by rw [List.length_set]; omega),qL_last]; rfl
 ·rw [if_neg h1];by_cases h2:i=j
  ·subst h2;rw [if_pos rfl,if_pos (by omega),qL_get _ _ _ h,if_pos (by omega)]
  ·rw [if_neg h2];by_cases h3:j < 1200
   ·rw [qL_get _ _ _ h3,qL_get _ _ _ h3];by_cases h4:j < i
    ·rw [if_pos h4,if_pos (by omega)]
    ·rw [if_neg h4,if_neg (by omega)]
   ·rw [qL_over _ _ _ (by omega),qL_over _ _ _ (by omega)]
theorem qL_one (t:ByteArray) (i:Nat):∀ v∈qL t i,v.oneCell'=true:=by
 intro v hv;unfold qL at hv;rcases List.mem_append.1 hv with h | h
 ·obtain ⟨j,_,rfl⟩:=List.mem_map.1 h; rfl
 ·simp at h; subst h; rfl
theorem quote_size:(Try.prog.info? 71).map (·.size)=some 1201:=by kernel_rfl
theorem quote_zero:Try.zeroCells71=(qL ⟨#[]⟩ 0).toArray:=by kernel_rfl
theorem quote_info (t:ByteArray) (i:Nat):(Try.prog.info? 71).map (·.size)=some (qL t i).length:=by rw [qL_length]; exact quote_size
theorem quote_any (t:ByteArray) (m:Nat) (w:World) (ht:t.size≤1048576) (hm:m≤1200) :
  Calls Try.prog 39 #[.string t,.int .i64 m] w fun e w'=>e=.returned (.agg (qL t (min m t.size)).toArray)∧Below w.heap.size w w':=by
 have hb:=get_bt t;have hz:Try.zeroCells71=(qL t 0).toArray:=by rw [quote_zero]; congr 1
 have h1:=(HoldsL.new w (qL t 0) 71).alloc (.cells (qL t 0).toArray 71);have h2:=HoldsL.new (w.alloc (.cells (qL t 0).toArray 71)) (qL t 0) 71;rw [World.size_alloc] at h2;rw [← hz] at h1 h2;have HB:Hid (Below w.heap.size w ((w.alloc (.cells Try.zeroCells71 71)).alloc (.cells Try.zeroCells71 71))):=((Below.refl _ _).alloc (Nat.le_refl _) _).alloc (by simp) _;have H1:Hid _:=h1;have H2:Hid _:=h2;clear h1 h2 hz;go_enter Try.func39,Try.ntmps39
 go_upto_region 1 with fail
 go_step3
 go_wp2_with fail
 generalize (w.alloc (.cells Try.zeroCells71 71)).alloc (.cells Try.zeroCells71 71)=W at *;go_step3
 go_wp2_with fail
 go_loopw [7] (fun v wr=>∃ i:Nat,i≤m∧i≤t.size∧v=.int .i64 i∧HoldsL wr (w.heap.size+1) (qL t i)∧HoldsL wr w.heap.size (qL t 0)∧Below w.heap.size w wr) (fun v _=>1200-(intOf v).toNat)
 case atStart=>exact ⟨0,Nat.zero_le _,Nat.zero_le _,rfl,H2.out,H1.out,HB.out⟩
 case round =>
  obtain ⟨i,him,hit,rfl,hk,hr,hbel⟩:=hrel;have HK:Hid (HoldsL wr (w.heap.size+1) (qL t i)):=hk;have HR:Hid (HoldsL wr w.heap.size (qL t 0)):=hr;have HL:Hid (Below w.heap.size w wr):=hbel;clear hk hr hbel;have HI1:Hid _:=quote_info t i;have HO1:Hid _:=all_oneCell_toArray (qL_one t i);have HI2:Hid ((Try.prog.info? 71).map (·.size)=some (qL t i).toArray.size):=by unfold Hid; rw [List.size_toArray]; exact quote_info t i
  have HTH:Hid _:=HR.out.thereA (ds:=qL t i) (by rw [qL_length,qL_length]);have HT7:Hid _:=HR.out.setCells (qL t i) (by rw [qL_length,qL_length]);have B7:Hid (Below w.heap.size w (wr.setCells w.heap.size 0 (qL t i))):=below_setCells HL.out (Nat.le_refl _) _ _;by_cases hlt:i < 1200
  case neg =>
   have hlt':¬ (i:Int) < 1200:=by omega
   have HV:Hid (qL t (min m t.size)=qL t i):=by unfold Hid; congr 1; omega
   obtain ⟨ds,hde⟩ : ∃ ds,ds=qL t i:=⟨_,rfl⟩;rw [← hde] at HK HI1 HO1 HI2 HTH HT7 B7 HV;clear hde;go_wp2_with (first | (refine wpList_load_mid (by rfl) 71 (.tmp 5) (by rfl) (w.heap.size+1) 0 (by rfl) ds _ HK.out.at0 Try.underlying71 rfl HI1.out ?_) | (refine wpList_store_mid (by rfl) 71 (.tmp 4) (.tmp 28) (by rfl) w.heap.size 0 ds.toArray (by rfl) (by rfl) HTH.out HI2.out HO1.out ?_))
   exact bodyPost_ret (results_mid Try.results39 _ _ w.heap.size ds _ rfl HT7.out Try.underlying71 rfl HI1.out) rfl ⟨by rw [HV.out],B7.out⟩
  have hlt':(i:Int) < 1200:=by omega
  by_cases h1:i=m
  case pos =>
   have d1:((i:Int)==(m:Int))=true:=by rw [beq_iff_eq]; omega
   have HV:Hid (qL t (min m t.size)=qL t i):=by unfold Hid; congr 1; omega
   obtain ⟨ds,hde⟩ : ∃ ds,ds=qL t i:=⟨_,rfl⟩;rw [← hde] at HK HI1 HO1 HI2 HTH HT7 B7 HV;clear hde h1;go_wp2_with (first | (refine wpList_load_mid (by rfl) 71 (.tmp 5) (by rfl) (w.heap.size+1) 0 (by rfl) ds _ HK.out.at0 Try.underlying71 rfl HI1.out ?_) | (refine wpList_store_mid (by rfl) 71 (.tmp 4) (.tmp 28) (by rfl) w.heap.size 0 ds.toArray (by rfl) (by rfl) HTH.out HI2.out HO1.out ?_))
   rw [Exit.noGoto_ret];exact bodyPost_ret (results_mid Try.results39 _ _ w.heap.size ds _ rfl HT7.out Try.underlying71 rfl HI1.out) rfl ⟨by rw [HV.out],B7.out⟩
  have d1:((i:Int)==(m:Int))=false:=by rw [beq_eq_false_iff_ne]; omega
  by_cases h2:i=t.size
  case pos =>
   have d2:((i:Int)==(t.size:Int))=true:=by rw [beq_iff_eq]; omega
   have HV:Hid (qL t (min m t.size)=qL t i):=by unfold Hid; congr 1; omega
   obtain ⟨ds,hde⟩ : ∃ ds,ds=qL t i:=⟨_,rfl⟩;rw [← hde] at HK HI1 HO1 HI2 HTH HT7 B7 HV;clear hde h2;go_wp2_with (first | (refine wpList_load_mid (by rfl) 71 (.tmp 5) (by rfl) (w.heap.size+1) 0 (by rfl) ds _ HK.out.at0 Try.underlying71 rfl HI1.out ?_) | (refine wpList_store_mid (by rfl) 71 (.tmp 4) (.tmp 28) (by rfl) w.heap.size 0 ds.toArray (by rfl) (by rfl) HTH.out HI2.out HO1.out ?_))
   rw [Exit.noGoto_ret];exact bodyPost_ret (results_mid Try.results39 _ _ w.heap.size ds _ rfl HT7.out Try.underlying71 rfl HI1.out) rfl ⟨by rw [HV.out],B7.out⟩
  have d2:((i:Int)==(t.size:Int))=false:=by rw [beq_eq_false_iff_ne]; omega
  have hit':i < t.size:=by omega
  have hit2:(i:Int) < t.size:=by omega
  have him':i < m:=by omega
  have c1:=HK.out.cell (qL_get t i i hlt);have c2:=HK.out.cell (qL_last t i);have f1:=HK.out.free (j:=i) (by rw [qL_length]; omega);have f2:=HK.out.free (j:=1200) (by rw [qL_length]; omega);have hne:¬ i=1200:=by omega
  have hne2:¬ 1200=i:=by omega
  have K2:=(HK.out.set i (.int .u8 (bt t i))).set 1200 (.int .i64 ((i:Int)+1));rw [qL_step t i hlt] at K2;have K3:Hid _:=K2;have R3:Hid _:=(HR.out.setOther (C:=w.heap.size+1) (j:=i) (by omega) (.int .u8 (bt t i))).setOther (C:=w.heap.size+1) (j:=1200) (by omega) (.int .i64 ((i:Int)+1));have L3:Hid (Below w.heap.size w ((wr.setCell ⟨w.heap.size+1,i,none⟩ (.int .u8 (bt t i))).setCell ⟨w.heap.size+1,1200,none⟩ (.int .i64 ((i:Int)+1)))):=(HL.out.setCell (p:=⟨w.heap.size+1,i,none⟩) (by show w.heap.size≤w.heap.size+1; omega) _).setCell (p:=⟨w.heap.size+1,1200,none⟩) (by show w.heap.size≤w.heap.size+1; omega) _;clear K2 HI1 HO1 HI2 HTH HT7 B7 h1 h2;go_wp2_with fail
  go_roundw
  case rel=>exact ⟨i+1,by omega,by omega,by go_num,K3.out,R3.out,L3.out⟩
  case measure=>simp [intOf]; omega
end Go.Proofs.Ytagbhaalmjpkjaa
