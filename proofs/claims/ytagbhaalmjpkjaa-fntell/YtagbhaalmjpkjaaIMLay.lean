import Derived.Test.YtagbhaalmjpkjaaMerged11
import Derived.Test.YtagbhaalmjpkjaaMerged13
import Derived.Test.YtagbhaalmjpkjaaICur
import Derived.Test.YtagbhaalmjpkjaaGrowV
import Derived.Test.YtagbhaalmjpkjaaGrowH
import Derived.ArgAppend
import Derived.Maps.AppendAt
set_option linter.unusedVariables false
set_option linter.unusedSimpArgs false
set_option maxRecDepth 100000
set_option maxHeartbeats 8000000
namespace Go.Proofs.Ytagbhaalmjpkjaa
open Go.RowKit Go.PlainAid Go.Lib
def IsRwT (base n:Nat) (t:ByteArray):Value→World→Prop:=fun v w=>∃ g cap,v=.slice (some ⟨g,0,none⟩) n cap∧base≤g∧n≤cap∧HoldsL w g (strCells t)
theorem stable_isRwT (base n:Nat) (t:ByteArray) (ht:0 < t.size):Stable (IsRwT base n t):=fun v w w' ⟨g,cap,h1,h2,h3,h4⟩ hb=>⟨g,cap,h1,h2,h3,h4.kept (by rw [strCells_length]; exact ht) hb⟩
theorem rwT_of_own {w:World} {base e n:Nat} {v:Value} {t:ByteArray} (h:w.ownsRow base e 1 v n (strCells t)) (hn:0 < n):IsRwT base n t v w:=by
 obtain ⟨h1,h2⟩:=h;rcases h2 with ⟨h2,h3⟩ | ⟨g,cap,cur,q1,q2,q3,q4,q5,q6,q7⟩
 ·omega
 ·refine ⟨g,cap,q1,q2,q4,⟨fun j u hu=>?_,fun j hj=>⟨?_,?_⟩⟩⟩
  ·rw [Nat.zero_add,cell_of_row _ g j cur e (0,0) q3];rw [← q7,List.getElem?_take] at hu;split at hu
   ·simpa using hu
   ·cases hu
  ·rw [Nat.zero_add,cell_of_row _ g j cur e (0,0) q3];have:j < cur.size:=by omega
   simp [this]
  ·rw [Nat.zero_add]; exact frozen_of_row w g j cur e q3
theorem rowT_str {W:World} {b cap n:Nat} {t:ByteArray} (h:HoldsL W b (strCells t)) (hn:n=t.size):(convert 22 9 (.slice (some ⟨b,0,none⟩) n cap)).run Try.prog W=.ok (.string t) W:=by
 subst hn;have:=take_conv (w:=W) (b:=b) (k:=0) (n:=t.size) (cap:=cap) (t:=t) (fun i hi=>hold_bt h i hi) (by omega);rw [show t.extract 0 (0+t.size)=t by rw [Nat.zero_add]; exact ByteArray.extract_zero_size] at this;exact this
theorem putT_split (t:ByteArray) (k n:Nat) (h:k+n≤t.size):t.extract 0 k++t.extract k (k+n)++t.extract (k+n) t.size=t:=by
 refine ba_ext ?_ (fun i hi=>?_)
 ·simp only [ByteArray.size_append,ByteArray.size_extract]; omega
 ·have s1:(t.extract 0 k).size=k:=by rw [ByteArray.size_extract]; omega
  have s2:(t.extract k (k+n)).size=n:=by rw [ByteArray.size_extract]; omega
  simp only [ByteArray.size_append,ByteArray.size_extract] at hi;rw [bt_append,bt_append,ByteArray.size_append,s1,s2];by_cases h1:i < k
  ·rw [if_pos (by omega),if_pos h1,bt_extract _ _ _ _ (by omega),if_pos (by omega),Nat.zero_add]
  ·by_cases h2:i < k+n
   ·rw [if_pos h2,if_neg h1,bt_extract _ _ _ _ (by omega),if_pos (by omega),show k+(i-k)=i by omega]
   ·rw [if_neg h2,bt_extract _ _ _ _ (Nat.le_refl _),if_pos (by omega),show k+n+(i-(k+n))=i by omega]
theorem layT_put {W:World} {b k:Nat} {t u:ByteArray} (h:HoldsL W b (strCells t)) (hk:k+u.size≤t.size):HoldsL (W.setCells b k (strCells u)) b (strCells (putV t k u)):=by
 rw [← putT_split t k u.size hk] at h;exact lay_at h (by rw [ByteArray.size_extract]; omega) (by rw [ByteArray.size_extract]; omega)
theorem run_layT_more {P:Program} {w:World} {g o dCap base e g6:Nat} {t s:ByteArray} (dT sT ty elem:TypeId) (hu:P.underlying dT=some (.slice elem)) (hz:(P.info? elem).map (·.size)=some 1) (h:HoldsL w g (strCells t)) (ho:o+s.size≤t.size) {dLen sLen:Nat} (hd:s.size≤dLen) (hs:sLen=s.size) (hown:w.ownsRow base e 1 (.slice (some ⟨g6,0,none⟩) sLen sLen) sLen (strCells s)) :
  (Builtin.copy_ #[dT,sT] ty #[.slice (some ⟨g,o,none⟩) dLen dCap,.slice (some ⟨g6,0,none⟩) sLen sLen]).run P w=.ok (goInt s.size) (w.setCells g o (strCells s)):=by
 have hl:(strCells t).length=t.size:=strCells_length t;have:=run_copy_cells (P:=P) w dT sT ty elem g o dLen dCap ⟨g6,0,none⟩ sLen sLen (strCells s) hu hz (by rw [strCells_length,hs]; exact (Nat.min_eq_left hd).symm) (fun j v hj=>hown.cells (g:=g6) rfl j v hj) (fun j hj=>by rw [strCells_length] at hj; have:=(h.th (o+j) (by omega)).1; rwa [Nat.zero_add] at this) (fun j hj=>by rw [strCells_length] at hj; have:=(h.th (o+j) (by omega)).2; rwa [Nat.zero_add] at this) (strCells_oneCell _);rw [strCells_length] at this;exact this
theorem msg_words (k c n:Int) (hk:0≤k∧k≤255) (hc:0≤c∧c≤255) (hn:0≤n∧n≤65535):(layL [k*256+c,0,0,n]).map (Value.int .u8)=strCells (pairV k c++⟨#[0,0,0,0]⟩++twoV n):=by
 rw [strCells_append,strCells_append,strCells_two n hn.1 hn.2];have hp:strCells (pairV k c)=[.int .u8 k,.int .u8 c]:=by
  unfold strCells pairV;show [Value.int .u8 ((UInt8.ofNat k.toNat).toNat:Int),.int .u8 ((UInt8.ofNat c.toNat).toNat:Int)]=_;rw [u8_ofNat k hk.1 hk.2,u8_ofNat c hc.1 hc.2]
 rw [hp];show [Value.int .u8 ((k*256+c) / 256),.int .u8 ((k*256+c) % 256),.int .u8 (0 / 256),.int .u8 (0 % 256),.int .u8 (0 / 256),.int .u8 (0 % 256),.int .u8 (n / 256),.int .u8 (n % 256)]=_;rw [show (k*256+c) / 256=k by omega,show (k*256+c) % 256=c by omega];rfl
theorem news_cells {w:World} {B:Nat} {t:ByteArray} {i:Nat} (h:HoldsL w B (qL t i)) (hi:i≤1200) (hit:i≤t.size):∀ j u,(strCells (t.extract 0 i))[j]?=some u→w.cell? ((⟨B,0,none⟩ : Addr).add j)=some u:=by
 intro j u hu;have hs:(t.extract 0 i).size=i:=by rw [ByteArray.size_extract]; omega
 have hj:j < i:=by have:=(List.getElem?_eq_some_iff.1 hu).1; rw [strCells_length,hs] at this; exact this
 rw [strCells_at _ _ (by omega),bt_extract _ _ _ _ hit,if_pos (by omega),Nat.zero_add] at hu;have ha:Addr.add ⟨B,0,none⟩ j=⟨B,j,none⟩:=by simp [Addr.add]; omega
 rw [ha,h.cell (qL_get t i j (by omega)),if_pos hj];exact hu
theorem slice_quote (w:World) (B i:Nat) (hi:i≤1200):(Instr.sliceAt 69 (.pointer (some ⟨B,0,none⟩)) none (some (.int .i64 (i:Int))) none).run Try.prog w=.ok (.slice (some ⟨B,0,none⟩) i 1200) w:=by
 have hl:Try.prog.arrayLen 69=1200:=by kernel_rfl
 have he:Try.prog.elem 69=5:=by kernel_rfl
 have hu:Try.prog.underlying 69=some (.array (Try.prog.arrayLen 69) (Try.prog.elem 69)):=by rw [hl,he]; exact Try.underlying69
 obtain ⟨i0,hi1,hz0,hz1,hz2⟩:=info_parts Try.info5;rw [run_sliceAt_array_h (P:=Try.prog) w 69 ⟨B,0,none⟩ hu .i64 (i:Int) (by omega) (by rw [hl]; omega),hl,he];have hz:(Go.sizeOf 5).run Try.prog w=.ok 1 w:=by simp [Go.sizeOf,typeInfo,hi1,hz1]
 rw [hz];show Result.ok (slicedAt ⟨B,0,none⟩ 0 ((i:Int)).toNat 1200 1) w=_;rw [show ((i:Int)).toNat=i by omega];rfl
theorem msgLay_any (k c n:Int) (s d:ByteArray) (p:Int) (t:ByteArray) (i:Nat) (w:World) (hk:0≤k∧k≤255) (hc:0≤c∧c≤255) (hn:0≤n∧n≤65535) (hs:s.size≤1048576) (hd:d.size≤1048576) (hi:i≤1200) (hi0:0 < i) (hit:i≤t.size) :
  Calls Try.prog 38 #[.agg #[.int .i64 k,.int .i64 c,.int .i64 n],.string s,.string d,.int .i64 p,.agg (qL t i).toArray] w fun e w'=>e=.returned (.string (putV (msgV k c n (t.extract 0 i)) 2 (twoV (65535-carrySumV s d p (msgV k c n (t.extract 0 i))))))∧Below w.heap.size w w':=by
 have hms:(msgV k c n (t.extract 0 i)).size=8+i:=by rw [msgV_size,ByteArray.size_extract]; omega
 have HCS:Hid (∀ W,Calls Try.prog 66 #[.string s,.string d,.int .i64 p,.string (msgV k c n (t.extract 0 i))] W fun e w'=>e=.returned (.int .i64 (carrySumV s d p (msgV k c n (t.extract 0 i))))∧Below W.heap.size W w'):=fun W=>implCarrySum_any s d p _ W hs hd (by omega)
 have hsr:0≤carrySumV s d p (msgV k c n (t.extract 0 i))∧carrySumV s d p (msgV k c n (t.extract 0 i))≤65535:=by
  unfold carrySumV; split
  ·exact sumV_range _
  ·omega
 have HW:Hid ((layL [k*256+c,0,0,n]).map (Value.int .u8)=strCells (pairV k c++⟨#[0,0,0,0]⟩++twoV n)):=msg_words k c n hk hc hn;have HMS:Hid (strCells (pairV k c++⟨#[0,0,0,0]⟩++twoV n)++strCells (t.extract 0 i)=strCells (msgV k c n (t.extract 0 i))):=by unfold Hid msgV; rw [← strCells_append]
 have HNW:Hid (∀ (wy:World) (B:Nat),HoldsL wy B (qL t i)→∀ j u,(strCells (t.extract 0 i))[j]?=some u→wy.cell? ((⟨B,0,none⟩ : Addr).add j)=some u):=fun wy B h=>news_cells h hi hit
 have HLN:Hid ((strCells (t.extract 0 i)).length=i*1):=by unfold Hid; rw [strCells_length,ByteArray.size_extract]; omega
 have HL8:Hid ((strCells (pairV k c++⟨#[0,0,0,0]⟩++twoV n)).length=8*1):=by unfold Hid; rw [strCells_length]; simp only [ByteArray.size_append,pairV_size,twoV_size]; rfl
 have jw:=join_word k c hk.1 hk.2 hc.1 hc.2;have hinfo:(Try.prog.info? 5).map (·.size)=some 1:=by
  obtain ⟨i0,hi,hz0,hz1,hz2⟩:=info_parts Try.info5;rw [hi]; simp [hz1]
 have HQ:Hid ((qL t i)[1200]?=some (.int .i64 (i:Int))):=qL_last t i;have hql:=qL_length t i;generalize qL t i=qs at *;generalize strCells (t.extract 0 i)=nw at *;generalize pairV k c++(⟨#[0,0,0,0]⟩ : ByteArray)++twoV n=hd8 at *;generalize msgV k c n (t.extract 0 i)=mv at *;generalize carrySumV s d p mv=sm at *;have hun:undef=Value.tuple #[]:=rfl;have wk:IntKind.i64.wrap (k*256)=k*256:=by rw [IntKind.wrap_i64]; omega
 have e0:HoldsL ((w.alloc (.cells #[.int .i64 k,.int .i64 c,.int .i64 n] 65)).alloc (.cells qs.toArray 71)) w.heap.size [.int .i64 k,.int .i64 c,.int .i64 n]:=(HoldsL.new w [.int .i64 k,.int .i64 c,.int .i64 n] 65).alloc _;have e1:HoldsL ((w.alloc (.cells #[.int .i64 k,.int .i64 c,.int .i64 n] 65)).alloc (.cells qs.toArray 71)) (w.heap.size+1) qs:=by
  have h:=HoldsL.new (w.alloc (.cells #[.int .i64 k,.int .i64 c,.int .i64 n] 65)) qs 71;rw [World.size_alloc] at h;exact h
 have HS0:Hid (Bxs w [(w.heap.size,[.int .i64 k,.int .i64 c,.int .i64 n]),(w.heap.size+1,qs)] ((w.alloc (.cells #[.int .i64 k,.int .i64 c,.int .i64 n] 65)).alloc (.cells qs.toArray 71))):=by
  refine ⟨fun e he=>?_,((Below.refl _ _).alloc (Nat.le_refl _) _).alloc (by simp) _,fun e he=>?_⟩
  ·simp only [List.mem_cons,List.not_mem_nil,or_false] at he;rcases he with rfl | rfl
   ·exact e0
   ·exact e1
  ·simp only [List.mem_cons,List.not_mem_nil,or_false] at he;rcases he with rfl | rfl
   ·simp
   ·show 0 < qs.length; omega
 clear e0 e1;go_enter Try.func38,Try.ntmps38
 go_upto_region 1 with fail
 generalize ((w.alloc (.cells #[.int .i64 k,.int .i64 c,.int .i64 n] 65)).alloc (.cells qs.toArray 71))=W0 at *;go_cut [11] (fun v wx=>IsRwT w.heap.size (8+i) mv v wx∧Below w.heap.size w wx)
 case first =>
  rename_i J K2 hJ hK2;have HCP:Hid (∀ wy,Below W0.drew.heap.size W0.drew wy→_):=fun wy hy=>HS0.out.kept ((Below.refl _ _).drew.trans hy)
  have hlw:w.heap.size≤W0.drew.heap.size:=HS0.out.b.size;clear HS0 HCS hun;refine wp_region_growV [12,13,14,15,16,17,18,19,20,21,22,23,24,25,26] (by kernel_rfl) (by kernel_rfl) ?_;refine GChV.val (n:=0) (fun v=>[IsV v]) (fun _=>rfl) rfl ?_;apply Exists.intro;refine And.intro ?_ ?_
  ·intro K' a wy ho hd hb hK;rw [if_pos (wanted_none rfl)];have o5:=ho 5 (by decide);simp [slot] at o5;clear hd ho;go_simp;try go_bits
   exact hK _ _ rfl (Below.refl _ _)
  refine GChV.val (n:=1) (fun v=>[_,IsV v]) (fun _=>rfl) rfl ?_;apply Exists.intro;refine And.intro ?_ ?_
  ·intro K' a wy ho hd hb hK;rw [if_pos (wanted_none rfl)];have q0:=hd ⟨0,.data⟩ (by simp) rfl;simp [rAt,IsV,slot] at q0;clear hd ho;have hst:=HCP.out wy hb;have hm0:=hst.k _ (.head _);have k0:=hm0.cell (j:=0) rfl;have k1:=hm0.cell (j:=1) rfl;have k2:=hm0.cell (j:=2) rfl;have hq0:=hst.k _ (.tail _ (.head _));have kq:wy.cell? ⟨w.heap.size+1,1200,none⟩=some (.int .i64 (i:Int)):=hq0.cell HQ.out;clear hst hm0 hq0;go_simp;try go_bits
   exact hK _ _ rfl (Below.refl _ _)
  refine GChV.val (n:=2) (fun v=>[_,_,IsV v]) (fun _=>rfl) rfl ?_;apply Exists.intro;refine And.intro ?_ ?_
  ·intro K' a wy ho hd hb hK;rw [if_pos (wanted_none rfl)];have q1:=hd ⟨1,.data⟩ (by simp) rfl;simp [rAt,IsV,slot] at q1;clear hd ho;go_simp;try go_bits
   exact hK _ _ rfl (Below.refl _ _)
  refine GChV.val (n:=3) (fun v=>[_,_,_,IsV v]) (fun _=>rfl) rfl ?_;apply Exists.intro;refine And.intro ?_ ?_
  ·intro K' a wy ho hd hb hK;rw [if_pos (wanted_none rfl)];have o5:=ho 5 (by decide);simp [slot] at o5;clear hd ho;go_simp;try go_bits
   exact hK _ _ rfl (Below.refl _ _)
  refine GChV.val (n:=4) (fun v=>[_,_,_,_,IsV v]) (fun _=>rfl) rfl ?_;apply Exists.intro;refine And.intro ?_ ?_
  ·intro K' a wy ho hd hb hK;rw [if_pos (wanted_none rfl)];have q3:=hd ⟨3,.data⟩ (by simp) rfl;simp [rAt,IsV,slot] at q3;clear hd ho;have hst:=HCP.out wy hb;have hm0:=hst.k _ (.head _);have k0:=hm0.cell (j:=0) rfl;have k1:=hm0.cell (j:=1) rfl;have k2:=hm0.cell (j:=2) rfl;have hq0:=hst.k _ (.tail _ (.head _));have kq:wy.cell? ⟨w.heap.size+1,1200,none⟩=some (.int .i64 (i:Int)):=hq0.cell HQ.out;clear hst hm0 hq0;go_simp;try go_bits
   exact hK _ _ rfl (Below.refl _ _)
  refine GChV.val (n:=5) (fun v=>[_,_,_,_,_,IsV v]) (fun _=>rfl) rfl ?_;apply Exists.intro;refine And.intro ?_ ?_
  ·intro K' a wy ho hd hb hK;rw [if_pos (wanted_none rfl)];have q2:=hd ⟨2,.data⟩ (by simp) rfl;simp [rAt,IsV,slot] at q2;have q4:=hd ⟨4,.data⟩ (by simp) rfl;simp [rAt,IsV,slot] at q4;clear hd ho;go_simp;try go_bits
   exact hK _ _ rfl (Below.refl _ _)
  refine GChV.val (n:=6) (fun v=>[_,_,_,_,_,_,IsV v]) (fun _=>rfl) rfl ?_;apply Exists.intro;refine And.intro ?_ ?_
  ·intro K' a wy ho hd hb hK;rw [if_pos (wanted_none rfl)];have o5:=ho 5 (by decide);simp [slot] at o5;clear hd ho;go_simp;try go_bits
   exact hK _ _ rfl (Below.refl _ _)
  refine GChV.val (n:=7) (fun v=>[_,_,_,_,_,_,_,IsV v]) (fun _=>rfl) rfl ?_;apply Exists.intro;refine And.intro ?_ ?_
  ·intro K' a wy ho hd hb hK;rw [if_pos (wanted_none rfl)];have q6:=hd ⟨6,.data⟩ (by simp) rfl;simp [rAt,IsV,slot] at q6;clear hd ho;have hst:=HCP.out wy hb;have hm0:=hst.k _ (.head _);have k0:=hm0.cell (j:=0) rfl;have k1:=hm0.cell (j:=1) rfl;have k2:=hm0.cell (j:=2) rfl;have hq0:=hst.k _ (.tail _ (.head _));have kq:wy.cell? ⟨w.heap.size+1,1200,none⟩=some (.int .i64 (i:Int)):=hq0.cell HQ.out;clear hst hm0 hq0;go_simp;try go_bits
   exact hK _ _ rfl (Below.refl _ _)
  refine GChV.rel (n:=8) (IsWords [k*256+c,0,0,n]) (stable_isWords _) [_,_,_,_,_,_,_,_,IsWords [k*256+c,0,0,n]] rfl rfl ?_ ?_
  ·intro K' a wy ho hd hb hK;rw [if_pos (wanted_none rfl)];have q5:=hd ⟨5,.data⟩ (by simp) rfl;simp [rAt,IsV,slot] at q5;have q7:=hd ⟨7,.data⟩ (by simp) rfl;simp [rAt,IsV,slot] at q7;clear hd ho;go_simp;exact hK _ _ ⟨wy.heap.size,rfl,by simp,fun j hj=>by
    simp only [List.length_cons,List.length_nil] at hj;match j,hj with
    | 0,_=>simp
    | 1,_=>simp
    | 2,_=>simp
    | 3,_=>simp⟩ ((Below.refl _ _).alloc (Nat.le_refl _) _)
  refine GChV.rel (n:=9) (IsOwn w.heap.size 5 8 (strCells hd8)) (stable_isOwn _ _ _ _) [_,_,_,_,_,_,_,_,_,IsOwn w.heap.size 5 8 (strCells hd8)] rfl rfl ?_ ?_
  ·intro K' a wy ho hd hb hK;rw [if_pos (wanted_none rfl)];have hr:IsWords [k*256+c,0,0,n] (slot a 20) wy:=hd ⟨8,.data⟩ (by simp) rfl;obtain ⟨b4,e1,e2,e3⟩:=hr;simp [slot] at e1;clear hd ho;go_simp;refine (layWords_any [k*256+c,0,0,n] b4 4 4 wy (by decide) e2 rfl (getD_word _ (by simp only [List.forall_mem_cons,List.not_mem_nil,false_imp_iff,implies_true,and_true]; omega)) e3).mono ?_;rintro e wz ⟨rfl,hown,hz⟩;exact hK _ _ ⟨_,rfl,owns_base (by rw [← HW.out]; exact hown) (Nat.le_trans hlw hb.size)⟩ hz
  refine GChV.val (n:=10) (fun v=>[_,_,_,_,_,_,_,_,_,_,IsV v]) (fun _=>rfl) rfl ?_;apply Exists.intro;refine And.intro ?_ ?_
  ·intro K' a wy ho hd hb hK;rw [if_pos (wanted_none rfl)];have o9:=ho 9 (by decide);simp [slot] at o9;clear hd ho;go_simp;try go_bits
   exact hK _ _ rfl (Below.refl _ _)
  refine GChV.val (n:=11) (fun v=>[_,_,_,_,_,_,_,_,_,_,_,IsV v]) (fun _=>rfl) rfl ?_;apply Exists.intro;refine And.intro ?_ ?_
  ·intro K' a wy ho hd hb hK;rw [if_pos (wanted_none rfl)];have o9:=ho 9 (by decide);simp [slot] at o9;clear hd ho;go_simp;try go_bits
   exact hK _ _ rfl (Below.refl _ _)
  refine GChV.val (n:=12) (fun v=>[_,_,_,_,_,_,_,_,_,_,_,_,IsV v]) (fun _=>rfl) rfl ?_;apply Exists.intro;refine And.intro ?_ ?_
  ·intro K' a wy ho hd hb hK;rw [if_pos (wanted_none rfl)];have q11:=hd ⟨11,.data⟩ (by simp) rfl;simp [rAt,IsV,slot] at q11;clear hd ho;have hst:=HCP.out wy hb;have hm0:=hst.k _ (.head _);have k0:=hm0.cell (j:=0) rfl;have k1:=hm0.cell (j:=1) rfl;have k2:=hm0.cell (j:=2) rfl;have hq0:=hst.k _ (.tail _ (.head _));have kq:wy.cell? ⟨w.heap.size+1,1200,none⟩=some (.int .i64 (i:Int)):=hq0.cell HQ.out;clear hst hm0 hq0;go_simp;try go_bits
   exact hK _ _ rfl (Below.refl _ _)
  refine GChV.val (n:=13) (fun v=>[_,_,_,_,_,_,_,_,_,_,_,_,_,IsV v]) (fun _=>rfl) rfl ?_;apply Exists.intro;refine And.intro ?_ ?_
  ·intro K' a wy ho hd hb hK;rw [if_pos (wanted_none rfl)];have q10:=hd ⟨10,.data⟩ (by simp) rfl;simp [rAt,IsV,slot] at q10;have q12:=hd ⟨12,.data⟩ (by simp) rfl;simp [rAt,IsV,slot] at q12;clear hd ho;have hsl:=slice_quote wy (w.heap.size+1) i hi;go_simp;try go_bits
   exact hK _ _ rfl (Below.refl _ _)
  refine GChV.rel (n:=14) (IsRwT w.heap.size (8+i) mv) (stable_isRwT _ _ _ (by omega)) [_,_,_,_,_,_,_,_,_,_,_,_,_,_,IsRwT w.heap.size (8+i) mv] rfl rfl ?_ ?_
  ·intro K' a wy ho hd hb hK;rw [if_pos (wanted_none rfl)];have hr9:IsOwn w.heap.size 5 8 (strCells hd8) (slot a 21) wy:=hd ⟨9,.data⟩ (by simp) rfl;obtain ⟨g9,e9,own9⟩:=hr9;rw [e9] at own9;simp [slot] at e9;have q13:=hd ⟨13,.data⟩ (by simp) rfl;simp [rAt,IsV,slot] at q13;clear hd ho;have hst:=HCP.out wy hb;have hq0:HoldsL wy (w.heap.size+1) qs:=hst.k _ (.tail _ (.head _));obtain ⟨i0,hi1,hz0,hz1,hz2⟩:=info_parts Try.info5;obtain ⟨v',w',hrun,h1,h2⟩:=run_append_arg_grows (P:=Try.prog) wy 22 22 5 i0 _ 1 1 Try.underlying22 hi1 hz0 hz1 hz2 rfl (by decide) ⟨g9,0,none⟩ 8 8 (strCells hd8) HL8.out (fun j u hu=>own9.cells (g:=g9) rfl j u hu) ⟨w.heap.size+1,0,none⟩ i 1200 nw HLN.out (HNW.out wy _ hq0) (by omega) (by unfold maxLen; omega) (by omega);rw [HMS.out] at h1;have h3:IsRwT w.heap.size (8+i) mv v' w':=rwT_of_own (owns_base h1 (Nat.le_trans hlw hb.size)) (by omega);clear hst hq0 own9;refine wp_append_run (.tmp 21) (.tmp 25) 22 rfl (by simp [Act.eval,slot,e9]) (by simp [Act.eval,slot,q13]) hrun ?_;exact hK _ _ h3 ⟨h2.os,h2.tape,h2.output,h2.size,fun q hq=>h2.block q hq (by simp)⟩
  intro X wz hR hz;obtain ⟨x0,x1,x2,x3,x4,x5,x6,x7,x8,x9,x10,x11,x12,x13,x14,-⟩:=hR;obtain ⟨b4,e4,-,-⟩:=x8;obtain ⟨g9,e9,own9⟩:=x9;obtain ⟨g7,c7,e7,b7,l7,h7⟩:=x14;simp only [IsV] at x0 x1 x2 x3 x4 x5 x6 x7 x10 x11 x12 x13;simp only [putsFrom,x0,x1,x2,x3,x4,x5,x6,x7,e4,e9,x10,x11,x12,x13,e7];clear x0 x1 x2 x3 x4 x5 x6 x7 x10 x11 x12 x13;have HFR:Hid (IsRwT w.heap.size (8+i) mv (.slice (some ⟨g7,0,none⟩) (8+i) c7) wz):=⟨g7,c7,rfl,b7,l7,h7⟩;have HFB:Hid (Below w.heap.size w wz):=(HCP.out wz hz).b;clear HCP hz h7 own9;intro K10 hK10;go_simp;refine hK10 _ _ ?_;show Exit.then _ _ _ _ _;refine hK2 _ _ (hJ _ _ ?_);(repeat apply Exists.intro)
  exact ⟨⟨HFR.out,HFB.out⟩,rfl⟩
 case rest =>
 obtain ⟨⟨g,cap,rfl,hgw,hcap,hG⟩,hB⟩:=hcut;have T1:Hid (HoldsL wc g (strCells mv)):=hG;have S1:Hid (Below w.heap.size w wc):=hB;clear hG hB HS0 HW HMS HNW HLN HL8 HQ;generalize wc=W1 at *;have wsm:IntKind.i64.wrap (65535-sm)=65535-sm:=by rw [IntKind.wrap_i64]; omega
 have z2:=twoV_size (65535-sm);have HL1:Hid ((layL [65535-sm]).map (Value.int .u8)=strCells (twoV (65535-sm))):=by unfold Hid; rw [strCells_two _ (by omega) (by omega)]; rfl
 have hx1:((8+i:Nat):Int)=8+(i:Int):=by omega
 have hxc:¬ cap=2:=by omega
 have hxd:¬ (cap:Int) < 2:=by omega
 have hxe:¬ (8+(i:Int)) < 2:=by omega
 have hxf:(2:Int)≤8+(i:Int):=by omega
 go_upto_region 2 with fail
 go_cut [38] (fun v wx=>HoldsL wx g (strCells (putV mv 2 (twoV (65535-sm))))∧Below w.heap.size w wx)
 case first =>
  rename_i J K2 hJ hK2;have HGP:Hid (∀ wy,Below W1.drew.heap.size W1.drew wy→HoldsL wy g (strCells mv)):=fun wy hy=>T1.out.kept (by rw [strCells_length]; omega) ((Below.refl _ _).drew.trans hy)
  have HBP:Hid (∀ wy,Below W1.drew.heap.size W1.drew wy→Below w.heap.size w wy):=fun wy hy=>S1.out.trans (((Below.refl _ _).drew.trans hy).mono S1.out.size)
  have hlw2:w.heap.size≤W1.drew.heap.size:=S1.out.size;clear T1 S1 hun;refine wp_region_growV [27,28,29,30,31,32,33,34,35,36,37] (by kernel_rfl) (by kernel_rfl) ?_;refine GChV.val (n:=0) (fun v=>[IsV v]) (fun _=>rfl) rfl ?_;apply Exists.intro;refine And.intro ?_ ?_
  ·intro K' a wy ho hd hb hK;rw [if_pos (wanted_none rfl)];have o11:=ho 11 (by decide);simp [slot] at o11;clear hd ho;go_simp;try go_bits
   exact hK _ _ rfl (Below.refl _ _)
  refine GChV.val (n:=1) (fun v=>[_,IsV v]) (fun _=>rfl) rfl ?_;apply Exists.intro;refine And.intro ?_ ?_
  ·intro K' a wy ho hd hb hK;rw [if_pos (wanted_none rfl)];have q0:=hd ⟨0,.data⟩ (by simp) rfl;simp [rAt,IsV,slot] at q0;clear hd ho;go_simp;try go_bits
   exact hK _ _ rfl (Below.refl _ _)
  refine GChV.val (n:=2) (fun v=>[_,_,IsV v]) (fun _=>rfl) rfl ?_;apply Exists.intro;refine And.intro ?_ ?_
  ·intro K' a wy ho hd hb hK;rw [if_pos (wanted_none rfl)];have o1:=ho 1 (by decide);simp [slot] at o1;clear hd ho;go_simp;try go_bits
   exact hK _ _ rfl (Below.refl _ _)
  refine GChV.val (n:=3) (fun v=>[_,_,_,IsV v]) (fun _=>rfl) rfl ?_;apply Exists.intro;refine And.intro ?_ ?_
  ·intro K' a wy ho hd hb hK;rw [if_pos (wanted_none rfl)];have o2:=ho 2 (by decide);simp [slot] at o2;clear hd ho;go_simp;try go_bits
   exact hK _ _ rfl (Below.refl _ _)
  refine GChV.val (n:=4) (fun v=>[_,_,_,_,IsV v]) (fun _=>rfl) rfl ?_;apply Exists.intro;refine And.intro ?_ ?_
  ·intro K' a wy ho hd hb hK;rw [if_pos (wanted_none rfl)];have o3:=ho 3 (by decide);simp [slot] at o3;clear hd ho;go_simp;try go_bits
   exact hK _ _ rfl (Below.refl _ _)
  refine GChV.val (n:=5) (fun v=>[_,_,_,_,_,IsV v]) (fun _=>rfl) rfl ?_;apply Exists.intro;refine And.intro ?_ ?_
  ·intro K' a wy ho hd hb hK;rw [if_pos (wanted_none rfl)];have o11:=ho 11 (by decide);simp [slot] at o11;clear hd ho;go_simp;try go_bits
   exact hK _ _ rfl (Below.refl _ _)
  refine GChV.val (n:=6) (fun v=>[_,_,_,_,_,_,IsV v]) (fun _=>rfl) rfl ?_;apply Exists.intro;refine And.intro ?_ ?_
  ·intro K' a wy ho hd hb hK;rw [if_pos (wanted_none rfl)];have q5:=hd ⟨5,.data⟩ (by simp) rfl;simp [rAt,IsV,slot] at q5;clear hd ho;have hcv:=rowT_str (cap:=cap) (n:=8+i) (HGP.out wy hb) hms.symm;go_simp;try go_bits
   exact hK _ _ rfl (Below.refl _ _)
  refine GChV.val (n:=7) (fun v=>[_,_,_,_,_,_,_,IsV v]) (fun _=>rfl) rfl ?_;apply Exists.intro;refine And.intro ?_ ?_
  ·intro K' a wy ho hd hb hK;rw [if_pos (wanted_none rfl)];have q2:=hd ⟨2,.data⟩ (by simp) rfl;simp [rAt,IsV,slot] at q2;have q3:=hd ⟨3,.data⟩ (by simp) rfl;simp [rAt,IsV,slot] at q3;have q4:=hd ⟨4,.data⟩ (by simp) rfl;simp [rAt,IsV,slot] at q4;have q6:=hd ⟨6,.data⟩ (by simp) rfl;simp [rAt,IsV,slot] at q6;clear hd ho;go_simp;refine (HCS.out wy).mono ?_;rintro e wz ⟨rfl,hz⟩;exact hK _ _ rfl hz
  refine GChV.val (n:=8) (fun v=>[_,_,_,_,_,_,_,_,IsV v]) (fun _=>rfl) rfl ?_;apply Exists.intro;refine And.intro ?_ ?_
  ·intro K' a wy ho hd hb hK;rw [if_pos (wanted_none rfl)];have q7:=hd ⟨7,.data⟩ (by simp) rfl;simp [rAt,IsV,slot] at q7;clear hd ho;go_simp;try go_bits
   exact hK _ _ rfl (Below.refl _ _)
  refine GChV.rel (n:=9) (IsWords [65535-sm]) (stable_isWords _) [_,_,_,_,_,_,_,_,_,IsWords [65535-sm]] rfl rfl ?_ ?_
  ·intro K' a wy ho hd hb hK;rw [if_pos (wanted_none rfl)];have q8:=hd ⟨8,.data⟩ (by simp) rfl;simp [rAt,IsV,slot] at q8;clear hd ho;go_simp;exact hK _ _ ⟨wy.heap.size,rfl,by simp,fun j hj=>by
    simp only [List.length_cons,List.length_nil] at hj;match j,hj with
    | 0,_=>simp⟩ ((Below.refl _ _).alloc (Nat.le_refl _) _)
  refine GChV.rel (n:=10) (IsOwn w.heap.size 5 2 (strCells (twoV (65535-sm)))) (stable_isOwn _ _ _ _) [_,_,_,_,_,_,_,_,_,_,IsOwn w.heap.size 5 2 (strCells (twoV (65535-sm)))] rfl rfl ?_ ?_
  ·intro K' a wy ho hd hb hK;rw [if_pos (wanted_none rfl)];have hr:IsWords [65535-sm] (slot a 36) wy:=hd ⟨9,.data⟩ (by simp) rfl;obtain ⟨b4,e1,e2,e3⟩:=hr;simp [slot] at e1;clear hd ho;go_simp;refine (layWords_any [65535-sm] b4 1 1 wy (by decide) e2 rfl (getD_word _ (by simp only [List.forall_mem_cons,List.not_mem_nil,false_imp_iff,implies_true,and_true]; omega)) e3).mono ?_;rintro e wz ⟨rfl,hown,hz⟩;exact hK _ _ ⟨_,rfl,owns_base (by rw [← HL1.out]; exact hown) (Nat.le_trans hlw2 hb.size)⟩ hz
  intro X wz hR hz;obtain ⟨x0,x1,x2,x3,x4,x5,x6,x7,x8,x9,x10,-⟩:=hR;obtain ⟨b4,e4,-,-⟩:=x9;obtain ⟨g5,e5,own5⟩:=x10;simp only [IsV] at x0 x1 x2 x3 x4 x5 x6 x7 x8;simp only [putsFrom,x0,x1,x2,x3,x4,x5,x6,x7,x8,e4,e5];clear x0 x1 x2 x3 x4 x5 x6 x7 x8;rw [e5] at own5;have hgz:=HGP.out wz hz;have hrun:=run_layT_more (P:=Try.prog) (dCap:=cap-2) 22 22 3 5 Try.underlying22 hinfo hgz (o:=2) (by omega) (dLen:=8+i-2) (by omega) z2.symm own5;rw [z2] at hrun;have HN2:Hid (HoldsL (wz.setCells g 2 (strCells (twoV (65535-sm)))) g (strCells (putV mv 2 (twoV (65535-sm))))):=layT_put hgz (by omega);have HB2:Hid (Below w.heap.size w (wz.setCells g 2 (strCells (twoV (65535-sm))))):=below_setCells (HBP.out wz hz) hgw _ _;clear hgz own5 hz HGP HBP;intro K10 hK10;go_simp;refine hK10 _ _ ?_;show Exit.then _ _ _ _ _;refine hK2 _ _ (hJ _ _ ?_);(repeat apply Exists.intro)
  exact ⟨⟨HN2.out,HB2.out⟩,rfl⟩
 case rest =>
 obtain ⟨hG,hB⟩:=hcut;have T2:Hid _:=hG;have S2:Hid (Below w.heap.size w wc):=hB;clear hG hB T1 S1 HCS HL1;generalize wc=W2 at *;have hsz3:(putV mv 2 (twoV (65535-sm))).size=8+i:=by rw [putV_size (by omega)]; exact hms
 generalize hvv:putV mv 2 (twoV (65535-sm))=vv at *;have HVV:Hid _:=hvv;clear hvv;have hcv:=rowT_str (cap:=cap) (n:=8+i) T2.out hsz3.symm;clear T2 hsz3 hms;go_wp2_with fail
 go_ret;exact ⟨by rw [HVV.out]; rfl,S2.out⟩
end Go.Proofs.Ytagbhaalmjpkjaa
