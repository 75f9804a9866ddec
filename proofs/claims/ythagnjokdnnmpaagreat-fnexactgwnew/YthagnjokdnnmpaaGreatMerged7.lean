import Derived.Test.YthagnjokdnnmpaaGreatMerged2
import Derived.WalkKit
import Derived.PlainAid
import Derived.RegionTactic
import Derived.BigQuiet
import Derived.Deep.QuietTactic
import Derived.Deep.DeepCutAuto
import Derived.Laws.StructEq
import Derived.Lib.QuietBelow
set_option linter.unusedVariables false
set_option linter.unusedSimpArgs false
set_option maxRecDepth 100000
set_option maxHeartbeats 8000000
namespace Go.Proofs.YthagnjokdnnmpaaGreat
open Go.RowKit
structure Bk where
 left:Int
 most:Int
 each:Int
 since:Int
def buC (b:Bk):Value:=.agg #[.int .i64 b.left,.int .i64 b.most,.int .i64 b.each,.int .i64 b.since]
def bkTime (n:Int):Bool:=isIn n 0 1000000000
def bucketOk (b:Bk):Bool:=isIn b.most 1 100&&isIn b.left 0 b.most&&isIn b.each 1 1000&&bkTime b.since
open Go.PlainAid
def maskOf (p:Nat→Bool):Nat→Nat
 | 0=>0
 | n+1=>maskOf p n+if p n then 2 ^ n else 0
def cntOf (p:Nat→Bool):Nat→Nat
 | 0=>0
 | n+1=>cntOf p n+if p n then 1 else 0
def cntMask (m:Nat):Nat→Nat
 | 0=>0
 | b+1=>cntMask m b+m / 2 ^ b % 2
def pick {α:Type} (p:Nat→Bool) (f:Nat→α):Nat→List α
 | 0=>[]
 | n+1=>pick p f n++if p n then [f n] else []
theorem pick_length {α:Type} (p:Nat→Bool) (f:Nat→α):∀ n,(pick p f n).length=cntOf p n
 | 0=>rfl
 | n+1=>by
  unfold pick cntOf;rw [List.length_append,pick_length p f n];split<;>simp
def lastV (kid:Nat→Bool) (val:Nat→Int):Nat→Int
 | 0=>-1
 | j+1=>if kid j then lastV kid val j else val j
def leafAt (kid:Nat→Bool) (val:Nat→Int) (j:Nat):Bool:=!kid j&&val j != lastV kid val j
structure Nd where
 kids:Nat
 leaf:Nat
 base:Nat
 leafs:Nat
structure Tb where
 rows:List (Nat × Nat)
 nodes:List Nd
 leaves:List Int
section
variable (kid:Nat × Nat→Nat→Bool) (val:Nat × Nat→Nat→Int)
def nodeOf (r:Nat × Nat) (r0 l0:Nat):Nd :=
 ⟨maskOf (kid r) 16,maskOf (leafAt (kid r) (val r)) 16,if cntOf (kid r) 16=0 then 0 else r0,if cntOf (leafAt (kid r) (val r)) 16=0 then 0 else l0⟩
def kidRow (r:Nat × Nat) (k:Nat):Nat × Nat:=(r.1+1,16*r.2+k)
def tbStep (t:Tb) (r:Nat × Nat):Tb :=
 ⟨t.rows++pick (kid r) (kidRow r) 16,t.nodes++[nodeOf kid val r t.rows.length t.leaves.length],t.leaves++pick (leafAt (kid r) (val r)) (val r) 16⟩
structure NodeAt (t:Tb) (i:Nat):Prop where
 ex:∃ r r0 l0 rr ll,t.rows[i]?=some r∧t.nodes[i]?=some (nodeOf kid val r r0 l0)∧i < r0∧t.rows=rr∧t.leaves=ll ∧
  (∀ j x,(pick (kid r) (kidRow r) 16)[j]?=some x→t.rows[r0+j]?=some x)∧(∀ j x,(pick (leafAt (kid r) (val r)) (val r) 16)[j]?=some x→t.leaves[l0+j]?=some x) ∧
  r0+cntOf (kid r) 16≤t.rows.length∧l0+cntOf (leafAt (kid r) (val r)) 16≤t.leaves.length
theorem get_app {α:Type} {a b:List α} {i:Nat} {x:α} (h:a[i]?=some x):(a++b)[i]?=some x:=by
 have hl:i < a.length:=by
  by_cases e:i < a.length
  ·exact e
  ·rw [List.getElem?_eq_none (by omega)] at h; simp at h
 rw [List.getElem?_append_left hl]; exact h
theorem NodeAt.step {t:Tb} {i:Nat} (h:NodeAt kid val t i) (r:Nat × Nat):NodeAt kid val (tbStep kid val t r) i:=by
 obtain ⟨q,r0,l0,_,_,h1,h2,h3,_,_,h4,h5,h6,h7⟩:=h.ex;refine ⟨q,r0,l0,_,_,get_app h1,get_app h2,h3,rfl,rfl,fun j x hx=>get_app (h4 j x hx),fun j x hx=>get_app (h5 j x hx),?_,?_⟩
 ·show _≤(t.rows++_).length; rw [List.length_append]; omega
 ·show _≤(t.leaves++_).length; rw [List.length_append]; omega
theorem NodeAt.new {t:Tb} {r:Nat × Nat} (hr:t.rows[t.nodes.length]?=some r):NodeAt kid val (tbStep kid val t r) t.nodes.length:=by
 have hlt:t.nodes.length < t.rows.length:=by
  by_cases e:t.nodes.length < t.rows.length
  ·exact e
  ·rw [List.getElem?_eq_none (by omega)] at hr; simp at hr
 refine ⟨r,t.rows.length,t.leaves.length,_,_,get_app hr,?_,hlt,rfl,rfl,?_,?_,?_,?_⟩
 ·show (t.nodes++[_])[t.nodes.length]?=_;rw [List.getElem?_append_right (Nat.le_refl _),Nat.sub_self]; rfl
 ·intro j x hx;show (t.rows++_)[t.rows.length+j]?=_;rw [List.getElem?_append_right (by omega),show t.rows.length+j-t.rows.length=j by omega]; exact hx
 ·intro j x hx;show (t.leaves++_)[t.leaves.length+j]?=_;rw [List.getElem?_append_right (by omega),show t.leaves.length+j-t.leaves.length=j by omega]; exact hx
 ·show _≤(t.rows++_).length; rw [List.length_append,pick_length]; exact Nat.le_refl _
 ·show _≤(t.leaves++_).length; rw [List.length_append,pick_length]; exact Nat.le_refl _
structure TbOk (t:Tb):Prop where
 nodes:∀ i,i < t.nodes.length→NodeAt kid val t i
 le:t.nodes.length≤t.rows.length
 root:t.rows[0]?=some (0,0)
 leaves:∀ x∈t.leaves,∃ r k,x=val r k
theorem TbOk.start:TbOk kid val ⟨[(0,0)],[],[]⟩:=⟨fun i h=>by simp at h,by simp,rfl,by simp⟩
theorem mem_pick {α:Type} (p:Nat→Bool) (f:Nat→α):∀ n x,x∈pick p f n→∃ k,k < n∧p k=true∧x=f k
 | 0,x,h=>by simp [pick] at h
 | n+1,x,h=>by
  unfold pick at h;rcases List.mem_append.1 h with h | h
  ·obtain ⟨k,hk,hp,e⟩:=mem_pick p f n x h; exact ⟨k,by omega,hp,e⟩
  ·by_cases hp:p n=true
   ·rw [if_pos hp] at h; simp at h; exact ⟨n,by omega,hp,h⟩
   ·rw [if_neg hp] at h; simp at h
theorem TbOk.step {t:Tb} (h:TbOk kid val t) {r:Nat × Nat} (hr:t.rows[t.nodes.length]?=some r):TbOk kid val (tbStep kid val t r):=by
 have hlt:t.nodes.length < t.rows.length:=by
  by_cases e:t.nodes.length < t.rows.length
  ·exact e
  ·rw [List.getElem?_eq_none (by omega)] at hr; simp at hr
 refine ⟨fun i hi=>?_,?_,get_app h.root,?_⟩
 ·have hi':i < t.nodes.length+1:=by
   have:(tbStep kid val t r).nodes.length=t.nodes.length+1:=by show (t.nodes++[_]).length=_; simp
   omega
  by_cases e:i=t.nodes.length
  ·rw [e]; exact NodeAt.new kid val hr
  ·exact (h.nodes i (by omega)).step kid val r
 ·show (t.nodes++[_]).length≤(t.rows++_).length;simp; omega
 ·intro x hx;rcases List.mem_append.1 hx with hx | hx
  ·exact h.leaves x hx
  ·obtain ⟨k,_,_,e⟩:=mem_pick _ _ _ _ hx; exact ⟨r,k,e⟩
end
theorem len_of_sub {α:Type} [DecidableEq α]:∀ (l m:List α),l.Pairwise (·≠·)→(∀ x∈l,x∈m)→l.length≤m.length
 | [],m,_,_=>Nat.zero_le _
 | a::l,m,hp,hs=>by
  have ha:a∈m:=hs a (by simp);have hp':=List.pairwise_cons.1 hp;have:=len_of_sub l (m.erase a) hp'.2 (fun x hx=>(List.mem_erase_of_ne (fun e=>hp'.1 x hx e.symm)).2 (hs x (by simp [hx])));rw [List.length_erase_of_mem ha] at this;have hpos:0 < m.length:=List.length_pos_of_mem ha;simp; omega
def rlt (a b:Nat × Nat):Prop:=a.1 < b.1∨(a.1=b.1∧a.2 < b.2)
theorem rlt_ne {a b:Nat × Nat} (h:rlt a b):a≠b:=by
 intro e; subst e; unfold rlt at h; omega
section
variable (kid:Nat × Nat→Nat→Bool) (val:Nat × Nat→Nat→Int)
structure TbSort (S:List (Nat × Nat)) (t:Tb):Prop where
 sorted:t.rows.Pairwise rlt
 next:∀ r,t.rows[t.nodes.length]?=some r→∀ x∈t.rows,x.1≤r.1+1∧(x.1=r.1+1→x.2 < 16*r.2)
 sub:∀ x∈t.rows,x=(0,0)∨x∈S
theorem TbSort.start (S:List (Nat × Nat)):TbSort S ⟨[(0,0)],[],[]⟩ :=
 ⟨by simp,fun r h x hx=>by simp at h hx; subst h hx; simp,by simp⟩
theorem pick_sorted (r:Nat × Nat) (p:Nat→Bool):∀ n,(pick p (kidRow r) n).Pairwise rlt
 | 0=>by simp [pick]
 | n+1=>by
  unfold pick;rw [List.pairwise_append];refine ⟨pick_sorted r p n,?_,?_⟩
  ·split<;>simp
  ·intro a ha b hb;obtain ⟨k,hk,_,rfl⟩:=mem_pick _ _ _ _ ha;by_cases hp:p n=true
   ·rw [if_pos hp] at hb; simp at hb; subst hb; exact .inr ⟨rfl,by simp [kidRow]; omega⟩
   ·rw [if_neg hp] at hb; simp at hb
theorem TbSort.step {S:List (Nat × Nat)} {t:Tb} (h:TbSort S t) (hS:∀ r k,k < 16→kid r k=true→kidRow r k∈S) {r:Nat × Nat} (hr:t.rows[t.nodes.length]?=some r):TbSort S (tbStep kid val t r):=by
 have hnx:=h.next r hr;have hnl:(tbStep kid val t r).nodes.length=t.nodes.length+1:=by show (t.nodes++[_]).length=_; simp
 have hsrt:(tbStep kid val t r).rows.Pairwise rlt:=by
  show (t.rows++_).Pairwise rlt;rw [List.pairwise_append];refine ⟨h.sorted,pick_sorted r _ 16,fun a ha b hb=>?_⟩;obtain ⟨k,hk,_,rfl⟩:=mem_pick _ _ _ _ hb;have:=hnx a ha;by_cases e:a.1=r.1+1
  ·exact .inr ⟨e,by have:=this.2 e; show a.2 < 16*r.2+k; omega⟩
  ·exact .inl (by show a.1 < r.1+1; omega)
 refine ⟨hsrt,fun q hq x hx=>?_,fun x hx=>?_⟩
 ·rw [hnl] at hq;have hlt:t.nodes.length+1 < (tbStep kid val t r).rows.length:=by
   by_cases e:t.nodes.length+1 < (tbStep kid val t r).rows.length
   ·exact e
   ·rw [List.getElem?_eq_none (by omega)] at hq; simp at hq
  have hr2:(tbStep kid val t r).rows[t.nodes.length]?=some r:=get_app hr;have hrq:rlt r q:=by
   have:=List.pairwise_iff_getElem.1 hsrt t.nodes.length (t.nodes.length+1) (by omega) hlt (by omega);rw [List.getElem?_eq_getElem (by omega)] at hr2;rw [List.getElem?_eq_getElem hlt] at hq;injection hr2 with hr2; injection hq with hq
   rw [hr2,hq] at this; exact this
  unfold rlt at hrq;rcases List.mem_append.1 hx with hx | hx
  ·have:=hnx x hx;exact ⟨by omega,fun e=>by have:=this.2 (by omega); omega⟩
  ·obtain ⟨k,hk,_,rfl⟩:=mem_pick _ _ _ _ hx;simp only [kidRow];exact ⟨by omega,fun e=>by omega⟩
 ·rcases List.mem_append.1 hx with hx | hx
  ·exact h.sub x hx
  ·obtain ⟨k,hk,hp,rfl⟩:=mem_pick _ _ _ _ hx;exact .inr (hS r k hk hp)
theorem TbSort.length {S:List (Nat × Nat)} {t:Tb} (h:TbSort S t):t.rows.length≤S.length+1:=by
 have:=len_of_sub t.rows ((0,0)::S) (h.sorted.imp rlt_ne) (fun x hx=>by rcases h.sub x hx with e | e<;>simp [e]);simpa using this
structure NdRight (n leaves i:Nat) (x:Nd):Prop where
 kids:x.kids < 65536
 leaf:x.leaf < 65536
 apart:∀ k,¬ (x.kids / 2 ^ k % 2=1∧x.leaf / 2 ^ k % 2=1)
 base:x.kids≠0→i < x.base∧x.base+cntMask x.kids 16≤n
 base0:x.kids=0→x.base=0
 leafs:x.leaf≠0→x.leafs+cntMask x.leaf 16≤leaves
 leafs0:x.leaf=0→x.leafs=0
 first:∀ k,k < 16→(∀ j,j < k→x.kids / 2 ^ j % 2=1)→x.kids / 2 ^ k % 2=0→x.leaf / 2 ^ k % 2=1
end
def zerosN (f:Nat→Int) (k:Nat):Nat→Bool
 | 0=>true
 | n+1=>bitN f k==0&&zerosN f (k+1) n
def badP (s:ByteArray) (b:Int):Bool:=!(addrOk s&&decide (0≤b)&&decide (b≤8*(s.size:Int)))
def prefixOk (s:ByteArray) (b:Int):Bool:=addrOk s&&decide (0≤b)&&decide (b≤8*(s.size:Int))&&zerosN (bt s) b.toNat (8*s.size-b.toNat)
theorem zerosN_step (f:Nat→Int) (k m:Nat) (h:k < m):zerosN f k (m-k)=(bitN f k==0&&zerosN f (k+1) (m-(k+1))):=by
 obtain ⟨n,e⟩ : ∃ n,m-k=n+1:=⟨m-k-1,by omega⟩;rw [e,show m-(k+1)=n by omega]; rfl
theorem zerosN_end (f:Nat→Int) (k m:Nat) (h:m≤k):zerosN f k (m-k)=true:=by rw [show m-k=0 by omega]; rfl
theorem specPrefixRight_any (s:ByteArray) (b:Int) (w:World) (hs:s.size≤1048576) :
  Calls Tryz.prog 112 #[.agg #[.string s,.int .i64 b]] w fun e w'=>e=.returned (.bool (prefixOk s b))∧Below w.heap.size w w':=by
 have hc0:(w.alloc (.cells #[.string s,.int .i64 b] 30)).cell? ⟨w.heap.size,0,none⟩=some (.string s):=by simp
 have hc1:(w.alloc (.cells #[.string s,.int .i64 b] 30)).cell? ⟨w.heap.size,1,none⟩=some (.int .i64 b):=by simp
 have HB:Hid (Below w.heap.size w (w.alloc (.cells #[.string s,.int .i64 b] 30))):=(Below.refl _ _).alloc (Nat.le_refl _) _;go_enter Tryz.func112,Tryz.ntmps112
 go_upto_region 1 with fail
 generalize hW:w.alloc (.cells #[.string s,.int .i64 b] 30)=W at *;clear hW;go_cut [20] (fun v wx=>v=.bool (badP s b)∧∃ n,wx=W.drewN n)
 case first =>
  by_cases ha:addrOk s=true
  ·by_cases h0:0≤b
   ·by_cases h1:b≤8*(s.size:Int)
    ·have d0:decide (b < 0)=false:=by simpa using h0
     have d1:decide (8*(s.size:Int) < b)=false:=by simpa using h1
     go_quiet ((first | (go_at_call 137; exact Calls.quiet_of_same (specAddrRight_any _ _)) | (go_at_call 109; exact Calls.quiet_of_same (specBits_any _ _ hs))))
     go_wp2_with fail
     go_meet;exact ⟨by simp [badP,ha,h0,h1],_,rfl⟩
    ·have d0:decide (b < 0)=false:=by simpa using h0
     have d1:8*(s.size:Int) < b:=by omega
     go_quiet ((first | (go_at_call 137; exact Calls.quiet_of_same (specAddrRight_any _ _)) | (go_at_call 109; exact Calls.quiet_of_same (specBits_any _ _ hs))))
     go_wp2_with fail
     go_meet;exact ⟨by simp [badP,h1],_,rfl⟩
   ·have d0:b < 0:=by omega
    go_quiet ((first | (go_at_call 137; exact Calls.quiet_of_same (specAddrRight_any _ _)) | (go_at_call 109; exact Calls.quiet_of_same (specBits_any _ _ hs))))
    go_wp2_with fail
    go_meet;exact ⟨by simp [badP,h0],_,rfl⟩
  ·have ha':addrOk s=false:=by simpa using ha
   clear ha;go_quiet ((first | (go_at_call 137; exact Calls.quiet_of_same (specAddrRight_any _ _)) | (go_at_call 109; exact Calls.quiet_of_same (specBits_any _ _ hs))))
   go_wp2_with fail
   go_meet;exact ⟨by simp [badP,ha'],_,rfl⟩
 case rest =>
 obtain ⟨rfl,n,rfl⟩:=hcut;by_cases hok:(addrOk s&&decide (0≤b)&&decide (b≤8*(s.size:Int)))=true
 ·have hok':=hok;simp at hok';obtain ⟨⟨ha,h0⟩,h1⟩:=hok';have hbad:badP s b=false:=by unfold badP; rw [hok]; rfl
  obtain ⟨b,rfl⟩:=Int.eq_ofNat_of_zero_le h0;have HV:Hid (prefixOk s b=zerosN (bt s) b (8*s.size-b)):=by unfold Hid prefixOk; rw [hok]; simp
  clear ha hok;have HB2:Hid (Below w.heap.size w (W.drewN n)):=HB.out.trans ⟨rfl,rfl,rfl,Nat.le_refl _,fun _ _=>rfl⟩;have hd0:(W.drewN n).cell? ⟨w.heap.size,0,none⟩=some (.string s):=hc0;have hd1:(W.drewN n).cell? ⟨w.heap.size,1,none⟩=some (.int .i64 b):=hc1;generalize W.drewN n=W2 at *;clear hc0 hc1 HB;rw [hbad];clear hbad;go_wp2_with fail
  go_loop [3] (fun i=>∃ k:Nat,b≤k∧k≤8*s.size∧i=.int .i64 k∧zerosN (bt s) b (8*s.size-b)=zerosN (bt s) k (8*s.size-k)) (fun i=>8*s.size-(intOf i).toNat)
  case atStart=>exact ⟨b,Nat.le_refl _,by omega,rfl,rfl⟩
  case round =>
   obtain ⟨k,hk0,hk,rfl,hz⟩:=hrel;have HZ:Hid _:=hz;clear hz;by_cases hlt:k < 8*s.size
   ·have HS:Hid _:=zerosN_step (bt s) k (8*s.size) hlt;have hr:=bitN_range (bt s) k;by_cases hbit:bitN (bt s) k=1
    ·go_wp2_with (first | (go_at_call 109; refine (specBits_any s _ hs).mono ?_; rintro e w' ⟨rfl,rfl⟩) | (go_at_call 138; refine (specBit_any s k _ hlt hs).mono ?_; rintro e w' ⟨rfl,rfl⟩))
     go_ret;exact ⟨ret_bool (by rw [HV.out,HZ.out,HS.out,hbit]; rfl),HB2.out⟩
    ·have hb0:bitN (bt s) k=0:=by omega
     have hb':(bitN (bt s) k==1)=false:=by simp [hb0]
     have HB0:Hid (bitN (bt s) k=0):=hb0;clear hb0 hbit;go_wp2_with (first | (go_at_call 109; refine (specBits_any s _ hs).mono ?_; rintro e w' ⟨rfl,rfl⟩) | (go_at_call 138; refine (specBit_any s k _ hlt hs).mono ?_; rintro e w' ⟨rfl,rfl⟩))
     go_round
     case rel=>exact ⟨k+1,by omega,by omega,by go_num,by rw [HZ.out,HS.out,HB0.out]; rfl⟩
     case measure=>simp [intOf]; omega
   ·have HE:Hid _:=zerosN_end (bt s) k (8*s.size) (by omega);go_wp2_with (go_at_call 109; refine (specBits_any s _ hs).mono ?_; rintro e w' ⟨rfl,rfl⟩)
    go_ret;exact ⟨ret_bool (by rw [HV.out,HZ.out,HE.out]),HB2.out⟩
 ·have hok':(addrOk s&&decide (0≤b)&&decide (b≤8*(s.size:Int)))=false:=by simpa using hok
  have hbad:badP s b=true:=by unfold badP; rw [hok']; rfl
  have HV:Hid (prefixOk s b=false):=by unfold Hid prefixOk; rw [hok']; rfl
  clear hok hok';rw [hbad];clear hbad;go_wp2_with fail
  go_ret;exact ⟨ret_bool HV.out.symm,HB.out.trans ⟨rfl,rfl,rfl,Nat.le_refl _,fun _ _=>rfl⟩⟩
theorem prefixOk_le {s:ByteArray} {b:Int} (h:prefixOk s b=true):0≤b∧b≤8*(s.size:Int)∧(s.size=4∨s.size=16):=by
 simp [prefixOk] at h;exact ⟨h.1.1.2,h.1.2,addrOk_size h.1.1.1⟩
structure Rt where
 addr:ByteArray
 bits:Int
 hop:Int
def routeOk (q:Rt):Bool:=prefixOk q.addr q.bits&&decide (1≤q.hop)&&decide (q.hop≤1000)
section
variable (n:Nat) (l:List Rt)
end
structure RtsAt (w:World) (b off:Nat) (rs:List Rt):Prop where
 c0:∀ i (h:i < rs.length),w.cell? ⟨b,off+i*3,none⟩=some (.string rs[i].addr)
 c1:∀ i (h:i < rs.length),w.cell? ⟨b,off+i*3+1,none⟩=some (.int .i64 rs[i].bits)
 c2:∀ i (h:i < rs.length),w.cell? ⟨b,off+i*3+2,none⟩=some (.int .i64 rs[i].hop)
def RtsIn (rs:List Rt):Prop:=∀ q∈rs,q.addr.size≤1048576∧(-9223372036854775808≤q.bits∧q.bits≤9223372036854775807)∧(-9223372036854775808≤q.hop∧q.hop≤9223372036854775807)
theorem RtsAt.below {w W:World} {b off:Nat} {rs:List Rt} (h:RtsAt w b off rs) (hb:b < w.heap.size) (hB:Below w.heap.size w W):RtsAt W b off rs :=
 ⟨fun i hi=>((bcell hB).1 b _ hb).trans (h.c0 i hi),fun i hi=>((bcell hB).1 b _ hb).trans (h.c1 i hi),fun i hi=>((bcell hB).1 b _ hb).trans (h.c2 i hi)⟩
def samePfx (p q:Rt):Bool:=decide (p.addr.toList=q.addr.toList)&&decide (p.bits=q.bits)
def dupV (rs:List Rt) (q:Rt):Nat→Bool
 | 0=>false
 | k+1=>dupV rs q k||(match rs[k]? with
  | some p=>samePfx p q
  | none=>false)
def rightN (rs:List Rt):Nat→Bool
 | 0=>true
 | i+1=>rightN rs i&&(match rs[i]? with
  | some q=>routeOk q&&!dupV rs q i
  | none=>true)
def routesOk (rs:List Rt):Bool:=decide (rs.length≤100)&&rightN rs rs.length
theorem dupV_step {rs:List Rt} {q:Rt} {k:Nat} (h:k < rs.length):dupV rs q (k+1)=(dupV rs q k||samePfx rs[k] q):=by
 show (dupV rs q k||_)=_; rw [List.getElem?_eq_getElem h]
theorem rightN_step {rs:List Rt} {i:Nat} (h:i < rs.length):rightN rs (i+1)=(rightN rs i&&(routeOk rs[i]&&!dupV rs rs[i] i)):=by
 show (rightN rs i&&_)=_; rw [List.getElem?_eq_getElem h]
theorem rightN_mono {rs:List Rt} {i:Nat} (h:rightN rs i=false):∀ j,i≤j→rightN rs j=false:=by
 intro j hj;induction j with
 | zero=>rw [show i=0 by omega] at h; exact h
 | succ j ih =>
  by_cases e:i=j+1
  ·rw [← e]; exact h
  ·show (rightN rs j&&_)=false; rw [ih (by omega)]; rfl
theorem dupV_mono {rs:List Rt} {q:Rt} {i:Nat} (h:dupV rs q i=true):∀ j,i≤j→dupV rs q j=true:=by
 intro j hj;induction j with
 | zero=>rw [show i=0 by omega] at h; exact h
 | succ j ih =>
  by_cases e:i=j+1
  ·rw [← e]; exact h
  ·show (dupV rs q j||_)=true; rw [ih (by omega)]; rfl
theorem eqp_any (u v:ByteArray) (c d:Int) (W:World):(binOp .eql 30 (.agg #[.string u,.int .i64 c]) (.agg #[.string v,.int .i64 d])).run Tryz.prog W=.ok (.bool (decide (u.toList=v.toList)&&decide (c=d))) W:=by
 have h1:Tryz.prog.underlying 30=some (.struct (Tryz.prog.fieldsOf 30)):=by kernel_rfl
 have h2:Tryz.prog.stoodInHeld 30=false:=by kernel_rfl
 rw [run_eql_struct,run_equalIn_agg _ _ _ _ _ h1 h2];have h3:(Tryz.prog.fieldsOf 30).toList.length=2:=by kernel_rfl
 have h4 : ((Tryz.prog.fieldsOf 30).toList.map fun f => (f.type, f.offset, f.name == "_")) = [(9, 0, false), (2, 1, false)] := by kernel_rfl
 generalize (Tryz.prog.fieldsOf 30).toList=fs at *;match fs,h3 with
 | [f,g],_ =>
  simp at h4;obtain ⟨⟨a1,a2,a3⟩,b1,b2,b3⟩:=h4;have p0:∀ (u:ByteArray) (c:Int) W,(part 9 #[.string u,.int .i64 c] 0).run Tryz.prog W=.ok (.string u) W:=fun u c W=>by kernel_rfl
  have p1:∀ (u:ByteArray) (c:Int) W,(part 2 #[.string u,.int .i64 c] 1).run Tryz.prog W=.ok (.int .i64 c) W:=fun u c W=>by kernel_rfl
  simp [Op.eqFields,a1,a2,a3,b1,b2,b3,p0,p1,run_equalIn_string _ _ _ _ _ Tryz.underlying9,run_equalIn_int _ _ _ _ _ _ _ Tryz.underlying2];by_cases h:u.toList=v.toList<;>by_cases h':c=d<;>simp [h,h']
theorem specRoutesRight_any (rs:List Rt) (b off cap:Nat) (w:World) (hb:b < w.heap.size) (hin:RtsIn rs) (hr:RtsAt w b off rs) :
  Calls Tryz.prog 81 #[.slice (some ⟨b,off,none⟩) rs.length cap] w fun e w'=>e=.returned (.bool (routesOk rs))∧Below w.heap.size w w':=by
 have HR:Hid (RtsAt w b off rs):=hr;have HI:Hid (RtsIn rs):=hin;clear hr hin;by_cases h100:rs.length≤100
 ·have HV:Hid (routesOk rs=rightN rs rs.length):=by unfold Hid routesOk; rw [decide_eq_true h100]; rfl
  have h100':¬ (100:Int) < (rs.length:Int):=by omega
  go_enter Tryz.func81,Tryz.ntmps81
  go_wp2_with fail
  go_loopw [3] (fun i wr=>∃ k:Nat,k≤rs.length∧i=.int .i64 k∧rightN rs k=true∧Below w.heap.size w wr) (fun i _=>rs.length-(intOf i).toNat)
  case atStart=>exact ⟨0,Nat.zero_le _,rfl,rfl,Below.refl _ _⟩
  case round =>
   obtain ⟨k,hk,rfl,hrk,hbel⟩:=hrel;have HK:Hid (rightN rs k=true):=hrk;have HL:Hid (Below w.heap.size w wr):=hbel;clear hrk hbel;by_cases hlt:k < rs.length
   ·have HA:=HR.out.below hb HL.out;have c0:=HA.c0 k hlt;have c1:=HA.c1 k hlt;have c2:=HA.c2 k hlt;have hI:=HI.out rs[k] (List.getElem_mem hlt);obtain ⟨q,hq⟩ : ∃ q,q=rs[k]:=⟨_,rfl⟩;rw [← hq] at c0 c1 c2 hI;have HQ:Hid (q=rs[k]):=hq;obtain ⟨hI1,hI2,hI3⟩:=hI;have HP:Hid (∀ W,Calls Tryz.prog 112 #[.agg #[.string q.addr,.int .i64 q.bits]] W fun e w'=>e=.returned (.bool (prefixOk q.addr q.bits))∧Below W.heap.size W w'):=fun W=>specPrefixRight_any q.addr q.bits W hI1
    have HST:Hid (rightN rs (k+1)=(routeOk q&&!dupV rs q k)):=by unfold Hid; rw [rightN_step hlt,HK.out,← HQ.out]; rfl
    have HRO:Hid (routeOk q=(prefixOk q.addr q.bits&&decide (1≤q.hop)&&decide (q.hop≤1000))):=rfl;have HFIN:Hid (rightN rs (k+1)=false→routesOk rs=false):=fun h=>by rw [HV.out]; exact rightN_mono h _ (by omega)
    clear hq HA;go_wp2_with fail
    refine (HP.out _).mono ?_;rintro e w2 ⟨rfl,q2⟩;have HL2:Hid (Below w.heap.size w w2):=HL.out.trans (q2.mono HL.out.size);have HA2:Hid (RtsAt w2 b off rs):=HR.out.below hb HL2.out;clear q2 c0 c1 c2 HP;have c2:=HA2.out.c2 k hlt;rw [← HQ.out] at c2
    cases hok:prefixOk q.addr q.bits with
    | false =>
     have HX:Hid (routesOk rs=false):=HFIN.out (by rw [HST.out,HRO.out,hok]; rfl);clear hok;go_wp2_with fail
     go_ret;exact ⟨ret_bool HX.out.symm,HL2.out⟩
    | true =>
     by_cases p1:q.hop < 1
     ·have HX:Hid (routesOk rs=false):=HFIN.out (by rw [HST.out,HRO.out,hok,decide_eq_false (show ¬ 1≤q.hop by omega)]; rfl);clear hok;go_wp2_with fail
      go_ret;exact ⟨ret_bool HX.out.symm,HL2.out⟩
     ·by_cases p2:1000 < q.hop
      ·have HX:Hid (routesOk rs=false):=HFIN.out (by rw [HST.out,HRO.out,hok,decide_eq_false (show ¬ q.hop≤1000 by omega),Bool.and_false]; rfl);clear hok;go_wp2_with fail
       go_ret;exact ⟨ret_bool HX.out.symm,HL2.out⟩
      ·have HST2:Hid (rightN rs (k+1)=!dupV rs q k):=by unfold Hid; rw [HST.out,HRO.out,hok,decide_eq_true (show 1≤q.hop by omega),decide_eq_true (show q.hop≤1000 by omega)]; rfl
       have hcd:decide ((k:Int) < (rs.length:Int))=true:=by simp; omega
       clear hok HST HRO;go_wp2_with fail
       go_loopw [4] (fun j wi=>∃ m:Nat,m≤k∧j=.int .i64 m∧dupV rs q m=false∧Below w.heap.size w wi) (fun j _=>k-(intOf j).toNat)
       case atStart=>exact ⟨0,Nat.zero_le _,rfl,rfl,HL2.out⟩
       case round =>
        obtain ⟨m,hm,rfl,hdm,hbel⟩:=hrel;have HD:Hid (dupV rs q m=false):=hdm;have HL3:Hid (Below w.heap.size w wr):=hbel;clear hdm hbel;by_cases hmk:m < k
        ·have hml:m < rs.length:=by omega
         have HA3:=HR.out.below hb HL3.out;have d0:=HA3.c0 k hlt;have d1:=HA3.c1 k hlt;rw [← HQ.out] at d0 d1;have f0:=HA3.c0 m hml;have f1:=HA3.c1 m hml;obtain ⟨p,hp⟩ : ∃ p,p=rs[m]:=⟨_,rfl⟩;rw [← hp] at f0 f1;have heq:=eqp_any p.addr q.addr p.bits q.bits;have HDS:Hid (dupV rs q (m+1)=samePfx p q):=by unfold Hid; rw [dupV_step hml,HD.out,hp]; rfl
         have HSM:Hid (samePfx p q=(decide (p.addr.toList=q.addr.toList)&&decide (p.bits=q.bits))):=rfl
         cases hs:(decide (p.addr.toList=q.addr.toList)&&decide (p.bits=q.bits)) with
         | true =>
          rw [hs] at heq;have HX:Hid (routesOk rs=false):=HFIN.out (by rw [HST2.out,dupV_mono (by rw [HDS.out,HSM.out]; exact hs) k (by omega)]; rfl);clear hs hp HA3;go_wp2_with fail
          go_region
          all_goals
           go_wp2_with fail
           go_ret;exact ⟨ret_bool HX.out.symm,HL3.out.drew⟩
         | false =>
          rw [hs] at heq;have HX:Hid (dupV rs q (m+1)=false):=by unfold Hid; rw [HDS.out,HSM.out]; exact hs
          clear hs hp HA3;go_wp2_with fail
          go_region
          all_goals
           go_wp2_with fail
           go_roundw
           case rel=>exact ⟨m+1,by omega,by go_num,HX.out,HL3.out.drew⟩
           case measure=>simp [intOf]; omega
        ·have hmk':m=k:=by omega
         subst hmk';have HX:Hid (rightN rs (m+1)=true):=by unfold Hid; rw [HST2.out,HD.out]; rfl
         go_wp2_with fail
         go_roundw
         case rel=>exact ⟨m+1,by omega,by go_num,HX.out,HL3.out⟩
         case measure=>simp [intOf]; omega
   ·have hkl:k=rs.length:=by omega
    subst hkl;go_wp2_with fail
    go_ret;exact ⟨ret_bool (by rw [HV.out,HK.out]),HL.out⟩
 ·have HV:Hid (routesOk rs=false):=by unfold Hid routesOk; rw [decide_eq_false h100]; rfl
  have h100':(100:Int) < (rs.length:Int):=by omega
  go_enter Tryz.func81,Tryz.ntmps81
  go_wp2_with fail
  go_ret;exact ⟨ret_bool HV.out.symm,Below.refl _ _⟩
end Go.Proofs.YthagnjokdnnmpaaGreat
