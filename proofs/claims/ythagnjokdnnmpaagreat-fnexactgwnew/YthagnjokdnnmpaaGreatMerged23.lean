import Derived.Test.YthagnjokdnnmpaaGreatIOpen
import Derived.Test.YthagnjokdnnmpaaGreatMerged5
import Derived.Test.YthagnjokdnnmpaaGreatMerged14
import Derived.Test.YthagnjokdnnmpaaGreatMerged2
import Derived.Test.YthagnjokdnnmpaaGreatMerged21
import Derived.DeepKeys5
import Derived.Deep.DeepCutAuto
import Derived.Test.YthagnjokdnnmpaaGreatMerged11
import Derived.Test.YthagnjokdnnmpaaGreatMerged10
import Derived.BigQuiet
set_option linter.unusedVariables false
set_option linter.unusedSimpArgs false
set_option maxRecDepth 100000
set_option maxHeartbeats 8000000
namespace Go.Proofs.YthagnjokdnnmpaaGreat
open Go.RowKit Go.PlainAid
theorem implBib_any (pa:Option Addr) (pc:Nat) (p:Pl) (ba bo:Option Addr) (ca cb:Nat) (x:Bb) (w:World) (hpl:p.addrs.length≤1048576) (hpc:p.addrs.length≤pc) (hps:∀ s∈p.addrs,s.size≤1048576) (hbl1:x.binds.length≤1048576) (hbl2:x.sess.length≤1048576) (hgb:∀ q∈x.binds,BdGood q) (hgs:∀ s∈x.sess,SsGood s) (hp:SlIs strL1 1 w pa p.addrs) (hx:BbIs w ba bo x) :
  Calls Tryz.prog 40 #[plC pa pc p,bbC ba bo ca cb x] w fun e w'=>e=.returned (.bool (bibOk p x))∧Below w.heap.size w w':=by
 have HZ0:Hid (Below w.heap.size w ((w.alloc (.cells #[.slice pa p.addrs.length pc,.int .i64 p.low,.int .i64 p.high,.int .i64 p.most,.int .i64 p.filter,.int .i64 p.lv.udp,.int .i64 p.lv.echo,.int .i64 p.lv.opening,.int .i64 p.lv.opn,.int .i64 p.lv.closing] 28)).alloc (.cells #[.slice ba x.binds.length ca,.slice bo x.sess.length cb] 36))):=((Below.refl _ _).alloc (Nat.le_refl _) _).alloc (by simp) _;have HP:HoldsL ((w.alloc (.cells #[.slice pa p.addrs.length pc,.int .i64 p.low,.int .i64 p.high,.int .i64 p.most,.int .i64 p.filter,.int .i64 p.lv.udp,.int .i64 p.lv.echo,.int .i64 p.lv.opening,.int .i64 p.lv.opn,.int .i64 p.lv.closing] 28)).alloc (.cells #[.slice ba x.binds.length ca,.slice bo x.sess.length cb] 36)) w.heap.size [.slice pa p.addrs.length pc,.int .i64 p.low,.int .i64 p.high,.int .i64 p.most,.int .i64 p.filter,.int .i64 p.lv.udp,.int .i64 p.lv.echo,.int .i64 p.lv.opening,.int .i64 p.lv.opn,.int .i64 p.lv.closing]:=(HoldsL.new w [.slice pa p.addrs.length pc,.int .i64 p.low,.int .i64 p.high,.int .i64 p.most,.int .i64 p.filter,.int .i64 p.lv.udp,.int .i64 p.lv.echo,.int .i64 p.lv.opening,.int .i64 p.lv.opn,.int .i64 p.lv.closing] 28).alloc _;have HB:HoldsL ((w.alloc (.cells #[.slice pa p.addrs.length pc,.int .i64 p.low,.int .i64 p.high,.int .i64 p.most,.int .i64 p.filter,.int .i64 p.lv.udp,.int .i64 p.lv.echo,.int .i64 p.lv.opening,.int .i64 p.lv.opn,.int .i64 p.lv.closing] 28)).alloc (.cells #[.slice ba x.binds.length ca,.slice bo x.sess.length cb] 36)) (w.heap.size+1) [.slice ba x.binds.length ca,.slice bo x.sess.length cb]:=by
  have h:=HoldsL.new (w.alloc (.cells #[.slice pa p.addrs.length pc,.int .i64 p.low,.int .i64 p.high,.int .i64 p.most,.int .i64 p.filter,.int .i64 p.lv.udp,.int .i64 p.lv.echo,.int .i64 p.lv.opening,.int .i64 p.lv.opn,.int .i64 p.lv.closing] 28)) [.slice ba x.binds.length ca,.slice bo x.sess.length cb] 36;rw [World.size_alloc] at h; exact h
 have HOP:Hid (∀ W,Below w.heap.size w W→Calls Tryz.prog 89 #[.agg #[.slice pa p.addrs.length pc,.int .i64 p.low,.int .i64 p.high,.int .i64 p.most,.int .i64 p.filter,.int .i64 p.lv.udp,.int .i64 p.lv.echo,.int .i64 p.lv.opening,.int .i64 p.lv.opn,.int .i64 p.lv.closing],.agg #[.slice ba x.binds.length ca,.slice bo x.sess.length cb]] W (OpenRet W pa pc p ba bo ca cb x)):=fun W hW=>open_any pa pc p ba bo ca cb x W hpl hpc hps hbl1 hbl2 hgb hgs (hp.below hW) (hx.below hW)
 have HV:Hid (bookOk p x=bibOk p x):=book_bib p x;clear hp hx hgb hgs hps;unfold plC bbC;go_enter Tryz.func40,Tryz.ntmps40
 go_upto_region 1 with fail
 generalize (w.alloc (.cells #[.slice pa p.addrs.length pc,.int .i64 p.low,.int .i64 p.high,.int .i64 p.most,.int .i64 p.filter,.int .i64 p.lv.udp,.int .i64 p.lv.echo,.int .i64 p.lv.opening,.int .i64 p.lv.opn,.int .i64 p.lv.closing] 28)).alloc (.cells #[.slice ba x.binds.length ca,.slice bo x.sess.length cb] 36)=W0 at *;obtain ⟨k0,k1,k2,k3,k4,k5,k6,k7,k8,k9⟩:=HP.c10;obtain ⟨c0,c1⟩:=HB.c2;clear HP HB;go_wp2_with fail
 refine (HOP.out _ HZ0.out).mono ?_;rintro e w1 ⟨q1,h⟩;have B1:Hid (Below w.heap.size w w1):=HZ0.out.trans (q1.mono HZ0.out.size);clear q1 HZ0 HOP k0 k1 k2 k3 k4 k5 k6 k7 k8 k9 c0 c1;rcases h with ⟨hx,rfl⟩ | ⟨hx,m1,m2,rfl,hm1,hm2,hbk⟩
 ·have HX:Hid (bibOk p x=false):=by unfold Hid; rw [← HV.out]; exact hx
  unfold bkZ;clear hx;go_wp2_with fail
  go_ret;exact ⟨ret_bool HX.out.symm,B1.out.alloc B1.out.size _⟩
 ·have HX:Hid (bibOk p x=true):=by unfold Hid; rw [← HV.out]; exact hx
  unfold bkC;clear hx hbk;go_wp2_with fail
  go_ret;exact ⟨ret_bool HX.out.symm,B1.out.alloc B1.out.size _⟩
def aheadPc (p q:Pc):Bool:=p.more&&decide (endPc p≤8*q.off)
def clashPc (p q:Pc):Bool:=!aheadPc p q&&!aheadPc q p
theorem clash_meet {p q:Pc} (hp:1≤p.data.size) (hq:1≤q.data.size):clashPc p q=meetPc p q:=by
 unfold clashPc aheadPc meetPc endPc;by_cases h1:8*p.off+(p.data.size:Int)≤8*q.off
 ·have h2:¬ (8*q.off+(q.data.size:Int)≤8*p.off):=by omega
  have h3:¬ (8*q.off < 8*p.off+(p.data.size:Int)):=by omega
  cases p.more<;>cases q.more<;>simp [h1,h2,h3]
 ·by_cases h2:8*q.off+(q.data.size:Int)≤8*p.off
  ·have h3:¬ (8*p.off < 8*q.off+(q.data.size:Int)):=by omega
   cases p.more<;>cases q.more<;>simp [h1,h2,h3]
  ·have h3:8*p.off < 8*q.off+(q.data.size:Int):=by omega
   have h4:8*q.off < 8*p.off+(p.data.size:Int):=by omega
   cases p.more<;>cases q.more<;>simp [h1,h2,h3,h4]
theorem onePk_comm (p q:Pc):onePk p q=onePk q p:=by
 unfold onePk;rw [Bool.eq_iff_iff]; simp only [Bool.and_eq_true,decide_eq_true_eq];constructor<;>(rintro ⟨⟨⟨h1,h2⟩,h3⟩,h4⟩; exact ⟨⟨⟨h1.symm,h2.symm⟩,h3.symm⟩,h4.symm⟩)
theorem onePk_eq {p q:Pc} (h:onePk p q=true):p.src=q.src∧p.dst=q.dst∧p.proto=q.proto∧p.id=q.id:=by
 unfold onePk at h; simp only [Bool.and_eq_true,decide_eq_true_eq] at h; exact ⟨h.1.1.1,h.1.1.2,h.1.2,h.2⟩
theorem onePk_of {p q:Pc} (h1:p.src=q.src) (h2:p.dst=q.dst) (h3:p.proto=q.proto) (h4:p.id=q.id):onePk p q=true:=by
 unfold onePk; simp [h1,h2,h3,h4]
theorem onePk_trans {p q r:Pc} (h1:onePk p q=true) (h2:onePk q r=true):onePk p r=true:=by
 obtain ⟨a,b,c,d⟩:=onePk_eq h1;obtain ⟨a',b',c',d'⟩:=onePk_eq h2;exact onePk_of (a.trans a') (b.trans b') (c.trans c') (d.trans d')
theorem onePk_same {p q:Pc} (h:onePk p q=true) (r:Pc):onePk r p=onePk r q:=by
 obtain ⟨a,b,c,d⟩:=onePk_eq h;unfold onePk; rw [a,b,c,d]
def grpPc (xs:List Pc) (p:Pc):List Pc:=xs.filter (fun q=>onePk q p)
theorem grp_same {p q:Pc} (h:onePk p q=true) (xs:List Pc):grpPc xs p=grpPc xs q:=by
 unfold grpPc; congr 1; funext r; exact onePk_same h r
theorem grp_snoc (xs:List Pc) (x p:Pc):grpPc (xs++[x]) p=if onePk x p=true then grpPc xs p++[x] else grpPc xs p:=by
 unfold grpPc;rw [List.filter_append];by_cases h:onePk x p=true
 ·rw [if_pos h]; simp [h]
 ·rw [if_neg h]; simp [h]
theorem grp_len (xs:List Pc) (p:Pc):(grpPc xs p).length≤xs.length:=List.length_filter_le _ _
theorem grp_mem {xs:List Pc} {p q:Pc} (h:q∈grpPc xs p):q∈xs∧onePk q p=true:=by simpa [grpPc] using h
theorem pcOk_in {p:Pc} (h:pieceOk p=true):1≤p.data.size∧p.data.size≤1400∧0≤p.off∧p.off≤8191∧0≤p.since∧p.since≤1000000000:=by
 unfold pieceOk at h;simp only [Bool.and_eq_true,decide_eq_true_eq] at h;have h1:=isIn_parts h.1.1.1.1.1.2;have h2:=isIn_parts h.2;omega
theorem hitN_grp (xs:List Pc) (p:Pc):∀ k,k≤xs.length→hitN xs p k=(grpPc (xs.take k) p).any (fun q=>meetPc p q)
 | 0,_=>by simp [hitN,grpPc]
 | k+1,h=>by
  have ih:=hitN_grp xs p k (by omega);rw [hitN,ih,List.take_succ_eq_append_getElem h,grp_snoc,List.getElem?_eq_getElem h];show (_||hitPc p xs[k])=_;unfold hitPc;rw [onePk_comm p];by_cases h1:onePk xs[k] p=true
  ·rw [if_pos h1,h1]; simp
  ·have h2:onePk xs[k] p=false:=by simpa using h1
   rw [if_neg h1,h2]; simp
theorem any_clash {ys:List Pc} {p:Pc} (hp:1≤p.data.size) (hy:∀ q∈ys,1≤q.data.size):ys.any (fun q=>clashPc p q)=ys.any (fun q=>meetPc p q):=by
 rw [Bool.eq_iff_iff]; simp only [List.any_eq_true];constructor
 ·rintro ⟨q,hq,h⟩; exact ⟨q,hq,by rw [← clash_meet hp (hy q hq)]; exact h⟩
 ·rintro ⟨q,hq,h⟩; exact ⟨q,hq,by rw [clash_meet hp (hy q hq)]; exact h⟩
theorem allN_succ {xs:List Pc} {k:Nat} (h:k < xs.length):allN xs (k+1)=(allN xs k&&(pieceOk xs[k]&&!hitN xs xs[k] k)):=by
 rw [allN,List.getElem?_eq_getElem h]
theorem allN_grp {xs:List Pc} {k:Nat} (h:k < xs.length) (hk:∀ q∈xs.take k,pieceOk q=true) (hp:pieceOk xs[k]=true):allN xs (k+1)=(allN xs k&&!(grpPc (xs.take k) xs[k]).any (fun q=>clashPc xs[k] q)):=by
 rw [allN_succ h,hp,hitN_grp xs _ k (by omega),any_clash (pcOk_in hp).1 (fun q hq=>(pcOk_in (hk q (grp_mem hq).1)).1)];simp
theorem allN_take_ok {xs:List Pc}:∀ k,k≤xs.length→allN xs k=true→∀ q∈xs.take k,pieceOk q=true
 | 0,_,_,q,hq=>by simp at hq
 | k+1,h,ha,q,hq=>by
  rw [allN_succ h,Bool.and_eq_true,Bool.and_eq_true] at ha;rw [List.take_succ_eq_append_getElem h,List.mem_append,List.mem_singleton] at hq;rcases hq with hq | rfl
  ·exact allN_take_ok k (by omega) ha.1 q hq
  ·exact ha.2.1
theorem allN_down {xs:List Pc}:∀ k,k≤xs.length→allN xs k=false→allPc xs=false:=fun k hk h=>by
 unfold allPc;obtain ⟨d,hd⟩ : ∃ d,xs.length=k+d:=⟨xs.length-k,by omega⟩;have:∀ d,k+d≤xs.length→allN xs (k+d)=false:=fun d=>by
  induction d with
  | zero=>intro _; exact h
  | succ d ih =>
   intro hle;rw [show k+(d+1)=(k+d)+1 by omega,allN_succ (by omega),ih (by omega)]; rfl
 rw [hd]; exact this d (by omega)
open Go.Maps (Keyed)
def keyC (q:Pc):Value:=.agg #[.string q.src,.string q.dst,.int .i64 q.proto,.int .i64 q.id]
theorem keyC_eq {p q:Pc}:keyC p=keyC q↔onePk p q=true:=by
 unfold keyC;constructor
 ·intro h;simp at h;exact onePk_of h.1 h.2.1 h.2.2.1 h.2.2.2
 ·intro h;obtain ⟨h1,h2,h3,h4⟩:=onePk_eq h;rw [h1,h2,h3,h4]
def KeyIn (q:Pc):Prop:=q.src.size≤maxLen∧q.dst.size≤maxLen∧In64t q.proto∧In64t q.id
theorem keyIn_ok {q:Pc} (hs:PcSm q) (h:pieceOk q=true):KeyIn q:=by
 unfold pieceOk at h;simp only [Bool.and_eq_true,decide_eq_true_eq] at h;have h1:=isIn_parts h.1.1.1.1.1.1.1.2;have h2:=isIn_parts h.1.1.1.1.1.1.2;obtain ⟨g1,g2,_⟩:=hs;exact ⟨by unfold maxLen; omega,by unfold maxLen; omega,⟨by omega,by omega⟩,⟨by omega,by omega⟩⟩
theorem keyed_pk:Keyed Tryz.prog 199:=Keyed.of_law (deep_law_gate (by kernel_rfl) (of_decide_eq_true (by kernel_rfl)) (of_decide_eq_true (by kernel_rfl)) (by kernel_rfl) (by kernel_rfl))
theorem wf64_of {n:Int} (h:In64t n):(Lit.int .i64 n).wf=true:=by
 simp [Lit.wf]; exact ⟨h.1,h.2⟩
theorem keyOf_pk (q:Pc) (h:KeyIn q):∃ l,keyOf Tryz.prog 199 (keyC q)=some l:=by
 obtain ⟨h1,h2,h3,h4⟩:=h;have k1:Tryz.prog.keyType 199=true:=by kernel_rfl
 have k2:Tryz.prog.cellsOf 199=4:=by kernel_rfl
 have k3:Tryz.prog.cellsOf 9=1:=by kernel_rfl
 have k4:Tryz.prog.cellsOf 2=1:=by kernel_rfl
 have k5:∃ m,Tryz.prog.types.size+1=m+2:=⟨Tryz.prog.types.size-1,by have:1≤Tryz.prog.types.size:=of_decide_eq_true (by kernel_rfl); omega⟩;obtain ⟨m,k5⟩:=k5;have w3:=wf64_of h3;have w4:=wf64_of h4;unfold keyOf;rw [Tryz.underlying199];simp only [k1,Value.formed,keyC,Tryz.underlying199,k2,Value.cells,k5];simp [Program.keyLits,Tryz.underlying199,Tryz.underlying9,Tryz.underlying2,k2,k3,k4,h1,h2,w3,w4]
end Go.Proofs.YthagnjokdnnmpaaGreat
namespace Go.Proofs.YthagnjokdnnmpaaGreat
open Go.RowKit Go.PlainAid
theorem implPairP_any (s d:ByteArray) (w:World) (hs:s.size≤maxLen) (hd:d.size≤maxLen) :
  Calls Tryz.prog 158 #[.string s,.string d] w fun e w'=>e=.returned (.bool (pairOk s d))∧w'=w:=by
 have HA:Hid (∀ W,Calls Tryz.prog 117 #[.string s] W fun e w'=>e=.returned (.bool (addrOk s))∧w'=W):=fun W=>implAddrRight_any s W
 unfold maxLen at hs hd;unfold pairOk;generalize addrOk s=b at *;by_cases h:s.size=d.size
 ·have dh:((s.size:Int)==(d.size:Int))=true:=by simp; omega
  rw [decide_eq_true h];clear h
  cases b;all_goals go_enter Tryz.func158,Tryz.ntmps158
  all_goals go_wp2_with fail
  all_goals refine (HA.out _).mono ?_
  all_goals rintro e w2 ⟨rfl,rfl⟩
  all_goals go_wp2_with fail
  all_goals go_ret
  all_goals exact ⟨rfl,rfl⟩
 ·have dh:((s.size:Int)==(d.size:Int))=false:=by simp; omega
  rw [decide_eq_false h]
  cases b;all_goals go_enter Tryz.func158,Tryz.ntmps158
  all_goals go_wp2_with fail
  all_goals refine (HA.out _).mono ?_
  all_goals rintro e w2 ⟨rfl,rfl⟩
  all_goals go_wp2_with fail
  all_goals go_ret
  all_goals exact ⟨rfl,rfl⟩
theorem implTime_any (n:Int) (w:World) :
  Calls Tryz.prog 43 #[.int .i64 n] w fun e w'=>e=.returned (.bool (isTime n))∧w'=w:=by
 by_cases h1:0≤n
 ·by_cases h2:n≤1000000000
  ·have HV:Hid (isTime n=true):=by unfold Hid isTime isIn; simp [h1,h2]
   go_enter Tryz.func43,Tryz.ntmps43
   go_wp2_with fail
   go_ret;exact ⟨ret_bool (by rw [HV.out]),rfl⟩
  ·have HV:Hid (isTime n=false):=by unfold Hid isTime isIn; simp [h2]
   go_enter Tryz.func43,Tryz.ntmps43
   go_wp2_with fail
   go_ret;exact ⟨ret_bool (by rw [HV.out]),rfl⟩
 ·have HV:Hid (isTime n=false):=by unfold Hid isTime isIn; simp [h1]
  have h1':n < 0:=by omega
  go_enter Tryz.func43,Tryz.ntmps43
  go_wp2_with fail
  go_ret;exact ⟨ret_bool (by rw [HV.out]),rfl⟩
theorem pieceOk_prog (p:Pc):pieceOk p=(pairOk p.src p.dst&&(isIn p.proto 0 255&&(decide (0≤p.id)&&(decide (p.id≤4294967295)&&(decide (1≤p.data.size)&&(pcV p.off p.more p.data 65535&&isTime p.since)))))):=by
 unfold pieceOk pcV;rw [show isIn p.id 0 4294967295=(decide (0≤p.id)&&decide (p.id≤4294967295)) from rfl];ac_rfl
theorem ba_toList_nil {a:ByteArray} (h:¬ 1≤a.size):a.toList=[]:=by
 rw [ByteArray.toList_eq];have:a.data.size=0:=by have:a.data.size=a.size:=rfl; omega
 exact Array.toList_eq_nil_iff.2 (Array.size_eq_zero_iff.1 this)
theorem ba_toList_cons {a:ByteArray} (h:1≤a.size):¬ a.toList=[]:=by
 rw [ByteArray.toList_eq];intro e;have:=Array.toList_eq_nil_iff.1 e;have h2:a.data.size=a.size:=rfl;rw [this] at h2; simp at h2; omega
theorem implPieceRight_any (p:Pc) (w:World) (h1:p.src.size≤1048576) (h2:p.dst.size≤1048576) (h3:p.data.size≤1048576) :
  Calls Tryz.prog 127 #[pcC p] w fun e w'=>e=.returned (.bool (pieceOk p))∧Below w.heap.size w w':=by
 have HB1:Hid (∀ W,Calls Tryz.prog 158 #[.string p.src,.string p.dst] W fun e w'=>e=.returned (.bool (pairOk p.src p.dst))∧w'=W):=fun W=>implPairP_any _ _ W (by unfold maxLen; omega) (by unfold maxLen; omega)
 have HB2:Hid (∀ W,Calls Tryz.prog 159 #[.int .i64 p.proto] W fun e w'=>e=.returned (.bool (isIn p.proto 0 255))∧w'=W):=fun W=>implByte_any _ W
 have HB3:Hid (∀ W,Calls Tryz.prog 160 #[.int .i64 p.off,.bool p.more,.string p.data,.int .i64 65535] W fun e w'=>e=.returned (.bool (pcV p.off p.more p.data 65535))∧w'=W):=fun W=>implPiece_any _ _ _ _ W h3
 have HB5:Hid (∀ W,Calls Tryz.prog 43 #[.int .i64 p.since] W fun e w'=>e=.returned (.bool (isTime p.since))∧w'=W):=fun W=>implTime_any _ W
 have HV:Hid (pieceOk p=(pairOk p.src p.dst&&(isIn p.proto 0 255&&(decide (0≤p.id)&&(decide (p.id≤4294967295)&&(decide (1≤p.data.size)&&(pcV p.off p.more p.data 65535&&isTime p.since))))))):=pieceOk_prog p;generalize pieceOk p=ok at *;generalize pairOk p.src p.dst=a1 at *;generalize isIn p.proto 0 255=a2 at *;generalize pcV p.off p.more p.data 65535=a4 at *;generalize isTime p.since=a5 at *;obtain ⟨src,dst,proto,id,off,more,data,since⟩:=p;unfold pcC;dsimp only at *;have HZ:Hid (Below w.heap.size w (w.alloc (.cells #[.string src,.string dst,.int .i64 proto,.int .i64 id,.int .i64 off,.bool more,.string data,.int .i64 since] 128))):=(Below.refl _ _).alloc (Nat.le_refl _) _;have hun:undef=Value.tuple #[]:=rfl;go_enter Tryz.func127,Tryz.ntmps127
 go_wp2_with fail
 refine (HB1.out _).mono ?_;rintro e w2 ⟨rfl,rfl⟩
 cases a1 with
 | false =>
  go_wp2_with fail
  go_ret;exact ⟨ret_bool (by rw [HV.out]; simp),HZ.out⟩
 | true =>
 go_wp2_with fail
 refine (HB2.out _).mono ?_;rintro e w2 ⟨rfl,rfl⟩
 cases a2 with
 | false =>
  go_wp2_with fail
  go_ret;exact ⟨ret_bool (by rw [HV.out]; simp),HZ.out⟩
 | true =>
 by_cases e1:0≤id
 ·rw [decide_eq_true e1] at HV;by_cases e2:id≤4294967295
  ·rw [decide_eq_true e2] at HV;by_cases e3:1≤data.size
   ·rw [decide_eq_true e3] at HV;have d3:=ba_toList_cons e3;go_wp2_with fail
    refine (HB3.out _).mono ?_;rintro e w2 ⟨rfl,rfl⟩
    cases a4 with
    | false =>
     go_wp2_with fail
     go_ret;exact ⟨ret_bool (by rw [HV.out]; simp [d3]),HZ.out⟩
    | true =>
     go_wp2_with fail
     refine (HB5.out _).mono ?_;rintro e w2 ⟨rfl,rfl⟩;go_wp2_with fail
     go_ret;exact ⟨ret_bool (by rw [HV.out]; simp [d3]),HZ.out⟩
   ·rw [decide_eq_false e3] at HV;have d3:=ba_toList_nil e3;go_wp2_with fail
    go_ret;exact ⟨ret_bool (by rw [HV.out]; simp),HZ.out⟩
  ·rw [decide_eq_false e2] at HV;have e2':decide (id≤4294967295)=false:=decide_eq_false e2;go_wp2_with fail
   go_ret;exact ⟨ret_bool (by rw [HV.out]; simp),HZ.out⟩
 ·rw [decide_eq_false e1] at HV;have e1':decide (0≤id)=false:=decide_eq_false e1;go_wp2_with fail
  go_ret;exact ⟨ret_bool (by rw [HV.out]; simp),HZ.out⟩
def OkOff (q:Pc):Prop:=0≤q.off∧q.off≤8191∧q.data.size≤1048576
theorem okOff_ok {q:Pc} (h:pieceOk q=true):OkOff q:=by
 have:=pcOk_in h; exact ⟨by omega,by omega,by omega⟩
theorem implAhead_any (p q:Pc) (w:World) (hp:OkOff p) (hq:OkOff q) :
  Calls Tryz.prog 173 #[pcC p,pcC q] w fun e w'=>e=.returned (.bool (aheadPc p q))∧Below w.heap.size w w':=by
 obtain ⟨p1,p2,p3⟩:=hp;obtain ⟨q1,q2,q3⟩:=hq;have HV:Hid (aheadPc p q=(p.more&&decide (8*p.off+p.data.size≤8*q.off))):=rfl;generalize aheadPc p q=ans at *;obtain ⟨src,dst,proto,id,off,more,data,since⟩:=p;obtain ⟨src',dst',proto',id',off',more',data',since'⟩:=q;unfold pcC;dsimp only at *;have HZ:Hid (∀ o1 o2,Below w.heap.size w ((w.alloc o1).alloc o2)):=fun o1 o2=>two_pieces w
 have hun:undef=Value.tuple #[]:=rfl
 cases more with
 | false =>
  go_enter Tryz.func173,Tryz.ntmps173
  go_wp2_with fail
  go_ret;exact ⟨ret_bool (by rw [HV.out]; rfl),HZ.out _ _⟩
 | true =>
  go_enter Tryz.func173,Tryz.ntmps173
  go_wp2_with fail
  go_ret;exact ⟨ret_bool (by rw [HV.out]; simp),HZ.out _ _⟩
theorem cells8 {w:World} {B:Nat} {p:Pc} (h:HoldsL w B (pcL p)):w.cell? ⟨B,0,none⟩=some (.string p.src)∧w.cell? ⟨B,1,none⟩=some (.string p.dst)∧w.cell? ⟨B,2,none⟩=some (.int .i64 p.proto)∧w.cell? ⟨B,3,none⟩=some (.int .i64 p.id)∧w.cell? ⟨B,4,none⟩=some (.int .i64 p.off)∧w.cell? ⟨B,5,none⟩=some (.bool p.more)∧w.cell? ⟨B,6,none⟩=some (.string p.data)∧w.cell? ⟨B,7,none⟩=some (.int .i64 p.since) :=
 ⟨h.cell rfl,h.cell rfl,h.cell rfl,h.cell rfl,h.cell rfl,h.cell rfl,h.cell rfl,h.cell rfl⟩
theorem implClash_any (p q:Pc) (B:Nat) (w:World) (hp:OkOff p) (hq:OkOff q) (hB:HoldsL w B (pcL p)) :
  Calls Tryz.prog 172 #[pcC q,.pointer (some ⟨B,0,none⟩)] w fun e w'=>e=.returned (.bool (clashPc p q))∧Below w.heap.size w w':=by
 have HA:Hid (∀ W,Calls Tryz.prog 173 #[pcC p,pcC q] W fun e w'=>e=.returned (.bool (aheadPc p q))∧Below W.heap.size W w'):=fun W=>implAhead_any p q W hp hq
 have HC:Hid (∀ W,Calls Tryz.prog 173 #[pcC q,pcC p] W fun e w'=>e=.returned (.bool (aheadPc q p))∧Below W.heap.size W w'):=fun W=>implAhead_any q p W hq hp
 have HV:Hid (clashPc p q=(!aheadPc p q&&!aheadPc q p)):=rfl;have hBl:=hB.lt (by simp [pcL]);have HB:Hid (HoldsL w B (pcL p)):=hB;obtain ⟨k0,k1,k2,k3,k4,k5,k6,k7⟩:=cells8 hB;have HN:Hid (HoldsL (w.alloc (.cells (pcL q).toArray 128)) w.heap.size (pcL q)):=HoldsL.new w (pcL q) _;have HBN:Hid (HoldsL (w.alloc (.cells (pcL q).toArray 128)) B (pcL p)):=hB.alloc _;have HZ:Hid (Below w.heap.size w (w.alloc (.cells (pcL q).toArray 128))):=(Below.refl _ _).alloc (Nat.le_refl _) _;rw [show (pcL q).toArray=#[.string q.src,.string q.dst,.int .i64 q.proto,.int .i64 q.id,.int .i64 q.off,.bool q.more,.string q.data,.int .i64 q.since] from rfl] at HN HBN HZ;clear hB;generalize clashPc p q=ans at *;generalize aheadPc p q=a1 at *;generalize aheadPc q p=a2 at *;unfold pcC at *;have hun:undef=Value.tuple #[]:=rfl;go_enter Tryz.func172,Tryz.ntmps172
 go_wp2_with fail
 refine (HA.out _).mono ?_;rintro e w1 ⟨rfl,b1⟩;have B1:Hid (Below w.heap.size w w1):=HZ.out.trans (b1.mono (by simp));have N1:=HN.out.kept (by simp [pcL]) b1;have P1:=HBN.out.kept (by simp [pcL]) b1;clear k0 k1 k2 k3 k4 k5 k6 k7 HN HBN HZ b1
 cases a1 with
 | true =>
  clear N1 P1;go_wp2_with fail
  go_ret;exact ⟨ret_bool (by rw [HV.out]; rfl),B1.out⟩
 | false =>
  obtain ⟨k0,k1,k2,k3,k4,k5,k6,k7⟩:=cells8 P1;obtain ⟨n0,n1,n2,n3,n4,n5,n6,n7⟩:=cells8 N1;clear N1 P1;go_wp2_with fail
  refine (HC.out _).mono ?_;rintro e w2 ⟨rfl,b2⟩;go_wp2_with fail
  go_ret;exact ⟨ret_bool (by rw [HV.out]; simp),B1.out.trans (b2.mono B1.out.size)⟩
theorem index_any (p:Pc) (ys:List Pc) (a:Option Addr) (cap B:Nat) (w:World) (hl:ys.length≤1048576) (hr:SlIs pcL 8 w a ys) (hp:OkOff p) (hy:∀ q∈ys,OkOff q) (hB:HoldsL w B (pcL p)) :
  Calls Tryz.prog 171 #[.slice a ys.length cap,.func (.func 172) #[] #[.pointer (some ⟨B,0,none⟩)]] w fun e w'=>∃ j:Int,e=.returned (.int .i64 j)∧-1≤j∧j≤1048576∧Hid (decide (0≤j)=ys.any (fun q=>clashPc p q))∧Below w.heap.size w w':=by
 have HR:Hid (SlIs pcL 8 w a ys):=hr;have HC:Hid (∀ W,Below w.heap.size w W→∀ q,q∈ys→Calls Tryz.prog 172 #[pcC q,.pointer (some ⟨B,0,none⟩)] W fun e w'=>e=.returned (.bool (clashPc p q))∧Below W.heap.size W w'):=fun W hW q hq=>implClash_any p q B W hp (hy q hq) (hB.kept (by simp [pcL]) hW)
 clear hr hp hy hB;go_enter Tryz.func171,Tryz.ntmps171
 go_wp2_with fail
 go_loopw [8] (fun iv wr=>∃ i:Nat,i≤ys.length∧iv=.int .i64 i∧(ys.take i).any (fun q=>clashPc p q)=false∧Below w.heap.size w wr) (fun iv _=>ys.length-(intOf iv).toNat)
 case atStart=>exact ⟨0,Nat.zero_le _,rfl,by simp,Below.refl _ _⟩
 case round =>
  obtain ⟨i,hil,rfl,hn,hb⟩:=hrel;have HN:Hid ((ys.take i).any (fun q=>clashPc p q)=false):=hn;have HW:Hid (Below w.heap.size w wr):=hb;clear hn hb;by_cases hlt:i < ys.length
  ·obtain ⟨b,off,rfl,hb,hat⟩:=HR.out.at hlt;have hA:=(hat.below hb HW.out) i hlt;have HT:Hid ((ys.take (i+1)).any (fun q=>clashPc p q)=clashPc p ys[i]):=by
    unfold Hid;rw [List.take_succ_eq_append_getElem hlt,List.any_append,HN.out]; simp
   have HQ:Hid (ys[i]∈ys):=List.getElem_mem hlt;have HX:Hid (clashPc p ys[i]=true→ys.any (fun q=>clashPc p q)=true):=fun h=>List.any_eq_true.2 ⟨_,List.getElem_mem hlt,h⟩
   have HC2:Hid _:=HC.out wr HW.out ys[i] HQ.out;generalize ys[i]=q at *;have c0:wr.cell? ⟨b,off+i*8,none⟩=some (.string q.src):=hA 0 _ rfl;have c1:wr.cell? ⟨b,off+i*8+1,none⟩=some (.string q.dst):=hA 1 _ rfl;have c2:wr.cell? ⟨b,off+i*8+2,none⟩=some (.int .i64 q.proto):=hA 2 _ rfl;have c3:wr.cell? ⟨b,off+i*8+3,none⟩=some (.int .i64 q.id):=hA 3 _ rfl;have c4:wr.cell? ⟨b,off+i*8+4,none⟩=some (.int .i64 q.off):=hA 4 _ rfl;have c5:wr.cell? ⟨b,off+i*8+5,none⟩=some (.bool q.more):=hA 5 _ rfl;have c6:wr.cell? ⟨b,off+i*8+6,none⟩=some (.string q.data):=hA 6 _ rfl;have c7:wr.cell? ⟨b,off+i*8+7,none⟩=some (.int .i64 q.since):=hA 7 _ rfl;clear hA hat HQ;generalize clashPc p q=cl at *;unfold pcC at HC2;go_wp2_with fail
   refine Calls.mono HC2.out ?_;rintro e w1 ⟨rfl,b1⟩;have HW1:Hid (Below w.heap.size w w1):=HW.out.trans (b1.mono HW.out.size);clear b1 c0 c1 c2 c3 c4 c5 c6 c7
   cases cl with
   | true =>
    have HF:Hid (decide (0≤(i:Int))=ys.any (fun q=>clashPc p q)):=by unfold Hid; rw [HX.out rfl]; simp
    go_wp2_with fail
    go_ret;exact ⟨i,rfl,by omega,by omega,HF,HW1.out⟩
   | false =>
    go_wp2_with fail
    go_roundw
    case rel=>exact ⟨i+1,by omega,by go_num,HT.out,HW1.out⟩
    case measure=>simp [intOf]; omega
  ·have hie:i=ys.length:=by omega
   have HF:Hid (decide (0≤(-1:Int))=ys.any (fun q=>clashPc p q)):=by
    have:=HN.out;rw [hie,List.take_of_length_le (Nat.le_refl _)] at this;unfold Hid; rw [this]; rfl
   go_wp2_with fail
   go_ret;exact ⟨-1,rfl,by omega,by omega,HF,HW.out⟩
theorem contains_any (p:Pc) (ys:List Pc) (a:Option Addr) (cap B:Nat) (w:World) (hl:ys.length≤1048576) (hr:SlIs pcL 8 w a ys) (hp:OkOff p) (hy:∀ q∈ys,OkOff q) (hB:HoldsL w B (pcL p)) :
  Calls Tryz.prog 162 #[.slice a ys.length cap,.func (.func 172) #[] #[.pointer (some ⟨B,0,none⟩)]] w fun e w'=>e=.returned (.bool (ys.any (fun q=>clashPc p q)))∧Below w.heap.size w w':=by
 have HI:Hid _:=index_any p ys a cap B w hl hr hp hy hB;generalize ys.any (fun q=>clashPc p q)=ans at *;clear hr hp hy hB;go_enter Tryz.func162,Tryz.ntmps162
 go_wp2_with fail
 refine Calls.mono HI.out ?_;rintro e w1 ⟨j,rfl,h1,h2,h3,b1⟩;have B1:Hid _:=b1;clear b1;go_wp2_with fail
 go_ret;exact ⟨ret_bool h3.out,B1.out⟩
theorem implWith_any (p:Pc) (w:World) :
  Calls Tryz.prog 163 #[pcC p] w fun e w'=>∃ B,e=.returned (.func (.func 172) #[] #[.pointer (some ⟨B,0,none⟩)])∧HoldsL w' B (pcL p)∧Below w.heap.size w w':=by
 have HN:Hid (HoldsL (w.alloc (.cells (pcL p).toArray 128)) w.heap.size (pcL p)):=HoldsL.new w (pcL p) _;have HZ:Hid (Below w.heap.size w (w.alloc (.cells (pcL p).toArray 128))):=(Below.refl _ _).alloc (Nat.le_refl _) _;rw [show (pcL p).toArray=#[.string p.src,.string p.dst,.int .i64 p.proto,.int .i64 p.id,.int .i64 p.off,.bool p.more,.string p.data,.int .i64 p.since] from rfl] at HN HZ;unfold pcC;go_enter Tryz.func163,Tryz.ntmps163
 go_wp2_with fail
 go_ret;exact ⟨w.heap.size,rfl,HN.out,HZ.out⟩
theorem implKey_any (p:Pc) (w:World) :
  Calls Tryz.prog 161 #[pcC p] w fun e w'=>e=.returned (keyC p)∧Below w.heap.size w w':=by
 unfold pcC keyC;go_enter Tryz.func161,Tryz.ntmps161
 go_wp2_with fail
 refine bodyPost_ret (v:=.agg #[.string p.src,.string p.dst,.int .i64 p.proto,.int .i64 p.id]) (by simp [results,Tryz.results161,go_sem]) rfl ⟨rfl,?_⟩;exact ((Below.refl _ _).alloc (Nat.le_refl _) _).alloc (by simp) _
end Go.Proofs.YthagnjokdnnmpaaGreat
