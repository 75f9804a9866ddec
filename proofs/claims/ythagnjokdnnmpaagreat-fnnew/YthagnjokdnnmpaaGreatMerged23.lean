import Derived.Test.YthagnjokdnnmpaaGreatIOpen
import Derived.Test.YthagnjokdnnmpaaGreatMerged14
import Derived.Test.YthagnjokdnnmpaaGreatSAll
import Derived.Test.YthagnjokdnnmpaaGreatMerged10
import Derived.Deep.DeepCutAuto
import Derived.Great.BuildSlice
import Derived.Deep.AppendLies
import Derived.Test.YthagnjokdnnmpaaGreatMerged21
import Derived.DeepKeys5
set_option linter.unusedVariables false
set_option linter.unusedSimpArgs false
set_option maxRecDepth 100000
set_option maxHeartbeats 8000000
namespace Go.Proofs.YthagnjokdnnmpaaGreat
open Go.RowKit Go.PlainAid
theorem implBib_any (pa:Option Addr) (pc:Nat) (p:Pl) (ba bo:Option Addr) (ca cb:Nat) (x:Bb) (w:World) (hpl:p.addrs.length≤1048576) (hpc:p.addrs.length≤pc) (hps:∀ s∈p.addrs,s.size≤1048576) (hbl1:x.binds.length≤1048576) (hbl2:x.sess.length≤1048576) (hgb:∀ q∈x.binds,BdGood q) (hgs:∀ s∈x.sess,SsGood s) (hp:SlIs strL1 1 w pa p.addrs) (hx:BbIs w ba bo x) :
  Calls Tryz.prog 40 #[plC pa pc p,bbC ba bo ca cb x] w fun e w'=>e=.returned (.bool (bibOk p x))∧Below w.heap.size w w':=by
 have HZ0:Hid (Below w.heap.size w ((w.alloc (.cells #[.slice pa p.addrs.length pc,.int .i64 p.low,.int .i64 p.high,.int .i64 p.most,.int .i64 p.filter,.int .i64 p.lv.udp,.int .i64 p.lv.echo,.int .i64 p.lv.opening,.int .i64 p.lv.opn,.int .i64 p.lv.closing] 28)).alloc (.cells #[.slice ba x.binds.length ca,.slice bo x.sess.length cb] 36))):=((Below.refl _ _).alloc (Nat.le_refl _) _).alloc (by simp) _;have HP:HoldsL ((w.alloc (.cells #[.slice pa p.addrs.length pc,.int .i64 p.low,.int .i64 p.high,.int .i64 p.most,.int .i64 p.filter,.int .i64 p.lv.udp,.int .i64 p.lv.echo,.int .i64 p.lv.opening,.int .i64 p.lv.opn,.int .i64 p.lv.closing] 28)).alloc (.cells #[.slice ba x.binds.length ca,.slice bo x.sess.length cb] 36)) w.heap.size [.slice pa p.addrs.length pc,.int .i64 p.low,.int .i64 p.high,.int .i64 p.most,.int .i64 p.filter,.int .i64 p.lv.udp,.int .i64 p.lv.echo,.int .i64 p.lv.opening,.int .i64 p.lv.opn,.int .i64 p.lv.closing]:=(HoldsL.new w [.slice pa p.addrs.length pc,.int .i64 p.low,.int .i64 p.high,.int .i64 p.most,.int .i64 p.filter,.int .i64 p.lv.udp,.int .i64 p.lv.echo,.int .i64 p.lv.opening,.int .i64 p.lv.opn,.int .i64 p.lv.closing] 28).alloc _;have HB:HoldsL ((w.alloc (.cells #[.slice pa p.addrs.length pc,.int .i64 p.low,.int .i64 p.high,.int .i64 p.most,.int .i64 p.filter,.int .i64 p.lv.udp,.int .i64 p.lv.echo,.int .i64 p.lv.opening,.int .i64 p.lv.opn,.int .i64 p.lv.closing] 28)).alloc (.cells #[.slice ba x.binds.length ca,.slice bo x.sess.length cb] 36)) (w.heap.size+1) [.slice ba x.binds.length ca,.slice bo x.sess.length cb]:=by
  have h:=HoldsL.new (w.alloc (.cells #[.slice pa p.addrs.length pc,.int .i64 p.low,.int .i64 p.high,.int .i64 p.most,.int .i64 p.filter,.int .i64 p.lv.udp,.int .i64 p.lv.echo,.int .i64 p.lv.opening,.int .i64 p.lv.opn,.int .i64 p.lv.closing] 28)) [.slice ba x.binds.length ca,.slice bo x.sess.length cb] 36;rw [World.size_alloc] at h; exact h
 have HOP:Hid (∀ W,Below w.heap.size w W→Calls Tryz.prog 89 #[.agg #[.slice pa p.addrs.length pc,.int .i64 p.low,.int .i64 p.high,.int .i64 p.most,.int .i64 p.filter,.int .i64 p.lv.udp,.int .i64 p.lv.echo,.int .i64 p.lv.opening,.int .i64 p.lv.opn,.int .i64 p.lv.closing],.agg #[.slice ba x.binds.length ca,.slice bo x.sess.length cb]] W (OpenRet W pa pc p ba bo ca cb x)):=fun W hW=>open_any pa pc p ba bo ca cb x W hpl hpc hps hbl1 hbl2 hgb hgs (hp.below hW) (hx.below hW)
 have HV:Hid (bookOk p x=bibOk p x):=book_bib p x;clear hp hx hgb hgs hps;unfold plC bbC;go_enter Tryz.func40,Tryz.ntmps40
 go_upto_region 1 with fail
 generalize (w.alloc (.cells #[.slice pa p.addrs.length pc,.int .i64 p.low,.int .i64 p.high,.int .i64 p.most,.int .i64 p.filter,.int .i64 p.lv.udp,.int .i64 p.lv.echo,.int .i64 p.lv.opening,.int .i64 p.lv.opn,.int .i64 p.lv.closing] 28)).alloc (.cells #[.slice ba x.binds.length ca,.slice bo x.sess.length cb] 36)=W0 at *;obtain ⟨k0,k1,k2,k3,k4,k5,k6,k7,k8,k9⟩:=HP.c10;obtain ⟨c0,c1⟩:=HB.c2;clear HP HB;go_wp2_with fail
 refine (HOP.out _ HZ0.out).mono ?_;rintro e w1 ⟨q1,h⟩;have B1:Hid (Below w.heap.size w w1):=HZ0.out.trans (q1.mono HZ0.out.size);clear q1 HZ0 HOP k0 k1 k2 k3 k4 k5 k6 k7 k8 k9 c0 c1;rcases h with ⟨hx,rfl⟩ | ⟨hx,m1,m2,rfl,hm1,hm2,hbk⟩
 ·have HX:Hid (bibOk p x=false):=by unfold Hid; rw [← HV.out]; exact hx
  unfold bkZ;clear hx;go_wp2_with fail
  go_ret;exact ⟨ret_bool HX.out.symm,B1.out.alloc B1.out.size _⟩
 ·have HX:Hid (bibOk p x=true):=by unfold Hid; rw [← HV.out]; exact hx
  unfold bkC;clear hx hbk;go_wp2_with fail
  go_ret;exact ⟨ret_bool HX.out.symm,B1.out.alloc B1.out.size _⟩
def aheadPc (p q:Pc):Bool:=p.more&&decide (endPc p≤8*q.off)
def clashPc (p q:Pc):Bool:=!aheadPc p q&&!aheadPc q p
theorem clash_meet {p q:Pc} (hp:1≤p.data.size) (hq:1≤q.data.size):clashPc p q=meetPc p q:=by
 unfold clashPc aheadPc meetPc endPc;by_cases h1:8*p.off+(p.data.size:Int)≤8*q.off
 ·have h2:¬ (8*q.off+(q.data.size:Int)≤8*p.off):=by omega
  have h3:¬ (8*q.off < 8*p.off+(p.data.size:Int)):=by omega
  cases p.more<;>cases q.more<;>simp [h1,h2,h3]
 ·by_cases h2:8*q.off+(q.data.size:Int)≤8*p.off
  ·have h3:¬ (8*p.off < 8*q.off+(q.data.size:Int)):=by omega
   cases p.more<;>cases q.more<;>simp [h1,h2,h3]
  ·have h3:8*p.off < 8*q.off+(q.data.size:Int):=by omega
   have h4:8*q.off < 8*p.off+(p.data.size:Int):=by omega
   cases p.more<;>cases q.more<;>simp [h1,h2,h3,h4]
theorem onePk_comm (p q:Pc):onePk p q=onePk q p:=by
 unfold onePk;rw [Bool.eq_iff_iff]; simp only [Bool.and_eq_true,decide_eq_true_eq];constructor<;>(rintro ⟨⟨⟨h1,h2⟩,h3⟩,h4⟩; exact ⟨⟨⟨h1.symm,h2.symm⟩,h3.symm⟩,h4.symm⟩)
theorem onePk_eq {p q:Pc} (h:onePk p q=true):p.src=q.src∧p.dst=q.dst∧p.proto=q.proto∧p.id=q.id:=by
 unfold onePk at h; simp only [Bool.and_eq_true,decide_eq_true_eq] at h; exact ⟨h.1.1.1,h.1.1.2,h.1.2,h.2⟩
theorem onePk_of {p q:Pc} (h1:p.src=q.src) (h2:p.dst=q.dst) (h3:p.proto=q.proto) (h4:p.id=q.id):onePk p q=true:=by
 unfold onePk; simp [h1,h2,h3,h4]
theorem onePk_trans {p q r:Pc} (h1:onePk p q=true) (h2:onePk q r=true):onePk p r=true:=by
 obtain ⟨a,b,c,d⟩:=onePk_eq h1;obtain ⟨a',b',c',d'⟩:=onePk_eq h2;exact onePk_of (a.trans a') (b.trans b') (c.trans c') (d.trans d')
theorem onePk_same {p q:Pc} (h:onePk p q=true) (r:Pc):onePk r p=onePk r q:=by
 obtain ⟨a,b,c,d⟩:=onePk_eq h;unfold onePk; rw [a,b,c,d]
def grpPc (xs:List Pc) (p:Pc):List Pc:=xs.filter (fun q=>onePk q p)
theorem grp_same {p q:Pc} (h:onePk p q=true) (xs:List Pc):grpPc xs p=grpPc xs q:=by
 unfold grpPc; congr 1; funext r; exact onePk_same h r
theorem grp_snoc (xs:List Pc) (x p:Pc):grpPc (xs++[x]) p=if onePk x p=true then grpPc xs p++[x] else grpPc xs p:=by
 unfold grpPc;rw [List.filter_append];by_cases h:onePk x p=true
 ·rw [if_pos h]; simp [h]
 ·rw [if_neg h]; simp [h]
theorem grp_len (xs:List Pc) (p:Pc):(grpPc xs p).length≤xs.length:=List.length_filter_le _ _
theorem grp_mem {xs:List Pc} {p q:Pc} (h:q∈grpPc xs p):q∈xs∧onePk q p=true:=by simpa [grpPc] using h
theorem pcOk_in {p:Pc} (h:pieceOk p=true):1≤p.data.size∧p.data.size≤1400∧0≤p.off∧p.off≤8191∧0≤p.since∧p.since≤1000000000:=by
 unfold pieceOk at h;simp only [Bool.and_eq_true,decide_eq_true_eq] at h;have h1:=isIn_parts h.1.1.1.1.1.2;have h2:=isIn_parts h.2;omega
theorem hitN_grp (xs:List Pc) (p:Pc):∀ k,k≤xs.length→hitN xs p k=(grpPc (xs.take k) p).any (fun q=>meetPc p q)
 | 0,_=>by simp [hitN,grpPc]
 | k+1,h=>by
  have ih:=hitN_grp xs p k (by omega);rw [hitN,ih,List.take_succ_eq_append_getElem h,grp_snoc,List.getElem?_eq_getElem h];show (_||hitPc p xs[k])=_;unfold hitPc;rw [onePk_comm p];by_cases h1:onePk xs[k] p=true
  ·rw [if_pos h1,h1]; simp
  ·have h2:onePk xs[k] p=false:=by simpa using h1
   rw [if_neg h1,h2]; simp
theorem any_clash {ys:List Pc} {p:Pc} (hp:1≤p.data.size) (hy:∀ q∈ys,1≤q.data.size):ys.any (fun q=>clashPc p q)=ys.any (fun q=>meetPc p q):=by
 rw [Bool.eq_iff_iff]; simp only [List.any_eq_true];constructor
 ·rintro ⟨q,hq,h⟩; exact ⟨q,hq,by rw [← clash_meet hp (hy q hq)]; exact h⟩
 ·rintro ⟨q,hq,h⟩; exact ⟨q,hq,by rw [clash_meet hp (hy q hq)]; exact h⟩
theorem allN_succ {xs:List Pc} {k:Nat} (h:k < xs.length):allN xs (k+1)=(allN xs k&&(pieceOk xs[k]&&!hitN xs xs[k] k)):=by
 rw [allN,List.getElem?_eq_getElem h]
theorem allN_grp {xs:List Pc} {k:Nat} (h:k < xs.length) (hk:∀ q∈xs.take k,pieceOk q=true) (hp:pieceOk xs[k]=true):allN xs (k+1)=(allN xs k&&!(grpPc (xs.take k) xs[k]).any (fun q=>clashPc xs[k] q)):=by
 rw [allN_succ h,hp,hitN_grp xs _ k (by omega),any_clash (pcOk_in hp).1 (fun q hq=>(pcOk_in (hk q (grp_mem hq).1)).1)];simp
theorem allN_take_ok {xs:List Pc}:∀ k,k≤xs.length→allN xs k=true→∀ q∈xs.take k,pieceOk q=true
 | 0,_,_,q,hq=>by simp at hq
 | k+1,h,ha,q,hq=>by
  rw [allN_succ h,Bool.and_eq_true,Bool.and_eq_true] at ha;rw [List.take_succ_eq_append_getElem h,List.mem_append,List.mem_singleton] at hq;rcases hq with hq | rfl
  ·exact allN_take_ok k (by omega) ha.1 q hq
  ·exact ha.2.1
theorem allN_down {xs:List Pc}:∀ k,k≤xs.length→allN xs k=false→allPc xs=false:=fun k hk h=>by
 unfold allPc;obtain ⟨d,hd⟩ : ∃ d,xs.length=k+d:=⟨xs.length-k,by omega⟩;have:∀ d,k+d≤xs.length→allN xs (k+d)=false:=fun d=>by
  induction d with
  | zero=>intro _; exact h
  | succ d ih =>
   intro hle;rw [show k+(d+1)=(k+d)+1 by omega,allN_succ (by omega),ih (by omega)]; rfl
 rw [hd]; exact this d (by omega)
theorem specPiecesRight_any (xs:List Pc) (a:Option Addr) (cap:Nat) (w:World) (hin:PcsIn xs) (hr:SlIs pcL 8 w a xs) :
  Calls Tryz.prog 84 #[.slice a xs.length cap] w fun e w'=>e=.returned (.bool (piecesOk xs))∧Below w.heap.size w w':=by
 have HC:Hid (∀ W,Below w.heap.size w W→Calls Tryz.prog 116 #[.slice a xs.length cap] W fun e w'=>e=.returned (.bool (allPc xs))∧Below W.heap.size W w'):=fun W hW=>spAll_any xs a cap W hin (hr.below hW)
 have hlen:=hin.1;unfold piecesOk;generalize allPc xs=b at *;clear hin hr;have hun:undef=Value.tuple #[]:=rfl;by_cases h:xs.length≤40
 ·rw [decide_eq_true h];go_enter Tryz.func84,Tryz.ntmps84
  go_wp2_with fail
  refine (HC.out _ (Below.refl _ _)).mono ?_;rintro e w1 ⟨rfl,q1⟩;go_wp2_with fail
  go_ret;exact ⟨rfl,q1⟩
 ·rw [decide_eq_false h];go_enter Tryz.func84,Tryz.ntmps84
  go_wp2_with fail
  go_ret;exact ⟨rfl,Below.refl _ _⟩
theorem Tryz.infoPt:(Tryz.prog.info? 128).map (fun i=>(i.zero,i.size,i.bytes))=some (some (.agg #[.string ⟨#[]⟩,.string ⟨#[]⟩,.int .i64 0,.int .i64 0,.int .i64 0,.bool false,.string ⟨#[]⟩,.int .i64 0]),8,88):=by kernel_rfl
theorem news8 (w:World) (q:Pc) (t:TypeId):∀ j u,(pcL q)[j]?=some u→(w.alloc (.cells #[.string q.src,.string q.dst,.int .i64 q.proto,.int .i64 q.id,.int .i64 q.off,.bool q.more,.string q.data,.int .i64 q.since] t)).cell? ((⟨w.heap.size,0,none⟩ : Addr).add j)=some u:=World.news_of_block (heap_alloc_new w _)
theorem pcL_one (q:Pc):∀ u∈pcL q,u.oneCell'=true:=fun u hu=>by simp [pcL] at hu; rcases hu with rfl | rfl | rfl | rfl | rfl | rfl | rfl | rfl<;>rfl
open Go.Maps (Keyed)
def keyC (q:Pc):Value:=.agg #[.string q.src,.string q.dst,.int .i64 q.proto,.int .i64 q.id]
theorem keyC_eq {p q:Pc}:keyC p=keyC q↔onePk p q=true:=by
 unfold keyC;constructor
 ·intro h;simp at h;exact onePk_of h.1 h.2.1 h.2.2.1 h.2.2.2
 ·intro h;obtain ⟨h1,h2,h3,h4⟩:=onePk_eq h;rw [h1,h2,h3,h4]
def KeyIn (q:Pc):Prop:=q.src.size≤maxLen∧q.dst.size≤maxLen∧In64t q.proto∧In64t q.id
theorem keyIn_ok {q:Pc} (hs:PcSm q) (h:pieceOk q=true):KeyIn q:=by
 unfold pieceOk at h;simp only [Bool.and_eq_true,decide_eq_true_eq] at h;have h1:=isIn_parts h.1.1.1.1.1.1.1.2;have h2:=isIn_parts h.1.1.1.1.1.1.2;obtain ⟨g1,g2,_⟩:=hs;exact ⟨by unfold maxLen; omega,by unfold maxLen; omega,⟨by omega,by omega⟩,⟨by omega,by omega⟩⟩
theorem keyed_pk:Keyed Tryz.prog 199:=Keyed.of_law (deep_law_gate (by kernel_rfl) (of_decide_eq_true (by kernel_rfl)) (of_decide_eq_true (by kernel_rfl)) (by kernel_rfl) (by kernel_rfl))
theorem wf64_of {n:Int} (h:In64t n):(Lit.int .i64 n).wf=true:=by
 simp [Lit.wf]; exact ⟨h.1,h.2⟩
theorem keyOf_pk (q:Pc) (h:KeyIn q):∃ l,keyOf Tryz.prog 199 (keyC q)=some l:=by
 obtain ⟨h1,h2,h3,h4⟩:=h;have k1:Tryz.prog.keyType 199=true:=by kernel_rfl
 have k2:Tryz.prog.cellsOf 199=4:=by kernel_rfl
 have k3:Tryz.prog.cellsOf 9=1:=by kernel_rfl
 have k4:Tryz.prog.cellsOf 2=1:=by kernel_rfl
 have k5:∃ m,Tryz.prog.types.size+1=m+2:=⟨Tryz.prog.types.size-1,by have:1≤Tryz.prog.types.size:=of_decide_eq_true (by kernel_rfl); omega⟩;obtain ⟨m,k5⟩:=k5;have w3:=wf64_of h3;have w4:=wf64_of h4;unfold keyOf;rw [Tryz.underlying199];simp only [k1,Value.formed,keyC,Tryz.underlying199,k2,Value.cells,k5];simp [Program.keyLits,Tryz.underlying199,Tryz.underlying9,Tryz.underlying2,k2,k3,k4,h1,h2,w3,w4]
end Go.Proofs.YthagnjokdnnmpaaGreat
