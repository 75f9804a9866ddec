import Derived.Lib.QuietBelow
import Derived.Test.YtdkepkaflielhaaGreatDoorITouch9
set_option linter.unusedVariables false
set_option linter.unusedSimpArgs false
set_option maxRecDepth 100000
set_option maxHeartbeats 8000000
namespace Go.Proofs.YtdkepkaflielhaaGreatDoor
open Go.RowKit Go.PlainAid
def maskOf (p:Nat→Bool):Nat→Nat
 | 0=>0
 | n+1=>maskOf p n+if p n then 2 ^ n else 0
def cntOf (p:Nat→Bool):Nat→Nat
 | 0=>0
 | n+1=>cntOf p n+if p n then 1 else 0
def cntMask (m:Nat):Nat→Nat
 | 0=>0
 | b+1=>cntMask m b+m / 2 ^ b % 2
def pick {α:Type} (p:Nat→Bool) (f:Nat→α):Nat→List α
 | 0=>[]
 | n+1=>pick p f n++if p n then [f n] else []
def lastV (kid:Nat→Bool) (val:Nat→Int):Nat→Int
 | 0=>-1
 | j+1=>if kid j then lastV kid val j else val j
def leafAt (kid:Nat→Bool) (val:Nat→Int) (j:Nat):Bool:=!kid j&&val j != lastV kid val j
structure Nd where
 kids:Nat
 leaf:Nat
 base:Nat
 leafs:Nat
structure Tb where
 rows:List (Nat × Nat)
 nodes:List Nd
 leaves:List Int
section
variable (kid:Nat × Nat→Nat→Bool) (val:Nat × Nat→Nat→Int)
def nodeOf (r:Nat × Nat) (r0 l0:Nat):Nd :=
 ⟨maskOf (kid r) 16,maskOf (leafAt (kid r) (val r)) 16,if cntOf (kid r) 16=0 then 0 else r0,if cntOf (leafAt (kid r) (val r)) 16=0 then 0 else l0⟩
def kidRow (r:Nat × Nat) (k:Nat):Nat × Nat:=(r.1+1,16*r.2+k)
structure NodeAt (t:Tb) (i:Nat):Prop where
 ex:∃ r r0 l0 rr ll,t.rows[i]?=some r∧t.nodes[i]?=some (nodeOf kid val r r0 l0)∧i < r0∧t.rows=rr∧t.leaves=ll ∧
  (∀ j x,(pick (kid r) (kidRow r) 16)[j]?=some x→t.rows[r0+j]?=some x)∧(∀ j x,(pick (leafAt (kid r) (val r)) (val r) 16)[j]?=some x→t.leaves[l0+j]?=some x) ∧
  r0+cntOf (kid r) 16≤t.rows.length∧l0+cntOf (leafAt (kid r) (val r)) 16≤t.leaves.length
structure TbOk (t:Tb):Prop where
 nodes:∀ i,i < t.nodes.length→NodeAt kid val t i
 le:t.nodes.length≤t.rows.length
 root:t.rows[0]?=some (0,0)
 leaves:∀ x∈t.leaves,∃ r k,x=val r k
end
def rlt (a b:Nat × Nat):Prop:=a.1 < b.1∨(a.1=b.1∧a.2 < b.2)
section
variable (kid:Nat × Nat→Nat→Bool) (val:Nat × Nat→Nat→Int)
structure TbSort (S:List (Nat × Nat)) (t:Tb):Prop where
 sorted:t.rows.Pairwise rlt
 next:∀ r,t.rows[t.nodes.length]?=some r→∀ x∈t.rows,x.1≤r.1+1∧(x.1=r.1+1→x.2 < 16*r.2)
 sub:∀ x∈t.rows,x=(0,0)∨x∈S
structure NdRight (n leaves i:Nat) (x:Nd):Prop where
 kids:x.kids < 65536
 leaf:x.leaf < 65536
 apart:∀ k,¬ (x.kids / 2 ^ k % 2=1∧x.leaf / 2 ^ k % 2=1)
 base:x.kids≠0→i < x.base∧x.base+cntMask x.kids 16≤n
 base0:x.kids=0→x.base=0
 leafs:x.leaf≠0→x.leafs+cntMask x.leaf 16≤leaves
 leafs0:x.leaf=0→x.leafs=0
 first:∀ k,k < 16→(∀ j,j < k→x.kids / 2 ^ j % 2=1)→x.kids / 2 ^ k % 2=0→x.leaf / 2 ^ k % 2=1
end
structure Rt where
 addr:ByteArray
 bits:Int
 hop:Int
section
variable (n:Nat) (l:List Rt)
end
structure RtsAt (w:World) (b off:Nat) (rs:List Rt):Prop where
 c0:∀ i (h:i < rs.length),w.cell? ⟨b,off+i*3,none⟩=some (.string rs[i].addr)
 c1:∀ i (h:i < rs.length),w.cell? ⟨b,off+i*3+1,none⟩=some (iV rs[i].bits)
 c2:∀ i (h:i < rs.length),w.cell? ⟨b,off+i*3+2,none⟩=some (iV rs[i].hop)
section
variable (n:Nat)
end
section
variable {w W:World} {B o:Nat} {xs ys:List Value}
end
section
variable {w W:World} {n E:Nat} {mv:Value} {ms:List Rt}
end
structure FSt (w:World) (m X:Nat) (cs zs:List Value) (mv:Value) (wx:World):Prop where
 x:HoldsL wx X cs
 z:HoldsL wx (w.heap.size+1) zs
 c:wx.cell? ⟨w.heap.size,m,none⟩=some mv
 b:Below w.heap.size w wx
 le:w.heap.size+1+1≤X
section
variable {w wx wy:World} {m X:Nat} {cs zs:List Value} {mv:Value}
end
theorem wpSeq_store {P:Program} {Q:Exit→Act→World→Prop} {op:Oper} {a:Act} {w:World} (ty:TypeId) (x y:Operand) (ho:op.op=.store ty x y) (b o:Nat) (cells:Array Value) (hx:a.eval x=.pointer (some ⟨b,o,none⟩)) (hy:a.eval y=.agg cells)
  (ht:w.there b o cells.size) (hi:(P.info? ty).map (·.size)=some cells.size) (h1:cells.all (·.oneCell')=true) (h:Q .normal (a.put op.dst undef) (w.setCells b o cells.toList)):wpSeq P Q [op] a w :=
 fun K' hK=>wp_store_mid ty x y ho b o cells hx hy ht hi h1 (hK _ _ h)
structure PassO (p:Pl) (x:Bb) (q:P4) (now:Int) (ans:No) (ft cd:Int) (ld:Bool) (fl:Fl) (nv:Bo) (gg:Fl):Prop where
 a1:ft≠0→ans=noE ft
 a2:ft=0→ld=false→ans=noE 6
 a3:ft=0→ld=true→cd≠0→ans=noE cd
 tc:ft=0→cd=0→q.proto=6→20≤q.data.size
 sz:ft=0→q.data.size≤20000
 tb:ft=0→cd=0→bibTouchV p x ⟨fl.proto,true,fl.src,fl.sp,fl.dst,peerV fl.proto fl.dp,flagV q.proto q.data⟩ now=nv
 fs:ft=0→cd=0→fl.src.size=4∧fl.dst.size=4
 a4:ft=0→ld=true→cd=0→nv.code≠0→ans=noE nv.code
 a5:ft=0→ld=true→cd=0→nv.code=0→nv.bind.inn.size≠4→ans=noE 11
 ns:ft=0→cd=0→nv.code=0→nv.bind.inn.size≤16
 gs:ft=0→cd=0→nv.code=0→nv.bind.inn.size=4→gg.src.size=4∧gg.dst.size=4
 a6:ft=0→ld=true→cd=0→nv.code=0→nv.bind.inn.size=4→ans=⟨nv.bib,{ q with src:=gg.src,dst:=gg.dst,data:=setData fl gg q.data },p6Zero,0⟩
structure PassI (p:Pl) (x:Bb) (q:P4) (now:Int) (ans:No) (ft cd:Int) (ld:Bool) (fl:Fl) (nv:Bo) (gg:Fl):Prop where
 a1:ft≠0→ans=noE ft
 a2:ft=0→ld=false→ans=noE 6
 a3:ft=0→ld=true→cd≠0→ans=noE cd
 tc:ft=0→cd=0→q.proto=6→20≤q.data.size
 sz:ft=0→q.data.size≤20000
 tb:ft=0→cd=0→bibTouchV p x ⟨fl.proto,false,fl.dst,fl.dp,fl.src,peerV fl.proto fl.sp,flagV q.proto q.data⟩ now=nv
 fs:ft=0→cd=0→fl.src.size=4∧fl.dst.size=4
 a4:ft=0→ld=true→cd=0→nv.code≠0→ans=noE nv.code
 a5:ft=0→ld=true→cd=0→nv.code=0→nv.bind.inn.size≠4→ans=noE 11
 ns:ft=0→cd=0→nv.code=0→nv.bind.inn.size≤16
 gs:ft=0→cd=0→nv.code=0→nv.bind.inn.size=4→gg.src.size=4∧gg.dst.size=4
 a6:ft=0→ld=true→cd=0→nv.code=0→nv.bind.inn.size=4→ans=⟨nv.bib,{ q with src:=gg.src,dst:=gg.dst,data:=setData fl gg q.data },p6Zero,0⟩
theorem passI_is (p:Pl) (x:Bb) (q:P4) (now:Int):∃ nv gg,PassI p x q now (natComeV p x q now) (natFt p x q now) (flowCode q.src q.dst q.proto q.data) (inL p.addrs q.dst) (flowOfV q.src q.dst q.proto q.data) nv gg∧gg=⟨(flowOfV q.src q.dst q.proto q.data).proto,(flowOfV q.src q.dst q.proto q.data).src,nv.bind.inn,if echoP (flowOfV q.src q.dst q.proto q.data).proto=true then nv.bind.inPort else (flowOfV q.src q.dst q.proto q.data).sp,nv.bind.inPort⟩:=by
 obtain ⟨nv,hnv⟩ : ∃ nv,nv=goV p x (comeT (ofFl q.src q.dst q.proto q.data) q.data) now:=⟨_,rfl⟩;refine ⟨nv,_,?_,rfl⟩;have hv:natFt p x q now=0→natComeV p x q now=natComeIn p x q now:=fun h=>by unfold natComeV; rw [if_neg (by simp [h])]
 have hft:natFt p x q now=0→v4Ok q=true:=fun h=>(nat_parts h).2.1
 have hcd:natFt p x q now=0→flowCode q.src q.dst q.proto q.data=ofCode q.src.size q.proto q.data:=fun h=>(flow_four (hft h)).1
 have hfl:natFt p x q now=0→flowCode q.src q.dst q.proto q.data=0→flowOfV q.src q.dst q.proto q.data=ofFl q.src q.dst q.proto q.data:=fun h h2=>(flow_four (hft h)).2 (by rw [← hcd h]; exact h2)
 have hpass:=fun (h:natFt p x q now=0) (h2:flowCode q.src q.dst q.proto q.data=0)=>pass_in (p:=p) (x:=x) (q:=q) (now:=now) h (by rw [← hcd h]; exact h2) (flowOfV q.src q.dst q.proto q.data) (hfl h h2) nv (by rw [hfl h h2]; exact hnv)
 refine ⟨fun h=>?_,fun h hl=>?_,fun h hl c=>?_,fun h c hp=>?_,fun h=>?_,fun h c=>(hpass h c).1,fun h c=>⟨(hpass h c).2.1,(hpass h c).2.2.1⟩,fun h hl c n=>?_,fun h hl c n i=>?_,fun h c n=>?_,fun h c n i=>?_,fun h hl c n i=>?_⟩
 ·unfold natComeV; rw [if_pos h]
 ·rw [hv h]; unfold natComeIn; rw [if_pos hl]
 ·rw [hv h]; unfold natComeIn; rw [if_neg (by rw [hl]; simp)]; rw [if_pos (by rw [← hcd h]; exact c),hcd h]
 ·have c2:ofCode q.src.size q.proto q.data=0:=by rw [← hcd h]; exact c
  rw [hp] at c2; exact tcp_long c2
 ·have:=(v4_sizes (hft h)).2.2.2; omega
 ·rw [hv h]; unfold natComeIn; rw [if_neg (by rw [hl]; simp)]; rw [if_neg (by rw [← hcd h]; simp [c]),← hnv,if_pos n]
 ·rw [hv h]; unfold natComeIn; rw [if_neg (by rw [hl]; simp)]; rw [if_neg (by rw [← hcd h]; simp [c]),← hnv,if_neg (by simp [n]),if_pos i]
 ·exact ((hpass h c).2.2.2 n).1
 ·obtain ⟨G,hG,-,-,e4,e5⟩:=((hpass h c).2.2.2 n).2 i;rw [hG,e4,e5]; exact ⟨(v4_sizes (hft h)).1,i⟩
 ·obtain ⟨G,hG,hG2,hS,e4,e5⟩:=((hpass h c).2.2.2 n).2 i;rw [hv h,hG,hS,e4,e5]; unfold natComeIn;rw [if_neg (by rw [hl]; simp),if_neg (by rw [← hcd h]; simp [c]),← hnv,if_neg (by simp [n]),if_neg (by simp [i]),hG2,hfl h c]
theorem natPassI_any (pa:Option Addr) (pc:Nat) (p:Pl) (ba bo:Option Addr) (ca cb:Nat) (x:Bb) (q:P4) (now:Int) (w:World) (hT:TabB w) (hlp:p.addrs.length≤1048576) (hpc:p.addrs.length≤pc) (hsz:∀ s∈p.addrs,s.size≤1048576) (hl1:x.binds.length≤1048576) (hl2:x.sess.length≤1048576) (hgb:∀ q∈x.binds,BdGood q) (hgs:∀ s∈x.sess,SsGood s) (q1:q.src.size≤1048576) (q2:q.dst.size≤1048576) (q3:q.opts.size≤1048576) (q4:q.data.size≤1048576) (hp:SlIs strL1 1 w pa p.addrs) (hx:BbIs w ba bo x) :
  Calls Tryz.prog 27 #[.iface 82 (.agg #[.slice pa p.addrs.length pc]),plC pa pc p,bbC ba bo ca cb x,p4C q,iV now] w fun e w'=>NoRet w.heap.size (natComeV p x q now) e w'∧Below w.heap.size w w':=by
 obtain ⟨nv,gg,HPS,hgg⟩:=passI_is p x q now;have CFT:Hid (∀ W,Below w.heap.size w W→Cb 52 #[plC pa pc p,bbC ba bo ca cb x,p4C q,iV now] W (iV (natFt p x q now))):=fun W hW=>ip9Ok_any pa pc p ba bo ca cb x q now W hlp hpc hsz hl1 hl2 hgb hgs q1 q2 q3 q4 (hp.below hW) (hx.below hW)
 have CLD:Hid (∀ W,Below w.heap.size w W→Cb 57 #[.iface 82 (.agg #[.slice pa p.addrs.length pc]),.string q.dst] W (.bool (inL p.addrs q.dst))):=fun W hW=>leadsI_any p.addrs q.dst pa pc W hlp (hp.below hW)
 have CFO:Hid (∀ W,Cb 58 #[.string q.src,.string q.dst,iV q.proto,.string q.data] W (fwCO (flowOfV q.src q.dst q.proto q.data) (flowCode q.src q.dst q.proto q.data))):=fun W=>implFlowOf_any _ _ _ _ W q1 q2 q4
 generalize flowOfV q.src q.dst q.proto q.data=fl at *;generalize flowCode q.src q.dst q.proto q.data=cd at *;generalize natFt p x q now=ft at *;generalize natComeV p x q now=ans at *;generalize inL p.addrs q.dst=ld at *;have CTO:Hid (∀ W,Cb 205 #[.agg #[.slice pa p.addrs.length pc],fwC fl] W (tcC ⟨fl.proto,false,fl.dst,fl.dp,fl.src,peerV fl.proto fl.sp,0⟩)):=fun W=>ipTouchI_any fl pa p.addrs.length pc W
 have CFL:Hid (ft=0→cd=0→∀ W,Cb 59 #[iV q.proto,.string q.data] W (iV (flagV q.proto q.data))):=fun h c W=>ipFlags_any _ _ W (HPS.sz h) (HPS.tc h c)
 have CBT:Hid (ft=0→cd=0→∀ W,Below w.heap.size w W→Calls Tryz.prog 60 #[plC pa pc p,bbC ba bo ca cb x,tcC ⟨fl.proto,false,fl.dst,fl.dp,fl.src,peerV fl.proto fl.sp,(flagV q.proto q.data)⟩,iV now] W fun e w'=>BoRet W.heap.size nv e w'∧Below W.heap.size W w'):=fun h c W hW=>by
  have:=implBibTouch_any pa pc p ba bo ca cb x ⟨fl.proto,false,fl.dst,fl.dp,fl.src,peerV fl.proto fl.sp,(flagV q.proto q.data)⟩ now W (hT.below hW) (by dsimp only; have:=HPS.fs h c; omega) (by dsimp only; have:=HPS.fs h c; omega) hlp hpc hsz hl1 hl2 hgb hgs (hp.below hW) (hx.below hW);rw [HPS.tb h c] at this; exact this
 have CTU:Hid (∀ W,Cb 206 #[.agg #[.slice pa p.addrs.length pc],fwC fl,bdC nv.bind] W (fwC gg)):=fun W=>by rw [hgg]; exact ipTurnI_any fl nv.bind pa p.addrs.length pc W
 have CAS:Hid (ft=0→cd=0→nv.code=0→nv.bind.inn.size=4→∀ W,Cb 61 #[p4C q,fwC fl,fwC gg] W (p4C { q with src:=gg.src,dst:=gg.dst,data:=setData fl gg q.data })):=fun h c n i W=>by
  have hf:=HPS.fs h c;have hg:=HPS.gs h c n i;exact asFlow_any q fl gg _ _ W q1 q2 q3 q4 (fun W=>implCarrySet_any fl gg q.data W (by omega) (by omega) (by omega) (by omega) q4 (by omega))
 have HPS:Hid (PassI p x q now ans ft cd ld fl nv gg):=HPS;clear hgg hT hlp hpc hsz hl1 hl2 hgb hgs hp hx q1 q2 q3
 have hmtouch : ∀ W, (method 319 82 (.agg #[.slice pa p.addrs.length pc]) "loop.example/g00314/impl.touch").run Tryz.prog W = .ok (205, .agg #[.slice pa p.addrs.length pc]) W := fun W => by kernel_rfl
 have hmturn : ∀ W, (method 319 82 (.agg #[.slice pa p.addrs.length pc]) "loop.example/g00314/impl.turn").run Tryz.prog W = .ok (206, .agg #[.slice pa p.addrs.length pc]) W := fun W => by kernel_rfl
 unfold plC bbC p4C fwC fwCO tcC bdC at *;dsimp only at *;generalize peerV fl.proto fl.sp=pe at *;generalize hsd:setData fl gg q.data=sd at *;have HSD:Hid (setData fl gg q.data=sd):=hsd;clear hsd;generalize flagV q.proto q.data=fg at *;have e0:HoldsL ((aW (aW (aW w (PlV pa pc p) 27) (BbV ba ca bo cb x) 31) (P4V q) 33).alloc (.cells Z25V.toArray 39)) (w.heap.size) (PlV pa pc p):=by
  have h:=HoldsL.new w (PlV pa pc p) 27;try simp only [World.size_alloc] at h
  exact (((h.alloc _).alloc _).alloc _)
 have e1:HoldsL ((aW (aW (aW w (PlV pa pc p) 27) (BbV ba ca bo cb x) 31) (P4V q) 33).alloc (.cells Z25V.toArray 39)) (w.heap.size+1) (BbV ba ca bo cb x):=by
  have h:=HoldsL.new (w.alloc (.cells (PlV pa pc p).toArray 27)) (BbV ba ca bo cb x) 31;try simp only [World.size_alloc] at h
  exact ((h.alloc _).alloc _)
 have e2:HoldsL ((aW (aW (aW w (PlV pa pc p) 27) (BbV ba ca bo cb x) 31) (P4V q) 33).alloc (.cells Z25V.toArray 39)) (w.heap.size+1+1) (P4V q):=by
  have h:=HoldsL.new ((aW w (PlV pa pc p) 27).alloc (.cells (BbV ba ca bo cb x).toArray 31)) (P4V q) 33;try simp only [World.size_alloc] at h
  exact (h.alloc _)
 have e3:HoldsL ((aW (aW (aW w (PlV pa pc p) 27) (BbV ba ca bo cb x) 31) (P4V q) 33).alloc (.cells Z25V.toArray 39)) (w.heap.size+1+1+1) Z25V:=by
  have h:=HoldsL.new ((aW (aW w (PlV pa pc p) 27) (BbV ba ca bo cb x) 31).alloc (.cells (P4V q).toArray 33)) Z25V 39;try simp only [World.size_alloc] at h
  exact h
 have HS0:Hid (Bxs w [(w.heap.size,(PlV pa pc p)),(w.heap.size+1,(BbV ba ca bo cb x)),(w.heap.size+1+1,(P4V q)),(w.heap.size+1+1+1,Z25V)] ((aW (aW (aW w (PlV pa pc p) 27) (BbV ba ca bo cb x) 31) (P4V q) 33).alloc (.cells Z25V.toArray 39))):=by
  refine ⟨fun e he=>?_,((((bR.alloc (by (try simp only [World.size_alloc]); omega) _).alloc (by (try simp only [World.size_alloc]); omega) _).alloc (by (try simp only [World.size_alloc]); omega) _).alloc (by (try simp only [World.size_alloc]); omega) _),fun e he=>?_⟩
  ·simp only [List.mem_cons,List.not_mem_nil,or_false] at he;rcases he with rfl | rfl | rfl | rfl
   ·exact e0
   ·exact e1
   ·exact e2
   ·exact e3
  ·simp only [List.mem_cons,List.not_mem_nil,or_false] at he;rcases he with rfl | rfl | rfl | rfl<;>simp
 clear e0 e1 e2 e3;have hRw:w.heap.size≤w.heap.size+1+1+1:=by omega
 go_enter Tryz.func27,Tryz.ntmps27
 go_upto_region 1 with fail
 generalize World.alloc _ _=W0 at *;have HHk:=HS0.out.at mE0;obtain ⟨k0,k1,k2,k3,k4,k5,k6,k7,k8,k9⟩:=HHk.c10;clear HHk;have HHl:=HS0.out.at mE1;obtain ⟨l0,l1⟩:=HHl.c2;clear HHl;have HHm:=HS0.out.at mE2;obtain ⟨m0,m1,m2,m3,m4,m5,m6,m7,m8,m9,m10⟩:=HHm.c11;clear HHm;go_wp2_with fail
 refine (CFT.out W0 HS0.out.b).mono ?_;rintro e W1 ⟨rfl,r1⟩;have S1:Hid _:=HS0.out.kept r1;clear r1 HS0 CFT k0 k1 k2 k3 k4 k5 k6 k7 k8 k9 l0 l1 m0 m1 m2 m3 m4 m5 m6 m7 m8 m9 m10;by_cases hft:ft=0
 case neg =>
  have d0:(ft != 0)=true:=by simp [hft]
  have HX:Hid (ans=noE (ft)):=HPS.out.a1 hft;obtain ⟨HTH,HRR,RB⟩:=mid3 (show HoldsL W1 (w.heap.size+1+1+1) (noL none none 0 0 (noE 0)) from S1.out.k _ mE3) S1.out.b hRw none none 0 0 (noE (ft));go_wp2_with (refine wpList_store_mid (by rfl) 39 (.tmp 10) (.tmp 24) (by rfl) _ _ _ (by rfl) (by rfl) HTH.out no_info (noL_one _ _ _ _ _) ?_)
  exact bodyPost_ret (results_mid Tryz.results27 _ _ _ _ _ rfl HRR.out Tryz.underlying39 rfl no_info) rfl (And.intro (by rw [HX.out]; exact noRet_ill _) RB.out)
 have d0:(ft != 0)=false:=by simp [hft]
 go_upto_region 4 with fail
 clear d0;have HHm:=S1.out.at mE2;obtain ⟨m0,m1,m2,m3,m4,m5,m6,m7,m8,m9,m10⟩:=HHm.c11;clear HHm;go_wp2_with fail
 refine (CLD.out W1 S1.out.b).mono ?_;rintro e W2 ⟨rfl,r1⟩;have S2:Hid _:=S1.out.kept r1;clear r1 S1 CLD m0 m1 m2 m3 m4 m5 m6 m7 m8 m9 m10
 cases ld with
 | false =>
  have HX:Hid (ans=noE (6)):=HPS.out.a2 hft rfl;obtain ⟨HTH,HRR,RB⟩:=mid3 (show HoldsL W2 (w.heap.size+1+1+1) (noL none none 0 0 (noE 0)) from S2.out.k _ mE3) S2.out.b hRw none none 0 0 (noE (6));go_wp2_with (refine wpList_store_mid (by rfl) 39 (.tmp 10) (.tmp 30) (by rfl) _ _ _ (by rfl) (by rfl) HTH.out no_info (noL_one _ _ _ _ _) ?_)
  exact bodyPost_ret (results_mid Tryz.results27 _ _ _ _ _ rfl HRR.out Tryz.underlying39 rfl no_info) rfl (And.intro (by rw [HX.out]; exact noRet_ill _) RB.out)
 | true =>
 go_upto_region 6 with fail
 have HHm:=S2.out.at mE2;obtain ⟨m0,m1,m2,m3,m4,m5,m6,m7,m8,m9,m10⟩:=HHm.c11;clear HHm;go_wp2_with fail
 refine (CFO.out W2).mono ?_;rintro e W3 ⟨rfl,r1⟩;have S4:Hid (Bxs w ((W3.heap.size,[iV fl.proto,.string fl.src,.string fl.dst,iV fl.sp,iV fl.dp,iV cd])::[(w.heap.size,(PlV pa pc p)),(w.heap.size+1,(BbV ba ca bo cb x)),(w.heap.size+1+1,(P4V q)),(w.heap.size+1+1+1,Z25V)]) (W3.alloc (.cells #[iV fl.proto,.string fl.src,.string fl.dst,iV fl.sp,iV fl.dp,iV cd] 45))):=(S2.out.kept r1).push [iV fl.proto,.string fl.src,.string fl.dst,iV fl.sp,iV fl.dp,iV cd] (by simp) _;have hFb:w.heap.size+1+1+1 < W3.heap.size:=((S2.out.kept r1).k _ mE3).lt (by simp);clear r1 S2 CFO m0 m1 m2 m3 m4 m5 m6 m7 m8 m9 m10;go_upto_region 7 with fail
 generalize (W3.alloc (.cells #[iV fl.proto,.string fl.src,.string fl.dst,iV fl.sp,iV fl.dp,iV cd] 45))=W4 at *;generalize W3.heap.size=Fb at *;have HHk:=S4.out.at mE0;obtain ⟨k0,k1,k2,k3,k4,k5⟩:=HHk.c6;clear HHk;by_cases hcd:cd=0
 case neg =>
  have d0:(cd != 0)=true:=by simp [hcd]
  have HX:Hid (ans=noE (cd)):=HPS.out.a3 hft rfl hcd;obtain ⟨HTH,HRR,RB⟩:=mid3 (show HoldsL W4 (w.heap.size+1+1+1) (noL none none 0 0 (noE 0)) from S4.out.k _ mE4) S4.out.b hRw none none 0 0 (noE (cd));go_wp2_with (refine wpList_store_mid (by rfl) 39 (.tmp 10) (.tmp 45) (by rfl) _ _ _ (by rfl) (by rfl) HTH.out no_info (noL_one _ _ _ _ _) ?_)
  exact bodyPost_ret (results_mid Tryz.results27 _ _ _ _ _ rfl HRR.out Tryz.underlying39 rfl no_info) rfl (And.intro (by rw [HX.out]; exact noRet_ill _) RB.out)
 have d0:(cd != 0)=false:=by simp [hcd]
 replace CFL:Hid _:=CFL.out hft hcd;replace CBT:Hid _:=CBT.out hft hcd;replace CAS:Hid _:=CAS.out hft hcd;go_upto_region 9 with fail
 clear d0;go_wp2_with fail
 refine (CTO.out W4).mono ?_;rintro e W5 ⟨rfl,r1⟩;have S6:Hid (Bxs w ((W5.heap.size,(TcR fl.proto false fl.dst fl.dp fl.src pe 0))::[(Fb,[iV fl.proto,.string fl.src,.string fl.dst,iV fl.sp,iV fl.dp,iV cd]),(w.heap.size,(PlV pa pc p)),(w.heap.size+1,(BbV ba ca bo cb x)),(w.heap.size+1+1,(P4V q)),(w.heap.size+1+1+1,Z25V)]) (W5.alloc (.cells (TcR fl.proto false fl.dst fl.dp fl.src pe 0).toArray 89))):=(S4.out.kept r1).push (TcR fl.proto false fl.dst fl.dp fl.src pe 0) (by simp) _;have hTb:Fb < W5.heap.size:=((S4.out.kept r1).k _ mE0).lt (by simp);clear r1 S4 CTO hmtouch k0 k1 k2 k3 k4 k5;go_upto_region 10 with fail
 generalize (W5.alloc (.cells (TcR fl.proto false fl.dst fl.dp fl.src pe 0).toArray 89))=W6 at *;generalize W5.heap.size=Tb at *;have HHm:=S6.out.at mE4;obtain ⟨m0,m1,m2,m3,m4,m5,m6,m7,m8,m9,m10⟩:=HHm.c11;clear HHm;go_wp2_with fail
 refine (CFL.out W6).mono ?_;rintro e W7 ⟨rfl,r1⟩;have S7:Hid _:=S6.out.kept r1;clear r1 S6 CFL m0 m1 m2 m3 m4 m5 m6 m7 m8 m9 m10;have HHt:=S7.out.at mE0;have tc6:=HHt.cell (j:=6) rfl;have tf6:=HHt.free (j:=6) (by simp);clear HHt;have S8:Hid (Bxs w [(Tb,(TcR fl.proto false fl.dst fl.dp fl.src pe fg)),(Fb,[iV fl.proto,.string fl.src,.string fl.dst,iV fl.sp,iV fl.dp,iV cd]),(w.heap.size,(PlV pa pc p)),(w.heap.size+1,(BbV ba ca bo cb x)),(w.heap.size+1+1,(P4V q)),(w.heap.size+1+1+1,Z25V)] (W7.setCell ⟨Tb,6,none⟩ (iV fg))):=⟨fun e he=>by
  simp only [List.mem_cons,List.not_mem_nil,or_false] at he;rcases he with rfl | rfl | rfl | rfl | rfl | rfl
  ·exact (S7.out.k _ mE0).set 6 (iV fg)
  ·exact (S7.out.k _ mE1).setOther (by show Fb≠Tb; omega) _
  ·exact (S7.out.k _ mE2).setOther (by omega) _
  ·exact (S7.out.k _ mE3).setOther (by omega) _
  ·exact (S7.out.k _ mE4).setOther (by omega) _
  ·exact (S7.out.k _ mE5).setOther (by omega) _,S7.out.b.setCell (p:=⟨Tb,6,none⟩) (show w.heap.size≤Tb by omega) _,fun e he=>by
  simp only [List.mem_cons,List.not_mem_nil,or_false] at he;rcases he with rfl | rfl | rfl | rfl | rfl | rfl<;>simp⟩
 clear S7;go_upto_region 11 with fail
 generalize (W7.setCell ⟨Tb,6,none⟩ (iV fg))=W8 at *;clear tc6 tf6;have HHk:=S8.out.at mE2;obtain ⟨k0,k1,k2,k3,k4,k5,k6,k7,k8,k9⟩:=HHk.c10;clear HHk;have HHl:=S8.out.at mE3;obtain ⟨l0,l1⟩:=HHl.c2;clear HHl;have HHm:=S8.out.at mE0;obtain ⟨m0,m1,m2,m3,m4,m5,m6⟩:=HHm.c7;clear HHm;have hR8:w.heap.size+1+1+1 < W8.heap.size:=(S8.out.k _ mE5).lt (by simp);have hw8:w.heap.size≤W8.heap.size:=S8.out.b.size;go_wp2_with fail
 refine (CBT.out W8 S8.out.b).mono ?_;rintro e W9 ⟨⟨a9,b9,c9,d9,rfl,hown⟩,r3⟩;unfold boC;have S10:Hid (Bxs w ((W9.heap.size,(BoV a9 c9 b9 d9 nv))::[(Tb,(TcR fl.proto false fl.dst fl.dp fl.src pe fg)),(Fb,[iV fl.proto,.string fl.src,.string fl.dst,iV fl.sp,iV fl.dp,iV cd]),(w.heap.size,(PlV pa pc p)),(w.heap.size+1,(BbV ba ca bo cb x)),(w.heap.size+1+1,(P4V q)),(w.heap.size+1+1+1,Z25V)]) (W9.alloc (.cells (BoV a9 c9 b9 d9 nv).toArray 104))):=(S8.out.kept r3).push (BoV a9 c9 b9 d9 nv) (by simp) _;have O10:Hid (BbOwn W8.heap.size (W9.alloc (.cells (BoV a9 c9 b9 d9 nv).toArray 104)) a9 b9 nv.bib):=hown.kept (bR.alloc lR _);have hx9:W8.heap.size≤W9.heap.size:=r3.size;clear r3 hown S8 CBT k0 k1 k2 k3 k4 k5 k6 k7 k8 k9 l0 l1 m0 m1 m2 m3 m4 m5 m6;go_upto_region 12 with fail
 generalize (W9.alloc (.cells (BoV a9 c9 b9 d9 nv).toArray 104))=W10 at *;generalize W9.heap.size=Xb at *;have HHk:=S10.out.at mE0;obtain ⟨k0,k1,k2,k3,k4,k5,k6,k7⟩:=HHk.c8;clear HHk;by_cases hn:nv.code=0
 case neg =>
  have d0:(nv.code != 0)=true:=by simp [hn]
  have HX:Hid (ans=noE (nv.code)):=HPS.out.a4 hft rfl hcd hn;obtain ⟨HTH,HRR,RB⟩:=mid3 (show HoldsL W10 (w.heap.size+1+1+1) (noL none none 0 0 (noE 0)) from S10.out.k _ mE6) S10.out.b hRw none none 0 0 (noE (nv.code));go_wp2_with (refine wpList_store_mid (by rfl) 39 (.tmp 10) (.tmp 66) (by rfl) _ _ _ (by rfl) (by rfl) HTH.out no_info (noL_one _ _ _ _ _) ?_)
  exact bodyPost_ret (results_mid Tryz.results27 _ _ _ _ _ rfl HRR.out Tryz.underlying39 rfl no_info) rfl (And.intro (by rw [HX.out]; exact noRet_ill _) RB.out)
 have d0:(nv.code != 0)=false:=by simp [hn]
 have hi16:nv.bind.inn.size≤16:=HPS.out.ns hft hcd hn;by_cases hi:nv.bind.inn.size=4
 case neg =>
  have d1:((nv.bind.inn.size:Int) != 4)=true:=by rw [bne_iff_ne]; omega
  have HX:Hid (ans=noE (11)):=HPS.out.a5 hft rfl hcd hn hi;obtain ⟨HTH,HRR,RB⟩:=mid3 (show HoldsL W10 (w.heap.size+1+1+1) (noL none none 0 0 (noE 0)) from S10.out.k _ mE6) S10.out.b hRw none none 0 0 (noE (11));go_wp2_with (refine wpList_store_mid (by rfl) 39 (.tmp 10) (.tmp 72) (by rfl) _ _ _ (by rfl) (by rfl) HTH.out no_info (noL_one _ _ _ _ _) ?_)
  exact bodyPost_ret (results_mid Tryz.results27 _ _ _ _ _ rfl HRR.out Tryz.underlying39 rfl no_info) rfl (And.intro (by rw [HX.out]; exact noRet_ill _) RB.out)
 have d1:((nv.bind.inn.size:Int) != 4)=false:=by rw [bne_eq_false_iff_eq]; omega
 have HX:Hid _:=HPS.out.a6 hft rfl hcd hn hi;replace CAS:Hid _:=CAS.out hn hi;clear HPS;go_upto_region 16 with fail
 clear d0 d1;have HHm:=S10.out.at mE2;obtain ⟨m0,m1,m2,m3,m4,m5⟩:=HHm.c6;clear HHm;go_wp2_with fail
 refine (CTU.out W10).mono ?_;rintro e W11 ⟨rfl,r1⟩;have S12:Hid (Bxs w ((W11.heap.size,(FlV gg))::[(Xb,(BoV a9 c9 b9 d9 nv)),(Tb,(TcR fl.proto false fl.dst fl.dp fl.src pe fg)),(Fb,[iV fl.proto,.string fl.src,.string fl.dst,iV fl.sp,iV fl.dp,iV cd]),(w.heap.size,(PlV pa pc p)),(w.heap.size+1,(BbV ba ca bo cb x)),(w.heap.size+1+1,(P4V q)),(w.heap.size+1+1+1,Z25V)]) (W11.alloc (.cells (FlV gg).toArray 43))):=(S10.out.kept r1).push (FlV gg) (by simp) _;have O12:Hid (BbOwn W8.heap.size (W11.alloc (.cells (FlV gg).toArray 43)) a9 b9 nv.bib):=(O10.out.kept r1).kept (bR.alloc lR _);clear r1 S10 O10 CTU hmturn m0 m1 m2 m3 m4 m5 k0 k1 k2 k3 k4 k5 k6 k7;go_upto_region 17 with fail
 generalize (W11.alloc (.cells (FlV gg).toArray 43))=W12 at *;generalize W11.heap.size=Gb at *;have HCP:Hid (∀ wy,Below W12.drew.heap.size W12.drew wy→_):=fun wy hy=>S12.out.kept (bR.drew.trans hy)
 have HOP:Hid (∀ wy,Below W12.drew.heap.size W12.drew wy→BbOwn W8.heap.size wy a9 b9 nv.bib):=fun wy hy=>O12.out.kept (bR.drew.trans hy)
 clear S12 O12;refine wp_region_growV [79,80,81,82,83,84,85,86] (by kernel_rfl) (by kernel_rfl) ?_;iterate 8 (apply GChV.u rfl;(·intro K' a wy ho hd hb hK;simp [rAt,IsV,slot,Region.binds] at ho hd;have hst:=HCP.out wy hb;have kC:=(hst.at mE6).c11;have kC:=(hst.at mE1).c8;have kC:=(hst.at mE3).c6;have kC:=(hst.at mE0).c5;clear hst;go_simp;first|((try go_bits);exact hK _ _ rfl bQ)|(refine (CAS.out wy).mono ?_;rintro e wz ⟨rfl,hz⟩;exact hK _ _ rfl hz));dsimp only [nA,cA])
 intro X wz hR hz;simp only [List.nil_append,List.cons_append,RAll,IsV] at hR;simp only [putsFrom,hR];clear hR;have hS:=HCP.out wz hz;have hO:=HOP.out wz hz;have hrb:HoldsL wz (w.heap.size+1+1+1) (noL none none 0 0 (noE 0)):=hS.k _ mE7;obtain ⟨HTH,HRR,RB⟩:=mid3 hrb hS.b hRw a9 b9 c9 d9 ⟨nv.bib,⟨q.tos,q.id,q.whole,q.more,q.off,q.ttl,q.proto,gg.src,gg.dst,q.opts,sd⟩,p6Zero,0⟩;have HOW:Hid (BbOwn w.heap.size (wz.setCells (w.heap.size+1+1+1) 0 (noL a9 b9 c9 d9 ⟨nv.bib,⟨q.tos,q.id,q.whole,q.more,q.off,q.ttl,q.proto,gg.src,gg.dst,q.opts,sd⟩,p6Zero,0⟩).toArray.toList) a9 b9 nv.bib):=(BbOwn.mid hO hR8 _).lowN hw8;clear hS hO hrb HCP HOP;simp only [List.length_cons,List.length_nil,List.drop_succ_cons,List.drop_zero,Nat.zero_add,Nat.reduceAdd];with_reducible refine wpSeq_store 39 (.tmp 10) (.tmp 86) rfl (w.heap.size+1+1+1) 0 (noL a9 b9 c9 d9 ⟨nv.bib,⟨q.tos,q.id,q.whole,q.more,q.off,q.ttl,q.proto,gg.src,gg.dst,q.opts,sd⟩,p6Zero,0⟩).toArray ?_ ?_ ?_ ?_ ?_ ?_
 ·simp [Act.eval,Act.put]
 ·simp [Act.eval,Act.put,noL,p6Zero]
 ·exact HTH.out
 ·exact no_info
 ·exact noL_one _ _ _ _ _
 generalize wz.setCells (w.heap.size+1+1+1) 0 (noL a9 b9 c9 d9 ⟨nv.bib,⟨q.tos,q.id,q.whole,q.more,q.off,q.ttl,q.proto,gg.src,gg.dst,q.opts,sd⟩,p6Zero,0⟩).toArray.toList=WE at *;go_wp2_with fail
 with_reducible refine bodyPost_ret (v:=.agg (noL a9 b9 c9 d9 ⟨nv.bib,⟨q.tos,q.id,q.whole,q.more,q.off,q.ttl,q.proto,gg.src,gg.dst,q.opts,sd⟩,p6Zero,0⟩).toArray) ?_ ?_ ?_
 ·refine results_mid Tryz.results27 _ _ _ _ _ ?_ HRR.out Tryz.underlying39 rfl no_info;simp [Act.put]
 ·simp [Act.put]
 ·exact And.intro (by rw [HX.out,HSD.out]; exact ⟨a9,b9,c9,d9,rfl,HOW.out⟩) RB.out
theorem implNatCome_any (pa:Option Addr) (pc:Nat) (p:Pl) (ba bo:Option Addr) (ca cb:Nat) (x:Bb) (q:P4) (now:Int) (w:World) (hT:TabB w) (hlp:p.addrs.length≤1048576) (hpc:p.addrs.length≤pc) (hsz:∀ s∈p.addrs,s.size≤1048576) (hl1:x.binds.length≤1048576) (hl2:x.sess.length≤1048576) (hgb:∀ q∈x.binds,BdGood q) (hgs:∀ s∈x.sess,SsGood s) (q1:q.src.size≤1048576) (q2:q.dst.size≤1048576) (q3:q.opts.size≤1048576) (q4:q.data.size≤1048576) (hp:SlIs strL1 1 w pa p.addrs) (hx:BbIs w ba bo x) :
  Calls Tryz.prog 17 #[plC pa pc p,bbC ba bo ca cb x,p4C q,iV now] w fun e w'=>NoRet w.heap.size (natComeV p x q now) e w'∧Below w.heap.size w w':=by
 have HIN:Hid (∀ W,Below w.heap.size w W→Calls Tryz.prog 27 #[.iface 82 (.agg #[.slice pa p.addrs.length pc]),plC pa pc p,bbC ba bo ca cb x,p4C q,iV now] W fun e w'=>NoRet W.heap.size (natComeV p x q now) e w'∧Below W.heap.size W w'):=fun W hW=>natPassI_any pa pc p ba bo ca cb x q now W (hT.below hW) hlp hpc hsz hl1 hl2 hgb hgs q1 q2 q3 q4 (hp.below hW) (hx.below hW)
 generalize natComeV p x q now=nv at *;clear hT hlp hpc hsz hl1 hl2 hgb hgs hp hx q1 q2 q3 q4;unfold plC bbC p4C at *;have e0:HoldsL ((aW (aW (aW w (PlV pa pc p) 27) (BbV ba ca bo cb x) 31) (P4V q) 33).alloc (.cells Z25V.toArray 39)) (w.heap.size) (PlV pa pc p):=by
  have h:=HoldsL.new w (PlV pa pc p) 27;try simp only [World.size_alloc] at h
  exact (((h.alloc _).alloc _).alloc _)
 have e1:HoldsL ((aW (aW (aW w (PlV pa pc p) 27) (BbV ba ca bo cb x) 31) (P4V q) 33).alloc (.cells Z25V.toArray 39)) (w.heap.size+1) (BbV ba ca bo cb x):=by
  have h:=HoldsL.new (w.alloc (.cells (PlV pa pc p).toArray 27)) (BbV ba ca bo cb x) 31;try simp only [World.size_alloc] at h
  exact ((h.alloc _).alloc _)
 have e2:HoldsL ((aW (aW (aW w (PlV pa pc p) 27) (BbV ba ca bo cb x) 31) (P4V q) 33).alloc (.cells Z25V.toArray 39)) (w.heap.size+1+1) (P4V q):=by
  have h:=HoldsL.new ((aW w (PlV pa pc p) 27).alloc (.cells (BbV ba ca bo cb x).toArray 31)) (P4V q) 33;try simp only [World.size_alloc] at h
  exact (h.alloc _)
 have e3:HoldsL ((aW (aW (aW w (PlV pa pc p) 27) (BbV ba ca bo cb x) 31) (P4V q) 33).alloc (.cells Z25V.toArray 39)) (w.heap.size+1+1+1) Z25V:=by
  have h:=HoldsL.new ((aW (aW w (PlV pa pc p) 27) (BbV ba ca bo cb x) 31).alloc (.cells (P4V q).toArray 33)) Z25V 39;try simp only [World.size_alloc] at h
  exact h
 have HS0:Hid (Bxs w [(w.heap.size,(PlV pa pc p)),(w.heap.size+1,(BbV ba ca bo cb x)),(w.heap.size+1+1,(P4V q)),(w.heap.size+1+1+1,Z25V)] ((aW (aW (aW w (PlV pa pc p) 27) (BbV ba ca bo cb x) 31) (P4V q) 33).alloc (.cells Z25V.toArray 39))):=by
  refine ⟨fun e he=>?_,((((bR.alloc (by (try simp only [World.size_alloc]); omega) _).alloc (by (try simp only [World.size_alloc]); omega) _).alloc (by (try simp only [World.size_alloc]); omega) _).alloc (by (try simp only [World.size_alloc]); omega) _),fun e he=>?_⟩
  ·simp only [List.mem_cons,List.not_mem_nil,or_false] at he;rcases he with rfl | rfl | rfl | rfl
   ·exact e0
   ·exact e1
   ·exact e2
   ·exact e3
  ·simp only [List.mem_cons,List.not_mem_nil,or_false] at he;rcases he with rfl | rfl | rfl | rfl<;>simp
 clear e0 e1 e2 e3;have hRw:w.heap.size≤w.heap.size+1+1+1:=by omega
 go_enter Tryz.func17,Tryz.ntmps17
 go_upto_region 1 with fail
 generalize World.alloc _ _=W0 at *;have HHk:=HS0.out.at mE0;obtain ⟨k0,k1,k2,k3,k4,k5,k6,k7,k8,k9⟩:=HHk.c10;clear HHk;have HHl:=HS0.out.at mE1;obtain ⟨l0,l1⟩:=HHl.c2;clear HHl;have HHm:=HS0.out.at mE2;obtain ⟨m0,m1,m2,m3,m4,m5,m6,m7,m8,m9,m10⟩:=HHm.c11;clear HHm;have hR2:w.heap.size+1+1+1 < W0.heap.size:=(HS0.out.k _ mE3).lt (by simp);have hw2:w.heap.size≤W0.heap.size:=HS0.out.b.size;go_wp2_with fail
 refine (HIN.out W0 HS0.out.b).mono ?_;rintro e W3 ⟨⟨a9,b9,c9,d9,rfl,hown⟩,r3⟩;have S3:Hid _:=HS0.out.kept r3;clear r3 HS0 HIN k0 k1 k2 k3 k4 k5 k6 k7 k8 k9 l0 l1 m0 m1 m2 m3 m4 m5 m6 m7 m8 m9 m10;obtain ⟨HTH,HRR,RB⟩:=mid3 (show HoldsL W3 (w.heap.size+1+1+1) (noL none none 0 0 (noE 0)) from S3.out.k _ mE3) S3.out.b hRw a9 b9 c9 d9 nv;have HOW:Hid (BbOwn w.heap.size (W3.setCells (w.heap.size+1+1+1) 0 (noL a9 b9 c9 d9 nv).toArray.toList) a9 b9 nv.bib):=(BbOwn.mid hown hR2 _).lowN hw2;clear hown S3;unfold noC;go_wp2_with (refine wpList_store_mid (by rfl) 39 (.tmp 8) (.tmp 17) (by rfl) _ _ _ (by rfl) (by rfl) HTH.out no_info (noL_one _ _ _ _ _) ?_)
 exact bodyPost_ret (results_mid Tryz.results17 _ _ _ _ _ rfl HRR.out Tryz.underlying39 rfl no_info) rfl (And.intro ⟨a9,b9,c9,d9,rfl,HOW.out⟩ RB.out)
theorem sp9NatCome_any (pa:Option Addr) (pc:Nat) (p:Pl) (ba bo:Option Addr) (ca cb:Nat) (x:Bb) (q:P4) (now:Int) (w:World) (hbk:bibOk p x=true) (hq:v4Ok q=true) (hnow:isTime now=true) (hl1:x.binds.length≤1048576) (hl2:x.sess.length≤1048576) (hp:SlIs strL1 1 w pa p.addrs) (hx:BbIs w ba bo x) :
  Calls Tryz.prog 46 #[plC pa pc p,bbC ba bo ca cb x,p4C q,iV now] w fun e w'=>NoRet w.heap.size (natComeIn p x q now) e w'∧Below w.heap.size w w':=by
 obtain ⟨hA,hB⟩ : v4A q=true∧v4B q=true:=by unfold v4Ok at hq; simp only [Bool.and_eq_true] at hq; exact hq.1
 obtain ⟨-,-,hpr,-,-,hs,hd⟩:=v4A_parts hA;obtain ⟨-,-,hdt,-,-⟩:=v4B_parts hB;have hpo:poolOk p=true:=(bibR_iff.1 hbk).pool;have HOF:Hid (∀ W,Cb 32 #[.string q.src,.string q.dst,iV q.proto,.string q.data] W (.tuple #[fwC (ofFl q.src q.dst q.proto q.data),iV (ofCode q.src.size q.proto q.data)])):=fun W=>spOf_any _ _ _ _ W (by omega) (by omega)
 have HIL:Hid (∀ c W,Cb 29 #[iV c] W (noC none none 0 0 (noE c))):=fun c W=>sp9Ill_any c W
 have HGO:Hid (ofCode q.src.size q.proto q.data=0→∀ W,Below w.heap.size w W→Calls Tryz.prog 77 #[plC pa pc p,bbC ba bo ca cb x,fwC (ofFl q.src q.dst q.proto q.data),.string q.data,iV now] W fun e w'=>BoRet W.heap.size (goV p x (comeT (ofFl q.src q.dst q.proto q.data) q.data) now) e w'∧Below W.heap.size W w'):=fun h W hW=>by
  obtain ⟨z1,z2,z3,z4,z5,z6⟩:=ofFl_zero (d:=q.dst) h;exact sp9Come_any pa pc p ba bo ca cb x _ q.data now W hpo hnow (by rw [z3]; omega) z5.1 z5.2 (by omega) (by rw [z1]; exact (ofCode_size h).2) hl1 hl2 (hp.below hW) (hx.below hW)
 have HBE:Hid (ofCode q.src.size q.proto q.data=0→(goV p x (comeT (ofFl q.src q.dst q.proto q.data) q.data) now).code=0→_):=fun h h2=>bind_ends hbk hnow (comeT_ok hs hd h) h2
 have HFM:Hid (ofCode q.src.size q.proto q.data=0→(goV p x (comeT (ofFl q.src q.dst q.proto q.data) q.data) now).code=0→∀ W,Cb 78 #[fwC (ofFl q.src q.dst q.proto q.data),.string q.src,.string (goV p x (comeT (ofFl q.src q.dst q.proto q.data) q.data) now).bind.inn,iV (goV p x (comeT (ofFl q.src q.dst q.proto q.data) q.data) now).bind.inPort] W (fwC (toF (ofFl q.src q.dst q.proto q.data) q.src (goV p x (comeT (ofFl q.src q.dst q.proto q.data) q.data) now).bind.inn (goV p x (comeT (ofFl q.src q.dst q.proto q.data) q.data) now).bind.inPort))):=fun h h2 W=>sp9To_any _ _ _ _ W (by omega)
 have HST:Hid (ofCode q.src.size q.proto q.data=0→(goV p x (comeT (ofFl q.src q.dst q.proto q.data) q.data) now).code=0→(goV p x (comeT (ofFl q.src q.dst q.proto q.data) q.data) now).bind.inn.size=4→∀ W,Cb 45 #[fwC (ofFl q.src q.dst q.proto q.data),fwC (toF (ofFl q.src q.dst q.proto q.data) q.src (goV p x (comeT (ofFl q.src q.dst q.proto q.data) q.data) now).bind.inn (goV p x (comeT (ofFl q.src q.dst q.proto q.data) q.data) now).bind.inPort),.string q.data] W (dtCO (setD (ofFl q.src q.dst q.proto q.data) (toF (ofFl q.src q.dst q.proto q.data) q.src (goV p x (comeT (ofFl q.src q.dst q.proto q.data) q.data) now).bind.inn (goV p x (comeT (ofFl q.src q.dst q.proto q.data) q.data) now).bind.inPort) q.data) 0)):=fun h h2 h44 W=>by
  obtain ⟨z1,z2,z3,z4,z5,z6⟩:=ofFl_zero (d:=q.dst) h;obtain ⟨b1,b2,b3,b4,b5⟩:=HBE.out h h2;obtain ⟨k1,k2,k3,k4⟩:=kind_right (f:=ofFl q.src q.dst q.proto q.data) (g:=⟨(ofFl q.src q.dst q.proto q.data).proto,q.src,(goV p x (comeT (ofFl q.src q.dst q.proto q.data) q.data) now).bind.inn,if echoP (ofFl q.src q.dst q.proto q.data).proto=true then (goV p x (comeT (ofFl q.src q.dst q.proto q.data) q.data) now).bind.inPort else (ofFl q.src q.dst q.proto q.data).sp,(goV p x (comeT (ofFl q.src q.dst q.proto q.data) q.data) now).bind.inPort⟩) (flowOk_of h (pair_four hs hd)) (by rw [z2]; exact hs) hs h44 rfl (by split<;>assumption) b4;obtain ⟨m1,m2,m3⟩:=flowOk_parts k1;have o:=ofCode_size h;refine (spSet_any _ (toF (ofFl q.src q.dst q.proto q.data) q.src (goV p x (comeT (ofFl q.src q.dst q.proto q.data) q.data) now).bind.inn (goV p x (comeT (ofFl q.src q.dst q.proto q.data) q.data) now).bind.inPort) q.data W (by omega) o.1 (by rw [z1]; exact o.2) ⟨by rw [z2]; omega,by rw [z3]; omega⟩ m1 (by rw [z1]; exact hpr) m2 m3).mono ?_;rintro e w' ⟨rfl,hb⟩;refine ⟨?_,hb⟩;unfold setD;have k5:(toF (ofFl q.src q.dst q.proto q.data) q.src (goV p x (comeT (ofFl q.src q.dst q.proto q.data) q.data) now).bind.inn (goV p x (comeT (ofFl q.src q.dst q.proto q.data) q.data) now).bind.inPort).src.size=4:=by show (kindF _ _).src.size=4; rw [k3]; exact hs
  have k6:¬ (toF (ofFl q.src q.dst q.proto q.data) q.src (goV p x (comeT (ofFl q.src q.dst q.proto q.data) q.data) now).bind.inn (goV p x (comeT (ofFl q.src q.dst q.proto q.data) q.data) now).bind.inPort).src.size=16:=by omega
  simp only [if_neg k6];by_cases hbu:bareUdp (ofFl q.src q.dst q.proto q.data) q.data=true
  ·simp only [if_pos hbu]
  ·simp only [if_neg hbu]
 have HV:Hid (natComeIn p x q now=if inL p.addrs q.dst=false then noE 6 else if ofCode q.src.size q.proto q.data≠0 then noE (ofCode q.src.size q.proto q.data) else if (goV p x (comeT (ofFl q.src q.dst q.proto q.data) q.data) now).code≠0 then noE (goV p x (comeT (ofFl q.src q.dst q.proto q.data) q.data) now).code else if (goV p x (comeT (ofFl q.src q.dst q.proto q.data) q.data) now).bind.inn.size≠4 then noE 11 else ⟨(goV p x (comeT (ofFl q.src q.dst q.proto q.data) q.data) now).bib,{ q with dst:=(goV p x (comeT (ofFl q.src q.dst q.proto q.data) q.data) now).bind.inn,data:=setD (ofFl q.src q.dst q.proto q.data) (toF (ofFl q.src q.dst q.proto q.data) q.src (goV p x (comeT (ofFl q.src q.dst q.proto q.data) q.data) now).bind.inn (goV p x (comeT (ofFl q.src q.dst q.proto q.data) q.data) now).bind.inPort) q.data },p6Zero,0⟩):=rfl;have HIN:Hid (∀ W,Below w.heap.size w W→Cb 68 #[.slice pa p.addrs.length pc,.string q.dst] W (.bool (inL p.addrs q.dst))):=fun W hW=>spIn_any p.addrs q.dst pa pc W (by unfold poolOk at hpo; simp only [Bool.and_eq_true,decide_eq_true_iff] at hpo; have:=hpo.1.1.1.1.1.1.1.2; omega) (hp.below hW)
 have HIZ:Hid (ofCode q.src.size q.proto q.data=0→(goV p x (comeT (ofFl q.src q.dst q.proto q.data) q.data) now).code=0→((goV p x (comeT (ofFl q.src q.dst q.proto q.data) q.data) now).bind.inn.size=4∨(goV p x (comeT (ofFl q.src q.dst q.proto q.data) q.data) now).bind.inn.size=16)):=fun h h2=>(HBE.out h h2).2.2.1
 clear HBE;generalize natComeIn p x q now=ans at *;generalize setD (ofFl q.src q.dst q.proto q.data) (toF (ofFl q.src q.dst q.proto q.data) q.src (goV p x (comeT (ofFl q.src q.dst q.proto q.data) q.data) now).bind.inn (goV p x (comeT (ofFl q.src q.dst q.proto q.data) q.data) now).bind.inPort) q.data=sd at *;generalize toF (ofFl q.src q.dst q.proto q.data) q.src (goV p x (comeT (ofFl q.src q.dst q.proto q.data) q.data) now).bind.inn (goV p x (comeT (ofFl q.src q.dst q.proto q.data) q.data) now).bind.inPort=g at *;generalize goV p x (comeT (ofFl q.src q.dst q.proto q.data) q.data) now=nv at *;generalize ofFl q.src q.dst q.proto q.data=fl at *;generalize ofCode q.src.size q.proto q.data=cd at *;generalize inL p.addrs q.dst=il at *;obtain ⟨tos,id,whole,more,off,ttl,proto,src,dst,opts,data⟩:=q;clear hp hx hpo hnow hbk hq hA hB;unfold plC bbC p4C at *;unfold fwC dtCO at *;dsimp only at *;have e0:HoldsL ((aW (aW (aW w (PlV pa pc p) 27) (BbV ba ca bo cb x) 31) (P4R tos id whole more off ttl proto src dst opts data) 33).alloc (.cells Z25V.toArray 39)) (w.heap.size) (PlV pa pc p):=by
  have h:=HoldsL.new w (PlV pa pc p) 27;try simp only [World.size_alloc] at h
  exact (((h.alloc _).alloc _).alloc _)
 have e1:HoldsL ((aW (aW (aW w (PlV pa pc p) 27) (BbV ba ca bo cb x) 31) (P4R tos id whole more off ttl proto src dst opts data) 33).alloc (.cells Z25V.toArray 39)) (w.heap.size+1) (BbV ba ca bo cb x):=by
  have h:=HoldsL.new (w.alloc (.cells (PlV pa pc p).toArray 27)) (BbV ba ca bo cb x) 31;try simp only [World.size_alloc] at h
  exact ((h.alloc _).alloc _)
 have e2:HoldsL ((aW (aW (aW w (PlV pa pc p) 27) (BbV ba ca bo cb x) 31) (P4R tos id whole more off ttl proto src dst opts data) 33).alloc (.cells Z25V.toArray 39)) (w.heap.size+1+1) (P4R tos id whole more off ttl proto src dst opts data):=by
  have h:=HoldsL.new ((aW w (PlV pa pc p) 27).alloc (.cells (BbV ba ca bo cb x).toArray 31)) (P4R tos id whole more off ttl proto src dst opts data) 33;try simp only [World.size_alloc] at h
  exact (h.alloc _)
 have e3:HoldsL ((aW (aW (aW w (PlV pa pc p) 27) (BbV ba ca bo cb x) 31) (P4R tos id whole more off ttl proto src dst opts data) 33).alloc (.cells Z25V.toArray 39)) (w.heap.size+1+1+1) Z25V:=by
  have h:=HoldsL.new ((aW (aW w (PlV pa pc p) 27) (BbV ba ca bo cb x) 31).alloc (.cells (P4R tos id whole more off ttl proto src dst opts data).toArray 33)) Z25V 39;try simp only [World.size_alloc] at h
  exact h
 have HS0:Hid (Bxs w [(w.heap.size,(PlV pa pc p)),(w.heap.size+1,(BbV ba ca bo cb x)),(w.heap.size+1+1,(P4R tos id whole more off ttl proto src dst opts data)),(w.heap.size+1+1+1,Z25V)] ((aW (aW (aW w (PlV pa pc p) 27) (BbV ba ca bo cb x) 31) (P4R tos id whole more off ttl proto src dst opts data) 33).alloc (.cells Z25V.toArray 39))):=by
  refine ⟨fun e he=>?_,((((bR.alloc (by (try simp only [World.size_alloc]); omega) _).alloc (by (try simp only [World.size_alloc]); omega) _).alloc (by (try simp only [World.size_alloc]); omega) _).alloc (by (try simp only [World.size_alloc]); omega) _),fun e he=>?_⟩
  ·simp only [List.mem_cons,List.not_mem_nil,or_false] at he;rcases he with rfl | rfl | rfl | rfl
   ·exact e0
   ·exact e1
   ·exact e2
   ·exact e3
  ·simp only [List.mem_cons,List.not_mem_nil,or_false] at he;rcases he with rfl | rfl | rfl | rfl<;>simp
 clear e0 e1 e2 e3;have hRw:w.heap.size≤w.heap.size+1+1+1:=by omega
 go_enter Tryz.func46,Tryz.ntmps46
 go_upto_region 1 with fail
 generalize World.alloc _ _=W0 at *;have HHk:=HS0.out.at mE0;obtain ⟨k0,k1,k2,k3,k4,k5,k6,k7,k8,k9⟩:=HHk.c10;clear HHk;have HHl:=HS0.out.at mE2;obtain ⟨l0,l1,l2,l3,l4,l5,l6,l7,l8,l9,l10⟩:=HHl.c11;clear HHl;go_wp2_with fail
 refine (HIN.out _ HS0.out.b).mono ?_;rintro e W9 ⟨rfl,r9⟩;have S9:Hid _:=HS0.out.kept r9;clear r9 HS0 HIN k0 k1 k2 k3 k4 k5 k6 k7 k8 k9 l0 l1 l2 l3 l4 l5 l6 l7 l8 l9 l10
 cases il with
 | false =>
  have HX:Hid (ans=noE 6):=by unfold Hid; rw [HV.out,if_pos rfl]
  go_wp2_with fail
  refine (HIL.out 6 _).mono ?_;rintro e W8 ⟨rfl,r8⟩;have S8:Hid _:=S9.out.kept r8;clear r8;obtain ⟨HTH,HRR,RB⟩:=mid3 (show HoldsL W8 (w.heap.size+1+1+1) (noL none none 0 0 (noE 0)) from S8.out.k _ mE3) S8.out.b hRw none none 0 0 (noE 6);unfold noC;go_wp2_with (refine wpList_store_mid (by rfl) 39 (.tmp 8) (.tmp 19) (by rfl) _ _ _ (by rfl) (by rfl) HTH.out no_info (noL_one _ _ _ _ _) ?_)
  exact bodyPost_ret (results_mid Tryz.results46 _ _ _ _ _ rfl HRR.out Tryz.underlying39 rfl no_info) rfl (And.intro (by rw [HX.out]; exact noRet_ill _) RB.out)
 | true =>
 rw [if_neg (by simp)] at HV;have HHk:=S9.out.at mE2;obtain ⟨k0,k1,k2,k3,k4,k5,k6,k7,k8,k9,k10⟩:=HHk.c11;clear HHk;go_wp2_with fail
 refine (HOF.out _).mono ?_;rintro e W1 ⟨rfl,r1⟩;have S2:Hid (Bxs w ((W1.heap.size,(FlV fl))::[(w.heap.size,(PlV pa pc p)),(w.heap.size+1,(BbV ba ca bo cb x)),(w.heap.size+1+1,(P4R tos id whole more off ttl proto src dst opts data)),(w.heap.size+1+1+1,Z25V)]) (W1.alloc (.cells (FlV fl).toArray 43))):=(S9.out.kept r1).push (FlV fl) (by simp) _;clear r1 S9 HOF k0 k1 k2 k3 k4 k5 k6 k7 k8 k9 k10;go_upto_region 4 with fail
 generalize (W1.alloc (.cells (FlV fl).toArray 43))=W2 at *;generalize W1.heap.size=Fb at *;by_cases hc:cd=0
 case neg =>
  have d0:(cd != 0)=true:=by simp [hc]
  have HX:Hid (ans=noE cd):=by unfold Hid; rw [HV.out,if_pos hc]
  go_wp2_with fail
  refine (HIL.out cd _).mono ?_;rintro e W3 ⟨rfl,r3⟩;have S3:Hid _:=S2.out.kept r3;clear r3;obtain ⟨HTH,HRR,RB⟩:=mid3 (show HoldsL W3 (w.heap.size+1+1+1) (noL none none 0 0 (noE 0)) from S3.out.k _ mE4) S3.out.b hRw none none 0 0 (noE cd);unfold noC;go_wp2_with (refine wpList_store_mid (by rfl) 39 (.tmp 8) (.tmp 35) (by rfl) _ _ _ (by rfl) (by rfl) HTH.out no_info (noL_one _ _ _ _ _) ?_)
  exact bodyPost_ret (results_mid Tryz.results46 _ _ _ _ _ rfl HRR.out Tryz.underlying39 rfl no_info) rfl (And.intro (by rw [HX.out]; exact noRet_ill _) RB.out)
 have d0:(cd != 0)=false:=by simp [hc]
 rw [if_neg (by simp [hc])] at HV;replace HGO:Hid _:=HGO.out hc;replace HFM:Hid _:=HFM.out hc;replace HST:Hid _:=HST.out hc;replace HIZ:Hid _:=HIZ.out hc;clear hc;go_upto_region 6 with fail
 clear d0;have HHk:=S2.out.at mE1;obtain ⟨k0,k1,k2,k3,k4,k5,k6,k7,k8,k9⟩:=HHk.c10;clear HHk;have HHl:=S2.out.at mE2;obtain ⟨l0,l1⟩:=HHl.c2;clear HHl;have HHm:=S2.out.at mE0;obtain ⟨m0,m1,m2,m3,m4⟩:=HHm.c5;clear HHm;have HHn:=S2.out.at mE3;obtain ⟨n0,n1,n2,n3,n4,n5,n6,n7,n8,n9,n10⟩:=HHn.c11;clear HHn;have hR2:w.heap.size+1+1+1 < W2.heap.size:=(S2.out.k _ mE4).lt (by simp);have hw2:w.heap.size≤W2.heap.size:=S2.out.b.size;go_wp2_with fail
 refine (HGO.out W2 S2.out.b).mono ?_;rintro e W3 ⟨⟨a9,b9,c9,d9,rfl,hown⟩,r3⟩;unfold boC;have S4:Hid (Bxs w ((W3.heap.size,(BoV a9 c9 b9 d9 nv))::[(Fb,(FlV fl)),(w.heap.size,(PlV pa pc p)),(w.heap.size+1,(BbV ba ca bo cb x)),(w.heap.size+1+1,(P4R tos id whole more off ttl proto src dst opts data)),(w.heap.size+1+1+1,Z25V)]) (W3.alloc (.cells (BoV a9 c9 b9 d9 nv).toArray 104))):=(S2.out.kept r3).push (BoV a9 c9 b9 d9 nv) (by simp) _;have O4:Hid (BbOwn W2.heap.size (W3.alloc (.cells (BoV a9 c9 b9 d9 nv).toArray 104)) a9 b9 nv.bib):=hown.kept (bR.alloc lR _);have hx4:W2.heap.size≤W3.heap.size:=r3.size;clear r3 hown S2 HGO k0 k1 k2 k3 k4 k5 k6 k7 k8 k9 l0 l1 m0 m1 m2 m3 m4 n0 n1 n2 n3 n4 n5 n6 n7 n8 n9 n10;go_upto_region 7 with fail
 generalize (W3.alloc (.cells (BoV a9 c9 b9 d9 nv).toArray 104))=W4 at *;generalize W3.heap.size=Xb at *;have HHk:=S4.out.at mE0;obtain ⟨k0,k1,k2,k3,k4,k5,k6,k7⟩:=HHk.c8;clear HHk;by_cases hn:nv.code=0
 case neg =>
  have d0:(nv.code != 0)=true:=by simp [hn]
  have HX:Hid (ans=noE nv.code):=by unfold Hid; rw [HV.out,if_pos hn]
  go_wp2_with fail
  refine (HIL.out nv.code _).mono ?_;rintro e W5 ⟨rfl,r5⟩;have S5:Hid _:=S4.out.kept r5;clear r5;obtain ⟨HTH,HRR,RB⟩:=mid3 (show HoldsL W5 (w.heap.size+1+1+1) (noL none none 0 0 (noE 0)) from S5.out.k _ mE5) S5.out.b hRw none none 0 0 (noE nv.code);unfold noC;go_wp2_with (refine wpList_store_mid (by rfl) 39 (.tmp 8) (.tmp 48) (by rfl) _ _ _ (by rfl) (by rfl) HTH.out no_info (noL_one _ _ _ _ _) ?_)
  exact bodyPost_ret (results_mid Tryz.results46 _ _ _ _ _ rfl HRR.out Tryz.underlying39 rfl no_info) rfl (And.intro (by rw [HX.out]; exact noRet_ill _) RB.out)
 have d0:(nv.code != 0)=false:=by simp [hn]
 rw [if_neg (by simp [hn])] at HV;replace HFM:Hid _:=HFM.out hn;replace HST:Hid _:=HST.out hn;have hiz:=HIZ.out hn;clear hn HIZ;go_upto_region 9 with fail
 clear d0;by_cases h4:nv.bind.inn.size=4
 case neg =>
  have d4:((nv.bind.inn.size:Int) != 4)=true:=by simp; omega
  have HX:Hid (ans=noE 11):=by unfold Hid; rw [HV.out,if_pos h4]
  go_wp2_with fail
  refine (HIL.out 11 _).mono ?_;rintro e W7 ⟨rfl,r7⟩;have S7:Hid _:=S4.out.kept r7;clear r7;obtain ⟨HTH,HRR,RB⟩:=mid3 (show HoldsL W7 (w.heap.size+1+1+1) (noL none none 0 0 (noE 0)) from S7.out.k _ mE5) S7.out.b hRw none none 0 0 (noE 11);unfold noC;go_wp2_with (refine wpList_store_mid (by rfl) 39 (.tmp 8) (.tmp 54) (by rfl) _ _ _ (by rfl) (by rfl) HTH.out no_info (noL_one _ _ _ _ _) ?_)
  exact bodyPost_ret (results_mid Tryz.results46 _ _ _ _ _ rfl HRR.out Tryz.underlying39 rfl no_info) rfl (And.intro (by rw [HX.out]; exact noRet_ill _) RB.out)
 have d4:((nv.bind.inn.size:Int) != 4)=false:=by simp; omega
 rw [if_neg (by simp [h4])] at HV;replace HST:Hid _:=HST.out h4;clear h4 hiz HIL;go_upto_region 11 with fail
 clear d4 k0 k1 k2 k3 k4 k5 k6 k7;go_cut [12] (fun v wx=>∃ g8,v=.pointer (some ⟨g8,0,none⟩)∧HoldsL wx g8 [.string sd,iV 0]∧Bxs w [(Xb,(BoV a9 c9 b9 d9 nv)),(Fb,(FlV fl)),(w.heap.size,(PlV pa pc p)),(w.heap.size+1,(BbV ba ca bo cb x)),(w.heap.size+1+1,(P4R tos id whole more off ttl proto src dst opts data)),(w.heap.size+1+1+1,Z25V)] wx∧BbOwn W2.heap.size wx a9 b9 nv.bib)
 case first =>
  rename_i J K2 hJ hK2;have HCP:Hid (∀ wy,Below W4.drew.heap.size W4.drew wy→_):=fun wy hy=>S4.out.kept (bR.drew.trans hy)
  have HOP:Hid (∀ wy,Below W4.drew.heap.size W4.drew wy→BbOwn W2.heap.size wy a9 b9 nv.bib):=fun wy hy=>O4.out.kept (bR.drew.trans hy)
  have HLT:Hid (∀ e∈([(Xb,(BoV a9 c9 b9 d9 nv)),(Fb,(FlV fl)),(w.heap.size,(PlV pa pc p)),(w.heap.size+1,(BbV ba ca bo cb x)),(w.heap.size+1+1,(P4R tos id whole more off ttl proto src dst opts data)),(w.heap.size+1+1+1,Z25V)]:List (Nat × List Value)),e.1 < W4.drew.heap.size):=fun e he=>(S4.out.lts e he).1
  have hww:w.heap.size≤W4.drew.heap.size:=S4.out.b.size;clear S4 O4 HV;refine wp_region_growV [55,56,57,58,59,60,61,62,63,64,65,66,67,68,12] (by kernel_rfl) (by kernel_rfl) ?_;iterate 13 (apply GChV.u rfl;(·intro K' a wy ho hd hb hK;simp [rAt,IsV,slot,Region.binds] at ho hd;have hst:=HCP.out wy hb;have kC:=(hst.at mE1).c5;have kC:=(hst.at mE0).c8;have kC:=(hst.at mE4).c11;clear hst;go_simp;first|((try go_bits);exact hK _ _ rfl bQ)|(refine (HFM.out wy).mono ?_;rintro e wz ⟨rfl,hz⟩;exact hK _ _ rfl hz));dsimp only [nA,cA])
  (apply GChV.u rfl;(·intro K' a wy ho hd hb hK;simp [rAt,IsV,slot,Region.binds] at ho hd;go_simp;refine (HST.out wy).mono ?_;rintro e wz ⟨rfl,hz⟩;exact hK _ _ rfl hz);dsimp only [nA,cA])
  refine GChV.rel (n:=14) (IsZy W4.drew.heap.size [eS,iV 0]) (stable_isZy _ _ (by simp)) [_,_,_,_,_,_,_,_,_,_,_,_,_,_,IsZy W4.drew.heap.size [eS,iV 0]] rfl rfl ?_ ?_
  ·intro K' a wy ho hd hb hK;rw [wN rfl];clear hd ho;go_simp;exact hK _ _ ⟨wy.heap.size,rfl,hb.size,HoldsL.new wy [eS,iV 0] 55⟩ (bR.alloc lR _)
  intro X wz hR hz;obtain ⟨x0,x1,x2,x3,x4,x5,x6,x7,x8,x9,x10,x11,x12,x13,x14,-⟩:=hR;obtain ⟨g8,e8,b8,y8⟩:=x14;simp only [IsV] at x0 x1 x2 x3 x4 x5 x6 x7 x8 x9 x10 x11 x12 x13;simp only [putsFrom,x0,x1,x2,x3,x4,x5,x6,x7,x8,x9,x10,x11,x12,x13,e8];clear x0 x1 x2 x3 x4 x5 x6 x7 x8 x9 x10 x11 x12 x13;have HF1:Hid (HoldsL (stor g8 wz 0 [.string sd,iV 0]) g8 [.string sd,iV 0]):=y8.stor [.string sd,iV 0] rfl;have HF2:Hid (Bxs w [(Xb,(BoV a9 c9 b9 d9 nv)),(Fb,(FlV fl)),(w.heap.size,(PlV pa pc p)),(w.heap.size+1,(BbV ba ca bo cb x)),(w.heap.size+1+1,(P4R tos id whole more off ttl proto src dst opts data)),(w.heap.size+1+1+1,Z25V)] (stor g8 wz 0 [.string sd,iV 0])):=(HCP.out wz hz).stor (by omega) (fun e he=>by have:=HLT.out e he; omega) _;have HF3:Hid (BbOwn W2.heap.size (stor g8 wz 0 [.string sd,iV 0]) a9 b9 nv.bib):=HOP.out _ (Below.stor b8 _ hz);obtain ⟨y0,y1⟩:=y8.c2;obtain ⟨yf0,yf1⟩:=y8.f2;simp only [stor,Nat.reduceAdd] at HF1 HF2 HF3;clear hz HCP HOP HLT y8;intro K10 hK10;go_simp;refine hK10 _ _ ?_;show Exit.then _ _ _ _ _;refine hK2 _ _ (hJ _ _ ?_);(repeat apply Exists.intro)
  exact ⟨⟨g8,rfl,HF1.out,HF2.out,HF3.out⟩,rfl⟩
 case rest =>
 obtain ⟨g8,rfl,hD,hS,hO⟩:=hcut;have D5:Hid _:=hD;have S5:Hid (Bxs w [(Xb,(BoV a9 c9 b9 d9 nv)),(Fb,(FlV fl)),(w.heap.size,(PlV pa pc p)),(w.heap.size+1,(BbV ba ca bo cb x)),(w.heap.size+1+1,(P4R tos id whole more off ttl proto src dst opts data)),(w.heap.size+1+1+1,Z25V)] wc):=hS;have O5:Hid _:=hO;have hg8:g8 < wc.heap.size:=hD.lt (by simp);clear hD hS hO S4 O4 HFM HST;generalize wc=W5 at *;have HHk:=S5.out.at mE0;obtain ⟨k0,k1,k2,k3,k4,k5,k6,k7⟩:=HHk.c8;clear HHk;have HHn:=S5.out.at mE4;obtain ⟨n0,n1,n2,n3,n4,n5,n6,n7,n8,n9,n10⟩:=HHn.c11;obtain ⟨-,-,-,-,-,-,-,-,nf8,-,nf10⟩:=HHn.f11;have dd0:=D5.out.cell (j:=0) rfl;have hxq:Xb≠w.heap.size+1+1:=by omega
 have S6:Hid (Bxs w [(w.heap.size+1+1,(P4R tos id whole more off ttl proto src nv.bind.inn opts sd)),(Xb,(BoV a9 c9 b9 d9 nv)),(w.heap.size+1+1+1,Z25V)] ((sW W5 (w.heap.size+1+1) 8 (.string nv.bind.inn)).setCell ⟨w.heap.size+1+1,10,none⟩ (.string sd))):=⟨fun e he=>by
  simp only [List.mem_cons,List.not_mem_nil,or_false] at he;rcases he with rfl | rfl | rfl
  ·exact (HHn.set 8 (.string nv.bind.inn)).set 10 (.string sd)
  ·exact HoldsL.setOther (HoldsL.setOther (S5.out.k _ mE0) hxq _) hxq _
  ·exact HoldsL.setOther (HoldsL.setOther (S5.out.k _ mE5) (by show w.heap.size+1+1+1≠w.heap.size+1+1; omega) _) (by show w.heap.size+1+1+1≠w.heap.size+1+1; omega) _,(S5.out.b.setCell (p:=⟨w.heap.size+1+1,8,none⟩) (by show w.heap.size≤w.heap.size+1+1; omega) _).setCell (p:=⟨w.heap.size+1+1,10,none⟩) (by show w.heap.size≤w.heap.size+1+1; omega) _,fun e he=>by
  simp only [List.mem_cons,List.not_mem_nil,or_false] at he;rcases he with rfl | rfl | rfl<;>simp⟩
 have O6:Hid (BbOwn W2.heap.size ((sW W5 (w.heap.size+1+1) 8 (.string nv.bind.inn)).setCell ⟨w.heap.size+1+1,10,none⟩ (.string sd)) a9 b9 nv.bib):=⟨O5.out.bd.grown (grown_set (grown_set (World.grownBy.refl _ _) _) _) (by omega),O5.out.ss.grown (grown_set (grown_set (World.grownBy.refl _ _) _) _) (by omega),O5.out.ne⟩;clear HHn;go_upto_region 14 with fail
 generalize ((sW W5 (w.heap.size+1+1) 8 (.string nv.bind.inn)).setCell ⟨w.heap.size+1+1,10,none⟩ (.string sd))=W6 at *;clear S5 O5 D5 dd0 nf8 nf10 hg8 k0 k1 k2 k3 k4 k5 k6 k7 n0 n1 n2 n3 n4 n5 n6 n7 n8 n9 n10;have HHn:=S6.out.at mE0;obtain ⟨n0,n1,n2,n3,n4,n5,n6,n7,n8,n9,n10⟩:=HHn.c11;clear HHn;have HHk:=S6.out.at mE1;obtain ⟨k0,k1,k2,k3,k4,k5,k6,k7⟩:=HHk.c8;clear HHk;obtain ⟨HTH,HRR,RB⟩:=mid3 (show HoldsL W6 (w.heap.size+1+1+1) (noL none none 0 0 (noE 0)) from S6.out.k _ mE2) S6.out.b hRw a9 b9 c9 d9 ⟨nv.bib,⟨tos,id,whole,more,off,ttl,proto,src,nv.bind.inn,opts,sd⟩,p6Zero,0⟩;have HOW:Hid (BbOwn w.heap.size (W6.setCells (w.heap.size+1+1+1) 0 (noL a9 b9 c9 d9 ⟨nv.bib,⟨tos,id,whole,more,off,ttl,proto,src,nv.bind.inn,opts,sd⟩,p6Zero,0⟩).toArray.toList) a9 b9 nv.bib):=(BbOwn.mid O6.out hR2 _).lowN hw2;clear O6 S6;go_wp2_with (refine wpList_store_mid (by rfl) 39 (.tmp 8) (.tmp 79) (by rfl) _ _ _ (by rfl) (by rfl) HTH.out no_info (noL_one _ _ _ _ _) ?_)
 exact bodyPost_ret (results_mid Tryz.results46 _ _ _ _ _ rfl HRR.out Tryz.underlying39 rfl no_info) rfl (And.intro (by rw [HV.out]; exact ⟨a9,b9,c9,d9,rfl,HOW.out⟩) RB.out)
end Go.Proofs.YtdkepkaflielhaaGreatDoor
