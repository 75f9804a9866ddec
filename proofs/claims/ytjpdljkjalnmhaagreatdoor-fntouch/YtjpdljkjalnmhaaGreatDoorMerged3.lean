import Derived.Test.YtjpdljkjalnmhaaGreatDoorMerged2
import Derived.Test.YtjpdljkjalnmhaaGreatDoorMerged1
import Derived.Test.YtjpdljkjalnmhaaGreatDoorSBib
import Derived.Deep.DeepCutAuto
import Derived.OwnWalk
set_option linter.unusedVariables false
set_option linter.unusedSimpArgs false
set_option maxRecDepth 100000
set_option maxHeartbeats 8000000
namespace Go.Proofs.YtjpdljkjalnmhaaGreatDoor
open Go.RowKit Go.PlainAid Go.ChangeShapes Go.WideShapes
structure BoxSession (w:World) (B:Nat) (p:Ss):Prop where
 c0:w.cell? ⟨B,0,none⟩=some (.int .i64 p.proto)
 c1:w.cell? ⟨B,1,none⟩=some (.string p.inn)
 c2:w.cell? ⟨B,2,none⟩=some (.int .i64 p.inPort)
 c3:w.cell? ⟨B,3,none⟩=some (.string p.peer)
 c4:w.cell? ⟨B,4,none⟩=some (.int .i64 p.peerPort)
 c5:w.cell? ⟨B,5,none⟩=some (.int .i64 p.state)
 c6:w.cell? ⟨B,6,none⟩=some (.int .i64 p.untl)
theorem BoxSession.kept {w W:World} {B:Nat} {p:Ss} (h:BoxSession w B p) (hB:Below w.heap.size w W):BoxSession W B p:=by
 have hb:=World.block_lt_of_cell? w _ h.c0;exact ⟨((bcell hB).1 B 0 hb).trans h.c0,((bcell hB).1 B 1 hb).trans h.c1,((bcell hB).1 B 2 hb).trans h.c2,((bcell hB).1 B 3 hb).trans h.c3,((bcell hB).1 B 4 hb).trans h.c4,((bcell hB).1 B 5 hb).trans h.c5,((bcell hB).1 B 6 hb).trans h.c6⟩
theorem BoxSession.new (w:World) (p:Ss) {t:TypeId}:BoxSession (w.alloc (.cells #[.int .i64 p.proto,.string p.inn,.int .i64 p.inPort,.string p.peer,.int .i64 p.peerPort,.int .i64 p.state,.int .i64 p.untl] t)) w.heap.size p:=⟨cell_new rfl,cell_new rfl,cell_new rfl,cell_new rfl,cell_new rfl,cell_new rfl,cell_new rfl⟩
end Go.Proofs.YtjpdljkjalnmhaaGreatDoor
namespace Go.Proofs.YtjpdljkjalnmhaaGreatDoor
open Go.RowKit Go.PlainAid
def bdZ:Bd:=⟨0,⟨#[]⟩,0,⟨#[]⟩,0⟩
def bindV (f:Bd→Bool) (xs:List Bd) (s:ByteArray):Bd:=if 20000 < s.size then bdZ else (xs.find? f).getD bdZ
theorem findBd_at (f:Bd→Bool) (xs:List Bd) (h:¬ findI f xs < 0):∃ i:Nat,∃ hi:i < xs.length,findI f xs=i∧xs.find? f=some xs[i]:=by
 unfold findI at *
 cases hf:xs.findIdx? f with
 | none=>rw [hf] at h; exact absurd (by decide) h
 | some i =>
  obtain ⟨hi,hfi,hn⟩:=List.findIdx?_eq_some_iff_getElem.1 hf;exact ⟨i,hi,rfl,List.find?_eq_some_iff_getElem.2 ⟨hfi,i,hi,rfl,fun j hj=>by simpa using hn j hj⟩⟩
theorem find_no (f:Bd→Bool) (xs:List Bd) (h:findI f xs < 0):xs.find? f=none:=by
 unfold findI at h
 cases hf:xs.findIdx? f with
 | none=>exact List.find?_eq_none.2 (fun x hx=>by have:=List.findIdx?_eq_none_iff.1 hf x hx; simp [this])
 | some i=>rw [hf] at h; simp only at h; omega
theorem specBindOf_any (xs:List Bd) (proto:Int) (s:ByteArray) (port:Int) (a:Option Addr) (cap:Nat) (sv:Value) (w:World) (hlen:xs.length≤1048576) (hr:SlIs bdL 5 w a xs) :
  Calls Tryz.prog 42 #[.agg #[.slice a xs.length cap,sv],.int .i64 proto,.string s,.int .i64 port] w fun e w'=>e=.returned (bdC (bindV (ofIn proto s port) xs s))∧Below w.heap.size w w':=by
 have HB0:Hid (HoldsL (w.alloc (.cells [.slice a xs.length cap,sv].toArray 31)) w.heap.size [.slice a xs.length cap,sv]):=HoldsL.new w _ _;rw [show [.slice a xs.length cap,sv].toArray=#[.slice a xs.length cap,sv] from rfl] at HB0;have HZ0:Hid (Below w.heap.size w (w.alloc (.cells #[.slice a xs.length cap,sv] 31))):=(Below.refl _ _).alloc (Nat.le_refl _) _;have HRB:Hid (HoldsL ((w.alloc (.cells #[.slice a xs.length cap,sv] 31)).alloc (.cells (bdL bdZ).toArray 37)) (w.alloc (.cells #[.slice a xs.length cap,sv] 31)).heap.size (bdL bdZ)):=HoldsL.new _ _ _;rw [show (bdL bdZ).toArray=#[.int .i64 0,.string ⟨#[]⟩,.int .i64 0,.string ⟨#[]⟩,.int .i64 0] from rfl] at HRB;have HB1:Hid (HoldsL ((w.alloc (.cells #[.slice a xs.length cap,sv] 31)).alloc (.cells #[.int .i64 0,.string ⟨#[]⟩,.int .i64 0,.string ⟨#[]⟩,.int .i64 0] 37)) w.heap.size [.slice a xs.length cap,sv]):=HB0.out.alloc _;have HZ:Hid (Below w.heap.size w ((w.alloc (.cells #[.slice a xs.length cap,sv] 31)).alloc (.cells #[.int .i64 0,.string ⟨#[]⟩,.int .i64 0,.string ⟨#[]⟩,.int .i64 0] 37))):=HZ0.out.alloc HZ0.out.size _;rw [World.size_alloc] at HRB;have hRw:w.heap.size≤w.heap.size+1:=Nat.le_succ _;have HSI:Hid (SlIs bdL 5 ((w.alloc (.cells #[.slice a xs.length cap,sv] 31)).alloc (.cells #[.int .i64 0,.string ⟨#[]⟩,.int .i64 0,.string ⟨#[]⟩,.int .i64 0] 37)) a xs):=hr.below HZ.out;have HC:Hid (∀ W,SlIs bdL 5 W a xs→Calls Tryz.prog 70 #[.agg #[.slice a xs.length cap,sv],.int .i64 proto,.string s,.int .i64 port] W fun e w'=>e=.returned (.int .i64 (findI (ofIn proto s port) xs))∧Below W.heap.size W w'):=fun W hW=>spBind_any xs proto s port a cap sv W hlen hW
 have HV:Hid (bindV (ofIn proto s port) xs s=if 20000 < s.size then bdZ else (xs.find? (ofIn proto s port)).getD bdZ):=rfl;generalize bindV (ofIn proto s port) xs s=ans at *;generalize ofIn proto s port=f at *;clear hr HB0 HZ0;obtain ⟨b0,b1⟩ : _∧_:=⟨HB1.out.cell (j:=0) rfl,HB1.out.cell (j:=1) rfl⟩;go_enter Tryz.func42,Tryz.ntmps42
 go_wp2_with fail
 generalize (w.alloc (.cells #[.slice a xs.length cap,sv] 31)).alloc (.cells #[.int .i64 0,.string ⟨#[]⟩,.int .i64 0,.string ⟨#[]⟩,.int .i64 0] 37)=W0 at *;refine (HC.out W0 HSI.out).mono ?_;rintro e w1 ⟨rfl,q1⟩;have HW:Hid (Below w.heap.size w w1):=HZ.out.trans (q1.mono HZ.out.size);have HB2:=HB1.out.kept (by simp) q1;have HR2:=HRB.out.kept (by simp [bdL]) q1;have HS2:Hid (SlIs bdL 5 w1 a xs):=HSI.out.below q1;clear b0 b1 HZ HC HSI q1;have b0:=HB2.cell (j:=0) rfl;have z0:=HR2.cell (j:=0) rfl;have zf0:=HR2.free (j:=0) (by simp [bdL]);have z1:=HR2.cell (j:=1) rfl;have zf1:=HR2.free (j:=1) (by simp [bdL]);have z2:=HR2.cell (j:=2) rfl;have zf2:=HR2.free (j:=2) (by simp [bdL]);have z3:=HR2.cell (j:=3) rfl;have zf3:=HR2.free (j:=3) (by simp [bdL]);have z4:=HR2.cell (j:=4) rfl;have zf4:=HR2.free (j:=4) (by simp [bdL]);have PF:Hid (∀ v0 v1 v2 v3 v4,Below w.heap.size w (((((w1.setCell ⟨w.heap.size+1,0,none⟩ v0).setCell ⟨w.heap.size+1,1,none⟩ v1).setCell ⟨w.heap.size+1,2,none⟩ v2).setCell ⟨w.heap.size+1,3,none⟩ v3).setCell ⟨w.heap.size+1,4,none⟩ v4)):=fun v0 v1 v2 v3 v4=>(((((HW.out.setCell (p:=⟨w.heap.size+1,0,none⟩) hRw v0).setCell (p:=⟨w.heap.size+1,1,none⟩) hRw v1).setCell (p:=⟨w.heap.size+1,2,none⟩) hRw v2).setCell (p:=⟨w.heap.size+1,3,none⟩) hRw v3).setCell (p:=⟨w.heap.size+1,4,none⟩) hRw v4)
 clear HB1 HRB HB2 HR2;by_cases hk:findI f xs < 0
 ·have HX:Hid (ans=bdZ):=by unfold Hid; rw [HV.out,find_no f xs hk]; split<;>rfl
  generalize findI f xs=k at *;go_wp2_with fail
  refine bodyPost_ret (v:=.agg #[.int .i64 0,.string ⟨#[]⟩,.int .i64 0,.string ⟨#[]⟩,.int .i64 0]) (by simp [results,Tryz.results42,go_sem,z0,z1,z2,z3,z4]) rfl (And.intro (congrArg (fun x=>Ending.returned (bdC x)) HX.out.symm) (PF.out _ _ _ _ _))
 ·obtain ⟨i,hi,hfi,hfd⟩:=findBd_at f xs hk;rw [hfi];clear hk hfi;by_cases hs:20000 < s.size
  ·have HX:Hid (ans=bdZ):=by unfold Hid; rw [HV.out,if_pos hs]
   have hs':(20000:Int) < (s.size:Int):=by omega
   go_wp2_with fail
   refine bodyPost_ret (v:=.agg #[.int .i64 0,.string ⟨#[]⟩,.int .i64 0,.string ⟨#[]⟩,.int .i64 0]) (by simp [results,Tryz.results42,go_sem,z0,z1,z2,z3,z4]) rfl (And.intro (congrArg (fun x=>Ending.returned (bdC x)) HX.out.symm) (PF.out _ _ _ _ _))
  ·obtain ⟨b,off,rfl,hb,hat⟩:=HS2.out.at hi;have hA:=hat i hi;obtain ⟨q,hq⟩ : ∃ q,xs[i]=q:=⟨_,rfl⟩;rw [hq] at hA hfd;have HX:Hid (ans=q):=by unfold Hid; rw [HV.out,if_neg hs,hfd]; rfl
   have c0:w1.cell? ⟨b,off+i*5,none⟩=some (.int .i64 q.proto):=hA 0 _ rfl;have c1:w1.cell? ⟨b,off+i*5+1,none⟩=some (.string q.inn):=hA 1 _ rfl;have c2:w1.cell? ⟨b,off+i*5+2,none⟩=some (.int .i64 q.inPort):=hA 2 _ rfl;have c3:w1.cell? ⟨b,off+i*5+3,none⟩=some (.string q.out):=hA 3 _ rfl;have c4:w1.cell? ⟨b,off+i*5+4,none⟩=some (.int .i64 q.outPort):=hA 4 _ rfl;have hs':¬ (20000:Int) < (s.size:Int):=by omega
   clear hA hat hq hfd;go_wp2_with fail
   refine bodyPost_ret (v:=.agg #[.int .i64 q.proto,.string q.inn,.int .i64 q.inPort,.string q.out,.int .i64 q.outPort]) (by simp [results,Tryz.results42,go_sem,z0,z1,z2,z3,z4]) rfl (And.intro (congrArg (fun x=>Ending.returned (bdC x)) HX.out.symm) (PF.out _ _ _ _ _))
theorem spHas_any (p:Bd) (q:Ss) (w:World) :
  Calls Tryz.prog 33 #[bdC p,ssC q] w fun e w'=>e=.returned (.bool (hasS p q))∧Below w.heap.size w w':=by
 have HV:Hid (hasS p q=(decide (p.proto=q.proto)&&decide (p.inn.toList=q.inn.toList)&&decide (p.inPort=q.inPort))):=rfl;generalize hasS p q=ans at *;obtain ⟨proto,inn,inPort,out,outPort⟩:=p;obtain ⟨proto',inn',inPort',peer',peerPort',state',untl'⟩:=q;unfold bdC ssC;dsimp only at *;have HZ:Hid (∀ o1 o2,Below w.heap.size w ((w.alloc o1).alloc o2)):=fun o1 o2=>((Below.refl _ _).alloc (Nat.le_refl _) _).alloc (by simp) _
 go_enter Tryz.func33,Tryz.ntmps33
 go_wp2_with fail
 all_goals go_ret
 all_goals exact ⟨ret_bool (by rw [HV.out]; simp_all; try rfl),HZ.out _ _⟩
end Go.Proofs.YtjpdljkjalnmhaaGreatDoor
namespace Go.Proofs.YtjpdljkjalnmhaaGreatDoor
open Go.RowKit
def ofHost (inn:ByteArray) (c:Bd):Bool:=decide (c.inn.toList=inn.toList)
def outD (p:Pl) (inn:ByteArray):ByteArray:=(p.addrs[(sumV inn).toNat % p.addrs.length]?).getD ⟨#[]⟩
def outIn (xs:List Bd) (d inn:ByteArray):ByteArray:=match xs.find? (ofHost inn) with | some c=>c.out | none=>d
def freeP (xs:List Bd) (proto:Int) (out:ByteArray) (n:Int):Bool:=decide (findI (ofOut proto out n) xs < 0)
def leastN (f:Int→Bool):Int→Nat→Option Int
 | _,0=>none
 | lo,c+1=>if f lo=true then some lo else leastN f (lo+1) c
def lendN (p:Pl) (xs:List Bd) (proto:Int) (out:ByteArray) (port:Int):Option Int :=
 if (isIn port p.low p.high&&freeP xs proto out port)=true then some port
 else match leastN (fun n=>decide (n % 2=port % 2)&&freeP xs proto out n) p.low (p.high-p.low+1).toNat with
  | some n=>some n
  | none=>leastN (freeP xs proto out) p.low (p.high-p.low+1).toNat
def lendV (p:Pl) (xs:List Bd) (proto:Int) (inn:ByteArray) (port:Int):Bd × Int :=
 match xs.find? (ofIn proto inn port) with
 | some c=>(c,0)
 | none=>match lendN p xs proto (outIn xs (outD p inn) inn) port with
  | some n=>(⟨proto,inn,port,outIn xs (outD p inn) inn,n⟩,0)
  | none=>(bdZ,9)
theorem leastN_step {f:Int→Bool} {n hi:Int} (h:n≤hi):leastN f n (hi-n+1).toNat=if f n=true then some n else leastN f (n+1) (hi-(n+1)+1).toNat:=by
 obtain ⟨c,hc⟩ : ∃ c:Nat,(hi-n+1).toNat=c+1:=⟨(hi-n).toNat,by omega⟩;rw [hc];show (if f n=true then some n else leastN f (n+1) c)=_;rw [show (hi-(n+1)+1).toNat=c by omega]
theorem leastN_end {f:Int→Bool} {n hi:Int} (h:hi < n):leastN f n (hi-n+1).toNat=none:=by
 rw [show (hi-n+1).toNat=0 by omega]; rfl
theorem outIn_step {xs:List Bd} {d inn:ByteArray} {i:Nat} (h:i < xs.length):outIn (xs.drop i) d inn=if ofHost inn xs[i]=true then xs[i].out else outIn (xs.drop (i+1)) d inn:=by
 unfold outIn;rw [List.drop_eq_getElem_cons h,List.find?_cons]
 cases hb:ofHost inn xs[i]<;>simp
theorem below_grown {n:Nat} {w w1 W:World} {B:Nat} (h:Below n w w1) (hg:w1.grownBy W (some B)) (hB:n≤B) (hn:n≤w1.heap.size:=by omega):Below n w W :=
 ⟨hg.os.trans h.os,hg.tape.trans h.tape,hg.output.trans h.output,Nat.le_trans h.size hg.size,fun k hk=>by rw [hg.block k (by omega) (by simp; omega),h.block k hk]⟩
section
variable {α:Type} (en:α→List Value) (n:Nat)
def flatS (xs:List α):List Value:=xs.flatMap en
def SlOwn (base:Nat) (w:World) (a:Option Addr) (xs:List α):Prop:=xs=[]∨∃ g,a=some ⟨g,0,none⟩∧base≤g∧SlLaid en n w g xs xs.length xs.length
def SlRet (w:World) (ys:List α):Ending→World→Prop:=fun e w'=>∃ a cap,e=.returned (.slice a ys.length cap)∧ys.length≤cap∧SlOwn en n w.heap.size w' a ys∧Below w.heap.size w w'
def MkOwn (em:Nat→List Value) (base:Nat) (w:World) (a:Option Addr) (k L:Nat):Prop:=L=0∨∃ g,a=some ⟨g,0,none⟩∧base≤g∧SlLaid em n w g ((List.range L).map fun i=>k+n*i) L L
structure Row (base:Nat) (e:TypeId) (v:Value) (xs:List α) (w0 w:World):Prop where
 own:w.ownsRow base e n v xs.length (flatS en xs)
 bel:Below base w0 w
end
section
variable {α:Type} {en:α→List Value} {n:Nat} {w w0 W:World} {base:Nat} {e:TypeId} {v:Value} {xs:List α}
theorem flatS_length (hn:∀ x,(en x).length=n):∀ xs:List α,(flatS en xs).length=xs.length*n
 | []=>by simp [flatS]
 | x::xs=>by
  have:=flatS_length hn xs;unfold flatS at *;rw [List.flatMap_cons,List.length_append,this,hn,List.length_cons,Nat.succ_mul]; omega
theorem flatS_snoc (xs:List α) (q:α):flatS en (xs++[q])=flatS en xs++en q:=by
 unfold flatS; rw [List.flatMap_append]; simp
theorem flatS_get (hn:∀ x,(en x).length=n):∀ (xs:List α) (i:Nat) (h:i < xs.length) (j:Nat) (u:Value),(en xs[i])[j]?=some u→(flatS en xs)[i*n+j]?=some u
 | [],i,h,_,_,_=>by simp at h
 | x::xs,0,h,j,u,hu=>by
  have hj:=(List.getElem?_eq_some_iff.1 hu).1;unfold flatS;rw [List.flatMap_cons,Nat.zero_mul,Nat.zero_add,List.getElem?_append_left (by simpa using hj)];simpa using hu
 | x::xs,i+1,h,j,u,hu=>by
  have:=flatS_get hn xs i (by simpa using h) j u (by simpa using hu);unfold flatS at *;rw [List.flatMap_cons,List.getElem?_append_right (by rw [hn,Nat.succ_mul]; omega),hn];rw [show (i+1)*n+j-n=i*n+j by rw [Nat.succ_mul]; omega];exact this
theorem flatS_cells (hn:∀ x,(en x).length=n) (hn0:0 < n) {b off:Nat} (h:SlAt en n w b off xs) (j:Nat) (u:Value) (hu:(flatS en xs)[j]?=some u):w.cell? ⟨b,off+j,none⟩=some u:=by
 have hj:=(List.getElem?_eq_some_iff.1 hu).1;rw [flatS_length hn] at hj;have hi:j / n < xs.length:=(Nat.div_lt_iff_lt_mul hn0).2 hj;have hr:j % n < (en xs[j / n]).length:=by rw [hn]; exact Nat.mod_lt _ hn0
 have h1:=flatS_get hn xs (j / n) hi (j % n) _ (List.getElem?_eq_getElem hr);have e:j / n*n+j % n=j:=by rw [Nat.mul_comm]; exact Nat.div_add_mod j n
 rw [e,hu] at h1;have h2:=h (j / n) hi (j % n) _ (List.getElem?_eq_getElem hr);rw [Nat.add_assoc,e] at h2;rw [h2,h1]
theorem Row.kept (h:Row en n base e v xs w0 w) (hb:Below w.heap.size w W) (hl:base≤w.heap.size):Row en n base e v xs w0 W :=
 ⟨h.own.kept (grown_of_below (r:=none) hb) (by cases v.ownBlock<;>simp),h.bel.trans (hb.mono hl)⟩
theorem Row.append (h:Row en n base e v xs w0 w) {o:Obj} {q:α} {v':Value} (hl:base≤w.heap.size) (hown:W.ownsRow base e n v' (xs.length+1) (flatS en xs++en q)) (hgrow:(w.alloc o).grownBy W v.ownBlock):Row en n base e v' (xs++[q]) w0 W:=by
 have hlo:∀ k,v.ownBlock=some k→base≤k:=fun k hk=>(h.own.lt k hk).1
 refine ⟨by rw [flatS_snoc]; simpa using hown,?_⟩;have h1:Below base w0 (w.alloc o):=h.bel.alloc hl o;refine ⟨hgrow.os.trans h1.os,hgrow.tape.trans h1.tape,hgrow.output.trans h1.output,Nat.le_trans h1.size hgrow.size,fun k hk=>?_⟩;rw [hgrow.block k (Nat.lt_of_lt_of_le hk (Nat.le_trans hl (by simp))) (fun e2=>by have:=hlo k e2.symm; omega),h1.block k hk]
theorem Row.down (h:Row en n base e v xs w W) {b0:Nat} (hb:Below b0 w0 w) (hle:b0≤base):Row en n b0 e v xs w0 W:=by
 refine ⟨⟨h.own.1,?_⟩,hb.trans (h.bel.mono hle)⟩;rcases h.own.2 with h1 | ⟨g,cap,cur,h1,h2,h3⟩
 ·exact .inl h1
 ·exact .inr ⟨g,cap,cur,h1,Nat.le_trans hle h2,h3⟩
theorem Row.laid (hn:∀ x,(en x).length=n) {g cap:Nat} (h:w.ownsRow base e n (.slice (some ⟨g,0,none⟩) xs.length cap) xs.length (flatS en xs)):SlLaid en n w g xs xs.length xs.length:=by
 have hs:SlLaid en n w g xs xs.length 0:=SlLaid.start h;refine ⟨hs.blk,fun i hi _ j u hu=>?_,hs.there,hs.free⟩;have hj:j < n:=by have:=(List.getElem?_eq_some_iff.1 hu).1; rwa [hn] at this
 have hb:i*n+j < xs.length*n:=by have:=Nat.mul_le_mul_right n (show i+1≤xs.length from hi); rw [Nat.succ_mul] at this; omega
 rw [h.cellAt _ hb];exact flatS_get hn xs i hi j u hu
theorem Row.shape (hn:∀ x,(en x).length=n) (h:Row en n base e v xs w0 w):∃ a cap,v=.slice a xs.length cap∧xs.length≤cap∧SlOwn en n base w a xs:=by
 rcases h.own.2 with ⟨h1,h2⟩ | ⟨g,cap,cur,h1,hb,hg,hc,_⟩
 ·have hx:xs.length=0:=by simpa using h2
  exact ⟨none,0,by rw [h1,hx],by omega,.inl (List.length_eq_zero_iff.1 hx)⟩
 ·refine ⟨some ⟨g,0,none⟩,cap,h1,hc,.inr ⟨g,rfl,hb,?_⟩⟩;have:=h.own;rw [h1] at this;exact Row.laid hn this
theorem SlRet.nil {cap:Nat} {a:Option Addr} {v:Value} (hv:v=.slice a 0 cap) (h:Below w.heap.size w W):SlRet en n w [] (.returned v) W:=⟨a,cap,by rw [hv]; rfl,Nat.zero_le _,.inl rfl,h⟩
theorem SlRet.row (hn:∀ x,(en x).length=n) (h:Row en n w.heap.size e v xs w W):SlRet en n w xs (.returned v) W:=by
 obtain ⟨a,cap,h1,h2,h3⟩:=h.shape hn;exact ⟨a,cap,by rw [h1],h2,h3,h.bel⟩
theorem SlOwn.is {a:Option Addr} (h:SlOwn en n base w a xs):SlIs en n w a xs:=by
 rcases h with h | ⟨g,rfl,_,h⟩
 ·exact .inl h
 ·exact h.is
theorem SlOwn.grown {a:Option Addr} (h:SlOwn en n base w a xs) {B:Nat} (hg:w.grownBy W (some B)) (hB:B < base):SlOwn en n base W a xs:=by
 rcases h with h | ⟨g,rfl,h1,h⟩
 ·exact .inl h
 ·refine .inr ⟨g,rfl,h1,?_⟩;have hb:=hg.block g h.blk (by simp; omega);have hc:∀ o,W.cell? ⟨g,o,none⟩=w.cell? ⟨g,o,none⟩:=fun o=>by unfold World.cell?; rw [show (⟨g,o,none⟩ : Addr).block=g from rfl,hb]
  have hf:∀ o,W.frozen? ⟨g,o,none⟩=w.frozen? ⟨g,o,none⟩:=fun o=>World.frozen?_of_block (a:=⟨g,o,none⟩) hb
  exact ⟨Nat.lt_of_lt_of_le h.blk hg.size,fun i hi hk j u hu=>(hc _).trans (h.at0 i hi hk j u hu),fun i hi=>by rw [hc]; exact h.there i hi,fun i hi=>by rw [hf]; exact h.free i hi⟩
theorem MkOwn.kept {em:Nat→List Value} {a:Option Addr} {k L:Nat} (h:MkOwn n em base w a k L) (hb:Below w.heap.size w W):MkOwn n em base W a k L:=by
 rcases h with h | ⟨g,rfl,h1,h⟩
 ·exact .inl h
 ·exact .inr ⟨g,rfl,h1,h.kept hb⟩
theorem SlOwn.down {a:Option Addr} (h:SlOwn en n base w a xs) {b0:Nat} (hb:b0≤base):SlOwn en n b0 w a xs:=by
 rcases h with h | ⟨g,rfl,h1,h⟩
 ·exact .inl h
 ·exact .inr ⟨g,rfl,Nat.le_trans hb h1,h⟩
theorem SlOwn.kept {a:Option Addr} (h:SlOwn en n base w a xs) (hb:Below w.heap.size w W):SlOwn en n base W a xs:=by
 rcases h with h | ⟨g,rfl,h1,h⟩
 ·exact .inl h
 ·exact .inr ⟨g,rfl,h1,h.kept hb⟩
end
end Go.Proofs.YtjpdljkjalnmhaaGreatDoor
