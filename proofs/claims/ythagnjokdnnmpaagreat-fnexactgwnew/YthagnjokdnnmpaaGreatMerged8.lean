import Derived.Test.YthagnjokdnnmpaaGreatMerged7
import Derived.Deep.Slices
import Derived.WideShapes
import Derived.Laws.IdiomStrings
import Derived.Test.YthagnjokdnnmpaaGreatMerged5
import Derived.Test.YthagnjokdnnmpaaGreatMerged3
import Derived.Test.YthagnjokdnnmpaaGreatMerged1
import Derived.Test.YthagnjokdnnmpaaGreatMerged2
set_option linter.unusedVariables false
set_option linter.unusedSimpArgs false
set_option maxRecDepth 100000
set_option maxHeartbeats 8000000
namespace Go.Proofs.YthagnjokdnnmpaaGreat
open Go.RowKit Go.PlainAid Go.ChangeShapes Go.WideShapes
def RtsIs (w:World) (a:Option Addr) (rs:List Rt):Prop:=rs=[]∨∃ b off,a=some ⟨b,off,none⟩∧b < w.heap.size∧RtsAt w b off rs
def RtsWf (rs:List Rt):Prop:=rs.length≤maxLen∧∀ q∈rs,q.addr.size≤maxLen∧(-9223372036854775808≤q.bits∧q.bits≤9223372036854775807)∧(-9223372036854775808≤q.hop∧q.hop≤9223372036854775807)
theorem RtsIs.below {w W:World} {a:Option Addr} {rs:List Rt} (h:RtsIs w a rs) (hB:Below w.heap.size w W):RtsIs W a rs:=by
 rcases h with h | ⟨b,off,ha,hb,hr⟩
 ·exact .inl h
 ·exact .inr ⟨b,off,ha,Nat.lt_of_lt_of_le hb hB.size,hr.below hb hB⟩
instance:Inhabited Rt:=⟨⟨ByteArray.empty,0,0⟩⟩
section
variable {H:Type} {enc:TypeId × Value→H} {w:World} {base:Nat} {spare:Nat→Bool} {held:Bool}
theorem wf64 {n:Int} (h:(Lit.int .i64 n).wf=true) : -9223372036854775808≤n∧n≤9223372036854775807:=by
 have:=h; simp [Lit.wf] at this; exact ⟨this.1,this.2⟩
theorem route_elem {n:Nat} {cs:List Value} {y:DataW H × List MemPlace} (h:DataW.trod enc Tryz.prog w base spare held n 91 cs=some y) :
  ∃ q:Rt,cs=[.string q.addr,.int .i64 q.bits,.int .i64 q.hop]∧q.addr.size≤maxLen∧(-9223372036854775808≤q.bits∧q.bits≤9223372036854775807)∧(-9223372036854775808≤q.hop∧q.hop≤9223372036854775807):=by
 obtain ⟨xs,m,_,_,hl,hx,hf⟩:=DataW.trod_struct Tryz.underlying91 h;rw [show Tryz.prog.cellsOf 91=3 by kernel_rfl] at hl;match cs,hl with
 | [c0,c1,c2],_ =>
  have h0:DataW.trod enc Tryz.prog w base spare held m 49 (([c0,c1,c2].drop 0).take (Tryz.prog.cellsOf 49))=xs[0]?:=hf 0 _ rfl;have h1:DataW.trod enc Tryz.prog w base spare held m 2 (([c0,c1,c2].drop 2).take (Tryz.prog.cellsOf 2))=xs[1]?:=hf 1 _ rfl;have hx0:0 < xs.length:=by rw [hx]; simp
  have hx1:1 < xs.length:=by rw [hx]; simp
  rw [List.getElem?_eq_getElem hx0] at h0;rw [List.getElem?_eq_getElem hx1] at h1;rw [show Tryz.prog.cellsOf 49=2 by kernel_rfl] at h0;rw [show Tryz.prog.cellsOf 2=1 by kernel_rfl] at h1;simp at h0 h1;obtain ⟨ys,m2,_,_,_,hy,hg⟩:=DataW.trod_struct Tryz.underlying49 h0;have g0:DataW.trod enc Tryz.prog w base spare held m2 9 (([c0,c1].drop 0).take (Tryz.prog.cellsOf 9))=ys[0]?:=hg 0 _ rfl;have g1:DataW.trod enc Tryz.prog w base spare held m2 2 (([c0,c1].drop 1).take (Tryz.prog.cellsOf 2))=ys[1]?:=hg 1 _ rfl;have hy0:0 < ys.length:=by rw [hy]; simp
  have hy1:1 < ys.length:=by rw [hy]; simp
  rw [List.getElem?_eq_getElem hy0] at g0;rw [List.getElem?_eq_getElem hy1] at g1;rw [show Tryz.prog.cellsOf 9=1 by kernel_rfl] at g0;rw [show Tryz.prog.cellsOf 2=1 by kernel_rfl] at g1;simp at g0 g1;obtain ⟨s,es,_,ws⟩:=DataW.trod_string Tryz.underlying9 g0;obtain ⟨b,eb,_,wb⟩:=DataW.trod_int Tryz.underlying2 g1;obtain ⟨k,ek,_,wk⟩:=DataW.trod_int Tryz.underlying2 h1;simp only [List.cons.injEq,and_true] at es eb ek;subst es eb ek;exact ⟨⟨s,b,k⟩,rfl,ws,wf64 wb,wf64 wk⟩
theorem open_routes {fuel:Nat} {a:Option Addr} {len cap:Nat} {x:DataW H × List MemPlace} (h:DataW.trod enc Tryz.prog w base spare held fuel 45 [.slice a len cap]=some x) :
  ∃ rs:List Rt,rs.length=len∧RtsWf rs∧RtsIs w a rs:=by
 rcases Go.Deep.open_slice Tryz.underlying45 h with ⟨hcs,_⟩ | ⟨a',len',cap',m,n,D,Pl,hcs,_,hl,hm,hmm,_,hel⟩
 ·simp at hcs;obtain ⟨rfl,rfl,rfl⟩:=hcs;exact ⟨[],rfl,⟨by simp,fun q hq=>by simp at hq⟩,.inl rfl⟩
 ·simp at hcs;obtain ⟨rfl,rfl,rfl⟩:=hcs;have hle:len≤m:=by rw [hmm]; split<;>omega
  rw [show Tryz.prog.cellsOf 91=3 by kernel_rfl] at hel;have hq:∀ i,i < len→∃ q:Rt,w.cells? base (a'.add (i*3)) 3=some [.string q.addr,.int .i64 q.bits,.int .i64 q.hop]∧q.addr.size≤maxLen∧(-9223372036854775808≤q.bits∧q.bits≤9223372036854775807)∧(-9223372036854775808≤q.hop∧q.hop≤9223372036854775807):=fun i hi=>by
   obtain ⟨cs',h1,h2⟩:=hel i (by omega);obtain ⟨q,rfl,hq⟩:=route_elem h2;exact ⟨q,h1,hq⟩
  obtain ⟨f,hf⟩:=Go.Deep.choose_lt hq;have hcell:∀ i,i < len→w.cell? (a'.add (i*3))=some (.string (f i).addr)∧w.cell? (a'.add (i*3+1))=some (.int .i64 (f i).bits)∧w.cell? (a'.add (i*3+2))=some (.int .i64 (f i).hop):=fun i hi=>by
   have h1:=(hf i hi).1;unfold World.cells? at h1;split at h1
   ·rw [show List.range 3=[0,1,2] from rfl] at h1;simp only [List.mapM_cons,List.mapM_nil,Go.Deep.add_add] at h1;simp only [Option.bind_eq_bind,Option.bind_eq_some_iff,Option.pure_def,Option.some.injEq,List.cons.injEq] at h1;obtain ⟨v0,e0,r1,⟨v1,e1,r2,⟨v2,e2,r3,hr3,hr2⟩,hr1⟩,hv0,hr0⟩:=h1;subst hv0;subst hr1;simp only [List.cons.injEq] at hr0;obtain ⟨rfl,hr0⟩:=hr0;subst hr2;simp only [List.cons.injEq] at hr0;obtain ⟨rfl,_⟩:=hr0;exact ⟨by simpa using e0,e1,e2⟩
   ·simp at h1
  refine ⟨(List.range len).map f,by simp,⟨by simp; omega,fun q hq=>?_⟩,?_⟩
  ·simp only [List.mem_map,List.mem_range] at hq;obtain ⟨i,hi,rfl⟩:=hq;exact (hf i hi).2
  ·by_cases h0:len=0
   ·subst h0; exact .inl rfl
   ·right
    have hc0:=(hcell 0 (by omega)).1;obtain ⟨b,off,spot⟩:=a';have hz:((⟨b,off,spot⟩ : Addr).add (0*3))=⟨b,off,spot⟩:=rfl;rw [hz] at hc0;have hspot:spot=none:=by
     unfold World.cell? at hc0;split at hc0
     ·cases spot with
      | none=>rfl
      | some _=>simp at hc0
     ·simp at hc0
    subst hspot;have hblk:b < w.heap.size:=by
     unfold World.cell? at hc0;by_cases hb:b < w.heap.size
     ·exact hb
     ·rw [show w.heap[(⟨b,off,none⟩ : Addr).block]?=none from Array.getElem?_eq_none (by show w.heap.size≤b; omega)] at hc0;simp at hc0
    have hadd:∀ n,((⟨b,off,none⟩ : Addr).add n)=⟨b,off+n,none⟩:=fun n=>by
     unfold Addr.add; split
     ·next e=>subst e; rfl
     ·rfl
    refine ⟨b,off,rfl,hblk,⟨fun i hi=>?_,fun i hi=>?_,fun i hi=>?_⟩⟩
    ·have:=(hcell i (by simpa using hi)).1; rw [hadd] at this; simpa using this
    ·have:=(hcell i (by simpa using hi)).2.1; rw [hadd] at this; simpa [Nat.add_assoc] using this
    ·have:=(hcell i (by simpa using hi)).2.2; rw [hadd] at this; simpa [Nat.add_assoc] using this
end
end Go.Proofs.YthagnjokdnnmpaaGreat
namespace Go.Proofs.YthagnjokdnnmpaaGreat
open Go.RowKit Go.PlainAid
def bytesOf (n:Nat) (f:Nat→Int):ByteArray:=⟨((List.range n).map fun i=>UInt8.ofNat (f i).toNat).toArray⟩
theorem bytesOf_size (n:Nat) (f:Nat→Int):(bytesOf n f).size=n:=by simp [bytesOf,ByteArray.size]
theorem bytesOf_bt {n:Nat} {f:Nat→Int} {i:Nat} (hi:i < n) (h0:0≤f i) (h1:f i≤255):bt (bytesOf n f) i=f i:=by
 have hs:=bytesOf_size n f;unfold bt;rw [dif_pos (by omega),ByteArray.getElem_eq_getElem_data];simp only [bytesOf,List.getElem_toArray,List.getElem_map,List.getElem_range,UInt8.toNat_ofNat'];omega
theorem ba_ext {a b:ByteArray} (hs:a.size=b.size) (h:∀ i,i < a.size→bt a i=bt b i):a=b:=by
 apply ByteArray.ext;apply Array.ext
 ·exact hs
 ·intro i h1 h2;have hi:=h i h1;unfold bt at hi;rw [dif_pos (show i < a.size from h1),dif_pos (show i < b.size from h2),ByteArray.getElem_eq_getElem_data,ByteArray.getElem_eq_getElem_data] at hi;exact UInt8.toNat_inj.1 (by exact_mod_cast hi)
structure Holds (w:World) (B n:Nat) (f:Nat→Int):Prop where
 get:∀ i,i < n→w.cell? ⟨B,i,none⟩=some (.int .u8 (f i))∧w.frozen? ⟨B,i,none⟩=false
theorem Holds.set {w:World} {B n:Nat} {f:Nat→Int} (h:Holds w B n f) (j:Nat) (hj:j < n) (x:Int):Holds (w.setCell ⟨B,j,none⟩ (.int .u8 x)) B n (fun i=>if i=j then x else f i):=by
 refine ⟨fun i hi=>⟨?_,by rw [World.frozen?_setCell]; exact (h.get i hi).2⟩⟩;by_cases e:i=j
 ·subst e; show _=some (Value.int .u8 (if i=i then x else f i)); rw [if_pos rfl]; exact World.cell?_setCell_same _ _ _ (h.get i hi).1
 ·show _=some (Value.int .u8 (if i=j then x else f i)); rw [if_neg e,World.cell?_setCell_other _ _ _ _ (fun e2=>e (by injection e2 with _ h2; exact h2.symm))]; exact (h.get i hi).1
theorem Holds.conv {w:World} {B n cap:Nat} {f:Nat→Int} (h:Holds w B n f) (hf:isByte f) :
  (convert 22 9 (.slice (some ⟨B,0,none⟩) n cap)).run Tryz.prog w=.ok (.string (bytesOf n f)) w:=by
 have hl:((List.range n).map fun i=>UInt8.ofNat (f i).toNat).length=n:=by simp
 have:=run_convert_bytes_back (P:=Tryz.prog) w 22 9 5 ⟨B,0,none⟩ cap ((List.range n).map fun i=>UInt8.ofNat (f i).toNat) Tryz.underlying22 Tryz.underlying5 Tryz.underlying9 (by
  intro j hj;have hj':j < n:=by simpa using hj
  have ha:Addr.add ⟨B,0,none⟩ j=⟨B,j,none⟩:=by simp only [Addr.add,Nat.zero_add]; split<;>simp_all
  rw [ha,(h.get j hj').1];have:=hf j;simp only [List.getElem_map,List.getElem_range,UInt8.toNat_ofNat'];congr 2; omega)
 rw [hl] at this;exact this
def posE (at1 k:Nat):Nat:=if at1≤8∧8≤at1+k then at1+k+1 else at1+k
def natBits (b:Int):Bool:=b==96||(decide (32≤b)&&decide (b≤64)&&b % 8==0)
def natOk (s:ByteArray) (b:Int):Bool:=prefixOk s b&&s.size==16&&natBits b
theorem specNat_any (s:ByteArray) (b:Int) (w:World) (hs:s.size≤1048576) :
  Calls Tryz.prog 82 #[.agg #[.string s,.int .i64 b]] w fun e w'=>e=.returned (.bool (natOk s b))∧Below w.heap.size w w':=by
 have hB:Hid (Below w.heap.size w (w.alloc (.cells #[.string s,.int .i64 b] 30))):=(Below.refl _ _).alloc (Nat.le_refl _) _;by_cases hp:prefixOk s b=true
 ·obtain ⟨hb0,hb1,hsz⟩:=prefixOk_le hp;by_cases h16:s.size=16
  ·have HV:Hid (natOk s b=natBits b):=by unfold Hid natOk; simp [hp,h16]
   have e16:((s.size:Int)==16)=true:=by simp; omega
   have hb1':b≤128:=by omega
   clear hsz h16 hb1;go_enter Tryz.func82,Tryz.ntmps82
   go_wp2_with fail
   refine (specPrefixRight_any s b _ hs).mono ?_;rw [hp];rintro e w1 ⟨rfl,hb1⟩;obtain ⟨hc,hf⟩:=bcell hb1;have HB1:Hid _:=hB.out.trans (hb1.mono (by simp));clear hf hb1 hp;by_cases h96:b=96
   ·have HN:Hid (natBits b=true):=by unfold Hid natBits; simp [h96]
    have e96:(b==96)=true:=by simp [h96]
    clear h96;go_wp2
    go_ret;exact ⟨ret_bool (by rw [HV.out,HN.out]),HB1.out⟩
   ·have e96:(b==96)=false:=by simp [h96]
    by_cases h32:32≤b
    ·by_cases h64:b≤64
     ·have HN:Hid (natBits b=(b % 8==0)):=by unfold Hid natBits; simp [h96,h32,h64]
      go_wp2
      go_ret;exact ⟨ret_bool (by rw [HV.out,HN.out]),HB1.out⟩
     ·have HN:Hid (natBits b=false):=by unfold Hid natBits; simp [h96,h64]
      have e64:decide (b≤64)=false:=by simpa using h64
      go_wp2
      go_ret;exact ⟨ret_bool (by rw [HV.out,HN.out]),HB1.out⟩
    ·have HN:Hid (natBits b=false):=by unfold Hid natBits; simp [h96,h32]
     have e32:decide (32≤b)=false:=by simpa using h32
     go_wp2
     go_ret;exact ⟨ret_bool (by rw [HV.out,HN.out]),HB1.out⟩
  ·have HV:Hid (natOk s b=false):=by unfold Hid natOk; simp [h16]
   have e16:((s.size:Int)==16)=false:=by simp; omega
   go_enter Tryz.func82,Tryz.ntmps82
   go_wp2_with fail
   refine (specPrefixRight_any s b _ hs).mono ?_;rw [hp];rintro e w1 ⟨rfl,hb1⟩;obtain ⟨hc,hf⟩:=bcell hb1;have HB1:Hid _:=hB.out.trans (hb1.mono (by simp));clear hf hb1;go_wp2
   go_ret;exact ⟨ret_bool HV.out.symm,HB1.out⟩
 ·have hp':prefixOk s b=false:=by simpa using hp
  have HV:Hid (natOk s b=false):=by unfold Hid natOk; simp [hp']
  go_enter Tryz.func82,Tryz.ntmps82
  go_wp2_with fail
  refine (specPrefixRight_any s b _ hs).mono ?_;rw [hp'];rintro e w1 ⟨rfl,hb1⟩;have HB1:Hid _:=hB.out.trans (hb1.mono (by simp));clear hb1;go_wp2
  go_ret;exact ⟨ret_bool HV.out.symm,HB1.out⟩
end Go.Proofs.YthagnjokdnnmpaaGreat
namespace Go.Proofs.YthagnjokdnnmpaaGreat
open Go.RowKit
structure Bxs (w:World) (ks:List (Nat × List Value)) (wx:World):Prop where
 k:∀ e∈ks,HoldsL wx e.1 e.2
 b:Below w.heap.size w wx
 z:∀ e∈ks,0 < e.2.length
theorem Bxs.at {w wx:World} {ks:List (Nat × List Value)} {a:Nat} {l:List Value} (h:Bxs w ks wx) (hm:(a,l)∈ks):HoldsL wx a l:=h.k _ hm
theorem Bxs.kept {w wx wy:World} {ks:List (Nat × List Value)} (h:Bxs w ks wx) (hB:Below wx.heap.size wx wy):Bxs w ks wy:=⟨fun e he=>(h.k e he).kept (h.z e he) hB,h.b.trans (hB.mono h.b.size),h.z⟩
theorem Bxs.lts {w wx:World} {ks:List (Nat × List Value)} (h:Bxs w ks wx):∀ e∈ks,e.1 < wx.heap.size∧0 < e.2.length:=fun e he=>⟨(h.k e he).lt (h.z e he),h.z e he⟩
theorem Bxs.push {w wx:World} {ks:List (Nat × List Value)} (h:Bxs w ks wx) (vs:List Value) (hv:0 < vs.length) (T:TypeId):Bxs w ((wx.heap.size,vs)::ks) (wx.alloc (.cells vs.toArray T)):=by
 have hal:Below wx.heap.size wx (wx.alloc (.cells vs.toArray T)):=(Below.refl _ _).alloc (Nat.le_refl _) _;refine ⟨fun e he=>?_,h.b.trans (hal.mono h.b.size),fun e he=>?_⟩
 ·rcases List.mem_cons.1 he with rfl | he
  ·exact HoldsL.new wx vs T
  ·exact (h.k e he).kept (h.z e he) hal
 ·rcases List.mem_cons.1 he with rfl | he
  ·exact hv
  ·exact h.z e he
theorem Bxs.cons {w wx:World} {ks:List (Nat × List Value)} {g:Nat} {vs:List Value} (h:Bxs w ks wx) (hg:HoldsL wx g vs) (hv:0 < vs.length):Bxs w ((g,vs)::ks) wx:=⟨fun e he=>by
 rcases List.mem_cons.1 he with rfl | he
 ·exact hg
 ·exact h.k e he,h.b,fun e he=>by
 rcases List.mem_cons.1 he with rfl | he
 ·exact hv
 ·exact h.z e he⟩
open Go.PlainAid Go.ChangeShapes Go.WideShapes
def LvWf (p:Lv):Prop:=In64t p.udp∧In64t p.echo∧In64t p.opening∧In64t p.opn∧In64t p.closing
structure BoxLives (w:World) (B:Nat) (p:Lv):Prop where
 c0:w.cell? ⟨B,0,none⟩=some (.int .i64 p.udp)
 c1:w.cell? ⟨B,1,none⟩=some (.int .i64 p.echo)
 c2:w.cell? ⟨B,2,none⟩=some (.int .i64 p.opening)
 c3:w.cell? ⟨B,3,none⟩=some (.int .i64 p.opn)
 c4:w.cell? ⟨B,4,none⟩=some (.int .i64 p.closing)
theorem BoxLives.kept {w W:World} {B:Nat} {p:Lv} (h:BoxLives w B p) (hB:Below w.heap.size w W):BoxLives W B p:=by
 have hb:=World.block_lt_of_cell? w _ h.c0;exact ⟨((bcell hB).1 B 0 hb).trans h.c0,((bcell hB).1 B 1 hb).trans h.c1,((bcell hB).1 B 2 hb).trans h.c2,((bcell hB).1 B 3 hb).trans h.c3,((bcell hB).1 B 4 hb).trans h.c4⟩
theorem BoxLives.new (w:World) (p:Lv) {t:TypeId}:BoxLives (w.alloc (.cells #[.int .i64 p.udp,.int .i64 p.echo,.int .i64 p.opening,.int .i64 p.opn,.int .i64 p.closing] t)) w.heap.size p:=⟨cell_new rfl,cell_new rfl,cell_new rfl,cell_new rfl,cell_new rfl⟩
section
variable {H:Type} {enc:TypeId × Value→H} {w:World} {base:Nat} {spare:Nat→Bool} {held:Bool}
end
theorem toLives_any (p:Lv) (w:World) :
  Calls Tryz.prog 48 #[lvC p] w fun e w'=>e=.returned (lvC p)∧Below w.heap.size w w':=by
 obtain ⟨udp,echo,opening,opn,closing⟩:=p;unfold lvC;dsimp only;go_enter Tryz.func48,Tryz.ntmps48
 go_wp2_with fail
 refine bodyPost_ret (v:=.agg #[.int .i64 udp,.int .i64 echo,.int .i64 opening,.int .i64 opn,.int .i64 closing]) (by simp [results,Tryz.results48,go_sem]) rfl ⟨rfl,?_⟩;exact (((Below.refl _ _).alloc (Nat.le_refl _) _).alloc (by simp) _).alloc (by simp; omega) _
theorem eqLives_same (p:Lv) (w:World) :
  Calls Tryz.prog 55 #[lvC p,lvC p] w fun e w'=>e=.returned (.bool true)∧Below w.heap.size w w':=by
 obtain ⟨udp,echo,opening,opn,closing⟩:=p;unfold lvC;dsimp only;have HZ:Hid (Below w.heap.size w ((w.alloc (.cells #[.int .i64 udp,.int .i64 echo,.int .i64 opening,.int .i64 opn,.int .i64 closing] 26)).alloc (.cells #[.int .i64 udp,.int .i64 echo,.int .i64 opening,.int .i64 opn,.int .i64 closing] 26))):=((Below.refl _ _).alloc (Nat.le_refl _) _).alloc (by simp) _;go_enter Tryz.func55,Tryz.ntmps55
 go_wp2_with fail
 go_ret;exact ⟨rfl,HZ.out⟩
end Go.Proofs.YthagnjokdnnmpaaGreat
