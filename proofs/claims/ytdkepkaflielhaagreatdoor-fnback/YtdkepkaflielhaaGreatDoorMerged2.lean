import Derived.Test.YtdkepkaflielhaaGreatDoorMerged1
import Derived.Laws.BitsLemmas
import Derived.Laws.Bits64
import Derived.Deep.QuietTactic
import Derived.WalkLawsBesides
import Derived.ChangeAlike
import Derived.Laws.IdiomStrings
import Derived.Deep.DeepCutAuto
import Derived.ChangeArms
import Derived.WideShapes
import Derived.ChangeShapes
import Derived.Deep.Slices
import Derived.OwnWalk
import Derived.Lib.LazyBuf
import Derived.Deep.AppendLies
import Derived.Orders
import Derived.Laws.StructEq
import Derived.Maps.Keyed
import Derived.Maps.AppendAt
import Derived.Maps.OwnOps
import Derived.BigQuiet
import Derived.OpenShut
import Derived.ChangeSame
import Derived.Lib.LaidTab
set_option linter.unusedVariables false
set_option linter.unusedSimpArgs false
set_option maxRecDepth 100000
set_option maxHeartbeats 8000000
namespace Go.Proofs.YtdkepkaflielhaaGreatDoor
open Go.PlainAid
def gE(a b:Int):Int:=if 65535 < a+b then a+b-65535 else a+b
theorem iR{a b:Int}(ha:0≤a)(ha':a≤65535)(hb:0≤b)(hb':b≤65535):0≤gE a b∧gE a b≤65535:=by
 unfold gE;split<;>omega
theorem LE(n:Int)(h0:0≤n)(h1:n < 2 ^ 63):IntKind.i64.wrap n=n:=by rw[IntKind.wrap_i64];omega
theorem qR(a b:Int)(ha:0≤a)(ha':a≤255)(hb:0≤b)(hb':b≤255):bits .or .i64 (a*256) b=a*256+b :=
 bits_join .i64 63 (by decide) LE 8 (a*256) b (by omega) (by omega) (by omega) hb (by omega) (by omega)
theorem qL(n:Int):bits .and .i64 n 65535=n % 65536:=by
 have h127:(BitVec.ofInt 64 65535).toNat=2 ^ 16-1:=by decide
 have key:(BitVec.ofInt 64 n &&& BitVec.ofInt 64 65535).toNat=(n % ((2 ^ 64:Nat):Int)).toNat % 2 ^ 16:=by
  rw[BitVec.toNat_and,BitVec.toNat_ofInt,h127,Nat.and_two_pow_sub_one_eq_mod]
 show IntKind.i64.wrap ((BitVec.ofInt 64 n &&& BitVec.ofInt 64 65535).toNat:Nat)=n % 65536;rw[key,IntKind.wrap_i64];omega
theorem CY(a b:Int)(ha:0≤a)(ha':a≤65535)(hb:0≤b)(hb':b≤65535):(a+b) % 65536+(a+b) / 65536=gE a b:=by
 unfold gE;split<;>omega
def aM(f:Nat→Int)(i:Nat):Int:=f i*256+f (i+1)
def gM(f:Nat→Int):Nat→Int
 | 0=>0
 | k+1=>gE (gM f k) (aM f (2*k))
def oO(f:Nat→Int):Prop:=∀i,0≤f i∧f i≤255
theorem cW{f:Nat→Int}(h:oO f)(i:Nat):0≤aM f i∧aM f i≤65535:=by
 have h1:=h i;have h2:=h (i+1);unfold aM;omega
theorem lH{f:Nat→Int}(h:oO f)(k:Nat):0≤gM f k∧gM f k≤65535:=by
 induction k with
 | zero=>simp[gM]
 | succ k ih=>have:=cW h (2*k);exact iR ih.1 ih.2 this.1 this.2
theorem bH(s:BA):oO (bt s):=fun i=>⟨bt_nonneg s i,bt_le s i⟩
open Go.RowKit
theorem aK{k:IntKind}{a b:Int}(h:a=b):Ending.returned (.int k a)=.returned (.int k b):=by rw[h]
theorem aC{a b:Bool}(h:a=b):Ending.returned (.bool a)=.returned (.bool b):=by rw[h]
theorem rR{a b:BA}(h:a=b):Ending.returned (.string a)=.returned (.string b):=by rw[h]
theorem fV{w w1 w2:World}{r:Option Nat}(h:w.grownBy w1 r)(h2:w1.grownBy w2 r):w.grownBy w2 r :=
 ⟨h2.os.trans h.os,h2.tape.trans h.tape,h2.output.trans h.output,UL h.size h2.size,fun k hk hne=>(h2.block k (UX hk h.size) hne).trans (h.block k hk hne)⟩
theorem lE{w w1:World}{r:Option Nat}(h:w.grownBy w1 r):w.grownBy w1.drew r:=⟨h.os,h.tape,h.output,h.size,h.block⟩
theorem aB{w w1:World}{B o:Nat}(h:w.grownBy w1 (some B))(v:Value):w.grownBy (w1.setCell ⟨B,o,none⟩ v) (some B) :=
 ⟨h.os,h.tape,h.output,by rw[World.size_setCell];exact h.size,fun k hk hne=>(Below.heap_setCell w1 _ v k (fun e=>hne (by rw[e]))).trans (h.block k hk hne)⟩
theorem jG{w w1:World}{r:Option Nat}(h:Below w.heap.size w w1):w.grownBy w1 r:=⟨h.os,h.tape,h.output,h.size,fun k hk _=>h.block k hk⟩
theorem QX{w:World}{base e n B:Nat}{v:Value}{xs:List Value}(h:w.ownsRow base e 1 v n xs)(hB:B < base):v.ownBlock=none∨v.ownBlock≠some B:=by
 by_cases hv:v.ownBlock=some B
 ·have:=(h.lt B hv).1;omega
 ·exact .inr hv
theorem KM{w:World}{base e n:Nat}{v:Value}{xs:List Value}(h:w.ownsRow base e 1 v n xs)(hv:v≠.slice none 0 0):∃g cap,v=.slice (some ⟨g,0,none⟩) n cap∧w.ownsRow base e 1 (.slice (some ⟨g,0,none⟩) n cap) n xs:=by
 rcases h.2 with ⟨h1,_⟩|⟨g,cap,cur,h1,_⟩
 ·exact absurd h1 hv
 ·subst h1;exact⟨g,cap,rfl,h⟩
theorem iO{W w1:World}(hb:Below W.heap.size W w1):(∀b o,b < W.heap.size→w1.cell? ⟨b,o,none⟩=W.cell? ⟨b,o,none⟩)∧(∀b o,b < W.heap.size→w1.frozen? ⟨b,o,none⟩=W.frozen? ⟨b,o,none⟩) :=
 ⟨fun b o h=>hb.cell (p:=⟨b,o,none⟩) h,fun b o h=>hb.frozen (p:=⟨b,o,none⟩) h⟩
theorem rU(s:BA)(k:Nat)(w:World)(hk:k+1 < s.size)(hs:s.size≤maxLen) :
  Cb 42 #[.string s,iV k] w (iV (aM (bt s) k)):=by
 unfold maxLen at hs;have hb:=get_bt s;have b1:=bH s k;have b2:=bH s (k+1);have hj:=qR (bt s k) (bt s (k+1)) b1.1 b1.2 b2.1 b2.2;go_enter Tryz.func42,Tryz.ntmps42
 go_wp2
 go_region
 all_goals
  go_wp2
  go_ret;exact⟨aK rfl,bR.drew⟩
theorem lL(s:BA)(k:Nat)(w:World)(hk:k < s.size)(hs:s.size≤maxLen) :
  Cw 131 #[.string s,iV k] w (iV (aM (bt s) k)):=by
 unfold maxLen at hs;have hb:=get_bt s;have b1:=bH s k;have b2:=bH s (k+1);have hj:=qR (bt s k) (bt s (k+1)) b1.1 b1.2 b2.1 b2.2;by_cases h:k+1 < s.size
 ·go_enter Tryz.func131,Tryz.ntmps131
  go_wp2
  go_ret;exact⟨aK rfl,rfl⟩
 ·have h2:¬(k:Int)+1 < s.size:=by omega
  have HE:Hid (bt s (k+1)=0):=bt_end s (by omega);go_enter Tryz.func131,Tryz.ntmps131
  go_wp2
  go_ret;exact⟨aK (by unfold aM;rw[HE.out];omega),rfl⟩
theorem kI(a b:Int)(w:World)(ha:0≤a)(ha':a≤65535)(hb:0≤b)(hb':b≤65535) :
  Cw 75 #[iV a,iV b] w (iV (gE a b)):=by
 by_cases h:65535 < a+b
 ·have HV:Hid (gE a b=a+b-65535):=by unfold Hid gE;rw[if_pos h]
  go_enter Tryz.func75,Tryz.ntmps75
  go_wp2
  go_ret;exact⟨aK HV.out.symm,rfl⟩
 ·have HV:Hid (gE a b=a+b):=by unfold Hid gE;rw[if_neg h]
  go_enter Tryz.func75,Tryz.ntmps75
  go_wp2
  go_ret;exact⟨aK HV.out.symm,rfl⟩
def bN(s:BA):Int:=gM (bt s) ((s.size+1) / 2)
theorem dE(s:BA):0≤bN s∧bN s≤65535:=lH (bH s) _
theorem mJ(s:BA)(w:World)(hs:s.size≤1048578) :
  Cw 70 #[.string s] w (iV (bN s)):=by
 have hb:=get_bt s;go_enter Tryz.func70,Tryz.ntmps70
 go_wp2
 go_loop [3,4] (fun n i=>∃k:Nat,2*k≤s.size+1∧i=iV (2*(k:Int))∧n=iV (gM (bt s) k)) (fun _ i=>s.size+2-(intOf i).toNat)
 case atStart=>exact⟨0,VC _,rfl,rfl⟩
 case round=>
  obtain⟨k,hk,rfl,rfl⟩:=hrel;have hr:=lH (bH s) k;have hq:=cW (bH s) (2*k);have HW:Hid (aM (bt s) (2*k)=bt s (2*k)*256+bt s (2*k+1)):=rfl;have HN:Hid (gM (bt s) (k+1)=gE (gM (bt s) k) (aM (bt s) (2*k))):=rfl;have b1:=bH s (2*k);have b2:=bH s (2*k+1);have hj:=qR (bt s (2*k)) (bt s (2*k+1)) b1.1 b1.2 b2.1 b2.2;by_cases hlt:2*k < s.size
  ·by_cases h2:2*k+1 < s.size
   ·go_wp2_with (go_at_call 75;refine(kI _ _ _ hr.1 hr.2 (by omega) (by omega)).mono ?_;rintro e w' ⟨rfl,rfl⟩)
    go_round
    case rel=>exact⟨k+1,by omega,by go_num,by rw[HN.out,HW.out]⟩
    case measure=>simp[intOf];omega
   ·have HE:Hid (bt s (2*k+1)=0):=bt_end s (by omega);go_wp2_with (go_at_call 75;refine(kI _ _ _ hr.1 hr.2 (by omega) (by omega)).mono ?_;rintro e w' ⟨rfl,rfl⟩)
    go_round
    case rel=>exact⟨k+1,by omega,by go_num,by rw[HN.out,HW.out,HE.out,Int.add_zero]⟩
    case measure=>simp[intOf];omega
  ·go_wp2
   go_ret;exact⟨aK (by unfold bN;rw[show (s.size+1) / 2=k by omega]),rfl⟩
theorem rW(s:BA)(w:World)(hs:s.size≤1048578) :
  Cw 170 #[.string s] w (iV (bN s)):=by
 have hs':s.size≤maxLen:=by unfold maxLen;omega
 go_enter Tryz.func170,Tryz.ntmps170
 go_wp2
 go_loop [3,9] (fun n i=>∃k:Nat,k≤(s.size+1) / 2∧i=iV k∧n=iV (gM (bt s) k)) (fun _ i=>(s.size+1) / 2-(intOf i).toNat)
 case atStart=>exact⟨0,VC _,rfl,rfl⟩
 case round=>
  obtain⟨k,hk,rfl,rfl⟩:=hrel;have hr:=lH (bH s) k;have hq:=cW (bH s) (2*k);have HN:Hid (gM (bt s) (k+1)=gE (gM (bt s) k) (aM (bt s) (2*k))):=rfl;have HF:Hid _:=CY (gM (bt s) k) (aM (bt s) (2*k)) hr.1 hr.2 hq.1 hq.2;have ha:=qL (gM (bt s) k+aM (bt s) (2*k));by_cases hlt:k < (s.size+1) / 2
  ·have h2:2*k < s.size:=by omega
   go_wp2_with (go_at_call 131;refine(lL s (2*k) _ h2 hs').mono ?_;rintro e w' ⟨rfl,rfl⟩)
   go_round
   case rel=>exact⟨k+1,by omega,by go_num,by rw[HN.out,←HF.out]⟩
   case measure=>simp[intOf];omega
  ·go_wp2
   go_ret;exact⟨aK (by unfold bN;rw[show (s.size+1) / 2=k by omega]),rfl⟩
def cO(s:BA):Bool:=s.size==4||s.size==16
theorem pM{s:BA}(h:cO s=true):s.size=4∨s.size=16:=by simpa[cO] using h
theorem oI{s:BA}(h:s.size=4∨s.size=16):cO s=true:=by simpa[cO] using h
theorem yQ{s:BA}(h:¬(s.size=4∨s.size=16)):cO s=false:=by
 rw[Bool.eq_false_iff];intro hh;exact h (pM hh)
theorem jC(s:BA)(w:World) :
  Cw 65 #[.string s] w (.bool (cO s)):=by
 by_cases h4:s.size=4
 ·have HV:Hid (cO s=true):=oI (.inl h4);have h4':(s.size:Int)=4:=by omega
  clear h4;go_enter Tryz.func65,Tryz.ntmps65
  go_wp2
  go_ret;exact⟨aC HV.out.symm,rfl⟩
 ·by_cases h16:s.size=16
  ·have HV:Hid (cO s=true):=oI (.inr h16);have h16':(s.size:Int)=16:=by omega
   clear h16 h4;go_enter Tryz.func65,Tryz.ntmps65
   go_wp2
   go_ret;exact⟨aC HV.out.symm,rfl⟩
  ·have HV:Hid (cO s=false):=yQ (by omega);have e1:((s.size:Int)==4)=false:=by simp;omega
   have e2:((s.size:Int)==16)=false:=by simp;omega
   go_enter Tryz.func65,Tryz.ntmps65
   go_wp2
   go_ret;exact⟨aC HV.out.symm,rfl⟩
open Go.ChangeShapes Go.WideShapes
def gV(n:Int):Prop:=-9223372036854775808≤n∧n≤9223372036854775807
theorem bZ{w:World}{cs:Array Value}{t:TypeId}{j:Nat}{v:Value}(h:cs[j]?=some v):(w.alloc (.cells cs t)).cell? ⟨w.heap.size,j,none⟩=some v:=by
 simp[h]
section
variable {H:Type} {enc:TypeId × Value→H} {P:Program} {w:World} {base:Nat} {spare:Nat→Bool} {held:Bool}
end
section
variable {α:Type} (en:α→List Value) (n:Nat)
def FG(w:World)(b off:Nat)(xs:List α):Prop:=∀i (h:i < xs.length),w.rangeAt b (off+i*n) (en xs[i])
def bP(w:World)(a:OA)(xs:List α):Prop:=xs=[]∨∃b off,a=some ⟨b,off,none⟩∧b < w.heap.size∧FG en n w b off xs
structure gQ(w:World)(B:Nat)(xs:List α)(L k:Nat):Prop where
 blk:B < w.heap.size
 at0:∀i (h:i < xs.length),i < k→w.rangeAt B (i*n) (en xs[i])
 there:∀i,i < L*n→(w.cell? ⟨B,i,none⟩).isSome=true
 free:∀i,i < L*n→w.frozen? ⟨B,i,none⟩=false
end
section
variable {α:Type} {en:α→List Value} {n:Nat} {w W:World}
theorem FG.below{b off:Nat}{xs:List α}(h:FG en n w b off xs){m:Nat}(hb:b < m)(hB:Below m w W):FG en n W b off xs :=
 fun i hi j v hv=>(hB.cell (p:=⟨b,off+i*n+j,none⟩) hb).trans (h i hi j v hv)
theorem bP.below{a:OA}{xs:List α}(h:bP en n w a xs)(hB:Below w.heap.size w W):bP en n W a xs:=by
 rcases h with h|⟨b,off,ha,hb,hr⟩
 ·exact .inl h
 ·exact .inr ⟨b,off,ha,UX hb hB.size,hr.below hb hB⟩
theorem bP.grown{a:OA}{xs:List α}(h:bP en n w a xs){B:Nat}(hg:w.grownBy W (some B))(hne:xs=[]∨∀g o,a=some ⟨g,o,none⟩→g≠B):bP en n W a xs:=by
 rcases h with h|⟨b,off,ha,hb,hr⟩
 ·exact .inl h
 ·rcases hne with h0 | hne
  ·exact .inl h0
  ·have hbl:=hg.block b hb (by simp;exact hne b off ha);refine .inr ⟨b,off,ha,UX hb hg.size,fun i hi j v hv=>?_⟩;have hc:∀o,W.cell? ⟨b,o,none⟩=w.cell? ⟨b,o,none⟩:=fun o=>by unfold World.cell?;rw[show (⟨b,o,none⟩: Addr).block=b from rfl,hbl]
   exact(hc _).trans (hr i hi j v hv)
theorem bP.at{a:OA}{xs:List α}(h:bP en n w a xs){k:Nat}(hk:k < xs.length):∃b off,a=some ⟨b,off,none⟩∧b < w.heap.size∧FG en n w b off xs:=by
 rcases h with h|h
 ·rw[h]at hk;simp at hk
 ·exact h
theorem gQ.at{B:Nat}{xs:List α}{L:Nat}(h:gQ en n w B xs L xs.length):FG en n w B 0 xs:=fun i hi=>by
 rw[UI];exact h.at0 i hi hi
theorem gQ.is{B:Nat}{xs:List α}{L:Nat}(h:gQ en n w B xs L xs.length):bP en n w (some ⟨B,0,none⟩) xs:=.inr ⟨B,0,rfl,h.blk,h.at⟩
theorem gQ.below{B:Nat}{xs:List α}{L k:Nat}(h:gQ en n w B xs L k){m:Nat}(hm:B < m)(hB:Below m w W)(hs:w.heap.size≤W.heap.size):gQ en n W B xs L k:=by
 have hc:∀o,W.cell? ⟨B,o,none⟩=w.cell? ⟨B,o,none⟩:=fun o=>hB.cell (p:=⟨B,o,none⟩) hm
 have hf:∀o,W.frozen? ⟨B,o,none⟩=w.frozen? ⟨B,o,none⟩:=fun o=>hB.frozen (p:=⟨B,o,none⟩) hm
 exact⟨UX h.blk hs,fun i hi hk j v hv=>(hc _).trans (h.at0 i hi hk j v hv),fun i hi=>by rw[hc];exact h.there i hi,fun i hi=>by rw[hf];exact h.free i hi⟩
theorem gQ.kept{B:Nat}{xs:List α}{L k:Nat}(h:gQ en n w B xs L k)(hB:Below w.heap.size w W):gQ en n W B xs L k:=h.below h.blk hB hB.size
theorem gQ.start{base len cap g:Nat}{e:TypeId}{vs:List Value}{xs:List α}(h:w.ownsRow base e n (.slice (some ⟨g,0,none⟩) len cap) len vs):gQ en n w g xs len 0:=by
 obtain⟨hl,h|⟨g',cap',cur,hv,_,hh,hc,_,hsz,_⟩⟩:=h
 ·simp at h
 ·injection hv with hv _ hv3
  injection hv with hv
  injection hv with hv _
  subst hv hv3;have hlt:g < w.heap.size:=by
   by_cases hb:g < w.heap.size
   ·exact hb
   ·rw[Array.getElem?_eq_none (by omega)]at hh;simp at hh
  refine⟨hlt,fun i hi hk=>by omega,fun i hi=>?_,fun i hi=>?_⟩
  ·have:i < cur.size:=by rw[hsz];have:=Nat.mul_le_mul_right n hc;omega
   simp[World.cell?,hh,this]
  ·simp[World.frozen?,hh]
end
section
variable {H:Type} {enc:TypeId × Value→H} {P:Program} {w:World} {base:Nat} {spare:Nat→Bool} {held:Bool}
end
structure aA(w:World)(B:Nat)(cs:List Value):Prop where
 at0:w.rangeAt B 0 cs
 th:w.there B 0 cs.length
section
variable {w W:World} {B:Nat} {cs:List Value}
theorem aA.new(w:World)(cs:List Value)(t:TypeId):aA (w.alloc (.cells cs.toArray t)) w.heap.size cs :=
 ⟨fun j v hv=>by rw[UI,cell_of_row _ w.heap.size j cs.toArray t (0,0) (heap_alloc_new w _)];simpa using hv,
   fun j hj=>⟨by rw[UI,cell_of_row _ w.heap.size j cs.toArray t (0,0) (heap_alloc_new w _)];simp[hj],by simp⟩⟩
theorem aA.cell(h:aA w B cs){j:Nat}{v:Value}(hv:cs[j]?=some v):w.cell? ⟨B,j,none⟩=some v:=by
 have:=h.at0 j v hv;rwa [UI]at this
theorem aA.free(h:aA w B cs){j:Nat}(hj:j < cs.length):w.frozen? ⟨B,j,none⟩=false:=by
 have:=(h.th j hj).2;rwa [UI]at this
theorem aA.c2{v0 v1:Value}{l:List Value}(h:aA w B (v0::v1::l)):w.cell? ⟨B,0,none⟩=some v0∧w.cell? ⟨B,1,none⟩=some v1:=⟨h.cell rfl,h.cell rfl⟩
theorem aA.c3{v0 v1 v2:Value}{l:List Value}(h:aA w B (v0::v1::v2::l)):w.cell? ⟨B,0,none⟩=some v0∧w.cell? ⟨B,1,none⟩=some v1∧w.cell? ⟨B,2,none⟩=some v2:=⟨h.cell rfl,h.cell rfl,h.cell rfl⟩
theorem aA.c4{v0 v1 v2 v3:Value}{l:List Value}(h:aA w B (v0::v1::v2::v3::l)):w.cell? ⟨B,0,none⟩=some v0∧w.cell? ⟨B,1,none⟩=some v1∧w.cell? ⟨B,2,none⟩=some v2∧w.cell? ⟨B,3,none⟩=some v3:=⟨h.cell rfl,h.cell rfl,h.cell rfl,h.cell rfl⟩
theorem aA.c5{v0 v1 v2 v3 v4:Value}{l:List Value}(h:aA w B (v0::v1::v2::v3::v4::l)):w.cell? ⟨B,0,none⟩=some v0∧w.cell? ⟨B,1,none⟩=some v1∧w.cell? ⟨B,2,none⟩=some v2∧w.cell? ⟨B,3,none⟩=some v3∧w.cell? ⟨B,4,none⟩=some v4:=⟨h.cell rfl,h.cell rfl,h.cell rfl,h.cell rfl,h.cell rfl⟩
theorem aA.c6{v0 v1 v2 v3 v4 v5:Value}{l:List Value}(h:aA w B (v0::v1::v2::v3::v4::v5::l)):w.cell? ⟨B,0,none⟩=some v0∧w.cell? ⟨B,1,none⟩=some v1∧w.cell? ⟨B,2,none⟩=some v2∧w.cell? ⟨B,3,none⟩=some v3∧w.cell? ⟨B,4,none⟩=some v4∧w.cell? ⟨B,5,none⟩=some v5:=⟨h.cell rfl,h.cell rfl,h.cell rfl,h.cell rfl,h.cell rfl,h.cell rfl⟩
theorem aA.c7{v0 v1 v2 v3 v4 v5 v6:Value}{l:List Value}(h:aA w B (v0::v1::v2::v3::v4::v5::v6::l)):w.cell? ⟨B,0,none⟩=some v0∧w.cell? ⟨B,1,none⟩=some v1∧w.cell? ⟨B,2,none⟩=some v2∧w.cell? ⟨B,3,none⟩=some v3∧w.cell? ⟨B,4,none⟩=some v4∧w.cell? ⟨B,5,none⟩=some v5∧w.cell? ⟨B,6,none⟩=some v6:=⟨h.cell rfl,h.cell rfl,h.cell rfl,h.cell rfl,h.cell rfl,h.cell rfl,h.cell rfl⟩
theorem aA.c8{v0 v1 v2 v3 v4 v5 v6 v7:Value}{l:List Value}(h:aA w B (v0::v1::v2::v3::v4::v5::v6::v7::l)):w.cell? ⟨B,0,none⟩=some v0∧w.cell? ⟨B,1,none⟩=some v1∧w.cell? ⟨B,2,none⟩=some v2∧w.cell? ⟨B,3,none⟩=some v3∧w.cell? ⟨B,4,none⟩=some v4∧w.cell? ⟨B,5,none⟩=some v5∧w.cell? ⟨B,6,none⟩=some v6∧w.cell? ⟨B,7,none⟩=some v7:=⟨h.cell rfl,h.cell rfl,h.cell rfl,h.cell rfl,h.cell rfl,h.cell rfl,h.cell rfl,h.cell rfl⟩
theorem aA.c9{v0 v1 v2 v3 v4 v5 v6 v7 v8:Value}{l:List Value}(h:aA w B (v0::v1::v2::v3::v4::v5::v6::v7::v8::l)):w.cell? ⟨B,0,none⟩=some v0∧w.cell? ⟨B,1,none⟩=some v1∧w.cell? ⟨B,2,none⟩=some v2∧w.cell? ⟨B,3,none⟩=some v3∧w.cell? ⟨B,4,none⟩=some v4∧w.cell? ⟨B,5,none⟩=some v5∧w.cell? ⟨B,6,none⟩=some v6∧w.cell? ⟨B,7,none⟩=some v7∧w.cell? ⟨B,8,none⟩=some v8:=⟨h.cell rfl,h.cell rfl,h.cell rfl,h.cell rfl,h.cell rfl,h.cell rfl,h.cell rfl,h.cell rfl,h.cell rfl⟩
theorem aA.c10{v0 v1 v2 v3 v4 v5 v6 v7 v8 v9:Value}{l:List Value}(h:aA w B (v0::v1::v2::v3::v4::v5::v6::v7::v8::v9::l)):w.cell? ⟨B,0,none⟩=some v0∧w.cell? ⟨B,1,none⟩=some v1∧w.cell? ⟨B,2,none⟩=some v2∧w.cell? ⟨B,3,none⟩=some v3∧w.cell? ⟨B,4,none⟩=some v4∧w.cell? ⟨B,5,none⟩=some v5∧w.cell? ⟨B,6,none⟩=some v6∧w.cell? ⟨B,7,none⟩=some v7∧w.cell? ⟨B,8,none⟩=some v8∧w.cell? ⟨B,9,none⟩=some v9:=⟨h.cell rfl,h.cell rfl,h.cell rfl,h.cell rfl,h.cell rfl,h.cell rfl,h.cell rfl,h.cell rfl,h.cell rfl,h.cell rfl⟩
theorem aA.c11{v0 v1 v2 v3 v4 v5 v6 v7 v8 v9 v10:Value}{l:List Value}(h:aA w B (v0::v1::v2::v3::v4::v5::v6::v7::v8::v9::v10::l)):w.cell? ⟨B,0,none⟩=some v0∧w.cell? ⟨B,1,none⟩=some v1∧w.cell? ⟨B,2,none⟩=some v2∧w.cell? ⟨B,3,none⟩=some v3∧w.cell? ⟨B,4,none⟩=some v4∧w.cell? ⟨B,5,none⟩=some v5∧w.cell? ⟨B,6,none⟩=some v6∧w.cell? ⟨B,7,none⟩=some v7∧w.cell? ⟨B,8,none⟩=some v8∧w.cell? ⟨B,9,none⟩=some v9∧w.cell? ⟨B,10,none⟩=some v10:=⟨h.cell rfl,h.cell rfl,h.cell rfl,h.cell rfl,h.cell rfl,h.cell rfl,h.cell rfl,h.cell rfl,h.cell rfl,h.cell rfl,h.cell rfl⟩
theorem aA.f2{v0 v1:Value}{l:List Value}(h:aA w B (v0::v1::l)):w.frozen? ⟨B,0,none⟩=false∧w.frozen? ⟨B,1,none⟩=false:=⟨h.free (by simp),h.free (by simp)⟩
theorem aA.f3{v0 v1 v2:Value}{l:List Value}(h:aA w B (v0::v1::v2::l)):w.frozen? ⟨B,0,none⟩=false∧w.frozen? ⟨B,1,none⟩=false∧w.frozen? ⟨B,2,none⟩=false:=⟨h.free (by simp),h.free (by simp),h.free (by simp)⟩
theorem aA.f4{v0 v1 v2 v3:Value}{l:List Value}(h:aA w B (v0::v1::v2::v3::l)):w.frozen? ⟨B,0,none⟩=false∧w.frozen? ⟨B,1,none⟩=false∧w.frozen? ⟨B,2,none⟩=false∧w.frozen? ⟨B,3,none⟩=false:=⟨h.free (by simp),h.free (by simp),h.free (by simp),h.free (by simp)⟩
theorem aA.f5{v0 v1 v2 v3 v4:Value}{l:List Value}(h:aA w B (v0::v1::v2::v3::v4::l)):w.frozen? ⟨B,0,none⟩=false∧w.frozen? ⟨B,1,none⟩=false∧w.frozen? ⟨B,2,none⟩=false∧w.frozen? ⟨B,3,none⟩=false∧w.frozen? ⟨B,4,none⟩=false:=⟨h.free (by simp),h.free (by simp),h.free (by simp),h.free (by simp),h.free (by simp)⟩
theorem aA.f6{v0 v1 v2 v3 v4 v5:Value}{l:List Value}(h:aA w B (v0::v1::v2::v3::v4::v5::l)):w.frozen? ⟨B,0,none⟩=false∧w.frozen? ⟨B,1,none⟩=false∧w.frozen? ⟨B,2,none⟩=false∧w.frozen? ⟨B,3,none⟩=false∧w.frozen? ⟨B,4,none⟩=false∧w.frozen? ⟨B,5,none⟩=false:=⟨h.free (by simp),h.free (by simp),h.free (by simp),h.free (by simp),h.free (by simp),h.free (by simp)⟩
theorem aA.f7{v0 v1 v2 v3 v4 v5 v6:Value}{l:List Value}(h:aA w B (v0::v1::v2::v3::v4::v5::v6::l)):w.frozen? ⟨B,0,none⟩=false∧w.frozen? ⟨B,1,none⟩=false∧w.frozen? ⟨B,2,none⟩=false∧w.frozen? ⟨B,3,none⟩=false∧w.frozen? ⟨B,4,none⟩=false∧w.frozen? ⟨B,5,none⟩=false∧w.frozen? ⟨B,6,none⟩=false:=⟨h.free (by simp),h.free (by simp),h.free (by simp),h.free (by simp),h.free (by simp),h.free (by simp),h.free (by simp)⟩
theorem aA.f8{v0 v1 v2 v3 v4 v5 v6 v7:Value}{l:List Value}(h:aA w B (v0::v1::v2::v3::v4::v5::v6::v7::l)):w.frozen? ⟨B,0,none⟩=false∧w.frozen? ⟨B,1,none⟩=false∧w.frozen? ⟨B,2,none⟩=false∧w.frozen? ⟨B,3,none⟩=false∧w.frozen? ⟨B,4,none⟩=false∧w.frozen? ⟨B,5,none⟩=false∧w.frozen? ⟨B,6,none⟩=false∧w.frozen? ⟨B,7,none⟩=false:=⟨h.free (by simp),h.free (by simp),h.free (by simp),h.free (by simp),h.free (by simp),h.free (by simp),h.free (by simp),h.free (by simp)⟩
theorem aA.f9{v0 v1 v2 v3 v4 v5 v6 v7 v8:Value}{l:List Value}(h:aA w B (v0::v1::v2::v3::v4::v5::v6::v7::v8::l)):w.frozen? ⟨B,0,none⟩=false∧w.frozen? ⟨B,1,none⟩=false∧w.frozen? ⟨B,2,none⟩=false∧w.frozen? ⟨B,3,none⟩=false∧w.frozen? ⟨B,4,none⟩=false∧w.frozen? ⟨B,5,none⟩=false∧w.frozen? ⟨B,6,none⟩=false∧w.frozen? ⟨B,7,none⟩=false∧w.frozen? ⟨B,8,none⟩=false:=⟨h.free (by simp),h.free (by simp),h.free (by simp),h.free (by simp),h.free (by simp),h.free (by simp),h.free (by simp),h.free (by simp),h.free (by simp)⟩
theorem aA.f10{v0 v1 v2 v3 v4 v5 v6 v7 v8 v9:Value}{l:List Value}(h:aA w B (v0::v1::v2::v3::v4::v5::v6::v7::v8::v9::l)):w.frozen? ⟨B,0,none⟩=false∧w.frozen? ⟨B,1,none⟩=false∧w.frozen? ⟨B,2,none⟩=false∧w.frozen? ⟨B,3,none⟩=false∧w.frozen? ⟨B,4,none⟩=false∧w.frozen? ⟨B,5,none⟩=false∧w.frozen? ⟨B,6,none⟩=false∧w.frozen? ⟨B,7,none⟩=false∧w.frozen? ⟨B,8,none⟩=false∧w.frozen? ⟨B,9,none⟩=false:=⟨h.free (by simp),h.free (by simp),h.free (by simp),h.free (by simp),h.free (by simp),h.free (by simp),h.free (by simp),h.free (by simp),h.free (by simp),h.free (by simp)⟩
theorem aA.f11{v0 v1 v2 v3 v4 v5 v6 v7 v8 v9 v10:Value}{l:List Value}(h:aA w B (v0::v1::v2::v3::v4::v5::v6::v7::v8::v9::v10::l)):w.frozen? ⟨B,0,none⟩=false∧w.frozen? ⟨B,1,none⟩=false∧w.frozen? ⟨B,2,none⟩=false∧w.frozen? ⟨B,3,none⟩=false∧w.frozen? ⟨B,4,none⟩=false∧w.frozen? ⟨B,5,none⟩=false∧w.frozen? ⟨B,6,none⟩=false∧w.frozen? ⟨B,7,none⟩=false∧w.frozen? ⟨B,8,none⟩=false∧w.frozen? ⟨B,9,none⟩=false∧w.frozen? ⟨B,10,none⟩=false:=⟨h.free (by simp),h.free (by simp),h.free (by simp),h.free (by simp),h.free (by simp),h.free (by simp),h.free (by simp),h.free (by simp),h.free (by simp),h.free (by simp),h.free (by simp)⟩
theorem aA.c13{v0 v1 v2 v3 v4 v5 v6 v7 v8 v9 v10 v11 v12:Value}{l:List Value}(h:aA w B (v0::v1::v2::v3::v4::v5::v6::v7::v8::v9::v10::v11::v12::l)):w.cell? ⟨B,0,none⟩=some v0∧w.cell? ⟨B,1,none⟩=some v1∧w.cell? ⟨B,2,none⟩=some v2∧w.cell? ⟨B,3,none⟩=some v3∧w.cell? ⟨B,4,none⟩=some v4∧w.cell? ⟨B,5,none⟩=some v5∧w.cell? ⟨B,6,none⟩=some v6∧w.cell? ⟨B,7,none⟩=some v7∧w.cell? ⟨B,8,none⟩=some v8∧w.cell? ⟨B,9,none⟩=some v9∧w.cell? ⟨B,10,none⟩=some v10∧w.cell? ⟨B,11,none⟩=some v11∧w.cell? ⟨B,12,none⟩=some v12:=⟨h.cell rfl,h.cell rfl,h.cell rfl,h.cell rfl,h.cell rfl,h.cell rfl,h.cell rfl,h.cell rfl,h.cell rfl,h.cell rfl,h.cell rfl,h.cell rfl,h.cell rfl⟩
theorem aA.c14{v0 v1 v2 v3 v4 v5 v6 v7 v8 v9 v10 v11 v12 v13:Value}{l:List Value}(h:aA w B (v0::v1::v2::v3::v4::v5::v6::v7::v8::v9::v10::v11::v12::v13::l)):w.cell? ⟨B,0,none⟩=some v0∧w.cell? ⟨B,1,none⟩=some v1∧w.cell? ⟨B,2,none⟩=some v2∧w.cell? ⟨B,3,none⟩=some v3∧w.cell? ⟨B,4,none⟩=some v4∧w.cell? ⟨B,5,none⟩=some v5∧w.cell? ⟨B,6,none⟩=some v6∧w.cell? ⟨B,7,none⟩=some v7∧w.cell? ⟨B,8,none⟩=some v8∧w.cell? ⟨B,9,none⟩=some v9∧w.cell? ⟨B,10,none⟩=some v10∧w.cell? ⟨B,11,none⟩=some v11∧w.cell? ⟨B,12,none⟩=some v12∧w.cell? ⟨B,13,none⟩=some v13:=⟨h.cell rfl,h.cell rfl,h.cell rfl,h.cell rfl,h.cell rfl,h.cell rfl,h.cell rfl,h.cell rfl,h.cell rfl,h.cell rfl,h.cell rfl,h.cell rfl,h.cell rfl,h.cell rfl⟩
theorem aA.f14{v0 v1 v2 v3 v4 v5 v6 v7 v8 v9 v10 v11 v12 v13:Value}{l:List Value}(h:aA w B (v0::v1::v2::v3::v4::v5::v6::v7::v8::v9::v10::v11::v12::v13::l)):w.frozen? ⟨B,0,none⟩=false∧w.frozen? ⟨B,1,none⟩=false∧w.frozen? ⟨B,2,none⟩=false∧w.frozen? ⟨B,3,none⟩=false∧w.frozen? ⟨B,4,none⟩=false∧w.frozen? ⟨B,5,none⟩=false∧w.frozen? ⟨B,6,none⟩=false∧w.frozen? ⟨B,7,none⟩=false∧w.frozen? ⟨B,8,none⟩=false∧w.frozen? ⟨B,9,none⟩=false∧w.frozen? ⟨B,10,none⟩=false∧w.frozen? ⟨B,11,none⟩=false∧w.frozen? ⟨B,12,none⟩=false∧w.frozen? ⟨B,13,none⟩=false:=⟨h.free (by simp),h.free (by simp),h.free (by simp),h.free (by simp),h.free (by simp),h.free (by simp),h.free (by simp),h.free (by simp),h.free (by simp),h.free (by simp),h.free (by simp),h.free (by simp),h.free (by simp),h.free (by simp)⟩
theorem aA.lt(h:aA w B cs)(hl:0 < cs.length):B < w.heap.size:=by
 obtain⟨v,hv⟩:=Option.isSome_iff_exists.1 (h.th 0 hl).1;exact US w _ hv
theorem aA.of_block(hb:W.heap[B]?=w.heap[B]?)(h:aA w B cs):aA W B cs:=by
 have hc:∀j,W.cell? ⟨B,j,none⟩=w.cell? ⟨B,j,none⟩:=fun j=>by unfold World.cell?;rw[show (⟨B,j,none⟩: Addr).block=B from rfl,hb]
 exact⟨fun j v hv=>by rw[hc];exact h.at0 j v hv,fun j hj=>⟨by rw[hc];exact(h.th j hj).1,(World.frozen?_of_block (a:=⟨B,0+j,none⟩) hb).trans (h.th j hj).2⟩⟩
theorem aA.kept(h:aA w B cs)(hl:0 < cs.length)(hB:Below w.heap.size w W):aA W B cs:=h.of_block (hB.block B (h.lt hl))
theorem aA.grown{row:Option Nat}(h:aA w B cs)(hl:0 < cs.length)(hg:w.grownBy W row)(hr:some B≠row):aA W B cs:=h.of_block (hg.block B (h.lt hl) hr)
theorem aA.alloc(h:aA w B cs)(o:Obj):aA (w.alloc o) B cs:=⟨World.rangeAt_alloc h.at0 o,World.there_alloc h.th o⟩
theorem aA.drew(h:aA w B cs):aA w.drew B cs:=⟨by simpa using h.at0,by simpa using h.th⟩
theorem aA.set(h:aA w B cs)(j:Nat)(v:Value):aA (w.setCell ⟨B,j,none⟩ v) B (cs.set j v):=by
 refine⟨fun i u hu=>?_,fun i hi=>⟨?_,by rw[World.frozen?_setCell];exact(h.th i (by simpa using hi)).2⟩⟩
 ·rw[UI];by_cases e:i=j
  ·subst e;have hi:i < cs.length:=by
    rw[List.getElem?_set]at hu;by_cases e:i < cs.length
    ·exact e
    ·simp[e]at hu
   obtain⟨x,hx⟩:=Option.isSome_iff_exists.1 (h.th i hi).1;rw[UI]at hx;rw[World.cell?_setCell_same _ _ _ hx];rw[List.getElem?_set_self hi]at hu;exact hu
  ·rw[World.cell?_setCell_other _ _ _ _ (fun e2=>e (by injection e2 with _ h2;exact h2.symm))];rw[List.getElem?_set_ne (fun e2=>e e2.symm)]at hu;exact h.cell hu
 ·have hi':i < cs.length:=by simpa using hi
  obtain⟨x,hx⟩:=Option.isSome_iff_exists.1 (h.th i hi').1;by_cases e:i=j
  ·subst e;rw[UI]at hx ⊢;rw[World.cell?_setCell_same _ _ _ hx];rfl
  ·rw[UI]at hx ⊢;rw[World.cell?_setCell_other _ _ _ _ (fun e2=>e (by injection e2 with _ h2;exact h2.symm)),hx];rfl
theorem aA.setOther(h:aA w B cs){C j:Nat}(hne:B≠C)(v:Value):aA (w.setCell ⟨C,j,none⟩ v) B cs :=
 h.of_block (Below.heap_setCell w _ v B (fun e=>hne (by simpa using e)))
theorem aA.setCellsOther(h:aA w B cs){C o:Nat}(hne:B≠C)(ds:List Value):aA (w.setCells C o ds) B cs :=
 ⟨World.rangeAt_setCells_apart h.at0 C o ds (.inl hne),World.there_setCells h.th C o ds⟩
theorem aA.setRange(h:aA w B cs)(o:Nat)(ds:List Value)(ho:o+ds.length≤cs.length):aA (w.setCells B o ds) B (cs.take o++ds++cs.drop (o+ds.length)):=by
 have jD:(cs.take o++ds++cs.drop (o+ds.length)).length=cs.length:=by simp;omega
 refine⟨fun j v hv=>?_,by rw[jD];exact World.there_setCells h.th B o ds⟩;have hthere:w.there B o ds.length:=fun i hi=>by have:=h.th (o+i) (by omega);rwa [UI]at this
 rw[UI];by_cases h1:j < o
 ·rw[World.cell?_setCells_out B ds o w ⟨B,j,none⟩ (fun _ _=>.inl h1)];rw[List.append_assoc,List.getElem?_append_left (by simp;omega),List.getElem?_take,if_pos h1]at hv;exact h.cell hv
 ·by_cases h2:j < o+ds.length
  ·have:=World.rangeAt_setCells_same w B o ds hthere (j-o) v (by
    rw[List.append_assoc,List.getElem?_append_right (by simp;omega),List.getElem?_append_left (by simp;omega)]at hv;rw[show (cs.take o).length=o by simp;omega]at hv;exact hv)
   rwa [show o+(j-o)=j by omega]at this
  ·rw[World.cell?_setCells_out B ds o w ⟨B,j,none⟩ (fun _ _=>.inr (by show o+ds.length≤j;omega))];rw[List.getElem?_append_right (by simp;omega),List.getElem?_drop]at hv;rw[show (cs.take o++ds).length=o+ds.length by simp;omega,show o+ds.length+(j-(o+ds.length))=j by omega]at hv;exact h.cell hv
end
theorem aF{P:Program}{fn:Func}{p:Tmp}{ty:TypeId}(h:fn.results=#[.cell p ty])(tmps:Array Value)(w:World)(g:Nat)(cs:List Value)(d:TypeDesc)
  (hp:tmps.getD p undef=.pointer (some ⟨g,0,none⟩)) (hc:aA w g cs) (hu:P.underlying ty=some d) (hd:d.isRow=true) (hi:(P.info? ty).map (·.size)=some cs.length) :
  (results fn tmps).run P w=.ok (.agg cs.toArray) w:=by
 have hp':tmps[p]?.getD undef=.pointer (some ⟨g,0,none⟩):=by simpa using hp
 simp[results,h,hp',asAddr,run_loadVar_mid w g 0 ty cs d hc.at0 hu hd hi]
theorem eO{w:World}{b:Nat}{cs:List Value}(h:aA w b cs){X j:Nat}{v:Value}(hn:b≠X:=by omega):aA (w.setCell ⟨X,j,none⟩ v) b cs:=h.setOther hn v
def aD(a:Act)(t:Tmp):Value:=a.tmps.getD t undef
theorem eF{a:Act}{d t:Tmp}{v:Value}(h:d≠t):aD (a.put (some d) v) t=aD a t:=by
 simp[aD,Act.put,Array.getElem?_setIfInBounds_ne h]
theorem jJ{a:Act}{d:Tmp}{v:Value}(h:d < a.tmps.size):aD (a.put (some d) v) d=v:=by
 simp[aD,Act.put,h]
def vT(listed:Array Bool):Nat→Nat
 | 0=>0
 | n+1=>vT listed n+(if listed.getD n true=true then 0 else 1)
theorem rX(listed:Array Bool):∀n,vT listed n≤n
 | 0=>Nat.le_refl _
 | n+1=>by have:=rX listed n;unfold vT;split<;>omega
theorem NW{listed:Array Bool}{i:Nat}:∀n,n≤i→vT (listed.setIfInBounds i true) n=vT listed n
 | 0,_=>rfl
 | n+1,h=>by unfold vT;rw[NW n (by omega),getD_set_ne true (by omega)]
theorem oX{listed:Array Bool}{i:Nat}(hf:listed.getD i true=false):∀n,i < n→vT (listed.setIfInBounds i true) n+1=vT listed n
 | 0,h=>by omega
 | n+1,h=>by
  unfold vT;by_cases e:i=n
  ·subst e;have hlt:i < listed.size:=by
    rcases Nat.lt_or_ge i listed.size with h'|h'
    ·exact h'
    ·simp[Array.getElem?_eq_none h']at hf
   have hs:(listed.setIfInBounds i true).getD i true=true:=by simp[hlt]
   rw[NW i lR,hs,hf,if_pos rfl,if_neg (by simp)]
  ·rw[getD_set_ne true e,←oX hf n (by omega)];omega
theorem oC{listed:Array Bool}:∀n,vT listed n=0→∀i,i < n→listed.getD i true=true
 | 0,_,i,h=>by omega
 | n+1,h0,i,h=>by
  unfold vT at h0;by_cases e:i=n
  ·subst e;by_cases hh:listed.getD i true=true
   ·exact hh
   ·rw[if_neg hh]at h0;omega
  ·exact oC n (by omega) i (by omega)
section
variable {P:Program} {ops:Array Oper} {Q:Exit→Act→World→Prop} {ds:List Tmp} {R:Nat→Value→World→Prop} {a0:Act} {w0:World}
structure JM(ops:Array Oper)(ds:List Tmp)(R:Nat→Value→World→Prop)(a0:Act)(w0:World)(listed:Array Bool)(a:Act)(w:World):Prop where
 size:listed.size=ops.size
 tsize:a.tmps.size=a0.tmps.size
 defers:a.defers=a0.defers
 outer:∀t,t ∉ ds→aD a t=aD a0 t
 inner:∀i,listed.getD i false=true→R i (aD a (ds.getD i 0)) w
 below:Below w0.heap.size w0 w
def IR(P:Program)(Q:Exit→Act→World→Prop)(ds:List Tmp)(R:Nat→Value→World→Prop)(a0:Act)(w0:World)(i:Nat)(o:Oper):Prop :=
 ∀(K':Act→World→Prop) (a:Act) (w:World),(∀t,t ∉ ds→aD a t=aD a0 t)→(∀e∈o.after,Region.binds .any e=true→R e.on (aD a (ds.getD e.on 0)) w) →
  Below w0.heap.size w0 w→(∀v w',R i v w'→Below w.heap.size w w'→K' (a.put o.dst v) w')→Oper.wp P o a w K' Q
structure CE(ops:Array Oper)(ds:List Tmp)(n:Nat):Prop where
 len:ds.length=ops.size
 dst:∀i o,ops[i]?=some o→o.dst=some (ds.getD i 0)∧o.guard=none
 nodup:ds.Nodup
 fits:∀d∈ds,d < n
 topo:∀i o,ops[i]?=some o→∀e∈o.after,Region.binds .any e=true→e.on < i
def MI(ops:Array Oper)(ds:List Tmp)(n:Nat):Bool :=
 decide (ds.length=ops.size)&&(List.range ops.size).all (fun i=>match ops[i]? with
  | some o=>(match o.dst with | some d=>d==ds.getD i 0 | none=>false)&&o.guard.isNone&&o.after.all (fun e=>!Region.binds .any e||decide (e.on < i))
  | none=>true)&&decide ds.Nodup&&ds.all (fun d=>decide (d < n))
theorem CE.of{n:Nat}(h:MI ops ds n=true):CE ops ds n:=by
 unfold MI at h;simp only[UB,UF,List.all_eq_true,List.mem_range]at h;obtain⟨⟨⟨h1,h2⟩,h3⟩,h4⟩:=h;refine⟨h1,fun i o ho=>?_,h3,h4,fun i o ho e he hb=>?_⟩
 ·have:=h2 i (UT.1 ho).1;rw[ho]at this;simp only[UB]at this;obtain⟨⟨t1,t2⟩,_⟩:=this;refine⟨?_,by simpa using t2⟩
  cases hd:o.dst with
  | none=>rw[hd]at t1;simp at t1
  | some d=>rw[hd]at t1;simp at t1;rw[t1];simp
 ·have:=h2 i (UT.1 ho).1;rw[ho]at this;simp only[UB]at this;obtain⟨_,t3⟩:=this;have:=Array.all_eq_true_iff_forall_mem.1 t3 e he;simp[hb]at this;exact this
theorem nD{ds:List Tmp}{i:Nat}(h:i < ds.length):ds.getD i 0=ds[i]:=by simp[h]
theorem mY{ds:List Tmp}(h:ds.Nodup){i j:Nat}(hi:i < ds.length)(hj:j < ds.length)(hne:i≠j):ds.getD i 0≠ds.getD j 0:=by
 intro e;rw[nD hi,nD hj]at e;have hp:=List.pairwise_iff_getElem.1 h;rcases Nat.lt_or_gt_of_ne hne with hlt|hlt
 ·exact hp i j hi hj hlt e
 ·exact hp j i hj hi hlt e.symm
theorem IP(hF:CE ops ds a0.tmps.size)(hst:∀i v w w',R i v w→Below w.heap.size w w'→R i v w')
  (hstep:∀i o,ops[i]?=some o→IR P Q ds R a0 w0 i o)
  (hdone:∀a w,a.tmps.size=a0.tmps.size→a.defers=a0.defers→(∀t,t ∉ ds→aD a t=aD a0 t)→(∀i,i < ops.size→R i (aD a (ds.getD i 0)) w)→Below w0.heap.size w0 w→Q .normal a w) :
  ∀(fuel:Nat) (listed:Array Bool) (a:Act) (w:World),vT listed ops.size≤fuel→JM ops ds R a0 w0 listed a w→wpAny P .any ops Q fuel listed a w:=by
 have hall:∀(listed:Array Bool) (a:Act) (w:World),JM ops ds R a0 w0 listed a w→Region.ready .any ops listed=[]→Q .normal a w:=by
  intro listed a w hI hr;refine hdone a w hI.tsize hI.defers hI.outer (fun i hi=>hI.inner i ?_) hI.below;have key:∀i,i < ops.size→listed.getD i false=true:=by
   intro i;induction i using Nat.strongRecOn with
   | ind i ih=>
    intro hi;have hsz:=hI.size;by_cases hh:listed.getD i true=true
    ·have hlt:i < listed.size:=by omega
     simpa[hlt] using hh
    ·exfalso
     have hmem:i∈Region.ready .any ops listed:=by
      rw[mem_ready];refine⟨by simpa using hh,ops[i],by simp[hi],fun e he hb=>?_⟩;have hlt:=hF.topo i ops[i] (by simp[hi]) e he hb;exact ih _ hlt (by omega)
     rw[hr]at hmem;simp at hmem
  exact key i hi
 intro fuel;induction fuel with
 | zero=>
  intro listed a w hu hI;have hr:Region.ready .any ops listed=[]:=by
   rw[List.eq_nil_iff_forall_not_mem];intro i hi;rw[mem_ready]at hi;obtain⟨h0,o,ho,_⟩:=hi;have:=oC (listed:=listed) ops.size (by omega) i (UT.1 ho).1;rw[h0]at this;simp at this
  exact⟨hr,hall listed a w hI hr⟩
 | succ fuel ih=>
  intro listed a w hu hI;refine⟨fun hr=>hall listed a w hI hr,fun i hi=>?_⟩;rw[mem_ready]at hi;obtain⟨h0,o,ho,hdeps⟩:=hi;have hi:i < ops.size:=(UT.1 ho).1;obtain⟨hd,hg⟩:=hF.dst i o ho;have hil:i < ds.length:=by rw[hF.len];exact hi
  have hmem:ds.getD i 0∈ds:=by rw[nD hil];exact UJ hil
  refine wpOp_step ho (fun K' hK=>?_);rw[if_pos (by unfold Region.wanted;rw[hg])];refine hstep i o ho K' a w hI.outer (fun e he hb=>hI.inner _ (hdeps e he hb)) hI.below (fun v w' hR hB=>hK _ _ ?_);refine ih _ _ _ (by have:=oX h0 ops.size hi;omega) ⟨by simp[hI.size],?_,?_,fun t ht=>?_,fun j hj=>?_,hI.below.trans (hB.mono hI.below.size)⟩
  ·rw[hd];simp[Act.put,hI.tsize]
  ·rw[hd];simp[Act.put,hI.defers]
  ·rw[hd,eF (show ds.getD i 0≠t from fun e=>ht (e ▸ hmem))];exact hI.outer t ht
  ·rw[hd];by_cases e:i=j
   ·subst e;rw[jJ (by rw[hI.tsize];exact hF.fits _ hmem)];exact hR
   ·rw[getD_set_ne false e]at hj;have hjl:j < ds.length:=by
     rw[hF.len,←hI.size];rcases Nat.lt_or_ge j listed.size with h'|h'
     ·exact h'
     ·simp[Array.getElem?_eq_none h']at hj
    rw[eF (mY hF.nodup hil hjl e)];exact hst _ _ _ _ (hI.inner j hj) hB
theorem xT{id:Nat}(hm:P.follows .mixedOrders=true)(hF:CE ops ds a0.tmps.size)(hst:∀i v w w',R i v w→Below w.heap.size w w'→R i v w')
  (hstep:∀i o,ops[i]?=some o→IR P Q ds R a0 w0.drew i o)
  (hdone:∀a w,a.tmps.size=a0.tmps.size→a.defers=a0.defers→(∀t,t ∉ ds→aD a t=aD a0 t)→(∀i,i < ops.size→R i (aD a (ds.getD i 0)) w)→Below w0.drew.heap.size w0.drew w→Q .normal a w) :
  (Code.region id ops true).wp P Q a0 w0:=by
 refine wp_region_any hm (IP (w0:=w0.drew) hF hst hstep hdone ops.size _ a0 w0.drew (rX _ _) ⟨by simp,rfl,rfl,fun _ _=>rfl,fun i hi=>?_,Below.refl _ _⟩);exfalso
 by_cases h:i < ops.size
 ·simp[h]at hi
 ·simp[h]at hi
def aU(Rs:List (Value→World→Prop))(i:Nat)(v:Value)(w:World):Prop:=Rs.getD i (fun _ _=>True) v w
def tB(P:Program)(Q:Exit→Act→World→Prop)(ds:List Tmp)(R:Nat→Value→World→Prop)(a0:Act)(w0:World):Nat→List Oper→Prop
 | _,[]=>True
 | n,o::l=>IR P Q ds R a0 w0 n o∧tB P Q ds R a0 w0 (n+1) l
theorem tB.at':∀(l:List Oper) (n:Nat),tB P Q ds R a0 w0 n l→∀i o,l[i]?=some o→IR P Q ds R a0 w0 (n+i) o
 | [],_,_,i,o,h=>by simp at h
 | p::l,n,hs,0,o,h=>by simp at h;subst h;exact hs.1
 | p::l,n,hs,i+1,o,h=>by
  have:=tB.at' l (n+1) hs.2 i o (by simpa using h);rwa [show n+1+i=n+(i+1) by omega]at this
def eY(X:Nat→Value)(w:World):Nat→List (Value→World→Prop)→Prop
 | _,[]=>True
 | n,r::l=>r (X n) w∧eY X w (n+1) l
theorem eY.mk{X:Nat→Value}{w:World}:∀(l:List (Value→World→Prop)) (n:Nat),(∀i,i < l.length→aU l i (X (n+i)) w)→eY X w n l
 | [],_,_=>trivial
 | r::l,n,h=>⟨h 0 (by simp),eY.mk l (n+1) (fun i hi=>by have:=h (i+1) (by simp;omega);rw[show n+1+i=n+(i+1) by omega];exact this)⟩
def eZ(r:Value→World→Prop):Prop:=∀v w w',r v w→Below w.heap.size w w'→r v w'
def aE(X:Nat→Value):Act→Nat→List Tmp→Act
 | a,_,[]=>a
 | a,k,d::l=>aE X (a.put (some d) (X k)) (k+1) l
theorem OJ{a b:Act}(h1:a.tmps.size=b.tmps.size)(h2:a.defers=b.defers)(h:∀t,aD a t=aD b t):a=b:=by
 obtain⟨ta,da⟩:=a;obtain⟨tb,db⟩:=b;simp only at h1 h2;subst h2;congr 1
 refine Array.ext h1 (fun i hi hj=>?_);have:=h i;simpa[aD,hi,hj] using this
theorem oR{X:Nat→Value}{a:Act}:∀(l:List Tmp) (b:Act) (k:Nat),b.tmps.size=a.tmps.size→b.defers=a.defers→(∀i,i < l.length→X (k+i)=aD a (l.getD i 0))→(∀t,t ∉ l→aD b t=aD a t)→(∀d∈l,d < a.tmps.size)→aE X b k l=a
 | [],b,k,h1,h2,_,h4,_=>OJ h1 h2 (fun t=>h4 t (by simp))
 | d::l,b,k,h1,h2,h3,h4,h5=>by
  refine oR l _ (k+1) (by simp[Act.put,h1]) (by simp[Act.put,h2]) (fun i hi=>?_) (fun t ht=>?_) (fun e he=>h5 e (by simp[he]))
  ·have:=h3 (i+1) (by simp;omega);rw[show k+1+i=k+(i+1) by omega,this];simp
  ·by_cases e:d=t
   ·subst e;rw[jJ (by rw[h1];exact h5 d (by simp))];have:=h3 0 (by simp);simpa using this
   ·rw[eF e];exact h4 t (by simp;exact⟨fun h=>e h.symm,ht⟩)
theorem dG{id:Nat}{Rs:List (Value→World→Prop)}(ds:List Tmp)(hm:P.follows .mixedOrders=true)(hF:MI ops ds a0.tmps.size=true)(hl:Rs.length=ops.size)(hst:∀r∈Rs,eZ r)
  (hstep:tB P Q ds (aU Rs) a0 w0.drew 0 ops.toList)
  (hdone:∀(X:Nat→Value) w,eY X w 0 Rs→Below w0.drew.heap.size w0.drew w→Q .normal (aE X a0 0 ds) w) :
  (Code.region id ops true).wp P Q a0 w0:=by
 have hG:=CE.of hF;refine xT (ds:=ds) (R:=aU Rs) hm hG (fun i v w w' h hb=>?_) (fun i o ho=>?_) (fun a w h1 h2 h3 h4 h5=>?_)
 ·unfold aU at *;by_cases hi:i < Rs.length
  ·have e:Rs.getD i (fun _ _=>True)=Rs[i]:=by simp[hi]
   rw[e]at h ⊢;exact hst _ (UJ hi) v w w' h hb
  ·have e:Rs.getD i (fun _ _=>True)=fun _ _=>True:=by simp[Nat.le_of_not_lt hi]
   rw[e];trivial
 ·have:=tB.at' ops.toList 0 hstep i o (by simpa using ho);rwa [UI]at this
 ·have hp:aE (fun i=>aD a (ds.getD i 0)) a0 0 ds=a:=oR ds a0 0 h1.symm h2.symm (fun i _=>by rw[UI]) (fun t ht=>(h3 t ht).symm) (fun d hd=>by rw[h1];exact hG.fits d hd);rw[←hp];exact hdone (fun i=>aD a (ds.getD i 0)) w (eY.mk Rs 0 (fun i hi=>by rw[UI];exact h4 i (by omega))) h5
def aG(x:Value):Value→World→Prop:=fun v _=>v=x
theorem cF(x:Value):eZ (aG x):=fun _ _ _ h _=>h
def tX(x y:Int):Value→World→Prop:=fun v w=>∃b,v=.slice (some ⟨b,0,none⟩) 2 2∧w.cell? ⟨b,0,none⟩=some (.int .u8 x)∧w.cell? ⟨b,1,none⟩=some (.int .u8 y)
theorem kU(x y:Int):eZ (tX x y):=fun v w w' ⟨b,h1,h2,h3⟩ hb=>by
 have hlt:=US w _ h2;exact⟨b,h1,((iO hb).1 b 0 hlt).trans h2,((iO hb).1 b 1 hlt).trans h3⟩
end
section
variable {P:Program} {ops:Array Oper} {Q:Exit→Act→World→Prop} {ds:List Tmp} {R:Nat→Value→World→Prop} {a0:Act} {w0:World}
def fO(P:Program)(ops:Array Oper)(Q:Exit→Act→World→Prop)(ds:List Tmp)(R:Nat→Value→World→Prop)(a0:Act)(w0:World)(i:Nat)(o:Oper):Prop :=
 ∀(K':Act→World→Prop) (a:Act) (w:World),(∀t,t ∉ ds→aD a t=aD a0 t)→(∀e∈o.after,Region.binds .any e=true→R e.on (aD a (ds.getD e.on 0)) w) →
  Below w0.heap.size w0 w→(∀v w',R i v w'→Below w.heap.size w w'→K' (a.put o.dst v) w')→if Region.wanted o (yielded ops a.tmps)=true then Oper.wp P o a w K' Q else K' (a.put o.dst undef) w
structure vV(ops:Array Oper)(ds:List Tmp)(n:Nat):Prop where
 len:ds.length=ops.size
 dst:∀i o,ops[i]?=some o→o.dst=some (ds.getD i 0)
 nodup:ds.Nodup
 fits:∀d∈ds,d < n
 topo:∀i o,ops[i]?=some o→∀e∈o.after,Region.binds .any e=true→e.on < i
def FZ(ops:Array Oper)(ds:List Tmp)(n:Nat):Bool :=
 decide (ds.length=ops.size)&&(List.range ops.size).all (fun i=>match ops[i]? with
  | some o=>(match o.dst with | some d=>d==ds.getD i 0 | none=>false)&&o.after.all (fun e=>!Region.binds .any e||decide (e.on < i))
  | none=>true)&&decide ds.Nodup&&ds.all (fun d=>decide (d < n))
theorem vV.of{n:Nat}(h:FZ ops ds n=true):vV ops ds n:=by
 unfold FZ at h;simp only[UB,UF,List.all_eq_true,List.mem_range]at h;obtain⟨⟨⟨h1,h2⟩,h3⟩,h4⟩:=h;have hb:∀i o,ops[i]?=some o→i < ops.size:=fun i o ho=>(UT.1 ho).1
 refine⟨h1,fun i o ho=>?_,h3,h4,fun i o ho e he hbd=>?_⟩
 ·have:=h2 i (hb i o ho);rw[ho]at this;simp only[UB]at this;obtain⟨t1,_⟩:=this
  cases hd:o.dst with
  | none=>rw[hd]at t1;simp at t1
  | some d=>rw[hd]at t1;simp at t1;rw[t1];simp
 ·have:=h2 i (hb i o ho);rw[ho]at this;simp only[UB]at this;obtain⟨_,t3⟩:=this;have:=Array.all_eq_true_iff_forall_mem.1 t3 e he;simp[hbd]at this;exact this
theorem EV(hF:vV ops ds a0.tmps.size)(hst:∀i v w w',R i v w→Below w.heap.size w w'→R i v w')
  (hstep:∀i o,ops[i]?=some o→fO P ops Q ds R a0 w0 i o)
  (hdone:∀a w,a.tmps.size=a0.tmps.size→a.defers=a0.defers→(∀t,t ∉ ds→aD a t=aD a0 t)→(∀i,i < ops.size→R i (aD a (ds.getD i 0)) w)→Below w0.heap.size w0 w→Q .normal a w) :
  ∀(fuel:Nat) (listed:Array Bool) (a:Act) (w:World),vT listed ops.size≤fuel→JM ops ds R a0 w0 listed a w→wpAny P .any ops Q fuel listed a w:=by
 have hall:∀(listed:Array Bool) (a:Act) (w:World),JM ops ds R a0 w0 listed a w→Region.ready .any ops listed=[]→Q .normal a w:=by
  intro listed a w hI hr;refine hdone a w hI.tsize hI.defers hI.outer (fun i hi=>hI.inner i ?_) hI.below;have key:∀i,i < ops.size→listed.getD i false=true:=by
   intro i;induction i using Nat.strongRecOn with
   | ind i ih=>
    intro hi;have hsz:=hI.size;by_cases hh:listed.getD i true=true
    ·have hlt:i < listed.size:=by omega
     simpa[hlt] using hh
    ·exfalso
     have hmem:i∈Region.ready .any ops listed:=by
      rw[mem_ready];refine⟨by simpa using hh,ops[i],by simp[hi],fun e he hb=>?_⟩;have hlt:=hF.topo i ops[i] (by simp[hi]) e he hb;exact ih _ hlt (by omega)
     rw[hr]at hmem;simp at hmem
  exact key i hi
 intro fuel;induction fuel with
 | zero=>
  intro listed a w hu hI;have hr:Region.ready .any ops listed=[]:=by
   rw[List.eq_nil_iff_forall_not_mem];intro i hi;rw[mem_ready]at hi;obtain⟨h0,o,ho,_⟩:=hi;have:=oC (listed:=listed) ops.size (by omega) i (UT.1 ho).1;rw[h0]at this;simp at this
  exact⟨hr,hall listed a w hI hr⟩
 | succ fuel ih=>
  intro listed a w hu hI;refine⟨fun hr=>hall listed a w hI hr,fun i hi=>?_⟩;rw[mem_ready]at hi;obtain⟨h0,o,ho,hdeps⟩:=hi;have hi:i < ops.size:=(UT.1 ho).1;have hd:=hF.dst i o ho;have hil:i < ds.length:=by rw[hF.len];exact hi
  have hmem:ds.getD i 0∈ds:=by rw[nD hil];exact UJ hil
  refine wpOp_step ho (fun K' hK=>?_);refine hstep i o ho K' a w hI.outer (fun e he hb=>hI.inner _ (hdeps e he hb)) hI.below (fun v w' hR hB=>hK _ _ ?_);refine ih _ _ _ (by have:=oX h0 ops.size hi;omega) ⟨by simp[hI.size],?_,?_,fun t ht=>?_,fun j hj=>?_,hI.below.trans (hB.mono hI.below.size)⟩
  ·rw[hd];simp[Act.put,hI.tsize]
  ·rw[hd];simp[Act.put,hI.defers]
  ·rw[hd,eF (show ds.getD i 0≠t from fun e=>ht (e ▸ hmem))];exact hI.outer t ht
  ·rw[hd];by_cases e:i=j
   ·subst e;rw[jJ (by rw[hI.tsize];exact hF.fits _ hmem)];exact hR
   ·rw[getD_set_ne false e]at hj;have hjl:j < ds.length:=by
     rw[hF.len,←hI.size];rcases Nat.lt_or_ge j listed.size with h'|h'
     ·exact h'
     ·simp[Array.getElem?_eq_none h']at hj
    rw[eF (mY hF.nodup hil hjl e)];exact hst _ _ _ _ (hI.inner j hj) hB
theorem tV{id:Nat}(hm:P.follows .mixedOrders=true)(hF:vV ops ds a0.tmps.size)(hst:∀i v w w',R i v w→Below w.heap.size w w'→R i v w')
  (hstep:∀i o,ops[i]?=some o→fO P ops Q ds R a0 w0.drew i o)
  (hdone:∀a w,a.tmps.size=a0.tmps.size→a.defers=a0.defers→(∀t,t ∉ ds→aD a t=aD a0 t)→(∀i,i < ops.size→R i (aD a (ds.getD i 0)) w)→Below w0.drew.heap.size w0.drew w→Q .normal a w) :
  (Code.region id ops true).wp P Q a0 w0:=by
 refine wp_region_any hm (EV (w0:=w0.drew) hF hst hstep hdone ops.size _ a0 w0.drew (rX _ _) ⟨by simp,rfl,rfl,fun _ _=>rfl,fun i hi=>?_,Below.refl _ _⟩);exfalso
 by_cases h:i < ops.size
 ·simp[h]at hi
 ·simp[h]at hi
end
theorem IQ{ops:Array Oper}{a:Act}{j d:Nat}{o:Oper}{b:Bool}(ho:ops[j]?=some o)(hd:o.dst=some d)(hs:aD a d=.bool b):yielded ops a.tmps j=some b:=by
 unfold yielded;rw[ho];simp only[Option.bind_some,hd];unfold aD at hs;by_cases h:d < a.tmps.size
 ·simp[h]at hs ⊢;rw[hs]
 ·simp[h,undef]at hs
theorem zN{ops:Array Oper}{a:Act}{o:Oper}{j d:Nat}{oj:Oper}{b want:Bool}(hg:o.guard=some (j,want))(ho:ops[j]?=some oj)(hd:oj.dst=some d)(hs:aD a d=.bool b):Region.wanted o (yielded ops a.tmps)=(b==want):=by
 unfold Region.wanted;rw[hg];show (yielded ops a.tmps j==some want)=_;rw[IQ ho hd hs]
 cases b<;>cases want<;>rfl
theorem BV{ops:Array Oper}{a:Act}{o:Oper}{j d:Nat}{oj:Oper}{want:Bool}(hg:o.guard=some (j,want))(ho:ops[j]?=some oj)(hd:oj.dst=some d)(hs:aD a d=undef):Region.wanted o (yielded ops a.tmps)=false:=by
 unfold Region.wanted;rw[hg];show (yielded ops a.tmps j==some want)=_;unfold yielded;rw[ho];simp only[Option.bind_some,hd];unfold aD at hs;by_cases h:d < a.tmps.size
 ·simp[h,undef]at hs ⊢;rw[hs];simp
 ·simp[h]
theorem RZ{ops:Array Oper}{a:Act}{o:Oper}(j d:Nat){oj:Oper}(b want:Bool){A B:Prop}(hg:o.guard=some (j,want))(ho:ops[j]?=some oj)(hd:oj.dst=some d)(hs:aD a d=.bool b)(hb:(b==want)=true)(h:A):if Region.wanted o (yielded ops a.tmps)=true then A else B:=by
 rw[zN hg ho hd hs,if_pos hb];exact h
theorem RI{ops:Array Oper}{a:Act}{o:Oper}(j d:Nat){oj:Oper}(b want:Bool){A B:Prop}(hg:o.guard=some (j,want))(ho:ops[j]?=some oj)(hd:oj.dst=some d)(hs:aD a d=.bool b)(hb:(b==want)=false)(h:B):if Region.wanted o (yielded ops a.tmps)=true then A else B:=by
 rw[zN hg ho hd hs,if_neg (by rw[hb];decide)];exact h
theorem RJ{ops:Array Oper}{a:Act}{o:Oper}(j d:Nat){oj:Oper}{want:Bool}{A B:Prop}(hg:o.guard=some (j,want))(ho:ops[j]?=some oj)(hd:oj.dst=some d)(hs:aD a d=undef)(h:B):if Region.wanted o (yielded ops a.tmps)=true then A else B:=by
 rw[BV hg ho hd hs,if_neg (by decide)];exact h
theorem uV{ops:Array Oper}{a:Act}{o:Oper}(hg:o.guard=none):Region.wanted o (yielded ops a.tmps)=true:=by unfold Region.wanted;rw[hg]
theorem iU{P:Program}{o:Oper}{a:Act}{w:World}{v1 v2 v':Value}{K:Act→World→Prop}{Q:Exit→Act→World→Prop}(b:BinOp)(t t2:TypeId)(x y:Operand)(hop:o.op=Op.binOp b t x y t2)
  (hx:a.eval x=v1) (hy:a.eval y=v2) (hgd:(eqGuard b t x y v1 v2).run P w=.ok () w) (hrun:(binOp b t v1 v2).run P w=.ok v' w) (hK:K (a.put o.dst v') w):Oper.wp P o a w K Q:=by
 unfold Oper.wp;simp[execOp,hop,hx,hy,hgd,hrun,Result.andThen];exact hK
open Go.MapKept
open Go.Maps (Keyed)
def jQ(P:Program)(k:TypeId)(w:World)(b:Nat)(M:Value→Option Value):Prop :=
 ∃es clock,w.heap[b]?=some (.map es clock)∧(∀e∈es.toList,∃l,keyOf P k e.key=some l)∧es.toList.Pairwise (fun x y=>x.key≠y.key)∧∀x v,M x=some v↔∃e∈es.toList,e.key=x∧e.val=v
section
variable {P:Program} {k t e:TypeId} {w W:World} {b:Nat} {M:Value→Option Value}
theorem jQ.lt(h:jQ P k w b M):b < w.heap.size:=by
 obtain⟨es,clock,hb,_⟩:=h;exact(UT.1 hb).1
theorem jQ.of_block(h:jQ P k w b M)(hb:W.heap[b]?=w.heap[b]?):jQ P k W b M:=by
 obtain⟨es,clock,h1,h2⟩:=h;exact⟨es,clock,hb.trans h1,h2⟩
theorem jQ.below(h:jQ P k w b M)(hB:Below w.heap.size w W):jQ P k W b M:=h.of_block (hB.block b h.lt)
theorem jQ.grown{row:Option Nat}(h:jQ P k w b M)(hg:w.grownBy W row)(hr:some b≠row):jQ P k W b M:=h.of_block (hg.block b h.lt hr)
theorem jQ.made(w:World):jQ P k (w.alloc (.map #[] 0)) w.heap.size (fun _=>none) :=
 ⟨#[],0,heap_alloc_new w _,fun e he=>by simp at he,by simp,fun x v=>by simp⟩
theorem IX(K:Keyed P k){es:List MapEntry}(hk:∀e∈es,∃l,keyOf P k e.key=some l)(hp:es.Pairwise fun x y=>x.key≠y.key)(hM:∀x v,M x=some v↔∃e∈es,e.key=x∧e.val=v){x:Value}{l:Lit}(hx:keyOf P k x=some l)(w:World) :
  ((Instr.findKey k x es).run P w=.ok none w∧M x=none∧∀e∈es,e.key≠x)∨∃j e,(Instr.findKey k x es).run P w=.ok (some (j,e.val)) w∧M x=some e.val∧es[j]?=some e∧e.key=x:=by
 rcases K.find w hx es hk with ⟨h1,h2⟩|⟨j,e,h1,h2,h3⟩
 ·refine .inl ⟨h1,?_,h2⟩
  cases hm:M x with
  | none=>rfl
  | some v=>
   obtain⟨e,he,hkx,_⟩:=(hM x v).1 hm;exact absurd hkx (h2 e he)
 ·exact .inr ⟨j,e,h1,(hM x e.val).2 ⟨e,List.mem_of_getElem? h2,h3,rfl⟩,h2,h3⟩
theorem jQ.look(K:Keyed P k)(ht:P.underlying t=some (.map k e))(h:jQ P k w b M){x z:Value}{l:Lit}(hx:keyOf P k x=some l)(hz:(zeroValue e).run P w=.ok z w) :
  (Instr.lookup t (.map (some b)) x false).run P w=.ok ((M x).getD z) w∧(Instr.lookup t (.map (some b)) x true).run P w=.ok (.tuple #[(M x).getD z,.bool (M x).isSome]) w:=by
 obtain⟨es,clock,hb,hk,hp,hM⟩:=h;rcases IX K hk hp hM hx w with ⟨h1,h2,_⟩|⟨j,e0,h1,h2,_⟩
 ·constructor<;>simp[Instr.lookup,run_underlying ht,MapKept.run_getObj_map hb,K.check w _ hx,h1,h2,hz,Result.andThen]
 ·constructor<;>simp[Instr.lookup,run_underlying ht,MapKept.run_getObj_map hb,K.check w _ hx,h1,h2,hz,Result.andThen]
theorem uA(w:World)(b:Nat)(o:Obj):w.grownBy { w with heap:=w.heap.setIfInBounds b o } (some b) :=
 ⟨rfl,rfl,rfl,by simp,fun k hk hne=>by
  show (w.heap.setIfInBounds b o)[k]?=w.heap[k]?;rw[Array.getElem?_setIfInBounds_ne (fun e=>hne (by rw[e]))]⟩
theorem CI(w:World){b:Nat}(o:Obj)(hb:b < w.heap.size):({ w with heap:=w.heap.setIfInBounds b o }:World).heap[b]?=some o:=by
 show (w.heap.setIfInBounds b o)[b]?=some o;simp[hb]
open Classical in
theorem jQ.put(K:Keyed P k)(ht:P.underlying t=some (.map k e))(h:jQ P k w b M){x v:Value}{l:Lit}(hx:keyOf P k x=some l) :
  ∃W M',(Instr.mapUpdate t (.map (some b)) x v).run P w=.ok () W∧jQ P k W b M'∧M' x=some v∧(∀y,y≠x→M' y=M y)∧w.grownBy W (some b)∧W.heap.size=w.heap.size:=by
 have hlt:=h.lt;obtain⟨es,clock,hb,hk,hp,hM⟩:=h;rcases IX K hk hp hM hx w with ⟨h1,h2,h3⟩|⟨j,e0,h1,h2,h3,h4⟩
 ·refine⟨{ w with heap:=w.heap.setIfInBounds b (.map (es.push ⟨x,v,clock⟩) (clock+1)) },fun y=>if y=x then some v else M y,?_,⟨_,_,CI w _ hlt,?_,?_,fun y u=>?_⟩,if_pos rfl,fun y hy=>if_neg hy,uA w b _,by simp⟩
  ·simp[Instr.mapUpdate,run_underlying ht,MapKept.run_getObj_map hb,K.check w false hx,h1,MapKept.run_setObj_map _ hb,Result.andThen]
  ·intro y hy;simp only[Array.toList_push,List.mem_append,List.mem_singleton]at hy;rcases hy with hy|rfl
   ·exact hk y hy
   ·exact⟨l,hx⟩
  ·rw[Array.toList_push];refine List.pairwise_append.2 ⟨hp,by simp,fun a ha c hc=>?_⟩;obtain rfl:c=⟨x,v,clock⟩:=by simpa using hc
   exact h3 a ha
  ·rw[Array.toList_push];dsimp only;by_cases hy:y=x
   ·subst hy;rw[if_pos rfl];constructor
    ·intro hu;exact⟨⟨y,v,clock⟩,by simp,rfl,by simpa using hu⟩
    ·rintro⟨a,ha,ha1,ha2⟩;simp only[List.mem_append,List.mem_singleton]at ha;rcases ha with ha|rfl
     ·exact absurd ha1 (h3 a ha)
     ·simpa using ha2
   ·rw[if_neg hy,hM];constructor
    ·rintro⟨a,ha,ha1,ha2⟩;exact⟨a,by simp[ha],ha1,ha2⟩
    ·rintro⟨a,ha,ha1,ha2⟩;simp only[List.mem_append,List.mem_singleton]at ha;rcases ha with ha|rfl
     ·exact⟨a,ha,ha1,ha2⟩
     ·exact absurd ha1.symm hy
 ·have hj:es[j]?=some e0:=by simpa using h3
  have hjl:j < es.toList.length:=(List.getElem?_eq_some_iff.1 h3).1;have hlist:(es.modify j (fun e'=>{ e' with key:=x,val:=v })).toList=es.toList.set j { e0 with key:=x,val:=v }:=by rw[Array.toList_modify,Go.ChangeMaps.modify_eq_set _ _ _ _ h3]
  have hoth:∀i (hi:i < es.toList.length),i≠j→es.toList[i].key≠x:=fun i hi hne=>by
   have hje:es.toList[j].key=x:=by
    have:=(List.getElem?_eq_some_iff.1 h3).2;rw[this];exact h4
   rw[List.pairwise_iff_getElem]at hp;rcases Nat.lt_or_ge i j with hlt'|hge
   ·have:=hp i j hi hjl hlt';rw[hje]at this;exact this
   ·have:=hp j i hjl hi (by omega);rw[hje]at this;exact fun e=>this e.symm
  have who:∀y∈es.toList.set j { e0 with key:=x,val:=v },y={ e0 with key:=x,val:=v }∨(y∈es.toList∧y.key≠x):=by
   intro y hy;obtain⟨i,hi,ey⟩:=UY hy;rw[List.getElem_set]at ey;split at ey
   ·exact Or.inl ey.symm
   ·rename_i hne;have hi':i < es.toList.length:=by simpa using hi
    exact Or.inr ⟨ey ▸ UJ hi',by rw[←ey];exact hoth i hi' (fun e=>hne e.symm)⟩
  have wo:∀y∈es.toList,y.key≠x→y∈es.toList.set j { e0 with key:=x,val:=v }:=by
   intro y hy hne;obtain⟨i,hi,ey⟩:=UY hy;have hij:i≠j:=fun e=>by
    subst e;have:=(List.getElem?_eq_some_iff.1 h3).2;rw[ey]at this;rw[this]at hne;exact hne h4
   exact List.mem_iff_getElem.2 ⟨i,by simpa using hi,by rw[List.getElem_set_ne (fun e=>hij e.symm)];exact ey⟩
  refine⟨{ w with heap:=w.heap.setIfInBounds b (.map (es.modify j fun e'=>{ e' with key:=x,val:=v }) clock) },fun y=>if y=x then some v else M y,?_,⟨_,_,CI w _ hlt,?_,?_,fun y u=>?_⟩,if_pos rfl,fun y hy=>if_neg hy,uA w b _,by simp⟩
  ·simp[Instr.mapUpdate,run_underlying ht,MapKept.run_getObj_map hb,K.check w false hx,h1,hj,h4,K.stays w hx,MapKept.run_setObj_map _ hb,Result.andThen]
  ·rw[hlist];intro y hy;rcases who y hy with rfl|⟨hy',_⟩
   ·exact⟨l,hx⟩
   ·exact hk y hy'
  ·rw[hlist,List.pairwise_iff_getElem];intro p q hpl hql hpq;rw[List.length_set]at hpl hql;rw[List.getElem_set,List.getElem_set];by_cases e1:j=p
   ·subst e1;rw[if_pos rfl,if_neg (by omega)];exact fun e=>hoth q hql (by omega) e.symm
   ·rw[if_neg e1];by_cases e2:j=q
    ·subst e2;rw[if_pos rfl];exact hoth p hpl (fun e=>e1 e.symm)
    ·rw[if_neg e2];exact(List.pairwise_iff_getElem.1 hp) p q hpl hql hpq
  ·rw[hlist];dsimp only;by_cases hy:y=x
   ·subst hy;rw[if_pos rfl];constructor
    ·intro hu;exact⟨{ e0 with key:=y,val:=v },List.mem_iff_getElem.2 ⟨j,by simpa using hjl,by simp⟩,rfl,by simpa using hu⟩
    ·rintro⟨a,ha,ha1,ha2⟩;rcases who a ha with rfl|⟨_,hne⟩
     ·simpa using ha2
     ·exact absurd ha1 hne
   ·rw[if_neg hy,hM];constructor
    ·rintro⟨a,ha,ha1,ha2⟩;exact⟨a,wo a ha (by rw[ha1];exact hy),ha1,ha2⟩
    ·rintro⟨a,ha,ha1,ha2⟩;rcases who a ha with rfl|⟨ha',_⟩
     ·exact absurd ha1.symm hy
     ·exact⟨a,ha',ha1,ha2⟩
open Classical in
end
theorem nL{P:Program}{o:Oper}{a:Act}{w:World}{v1 v2 v':Value}{K:Act→World→Prop}{Q:Exit→Act→World→Prop}(t:TypeId)(x ix:Operand)(ok:Bool)(hop:o.op=Op.lookup t x ix ok)
  (hs:a.eval x=v1) (hx:a.eval ix=v2) (hrun:(Instr.lookup t v1 v2 ok).run P w=.ok v' w) (hK:K (a.put o.dst v') w):Oper.wp P o a w K Q:=by
 unfold Oper.wp;simp[execOp,hop,hs,hx,hrun,Result.andThen];exact hK
theorem iX{P:Program}{ops:Array Oper}{rest:List Oper}{o:Oper}{a:Act}{w:World}{v1 v2 v':Value}{Q:Exit→Act→World→Prop}(hg:o.guard=none)(t:TypeId)(x ix:Operand)(ok:Bool)(hop:o.op=Op.lookup t x ix ok)
  (hs:a.eval x=v1) (hx:a.eval ix=v2) (hrun:(Instr.lookup t v1 v2 ok).run P w=.ok v' w) (hK:wpList P ops Q rest (a.put o.dst v') w):wpList P ops Q (o::rest) a w :=
 wpList_plain hg fun K hK'=>nL t x ix ok hop hs hx hrun (hK' _ _ hK)
theorem xU{P:Program}{o:Oper}{a:Act}{w w':World}{v1 v2 v3:Value}{K:Act→World→Prop}{Q:Exit→Act→World→Prop}(t:TypeId)(m x y:Operand)(hop:o.op=Op.mapUpdate t m x y)
  (hm:a.eval m=v1) (hx:a.eval x=v2) (hy:a.eval y=v3) (hrun:(Instr.mapUpdate t v1 v2 v3).run P w=.ok () w') (hK:K (a.put o.dst undef) w'):Oper.wp P o a w K Q:=by
 unfold Oper.wp;simp[execOp,hop,hm,hx,hy,hrun,Result.andThen];exact hK
theorem dI{P:Program}{o:Oper}{a:Act}{w w':World}{v1 v2 v':Value}{K:Act→World→Prop}{Q:Exit→Act→World→Prop}(s x:Operand)(t:TypeId)(hop:o.op=Op.call { callee:=Callee.builtin Builtin.append,args:=#[s,x],argTypes:=#[t,t] })
  (hs:a.eval s=v1) (hx:a.eval x=v2) (hrun:(Builtin.append_ #[t,t] o.type #[v1,v2]).run P w=.ok v' w') (hK:K (a.put o.dst v') w'):Oper.wp P o a w K Q:=by
 unfold Oper.wp;simp[execOp,hop,resolve,invoke,builtin,hs,hx,hrun,Result.andThen];exact hK
theorem sZ{P:Program}{ops:Array Oper}{rest:List Oper}{o:Oper}{a:Act}{w w':World}{v1 v2 v':Value}{Q:Exit→Act→World→Prop}(hg:o.guard=none)(s x:Operand)(t:TypeId)(hop:o.op=Op.call { callee:=Callee.builtin Builtin.append,args:=#[s,x],argTypes:=#[t,t] })
  (hs:a.eval s=v1) (hx:a.eval x=v2) (hrun:(Builtin.append_ #[t,t] o.type #[v1,v2]).run P w=.ok v' w') (hK:wpList P ops Q rest (a.put o.dst v') w'):wpList P ops Q (o::rest) a w :=
 wpList_plain hg fun K hK'=>dI s x t hop hs hx hrun (hK' _ _ hK)
theorem fY{base n z:Nat}{e:TypeId}{v:Value}{xs:List Value}{w w':World}(h:w.ownsRow base e z v n xs)(hb:Below w.heap.size w w'):w'.ownsRow base e z v n xs:=h.kept (jG (r:=none) hb) (by cases v.ownBlock<;>simp)
structure dD(w:World)(ks:List (Nat × List Value))(wx:World):Prop where
 k:∀e∈ks,aA wx e.1 e.2
 b:Below w.heap.size w wx
 z:∀e∈ks,0 < e.2.length
theorem dD.at{w wx:World}{ks:List (Nat × List Value)}{a:Nat}{l:List Value}(h:dD w ks wx)(hm:(a,l)∈ks):aA wx a l:=h.k _ hm
theorem dD.kept{w wx wy:World}{ks:List (Nat × List Value)}(h:dD w ks wx)(hB:Below wx.heap.size wx wy):dD w ks wy:=⟨fun e he=>(h.k e he).kept (h.z e he) hB,h.b.trans (hB.mono h.b.size),h.z⟩
theorem dD.lts{w wx:World}{ks:List (Nat × List Value)}(h:dD w ks wx):∀e∈ks,e.1 < wx.heap.size∧0 < e.2.length:=fun e he=>⟨(h.k e he).lt (h.z e he),h.z e he⟩
theorem dD.push{w wx:World}{ks:List (Nat × List Value)}(h:dD w ks wx)(vs:List Value)(hv:0 < vs.length)(T:TypeId):dD w ((wx.heap.size,vs)::ks) (wx.alloc (.cells vs.toArray T)):=by
 have hal:Below wx.heap.size wx (wx.alloc (.cells vs.toArray T)):=bR.alloc lR _;refine⟨fun e he=>?_,h.b.trans (hal.mono h.b.size),fun e he=>?_⟩
 ·rcases UH.1 he with rfl | he
  ·exact aA.new wx vs T
  ·exact(h.k e he).kept (h.z e he) hal
 ·rcases UH.1 he with rfl | he
  ·exact hv
  ·exact h.z e he
theorem dD.cons{w wx:World}{ks:List (Nat × List Value)}{g:Nat}{vs:List Value}(h:dD w ks wx)(hg:aA wx g vs)(hv:0 < vs.length):dD w ((g,vs)::ks) wx:=⟨fun e he=>by
 rcases UH.1 he with rfl|he
 ·exact hg
 ·exact h.k e he,h.b,fun e he=>by
 rcases UH.1 he with rfl|he
 ·exact hv
 ·exact h.z e he⟩
def LO(base:Nat)(zs:List Value):Value→World→Prop:=fun v w=>∃g,v=.pointer (some ⟨g,0,none⟩)∧base≤g∧aA w g zs
theorem uT(base:Nat)(zs:List Value)(h:0 < zs.length):eZ (LO base zs):=fun v w w' ⟨g,h1,h2,h3⟩ hb=>⟨g,h1,h2,h3.kept h hb⟩
theorem TA(w:World)(l0:List Value)(T0:TypeId)(z0:0 < l0.length):Hid (dD w [(w.heap.size,l0)] (w.alloc (.cells l0.toArray T0))) := by
 have e0:aA (w.alloc (.cells l0.toArray T0)) (w.heap.size) l0:=by
  have h:=aA.new w l0 T0
  try simp only[UC]at h
  exact h
 refine⟨fun e he=>?_,((Below.refl _ _).alloc (by (try simp only[UC]);omega) _),fun e he=>?_⟩
 · simp only[UH,UG,or_false]at he
   rcases he with rfl
   · exact e0
 · simp only[UH,UG,or_false]at he
   rcases he with rfl
   · exact z0
theorem SL(w:World)(l0:List Value)(T0:TypeId)(l1:List Value)(T1:TypeId)(z0:0 < l0.length)(z1:0 < l1.length):Hid (dD w [(w.heap.size,l0),(w.heap.size+1,l1)] ((w.alloc (.cells l0.toArray T0)).alloc (.cells l1.toArray T1))) := by
 have e0:aA ((w.alloc (.cells l0.toArray T0)).alloc (.cells l1.toArray T1)) (w.heap.size) l0:=by
  have h:=aA.new w l0 T0
  try simp only[UC]at h
  exact(h.alloc _)
 have e1:aA ((w.alloc (.cells l0.toArray T0)).alloc (.cells l1.toArray T1)) (w.heap.size+1) l1:=by
  have h:=aA.new (w.alloc (.cells l0.toArray T0)) l1 T1
  try simp only[UC]at h
  exact h
 refine⟨fun e he=>?_,(((Below.refl _ _).alloc (by (try simp only[UC]);omega) _).alloc (by (try simp only[UC]);omega) _),fun e he=>?_⟩
 · simp only[UH,UG,or_false]at he
   rcases he with rfl|rfl
   · exact e0
   · exact e1
 · simp only[UH,UG,or_false]at he
   rcases he with rfl|rfl
   · exact z0
   · exact z1
theorem RL(w:World)(l0:List Value)(T0:TypeId)(l1:List Value)(T1:TypeId)(l2:List Value)(T2:TypeId)(z0:0 < l0.length)(z1:0 < l1.length)(z2:0 < l2.length):Hid (dD w [(w.heap.size,l0),(w.heap.size+1,l1),(w.heap.size+1+1,l2)] (((w.alloc (.cells l0.toArray T0)).alloc (.cells l1.toArray T1)).alloc (.cells l2.toArray T2))) := by
 have e0:aA (((w.alloc (.cells l0.toArray T0)).alloc (.cells l1.toArray T1)).alloc (.cells l2.toArray T2)) (w.heap.size) l0:=by
  have h:=aA.new w l0 T0
  try simp only[UC]at h
  exact((h.alloc _).alloc _)
 have e1:aA (((w.alloc (.cells l0.toArray T0)).alloc (.cells l1.toArray T1)).alloc (.cells l2.toArray T2)) (w.heap.size+1) l1:=by
  have h:=aA.new (w.alloc (.cells l0.toArray T0)) l1 T1
  try simp only[UC]at h
  exact(h.alloc _)
 have e2:aA (((w.alloc (.cells l0.toArray T0)).alloc (.cells l1.toArray T1)).alloc (.cells l2.toArray T2)) (w.heap.size+1+1) l2:=by
  have h:=aA.new ((w.alloc (.cells l0.toArray T0)).alloc (.cells l1.toArray T1)) l2 T2
  try simp only[UC]at h
  exact h
 refine⟨fun e he=>?_,((((Below.refl _ _).alloc (by (try simp only[UC]);omega) _).alloc (by (try simp only[UC]);omega) _).alloc (by (try simp only[UC]);omega) _),fun e he=>?_⟩
 · simp only[UH,UG,or_false]at he
   rcases he with rfl|rfl|rfl
   · exact e0
   · exact e1
   · exact e2
 · simp only[UH,UG,or_false]at he
   rcases he with rfl|rfl|rfl
   · exact z0
   · exact z1
   · exact z2
section
variable {P:Program} {ops:Array Oper} {Q:Exit→Act→World→Prop} {ds:List Tmp} {R:Nat→Value→World→Prop} {a0:Act} {w0:World} {last:Oper}
structure zP(ops:Array Oper)(ds:List Tmp)(n:Nat)(last:Oper):Prop where
 len:ops.size=ds.length+1
 dst:∀i o,i < ds.length→ops[i]?=some o→o.dst=some (ds.getD i 0)∧o.guard=none
 nodup:ds.Nodup
 fits:∀d∈ds,d < n
 topo:∀i o,i < ds.length→ops[i]?=some o→∀e∈o.after,Region.binds .any e=true→e.on < i
 isLast:ops[ds.length]?=some last
 lguard:last.guard=none
 ledge:∀e∈last.after,Region.binds .any e=true→e.on < ds.length
 lall:∀j,j < ds.length→(∃e∈last.after,Region.binds .any e=true∧e.on=j)∨∃i o,j < i∧i < ds.length∧ops[i]?=some o∧∃e∈o.after,Region.binds .any e=true∧e.on=j
def GB(ops:Array Oper)(ds:List Tmp)(n:Nat)(last:Oper):Bool :=
 decide (ops.size=ds.length+1)&&(List.range ds.length).all (fun i=>match ops[i]? with
  | some o=>(match o.dst with | some d=>d==ds.getD i 0 | none=>false)&&o.guard.isNone&&o.after.all (fun e=>!Region.binds .any e||decide (e.on < i))
  | none=>true)&&decide ds.Nodup&&ds.all (fun d=>decide (d < n))&&last.guard.isNone&&last.after.all (fun e=>!Region.binds .any e||decide (e.on < ds.length)) &&
  (List.range ds.length).all (fun j=>last.after.any (fun e=>Region.binds .any e&&e.on==j)||(List.range ds.length).any (fun i=>decide (j < i)&&match ops[i]? with | some o=>o.after.any (fun e=>Region.binds .any e&&e.on==j) | none=>false))
theorem zP.of{n:Nat}(hl:ops[ds.length]?=some last)(h:GB ops ds n last=true):zP ops ds n last:=by
 unfold GB at h;simp only[UB,UF,List.all_eq_true,List.mem_range]at h;obtain⟨⟨⟨⟨⟨⟨h1,h2⟩,h3⟩,h4⟩,h5⟩,h6⟩,h7⟩:=h;refine⟨h1,fun i o hi ho=>?_,h3,h4,fun i o hi ho e he hb=>?_,hl,by simpa using h5,fun e he hb=>?_,fun j hj=>?_⟩
 ·have:=h2 i hi;rw[ho]at this;simp only[UB]at this;obtain⟨⟨t1,t2⟩,_⟩:=this;refine⟨?_,by simpa using t2⟩
  cases hd:o.dst with
  | none=>rw[hd]at t1;simp at t1
  | some d=>rw[hd]at t1;simp at t1;rw[t1];simp
 ·have:=h2 i hi;rw[ho]at this;simp only[UB]at this;obtain⟨_,t3⟩:=this;have:=Array.all_eq_true_iff_forall_mem.1 t3 e he;simp[hb]at this;exact this
 ·have:=Array.all_eq_true_iff_forall_mem.1 h6 e he;simp[hb]at this;exact this
 ·have:=h7 j hj;simp only[UV]at this;rcases this with this|this
  ·obtain⟨e,he,hb⟩:=Array.any_eq_true'.1 this;simp only[UB,beq_iff_eq]at hb;exact .inl ⟨e,he,hb.1,hb.2⟩
  ·obtain⟨i,hi,hh⟩:=List.any_eq_true.1 this;simp only[UB,UF]at hh
   cases ho:ops[i]? with
   | none=>rw[ho]at hh;simp at hh
   | some o=>
    rw[ho]at hh;obtain⟨e,he,hb⟩:=Array.any_eq_true'.1 hh.2;simp only[UB,beq_iff_eq]at hb;exact .inr ⟨i,o,hh.1,List.mem_range.1 hi,ho,e,he,hb.1,hb.2⟩
end
structure mR(w:World)(a:OA)(len:Nat)(B:Nat):Prop where
 get:∀i,i < len→∃b off,a=some ⟨b,off,none⟩∧b < B∧∃x:Int,0≤x∧x≤255∧w.cell? ⟨b,off+i,none⟩=some (.int .u8 x)
theorem mR.kept{w w':World}{a:OA}{len B:Nat}{row:Option Nat}(h:mR w a len B)(hg:w.grownBy w' row)(hr:∀k,row=some k→B≤k):mR w' a len B :=
 ⟨fun i hi=>by
  obtain⟨b,off,e,hb,x,h0,h1,hc⟩:=h.get i hi;exact⟨b,off,e,hb,x,h0,h1,hg.cell hc (fun e=>by have:=hr b e.symm;omega)⟩⟩
theorem mR.mono{w:World}{a:OA}{len B B':Nat}(h:mR w a len B)(hB:B≤B'):mR w a len B' :=
 ⟨fun i hi=>by
  obtain⟨b,off,e,hb,r⟩:=h.get i hi;exact⟨b,off,e,by omega,r⟩⟩
structure iH(w:World)(B:Nat)(a:OA)(len cap:Nat)(at1:Nat)(mix size:Int):Prop where
 cb:w.cell? ⟨B,0,none⟩=some (.slice a len cap)
 cat:w.cell? ⟨B,1,none⟩=some (iV at1)
 cmix:w.cell? ⟨B,2,none⟩=some (.int .u64 mix)
 csize:w.cell? ⟨B,3,none⟩=some (iV size)
 f1:w.frozen? ⟨B,1,none⟩=false
 f2:w.frozen? ⟨B,2,none⟩=false
 f3:w.frozen? ⟨B,3,none⟩=false
 low:at1≤len
 m0:0≤mix
 m1:mix≤18446744073709551615
section
variable {w w':World} {B:Nat} {a:OA} {len cap at1:Nat} {mix size:Int}
theorem iH.drew(h:iH w B a len cap at1 mix size):iH w.drew B a len cap at1 mix size:=⟨h.cb,h.cat,h.cmix,h.csize,h.f1,h.f2,h.f3,h.low,h.m0,h.m1⟩
theorem iH.setAt(h:iH w B a len cap at1 mix size)(k:Nat)(hk:k≤len)(v:Value)(hv:v=iV k):iH (w.setCell ⟨B,1,none⟩ v) B a len cap k mix size:=by
 subst hv;exact⟨(World.cell?_setCell_other _ _ _ _ (by simp)).trans h.cb,World.cell?_setCell_same _ _ _ h.cat,(World.cell?_setCell_other _ _ _ _ (by simp)).trans h.cmix,(World.cell?_setCell_other _ _ _ _ (by simp)).trans h.csize,
  by rw[World.frozen?_setCell];exact h.f1,by rw[World.frozen?_setCell];exact h.f2,by rw[World.frozen?_setCell];exact h.f3,hk,h.m0,h.m1⟩
theorem iH.setMix(h:iH w B a len cap at1 mix size)(m:Int)(hm:0≤m)(hm':m≤18446744073709551615):iH (w.setCell ⟨B,2,none⟩ (.int .u64 m)) B a len cap at1 m size :=
 ⟨(World.cell?_setCell_other _ _ _ _ (by simp)).trans h.cb,(World.cell?_setCell_other _ _ _ _ (by simp)).trans h.cat,World.cell?_setCell_same _ _ _ h.cmix,(World.cell?_setCell_other _ _ _ _ (by simp)).trans h.csize,
  by rw[World.frozen?_setCell];exact h.f1,by rw[World.frozen?_setCell];exact h.f2,by rw[World.frozen?_setCell];exact h.f3,h.low,hm,hm'⟩
theorem iH.setSize(h:iH w B a len cap at1 mix size)(m:Int):iH (w.setCell ⟨B,3,none⟩ (iV m)) B a len cap at1 mix m :=
 ⟨(World.cell?_setCell_other _ _ _ _ (by simp)).trans h.cb,(World.cell?_setCell_other _ _ _ _ (by simp)).trans h.cat,(World.cell?_setCell_other _ _ _ _ (by simp)).trans h.cmix,World.cell?_setCell_same _ _ _ h.csize,
  by rw[World.frozen?_setCell];exact h.f1,by rw[World.frozen?_setCell];exact h.f2,by rw[World.frozen?_setCell];exact h.f3,h.low,h.m0,h.m1⟩
theorem iH.kept{row:Option Nat}(h:iH w B a len cap at1 mix size)(hg:w.grownBy w' row)(hr:some B≠row):iH w' B a len cap at1 mix size:=by
 have hlt:B < w.heap.size:=US w _ h.cb;have hb:=hg.block B hlt hr;exact⟨hg.cell h.cb hr,hg.cell h.cat hr,hg.cell h.cmix hr,hg.cell h.csize hr,(World.frozen?_of_block (a:=⟨B,1,none⟩) hb).trans h.f1,(World.frozen?_of_block (a:=⟨B,2,none⟩) hb).trans h.f2,(World.frozen?_of_block (a:=⟨B,3,none⟩) hb).trans h.f3,h.low,h.m0,h.m1⟩
end
theorem oB(op:BinOp)(x y:Int):0≤bits op .u64 x y∧bits op .u64 x y≤18446744073709551615:=by
 have h:bits op .u64 x y=IntKind.u64.wrap _:=rfl;rw[h,IntKind.wrap_u64];omega
theorem QZ(x most mix:Int)(hm:1 < most)(hm2:most≤9223372036854775807):0≤wrap64 ((x+mix / 1048576) % most)∧wrap64 ((x+mix / 1048576) % most) < most:=by
 have h0:=Int.emod_nonneg (x+mix / 1048576) (show most≠0 by omega);have h1:=Int.emod_lt_of_pos (x+mix / 1048576) (show 0 < most by omega);rw[IntWalk.wrap64_in _ ⟨by omega,by omega⟩];exact⟨h0,h1⟩
def iY(w:World)(B:Nat)(a:OA)(len cap:Nat)(size:Int):Prop:=mR w a len B∧∃at1 mix,iH w B a len cap at1 mix size
theorem iY.kept{w w':World}{B:Nat}{a:OA}{len cap:Nat}{size:Int}{row:Option Nat}(h:iY w B a len cap size)(hg:w.grownBy w' row)(hr:∀k,row=some k→B < k):iY w' B a len cap size:=by
 obtain⟨h1,at1,mix,h2⟩:=h;exact⟨h1.kept hg (fun k e=>Nat.le_of_lt (hr k e)),at1,mix,h2.kept hg (fun e=>by have:=hr B e.symm;omega)⟩
theorem aV(most:Int)(B:Nat)(a:OA)(len cap:Nat)(size:Int)(w:World)(hm:1 < most)(hm2:most≤9223372036854775807)(hl:len≤1048576)(hs:iY w B a len cap size) :
  Calls Tryz.prog 50 #[.pointer (some ⟨B,0,none⟩),iV most] w fun e w'=>∃r,e=.returned (iV r)∧0≤r∧r < most∧iY w' B a len cap size∧w.grownBy w' (some B):=by
 obtain⟨hb,at1,mix,hs⟩:=hs;have HS:Hid (iH w B a len cap at1 mix size):=hs;have HB:Hid (mR w a len B):=hb;obtain⟨c0,c1,c2,c3,f1,f2,f3,low,m0,m1⟩:=hs;clear hb;go_enter Tryz.func50,Tryz.ntmps50
 go_upto_region 4 with fail
 go_cut [17] (fun v wx=>v=.bool (decide (at1 < len))∧wx=w.drew)
 case first=>
  go_region
  all_goals (go_wp2_with fail;go_meet;exact⟨rfl,rfl⟩)
 case rest=>
 obtain⟨rfl,rfl⟩:=hcut;go_upto_if 17 with fail
 go_cut [5] (fun v wx=>∃(x:Int) (at2:Nat),v=.int .u64 x∧0≤x∧x≤255∧iH wx B a len cap at2 mix size∧w.grownBy wx (some B))
 case first=>
  by_cases h:at1 < len
  ·obtain⟨b,off,rfl,hbB,x,x0,x1,cx⟩:=HB.out.get at1 h;have h':(at1:Int) < (len:Int):=by omega
   have hne:¬b=B:=by omega
   go_wp2
   go_region
   all_goals go_wp2
   all_goals go_meet
   all_goals exact⟨x,at1+1,rfl,x0,x1,(HS.out.setAt (at1+1) (by omega) _ (by go_num)).drew.drew,lE (lE (aB (World.grownBy.refl _ _) _))⟩
  ·have h':¬(at1:Int) < (len:Int):=by omega
   go_wp2
   all_goals go_meet
   all_goals exact⟨0,at1,rfl,by omega,by omega,HS.out.drew,lE (World.grownBy.refl _ _)⟩
 case rest=>
 obtain⟨x,at2,rfl,x0,x1,hs2,hg2⟩:=hcut;clear c0 c1 c2 c3 f1 f2 f3 HS low m0 m1;have HS:Hid (iH wc B a len cap at2 mix size):=hs2;have HG:Hid (w.grownBy wc (some B)):=hg2;obtain⟨c0,c1,c2,c3,f1,f2,f3,low,m0,m1⟩:=hs2;clear hg2;go_upto_region 7 with fail
 go_cut [] (fun wx=>∃mix2,iH wx B a len cap at2 mix2 size∧w.grownBy wx (some B))
 case first=>
  go_region
  all_goals (go_wp2_with fail;go_meet;exact⟨_,(HS.out.setMix _ (oB _ _ _).1 (oB _ _ _).2).drew,lE (aB HG.out _)⟩)
 case rest=>
 clear c0 c1 c2 c3 f1 f2 f3 HS HG low m0 m1;obtain⟨mix,hs2,hg2⟩:=hcut;have HS:Hid (iH wc B a len cap at2 mix size):=hs2;have HG:Hid (w.grownBy wc (some B)):=hg2;obtain⟨c0,c1,c2,c3,f1,f2,f3,low,m0,m1⟩:=hs2;clear hg2;go_upto_region 8 with fail
 go_cut [] (fun wx=>∃mix2,iH wx B a len cap at2 mix2 size∧w.grownBy wx (some B))
 case first=>
  go_region
  all_goals (go_wp2_with fail;go_meet;exact⟨_,(HS.out.setMix _ (oB _ _ _).1 (oB _ _ _).2).drew,lE (aB HG.out _)⟩)
 case rest=>
 clear c0 c1 c2 c3 f1 f2 f3 HS HG low m0 m1;obtain⟨mix,hs2,hg2⟩:=hcut;have HS:Hid (iH wc B a len cap at2 mix size):=hs2;have HG:Hid (w.grownBy wc (some B)):=hg2;obtain⟨c0,c1,c2,c3,f1,f2,f3,low,m0,m1⟩:=hs2;clear hg2;go_upto_region 9 with fail
 go_cut [] (fun wx=>∃mix2,iH wx B a len cap at2 mix2 size∧w.grownBy wx (some B))
 case first=>
  go_region
  all_goals (go_wp2_with fail;go_meet;exact⟨_,(HS.out.setMix _ (oB _ _ _).1 (oB _ _ _).2).drew,lE (aB HG.out _)⟩)
 case rest=>
 clear c0 c1 c2 c3 f1 f2 f3 HS HG low m0 m1;obtain⟨mix,hs2,hg2⟩:=hcut;have HS:Hid (iH wc B a len cap at2 mix size):=hs2;have HG:Hid (w.grownBy wc (some B)):=hg2;obtain⟨c0,c1,c2,c3,f1,f2,f3,low,m0,m1⟩:=hs2;clear hg2;have R:=QZ x most mix hm hm2;have H0:Hid _:=R.1;have H1:Hid _:=R.2;clear R;go_wp2
 go_ret;exact⟨_,rfl,H0.out,H1.out,⟨HB.out.kept HG.out (by simp),at2,mix,HS.out⟩,HG.out⟩
theorem FT(most:Int)(B:Nat)(w:World)(hm:most≤1) :
  Cw 50 #[.pointer (some ⟨B,0,none⟩),iV most] w (iV 0):=by
 go_enter Tryz.func50,Tryz.ntmps50
 go_wp2
 go_ret;exact⟨rfl,rfl⟩
theorem eQ(most:Int)(B:Nat)(a:OA)(len cap:Nat)(size:Int)(w:World)(hm2:most≤9223372036854775807)(hl:len≤1048576)(hs:iY w B a len cap size) :
  Calls Tryz.prog 50 #[.pointer (some ⟨B,0,none⟩),iV most] w fun e w'=>∃r,e=.returned (iV r)∧0≤r∧(r < most∨r=0)∧iY w' B a len cap size∧w.grownBy w' (some B):=by
 by_cases h:1 < most
 ·refine(aV most B a len cap size w h hm2 hl hs).mono ?_;rintro e w' ⟨r,he,h0,h1,h2,h3⟩;exact⟨r,he,h0,.inl h1,h2,h3⟩
 ·refine(FT most B w (by omega)).mono ?_;rintro e w' ⟨he,rfl⟩;exact⟨0,he,by omega,.inr rfl,hs,World.grownBy.refl _ _⟩
theorem bS(most:Int)(B:Nat)(a:OA)(len cap:Nat)(size:Int)(w:World)(hm2:most≤9223372036854775807)(hl:len≤1048576)(hs:iY w B a len cap size) :
  Calls Tryz.prog 49 #[.pointer (some ⟨B,0,none⟩),iV most] w fun e w'=>∃r,e=.returned (.bool r)∧iY w' B a len cap size∧w.grownBy w' (some B):=by
 have HS:Hid (iY w B a len cap size):=hs;clear hs;go_enter Tryz.func49,Tryz.ntmps49
 go_wp2_with (go_at_call 50;refine(eQ most B a len cap size _ hm2 hl HS.out).mono ?_;rintro e w' ⟨r,rfl,h0,h1,hs2,hg2⟩)
 go_ret;exact⟨_,rfl,hs2,hg2⟩
theorem ES(x:Int):0≤IntKind.u64.wrap x∧IntKind.u64.wrap x≤18446744073709551615:=by
 rw[IntKind.wrap_u64];omega
theorem IG(a:OA)(len cap:Nat)(w:World)(hl:len≤1048576)(hb:mR w a len w.heap.size) :
  Calls Tryz.prog 25 #[.slice a len cap] w fun e w'=>e=.returned (.pointer (some ⟨w.heap.size,0,none⟩))∧Below w.heap.size w w'∧∃size,0≤size∧size≤12∧iY w' w.heap.size a len cap size:=by
 have HB:Hid (mR w a len w.heap.size):=hb;clear hb;go_enter Tryz.func25,Tryz.ntmps25
 go_wp2
 go_loopw [4] (fun i wr=>∃k:Nat,k≤len∧i=iV k∧(∃mix,iH wr w.heap.size a len cap 0 mix 0)∧Below w.heap.size w wr) (fun i _=>len-(intOf i).toNat)
 case atStart=>
  exact⟨0,VC _,rfl,⟨88172645463325252,by simp,by simp,by simp,by simp,by simp,by simp,by simp,VC _,by omega,by omega⟩,bR.alloc lR _⟩
 case round=>
  obtain⟨k,hk,rfl,⟨mix,hs⟩,hbel⟩:=hrel;have HS:Hid (iH wr w.heap.size a len cap 0 mix 0):=hs;have HL:Hid (Below w.heap.size w wr):=hbel;obtain⟨c0,c1,c2,c3,f1,f2,f3,low,m0,m1⟩:=hs;clear hbel;by_cases h:k < len∧k < 64
  ·obtain⟨h1,h2⟩:=h;obtain⟨b,off,rfl,hbB,x,x0,x1,cx'⟩:=HB.out.get k h1;have cx:wr.cell? ⟨b,off+k,none⟩=some (.int .u8 x):=(HL.out.cell (p:=⟨b,off+k,none⟩) hbB).trans cx';have hne:¬b=w.heap.size:=by omega
   clear cx';go_wp2
   go_region
   all_goals go_wp2
   all_goals go_roundw
   case rel=>exact⟨k+1,by omega,by go_num,⟨_,(HS.out.setMix _ (ES _).1 (ES _).2).drew⟩,(HL.out.setCell lR _).drew⟩
   case measure=>simp[intOf];omega
  ·have HD:Hid (mR wr a len w.heap.size):=HB.out.kept (jG (r:=none) (by exact HL.out)) (by simp);clear HB;by_cases h1:k < len;all_goals
    by_cases h12:12 < (len:Int) / 20
    ·go_wp2
     go_ret;exact⟨rfl,(HL.out.setCell lR _).setCell lR _,12,by omega,by omega,HD.out.kept (aB (aB (World.grownBy.refl _ _) _) _) (by simp),0,mix,(HS.out.setSize _).setSize _⟩
    ·go_wp2
     go_ret;exact⟨rfl,HL.out.setCell lR _,(len:Int) / 20,by omega,by omega,HD.out.kept (aB (World.grownBy.refl _ _) _) (by simp),0,mix,HS.out.setSize _⟩
theorem Tryz.infoB:(Tryz.prog.info? 5).map (fun i=>(i.zero,i.size,i.bytes))=some (some (.int .u8 0),1,1):=by kernel_rfl
def PW(xs:List Int):List UInt8:=xs.map fun x=>UInt8.ofNat x.toNat
theorem NT{w:World}{base:Nat}{xs:List Int}{g cap n:Nat}(hx:∀x∈xs,0≤x∧x≤255)(hn:xs.length=n)
  (h:w.ownsRow base 5 1 (.slice (some ⟨g,0,none⟩) n cap) n (xs.map (Value.int .u8))) :
  (convert 22 9 (.slice (some ⟨g,0,none⟩) n cap)).run Tryz.prog w=.ok (.string ⟨(PW xs).toArray⟩) w:=by
 have hl:(PW xs).length=n:=by simp[PW,hn]
 have:=run_convert_bytes_back (P:=Tryz.prog) w 22 9 5 ⟨g,0,none⟩ cap (PW xs) Tryz.underlying22 Tryz.underlying5 Tryz.underlying9 (by
  intro j hj;have hj':j < xs.length:=by simpa[PW] using hj
  have h1:=h.cellAt j (by omega);have h2:=hx xs[j] (UJ hj');have ha:Addr.add ⟨g,0,none⟩ j=⟨g,j,none⟩:=by simp only[Addr.add,UI];split<;>simp_all
  rw[ha,h1];simp only[List.getElem?_map,UU hj',Option.map_some,PW,List.getElem_map,UInt8.toNat_ofNat'];congr 2;omega)
 rw[hl]at this;exact this
theorem FR{w w1 w2:World}{B len cap k e:Nat}{a:OA}{size r:Int}{v v':Value}{xs:List Int}{o:Obj}(hk:xs.length=k)(hx:∀x∈xs,0≤x∧x≤255)(hr:0≤r∧r≤255)
  (hown1:w1.ownsRow w.heap.size e 1 v k (xs.map (Value.int .u8))) (hB:B < w.heap.size) (_hsz:w.heap.size≤w1.heap.size) (hg:w.grownBy w1 (some B)) (hs:iY w1 B a len cap size)
  (hown2:w2.ownsRow w.heap.size e 1 v' (k+1) (xs.map (Value.int .u8)++[Value.int .u8 r])) (hgrow:(w1.alloc o).grownBy w2 v.ownBlock) (hnil:¬v'=.slice none 0 0) :
  (xs++[r]).length=k+1∧(∀x∈xs++[r],0≤x∧x≤255)∧w2.ownsRow w.heap.size e 1 v' (k+1) ((xs++[r]).map (Value.int .u8))∧v'≠.slice none 0 0∧iY w2 B a len cap size∧w.grownBy w2 (some B):=by
 have hlo:∀q,v.ownBlock=some q→w.heap.size≤q:=fun q hq=>(hown1.lt q hq).1
 refine⟨by simp[hk],?_,by simpa using hown2,hnil,?_,?_⟩
 ·intro x hx';rcases List.mem_append.1 hx' with h|h
  ·exact hx x h
  ·simp at h;subst h;exact hr
 ·exact(hs.kept (World.grownBy_alloc w1 o none) (by simp)).kept hgrow (fun q hq=>by have:=hlo q hq;omega)
 ·have h1:w1.grownBy (w1.alloc o) (some B):=World.grownBy_alloc _ _ _;refine⟨hgrow.os.trans hg.os,hgrow.tape.trans hg.tape,hgrow.output.trans hg.output,UL hg.size (UL h1.size hgrow.size),fun q hq hne=>?_⟩;have hq1:q < w1.heap.size:=UX hq hg.size;rw[hgrow.block q (UX hq1 h1.size) (fun e=>by have:=hlo q e.symm;omega),h1.block q hq1 hne,hg.block q hq hne]
theorem nN(m:Nat)(B:Nat)(a:OA)(len cap:Nat)(size:Int)(w:World)(hm:m≤100000)(hl:len≤1048576)(hs:iY w B a len cap size) :
  Calls Tryz.prog 120 #[.pointer (some ⟨B,0,none⟩),iV m] w fun e w'=>∃s:BA,e=.returned (.string s)∧s.size=m∧iY w' B a len cap size∧w.grownBy w' (some B):=by
 obtain⟨i0,hi,hz0,hz1,hz2⟩:=info_parts Tryz.infoB;have hB:B < w.heap.size:=by obtain⟨_,_,_,h⟩:=hs;exact US w _ h.cb
 have HS:Hid (iY w B a len cap size):=hs;clear hs;go_enter Tryz.func120,Tryz.ntmps120
 go_wp2
 go_loopw [5,6] (fun v i wr=>∃k:Nat,k≤m∧i=iV k∧∃xs:List Int,xs.length=k∧(∀x∈xs,0≤x∧x≤255)∧wr.ownsRow w.heap.size 5 1 v k (xs.map (Value.int .u8))∧v≠.slice none 0 0∧iY wr B a len cap size∧w.grownBy wr (some B)) (fun _ i _=>m-(intOf i).toNat)
 case atStart=>
  refine⟨0,VC _,rfl,[],rfl,by simp,?_,by simp,HS.out.kept (World.grownBy_alloc _ _ none) (by simp),World.grownBy_alloc _ _ _⟩;exact World.ownsRow_made w #[] 0 lR (by unfold maxLen;omega) rfl
 case round=>
  obtain⟨k,hk,rfl,xs,hxl,hxs,hown,hnn,hsr,hgr⟩:=hrel;have HG:Hid (w.grownBy wr (some B)):=hgr;have HR:Hid (iY wr B a len cap size):=hsr;have HX:Hid (∀x∈xs,0≤x∧x≤255):=hxs;have HN:Hid (u5≠.slice none 0 0):=hnn;have HK:Hid (xs.length=k):=hxl;clear hgr hsr hxs hnn hxl;by_cases hlt:k < m
  ·go_wp2_with fail
   refine(aV 256 B a len cap size _ (by omega) (by omega) hl HR.out).mono ?_;rintro e w1 ⟨r,rfl,r0,r1,hs1,hg1⟩;have hown1:=hown.kept hg1 (QX hown hB);have hsz:w.heap.size≤w1.heap.size:=UL HG.out.size hg1.size;have HG1:Hid (w.grownBy w1 (some B)):=fV HG.out hg1;have HR1:Hid (iY w1 B a len cap size):=hs1;clear hs1 hg1 hown;go_wp2_with (at_builtin;refine wpList_append_own _ rfl (.tmp 13) (.tmp 17) 22 rfl w.heap.size 5 i0 (.int .u8 0) 1 1 Tryz.underlying22 hi hz0 hz1 hz2 rfl (by decide) _ _ _ rfl (hown1.alloc _) ⟨w1.heap.size,0,none⟩ 1 1 [.int .u8 r] rfl rfl ?c1 ?c2 ?c3 ?c4 ?c5 ?_)
   case c1=>
    intro j u hj;match j,hj with
    | 0,hj=>simp at hj;subst hj;simp[Addr.add]
   case c2=>intro u hu;simp at hu;subst hu;rfl
   case c3=>unfold maxLen;omega
   case c4=>omega
   case c5=>simp;omega
   ·intro v' w2 hown2 hgrow hnil;have R:=FR (r:=r) HK.out HX.out (by omega) hown1 hB hsz HG1.out HR1.out hown2 hgrow hnil;clear hown2 hgrow hnil hown1;go_wp2
    go_roundw
    case rel=>exact⟨k+1,by omega,by go_num,xs++[r],R.1,R.2.1,R.2.2.1,R.2.2.2.1,R.2.2.2.2.1,R.2.2.2.2.2⟩
    case measure=>simp[intOf];omega
  ·obtain⟨g,cp,hv,hown'⟩:=KM hown HN.out;have hkm:k=m:=by omega
   subst hkm;subst hv;have hcv:=NT HX.out HK.out hown';clear hown hown';go_wp2
   go_ret;exact⟨⟨(PW xs).toArray⟩,rfl,by have:=HK.out;simp[PW,ByteArray.size,this],HR.out,HG.out⟩
variable {n b:Nat} {w W:World} {x0 x1 x2 x3 x4 x5 x6 x7:Value}
theorem RU(h:aA W b [x0,x1])(hb:Below n w W)(hn:n≤b)(v0 v1:Value):Hid (aA ((sW W b 0 v0).setCell ⟨b,1,none⟩ v1) b [v0,v1])∧Hid (Below n w ((sW W b 0 v0).setCell ⟨b,1,none⟩ v1)):=⟨((h.set 0 v0).set 1 v1),((hb.setCell (p:=⟨b,0,none⟩) hn v0).setCell (p:=⟨b,1,none⟩) hn v1)⟩
theorem OB(h:aA W b [x0,x1,x2,x3,x4])(hb:Below n w W)(hn:n≤b)(v0 v1 v2 v3 v4:Value):Hid (aA ((sW (sW (sW (sW W b 0 v0) b 1 v1) b 2 v2) b 3 v3).setCell ⟨b,4,none⟩ v4) b [v0,v1,v2,v3,v4])∧Hid (Below n w ((sW (sW (sW (sW W b 0 v0) b 1 v1) b 2 v2) b 3 v3).setCell ⟨b,4,none⟩ v4)):=⟨(((((h.set 0 v0).set 1 v1).set 2 v2).set 3 v3).set 4 v4),(((((hb.setCell (p:=⟨b,0,none⟩) hn v0).setCell (p:=⟨b,1,none⟩) hn v1).setCell (p:=⟨b,2,none⟩) hn v2).setCell (p:=⟨b,3,none⟩) hn v3).setCell (p:=⟨b,4,none⟩) hn v4)⟩
theorem TO(h:aA W b [x0,x1,x2,x3,x4,x5,x6])(hb:Below n w W)(hn:n≤b)(v0 v1 v2 v3 v4 v5 v6:Value):Hid (aA ((sW (sW (sW (sW (sW (sW W b 0 v0) b 1 v1) b 2 v2) b 3 v3) b 4 v4) b 5 v5).setCell ⟨b,6,none⟩ v6) b [v0,v1,v2,v3,v4,v5,v6])∧Hid (Below n w ((sW (sW (sW (sW (sW (sW W b 0 v0) b 1 v1) b 2 v2) b 3 v3) b 4 v4) b 5 v5).setCell ⟨b,6,none⟩ v6)):=⟨(((((((h.set 0 v0).set 1 v1).set 2 v2).set 3 v3).set 4 v4).set 5 v5).set 6 v6),(((((((hb.setCell (p:=⟨b,0,none⟩) hn v0).setCell (p:=⟨b,1,none⟩) hn v1).setCell (p:=⟨b,2,none⟩) hn v2).setCell (p:=⟨b,3,none⟩) hn v3).setCell (p:=⟨b,4,none⟩) hn v4).setCell (p:=⟨b,5,none⟩) hn v5).setCell (p:=⟨b,6,none⟩) hn v6)⟩
theorem vN(h:aA W b [x0,x1,x2,x3,x4,x5,x6,x7])(hb:Below n w W)(hn:n≤b)(v0 v1 v2 v3 v4 v5 v6 v7:Value):Hid (aA ((sW (sW (sW (sW (sW (sW (sW W b 0 v0) b 1 v1) b 2 v2) b 3 v3) b 4 v4) b 5 v5) b 6 v6).setCell ⟨b,7,none⟩ v7) b [v0,v1,v2,v3,v4,v5,v6,v7])∧Hid (Below n w ((sW (sW (sW (sW (sW (sW (sW W b 0 v0) b 1 v1) b 2 v2) b 3 v3) b 4 v4) b 5 v5) b 6 v6).setCell ⟨b,7,none⟩ v7)):=⟨((((((((h.set 0 v0).set 1 v1).set 2 v2).set 3 v3).set 4 v4).set 5 v5).set 6 v6).set 7 v7),((((((((hb.setCell (p:=⟨b,0,none⟩) hn v0).setCell (p:=⟨b,1,none⟩) hn v1).setCell (p:=⟨b,2,none⟩) hn v2).setCell (p:=⟨b,3,none⟩) hn v3).setCell (p:=⟨b,4,none⟩) hn v4).setCell (p:=⟨b,5,none⟩) hn v5).setCell (p:=⟨b,6,none⟩) hn v6).setCell (p:=⟨b,7,none⟩) hn v7)⟩
def DT{H:Type}(z:Int × Int):DataW H:=.agg [.lit (.int .i64 z.1),.lit (.int .i64 z.2)]
theorem vY{H:Type}{enc:TypeId × Value→H}{P:Program}{w:World}{base:Nat}{sp:Nat→Bool}{held:Bool}{fuel:Nat}{t e ty:TypeId}{n:Nat}{f0 f1:Field}{cs:List Value}{zs:List (Int × Int)}{p:List MemPlace}
  (ht:P.underlying t=some (.array n e)) (he:P.underlying e=some (.struct #[f0,f1])) (h0:f0.offset=0) (h1:f1.offset=1) (t0:f0.type=ty) (t1:f1.type=ty) (hty:P.underlying ty=some (.int .i64)) (hc1:P.cellsOf ty=1) (hce:P.cellsOf e=2)
  (h:DataW.trod enc P w base sp held fuel t cs=some (.agg (zs.map DT),p)) (i:Nat) (z:Int × Int) (hz:zs[i]?=some z):cs[2*i]?=some (.int .i64 z.1)∧cs[2*i+1]?=some (.int .i64 z.2):=by
 obtain⟨xs,m,_,hx,jD,hn,hel⟩:=DataW.trod_array ht h;have hxs:xs.map (·.1)=zs.map DT:=by
  have:=congrArg Prod.fst hx;simpa using this.symm
 have hi:i < zs.length:=(List.getElem?_eq_some_iff.1 hz).1;have hl:xs.length=zs.length:=by have:=congrArg List.length hxs;simpa using this
 have hxi:i < xs.length:=by omega
 have h2:=hel i (by omega);rw[UU hxi,hce]at h2;obtain⟨y0,y1,k,hy,_,g0,g1⟩:=trod_struct2 he h2;rw[h0,t0,hc1]at g0;rw[h1,t1,hc1]at g1;obtain⟨a,ea,da,_⟩:=DataW.trod_int hty g0;obtain⟨b,eb,db,_⟩:=DataW.trod_int hty g1;have hd:(xs[i]).1=DT z:=by
  have:=congrArg (fun l=>l[i]?) hxs;simp only[List.getElem?_map,UU hxi,hz,Option.map_some]at this;exact Option.some.inj this
 rw[hy,da,db]at hd;unfold DT at hd;simp only[DataW.agg.injEq,List.cons.injEq,DataW.lit.injEq,Lit.int.injEq,true_and,and_true]at hd;obtain⟨rfl,rfl⟩:=hd;have ea':=congrArg (fun l=>l[0]?) ea;have eb':=congrArg (fun l=>l[0]?) eb;simp[List.getElem?_take,List.getElem?_drop]at ea' eb';exact⟨by rw[Nat.mul_comm];exact ea',by rw[Nat.mul_comm];exact eb'⟩
theorem LB{P:Program}{W:World}{name:String}{zs:List (Int × Int)}{rest:List (String × DataW Unit)}{g:Nat}{t e ty:TypeId}{n:Nat}{f0 f1:Field}
  (hg:P.globalNamed name=some g) (hgt:(P.globals[g]?).map (·.type)=some t) (ht:P.underlying t=some (.array n e)) (he:P.underlying e=some (.struct #[f0,f1])) (h0:f0.offset=0) (h1:f1.offset=1) (t0:f0.type=ty) (t1:f1.type=ty) (hty:P.underlying ty=some (.int .i64)) (hc1:P.cellsOf ty=1) (hce:P.cellsOf e=2)
  (h:laidMet P ((name,.agg (zs.map DT))::rest) W) (i:Nat) (z:Int × Int) (hz:zs[i]?=some z):W.cell? ⟨g,2*i,none⟩=some (.int .i64 z.1)∧W.cell? ⟨g,2*i+1,none⟩=some (.int .i64 z.2):=by
 obtain⟨ps,⟨g',t',cs,fuel,p,q,hg',ht',hvar,hd,_,_⟩,_⟩:=h;obtain rfl:=Option.some.inj (hg.symm.trans hg');obtain rfl:=Option.some.inj (hgt.symm.trans ht');obtain⟨c0,c1⟩:=vY ht he h0 h1 t0 t1 hty hc1 hce hd i z hz;have v0:=World.var?_cell hg hvar (2*i);have v1:=World.var?_cell hg hvar (2*i+1);exact⟨by rw[v0];simpa using c0,by rw[v1];simpa using c1⟩
end Go.Proofs.YtdkepkaflielhaaGreatDoor
