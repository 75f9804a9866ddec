import Derived.Test.YthagnjokdnnmpaaGreatMerged9
import Derived.Test.YthagnjokdnnmpaaGreatMerged3
import Derived.Test.YthagnjokdnnmpaaGreatHoldL
import Derived.Deep.DeepCutAuto
import Derived.Great.BuildSlice
import Derived.RegionTactic
import Derived.Deep.Slices
import Derived.Deep.MidRow
import Derived.OwnWalk
import Derived.WideShapes
import Derived.WalkLawsBesides
import Derived.Lib.LazyBuf
set_option linter.unusedVariables false
set_option linter.unusedSimpArgs false
set_option maxRecDepth 100000
set_option maxHeartbeats 8000000
namespace Go.Proofs.YthagnjokdnnmpaaGreat
open Go.RowKit
structure Lv where
 udp:Int
 echo:Int
 opening:Int
 opn:Int
 closing:Int
def lvC (l:Lv):Value:=.agg #[.int .i64 l.udp,.int .i64 l.echo,.int .i64 l.opening,.int .i64 l.opn,.int .i64 l.closing]
def lvL (l:Lv):List Value:=[.int .i64 l.udp,.int .i64 l.echo,.int .i64 l.opening,.int .i64 l.opn,.int .i64 l.closing]
def livesOk (l:Lv):Bool:=isIn l.udp 1 10000&&isIn l.echo 1 10000&&isIn l.opening 1 10000&&isIn l.opn 1 10000&&isIn l.closing 1 10000
def stillP (proto:Int):Bool:=decide (proto=17)||decide (proto=1)
open Go.PlainAid
theorem pickI {w w1:World} {B k:Nat} (xs:List Int) {t:TypeId} (hg:(w.alloc (.cells (xs.map (fun x=>Value.int .i64 x)).toArray t)).grownBy w1 (some B)) (hB:B < w.heap.size) (hk:k < xs.length):∃ r,w1.cell? ⟨w.heap.size,k,none⟩=some (.int .i64 r)∧r∈xs :=
 ⟨xs[k],hg.cell (cell_new (by simp [hk])) (by simp; omega),List.getElem_mem hk⟩
def LvDr (l:Lv):Prop:=(0≤l.udp∧l.udp≤10001)∧(0≤l.echo∧l.echo≤10001)∧(0≤l.opening∧l.opening≤10001)∧(0≤l.opn∧l.opn≤10001)∧(0≤l.closing∧l.closing≤10001)
def lvZ0:List Value:=[.int .i64 0,.int .i64 0,.int .i64 0,.int .i64 0,.int .i64 0]
theorem drawLives_any (B:Nat) (a:Option Addr) (len cap:Nat) (size:Int) (w:World) (hl:len≤1048576) (hs:Src w B a len cap size) :
  Calls Tryz.prog 75 #[.pointer (some ⟨B,0,none⟩)] w fun e w'=>∃ l,e=.returned (lvC l)∧LvDr l∧Src w' B a len cap size∧w.grownBy w' (some B):=by
 have hBW:B < w.heap.size:=(Dr.start hs).hB;have O0:Hid (HoldsL (w.alloc (.cells lvZ0.toArray 26)) w.heap.size lvZ0):=HoldsL.new w lvZ0 _;have D0:Hid (Dr w B a len cap size (w.alloc (.cells lvZ0.toArray 26))):=(Dr.start hs).alloc _;rw [show lvZ0.toArray=#[.int .i64 0,.int .i64 0,.int .i64 0,.int .i64 0,.int .i64 0] from rfl] at O0 D0;clear hs;unfold lvC;go_enter Tryz.func75,Tryz.ntmps75
 go_wp2_with fail
 refine (drawN_more 9 B a len cap size _ (by omega) (by omega) hl D0.out.src).mono ?_;rintro e w1 ⟨r1,rfl,lo1,hi1,hs,hg⟩;have D1:Hid (Dr w B a len cap size w1):=D0.out.draw hs hg;have O1:Hid (HoldsL w1 w.heap.size lvZ0):=O0.out.grown (by simp [lvZ0]) hg (by simp; omega);clear hs hg D0 O0;go_wp2_with fail
 refine (drawN_more 9 B a len cap size _ (by omega) (by omega) hl D1.out.src).mono ?_;rintro e w2 ⟨r2,rfl,lo2,hi2,hs,hg⟩;have D2:Hid (Dr w B a len cap size w2):=D1.out.draw hs hg;have O2:Hid (HoldsL w2 w.heap.size lvZ0):=O1.out.grown (by simp [lvZ0]) hg (by simp; omega);clear hs hg D1 O1;go_wp2_with fail
 refine (drawN_more 9 B a len cap size _ (by omega) (by omega) hl D2.out.src).mono ?_;rintro e w3 ⟨r3,rfl,lo3,hi3,hs,hg⟩;have D3:Hid (Dr w B a len cap size w3):=D2.out.draw hs hg;have O3:Hid (HoldsL w3 w.heap.size lvZ0):=O2.out.grown (by simp [lvZ0]) hg (by simp; omega);clear hs hg D2 O2;obtain ⟨l0,hl0⟩ : ∃ l:Lv,l=⟨5+r1,1+r2,4,20+r3,3⟩:=⟨_,rfl⟩;have L4:Hid (HoldsL (w3.alloc (.cells (lvL l0).toArray 26)) w3.heap.size (lvL l0)):=HoldsL.new w3 (lvL l0) _;have D4:Hid (Dr w B a len cap size (w3.alloc (.cells (lvL l0).toArray 26))):=D3.out.alloc _;have O4:Hid (HoldsL (w3.alloc (.cells (lvL l0).toArray 26)) w.heap.size lvZ0):=O3.out.alloc _;have K0:Hid (LvDr l0):=by unfold Hid LvDr; rw [hl0]; dsimp only; omega
 have hX:w.heap.size < w3.heap.size:=O3.out.lt (by simp [lvZ0]);rw [show (lvL l0).toArray=#[.int .i64 (5+r1),.int .i64 (1+r2),.int .i64 4,.int .i64 (20+r3),.int .i64 3] by rw [hl0]; rfl] at L4 D4 O4;clear D3 O3 hl0;go_wp2_with fail
 refine (drawOne_any 30 B a len cap size _ (by omega) hl D4.out.src).mono ?_;rintro e w5 ⟨c5,rfl,hs,hg⟩;have D5:Hid (Dr w B a len cap size w5):=D4.out.draw hs hg;have O5:Hid (HoldsL w5 w.heap.size lvZ0):=O4.out.grown (by simp [lvZ0]) hg (by simp; omega);have L5:Hid (HoldsL w5 w3.heap.size (lvL l0)):=L4.out.grown (by simp [lvL]) hg (by simp; omega);clear hs hg D4 O4 L4 lo1 lo2 lo3 hi1 hi2 hi3;have hXB:w3.heap.size≠B:=by omega
 generalize w3.heap.size=X at *;go_upto_if 15 with fail
 go_cut [] (fun wx=>∃ l,LvDr l∧HoldsL wx X (lvL l)∧HoldsL wx w.heap.size lvZ0∧Dr w B a len cap size wx)
 case first =>
  cases c5 with
  | false =>
   go_wp2_with fail
   go_meet;exact ⟨l0,K0.out,L5.out,O5.out,D5.out⟩
  | true =>
   have A5:Hid (Dr w B a len cap size (w5.alloc (.cells #[.int .i64 0,.int .i64 10000,.int .i64 10001] 2))):=D5.out.alloc _;have AL:Hid (HoldsL (w5.alloc (.cells #[.int .i64 0,.int .i64 10000,.int .i64 10001] 2)) X (lvL l0)):=L5.out.alloc _;have AO:Hid (HoldsL (w5.alloc (.cells #[.int .i64 0,.int .i64 10000,.int .i64 10001] 2)) w.heap.size lvZ0):=O5.out.alloc _;have hB5:B < w5.heap.size:=Nat.lt_of_lt_of_le D5.out.hB D5.out.le;go_wp2_with fail
   refine (drawN_more 3 B a len cap size _ (by omega) (by omega) hl A5.out.src).mono ?_;rintro e w6 ⟨r,rfl,r0,r1,hs2,hg2⟩;obtain ⟨k,rfl⟩:=Int.eq_ofNat_of_zero_le r0;obtain ⟨x,hcell,hx⟩:=pickI (k:=k) [0,10000,10001] hg2 hB5 (by simp; omega);have r1':(k:Int) < 3:=by omega
   have D6:Hid (Dr w B a len cap size w6):=A5.out.draw hs2 hg2;have L6:Hid (HoldsL w6 X (lvL l0)):=AL.out.grown (by simp [lvL]) hg2 (by simp; omega);have O6:Hid (HoldsL w6 w.heap.size lvZ0):=AO.out.grown (by simp [lvZ0]) hg2 (by simp; omega);have K6:Hid (LvDr { l0 with udp:=x }):=⟨by simp at hx; dsimp only; omega,K0.out.2⟩;have y0:=L6.out.free (j:=0) (by simp [lvL]);have x0:=L6.out.cell (j:=0) rfl;have L7:Hid (HoldsL (w6.setCell ⟨X,0,none⟩ (.int .i64 x)) X (lvL { l0 with udp:=x })):=L6.out.set 0 _;have O7:Hid (HoldsL (w6.setCell ⟨X,0,none⟩ (.int .i64 x)) w.heap.size lvZ0):=O6.out.setOther (by omega) _;have D7:Hid (Dr w B a len cap size (w6.setCell ⟨X,0,none⟩ (.int .i64 x))):=D6.out.set X 0 _ (by omega);clear hs2 hg2 r0 r1 A5 AL AO L5 O5 D5 hx L6 O6 D6;go_wp2_with fail
   go_meet;exact ⟨_,K6.out,L7.out,O7.out,D7.out⟩
 case rest =>
 obtain ⟨l,hK,hL,hO,hD⟩:=hcut;have K8:Hid (LvDr l):=hK;obtain ⟨k0,k1,k2,k3,k4⟩:=hL.c5;obtain ⟨z0,z1,z2,z3,z4⟩:=hO.c5;have zf0:=hO.free (j:=0) (by simp [lvZ0]);have zf1:=hO.free (j:=1) (by simp [lvZ0]);have zf2:=hO.free (j:=2) (by simp [lvZ0]);have zf3:=hO.free (j:=3) (by simp [lvZ0]);have zf4:=hO.free (j:=4) (by simp [lvZ0]);have PF:Hid (∀ v0 v1 v2 v3 v4,Dr w B a len cap size (((((wc.setCell ⟨w.heap.size,0,none⟩ v0).setCell ⟨w.heap.size,1,none⟩ v1).setCell ⟨w.heap.size,2,none⟩ v2).setCell ⟨w.heap.size,3,none⟩ v3).setCell ⟨w.heap.size,4,none⟩ v4)):=fun v0 v1 v2 v3 v4=>((((hD.set _ 0 v0 (Nat.le_refl _)).set _ 1 v1 (Nat.le_refl _)).set _ 2 v2 (Nat.le_refl _)).set _ 3 v3 (Nat.le_refl _)).set _ 4 v4 (Nat.le_refl _)
 clear hK hL hO hD L5 O5 D5 K0;go_wp2_with fail
 refine bodyPost_ret (v:=.agg #[.int .i64 l.udp,.int .i64 l.echo,.int .i64 l.opening,.int .i64 l.opn,.int .i64 l.closing]) (by simp [results,Tryz.results75,go_sem,z0,z1,z2,z3,z4]) rfl ⟨l,rfl,K8.out,(PF.out _ _ _ _ _).src,(PF.out _ _ _ _ _).grown⟩
end Go.Proofs.YthagnjokdnnmpaaGreat
namespace Go.Proofs.YthagnjokdnnmpaaGreat
open Go.RowKit Go.ChangeShapes Go.WideShapes
section
variable {α:Type} (en:α→List Value) (n:Nat)
def SlAt (w:World) (b off:Nat) (xs:List α):Prop:=∀ i (h:i < xs.length),w.rangeAt b (off+i*n) (en xs[i])
def SlIs (w:World) (a:Option Addr) (xs:List α):Prop:=xs=[]∨∃ b off,a=some ⟨b,off,none⟩∧b < w.heap.size∧SlAt en n w b off xs
structure SlLaid (w:World) (B:Nat) (xs:List α) (L k:Nat):Prop where
 blk:B < w.heap.size
 at0:∀ i (h:i < xs.length),i < k→w.rangeAt B (i*n) (en xs[i])
 there:∀ i,i < L*n→(w.cell? ⟨B,i,none⟩).isSome=true
 free:∀ i,i < L*n→w.frozen? ⟨B,i,none⟩=false
end
section
variable {α:Type} {en:α→List Value} {n:Nat} {w W:World}
theorem SlAt.below {b off:Nat} {xs:List α} (h:SlAt en n w b off xs) {m:Nat} (hb:b < m) (hB:Below m w W):SlAt en n W b off xs :=
 fun i hi j v hv=>(hB.cell (p:=⟨b,off+i*n+j,none⟩) hb).trans (h i hi j v hv)
theorem SlIs.below {a:Option Addr} {xs:List α} (h:SlIs en n w a xs) (hB:Below w.heap.size w W):SlIs en n W a xs:=by
 rcases h with h | ⟨b,off,ha,hb,hr⟩
 ·exact .inl h
 ·exact .inr ⟨b,off,ha,Nat.lt_of_lt_of_le hb hB.size,hr.below hb hB⟩
theorem SlIs.grown {a:Option Addr} {xs:List α} (h:SlIs en n w a xs) {B:Nat} (hg:w.grownBy W (some B)) (hne:xs=[]∨∀ g o,a=some ⟨g,o,none⟩→g≠B):SlIs en n W a xs:=by
 rcases h with h | ⟨b,off,ha,hb,hr⟩
 ·exact .inl h
 ·rcases hne with h0 | hne
  ·exact .inl h0
  ·have hbl:=hg.block b hb (by simp; exact hne b off ha);refine .inr ⟨b,off,ha,Nat.lt_of_lt_of_le hb hg.size,fun i hi j v hv=>?_⟩;have hc:∀ o,W.cell? ⟨b,o,none⟩=w.cell? ⟨b,o,none⟩:=fun o=>by unfold World.cell?; rw [show (⟨b,o,none⟩ : Addr).block=b from rfl,hbl]
   exact (hc _).trans (hr i hi j v hv)
theorem SlIs.at {a:Option Addr} {xs:List α} (h:SlIs en n w a xs) {k:Nat} (hk:k < xs.length):∃ b off,a=some ⟨b,off,none⟩∧b < w.heap.size∧SlAt en n w b off xs:=by
 rcases h with h | h
 ·rw [h] at hk; simp at hk
 ·exact h
theorem SlLaid.at {B:Nat} {xs:List α} {L:Nat} (h:SlLaid en n w B xs L xs.length):SlAt en n w B 0 xs:=fun i hi=>by
 rw [Nat.zero_add]; exact h.at0 i hi hi
theorem SlLaid.is {B:Nat} {xs:List α} {L:Nat} (h:SlLaid en n w B xs L xs.length):SlIs en n w (some ⟨B,0,none⟩) xs:=.inr ⟨B,0,rfl,h.blk,h.at⟩
theorem SlLaid.below {B:Nat} {xs:List α} {L k:Nat} (h:SlLaid en n w B xs L k) {m:Nat} (hm:B < m) (hB:Below m w W) (hs:w.heap.size≤W.heap.size):SlLaid en n W B xs L k:=by
 have hc:∀ o,W.cell? ⟨B,o,none⟩=w.cell? ⟨B,o,none⟩:=fun o=>hB.cell (p:=⟨B,o,none⟩) hm
 have hf:∀ o,W.frozen? ⟨B,o,none⟩=w.frozen? ⟨B,o,none⟩:=fun o=>hB.frozen (p:=⟨B,o,none⟩) hm
 exact ⟨Nat.lt_of_lt_of_le h.blk hs,fun i hi hk j v hv=>(hc _).trans (h.at0 i hi hk j v hv),fun i hi=>by rw [hc]; exact h.there i hi,fun i hi=>by rw [hf]; exact h.free i hi⟩
theorem SlLaid.kept {B:Nat} {xs:List α} {L k:Nat} (h:SlLaid en n w B xs L k) (hB:Below w.heap.size w W):SlLaid en n W B xs L k:=h.below h.blk hB hB.size
theorem SlLaid.mono {B:Nat} {xs:List α} {L k k':Nat} (h:SlLaid en n w B xs L k) (hk:k'≤k):SlLaid en n w B xs L k' :=
 ⟨h.blk,fun i hi hk'=>h.at0 i hi (by omega),h.there,h.free⟩
theorem SlLaid.other {β:Type} {en':β→List Value} {B:Nat} {xs:List α} {L k:Nat} (h:SlLaid en n w B xs L k) (ys:List β):SlLaid en' n w B ys L 0 :=
 ⟨h.blk,fun i hi hk=>by omega,h.there,h.free⟩
theorem SlLaid.set (hn:∀ x,(en x).length=n) {B:Nat} {xs:List α} {L k:Nat} (h:SlLaid en n w B xs L k) (hk:k < xs.length) (hL:k < L):SlLaid en n (w.setCells B (k*n) (en xs[k])) B xs L (k+1):=by
 have hb:k*n+n≤L*n:=by have:=Nat.mul_le_mul_right n (show k+1≤L from hL); rw [Nat.succ_mul] at this; exact this
 have hin:=World.cell?_setCells_in B (en xs[k]) (k*n) w (fun j hj=>h.there _ (by rw [hn] at hj; omega));refine ⟨Nat.lt_of_lt_of_le h.blk (below_setCells (B:=0) (Nat.zero_le _) _ _ _ (Below.refl 0 w)).size,fun i hi hk' j v hv=>?_,fun i hi=>?_,fun i hi=>by rw [World.frozen?_setCells]; exact h.free i hi⟩
 ·by_cases e:i=k
  ·subst e;obtain ⟨hj,hjv⟩:=List.getElem?_eq_some_iff.1 hv;rw [hin j hj,hjv]
  ·have hj:=(List.getElem?_eq_some_iff.1 hv).1;rw [hn] at hj;have hle:i*n+n≤k*n:=by have:=Nat.mul_le_mul_right n (show i+1≤k by omega); rw [Nat.succ_mul] at this; exact this
   rw [World.cell?_setCells_out B _ (k*n) w _ (fun _ _=>.inl (by show i*n+j < k*n; omega))];exact h.at0 i hi (by omega) j v hv
 ·by_cases e:k*n≤i∧i < k*n+n
  ·obtain ⟨j,rfl⟩ : ∃ j,i=k*n+j:=⟨i-k*n,by omega⟩;have hj:j < (en xs[k]).length:=by rw [hn]; omega
   rw [hin j hj]; rfl
  ·rw [World.cell?_setCells_out B _ (k*n) w _ (fun _ _=>by show i < k*n∨k*n+(en xs[k]).length≤i; rw [hn]; omega)]; exact h.there i hi
theorem SlLaid.start {base len cap g:Nat} {e:TypeId} {vs:List Value} {xs:List α} (h:w.ownsRow base e n (.slice (some ⟨g,0,none⟩) len cap) len vs):SlLaid en n w g xs len 0:=by
 obtain ⟨hl,h | ⟨g',cap',cur,hv,_,hh,hc,_,hsz,_⟩⟩:=h
 ·simp at h
 ·injection hv with hv _ hv3
  injection hv with hv
  injection hv with hv _
  subst hv hv3;have hlt:g < w.heap.size:=by
   by_cases hb:g < w.heap.size
   ·exact hb
   ·rw [Array.getElem?_eq_none (by omega)] at hh; simp at hh
  refine ⟨hlt,fun i hi hk=>by omega,fun i hi=>?_,fun i hi=>?_⟩
  ·have:i < cur.size:=by rw [hsz]; have:=Nat.mul_le_mul_right n hc; omega
   simp [World.cell?,hh,this]
  ·simp [World.frozen?,hh]
end
section
variable {H:Type} {enc:TypeId × Value→H} {P:Program} {w:World} {base:Nat} {spare:Nat→Bool} {held:Bool}
end
end Go.Proofs.YthagnjokdnnmpaaGreat
namespace Go.Proofs.YthagnjokdnnmpaaGreat
open Go.RowKit
theorem below_grown {n:Nat} {w w1 W:World} {B:Nat} (h:Below n w w1) (hg:w1.grownBy W (some B)) (hB:n≤B) (hn:n≤w1.heap.size:=by omega):Below n w W :=
 ⟨hg.os.trans h.os,hg.tape.trans h.tape,hg.output.trans h.output,Nat.le_trans h.size hg.size,fun k hk=>by rw [hg.block k (by omega) (by simp; omega),h.block k hk]⟩
section
variable {α:Type} (en:α→List Value) (n:Nat)
def flatS (xs:List α):List Value:=xs.flatMap en
def SlOwn (base:Nat) (w:World) (a:Option Addr) (xs:List α):Prop:=xs=[]∨∃ g,a=some ⟨g,0,none⟩∧base≤g∧SlLaid en n w g xs xs.length xs.length
def SlRet (w:World) (ys:List α):Ending→World→Prop:=fun e w'=>∃ a cap,e=.returned (.slice a ys.length cap)∧ys.length≤cap∧SlOwn en n w.heap.size w' a ys∧Below w.heap.size w w'
def MkOwn (em:Nat→List Value) (base:Nat) (w:World) (a:Option Addr) (k L:Nat):Prop:=L=0∨∃ g,a=some ⟨g,0,none⟩∧base≤g∧SlLaid em n w g ((List.range L).map fun i=>k+n*i) L L
structure Row (base:Nat) (e:TypeId) (v:Value) (xs:List α) (w0 w:World):Prop where
 own:w.ownsRow base e n v xs.length (flatS en xs)
 bel:Below base w0 w
end
section
variable {α:Type} {en:α→List Value} {n:Nat} {w w0 W:World} {base:Nat} {e:TypeId} {v:Value} {xs:List α}
theorem flatS_length (hn:∀ x,(en x).length=n):∀ xs:List α,(flatS en xs).length=xs.length*n
 | []=>by simp [flatS]
 | x::xs=>by
  have:=flatS_length hn xs;unfold flatS at *;rw [List.flatMap_cons,List.length_append,this,hn,List.length_cons,Nat.succ_mul]; omega
theorem flatS_snoc (xs:List α) (q:α):flatS en (xs++[q])=flatS en xs++en q:=by
 unfold flatS; rw [List.flatMap_append]; simp
theorem flatS_get (hn:∀ x,(en x).length=n):∀ (xs:List α) (i:Nat) (h:i < xs.length) (j:Nat) (u:Value),(en xs[i])[j]?=some u→(flatS en xs)[i*n+j]?=some u
 | [],i,h,_,_,_=>by simp at h
 | x::xs,0,h,j,u,hu=>by
  have hj:=(List.getElem?_eq_some_iff.1 hu).1;unfold flatS;rw [List.flatMap_cons,Nat.zero_mul,Nat.zero_add,List.getElem?_append_left (by simpa using hj)];simpa using hu
 | x::xs,i+1,h,j,u,hu=>by
  have:=flatS_get hn xs i (by simpa using h) j u (by simpa using hu);unfold flatS at *;rw [List.flatMap_cons,List.getElem?_append_right (by rw [hn,Nat.succ_mul]; omega),hn];rw [show (i+1)*n+j-n=i*n+j by rw [Nat.succ_mul]; omega];exact this
theorem flatS_cells (hn:∀ x,(en x).length=n) (hn0:0 < n) {b off:Nat} (h:SlAt en n w b off xs) (j:Nat) (u:Value) (hu:(flatS en xs)[j]?=some u):w.cell? ⟨b,off+j,none⟩=some u:=by
 have hj:=(List.getElem?_eq_some_iff.1 hu).1;rw [flatS_length hn] at hj;have hi:j / n < xs.length:=(Nat.div_lt_iff_lt_mul hn0).2 hj;have hr:j % n < (en xs[j / n]).length:=by rw [hn]; exact Nat.mod_lt _ hn0
 have h1:=flatS_get hn xs (j / n) hi (j % n) _ (List.getElem?_eq_getElem hr);have e:j / n*n+j % n=j:=by rw [Nat.mul_comm]; exact Nat.div_add_mod j n
 rw [e,hu] at h1;have h2:=h (j / n) hi (j % n) _ (List.getElem?_eq_getElem hr);rw [Nat.add_assoc,e] at h2;rw [h2,h1]
theorem Row.kept (h:Row en n base e v xs w0 w) (hb:Below w.heap.size w W) (hl:base≤w.heap.size):Row en n base e v xs w0 W :=
 ⟨h.own.kept (grown_of_below (r:=none) hb) (by cases v.ownBlock<;>simp),h.bel.trans (hb.mono hl)⟩
theorem Row.append (h:Row en n base e v xs w0 w) {o:Obj} {q:α} {v':Value} (hl:base≤w.heap.size) (hown:W.ownsRow base e n v' (xs.length+1) (flatS en xs++en q)) (hgrow:(w.alloc o).grownBy W v.ownBlock):Row en n base e v' (xs++[q]) w0 W:=by
 have hlo:∀ k,v.ownBlock=some k→base≤k:=fun k hk=>(h.own.lt k hk).1
 refine ⟨by rw [flatS_snoc]; simpa using hown,?_⟩;have h1:Below base w0 (w.alloc o):=h.bel.alloc hl o;refine ⟨hgrow.os.trans h1.os,hgrow.tape.trans h1.tape,hgrow.output.trans h1.output,Nat.le_trans h1.size hgrow.size,fun k hk=>?_⟩;rw [hgrow.block k (Nat.lt_of_lt_of_le hk (Nat.le_trans hl (by simp))) (fun e2=>by have:=hlo k e2.symm; omega),h1.block k hk]
theorem Row.down (h:Row en n base e v xs w W) {b0:Nat} (hb:Below b0 w0 w) (hle:b0≤base):Row en n b0 e v xs w0 W:=by
 refine ⟨⟨h.own.1,?_⟩,hb.trans (h.bel.mono hle)⟩;rcases h.own.2 with h1 | ⟨g,cap,cur,h1,h2,h3⟩
 ·exact .inl h1
 ·exact .inr ⟨g,cap,cur,h1,Nat.le_trans hle h2,h3⟩
theorem Row.laid (hn:∀ x,(en x).length=n) {g cap:Nat} (h:w.ownsRow base e n (.slice (some ⟨g,0,none⟩) xs.length cap) xs.length (flatS en xs)):SlLaid en n w g xs xs.length xs.length:=by
 have hs:SlLaid en n w g xs xs.length 0:=SlLaid.start h;refine ⟨hs.blk,fun i hi _ j u hu=>?_,hs.there,hs.free⟩;have hj:j < n:=by have:=(List.getElem?_eq_some_iff.1 hu).1; rwa [hn] at this
 have hb:i*n+j < xs.length*n:=by have:=Nat.mul_le_mul_right n (show i+1≤xs.length from hi); rw [Nat.succ_mul] at this; omega
 rw [h.cellAt _ hb];exact flatS_get hn xs i hi j u hu
theorem Row.shape (hn:∀ x,(en x).length=n) (h:Row en n base e v xs w0 w):∃ a cap,v=.slice a xs.length cap∧xs.length≤cap∧SlOwn en n base w a xs:=by
 rcases h.own.2 with ⟨h1,h2⟩ | ⟨g,cap,cur,h1,hb,hg,hc,_⟩
 ·have hx:xs.length=0:=by simpa using h2
  exact ⟨none,0,by rw [h1,hx],by omega,.inl (List.length_eq_zero_iff.1 hx)⟩
 ·refine ⟨some ⟨g,0,none⟩,cap,h1,hc,.inr ⟨g,rfl,hb,?_⟩⟩;have:=h.own;rw [h1] at this;exact Row.laid hn this
theorem SlRet.nil {cap:Nat} {a:Option Addr} {v:Value} (hv:v=.slice a 0 cap) (h:Below w.heap.size w W):SlRet en n w [] (.returned v) W:=⟨a,cap,by rw [hv]; rfl,Nat.zero_le _,.inl rfl,h⟩
theorem SlRet.row (hn:∀ x,(en x).length=n) (h:Row en n w.heap.size e v xs w W):SlRet en n w xs (.returned v) W:=by
 obtain ⟨a,cap,h1,h2,h3⟩:=h.shape hn;exact ⟨a,cap,by rw [h1],h2,h3,h.bel⟩
theorem SlOwn.is {a:Option Addr} (h:SlOwn en n base w a xs):SlIs en n w a xs:=by
 rcases h with h | ⟨g,rfl,_,h⟩
 ·exact .inl h
 ·exact h.is
theorem SlOwn.grown {a:Option Addr} (h:SlOwn en n base w a xs) {B:Nat} (hg:w.grownBy W (some B)) (hB:B < base):SlOwn en n base W a xs:=by
 rcases h with h | ⟨g,rfl,h1,h⟩
 ·exact .inl h
 ·refine .inr ⟨g,rfl,h1,?_⟩;have hb:=hg.block g h.blk (by simp; omega);have hc:∀ o,W.cell? ⟨g,o,none⟩=w.cell? ⟨g,o,none⟩:=fun o=>by unfold World.cell?; rw [show (⟨g,o,none⟩ : Addr).block=g from rfl,hb]
  have hf:∀ o,W.frozen? ⟨g,o,none⟩=w.frozen? ⟨g,o,none⟩:=fun o=>World.frozen?_of_block (a:=⟨g,o,none⟩) hb
  exact ⟨Nat.lt_of_lt_of_le h.blk hg.size,fun i hi hk j u hu=>(hc _).trans (h.at0 i hi hk j u hu),fun i hi=>by rw [hc]; exact h.there i hi,fun i hi=>by rw [hf]; exact h.free i hi⟩
theorem MkOwn.kept {em:Nat→List Value} {a:Option Addr} {k L:Nat} (h:MkOwn n em base w a k L) (hb:Below w.heap.size w W):MkOwn n em base W a k L:=by
 rcases h with h | ⟨g,rfl,h1,h⟩
 ·exact .inl h
 ·exact .inr ⟨g,rfl,h1,h.kept hb⟩
theorem SlOwn.down {a:Option Addr} (h:SlOwn en n base w a xs) {b0:Nat} (hb:b0≤base):SlOwn en n b0 w a xs:=by
 rcases h with h | ⟨g,rfl,h1,h⟩
 ·exact .inl h
 ·exact .inr ⟨g,rfl,Nat.le_trans hb h1,h⟩
theorem SlOwn.kept {a:Option Addr} (h:SlOwn en n base w a xs) (hb:Below w.heap.size w W):SlOwn en n base W a xs:=by
 rcases h with h | ⟨g,rfl,h1,h⟩
 ·exact .inl h
 ·exact .inr ⟨g,rfl,h1,h.kept hb⟩
end
end Go.Proofs.YthagnjokdnnmpaaGreat
