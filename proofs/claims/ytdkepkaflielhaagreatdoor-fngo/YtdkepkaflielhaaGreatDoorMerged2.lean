import Derived.Test.YtdkepkaflielhaaGreatDoorMerged1
import Derived.HandedShaped
import Derived.Laws.BitsLemmas
import Derived.Laws.Bits64
import Derived.Deep.QuietTactic
import Derived.WalkLawsBesides
import Derived.ChangeAlike
import Derived.Laws.IdiomStrings
import Derived.Deep.DeepCutAuto
import Derived.ChangeArms
import Derived.WideShapes
import Derived.ChangeShapes
import Derived.Deep.Slices
import Derived.OwnWalk
import Derived.Lib.LazyBuf
import Derived.Deep.AppendLies
set_option linter.unusedVariables false
set_option linter.unusedSimpArgs false
set_option maxRecDepth 100000
set_option maxHeartbeats 8000000
namespace Go.Proofs.YtdkepkaflielhaaGreatDoor
open Go
variable {H:Type} {enc:TypeId × Value→H}
theorem rO{a:Assume}{C:Checked}{os:Os}{f:FuncId}{fn:Func}{s:ChangeSpec}{conds:List PathCond}{apart fresh handsOn again:Bool}{X:World→Array Value→Prop}
  (hX:∀(w w':World) (args:Array Value),w.heap=w'.heap→X w args→X w' args)
  (own:ownKnob C.prog.godebug=none) (started:os.Started) (noInit:C.prog.inits.idxOf? f=none) (hfn:C.prog.funcs[f]?=some fn)
  (witness:∃(w:World) (tape:Tape) (i:Input),w.os=os∧(w.forCall tape i).Shaped C.prog∧i.vars=[]∧Input.okWide C.prog (w.forCall tape i) .any w.heap.size f i ∧
   ((s.pre enc C.prog fn conds apart (w.forCall tape i).memory i.args∧X (w.forCall tape i).memory i.args)∧sizedMet enc C.prog fn (OpenSpec.ofChange s) apart (w.forCall tape i).memory i.args)∧a.holds C.prog (lone (Frame.enter C.prog f i.args .normal) [] (w.forCall tape i)))
  (contract:∀(W:World) (base:Nat) (args:Array Value) (ds gs:List (DataW H)) (before:List MemPlace),
   (∀(j:Nat) t v,fn.params[j]?=some t→args[j]?=some v→Value.okWide C.prog W .any base t v) →
   DataW.Whole enc C.prog fn.params.toList s.vars apart W args.toList ds gs before→X W args→W.ShapedOpen C.prog →
   Calls C.prog f args W fun e W'=>∃v,e=.returned v∧s.post enc C.prog fn apart fresh handsOn again W args v W') :
  ReturnsInHanded a C os f .any (fun w args=>(s.pre enc C.prog fn conds apart w args∧X w args)∧sizedMet enc C.prog fn (OpenSpec.ofChange s) apart w args) (s.post enc C.prog fn apart fresh handsOn again):=by
 refine returnsInHanded_of_calls own started noInit witness ?_;intro w tape i _ hsh _ hok hpre hholds;obtain⟨_,_,_,fn',hfn',_,_,_,_,hval⟩:=hok;have e:fn'=fn:=Option.some.inj (hfn'.symm.trans hfn);subst e;obtain⟨⟨⟨ds,gs,before,hw,_⟩,hx⟩,_⟩:=hpre;refine(contract (w.forCall tape i) w.heap.size i.args ds gs before hval (DataW.Whole.of_heap (w':=w.forCall tape i) (by rfl) hw) (hX _ _ _ (by rfl) hx) hsh).mono fun e W' ⟨v,he,hp⟩=>?_
 subst he;exact ChangeSpec.post_blind hp
open Go.PlainAid
def gC(a b:Int):Int:=if 65535 < a+b then a+b-65535 else a+b
theorem iN{a b:Int}(ha:0≤a)(ha':a≤65535)(hb:0≤b)(hb':b≤65535):0≤gC a b∧gC a b≤65535:=by
 unfold gC;split<;>omega
theorem KZ(n:Int)(h0:0≤n)(h1:n < 2 ^ 63):IntKind.i64.wrap n=n:=by rw[IntKind.wrap_i64];omega
theorem qO(a b:Int)(ha:0≤a)(ha':a≤255)(hb:0≤b)(hb':b≤255):bits .or .i64 (a*256) b=a*256+b :=
 bits_join .i64 63 (by decide) KZ 8 (a*256) b (by omega) (by omega) (by omega) hb (by omega) (by omega)
theorem qH(n:Int):bits .and .i64 n 65535=n % 65536:=by
 have h127:(BitVec.ofInt 64 65535).toNat=2 ^ 16-1:=by decide
 have key:(BitVec.ofInt 64 n &&& BitVec.ofInt 64 65535).toNat=(n % ((2 ^ 64:Nat):Int)).toNat % 2 ^ 16:=by
  rw[BitVec.toNat_and,BitVec.toNat_ofInt,h127,Nat.and_two_pow_sub_one_eq_mod]
 show IntKind.i64.wrap ((BitVec.ofInt 64 n &&& BitVec.ofInt 64 65535).toNat:Nat)=n % 65536;rw[key,IntKind.wrap_i64];omega
theorem CR(a b:Int)(ha:0≤a)(ha':a≤65535)(hb:0≤b)(hb':b≤65535):(a+b) % 65536+(a+b) / 65536=gC a b:=by
 unfold gC;split<;>omega
def aL(f:Nat→Int)(i:Nat):Int:=f i*256+f (i+1)
def gI(f:Nat→Int):Nat→Int
 | 0=>0
 | k+1=>gC (gI f k) (aL f (2*k))
def oJ(f:Nat→Int):Prop:=∀i,0≤f i∧f i≤255
theorem cN{f:Nat→Int}(h:oJ f)(i:Nat):0≤aL f i∧aL f i≤65535:=by
 have h1:=h i;have h2:=h (i+1);unfold aL;omega
theorem lF{f:Nat→Int}(h:oJ f)(k:Nat):0≤gI f k∧gI f k≤65535:=by
 induction k with
 | zero=>simp[gI]
 | succ k ih=>have:=cN h (2*k);exact iN ih.1 ih.2 this.1 this.2
theorem bD(s:BA):oJ (bt s):=fun i=>⟨bt_nonneg s i,bt_le s i⟩
open Go.RowKit
theorem aK{k:IntKind}{a b:Int}(h:a=b):Ending.returned (.int k a)=.returned (.int k b):=by rw[h]
theorem aB{a b:Bool}(h:a=b):Ending.returned (.bool a)=.returned (.bool b):=by rw[h]
theorem rN{a b:BA}(h:a=b):Ending.returned (.string a)=.returned (.string b):=by rw[h]
theorem fT{w w1 w2:World}{r:Option Nat}(h:w.grownBy w1 r)(h2:w1.grownBy w2 r):w.grownBy w2 r :=
 ⟨h2.os.trans h.os,h2.tape.trans h.tape,h2.output.trans h.output,UA h.size h2.size,fun k hk hne=>(h2.block k (UM hk h.size) hne).trans (h.block k hk hne)⟩
theorem lD{w w1:World}{r:Option Nat}(h:w.grownBy w1 r):w.grownBy w1.drew r:=⟨h.os,h.tape,h.output,h.size,h.block⟩
theorem aC{w w1:World}{B o:Nat}(h:w.grownBy w1 (some B))(v:Value):w.grownBy (w1.setCell ⟨B,o,none⟩ v) (some B) :=
 ⟨h.os,h.tape,h.output,by rw[World.size_setCell];exact h.size,fun k hk hne=>(Below.heap_setCell w1 _ v k (fun e=>hne (by rw[e]))).trans (h.block k hk hne)⟩
theorem jD{w w1:World}{r:Option Nat}(h:Below w.heap.size w w1):w.grownBy w1 r:=⟨h.os,h.tape,h.output,h.size,fun k hk _=>h.block k hk⟩
theorem QP{w:World}{base e n B:Nat}{v:Value}{xs:List Value}(h:w.ownsRow base e 1 v n xs)(hB:B < base):v.ownBlock=none∨v.ownBlock≠some B:=by
 by_cases hv:v.ownBlock=some B
 ·have:=(h.lt B hv).1;omega
 ·exact .inr hv
theorem KH{w:World}{base e n:Nat}{v:Value}{xs:List Value}(h:w.ownsRow base e 1 v n xs)(hv:v≠.slice none 0 0):∃g cap,v=.slice (some ⟨g,0,none⟩) n cap∧w.ownsRow base e 1 (.slice (some ⟨g,0,none⟩) n cap) n xs:=by
 rcases h.2 with ⟨h1,_⟩|⟨g,cap,cur,h1,_⟩
 ·exact absurd h1 hv
 ·subst h1;exact⟨g,cap,rfl,h⟩
theorem iI{W w1:World}(hb:Below W.heap.size W w1):(∀b o,b < W.heap.size→w1.cell? ⟨b,o,none⟩=W.cell? ⟨b,o,none⟩)∧(∀b o,b < W.heap.size→w1.frozen? ⟨b,o,none⟩=W.frozen? ⟨b,o,none⟩) :=
 ⟨fun b o h=>hb.cell (p:=⟨b,o,none⟩) h,fun b o h=>hb.frozen (p:=⟨b,o,none⟩) h⟩
theorem oO(s:BA)(k:Nat)(w:World)(hk:k+1 < s.size)(hs:s.size≤maxLen) :
  Cb 42 #[.string s,iV k] w (iV (aL (bt s) k)):=by
 unfold maxLen at hs;have hb:=get_bt s;have b1:=bD s k;have b2:=bD s (k+1);have hj:=qO (bt s k) (bt s (k+1)) b1.1 b1.2 b2.1 b2.2;go_enter Tryz.func42,Tryz.ntmps42
 go_wp2
 go_region
 all_goals
  go_wp2
  go_ret;exact⟨aK rfl,bR.drew⟩
theorem lJ(s:BA)(k:Nat)(w:World)(hk:k < s.size)(hs:s.size≤maxLen) :
  Cw 131 #[.string s,iV k] w (iV (aL (bt s) k)):=by
 unfold maxLen at hs;have hb:=get_bt s;have b1:=bD s k;have b2:=bD s (k+1);have hj:=qO (bt s k) (bt s (k+1)) b1.1 b1.2 b2.1 b2.2;by_cases h:k+1 < s.size
 ·go_enter Tryz.func131,Tryz.ntmps131
  go_wp2
  go_ret;exact⟨aK rfl,rfl⟩
 ·have h2:¬(k:Int)+1 < s.size:=by omega
  have HE:Hid (bt s (k+1)=0):=bt_end s (by omega);go_enter Tryz.func131,Tryz.ntmps131
  go_wp2
  go_ret;exact⟨aK (by unfold aL;rw[HE.out];omega),rfl⟩
theorem kG(a b:Int)(w:World)(ha:0≤a)(ha':a≤65535)(hb:0≤b)(hb':b≤65535) :
  Cw 75 #[iV a,iV b] w (iV (gC a b)):=by
 by_cases h:65535 < a+b
 ·have HV:Hid (gC a b=a+b-65535):=by unfold Hid gC;rw[if_pos h]
  go_enter Tryz.func75,Tryz.ntmps75
  go_wp2
  go_ret;exact⟨aK HV.out.symm,rfl⟩
 ·have HV:Hid (gC a b=a+b):=by unfold Hid gC;rw[if_neg h]
  go_enter Tryz.func75,Tryz.ntmps75
  go_wp2
  go_ret;exact⟨aK HV.out.symm,rfl⟩
def bI(s:BA):Int:=gI (bt s) ((s.size+1) / 2)
theorem cV(s:BA):0≤bI s∧bI s≤65535:=lF (bD s) _
theorem kT(s:BA)(w:World)(hs:s.size≤1048578) :
  Cw 70 #[.string s] w (iV (bI s)):=by
 have hb:=get_bt s;go_enter Tryz.func70,Tryz.ntmps70
 go_wp2
 go_loop [3,4] (fun n i=>∃k:Nat,2*k≤s.size+1∧i=iV (2*(k:Int))∧n=iV (gI (bt s) k)) (fun _ i=>s.size+2-(intOf i).toNat)
 case atStart=>exact⟨0,UR _,rfl,rfl⟩
 case round=>
  obtain⟨k,hk,rfl,rfl⟩:=hrel;have hr:=lF (bD s) k;have hq:=cN (bD s) (2*k);have HW:Hid (aL (bt s) (2*k)=bt s (2*k)*256+bt s (2*k+1)):=rfl;have HN:Hid (gI (bt s) (k+1)=gC (gI (bt s) k) (aL (bt s) (2*k))):=rfl;have b1:=bD s (2*k);have b2:=bD s (2*k+1);have hj:=qO (bt s (2*k)) (bt s (2*k+1)) b1.1 b1.2 b2.1 b2.2;by_cases hlt:2*k < s.size
  ·by_cases h2:2*k+1 < s.size
   ·go_wp2_with (go_at_call 75;refine(kG _ _ _ hr.1 hr.2 (by omega) (by omega)).mono ?_;rintro e w' ⟨rfl,rfl⟩)
    go_round
    case rel=>exact⟨k+1,by omega,by go_num,by rw[HN.out,HW.out]⟩
    case measure=>simp[intOf];omega
   ·have HE:Hid (bt s (2*k+1)=0):=bt_end s (by omega);go_wp2_with (go_at_call 75;refine(kG _ _ _ hr.1 hr.2 (by omega) (by omega)).mono ?_;rintro e w' ⟨rfl,rfl⟩)
    go_round
    case rel=>exact⟨k+1,by omega,by go_num,by rw[HN.out,HW.out,HE.out,Int.add_zero]⟩
    case measure=>simp[intOf];omega
  ·go_wp2
   go_ret;exact⟨aK (by unfold bI;rw[show (s.size+1) / 2=k by omega]),rfl⟩
theorem rT(s:BA)(w:World)(hs:s.size≤1048578) :
  Cw 170 #[.string s] w (iV (bI s)):=by
 have hs':s.size≤maxLen:=by unfold maxLen;omega
 go_enter Tryz.func170,Tryz.ntmps170
 go_wp2
 go_loop [3,9] (fun n i=>∃k:Nat,k≤(s.size+1) / 2∧i=iV k∧n=iV (gI (bt s) k)) (fun _ i=>(s.size+1) / 2-(intOf i).toNat)
 case atStart=>exact⟨0,UR _,rfl,rfl⟩
 case round=>
  obtain⟨k,hk,rfl,rfl⟩:=hrel;have hr:=lF (bD s) k;have hq:=cN (bD s) (2*k);have HN:Hid (gI (bt s) (k+1)=gC (gI (bt s) k) (aL (bt s) (2*k))):=rfl;have HF:Hid _:=CR (gI (bt s) k) (aL (bt s) (2*k)) hr.1 hr.2 hq.1 hq.2;have ha:=qH (gI (bt s) k+aL (bt s) (2*k));by_cases hlt:k < (s.size+1) / 2
  ·have h2:2*k < s.size:=by omega
   go_wp2_with (go_at_call 131;refine(lJ s (2*k) _ h2 hs').mono ?_;rintro e w' ⟨rfl,rfl⟩)
   go_round
   case rel=>exact⟨k+1,by omega,by go_num,by rw[HN.out,←HF.out]⟩
   case measure=>simp[intOf];omega
  ·go_wp2
   go_ret;exact⟨aK (by unfold bI;rw[show (s.size+1) / 2=k by omega]),rfl⟩
def IG(n:Int):List UInt8:=[UInt8.ofNat (n / 256).toNat,UInt8.ofNat (n % 256).toNat]
def aQ(n:Int):BA:=⟨(IG n).toArray⟩
theorem fI(x:Int)(h0:0≤x)(h1:x≤255):((UInt8.ofNat x.toNat).toNat:Int)=x:=by
 rw[UInt8.toNat_ofNat'];omega
theorem KS{w:World}{b:Nat}{n:Int}(h0:0≤n)(h1:n≤65535)
  (hc0:w.cell? ⟨b,0,none⟩=some (.int .u8 (n / 256))) (hc1:w.cell? ⟨b,1,none⟩=some (.int .u8 (n % 256))) :
  ∀j (hj:j < (IG n).length),w.cell? (Addr.add ⟨b,0,none⟩ j)=some (.int .u8 ((IG n)[j].toNat:Int)):=by
 intro j hj;match j,hj with
 | 0,_=>simp only[Addr.add,Nat.add_zero,IG,UO];rw[fI _ (by omega) (by omega)];exact hc0
 | 1,_=>simp only[Addr.add,TX,IG,List.getElem_cons_succ,UO];rw[fI _ (by omega) (by omega)];exact hc1
theorem NN{w:World}{b cap:Nat}{n:Int}(h0:0≤n)(h1:n≤65535)
  (hc0:w.cell? ⟨b,0,none⟩=some (.int .u8 (n / 256))) (hc1:w.cell? ⟨b,1,none⟩=some (.int .u8 (n % 256))) :
  (convert 22 9 (.slice (some ⟨b,0,none⟩) 2 cap)).run Tryz.prog w=.ok (.string (aQ n)) w :=
 run_convert_bytes_back (P:=Tryz.prog) w 22 9 5 ⟨b,0,none⟩ cap (IG n) Tryz.underlying22 Tryz.underlying5 Tryz.underlying9 (KS h0 h1 hc0 hc1)
theorem bV(n:Int)(w:World)(h0:0≤n)(h1:n≤65535) :
  Cb 73 #[iV n] w (.string (aQ n)):=by
 have hcv:=NN (w:=w.alloc (.cells #[.int .u8 (n / 256),.int .u8 (n % 256)] 5)) (b:=w.heap.size) (cap:=2) h0 h1 (by simp) (by simp);go_enter Tryz.func73,Tryz.ntmps73
 go_wp2
 go_ret;exact⟨rfl,bR.alloc lR _⟩
def jS(n:Int):Bool:=decide (0≤n)&&decide (n≤65535)
theorem gK{n:Int}(h0:0≤n)(h1:n≤65535):jS n=true:=by simp[jS,h0,h1]
theorem rH{n:Int}(h:¬(0≤n∧n≤65535)):jS n=false:=by
 rw[Bool.eq_false_iff];intro hh;simp[jS]at hh;exact h hh
theorem gH(n:Int)(w:World) :
  Cw 39 #[iV n] w (.bool (jS n)):=by
 by_cases h0:0≤n
 ·by_cases h1:n≤65535
  ·have HV:Hid (jS n=true):=gK h0 h1;go_enter Tryz.func39,Tryz.ntmps39
   go_wp2
   go_ret;exact⟨aB HV.out.symm,rfl⟩
  ·have HV:Hid (jS n=false):=rH (fun h=>h1 h.2);go_enter Tryz.func39,Tryz.ntmps39
   go_wp2
   go_ret;exact⟨aB HV.out.symm,rfl⟩
 ·have HV:Hid (jS n=false):=rH (fun h=>h0 h.1);go_enter Tryz.func39,Tryz.ntmps39
  go_wp2
  go_ret;exact⟨aB HV.out.symm,rfl⟩
theorem dO(n:Int)(w:World) :
  Cw 122 #[iV n] w (.bool (jS n)):=by
 by_cases h0:0≤n
 ·by_cases h1:n≤65535
  ·have HV:Hid (jS n=true):=gK h0 h1;go_enter Tryz.func122,Tryz.ntmps122
   go_wp2
   go_ret;exact⟨aB HV.out.symm,rfl⟩
  ·have HV:Hid (jS n=false):=rH (fun h=>h1 h.2);go_enter Tryz.func122,Tryz.ntmps122
   go_wp2
   go_ret;exact⟨aB HV.out.symm,rfl⟩
 ·have HV:Hid (jS n=false):=rH (fun h=>h0 h.1);go_enter Tryz.func122,Tryz.ntmps122
  go_wp2
  go_ret;exact⟨aB HV.out.symm,rfl⟩
def kI:List Int→List Int
 | []=>[]
 | n::r=>n / 256::n % 256::kI r
theorem nD(ws:List Int):(kI ws).length=2*ws.length:=by
 induction ws with
 | nil=>rfl
 | cons n r ih=>simp[kI,ih];omega
theorem DF(a:List Int)(n:Int):kI (a++[n])=kI a++[n / 256,n % 256]:=by
 induction a with
 | nil=>rfl
 | cons m r ih=>simp[kI,ih]
theorem MG{ws:List Int}{k:Nat}{n:Int}{w2:World}{B e:Nat}{v:Value}(hn:n=ws.getD k 0)(hk:k < ws.length)
  (h:w2.ownsRow B e 1 v (2*k+2) ((kI (ws.take k)).map (Value.int .u8)++[Value.int .u8 (n / 256),Value.int .u8 (n % 256)])) :
  w2.ownsRow B e 1 v (2*(k+1)) ((kI (ws.take (k+1))).map (Value.int .u8)):=by
 have e1:ws.take (k+1)=ws.take k++[n]:=by
  rw[List.take_succ_eq_append_getElem hk,hn];simp[List.getD,hk]
 rw[e1,DF,List.map_append];exact h
theorem Tryz.info5:(Tryz.prog.info? 5).map (fun i=>(i.zero,i.size,i.bytes))=some (some (.int .u8 0),1,1):=by kernel_rfl
theorem mC(ws:List Int)(b m cap:Nat)(w:World)(hm:m≤1000)(hb:b < w.heap.size)(hl:ws.length=m)
  (hw:∀k,0≤ws.getD k 0∧ws.getD k 0≤65535) (hc:∀k,k < m→w.cell? ⟨b,k,none⟩=some (iV (ws.getD k 0))) :
  Calls Tryz.prog 154 #[.slice (some ⟨b,0,none⟩) m cap] w fun e w'=>e=.returned (.slice (some ⟨w.heap.size,0,none⟩) (2*m) (2*m)) ∧
   w'.ownsRow w.heap.size 5 1 (.slice (some ⟨w.heap.size,0,none⟩) (2*m) (2*m)) (2*m) ((kI ws).map (Value.int .u8))∧Below w.heap.size w w':=by
 obtain⟨i0,hi,hz0,hz1,hz2⟩:=info_parts Tryz.info5;go_enter Tryz.func154,Tryz.ntmps154
 go_wp2_with (at_make;refine wpList_make_own _ rfl _ _ 22 rfl w.heap.size 5 i0 (.int .u8 0) 1 Tryz.underlying22 hi hz0 hz1 .i64 .i64 _ (2*m) rfl rfl (by omega) (by rw[hz2];omega) (by unfold maxLen;omega) lR ?_;intro w1 hown hgrow)
 have hbel:Below w.heap.size w w1:=bR.grown hgrow lR (by simp);clear hgrow;go_loopw [3,12] (fun v i wr=>∃k:Nat,k≤m∧i=iV k∧v=.slice (some ⟨w.heap.size,0,none⟩) (2*k) (2*m) ∧
   wr.ownsRow w.heap.size 5 1 (.slice (some ⟨w.heap.size,0,none⟩) (2*k) (2*m)) (2*k) ((kI (ws.take k)).map (Value.int .u8))∧Below w.heap.size w wr) (fun _ i _=>m-(intOf i).toNat)
 case atStart=>exact⟨0,UR _,rfl,rfl,by simpa[kI] using hown,hbel⟩
 case round=>
  clear hown hbel;obtain⟨k,hk,rfl,rfl,hown,hbel⟩:=hrel;by_cases hlt:k < m
  ·have hcx:wr.cell? ⟨b,k,none⟩=some (iV (ws.getD k 0)):=(hbel.cell (p:=⟨b,k,none⟩) hb).trans (hc k hlt);obtain⟨n,hn⟩: ∃n,n=ws.getD k 0:=⟨_,rfl⟩;have hwn:=hw k;rw[←hn]at hcx hwn;have HN:Hid (n=ws.getD k 0):=hn;clear hn hw hc;have hsz:=hbel.size;go_wp2_with (at_builtin;refine wpList_append_fits _ rfl (.tmp 16) (.tmp 22) 22 rfl w.heap.size 5 i0 1 Tryz.underlying22 hi hz1 w.heap.size (2*k) (2*m) _ rfl (hown.alloc _) ⟨wr.heap.size,0,none⟩ 2 2 [.int .u8 (n / 256),.int .u8 (n % 256)] rfl rfl ?c1 ?c2 (by omega) ?_)
   case c1=>
    intro j u hj;match j,hj with
    | 0,hj=>simp at hj;subst hj;simp[Addr.add]
    | 1,hj=>simp at hj;subst hj;simp[Addr.add]
   case c2=>intro u hu;simp at hu;rcases hu with rfl|rfl<;>rfl
   ·intro w2 hown2 hgrow2;have hbel2:Below w.heap.size w w2:=(hbel.alloc hsz _).grown hgrow2 (by simp;omega) (by simp);have R:=MG HN.out (by omega) hown2;clear hown2 hgrow2 hown hbel hcx;go_wp2
    go_roundw
    case rel=>exact⟨k+1,by omega,by go_num,rfl,R,hbel2⟩
    case measure=>simp[intOf];omega
  ·have hkm:k=m:=by omega
   subst hkm;have R:wr.ownsRow w.heap.size 5 1 (.slice (some ⟨w.heap.size,0,none⟩) (2*k) (2*k)) (2*k) ((kI ws).map (Value.int .u8)):=by
    rw[List.take_of_length_le (by omega)]at hown;exact hown
   clear hown;go_wp2
   go_ret;exact⟨rfl,R,hbel⟩
theorem xZ(f:Nat→Int)(b len cap k:Nat)(w:World)(hf:oJ f)(he:∀i,len≤i→f i=0)(hl:len≤2000)(hk:k < len)
  (hc:∀i,i < len→w.cell? ⟨b,i,none⟩=some (.int .u8 (f i))) :
  Cw 186 #[.slice (some ⟨b,0,none⟩) len cap,iV k] w (iV (aL f k)):=by
 have b1:=hf k;have b2:=hf (k+1);have hj:=qO (f k) (f (k+1)) b1.1 b1.2 b2.1 b2.2;have c1:=hc k hk;by_cases h:k+1 < len
 ·have c2:=hc (k+1) h;clear hc he hf;go_enter Tryz.func186,Tryz.ntmps186
  go_wp2
  go_ret;exact⟨aK rfl,rfl⟩
 ·have HE:Hid (f (k+1)=0):=he _ (by omega);clear hc he hf;go_enter Tryz.func186,Tryz.ntmps186
  go_wp2
  go_ret;exact⟨aK (by unfold aL;rw[HE.out];omega),rfl⟩
theorem IE(f:Nat→Int)(b len cap:Nat)(w:World)(hf:oJ f)(he:∀i,len≤i→f i=0)(hl:len≤2000)
  (hc:∀i,i < len→w.cell? ⟨b,i,none⟩=some (.int .u8 (f i))) :
  Cw 185 #[.slice (some ⟨b,0,none⟩) len cap] w (iV (gI f ((len+1) / 2))):=by
 have HW:Hid (∀k,k < len→Cw 186 #[.slice (some ⟨b,0,none⟩) len cap,iV k] w (iV (aL f k))):=fun k hk=>xZ f b len cap k w hf he hl hk hc
 clear hc he;go_enter Tryz.func185,Tryz.ntmps185
 go_wp2
 go_loop [3,9] (fun n i=>∃k:Nat,k≤(len+1) / 2∧i=iV k∧n=iV (gI f k)) (fun _ i=>(len+1) / 2-(intOf i).toNat)
 case atStart=>exact⟨0,UR _,rfl,rfl⟩
 case round=>
  obtain⟨k,hk,rfl,rfl⟩:=hrel;have hr:=lF hf k;have hq:=cN hf (2*k);have HN:Hid (gI f (k+1)=gC (gI f k) (aL f (2*k))):=rfl;have HF:Hid _:=CR (gI f k) (aL f (2*k)) hr.1 hr.2 hq.1 hq.2;have ha:=qH (gI f k+aL f (2*k));clear hf;by_cases hlt:k < (len+1) / 2
  ·have h2:2*k < len:=by omega
   go_wp2_with (go_at_call 186;refine(HW.out (2*k) h2).mono ?_;rintro e w' ⟨rfl,rfl⟩)
   go_round
   case rel=>exact⟨k+1,by omega,by go_num,by rw[HN.out,←HF.out]⟩
   case measure=>simp[intOf];omega
  ·go_wp2
   go_ret;exact⟨aK (by rw[show (len+1) / 2=k by omega]),rfl⟩
def fL(ws:List Int)(i:Nat):Int:=(kI ws).getD i 0
theorem QI(ws:List Int)(i:Nat)(h:2*ws.length≤i):fL ws i=0:=by
 have:=nD ws;simp[fL,List.getD,List.getElem?_eq_none (show (kI ws).length≤i by omega)]
theorem zS:∀(ws:List Int),(∀n∈ws,0≤n∧n≤65535)→oJ (fL ws)
 | [],_=>fun i=>by simp[fL,kI]
 | n::r,h=>fun i=>by
  have hn:=h n (by simp);match i with
  | 0=>simp only[fL,kI,List.getD_cons_zero];omega
  | 1=>simp only[fL,kI,List.getD_cons_succ,List.getD_cons_zero];omega
  | i+2=>simpa[fL,kI] using zS r (fun m hm=>h m (by simp[hm])) i
theorem JI{a:Int}(h:a≤65535):gC 0 a=a:=by unfold gC;rw[if_neg (by omega)];omega
theorem NQ(n:Int):n / 256*256+n % 256=n:=by omega
theorem KQ{a b c:Int}(h:a≤65535):gI (fL [a,b,c]) 3=gC (gC a b) c:=by
 simp only[gI,aL,fL,kI,Nat.mul_zero,Nat.mul_one,TX,List.getD_cons_zero,List.getD_cons_succ,NQ,show 2*2=4 from rfl];rw[JI h]
theorem qN(ws:List Int)(h:∀n∈ws,0≤n∧n≤65535)(k:Nat):0≤ws.getD k 0∧ws.getD k 0≤65535:=by
 by_cases hk:k < ws.length
 ·simp only[List.getD,UJ hk,Option.getD_some];exact h _ (TY hk)
 ·simp[List.getD,List.getElem?_eq_none (show ws.length≤k by omega)]
theorem ME(ws:List Int)(w:World)(hm:ws.length≤1000)(h:∀n∈ws,0≤n∧n≤65535) :
  Calls Tryz.prog 154 #[.slice (some ⟨w.heap.size,0,none⟩) ws.length ws.length] (w.alloc (.cells (ws.map (Value.int .i64)).toArray 2)) fun e w' =>
   e=.returned (.slice (some ⟨w.heap.size+1,0,none⟩) (2*ws.length) (2*ws.length))∧(∀i,i < 2*ws.length→w'.cell? ⟨w.heap.size+1,i,none⟩=some (.int .u8 (fL ws i)))∧Below w.heap.size w w':=by
 refine(mC ws w.heap.size ws.length ws.length (w.alloc (.cells (ws.map (Value.int .i64)).toArray 2)) hm (by simp) rfl (qN ws h) (by intro k hk;simp[hk])).mono ?_;rintro e w' ⟨rfl,hown,hB⟩;have hz:(w.alloc (.cells (ws.map (Value.int .i64)).toArray 2)).heap.size=w.heap.size+1:=by simp
 rw[hz]at hown hB ⊢;refine⟨rfl,fun i hi=>?_,(bR.alloc lR _).trans (hB.mono (by omega))⟩;have hl:=nD ws;rw[hown.cellAt i (by omega)];simp[fL,show i < (kI ws).length by omega]
theorem xY(s o n:Int)(w:World)(hs:0≤s∧s≤65535)(ho:0≤o∧o≤65535)(hn:0≤n∧n≤65535) :
  Cw 84 #[iV s,iV o,iV n] w (iV (65535-gC (gC (65535-s) (65535-o)) n)):=by
 have r1:=iN (a:=65535-s) (b:=65535-o) (by omega) (by omega) (by omega) (by omega);have r2:=iN r1.1 r1.2 hn.1 hn.2;go_enter Tryz.func84,Tryz.ntmps84
 go_wp2_with fail
 refine(kG (65535-s) (65535-o) _ (by omega) (by omega) (by omega) (by omega)).mono ?_;rintro e w' ⟨rfl,rfl⟩;go_wp2_with fail
 refine(kG _ n _ r1.1 r1.2 hn.1 hn.2).mono ?_;rintro e w' ⟨rfl,rfl⟩;go_wp2
 go_ret;exact⟨rfl,rfl⟩
def lO(s o n:Int):Int:=if (0≤s∧s≤65535)∧(0≤o∧o≤65535)∧(0≤n∧n≤65535) then 65535-gC (gC (65535-s) (65535-o)) n else 0
theorem uW(s o n:Int)(w:World) :
  Cb 184 #[iV s,iV o,iV n] w (iV (lO s o n)):=by
 by_cases hs:0≤s∧s≤65535
 ·have i1:=gK hs.1 hs.2;by_cases ho:0≤o∧o≤65535
  ·have i2:=gK ho.1 ho.2;by_cases hn:0≤n∧n≤65535
   ·have i3:=gK hn.1 hn.2;have HV:Hid (lO s o n=65535-gI (fL [65535-s,65535-o,n]) 3):=(if_pos ⟨hs,ho,hn⟩: lO s o n=65535-gC (gC (65535-s) (65535-o)) n).trans (by rw[KQ (by omega)]);have hws:∀m∈[65535-s,65535-o,n],0≤m∧m≤65535:=by intro m hm;simp at hm;rcases hm with rfl|rfl|rfl<;>omega
    have HL:Hid (Calls Tryz.prog 154 #[.slice (some ⟨w.heap.size,0,none⟩) 3 3] (w.alloc (.cells #[iV (65535-s),iV (65535-o),iV n] 2)) fun e w' =>
     e=.returned (.slice (some ⟨w.heap.size+1,0,none⟩) 6 6)∧(∀i,i < 6→w'.cell? ⟨w.heap.size+1,i,none⟩=some (.int .u8 (fL [65535-s,65535-o,n] i)))∧Below w.heap.size w w'):=ME [65535-s,65535-o,n] w (by simp) hws
    have HB:Hid (oJ (fL [65535-s,65535-o,n])):=zS _ hws;have hr:=lF HB.out 3;clear hws;go_enter Tryz.func184,Tryz.ntmps184
    go_wp2_with (first | (go_at_call 122;refine(dO _ _).mono ?_;rintro e w' ⟨rfl,rfl⟩) | (go_at_call 154;refine HL.out.mono ?_;rintro e w' ⟨rfl,hc,hB⟩;have HC:Hid _:=hc;clear hc) | (go_at_call 185;refine(IE (fL [65535-s,65535-o,n]) _ 6 6 _ HB.out (QI [65535-s,65535-o,n]) (by omega) HC.out).mono ?_;rintro e w' ⟨rfl,rfl⟩))
    go_ret;exact⟨aK HV.out.symm,hB⟩
   ·have HV:Hid (lO s o n=0):=if_neg (fun h=>hn h.2.2);have i3:=rH hn;clear hn;go_enter Tryz.func184,Tryz.ntmps184
    go_wp2_with (go_at_call 122;refine(dO _ _).mono ?_;rintro e w' ⟨rfl,rfl⟩)
    go_ret;exact⟨aK HV.out.symm,Below.refl _ _⟩
  ·have HV:Hid (lO s o n=0):=if_neg (fun h=>ho h.2.1);have i2:=rH ho;clear ho;go_enter Tryz.func184,Tryz.ntmps184
   go_wp2_with (go_at_call 122;refine(dO _ _).mono ?_;rintro e w' ⟨rfl,rfl⟩)
   go_ret;exact⟨aK HV.out.symm,Below.refl _ _⟩
 ·have HV:Hid (lO s o n=0):=if_neg (fun h=>hs h.1);have i1:=rH hs;clear hs;go_enter Tryz.func184,Tryz.ntmps184
  go_wp2_with (go_at_call 122;refine(dO _ _).mono ?_;rintro e w' ⟨rfl,rfl⟩)
  go_ret;exact⟨aK HV.out.symm,Below.refl _ _⟩
theorem dR(a b:BA)(i:Nat):bt (a++b) i=if i < a.size then bt a i else bt b (i-a.size):=by
 have hs:(a++b).size=a.size+b.size:=UF;by_cases h:i < a.size
 ·rw[if_pos h];unfold bt;rw[dif_pos (by omega),dif_pos h,ByteArray.getElem_append_left h]
 ·rw[if_neg h];unfold bt;by_cases h2:i < (a++b).size
  ·rw[dif_pos h2,dif_pos (by omega),ByteArray.getElem_append_right (by omega)]
  ·rw[dif_neg h2,dif_neg (by omega)]
theorem fA(a:BA)(s e i:Nat)(he:e≤a.size):bt (a.extract s e) i=if s+i < e then bt a (s+i) else 0:=by
 have hs:(a.extract s e).size=min e a.size-s:=UG;by_cases h:s+i < e
 ·rw[if_pos h];unfold bt;rw[dif_pos (by omega),dif_pos (by omega),ByteArray.getElem_extract]
 ·rw[if_neg h];unfold bt;rw[dif_neg (by omega)]
theorem aP(n:Int):(aQ n).size=2:=rfl
theorem FN(n:Int)(h0:0≤n)(h1:n≤65535):bt (aQ n) 0=n / 256∧bt (aQ n) 1=n % 256:=by
 constructor
 ·unfold bt;rw[dif_pos (by rw[aP];omega)];exact fI _ (by omega) (by omega)
 ·unfold bt;rw[dif_pos (by rw[aP];omega)];exact fI _ (by omega) (by omega)
theorem oR{f g:Nat→Int}:∀(k:Nat),(∀i,i < 2*k→f i=g i)→gI f k=gI g k
 | 0,_=>rfl
 | k+1,h=>by
  unfold gI;rw[oR k (fun i hi=>h i (by omega))];unfold aL;rw[h (2*k) (by omega),h (2*k+1) (by omega)]
section
variable {t:BA} {j K:Nat} {n:Int}
end
theorem lK(a b:Int):∃z,gC a b=a+b+65535*z:=by
 unfold gC;split
 ·exact⟨-1,by omega⟩
 ·exact⟨0,by omega⟩
theorem qR{f g:Nat→Int}{j:Nat}(h:∀i,(i < 2*j∨2*j+2≤i)→f i=g i):∀k,j < k→∃z,gI g k=gI f k-aL f (2*j)+aL g (2*j)+65535*z
 | 0,h0=>by omega
 | k+1,hk=>by
  obtain⟨z1,e1⟩:=lK (gI f k) (aL f (2*k));obtain⟨z2,e2⟩:=lK (gI g k) (aL g (2*k));unfold gI;by_cases hjk:j=k
  ·subst hjk;have:=oR (f:=f) (g:=g) j (fun i hi=>h i (.inl hi));exact⟨z2-z1,by rw[e1,e2];omega⟩
  ·obtain⟨z,e⟩:=qR h k (by omega);have e3:aL f (2*k)=aL g (2*k):=by unfold aL;rw[h _ (.inr (by omega)),h _ (.inr (by omega))]
   exact⟨z2-z1+z,by rw[e1,e2];omega⟩
structure P4 where
 tos:Int
 id:Int
 whole:Bool
 more:Bool
 off:Int
 ttl:Int
 UU:Int
 src:BA
 dst:BA
 opts:BA
 data:BA
structure P6 where
 cls:Int
 flow:Int
 next:Int
 hops:Int
 src:BA
 dst:BA
 piece:Bool
 more:Bool
 off:Int
 id:Int
 data:BA
def mD(p:P4):Value:=.agg (fM p.tos p.id p.whole p.more p.off p.ttl p.UU p.src p.dst p.opts p.data).toArray
def aM(n lo hi:Int):Bool:=decide (lo≤n)&&decide (n≤hi)
theorem eD{n lo hi:Int}(h:aM n lo hi=true):lo≤n∧n≤hi:=by simpa[aM] using h
def KT(p:P4):Bool:=aM p.tos 0 255&&aM p.ttl 0 255&&aM p.UU 0 255&&aM p.id 0 65535&&aM p.off 0 8191&&decide (p.src.size=4)&&decide (p.dst.size=4)
def LD(p:P4):Bool:=decide (p.opts.size≤40)&&decide (p.opts.size % 4=0)&&decide (p.data.size≤1400)&&!(p.more&&!decide (p.data.size % 8=0))&&decide (8*p.off+p.data.size≤65515)
def QZ(p:P4):Bool:=!p.whole||(!p.more&&decide (p.off=0))
def iX(p:P4):Bool:=KT p&&LD p&&QZ p
theorem yX{p:P4}(h:KT p=true):(0≤p.tos∧p.tos≤255)∧(0≤p.ttl∧p.ttl≤255)∧(0≤p.UU∧p.UU≤255)∧(0≤p.id∧p.id≤65535)∧(0≤p.off∧p.off≤8191)∧p.src.size=4∧p.dst.size=4:=by
 unfold KT at h;simp only[TP,TU]at h;obtain⟨⟨⟨⟨⟨⟨h1,h2⟩,h3⟩,h4⟩,h5⟩,h6⟩,h7⟩:=h;exact⟨eD h1,eD h2,eD h3,eD h4,eD h5,h6,h7⟩
theorem yY{p:P4}(h:LD p=true):p.opts.size≤40∧p.opts.size % 4=0∧p.data.size≤1400∧(p.more=true→p.data.size % 8=0)∧8*p.off+p.data.size≤65515:=by
 unfold LD at h;simp only[TP,Bool.not_eq_true',TU]at h;obtain⟨⟨⟨⟨h1,h2⟩,h3⟩,h4⟩,h5⟩:=h;refine⟨h1,h2,h3,fun hm=>?_,h5⟩;rw[hm,UE,Bool.not_eq_false',TU]at h4;exact h4
def kE(x y:Int):BA:=⟨#[UInt8.ofNat x.toNat,UInt8.ofNat y.toNat]⟩
theorem mT(x y:Int):(kE x y).size=2:=rfl
theorem MR(x y:Int)(hx:0≤x∧x≤255)(hy:0≤y∧y≤255):bt (kE x y) 0=x∧bt (kE x y) 1=y:=by
 constructor
 ·exact fI x hx.1 hx.2
 ·exact fI y hy.1 hy.2
def jJ(p:P4):Int:=20+p.opts.size
def pS:P4:=⟨0,0,false,false,0,0,0,⟨#[]⟩,⟨#[]⟩,⟨#[]⟩,⟨#[]⟩⟩
def gZ:P6:=⟨0,0,0,0,⟨#[]⟩,⟨#[]⟩,false,false,0,0,⟨#[]⟩⟩
abbrev dY(p:P4):List Value := [iV p.tos,iV p.id,.bool p.whole,.bool p.more,iV p.off,iV p.ttl,iV p.UU,.string p.src,.string p.dst,.string p.opts,.string p.data]
structure Bd where
 UU:Int
 inn:BA
 UW:Int
 out:BA
 UX:Int
def jI(p:Bd):Value:=.agg (iW p.UU p.inn p.UW p.out p.UX).toArray
def eG(p:Bd):List Value:=(iW p.UU p.inn p.UW p.out p.UX)
theorem eC(p:Bd):(eG p).length=5:=rfl
instance:Inhabited Bd:=⟨⟨0,⟨#[]⟩,0,⟨#[]⟩,0⟩⟩
structure Ss where
 UU:Int
 inn:BA
 UW:Int
 peer:BA
 UV:Int
 state:Int
 untl:Int
def wR(p:Ss):Value:=.agg (rZ p.UU p.inn p.UW p.peer p.UV p.state p.untl).toArray
def fY(p:Ss):List Value:=(rZ p.UU p.inn p.UW p.peer p.UV p.state p.untl)
theorem eE(p:Ss):(fY p).length=7:=rfl
instance:Inhabited Ss:=⟨⟨0,⟨#[]⟩,0,⟨#[]⟩,0,0,0⟩⟩
structure Tc where
 UU:Int
 UY:Bool
 addr:BA
 port:Int
 peer:BA
 UV:Int
 VB:Int
def qF(p:Tc):Value:=.agg (eO p.UU p.UY p.addr p.port p.peer p.UV p.VB).toArray
abbrev FF(p:Tc):List Value := [iV p.UU,.bool p.UY,.string p.addr,iV p.port,.string p.peer,iV p.UV,iV p.VB]
abbrev dH(p:Bd):List Value := [iV p.UU,.string p.inn,iV p.UW,.string p.out,iV p.UX]
abbrev iB(p:Ss):List Value := [iV p.UU,.string p.inn,iV p.UW,.string p.peer,iV p.UV,iV p.state,iV p.untl]
structure Lv where
 udp:Int
 echo:Int
 opening:Int
 opn:Int
 closing:Int
def xS(l:Lv):Value:=.agg #[iV l.udp,iV l.echo,iV l.opening,iV l.opn,iV l.closing]
def IW(l:Lv):List Value:=[iV l.udp,iV l.echo,iV l.opening,iV l.opn,iV l.closing]
def fR(l:Lv):Bool:=aM l.udp 1 10000&&aM l.echo 1 10000&&aM l.opening 1 10000&&aM l.opn 1 10000&&aM l.closing 1 10000
def cY(UU:Int):Bool:=decide (UU=17)||decide (UU=1)
def eH(VB:Int)(m:Int):Bool:=decide (bits .and .i64 VB m≠0)
def bB(UU:Int)(UY:Bool)(VB:Int):Int :=
 if aM VB 0 255=false then 0 else if cY UU=true then 3
 else if UU=6∧eH VB 2=true∧eH VB 4=false∧eH VB 16=false then (if UY=true then 1 else 2) else 0
def aV(UU state:Int)(UY:Bool)(VB:Int):Int :=
 if cY UU=true then 3
 else if UU=6∧aM state 1 7=true∧aM VB 0 255=true then
  if eH VB 4=true then 7
  else if state=1 then (if UY=false∧eH VB 2=true then 3 else 1)
  else if state=2 then (if UY=true∧eH VB 2=true then 3 else 2)
  else if state=3 then (if eH VB 1=true then (if UY=true then 4 else 5) else 3)
  else if state=4 then (if UY=false∧eH VB 1=true then 6 else 4)
  else if state=5 then (if UY=true∧eH VB 1=true then 6 else 5)
  else if state=7 then 3 else state
 else 0
def bT(l:Lv)(UU state:Int):Int :=
 if fR l=false then 0
 else if UU=17 then l.udp else if UU=1 then l.echo else if UU=6 then
  (if state=1∨state=2 then l.opening else if state=3∨state=4∨state=5 then l.opn else if state=6∨state=7 then l.closing else 0)
 else 0
def cI(s:BA):Bool:=s.size==4||s.size==16
theorem pI{s:BA}(h:cI s=true):s.size=4∨s.size=16:=by simpa[cI] using h
theorem oD{s:BA}(h:s.size=4∨s.size=16):cI s=true:=by simpa[cI] using h
theorem yA{s:BA}(h:¬(s.size=4∨s.size=16)):cI s=false:=by
 rw[Bool.eq_false_iff];intro hh;exact h (pI hh)
theorem iZ(s:BA)(w:World) :
  Cw 65 #[.string s] w (.bool (cI s)):=by
 by_cases h4:s.size=4
 ·have HV:Hid (cI s=true):=oD (.inl h4);have h4':(s.size:Int)=4:=by omega
  clear h4;go_enter Tryz.func65,Tryz.ntmps65
  go_wp2
  go_ret;exact⟨aB HV.out.symm,rfl⟩
 ·by_cases h16:s.size=16
  ·have HV:Hid (cI s=true):=oD (.inr h16);have h16':(s.size:Int)=16:=by omega
   clear h16 h4;go_enter Tryz.func65,Tryz.ntmps65
   go_wp2
   go_ret;exact⟨aB HV.out.symm,rfl⟩
  ·have HV:Hid (cI s=false):=yA (by omega);have e1:((s.size:Int)==4)=false:=by simp;omega
   have e2:((s.size:Int)==16)=false:=by simp;omega
   go_enter Tryz.func65,Tryz.ntmps65
   go_wp2
   go_ret;exact⟨aB HV.out.symm,rfl⟩
structure Pl where
 VA:List BA
 low:Int
 high:Int
 most:Int
 filter:Int
 lv:Lv
def EY(a:OA)(cap:Nat)(p:Pl):List Value:=[.slice a p.VA.length cap,iV p.low,iV p.high,iV p.most,iV p.filter,iV p.lv.udp,iV p.lv.echo,iV p.lv.opening,iV p.lv.opn,iV p.lv.closing]
def jQ(a:OA)(cap:Nat)(p:Pl):Value:=.agg #[.slice a p.VA.length cap,iV p.low,iV p.high,iV p.most,iV p.filter,iV p.lv.udp,iV p.lv.echo,iV p.lv.opening,iV p.lv.opn,iV p.lv.closing]
structure Bb where
 VC:List Bd
 UZ:List Ss
def iQ(a b:OA)(ca cb:Nat)(x:Bb):Value:=.agg #[.slice a x.VC.length ca,.slice b x.UZ.length cb]
def bX(s:BA):List Value:=[.string s]
def eP(UU:Int):Bool:=decide (UU=6)||decide (UU=17)||decide (UU=1)
def nL(xs:List BA)(s:BA):Bool:=xs.any fun t=>decide (t.toList=s.toList)
def bG{α:Type}(f:α→Bool)(xs:List α):Int:=match xs.findIdx? f with | some i=>i | none=>-1
def cD(UU:Int)(s:BA)(port:Int)(q:Bd):Bool:=decide (q.UU=UU)&&decide (q.inn.toList=s.toList)&&decide (q.UW=port)
def dE(UU:Int)(s:BA)(port:Int)(q:Bd):Bool:=decide (q.UU=UU)&&decide (q.out.toList=s.toList)&&decide (q.UX=port)
def gY(p:Bd)(q:Ss):Bool:=decide (p.UU=q.UU)&&decide (p.inn.toList=q.inn.toList)&&decide (p.UW=q.UW)
def jT{α:Type}(f:List α→α→Bool)(xs:List α):Nat→Bool
 | 0=>true
 | n+1=>jT f xs n&&(match xs[n]? with | some x=>f (xs.take n) x | none=>true)
theorem lS{α:Type}{f:List α→α→Bool}{xs:List α}{n:Nat}(h:n < xs.length):jT f xs (n+1)=(jT f xs n&&f (xs.take n) xs[n]):=by
 show (jT f xs n&&_)=_;rw[UJ h]
theorem yW{α:Type}{f:List α→α→Bool}{xs:List α}:∀ {m n:Nat},n≤m→jT f xs n=false→jT f xs m=false
 | 0,n,h,hf=>by have e:n=0:=(by omega);rw[e]at hf;exact hf
 | m+1,n,h,hf=>by
  by_cases e:n=m+1
  ·subst e;exact hf
  ·show (jT f xs m&&_)=false;rw[yW (m:=m) (n:=n) (by omega) hf];rfl
theorem rV{α:Type}{f:List α→α→Bool}{xs:List α}{i:Nat}(h:i < xs.length)(hf:f (xs.take i) xs[i]=false):jT f xs xs.length=false:=by
 refine yW (n:=i+1) (by omega) ?_;rw[lS h,hf,Bool.and_false]
def eV(ys:List BA)(s:BA):Bool:=decide (s.size=4)&&!nL ys s
def cT(p:Pl):Bool:=decide (1≤p.VA.length)&&decide (p.VA.length≤8)&&decide (1≤p.low)&&decide (p.low≤p.high)&&decide (p.high≤65535)&&aM p.most 1 60&&aM p.filter 0 2&&fR p.lv&&jT eV p.VA p.VA.length
def eK(c b:Bd):Bool:=(decide (c.inn.toList=b.inn.toList)&&!decide (c.out.toList=b.out.toList))||(decide (c.UU=b.UU)&&((decide (c.inn.toList=b.inn.toList)&&decide (c.UW=b.UW))||(decide (c.out.toList=b.out.toList)&&decide (c.UX=b.UX))))
def cG(p:Pl)(ys:List Bd)(b:Bd):Bool:=eP b.UU&&cI b.inn&&jS b.UW&&nL p.VA b.out&&aM b.UX p.low p.high&&!ys.any fun c=>eK c b
def gS(s t:Ss):Bool:=decide (s.UU=t.UU)&&decide (s.inn.toList=t.inn.toList)&&decide (s.UW=t.UW)&&decide (s.peer.toList=t.peer.toList)&&decide (s.UV=t.UV)
def fV(bs:List Bd)(ys:List Ss)(s:Ss):Bool:=decide (s.peer.size=4)&&jS s.UV&&aM s.state 1 7&&(decide (s.UU=6)||decide (s.state=3))&&aM s.untl 0 2000000000&&decide (0≤bG (cD s.UU s.inn s.UW) bs)&&!ys.any fun t=>gS s t
def fS(p:Pl)(b:Bb):Bool:=cT p&&decide ((b.UZ.length:Int)≤p.most)&&decide (b.VC.length≤60)&&jT (cG p) b.VC b.VC.length&&jT (fV b.VC) b.UZ b.UZ.length&&b.VC.all fun x=>b.UZ.any fun s=>gY x s
abbrev iF(a:OA)(c:Nat)(p:Pl)(d:OA)(e:Nat)(f:OA)(g:Nat)(x:Bb)(m n:Nat):List Value := [.slice a p.VA.length c,iV p.low,iV p.high,iV p.most,iV p.filter,iV p.lv.udp,iV p.lv.echo,iV p.lv.opening,iV p.lv.opn,iV p.lv.closing,.slice d x.VC.length e,.slice f x.UZ.length g,.map (some m),.map (some n)]
abbrev bM(a:OA)(c:Nat)(p:Pl):List Value := [.slice a p.VA.length c,iV p.low,iV p.high,iV p.most,iV p.filter,iV p.lv.udp,iV p.lv.echo,iV p.lv.opening,iV p.lv.opn,iV p.lv.closing]
abbrev bF(d:OA)(e:Nat)(f:OA)(g:Nat)(x:Bb):List Value := [.slice d x.VC.length e,.slice f x.UZ.length g]
open Go.ChangeShapes Go.WideShapes
def gO(n:Int):Prop:=-9223372036854775808≤n∧n≤9223372036854775807
theorem bW{w:World}{cs:Array Value}{t:TypeId}{j:Nat}{v:Value}(h:cs[j]?=some v):(w.alloc (.cells cs t)).cell? ⟨w.heap.size,j,none⟩=some v:=by
 simp[h]
section
variable {H:Type} {enc:TypeId × Value→H} {P:Program} {w:World} {base:Nat} {spare:Nat→Bool} {held:Bool}
end
structure qG(w:World)(B:Nat)(p:Bd):Prop where
 c0:w.cell? ⟨B,0,none⟩=some (iV p.UU)
 c1:w.cell? ⟨B,1,none⟩=some (.string p.inn)
 c2:w.cell? ⟨B,2,none⟩=some (iV p.UW)
 c3:w.cell? ⟨B,3,none⟩=some (.string p.out)
 c4:w.cell? ⟨B,4,none⟩=some (iV p.UX)
theorem qG.new(w:World)(p:Bd){t:TypeId}:qG (w.alloc (.cells (dH p).toArray t)) w.heap.size p:=⟨bW rfl,bW rfl,bW rfl,bW rfl,bW rfl⟩
section
variable {α:Type} (en:α→List Value) (n:Nat)
def FE(w:World)(b off:Nat)(xs:List α):Prop:=∀i (h:i < xs.length),w.rangeAt b (off+i*n) (en xs[i])
def bP(w:World)(a:OA)(xs:List α):Prop:=xs=[]∨∃b off,a=some ⟨b,off,none⟩∧b < w.heap.size∧FE en n w b off xs
structure iL(w:World)(B:Nat)(xs:List α)(L k:Nat):Prop where
 blk:B < w.heap.size
 at0:∀i (h:i < xs.length),i < k→w.rangeAt B (i*n) (en xs[i])
 there:∀i,i < L*n→(w.cell? ⟨B,i,none⟩).isSome=true
 free:∀i,i < L*n→w.frozen? ⟨B,i,none⟩=false
end
section
variable {α:Type} {en:α→List Value} {n:Nat} {w W:World}
theorem FE.below{b off:Nat}{xs:List α}(h:FE en n w b off xs){m:Nat}(hb:b < m)(hB:Below m w W):FE en n W b off xs :=
 fun i hi j v hv=>(hB.cell (p:=⟨b,off+i*n+j,none⟩) hb).trans (h i hi j v hv)
theorem bP.below{a:OA}{xs:List α}(h:bP en n w a xs)(hB:Below w.heap.size w W):bP en n W a xs:=by
 rcases h with h|⟨b,off,ha,hb,hr⟩
 ·exact .inl h
 ·exact .inr ⟨b,off,ha,UM hb hB.size,hr.below hb hB⟩
theorem bP.grown{a:OA}{xs:List α}(h:bP en n w a xs){B:Nat}(hg:w.grownBy W (some B))(hne:xs=[]∨∀g o,a=some ⟨g,o,none⟩→g≠B):bP en n W a xs:=by
 rcases h with h|⟨b,off,ha,hb,hr⟩
 ·exact .inl h
 ·rcases hne with h0 | hne
  ·exact .inl h0
  ·have hbl:=hg.block b hb (by simp;exact hne b off ha);refine .inr ⟨b,off,ha,UM hb hg.size,fun i hi j v hv=>?_⟩;have hc:∀o,W.cell? ⟨b,o,none⟩=w.cell? ⟨b,o,none⟩:=fun o=>by unfold World.cell?;rw[show (⟨b,o,none⟩: Addr).block=b from rfl,hbl]
   exact(hc _).trans (hr i hi j v hv)
theorem bP.at{a:OA}{xs:List α}(h:bP en n w a xs){k:Nat}(hk:k < xs.length):∃b off,a=some ⟨b,off,none⟩∧b < w.heap.size∧FE en n w b off xs:=by
 rcases h with h|h
 ·rw[h]at hk;simp at hk
 ·exact h
theorem iL.at{B:Nat}{xs:List α}{L:Nat}(h:iL en n w B xs L xs.length):FE en n w B 0 xs:=fun i hi=>by
 rw[TX];exact h.at0 i hi hi
theorem iL.is{B:Nat}{xs:List α}{L:Nat}(h:iL en n w B xs L xs.length):bP en n w (some ⟨B,0,none⟩) xs:=.inr ⟨B,0,rfl,h.blk,h.at⟩
theorem iL.below{B:Nat}{xs:List α}{L k:Nat}(h:iL en n w B xs L k){m:Nat}(hm:B < m)(hB:Below m w W)(hs:w.heap.size≤W.heap.size):iL en n W B xs L k:=by
 have hc:∀o,W.cell? ⟨B,o,none⟩=w.cell? ⟨B,o,none⟩:=fun o=>hB.cell (p:=⟨B,o,none⟩) hm
 have hf:∀o,W.frozen? ⟨B,o,none⟩=w.frozen? ⟨B,o,none⟩:=fun o=>hB.frozen (p:=⟨B,o,none⟩) hm
 exact⟨UM h.blk hs,fun i hi hk j v hv=>(hc _).trans (h.at0 i hi hk j v hv),fun i hi=>by rw[hc];exact h.there i hi,fun i hi=>by rw[hf];exact h.free i hi⟩
theorem iL.kept{B:Nat}{xs:List α}{L k:Nat}(h:iL en n w B xs L k)(hB:Below w.heap.size w W):iL en n W B xs L k:=h.below h.blk hB hB.size
theorem iL.start{base len cap g:Nat}{e:TypeId}{vs:List Value}{xs:List α}(h:w.ownsRow base e n (.slice (some ⟨g,0,none⟩) len cap) len vs):iL en n w g xs len 0:=by
 obtain⟨hl,h|⟨g',cap',cur,hv,_,hh,hc,_,hsz,_⟩⟩:=h
 ·simp at h
 ·injection hv with hv _ hv3
  injection hv with hv
  injection hv with hv _
  subst hv hv3;have hlt:g < w.heap.size:=by
   by_cases hb:g < w.heap.size
   ·exact hb
   ·rw[Array.getElem?_eq_none (by omega)]at hh;simp at hh
  refine⟨hlt,fun i hi hk=>by omega,fun i hi=>?_,fun i hi=>?_⟩
  ·have:i < cur.size:=by rw[hsz];have:=Nat.mul_le_mul_right n hc;omega
   simp[World.cell?,hh,this]
  ·simp[World.frozen?,hh]
end
section
variable {H:Type} {enc:TypeId × Value→H} {P:Program} {w:World} {base:Nat} {spare:Nat→Bool} {held:Bool}
end
structure aA(w:World)(B:Nat)(cs:List Value):Prop where
 at0:w.rangeAt B 0 cs
 th:w.there B 0 cs.length
section
variable {w W:World} {B:Nat} {cs:List Value}
theorem aA.new(w:World)(cs:List Value)(t:TypeId):aA (w.alloc (.cells cs.toArray t)) w.heap.size cs :=
 ⟨fun j v hv=>by rw[TX,cell_of_row _ w.heap.size j cs.toArray t (0,0) (heap_alloc_new w _)];simpa using hv,
   fun j hj=>⟨by rw[TX,cell_of_row _ w.heap.size j cs.toArray t (0,0) (heap_alloc_new w _)];simp[hj],by simp⟩⟩
theorem aA.cell(h:aA w B cs){j:Nat}{v:Value}(hv:cs[j]?=some v):w.cell? ⟨B,j,none⟩=some v:=by
 have:=h.at0 j v hv;rwa [TX]at this
theorem aA.free(h:aA w B cs){j:Nat}(hj:j < cs.length):w.frozen? ⟨B,j,none⟩=false:=by
 have:=(h.th j hj).2;rwa [TX]at this
theorem aA.c2{v0 v1:Value}{l:List Value}(h:aA w B (v0::v1::l)):w.cell? ⟨B,0,none⟩=some v0∧w.cell? ⟨B,1,none⟩=some v1:=⟨h.cell rfl,h.cell rfl⟩
theorem aA.c3{v0 v1 v2:Value}{l:List Value}(h:aA w B (v0::v1::v2::l)):w.cell? ⟨B,0,none⟩=some v0∧w.cell? ⟨B,1,none⟩=some v1∧w.cell? ⟨B,2,none⟩=some v2:=⟨h.cell rfl,h.cell rfl,h.cell rfl⟩
theorem aA.c4{v0 v1 v2 v3:Value}{l:List Value}(h:aA w B (v0::v1::v2::v3::l)):w.cell? ⟨B,0,none⟩=some v0∧w.cell? ⟨B,1,none⟩=some v1∧w.cell? ⟨B,2,none⟩=some v2∧w.cell? ⟨B,3,none⟩=some v3:=⟨h.cell rfl,h.cell rfl,h.cell rfl,h.cell rfl⟩
theorem aA.c5{v0 v1 v2 v3 v4:Value}{l:List Value}(h:aA w B (v0::v1::v2::v3::v4::l)):w.cell? ⟨B,0,none⟩=some v0∧w.cell? ⟨B,1,none⟩=some v1∧w.cell? ⟨B,2,none⟩=some v2∧w.cell? ⟨B,3,none⟩=some v3∧w.cell? ⟨B,4,none⟩=some v4:=⟨h.cell rfl,h.cell rfl,h.cell rfl,h.cell rfl,h.cell rfl⟩
theorem aA.c6{v0 v1 v2 v3 v4 v5:Value}{l:List Value}(h:aA w B (v0::v1::v2::v3::v4::v5::l)):w.cell? ⟨B,0,none⟩=some v0∧w.cell? ⟨B,1,none⟩=some v1∧w.cell? ⟨B,2,none⟩=some v2∧w.cell? ⟨B,3,none⟩=some v3∧w.cell? ⟨B,4,none⟩=some v4∧w.cell? ⟨B,5,none⟩=some v5:=⟨h.cell rfl,h.cell rfl,h.cell rfl,h.cell rfl,h.cell rfl,h.cell rfl⟩
theorem aA.c7{v0 v1 v2 v3 v4 v5 v6:Value}{l:List Value}(h:aA w B (v0::v1::v2::v3::v4::v5::v6::l)):w.cell? ⟨B,0,none⟩=some v0∧w.cell? ⟨B,1,none⟩=some v1∧w.cell? ⟨B,2,none⟩=some v2∧w.cell? ⟨B,3,none⟩=some v3∧w.cell? ⟨B,4,none⟩=some v4∧w.cell? ⟨B,5,none⟩=some v5∧w.cell? ⟨B,6,none⟩=some v6:=⟨h.cell rfl,h.cell rfl,h.cell rfl,h.cell rfl,h.cell rfl,h.cell rfl,h.cell rfl⟩
theorem aA.c8{v0 v1 v2 v3 v4 v5 v6 v7:Value}{l:List Value}(h:aA w B (v0::v1::v2::v3::v4::v5::v6::v7::l)):w.cell? ⟨B,0,none⟩=some v0∧w.cell? ⟨B,1,none⟩=some v1∧w.cell? ⟨B,2,none⟩=some v2∧w.cell? ⟨B,3,none⟩=some v3∧w.cell? ⟨B,4,none⟩=some v4∧w.cell? ⟨B,5,none⟩=some v5∧w.cell? ⟨B,6,none⟩=some v6∧w.cell? ⟨B,7,none⟩=some v7:=⟨h.cell rfl,h.cell rfl,h.cell rfl,h.cell rfl,h.cell rfl,h.cell rfl,h.cell rfl,h.cell rfl⟩
theorem aA.c9{v0 v1 v2 v3 v4 v5 v6 v7 v8:Value}{l:List Value}(h:aA w B (v0::v1::v2::v3::v4::v5::v6::v7::v8::l)):w.cell? ⟨B,0,none⟩=some v0∧w.cell? ⟨B,1,none⟩=some v1∧w.cell? ⟨B,2,none⟩=some v2∧w.cell? ⟨B,3,none⟩=some v3∧w.cell? ⟨B,4,none⟩=some v4∧w.cell? ⟨B,5,none⟩=some v5∧w.cell? ⟨B,6,none⟩=some v6∧w.cell? ⟨B,7,none⟩=some v7∧w.cell? ⟨B,8,none⟩=some v8:=⟨h.cell rfl,h.cell rfl,h.cell rfl,h.cell rfl,h.cell rfl,h.cell rfl,h.cell rfl,h.cell rfl,h.cell rfl⟩
theorem aA.c10{v0 v1 v2 v3 v4 v5 v6 v7 v8 v9:Value}{l:List Value}(h:aA w B (v0::v1::v2::v3::v4::v5::v6::v7::v8::v9::l)):w.cell? ⟨B,0,none⟩=some v0∧w.cell? ⟨B,1,none⟩=some v1∧w.cell? ⟨B,2,none⟩=some v2∧w.cell? ⟨B,3,none⟩=some v3∧w.cell? ⟨B,4,none⟩=some v4∧w.cell? ⟨B,5,none⟩=some v5∧w.cell? ⟨B,6,none⟩=some v6∧w.cell? ⟨B,7,none⟩=some v7∧w.cell? ⟨B,8,none⟩=some v8∧w.cell? ⟨B,9,none⟩=some v9:=⟨h.cell rfl,h.cell rfl,h.cell rfl,h.cell rfl,h.cell rfl,h.cell rfl,h.cell rfl,h.cell rfl,h.cell rfl,h.cell rfl⟩
theorem aA.c11{v0 v1 v2 v3 v4 v5 v6 v7 v8 v9 v10:Value}{l:List Value}(h:aA w B (v0::v1::v2::v3::v4::v5::v6::v7::v8::v9::v10::l)):w.cell? ⟨B,0,none⟩=some v0∧w.cell? ⟨B,1,none⟩=some v1∧w.cell? ⟨B,2,none⟩=some v2∧w.cell? ⟨B,3,none⟩=some v3∧w.cell? ⟨B,4,none⟩=some v4∧w.cell? ⟨B,5,none⟩=some v5∧w.cell? ⟨B,6,none⟩=some v6∧w.cell? ⟨B,7,none⟩=some v7∧w.cell? ⟨B,8,none⟩=some v8∧w.cell? ⟨B,9,none⟩=some v9∧w.cell? ⟨B,10,none⟩=some v10:=⟨h.cell rfl,h.cell rfl,h.cell rfl,h.cell rfl,h.cell rfl,h.cell rfl,h.cell rfl,h.cell rfl,h.cell rfl,h.cell rfl,h.cell rfl⟩
theorem aA.f2{v0 v1:Value}{l:List Value}(h:aA w B (v0::v1::l)):w.frozen? ⟨B,0,none⟩=false∧w.frozen? ⟨B,1,none⟩=false:=⟨h.free (by simp),h.free (by simp)⟩
theorem aA.f3{v0 v1 v2:Value}{l:List Value}(h:aA w B (v0::v1::v2::l)):w.frozen? ⟨B,0,none⟩=false∧w.frozen? ⟨B,1,none⟩=false∧w.frozen? ⟨B,2,none⟩=false:=⟨h.free (by simp),h.free (by simp),h.free (by simp)⟩
theorem aA.f4{v0 v1 v2 v3:Value}{l:List Value}(h:aA w B (v0::v1::v2::v3::l)):w.frozen? ⟨B,0,none⟩=false∧w.frozen? ⟨B,1,none⟩=false∧w.frozen? ⟨B,2,none⟩=false∧w.frozen? ⟨B,3,none⟩=false:=⟨h.free (by simp),h.free (by simp),h.free (by simp),h.free (by simp)⟩
theorem aA.f5{v0 v1 v2 v3 v4:Value}{l:List Value}(h:aA w B (v0::v1::v2::v3::v4::l)):w.frozen? ⟨B,0,none⟩=false∧w.frozen? ⟨B,1,none⟩=false∧w.frozen? ⟨B,2,none⟩=false∧w.frozen? ⟨B,3,none⟩=false∧w.frozen? ⟨B,4,none⟩=false:=⟨h.free (by simp),h.free (by simp),h.free (by simp),h.free (by simp),h.free (by simp)⟩
theorem aA.f6{v0 v1 v2 v3 v4 v5:Value}{l:List Value}(h:aA w B (v0::v1::v2::v3::v4::v5::l)):w.frozen? ⟨B,0,none⟩=false∧w.frozen? ⟨B,1,none⟩=false∧w.frozen? ⟨B,2,none⟩=false∧w.frozen? ⟨B,3,none⟩=false∧w.frozen? ⟨B,4,none⟩=false∧w.frozen? ⟨B,5,none⟩=false:=⟨h.free (by simp),h.free (by simp),h.free (by simp),h.free (by simp),h.free (by simp),h.free (by simp)⟩
theorem aA.f7{v0 v1 v2 v3 v4 v5 v6:Value}{l:List Value}(h:aA w B (v0::v1::v2::v3::v4::v5::v6::l)):w.frozen? ⟨B,0,none⟩=false∧w.frozen? ⟨B,1,none⟩=false∧w.frozen? ⟨B,2,none⟩=false∧w.frozen? ⟨B,3,none⟩=false∧w.frozen? ⟨B,4,none⟩=false∧w.frozen? ⟨B,5,none⟩=false∧w.frozen? ⟨B,6,none⟩=false:=⟨h.free (by simp),h.free (by simp),h.free (by simp),h.free (by simp),h.free (by simp),h.free (by simp),h.free (by simp)⟩
theorem aA.f8{v0 v1 v2 v3 v4 v5 v6 v7:Value}{l:List Value}(h:aA w B (v0::v1::v2::v3::v4::v5::v6::v7::l)):w.frozen? ⟨B,0,none⟩=false∧w.frozen? ⟨B,1,none⟩=false∧w.frozen? ⟨B,2,none⟩=false∧w.frozen? ⟨B,3,none⟩=false∧w.frozen? ⟨B,4,none⟩=false∧w.frozen? ⟨B,5,none⟩=false∧w.frozen? ⟨B,6,none⟩=false∧w.frozen? ⟨B,7,none⟩=false:=⟨h.free (by simp),h.free (by simp),h.free (by simp),h.free (by simp),h.free (by simp),h.free (by simp),h.free (by simp),h.free (by simp)⟩
theorem aA.f9{v0 v1 v2 v3 v4 v5 v6 v7 v8:Value}{l:List Value}(h:aA w B (v0::v1::v2::v3::v4::v5::v6::v7::v8::l)):w.frozen? ⟨B,0,none⟩=false∧w.frozen? ⟨B,1,none⟩=false∧w.frozen? ⟨B,2,none⟩=false∧w.frozen? ⟨B,3,none⟩=false∧w.frozen? ⟨B,4,none⟩=false∧w.frozen? ⟨B,5,none⟩=false∧w.frozen? ⟨B,6,none⟩=false∧w.frozen? ⟨B,7,none⟩=false∧w.frozen? ⟨B,8,none⟩=false:=⟨h.free (by simp),h.free (by simp),h.free (by simp),h.free (by simp),h.free (by simp),h.free (by simp),h.free (by simp),h.free (by simp),h.free (by simp)⟩
theorem aA.f10{v0 v1 v2 v3 v4 v5 v6 v7 v8 v9:Value}{l:List Value}(h:aA w B (v0::v1::v2::v3::v4::v5::v6::v7::v8::v9::l)):w.frozen? ⟨B,0,none⟩=false∧w.frozen? ⟨B,1,none⟩=false∧w.frozen? ⟨B,2,none⟩=false∧w.frozen? ⟨B,3,none⟩=false∧w.frozen? ⟨B,4,none⟩=false∧w.frozen? ⟨B,5,none⟩=false∧w.frozen? ⟨B,6,none⟩=false∧w.frozen? ⟨B,7,none⟩=false∧w.frozen? ⟨B,8,none⟩=false∧w.frozen? ⟨B,9,none⟩=false:=⟨h.free (by simp),h.free (by simp),h.free (by simp),h.free (by simp),h.free (by simp),h.free (by simp),h.free (by simp),h.free (by simp),h.free (by simp),h.free (by simp)⟩
theorem aA.f11{v0 v1 v2 v3 v4 v5 v6 v7 v8 v9 v10:Value}{l:List Value}(h:aA w B (v0::v1::v2::v3::v4::v5::v6::v7::v8::v9::v10::l)):w.frozen? ⟨B,0,none⟩=false∧w.frozen? ⟨B,1,none⟩=false∧w.frozen? ⟨B,2,none⟩=false∧w.frozen? ⟨B,3,none⟩=false∧w.frozen? ⟨B,4,none⟩=false∧w.frozen? ⟨B,5,none⟩=false∧w.frozen? ⟨B,6,none⟩=false∧w.frozen? ⟨B,7,none⟩=false∧w.frozen? ⟨B,8,none⟩=false∧w.frozen? ⟨B,9,none⟩=false∧w.frozen? ⟨B,10,none⟩=false:=⟨h.free (by simp),h.free (by simp),h.free (by simp),h.free (by simp),h.free (by simp),h.free (by simp),h.free (by simp),h.free (by simp),h.free (by simp),h.free (by simp),h.free (by simp)⟩
theorem aA.c13{v0 v1 v2 v3 v4 v5 v6 v7 v8 v9 v10 v11 v12:Value}{l:List Value}(h:aA w B (v0::v1::v2::v3::v4::v5::v6::v7::v8::v9::v10::v11::v12::l)):w.cell? ⟨B,0,none⟩=some v0∧w.cell? ⟨B,1,none⟩=some v1∧w.cell? ⟨B,2,none⟩=some v2∧w.cell? ⟨B,3,none⟩=some v3∧w.cell? ⟨B,4,none⟩=some v4∧w.cell? ⟨B,5,none⟩=some v5∧w.cell? ⟨B,6,none⟩=some v6∧w.cell? ⟨B,7,none⟩=some v7∧w.cell? ⟨B,8,none⟩=some v8∧w.cell? ⟨B,9,none⟩=some v9∧w.cell? ⟨B,10,none⟩=some v10∧w.cell? ⟨B,11,none⟩=some v11∧w.cell? ⟨B,12,none⟩=some v12:=⟨h.cell rfl,h.cell rfl,h.cell rfl,h.cell rfl,h.cell rfl,h.cell rfl,h.cell rfl,h.cell rfl,h.cell rfl,h.cell rfl,h.cell rfl,h.cell rfl,h.cell rfl⟩
theorem aA.c14{v0 v1 v2 v3 v4 v5 v6 v7 v8 v9 v10 v11 v12 v13:Value}{l:List Value}(h:aA w B (v0::v1::v2::v3::v4::v5::v6::v7::v8::v9::v10::v11::v12::v13::l)):w.cell? ⟨B,0,none⟩=some v0∧w.cell? ⟨B,1,none⟩=some v1∧w.cell? ⟨B,2,none⟩=some v2∧w.cell? ⟨B,3,none⟩=some v3∧w.cell? ⟨B,4,none⟩=some v4∧w.cell? ⟨B,5,none⟩=some v5∧w.cell? ⟨B,6,none⟩=some v6∧w.cell? ⟨B,7,none⟩=some v7∧w.cell? ⟨B,8,none⟩=some v8∧w.cell? ⟨B,9,none⟩=some v9∧w.cell? ⟨B,10,none⟩=some v10∧w.cell? ⟨B,11,none⟩=some v11∧w.cell? ⟨B,12,none⟩=some v12∧w.cell? ⟨B,13,none⟩=some v13:=⟨h.cell rfl,h.cell rfl,h.cell rfl,h.cell rfl,h.cell rfl,h.cell rfl,h.cell rfl,h.cell rfl,h.cell rfl,h.cell rfl,h.cell rfl,h.cell rfl,h.cell rfl,h.cell rfl⟩
theorem aA.f14{v0 v1 v2 v3 v4 v5 v6 v7 v8 v9 v10 v11 v12 v13:Value}{l:List Value}(h:aA w B (v0::v1::v2::v3::v4::v5::v6::v7::v8::v9::v10::v11::v12::v13::l)):w.frozen? ⟨B,0,none⟩=false∧w.frozen? ⟨B,1,none⟩=false∧w.frozen? ⟨B,2,none⟩=false∧w.frozen? ⟨B,3,none⟩=false∧w.frozen? ⟨B,4,none⟩=false∧w.frozen? ⟨B,5,none⟩=false∧w.frozen? ⟨B,6,none⟩=false∧w.frozen? ⟨B,7,none⟩=false∧w.frozen? ⟨B,8,none⟩=false∧w.frozen? ⟨B,9,none⟩=false∧w.frozen? ⟨B,10,none⟩=false∧w.frozen? ⟨B,11,none⟩=false∧w.frozen? ⟨B,12,none⟩=false∧w.frozen? ⟨B,13,none⟩=false:=⟨h.free (by simp),h.free (by simp),h.free (by simp),h.free (by simp),h.free (by simp),h.free (by simp),h.free (by simp),h.free (by simp),h.free (by simp),h.free (by simp),h.free (by simp),h.free (by simp),h.free (by simp),h.free (by simp)⟩
theorem aA.lt(h:aA w B cs)(hl:0 < cs.length):B < w.heap.size:=by
 obtain⟨v,hv⟩:=Option.isSome_iff_exists.1 (h.th 0 hl).1;exact UH w _ hv
theorem aA.of_block(hb:W.heap[B]?=w.heap[B]?)(h:aA w B cs):aA W B cs:=by
 have hc:∀j,W.cell? ⟨B,j,none⟩=w.cell? ⟨B,j,none⟩:=fun j=>by unfold World.cell?;rw[show (⟨B,j,none⟩: Addr).block=B from rfl,hb]
 exact⟨fun j v hv=>by rw[hc];exact h.at0 j v hv,fun j hj=>⟨by rw[hc];exact(h.th j hj).1,(World.frozen?_of_block (a:=⟨B,0+j,none⟩) hb).trans (h.th j hj).2⟩⟩
theorem aA.kept(h:aA w B cs)(hl:0 < cs.length)(hB:Below w.heap.size w W):aA W B cs:=h.of_block (hB.block B (h.lt hl))
theorem aA.grown{row:Option Nat}(h:aA w B cs)(hl:0 < cs.length)(hg:w.grownBy W row)(hr:some B≠row):aA W B cs:=h.of_block (hg.block B (h.lt hl) hr)
theorem aA.alloc(h:aA w B cs)(o:Obj):aA (w.alloc o) B cs:=⟨World.rangeAt_alloc h.at0 o,World.there_alloc h.th o⟩
theorem aA.drew(h:aA w B cs):aA w.drew B cs:=⟨by simpa using h.at0,by simpa using h.th⟩
theorem aA.set(h:aA w B cs)(j:Nat)(v:Value):aA (w.setCell ⟨B,j,none⟩ v) B (cs.set j v):=by
 refine⟨fun i u hu=>?_,fun i hi=>⟨?_,by rw[World.frozen?_setCell];exact(h.th i (by simpa using hi)).2⟩⟩
 ·rw[TX];by_cases e:i=j
  ·subst e;have hi:i < cs.length:=by
    rw[List.getElem?_set]at hu;by_cases e:i < cs.length
    ·exact e
    ·simp[e]at hu
   obtain⟨x,hx⟩:=Option.isSome_iff_exists.1 (h.th i hi).1;rw[TX]at hx;rw[World.cell?_setCell_same _ _ _ hx];rw[List.getElem?_set_self hi]at hu;exact hu
  ·rw[World.cell?_setCell_other _ _ _ _ (fun e2=>e (by injection e2 with _ h2;exact h2.symm))];rw[List.getElem?_set_ne (fun e2=>e e2.symm)]at hu;exact h.cell hu
 ·have hi':i < cs.length:=by simpa using hi
  obtain⟨x,hx⟩:=Option.isSome_iff_exists.1 (h.th i hi').1;by_cases e:i=j
  ·subst e;rw[TX]at hx ⊢;rw[World.cell?_setCell_same _ _ _ hx];rfl
  ·rw[TX]at hx ⊢;rw[World.cell?_setCell_other _ _ _ _ (fun e2=>e (by injection e2 with _ h2;exact h2.symm)),hx];rfl
theorem aA.setOther(h:aA w B cs){C j:Nat}(hne:B≠C)(v:Value):aA (w.setCell ⟨C,j,none⟩ v) B cs :=
 h.of_block (Below.heap_setCell w _ v B (fun e=>hne (by simpa using e)))
theorem aA.setCellsOther(h:aA w B cs){C o:Nat}(hne:B≠C)(ds:List Value):aA (w.setCells C o ds) B cs :=
 ⟨World.rangeAt_setCells_apart h.at0 C o ds (.inl hne),World.there_setCells h.th C o ds⟩
theorem aA.setRange(h:aA w B cs)(o:Nat)(ds:List Value)(ho:o+ds.length≤cs.length):aA (w.setCells B o ds) B (cs.take o++ds++cs.drop (o+ds.length)):=by
 have jJ:(cs.take o++ds++cs.drop (o+ds.length)).length=cs.length:=by simp;omega
 refine⟨fun j v hv=>?_,by rw[jJ];exact World.there_setCells h.th B o ds⟩;have hthere:w.there B o ds.length:=fun i hi=>by have:=h.th (o+i) (by omega);rwa [TX]at this
 rw[TX];by_cases h1:j < o
 ·rw[World.cell?_setCells_out B ds o w ⟨B,j,none⟩ (fun _ _=>.inl h1)];rw[List.append_assoc,List.getElem?_append_left (by simp;omega),List.getElem?_take,if_pos h1]at hv;exact h.cell hv
 ·by_cases h2:j < o+ds.length
  ·have:=World.rangeAt_setCells_same w B o ds hthere (j-o) v (by
    rw[List.append_assoc,List.getElem?_append_right (by simp;omega),List.getElem?_append_left (by simp;omega)]at hv;rw[show (cs.take o).length=o by simp;omega]at hv;exact hv)
   rwa [show o+(j-o)=j by omega]at this
  ·rw[World.cell?_setCells_out B ds o w ⟨B,j,none⟩ (fun _ _=>.inr (by show o+ds.length≤j;omega))];rw[List.getElem?_append_right (by simp;omega),List.getElem?_drop]at hv;rw[show (cs.take o++ds).length=o+ds.length by simp;omega,show o+ds.length+(j-(o+ds.length))=j by omega]at hv;exact h.cell hv
end
theorem aG{P:Program}{fn:Func}{p:Tmp}{ty:TypeId}(h:fn.results=#[.cell p ty])(tmps:Array Value)(w:World)(g:Nat)(cs:List Value)(d:TypeDesc)
  (hp:tmps.getD p undef=.pointer (some ⟨g,0,none⟩)) (hc:aA w g cs) (hu:P.underlying ty=some d) (hd:d.isRow=true) (hi:(P.info? ty).map (·.size)=some cs.length) :
  (results fn tmps).run P w=.ok (.agg cs.toArray) w:=by
 have hp':tmps[p]?.getD undef=.pointer (some ⟨g,0,none⟩):=by simpa using hp
 simp[results,h,hp',asAddr,run_loadVar_mid w g 0 ty cs d hc.at0 hu hd hi]
theorem eN{w:World}{b:Nat}{cs:List Value}(h:aA w b cs){X j:Nat}{v:Value}(hn:b≠X:=by omega):aA (w.setCell ⟨X,j,none⟩ v) b cs:=h.setOther hn v
end Go.Proofs.YtdkepkaflielhaaGreatDoor
