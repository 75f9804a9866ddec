import Derived.Test.YtdkepkaflielhaaGreatDoorMerged1
import Derived.HandedShaped
import Derived.PlainAid
import Derived.Laws.BitsLemmas
import Derived.Laws.Bits64
import Derived.Deep.QuietTactic
import Derived.WalkLawsBesides
import Derived.ChangeAlike
import Derived.Laws.IdiomStrings
import Derived.Deep.DeepCutAuto
import Derived.ChangeArms
import Derived.WideShapes
import Derived.ChangeShapes
import Derived.Deep.Slices
import Derived.OwnWalk
import Derived.Lib.LazyBuf
import Derived.Deep.AppendLies
set_option linter.unusedVariables false
set_option linter.unusedSimpArgs false
set_option maxRecDepth 100000
set_option maxHeartbeats 8000000
namespace Go.Proofs.YtdkepkaflielhaaGreatDoor
open Go
variable {H:Type} {enc:TypeId × Value→H}
theorem returns_and_shaped {a:Assume} {C:Checked} {os:Os} {f:FuncId} {fn:Func} {s:ChangeSpec} {conds:List PathCond} {apart fresh handsOn again:Bool} {X:World→Array Value→Prop}
  (hX:∀ (w w':World) (args:Array Value),w.heap=w'.heap→X w args→X w' args)
  (own:ownKnob C.prog.godebug=none) (started:os.Started) (noInit:C.prog.inits.idxOf? f=none) (hfn:C.prog.funcs[f]?=some fn)
  (witness:∃ (w:World) (tape:Tape) (i:Input),w.os=os∧(w.forCall tape i).Shaped C.prog∧i.vars=[]∧Input.okWide C.prog (w.forCall tape i) .any w.heap.size f i ∧
   ((s.pre enc C.prog fn conds apart (w.forCall tape i).memory i.args∧X (w.forCall tape i).memory i.args)∧sizedMet enc C.prog fn (OpenSpec.ofChange s) apart (w.forCall tape i).memory i.args)∧a.holds C.prog (lone (Frame.enter C.prog f i.args .normal) [] (w.forCall tape i)))
  (contract:∀ (W:World) (base:Nat) (args:Array Value) (ds gs:List (DataW H)) (before:List MemPlace),
   (∀ (j:Nat) t v,fn.params[j]?=some t→args[j]?=some v→Value.okWide C.prog W .any base t v) →
   DataW.Whole enc C.prog fn.params.toList s.vars apart W args.toList ds gs before→X W args→W.ShapedOpen C.prog →
   Calls C.prog f args W fun e W'=>∃ v,e=.returned v∧s.post enc C.prog fn apart fresh handsOn again W args v W') :
  ReturnsInHanded a C os f .any (fun w args=>(s.pre enc C.prog fn conds apart w args∧X w args)∧sizedMet enc C.prog fn (OpenSpec.ofChange s) apart w args) (s.post enc C.prog fn apart fresh handsOn again):=by
 refine returnsInHanded_of_calls own started noInit witness ?_;intro w tape i _ hsh _ hok hpre hholds;obtain ⟨_,_,_,fn',hfn',_,_,_,_,hval⟩:=hok;have e:fn'=fn:=Option.some.inj (hfn'.symm.trans hfn);subst e;obtain ⟨⟨⟨ds,gs,before,hw,_⟩,hx⟩,_⟩:=hpre;refine (contract (w.forCall tape i) w.heap.size i.args ds gs before hval (DataW.Whole.of_heap (w':=w.forCall tape i) (by rfl) hw) (hX _ _ _ (by rfl) hx) hsh).mono fun e W' ⟨v,he,hp⟩=>?_
 subst he;exact ChangeSpec.post_blind hp
open Go.PlainAid
def add1 (a b:Int):Int:=if 65535 < a+b then a+b-65535 else a+b
theorem add1_range {a b:Int} (ha:0≤a) (ha':a≤65535) (hb:0≤b) (hb':b≤65535):0≤add1 a b∧add1 a b≤65535:=by
 unfold add1; split<;>omega
theorem wraps_i64 (n:Int) (h0:0≤n) (h1:n < 2 ^ 63):IntKind.i64.wrap n=n:=by rw [IntKind.wrap_i64]; omega
theorem join_word (a b:Int) (ha:0≤a) (ha':a≤255) (hb:0≤b) (hb':b≤255):bits .or .i64 (a*256) b=a*256+b :=
 bits_join .i64 63 (by decide) wraps_i64 8 (a*256) b (by omega) (by omega) (by omega) hb (by omega) (by omega)
theorem and_65535 (n:Int):bits .and .i64 n 65535=n % 65536:=by
 have h127:(BitVec.ofInt 64 65535).toNat=2 ^ 16-1:=by decide
 have key:(BitVec.ofInt 64 n &&& BitVec.ofInt 64 65535).toNat=(n % ((2 ^ 64:Nat):Int)).toNat % 2 ^ 16:=by
  rw [BitVec.toNat_and,BitVec.toNat_ofInt,h127,Nat.and_two_pow_sub_one_eq_mod]
 show IntKind.i64.wrap ((BitVec.ofInt 64 n &&& BitVec.ofInt 64 65535).toNat:Nat)=n % 65536;rw [key,IntKind.wrap_i64];omega
theorem fold_add (a b:Int) (ha:0≤a) (ha':a≤65535) (hb:0≤b) (hb':b≤65535):(a+b) % 65536+(a+b) / 65536=add1 a b:=by
 unfold add1; split<;>omega
def wordN (f:Nat→Int) (i:Nat):Int:=f i*256+f (i+1)
def sumN (f:Nat→Int):Nat→Int
 | 0=>0
 | k+1=>add1 (sumN f k) (wordN f (2*k))
def isByte (f:Nat→Int):Prop:=∀ i,0≤f i∧f i≤255
theorem wordN_range {f:Nat→Int} (h:isByte f) (i:Nat):0≤wordN f i∧wordN f i≤65535:=by
 have h1:=h i; have h2:=h (i+1); unfold wordN; omega
theorem sumN_range {f:Nat→Int} (h:isByte f) (k:Nat):0≤sumN f k∧sumN f k≤65535:=by
 induction k with
 | zero=>simp [sumN]
 | succ k ih=>have:=wordN_range h (2*k); exact add1_range ih.1 ih.2 this.1 this.2
theorem bt_isByte (s:ByteArray):isByte (bt s):=fun i=>⟨bt_nonneg s i,bt_le s i⟩
open Go.RowKit
theorem ret_int {k:IntKind} {a b:Int} (h:a=b):Ending.returned (.int k a)=.returned (.int k b):=by rw [h]
theorem ret_bool {a b:Bool} (h:a=b):Ending.returned (.bool a)=.returned (.bool b):=by rw [h]
theorem ret_string {a b:ByteArray} (h:a=b):Ending.returned (.string a)=.returned (.string b):=by rw [h]
theorem grown_trans {w w1 w2:World} {r:Option Nat} (h:w.grownBy w1 r) (h2:w1.grownBy w2 r):w.grownBy w2 r :=
 ⟨h2.os.trans h.os,h2.tape.trans h.tape,h2.output.trans h.output,Nat.le_trans h.size h2.size,fun k hk hne=>(h2.block k (Nat.lt_of_lt_of_le hk h.size) hne).trans (h.block k hk hne)⟩
theorem grown_drew {w w1:World} {r:Option Nat} (h:w.grownBy w1 r):w.grownBy w1.drew r:=⟨h.os,h.tape,h.output,h.size,h.block⟩
theorem grown_set {w w1:World} {B o:Nat} (h:w.grownBy w1 (some B)) (v:Value):w.grownBy (w1.setCell ⟨B,o,none⟩ v) (some B) :=
 ⟨h.os,h.tape,h.output,by rw [World.size_setCell]; exact h.size,fun k hk hne=>(Below.heap_setCell w1 _ v k (fun e=>hne (by rw [e]))).trans (h.block k hk hne)⟩
theorem grown_of_below {w w1:World} {r:Option Nat} (h:Below w.heap.size w w1):w.grownBy w1 r:=⟨h.os,h.tape,h.output,h.size,fun k hk _=>h.block k hk⟩
theorem own_ne {w:World} {base e n B:Nat} {v:Value} {xs:List Value} (h:w.ownsRow base e 1 v n xs) (hB:B < base):v.ownBlock=none∨v.ownBlock≠some B:=by
 by_cases hv:v.ownBlock=some B
 ·have:=(h.lt B hv).1; omega
 ·exact .inr hv
theorem own_shape {w:World} {base e n:Nat} {v:Value} {xs:List Value} (h:w.ownsRow base e 1 v n xs) (hv:v≠.slice none 0 0):∃ g cap,v=.slice (some ⟨g,0,none⟩) n cap∧w.ownsRow base e 1 (.slice (some ⟨g,0,none⟩) n cap) n xs:=by
 rcases h.2 with ⟨h1,_⟩ | ⟨g,cap,cur,h1,_⟩
 ·exact absurd h1 hv
 ·subst h1; exact ⟨g,cap,rfl,h⟩
theorem bcell {W w1:World} (hb:Below W.heap.size W w1):(∀ b o,b < W.heap.size→w1.cell? ⟨b,o,none⟩=W.cell? ⟨b,o,none⟩)∧(∀ b o,b < W.heap.size→w1.frozen? ⟨b,o,none⟩=W.frozen? ⟨b,o,none⟩) :=
 ⟨fun b o h=>hb.cell (p:=⟨b,o,none⟩) h,fun b o h=>hb.frozen (p:=⟨b,o,none⟩) h⟩
theorem specAt_any (s:ByteArray) (k:Nat) (w:World) (hk:k+1 < s.size) (hs:s.size≤maxLen) :
  Cb 42 #[.string s,iV k] w (iV (wordN (bt s) k)):=by
 unfold maxLen at hs;have hb:=get_bt s;have b1:=bt_isByte s k;have b2:=bt_isByte s (k+1);have hj:=join_word (bt s k) (bt s (k+1)) b1.1 b1.2 b2.1 b2.2;go_enter Tryz.func42,Tryz.ntmps42
 go_wp2
 go_region
 all_goals
  go_wp2
  go_ret;exact ⟨ret_int rfl,bR.drew⟩
theorem wordFromS_any (s:ByteArray) (k:Nat) (w:World) (hk:k < s.size) (hs:s.size≤maxLen) :
  Cw 131 #[.string s,iV k] w (iV (wordN (bt s) k)):=by
 unfold maxLen at hs;have hb:=get_bt s;have b1:=bt_isByte s k;have b2:=bt_isByte s (k+1);have hj:=join_word (bt s k) (bt s (k+1)) b1.1 b1.2 b2.1 b2.2;by_cases h:k+1 < s.size
 ·go_enter Tryz.func131,Tryz.ntmps131
  go_wp2
  go_ret;exact ⟨ret_int rfl,rfl⟩
 ·have h2:¬ (k:Int)+1 < s.size:=by omega
  have HE:Hid (bt s (k+1)=0):=bt_end s (by omega);go_enter Tryz.func131,Tryz.ntmps131
  go_wp2
  go_ret;exact ⟨ret_int (by unfold wordN; rw [HE.out]; omega),rfl⟩
theorem specAdd_any (a b:Int) (w:World) (ha:0≤a) (ha':a≤65535) (hb:0≤b) (hb':b≤65535) :
  Cw 75 #[iV a,iV b] w (iV (add1 a b)):=by
 by_cases h:65535 < a+b
 ·have HV:Hid (add1 a b=a+b-65535):=by unfold Hid add1; rw [if_pos h]
  go_enter Tryz.func75,Tryz.ntmps75
  go_wp2
  go_ret;exact ⟨ret_int HV.out.symm,rfl⟩
 ·have HV:Hid (add1 a b=a+b):=by unfold Hid add1; rw [if_neg h]
  go_enter Tryz.func75,Tryz.ntmps75
  go_wp2
  go_ret;exact ⟨ret_int HV.out.symm,rfl⟩
def sumV (s:ByteArray):Int:=sumN (bt s) ((s.size+1) / 2)
theorem sumV_range (s:ByteArray):0≤sumV s∧sumV s≤65535:=sumN_range (bt_isByte s) _
theorem specSum1_any (s:ByteArray) (w:World) (hs:s.size≤1048578) :
  Cw 70 #[.string s] w (iV (sumV s)):=by
 have hb:=get_bt s;go_enter Tryz.func70,Tryz.ntmps70
 go_wp2
 go_loop [3,4] (fun n i=>∃ k:Nat,2*k≤s.size+1∧i=iV (2*(k:Int))∧n=iV (sumN (bt s) k)) (fun _ i=>s.size+2-(intOf i).toNat)
 case atStart=>exact ⟨0,Nat.zero_le _,rfl,rfl⟩
 case round =>
  obtain ⟨k,hk,rfl,rfl⟩:=hrel;have hr:=sumN_range (bt_isByte s) k;have hq:=wordN_range (bt_isByte s) (2*k);have HW:Hid (wordN (bt s) (2*k)=bt s (2*k)*256+bt s (2*k+1)):=rfl;have HN:Hid (sumN (bt s) (k+1)=add1 (sumN (bt s) k) (wordN (bt s) (2*k))):=rfl;have b1:=bt_isByte s (2*k);have b2:=bt_isByte s (2*k+1);have hj:=join_word (bt s (2*k)) (bt s (2*k+1)) b1.1 b1.2 b2.1 b2.2;by_cases hlt:2*k < s.size
  ·by_cases h2:2*k+1 < s.size
   ·go_wp2_with (go_at_call 75; refine (specAdd_any _ _ _ hr.1 hr.2 (by omega) (by omega)).mono ?_; rintro e w' ⟨rfl,rfl⟩)
    go_round
    case rel=>exact ⟨k+1,by omega,by go_num,by rw [HN.out,HW.out]⟩
    case measure=>simp [intOf]; omega
   ·have HE:Hid (bt s (2*k+1)=0):=bt_end s (by omega);go_wp2_with (go_at_call 75; refine (specAdd_any _ _ _ hr.1 hr.2 (by omega) (by omega)).mono ?_; rintro e w' ⟨rfl,rfl⟩)
    go_round
    case rel=>exact ⟨k+1,by omega,by go_num,by rw [HN.out,HW.out,HE.out,Int.add_zero]⟩
    case measure=>simp [intOf]; omega
  ·go_wp2
   go_ret;exact ⟨ret_int (by unfold sumV; rw [show (s.size+1) / 2=k by omega]),rfl⟩
theorem sumOfS_any (s:ByteArray) (w:World) (hs:s.size≤1048578) :
  Cw 170 #[.string s] w (iV (sumV s)):=by
 have hs':s.size≤maxLen:=by unfold maxLen; omega
 go_enter Tryz.func170,Tryz.ntmps170
 go_wp2
 go_loop [3,9] (fun n i=>∃ k:Nat,k≤(s.size+1) / 2∧i=iV k∧n=iV (sumN (bt s) k)) (fun _ i=>(s.size+1) / 2-(intOf i).toNat)
 case atStart=>exact ⟨0,Nat.zero_le _,rfl,rfl⟩
 case round =>
  obtain ⟨k,hk,rfl,rfl⟩:=hrel;have hr:=sumN_range (bt_isByte s) k;have hq:=wordN_range (bt_isByte s) (2*k);have HN:Hid (sumN (bt s) (k+1)=add1 (sumN (bt s) k) (wordN (bt s) (2*k))):=rfl;have HF:Hid _:=fold_add (sumN (bt s) k) (wordN (bt s) (2*k)) hr.1 hr.2 hq.1 hq.2;have ha:=and_65535 (sumN (bt s) k+wordN (bt s) (2*k));by_cases hlt:k < (s.size+1) / 2
  ·have h2:2*k < s.size:=by omega
   go_wp2_with (go_at_call 131; refine (wordFromS_any s (2*k) _ h2 hs').mono ?_; rintro e w' ⟨rfl,rfl⟩)
   go_round
   case rel=>exact ⟨k+1,by omega,by go_num,by rw [HN.out,← HF.out]⟩
   case measure=>simp [intOf]; omega
  ·go_wp2
   go_ret;exact ⟨ret_int (by unfold sumV; rw [show (s.size+1) / 2=k by omega]),rfl⟩
def twoL (n:Int):List UInt8:=[UInt8.ofNat (n / 256).toNat,UInt8.ofNat (n % 256).toNat]
def twoV (n:Int):ByteArray:=⟨(twoL n).toArray⟩
theorem u8_ofNat (x:Int) (h0:0≤x) (h1:x≤255):((UInt8.ofNat x.toNat).toNat:Int)=x:=by
 rw [UInt8.toNat_ofNat']; omega
theorem two_cells {w:World} {b:Nat} {n:Int} (h0:0≤n) (h1:n≤65535)
  (hc0:w.cell? ⟨b,0,none⟩=some (.int .u8 (n / 256))) (hc1:w.cell? ⟨b,1,none⟩=some (.int .u8 (n % 256))) :
  ∀ j (hj:j < (twoL n).length),w.cell? (Addr.add ⟨b,0,none⟩ j)=some (.int .u8 ((twoL n)[j].toNat:Int)):=by
 intro j hj;match j,hj with
 | 0,_=>simp only [Addr.add,Nat.add_zero,twoL,List.getElem_cons_zero]; rw [u8_ofNat _ (by omega) (by omega)]; exact hc0
 | 1,_=>simp only [Addr.add,Nat.zero_add,twoL,List.getElem_cons_succ,List.getElem_cons_zero]; rw [u8_ofNat _ (by omega) (by omega)]; exact hc1
theorem two_conv {w:World} {b cap:Nat} {n:Int} (h0:0≤n) (h1:n≤65535)
  (hc0:w.cell? ⟨b,0,none⟩=some (.int .u8 (n / 256))) (hc1:w.cell? ⟨b,1,none⟩=some (.int .u8 (n % 256))) :
  (convert 22 9 (.slice (some ⟨b,0,none⟩) 2 cap)).run Tryz.prog w=.ok (.string (twoV n)) w :=
 run_convert_bytes_back (P:=Tryz.prog) w 22 9 5 ⟨b,0,none⟩ cap (twoL n) Tryz.underlying22 Tryz.underlying5 Tryz.underlying9 (two_cells h0 h1 hc0 hc1)
theorem specTwo_any (n:Int) (w:World) (h0:0≤n) (h1:n≤65535) :
  Cb 73 #[iV n] w (.string (twoV n)):=by
 have hcv:=two_conv (w:=w.alloc (.cells #[.int .u8 (n / 256),.int .u8 (n % 256)] 5)) (b:=w.heap.size) (cap:=2) h0 h1 (by simp) (by simp);go_enter Tryz.func73,Tryz.ntmps73
 go_wp2
 go_ret;exact ⟨rfl,bR.alloc lR _⟩
def isW (n:Int):Bool:=decide (0≤n)&&decide (n≤65535)
theorem isW_yes {n:Int} (h0:0≤n) (h1:n≤65535):isW n=true:=by simp [isW,h0,h1]
theorem isW_no {n:Int} (h:¬ (0≤n∧n≤65535)):isW n=false:=by
 rw [Bool.eq_false_iff]; intro hh; simp [isW] at hh; exact h hh
theorem specWordIs_any (n:Int) (w:World) :
  Cw 39 #[iV n] w (.bool (isW n)):=by
 by_cases h0:0≤n
 ·by_cases h1:n≤65535
  ·have HV:Hid (isW n=true):=isW_yes h0 h1;go_enter Tryz.func39,Tryz.ntmps39
   go_wp2
   go_ret;exact ⟨ret_bool HV.out.symm,rfl⟩
  ·have HV:Hid (isW n=false):=isW_no (fun h=>h1 h.2);go_enter Tryz.func39,Tryz.ntmps39
   go_wp2
   go_ret;exact ⟨ret_bool HV.out.symm,rfl⟩
 ·have HV:Hid (isW n=false):=isW_no (fun h=>h0 h.1);go_enter Tryz.func39,Tryz.ntmps39
  go_wp2
  go_ret;exact ⟨ret_bool HV.out.symm,rfl⟩
theorem implWordIs_any (n:Int) (w:World) :
  Cw 122 #[iV n] w (.bool (isW n)):=by
 by_cases h0:0≤n
 ·by_cases h1:n≤65535
  ·have HV:Hid (isW n=true):=isW_yes h0 h1;go_enter Tryz.func122,Tryz.ntmps122
   go_wp2
   go_ret;exact ⟨ret_bool HV.out.symm,rfl⟩
  ·have HV:Hid (isW n=false):=isW_no (fun h=>h1 h.2);go_enter Tryz.func122,Tryz.ntmps122
   go_wp2
   go_ret;exact ⟨ret_bool HV.out.symm,rfl⟩
 ·have HV:Hid (isW n=false):=isW_no (fun h=>h0 h.1);go_enter Tryz.func122,Tryz.ntmps122
  go_wp2
  go_ret;exact ⟨ret_bool HV.out.symm,rfl⟩
def layL:List Int→List Int
 | []=>[]
 | n::r=>n / 256::n % 256::layL r
theorem layL_length (ws:List Int):(layL ws).length=2*ws.length:=by
 induction ws with
 | nil=>rfl
 | cons n r ih=>simp [layL,ih]; omega
theorem layL_append (a:List Int) (n:Int):layL (a++[n])=layL a++[n / 256,n % 256]:=by
 induction a with
 | nil=>rfl
 | cons m r ih=>simp [layL,ih]
theorem lay_step {ws:List Int} {k:Nat} {n:Int} {w2:World} {B e:Nat} {v:Value} (hn:n=ws.getD k 0) (hk:k < ws.length)
  (h:w2.ownsRow B e 1 v (2*k+2) ((layL (ws.take k)).map (Value.int .u8)++[Value.int .u8 (n / 256),Value.int .u8 (n % 256)])) :
  w2.ownsRow B e 1 v (2*(k+1)) ((layL (ws.take (k+1))).map (Value.int .u8)):=by
 have e1:ws.take (k+1)=ws.take k++[n]:=by
  rw [List.take_succ_eq_append_getElem hk,hn]; simp [List.getD,hk]
 rw [e1,layL_append,List.map_append];exact h
theorem Tryz.info5:(Tryz.prog.info? 5).map (fun i=>(i.zero,i.size,i.bytes))=some (some (.int .u8 0),1,1):=by kernel_rfl
theorem layWords_any (ws:List Int) (b m cap:Nat) (w:World) (hm:m≤1000) (hb:b < w.heap.size) (hl:ws.length=m)
  (hw:∀ k,0≤ws.getD k 0∧ws.getD k 0≤65535) (hc:∀ k,k < m→w.cell? ⟨b,k,none⟩=some (iV (ws.getD k 0))) :
  Calls Tryz.prog 154 #[.slice (some ⟨b,0,none⟩) m cap] w fun e w'=>e=.returned (.slice (some ⟨w.heap.size,0,none⟩) (2*m) (2*m)) ∧
   w'.ownsRow w.heap.size 5 1 (.slice (some ⟨w.heap.size,0,none⟩) (2*m) (2*m)) (2*m) ((layL ws).map (Value.int .u8))∧Below w.heap.size w w':=by
 obtain ⟨i0,hi,hz0,hz1,hz2⟩:=info_parts Tryz.info5;go_enter Tryz.func154,Tryz.ntmps154
 go_wp2_with (at_make; refine wpList_make_own _ rfl _ _ 22 rfl w.heap.size 5 i0 (.int .u8 0) 1 Tryz.underlying22 hi hz0 hz1 .i64 .i64 _ (2*m) rfl rfl (by omega) (by rw [hz2]; omega) (by unfold maxLen; omega) lR ?_; intro w1 hown hgrow)
 have hbel:Below w.heap.size w w1:=bR.grown hgrow lR (by simp);clear hgrow;go_loopw [3,12] (fun v i wr=>∃ k:Nat,k≤m∧i=iV k∧v=.slice (some ⟨w.heap.size,0,none⟩) (2*k) (2*m) ∧
   wr.ownsRow w.heap.size 5 1 (.slice (some ⟨w.heap.size,0,none⟩) (2*k) (2*m)) (2*k) ((layL (ws.take k)).map (Value.int .u8))∧Below w.heap.size w wr) (fun _ i _=>m-(intOf i).toNat)
 case atStart=>exact ⟨0,Nat.zero_le _,rfl,rfl,by simpa [layL] using hown,hbel⟩
 case round =>
  clear hown hbel;obtain ⟨k,hk,rfl,rfl,hown,hbel⟩:=hrel;by_cases hlt:k < m
  ·have hcx:wr.cell? ⟨b,k,none⟩=some (iV (ws.getD k 0)):=(hbel.cell (p:=⟨b,k,none⟩) hb).trans (hc k hlt);obtain ⟨n,hn⟩ : ∃ n,n=ws.getD k 0:=⟨_,rfl⟩;have hwn:=hw k;rw [← hn] at hcx hwn;have HN:Hid (n=ws.getD k 0):=hn;clear hn hw hc;have hsz:=hbel.size;go_wp2_with (at_builtin; refine wpList_append_fits _ rfl (.tmp 16) (.tmp 22) 22 rfl w.heap.size 5 i0 1 Tryz.underlying22 hi hz1 w.heap.size (2*k) (2*m) _ rfl (hown.alloc _) ⟨wr.heap.size,0,none⟩ 2 2 [.int .u8 (n / 256),.int .u8 (n % 256)] rfl rfl ?c1 ?c2 (by omega) ?_)
   case c1 =>
    intro j u hj;match j,hj with
    | 0,hj=>simp at hj; subst hj; simp [Addr.add]
    | 1,hj=>simp at hj; subst hj; simp [Addr.add]
   case c2=>intro u hu; simp at hu; rcases hu with rfl | rfl<;>rfl
   ·intro w2 hown2 hgrow2;have hbel2:Below w.heap.size w w2:=(hbel.alloc hsz _).grown hgrow2 (by simp; omega) (by simp);have R:=lay_step HN.out (by omega) hown2;clear hown2 hgrow2 hown hbel hcx;go_wp2
    go_roundw
    case rel=>exact ⟨k+1,by omega,by go_num,rfl,R,hbel2⟩
    case measure=>simp [intOf]; omega
  ·have hkm:k=m:=by omega
   subst hkm;have R:wr.ownsRow w.heap.size 5 1 (.slice (some ⟨w.heap.size,0,none⟩) (2*k) (2*k)) (2*k) ((layL ws).map (Value.int .u8)):=by
    rw [List.take_of_length_le (by omega)] at hown; exact hown
   clear hown;go_wp2
   go_ret;exact ⟨rfl,R,hbel⟩
theorem wordFromB_any (f:Nat→Int) (b len cap k:Nat) (w:World) (hf:isByte f) (he:∀ i,len≤i→f i=0) (hl:len≤2000) (hk:k < len)
  (hc:∀ i,i < len→w.cell? ⟨b,i,none⟩=some (.int .u8 (f i))) :
  Cw 186 #[.slice (some ⟨b,0,none⟩) len cap,iV k] w (iV (wordN f k)):=by
 have b1:=hf k;have b2:=hf (k+1);have hj:=join_word (f k) (f (k+1)) b1.1 b1.2 b2.1 b2.2;have c1:=hc k hk;by_cases h:k+1 < len
 ·have c2:=hc (k+1) h;clear hc he hf;go_enter Tryz.func186,Tryz.ntmps186
  go_wp2
  go_ret;exact ⟨ret_int rfl,rfl⟩
 ·have HE:Hid (f (k+1)=0):=he _ (by omega);clear hc he hf;go_enter Tryz.func186,Tryz.ntmps186
  go_wp2
  go_ret;exact ⟨ret_int (by unfold wordN; rw [HE.out]; omega),rfl⟩
theorem sumOfB_any (f:Nat→Int) (b len cap:Nat) (w:World) (hf:isByte f) (he:∀ i,len≤i→f i=0) (hl:len≤2000)
  (hc:∀ i,i < len→w.cell? ⟨b,i,none⟩=some (.int .u8 (f i))) :
  Cw 185 #[.slice (some ⟨b,0,none⟩) len cap] w (iV (sumN f ((len+1) / 2))):=by
 have HW:Hid (∀ k,k < len→Cw 186 #[.slice (some ⟨b,0,none⟩) len cap,iV k] w (iV (wordN f k))):=fun k hk=>wordFromB_any f b len cap k w hf he hl hk hc
 clear hc he;go_enter Tryz.func185,Tryz.ntmps185
 go_wp2
 go_loop [3,9] (fun n i=>∃ k:Nat,k≤(len+1) / 2∧i=iV k∧n=iV (sumN f k)) (fun _ i=>(len+1) / 2-(intOf i).toNat)
 case atStart=>exact ⟨0,Nat.zero_le _,rfl,rfl⟩
 case round =>
  obtain ⟨k,hk,rfl,rfl⟩:=hrel;have hr:=sumN_range hf k;have hq:=wordN_range hf (2*k);have HN:Hid (sumN f (k+1)=add1 (sumN f k) (wordN f (2*k))):=rfl;have HF:Hid _:=fold_add (sumN f k) (wordN f (2*k)) hr.1 hr.2 hq.1 hq.2;have ha:=and_65535 (sumN f k+wordN f (2*k));clear hf;by_cases hlt:k < (len+1) / 2
  ·have h2:2*k < len:=by omega
   go_wp2_with (go_at_call 186; refine (HW.out (2*k) h2).mono ?_; rintro e w' ⟨rfl,rfl⟩)
   go_round
   case rel=>exact ⟨k+1,by omega,by go_num,by rw [HN.out,← HF.out]⟩
   case measure=>simp [intOf]; omega
  ·go_wp2
   go_ret;exact ⟨ret_int (by rw [show (len+1) / 2=k by omega]),rfl⟩
def fL (ws:List Int) (i:Nat):Int:=(layL ws).getD i 0
theorem fL_end (ws:List Int) (i:Nat) (h:2*ws.length≤i):fL ws i=0:=by
 have:=layL_length ws;simp [fL,List.getD,List.getElem?_eq_none (show (layL ws).length≤i by omega)]
theorem fL_byte:∀ (ws:List Int),(∀ n∈ws,0≤n∧n≤65535)→isByte (fL ws)
 | [],_=>fun i=>by simp [fL,layL]
 | n::r,h=>fun i=>by
  have hn:=h n (by simp);match i with
  | 0=>simp only [fL,layL,List.getD_cons_zero]; omega
  | 1=>simp only [fL,layL,List.getD_cons_succ,List.getD_cons_zero]; omega
  | i+2=>simpa [fL,layL] using fL_byte r (fun m hm=>h m (by simp [hm])) i
theorem add1_zero {a:Int} (h:a≤65535):add1 0 a=a:=by unfold add1; rw [if_neg (by omega)]; omega
theorem word_two (n:Int):n / 256*256+n % 256=n:=by omega
theorem sum_three {a b c:Int} (h:a≤65535):sumN (fL [a,b,c]) 3=add1 (add1 a b) c:=by
 simp only [sumN,wordN,fL,layL,Nat.mul_zero,Nat.mul_one,Nat.zero_add,List.getD_cons_zero,List.getD_cons_succ,word_two,show 2*2=4 from rfl];rw [add1_zero h]
theorem getD_word (ws:List Int) (h:∀ n∈ws,0≤n∧n≤65535) (k:Nat):0≤ws.getD k 0∧ws.getD k 0≤65535:=by
 by_cases hk:k < ws.length
 ·simp only [List.getD,List.getElem?_eq_getElem hk,Option.getD_some]; exact h _ (List.getElem_mem hk)
 ·simp [List.getD,List.getElem?_eq_none (show ws.length≤k by omega)]
theorem layAt (ws:List Int) (w:World) (hm:ws.length≤1000) (h:∀ n∈ws,0≤n∧n≤65535) :
  Calls Tryz.prog 154 #[.slice (some ⟨w.heap.size,0,none⟩) ws.length ws.length] (w.alloc (.cells (ws.map (Value.int .i64)).toArray 2)) fun e w' =>
   e=.returned (.slice (some ⟨w.heap.size+1,0,none⟩) (2*ws.length) (2*ws.length))∧(∀ i,i < 2*ws.length→w'.cell? ⟨w.heap.size+1,i,none⟩=some (.int .u8 (fL ws i)))∧Below w.heap.size w w':=by
 refine (layWords_any ws w.heap.size ws.length ws.length (w.alloc (.cells (ws.map (Value.int .i64)).toArray 2)) hm (by simp) rfl (getD_word ws h) (by intro k hk; simp [hk])).mono ?_;rintro e w' ⟨rfl,hown,hB⟩;have hz:(w.alloc (.cells (ws.map (Value.int .i64)).toArray 2)).heap.size=w.heap.size+1:=by simp
 rw [hz] at hown hB ⊢;refine ⟨rfl,fun i hi=>?_,(bR.alloc lR _).trans (hB.mono (by omega))⟩;have hl:=layL_length ws;rw [hown.cellAt i (by omega)];simp [fL,show i < (layL ws).length by omega]
theorem specTurn1_any (s o n:Int) (w:World) (hs:0≤s∧s≤65535) (ho:0≤o∧o≤65535) (hn:0≤n∧n≤65535) :
  Cw 84 #[iV s,iV o,iV n] w (iV (65535-add1 (add1 (65535-s) (65535-o)) n)):=by
 have r1:=add1_range (a:=65535-s) (b:=65535-o) (by omega) (by omega) (by omega) (by omega);have r2:=add1_range r1.1 r1.2 hn.1 hn.2;go_enter Tryz.func84,Tryz.ntmps84
 go_wp2_with fail
 refine (specAdd_any (65535-s) (65535-o) _ (by omega) (by omega) (by omega) (by omega)).mono ?_;rintro e w' ⟨rfl,rfl⟩;go_wp2_with fail
 refine (specAdd_any _ n _ r1.1 r1.2 hn.1 hn.2).mono ?_;rintro e w' ⟨rfl,rfl⟩;go_wp2
 go_ret;exact ⟨rfl,rfl⟩
def sumTurnV (s o n:Int):Int:=if (0≤s∧s≤65535)∧(0≤o∧o≤65535)∧(0≤n∧n≤65535) then 65535-add1 (add1 (65535-s) (65535-o)) n else 0
theorem implSumTurn_any (s o n:Int) (w:World) :
  Cb 184 #[iV s,iV o,iV n] w (iV (sumTurnV s o n)):=by
 by_cases hs:0≤s∧s≤65535
 ·have i1:=isW_yes hs.1 hs.2;by_cases ho:0≤o∧o≤65535
  ·have i2:=isW_yes ho.1 ho.2;by_cases hn:0≤n∧n≤65535
   ·have i3:=isW_yes hn.1 hn.2;have HV:Hid (sumTurnV s o n=65535-sumN (fL [65535-s,65535-o,n]) 3):=(if_pos ⟨hs,ho,hn⟩ : sumTurnV s o n=65535-add1 (add1 (65535-s) (65535-o)) n).trans (by rw [sum_three (by omega)]);have hws:∀ m∈[65535-s,65535-o,n],0≤m∧m≤65535:=by intro m hm; simp at hm; rcases hm with rfl | rfl | rfl<;>omega
    have HL:Hid (Calls Tryz.prog 154 #[.slice (some ⟨w.heap.size,0,none⟩) 3 3] (w.alloc (.cells #[iV (65535-s),iV (65535-o),iV n] 2)) fun e w' =>
     e=.returned (.slice (some ⟨w.heap.size+1,0,none⟩) 6 6)∧(∀ i,i < 6→w'.cell? ⟨w.heap.size+1,i,none⟩=some (.int .u8 (fL [65535-s,65535-o,n] i)))∧Below w.heap.size w w'):=layAt [65535-s,65535-o,n] w (by simp) hws
    have HB:Hid (isByte (fL [65535-s,65535-o,n])):=fL_byte _ hws;have hr:=sumN_range HB.out 3;clear hws;go_enter Tryz.func184,Tryz.ntmps184
    go_wp2_with (first | (go_at_call 122; refine (implWordIs_any _ _).mono ?_; rintro e w' ⟨rfl,rfl⟩) | (go_at_call 154; refine HL.out.mono ?_; rintro e w' ⟨rfl,hc,hB⟩; have HC:Hid _:=hc; clear hc) | (go_at_call 185; refine (sumOfB_any (fL [65535-s,65535-o,n]) _ 6 6 _ HB.out (fL_end [65535-s,65535-o,n]) (by omega) HC.out).mono ?_; rintro e w' ⟨rfl,rfl⟩))
    go_ret;exact ⟨ret_int HV.out.symm,hB⟩
   ·have HV:Hid (sumTurnV s o n=0):=if_neg (fun h=>hn h.2.2);have i3:=isW_no hn;clear hn;go_enter Tryz.func184,Tryz.ntmps184
    go_wp2_with (go_at_call 122; refine (implWordIs_any _ _).mono ?_; rintro e w' ⟨rfl,rfl⟩)
    go_ret;exact ⟨ret_int HV.out.symm,Below.refl _ _⟩
  ·have HV:Hid (sumTurnV s o n=0):=if_neg (fun h=>ho h.2.1);have i2:=isW_no ho;clear ho;go_enter Tryz.func184,Tryz.ntmps184
   go_wp2_with (go_at_call 122; refine (implWordIs_any _ _).mono ?_; rintro e w' ⟨rfl,rfl⟩)
   go_ret;exact ⟨ret_int HV.out.symm,Below.refl _ _⟩
 ·have HV:Hid (sumTurnV s o n=0):=if_neg (fun h=>hs h.1);have i1:=isW_no hs;clear hs;go_enter Tryz.func184,Tryz.ntmps184
  go_wp2_with (go_at_call 122; refine (implWordIs_any _ _).mono ?_; rintro e w' ⟨rfl,rfl⟩)
  go_ret;exact ⟨ret_int HV.out.symm,Below.refl _ _⟩
theorem bt_append (a b:ByteArray) (i:Nat):bt (a++b) i=if i < a.size then bt a i else bt b (i-a.size):=by
 have hs:(a++b).size=a.size+b.size:=ByteArray.size_append;by_cases h:i < a.size
 ·rw [if_pos h]; unfold bt; rw [dif_pos (by omega),dif_pos h,ByteArray.getElem_append_left h]
 ·rw [if_neg h]; unfold bt;by_cases h2:i < (a++b).size
  ·rw [dif_pos h2,dif_pos (by omega),ByteArray.getElem_append_right (by omega)]
  ·rw [dif_neg h2,dif_neg (by omega)]
theorem bt_extract (a:ByteArray) (s e i:Nat) (he:e≤a.size):bt (a.extract s e) i=if s+i < e then bt a (s+i) else 0:=by
 have hs:(a.extract s e).size=min e a.size-s:=ByteArray.size_extract;by_cases h:s+i < e
 ·rw [if_pos h]; unfold bt; rw [dif_pos (by omega),dif_pos (by omega),ByteArray.getElem_extract]
 ·rw [if_neg h]; unfold bt; rw [dif_neg (by omega)]
theorem twoV_size (n:Int):(twoV n).size=2:=rfl
theorem sumN_congr {f g:Nat→Int}:∀ (k:Nat),(∀ i,i < 2*k→f i=g i)→sumN f k=sumN g k
 | 0,_=>rfl
 | k+1,h=>by
  unfold sumN;rw [sumN_congr k (fun i hi=>h i (by omega))];unfold wordN;rw [h (2*k) (by omega),h (2*k+1) (by omega)]
section
variable {t:ByteArray} {j K:Nat} {n:Int}
end
theorem add1_mod (a b:Int):∃ z,add1 a b=a+b+65535*z:=by
 unfold add1; split
 ·exact ⟨-1,by omega⟩
 ·exact ⟨0,by omega⟩
structure P4 where
 tos:Int
 id:Int
 whole:Bool
 more:Bool
 off:Int
 ttl:Int
 proto:Int
 src:ByteArray
 dst:ByteArray
 opts:ByteArray
 data:ByteArray
structure P6 where
 cls:Int
 flow:Int
 next:Int
 hops:Int
 src:ByteArray
 dst:ByteArray
 piece:Bool
 more:Bool
 off:Int
 id:Int
 data:ByteArray
def p4C (p:P4):Value:=.agg (P4R p.tos p.id p.whole p.more p.off p.ttl p.proto p.src p.dst p.opts p.data).toArray
def isIn (n lo hi:Int):Bool:=decide (lo≤n)&&decide (n≤hi)
theorem isIn_parts {n lo hi:Int} (h:isIn n lo hi=true):lo≤n∧n≤hi:=by simpa [isIn] using h
def v4A (p:P4):Bool:=isIn p.tos 0 255&&isIn p.ttl 0 255&&isIn p.proto 0 255&&isIn p.id 0 65535&&isIn p.off 0 8191&&decide (p.src.size=4)&&decide (p.dst.size=4)
def v4B (p:P4):Bool:=decide (p.opts.size≤40)&&decide (p.opts.size % 4=0)&&decide (p.data.size≤1400)&&!(p.more&&!decide (p.data.size % 8=0))&&decide (8*p.off+p.data.size≤65515)
def v4C (p:P4):Bool:=!p.whole||(!p.more&&decide (p.off=0))
def v4Ok (p:P4):Bool:=v4A p&&v4B p&&v4C p
theorem v4A_parts {p:P4} (h:v4A p=true):(0≤p.tos∧p.tos≤255)∧(0≤p.ttl∧p.ttl≤255)∧(0≤p.proto∧p.proto≤255)∧(0≤p.id∧p.id≤65535)∧(0≤p.off∧p.off≤8191)∧p.src.size=4∧p.dst.size=4:=by
 unfold v4A at h;simp only [Bool.and_eq_true,decide_eq_true_iff] at h;obtain ⟨⟨⟨⟨⟨⟨h1,h2⟩,h3⟩,h4⟩,h5⟩,h6⟩,h7⟩:=h;exact ⟨isIn_parts h1,isIn_parts h2,isIn_parts h3,isIn_parts h4,isIn_parts h5,h6,h7⟩
theorem v4B_parts {p:P4} (h:v4B p=true):p.opts.size≤40∧p.opts.size % 4=0∧p.data.size≤1400∧(p.more=true→p.data.size % 8=0)∧8*p.off+p.data.size≤65515:=by
 unfold v4B at h;simp only [Bool.and_eq_true,Bool.not_eq_true',decide_eq_true_iff] at h;obtain ⟨⟨⟨⟨h1,h2⟩,h3⟩,h4⟩,h5⟩:=h;refine ⟨h1,h2,h3,fun hm=>?_,h5⟩;rw [hm,Bool.true_and,Bool.not_eq_false',decide_eq_true_iff] at h4;exact h4
def pairV (x y:Int):ByteArray:=⟨#[UInt8.ofNat x.toNat,UInt8.ofNat y.toNat]⟩
theorem pairV_size (x y:Int):(pairV x y).size=2:=rfl
def hlen (p:P4):Int:=20+p.opts.size
def p4Zero:P4:=⟨0,0,false,false,0,0,0,⟨#[]⟩,⟨#[]⟩,⟨#[]⟩,⟨#[]⟩⟩
def p6Zero:P6:=⟨0,0,0,0,⟨#[]⟩,⟨#[]⟩,false,false,0,0,⟨#[]⟩⟩
abbrev P4V (p : P4) : List Value := [iV p.tos,iV p.id,.bool p.whole,.bool p.more,iV p.off,iV p.ttl,iV p.proto,.string p.src,.string p.dst,.string p.opts,.string p.data]
structure Bd where
 proto:Int
 inn:ByteArray
 inPort:Int
 out:ByteArray
 outPort:Int
def bdC (p:Bd):Value:=.agg (BdR p.proto p.inn p.inPort p.out p.outPort).toArray
def bdL (p:Bd):List Value:=(BdR p.proto p.inn p.inPort p.out p.outPort)
theorem bdL_length (p:Bd):(bdL p).length=5:=rfl
instance:Inhabited Bd:=⟨⟨0,⟨#[]⟩,0,⟨#[]⟩,0⟩⟩
structure Ss where
 proto:Int
 inn:ByteArray
 inPort:Int
 peer:ByteArray
 peerPort:Int
 state:Int
 untl:Int
def ssC (p:Ss):Value:=.agg (SsR p.proto p.inn p.inPort p.peer p.peerPort p.state p.untl).toArray
def ssL (p:Ss):List Value:=(SsR p.proto p.inn p.inPort p.peer p.peerPort p.state p.untl)
theorem ssL_length (p:Ss):(ssL p).length=7:=rfl
instance:Inhabited Ss:=⟨⟨0,⟨#[]⟩,0,⟨#[]⟩,0,0,0⟩⟩
structure Tc where
 proto:Int
 inside:Bool
 addr:ByteArray
 port:Int
 peer:ByteArray
 peerPort:Int
 flags:Int
def tcC (p:Tc):Value:=.agg (TcR p.proto p.inside p.addr p.port p.peer p.peerPort p.flags).toArray
abbrev TcV (p : Tc) : List Value := [iV p.proto,.bool p.inside,.string p.addr,iV p.port,.string p.peer,iV p.peerPort,iV p.flags]
abbrev BdV (p : Bd) : List Value := [iV p.proto,.string p.inn,iV p.inPort,.string p.out,iV p.outPort]
abbrev SsV (p : Ss) : List Value := [iV p.proto,.string p.inn,iV p.inPort,.string p.peer,iV p.peerPort,iV p.state,iV p.untl]
structure Lv where
 udp:Int
 echo:Int
 opening:Int
 opn:Int
 closing:Int
def lvC (l:Lv):Value:=.agg #[iV l.udp,iV l.echo,iV l.opening,iV l.opn,iV l.closing]
def lvL (l:Lv):List Value:=[iV l.udp,iV l.echo,iV l.opening,iV l.opn,iV l.closing]
def livesOk (l:Lv):Bool:=isIn l.udp 1 10000&&isIn l.echo 1 10000&&isIn l.opening 1 10000&&isIn l.opn 1 10000&&isIn l.closing 1 10000
def stillP (proto:Int):Bool:=decide (proto=17)||decide (proto=1)
def flagB (flags:Int) (m:Int):Bool:=decide (bits .and .i64 flags m≠0)
def trackNewV (proto:Int) (inside:Bool) (flags:Int):Int :=
 if isIn flags 0 255=false then 0 else if stillP proto=true then 3
 else if proto=6∧flagB flags 2=true∧flagB flags 4=false∧flagB flags 16=false then (if inside=true then 1 else 2) else 0
def trackNextV (proto state:Int) (inside:Bool) (flags:Int):Int :=
 if stillP proto=true then 3
 else if proto=6∧isIn state 1 7=true∧isIn flags 0 255=true then
  if flagB flags 4=true then 7
  else if state=1 then (if inside=false∧flagB flags 2=true then 3 else 1)
  else if state=2 then (if inside=true∧flagB flags 2=true then 3 else 2)
  else if state=3 then (if flagB flags 1=true then (if inside=true then 4 else 5) else 3)
  else if state=4 then (if inside=false∧flagB flags 1=true then 6 else 4)
  else if state=5 then (if inside=true∧flagB flags 1=true then 6 else 5)
  else if state=7 then 3 else state
 else 0
def trackLifeV (l:Lv) (proto state:Int):Int :=
 if livesOk l=false then 0
 else if proto=17 then l.udp else if proto=1 then l.echo else if proto=6 then
  (if state=1∨state=2 then l.opening else if state=3∨state=4∨state=5 then l.opn else if state=6∨state=7 then l.closing else 0)
 else 0
def addrOk (s:ByteArray):Bool:=s.size==4||s.size==16
theorem addrOk_size {s:ByteArray} (h:addrOk s=true):s.size=4∨s.size=16:=by simpa [addrOk] using h
theorem addrOk_yes {s:ByteArray} (h:s.size=4∨s.size=16):addrOk s=true:=by simpa [addrOk] using h
theorem addrOk_no {s:ByteArray} (h:¬ (s.size=4∨s.size=16)):addrOk s=false:=by
 rw [Bool.eq_false_iff]; intro hh; exact h (addrOk_size hh)
theorem specAddrRight_any (s:ByteArray) (w:World) :
  Cw 65 #[.string s] w (.bool (addrOk s)):=by
 by_cases h4:s.size=4
 ·have HV:Hid (addrOk s=true):=addrOk_yes (.inl h4);have h4':(s.size:Int)=4:=by omega
  clear h4;go_enter Tryz.func65,Tryz.ntmps65
  go_wp2
  go_ret;exact ⟨ret_bool HV.out.symm,rfl⟩
 ·by_cases h16:s.size=16
  ·have HV:Hid (addrOk s=true):=addrOk_yes (.inr h16);have h16':(s.size:Int)=16:=by omega
   clear h16 h4;go_enter Tryz.func65,Tryz.ntmps65
   go_wp2
   go_ret;exact ⟨ret_bool HV.out.symm,rfl⟩
  ·have HV:Hid (addrOk s=false):=addrOk_no (by omega);have e1:((s.size:Int)==4)=false:=by simp; omega
   have e2:((s.size:Int)==16)=false:=by simp; omega
   go_enter Tryz.func65,Tryz.ntmps65
   go_wp2
   go_ret;exact ⟨ret_bool HV.out.symm,rfl⟩
structure Pl where
 addrs:List ByteArray
 low:Int
 high:Int
 most:Int
 filter:Int
 lv:Lv
def plL (a:Option Addr) (cap:Nat) (p:Pl):List Value:=[.slice a p.addrs.length cap,iV p.low,iV p.high,iV p.most,iV p.filter,iV p.lv.udp,iV p.lv.echo,iV p.lv.opening,iV p.lv.opn,iV p.lv.closing]
def plC (a:Option Addr) (cap:Nat) (p:Pl):Value:=.agg #[.slice a p.addrs.length cap,iV p.low,iV p.high,iV p.most,iV p.filter,iV p.lv.udp,iV p.lv.echo,iV p.lv.opening,iV p.lv.opn,iV p.lv.closing]
structure Bb where
 binds:List Bd
 sess:List Ss
def bbC (a b:Option Addr) (ca cb:Nat) (x:Bb):Value:=.agg #[.slice a x.binds.length ca,.slice b x.sess.length cb]
def strL1 (s:ByteArray):List Value:=[.string s]
def protoB (proto:Int):Bool:=decide (proto=6)||decide (proto=17)||decide (proto=1)
def inL (xs:List ByteArray) (s:ByteArray):Bool:=xs.any fun t=>decide (t.toList=s.toList)
def findI {α:Type} (f:α→Bool) (xs:List α):Int:=match xs.findIdx? f with | some i=>i | none=>-1
def ofIn (proto:Int) (s:ByteArray) (port:Int) (q:Bd):Bool:=decide (q.proto=proto)&&decide (q.inn.toList=s.toList)&&decide (q.inPort=port)
def ofOut (proto:Int) (s:ByteArray) (port:Int) (q:Bd):Bool:=decide (q.proto=proto)&&decide (q.out.toList=s.toList)&&decide (q.outPort=port)
def hasS (p:Bd) (q:Ss):Bool:=decide (p.proto=q.proto)&&decide (p.inn.toList=q.inn.toList)&&decide (p.inPort=q.inPort)
def upN {α:Type} (f:List α→α→Bool) (xs:List α):Nat→Bool
 | 0=>true
 | n+1=>upN f xs n&&(match xs[n]? with | some x=>f (xs.take n) x | none=>true)
theorem upN_step {α:Type} {f:List α→α→Bool} {xs:List α} {n:Nat} (h:n < xs.length):upN f xs (n+1)=(upN f xs n&&f (xs.take n) xs[n]):=by
 show (upN f xs n&&_)=_;rw [List.getElem?_eq_getElem h]
theorem upN_false {α:Type} {f:List α→α→Bool} {xs:List α}:∀ {m n:Nat},n≤m→upN f xs n=false→upN f xs m=false
 | 0,n,h,hf=>by have e:n=0:=(by omega); rw [e] at hf; exact hf
 | m+1,n,h,hf=>by
  by_cases e:n=m+1
  ·subst e; exact hf
  ·show (upN f xs m&&_)=false;rw [upN_false (m:=m) (n:=n) (by omega) hf]; rfl
theorem upN_at {α:Type} {f:List α→α→Bool} {xs:List α} {i:Nat} (h:i < xs.length) (hf:f (xs.take i) xs[i]=false):upN f xs xs.length=false:=by
 refine upN_false (n:=i+1) (by omega) ?_;rw [upN_step h,hf,Bool.and_false]
def addrOne (ys:List ByteArray) (s:ByteArray):Bool:=decide (s.size=4)&&!inL ys s
def poolOk (p:Pl):Bool:=decide (1≤p.addrs.length)&&decide (p.addrs.length≤8)&&decide (1≤p.low)&&decide (p.low≤p.high)&&decide (p.high≤65535)&&isIn p.most 1 60&&isIn p.filter 0 2&&livesOk p.lv&&upN addrOne p.addrs p.addrs.length
def clashB (c b:Bd):Bool:=(decide (c.inn.toList=b.inn.toList)&&!decide (c.out.toList=b.out.toList))||(decide (c.proto=b.proto)&&((decide (c.inn.toList=b.inn.toList)&&decide (c.inPort=b.inPort))||(decide (c.out.toList=b.out.toList)&&decide (c.outPort=b.outPort))))
def bindOne (p:Pl) (ys:List Bd) (b:Bd):Bool:=protoB b.proto&&addrOk b.inn&&isW b.inPort&&inL p.addrs b.out&&isIn b.outPort p.low p.high&&!ys.any fun c=>clashB c b
def sameS (s t:Ss):Bool:=decide (s.proto=t.proto)&&decide (s.inn.toList=t.inn.toList)&&decide (s.inPort=t.inPort)&&decide (s.peer.toList=t.peer.toList)&&decide (s.peerPort=t.peerPort)
def sessOne (bs:List Bd) (ys:List Ss) (s:Ss):Bool:=decide (s.peer.size=4)&&isW s.peerPort&&isIn s.state 1 7&&(decide (s.proto=6)||decide (s.state=3))&&isIn s.untl 0 2000000000&&decide (0≤findI (ofIn s.proto s.inn s.inPort) bs)&&!ys.any fun t=>sameS s t
def bibOk (p:Pl) (b:Bb):Bool:=poolOk p&&decide ((b.sess.length:Int)≤p.most)&&decide (b.binds.length≤60)&&upN (bindOne p) b.binds b.binds.length&&upN (sessOne b.binds) b.sess b.sess.length&&b.binds.all fun x=>b.sess.any fun s=>hasS x s
abbrev KkV (a : Option Addr) (c : Nat) (p : Pl) (d : Option Addr) (e : Nat) (f : Option Addr) (g : Nat) (x : Bb) (m n : Nat) : List Value := [.slice a p.addrs.length c,iV p.low,iV p.high,iV p.most,iV p.filter,iV p.lv.udp,iV p.lv.echo,iV p.lv.opening,iV p.lv.opn,iV p.lv.closing,.slice d x.binds.length e,.slice f x.sess.length g,.map (some m),.map (some n)]
abbrev PlV (a : Option Addr) (c : Nat) (p : Pl) : List Value := [.slice a p.addrs.length c,iV p.low,iV p.high,iV p.most,iV p.filter,iV p.lv.udp,iV p.lv.echo,iV p.lv.opening,iV p.lv.opn,iV p.lv.closing]
abbrev BbV (d : Option Addr) (e : Nat) (f : Option Addr) (g : Nat) (x : Bb) : List Value := [.slice d x.binds.length e,.slice f x.sess.length g]
open Go.ChangeShapes Go.WideShapes
def In64t (n:Int):Prop:=-9223372036854775808≤n∧n≤9223372036854775807
theorem cell_new {w:World} {cs:Array Value} {t:TypeId} {j:Nat} {v:Value} (h:cs[j]?=some v):(w.alloc (.cells cs t)).cell? ⟨w.heap.size,j,none⟩=some v:=by
 simp [h]
section
variable {H:Type} {enc:TypeId × Value→H} {P:Program} {w:World} {base:Nat} {spare:Nat→Bool} {held:Bool}
end
structure BoxBind (w:World) (B:Nat) (p:Bd):Prop where
 c0:w.cell? ⟨B,0,none⟩=some (iV p.proto)
 c1:w.cell? ⟨B,1,none⟩=some (.string p.inn)
 c2:w.cell? ⟨B,2,none⟩=some (iV p.inPort)
 c3:w.cell? ⟨B,3,none⟩=some (.string p.out)
 c4:w.cell? ⟨B,4,none⟩=some (iV p.outPort)
theorem BoxBind.new (w:World) (p:Bd) {t:TypeId}:BoxBind (w.alloc (.cells (BdV p).toArray t)) w.heap.size p:=⟨cell_new rfl,cell_new rfl,cell_new rfl,cell_new rfl,cell_new rfl⟩
section
variable {α:Type} (en:α→List Value) (n:Nat)
def SlAt (w:World) (b off:Nat) (xs:List α):Prop:=∀ i (h:i < xs.length),w.rangeAt b (off+i*n) (en xs[i])
def SlIs (w:World) (a:Option Addr) (xs:List α):Prop:=xs=[]∨∃ b off,a=some ⟨b,off,none⟩∧b < w.heap.size∧SlAt en n w b off xs
structure SlLaid (w:World) (B:Nat) (xs:List α) (L k:Nat):Prop where
 blk:B < w.heap.size
 at0:∀ i (h:i < xs.length),i < k→w.rangeAt B (i*n) (en xs[i])
 there:∀ i,i < L*n→(w.cell? ⟨B,i,none⟩).isSome=true
 free:∀ i,i < L*n→w.frozen? ⟨B,i,none⟩=false
end
section
variable {α:Type} {en:α→List Value} {n:Nat} {w W:World}
theorem SlAt.below {b off:Nat} {xs:List α} (h:SlAt en n w b off xs) {m:Nat} (hb:b < m) (hB:Below m w W):SlAt en n W b off xs :=
 fun i hi j v hv=>(hB.cell (p:=⟨b,off+i*n+j,none⟩) hb).trans (h i hi j v hv)
theorem SlIs.below {a:Option Addr} {xs:List α} (h:SlIs en n w a xs) (hB:Below w.heap.size w W):SlIs en n W a xs:=by
 rcases h with h | ⟨b,off,ha,hb,hr⟩
 ·exact .inl h
 ·exact .inr ⟨b,off,ha,Nat.lt_of_lt_of_le hb hB.size,hr.below hb hB⟩
theorem SlIs.grown {a:Option Addr} {xs:List α} (h:SlIs en n w a xs) {B:Nat} (hg:w.grownBy W (some B)) (hne:xs=[]∨∀ g o,a=some ⟨g,o,none⟩→g≠B):SlIs en n W a xs:=by
 rcases h with h | ⟨b,off,ha,hb,hr⟩
 ·exact .inl h
 ·rcases hne with h0 | hne
  ·exact .inl h0
  ·have hbl:=hg.block b hb (by simp; exact hne b off ha);refine .inr ⟨b,off,ha,Nat.lt_of_lt_of_le hb hg.size,fun i hi j v hv=>?_⟩;have hc:∀ o,W.cell? ⟨b,o,none⟩=w.cell? ⟨b,o,none⟩:=fun o=>by unfold World.cell?; rw [show (⟨b,o,none⟩ : Addr).block=b from rfl,hbl]
   exact (hc _).trans (hr i hi j v hv)
theorem SlIs.at {a:Option Addr} {xs:List α} (h:SlIs en n w a xs) {k:Nat} (hk:k < xs.length):∃ b off,a=some ⟨b,off,none⟩∧b < w.heap.size∧SlAt en n w b off xs:=by
 rcases h with h | h
 ·rw [h] at hk; simp at hk
 ·exact h
theorem SlLaid.at {B:Nat} {xs:List α} {L:Nat} (h:SlLaid en n w B xs L xs.length):SlAt en n w B 0 xs:=fun i hi=>by
 rw [Nat.zero_add]; exact h.at0 i hi hi
theorem SlLaid.is {B:Nat} {xs:List α} {L:Nat} (h:SlLaid en n w B xs L xs.length):SlIs en n w (some ⟨B,0,none⟩) xs:=.inr ⟨B,0,rfl,h.blk,h.at⟩
theorem SlLaid.below {B:Nat} {xs:List α} {L k:Nat} (h:SlLaid en n w B xs L k) {m:Nat} (hm:B < m) (hB:Below m w W) (hs:w.heap.size≤W.heap.size):SlLaid en n W B xs L k:=by
 have hc:∀ o,W.cell? ⟨B,o,none⟩=w.cell? ⟨B,o,none⟩:=fun o=>hB.cell (p:=⟨B,o,none⟩) hm
 have hf:∀ o,W.frozen? ⟨B,o,none⟩=w.frozen? ⟨B,o,none⟩:=fun o=>hB.frozen (p:=⟨B,o,none⟩) hm
 exact ⟨Nat.lt_of_lt_of_le h.blk hs,fun i hi hk j v hv=>(hc _).trans (h.at0 i hi hk j v hv),fun i hi=>by rw [hc]; exact h.there i hi,fun i hi=>by rw [hf]; exact h.free i hi⟩
theorem SlLaid.kept {B:Nat} {xs:List α} {L k:Nat} (h:SlLaid en n w B xs L k) (hB:Below w.heap.size w W):SlLaid en n W B xs L k:=h.below h.blk hB hB.size
theorem SlLaid.start {base len cap g:Nat} {e:TypeId} {vs:List Value} {xs:List α} (h:w.ownsRow base e n (.slice (some ⟨g,0,none⟩) len cap) len vs):SlLaid en n w g xs len 0:=by
 obtain ⟨hl,h | ⟨g',cap',cur,hv,_,hh,hc,_,hsz,_⟩⟩:=h
 ·simp at h
 ·injection hv with hv _ hv3
  injection hv with hv
  injection hv with hv _
  subst hv hv3;have hlt:g < w.heap.size:=by
   by_cases hb:g < w.heap.size
   ·exact hb
   ·rw [Array.getElem?_eq_none (by omega)] at hh; simp at hh
  refine ⟨hlt,fun i hi hk=>by omega,fun i hi=>?_,fun i hi=>?_⟩
  ·have:i < cur.size:=by rw [hsz]; have:=Nat.mul_le_mul_right n hc; omega
   simp [World.cell?,hh,this]
  ·simp [World.frozen?,hh]
end
section
variable {H:Type} {enc:TypeId × Value→H} {P:Program} {w:World} {base:Nat} {spare:Nat→Bool} {held:Bool}
end
structure HoldsL (w:World) (B:Nat) (cs:List Value):Prop where
 at0:w.rangeAt B 0 cs
 th:w.there B 0 cs.length
section
variable {w W:World} {B:Nat} {cs:List Value}
theorem HoldsL.new (w:World) (cs:List Value) (t:TypeId):HoldsL (w.alloc (.cells cs.toArray t)) w.heap.size cs :=
 ⟨fun j v hv=>by rw [Nat.zero_add,cell_of_row _ w.heap.size j cs.toArray t (0,0) (heap_alloc_new w _)]; simpa using hv,
   fun j hj=>⟨by rw [Nat.zero_add,cell_of_row _ w.heap.size j cs.toArray t (0,0) (heap_alloc_new w _)]; simp [hj],by simp⟩⟩
theorem HoldsL.cell (h:HoldsL w B cs) {j:Nat} {v:Value} (hv:cs[j]?=some v):w.cell? ⟨B,j,none⟩=some v:=by
 have:=h.at0 j v hv; rwa [Nat.zero_add] at this
theorem HoldsL.free (h:HoldsL w B cs) {j:Nat} (hj:j < cs.length):w.frozen? ⟨B,j,none⟩=false:=by
 have:=(h.th j hj).2; rwa [Nat.zero_add] at this
theorem HoldsL.c2 {v0 v1:Value} {l:List Value} (h:HoldsL w B (v0::v1::l)):w.cell? ⟨B,0,none⟩=some v0∧w.cell? ⟨B,1,none⟩=some v1:=⟨h.cell rfl,h.cell rfl⟩
theorem HoldsL.c3 {v0 v1 v2:Value} {l:List Value} (h:HoldsL w B (v0::v1::v2::l)):w.cell? ⟨B,0,none⟩=some v0∧w.cell? ⟨B,1,none⟩=some v1∧w.cell? ⟨B,2,none⟩=some v2:=⟨h.cell rfl,h.cell rfl,h.cell rfl⟩
theorem HoldsL.c4 {v0 v1 v2 v3:Value} {l:List Value} (h:HoldsL w B (v0::v1::v2::v3::l)):w.cell? ⟨B,0,none⟩=some v0∧w.cell? ⟨B,1,none⟩=some v1∧w.cell? ⟨B,2,none⟩=some v2∧w.cell? ⟨B,3,none⟩=some v3:=⟨h.cell rfl,h.cell rfl,h.cell rfl,h.cell rfl⟩
theorem HoldsL.c5 {v0 v1 v2 v3 v4:Value} {l:List Value} (h:HoldsL w B (v0::v1::v2::v3::v4::l)):w.cell? ⟨B,0,none⟩=some v0∧w.cell? ⟨B,1,none⟩=some v1∧w.cell? ⟨B,2,none⟩=some v2∧w.cell? ⟨B,3,none⟩=some v3∧w.cell? ⟨B,4,none⟩=some v4:=⟨h.cell rfl,h.cell rfl,h.cell rfl,h.cell rfl,h.cell rfl⟩
theorem HoldsL.c6 {v0 v1 v2 v3 v4 v5:Value} {l:List Value} (h:HoldsL w B (v0::v1::v2::v3::v4::v5::l)):w.cell? ⟨B,0,none⟩=some v0∧w.cell? ⟨B,1,none⟩=some v1∧w.cell? ⟨B,2,none⟩=some v2∧w.cell? ⟨B,3,none⟩=some v3∧w.cell? ⟨B,4,none⟩=some v4∧w.cell? ⟨B,5,none⟩=some v5:=⟨h.cell rfl,h.cell rfl,h.cell rfl,h.cell rfl,h.cell rfl,h.cell rfl⟩
theorem HoldsL.c7 {v0 v1 v2 v3 v4 v5 v6:Value} {l:List Value} (h:HoldsL w B (v0::v1::v2::v3::v4::v5::v6::l)):w.cell? ⟨B,0,none⟩=some v0∧w.cell? ⟨B,1,none⟩=some v1∧w.cell? ⟨B,2,none⟩=some v2∧w.cell? ⟨B,3,none⟩=some v3∧w.cell? ⟨B,4,none⟩=some v4∧w.cell? ⟨B,5,none⟩=some v5∧w.cell? ⟨B,6,none⟩=some v6:=⟨h.cell rfl,h.cell rfl,h.cell rfl,h.cell rfl,h.cell rfl,h.cell rfl,h.cell rfl⟩
theorem HoldsL.c8 {v0 v1 v2 v3 v4 v5 v6 v7:Value} {l:List Value} (h:HoldsL w B (v0::v1::v2::v3::v4::v5::v6::v7::l)):w.cell? ⟨B,0,none⟩=some v0∧w.cell? ⟨B,1,none⟩=some v1∧w.cell? ⟨B,2,none⟩=some v2∧w.cell? ⟨B,3,none⟩=some v3∧w.cell? ⟨B,4,none⟩=some v4∧w.cell? ⟨B,5,none⟩=some v5∧w.cell? ⟨B,6,none⟩=some v6∧w.cell? ⟨B,7,none⟩=some v7:=⟨h.cell rfl,h.cell rfl,h.cell rfl,h.cell rfl,h.cell rfl,h.cell rfl,h.cell rfl,h.cell rfl⟩
theorem HoldsL.c10 {v0 v1 v2 v3 v4 v5 v6 v7 v8 v9:Value} {l:List Value} (h:HoldsL w B (v0::v1::v2::v3::v4::v5::v6::v7::v8::v9::l)):w.cell? ⟨B,0,none⟩=some v0∧w.cell? ⟨B,1,none⟩=some v1∧w.cell? ⟨B,2,none⟩=some v2∧w.cell? ⟨B,3,none⟩=some v3∧w.cell? ⟨B,4,none⟩=some v4∧w.cell? ⟨B,5,none⟩=some v5∧w.cell? ⟨B,6,none⟩=some v6∧w.cell? ⟨B,7,none⟩=some v7∧w.cell? ⟨B,8,none⟩=some v8∧w.cell? ⟨B,9,none⟩=some v9:=⟨h.cell rfl,h.cell rfl,h.cell rfl,h.cell rfl,h.cell rfl,h.cell rfl,h.cell rfl,h.cell rfl,h.cell rfl,h.cell rfl⟩
theorem HoldsL.c11 {v0 v1 v2 v3 v4 v5 v6 v7 v8 v9 v10:Value} {l:List Value} (h:HoldsL w B (v0::v1::v2::v3::v4::v5::v6::v7::v8::v9::v10::l)):w.cell? ⟨B,0,none⟩=some v0∧w.cell? ⟨B,1,none⟩=some v1∧w.cell? ⟨B,2,none⟩=some v2∧w.cell? ⟨B,3,none⟩=some v3∧w.cell? ⟨B,4,none⟩=some v4∧w.cell? ⟨B,5,none⟩=some v5∧w.cell? ⟨B,6,none⟩=some v6∧w.cell? ⟨B,7,none⟩=some v7∧w.cell? ⟨B,8,none⟩=some v8∧w.cell? ⟨B,9,none⟩=some v9∧w.cell? ⟨B,10,none⟩=some v10:=⟨h.cell rfl,h.cell rfl,h.cell rfl,h.cell rfl,h.cell rfl,h.cell rfl,h.cell rfl,h.cell rfl,h.cell rfl,h.cell rfl,h.cell rfl⟩
theorem HoldsL.f2 {v0 v1:Value} {l:List Value} (h:HoldsL w B (v0::v1::l)):w.frozen? ⟨B,0,none⟩=false∧w.frozen? ⟨B,1,none⟩=false:=⟨h.free (by simp),h.free (by simp)⟩
theorem HoldsL.f3 {v0 v1 v2:Value} {l:List Value} (h:HoldsL w B (v0::v1::v2::l)):w.frozen? ⟨B,0,none⟩=false∧w.frozen? ⟨B,1,none⟩=false∧w.frozen? ⟨B,2,none⟩=false:=⟨h.free (by simp),h.free (by simp),h.free (by simp)⟩
theorem HoldsL.f4 {v0 v1 v2 v3:Value} {l:List Value} (h:HoldsL w B (v0::v1::v2::v3::l)):w.frozen? ⟨B,0,none⟩=false∧w.frozen? ⟨B,1,none⟩=false∧w.frozen? ⟨B,2,none⟩=false∧w.frozen? ⟨B,3,none⟩=false:=⟨h.free (by simp),h.free (by simp),h.free (by simp),h.free (by simp)⟩
theorem HoldsL.f5 {v0 v1 v2 v3 v4:Value} {l:List Value} (h:HoldsL w B (v0::v1::v2::v3::v4::l)):w.frozen? ⟨B,0,none⟩=false∧w.frozen? ⟨B,1,none⟩=false∧w.frozen? ⟨B,2,none⟩=false∧w.frozen? ⟨B,3,none⟩=false∧w.frozen? ⟨B,4,none⟩=false:=⟨h.free (by simp),h.free (by simp),h.free (by simp),h.free (by simp),h.free (by simp)⟩
theorem HoldsL.f6 {v0 v1 v2 v3 v4 v5:Value} {l:List Value} (h:HoldsL w B (v0::v1::v2::v3::v4::v5::l)):w.frozen? ⟨B,0,none⟩=false∧w.frozen? ⟨B,1,none⟩=false∧w.frozen? ⟨B,2,none⟩=false∧w.frozen? ⟨B,3,none⟩=false∧w.frozen? ⟨B,4,none⟩=false∧w.frozen? ⟨B,5,none⟩=false:=⟨h.free (by simp),h.free (by simp),h.free (by simp),h.free (by simp),h.free (by simp),h.free (by simp)⟩
theorem HoldsL.f7 {v0 v1 v2 v3 v4 v5 v6:Value} {l:List Value} (h:HoldsL w B (v0::v1::v2::v3::v4::v5::v6::l)):w.frozen? ⟨B,0,none⟩=false∧w.frozen? ⟨B,1,none⟩=false∧w.frozen? ⟨B,2,none⟩=false∧w.frozen? ⟨B,3,none⟩=false∧w.frozen? ⟨B,4,none⟩=false∧w.frozen? ⟨B,5,none⟩=false∧w.frozen? ⟨B,6,none⟩=false:=⟨h.free (by simp),h.free (by simp),h.free (by simp),h.free (by simp),h.free (by simp),h.free (by simp),h.free (by simp)⟩
theorem HoldsL.f8 {v0 v1 v2 v3 v4 v5 v6 v7:Value} {l:List Value} (h:HoldsL w B (v0::v1::v2::v3::v4::v5::v6::v7::l)):w.frozen? ⟨B,0,none⟩=false∧w.frozen? ⟨B,1,none⟩=false∧w.frozen? ⟨B,2,none⟩=false∧w.frozen? ⟨B,3,none⟩=false∧w.frozen? ⟨B,4,none⟩=false∧w.frozen? ⟨B,5,none⟩=false∧w.frozen? ⟨B,6,none⟩=false∧w.frozen? ⟨B,7,none⟩=false:=⟨h.free (by simp),h.free (by simp),h.free (by simp),h.free (by simp),h.free (by simp),h.free (by simp),h.free (by simp),h.free (by simp)⟩
theorem HoldsL.f10 {v0 v1 v2 v3 v4 v5 v6 v7 v8 v9:Value} {l:List Value} (h:HoldsL w B (v0::v1::v2::v3::v4::v5::v6::v7::v8::v9::l)):w.frozen? ⟨B,0,none⟩=false∧w.frozen? ⟨B,1,none⟩=false∧w.frozen? ⟨B,2,none⟩=false∧w.frozen? ⟨B,3,none⟩=false∧w.frozen? ⟨B,4,none⟩=false∧w.frozen? ⟨B,5,none⟩=false∧w.frozen? ⟨B,6,none⟩=false∧w.frozen? ⟨B,7,none⟩=false∧w.frozen? ⟨B,8,none⟩=false∧w.frozen? ⟨B,9,none⟩=false:=⟨h.free (by simp),h.free (by simp),h.free (by simp),h.free (by simp),h.free (by simp),h.free (by simp),h.free (by simp),h.free (by simp),h.free (by simp),h.free (by simp)⟩
theorem HoldsL.f11 {v0 v1 v2 v3 v4 v5 v6 v7 v8 v9 v10:Value} {l:List Value} (h:HoldsL w B (v0::v1::v2::v3::v4::v5::v6::v7::v8::v9::v10::l)):w.frozen? ⟨B,0,none⟩=false∧w.frozen? ⟨B,1,none⟩=false∧w.frozen? ⟨B,2,none⟩=false∧w.frozen? ⟨B,3,none⟩=false∧w.frozen? ⟨B,4,none⟩=false∧w.frozen? ⟨B,5,none⟩=false∧w.frozen? ⟨B,6,none⟩=false∧w.frozen? ⟨B,7,none⟩=false∧w.frozen? ⟨B,8,none⟩=false∧w.frozen? ⟨B,9,none⟩=false∧w.frozen? ⟨B,10,none⟩=false:=⟨h.free (by simp),h.free (by simp),h.free (by simp),h.free (by simp),h.free (by simp),h.free (by simp),h.free (by simp),h.free (by simp),h.free (by simp),h.free (by simp),h.free (by simp)⟩
theorem HoldsL.c14 {v0 v1 v2 v3 v4 v5 v6 v7 v8 v9 v10 v11 v12 v13:Value} {l:List Value} (h:HoldsL w B (v0::v1::v2::v3::v4::v5::v6::v7::v8::v9::v10::v11::v12::v13::l)):w.cell? ⟨B,0,none⟩=some v0∧w.cell? ⟨B,1,none⟩=some v1∧w.cell? ⟨B,2,none⟩=some v2∧w.cell? ⟨B,3,none⟩=some v3∧w.cell? ⟨B,4,none⟩=some v4∧w.cell? ⟨B,5,none⟩=some v5∧w.cell? ⟨B,6,none⟩=some v6∧w.cell? ⟨B,7,none⟩=some v7∧w.cell? ⟨B,8,none⟩=some v8∧w.cell? ⟨B,9,none⟩=some v9∧w.cell? ⟨B,10,none⟩=some v10∧w.cell? ⟨B,11,none⟩=some v11∧w.cell? ⟨B,12,none⟩=some v12∧w.cell? ⟨B,13,none⟩=some v13:=⟨h.cell rfl,h.cell rfl,h.cell rfl,h.cell rfl,h.cell rfl,h.cell rfl,h.cell rfl,h.cell rfl,h.cell rfl,h.cell rfl,h.cell rfl,h.cell rfl,h.cell rfl,h.cell rfl⟩
theorem HoldsL.f14 {v0 v1 v2 v3 v4 v5 v6 v7 v8 v9 v10 v11 v12 v13:Value} {l:List Value} (h:HoldsL w B (v0::v1::v2::v3::v4::v5::v6::v7::v8::v9::v10::v11::v12::v13::l)):w.frozen? ⟨B,0,none⟩=false∧w.frozen? ⟨B,1,none⟩=false∧w.frozen? ⟨B,2,none⟩=false∧w.frozen? ⟨B,3,none⟩=false∧w.frozen? ⟨B,4,none⟩=false∧w.frozen? ⟨B,5,none⟩=false∧w.frozen? ⟨B,6,none⟩=false∧w.frozen? ⟨B,7,none⟩=false∧w.frozen? ⟨B,8,none⟩=false∧w.frozen? ⟨B,9,none⟩=false∧w.frozen? ⟨B,10,none⟩=false∧w.frozen? ⟨B,11,none⟩=false∧w.frozen? ⟨B,12,none⟩=false∧w.frozen? ⟨B,13,none⟩=false:=⟨h.free (by simp),h.free (by simp),h.free (by simp),h.free (by simp),h.free (by simp),h.free (by simp),h.free (by simp),h.free (by simp),h.free (by simp),h.free (by simp),h.free (by simp),h.free (by simp),h.free (by simp),h.free (by simp)⟩
theorem HoldsL.lt (h:HoldsL w B cs) (hl:0 < cs.length):B < w.heap.size:=by
 obtain ⟨v,hv⟩:=Option.isSome_iff_exists.1 (h.th 0 hl).1;exact World.block_lt_of_cell? w _ hv
theorem HoldsL.of_block (hb:W.heap[B]?=w.heap[B]?) (h:HoldsL w B cs):HoldsL W B cs:=by
 have hc:∀ j,W.cell? ⟨B,j,none⟩=w.cell? ⟨B,j,none⟩:=fun j=>by unfold World.cell?; rw [show (⟨B,j,none⟩ : Addr).block=B from rfl,hb]
 exact ⟨fun j v hv=>by rw [hc]; exact h.at0 j v hv,fun j hj=>⟨by rw [hc]; exact (h.th j hj).1,(World.frozen?_of_block (a:=⟨B,0+j,none⟩) hb).trans (h.th j hj).2⟩⟩
theorem HoldsL.kept (h:HoldsL w B cs) (hl:0 < cs.length) (hB:Below w.heap.size w W):HoldsL W B cs:=h.of_block (hB.block B (h.lt hl))
theorem HoldsL.grown {row:Option Nat} (h:HoldsL w B cs) (hl:0 < cs.length) (hg:w.grownBy W row) (hr:some B≠row):HoldsL W B cs:=h.of_block (hg.block B (h.lt hl) hr)
theorem HoldsL.alloc (h:HoldsL w B cs) (o:Obj):HoldsL (w.alloc o) B cs:=⟨World.rangeAt_alloc h.at0 o,World.there_alloc h.th o⟩
theorem HoldsL.drew (h:HoldsL w B cs):HoldsL w.drew B cs:=⟨by simpa using h.at0,by simpa using h.th⟩
theorem HoldsL.set (h:HoldsL w B cs) (j:Nat) (v:Value):HoldsL (w.setCell ⟨B,j,none⟩ v) B (cs.set j v):=by
 refine ⟨fun i u hu=>?_,fun i hi=>⟨?_,by rw [World.frozen?_setCell]; exact (h.th i (by simpa using hi)).2⟩⟩
 ·rw [Nat.zero_add];by_cases e:i=j
  ·subst e;have hi:i < cs.length:=by
    rw [List.getElem?_set] at hu;by_cases e:i < cs.length
    ·exact e
    ·simp [e] at hu
   obtain ⟨x,hx⟩:=Option.isSome_iff_exists.1 (h.th i hi).1;rw [Nat.zero_add] at hx;rw [World.cell?_setCell_same _ _ _ hx];rw [List.getElem?_set_self hi] at hu;exact hu
  ·rw [World.cell?_setCell_other _ _ _ _ (fun e2=>e (by injection e2 with _ h2; exact h2.symm))];rw [List.getElem?_set_ne (fun e2=>e e2.symm)] at hu;exact h.cell hu
 ·have hi':i < cs.length:=by simpa using hi
  obtain ⟨x,hx⟩:=Option.isSome_iff_exists.1 (h.th i hi').1;by_cases e:i=j
  ·subst e; rw [Nat.zero_add] at hx ⊢; rw [World.cell?_setCell_same _ _ _ hx]; rfl
  ·rw [Nat.zero_add] at hx ⊢; rw [World.cell?_setCell_other _ _ _ _ (fun e2=>e (by injection e2 with _ h2; exact h2.symm)),hx]; rfl
theorem HoldsL.setOther (h:HoldsL w B cs) {C j:Nat} (hne:B≠C) (v:Value):HoldsL (w.setCell ⟨C,j,none⟩ v) B cs :=
 h.of_block (Below.heap_setCell w _ v B (fun e=>hne (by simpa using e)))
theorem HoldsL.setCellsOther (h:HoldsL w B cs) {C o:Nat} (hne:B≠C) (ds:List Value):HoldsL (w.setCells C o ds) B cs :=
 ⟨World.rangeAt_setCells_apart h.at0 C o ds (.inl hne),World.there_setCells h.th C o ds⟩
theorem HoldsL.setRange (h:HoldsL w B cs) (o:Nat) (ds:List Value) (ho:o+ds.length≤cs.length):HoldsL (w.setCells B o ds) B (cs.take o++ds++cs.drop (o+ds.length)):=by
 have hlen:(cs.take o++ds++cs.drop (o+ds.length)).length=cs.length:=by simp; omega
 refine ⟨fun j v hv=>?_,by rw [hlen]; exact World.there_setCells h.th B o ds⟩;have hthere:w.there B o ds.length:=fun i hi=>by have:=h.th (o+i) (by omega); rwa [Nat.zero_add] at this
 rw [Nat.zero_add];by_cases h1:j < o
 ·rw [World.cell?_setCells_out B ds o w ⟨B,j,none⟩ (fun _ _=>.inl h1)];rw [List.append_assoc,List.getElem?_append_left (by simp; omega),List.getElem?_take,if_pos h1] at hv;exact h.cell hv
 ·by_cases h2:j < o+ds.length
  ·have:=World.rangeAt_setCells_same w B o ds hthere (j-o) v (by
    rw [List.append_assoc,List.getElem?_append_right (by simp; omega),List.getElem?_append_left (by simp; omega)] at hv;rw [show (cs.take o).length=o by simp; omega] at hv;exact hv)
   rwa [show o+(j-o)=j by omega] at this
  ·rw [World.cell?_setCells_out B ds o w ⟨B,j,none⟩ (fun _ _=>.inr (by show o+ds.length≤j; omega))];rw [List.getElem?_append_right (by simp; omega),List.getElem?_drop] at hv;rw [show (cs.take o++ds).length=o+ds.length by simp; omega,show o+ds.length+(j-(o+ds.length))=j by omega] at hv;exact h.cell hv
end
theorem results_mid {P:Program} {fn:Func} {p:Tmp} {ty:TypeId} (h:fn.results=#[.cell p ty]) (tmps:Array Value) (w:World) (g:Nat) (cs:List Value) (d:TypeDesc)
  (hp:tmps.getD p undef=.pointer (some ⟨g,0,none⟩)) (hc:HoldsL w g cs) (hu:P.underlying ty=some d) (hd:d.isRow=true) (hi:(P.info? ty).map (·.size)=some cs.length) :
  (results fn tmps).run P w=.ok (.agg cs.toArray) w:=by
 have hp':tmps[p]?.getD undef=.pointer (some ⟨g,0,none⟩):=by simpa using hp
 simp [results,h,hp',asAddr,run_loadVar_mid w g 0 ty cs d hc.at0 hu hd hi]
theorem any_take {α:Type} (f:α→Bool) (xs:List α) (i:Nat) (h:i < xs.length):(xs.take (i+1)).any f=((xs.take i).any f||f xs[i]):=by
 rw [List.take_succ_eq_append_getElem h,List.any_append]; simp
theorem any_at {α:Type} (f:α→Bool) (xs:List α) (i:Nat) (h:i < xs.length) (hf:f xs[i]=true):xs.any f=true:=List.any_eq_true.2 ⟨_,List.getElem_mem h,hf⟩
theorem findI_at {α:Type} (f:α→Bool) (xs:List α) (i:Nat) (h:i < xs.length) (hn:(xs.take i).any f=false) (hf:f xs[i]=true):findI f xs=i:=by
 have:xs.findIdx? f=some i:=by
  rw [List.findIdx?_eq_some_iff_getElem];refine ⟨h,hf,fun j hj=>?_⟩;have hjl:j < xs.length:=Nat.lt_trans hj h;have:=List.any_eq_false.1 hn (xs[j]) (by rw [List.mem_take_iff_getElem]; exact ⟨j,by omega,rfl⟩);simpa using this
 unfold findI; rw [this]
theorem findI_no {α:Type} (f:α→Bool) (xs:List α) (hn:xs.any f=false):findI f xs=-1:=by
 have:xs.findIdx? f=none:=by
  rw [List.findIdx?_eq_none_iff];intro x hx;have:=List.any_eq_false.1 hn x hx;simpa using this
 unfold findI; rw [this]
theorem spBProto_any (proto:Int) (w:World) :
  Cw 69 #[iV proto] w (.bool (protoB proto)):=by
 have hun:undef=Value.tuple #[]:=rfl;by_cases h0:proto=6
 ·subst h0;go_enter Tryz.func69,Tryz.ntmps69
  go_wp2_with fail
  go_ret;exact ⟨rfl,rfl⟩
 ·by_cases h1:proto=17
  ·subst h1;go_enter Tryz.func69,Tryz.ntmps69
   go_wp2_with fail
   go_ret;exact ⟨rfl,rfl⟩
  ·by_cases h2:proto=1
   ·subst h2;go_enter Tryz.func69,Tryz.ntmps69
    go_wp2_with fail
    go_ret;exact ⟨rfl,rfl⟩
   ·have HV:Hid (protoB proto=false):=by unfold Hid protoB; simp [h0,h1,h2]
    go_enter Tryz.func69,Tryz.ntmps69
    go_wp2_with fail
    go_ret;exact ⟨ret_bool (by rw [HV.out]; simp [h0,h1,h2]),rfl⟩
theorem spIn_any (xs:List ByteArray) (s:ByteArray) (a:Option Addr) (cap:Nat) (w:World) (hlen:xs.length≤1048576) (hr:SlIs strL1 1 w a xs) :
  Cb 68 #[.slice a xs.length cap,.string s] w (.bool (inL xs s)):=by
 have HR:Hid (SlIs strL1 1 w a xs):=hr;have HV:Hid (inL xs s=xs.any fun t=>decide (t.toList=s.toList)):=rfl;generalize inL xs s=ans at *;clear hr;go_enter Tryz.func68,Tryz.ntmps68
 go_wp2_with fail
 go_loopw [5] (fun iv wr=>∃ i:Nat,i≤xs.length∧iv=iV i∧(xs.take i).any (fun t=>decide (t.toList=s.toList))=false∧Below w.heap.size w wr) (fun iv _=>xs.length-(intOf iv).toNat)
 case atStart=>exact ⟨0,Nat.zero_le _,rfl,rfl,Below.refl _ _⟩
 case round =>
  obtain ⟨i,hi,rfl,hn,hbel⟩:=hrel;have HN:Hid ((xs.take i).any (fun t=>decide (t.toList=s.toList))=false):=hn;have HL:Hid (Below w.heap.size w wr):=hbel;clear hn hbel;by_cases hlt:i < xs.length
  ·obtain ⟨b,off,rfl,hb,hat⟩:=HR.out.at hlt;have hA:=(hat.below hb HL.out) i hlt;have HST:Hid _:=any_take (fun t:ByteArray=>decide (t.toList=s.toList)) xs i hlt;have HAT:Hid _:=any_at (fun t:ByteArray=>decide (t.toList=s.toList)) xs i hlt;obtain ⟨t,ht⟩ : ∃ t,xs[i]=t:=⟨_,rfl⟩;rw [ht] at hA HST HAT;have c0:wr.cell? ⟨b,off+i,none⟩=some (.string t):=by have:=hA 0 _ rfl; simpa using this
   have c0':wr.cell? ⟨b,off+i*1,none⟩=some (.string t):=by simpa using c0
   clear hA hat ht;by_cases he:t.toList=s.toList
   ·have HX:Hid (ans=true):=by unfold Hid; rw [HV.out]; exact HAT.out (decide_eq_true he)
    have hbq:(t.toList==s.toList)=true:=by simp [he]
    clear he;go_wp2_with fail
    go_ret;exact ⟨ret_bool HX.out.symm,HL.out⟩
   ·have HN2:Hid ((xs.take (i+1)).any (fun t=>decide (t.toList=s.toList))=false):=by unfold Hid; rw [HST.out,HN.out,decide_eq_false he]; rfl
    have hbq:(t.toList==s.toList)=false:=by simp [he]
    clear he;go_wp2_with fail
    go_roundw
    case rel=>exact ⟨i+1,by omega,by go_num,HN2.out,HL.out⟩
    case measure=>simp [intOf]; omega
  ·have hie:i=xs.length:=by omega
   have HX:Hid (ans=false):=by unfold Hid; have:=HN.out; rw [hie,List.take_length] at this; rw [HV.out]; exact this
   go_wp2_with fail
   go_ret;exact ⟨ret_bool HX.out.symm,HL.out⟩
theorem spBind_any (xs:List Bd) (proto:Int) (s:ByteArray) (port:Int) (a:Option Addr) (cap:Nat) (sv:Value) (w:World) (hlen:xs.length≤1048576) (hr:SlIs bdL 5 w a xs) :
  Cb 33 #[.agg #[.slice a xs.length cap,sv],iV proto,.string s,iV port] w (iV (findI (ofIn proto s port) xs)):=by
 have HB0:Hid (HoldsL (w.alloc (.cells [.slice a xs.length cap,sv].toArray 31)) w.heap.size [.slice a xs.length cap,sv]):=HoldsL.new w _ _;have HZ:Hid (Below w.heap.size w (w.alloc (.cells [.slice a xs.length cap,sv].toArray 31))):=bR.alloc lR _;have HR:Hid (SlIs bdL 5 (w.alloc (.cells [.slice a xs.length cap,sv].toArray 31)) a xs):=hr.below HZ.out;rw [show [.slice a xs.length cap,sv].toArray=#[.slice a xs.length cap,sv] from rfl] at HB0 HZ HR;obtain ⟨f,hf⟩ : ∃ f,f=ofIn proto s port:=⟨_,rfl⟩;rw [← hf];have HF:Hid (∀ q,f q=(decide (q.proto=proto)&&decide (q.inn.toList=s.toList)&&decide (q.inPort=port))):=fun q=>by rw [hf]; rfl
 clear hr hf;go_enter Tryz.func33,Tryz.ntmps33
 go_wp2_with fail
 generalize w.alloc (.cells #[.slice a xs.length cap,sv] 31)=W0 at *;have hX0:w.heap.size < W0.heap.size:=HB0.out.lt (by simp);generalize hX:w.heap.size=X at *;go_loopw [9] (fun iv wr=>∃ i:Nat,i≤xs.length∧iv=iV i∧(xs.take i).any f=false∧Below W0.heap.size W0 wr) (fun iv _=>xs.length-(intOf iv).toNat)
 case atStart=>exact ⟨0,Nat.zero_le _,rfl,rfl,Below.refl _ _⟩
 case round =>
  obtain ⟨i,hi,rfl,hn,hbel⟩:=hrel;have HN:Hid ((xs.take i).any f=false):=hn;have HL:Hid (Below W0.heap.size W0 wr):=hbel;have HW:Hid _:=HZ.out.trans (hbel.mono (by omega));have x0:wr.cell? ⟨X,0,none⟩=some (.slice a xs.length cap):=(HB0.out.kept (by simp) hbel).cell rfl;clear hn hbel;by_cases hlt:i < xs.length
  ·obtain ⟨b,off,rfl,hb,hat⟩:=HR.out.at hlt;have hA:=(hat.below hb HL.out) i hlt;have HST:Hid _:=any_take f xs i hlt;have HAT:Hid _:=findI_at f xs i hlt HN.out;obtain ⟨q,hq⟩ : ∃ q,xs[i]=q:=⟨_,rfl⟩;rw [hq] at hA HST HAT;have hfq:=HF.out q;obtain ⟨c0,c1,c2,c3,c4⟩:=rc5 hA;have HFQ:Hid _:=hfq;have L8:Hid (Below W0.heap.size W0 (wr.alloc (.cells (BdV q).toArray 48))):=HL.out.alloc HL.out.size _;have W8:Hid (Below X w (wr.alloc (.cells (BdV q).toArray 48))):=HW.out.alloc (by have:=HL.out.size; omega) _;have K8:Hid (BoxBind (wr.alloc (.cells (BdV q).toArray 48)) wr.heap.size q):=BoxBind.new wr q;clear hA hat hq hfq;go_upto_region 5 with fail
   clear c0 c1 c2 c3 c4 x0 HL HW;generalize wr.alloc (.cells (BdV q).toArray 48)=V8 at *;generalize wr.heap.size=Y at *;obtain ⟨k0,k1,k2,k3,k4⟩:=K8.out;go_cut [38] (fun v wx=>v=.bool (f q)∧wx=V8)
   case first =>
    by_cases d0:q.proto=proto
    ·by_cases d1:q.inn.toList=s.toList
     ·by_cases d2:q.inPort=port
      ·have HG:Hid (f q=true):=by unfold Hid; rw [HFQ.out,decide_eq_true d0,decide_eq_true d1,decide_eq_true d2]; rfl
       go_wp2_with fail
       go_meet;rw [HG.out];first | exact ⟨rfl,rfl⟩ | simp [d2]
      ·have HG:Hid (f q=false):=by unfold Hid; rw [HFQ.out,decide_eq_true d0,decide_eq_true d1,decide_eq_false d2]; rfl
       go_wp2_with fail
       go_meet;rw [HG.out];first | exact ⟨rfl,rfl⟩ | simp [d2]
     ·have HG:Hid (f q=false):=by unfold Hid; rw [HFQ.out,decide_eq_false d1]; simp
      go_wp2_with fail
      go_meet;rw [HG.out];first | exact ⟨rfl,rfl⟩ | simp [d1]
    ·have HG:Hid (f q=false):=by unfold Hid; rw [HFQ.out,decide_eq_false d0]; simp
     go_wp2_with fail
     go_meet;rw [HG.out];first | exact ⟨rfl,rfl⟩ | simp [d0]
   case rest =>
   obtain ⟨rfl,rfl⟩:=hcut;clear k0 k1 k2 k3 k4
   cases hfq:f q with
   | true =>
    have HX:Hid (findI f xs=(i:Int)):=HAT.out hfq;go_wp2_with fail
    go_ret;exact ⟨ret_int HX.out.symm,by rw [hX]; exact W8.out⟩
   | false =>
    have HN2:Hid ((xs.take (i+1)).any f=false):=by unfold Hid; rw [HST.out,HN.out,hfq]; rfl
    go_wp2_with fail
    go_roundw
    case rel=>exact ⟨i+1,by omega,by go_num,HN2.out,L8.out⟩
    case measure=>simp [intOf]; omega
  ·have hie:i=xs.length:=by omega
   have HX:Hid (findI f xs=-1):=by unfold Hid; have:=HN.out; rw [hie,List.take_length] at this; exact findI_no f xs this
   go_wp2_with fail
   go_ret;exact ⟨ret_int HX.out.symm,by rw [hX]; exact HW.out⟩
theorem spAt_any (xs:List Bd) (proto:Int) (s:ByteArray) (port:Int) (a:Option Addr) (cap:Nat) (sv:Value) (w:World) (hlen:xs.length≤1048576) (hr:SlIs bdL 5 w a xs) :
  Cb 156 #[.agg #[.slice a xs.length cap,sv],iV proto,.string s,iV port] w (iV (findI (ofOut proto s port) xs)):=by
 have HB0:Hid (HoldsL (w.alloc (.cells [.slice a xs.length cap,sv].toArray 31)) w.heap.size [.slice a xs.length cap,sv]):=HoldsL.new w _ _;have HZ:Hid (Below w.heap.size w (w.alloc (.cells [.slice a xs.length cap,sv].toArray 31))):=bR.alloc lR _;have HR:Hid (SlIs bdL 5 (w.alloc (.cells [.slice a xs.length cap,sv].toArray 31)) a xs):=hr.below HZ.out;rw [show [.slice a xs.length cap,sv].toArray=#[.slice a xs.length cap,sv] from rfl] at HB0 HZ HR;obtain ⟨f,hf⟩ : ∃ f,f=ofOut proto s port:=⟨_,rfl⟩;rw [← hf];have HF:Hid (∀ q,f q=(decide (q.proto=proto)&&decide (q.out.toList=s.toList)&&decide (q.outPort=port))):=fun q=>by rw [hf]; rfl
 clear hr hf;go_enter Tryz.func156,Tryz.ntmps156
 go_wp2_with fail
 generalize w.alloc (.cells #[.slice a xs.length cap,sv] 31)=W0 at *;have hX0:w.heap.size < W0.heap.size:=HB0.out.lt (by simp);generalize hX:w.heap.size=X at *;go_loopw [9] (fun iv wr=>∃ i:Nat,i≤xs.length∧iv=iV i∧(xs.take i).any f=false∧Below W0.heap.size W0 wr) (fun iv _=>xs.length-(intOf iv).toNat)
 case atStart=>exact ⟨0,Nat.zero_le _,rfl,rfl,Below.refl _ _⟩
 case round =>
  obtain ⟨i,hi,rfl,hn,hbel⟩:=hrel;have HN:Hid ((xs.take i).any f=false):=hn;have HL:Hid (Below W0.heap.size W0 wr):=hbel;have HW:Hid _:=HZ.out.trans (hbel.mono (by omega));have x0:wr.cell? ⟨X,0,none⟩=some (.slice a xs.length cap):=(HB0.out.kept (by simp) hbel).cell rfl;clear hn hbel;by_cases hlt:i < xs.length
  ·obtain ⟨b,off,rfl,hb,hat⟩:=HR.out.at hlt;have hA:=(hat.below hb HL.out) i hlt;have HST:Hid _:=any_take f xs i hlt;have HAT:Hid _:=findI_at f xs i hlt HN.out;obtain ⟨q,hq⟩ : ∃ q,xs[i]=q:=⟨_,rfl⟩;rw [hq] at hA HST HAT;have hfq:=HF.out q;obtain ⟨c0,c1,c2,c3,c4⟩:=rc5 hA;have HFQ:Hid _:=hfq;have L8:Hid (Below W0.heap.size W0 (wr.alloc (.cells (BdV q).toArray 48))):=HL.out.alloc HL.out.size _;have W8:Hid (Below X w (wr.alloc (.cells (BdV q).toArray 48))):=HW.out.alloc (by have:=HL.out.size; omega) _;have K8:Hid (BoxBind (wr.alloc (.cells (BdV q).toArray 48)) wr.heap.size q):=BoxBind.new wr q;clear hA hat hq hfq;go_upto_region 5 with fail
   clear c0 c1 c2 c3 c4 x0 HL HW;generalize wr.alloc (.cells (BdV q).toArray 48)=V8 at *;generalize wr.heap.size=Y at *;obtain ⟨k0,k1,k2,k3,k4⟩:=K8.out;go_cut [38] (fun v wx=>v=.bool (f q)∧wx=V8)
   case first =>
    by_cases d0:q.proto=proto
    ·by_cases d1:q.out.toList=s.toList
     ·by_cases d2:q.outPort=port
      ·have HG:Hid (f q=true):=by unfold Hid; rw [HFQ.out,decide_eq_true d0,decide_eq_true d1,decide_eq_true d2]; rfl
       go_wp2_with fail
       go_meet;rw [HG.out];first | exact ⟨rfl,rfl⟩ | simp [d2]
      ·have HG:Hid (f q=false):=by unfold Hid; rw [HFQ.out,decide_eq_true d0,decide_eq_true d1,decide_eq_false d2]; rfl
       go_wp2_with fail
       go_meet;rw [HG.out];first | exact ⟨rfl,rfl⟩ | simp [d2]
     ·have HG:Hid (f q=false):=by unfold Hid; rw [HFQ.out,decide_eq_false d1]; simp
      go_wp2_with fail
      go_meet;rw [HG.out];first | exact ⟨rfl,rfl⟩ | simp [d1]
    ·have HG:Hid (f q=false):=by unfold Hid; rw [HFQ.out,decide_eq_false d0]; simp
     go_wp2_with fail
     go_meet;rw [HG.out];first | exact ⟨rfl,rfl⟩ | simp [d0]
   case rest =>
   obtain ⟨rfl,rfl⟩:=hcut;clear k0 k1 k2 k3 k4
   cases hfq:f q with
   | true =>
    have HX:Hid (findI f xs=(i:Int)):=HAT.out hfq;go_wp2_with fail
    go_ret;exact ⟨ret_int HX.out.symm,by rw [hX]; exact W8.out⟩
   | false =>
    have HN2:Hid ((xs.take (i+1)).any f=false):=by unfold Hid; rw [HST.out,HN.out,hfq]; rfl
    go_wp2_with fail
    go_roundw
    case rel=>exact ⟨i+1,by omega,by go_num,HN2.out,L8.out⟩
    case measure=>simp [intOf]; omega
  ·have hie:i=xs.length:=by omega
   have HX:Hid (findI f xs=-1):=by unfold Hid; have:=HN.out; rw [hie,List.take_length] at this; exact findI_no f xs this
   go_wp2_with fail
   go_ret;exact ⟨ret_int HX.out.symm,by rw [hX]; exact HW.out⟩
end Go.Proofs.YtdkepkaflielhaaGreatDoor
