import Derived.Test.YtdkepkaflielhaaGreatDoorMerged1
import Derived.HandedShaped
import Derived.PlainAid
import Derived.Laws.BitsLemmas
import Derived.Laws.Bits64
import Derived.Deep.QuietTactic
import Derived.WalkLawsBesides
import Derived.ChangeAlike
import Derived.Laws.IdiomStrings
import Derived.Deep.DeepCutAuto
set_option linter.unusedVariables false
set_option linter.unusedSimpArgs false
set_option maxRecDepth 100000
set_option maxHeartbeats 8000000
namespace Go.Proofs.YtdkepkaflielhaaGreatDoor
open Go
variable {H:Type} {enc:TypeId × Value→H}
theorem returns_and_shaped {a:Assume} {C:Checked} {os:Os} {f:FuncId} {fn:Func} {s:ChangeSpec} {conds:List PathCond} {apart fresh handsOn again:Bool} {X:World→Array Value→Prop}
  (hX:∀ (w w':World) (args:Array Value),w.heap=w'.heap→X w args→X w' args)
  (own:ownKnob C.prog.godebug=none) (started:os.Started) (noInit:C.prog.inits.idxOf? f=none) (hfn:C.prog.funcs[f]?=some fn)
  (witness:∃ (w:World) (tape:Tape) (i:Input),w.os=os∧(w.forCall tape i).Shaped C.prog∧i.vars=[]∧Input.okWide C.prog (w.forCall tape i) .any w.heap.size f i ∧
   ((s.pre enc C.prog fn conds apart (w.forCall tape i).memory i.args∧X (w.forCall tape i).memory i.args)∧sizedMet enc C.prog fn (OpenSpec.ofChange s) apart (w.forCall tape i).memory i.args)∧a.holds C.prog (lone (Frame.enter C.prog f i.args .normal) [] (w.forCall tape i)))
  (contract:∀ (W:World) (base:Nat) (args:Array Value) (ds gs:List (DataW H)) (before:List MemPlace),
   (∀ (j:Nat) t v,fn.params[j]?=some t→args[j]?=some v→Value.okWide C.prog W .any base t v) →
   DataW.Whole enc C.prog fn.params.toList s.vars apart W args.toList ds gs before→X W args→W.ShapedOpen C.prog →
   Calls C.prog f args W fun e W'=>∃ v,e=.returned v∧s.post enc C.prog fn apart fresh handsOn again W args v W') :
  ReturnsInHanded a C os f .any (fun w args=>(s.pre enc C.prog fn conds apart w args∧X w args)∧sizedMet enc C.prog fn (OpenSpec.ofChange s) apart w args) (s.post enc C.prog fn apart fresh handsOn again):=by
 refine returnsInHanded_of_calls own started noInit witness ?_;intro w tape i _ hsh _ hok hpre hholds;obtain ⟨_,_,_,fn',hfn',_,_,_,_,hval⟩:=hok;have e:fn'=fn:=Option.some.inj (hfn'.symm.trans hfn);subst e;obtain ⟨⟨⟨ds,gs,before,hw,_⟩,hx⟩,_⟩:=hpre;refine (contract (w.forCall tape i) w.heap.size i.args ds gs before hval (DataW.Whole.of_heap (w':=w.forCall tape i) (by rfl) hw) (hX _ _ _ (by rfl) hx) hsh).mono fun e W' ⟨v,he,hp⟩=>?_
 subst he;exact ChangeSpec.post_blind hp
open Go.PlainAid
def add1 (a b:Int):Int:=if 65535 < a+b then a+b-65535 else a+b
theorem add1_range {a b:Int} (ha:0≤a) (ha':a≤65535) (hb:0≤b) (hb':b≤65535):0≤add1 a b∧add1 a b≤65535:=by
 unfold add1; split<;>omega
theorem wraps_i64 (n:Int) (h0:0≤n) (h1:n < 2 ^ 63):IntKind.i64.wrap n=n:=by rw [IntKind.wrap_i64]; omega
theorem join_word (a b:Int) (ha:0≤a) (ha':a≤255) (hb:0≤b) (hb':b≤255):bits .or .i64 (a*256) b=a*256+b :=
 bits_join .i64 63 (by decide) wraps_i64 8 (a*256) b (by omega) (by omega) (by omega) hb (by omega) (by omega)
theorem and_65535 (n:Int):bits .and .i64 n 65535=n % 65536:=by
 have h127:(BitVec.ofInt 64 65535).toNat=2 ^ 16-1:=by decide
 have key:(BitVec.ofInt 64 n &&& BitVec.ofInt 64 65535).toNat=(n % ((2 ^ 64:Nat):Int)).toNat % 2 ^ 16:=by
  rw [BitVec.toNat_and,BitVec.toNat_ofInt,h127,Nat.and_two_pow_sub_one_eq_mod]
 show IntKind.i64.wrap ((BitVec.ofInt 64 n &&& BitVec.ofInt 64 65535).toNat:Nat)=n % 65536;rw [key,IntKind.wrap_i64];omega
theorem fold_add (a b:Int) (ha:0≤a) (ha':a≤65535) (hb:0≤b) (hb':b≤65535):(a+b) % 65536+(a+b) / 65536=add1 a b:=by
 unfold add1; split<;>omega
def wordN (f:Nat→Int) (i:Nat):Int:=f i*256+f (i+1)
def sumN (f:Nat→Int):Nat→Int
 | 0=>0
 | k+1=>add1 (sumN f k) (wordN f (2*k))
def isByte (f:Nat→Int):Prop:=∀ i,0≤f i∧f i≤255
theorem wordN_range {f:Nat→Int} (h:isByte f) (i:Nat):0≤wordN f i∧wordN f i≤65535:=by
 have h1:=h i; have h2:=h (i+1); unfold wordN; omega
theorem sumN_range {f:Nat→Int} (h:isByte f) (k:Nat):0≤sumN f k∧sumN f k≤65535:=by
 induction k with
 | zero=>simp [sumN]
 | succ k ih=>have:=wordN_range h (2*k); exact add1_range ih.1 ih.2 this.1 this.2
theorem bt_isByte (s:ByteArray):isByte (bt s):=fun i=>⟨bt_nonneg s i,bt_le s i⟩
open Go.RowKit
theorem ret_int {k:IntKind} {a b:Int} (h:a=b):Ending.returned (.int k a)=.returned (.int k b):=by rw [h]
theorem ret_bool {a b:Bool} (h:a=b):Ending.returned (.bool a)=.returned (.bool b):=by rw [h]
theorem ret_string {a b:ByteArray} (h:a=b):Ending.returned (.string a)=.returned (.string b):=by rw [h]
theorem grown_trans {w w1 w2:World} {r:Option Nat} (h:w.grownBy w1 r) (h2:w1.grownBy w2 r):w.grownBy w2 r :=
 ⟨h2.os.trans h.os,h2.tape.trans h.tape,h2.output.trans h.output,Nat.le_trans h.size h2.size,fun k hk hne=>(h2.block k (Nat.lt_of_lt_of_le hk h.size) hne).trans (h.block k hk hne)⟩
theorem grown_drew {w w1:World} {r:Option Nat} (h:w.grownBy w1 r):w.grownBy w1.drew r:=⟨h.os,h.tape,h.output,h.size,h.block⟩
theorem grown_set {w w1:World} {B o:Nat} (h:w.grownBy w1 (some B)) (v:Value):w.grownBy (w1.setCell ⟨B,o,none⟩ v) (some B) :=
 ⟨h.os,h.tape,h.output,by rw [World.size_setCell]; exact h.size,fun k hk hne=>(Below.heap_setCell w1 _ v k (fun e=>hne (by rw [e]))).trans (h.block k hk hne)⟩
theorem grown_of_below {w w1:World} {r:Option Nat} (h:Below w.heap.size w w1):w.grownBy w1 r:=⟨h.os,h.tape,h.output,h.size,fun k hk _=>h.block k hk⟩
theorem own_ne {w:World} {base e n B:Nat} {v:Value} {xs:List Value} (h:w.ownsRow base e 1 v n xs) (hB:B < base):v.ownBlock=none∨v.ownBlock≠some B:=by
 by_cases hv:v.ownBlock=some B
 ·have:=(h.lt B hv).1; omega
 ·exact .inr hv
theorem own_shape {w:World} {base e n:Nat} {v:Value} {xs:List Value} (h:w.ownsRow base e 1 v n xs) (hv:v≠.slice none 0 0):∃ g cap,v=.slice (some ⟨g,0,none⟩) n cap∧w.ownsRow base e 1 (.slice (some ⟨g,0,none⟩) n cap) n xs:=by
 rcases h.2 with ⟨h1,_⟩ | ⟨g,cap,cur,h1,_⟩
 ·exact absurd h1 hv
 ·subst h1; exact ⟨g,cap,rfl,h⟩
theorem bcell {W w1:World} (hb:Below W.heap.size W w1):(∀ b o,b < W.heap.size→w1.cell? ⟨b,o,none⟩=W.cell? ⟨b,o,none⟩)∧(∀ b o,b < W.heap.size→w1.frozen? ⟨b,o,none⟩=W.frozen? ⟨b,o,none⟩) :=
 ⟨fun b o h=>hb.cell (p:=⟨b,o,none⟩) h,fun b o h=>hb.frozen (p:=⟨b,o,none⟩) h⟩
theorem specAt_any (s:ByteArray) (k:Nat) (w:World) (hk:k+1 < s.size) (hs:s.size≤maxLen) :
  Cb 42 #[.string s,iV k] w (iV (wordN (bt s) k)):=by
 unfold maxLen at hs;have hb:=get_bt s;have b1:=bt_isByte s k;have b2:=bt_isByte s (k+1);have hj:=join_word (bt s k) (bt s (k+1)) b1.1 b1.2 b2.1 b2.2;go_enter Tryz.func42,Tryz.ntmps42
 go_wp2
 go_region
 all_goals
  go_wp2
  go_ret;exact ⟨ret_int rfl,bR.drew⟩
theorem wordFromS_any (s:ByteArray) (k:Nat) (w:World) (hk:k < s.size) (hs:s.size≤maxLen) :
  Cw 131 #[.string s,iV k] w (iV (wordN (bt s) k)):=by
 unfold maxLen at hs;have hb:=get_bt s;have b1:=bt_isByte s k;have b2:=bt_isByte s (k+1);have hj:=join_word (bt s k) (bt s (k+1)) b1.1 b1.2 b2.1 b2.2;by_cases h:k+1 < s.size
 ·go_enter Tryz.func131,Tryz.ntmps131
  go_wp2
  go_ret;exact ⟨ret_int rfl,rfl⟩
 ·have h2:¬ (k:Int)+1 < s.size:=by omega
  have HE:Hid (bt s (k+1)=0):=bt_end s (by omega);go_enter Tryz.func131,Tryz.ntmps131
  go_wp2
  go_ret;exact ⟨ret_int (by unfold wordN; rw [HE.out]; omega),rfl⟩
theorem specAdd_any (a b:Int) (w:World) (ha:0≤a) (ha':a≤65535) (hb:0≤b) (hb':b≤65535) :
  Cw 75 #[iV a,iV b] w (iV (add1 a b)):=by
 by_cases h:65535 < a+b
 ·have HV:Hid (add1 a b=a+b-65535):=by unfold Hid add1; rw [if_pos h]
  go_enter Tryz.func75,Tryz.ntmps75
  go_wp2
  go_ret;exact ⟨ret_int HV.out.symm,rfl⟩
 ·have HV:Hid (add1 a b=a+b):=by unfold Hid add1; rw [if_neg h]
  go_enter Tryz.func75,Tryz.ntmps75
  go_wp2
  go_ret;exact ⟨ret_int HV.out.symm,rfl⟩
def sumV (s:ByteArray):Int:=sumN (bt s) ((s.size+1) / 2)
theorem sumV_range (s:ByteArray):0≤sumV s∧sumV s≤65535:=sumN_range (bt_isByte s) _
theorem specSum1_any (s:ByteArray) (w:World) (hs:s.size≤1048578) :
  Cw 70 #[.string s] w (iV (sumV s)):=by
 have hb:=get_bt s;go_enter Tryz.func70,Tryz.ntmps70
 go_wp2
 go_loop [3,4] (fun n i=>∃ k:Nat,2*k≤s.size+1∧i=iV (2*(k:Int))∧n=iV (sumN (bt s) k)) (fun _ i=>s.size+2-(intOf i).toNat)
 case atStart=>exact ⟨0,Nat.zero_le _,rfl,rfl⟩
 case round =>
  obtain ⟨k,hk,rfl,rfl⟩:=hrel;have hr:=sumN_range (bt_isByte s) k;have hq:=wordN_range (bt_isByte s) (2*k);have HW:Hid (wordN (bt s) (2*k)=bt s (2*k)*256+bt s (2*k+1)):=rfl;have HN:Hid (sumN (bt s) (k+1)=add1 (sumN (bt s) k) (wordN (bt s) (2*k))):=rfl;have b1:=bt_isByte s (2*k);have b2:=bt_isByte s (2*k+1);have hj:=join_word (bt s (2*k)) (bt s (2*k+1)) b1.1 b1.2 b2.1 b2.2;by_cases hlt:2*k < s.size
  ·by_cases h2:2*k+1 < s.size
   ·go_wp2_with (go_at_call 75; refine (specAdd_any _ _ _ hr.1 hr.2 (by omega) (by omega)).mono ?_; rintro e w' ⟨rfl,rfl⟩)
    go_round
    case rel=>exact ⟨k+1,by omega,by go_num,by rw [HN.out,HW.out]⟩
    case measure=>simp [intOf]; omega
   ·have HE:Hid (bt s (2*k+1)=0):=bt_end s (by omega);go_wp2_with (go_at_call 75; refine (specAdd_any _ _ _ hr.1 hr.2 (by omega) (by omega)).mono ?_; rintro e w' ⟨rfl,rfl⟩)
    go_round
    case rel=>exact ⟨k+1,by omega,by go_num,by rw [HN.out,HW.out,HE.out,Int.add_zero]⟩
    case measure=>simp [intOf]; omega
  ·go_wp2
   go_ret;exact ⟨ret_int (by unfold sumV; rw [show (s.size+1) / 2=k by omega]),rfl⟩
theorem sumOfS_any (s:ByteArray) (w:World) (hs:s.size≤1048578) :
  Cw 170 #[.string s] w (iV (sumV s)):=by
 have hs':s.size≤maxLen:=by unfold maxLen; omega
 go_enter Tryz.func170,Tryz.ntmps170
 go_wp2
 go_loop [3,9] (fun n i=>∃ k:Nat,k≤(s.size+1) / 2∧i=iV k∧n=iV (sumN (bt s) k)) (fun _ i=>(s.size+1) / 2-(intOf i).toNat)
 case atStart=>exact ⟨0,Nat.zero_le _,rfl,rfl⟩
 case round =>
  obtain ⟨k,hk,rfl,rfl⟩:=hrel;have hr:=sumN_range (bt_isByte s) k;have hq:=wordN_range (bt_isByte s) (2*k);have HN:Hid (sumN (bt s) (k+1)=add1 (sumN (bt s) k) (wordN (bt s) (2*k))):=rfl;have HF:Hid _:=fold_add (sumN (bt s) k) (wordN (bt s) (2*k)) hr.1 hr.2 hq.1 hq.2;have ha:=and_65535 (sumN (bt s) k+wordN (bt s) (2*k));by_cases hlt:k < (s.size+1) / 2
  ·have h2:2*k < s.size:=by omega
   go_wp2_with (go_at_call 131; refine (wordFromS_any s (2*k) _ h2 hs').mono ?_; rintro e w' ⟨rfl,rfl⟩)
   go_round
   case rel=>exact ⟨k+1,by omega,by go_num,by rw [HN.out,← HF.out]⟩
   case measure=>simp [intOf]; omega
  ·go_wp2
   go_ret;exact ⟨ret_int (by unfold sumV; rw [show (s.size+1) / 2=k by omega]),rfl⟩
def twoL (n:Int):List UInt8:=[UInt8.ofNat (n / 256).toNat,UInt8.ofNat (n % 256).toNat]
def twoV (n:Int):ByteArray:=⟨(twoL n).toArray⟩
theorem u8_ofNat (x:Int) (h0:0≤x) (h1:x≤255):((UInt8.ofNat x.toNat).toNat:Int)=x:=by
 rw [UInt8.toNat_ofNat']; omega
theorem two_cells {w:World} {b:Nat} {n:Int} (h0:0≤n) (h1:n≤65535)
  (hc0:w.cell? ⟨b,0,none⟩=some (.int .u8 (n / 256))) (hc1:w.cell? ⟨b,1,none⟩=some (.int .u8 (n % 256))) :
  ∀ j (hj:j < (twoL n).length),w.cell? (Addr.add ⟨b,0,none⟩ j)=some (.int .u8 ((twoL n)[j].toNat:Int)):=by
 intro j hj;match j,hj with
 | 0,_=>simp only [Addr.add,Nat.add_zero,twoL,List.getElem_cons_zero]; rw [u8_ofNat _ (by omega) (by omega)]; exact hc0
 | 1,_=>simp only [Addr.add,Nat.zero_add,twoL,List.getElem_cons_succ,List.getElem_cons_zero]; rw [u8_ofNat _ (by omega) (by omega)]; exact hc1
theorem two_conv {w:World} {b cap:Nat} {n:Int} (h0:0≤n) (h1:n≤65535)
  (hc0:w.cell? ⟨b,0,none⟩=some (.int .u8 (n / 256))) (hc1:w.cell? ⟨b,1,none⟩=some (.int .u8 (n % 256))) :
  (convert 22 9 (.slice (some ⟨b,0,none⟩) 2 cap)).run Tryz.prog w=.ok (.string (twoV n)) w :=
 run_convert_bytes_back (P:=Tryz.prog) w 22 9 5 ⟨b,0,none⟩ cap (twoL n) Tryz.underlying22 Tryz.underlying5 Tryz.underlying9 (two_cells h0 h1 hc0 hc1)
theorem specTwo_any (n:Int) (w:World) (h0:0≤n) (h1:n≤65535) :
  Cb 73 #[iV n] w (.string (twoV n)):=by
 have hcv:=two_conv (w:=w.alloc (.cells #[.int .u8 (n / 256),.int .u8 (n % 256)] 5)) (b:=w.heap.size) (cap:=2) h0 h1 (by simp) (by simp);go_enter Tryz.func73,Tryz.ntmps73
 go_wp2
 go_ret;exact ⟨rfl,bR.alloc lR _⟩
def isW (n:Int):Bool:=decide (0≤n)&&decide (n≤65535)
theorem isW_yes {n:Int} (h0:0≤n) (h1:n≤65535):isW n=true:=by simp [isW,h0,h1]
theorem isW_no {n:Int} (h:¬ (0≤n∧n≤65535)):isW n=false:=by
 rw [Bool.eq_false_iff]; intro hh; simp [isW] at hh; exact h hh
theorem specWordIs_any (n:Int) (w:World) :
  Cw 39 #[iV n] w (.bool (isW n)):=by
 by_cases h0:0≤n
 ·by_cases h1:n≤65535
  ·have HV:Hid (isW n=true):=isW_yes h0 h1;go_enter Tryz.func39,Tryz.ntmps39
   go_wp2
   go_ret;exact ⟨ret_bool HV.out.symm,rfl⟩
  ·have HV:Hid (isW n=false):=isW_no (fun h=>h1 h.2);go_enter Tryz.func39,Tryz.ntmps39
   go_wp2
   go_ret;exact ⟨ret_bool HV.out.symm,rfl⟩
 ·have HV:Hid (isW n=false):=isW_no (fun h=>h0 h.1);go_enter Tryz.func39,Tryz.ntmps39
  go_wp2
  go_ret;exact ⟨ret_bool HV.out.symm,rfl⟩
theorem implWordIs_any (n:Int) (w:World) :
  Cw 122 #[iV n] w (.bool (isW n)):=by
 by_cases h0:0≤n
 ·by_cases h1:n≤65535
  ·have HV:Hid (isW n=true):=isW_yes h0 h1;go_enter Tryz.func122,Tryz.ntmps122
   go_wp2
   go_ret;exact ⟨ret_bool HV.out.symm,rfl⟩
  ·have HV:Hid (isW n=false):=isW_no (fun h=>h1 h.2);go_enter Tryz.func122,Tryz.ntmps122
   go_wp2
   go_ret;exact ⟨ret_bool HV.out.symm,rfl⟩
 ·have HV:Hid (isW n=false):=isW_no (fun h=>h0 h.1);go_enter Tryz.func122,Tryz.ntmps122
  go_wp2
  go_ret;exact ⟨ret_bool HV.out.symm,rfl⟩
def layL:List Int→List Int
 | []=>[]
 | n::r=>n / 256::n % 256::layL r
theorem layL_length (ws:List Int):(layL ws).length=2*ws.length:=by
 induction ws with
 | nil=>rfl
 | cons n r ih=>simp [layL,ih]; omega
theorem layL_append (a:List Int) (n:Int):layL (a++[n])=layL a++[n / 256,n % 256]:=by
 induction a with
 | nil=>rfl
 | cons m r ih=>simp [layL,ih]
theorem lay_step {ws:List Int} {k:Nat} {n:Int} {w2:World} {B e:Nat} {v:Value} (hn:n=ws.getD k 0) (hk:k < ws.length)
  (h:w2.ownsRow B e 1 v (2*k+2) ((layL (ws.take k)).map (Value.int .u8)++[Value.int .u8 (n / 256),Value.int .u8 (n % 256)])) :
  w2.ownsRow B e 1 v (2*(k+1)) ((layL (ws.take (k+1))).map (Value.int .u8)):=by
 have e1:ws.take (k+1)=ws.take k++[n]:=by
  rw [List.take_succ_eq_append_getElem hk,hn]; simp [List.getD,hk]
 rw [e1,layL_append,List.map_append];exact h
theorem Tryz.info5:(Tryz.prog.info? 5).map (fun i=>(i.zero,i.size,i.bytes))=some (some (.int .u8 0),1,1):=by kernel_rfl
theorem layWords_any (ws:List Int) (b m cap:Nat) (w:World) (hm:m≤1000) (hb:b < w.heap.size) (hl:ws.length=m)
  (hw:∀ k,0≤ws.getD k 0∧ws.getD k 0≤65535) (hc:∀ k,k < m→w.cell? ⟨b,k,none⟩=some (iV (ws.getD k 0))) :
  Calls Tryz.prog 154 #[.slice (some ⟨b,0,none⟩) m cap] w fun e w'=>e=.returned (.slice (some ⟨w.heap.size,0,none⟩) (2*m) (2*m)) ∧
   w'.ownsRow w.heap.size 5 1 (.slice (some ⟨w.heap.size,0,none⟩) (2*m) (2*m)) (2*m) ((layL ws).map (Value.int .u8))∧Below w.heap.size w w':=by
 obtain ⟨i0,hi,hz0,hz1,hz2⟩:=info_parts Tryz.info5;go_enter Tryz.func154,Tryz.ntmps154
 go_wp2_with (at_make; refine wpList_make_own _ rfl _ _ 22 rfl w.heap.size 5 i0 (.int .u8 0) 1 Tryz.underlying22 hi hz0 hz1 .i64 .i64 _ (2*m) rfl rfl (by omega) (by rw [hz2]; omega) (by unfold maxLen; omega) lR ?_; intro w1 hown hgrow)
 have hbel:Below w.heap.size w w1:=bR.grown hgrow lR (by simp);clear hgrow;go_loopw [3,12] (fun v i wr=>∃ k:Nat,k≤m∧i=iV k∧v=.slice (some ⟨w.heap.size,0,none⟩) (2*k) (2*m) ∧
   wr.ownsRow w.heap.size 5 1 (.slice (some ⟨w.heap.size,0,none⟩) (2*k) (2*m)) (2*k) ((layL (ws.take k)).map (Value.int .u8))∧Below w.heap.size w wr) (fun _ i _=>m-(intOf i).toNat)
 case atStart=>exact ⟨0,Nat.zero_le _,rfl,rfl,by simpa [layL] using hown,hbel⟩
 case round =>
  clear hown hbel;obtain ⟨k,hk,rfl,rfl,hown,hbel⟩:=hrel;by_cases hlt:k < m
  ·have hcx:wr.cell? ⟨b,k,none⟩=some (iV (ws.getD k 0)):=(hbel.cell (p:=⟨b,k,none⟩) hb).trans (hc k hlt);obtain ⟨n,hn⟩ : ∃ n,n=ws.getD k 0:=⟨_,rfl⟩;have hwn:=hw k;rw [← hn] at hcx hwn;have HN:Hid (n=ws.getD k 0):=hn;clear hn hw hc;have hsz:=hbel.size;go_wp2_with (at_builtin; refine wpList_append_fits _ rfl (.tmp 16) (.tmp 22) 22 rfl w.heap.size 5 i0 1 Tryz.underlying22 hi hz1 w.heap.size (2*k) (2*m) _ rfl (hown.alloc _) ⟨wr.heap.size,0,none⟩ 2 2 [.int .u8 (n / 256),.int .u8 (n % 256)] rfl rfl ?c1 ?c2 (by omega) ?_)
   case c1 =>
    intro j u hj;match j,hj with
    | 0,hj=>simp at hj; subst hj; simp [Addr.add]
    | 1,hj=>simp at hj; subst hj; simp [Addr.add]
   case c2=>intro u hu; simp at hu; rcases hu with rfl | rfl<;>rfl
   ·intro w2 hown2 hgrow2;have hbel2:Below w.heap.size w w2:=(hbel.alloc hsz _).grown hgrow2 (by simp; omega) (by simp);have R:=lay_step HN.out (by omega) hown2;clear hown2 hgrow2 hown hbel hcx;go_wp2
    go_roundw
    case rel=>exact ⟨k+1,by omega,by go_num,rfl,R,hbel2⟩
    case measure=>simp [intOf]; omega
  ·have hkm:k=m:=by omega
   subst hkm;have R:wr.ownsRow w.heap.size 5 1 (.slice (some ⟨w.heap.size,0,none⟩) (2*k) (2*k)) (2*k) ((layL ws).map (Value.int .u8)):=by
    rw [List.take_of_length_le (by omega)] at hown; exact hown
   clear hown;go_wp2
   go_ret;exact ⟨rfl,R,hbel⟩
theorem wordFromB_any (f:Nat→Int) (b len cap k:Nat) (w:World) (hf:isByte f) (he:∀ i,len≤i→f i=0) (hl:len≤2000) (hk:k < len)
  (hc:∀ i,i < len→w.cell? ⟨b,i,none⟩=some (.int .u8 (f i))) :
  Cw 186 #[.slice (some ⟨b,0,none⟩) len cap,iV k] w (iV (wordN f k)):=by
 have b1:=hf k;have b2:=hf (k+1);have hj:=join_word (f k) (f (k+1)) b1.1 b1.2 b2.1 b2.2;have c1:=hc k hk;by_cases h:k+1 < len
 ·have c2:=hc (k+1) h;clear hc he hf;go_enter Tryz.func186,Tryz.ntmps186
  go_wp2
  go_ret;exact ⟨ret_int rfl,rfl⟩
 ·have HE:Hid (f (k+1)=0):=he _ (by omega);clear hc he hf;go_enter Tryz.func186,Tryz.ntmps186
  go_wp2
  go_ret;exact ⟨ret_int (by unfold wordN; rw [HE.out]; omega),rfl⟩
theorem sumOfB_any (f:Nat→Int) (b len cap:Nat) (w:World) (hf:isByte f) (he:∀ i,len≤i→f i=0) (hl:len≤2000)
  (hc:∀ i,i < len→w.cell? ⟨b,i,none⟩=some (.int .u8 (f i))) :
  Cw 185 #[.slice (some ⟨b,0,none⟩) len cap] w (iV (sumN f ((len+1) / 2))):=by
 have HW:Hid (∀ k,k < len→Cw 186 #[.slice (some ⟨b,0,none⟩) len cap,iV k] w (iV (wordN f k))):=fun k hk=>wordFromB_any f b len cap k w hf he hl hk hc
 clear hc he;go_enter Tryz.func185,Tryz.ntmps185
 go_wp2
 go_loop [3,9] (fun n i=>∃ k:Nat,k≤(len+1) / 2∧i=iV k∧n=iV (sumN f k)) (fun _ i=>(len+1) / 2-(intOf i).toNat)
 case atStart=>exact ⟨0,Nat.zero_le _,rfl,rfl⟩
 case round =>
  obtain ⟨k,hk,rfl,rfl⟩:=hrel;have hr:=sumN_range hf k;have hq:=wordN_range hf (2*k);have HN:Hid (sumN f (k+1)=add1 (sumN f k) (wordN f (2*k))):=rfl;have HF:Hid _:=fold_add (sumN f k) (wordN f (2*k)) hr.1 hr.2 hq.1 hq.2;have ha:=and_65535 (sumN f k+wordN f (2*k));clear hf;by_cases hlt:k < (len+1) / 2
  ·have h2:2*k < len:=by omega
   go_wp2_with (go_at_call 186; refine (HW.out (2*k) h2).mono ?_; rintro e w' ⟨rfl,rfl⟩)
   go_round
   case rel=>exact ⟨k+1,by omega,by go_num,by rw [HN.out,← HF.out]⟩
   case measure=>simp [intOf]; omega
  ·go_wp2
   go_ret;exact ⟨ret_int (by rw [show (len+1) / 2=k by omega]),rfl⟩
def fL (ws:List Int) (i:Nat):Int:=(layL ws).getD i 0
theorem fL_end (ws:List Int) (i:Nat) (h:2*ws.length≤i):fL ws i=0:=by
 have:=layL_length ws;simp [fL,List.getD,List.getElem?_eq_none (show (layL ws).length≤i by omega)]
theorem fL_byte:∀ (ws:List Int),(∀ n∈ws,0≤n∧n≤65535)→isByte (fL ws)
 | [],_=>fun i=>by simp [fL,layL]
 | n::r,h=>fun i=>by
  have hn:=h n (by simp);match i with
  | 0=>simp only [fL,layL,List.getD_cons_zero]; omega
  | 1=>simp only [fL,layL,List.getD_cons_succ,List.getD_cons_zero]; omega
  | i+2=>simpa [fL,layL] using fL_byte r (fun m hm=>h m (by simp [hm])) i
theorem add1_zero {a:Int} (h:a≤65535):add1 0 a=a:=by unfold add1; rw [if_neg (by omega)]; omega
theorem word_two (n:Int):n / 256*256+n % 256=n:=by omega
theorem sum_three {a b c:Int} (h:a≤65535):sumN (fL [a,b,c]) 3=add1 (add1 a b) c:=by
 simp only [sumN,wordN,fL,layL,Nat.mul_zero,Nat.mul_one,Nat.zero_add,List.getD_cons_zero,List.getD_cons_succ,word_two,show 2*2=4 from rfl];rw [add1_zero h]
theorem getD_word (ws:List Int) (h:∀ n∈ws,0≤n∧n≤65535) (k:Nat):0≤ws.getD k 0∧ws.getD k 0≤65535:=by
 by_cases hk:k < ws.length
 ·simp only [List.getD,List.getElem?_eq_getElem hk,Option.getD_some]; exact h _ (List.getElem_mem hk)
 ·simp [List.getD,List.getElem?_eq_none (show ws.length≤k by omega)]
theorem layAt (ws:List Int) (w:World) (hm:ws.length≤1000) (h:∀ n∈ws,0≤n∧n≤65535) :
  Calls Tryz.prog 154 #[.slice (some ⟨w.heap.size,0,none⟩) ws.length ws.length] (w.alloc (.cells (ws.map (Value.int .i64)).toArray 2)) fun e w' =>
   e=.returned (.slice (some ⟨w.heap.size+1,0,none⟩) (2*ws.length) (2*ws.length))∧(∀ i,i < 2*ws.length→w'.cell? ⟨w.heap.size+1,i,none⟩=some (.int .u8 (fL ws i)))∧Below w.heap.size w w':=by
 refine (layWords_any ws w.heap.size ws.length ws.length (w.alloc (.cells (ws.map (Value.int .i64)).toArray 2)) hm (by simp) rfl (getD_word ws h) (by intro k hk; simp [hk])).mono ?_;rintro e w' ⟨rfl,hown,hB⟩;have hz:(w.alloc (.cells (ws.map (Value.int .i64)).toArray 2)).heap.size=w.heap.size+1:=by simp
 rw [hz] at hown hB ⊢;refine ⟨rfl,fun i hi=>?_,(bR.alloc lR _).trans (hB.mono (by omega))⟩;have hl:=layL_length ws;rw [hown.cellAt i (by omega)];simp [fL,show i < (layL ws).length by omega]
theorem specTurn1_any (s o n:Int) (w:World) (hs:0≤s∧s≤65535) (ho:0≤o∧o≤65535) (hn:0≤n∧n≤65535) :
  Cw 84 #[iV s,iV o,iV n] w (iV (65535-add1 (add1 (65535-s) (65535-o)) n)):=by
 have r1:=add1_range (a:=65535-s) (b:=65535-o) (by omega) (by omega) (by omega) (by omega);have r2:=add1_range r1.1 r1.2 hn.1 hn.2;go_enter Tryz.func84,Tryz.ntmps84
 go_wp2_with fail
 refine (specAdd_any (65535-s) (65535-o) _ (by omega) (by omega) (by omega) (by omega)).mono ?_;rintro e w' ⟨rfl,rfl⟩;go_wp2_with fail
 refine (specAdd_any _ n _ r1.1 r1.2 hn.1 hn.2).mono ?_;rintro e w' ⟨rfl,rfl⟩;go_wp2
 go_ret;exact ⟨rfl,rfl⟩
def sumTurnV (s o n:Int):Int:=if (0≤s∧s≤65535)∧(0≤o∧o≤65535)∧(0≤n∧n≤65535) then 65535-add1 (add1 (65535-s) (65535-o)) n else 0
theorem implSumTurn_any (s o n:Int) (w:World) :
  Cb 184 #[iV s,iV o,iV n] w (iV (sumTurnV s o n)):=by
 by_cases hs:0≤s∧s≤65535
 ·have i1:=isW_yes hs.1 hs.2;by_cases ho:0≤o∧o≤65535
  ·have i2:=isW_yes ho.1 ho.2;by_cases hn:0≤n∧n≤65535
   ·have i3:=isW_yes hn.1 hn.2;have HV:Hid (sumTurnV s o n=65535-sumN (fL [65535-s,65535-o,n]) 3):=(if_pos ⟨hs,ho,hn⟩ : sumTurnV s o n=65535-add1 (add1 (65535-s) (65535-o)) n).trans (by rw [sum_three (by omega)]);have hws:∀ m∈[65535-s,65535-o,n],0≤m∧m≤65535:=by intro m hm; simp at hm; rcases hm with rfl | rfl | rfl<;>omega
    have HL:Hid (Calls Tryz.prog 154 #[.slice (some ⟨w.heap.size,0,none⟩) 3 3] (w.alloc (.cells #[iV (65535-s),iV (65535-o),iV n] 2)) fun e w' =>
     e=.returned (.slice (some ⟨w.heap.size+1,0,none⟩) 6 6)∧(∀ i,i < 6→w'.cell? ⟨w.heap.size+1,i,none⟩=some (.int .u8 (fL [65535-s,65535-o,n] i)))∧Below w.heap.size w w'):=layAt [65535-s,65535-o,n] w (by simp) hws
    have HB:Hid (isByte (fL [65535-s,65535-o,n])):=fL_byte _ hws;have hr:=sumN_range HB.out 3;clear hws;go_enter Tryz.func184,Tryz.ntmps184
    go_wp2_with (first | (go_at_call 122; refine (implWordIs_any _ _).mono ?_; rintro e w' ⟨rfl,rfl⟩) | (go_at_call 154; refine HL.out.mono ?_; rintro e w' ⟨rfl,hc,hB⟩; have HC:Hid _:=hc; clear hc) | (go_at_call 185; refine (sumOfB_any (fL [65535-s,65535-o,n]) _ 6 6 _ HB.out (fL_end [65535-s,65535-o,n]) (by omega) HC.out).mono ?_; rintro e w' ⟨rfl,rfl⟩))
    go_ret;exact ⟨ret_int HV.out.symm,hB⟩
   ·have HV:Hid (sumTurnV s o n=0):=if_neg (fun h=>hn h.2.2);have i3:=isW_no hn;clear hn;go_enter Tryz.func184,Tryz.ntmps184
    go_wp2_with (go_at_call 122; refine (implWordIs_any _ _).mono ?_; rintro e w' ⟨rfl,rfl⟩)
    go_ret;exact ⟨ret_int HV.out.symm,Below.refl _ _⟩
  ·have HV:Hid (sumTurnV s o n=0):=if_neg (fun h=>ho h.2.1);have i2:=isW_no ho;clear ho;go_enter Tryz.func184,Tryz.ntmps184
   go_wp2_with (go_at_call 122; refine (implWordIs_any _ _).mono ?_; rintro e w' ⟨rfl,rfl⟩)
   go_ret;exact ⟨ret_int HV.out.symm,Below.refl _ _⟩
 ·have HV:Hid (sumTurnV s o n=0):=if_neg (fun h=>hs h.1);have i1:=isW_no hs;clear hs;go_enter Tryz.func184,Tryz.ntmps184
  go_wp2_with (go_at_call 122; refine (implWordIs_any _ _).mono ?_; rintro e w' ⟨rfl,rfl⟩)
  go_ret;exact ⟨ret_int HV.out.symm,Below.refl _ _⟩
end Go.Proofs.YtdkepkaflielhaaGreatDoor
