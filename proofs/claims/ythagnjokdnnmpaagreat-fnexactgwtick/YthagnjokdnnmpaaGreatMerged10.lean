import Derived.Test.YthagnjokdnnmpaaGreatMerged1
import Derived.Laws.StructEq
import Derived.Test.YthagnjokdnnmpaaGreatMerged8
import Derived.Test.YthagnjokdnnmpaaGreatMerged9
import Derived.Deep.DeepCutAuto
import Derived.Test.YthagnjokdnnmpaaGreatMerged5
import Derived.Test.YthagnjokdnnmpaaGreatMerged7
set_option linter.unusedVariables false
set_option linter.unusedSimpArgs false
set_option maxRecDepth 100000
set_option maxHeartbeats 8000000
namespace Go.Proofs.YthagnjokdnnmpaaGreat
open Go.RowKit
theorem wp_bin_val {P:Program} {o:Oper} {a:Act} {w:World} {v1 v2 v':Value} {K:Act→World→Prop} {Q:Exit→Act→World→Prop} (b:BinOp) (t t2:TypeId) (x y:Operand) (hop:o.op=Op.binOp b t x y t2)
  (hx:a.eval x=v1) (hy:a.eval y=v2) (hgd:(eqGuard b t x y v1 v2).run P w=.ok () w) (hrun:(binOp b t v1 v2).run P w=.ok v' w) (hK:K (a.put o.dst v') w):Oper.wp P o a w K Q:=by
 unfold Oper.wp;simp [execOp,hop,hx,hy,hgd,hrun,Result.andThen];exact hK
open Go.PlainAid
def Enters (F:Nat):Prop:=∀ args W,Sem.run Tryz.prog (callFunc F args) W=.ok (.enter F args) W
def hostE (q:Bd):En:=⟨q.proto,q.inn,q.inPort⟩
def lentE (q:Bd):En:=⟨q.proto,q.out,q.outPort⟩
def sessE (s:Ss):En:=⟨s.proto,s.inn,s.inPort⟩
def sessK (s:Ss):Sk:=⟨sessE s,s.peer,s.peerPort⟩
theorem sameEn_eq (q p:En):sameEn q p=(decide (q.proto=p.proto)&&decide (q.addr.toList=p.addr.toList)&&decide (q.port=p.port)):=by
 unfold sameEn;rw [Bool.eq_iff_iff]; simp [and_assoc]
theorem host_in (proto:Int) (s:ByteArray) (port:Int) (q:Bd):sameEn (hostE q) ⟨proto,s,port⟩=ofIn proto s port q:=sameEn_eq _ _
theorem lent_out (proto:Int) (s:ByteArray) (port:Int) (q:Bd):sameEn (lentE q) ⟨proto,s,port⟩=ofOut proto s port q:=sameEn_eq _ _
theorem sess_has (b:Bd) (s:Ss):sameEn (sessE s) (hostE b)=hasS b s:=by
 rw [sameEn_eq]; unfold hasS sessE hostE;rw [Bool.eq_iff_iff]; simp only [Bool.and_eq_true,decide_eq_true_iff];exact ⟨fun h=>⟨⟨h.1.1.symm,h.1.2.symm⟩,h.2.symm⟩,fun h=>⟨⟨h.1.1.symm,h.1.2.symm⟩,h.2.symm⟩⟩
theorem sess_same (s t:Ss):sameSk (sessK t) (sessK s)=sameS s t:=by
 unfold sameSk;rw [show sameEn (sessK t).host (sessK s).host=sameEn (sessE t) (sessE s) from rfl,sameEn_eq];unfold sameS sessK sessE;rw [Bool.eq_iff_iff]; simp only [Bool.and_eq_true,decide_eq_true_iff,beq_iff_eq];exact ⟨fun h=>⟨⟨⟨⟨h.1.1.1.symm,h.1.1.2.symm⟩,h.1.2.symm⟩,h.2.1.symm⟩,h.2.2.symm⟩,fun h=>⟨⟨⟨h.1.1.1.1.symm,h.1.1.1.2.symm⟩,h.1.1.2.symm⟩,h.1.2.symm,h.2.symm⟩⟩
theorem hostEnd_any (q:Bd) (w:World) :
  Calls Tryz.prog 122 #[bdC q] w fun e w'=>e=.returned (enC (hostE q))∧Below w.heap.size w w':=by
 unfold bdC enC hostE;go_enter Tryz.func122,Tryz.ntmps122
 go_wp2_with fail
 refine bodyPost_ret (v:=.agg #[.int .i64 q.proto,.string q.inn,.int .i64 q.inPort]) (by simp [results,Tryz.results122,go_sem]) rfl ⟨rfl,?_⟩;first | exact ((Below.refl _ _).alloc (Nat.le_refl _) _).alloc (by simp) _ | exact (((((Below.refl _ _).alloc (Nat.le_refl _) _).alloc (by simp) _).setCell (by simp) _).setCell (by simp) _).setCell (by simp) _
theorem lentEnd_any (q:Bd) (w:World) :
  Calls Tryz.prog 123 #[bdC q] w fun e w'=>e=.returned (enC (lentE q))∧Below w.heap.size w w':=by
 unfold bdC enC lentE;go_enter Tryz.func123,Tryz.ntmps123
 go_wp2_with fail
 refine bodyPost_ret (v:=.agg #[.int .i64 q.proto,.string q.out,.int .i64 q.outPort]) (by simp [results,Tryz.results123,go_sem]) rfl ⟨rfl,?_⟩;first | exact ((Below.refl _ _).alloc (Nat.le_refl _) _).alloc (by simp) _ | exact (((((Below.refl _ _).alloc (Nat.le_refl _) _).alloc (by simp) _).setCell (by simp) _).setCell (by simp) _).setCell (by simp) _
theorem sessKey_any (q:Ss) (w:World) :
  Calls Tryz.prog 124 #[ssC q] w fun e w'=>e=.returned (skC (sessK q))∧Below w.heap.size w w':=by
 unfold ssC skC sessK sessE;go_enter Tryz.func124,Tryz.ntmps124
 go_wp2_with fail
 refine bodyPost_ret (v:=.agg #[.int .i64 q.proto,.string q.inn,.int .i64 q.inPort,.string q.peer,.int .i64 q.peerPort]) (by simp [results,Tryz.results124,go_sem]) rfl ⟨rfl,?_⟩;first | exact (((Below.refl _ _).alloc (Nat.le_refl _) _).alloc (by simp) _).alloc (by simp; omega) _ | skip
theorem idxBind_any (f:Bd→Bool) (F:Nat) (hG:Enters F) (caps:Array Value) (xs:List Bd) (a:Option Addr) (cap:Nat) (w:World) (hl:xs.length≤1048576) (hr:SlIs bdL 5 w a xs) (hC:∀ W,Below w.heap.size w W→∀ q,q∈xs→Calls Tryz.prog F (#[bdC q]++caps) W fun e w'=>e=.returned (.bool (f q))∧Below W.heap.size W w') :
  Calls Tryz.prog 168 #[.slice a xs.length cap,.func (.func F) #[] caps] w fun e w'=>e=.returned (.int .i64 (findI f xs))∧Below w.heap.size w w':=by
 have HR:Hid (SlIs bdL 5 w a xs):=hr;have HC:Hid (∀ W,Below w.heap.size w W→∀ q,q∈xs→Calls Tryz.prog F (#[bdC q]++caps) W fun e w'=>e=.returned (.bool (f q))∧Below W.heap.size W w'):=hC;obtain ⟨ans,hans⟩ : ∃ y,y=findI f xs:=⟨_,rfl⟩;rw [← hans];have HA:Hid (ans=findI f xs):=hans;clear hr hC hans;unfold Enters at hG;go_enter Tryz.func168,Tryz.ntmps168
 go_wp2_with fail
 go_loopw [8] (fun iv wr=>∃ i:Nat,i≤xs.length∧iv=.int .i64 i∧(xs.take i).any f=false∧Below w.heap.size w wr) (fun iv _=>xs.length-(intOf iv).toNat)
 case atStart=>exact ⟨0,Nat.zero_le _,rfl,by simp,Below.refl _ _⟩
 case round =>
  obtain ⟨i,hil,rfl,hn,hb⟩:=hrel;have HN:Hid ((xs.take i).any f=false):=hn;have HW:Hid (Below w.heap.size w wr):=hb;clear hn hb;by_cases hlt:i < xs.length
  ·obtain ⟨b,off,rfl,hb,hat⟩:=HR.out.at hlt;have hA:=(hat.below hb HW.out) i hlt;have HT:Hid ((xs.take (i+1)).any f=f xs[i]):=by
    unfold Hid;rw [List.take_succ_eq_append_getElem hlt,List.any_append,HN.out]; simp
   have HX:Hid (f xs[i]=true→findI f xs=i):=fun h=>findI_at f xs i hlt HN.out h
   have HC2:Hid _:=HC.out wr HW.out xs[i] (List.getElem_mem hlt);generalize xs[i]=q at *;have c0:wr.cell? ⟨b,off+i*5,none⟩=some (.int .i64 q.proto):=hA 0 _ rfl;have c1:wr.cell? ⟨b,off+i*5+1,none⟩=some (.string q.inn):=hA 1 _ rfl;have c2:wr.cell? ⟨b,off+i*5+2,none⟩=some (.int .i64 q.inPort):=hA 2 _ rfl;have c3:wr.cell? ⟨b,off+i*5+3,none⟩=some (.string q.out):=hA 3 _ rfl;have c4:wr.cell? ⟨b,off+i*5+4,none⟩=some (.int .i64 q.outPort):=hA 4 _ rfl;clear hA hat;obtain ⟨cl,hcl⟩ : ∃ y,y=f q:=⟨_,rfl⟩;rw [← hcl] at HT HX HC2;clear hcl;unfold bdC at HC2;go_wp2_with fail
   refine Calls.mono HC2.out ?_;rintro e w1 ⟨rfl,b1⟩;have HW1:Hid (Below w.heap.size w w1):=HW.out.trans (b1.mono HW.out.size);clear b1 c0 c1 c2 c3 c4
   cases cl with
   | true =>
    have HF:Hid ((i:Int)=ans):=by unfold Hid; rw [HA.out,HX.out rfl]
    go_wp2_with fail
    go_ret;exact ⟨ret_int HF.out,HW1.out⟩
   | false =>
    go_wp2_with fail
    go_roundw
    case rel=>exact ⟨i+1,by omega,by go_num,HT.out,HW1.out⟩
    case measure=>simp [intOf]; omega
  ·have hie:i=xs.length:=by omega
   have HF:Hid ((-1:Int)=ans):=by
    have:=HN.out;rw [hie,List.take_of_length_le (Nat.le_refl _)] at this;unfold Hid; rw [HA.out,findI_no f xs this]
   go_wp2_with fail
   go_ret;exact ⟨ret_int HF.out,HW.out⟩
theorem idxSession_any (f:Ss→Bool) (F:Nat) (hG:Enters F) (caps:Array Value) (xs:List Ss) (a:Option Addr) (cap:Nat) (w:World) (hl:xs.length≤1048576) (hr:SlIs ssL 7 w a xs) (hC:∀ W,Below w.heap.size w W→∀ q,q∈xs→Calls Tryz.prog F (#[ssC q]++caps) W fun e w'=>e=.returned (.bool (f q))∧Below W.heap.size W w') :
  Calls Tryz.prog 156 #[.slice a xs.length cap,.func (.func F) #[] caps] w fun e w'=>e=.returned (.int .i64 (findI f xs))∧Below w.heap.size w w':=by
 have HR:Hid (SlIs ssL 7 w a xs):=hr;have HC:Hid (∀ W,Below w.heap.size w W→∀ q,q∈xs→Calls Tryz.prog F (#[ssC q]++caps) W fun e w'=>e=.returned (.bool (f q))∧Below W.heap.size W w'):=hC;obtain ⟨ans,hans⟩ : ∃ y,y=findI f xs:=⟨_,rfl⟩;rw [← hans];have HA:Hid (ans=findI f xs):=hans;clear hr hC hans;unfold Enters at hG;go_enter Tryz.func156,Tryz.ntmps156
 go_wp2_with fail
 go_loopw [8] (fun iv wr=>∃ i:Nat,i≤xs.length∧iv=.int .i64 i∧(xs.take i).any f=false∧Below w.heap.size w wr) (fun iv _=>xs.length-(intOf iv).toNat)
 case atStart=>exact ⟨0,Nat.zero_le _,rfl,by simp,Below.refl _ _⟩
 case round =>
  obtain ⟨i,hil,rfl,hn,hb⟩:=hrel;have HN:Hid ((xs.take i).any f=false):=hn;have HW:Hid (Below w.heap.size w wr):=hb;clear hn hb;by_cases hlt:i < xs.length
  ·obtain ⟨b,off,rfl,hb,hat⟩:=HR.out.at hlt;have hA:=(hat.below hb HW.out) i hlt;have HT:Hid ((xs.take (i+1)).any f=f xs[i]):=by
    unfold Hid;rw [List.take_succ_eq_append_getElem hlt,List.any_append,HN.out]; simp
   have HX:Hid (f xs[i]=true→findI f xs=i):=fun h=>findI_at f xs i hlt HN.out h
   have HC2:Hid _:=HC.out wr HW.out xs[i] (List.getElem_mem hlt);generalize xs[i]=q at *;have c0:wr.cell? ⟨b,off+i*7,none⟩=some (.int .i64 q.proto):=hA 0 _ rfl;have c1:wr.cell? ⟨b,off+i*7+1,none⟩=some (.string q.inn):=hA 1 _ rfl;have c2:wr.cell? ⟨b,off+i*7+2,none⟩=some (.int .i64 q.inPort):=hA 2 _ rfl;have c3:wr.cell? ⟨b,off+i*7+3,none⟩=some (.string q.peer):=hA 3 _ rfl;have c4:wr.cell? ⟨b,off+i*7+4,none⟩=some (.int .i64 q.peerPort):=hA 4 _ rfl;have c5:wr.cell? ⟨b,off+i*7+5,none⟩=some (.int .i64 q.state):=hA 5 _ rfl;have c6:wr.cell? ⟨b,off+i*7+6,none⟩=some (.int .i64 q.untl):=hA 6 _ rfl;clear hA hat;obtain ⟨cl,hcl⟩ : ∃ y,y=f q:=⟨_,rfl⟩;rw [← hcl] at HT HX HC2;clear hcl;unfold ssC at HC2;go_wp2_with fail
   refine Calls.mono HC2.out ?_;rintro e w1 ⟨rfl,b1⟩;have HW1:Hid (Below w.heap.size w w1):=HW.out.trans (b1.mono HW.out.size);clear b1 c0 c1 c2 c3 c4 c5 c6
   cases cl with
   | true =>
    have HF:Hid ((i:Int)=ans):=by unfold Hid; rw [HA.out,HX.out rfl]
    go_wp2_with fail
    go_ret;exact ⟨ret_int HF.out,HW1.out⟩
   | false =>
    go_wp2_with fail
    go_roundw
    case rel=>exact ⟨i+1,by omega,by go_num,HT.out,HW1.out⟩
    case measure=>simp [intOf]; omega
  ·have hie:i=xs.length:=by omega
   have HF:Hid ((-1:Int)=ans):=by
    have:=HN.out;rw [hie,List.take_of_length_le (Nat.le_refl _)] at this;unfold Hid; rw [HA.out,findI_no f xs this]
   go_wp2_with fail
   go_ret;exact ⟨ret_int HF.out,HW.out⟩
theorem sessAt1_any (q:Ss) (p:Sk) (B1:Nat) (w:World) (hk0:HoldsL w B1 (skL p)) :
  Calls Tryz.prog 157 #[ssC q,.pointer (some ⟨B1,0,none⟩)] w fun e w'=>e=.returned (.bool (sameSk (sessK q) p))∧Below w.heap.size w w':=by
 have HF:Hid (∀ W,Calls Tryz.prog 124 #[.agg #[.int .i64 q.proto,.string q.inn,.int .i64 q.inPort,.string q.peer,.int .i64 q.peerPort,.int .i64 q.state,.int .i64 q.untl]] W fun e w'=>e=.returned (.agg #[.int .i64 q.proto,.string q.inn,.int .i64 q.inPort,.string q.peer,.int .i64 q.peerPort])∧Below W.heap.size W w'):=fun W=>sessKey_any q W
 have HE:Hid (∀ W,(binOp .eql 171 (.agg #[.int .i64 q.proto,.string q.inn,.int .i64 q.inPort,.string q.peer,.int .i64 q.peerPort]) (.agg #[.int .i64 p.host.proto,.string p.host.addr,.int .i64 p.host.port,.string p.peer,.int .i64 p.peerPort])).run Tryz.prog W=.ok (.bool (sameSk (sessK q) p)) W):=fun W=>eqSk_bin (sessK q) p W
 generalize sameSk (sessK q) p=ans at *;have HZ:Hid (Below w.heap.size w (w.alloc (.cells #[.int .i64 q.proto,.string q.inn,.int .i64 q.inPort,.string q.peer,.int .i64 q.peerPort,.int .i64 q.state,.int .i64 q.untl] 150))):=(Below.refl _ _).alloc (Nat.le_refl _) _;have HQ:Hid (HoldsL (w.alloc (.cells #[.int .i64 q.proto,.string q.inn,.int .i64 q.inPort,.string q.peer,.int .i64 q.peerPort,.int .i64 q.state,.int .i64 q.untl] 150)) w.heap.size (ssL q)):=HoldsL.new w (ssL q) 150;have HK0:Hid (HoldsL (w.alloc (.cells #[.int .i64 q.proto,.string q.inn,.int .i64 q.inPort,.string q.peer,.int .i64 q.peerPort,.int .i64 q.state,.int .i64 q.untl] 150)) B1 (skL p)):=hk0.alloc _;clear hk0;unfold ssC;go_enter Tryz.func157,Tryz.ntmps157
 go_upto_region 1 with fail
 generalize w.alloc (.cells #[.int .i64 q.proto,.string q.inn,.int .i64 q.inPort,.string q.peer,.int .i64 q.peerPort,.int .i64 q.state,.int .i64 q.untl] 150)=W at *;go_cut [3] (fun v wx=>v=.bool ans∧Below w.heap.size w wx)
 case first =>
  rename_i J K2 hJ hK2;have HCP:Hid (∀ wy,Below W.drew.heap.size W.drew wy→HoldsL wy w.heap.size (ssL q)∧HoldsL wy B1 (skL p)):=fun wy hy=>⟨HQ.out.drew.kept (by simp [ssL]) hy,HK0.out.drew.kept (by simp [enL,skL]) hy⟩
  refine wp_region_growH [4,5,6,7,3] (by kernel_rfl) (by kernel_rfl) ?_;apply GCh.v0
  ·rfl
  ·intro K' a wy ho hd hb hK kz;have o2:=ho 2 (by decide);simp [slot] at o2;clear hd ho;obtain ⟨hq,h0⟩:=HCP.out wy hb;obtain ⟨c0,c1,c2,c3,c4,c5,c6⟩:=hq.c7;obtain ⟨k00,k01,k02,k03,k04⟩:=h0.c5;go_simp;try go_bits
   exact kz _ rfl
  apply GCh.v1
  ·rfl
  ·intro K' a wy ho hd hb hK kz;have q0:=hd ⟨0,.data⟩ (by simp) rfl;simp [rAt,IsV,slot] at q0;clear hd ho;go_simp;refine (HF.out wy).mono ?_;rintro e wz ⟨rfl,hz⟩;exact hK _ _ rfl hz
  apply GCh.v2
  ·rfl
  ·intro K' a wy ho hd hb hK kz;have o1:=ho 1 (by decide);simp [slot] at o1;clear hd ho;obtain ⟨hq,h0⟩:=HCP.out wy hb;obtain ⟨c0,c1,c2,c3,c4,c5,c6⟩:=hq.c7;obtain ⟨k00,k01,k02,k03,k04⟩:=h0.c5;go_simp;try go_bits
   exact kz _ rfl
  apply GCh.v3
  ·rfl
  ·intro K' a wy ho hd hb hK kz;have q1:=hd ⟨1,.data⟩ (by simp) rfl;simp [rAt,IsV,slot] at q1;have q2:=hd ⟨2,.data⟩ (by simp) rfl;simp [rAt,IsV,slot] at q2;clear hd ho;refine wp_bin_val .eql 171 171 (.tmp 5) (.tmp 6) rfl (by simp [Act.eval,slot,q1]) (by simp [Act.eval,slot,q2]) (run_eqGuard_agg _ _ _ _ _ _ _ (by kernel_rfl)) (HE.out wy) ?_;exact kz _ rfl
  apply GCh.v4
  ·rfl
  ·intro K' a wy ho hd hb hK kz;have q3:=hd ⟨3,.data⟩ (by simp) rfl;simp [rAt,IsV,slot] at q3;clear hd ho;go_simp;try go_bits
   exact kz _ rfl
  intro X wz hR hz;obtain ⟨x0,x1,x2,x3,x4,-⟩:=hR;simp only [IsV] at x0 x1 x2 x3 x4;simp only [putsFrom,x0,x1,x2,x3,x4];clear x0 x1 x2 x3 x4;go_simp;try go_bits
  refine hK2 _ _ (hJ _ _ ?_);(repeat apply Exists.intro)
  refine ⟨⟨rfl,HZ.out.drew.trans (hz.mono HZ.out.size)⟩,rfl⟩
 case rest =>
  obtain ⟨rfl,hb⟩:=hcut;have HB:Hid (Below w.heap.size w wc):=hb;clear hb;go_wp2_with fail
  go_ret;exact ⟨rfl,HB.out⟩
theorem hasSess1_any (q:Ss) (p:En) (B1:Nat) (w:World) (hk0:HoldsL w B1 (enL p)) :
  Calls Tryz.prog 136 #[ssC q,.pointer (some ⟨B1,0,none⟩)] w fun e w'=>e=.returned (.bool (sameEn (sessE q) p))∧Below w.heap.size w w':=by
 have HF:Hid (∀ W,Calls Tryz.prog 124 #[.agg #[.int .i64 q.proto,.string q.inn,.int .i64 q.inPort,.string q.peer,.int .i64 q.peerPort,.int .i64 q.state,.int .i64 q.untl]] W fun e w'=>e=.returned (.agg #[.int .i64 q.proto,.string q.inn,.int .i64 q.inPort,.string q.peer,.int .i64 q.peerPort])∧Below W.heap.size W w'):=fun W=>sessKey_any q W
 have HE:Hid (∀ W,(binOp .eql 168 (.agg #[.int .i64 q.proto,.string q.inn,.int .i64 q.inPort]) (.agg #[.int .i64 p.proto,.string p.addr,.int .i64 p.port])).run Tryz.prog W=.ok (.bool (sameEn (sessE q) p)) W):=fun W=>eqEn_bin (sessE q) p W
 have HFL:Hid (∀ W,Sem.run Tryz.prog (Instr.field 171 (.agg #[.int .i64 q.proto,.string q.inn,.int .i64 q.inPort,.string q.peer,.int .i64 q.peerPort]) 0) W=.ok (.agg #[.int .i64 q.proto,.string q.inn,.int .i64 q.inPort]) W):=fun W=>by kernel_rfl
 generalize sameEn (sessE q) p=ans at *;have HZ:Hid (Below w.heap.size w (w.alloc (.cells #[.int .i64 q.proto,.string q.inn,.int .i64 q.inPort,.string q.peer,.int .i64 q.peerPort,.int .i64 q.state,.int .i64 q.untl] 150))):=(Below.refl _ _).alloc (Nat.le_refl _) _;have HQ:Hid (HoldsL (w.alloc (.cells #[.int .i64 q.proto,.string q.inn,.int .i64 q.inPort,.string q.peer,.int .i64 q.peerPort,.int .i64 q.state,.int .i64 q.untl] 150)) w.heap.size (ssL q)):=HoldsL.new w (ssL q) 150;have HK0:Hid (HoldsL (w.alloc (.cells #[.int .i64 q.proto,.string q.inn,.int .i64 q.inPort,.string q.peer,.int .i64 q.peerPort,.int .i64 q.state,.int .i64 q.untl] 150)) B1 (enL p)):=hk0.alloc _;clear hk0;unfold ssC;go_enter Tryz.func136,Tryz.ntmps136
 go_upto_region 1 with fail
 generalize w.alloc (.cells #[.int .i64 q.proto,.string q.inn,.int .i64 q.inPort,.string q.peer,.int .i64 q.peerPort,.int .i64 q.state,.int .i64 q.untl] 150)=W at *;go_cut [3] (fun v wx=>v=.bool ans∧Below w.heap.size w wx)
 case first =>
  rename_i J K2 hJ hK2;have HCP:Hid (∀ wy,Below W.drew.heap.size W.drew wy→HoldsL wy w.heap.size (ssL q)∧HoldsL wy B1 (enL p)):=fun wy hy=>⟨HQ.out.drew.kept (by simp [ssL]) hy,HK0.out.drew.kept (by simp [enL,skL]) hy⟩
  refine wp_region_growH [4,5,6,7,8,3] (by kernel_rfl) (by kernel_rfl) ?_;apply GCh.v0
  ·rfl
  ·intro K' a wy ho hd hb hK kz;have o2:=ho 2 (by decide);simp [slot] at o2;clear hd ho;obtain ⟨hq,h0⟩:=HCP.out wy hb;obtain ⟨c0,c1,c2,c3,c4,c5,c6⟩:=hq.c7;obtain ⟨k00,k01,k02⟩:=h0.c3;go_simp;try go_bits
   exact kz _ rfl
  apply GCh.v1
  ·rfl
  ·intro K' a wy ho hd hb hK kz;have q0:=hd ⟨0,.data⟩ (by simp) rfl;simp [rAt,IsV,slot] at q0;clear hd ho;go_simp;refine (HF.out wy).mono ?_;rintro e wz ⟨rfl,hz⟩;exact hK _ _ rfl hz
  apply GCh.v2
  ·rfl
  ·intro K' a wy ho hd hb hK kz;have q1:=hd ⟨1,.data⟩ (by simp) rfl;simp [rAt,IsV,slot] at q1;clear hd ho;have hfl:=HFL.out wy;go_simp;try go_bits
   exact kz _ rfl
  apply GCh.v3
  ·rfl
  ·intro K' a wy ho hd hb hK kz;have o1:=ho 1 (by decide);simp [slot] at o1;clear hd ho;obtain ⟨hq,h0⟩:=HCP.out wy hb;obtain ⟨c0,c1,c2,c3,c4,c5,c6⟩:=hq.c7;obtain ⟨k00,k01,k02⟩:=h0.c3;go_simp;try go_bits
   exact kz _ rfl
  apply GCh.v4
  ·rfl
  ·intro K' a wy ho hd hb hK kz;have q2:=hd ⟨2,.data⟩ (by simp) rfl;simp [rAt,IsV,slot] at q2;have q3:=hd ⟨3,.data⟩ (by simp) rfl;simp [rAt,IsV,slot] at q3;clear hd ho;refine wp_bin_val .eql 168 168 (.tmp 6) (.tmp 7) rfl (by simp [Act.eval,slot,q2]) (by simp [Act.eval,slot,q3]) (run_eqGuard_agg _ _ _ _ _ _ _ (by kernel_rfl)) (HE.out wy) ?_;exact kz _ rfl
  apply GCh.v5
  ·rfl
  ·intro K' a wy ho hd hb hK kz;have q4:=hd ⟨4,.data⟩ (by simp) rfl;simp [rAt,IsV,slot] at q4;clear hd ho;go_simp;try go_bits
   exact kz _ rfl
  intro X wz hR hz;obtain ⟨x0,x1,x2,x3,x4,x5,-⟩:=hR;simp only [IsV] at x0 x1 x2 x3 x4 x5;simp only [putsFrom,x0,x1,x2,x3,x4,x5];clear x0 x1 x2 x3 x4 x5;go_simp;try go_bits
  refine hK2 _ _ (hJ _ _ ?_);(repeat apply Exists.intro)
  refine ⟨⟨rfl,HZ.out.drew.trans (hz.mono HZ.out.size)⟩,rfl⟩
 case rest =>
  obtain ⟨rfl,hb⟩:=hcut;have HB:Hid (Below w.heap.size w wc):=hb;clear hb;go_wp2_with fail
  go_ret;exact ⟨rfl,HB.out⟩
theorem cloneS_any (s:ByteArray) (w:World) (h:s.size≤1048576) :
  Calls Tryz.prog 78 #[.string s] w fun e w'=>e=.returned (.string s)∧Below w.heap.size w w':=by
 have HC:Hid (∀ W,Calls Tryz.prog 111 #[.string s] W fun e w'=>e=.returned (.string s)∧Below W.heap.size W w'):=fun W=>Tryz.stringslite_Clone s W (by omega)
 go_enter Tryz.func78,Tryz.ntmps78
 go_wp2_with fail
 refine (HC.out _).mono ?_;rintro e w1 ⟨rfl,b1⟩;go_wp2_with fail
 go_ret;exact ⟨rfl,b1⟩
theorem copyBind_any (p:Bd) (w:World) (h1:p.inn.size≤1048576) (h2:p.out.size≤1048576) :
  Calls Tryz.prog 108 #[bdC p] w fun e w'=>e=.returned (bdC p)∧Below w.heap.size w w':=by
 have H1:Hid (∀ W,Calls Tryz.prog 78 #[.string p.inn] W fun e w'=>e=.returned (.string p.inn)∧Below W.heap.size W w'):=fun W=>cloneS_any _ W h1
 have H2:Hid (∀ W,Calls Tryz.prog 78 #[.string p.out] W fun e w'=>e=.returned (.string p.out)∧Below W.heap.size W w'):=fun W=>cloneS_any _ W h2
 have hun:undef=Value.tuple #[]:=rfl;clear h1 h2;have HP:Hid (HoldsL ((w.alloc (.cells #[.int .i64 p.proto,.string p.inn,.int .i64 p.inPort,.string p.out,.int .i64 p.outPort] 153)).alloc (.cells #[.int .i64 0,.string ⟨#[]⟩,.int .i64 0,.string ⟨#[]⟩,.int .i64 0] 153)) w.heap.size (bdL p)):=(HoldsL.new w (bdL p) _).alloc _;have HO:Hid (HoldsL ((w.alloc (.cells #[.int .i64 p.proto,.string p.inn,.int .i64 p.inPort,.string p.out,.int .i64 p.outPort] 153)).alloc (.cells #[.int .i64 0,.string ⟨#[]⟩,.int .i64 0,.string ⟨#[]⟩,.int .i64 0] 153)) (w.heap.size+1) [.int .i64 0,.string ⟨#[]⟩,.int .i64 0,.string ⟨#[]⟩,.int .i64 0]):=by
  have h:=HoldsL.new (w.alloc (.cells #[.int .i64 p.proto,.string p.inn,.int .i64 p.inPort,.string p.out,.int .i64 p.outPort] 153)) [.int .i64 0,.string ⟨#[]⟩,.int .i64 0,.string ⟨#[]⟩,.int .i64 0] 153;rwa [World.size_alloc] at h
 have HZ:Hid (Below w.heap.size w ((w.alloc (.cells #[.int .i64 p.proto,.string p.inn,.int .i64 p.inPort,.string p.out,.int .i64 p.outPort] 153)).alloc (.cells #[.int .i64 0,.string ⟨#[]⟩,.int .i64 0,.string ⟨#[]⟩,.int .i64 0] 153))):=((Below.refl _ _).alloc (Nat.le_refl _) _).alloc (by simp) _;unfold bdC;go_enter Tryz.func108,Tryz.ntmps108
 go_upto_region 1 with fail
 generalize (w.alloc (.cells #[.int .i64 p.proto,.string p.inn,.int .i64 p.inPort,.string p.out,.int .i64 p.outPort] 153)).alloc (.cells #[.int .i64 0,.string ⟨#[]⟩,.int .i64 0,.string ⟨#[]⟩,.int .i64 0] 153)=W at *;go_cut [3] (fun v wx=>HoldsL wx w.heap.size (bdL p)∧HoldsL wx (w.heap.size+1) [.int .i64 0,.string ⟨#[]⟩,.int .i64 0,.string ⟨#[]⟩,.int .i64 0]∧Below w.heap.size w wx)
 case first =>
  rename_i J K2 hJ hK2;clear hun;have HCP:Hid (∀ wy,Below W.drew.heap.size W.drew wy→HoldsL wy w.heap.size (bdL p)∧HoldsL wy (w.heap.size+1) [.int .i64 0,.string ⟨#[]⟩,.int .i64 0,.string ⟨#[]⟩,.int .i64 0]):=fun wy hy=>⟨HP.out.drew.kept (by simp [bdL]) hy,HO.out.drew.kept (by simp) hy⟩
  refine wp_region_growV [3,4,5,6,7,8,9] (by kernel_rfl) (by kernel_rfl) ?_;apply GChV.v0
  ·rfl
  ·intro K' a wy ho hd hb hK kz;have o1:=ho 1 (by decide);simp [slot] at o1;clear hd ho;go_simp;try go_bits
   exact kz _ rfl
  apply GChV.v1
  ·rfl
  ·intro K' a wy ho hd hb hK kz;have q0:=hd ⟨0,.data⟩ (by simp) rfl;simp [rAt,IsV,slot] at q0;clear hd ho;have hld:=(HCP.out wy hb).1;obtain ⟨k0,k1,k2,k3,k4⟩:=hld.c5;go_simp;try go_bits
   exact kz _ rfl
  apply GChV.v2
  ·rfl
  ·intro K' a wy ho hd hb hK kz;have q1:=hd ⟨1,.data⟩ (by simp) rfl;simp [rAt,IsV,slot] at q1;clear hd ho;go_simp;refine (H1.out wy).mono ?_;rintro e wz ⟨rfl,hz⟩;exact hK _ _ rfl hz
  apply GChV.v3
  ·rfl
  ·intro K' a wy ho hd hb hK kz;have o1:=ho 1 (by decide);simp [slot] at o1;clear hd ho;go_simp;try go_bits
   exact kz _ rfl
  apply GChV.v4
  ·rfl
  ·intro K' a wy ho hd hb hK kz;have q3:=hd ⟨3,.data⟩ (by simp) rfl;simp [rAt,IsV,slot] at q3;clear hd ho;have hld:=(HCP.out wy hb).1;obtain ⟨k0,k1,k2,k3,k4⟩:=hld.c5;go_simp;try go_bits
   exact kz _ rfl
  apply GChV.v5
  ·rfl
  ·intro K' a wy ho hd hb hK kz;have q4:=hd ⟨4,.data⟩ (by simp) rfl;simp [rAt,IsV,slot] at q4;clear hd ho;go_simp;refine (H2.out wy).mono ?_;rintro e wz ⟨rfl,hz⟩;exact hK _ _ rfl hz
  apply GChV.v6
  ·rfl
  ·intro K' a wy ho hd hb hK kz;have o1:=ho 1 (by decide);simp [slot] at o1;clear hd ho;go_simp;try go_bits
   exact kz _ rfl
  intro X wz hR hz;obtain ⟨x0,x1,x2,x3,x4,x5,x6,-⟩:=hR;simp only [IsV] at x0 x1 x2 x3 x4 x5 x6;simp only [putsFrom,x0,x1,x2,x3,x4,x5,x6];clear x0 x1 x2 x3 x4 x5 x6;obtain ⟨hh,hz0⟩:=HCP.out wz hz;have HB:Hid (Below w.heap.size w wz):=HZ.out.drew.trans (hz.mono HZ.out.size);have f1:wz.frozen? ⟨w.heap.size,1,none⟩=false:=hh.free (j:=1) (by simp [bdL]);have f3:wz.frozen? ⟨w.heap.size,3,none⟩=false:=hh.free (j:=3) (by simp [bdL]);obtain ⟨k0,k1,k2,k3,k4⟩:=hh.c5;have HH:Hid (HoldsL wz w.heap.size (bdL p)):=hh;have HH0:Hid (HoldsL wz (w.heap.size+1) [.int .i64 0,.string ⟨#[]⟩,.int .i64 0,.string ⟨#[]⟩,.int .i64 0]):=hz0;clear hh hz0;intro K10 hK10;go_simp;refine hK10 _ _ ?_;intro K11 hK11;go_simp;refine hK11 _ _ ?_;intro K12 hK12;go_simp;refine hK12 _ _ ?_;show Exit.then _ _ _ _ _;refine hK2 _ _ (hJ _ _ ?_);(repeat apply Exists.intro)
  refine ⟨⟨(HH.out.set 1 _).set 3 _,(HH0.out.setOther (by omega) _).setOther (by omega) _,?_⟩,rfl⟩;exact (HB.out.setCell (p:=⟨w.heap.size,1,none⟩) (Nat.le_refl _) _).setCell (p:=⟨w.heap.size,3,none⟩) (Nat.le_refl _) _
 case rest =>
  obtain ⟨hh,h0,hb⟩:=hcut;have HB:Hid (Below w.heap.size w wc):=hb;obtain ⟨k0,k1,k2,k3,k4⟩:=hh.c5;obtain ⟨y0,y1,y2,y3,y4⟩:=h0.f5;obtain ⟨z0,z1,z2,z3,z4⟩:=h0.c5;clear hh h0 hb;go_wp2_with fail
  refine bodyPost_ret (v:=.agg #[.int .i64 p.proto,.string p.inn,.int .i64 p.inPort,.string p.out,.int .i64 p.outPort]) (by simp [results,Tryz.results108,go_sem,z0,z1,z2,z3,z4]) rfl ⟨rfl,?_⟩;have hsz:w.heap.size≤w.heap.size+1:=Nat.le_succ _;exact (((((HB.out.setCell (p:=⟨w.heap.size+1,0,none⟩) hsz _).setCell (p:=⟨w.heap.size+1,1,none⟩) hsz _).setCell (p:=⟨w.heap.size+1,2,none⟩) hsz _).setCell (p:=⟨w.heap.size+1,3,none⟩) hsz _).setCell (p:=⟨w.heap.size+1,4,none⟩) hsz _)
theorem copySession_any (p:Ss) (w:World) (h1:p.inn.size≤1048576) (h2:p.peer.size≤1048576) :
  Calls Tryz.prog 106 #[ssC p] w fun e w'=>e=.returned (ssC p)∧Below w.heap.size w w':=by
 have H1:Hid (∀ W,Calls Tryz.prog 78 #[.string p.inn] W fun e w'=>e=.returned (.string p.inn)∧Below W.heap.size W w'):=fun W=>cloneS_any _ W h1
 have H2:Hid (∀ W,Calls Tryz.prog 78 #[.string p.peer] W fun e w'=>e=.returned (.string p.peer)∧Below W.heap.size W w'):=fun W=>cloneS_any _ W h2
 have hun:undef=Value.tuple #[]:=rfl;clear h1 h2;have HP:Hid (HoldsL ((w.alloc (.cells #[.int .i64 p.proto,.string p.inn,.int .i64 p.inPort,.string p.peer,.int .i64 p.peerPort,.int .i64 p.state,.int .i64 p.untl] 150)).alloc (.cells #[.int .i64 0,.string ⟨#[]⟩,.int .i64 0,.string ⟨#[]⟩,.int .i64 0,.int .i64 0,.int .i64 0] 150)) w.heap.size (ssL p)):=(HoldsL.new w (ssL p) _).alloc _;have HO:Hid (HoldsL ((w.alloc (.cells #[.int .i64 p.proto,.string p.inn,.int .i64 p.inPort,.string p.peer,.int .i64 p.peerPort,.int .i64 p.state,.int .i64 p.untl] 150)).alloc (.cells #[.int .i64 0,.string ⟨#[]⟩,.int .i64 0,.string ⟨#[]⟩,.int .i64 0,.int .i64 0,.int .i64 0] 150)) (w.heap.size+1) [.int .i64 0,.string ⟨#[]⟩,.int .i64 0,.string ⟨#[]⟩,.int .i64 0,.int .i64 0,.int .i64 0]):=by
  have h:=HoldsL.new (w.alloc (.cells #[.int .i64 p.proto,.string p.inn,.int .i64 p.inPort,.string p.peer,.int .i64 p.peerPort,.int .i64 p.state,.int .i64 p.untl] 150)) [.int .i64 0,.string ⟨#[]⟩,.int .i64 0,.string ⟨#[]⟩,.int .i64 0,.int .i64 0,.int .i64 0] 150;rwa [World.size_alloc] at h
 have HZ:Hid (Below w.heap.size w ((w.alloc (.cells #[.int .i64 p.proto,.string p.inn,.int .i64 p.inPort,.string p.peer,.int .i64 p.peerPort,.int .i64 p.state,.int .i64 p.untl] 150)).alloc (.cells #[.int .i64 0,.string ⟨#[]⟩,.int .i64 0,.string ⟨#[]⟩,.int .i64 0,.int .i64 0,.int .i64 0] 150))):=((Below.refl _ _).alloc (Nat.le_refl _) _).alloc (by simp) _;unfold ssC;go_enter Tryz.func106,Tryz.ntmps106
 go_upto_region 1 with fail
 generalize (w.alloc (.cells #[.int .i64 p.proto,.string p.inn,.int .i64 p.inPort,.string p.peer,.int .i64 p.peerPort,.int .i64 p.state,.int .i64 p.untl] 150)).alloc (.cells #[.int .i64 0,.string ⟨#[]⟩,.int .i64 0,.string ⟨#[]⟩,.int .i64 0,.int .i64 0,.int .i64 0] 150)=W at *;go_cut [3] (fun v wx=>HoldsL wx w.heap.size (ssL p)∧HoldsL wx (w.heap.size+1) [.int .i64 0,.string ⟨#[]⟩,.int .i64 0,.string ⟨#[]⟩,.int .i64 0,.int .i64 0,.int .i64 0]∧Below w.heap.size w wx)
 case first =>
  rename_i J K2 hJ hK2;clear hun;have HCP:Hid (∀ wy,Below W.drew.heap.size W.drew wy→HoldsL wy w.heap.size (ssL p)∧HoldsL wy (w.heap.size+1) [.int .i64 0,.string ⟨#[]⟩,.int .i64 0,.string ⟨#[]⟩,.int .i64 0,.int .i64 0,.int .i64 0]):=fun wy hy=>⟨HP.out.drew.kept (by simp [ssL]) hy,HO.out.drew.kept (by simp) hy⟩
  refine wp_region_growV [3,4,5,6,7,8,9] (by kernel_rfl) (by kernel_rfl) ?_;apply GChV.v0
  ·rfl
  ·intro K' a wy ho hd hb hK kz;have o1:=ho 1 (by decide);simp [slot] at o1;clear hd ho;go_simp;try go_bits
   exact kz _ rfl
  apply GChV.v1
  ·rfl
  ·intro K' a wy ho hd hb hK kz;have q0:=hd ⟨0,.data⟩ (by simp) rfl;simp [rAt,IsV,slot] at q0;clear hd ho;have hld:=(HCP.out wy hb).1;obtain ⟨k0,k1,k2,k3,k4,k5,k6⟩:=hld.c7;go_simp;try go_bits
   exact kz _ rfl
  apply GChV.v2
  ·rfl
  ·intro K' a wy ho hd hb hK kz;have q1:=hd ⟨1,.data⟩ (by simp) rfl;simp [rAt,IsV,slot] at q1;clear hd ho;go_simp;refine (H1.out wy).mono ?_;rintro e wz ⟨rfl,hz⟩;exact hK _ _ rfl hz
  apply GChV.v3
  ·rfl
  ·intro K' a wy ho hd hb hK kz;have o1:=ho 1 (by decide);simp [slot] at o1;clear hd ho;go_simp;try go_bits
   exact kz _ rfl
  apply GChV.v4
  ·rfl
  ·intro K' a wy ho hd hb hK kz;have q3:=hd ⟨3,.data⟩ (by simp) rfl;simp [rAt,IsV,slot] at q3;clear hd ho;have hld:=(HCP.out wy hb).1;obtain ⟨k0,k1,k2,k3,k4,k5,k6⟩:=hld.c7;go_simp;try go_bits
   exact kz _ rfl
  apply GChV.v5
  ·rfl
  ·intro K' a wy ho hd hb hK kz;have q4:=hd ⟨4,.data⟩ (by simp) rfl;simp [rAt,IsV,slot] at q4;clear hd ho;go_simp;refine (H2.out wy).mono ?_;rintro e wz ⟨rfl,hz⟩;exact hK _ _ rfl hz
  apply GChV.v6
  ·rfl
  ·intro K' a wy ho hd hb hK kz;have o1:=ho 1 (by decide);simp [slot] at o1;clear hd ho;go_simp;try go_bits
   exact kz _ rfl
  intro X wz hR hz;obtain ⟨x0,x1,x2,x3,x4,x5,x6,-⟩:=hR;simp only [IsV] at x0 x1 x2 x3 x4 x5 x6;simp only [putsFrom,x0,x1,x2,x3,x4,x5,x6];clear x0 x1 x2 x3 x4 x5 x6;obtain ⟨hh,hz0⟩:=HCP.out wz hz;have HB:Hid (Below w.heap.size w wz):=HZ.out.drew.trans (hz.mono HZ.out.size);have f1:wz.frozen? ⟨w.heap.size,1,none⟩=false:=hh.free (j:=1) (by simp [ssL]);have f3:wz.frozen? ⟨w.heap.size,3,none⟩=false:=hh.free (j:=3) (by simp [ssL]);obtain ⟨k0,k1,k2,k3,k4,k5,k6⟩:=hh.c7;have HH:Hid (HoldsL wz w.heap.size (ssL p)):=hh;have HH0:Hid (HoldsL wz (w.heap.size+1) [.int .i64 0,.string ⟨#[]⟩,.int .i64 0,.string ⟨#[]⟩,.int .i64 0,.int .i64 0,.int .i64 0]):=hz0;clear hh hz0;intro K10 hK10;go_simp;refine hK10 _ _ ?_;intro K11 hK11;go_simp;refine hK11 _ _ ?_;intro K12 hK12;go_simp;refine hK12 _ _ ?_;show Exit.then _ _ _ _ _;refine hK2 _ _ (hJ _ _ ?_);(repeat apply Exists.intro)
  refine ⟨⟨(HH.out.set 1 _).set 3 _,(HH0.out.setOther (by omega) _).setOther (by omega) _,?_⟩,rfl⟩;exact (HB.out.setCell (p:=⟨w.heap.size,1,none⟩) (Nat.le_refl _) _).setCell (p:=⟨w.heap.size,3,none⟩) (Nat.le_refl _) _
 case rest =>
  obtain ⟨hh,h0,hb⟩:=hcut;have HB:Hid (Below w.heap.size w wc):=hb;obtain ⟨k0,k1,k2,k3,k4,k5,k6⟩:=hh.c7;obtain ⟨y0,y1,y2,y3,y4,y5,y6⟩:=h0.f7;obtain ⟨z0,z1,z2,z3,z4,z5,z6⟩:=h0.c7;clear hh h0 hb;go_wp2_with fail
  refine bodyPost_ret (v:=.agg #[.int .i64 p.proto,.string p.inn,.int .i64 p.inPort,.string p.peer,.int .i64 p.peerPort,.int .i64 p.state,.int .i64 p.untl]) (by simp [results,Tryz.results106,go_sem,z0,z1,z2,z3,z4,z5,z6]) rfl ⟨rfl,?_⟩;have hsz:w.heap.size≤w.heap.size+1:=Nat.le_succ _;exact (((((((HB.out.setCell (p:=⟨w.heap.size+1,0,none⟩) hsz _).setCell (p:=⟨w.heap.size+1,1,none⟩) hsz _).setCell (p:=⟨w.heap.size+1,2,none⟩) hsz _).setCell (p:=⟨w.heap.size+1,3,none⟩) hsz _).setCell (p:=⟨w.heap.size+1,4,none⟩) hsz _).setCell (p:=⟨w.heap.size+1,5,none⟩) hsz _).setCell (p:=⟨w.heap.size+1,6,none⟩) hsz _)
open Go.ChangeShapes Go.WideShapes
section
variable {α:Type} {en:α→List Value} {n:Nat} {w W:World}
theorem SlLaid.grownNe {B X:Nat} {xs:List α} {L k:Nat} (h:SlLaid en n w B xs L k) (hg:w.grownBy W (some X)) (hne:B≠X):SlLaid en n W B xs L k:=by
 have hb:W.heap[B]?=w.heap[B]?:=hg.block B h.blk (fun e=>hne (by injection e));have hc:∀ o,W.cell? ⟨B,o,none⟩=w.cell? ⟨B,o,none⟩:=fun o=>by unfold World.cell?; rw [show (⟨B,o,none⟩ : Addr).block=B from rfl,hb]
 have hf:∀ o,W.frozen? ⟨B,o,none⟩=w.frozen? ⟨B,o,none⟩:=fun o=>World.frozen?_of_block (a:=⟨B,o,none⟩) hb
 exact ⟨Nat.lt_of_lt_of_le h.blk hg.size,fun i hi hk j v hv=>(hc _).trans (h.at0 i hi hk j v hv),fun i hi=>by rw [hc]; exact h.there i hi,fun i hi=>by rw [hf]; exact h.free i hi⟩
end
structure BbMk (base:Nat) (w:World) (a b:Option Addr) (k nb ns:Nat):Prop where
 bd:MkOwn 5 bindM base w a k nb
 ss:MkOwn 7 sessionM base w b (k+5*nb) ns
theorem BbMk.kept {base:Nat} {w W:World} {a b:Option Addr} {k nb ns:Nat} (h:BbMk base w a b k nb ns) (hB:Below w.heap.size w W):BbMk base W a b k nb ns:=⟨h.bd.kept hB,h.ss.kept hB⟩
theorem heldBib_own (base nb ns:Nat) (a b:Option Addr) (ca cb k:Nat) (w:World) (hk:0 < k) (hL:k+5*nb+7*ns≤1073741824) (hs:BbMk base w a b k nb ns) :
  Calls Tryz.prog 62 #[.agg #[.slice a nb ca,.slice b ns cb],.int .i64 k] w fun e w'=>e=.returned (.int .i64 ((k+5*nb+7*ns:Nat):Int))∧Below w.heap.size w w':=by
 have GA:Hid (Below w.heap.size w (w.alloc (.cells #[.slice a nb ca,.slice b ns cb] 36))):=(Below.refl _ _).alloc (Nat.le_refl _) _;have HM:Hid (∀ W,Below w.heap.size w W→Calls Tryz.prog 97 #[.slice a nb ca,.int .i64 k] W fun e w'=>e=.returned (.int .i64 ((k+5*nb:Nat):Int))∧Below W.heap.size W w'):=fun W hW=>heldBindS_own base nb a ca k W hk (by omega) (hs.kept hW).bd
 have HN:Hid (∀ W,Below w.heap.size w W→Calls Tryz.prog 98 #[.slice b ns cb,.int .i64 ((k+5*nb:Nat):Int)] W fun e w'=>e=.returned (.int .i64 ((k+5*nb+7*ns:Nat):Int))∧Below W.heap.size W w'):=fun W hW=>heldSessionS_own base ns b cb (k+5*nb) W (by omega) hL (hs.kept hW).ss
 have H0:Hid _:=HoldsL.new w [.slice a nb ca,.slice b ns cb] 36;obtain ⟨k1,hk1⟩ : ∃ k1,k1=k+5*nb:=⟨_,rfl⟩;rw [← hk1] at HM HN hL ⊢;obtain ⟨k2,hk2⟩ : ∃ k2,k2=k1+7*ns:=⟨_,rfl⟩;rw [← hk2] at HN hL ⊢;have h1:0 < k1:=by omega
 have h2:0 < k2:=by omega
 have h3:k1≤1073741824:=by omega
 clear hk1 hk2 hs;go_enter Tryz.func62,Tryz.ntmps62
 go_wp2_with fail
 refine (HM.out _ GA.out).mono ?_;rintro e w1 ⟨rfl,q1⟩;have G1:Hid (Below w.heap.size w w1):=GA.out.trans (q1.mono GA.out.size);have c1:w1.cell? ⟨w.heap.size,1,none⟩=some (.slice b ns cb):=(H0.out.kept (by simp) q1).cell rfl;clear q1;go_wp2_with fail
 refine (HN.out _ G1.out).mono ?_;rintro e w2 ⟨rfl,q2⟩;have G2:Hid (Below w.heap.size w w2):=G1.out.trans (q2.mono G1.out.size);clear q2;go_wp2_with fail
 go_ret;exact ⟨rfl,G2.out⟩
structure Bo where
 bib:Bb
 bind:Bd
 code:Int
structure OutOf (lo hi:Nat) (w W:World):Prop where
 os:W.os=w.os
 tape:W.tape=w.tape
 output:W.output=w.output
 size:w.heap.size≤W.heap.size
 block:∀ k,k < w.heap.size→(k < lo∨hi≤k)→W.heap[k]?=w.heap[k]?
section
variable {lo hi lo2 hi2 B:Nat} {w w1 W:World}
theorem OutOf.of_below (h:Below w.heap.size w W):OutOf lo hi w W:=⟨h.os,h.tape,h.output,h.size,fun k hk _=>h.block k hk⟩
theorem OutOf.trans (h:OutOf lo hi w w1) (h2:OutOf lo hi w1 W):OutOf lo hi w W :=
 ⟨h2.os.trans h.os,h2.tape.trans h.tape,h2.output.trans h.output,Nat.le_trans h.size h2.size,fun k hk hb=>(h2.block k (Nat.lt_of_lt_of_le hk h.size) hb).trans (h.block k hk hb)⟩
theorem OutOf.below (h:OutOf lo hi w W) {m:Nat} (hm:m≤lo) (hl:m≤w.heap.size):Below m w W:=⟨h.os,h.tape,h.output,h.size,fun k hk=>h.block k (by omega) (.inl (by omega))⟩
theorem OutOf.of_grown (h:w.grownBy W (some B)) (h1:lo≤B) (h2:B < hi):OutOf lo hi w W :=
 ⟨h.os,h.tape,h.output,h.size,fun k hk hb=>h.block k hk (by simp; omega)⟩
theorem OutOf.wide (h:OutOf lo hi w W) (h1:lo2≤lo) (h2:hi≤hi2):OutOf lo2 hi2 w W:=⟨h.os,h.tape,h.output,h.size,fun k hk hb=>h.block k hk (by omega)⟩
theorem HoldsL.outOf {cs:List Value} (h:HoldsL w B cs) (hl:0 < cs.length) (ho:OutOf lo hi w W) (hb:B < lo∨hi≤B):HoldsL W B cs:=h.of_block (ho.block B (h.lt hl) hb)
end
section
variable {α:Type} {en:α→List Value} {n:Nat} {lo hi lo2 hi2:Nat} {w W:World} {a:Option Addr} {xs:List α}
theorem SlLaid.of_block {B L k:Nat} (h:SlLaid en n w B xs L k) (hb:W.heap[B]?=w.heap[B]?) (hs:w.heap.size≤W.heap.size):SlLaid en n W B xs L k:=by
 have hc:∀ o,W.cell? ⟨B,o,none⟩=w.cell? ⟨B,o,none⟩:=fun o=>by unfold World.cell?; rw [show (⟨B,o,none⟩ : Addr).block=B from rfl,hb]
 have hf:∀ o,W.frozen? ⟨B,o,none⟩=w.frozen? ⟨B,o,none⟩:=fun o=>World.frozen?_of_block (a:=⟨B,o,none⟩) hb
 exact ⟨Nat.lt_of_lt_of_le h.blk hs,fun i hi hk j v hv=>(hc _).trans (h.at0 i hi hk j v hv),fun i hi=>by rw [hc]; exact h.there i hi,fun i hi=>by rw [hf]; exact h.free i hi⟩
def SlIn (en:α→List Value) (n lo hi:Nat) (w:World) (a:Option Addr) (xs:List α):Prop:=xs=[]∨∃ g,a=some ⟨g,0,none⟩∧lo≤g∧g < hi∧SlLaid en n w g xs xs.length xs.length
theorem SlIn.of_own (h:SlOwn en n lo w a xs) {hi:Nat} (hh:w.heap.size≤hi):SlIn en n lo hi w a xs:=by
 rcases h with h | ⟨g,h1,h2,h3⟩
 ·exact .inl h
 ·exact .inr ⟨g,h1,h2,Nat.lt_of_lt_of_le h3.blk hh,h3⟩
theorem SlIn.own (h:SlIn en n lo hi w a xs):SlOwn en n lo w a xs:=by
 rcases h with h | ⟨g,h1,h2,h3,h4⟩
 ·exact .inl h
 ·exact .inr ⟨g,h1,h2,h4⟩
theorem SlIn.is (h:SlIn en n lo hi w a xs):SlIs en n w a xs:=h.own.is
theorem SlIn.kept (h:SlIn en n lo hi w a xs) (hb:Below w.heap.size w W):SlIn en n lo hi W a xs:=by
 rcases h with h | ⟨g,h1,h2,h3,h4⟩
 ·exact .inl h
 ·exact .inr ⟨g,h1,h2,h3,h4.kept hb⟩
theorem SlIn.outOf (h:SlIn en n lo hi w a xs) (ho:OutOf lo2 hi2 w W) (hb:hi≤lo2∨hi2≤lo):SlIn en n lo hi W a xs:=by
 rcases h with h | ⟨g,h1,h2,h3,h4⟩
 ·exact .inl h
 ·exact .inr ⟨g,h1,h2,h3,h4.of_block (ho.block g h4.blk (by omega)) ho.size⟩
end
structure BbIn (lo hi:Nat) (w:World) (a b:Option Addr) (x:Bb):Prop where
 bd:SlIn bdL 5 lo hi w a x.binds
 ss:SlIn ssL 7 lo hi w b x.sess
 ne:∀ g h,a=some ⟨g,0,none⟩→b=some ⟨h,0,none⟩→x.binds≠[]→x.sess≠[]→g≠h
section
variable {lo hi lo2 hi2:Nat} {w W:World} {a b:Option Addr} {x:Bb}
theorem BbIn.of_own (h:BbOwn lo w a b x) (hh:w.heap.size≤hi):BbIn lo hi w a b x:=⟨SlIn.of_own h.bd hh,SlIn.of_own h.ss hh,h.ne⟩
theorem BbIn.own (h:BbIn lo hi w a b x):BbOwn lo w a b x:=⟨h.bd.own,h.ss.own,h.ne⟩
theorem BbIn.is (h:BbIn lo hi w a b x):BbIs w a b x:=⟨h.bd.is,h.ss.is⟩
theorem BbIn.kept (h:BbIn lo hi w a b x) (hb:Below w.heap.size w W):BbIn lo hi W a b x:=⟨h.bd.kept hb,h.ss.kept hb,h.ne⟩
theorem BbIn.outOf (h:BbIn lo hi w a b x) (ho:OutOf lo2 hi2 w W) (hb:hi≤lo2∨hi2≤lo):BbIn lo hi W a b x:=⟨h.bd.outOf ho hb,h.ss.outOf ho hb,h.ne⟩
theorem BbOwn.low {base:Nat} (h:BbOwn base w a b x) {m:Nat} (hm:m≤base):BbOwn m w a b x:=⟨h.bd.down hm,h.ss.down hm,h.ne⟩
end
theorem strs_in {xs:List ByteArray} {left:Int} (h0:0≤left) (h1:left≤1048576) (h:0≤szSl strN xs left):xs.length≤1048576∧∀ s∈xs,s.size≤1048576:=by
 obtain ⟨h2,h3⟩:=szSl_in h0 h;exact ⟨by omega,fun q hq=>by have:=h3 q hq q.size (by simp [strN]); omega⟩
def BbSm (x:Bb):Prop:=x.binds.length≤1048576∧x.sess.length≤1048576∧(∀ q∈x.binds,q.inn.size≤1048576∧q.out.size≤1048576)∧∀ s∈x.sess,s.inn.size≤1048576∧s.peer.size≤1048576
theorem bb_in {x:Bb} {left:Int} (h0:0≤left) (h1:left≤1048576) (h:0≤szBb x left):BbSm x:=by
 unfold szBb at h;split at h
 ·omega
 ·rename_i hn;have r1:=szSl_range bindN x.binds left h0;obtain ⟨a1,a2⟩:=szSl_in h0 (show 0≤szSl bindN x.binds left by omega);obtain ⟨b1,b2⟩:=szSl_in (show 0≤szSl bindN x.binds left by omega) h;refine ⟨by omega,by omega,fun q hq=>⟨?_,?_⟩,fun q hq=>⟨?_,?_⟩⟩
  ·have:=a2 q hq q.inn.size (by simp [bindN]); omega
  ·have:=a2 q hq q.out.size (by simp [bindN]); omega
  ·have:=b2 q hq q.inn.size (by simp [sessionN]); omega
  ·have:=b2 q hq q.peer.size (by simp [sessionN]); omega
theorem szBb_range (x:Bb) (left:Int) (h:0≤left) : -1≤szBb x left∧szBb x left≤left:=by
 unfold szBb;have r1:=szSl_range bindN x.binds left h;split
 ·omega
 ·have r2:=szSl_range sessionN x.sess (szSl bindN x.binds left) (by omega); omega
end Go.Proofs.YthagnjokdnnmpaaGreat
