import Derived.Test.YtdkepkaflielhaaGreatDoorSz
import Derived.Test.YtdkepkaflielhaaGreatDoorAb
import Derived.Test.YtdkepkaflielhaaGreatDoorUni
import Derived.Test.YtdkepkaflielhaaGreatDoorIBk1
import Derived.Test.YtdkepkaflielhaaGreatDoorEndSame
import Derived.Test.YtdkepkaflielhaaGreatDoorBookMath
import Derived.Test.YtdkepkaflielhaaGreatDoorShelf
import Derived.Test.YtdkepkaflielhaaGreatDoorIFlow
import Derived.Test.YtdkepkaflielhaaGreatDoorGrowV
import Derived.Test.YtdkepkaflielhaaGreatDoorBinRun
import Derived.Deep.DeepCutAuto
set_option linter.unusedVariables false
set_option linter.unusedSimpArgs false
set_option maxRecDepth 100000
set_option maxHeartbeats 8000000
namespace Go.Proofs.YtdkepkaflielhaaGreatDoor
open Go.RowKit Go.PlainAid
def Enters (F:Nat):Prop:=∀ args W,Sem.run Tryz.prog (callFunc F args) W=.ok (.enter F args) W
def hostE (q:Bd):En:=⟨q.proto,q.inn,q.inPort⟩
def lentE (q:Bd):En:=⟨q.proto,q.out,q.outPort⟩
def sessE (s:Ss):En:=⟨s.proto,s.inn,s.inPort⟩
def sessK (s:Ss):Sk:=⟨sessE s,s.peer,s.peerPort⟩
theorem sameEn_eq (q p:En):sameEn q p=(decide (q.proto=p.proto)&&decide (q.addr.toList=p.addr.toList)&&decide (q.port=p.port)):=by
 unfold sameEn;rw [Bool.eq_iff_iff]; simp [and_assoc]
theorem host_in (proto:Int) (s:ByteArray) (port:Int) (q:Bd):sameEn (hostE q) ⟨proto,s,port⟩=ofIn proto s port q:=sameEn_eq _ _
theorem lent_out (proto:Int) (s:ByteArray) (port:Int) (q:Bd):sameEn (lentE q) ⟨proto,s,port⟩=ofOut proto s port q:=sameEn_eq _ _
theorem sess_has (b:Bd) (s:Ss):sameEn (sessE s) (hostE b)=hasS b s:=by
 rw [sameEn_eq]; unfold hasS sessE hostE;rw [Bool.eq_iff_iff]; simp only [Bool.and_eq_true,decide_eq_true_iff];exact ⟨fun h=>⟨⟨h.1.1.symm,h.1.2.symm⟩,h.2.symm⟩,fun h=>⟨⟨h.1.1.symm,h.1.2.symm⟩,h.2.symm⟩⟩
theorem sess_same (s t:Ss):sameSk (sessK t) (sessK s)=sameS s t:=by
 unfold sameSk;rw [show sameEn (sessK t).host (sessK s).host=sameEn (sessE t) (sessE s) from rfl,sameEn_eq];unfold sameS sessK sessE;rw [Bool.eq_iff_iff]; simp only [Bool.and_eq_true,decide_eq_true_iff,beq_iff_eq];exact ⟨fun h=>⟨⟨⟨⟨h.1.1.1.symm,h.1.1.2.symm⟩,h.1.2.symm⟩,h.2.1.symm⟩,h.2.2.symm⟩,fun h=>⟨⟨⟨h.1.1.1.1.symm,h.1.1.1.2.symm⟩,h.1.1.2.symm⟩,h.1.2.symm,h.2.symm⟩⟩
theorem hostEnd_any (q:Bd) (w:World) :
  Cb 53 #[bdC q] w (enC (hostE q)):=by
 unfold bdC enC hostE;go_enter Tryz.func53,Tryz.ntmps53
 go_wp2_with fail
 refine bodyPost_ret (v:=.agg (EnV q.proto q.inn q.inPort).toArray) (by simp [results,Tryz.results53,go_sem]) rfl ⟨rfl,?_⟩;first | exact (bR.alloc lR _).alloc (by simp) _ | exact ((((bR.alloc lR _).alloc (by simp) _).setCell (by simp) _).setCell (by simp) _).setCell (by simp) _
theorem lentEnd_any (q:Bd) (w:World) :
  Cb 48 #[bdC q] w (enC (lentE q)):=by
 unfold bdC enC lentE;go_enter Tryz.func48,Tryz.ntmps48
 go_wp2_with fail
 refine bodyPost_ret (v:=.agg (EnV q.proto q.out q.outPort).toArray) (by simp [results,Tryz.results48,go_sem]) rfl ⟨rfl,?_⟩;first | exact (bR.alloc lR _).alloc (by simp) _ | exact ((((bR.alloc lR _).alloc (by simp) _).setCell (by simp) _).setCell (by simp) _).setCell (by simp) _
theorem sessKey_any (q:Ss) (w:World) :
  Cb 134 #[ssC q] w (skC (sessK q)):=by
 unfold ssC skC sessK sessE;go_enter Tryz.func134,Tryz.ntmps134
 go_wp2_with fail
 refine bodyPost_ret (v:=.agg (BdR q.proto q.inn q.inPort q.peer q.peerPort).toArray) (by simp [results,Tryz.results134,go_sem]) rfl ⟨rfl,?_⟩;first | exact ((bR.alloc lR _).alloc (by simp) _).alloc (by simp; omega) _ | skip
theorem idxBind_any (f:Bd→Bool) (F:Nat) (hG:Enters F) (caps:Array Value) (xs:List Bd) (a:Option Addr) (cap:Nat) (w:World) (hl:xs.length≤1048576) (hr:SlIs bdL 5 w a xs) (hC:∀ W,Below w.heap.size w W→∀ q,q∈xs→Calls Tryz.prog F (#[bdC q]++caps) W fun e w'=>e=.returned (.bool (f q))∧Below W.heap.size W w') :
  Cb 79 #[.slice a xs.length cap,.func (.func F) #[] caps] w (iV (findI f xs)):=by
 have HR:Hid (SlIs bdL 5 w a xs):=hr;have HC:Hid (∀ W,Below w.z w W→∀ q,q∈xs→Calls Tryz.prog F (#[bdC q]++caps) W fun e w'=>e=.returned (.bool (f q))∧Below W.heap.size W w'):=hC;obtain ⟨ans,hans⟩ : ∃ y,y=findI f xs:=⟨_,rfl⟩;rw [← hans];have HA:Hid (ans=findI f xs):=hans;clear hr hC hans;unfold Enters at hG;go_enter Tryz.func79,Tryz.ntmps79
 go_wp2_with fail
 go_loopw [8] (fun iv wr=>∃ i:Nat,i≤xs.length∧iv=iV i∧(xs.take i).any f=false∧Below w.z w wr) (fun iv _=>xs.length-(intOf iv).toNat)
 case atStart=>exact ⟨0,Nat.zero_le _,rfl,by simp,Below.refl _ _⟩
 case round =>
  obtain ⟨i,hil,rfl,hn,hb⟩:=hrel;have HN:Hid ((xs.take i).any f=false):=hn;have HW:Hid (Below w.z w wr):=hb;clear hn hb;by_cases hlt:i < xs.length
  ·obtain ⟨b,off,rfl,hb,hat⟩:=HR.out.at hlt;have hA:=(hat.below hb HW.out) i hlt;have HT:Hid ((xs.take (i+1)).any f=f xs[i]):=by
    unfold Hid;rw [List.take_succ_eq_append_getElem hlt,List.any_append,HN.out]; simp
   have HX:Hid (f xs[i]=true→findI f xs=i):=fun h=>findI_at f xs i hlt HN.out h
   have HC2:Hid _:=HC.out wr HW.out xs[i] (List.getElem_mem hlt);generalize xs[i]=q at *;obtain ⟨c0,c1,c2,c3,c4⟩:=rc5 hA;clear hA hat;obtain ⟨cl,hcl⟩ : ∃ y,y=f q:=⟨_,rfl⟩;rw [← hcl] at HT HX HC2;clear hcl;unfold bdC at HC2;go_wp2_with fail
   refine Calls.mono HC2.out ?_;rintro e w1 ⟨rfl,b1⟩;have HW1:Hid _:=HW.out.trans (b1.mono HW.out.size);clear b1 c0 c1 c2 c3 c4
   cases cl with
   | true =>
    have HF:Hid ((i:Int)=ans):=by unfold Hid; rw [HA.out,HX.out rfl]
    go_wp2_with fail
    go_ret;exact ⟨ret_int HF.out,HW1.out⟩
   | false =>
    go_wp2_with fail
    go_roundw
    case rel=>exact ⟨i+1,by omega,by go_num,HT.out,HW1.out⟩
    case measure=>simp [intOf]; omega
  ·have hie:i=xs.length:=by omega
   have HF:Hid ((-1:Int)=ans):=by
    have:=HN.out;rw [hie,List.take_of_length_le lR] at this;unfold Hid; rw [HA.out,findI_no f xs this]
   go_wp2_with fail
   go_ret;exact ⟨ret_int HF.out,HW.out⟩
theorem idxSession_any (f:Ss→Bool) (F:Nat) (hG:Enters F) (caps:Array Value) (xs:List Ss) (a:Option Addr) (cap:Nat) (w:World) (hl:xs.length≤1048576) (hr:SlIs ssL 7 w a xs) (hC:∀ W,Below w.heap.size w W→∀ q,q∈xs→Calls Tryz.prog F (#[ssC q]++caps) W fun e w'=>e=.returned (.bool (f q))∧Below W.heap.size W w') :
  Cb 137 #[.slice a xs.length cap,.func (.func F) #[] caps] w (iV (findI f xs)):=by
 have HR:Hid (SlIs ssL 7 w a xs):=hr;have HC:Hid (∀ W,Below w.z w W→∀ q,q∈xs→Calls Tryz.prog F (#[ssC q]++caps) W fun e w'=>e=.returned (.bool (f q))∧Below W.heap.size W w'):=hC;obtain ⟨ans,hans⟩ : ∃ y,y=findI f xs:=⟨_,rfl⟩;rw [← hans];have HA:Hid (ans=findI f xs):=hans;clear hr hC hans;unfold Enters at hG;go_enter Tryz.func137,Tryz.ntmps137
 go_wp2_with fail
 go_loopw [8] (fun iv wr=>∃ i:Nat,i≤xs.length∧iv=iV i∧(xs.take i).any f=false∧Below w.z w wr) (fun iv _=>xs.length-(intOf iv).toNat)
 case atStart=>exact ⟨0,Nat.zero_le _,rfl,by simp,Below.refl _ _⟩
 case round =>
  obtain ⟨i,hil,rfl,hn,hb⟩:=hrel;have HN:Hid ((xs.take i).any f=false):=hn;have HW:Hid (Below w.z w wr):=hb;clear hn hb;by_cases hlt:i < xs.length
  ·obtain ⟨b,off,rfl,hb,hat⟩:=HR.out.at hlt;have hA:=(hat.below hb HW.out) i hlt;have HT:Hid ((xs.take (i+1)).any f=f xs[i]):=by
    unfold Hid;rw [List.take_succ_eq_append_getElem hlt,List.any_append,HN.out]; simp
   have HX:Hid (f xs[i]=true→findI f xs=i):=fun h=>findI_at f xs i hlt HN.out h
   have HC2:Hid _:=HC.out wr HW.out xs[i] (List.getElem_mem hlt);generalize xs[i]=q at *;obtain ⟨c0,c1,c2,c3,c4,c5,c6⟩:=rc7 hA;clear hA hat;obtain ⟨cl,hcl⟩ : ∃ y,y=f q:=⟨_,rfl⟩;rw [← hcl] at HT HX HC2;clear hcl;unfold ssC at HC2;go_wp2_with fail
   refine Calls.mono HC2.out ?_;rintro e w1 ⟨rfl,b1⟩;have HW1:Hid _:=HW.out.trans (b1.mono HW.out.size);clear b1 c0 c1 c2 c3 c4 c5 c6
   cases cl with
   | true =>
    have HF:Hid ((i:Int)=ans):=by unfold Hid; rw [HA.out,HX.out rfl]
    go_wp2_with fail
    go_ret;exact ⟨ret_int HF.out,HW1.out⟩
   | false =>
    go_wp2_with fail
    go_roundw
    case rel=>exact ⟨i+1,by omega,by go_num,HT.out,HW1.out⟩
    case measure=>simp [intOf]; omega
  ·have hie:i=xs.length:=by omega
   have HF:Hid ((-1:Int)=ans):=by
    have:=HN.out;rw [hie,List.take_of_length_le lR] at this;unfold Hid; rw [HA.out,findI_no f xs this]
   go_wp2_with fail
   go_ret;exact ⟨ret_int HF.out,HW.out⟩
theorem first1_any (E:Bd→En) (F:Nat) (hG:Enters F) (q:Bd) (p:En) (B1 B2:Nat) (w:World) (hF:∀ q W,Calls Tryz.prog F #[bdC q] W fun e w'=>e=.returned (enC (E q))∧Below W.heap.size W w') (hk0:HoldsL w B1 [.func (.func F) #[] #[]]) (hk1:HoldsL w B2 (enL p)) :
  Cb 80 #[bdC q,.pointer (some ⟨B1,0,none⟩),.pointer (some ⟨B2,0,none⟩)] w (.bool (sameEn (E q) p)):=by
 have HF:Hid (∀ W,Calls Tryz.prog F #[.agg (BdV q).toArray] W fun e w'=>e=.returned (.agg #[iV (E q).proto,.string (E q).addr,iV (E q).port])∧Below W.heap.size W w'):=hF q;have HE:Hid (∀ W,(binOp .eql 86 (.agg #[iV (E q).proto,.string (E q).addr,iV (E q).port]) (.agg (EnV p.proto p.addr p.port).toArray)).run Tryz.prog W=.ok (.bool (sameEn (E q) p)) W):=fun W=>eqEn_bin (E q) p W
 generalize sameEn (E q) p=ans at *;generalize E q=eq at *;clear hF;unfold Enters at hG;have HZ:Hid (Below w.z w (w.alloc (.cells (BdV q).toArray 48))):=bR.alloc lR _;have HQ:Hid (HoldsL (w.alloc (.cells (BdV q).toArray 48)) w.z (bdL q)):=HoldsL.new w (bdL q) 48;have HK0:Hid (HoldsL (w.alloc (.cells (BdV q).toArray 48)) B1 [.func (.func F) #[] #[]]):=hk0.alloc _;have HK1:Hid (HoldsL (w.alloc (.cells (BdV q).toArray 48)) B2 (enL p)):=hk1.alloc _;clear hk0 hk1;unfold bdC;go_enter Tryz.func80,Tryz.ntmps80
 go_upto_region 1 with fail
 generalize (w.alloc (.cells (BdV q).toArray 48))=W at *;go_cut [4] (fun v wx=>v=.bool ans∧Below w.z w wx)
 case first =>
  rename_i J K2 hJ hK2;have HCP:Hid (∀ wy,Below W.drew.heap.size W.drew wy→HoldsL wy w.z (bdL q)∧HoldsL wy B1 [.func (.func F) #[] #[]]∧HoldsL wy B2 (enL p)):=fun wy hy=>⟨HQ.out.drew.kept (by simp [bdL]) hy,HK0.out.drew.kept (by simp [enL,skL]) hy,HK1.out.drew.kept (by simp [enL,skL]) hy⟩
  refine wp_region_growH [5,6,7,8,9,4] (by kernel_rfl) (by kernel_rfl) ?_;iterate 4 (apply GCh.u rfl;(·intro K' a wy ho hd hb hK;simp [rAt,IsV,slot,Region.binds] at ho hd;obtain ⟨hq,h0,h1⟩:=HCP.out wy hb;have kC:=hq.c5;have k00:=h0.cell (j:=0) rfl;have kC:=h1.c3;go_simp;first|((try go_bits);exact hK _ _ rfl bQ)|(refine (HF.out wy).mono ?_;rintro e wz ⟨rfl,hz⟩;exact hK _ _ rfl hz));dsimp only [nA,cA])
  apply GCh.v4
  ·rfl
  ·intro K' a wy ho hd hb hK kz;have q2:=hd ⟨2,.data⟩ (by simp) rfl;have q3:=hd ⟨3,.data⟩ (by simp) rfl;simp [rAt,IsV,slot] at q2 q3;clear hd ho;refine wp_bin_val .eql 86 86 (.tmp 7) (.tmp 8) rfl (by simp [Act.eval,slot,q2]) (by simp [Act.eval,slot,q3]) (run_eqGuard_agg _ _ _ _ _ _ _ (by kernel_rfl)) (HE.out wy) ?_;exact kz _ rfl
  (apply GCh.u rfl;(·intro K' a wy ho hd hb hK;simp [rAt,IsV,slot,Region.binds] at ho hd;go_simp;(try go_bits);exact hK _ _ rfl bQ);dsimp only [nA,cA])
  intro X wz hR hz;simp only [List.nil_append,List.cons_append,RAll,IsV] at hR;simp only [putsFrom,hR];clear hR;go_simp;try go_bits
  refine hK2 _ _ (hJ _ _ ?_);(repeat apply Exists.intro)
  refine ⟨⟨rfl,HZ.out.drew.trans (hz.mono HZ.out.size)⟩,rfl⟩
 case rest =>
  obtain ⟨rfl,hb⟩:=hcut;have HB:Hid (Below w.z w wc):=hb;clear hb;go_wp2_with fail
  go_ret;exact ⟨rfl,HB.out⟩
theorem sessAt1_any (q:Ss) (p:Sk) (B1:Nat) (w:World) (hk0:HoldsL w B1 (skL p)) :
  Cb 138 #[ssC q,.pointer (some ⟨B1,0,none⟩)] w (.bool (sameSk (sessK q) p)):=by
 have HF:Hid (∀ W,Cb 134 #[.agg (SsV q).toArray] W (.agg (BdR q.proto q.inn q.inPort q.peer q.peerPort).toArray)):=fun W=>sessKey_any q W
 have HE:Hid (∀ W,(binOp .eql 147 (.agg (BdR q.proto q.inn q.inPort q.peer q.peerPort).toArray) (.agg (BdR p.host.proto p.host.addr p.host.port p.peer p.peerPort).toArray)).run Tryz.prog W=.ok (.bool (sameSk (sessK q) p)) W):=fun W=>eqSk_bin (sessK q) p W
 generalize sameSk (sessK q) p=ans at *;have HZ:Hid (Below w.z w (w.alloc (.cells (SsV q).toArray 59))):=bR.alloc lR _;have HQ:Hid (HoldsL (w.alloc (.cells (SsV q).toArray 59)) w.z (ssL q)):=HoldsL.new w (ssL q) 59;have HK0:Hid (HoldsL (w.alloc (.cells (SsV q).toArray 59)) B1 (skL p)):=hk0.alloc _;clear hk0;unfold ssC;go_enter Tryz.func138,Tryz.ntmps138
 go_upto_region 1 with fail
 generalize (w.alloc (.cells (SsV q).toArray 59))=W at *;go_cut [3] (fun v wx=>v=.bool ans∧Below w.z w wx)
 case first =>
  rename_i J K2 hJ hK2;have HCP:Hid (∀ wy,Below W.drew.heap.size W.drew wy→HoldsL wy w.z (ssL q)∧HoldsL wy B1 (skL p)):=fun wy hy=>⟨HQ.out.drew.kept (by simp [ssL]) hy,HK0.out.drew.kept (by simp [enL,skL]) hy⟩
  refine wp_region_growH [4,5,6,7,3] (by kernel_rfl) (by kernel_rfl) ?_;iterate 3 (apply GCh.u rfl;(·intro K' a wy ho hd hb hK;simp [rAt,IsV,slot,Region.binds] at ho hd;obtain ⟨hq,h0⟩:=HCP.out wy hb;have kC:=hq.c7;have kC:=h0.c5;go_simp;first|((try go_bits);exact hK _ _ rfl bQ)|(refine (HF.out wy).mono ?_;rintro e wz ⟨rfl,hz⟩;exact hK _ _ rfl hz));dsimp only [nA,cA])
  apply GCh.v3
  ·rfl
  ·intro K' a wy ho hd hb hK kz;have q1:=hd ⟨1,.data⟩ (by simp) rfl;have q2:=hd ⟨2,.data⟩ (by simp) rfl;simp [rAt,IsV,slot] at q1 q2;clear hd ho;refine wp_bin_val .eql 147 147 (.tmp 5) (.tmp 6) rfl (by simp [Act.eval,slot,q1]) (by simp [Act.eval,slot,q2]) (run_eqGuard_agg _ _ _ _ _ _ _ (by kernel_rfl)) (HE.out wy) ?_;exact kz _ rfl
  (apply GCh.u rfl;(·intro K' a wy ho hd hb hK;simp [rAt,IsV,slot,Region.binds] at ho hd;go_simp;(try go_bits);exact hK _ _ rfl bQ);dsimp only [nA,cA])
  intro X wz hR hz;simp only [List.nil_append,List.cons_append,RAll,IsV] at hR;simp only [putsFrom,hR];clear hR;go_simp;try go_bits
  refine hK2 _ _ (hJ _ _ ?_);(repeat apply Exists.intro)
  refine ⟨⟨rfl,HZ.out.drew.trans (hz.mono HZ.out.size)⟩,rfl⟩
 case rest =>
  obtain ⟨rfl,hb⟩:=hcut;have HB:Hid (Below w.z w wc):=hb;clear hb;go_wp2_with fail
  go_ret;exact ⟨rfl,HB.out⟩
theorem hasSess1_any (q:Ss) (p:En) (B1:Nat) (w:World) (hk0:HoldsL w B1 (enL p)) :
  Cb 181 #[ssC q,.pointer (some ⟨B1,0,none⟩)] w (.bool (sameEn (sessE q) p)):=by
 have HF:Hid (∀ W,Cb 134 #[.agg (SsV q).toArray] W (.agg (BdR q.proto q.inn q.inPort q.peer q.peerPort).toArray)):=fun W=>sessKey_any q W
 have HE:Hid (∀ W,(binOp .eql 86 (.agg (EnV q.proto q.inn q.inPort).toArray) (.agg (EnV p.proto p.addr p.port).toArray)).run Tryz.prog W=.ok (.bool (sameEn (sessE q) p)) W):=fun W=>eqEn_bin (sessE q) p W
 have HFL:Hid (∀ W,Sem.run Tryz.prog (Instr.field 147 (.agg (BdR q.proto q.inn q.inPort q.peer q.peerPort).toArray) 0) W=.ok (.agg (EnV q.proto q.inn q.inPort).toArray) W):=fun W=>by kernel_rfl
 generalize sameEn (sessE q) p=ans at *;have HZ:Hid (Below w.z w (w.alloc (.cells (SsV q).toArray 59))):=bR.alloc lR _;have HQ:Hid (HoldsL (w.alloc (.cells (SsV q).toArray 59)) w.z (ssL q)):=HoldsL.new w (ssL q) 59;have HK0:Hid (HoldsL (w.alloc (.cells (SsV q).toArray 59)) B1 (enL p)):=hk0.alloc _;clear hk0;unfold ssC;go_enter Tryz.func181,Tryz.ntmps181
 go_upto_region 1 with fail
 generalize (w.alloc (.cells (SsV q).toArray 59))=W at *;go_cut [3] (fun v wx=>v=.bool ans∧Below w.z w wx)
 case first =>
  rename_i J K2 hJ hK2;have HCP:Hid (∀ wy,Below W.drew.heap.size W.drew wy→HoldsL wy w.z (ssL q)∧HoldsL wy B1 (enL p)):=fun wy hy=>⟨HQ.out.drew.kept (by simp [ssL]) hy,HK0.out.drew.kept (by simp [enL,skL]) hy⟩
  refine wp_region_growH [4,5,6,7,8,3] (by kernel_rfl) (by kernel_rfl) ?_;iterate 2 (apply GCh.u rfl;(·intro K' a wy ho hd hb hK;simp [rAt,IsV,slot,Region.binds] at ho hd;obtain ⟨hq,h0⟩:=HCP.out wy hb;have kC:=hq.c7;have kC:=h0.c3;go_simp;first|((try go_bits);exact hK _ _ rfl bQ)|(refine (HF.out wy).mono ?_;rintro e wz ⟨rfl,hz⟩;exact hK _ _ rfl hz));dsimp only [nA,cA])
  (apply GCh.u rfl;(·intro K' a wy ho hd hb hK;simp [rAt,IsV,slot,Region.binds] at ho hd;have hfl:=HFL.out wy;go_simp;(try go_bits);exact hK _ _ rfl bQ);dsimp only [nA,cA])
  (apply GCh.u rfl;(·intro K' a wy ho hd hb hK;simp [rAt,IsV,slot,Region.binds] at ho hd;obtain ⟨hq,h0⟩:=HCP.out wy hb;have kC:=hq.c7;have kC:=h0.c3;go_simp;(try go_bits);exact hK _ _ rfl bQ);dsimp only [nA,cA])
  apply GCh.v4
  ·rfl
  ·intro K' a wy ho hd hb hK kz;have q2:=hd ⟨2,.data⟩ (by simp) rfl;have q3:=hd ⟨3,.data⟩ (by simp) rfl;simp [rAt,IsV,slot] at q2 q3;clear hd ho;refine wp_bin_val .eql 86 86 (.tmp 6) (.tmp 7) rfl (by simp [Act.eval,slot,q2]) (by simp [Act.eval,slot,q3]) (run_eqGuard_agg _ _ _ _ _ _ _ (by kernel_rfl)) (HE.out wy) ?_;exact kz _ rfl
  (apply GCh.u rfl;(·intro K' a wy ho hd hb hK;simp [rAt,IsV,slot,Region.binds] at ho hd;go_simp;(try go_bits);exact hK _ _ rfl bQ);dsimp only [nA,cA])
  intro X wz hR hz;simp only [List.nil_append,List.cons_append,RAll,IsV] at hR;simp only [putsFrom,hR];clear hR;go_simp;try go_bits
  refine hK2 _ _ (hJ _ _ ?_);(repeat apply Exists.intro)
  refine ⟨⟨rfl,HZ.out.drew.trans (hz.mono HZ.out.size)⟩,rfl⟩
 case rest =>
  obtain ⟨rfl,hb⟩:=hcut;have HB:Hid (Below w.z w wc):=hb;clear hb;go_wp2_with fail
  go_ret;exact ⟨rfl,HB.out⟩
end Go.Proofs.YtdkepkaflielhaaGreatDoor
