import Derived.Test.YtcckaeppiamebaaGreatDoorAb
import Derived.Test.YtcckaeppiamebaaGreatDoorMerged5
import Derived.Test.YtcckaeppiamebaaGreatDoorMerged13
import Derived.Test.YtcckaeppiamebaaGreatDoorMerged14
import Derived.Deep.DeepCutAuto
set_option linter.unusedVariables false
set_option linter.unusedSimpArgs false
set_option maxRecDepth 100000
set_option maxHeartbeats 8000000
namespace Go.Proofs.YtcckaeppiamebaaGreatDoor
open Go.RowKit Go.PlainAid
def Enters (F:Nat):Prop:=∀ args W,Sem.run Tryz.prog (callFunc F args) W=.ok (.enter F args) W
def hostE (q:Bd):En:=⟨q.proto,q.inn,q.inPort⟩
def lentE (q:Bd):En:=⟨q.proto,q.out,q.outPort⟩
def sessE (s:Ss):En:=⟨s.proto,s.inn,s.inPort⟩
def sessK (s:Ss):Sk:=⟨sessE s,s.peer,s.peerPort⟩
theorem sameEn_eq (q p:En):sameEn q p=(decide (q.proto=p.proto)&&decide (q.addr.toList=p.addr.toList)&&decide (q.port=p.port)):=by
 unfold sameEn;rw [Bool.eq_iff_iff]; simp [and_assoc]
theorem host_in (proto:Int) (s:ByteArray) (port:Int) (q:Bd):sameEn (hostE q) ⟨proto,s,port⟩=ofIn proto s port q:=sameEn_eq _ _
theorem lent_out (proto:Int) (s:ByteArray) (port:Int) (q:Bd):sameEn (lentE q) ⟨proto,s,port⟩=ofOut proto s port q:=sameEn_eq _ _
theorem sess_has (b:Bd) (s:Ss):sameEn (sessE s) (hostE b)=hasS b s:=by
 rw [sameEn_eq]; unfold hasS sessE hostE;rw [Bool.eq_iff_iff]; simp only [Bool.and_eq_true,decide_eq_true_iff];exact ⟨fun h=>⟨⟨h.1.1.symm,h.1.2.symm⟩,h.2.symm⟩,fun h=>⟨⟨h.1.1.symm,h.1.2.symm⟩,h.2.symm⟩⟩
theorem sess_same (s t:Ss):sameSk (sessK t) (sessK s)=sameS s t:=by
 unfold sameSk;rw [show sameEn (sessK t).host (sessK s).host=sameEn (sessE t) (sessE s) from rfl,sameEn_eq];unfold sameS sessK sessE;rw [Bool.eq_iff_iff]; simp only [Bool.and_eq_true,decide_eq_true_iff,beq_iff_eq];exact ⟨fun h=>⟨⟨⟨⟨h.1.1.1.symm,h.1.1.2.symm⟩,h.1.2.symm⟩,h.2.1.symm⟩,h.2.2.symm⟩,fun h=>⟨⟨⟨h.1.1.1.1.symm,h.1.1.1.2.symm⟩,h.1.1.2.symm⟩,h.1.2.symm,h.2.symm⟩⟩
theorem hostEnd_any (q:Bd) (w:World) :
  Cb 137 #[bdC q] w (enC (hostE q)):=by
 unfold bdC enC hostE;go_enter Tryz.func137,Tryz.ntmps137
 go_wp2_with fail
 refine bodyPost_ret (v:=.agg (EnV q.proto q.inn q.inPort).toArray) (by simp [results,Tryz.results137,go_sem]) rfl ⟨rfl,?_⟩;first | exact ((Below.refl _ _).alloc (Nat.le_refl _) _).alloc (by simp) _ | exact (((((Below.refl _ _).alloc (Nat.le_refl _) _).alloc (by simp) _).setCell (by simp) _).setCell (by simp) _).setCell (by simp) _
theorem lentEnd_any (q:Bd) (w:World) :
  Cb 138 #[bdC q] w (enC (lentE q)):=by
 unfold bdC enC lentE;go_enter Tryz.func138,Tryz.ntmps138
 go_wp2_with fail
 refine bodyPost_ret (v:=.agg (EnV q.proto q.out q.outPort).toArray) (by simp [results,Tryz.results138,go_sem]) rfl ⟨rfl,?_⟩;first | exact ((Below.refl _ _).alloc (Nat.le_refl _) _).alloc (by simp) _ | exact (((((Below.refl _ _).alloc (Nat.le_refl _) _).alloc (by simp) _).setCell (by simp) _).setCell (by simp) _).setCell (by simp) _
theorem sessKey_any (q:Ss) (w:World) :
  Cb 139 #[ssC q] w (skC (sessK q)):=by
 unfold ssC skC sessK sessE;go_enter Tryz.func139,Tryz.ntmps139
 go_wp2_with fail
 refine bodyPost_ret (v:=.agg (BdR q.proto q.inn q.inPort q.peer q.peerPort).toArray) (by simp [results,Tryz.results139,go_sem]) rfl ⟨rfl,?_⟩;first | exact (((Below.refl _ _).alloc (Nat.le_refl _) _).alloc (by simp) _).alloc (by simp; omega) _ | skip
theorem idxBind_any (f:Bd→Bool) (F:Nat) (hG:Enters F) (caps:Array Value) (xs:List Bd) (a:Option Addr) (cap:Nat) (w:World) (hl:xs.length≤1048576) (hr:SlIs bdL 5 w a xs) (hC:∀ W,Below w.heap.size w W→∀ q,q∈xs→Calls Tryz.prog F (#[bdC q]++caps) W fun e w'=>e=.returned (.bool (f q))∧Below W.heap.size W w') :
  Cb 180 #[.slice a xs.length cap,.func (.func F) #[] caps] w (iV (findI f xs)):=by
 have HR:Hid (SlIs bdL 5 w a xs):=hr;have HC:Hid (∀ W,Below w.heap.size w W→∀ q,q∈xs→Calls Tryz.prog F (#[bdC q]++caps) W fun e w'=>e=.returned (.bool (f q))∧Below W.heap.size W w'):=hC;obtain ⟨ans,hans⟩ : ∃ y,y=findI f xs:=⟨_,rfl⟩;rw [← hans];have HA:Hid (ans=findI f xs):=hans;clear hr hC hans;unfold Enters at hG;go_enter Tryz.func180,Tryz.ntmps180
 go_wp2_with fail
 go_loopw [8] (fun iv wr=>∃ i:Nat,i≤xs.length∧iv=iV i∧(xs.take i).any f=false∧Below w.heap.size w wr) (fun iv _=>xs.length-(intOf iv).toNat)
 case atStart=>exact ⟨0,Nat.zero_le _,rfl,by simp,Below.refl _ _⟩
 case round =>
  obtain ⟨i,hil,rfl,hn,hb⟩:=hrel;have HN:Hid ((xs.take i).any f=false):=hn;have HW:Hid (Below w.heap.size w wr):=hb;clear hn hb;by_cases hlt:i < xs.length
  ·obtain ⟨b,off,rfl,hb,hat⟩:=HR.out.at hlt;have hA:=(hat.below hb HW.out) i hlt;have HT:Hid ((xs.take (i+1)).any f=f xs[i]):=by
    unfold Hid;rw [List.take_succ_eq_append_getElem hlt,List.any_append,HN.out]; simp
   have HX:Hid (f xs[i]=true→findI f xs=i):=fun h=>findI_at f xs i hlt HN.out h
   have HC2:Hid _:=HC.out wr HW.out xs[i] (List.getElem_mem hlt);generalize xs[i]=q at *;have c0:wr.cell? ⟨b,off+i*5,none⟩=some (iV q.proto):=hA 0 _ rfl;have c1:wr.cell? ⟨b,off+i*5+1,none⟩=some (.string q.inn):=hA 1 _ rfl;have c2:wr.cell? ⟨b,off+i*5+2,none⟩=some (iV q.inPort):=hA 2 _ rfl;have c3:wr.cell? ⟨b,off+i*5+3,none⟩=some (.string q.out):=hA 3 _ rfl;have c4:wr.cell? ⟨b,off+i*5+4,none⟩=some (iV q.outPort):=hA 4 _ rfl;clear hA hat;obtain ⟨cl,hcl⟩ : ∃ y,y=f q:=⟨_,rfl⟩;rw [← hcl] at HT HX HC2;clear hcl;unfold bdC at HC2;go_wp2_with fail
   refine Calls.mono HC2.out ?_;rintro e w1 ⟨rfl,b1⟩;have HW1:Hid _:=HW.out.trans (b1.mono HW.out.size);clear b1 c0 c1 c2 c3 c4
   cases cl with
   | true =>
    have HF:Hid ((i:Int)=ans):=by unfold Hid; rw [HA.out,HX.out rfl]
    go_wp2_with fail
    go_ret;exact ⟨ret_int HF.out,HW1.out⟩
   | false =>
    go_wp2_with fail
    go_roundw
    case rel=>exact ⟨i+1,by omega,by go_num,HT.out,HW1.out⟩
    case measure=>simp [intOf]; omega
  ·have hie:i=xs.length:=by omega
   have HF:Hid ((-1:Int)=ans):=by
    have:=HN.out;rw [hie,List.take_of_length_le (Nat.le_refl _)] at this;unfold Hid; rw [HA.out,findI_no f xs this]
   go_wp2_with fail
   go_ret;exact ⟨ret_int HF.out,HW.out⟩
theorem idxSession_any (f:Ss→Bool) (F:Nat) (hG:Enters F) (caps:Array Value) (xs:List Ss) (a:Option Addr) (cap:Nat) (w:World) (hl:xs.length≤1048576) (hr:SlIs ssL 7 w a xs) (hC:∀ W,Below w.heap.size w W→∀ q,q∈xs→Calls Tryz.prog F (#[ssC q]++caps) W fun e w'=>e=.returned (.bool (f q))∧Below W.heap.size W w') :
  Cb 142 #[.slice a xs.length cap,.func (.func F) #[] caps] w (iV (findI f xs)):=by
 have HR:Hid (SlIs ssL 7 w a xs):=hr;have HC:Hid (∀ W,Below w.heap.size w W→∀ q,q∈xs→Calls Tryz.prog F (#[ssC q]++caps) W fun e w'=>e=.returned (.bool (f q))∧Below W.heap.size W w'):=hC;obtain ⟨ans,hans⟩ : ∃ y,y=findI f xs:=⟨_,rfl⟩;rw [← hans];have HA:Hid (ans=findI f xs):=hans;clear hr hC hans;unfold Enters at hG;go_enter Tryz.func142,Tryz.ntmps142
 go_wp2_with fail
 go_loopw [8] (fun iv wr=>∃ i:Nat,i≤xs.length∧iv=iV i∧(xs.take i).any f=false∧Below w.heap.size w wr) (fun iv _=>xs.length-(intOf iv).toNat)
 case atStart=>exact ⟨0,Nat.zero_le _,rfl,by simp,Below.refl _ _⟩
 case round =>
  obtain ⟨i,hil,rfl,hn,hb⟩:=hrel;have HN:Hid ((xs.take i).any f=false):=hn;have HW:Hid (Below w.heap.size w wr):=hb;clear hn hb;by_cases hlt:i < xs.length
  ·obtain ⟨b,off,rfl,hb,hat⟩:=HR.out.at hlt;have hA:=(hat.below hb HW.out) i hlt;have HT:Hid ((xs.take (i+1)).any f=f xs[i]):=by
    unfold Hid;rw [List.take_succ_eq_append_getElem hlt,List.any_append,HN.out]; simp
   have HX:Hid (f xs[i]=true→findI f xs=i):=fun h=>findI_at f xs i hlt HN.out h
   have HC2:Hid _:=HC.out wr HW.out xs[i] (List.getElem_mem hlt);generalize xs[i]=q at *;have c0:wr.cell? ⟨b,off+i*7,none⟩=some (iV q.proto):=hA 0 _ rfl;have c1:wr.cell? ⟨b,off+i*7+1,none⟩=some (.string q.inn):=hA 1 _ rfl;have c2:wr.cell? ⟨b,off+i*7+2,none⟩=some (iV q.inPort):=hA 2 _ rfl;have c3:wr.cell? ⟨b,off+i*7+3,none⟩=some (.string q.peer):=hA 3 _ rfl;have c4:wr.cell? ⟨b,off+i*7+4,none⟩=some (iV q.peerPort):=hA 4 _ rfl;have c5:wr.cell? ⟨b,off+i*7+5,none⟩=some (iV q.state):=hA 5 _ rfl;have c6:wr.cell? ⟨b,off+i*7+6,none⟩=some (iV q.untl):=hA 6 _ rfl;clear hA hat;obtain ⟨cl,hcl⟩ : ∃ y,y=f q:=⟨_,rfl⟩;rw [← hcl] at HT HX HC2;clear hcl;unfold ssC at HC2;go_wp2_with fail
   refine Calls.mono HC2.out ?_;rintro e w1 ⟨rfl,b1⟩;have HW1:Hid _:=HW.out.trans (b1.mono HW.out.size);clear b1 c0 c1 c2 c3 c4 c5 c6
   cases cl with
   | true =>
    have HF:Hid ((i:Int)=ans):=by unfold Hid; rw [HA.out,HX.out rfl]
    go_wp2_with fail
    go_ret;exact ⟨ret_int HF.out,HW1.out⟩
   | false =>
    go_wp2_with fail
    go_roundw
    case rel=>exact ⟨i+1,by omega,by go_num,HT.out,HW1.out⟩
    case measure=>simp [intOf]; omega
  ·have hie:i=xs.length:=by omega
   have HF:Hid ((-1:Int)=ans):=by
    have:=HN.out;rw [hie,List.take_of_length_le (Nat.le_refl _)] at this;unfold Hid; rw [HA.out,findI_no f xs this]
   go_wp2_with fail
   go_ret;exact ⟨ret_int HF.out,HW.out⟩
theorem sessAt1_any (q:Ss) (p:Sk) (B1:Nat) (w:World) (hk0:HoldsL w B1 (skL p)) :
  Cb 143 #[ssC q,.pointer (some ⟨B1,0,none⟩)] w (.bool (sameSk (sessK q) p)):=by
 have HF:Hid (∀ W,Cb 139 #[.agg (SsV q).toArray] W (.agg (BdR q.proto q.inn q.inPort q.peer q.peerPort).toArray)):=fun W=>sessKey_any q W
 have HE:Hid (∀ W,(binOp .eql 160 (.agg (BdR q.proto q.inn q.inPort q.peer q.peerPort).toArray) (.agg (BdR p.host.proto p.host.addr p.host.port p.peer p.peerPort).toArray)).run Tryz.prog W=.ok (.bool (sameSk (sessK q) p)) W):=fun W=>eqSk_bin (sessK q) p W
 generalize sameSk (sessK q) p=ans at *;have HZ:Hid (Below w.heap.size w (w.alloc (.cells (SsV q).toArray 103))):=(Below.refl _ _).alloc (Nat.le_refl _) _;have HQ:Hid (HoldsL (w.alloc (.cells (SsV q).toArray 103)) w.heap.size (ssL q)):=HoldsL.new w (ssL q) 103;have HK0:Hid (HoldsL (w.alloc (.cells (SsV q).toArray 103)) B1 (skL p)):=hk0.alloc _;clear hk0;unfold ssC;go_enter Tryz.func143,Tryz.ntmps143
 go_upto_region 1 with fail
 generalize (w.alloc (.cells (SsV q).toArray 103))=W at *;go_cut [3] (fun v wx=>v=.bool ans∧Below w.heap.size w wx)
 case first =>
  rename_i J K2 hJ hK2;have HCP:Hid (∀ wy,Below W.drew.heap.size W.drew wy→HoldsL wy w.heap.size (ssL q)∧HoldsL wy B1 (skL p)):=fun wy hy=>⟨HQ.out.drew.kept (by simp [ssL]) hy,HK0.out.drew.kept (by simp [enL,skL]) hy⟩
  refine wp_region_growH [4,5,6,7,3] (by kernel_rfl) (by kernel_rfl) ?_;iterate 3 (apply GCh.u rfl;(·intro K' a wy ho hd hb hK;simp [rAt,IsV,slot,Region.binds] at ho hd;obtain ⟨hq,h0⟩:=HCP.out wy hb;have kC:=hq.c7;have kC:=h0.c5;go_simp;first|((try go_bits);exact hK _ _ rfl bQ)|(refine (HF.out wy).mono ?_;rintro e wz ⟨rfl,hz⟩;exact hK _ _ rfl hz));dsimp only [nA,cA])
  apply GCh.v3
  ·rfl
  ·intro K' a wy ho hd hb hK kz;have q1:=hd ⟨1,.data⟩ (by simp) rfl;have q2:=hd ⟨2,.data⟩ (by simp) rfl;simp [rAt,IsV,slot] at q1 q2;clear hd ho;refine wp_bin_val .eql 160 160 (.tmp 5) (.tmp 6) rfl (by simp [Act.eval,slot,q1]) (by simp [Act.eval,slot,q2]) (run_eqGuard_agg _ _ _ _ _ _ _ (by kernel_rfl)) (HE.out wy) ?_;exact kz _ rfl
  (apply GCh.u rfl;(·intro K' a wy ho hd hb hK;simp [rAt,IsV,slot,Region.binds] at ho hd;go_simp;(try go_bits);exact hK _ _ rfl bQ);dsimp only [nA,cA])
  intro X wz hR hz;simp only [List.nil_append,List.cons_append,RAll,IsV] at hR;simp only [putsFrom,hR];clear hR;go_simp;try go_bits
  refine hK2 _ _ (hJ _ _ ?_);(repeat apply Exists.intro)
  refine ⟨⟨rfl,HZ.out.drew.trans (hz.mono HZ.out.size)⟩,rfl⟩
 case rest =>
  obtain ⟨rfl,hb⟩:=hcut;have HB:Hid (Below w.heap.size w wc):=hb;clear hb;go_wp2_with fail
  go_ret;exact ⟨rfl,HB.out⟩
theorem hasSess1_any (q:Ss) (p:En) (B1:Nat) (w:World) (hk0:HoldsL w B1 (enL p)) :
  Cb 182 #[ssC q,.pointer (some ⟨B1,0,none⟩)] w (.bool (sameEn (sessE q) p)):=by
 have HF:Hid (∀ W,Cb 139 #[.agg (SsV q).toArray] W (.agg (BdR q.proto q.inn q.inPort q.peer q.peerPort).toArray)):=fun W=>sessKey_any q W
 have HE:Hid (∀ W,(binOp .eql 155 (.agg (EnV q.proto q.inn q.inPort).toArray) (.agg (EnV p.proto p.addr p.port).toArray)).run Tryz.prog W=.ok (.bool (sameEn (sessE q) p)) W):=fun W=>eqEn_bin (sessE q) p W
 have HFL:Hid (∀ W,Sem.run Tryz.prog (Instr.field 160 (.agg (BdR q.proto q.inn q.inPort q.peer q.peerPort).toArray) 0) W=.ok (.agg (EnV q.proto q.inn q.inPort).toArray) W):=fun W=>by kernel_rfl
 generalize sameEn (sessE q) p=ans at *;have HZ:Hid (Below w.heap.size w (w.alloc (.cells (SsV q).toArray 103))):=(Below.refl _ _).alloc (Nat.le_refl _) _;have HQ:Hid (HoldsL (w.alloc (.cells (SsV q).toArray 103)) w.heap.size (ssL q)):=HoldsL.new w (ssL q) 103;have HK0:Hid (HoldsL (w.alloc (.cells (SsV q).toArray 103)) B1 (enL p)):=hk0.alloc _;clear hk0;unfold ssC;go_enter Tryz.func182,Tryz.ntmps182
 go_upto_region 1 with fail
 generalize (w.alloc (.cells (SsV q).toArray 103))=W at *;go_cut [3] (fun v wx=>v=.bool ans∧Below w.heap.size w wx)
 case first =>
  rename_i J K2 hJ hK2;have HCP:Hid (∀ wy,Below W.drew.heap.size W.drew wy→HoldsL wy w.heap.size (ssL q)∧HoldsL wy B1 (enL p)):=fun wy hy=>⟨HQ.out.drew.kept (by simp [ssL]) hy,HK0.out.drew.kept (by simp [enL,skL]) hy⟩
  refine wp_region_growH [4,5,6,7,8,3] (by kernel_rfl) (by kernel_rfl) ?_;iterate 2 (apply GCh.u rfl;(·intro K' a wy ho hd hb hK;simp [rAt,IsV,slot,Region.binds] at ho hd;obtain ⟨hq,h0⟩:=HCP.out wy hb;have kC:=hq.c7;have kC:=h0.c3;go_simp;first|((try go_bits);exact hK _ _ rfl bQ)|(refine (HF.out wy).mono ?_;rintro e wz ⟨rfl,hz⟩;exact hK _ _ rfl hz));dsimp only [nA,cA])
  (apply GCh.u rfl;(·intro K' a wy ho hd hb hK;simp [rAt,IsV,slot,Region.binds] at ho hd;have hfl:=HFL.out wy;go_simp;(try go_bits);exact hK _ _ rfl bQ);dsimp only [nA,cA])
  (apply GCh.u rfl;(·intro K' a wy ho hd hb hK;simp [rAt,IsV,slot,Region.binds] at ho hd;obtain ⟨hq,h0⟩:=HCP.out wy hb;have kC:=hq.c7;have kC:=h0.c3;go_simp;(try go_bits);exact hK _ _ rfl bQ);dsimp only [nA,cA])
  apply GCh.v4
  ·rfl
  ·intro K' a wy ho hd hb hK kz;have q2:=hd ⟨2,.data⟩ (by simp) rfl;have q3:=hd ⟨3,.data⟩ (by simp) rfl;simp [rAt,IsV,slot] at q2 q3;clear hd ho;refine wp_bin_val .eql 155 155 (.tmp 6) (.tmp 7) rfl (by simp [Act.eval,slot,q2]) (by simp [Act.eval,slot,q3]) (run_eqGuard_agg _ _ _ _ _ _ _ (by kernel_rfl)) (HE.out wy) ?_;exact kz _ rfl
  (apply GCh.u rfl;(·intro K' a wy ho hd hb hK;simp [rAt,IsV,slot,Region.binds] at ho hd;go_simp;(try go_bits);exact hK _ _ rfl bQ);dsimp only [nA,cA])
  intro X wz hR hz;simp only [List.nil_append,List.cons_append,RAll,IsV] at hR;simp only [putsFrom,hR];clear hR;go_simp;try go_bits
  refine hK2 _ _ (hJ _ _ ?_);(repeat apply Exists.intro)
  refine ⟨⟨rfl,HZ.out.drew.trans (hz.mono HZ.out.size)⟩,rfl⟩
 case rest =>
  obtain ⟨rfl,hb⟩:=hcut;have HB:Hid (Below w.heap.size w wc):=hb;clear hb;go_wp2_with fail
  go_ret;exact ⟨rfl,HB.out⟩
theorem cloneS_any (s:ByteArray) (w:World) (h:s.size≤1048576) :
  Cb 154 #[.string s] w (.string s):=by
 have HC:Hid (∀ W,Cb 175 #[.string s] W (.string s)):=fun W=>Tryz.stringslite_Clone s W (by omega)
 go_enter Tryz.func154,Tryz.ntmps154
 go_wp2_with fail
 refine (HC.out _).mono ?_;rintro e w1 ⟨rfl,b1⟩;go_wp2_with fail
 go_ret;exact ⟨rfl,b1⟩
theorem copyBind_any (p:Bd) (w:World) (h1:p.inn.size≤1048576) (h2:p.out.size≤1048576) :
  Cb 113 #[bdC p] w (bdC p):=by
 have H1:Hid (∀ W,Cb 154 #[.string p.inn] W (.string p.inn)):=fun W=>cloneS_any _ W h1
 have H2:Hid (∀ W,Cb 154 #[.string p.out] W (.string p.out)):=fun W=>cloneS_any _ W h2
 have hun:undef=Value.tuple #[]:=rfl;clear h1 h2;have HP:Hid (HoldsL ((aW w (BdV p) 94).alloc (.cells (BdR 0 ⟨#[]⟩ 0 ⟨#[]⟩ 0).toArray 94)) w.heap.size (bdL p)):=(HoldsL.new w (bdL p) _).alloc _;have HO:Hid (HoldsL ((aW w (BdV p) 94).alloc (.cells (BdR 0 ⟨#[]⟩ 0 ⟨#[]⟩ 0).toArray 94)) (w.heap.size+1) (BdR 0 ⟨#[]⟩ 0 ⟨#[]⟩ 0)):=by
  have h:=HoldsL.new (w.alloc (.cells (BdV p).toArray 94)) (BdR 0 ⟨#[]⟩ 0 ⟨#[]⟩ 0) 94;rwa [World.size_alloc] at h
 have HZ:Hid (Below w.heap.size w ((aW w (BdV p) 94).alloc (.cells (BdR 0 ⟨#[]⟩ 0 ⟨#[]⟩ 0).toArray 94))):=((Below.refl _ _).alloc (Nat.le_refl _) _).alloc (by simp) _;unfold bdC;go_enter Tryz.func113,Tryz.ntmps113
 go_upto_region 1 with fail
 generalize ((aW w (BdV p) 94).alloc (.cells (BdR 0 ⟨#[]⟩ 0 ⟨#[]⟩ 0).toArray 94))=W at *;go_cut [3] (fun v wx=>HoldsL wx w.heap.size (bdL p)∧HoldsL wx (w.heap.size+1) (BdR 0 ⟨#[]⟩ 0 ⟨#[]⟩ 0)∧Below w.heap.size w wx)
 case first =>
  rename_i J K2 hJ hK2;clear hun;have HCP:Hid (∀ wy,Below W.drew.heap.size W.drew wy→HoldsL wy w.heap.size (bdL p)∧HoldsL wy (w.heap.size+1) (BdR 0 ⟨#[]⟩ 0 ⟨#[]⟩ 0)):=fun wy hy=>⟨HP.out.drew.kept (by simp [bdL]) hy,HO.out.drew.kept (by simp) hy⟩
  refine wp_region_growV [3,4,5,6,7,8,9] (by kernel_rfl) (by kernel_rfl) ?_;iterate 5 (apply GChV.u rfl;(·intro K' a wy ho hd hb hK;simp [rAt,IsV,slot,Region.binds] at ho hd;have hld:=(HCP.out wy hb).1;have kC:=hld.c5;go_simp;first|((try go_bits);exact hK _ _ rfl bQ)|(refine (H1.out wy).mono ?_;rintro e wz ⟨rfl,hz⟩;exact hK _ _ rfl hz));dsimp only [nA,cA])
  iterate 2 (apply GChV.u rfl;(·intro K' a wy ho hd hb hK;simp [rAt,IsV,slot,Region.binds] at ho hd;go_simp;first|((try go_bits);exact hK _ _ rfl bQ)|(refine (H2.out wy).mono ?_;rintro e wz ⟨rfl,hz⟩;exact hK _ _ rfl hz));dsimp only [nA,cA])
  intro X wz hR hz;simp only [List.nil_append,List.cons_append,RAll,IsV] at hR;simp only [putsFrom,hR];clear hR;obtain ⟨hh,hz0⟩:=HCP.out wz hz;have HB:Hid (Below w.heap.size w wz):=HZ.out.drew.trans (hz.mono HZ.out.size);have f1:wz.frozen? ⟨w.heap.size,1,none⟩=false:=hh.free (j:=1) (by simp [bdL]);have f3:wz.frozen? ⟨w.heap.size,3,none⟩=false:=hh.free (j:=3) (by simp [bdL]);obtain ⟨k0,k1,k2,k3,k4⟩:=hh.c5;have HH:Hid (HoldsL wz w.heap.size (bdL p)):=hh;have HH0:Hid (HoldsL wz (w.heap.size+1) (BdR 0 ⟨#[]⟩ 0 ⟨#[]⟩ 0)):=hz0;clear hh hz0;intro K10 hK10;go_simp;refine hK10 _ _ ?_;intro K11 hK11;go_simp;refine hK11 _ _ ?_;intro K12 hK12;go_simp;refine hK12 _ _ ?_;show Exit.then _ _ _ _ _;refine hK2 _ _ (hJ _ _ ?_);(repeat apply Exists.intro)
  refine ⟨⟨(HH.out.set 1 _).set 3 _,(HH0.out.setOther (by omega) _).setOther (by omega) _,?_⟩,rfl⟩;exact (HB.out.setCell (p:=⟨w.heap.size,1,none⟩) (Nat.le_refl _) _).setCell (p:=⟨w.heap.size,3,none⟩) (Nat.le_refl _) _
 case rest =>
  obtain ⟨hh,h0,hb⟩:=hcut;have HB:Hid (Below w.heap.size w wc):=hb;obtain ⟨k0,k1,k2,k3,k4⟩:=hh.c5;obtain ⟨y0,y1,y2,y3,y4⟩:=h0.f5;obtain ⟨z0,z1,z2,z3,z4⟩:=h0.c5;clear hh h0 hb;go_wp2_with fail
  refine bodyPost_ret (v:=.agg (BdV p).toArray) (by simp [results,Tryz.results113,go_sem,z0,z1,z2,z3,z4]) rfl ⟨rfl,?_⟩;have hsz:w.heap.size≤w.heap.size+1:=Nat.le_succ _;exact (((((HB.out.setCell (p:=⟨w.heap.size+1,0,none⟩) hsz _).setCell (p:=⟨w.heap.size+1,1,none⟩) hsz _).setCell (p:=⟨w.heap.size+1,2,none⟩) hsz _).setCell (p:=⟨w.heap.size+1,3,none⟩) hsz _).setCell (p:=⟨w.heap.size+1,4,none⟩) hsz _)
theorem copySession_any (p:Ss) (w:World) (h1:p.inn.size≤1048576) (h2:p.peer.size≤1048576) :
  Cb 147 #[ssC p] w (ssC p):=by
 have H1:Hid (∀ W,Cb 154 #[.string p.inn] W (.string p.inn)):=fun W=>cloneS_any _ W h1
 have H2:Hid (∀ W,Cb 154 #[.string p.peer] W (.string p.peer)):=fun W=>cloneS_any _ W h2
 have hun:undef=Value.tuple #[]:=rfl;clear h1 h2;have HP:Hid (HoldsL ((aW w (SsV p) 103).alloc (.cells (SsR 0 ⟨#[]⟩ 0 ⟨#[]⟩ 0 0 0).toArray 103)) w.heap.size (ssL p)):=(HoldsL.new w (ssL p) _).alloc _;have HO:Hid (HoldsL ((aW w (SsV p) 103).alloc (.cells (SsR 0 ⟨#[]⟩ 0 ⟨#[]⟩ 0 0 0).toArray 103)) (w.heap.size+1) (SsR 0 ⟨#[]⟩ 0 ⟨#[]⟩ 0 0 0)):=by
  have h:=HoldsL.new (w.alloc (.cells (SsV p).toArray 103)) (SsR 0 ⟨#[]⟩ 0 ⟨#[]⟩ 0 0 0) 103;rwa [World.size_alloc] at h
 have HZ:Hid (Below w.heap.size w ((aW w (SsV p) 103).alloc (.cells (SsR 0 ⟨#[]⟩ 0 ⟨#[]⟩ 0 0 0).toArray 103))):=((Below.refl _ _).alloc (Nat.le_refl _) _).alloc (by simp) _;unfold ssC;go_enter Tryz.func147,Tryz.ntmps147
 go_upto_region 1 with fail
 generalize ((aW w (SsV p) 103).alloc (.cells (SsR 0 ⟨#[]⟩ 0 ⟨#[]⟩ 0 0 0).toArray 103))=W at *;go_cut [3] (fun v wx=>HoldsL wx w.heap.size (ssL p)∧HoldsL wx (w.heap.size+1) (SsR 0 ⟨#[]⟩ 0 ⟨#[]⟩ 0 0 0)∧Below w.heap.size w wx)
 case first =>
  rename_i J K2 hJ hK2;clear hun;have HCP:Hid (∀ wy,Below W.drew.heap.size W.drew wy→HoldsL wy w.heap.size (ssL p)∧HoldsL wy (w.heap.size+1) (SsR 0 ⟨#[]⟩ 0 ⟨#[]⟩ 0 0 0)):=fun wy hy=>⟨HP.out.drew.kept (by simp [ssL]) hy,HO.out.drew.kept (by simp) hy⟩
  refine wp_region_growV [3,4,5,6,7,8,9] (by kernel_rfl) (by kernel_rfl) ?_;iterate 5 (apply GChV.u rfl;(·intro K' a wy ho hd hb hK;simp [rAt,IsV,slot,Region.binds] at ho hd;have hld:=(HCP.out wy hb).1;have kC:=hld.c7;go_simp;first|((try go_bits);exact hK _ _ rfl bQ)|(refine (H1.out wy).mono ?_;rintro e wz ⟨rfl,hz⟩;exact hK _ _ rfl hz));dsimp only [nA,cA])
  iterate 2 (apply GChV.u rfl;(·intro K' a wy ho hd hb hK;simp [rAt,IsV,slot,Region.binds] at ho hd;go_simp;first|((try go_bits);exact hK _ _ rfl bQ)|(refine (H2.out wy).mono ?_;rintro e wz ⟨rfl,hz⟩;exact hK _ _ rfl hz));dsimp only [nA,cA])
  intro X wz hR hz;simp only [List.nil_append,List.cons_append,RAll,IsV] at hR;simp only [putsFrom,hR];clear hR;obtain ⟨hh,hz0⟩:=HCP.out wz hz;have HB:Hid (Below w.heap.size w wz):=HZ.out.drew.trans (hz.mono HZ.out.size);have f1:wz.frozen? ⟨w.heap.size,1,none⟩=false:=hh.free (j:=1) (by simp [ssL]);have f3:wz.frozen? ⟨w.heap.size,3,none⟩=false:=hh.free (j:=3) (by simp [ssL]);obtain ⟨k0,k1,k2,k3,k4,k5,k6⟩:=hh.c7;have HH:Hid (HoldsL wz w.heap.size (ssL p)):=hh;have HH0:Hid (HoldsL wz (w.heap.size+1) (SsR 0 ⟨#[]⟩ 0 ⟨#[]⟩ 0 0 0)):=hz0;clear hh hz0;intro K10 hK10;go_simp;refine hK10 _ _ ?_;intro K11 hK11;go_simp;refine hK11 _ _ ?_;intro K12 hK12;go_simp;refine hK12 _ _ ?_;show Exit.then _ _ _ _ _;refine hK2 _ _ (hJ _ _ ?_);(repeat apply Exists.intro)
  refine ⟨⟨(HH.out.set 1 _).set 3 _,(HH0.out.setOther (by omega) _).setOther (by omega) _,?_⟩,rfl⟩;exact (HB.out.setCell (p:=⟨w.heap.size,1,none⟩) (Nat.le_refl _) _).setCell (p:=⟨w.heap.size,3,none⟩) (Nat.le_refl _) _
 case rest =>
  obtain ⟨hh,h0,hb⟩:=hcut;have HB:Hid (Below w.heap.size w wc):=hb;obtain ⟨k0,k1,k2,k3,k4,k5,k6⟩:=hh.c7;obtain ⟨y0,y1,y2,y3,y4,y5,y6⟩:=h0.f7;obtain ⟨z0,z1,z2,z3,z4,z5,z6⟩:=h0.c7;clear hh h0 hb;go_wp2_with fail
  refine bodyPost_ret (v:=.agg (SsV p).toArray) (by simp [results,Tryz.results147,go_sem,z0,z1,z2,z3,z4,z5,z6]) rfl ⟨rfl,?_⟩;have hsz:w.heap.size≤w.heap.size+1:=Nat.le_succ _;exact (((((((HB.out.setCell (p:=⟨w.heap.size+1,0,none⟩) hsz _).setCell (p:=⟨w.heap.size+1,1,none⟩) hsz _).setCell (p:=⟨w.heap.size+1,2,none⟩) hsz _).setCell (p:=⟨w.heap.size+1,3,none⟩) hsz _).setCell (p:=⟨w.heap.size+1,4,none⟩) hsz _).setCell (p:=⟨w.heap.size+1,5,none⟩) hsz _).setCell (p:=⟨w.heap.size+1,6,none⟩) hsz _)
end Go.Proofs.YtcckaeppiamebaaGreatDoor
