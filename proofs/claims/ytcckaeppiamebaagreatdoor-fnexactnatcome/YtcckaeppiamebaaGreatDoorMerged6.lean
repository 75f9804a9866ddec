import Derived.Test.YtcckaeppiamebaaGreatDoorAb
import Derived.Test.YtcckaeppiamebaaGreatDoorMerged5
import Derived.Test.YtcckaeppiamebaaGreatDoorMerged3
import Derived.Test.YtcckaeppiamebaaGreatDoorMerged1
import Derived.Maps.Keyed
import Derived.Maps.AppendAt
import Derived.Maps.OwnOps
import Derived.DeepKeys5
import Derived.Deep.DeepCutAuto
import Derived.OwnWalk
import Derived.Test.YtcckaeppiamebaaGreatDoorMerged4
set_option linter.unusedVariables false
set_option linter.unusedSimpArgs false
set_option maxRecDepth 100000
set_option maxHeartbeats 8000000
namespace Go.Proofs.YtcckaeppiamebaaGreatDoor
open Go.RowKit Go.PlainAid
theorem findI_in {α:Type} (f:α→Bool) (xs:List α) : -1≤findI f xs∧findI f xs < xs.length:=by
 unfold findI
 cases h:xs.findIdx? f with
 | none=>simp; omega
 | some i =>
  obtain ⟨hi,_,_⟩:=List.findIdx?_eq_some_iff_getElem.1 h;simp; omega
theorem sessAt_any (p:Sk) (xs:List Ss) (a:Option Addr) (cap:Nat) (w:World) (hl:xs.length≤1048576) (hr:SlIs ssL 7 w a xs) :
  Cb 108 #[.slice a xs.length cap,skC p] w (iV (findI (fun q=>sameSk (sessK q) p) xs)):=by
 have HZ:Hid (Below w.heap.size w (w.alloc (.cells (BdR p.host.proto p.host.addr p.host.port p.peer p.peerPort).toArray 160))):=(Below.refl _ _).alloc (Nat.le_refl _) _;have HK:Hid (HoldsL (w.alloc (.cells (BdR p.host.proto p.host.addr p.host.port p.peer p.peerPort).toArray 160)) w.heap.size (skL p)):=HoldsL.new w (skL p) 160;have HI:Hid (∀ W,Below w.heap.size w W→HoldsL W w.heap.size (skL p)→Cb 142 #[.slice a xs.length cap,.func (.func 143) #[] #[.pointer (some ⟨w.heap.size,0,none⟩)]] W (iV (findI (fun q=>sameSk (sessK q) p) xs))):=fun W hW h1=>idxSession_any (fun q=>sameSk (sessK q) p) 143 (fun args W=>by kernel_rfl) _ xs a cap W hl (hr.below hW) (fun W' hW' q hq=>sessAt1_any q p _ W' (h1.kept (by simp [skL]) hW'))
 obtain ⟨hf1,hf2⟩:=findI_in (fun q=>sameSk (sessK q) p) xs;generalize findI (fun q=>sameSk (sessK q) p) xs=fi at *;clear hr;unfold skC;go_enter Tryz.func108,Tryz.ntmps108
 go_upto_region 1 with fail
 generalize (w.alloc (.cells (BdR p.host.proto p.host.addr p.host.port p.peer p.peerPort).toArray 160))=W at *;go_wp2_with fail
 refine (HI.out _ HZ.out HK.out).mono ?_;rintro e w1 ⟨rfl,q1⟩;have B1:Hid _:=HZ.out.trans (q1.mono HZ.out.size);clear q1;go_wp2_with fail
 go_ret;exact ⟨rfl,B1.out⟩
theorem hasFunc_any (f:Ss→Bool) (F:Nat) (hG:Enters F) (caps:Array Value) (xs:List Ss) (a:Option Addr) (cap:Nat) (w:World) (hl:xs.length≤1048576) (hr:SlIs ssL 7 w a xs) (hC:∀ W,Below w.heap.size w W→∀ q,q∈xs→Calls Tryz.prog F (#[ssC q]++caps) W fun e w'=>e=.returned (.bool (f q))∧Below W.heap.size W w') :
  Cb 170 #[.slice a xs.length cap,.func (.func F) #[] caps] w (.bool (xs.any f)):=by
 have HI:Hid _:=idxSession_any f F hG caps xs a cap w hl hr hC;have HF:Hid (decide (0≤findI f xs)=xs.any f):=findI_any f xs;obtain ⟨hf1,hf2⟩:=findI_in f xs;generalize xs.any f=ans at *;generalize findI f xs=fi at *;clear hr hC hG;go_enter Tryz.func170,Tryz.ntmps170
 go_wp2_with fail
 refine Calls.mono HI.out ?_;rintro e w1 ⟨rfl,b1⟩;have B1:Hid _:=b1;clear b1;go_wp2_with fail
 go_ret;exact ⟨ret_bool HF.out,B1.out⟩
theorem hasSess_any (b:Bd) (xs:List Ss) (a:Option Addr) (cap:Nat) (w:World) (hl:xs.length≤1048576) (hr:SlIs ssL 7 w a xs) :
  Cb 168 #[.slice a xs.length cap,bdC b] w (.bool (xs.any (hasS b))):=by
 have HZ:Hid (Below w.heap.size w (w.alloc (.cells (BdV b).toArray 94))):=(Below.refl _ _).alloc (Nat.le_refl _) _;have HH:Hid (∀ W,Cb 137 #[.agg (BdV b).toArray] W (.agg (EnV b.proto b.inn b.inPort).toArray)):=fun W=>hostEnd_any b W
 have HC:Hid (∀ W B,Below w.heap.size w W→HoldsL W B (enL (hostE b))→Cb 170 #[.slice a xs.length cap,.func (.func 182) #[] #[.pointer (some ⟨B,0,none⟩)]] W (.bool (xs.any (hasS b)))):=fun W B hW hB=>by
  have h:=hasFunc_any (fun q=>sameEn (sessE q) (hostE b)) 182 (fun args W=>by kernel_rfl) #[.pointer (some ⟨B,0,none⟩)] xs a cap W hl (hr.below hW) (fun W' hW' q hq=>hasSess1_any q (hostE b) B W' (hB.kept (by simp [enL]) hW'));rw [show (fun q=>sameEn (sessE q) (hostE b))=hasS b from funext fun q=>sess_has b q] at h;exact h
 generalize xs.any (hasS b)=ans at *;clear hr;unfold bdC;go_enter Tryz.func168,Tryz.ntmps168
 go_wp2_with fail
 refine (HH.out _).mono ?_;rintro e w1 ⟨rfl,q1⟩;have B1:Below w.heap.size w w1:=HZ.out.trans (q1.mono HZ.out.size);go_upto_region 2 with fail
 have B2:Hid (Below w.heap.size w (w1.alloc (.cells (EnV b.proto b.inn b.inPort).toArray 155))):=B1.alloc B1.size _;have K2:Hid (HoldsL (w1.alloc (.cells (EnV b.proto b.inn b.inPort).toArray 155)) w1.heap.size (enL (hostE b))):=HoldsL.new w1 (enL (hostE b)) 155;generalize (w1.alloc (.cells (EnV b.proto b.inn b.inPort).toArray 155))=W2 at *;clear q1 B1 HZ HH;go_wp2_with fail
 refine (HC.out _ _ B2.out K2.out).mono ?_;rintro e w3 ⟨rfl,q3⟩;have B3:Hid _:=B2.out.trans (q3.mono B2.out.size);clear q3;go_wp2_with fail
 go_ret;exact ⟨rfl,B3.out⟩
theorem outOf1_any (q:Bd) (s:ByteArray) (B:Nat) (w:World) (hB:HoldsL w B [.string s]) :
  Cb 181 #[bdC q,.pointer (some ⟨B,0,none⟩)] w (.bool (ofHost s q)):=by
 have HZ:Hid (Below w.heap.size w (w.alloc (.cells (BdV q).toArray 94))):=(Below.refl _ _).alloc (Nat.le_refl _) _;have K1:=hB.alloc (.cells (BdV q).toArray 94);have K2:HoldsL (w.alloc (.cells (BdV q).toArray 94)) w.heap.size (bdL q):=HoldsL.new w (bdL q) 94;have HV:Hid (ofHost s q=decide (q.inn.toList=s.toList)):=rfl;generalize ofHost s q=ans at *;unfold bdC;go_enter Tryz.func181,Tryz.ntmps181
 go_upto_region 1 with fail
 generalize (w.alloc (.cells (BdV q).toArray 94))=W at *;have c1:=K2.cell (j:=1) rfl;have k0:=K1.cell (j:=0) rfl;clear K1 K2 hB;go_wp2_with fail
 go_ret;exact ⟨ret_bool (by rw [HV.out]; first | rfl | (rw [Bool.eq_iff_iff]; simp)),HZ.out⟩
theorem outOf_any (s:ByteArray) (xs:List Bd) (a:Option Addr) (cap:Nat) (w:World) (hl:xs.length≤1048576) (hr:SlIs bdL 5 w a xs) :
  Cb 166 #[.slice a xs.length cap,.string s] w (.tuple #[.string (outIn xs ⟨#[]⟩ s),.bool (xs.find? (ofHost s)).isSome]):=by
 have HZ:Hid (Below w.heap.size w (w.alloc (.cells #[.string s] 9))):=(Below.refl _ _).alloc (Nat.le_refl _) _;have HK:Hid (HoldsL (w.alloc (.cells #[.string s] 9)) w.heap.size [.string s]):=HoldsL.new w _ _;have HI:Hid (∀ W,Below w.heap.size w W→HoldsL W w.heap.size [.string s]→Cb 180 #[.slice a xs.length cap,.func (.func 181) #[] #[.pointer (some ⟨w.heap.size,0,none⟩)]] W (iV (findI (ofHost s) xs))):=fun W hW h1=>idxBind_any (ofHost s) 181 (fun args W=>by kernel_rfl) _ xs a cap W hl (hr.below hW) (fun W' hW' q hq=>outOf1_any q s _ W' (h1.kept (by simp) hW'))
 have HR:Hid (SlIs bdL 5 w a xs):=hr;have HV:Hid (outIn xs ⟨#[]⟩ s=match xs.find? (ofHost s) with | some c=>c.out | none=>⟨#[]⟩):=rfl;have HAT:Hid (0≤findI (ofHost s) xs→∃ i:Nat,∃ hi:i < xs.length,findI (ofHost s) xs=i∧xs.find? (ofHost s)=some xs[i]):=fun h=>findBd_at _ xs (by omega)
 have HNO:Hid (findI (ofHost s) xs < 0→xs.find? (ofHost s)=none):=find_no _ xs;obtain ⟨hf1,hf2⟩:=findI_in (ofHost s) xs;generalize outIn xs ⟨#[]⟩ s=ans at *;generalize xs.find? (ofHost s)=fd at *;generalize findI (ofHost s) xs=fi at *;clear hr;go_enter Tryz.func166,Tryz.ntmps166
 go_upto_region 1 with fail
 generalize (w.alloc (.cells #[.string s] 9))=W at *;go_wp2_with fail
 refine (HI.out _ HZ.out HK.out).mono ?_;rintro e w1 ⟨rfl,q1⟩;have B1:Hid _:=HZ.out.trans (q1.mono HZ.out.size);clear q1 HI HK HZ;by_cases hk:fi < 0
 ·have HX:=HNO.out hk;have HA:Hid (ans=⟨#[]⟩∧fd.isSome=false):=by unfold Hid; rw [HV.out,HX]; exact ⟨rfl,rfl⟩
  clear HX HNO HAT HV;go_wp2_with fail
  go_ret2
  exact ⟨by rw [HA.out.1,HA.out.2]; rfl,B1.out⟩
 ·obtain ⟨i,hi,hfi,hfd⟩:=HAT.out (by omega);subst hfi;obtain ⟨b,off,rfl,hb,hat⟩:=HR.out.at hi;have hA:=(hat.below hb B1.out) i hi;obtain ⟨q,hq⟩ : ∃ q,xs[i]=q:=⟨_,rfl⟩;rw [hq] at hA hfd;have HA:Hid (ans=q.out∧fd.isSome=true):=by unfold Hid; rw [HV.out,hfd]; exact ⟨rfl,rfl⟩
  have c3:w1.cell? ⟨b,off+i*5+3,none⟩=some (.string q.out):=hA 3 _ rfl;have hiI:(i:Int) < (xs.length:Int):=by omega
  clear hA hat hq hfd HAT HNO HV;go_wp2_with fail
  go_ret2
  exact ⟨by rw [HA.out.1,HA.out.2]; rfl,B1.out⟩
theorem sessRight_any (q:Ss) (w:World) (hs:q.peer.size≤1048576) :
  Cb 140 #[ssC q] w (.bool (sessR q)):=by
 have HZ:Hid (Below w.heap.size w (w.alloc (.cells (SsV q).toArray 103))):=(Below.refl _ _).alloc (Nat.le_refl _) _;have K2:HoldsL (w.alloc (.cells (SsV q).toArray 103)) w.heap.size (ssL q):=HoldsL.new w (ssL q) 103;have HW:Hid (∀ W,Cw 117 #[iV q.peerPort] W (.bool (isW q.peerPort))):=fun W=>implWordIs_any _ W
 have HT:Hid (∀ W,Cw 149 #[iV q.state] W (.bool (isIn q.state 1 7))):=fun W=>isState_any _ W
 have HO:Hid (∀ W,Cw 148 #[iV q.proto] W (.bool (stillP q.proto))):=fun W=>implStill_any _ W
 have HV:Hid (sessR q=(decide (q.peer.size=4)&&isW q.peerPort&&isIn q.state 1 7&&(decide (q.state=3)||!stillP q.proto)&&(decide (0≤q.untl)&&decide (q.untl≤2000000000)))):=rfl;generalize sessR q=ans at *;generalize isW q.peerPort=b1 at *;generalize isIn q.state 1 7=b2 at *;generalize stillP q.proto=b3 at *;have hun:undef=Value.tuple #[]:=rfl;unfold ssC;go_enter Tryz.func140,Tryz.ntmps140
 go_upto_region 1 with fail
 generalize (w.alloc (.cells (SsV q).toArray 103))=W at *;obtain ⟨c0,c1,c2,c3,c4,c5,c6⟩:=K2.c7;clear K2;by_cases h4:q.peer.size=4
 case neg =>
  have HX:Hid (ans=false):=by unfold Hid; rw [HV.out,decide_eq_false h4]; rfl
  have h4i:¬ (q.peer.size:Int)=4:=by omega
  have d1:((q.peer.size:Int)==4)=false:=by simp [h4i]
  go_wp2_with fail
  go_ret;exact ⟨ret_bool HX.out.symm,HZ.out⟩
 have h4i:(q.peer.size:Int)=4:=by omega
 have d1:((q.peer.size:Int)==4)=true:=by simp [h4i]
 clear h4i;go_wp2_with fail
 refine (HW.out _).mono ?_;rintro e W ⟨rfl,rfl⟩
 cases b1 with
 | false =>
  have HX:Hid (ans=false):=by unfold Hid; rw [HV.out]; simp
  go_wp2_with fail
  go_ret;exact ⟨ret_bool HX.out.symm,HZ.out⟩
 | true =>
 go_wp2_with fail
 refine (HT.out _).mono ?_;rintro e W ⟨rfl,rfl⟩
 cases b2 with
 | false =>
  have HX:Hid (ans=false):=by unfold Hid; rw [HV.out]; simp
  go_wp2_with fail
  go_ret;exact ⟨ret_bool HX.out.symm,HZ.out⟩
 | true =>
 by_cases h3:q.state=3
 ·have e3:(q.state==3)=true:=by simp [h3]
  have HV2:Hid (ans=(decide (0≤q.untl)&&decide (q.untl≤2000000000))):=by unfold Hid; rw [HV.out,decide_eq_true h4,decide_eq_true h3]; rfl
  have HH3:Hid (q.state=3):=h3;clear h3 HV;by_cases t0:0≤q.untl
  case neg =>
   have HX:Hid (ans=false):=by unfold Hid; rw [HV2.out,decide_eq_false t0]; simp
   have d0:decide (0≤q.untl)=false:=decide_eq_false t0;go_wp2_with fail
   go_ret;exact ⟨ret_bool HX.out.symm,HZ.out⟩
  have d0:decide (0≤q.untl)=true:=decide_eq_true t0;by_cases t1:q.untl≤2000000000
  case neg =>
   have HX:Hid (ans=false):=by unfold Hid; rw [HV2.out,decide_eq_false t1]; simp
   have d9:decide (q.untl≤2000000000)=false:=decide_eq_false t1;go_wp2_with fail
   go_ret;exact ⟨ret_bool HX.out.symm,HZ.out⟩
  have d9:decide (q.untl≤2000000000)=true:=decide_eq_true t1;have HX:Hid (ans=true):=by unfold Hid; rw [HV2.out,decide_eq_true t0,decide_eq_true t1]; rfl
  go_wp2_with fail
  go_ret;exact ⟨ret_bool HX.out.symm,HZ.out⟩
 ·have e3:(q.state==3)=false:=by simp [h3]
  have HV2:Hid (ans=(!b3&&(decide (0≤q.untl)&&decide (q.untl≤2000000000)))):=by unfold Hid; rw [HV.out,decide_eq_true h4,decide_eq_false h3]; rfl
  clear HV;go_wp2_with fail
  refine (HO.out _).mono ?_;rintro e W ⟨rfl,rfl⟩
  cases b3 with
  | true =>
   have HX:Hid (ans=false):=by unfold Hid; rw [HV2.out]; rfl
   go_wp2_with fail
   go_ret;exact ⟨ret_bool HX.out.symm,HZ.out⟩
  | false =>
  by_cases t0:0≤q.untl
  case neg =>
   have HX:Hid (ans=false):=by unfold Hid; rw [HV2.out,decide_eq_false t0]; simp
   have d0:decide (0≤q.untl)=false:=decide_eq_false t0;go_wp2_with fail
   go_ret;exact ⟨ret_bool HX.out.symm,HZ.out⟩
  have d0:decide (0≤q.untl)=true:=decide_eq_true t0;by_cases t1:q.untl≤2000000000
  case neg =>
   have HX:Hid (ans=false):=by unfold Hid; rw [HV2.out,decide_eq_false t1]; simp
   have d9:decide (q.untl≤2000000000)=false:=decide_eq_false t1;go_wp2_with fail
   go_ret;exact ⟨ret_bool HX.out.symm,HZ.out⟩
  have d9:decide (q.untl≤2000000000)=true:=decide_eq_true t1;have HX:Hid (ans=true):=by unfold Hid; rw [HV2.out,decide_eq_true t0,decide_eq_true t1]; rfl
  go_wp2_with fail
  go_ret;exact ⟨ret_bool HX.out.symm,HZ.out⟩
end Go.Proofs.YtcckaeppiamebaaGreatDoor
namespace Go.Proofs.YtcckaeppiamebaaGreatDoor
open Go.RowKit Go.MapKept
open Go.Maps (Keyed)
def MapAt (P:Program) (k:TypeId) (w:World) (b:Nat) (M:Value→Option Value):Prop :=
 ∃ es clock,w.heap[b]?=some (.map es clock)∧(∀ e∈es.toList,∃ l,keyOf P k e.key=some l)∧es.toList.Pairwise (fun x y=>x.key≠y.key)∧∀ x v,M x=some v↔∃ e∈es.toList,e.key=x∧e.val=v
section
variable {P:Program} {k t e:TypeId} {w W:World} {b:Nat} {M:Value→Option Value}
theorem MapAt.lt (h:MapAt P k w b M):b < w.heap.size:=by
 obtain ⟨es,clock,hb,_⟩:=h;exact (Array.getElem?_eq_some_iff.1 hb).1
theorem MapAt.of_block (h:MapAt P k w b M) (hb:W.heap[b]?=w.heap[b]?):MapAt P k W b M:=by
 obtain ⟨es,clock,h1,h2⟩:=h;exact ⟨es,clock,hb.trans h1,h2⟩
theorem MapAt.below (h:MapAt P k w b M) (hB:Below w.heap.size w W):MapAt P k W b M:=h.of_block (hB.block b h.lt)
theorem MapAt.grown {row:Option Nat} (h:MapAt P k w b M) (hg:w.grownBy W row) (hr:some b≠row):MapAt P k W b M:=h.of_block (hg.block b h.lt hr)
theorem MapAt.made (w:World):MapAt P k (w.alloc (.map #[] 0)) w.heap.size (fun _=>none) :=
 ⟨#[],0,heap_alloc_new w _,fun e he=>by simp at he,by simp,fun x v=>by simp⟩
theorem find_in (K:Keyed P k) {es:List MapEntry} (hk:∀ e∈es,∃ l,keyOf P k e.key=some l) (hp:es.Pairwise fun x y=>x.key≠y.key) (hM:∀ x v,M x=some v↔∃ e∈es,e.key=x∧e.val=v) {x:Value} {l:Lit} (hx:keyOf P k x=some l) (w:World) :
  ((Instr.findKey k x es).run P w=.ok none w∧M x=none∧∀ e∈es,e.key≠x)∨∃ j e,(Instr.findKey k x es).run P w=.ok (some (j,e.val)) w∧M x=some e.val∧es[j]?=some e∧e.key=x:=by
 rcases K.find w hx es hk with ⟨h1,h2⟩ | ⟨j,e,h1,h2,h3⟩
 ·refine .inl ⟨h1,?_,h2⟩
  cases hm:M x with
  | none=>rfl
  | some v =>
   obtain ⟨e,he,hkx,_⟩:=(hM x v).1 hm;exact absurd hkx (h2 e he)
 ·exact .inr ⟨j,e,h1,(hM x e.val).2 ⟨e,List.mem_of_getElem? h2,h3,rfl⟩,h2,h3⟩
theorem MapAt.look (K:Keyed P k) (ht:P.underlying t=some (.map k e)) (h:MapAt P k w b M) {x z:Value} {l:Lit} (hx:keyOf P k x=some l) (hz:(zeroValue e).run P w=.ok z w) :
  (Instr.lookup t (.map (some b)) x false).run P w=.ok ((M x).getD z) w∧(Instr.lookup t (.map (some b)) x true).run P w=.ok (.tuple #[(M x).getD z,.bool (M x).isSome]) w:=by
 obtain ⟨es,clock,hb,hk,hp,hM⟩:=h;rcases find_in K hk hp hM hx w with ⟨h1,h2,_⟩ | ⟨j,e0,h1,h2,_⟩
 ·constructor<;>simp [Instr.lookup,run_underlying ht,MapKept.run_getObj_map hb,K.check w _ hx,h1,h2,hz,Result.andThen]
 ·constructor<;>simp [Instr.lookup,run_underlying ht,MapKept.run_getObj_map hb,K.check w _ hx,h1,h2,hz,Result.andThen]
theorem grown_block (w:World) (b:Nat) (o:Obj):w.grownBy { w with heap:=w.heap.setIfInBounds b o } (some b) :=
 ⟨rfl,rfl,rfl,by simp,fun k hk hne=>by
  show (w.heap.setIfInBounds b o)[k]?=w.heap[k]?;rw [Array.getElem?_setIfInBounds_ne (fun e=>hne (by rw [e]))]⟩
theorem at_block (w:World) {b:Nat} (o:Obj) (hb:b < w.heap.size):({ w with heap:=w.heap.setIfInBounds b o }:World).heap[b]?=some o:=by
 show (w.heap.setIfInBounds b o)[b]?=some o;simp [hb]
open Classical in
theorem MapAt.put (K:Keyed P k) (ht:P.underlying t=some (.map k e)) (h:MapAt P k w b M) {x v:Value} {l:Lit} (hx:keyOf P k x=some l) :
  ∃ W M',(Instr.mapUpdate t (.map (some b)) x v).run P w=.ok () W∧MapAt P k W b M'∧M' x=some v∧(∀ y,y≠x→M' y=M y)∧w.grownBy W (some b)∧W.heap.size=w.heap.size:=by
 have hlt:=h.lt;obtain ⟨es,clock,hb,hk,hp,hM⟩:=h;rcases find_in K hk hp hM hx w with ⟨h1,h2,h3⟩ | ⟨j,e0,h1,h2,h3,h4⟩
 ·refine ⟨{ w with heap:=w.heap.setIfInBounds b (.map (es.push ⟨x,v,clock⟩) (clock+1)) },fun y=>if y=x then some v else M y,?_,⟨_,_,at_block w _ hlt,?_,?_,fun y u=>?_⟩,if_pos rfl,fun y hy=>if_neg hy,grown_block w b _,by simp⟩
  ·simp [Instr.mapUpdate,run_underlying ht,MapKept.run_getObj_map hb,K.check w false hx,h1,MapKept.run_setObj_map _ hb,Result.andThen]
  ·intro y hy;simp only [Array.toList_push,List.mem_append,List.mem_singleton] at hy;rcases hy with hy | rfl
   ·exact hk y hy
   ·exact ⟨l,hx⟩
  ·rw [Array.toList_push];refine List.pairwise_append.2 ⟨hp,by simp,fun a ha c hc=>?_⟩;obtain rfl:c=⟨x,v,clock⟩:=by simpa using hc
   exact h3 a ha
  ·rw [Array.toList_push];dsimp only;by_cases hy:y=x
   ·subst hy;rw [if_pos rfl];constructor
    ·intro hu;exact ⟨⟨y,v,clock⟩,by simp,rfl,by simpa using hu⟩
    ·rintro ⟨a,ha,ha1,ha2⟩;simp only [List.mem_append,List.mem_singleton] at ha;rcases ha with ha | rfl
     ·exact absurd ha1 (h3 a ha)
     ·simpa using ha2
   ·rw [if_neg hy,hM];constructor
    ·rintro ⟨a,ha,ha1,ha2⟩;exact ⟨a,by simp [ha],ha1,ha2⟩
    ·rintro ⟨a,ha,ha1,ha2⟩;simp only [List.mem_append,List.mem_singleton] at ha;rcases ha with ha | rfl
     ·exact ⟨a,ha,ha1,ha2⟩
     ·exact absurd ha1.symm hy
 ·have hj:es[j]?=some e0:=by simpa using h3
  have hjl:j < es.toList.length:=(List.getElem?_eq_some_iff.1 h3).1;have hlist:(es.modify j (fun e'=>{ e' with key:=x,val:=v })).toList=es.toList.set j { e0 with key:=x,val:=v }:=by rw [Array.toList_modify,Go.ChangeMaps.modify_eq_set _ _ _ _ h3]
  have hoth:∀ i (hi:i < es.toList.length),i≠j→es.toList[i].key≠x:=fun i hi hne=>by
   have hje:es.toList[j].key=x:=by
    have:=(List.getElem?_eq_some_iff.1 h3).2;rw [this]; exact h4
   rw [List.pairwise_iff_getElem] at hp;rcases Nat.lt_or_ge i j with hlt' | hge
   ·have:=hp i j hi hjl hlt';rw [hje] at this; exact this
   ·have:=hp j i hjl hi (by omega);rw [hje] at this; exact fun e=>this e.symm
  have who:∀ y∈es.toList.set j { e0 with key:=x,val:=v },y={ e0 with key:=x,val:=v }∨(y∈es.toList∧y.key≠x):=by
   intro y hy;obtain ⟨i,hi,ey⟩:=List.getElem_of_mem hy;rw [List.getElem_set] at ey;split at ey
   ·exact Or.inl ey.symm
   ·rename_i hne;have hi':i < es.toList.length:=by simpa using hi
    exact Or.inr ⟨ey ▸ List.getElem_mem hi',by rw [← ey]; exact hoth i hi' (fun e=>hne e.symm)⟩
  have wo:∀ y∈es.toList,y.key≠x→y∈es.toList.set j { e0 with key:=x,val:=v }:=by
   intro y hy hne;obtain ⟨i,hi,ey⟩:=List.getElem_of_mem hy;have hij:i≠j:=fun e=>by
    subst e;have:=(List.getElem?_eq_some_iff.1 h3).2;rw [ey] at this; rw [this] at hne; exact hne h4
   exact List.mem_iff_getElem.2 ⟨i,by simpa using hi,by rw [List.getElem_set_ne (fun e=>hij e.symm)]; exact ey⟩
  refine ⟨{ w with heap:=w.heap.setIfInBounds b (.map (es.modify j fun e'=>{ e' with key:=x,val:=v }) clock) },fun y=>if y=x then some v else M y,?_,⟨_,_,at_block w _ hlt,?_,?_,fun y u=>?_⟩,if_pos rfl,fun y hy=>if_neg hy,grown_block w b _,by simp⟩
  ·simp [Instr.mapUpdate,run_underlying ht,MapKept.run_getObj_map hb,K.check w false hx,h1,hj,h4,K.stays w hx,MapKept.run_setObj_map _ hb,Result.andThen]
  ·rw [hlist];intro y hy;rcases who y hy with rfl | ⟨hy',_⟩
   ·exact ⟨l,hx⟩
   ·exact hk y hy'
  ·rw [hlist,List.pairwise_iff_getElem];intro p q hpl hql hpq;rw [List.length_set] at hpl hql;rw [List.getElem_set,List.getElem_set];by_cases e1:j=p
   ·subst e1;rw [if_pos rfl,if_neg (by omega)];exact fun e=>hoth q hql (by omega) e.symm
   ·rw [if_neg e1];by_cases e2:j=q
    ·subst e2;rw [if_pos rfl];exact hoth p hpl (fun e=>e1 e.symm)
    ·rw [if_neg e2];exact (List.pairwise_iff_getElem.1 hp) p q hpl hql hpq
  ·rw [hlist];dsimp only;by_cases hy:y=x
   ·subst hy;rw [if_pos rfl];constructor
    ·intro hu;exact ⟨{ e0 with key:=y,val:=v },List.mem_iff_getElem.2 ⟨j,by simpa using hjl,by simp⟩,rfl,by simpa using hu⟩
    ·rintro ⟨a,ha,ha1,ha2⟩;rcases who a ha with rfl | ⟨_,hne⟩
     ·simpa using ha2
     ·exact absurd ha1 hne
   ·rw [if_neg hy,hM];constructor
    ·rintro ⟨a,ha,ha1,ha2⟩;exact ⟨a,wo a ha (by rw [ha1]; exact hy),ha1,ha2⟩
    ·rintro ⟨a,ha,ha1,ha2⟩;rcases who a ha with rfl | ⟨ha',_⟩
     ·exact absurd ha1.symm hy
     ·exact ⟨a,ha',ha1,ha2⟩
open Classical in
end
end Go.Proofs.YtcckaeppiamebaaGreatDoor
namespace Go.Proofs.YtcckaeppiamebaaGreatDoor
open Go.RowKit
theorem wp_look_val {P:Program} {o:Oper} {a:Act} {w:World} {v1 v2 v':Value} {K:Act→World→Prop} {Q:Exit→Act→World→Prop} (t:TypeId) (x ix:Operand) (ok:Bool) (hop:o.op=Op.lookup t x ix ok)
  (hs:a.eval x=v1) (hx:a.eval ix=v2) (hrun:(Instr.lookup t v1 v2 ok).run P w=.ok v' w) (hK:K (a.put o.dst v') w):Oper.wp P o a w K Q:=by
 unfold Oper.wp;simp [execOp,hop,hs,hx,hrun,Result.andThen];exact hK
theorem wpList_look_val {P:Program} {ops:Array Oper} {rest:List Oper} {o:Oper} {a:Act} {w:World} {v1 v2 v':Value} {Q:Exit→Act→World→Prop} (hg:o.guard=none) (t:TypeId) (x ix:Operand) (ok:Bool) (hop:o.op=Op.lookup t x ix ok)
  (hs:a.eval x=v1) (hx:a.eval ix=v2) (hrun:(Instr.lookup t v1 v2 ok).run P w=.ok v' w) (hK:wpList P ops Q rest (a.put o.dst v') w):wpList P ops Q (o::rest) a w :=
 wpList_plain hg fun K hK'=>wp_look_val t x ix ok hop hs hx hrun (hK' _ _ hK)
theorem wp_upd_val {P:Program} {o:Oper} {a:Act} {w w':World} {v1 v2 v3:Value} {K:Act→World→Prop} {Q:Exit→Act→World→Prop} (t:TypeId) (m x y:Operand) (hop:o.op=Op.mapUpdate t m x y)
  (hm:a.eval m=v1) (hx:a.eval x=v2) (hy:a.eval y=v3) (hrun:(Instr.mapUpdate t v1 v2 v3).run P w=.ok () w') (hK:K (a.put o.dst undef) w'):Oper.wp P o a w K Q:=by
 unfold Oper.wp;simp [execOp,hop,hm,hx,hy,hrun,Result.andThen];exact hK
open Go.PlainAid
open Go.Maps (Keyed)
def bkC (pa:Option Addr) (pc:Nat) (p:Pl) (a b:Option Addr) (ca cb:Nat) (x:Bb) (m1 m2:Nat):Value:=.agg (KkV pa pc p a ca b cb x m1 m2).toArray
def EnIn (e:En):Prop:=e.addr.size≤1048576∧In64t e.proto∧In64t e.port
def BdGood (q:Bd):Prop:=q.inn.size≤1048576∧q.out.size≤1048576∧In64t q.proto∧In64t q.inPort∧In64t q.outPort
def SsGood (s:Ss):Prop:=s.inn.size≤1048576∧s.peer.size≤1048576∧In64t s.proto∧In64t s.inPort
theorem hostE_in {q:Bd} (h:BdGood q):EnIn (hostE q):=⟨h.1,h.2.2.1,h.2.2.2.1⟩
theorem lentE_in {q:Bd} (h:BdGood q):EnIn (lentE q):=⟨h.2.1,h.2.2.1,h.2.2.2.2⟩
theorem sessE_in {s:Ss} (h:SsGood s):EnIn (sessE s):=⟨h.1,h.2.2.1,h.2.2.2⟩
theorem sameEn_iff (q p:En):sameEn q p=true↔q=p:=by
 rw [sameEn_eq];simp only [Bool.and_eq_true,decide_eq_true_iff];constructor
 ·rintro ⟨⟨h1,h2⟩,h3⟩;have h4:q.addr=p.addr:=by
   rw [ByteArray.toList_eq,ByteArray.toList_eq] at h2;apply ByteArray.ext;exact Array.toList_inj.1 h2
  cases q; cases p; simp_all
 ·rintro rfl; simp
theorem enC_inj {q p:En} (h:enC q=enC p):q=p:=by
 unfold enC at h;simp at h
 cases q; cases p; simp_all
theorem find_some_any {α:Type} (f:α→Bool) (xs:List α):(xs.find? f).isSome=xs.any f:=by
 rw [Bool.eq_iff_iff,List.find?_isSome,List.any_eq_true]
theorem keyed_en:Keyed Tryz.prog 155:=Keyed.of_law (deep_law_gate (by kernel_rfl) (of_decide_eq_true (by kernel_rfl)) (of_decide_eq_true (by kernel_rfl)) (by kernel_rfl) (by kernel_rfl))
theorem wf64b {n:Int} (h:In64t n):(Lit.int .i64 n).wf=true:=by
 simp [Lit.wf]; exact ⟨h.1,h.2⟩
theorem keyOf_en (e:En) (h:EnIn e):∃ l,keyOf Tryz.prog 155 (enC e)=some l:=by
 obtain ⟨h1,h3,h4⟩:=h;have h1:e.addr.size≤maxLen:=by unfold maxLen; omega
 have k1:Tryz.prog.keyType 155=true:=by kernel_rfl
 have k2:Tryz.prog.cellsOf 155=3:=by kernel_rfl
 have k3:Tryz.prog.cellsOf 9=1:=by kernel_rfl
 have k4:Tryz.prog.cellsOf 2=1:=by kernel_rfl
 have k5:∃ m,Tryz.prog.types.size+1=m+2:=⟨Tryz.prog.types.size-1,by have:1≤Tryz.prog.types.size:=of_decide_eq_true (by kernel_rfl); omega⟩;obtain ⟨m,k5⟩:=k5;have w3:=wf64b h3;have w4:=wf64b h4;unfold keyOf;rw [Tryz.underlying155];simp only [k1,Value.formed,enC,Tryz.underlying155,k2,Value.cells,k5];simp [Program.keyLits,Tryz.underlying155,Tryz.underlying9,Tryz.underlying2,k2,k3,k4,h1,w3,w4]
theorem zero_bd (w:World):(zeroValue 94).run Tryz.prog w=.ok (bdC bdZ) w:=by kernel_rfl
structure BookOf (w:World) (m1 m2:Nat) (xs ys:List Bd) (M1 M2:Value→Option Value):Prop where
 h1:MapAt Tryz.prog 155 w m1 M1
 h2:MapAt Tryz.prog 155 w m2 M2
 v1:∀ e:En,M1 (enC e)=(xs.find? fun q=>sameEn (hostE q) e).map bdC
 v2:∀ e:En,M2 (enC e)=(ys.find? fun q=>sameEn (lentE q) e).map bdC
 ne:m1≠m2
def BookAt (w:World) (m1 m2:Nat) (xs ys:List Bd):Prop:=∃ M1 M2,BookOf w m1 m2 xs ys M1 M2
section
variable {w W:World} {m1 m2:Nat} {xs ys:List Bd}
theorem BookAt.kept (h:BookAt w m1 m2 xs ys) (hb:Below w.heap.size w W):BookAt W m1 m2 xs ys:=by
 obtain ⟨M1,M2,h⟩:=h;exact ⟨M1,M2,h.h1.below hb,h.h2.below hb,h.v1,h.v2,h.ne⟩
theorem BookAt.lt (h:BookAt w m1 m2 xs ys):m1 < w.heap.size∧m2 < w.heap.size∧m1≠m2:=by
 obtain ⟨M1,M2,h⟩:=h;exact ⟨h.h1.lt,h.h2.lt,h.ne⟩
theorem BookAt.made {w:World}:BookAt ((w.alloc (.map #[] 0)).alloc (.map #[] 0)) w.heap.size (w.heap.size+1) [] []:=by
 have h2:=MapAt.made (P:=Tryz.prog) (k:=155) (w.alloc (.map #[] 0));rw [World.size_alloc] at h2;refine ⟨fun _=>none,fun _=>none,(MapAt.made w).below ((Below.refl _ _).alloc (Nat.le_refl _) _),h2,fun e=>rfl,fun e=>rfl,by omega⟩
theorem map_get (o:Option Bd):(o.map bdC).getD (bdC bdZ)=bdC (o.getD bdZ):=by cases o<;>rfl
theorem BookAt.look1 (h:BookAt w m1 m2 xs ys) {e:En} (he:EnIn e):(Instr.lookup 148 (.map (some m1)) (enC e) true).run Tryz.prog w=.ok (.tuple #[bdC ((xs.find? fun q=>sameEn (hostE q) e).getD bdZ),.bool (xs.find? fun q=>sameEn (hostE q) e).isSome]) w:=by
 obtain ⟨M1,M2,h⟩:=h;obtain ⟨l,hl⟩:=keyOf_en e he;have h1:=(h.h1.look (t:=148) keyed_en Tryz.underlying148 hl (zero_bd w)).2;rw [h.v1,map_get,Option.isSome_map] at h1;exact h1
theorem BookAt.get1 (h:BookAt w m1 m2 xs ys) {e:En} (he:EnIn e):(Instr.lookup 148 (.map (some m1)) (enC e) false).run Tryz.prog w=.ok (bdC ((xs.find? fun q=>sameEn (hostE q) e).getD bdZ)) w:=by
 obtain ⟨M1,M2,h⟩:=h;obtain ⟨l,hl⟩:=keyOf_en e he;have h1:=(h.h1.look (t:=148) keyed_en Tryz.underlying148 hl (zero_bd w)).1;rw [h.v1,map_get] at h1;exact h1
theorem BookAt.look2 (h:BookAt w m1 m2 xs ys) {e:En} (he:EnIn e):(Instr.lookup 148 (.map (some m2)) (enC e) true).run Tryz.prog w=.ok (.tuple #[bdC ((ys.find? fun q=>sameEn (lentE q) e).getD bdZ),.bool (ys.find? fun q=>sameEn (lentE q) e).isSome]) w:=by
 obtain ⟨M1,M2,h⟩:=h;obtain ⟨l,hl⟩:=keyOf_en e he;have h1:=(h.h2.look (t:=148) keyed_en Tryz.underlying148 hl (zero_bd w)).2;rw [h.v2,map_get,Option.isSome_map] at h1;exact h1
theorem find_snoc (E:Bd→En) (xs:List Bd) (q:Bd) (hn:xs.any (fun c=>sameEn (E c) (E q))=false) (M M':Value→Option Value) (hM:∀ e:En,M (enC e)=(xs.find? fun c=>sameEn (E c) e).map bdC) (h1:M' (enC (E q))=some (bdC q)) (h2:∀ y,y≠enC (E q)→M' y=M y) (e:En):M' (enC e)=((xs++[q]).find? fun c=>sameEn (E c) e).map bdC:=by
 rw [List.find?_append];by_cases he:e=E q
 ·subst he;have h0:xs.find? (fun c=>sameEn (E c) (E q))=none:=List.find?_eq_none.2 (fun c hc=>List.any_eq_false.1 hn c hc);have hs:sameEn (E q) (E q)=true:=(sameEn_iff _ _).2 rfl;rw [h0,h1]; simp [hs]
 ·have hs:sameEn (E q) e=false:=by
   cases h:sameEn (E q) e with
   | false=>rfl
   | true=>exact absurd ((sameEn_iff _ _).1 h).symm he
  rw [h2 _ (fun h=>he (enC_inj h)),hM];simp [hs]
theorem BookAt.put1 (h:BookAt w m1 m2 xs ys) {q:Bd} (hq:EnIn (hostE q)) (hn:xs.any (fun c=>sameEn (hostE c) (hostE q))=false) :
  ∃ W,(Instr.mapUpdate 148 (.map (some m1)) (enC (hostE q)) (bdC q)).run Tryz.prog w=.ok () W∧BookAt W m1 m2 (xs++[q]) ys∧w.grownBy W (some m1):=by
 obtain ⟨M1,M2,h⟩:=h;obtain ⟨l,hl⟩:=keyOf_en _ hq;obtain ⟨W,M',hup,hM',hx,hoth,hg,hs⟩:=h.h1.put (v:=bdC q) keyed_en Tryz.underlying148 hl;exact ⟨W,hup,⟨M',M2,hM',h.h2.grown hg (by simp; exact fun e=>h.ne e.symm),find_snoc hostE xs q hn M1 M' h.v1 hx hoth,h.v2,h.ne⟩,hg⟩
theorem BookAt.put2 (h:BookAt w m1 m2 xs ys) {q:Bd} (hq:EnIn (lentE q)) (hn:ys.any (fun c=>sameEn (lentE c) (lentE q))=false) :
  ∃ W,(Instr.mapUpdate 148 (.map (some m2)) (enC (lentE q)) (bdC q)).run Tryz.prog w=.ok () W∧BookAt W m1 m2 xs (ys++[q])∧w.grownBy W (some m2):=by
 obtain ⟨M1,M2,h⟩:=h;obtain ⟨l,hl⟩:=keyOf_en _ hq;obtain ⟨W,M',hup,hM',hx,hoth,hg,hs⟩:=h.h2.put (v:=bdC q) keyed_en Tryz.underlying148 hl;exact ⟨W,hup,⟨M1,M',h.h1.grown hg (by simp; exact h.ne),hM',h.v1,find_snoc lentE ys q hn M2 M' h.v2 hx hoth,h.ne⟩,hg⟩
end
def IsZd (base:Nat):Value→World→Prop:=fun v w=>∃ g,v=.pointer (some ⟨g,0,none⟩)∧base≤g∧HoldsL w g (bdL bdZ)
theorem stable_isZd (base:Nat):Stable (IsZd base):=fun v w w' ⟨g,h1,h2,h3⟩ hb=>⟨g,h1,h2,h3.kept (by simp [bdL]) hb⟩
end Go.Proofs.YtcckaeppiamebaaGreatDoor
namespace Go.Proofs.YtcckaeppiamebaaGreatDoor
open Go.RowKit Go.PlainAid
theorem implPool_any (p:Pl) (a:Option Addr) (cap:Nat) (w:World) (hl:p.addrs.length≤1048576) (hcap:p.addrs.length≤cap) (hsz:∀ s∈p.addrs,s.size≤1048576) (hr:SlIs strL1 1 w a p.addrs) :
  Cb 135 #[plC a cap p] w (.bool (poolOk p)):=by
 have hun:undef=Value.tuple #[]:=rfl;have GA:Hid (Below w.heap.size w (w.alloc (.cells (PlV a cap p).toArray 48))):=(Below.refl _ _).alloc (Nat.le_refl _) _;have H0:Hid (HoldsL (w.alloc (.cells (PlV a cap p).toArray 48)) w.heap.size (PlV a cap p)):=HoldsL.new w (PlV a cap p) 48;have HA:Hid (∀ W,Below w.heap.size w W→Cb 165 #[.slice a p.addrs.length cap] W (.bool (poolA p.addrs))):=fun W hW=>implPoolA_any p.addrs a cap W hl hcap hsz (hr.below hW)
 have HL:Hid (∀ W,Cb 152 #[lvC p.lv] W (.bool (livesOk p.lv))):=fun W=>implLives_any p.lv W
 have HV:Hid (poolOk p=(poolA p.addrs&&decide (1≤p.low)&&decide (p.low≤p.high)&&decide (p.high≤65535)&&decide (1≤p.most)&&decide (p.most≤60)&&decide (0≤p.filter)&&decide (p.filter≤2)&&livesOk p.lv)):=by
  unfold Hid poolOk poolA isIn;generalize livesOk p.lv=x1;generalize upN addrOne p.addrs p.addrs.length=x2;rw [Bool.eq_iff_iff]; simp only [Bool.and_eq_true];constructor
  ·intro h; simp_all
  ·intro h; simp_all
 generalize poolOk p=ans at *;generalize poolA p.addrs=bA at *;generalize livesOk p.lv=bL at *;clear hr hsz;unfold plC;unfold lvC at HL;go_enter Tryz.func135,Tryz.ntmps135
 go_wp2_with fail
 refine (HA.out _ GA.out).mono ?_;rintro e w1 ⟨rfl,q1⟩;have G1:Hid _:=GA.out.trans (q1.mono GA.out.size);have K1:=H0.out.kept (by simp) q1;obtain ⟨k0,k1,k2,k3,k4,k5,k6,k7,k8,k9⟩:=K1.c10;clear q1 K1 H0 GA HA
 cases bA with
 | false =>
  have HX:Hid (ans=false):=by unfold Hid; rw [HV.out]; simp
  go_wp2_with fail
  go_ret;exact ⟨ret_bool HX.out.symm,G1.out⟩
 | true =>
  by_cases t0:1≤p.low
  case neg =>
   have HX:Hid (ans=false):=by unfold Hid; rw [HV.out,decide_eq_false t0]; simp
   have d0:decide (1≤p.low)=false:=decide_eq_false t0;go_wp2_with fail
   go_ret;exact ⟨ret_bool HX.out.symm,G1.out⟩
  have d0:decide (1≤p.low)=true:=decide_eq_true t0;by_cases t1:p.low≤p.high
  case neg =>
   have HX:Hid (ans=false):=by unfold Hid; rw [HV.out,decide_eq_false t1]; simp
   have d1:decide (p.low≤p.high)=false:=decide_eq_false t1;go_wp2_with fail
   go_ret;exact ⟨ret_bool HX.out.symm,G1.out⟩
  have d1:decide (p.low≤p.high)=true:=decide_eq_true t1;by_cases t2:p.high≤65535
  case neg =>
   have HX:Hid (ans=false):=by unfold Hid; rw [HV.out,decide_eq_false t2]; simp
   have d2:decide (p.high≤65535)=false:=decide_eq_false t2;go_wp2_with fail
   go_ret;exact ⟨ret_bool HX.out.symm,G1.out⟩
  have d2:decide (p.high≤65535)=true:=decide_eq_true t2;by_cases t3:1≤p.most
  case neg =>
   have HX:Hid (ans=false):=by unfold Hid; rw [HV.out,decide_eq_false t3]; simp
   have d3:decide (1≤p.most)=false:=decide_eq_false t3;go_wp2_with fail
   go_ret;exact ⟨ret_bool HX.out.symm,G1.out⟩
  have d3:decide (1≤p.most)=true:=decide_eq_true t3;by_cases t4:p.most≤60
  case neg =>
   have HX:Hid (ans=false):=by unfold Hid; rw [HV.out,decide_eq_false t4]; simp
   have d4:decide (p.most≤60)=false:=decide_eq_false t4;go_wp2_with fail
   go_ret;exact ⟨ret_bool HX.out.symm,G1.out⟩
  have d4:decide (p.most≤60)=true:=decide_eq_true t4;by_cases t5:0≤p.filter
  case neg =>
   have HX:Hid (ans=false):=by unfold Hid; rw [HV.out,decide_eq_false t5]; simp
   have d5:decide (0≤p.filter)=false:=decide_eq_false t5;go_wp2_with fail
   go_ret;exact ⟨ret_bool HX.out.symm,G1.out⟩
  have d5:decide (0≤p.filter)=true:=decide_eq_true t5;by_cases t6:p.filter≤2
  case neg =>
   have HX:Hid (ans=false):=by unfold Hid; rw [HV.out,decide_eq_false t6]; simp
   have d6:decide (p.filter≤2)=false:=decide_eq_false t6;go_wp2_with fail
   go_ret;exact ⟨ret_bool HX.out.symm,G1.out⟩
  have d6:decide (p.filter≤2)=true:=decide_eq_true t6;have HX:Hid (ans=bL):=by unfold Hid; rw [HV.out,decide_eq_true t0,decide_eq_true t1,decide_eq_true t2,decide_eq_true t3,decide_eq_true t4,decide_eq_true t5,decide_eq_true t6]; rfl
  go_wp2_with fail
  refine (HL.out _).mono ?_;rintro e w2 ⟨rfl,q2⟩;have G2:Hid _:=G1.out.trans (q2.mono G1.out.size);clear q2;go_wp2_with fail
  go_ret;exact ⟨ret_bool HX.out.symm,G2.out⟩
end Go.Proofs.YtcckaeppiamebaaGreatDoor
/- GrowW: as GrowV, for regions whose last two operations wait for one another, the first of them for all the others but one, which may be late: the last one waits for it. -/
namespace Go.Proofs.YtcckaeppiamebaaGreatDoor
open Go.RowKit Go.ChangeShapes
set_option linter.unusedVariables false
set_option linter.unusedSimpArgs false

section
variable {P : Program} {ops : Array Oper} {Q : Exit → Act → World → Prop} {ds : List Tmp} {R : Nat → Value → World → Prop} {a0 : Act} {w0 : World} {f : Nat} {fo s0 s1 : Oper}

structure GFormW (ops : Array Oper) (ds : List Tmp) (n f : Nat) : Prop where
 le : ops.size = ds.length + 2
 fl : f < ds.length
 dst : ∀ i o, i < ds.length → ops[i]? = some o → o.dst = some (ds.getD i 0)
 nodup : ds.Nodup
 fits : ∀ d ∈ ds, d < n
 topo : ∀ i o, ops[i]? = some o → ∀ e ∈ o.after, Region.binds .any e = true → e.on < i
 nof : ∀ i o, i ≤ ds.length → ops[i]? = some o → ∀ e ∈ o.after, Region.binds .any e = true → e.on ≠ f
 sguard : ∀ i o, (ds.length ≤ i ∨ i = f) → ops[i]? = some o → o.guard = none
 all0 : ∀ o, ops[ds.length]? = some o → ∀ j, j < ds.length → j ≠ f → ∃ e ∈ o.after, Region.binds .any e = true ∧ e.on = j
 all1 : ∀ o, ops[ds.length + 1]? = some o → (∃ e ∈ o.after, Region.binds .any e = true ∧ e.on = f) ∧ ∃ e ∈ o.after, Region.binds .any e = true ∧ e.on = ds.length

def gformW (ops : Array Oper) (ds : List Tmp) (n f : Nat) : Bool :=
 decide (ops.size = ds.length + 2) && decide (f < ds.length) && (List.range ops.size).all (fun i => match ops[i]? with
  | some o => o.after.all (fun e => !Region.binds .any e || decide (e.on < i)) && (if i < ds.length then (match o.dst with | some d => d == ds.getD i 0 | none => false) else true) && (if ds.length ≤ i ∨ i = f then o.guard.isNone else true) && (if i ≤ ds.length then o.after.all (fun e => !Region.binds .any e || decide (e.on ≠ f)) else true)
  | none => true) && decide ds.Nodup && ds.all (fun d => decide (d < n)) &&
 (match ops[ds.length]? with | some o => (List.range ds.length).all (fun j => decide (j = f) || o.after.any (fun e => Region.binds .any e && e.on == j)) | none => true) &&
 (match ops[ds.length + 1]? with | some o => o.after.any (fun e => Region.binds .any e && e.on == f) && o.after.any (fun e => Region.binds .any e && e.on == ds.length) | none => true)
theorem GFormW.of {n : Nat} (h : gformW ops ds n f = true) : GFormW ops ds n f := by
 unfold gformW at h
 simp only [Bool.and_eq_true, decide_eq_true_iff, List.all_eq_true, List.mem_range] at h
 obtain ⟨⟨⟨⟨⟨⟨h1, h2⟩, h3⟩, h4⟩, h5⟩, h6⟩, h7⟩ := h
 have hb : ∀ i o, ops[i]? = some o → i < ops.size := fun i o ho => (Array.getElem?_eq_some_iff.1 ho).1
 have h3' : ∀ i o, ops[i]? = some o → (o.after.all (fun e => !Region.binds .any e || decide (e.on < i)) = true ∧ (if i < ds.length then (match o.dst with | some d => d == ds.getD i 0 | none => false) else true) = true ∧ (if ds.length ≤ i ∨ i = f then o.guard.isNone else true) = true ∧ (if i ≤ ds.length then o.after.all (fun e => !Region.binds .any e || decide (e.on ≠ f)) else true) = true) := fun i o ho => by
  have := h3 i (hb i o ho)
  rw [ho] at this
  simp only [Bool.and_eq_true] at this
  exact ⟨this.1.1.1, this.1.1.2, this.1.2, this.2⟩
 refine ⟨h1, h2, fun i o hi ho => ?_, h4, h5, fun i o ho e he hbd => ?_, fun i o hi ho e he hbd => ?_, fun i o hi ho => ?_, fun o ho j hj hjf => ?_, fun o ho => ?_⟩
 ·have t1 := (h3' i o ho).2.1
  rw [if_pos hi] at t1
  cases hd : o.dst with
  | none => rw [hd] at t1; simp at t1
  | some d => rw [hd] at t1; simp at t1; rw [t1]; simp
 ·have := Array.all_eq_true_iff_forall_mem.1 (h3' i o ho).1 e he
  simp [hbd] at this
  exact this
 ·have t1 := (h3' i o ho).2.2.2
  rw [if_pos hi] at t1
  have := Array.all_eq_true_iff_forall_mem.1 t1 e he
  simp [hbd] at this
  exact this
 ·have t1 := (h3' i o ho).2.2.1
  rw [if_pos hi] at t1
  simpa using t1
 ·rw [ho] at h6
  simp only [List.all_eq_true, List.mem_range] at h6
  have := h6 j hj
  simp only [Bool.or_eq_true, decide_eq_true_iff] at this
  rcases this with this | this
  ·exact absurd this hjf
  ·obtain ⟨e, he, hbd⟩ := Array.any_eq_true'.1 this
   simp only [Bool.and_eq_true, beq_iff_eq] at hbd
   exact ⟨e, he, hbd.1, hbd.2⟩
 ·rw [ho] at h7
  simp only [Bool.and_eq_true] at h7
  obtain ⟨e, he, hbd⟩ := Array.any_eq_true'.1 h7.1
  obtain ⟨e2, he2, hbd2⟩ := Array.any_eq_true'.1 h7.2
  simp only [Bool.and_eq_true, beq_iff_eq] at hbd hbd2
  exact ⟨⟨e, he, hbd.1, hbd.2⟩, ⟨e2, he2, hbd2.1, hbd2.2⟩⟩

/-- All but those of us are listed, the first of which alone is ready: they go one behind the other. -/
theorem wpAny_forced : ∀ (us : List Nat) (fuel : Nat) (listed : Array Bool) (a : Act) (w : World) (os : List Oper), listed.size = ops.size → us.length = os.length → us.length ≤ fuel → us.Nodup →
  (∀ (k u : Nat) (o : Oper), us[k]? = some u → os[k]? = some o → ops[u]? = some o ∧ o.guard = none) →
  (∀ j, j < ops.size → (listed.getD j false = false ↔ j ∈ us)) →
  (∀ (k u : Nat) (o : Oper), us[k]? = some u → ops[u]? = some o → ∀ e ∈ o.after, Region.binds .any e = true → e.on < ops.size ∧ e.on ∉ us.drop k) →
  (∀ (k u : Nat) (o : Oper), us[k + 1]? = some u → ops[u]? = some o → ∃ e ∈ o.after, Region.binds .any e = true ∧ ∃ k', us[k]? = some k' ∧ e.on = k') →
  wpSeq P Q os a w → wpAny P .any ops Q fuel listed a w
 | [], fuel, listed, a, w, os, hsz, hl, hf, hnd, ho, hu, hd, hw, hq => by
  have : os = [] := List.length_eq_zero_iff.1 (by simpa using hl.symm)
  subst this
  refine wpAny_done ?_ hq fuel
  rw [List.eq_nil_iff_forall_not_mem]
  intro i hi
  rw [mem_ready] at hi
  obtain ⟨h0, o, ho, _⟩ := hi
  have hio := (Array.getElem?_eq_some_iff.1 ho).1
  have hs : i < listed.size := by omega
  have := (hu i hio).1 (by simpa [hs] using h0)
  simp at this
 | u :: us, 0, listed, a, w, os, hsz, hl, hf, _, _, _, _, _, _ => by simp at hf
 | u :: us, fuel + 1, listed, a, w, os, hsz, hl, hf, hnd, ho, hu, hd, hw, hq => by
  obtain ⟨o, os', rfl⟩ : ∃ o os', os = o :: os' := by
   cases os with
   | nil => simp at hl
   | cons o os' => exact ⟨o, os', rfl⟩
  obtain ⟨hou, hog⟩ := ho 0 u o rfl rfl
  have huo : u < ops.size := (Array.getElem?_eq_some_iff.1 hou).1
  have ft : ∀ j, j < ops.size → listed.getD j true = listed.getD j false := fun j hj => by simp [show j < listed.size by omega]
  refine ⟨fun hr => ?_, fun i hi => ?_⟩
  ·exfalso
   have hmem : u ∈ Region.ready .any ops listed := by
    rw [mem_ready]
    refine ⟨by rw [ft u huo]; exact (hu u huo).2 (by simp), o, hou, fun e he hb => ?_⟩
    obtain ⟨h1, h2⟩ := hd 0 u o rfl hou e he hb
    have : ¬ listed.getD e.on false = false := fun h => h2 (by simpa using (hu _ h1).1 h)
    simpa using this
   rw [hr] at hmem
   simp at hmem
  ·rw [mem_ready] at hi
   obtain ⟨h0, oi, hoi, hdeps⟩ := hi
   have hio := (Array.getElem?_eq_some_iff.1 hoi).1
   have hin : i ∈ u :: us := (hu i hio).1 (by rw [← ft i hio]; exact h0)
   have hiu : i = u := by
    obtain ⟨k, hk⟩ := List.getElem?_of_mem hin
    cases k with
    | zero => simp at hk; exact hk.symm
    | succ k =>
     exfalso
     obtain ⟨e, he, hb, k', hk', hon⟩ := hw k i oi hk hoi
     have h1 := hdeps e he hb
     have h2 : e.on ∈ u :: us := by rw [hon]; exact List.mem_of_getElem? hk'
     have h3 := (hu e.on (hd (k + 1) i oi hk hoi e he hb).1).2 h2
     rw [h3] at h1; simp at h1
   subst hiu
   obtain rfl : o = oi := by rw [hou] at hoi; exact Option.some.inj hoi
   refine wpOp_step hou (fun K' hK => ?_)
   rw [if_pos (by unfold Region.wanted; rw [hog])]
   refine hq K' (fun a' w' h' => hK _ _ ?_)
   refine wpAny_forced us fuel _ a' w' os' (by simp [hsz]) (by simpa using hl) (by simpa using hf) (List.nodup_cons.1 hnd).2 (fun k u' o' h1 h2 => ho (k + 1) u' o' (by simpa using h1) (by simpa using h2)) (fun j hj => ?_) (fun k u' o' h1 h2 e he hb => by have := hd (k + 1) u' o' (by simpa using h1) h2 e he hb; simpa using this) (fun k u' o' h1 h2 => by
    obtain ⟨e, he, hb, k', hk', hon⟩ := hw (k + 1) u' o' (by simpa using h1) h2
    exact ⟨e, he, hb, k', by simpa using hk', hon⟩) h'
   by_cases e : i = j
   ·subst e
    have hs : i < listed.size := by omega
    simp [hs]
    exact (List.nodup_cons.1 hnd).1
   ·rw [getD_set_ne false e, hu j hj]
    simp [Ne.symm e]

theorem wpAny_growW (hF : GFormW ops ds a0.tmps.size f) (hof : ops[f]? = some fo) (h0 : ops[ds.length]? = some s0) (h1 : ops[ds.length + 1]? = some s1) (hst : ∀ i v w w', R i v w → Below w.heap.size w w' → R i v w')
  (hstep : ∀ i o, i < ds.length → ops[i]? = some o → GStepG P ops Q ds R a0 w0 i o)
  (hdone : ∀ a w, a.tmps.size = a0.tmps.size → a.defers = a0.defers → (∀ t, t ∉ ds → slot a t = slot a0 t) → (∀ i, i < ds.length → R i (slot a (ds.getD i 0)) w) → Below w0.heap.size w0 w → wpSeq P Q [s0, s1] a w)
  (hlate : ∀ a w, a.tmps.size = a0.tmps.size → a.defers = a0.defers → (∀ t, t ∉ ds → slot a t = slot a0 t) → (∀ i, i < ds.length → i ≠ f → R i (slot a (ds.getD i 0)) w) → slot a (ds.getD f 0) = slot a0 (ds.getD f 0) → Below w0.heap.size w0 w → wpSeq P Q [s0, fo, s1] a w) :
  ∀ (fuel : Nat) (listed : Array Bool) (a : Act) (w : World), unl listed ops.size ≤ fuel → GInv ops ds R a0 w0 listed a w → (∀ j, j < ops.size → ds.length ≤ j → listed.getD j false = false) → (listed.getD f false = false → slot a (ds.getD f 0) = slot a0 (ds.getD f 0)) → wpAny P .any ops Q fuel listed a w := by
 have ft : ∀ (listed : Array Bool) (j : Nat), j < listed.size → (listed.getD j true = listed.getD j false) := fun listed j hj => by simp [hj]
 have hle := hF.le
 have hfl := hF.fl
 have cnt : ∀ (listed : Array Bool) (us : List Nat), listed.size = ops.size → us.Nodup → (∀ u ∈ us, u < ops.size ∧ listed.getD u false = false) → us.length ≤ unl listed ops.size := by
  intro listed us hsz hnd hu
  have key : ∀ n (us : List Nat), n ≤ ops.size → us.Nodup → (∀ u ∈ us, u < n ∧ listed.getD u false = false) → us.length ≤ unl listed n := by
   intro n
   induction n with
   | zero => intro us _ _ h; cases us with | nil => simp | cons u us => have := (h u (by simp)).1; omega
   | succ n ihn =>
    intro us hn hnd h
    unfold unl
    by_cases hm : n ∈ us
    ·have e1 := ihn (us.erase n) (by omega) (hnd.erase n) (fun u hu => by
      have h2 := List.mem_of_mem_erase hu
      have h3 : u ≠ n := fun e => by subst e; exact (List.Nodup.not_mem_erase hnd) hu
      have := h u h2
      exact ⟨by omega, this.2⟩)
     rw [List.length_erase_of_mem hm] at e1
     rw [if_neg (by rw [ft listed n (by omega), (h n hm).2]; simp)]
     omega
    ·have e1 := ihn us (by omega) hnd (fun u hu => by
      have := h u hu
      have h3 : u ≠ n := fun e => by subst e; exact hm hu
      exact ⟨by omega, this.2⟩)
     split <;> omega
  exact key _ us (Nat.le_refl _) hnd hu
 intro fuel
 induction fuel with
 | zero =>
  intro listed a w hu hI hs hlt
  exfalso
  have := cnt listed [ds.length] hI.size (by simp) (fun u hu => by simp at hu; subst hu; exact ⟨by omega, hs _ (by omega) (Nat.le_refl _)⟩)
  simp at this; omega
 | succ fuel ih =>
  intro listed a w hu hI hs hlt
  have late : (∀ j, j < ds.length → j ≠ f → listed.getD j false = true) → wpAny P .any ops Q (fuel + 1) listed a w ∨ listed.getD f false = false := fun hall => by
   cases hff : listed.getD f false with
   | false => exact .inr rfl
   | true =>
    refine .inl ?_
    refine wpAny_forced [ds.length, ds.length + 1] (fuel + 1) listed a w [s0, s1] hI.size rfl ?_ (by simp) ?_ ?_ ?_ ?_ (hdone a w hI.tsize hI.defers hI.outer (fun j hj => hI.inner j (if e : j = f then (by rw [e]; exact hff) else hall j hj e)) hI.below)
    ·exact Nat.le_trans (cnt listed [ds.length, ds.length + 1] hI.size (by simp) (fun u hu => by simp at hu; rcases hu with rfl | rfl <;> exact ⟨by omega, hs _ (by omega) (by omega)⟩)) hu
    ·intro k u o hk ho
     match k, hk, ho with
     | 0, hk, ho => simp at hk ho; subst hk ho; exact ⟨h0, hF.sguard _ _ (.inl (Nat.le_refl _)) h0⟩
     | 1, hk, ho => simp at hk ho; subst hk ho; exact ⟨h1, hF.sguard _ _ (.inl (by omega)) h1⟩
     | k + 2, hk, ho => simp at hk
    ·intro j hj
     constructor
     ·intro h
      by_cases e : j < ds.length
      ·exfalso
       by_cases e2 : j = f
       ·subst e2; rw [hff] at h; simp at h
       ·rw [hall j e e2] at h; simp at h
      ·simp; omega
     ·intro h; simp at h; exact hs j hj (by omega)
    ·intro k u o hk ho e he hb
     match k, hk with
     | 0, hk => simp at hk; subst hk; have := hF.topo _ o ho e he hb; exact ⟨by omega, by simp; omega⟩
     | 1, hk => simp at hk; subst hk; have := hF.topo _ o ho e he hb; exact ⟨by omega, by simp; omega⟩
     | k + 2, hk => simp at hk
    ·intro k u o hk ho
     match k, hk with
     | 0, hk => simp at hk; subst hk; obtain ⟨_, e, he, hb, hon⟩ := hF.all1 o ho; exact ⟨e, he, hb, ds.length, rfl, hon⟩
     | k + 1, hk => simp at hk
  by_cases hall : ∀ j, j < ds.length → listed.getD j false = true
  ·rcases late (fun j hj _ => hall j hj) with h | h
   ·exact h
   ·rw [hall f hfl] at h; simp at h
  ·refine ⟨fun hr => ?_, fun i hi => ?_⟩
   ·exfalso
    refine hall (fun i => ?_)
    induction i using Nat.strongRecOn with
    | ind i ih2 =>
     intro hil
     have hio : i < ops.size := by omega
     by_cases hh : listed.getD i true = true
     ·rw [ft listed i (by rw [hI.size]; exact hio)] at hh; exact hh
     ·exfalso
      have hmem : i ∈ Region.ready .any ops listed := by
       rw [mem_ready]
       refine ⟨by simpa using hh, ops[i], by simp [hio], fun e he hb => ?_⟩
       have hlt := hF.topo i ops[i] (by simp [hio]) e he hb
       exact ih2 _ hlt (by omega)
      rw [hr] at hmem
      simp at hmem
   ·rw [mem_ready] at hi
    obtain ⟨hi0, o, ho, hdeps⟩ := hi
    have hio : i < ops.size := (Array.getElem?_eq_some_iff.1 ho).1
    by_cases hil : i < ds.length
    ·have hd := hF.dst i o hil ho
     have hmem : ds.getD i 0 ∈ ds := by rw [getD_at hil]; exact List.getElem_mem hil
     refine wpOp_step ho (fun K' hK => ?_)
     refine hstep i o hil ho K' a w hI.outer (fun e he hb => hI.inner _ (hdeps e he hb)) hI.below (fun v w' hR hB => hK _ _ ?_)
     refine ih _ _ _ (by have := unl_set hi0 ops.size hio; omega) ⟨by simp [hI.size], ?_, ?_, fun t ht => ?_, fun j hj => ?_, hI.below.trans (hB.mono hI.below.size)⟩ (fun j hj hn => by rw [getD_set_ne false (by omega)]; exact hs j hj hn) ?_
     ·rw [hd]; simp [Act.put, hI.tsize]
     ·rw [hd]; simp [Act.put, hI.defers]
     ·rw [hd, slot_put_ne (show ds.getD i 0 ≠ t from fun e => ht (e ▸ hmem))]; exact hI.outer t ht
     ·rw [hd]
      by_cases e : i = j
      ·subst e
       rw [slot_put_eq (by rw [hI.tsize]; exact hF.fits _ hmem)]
       exact hR
      ·rw [getD_set_ne false e] at hj
       have hjo : j < ops.size := by
        rw [← hI.size]
        rcases Nat.lt_or_ge j listed.size with h' | h'
        ·exact h'
        ·simp [Array.getElem?_eq_none h'] at hj
       have hjl : j < ds.length := by
        by_cases e2 : j < ds.length
        ·exact e2
        ·rw [hs j hjo (by omega)] at hj; simp at hj
       rw [slot_put_ne (nodup_ne hF.nodup hil hjl e)]
       exact hst _ _ _ _ (hI.inner j hj) hB
     ·intro hff
      by_cases e : i = f
      ·subst e
       have hsz : i < listed.size := by rw [hI.size]; exact hio
       simp [hsz] at hff
      ·rw [getD_set_ne false e] at hff
       rw [hd, slot_put_ne (nodup_ne hF.nodup hil hfl e)]
       exact hlt hff
    ·have hin : i = ds.length := by
      by_cases e2 : i = ds.length
      ·exact e2
      ·exfalso
       have e3 : i = ds.length + 1 := by omega
       subst e3
       obtain ⟨_, e, he, hb, hon⟩ := hF.all1 o ho
       have h2 := hdeps e he hb
       rw [hon, hs _ (by omega) (Nat.le_refl _)] at h2
       simp at h2
     subst hin
     obtain rfl : s0 = o := by rw [ho] at h0; exact (Option.some.inj h0).symm
     have hoth : ∀ j, j < ds.length → j ≠ f → listed.getD j false = true := fun j hj hjf => by
      obtain ⟨e, he, hb, hon⟩ := hF.all0 s0 ho j hj hjf
      rw [← hon]; exact hdeps e he hb
     have hff : listed.getD f false = false := by
      cases hff : listed.getD f false with
      | false => rfl
      | true => exact absurd (fun j hj => if e : j = f then (by rw [e]; exact hff) else hoth j hj e) hall
     have hq := hlate a w hI.tsize hI.defers hI.outer (fun j hj hjf => hI.inner j (hoth j hj hjf)) (hlt hff) hI.below
     refine wpOp_step ho (fun K' hK => ?_)
     rw [if_pos (by unfold Region.wanted; rw [hF.sguard _ _ (.inl (Nat.le_refl _)) ho])]
     refine hq K' (fun a' w' h' => hK _ _ ?_)
     have hls : ∀ j, j ≠ ds.length → (listed.setIfInBounds ds.length true).getD j false = listed.getD j false := fun j hj => getD_set_ne false (Ne.symm hj)
     have hle2 : ds.length < listed.size := by rw [hI.size]; omega
     have hsd : (listed.setIfInBounds ds.length true).getD ds.length false = true := by simp [hle2]
     refine wpAny_forced [f, ds.length + 1] fuel _ a' w' [fo, s1] (by simp [hI.size]) rfl ?_ (by simp; omega) ?_ ?_ ?_ ?_ h'
     ·have h3 := cnt listed [ds.length, f, ds.length + 1] hI.size (by simp; omega) (fun u hu => by simp at hu; rcases hu with rfl | rfl | rfl <;> first | exact ⟨by omega, hff⟩ | exact ⟨by omega, hs _ (by omega) (by omega)⟩)
      simp at h3 ⊢; omega
     ·intro k u o hk ho'
      match k, hk, ho' with
      | 0, hk, ho' => simp at hk ho'; subst hk ho'; exact ⟨hof, hF.sguard _ _ (.inr rfl) hof⟩
      | 1, hk, ho' => simp at hk ho'; subst hk ho'; exact ⟨h1, hF.sguard _ _ (.inl (by omega)) h1⟩
      | k + 2, hk, ho' => simp at hk
     ·intro j hj
      constructor
      ·intro h
       by_cases e0 : j = ds.length
       ·subst e0; rw [hsd] at h; simp at h
       ·rw [hls j e0] at h
        by_cases e : j < ds.length
        ·by_cases e2 : j = f
         ·simp [e2]
         ·exfalso; rw [hoth j e e2] at h; simp at h
        ·simp; omega
      ·intro h
       simp at h
       rcases h with h | h
       ·subst h; rw [hls _ (by omega)]; exact hff
       ·rw [hls j (by omega)]; exact hs j hj (by omega)
     ·intro k u o hk ho' e he hb
      match k, hk with
      | 0, hk => simp at hk; subst hk; have := hF.topo _ o ho' e he hb; exact ⟨by omega, by simp; omega⟩
      | 1, hk => simp at hk; subst hk; have := hF.topo _ o ho' e he hb; exact ⟨by omega, by simp; omega⟩
      | k + 2, hk => simp at hk
     ·intro k u o hk ho'
      match k, hk with
      | 0, hk => simp at hk; subst hk; obtain ⟨⟨e, he, hb, hon⟩, _⟩ := hF.all1 o ho'; exact ⟨e, he, hb, f, rfl, hon⟩
      | k + 1, hk => simp at hk

/-- The operations, one by one, each with what it yields; then the last two, the late one ahead of them or between them. -/
def GChW (P : Program) (ops : Array Oper) (Q : Exit → Act → World → Prop) (ds : List Tmp) (a0 : Act) (w0 : World) (f : Nat) (fo s0 s1 : Oper) : List (Value → World → Prop) → List Oper → Prop
 | Rs, [] => (∀ (X : Nat → Value) w, RAll X w 0 Rs → Below w0.heap.size w0 w → wpSeq P Q [s0, s1] (putsFrom X a0 0 ds) w) ∧ (∀ (X : Nat → Value) w, RAll X w 0 (Rs.set f (IsV (slot a0 (ds.getD f 0)))) → Below w0.heap.size w0 w → wpSeq P Q [s0, fo, s1] (putsFrom X a0 0 ds) w)
 | Rs, o :: l => ∃ r, Stable r ∧ GStepG P ops Q ds (rAt (Rs ++ [r])) a0 w0 Rs.length o ∧ GChW P ops Q ds a0 w0 f fo s0 s1 (Rs ++ [r]) l

theorem GChW.all : ∀ (l : List Oper) (Rs : List (Value → World → Prop)), (∀ i o, l[i]? = some o → ∀ e ∈ o.after, Region.binds .any e = true → e.on < Rs.length + i) → (∀ r ∈ Rs, Stable r) → GChW P ops Q ds a0 w0 f fo s0 s1 Rs l →
  ∃ Ss, (Rs ++ Ss).length = Rs.length + l.length ∧ (∀ r ∈ Rs ++ Ss, Stable r) ∧ (∀ i o, l[i]? = some o → GStepG P ops Q ds (rAt (Rs ++ Ss)) a0 w0 (Rs.length + i) o) ∧ GChW P ops Q ds a0 w0 f fo s0 s1 (Rs ++ Ss) []
 | [], Rs, _, hst, h => ⟨[], by simp, by simpa using hst, fun i o ho => by simp at ho, by rw [List.append_nil]; exact h⟩
 | o :: l, Rs, ht, hst, ⟨r, hr, hs, hc⟩ => by
  obtain ⟨Ss, h1, h2, h3, h4⟩ := GChW.all l (Rs ++ [r]) (fun i o' ho e he hb => by
   have := ht (i + 1) o' (by simpa using ho) e he hb
   simp; omega) (fun x hx => by
   rcases List.mem_append.1 hx with hx | hx
   ·exact hst x hx
   ·simp at hx; subst hx; exact hr) hc
  refine ⟨r :: Ss, by simp at h1 ⊢; omega, by simpa using h2, fun i o' ho => ?_, by simpa using h4⟩
  have e : Rs ++ r :: Ss = Rs ++ [r] ++ Ss := by simp
  rw [e]
  cases i with
  | zero =>
   simp at ho
   subst ho
   refine GStepG.congr (ht 0 o rfl) (fun j hj => ?_) hs
   exact (rAt_left (by simp; omega)).symm
  | succ i =>
   have := h3 i o' (by simpa using ho)
   rwa [show (Rs ++ [r]).length + i = Rs.length + (i + 1) by simp; omega] at this

theorem wp_region_growW {id : Nat} (ds : List Tmp) (f : Nat) (fo s0 s1 : Oper) (hm : P.follows .mixedOrders = true) (hF : gformW ops ds a0.tmps.size f = true) (hof : ops[f]? = some fo) (hs0 : ops[ds.length]? = some s0) (hs1 : ops[ds.length + 1]? = some s1) (h : GChW P ops Q ds a0 w0.drew f fo s0 s1 [] (ops.toList.take ds.length)) :
  (Code.region id ops true).wp P Q a0 w0 := by
 have hG := GFormW.of hF
 have hle := hG.le
 obtain ⟨Ss, h1, h2, h3, h4, h5⟩ := GChW.all (ops.toList.take ds.length) [] (fun i o ho e he hb => by
  have hi : i < ds.length := by
   by_cases e2 : i < ds.length
   ·exact e2
   ·rw [List.getElem?_eq_none (by simp; omega)] at ho; simp at ho
  rw [List.getElem?_take, if_pos hi] at ho
  have := hG.topo i o (by simpa using ho) e he hb
  simpa using this) (fun r hr => by simp at hr) h
 simp only [List.nil_append, List.length_nil, Nat.zero_add] at h1 h2 h3 h4 h5
 have hlen : Ss.length = ds.length := by rw [h1]; simp; omega
 have hput : ∀ (a : Act), a.tmps.size = a0.tmps.size → a.defers = a0.defers → (∀ t, t ∉ ds → slot a t = slot a0 t) → putsFrom (fun i => slot a (ds.getD i 0)) a0 0 ds = a := fun a g1 g2 g3 => puts_eq ds a0 0 g1.symm g2.symm (fun i _ => by rw [Nat.zero_add]) (fun t ht => (g3 t ht).symm) (fun d hd => by rw [g1]; exact hG.fits d hd)
 refine wp_region_any hm (wpAny_growW (w0 := w0.drew) (R := rAt Ss) hG hof hs0 hs1 (fun i v w w' h hb => ?_) (fun i o hi ho => ?_) (fun a w g1 g2 g3 g4 g5 => ?_) (fun a w g1 g2 g3 g4 g6 g5 => ?_) ops.size _ a0 w0.drew (unl_le _ _) ⟨by simp, rfl, rfl, fun _ _ => rfl, fun i hi => ?_, Below.refl _ _⟩ (fun j hj _ => by simp [hj]) (fun _ => rfl))
 ·unfold rAt at *
  by_cases hi : i < Ss.length
  ·have e : Ss.getD i (fun _ _ => True) = Ss[i] := by simp [hi]
   rw [e] at h ⊢
   exact h2 _ (List.getElem_mem hi) v w w' h hb
  ·have e : Ss.getD i (fun _ _ => True) = fun _ _ => True := by simp [Nat.le_of_not_lt hi]
   rw [e]; trivial
 ·exact h3 i o (by rw [List.getElem?_take, if_pos hi]; simpa using ho)
 ·rw [← hput a g1 g2 g3]
  exact h4 (fun i => slot a (ds.getD i 0)) w (RAll.mk Ss 0 (fun i hi => by rw [Nat.zero_add]; exact g4 i (by omega))) g5
 ·rw [← hput a g1 g2 g3]
  refine h5 (fun i => slot a (ds.getD i 0)) w (RAll.mk (Ss.set f (IsV (slot a0 (ds.getD f 0)))) 0 (fun i hi => ?_)) g5
  rw [Nat.zero_add]
  have hi' : i < Ss.length := by simpa using hi
  unfold rAt
  by_cases e : i = f
  ·subst e
   have e2 : (Ss.set i (IsV (slot a0 (ds.getD i 0)))).getD i (fun _ _ => True) = IsV (slot a0 (ds.getD i 0)) := by simp [hi']
   rw [e2]
   exact g6
  ·have e2 : (Ss.set f (IsV (slot a0 (ds.getD f 0)))).getD i (fun _ _ => True) = Ss.getD i (fun _ _ => True) := by simp [List.getElem?_set_ne (Ne.symm e)]
   rw [e2]
   exact g4 i (by omega) e
 ·exfalso
  by_cases h : i < ops.size
  ·simp [h] at hi
  ·simp [h] at hi

theorem GChW.val {Rs : List (Value → World → Prop)} {n : Nat} {o : Oper} {l : List Oper} (Rs' : Value → List (Value → World → Prop)) (hR : ∀ v, Rs' v = Rs ++ [IsV v]) (hn : Rs.length = n) (h : ∃ v, GStepG P ops Q ds (rAt (Rs' v)) a0 w0 n o ∧ GChW P ops Q ds a0 w0 f fo s0 s1 (Rs' v) l) : GChW P ops Q ds a0 w0 f fo s0 s1 Rs (o :: l) := by
 obtain ⟨v, h1, h2⟩ := h
 rw [hR] at h1 h2
 subst hn
 exact ⟨IsV v, stable_isV v, h1, h2⟩
theorem GChW.rel {Rs : List (Value → World → Prop)} {n : Nat} {o : Oper} {l : List Oper} (r : Value → World → Prop) (hr : Stable r) (Rs' : List (Value → World → Prop)) (hR : Rs' = Rs ++ [r]) (hn : Rs.length = n) (h1 : GStepG P ops Q ds (rAt Rs') a0 w0 n o) (h2 : GChW P ops Q ds a0 w0 f fo s0 s1 Rs' l) : GChW P ops Q ds a0 w0 f fo s0 s1 Rs (o :: l) := by
 subst hR hn
 exact ⟨r, hr, h1, h2⟩
end
end Go.Proofs.YtcckaeppiamebaaGreatDoor
namespace Go.Proofs.YtcckaeppiamebaaGreatDoor
open Go.RowKit Go.PlainAid
theorem lends_any (pa:Option Addr) (pc:Nat) (p:Pl) (ba bo:Option Addr) (ca cb:Nat) (x:Bb) (m1 m2:Nat) (port:Int) (w:World) :
  Cb 167 #[bkC pa pc p ba bo ca cb x m1 m2,iV port] w (.bool (isIn port p.low p.high)):=by
 have HZ:Hid (Below w.heap.size w (w.alloc (.cells (KkV pa pc p ba ca bo cb x m1 m2).toArray 150))):=(Below.refl _ _).alloc (Nat.le_refl _) _;have HK:HoldsL (w.alloc (.cells (KkV pa pc p ba ca bo cb x m1 m2).toArray 150)) w.heap.size (KkV pa pc p ba ca bo cb x m1 m2):=HoldsL.new w (KkV pa pc p ba ca bo cb x m1 m2) 150;have HV:Hid (isIn port p.low p.high=(decide (p.low≤port)&&decide (port≤p.high))):=rfl;generalize isIn port p.low p.high=ans at *;have hun:undef=Value.tuple #[]:=rfl;unfold bkC;go_enter Tryz.func167,Tryz.ntmps167
 go_upto_region 1 with fail
 generalize (w.alloc (.cells (KkV pa pc p ba ca bo cb x m1 m2).toArray 150))=W at *;obtain ⟨-,k1,k2⟩:=HK.c3;clear HK;by_cases h1:p.low≤port
 case neg =>
  have HX:Hid (ans=false):=by unfold Hid; rw [HV.out,decide_eq_false h1]; rfl
  have d1:decide (p.low≤port)=false:=decide_eq_false h1;go_wp2_with fail
  go_ret;exact ⟨ret_bool HX.out.symm,HZ.out⟩
 have d1:decide (p.low≤port)=true:=decide_eq_true h1;have HX:Hid (ans=decide (port≤p.high)):=by unfold Hid; rw [HV.out,decide_eq_true h1]; rfl
 go_wp2_with fail
 go_ret;exact ⟨ret_bool HX.out.symm,HZ.out⟩
theorem fits_any (pa:Option Addr) (pc:Nat) (p:Pl) (ba bo:Option Addr) (ca cb:Nat) (x:Bb) (m1 m2:Nat) (ys:List Bd) (q:Bd) (w:World) (hpl:p.addrs.length≤1048576) (hbl1:x.binds.length≤1048576) (hbl2:x.sess.length≤1048576) (hq:BdGood q) (hbk:BookAt w m1 m2 ys ys) (hp:SlIs strL1 1 w pa p.addrs) (hx:BbIs w ba bo x) :
  Cb 136 #[bkC pa pc p ba bo ca cb x m1 m2,bdC q] w (.bool (fitB p x ys q)):=by
 have HZ:Hid (Below w.heap.size w ((aW w (KkV pa pc p ba ca bo cb x m1 m2) 150).alloc (.cells (BdV q).toArray 94))):=((Below.refl _ _).alloc (Nat.le_refl _) _).alloc (by simp) _;have HK:Hid (HoldsL ((aW w (KkV pa pc p ba ca bo cb x m1 m2) 150).alloc (.cells (BdV q).toArray 94)) w.heap.size (KkV pa pc p ba ca bo cb x m1 m2)):=(HoldsL.new w (KkV pa pc p ba ca bo cb x m1 m2) 150).alloc _;have HQ:Hid (HoldsL ((aW w (KkV pa pc p ba ca bo cb x m1 m2) 150).alloc (.cells (BdV q).toArray 94)) (w.heap.size+1) (bdL q)):=by
  have h:=HoldsL.new (w.alloc (.cells (KkV pa pc p ba ca bo cb x m1 m2).toArray 150)) (bdL q) 94;rw [World.size_alloc] at h; exact h
 have HBK:Hid (BookAt w m1 m2 ys ys):=hbk;have HG:Hid (BdGood q):=hq;have HV:Hid (fitB p x ys q=(protoB q.proto&&addrOk q.inn&&isW q.inPort&&inL p.addrs q.out&&isIn q.outPort p.low p.high&&!(ys.any (ofIn q.proto q.inn q.inPort))&&!(ys.any (ofOut q.proto q.out q.outPort))&&decide ((outIn x.binds ⟨#[]⟩ q.inn).toList=q.out.toList)&&x.sess.any (hasS q))):=rfl;have HH:Hid (∀ W,Cb 137 #[.agg (BdV q).toArray] W (.agg (EnV q.proto q.inn q.inPort).toArray)):=fun W=>hostEnd_any q W
 have HL:Hid (∀ W,Cb 138 #[.agg (BdV q).toArray] W (.agg (EnV q.proto q.out q.outPort).toArray)):=fun W=>lentEnd_any q W
 obtain ⟨c1,hc1⟩ : ∃ c,c=(ys.find? fun c=>sameEn (hostE c) (hostE q)).getD bdZ:=⟨_,rfl⟩;obtain ⟨c2,hc2⟩ : ∃ c,c=(ys.find? fun c=>sameEn (lentE c) (lentE q)).getD bdZ:=⟨_,rfl⟩;have HK1:Hid (∀ W,Below w.heap.size w W→(Instr.lookup 148 (.map (some m1)) (.agg (EnV q.proto q.inn q.inPort).toArray) true).run Tryz.prog W=.ok (.tuple #[.agg (BdV c1).toArray,.bool (ys.any (ofIn q.proto q.inn q.inPort))]) W):=fun W hW=>by
  have h:=(hbk.kept hW).look1 (hostE_in hq);rw [find_some_any,← hc1,show (fun c=>sameEn (hostE c) (hostE q))=ofIn q.proto q.inn q.inPort from funext fun c=>host_in _ _ _ c] at h;exact h
 have HK2:Hid (∀ W,Below w.heap.size w W→(Instr.lookup 148 (.map (some m2)) (.agg (EnV q.proto q.out q.outPort).toArray) true).run Tryz.prog W=.ok (.tuple #[.agg (BdV c2).toArray,.bool (ys.any (ofOut q.proto q.out q.outPort))]) W):=fun W hW=>by
  have h:=(hbk.kept hW).look2 (lentE_in hq);rw [find_some_any,← hc2,show (fun c=>sameEn (lentE c) (lentE q))=ofOut q.proto q.out q.outPort from funext fun c=>lent_out _ _ _ c] at h;exact h
 have HO:Hid (∀ W,Below w.heap.size w W→Cb 166 #[.slice ba x.binds.length ca,.string q.inn] W (.tuple #[.string (outIn x.binds ⟨#[]⟩ q.inn),.bool (x.binds.find? (ofHost q.inn)).isSome])):=fun W hW=>outOf_any q.inn x.binds ba ca W hbl1 (hx.bd.below hW)
 have HB:Hid (∀ W,Cw 141 #[iV q.proto] W (.bool (protoB q.proto))):=fun W=>isBound_any _ W
 have HA:Hid (∀ W,Cw 132 #[.string q.inn] W (.bool (addrOk q.inn))):=fun W=>implAddrRight_any q.inn W
 have HW:Hid (∀ W,Cw 117 #[iV q.inPort] W (.bool (isW q.inPort))):=fun W=>implWordIs_any _ W
 have HC:Hid (∀ W,Below w.heap.size w W→Cb 96 #[.slice pa p.addrs.length pc,.string q.out] W (.bool (inL p.addrs q.out))):=fun W hW=>strHas_any p.addrs q.out pa pc W hpl (hp.below hW)
 have HN:Hid (∀ W,Cb 167 #[.agg (KkV pa pc p ba ca bo cb x m1 m2).toArray,iV q.outPort] W (.bool (isIn q.outPort p.low p.high))):=fun W=>lends_any pa pc p ba bo ca cb x m1 m2 q.outPort W
 have HS:Hid (∀ W,Below w.heap.size w W→Cb 168 #[.slice bo x.sess.length cb,.agg (BdV q).toArray] W (.bool (x.sess.any (hasS q)))):=fun W hW=>hasSess_any q x.sess bo cb W hbl2 (hx.ss.below hW)
 generalize fitB p x ys q=ans at *;generalize ys.any (ofIn q.proto q.inn q.inPort)=bh at *;generalize ys.any (ofOut q.proto q.out q.outPort)=bl at *;generalize outIn x.binds ⟨#[]⟩ q.inn=ot at *;generalize (x.binds.find? (ofHost q.inn)).isSome=fs at *;generalize protoB q.proto=t1 at *;generalize addrOk q.inn=t2 at *;generalize isW q.inPort=t3 at *;generalize inL p.addrs q.out=t4 at *;generalize isIn q.outPort p.low p.high=t5 at *;generalize x.sess.any (hasS q)=t9 at *;clear hc1 hc2 hbk hp hx hq;unfold bkC bdC;go_enter Tryz.func136,Tryz.ntmps136
 go_upto_region 1 with fail
 generalize ((aW w (KkV pa pc p ba ca bo cb x m1 m2) 150).alloc (.cells (BdV q).toArray 94))=W at *;go_upto_region 1 with fail
 go_cut [6] (fun v wx=>v=.bool bh∧Below W.heap.size W wx)
 case first =>
  rename_i J K2 hJ hK2;have HCP:Hid (∀ wy,Below W.drew.heap.size W.drew wy→HoldsL wy w.heap.size (KkV pa pc p ba ca bo cb x m1 m2)∧HoldsL wy (w.heap.size+1) (bdL q)∧Below w.heap.size w wy):=fun wy hy=>⟨HK.out.drew.kept (by simp) hy,HQ.out.drew.kept (by simp [bdL]) hy,HZ.out.drew.trans (hy.mono HZ.out.size)⟩
  refine wp_region_growW [12,13,14,15,16,11,17,18,5] 7 _ _ _ (by kernel_rfl) (by kernel_rfl) rfl rfl rfl ?_;refine GChW.val (n:=0) (fun v=>[IsV v]) (fun _=>rfl) rfl ?_;apply Exists.intro;refine And.intro ?_ ?_
  ·intro K' a wy ho hd hb hK;rw [wN rfl];have o2:=ho 2 (by decide);simp [slot] at o2;clear hd ho;go_simp;try go_bits
   exact hK _ _ rfl (Below.refl _ _)
  refine GChW.val (n:=1) (fun v=>[_,IsV v]) (fun _=>rfl) rfl ?_;apply Exists.intro;refine And.intro ?_ ?_
  ·intro K' a wy ho hd hb hK;rw [wN rfl];have q0:=hd ⟨0,.data⟩ (by simp) rfl;simp [rAt,IsV,slot] at q0;clear hd ho;obtain ⟨hk,hq,hbw⟩:=HCP.out wy hb;obtain ⟨k0,k1,k2,k3,k4,k5,k6,k7,k8,k9,k10,k11,k12,k13⟩:=hk.c14;obtain ⟨c0,c1,c2,c3,c4⟩:=hq.c5;go_simp;try go_bits
   exact hK _ _ rfl (Below.refl _ _)
  refine GChW.val (n:=2) (fun v=>[_,_,IsV v]) (fun _=>rfl) rfl ?_;apply Exists.intro;refine And.intro ?_ ?_
  ·intro K' a wy ho hd hb hK;rw [wN rfl];have o3:=ho 3 (by decide);simp [slot] at o3;clear hd ho;obtain ⟨hk,hq,hbw⟩:=HCP.out wy hb;obtain ⟨k0,k1,k2,k3,k4,k5,k6,k7,k8,k9,k10,k11,k12,k13⟩:=hk.c14;obtain ⟨c0,c1,c2,c3,c4⟩:=hq.c5;go_simp;try go_bits
   exact hK _ _ rfl (Below.refl _ _)
  refine GChW.val (n:=3) (fun v=>[_,_,_,IsV v]) (fun _=>rfl) rfl ?_;apply Exists.intro;refine And.intro ?_ ?_
  ·intro K' a wy ho hd hb hK;rw [wN rfl];have q2:=hd ⟨2,.data⟩ (by simp) rfl;simp [rAt,IsV,slot] at q2;clear hd ho;go_simp;refine (HH.out wy).mono ?_;rintro e wz ⟨rfl,hz⟩;exact hK _ _ rfl hz
  refine GChW.val (n:=4) (fun v=>[_,_,_,_,IsV v]) (fun _=>rfl) rfl ?_;apply Exists.intro;refine And.intro ?_ ?_
  ·intro K' a wy ho hd hb hK;rw [wN rfl];have q1:=hd ⟨1,.data⟩ (by simp) rfl;have q3:=hd ⟨3,.data⟩ (by simp) rfl;simp [rAt,IsV,slot] at q1 q3;clear hd ho;refine wp_look_val _ (.tmp 13) (.tmp 15) true rfl (by simp [Act.eval,slot,q1]) (by simp [Act.eval,slot,q3]) (HK1.out wy (HCP.out wy hb).2.2) (hK _ _ rfl (Below.refl _ _))
  refine GChW.val (n:=5) (fun v=>[_,_,_,_,_,IsV v]) (fun _=>rfl) rfl ?_;apply Exists.intro;refine And.intro ?_ ?_
  ·intro K' a wy ho hd hb hK;rw [wN rfl];have q4:=hd ⟨4,.data⟩ (by simp) rfl;simp [rAt,IsV,slot] at q4;clear hd ho;go_simp;try go_bits
   exact hK _ _ rfl (Below.refl _ _)
  refine GChW.val (n:=6) (fun v=>[_,_,_,_,_,_,IsV v]) (fun _=>rfl) rfl ?_;apply Exists.intro;refine And.intro ?_ ?_
  ·intro K' a wy ho hd hb hK;rw [wN rfl];have q5:=hd ⟨5,.data⟩ (by simp) rfl;simp [rAt,IsV,slot] at q5;clear hd ho;go_simp;try go_bits
   exact hK _ _ rfl (Below.refl _ _)
  refine GChW.val (n:=7) (fun v=>[_,_,_,_,_,_,_,IsV v]) (fun _=>rfl) rfl ?_;apply Exists.intro;refine And.intro ?_ ?_
  ·intro K' a wy ho hd hb hK;rw [wN rfl];have q5:=hd ⟨5,.data⟩ (by simp) rfl;simp [rAt,IsV,slot] at q5;clear hd ho;go_simp;try go_bits
   exact hK _ _ rfl (Below.refl _ _)
  refine GChW.rel (n:=8) (IsZd W.drew.heap.size) (stable_isZd _) [_,_,_,_,_,_,_,_,IsZd W.drew.heap.size] rfl rfl ?_ ?_
  ·intro K' a wy ho hd hb hK;rw [wN rfl];clear hd ho;go_simp;exact hK _ _ ⟨wy.heap.size,rfl,hb.size,HoldsL.new wy (bdL bdZ) 94⟩ ((Below.refl _ _).alloc (Nat.le_refl _) _)
  refine ⟨?_,?_⟩
  ·intro X wz hR hz;obtain ⟨x0,x1,x2,x3,x4,x5,x6,x7,x8,-⟩:=hR;obtain ⟨g8,e8,b8,z8⟩:=x8;simp only [IsV] at x0 x1 x2 x3 x4 x5 x6 x7;simp only [putsFrom,x0,x1,x2,x3,x4,x5,x6,x7,e8];clear x0 x1 x2 x3 x4 x5 x6 x7;have z0:=z8.cell (j:=0) rfl;have zf0:=z8.free (j:=0) (by simp [bdL]);have z1:=z8.cell (j:=1) rfl;have zf1:=z8.free (j:=1) (by simp [bdL]);have z2:=z8.cell (j:=2) rfl;have zf2:=z8.free (j:=2) (by simp [bdL]);have z3:=z8.cell (j:=3) rfl;have zf3:=z8.free (j:=3) (by simp [bdL]);have z4:=z8.cell (j:=4) rfl;have zf4:=z8.free (j:=4) (by simp [bdL]);have hz0:Below W.heap.size W wz:=(Below.refl _ _).drew.trans hz;have b8':W.heap.size≤g8:=b8;have HB6:Hid (∀ v0 v1 v2 v3 v4,Below W.heap.size W ((sW (sW (sW (sW wz g8 0 v0) g8 1 v1) g8 2 v2) g8 3 v3).setCell ⟨g8,4,none⟩ v4)):=fun v0 v1 v2 v3 v4=>((((hz0.setCell (p:=⟨g8,0,none⟩) b8' v0).setCell (p:=⟨g8,1,none⟩) b8' v1).setCell (p:=⟨g8,2,none⟩) b8' v2).setCell (p:=⟨g8,3,none⟩) b8' v3).setCell (p:=⟨g8,4,none⟩) b8' v4
   clear z8 b8 b8' hz hz0;intro K10 hK10;go_simp;refine hK10 _ _ ?_;intro K11 hK11;go_simp;refine hK11 _ _ ?_;show Exit.then _ _ _ _ _;refine hK2 _ _ (hJ _ _ ?_);(repeat apply Exists.intro)
   exact ⟨⟨rfl,HB6.out _ _ _ _ _⟩,rfl⟩
  ·intro X wz hR hz;obtain ⟨x0,x1,x2,x3,x4,x5,x6,x7,x8,-⟩:=hR;obtain ⟨g8,e8,b8,z8⟩:=x8;simp only [IsV] at x0 x1 x2 x3 x4 x5 x6 x7;simp [slot] at x7;simp only [putsFrom,x0,x1,x2,x3,x4,x5,x6,x7,e8];clear x0 x1 x2 x3 x4 x5 x6 x7;have z0:=z8.cell (j:=0) rfl;have zf0:=z8.free (j:=0) (by simp [bdL]);have z1:=z8.cell (j:=1) rfl;have zf1:=z8.free (j:=1) (by simp [bdL]);have z2:=z8.cell (j:=2) rfl;have zf2:=z8.free (j:=2) (by simp [bdL]);have z3:=z8.cell (j:=3) rfl;have zf3:=z8.free (j:=3) (by simp [bdL]);have z4:=z8.cell (j:=4) rfl;have zf4:=z8.free (j:=4) (by simp [bdL]);have hz0:Below W.heap.size W wz:=(Below.refl _ _).drew.trans hz;have b8':W.heap.size≤g8:=b8;have HB6:Hid (∀ v0 v1 v2 v3 v4,Below W.heap.size W ((sW (sW (sW (sW wz g8 0 v0) g8 1 v1) g8 2 v2) g8 3 v3).setCell ⟨g8,4,none⟩ v4)):=fun v0 v1 v2 v3 v4=>((((hz0.setCell (p:=⟨g8,0,none⟩) b8' v0).setCell (p:=⟨g8,1,none⟩) b8' v1).setCell (p:=⟨g8,2,none⟩) b8' v2).setCell (p:=⟨g8,3,none⟩) b8' v3).setCell (p:=⟨g8,4,none⟩) b8' v4
   clear z8 b8 b8' hz hz0;intro K10 hK10;go_simp;refine hK10 _ _ ?_;intro K11 hK11;go_simp;refine hK11 _ _ ?_;intro K12 hK12;go_simp;refine hK12 _ _ ?_;show Exit.then _ _ _ _ _;refine hK2 _ _ (hJ _ _ ?_);(repeat apply Exists.intro)
   exact ⟨⟨rfl,HB6.out _ _ _ _ _⟩,rfl⟩
 case rest =>
 obtain ⟨rfl,hbc⟩:=hcut;generalize wc=W1 at *;have HKn:Hid _:=HK.out.kept (by simp) hbc;have HQn:Hid _:=HQ.out.kept (by simp [bdL]) hbc;have HZn:Hid _:=HZ.out.trans (hbc.mono HZ.out.size);clear HK HQ HZ hbc;have HK:Hid _:=HKn;have HQ:Hid _:=HQn;have HZ:Hid _:=HZn;clear HKn HQn HZn;go_upto_region 2 with fail
 go_cut [8] (fun v wx=>v=.bool bl∧Below W1.heap.size W1 wx)
 case first =>
  rename_i J K2 hJ hK2;have HCP:Hid (∀ wy,Below W1.drew.heap.size W1.drew wy→HoldsL wy w.heap.size (KkV pa pc p ba ca bo cb x m1 m2)∧HoldsL wy (w.heap.size+1) (bdL q)∧Below w.heap.size w wy):=fun wy hy=>⟨HK.out.drew.kept (by simp) hy,HQ.out.drew.kept (by simp [bdL]) hy,HZ.out.drew.trans (hy.mono HZ.out.size)⟩
  refine wp_region_growW [20,21,22,23,24,19,25,26,7] 7 _ _ _ (by kernel_rfl) (by kernel_rfl) rfl rfl rfl ?_;refine GChW.val (n:=0) (fun v=>[IsV v]) (fun _=>rfl) rfl ?_;apply Exists.intro;refine And.intro ?_ ?_
  ·intro K' a wy ho hd hb hK;rw [wN rfl];have o2:=ho 2 (by decide);simp [slot] at o2;clear hd ho;go_simp;try go_bits
   exact hK _ _ rfl (Below.refl _ _)
  refine GChW.val (n:=1) (fun v=>[_,IsV v]) (fun _=>rfl) rfl ?_;apply Exists.intro;refine And.intro ?_ ?_
  ·intro K' a wy ho hd hb hK;rw [wN rfl];have q0:=hd ⟨0,.data⟩ (by simp) rfl;simp [rAt,IsV,slot] at q0;clear hd ho;obtain ⟨hk,hq,hbw⟩:=HCP.out wy hb;obtain ⟨k0,k1,k2,k3,k4,k5,k6,k7,k8,k9,k10,k11,k12,k13⟩:=hk.c14;obtain ⟨c0,c1,c2,c3,c4⟩:=hq.c5;go_simp;try go_bits
   exact hK _ _ rfl (Below.refl _ _)
  refine GChW.val (n:=2) (fun v=>[_,_,IsV v]) (fun _=>rfl) rfl ?_;apply Exists.intro;refine And.intro ?_ ?_
  ·intro K' a wy ho hd hb hK;rw [wN rfl];have o3:=ho 3 (by decide);simp [slot] at o3;clear hd ho;obtain ⟨hk,hq,hbw⟩:=HCP.out wy hb;obtain ⟨k0,k1,k2,k3,k4,k5,k6,k7,k8,k9,k10,k11,k12,k13⟩:=hk.c14;obtain ⟨c0,c1,c2,c3,c4⟩:=hq.c5;go_simp;try go_bits
   exact hK _ _ rfl (Below.refl _ _)
  refine GChW.val (n:=3) (fun v=>[_,_,_,IsV v]) (fun _=>rfl) rfl ?_;apply Exists.intro;refine And.intro ?_ ?_
  ·intro K' a wy ho hd hb hK;rw [wN rfl];have q2:=hd ⟨2,.data⟩ (by simp) rfl;simp [rAt,IsV,slot] at q2;clear hd ho;go_simp;refine (HL.out wy).mono ?_;rintro e wz ⟨rfl,hz⟩;exact hK _ _ rfl hz
  refine GChW.val (n:=4) (fun v=>[_,_,_,_,IsV v]) (fun _=>rfl) rfl ?_;apply Exists.intro;refine And.intro ?_ ?_
  ·intro K' a wy ho hd hb hK;rw [wN rfl];have q1:=hd ⟨1,.data⟩ (by simp) rfl;have q3:=hd ⟨3,.data⟩ (by simp) rfl;simp [rAt,IsV,slot] at q1 q3;clear hd ho;refine wp_look_val _ (.tmp 21) (.tmp 23) true rfl (by simp [Act.eval,slot,q1]) (by simp [Act.eval,slot,q3]) (HK2.out wy (HCP.out wy hb).2.2) (hK _ _ rfl (Below.refl _ _))
  refine GChW.val (n:=5) (fun v=>[_,_,_,_,_,IsV v]) (fun _=>rfl) rfl ?_;apply Exists.intro;refine And.intro ?_ ?_
  ·intro K' a wy ho hd hb hK;rw [wN rfl];have q4:=hd ⟨4,.data⟩ (by simp) rfl;simp [rAt,IsV,slot] at q4;clear hd ho;go_simp;try go_bits
   exact hK _ _ rfl (Below.refl _ _)
  refine GChW.val (n:=6) (fun v=>[_,_,_,_,_,_,IsV v]) (fun _=>rfl) rfl ?_;apply Exists.intro;refine And.intro ?_ ?_
  ·intro K' a wy ho hd hb hK;rw [wN rfl];have q5:=hd ⟨5,.data⟩ (by simp) rfl;simp [rAt,IsV,slot] at q5;clear hd ho;go_simp;try go_bits
   exact hK _ _ rfl (Below.refl _ _)
  refine GChW.val (n:=7) (fun v=>[_,_,_,_,_,_,_,IsV v]) (fun _=>rfl) rfl ?_;apply Exists.intro;refine And.intro ?_ ?_
  ·intro K' a wy ho hd hb hK;rw [wN rfl];have q5:=hd ⟨5,.data⟩ (by simp) rfl;simp [rAt,IsV,slot] at q5;clear hd ho;go_simp;try go_bits
   exact hK _ _ rfl (Below.refl _ _)
  refine GChW.rel (n:=8) (IsZd W1.drew.heap.size) (stable_isZd _) [_,_,_,_,_,_,_,_,IsZd W1.drew.heap.size] rfl rfl ?_ ?_
  ·intro K' a wy ho hd hb hK;rw [wN rfl];clear hd ho;go_simp;exact hK _ _ ⟨wy.heap.size,rfl,hb.size,HoldsL.new wy (bdL bdZ) 94⟩ ((Below.refl _ _).alloc (Nat.le_refl _) _)
  refine ⟨?_,?_⟩
  ·intro X wz hR hz;obtain ⟨x0,x1,x2,x3,x4,x5,x6,x7,x8,-⟩:=hR;obtain ⟨g8,e8,b8,z8⟩:=x8;simp only [IsV] at x0 x1 x2 x3 x4 x5 x6 x7;simp only [putsFrom,x0,x1,x2,x3,x4,x5,x6,x7,e8];clear x0 x1 x2 x3 x4 x5 x6 x7;have z0:=z8.cell (j:=0) rfl;have zf0:=z8.free (j:=0) (by simp [bdL]);have z1:=z8.cell (j:=1) rfl;have zf1:=z8.free (j:=1) (by simp [bdL]);have z2:=z8.cell (j:=2) rfl;have zf2:=z8.free (j:=2) (by simp [bdL]);have z3:=z8.cell (j:=3) rfl;have zf3:=z8.free (j:=3) (by simp [bdL]);have z4:=z8.cell (j:=4) rfl;have zf4:=z8.free (j:=4) (by simp [bdL]);have hz0:Below W1.heap.size W1 wz:=(Below.refl _ _).drew.trans hz;have b8':W1.heap.size≤g8:=b8;have HB6:Hid (∀ v0 v1 v2 v3 v4,Below W1.heap.size W1 ((sW (sW (sW (sW wz g8 0 v0) g8 1 v1) g8 2 v2) g8 3 v3).setCell ⟨g8,4,none⟩ v4)):=fun v0 v1 v2 v3 v4=>((((hz0.setCell (p:=⟨g8,0,none⟩) b8' v0).setCell (p:=⟨g8,1,none⟩) b8' v1).setCell (p:=⟨g8,2,none⟩) b8' v2).setCell (p:=⟨g8,3,none⟩) b8' v3).setCell (p:=⟨g8,4,none⟩) b8' v4
   clear z8 b8 b8' hz hz0;intro K10 hK10;go_simp;refine hK10 _ _ ?_;intro K11 hK11;go_simp;refine hK11 _ _ ?_;show Exit.then _ _ _ _ _;refine hK2 _ _ (hJ _ _ ?_);(repeat apply Exists.intro)
   exact ⟨⟨rfl,HB6.out _ _ _ _ _⟩,rfl⟩
  ·intro X wz hR hz;obtain ⟨x0,x1,x2,x3,x4,x5,x6,x7,x8,-⟩:=hR;obtain ⟨g8,e8,b8,z8⟩:=x8;simp only [IsV] at x0 x1 x2 x3 x4 x5 x6 x7;simp [slot] at x7;simp only [putsFrom,x0,x1,x2,x3,x4,x5,x6,x7,e8];clear x0 x1 x2 x3 x4 x5 x6 x7;have z0:=z8.cell (j:=0) rfl;have zf0:=z8.free (j:=0) (by simp [bdL]);have z1:=z8.cell (j:=1) rfl;have zf1:=z8.free (j:=1) (by simp [bdL]);have z2:=z8.cell (j:=2) rfl;have zf2:=z8.free (j:=2) (by simp [bdL]);have z3:=z8.cell (j:=3) rfl;have zf3:=z8.free (j:=3) (by simp [bdL]);have z4:=z8.cell (j:=4) rfl;have zf4:=z8.free (j:=4) (by simp [bdL]);have hz0:Below W1.heap.size W1 wz:=(Below.refl _ _).drew.trans hz;have b8':W1.heap.size≤g8:=b8;have HB6:Hid (∀ v0 v1 v2 v3 v4,Below W1.heap.size W1 ((sW (sW (sW (sW wz g8 0 v0) g8 1 v1) g8 2 v2) g8 3 v3).setCell ⟨g8,4,none⟩ v4)):=fun v0 v1 v2 v3 v4=>((((hz0.setCell (p:=⟨g8,0,none⟩) b8' v0).setCell (p:=⟨g8,1,none⟩) b8' v1).setCell (p:=⟨g8,2,none⟩) b8' v2).setCell (p:=⟨g8,3,none⟩) b8' v3).setCell (p:=⟨g8,4,none⟩) b8' v4
   clear z8 b8 b8' hz hz0;intro K10 hK10;go_simp;refine hK10 _ _ ?_;intro K11 hK11;go_simp;refine hK11 _ _ ?_;intro K12 hK12;go_simp;refine hK12 _ _ ?_;show Exit.then _ _ _ _ _;refine hK2 _ _ (hJ _ _ ?_);(repeat apply Exists.intro)
   exact ⟨⟨rfl,HB6.out _ _ _ _ _⟩,rfl⟩
 case rest =>
 obtain ⟨rfl,hbc⟩:=hcut;generalize wc=W2 at *;have HKn:Hid _:=HK.out.kept (by simp) hbc;have HQn:Hid _:=HQ.out.kept (by simp [bdL]) hbc;have HZn:Hid _:=HZ.out.trans (hbc.mono HZ.out.size);clear HK HQ HZ hbc;have HK:Hid _:=HKn;have HQ:Hid _:=HQn;have HZ:Hid _:=HZn;clear HKn HQn HZn;have hun:undef=Value.tuple #[]:=rfl;obtain ⟨k0,k1,k2,k3,k4,k5,k6,k7,k8,k9,k10,k11,k12,k13⟩:=HK.out.c14;obtain ⟨c0,c1,c2,c3,c4⟩:=HQ.out.c5;go_wp2_with fail
 refine (HO.out _ HZ.out).mono ?_;rintro e W3 ⟨rfl,qq⟩;have HKn:Hid _:=HK.out.kept (by simp) qq;have HQn:Hid _:=HQ.out.kept (by simp [bdL]) qq;have HZn:Hid _:=HZ.out.trans (qq.mono HZ.out.size);clear k0 k1 k2 k3 k4 k5 k6 k7 k8 k9 k10 k11 k12 k13 c0 c1 c2 c3 c4;clear HK HQ HZ qq;have HK:Hid _:=HKn;have HQ:Hid _:=HQn;have HZ:Hid _:=HZn;clear HKn HQn HZn;obtain ⟨k0,k1,k2,k3,k4,k5,k6,k7,k8,k9,k10,k11,k12,k13⟩:=HK.out.c14;obtain ⟨c0,c1,c2,c3,c4⟩:=HQ.out.c5;go_wp2_with fail
 refine (HB.out _).mono ?_;rintro e W3 ⟨rfl,rfl⟩;clear k0 k1 k2 k3 k4 k5 k6 k7 k8 k9 k10 k11 k12 k13 c0 c1 c2 c3 c4
 cases t1 with
 | false =>
  have HX:Hid (ans=false):=by unfold Hid; rw [HV.out]; simp
  go_wp2_with fail
  go_ret;exact ⟨ret_bool HX.out.symm,HZ.out⟩
 | true =>
 obtain ⟨k0,k1,k2,k3,k4,k5,k6,k7,k8,k9,k10,k11,k12,k13⟩:=HK.out.c14;obtain ⟨c0,c1,c2,c3,c4⟩:=HQ.out.c5;go_wp2_with fail
 refine (HA.out _).mono ?_;rintro e W3 ⟨rfl,rfl⟩;clear k0 k1 k2 k3 k4 k5 k6 k7 k8 k9 k10 k11 k12 k13 c0 c1 c2 c3 c4
 cases t2 with
 | false =>
  have HX:Hid (ans=false):=by unfold Hid; rw [HV.out]; simp
  go_wp2_with fail
  go_ret;exact ⟨ret_bool HX.out.symm,HZ.out⟩
 | true =>
 obtain ⟨k0,k1,k2,k3,k4,k5,k6,k7,k8,k9,k10,k11,k12,k13⟩:=HK.out.c14;obtain ⟨c0,c1,c2,c3,c4⟩:=HQ.out.c5;go_wp2_with fail
 refine (HW.out _).mono ?_;rintro e W3 ⟨rfl,rfl⟩;clear k0 k1 k2 k3 k4 k5 k6 k7 k8 k9 k10 k11 k12 k13 c0 c1 c2 c3 c4
 cases t3 with
 | false =>
  have HX:Hid (ans=false):=by unfold Hid; rw [HV.out]; simp
  go_wp2_with fail
  go_ret;exact ⟨ret_bool HX.out.symm,HZ.out⟩
 | true =>
 obtain ⟨k0,k1,k2,k3,k4,k5,k6,k7,k8,k9,k10,k11,k12,k13⟩:=HK.out.c14;obtain ⟨c0,c1,c2,c3,c4⟩:=HQ.out.c5;go_wp2_with fail
 refine (HC.out _ HZ.out).mono ?_;rintro e W4 ⟨rfl,qq⟩;have HKn:Hid _:=HK.out.kept (by simp) qq;have HQn:Hid _:=HQ.out.kept (by simp [bdL]) qq;have HZn:Hid _:=HZ.out.trans (qq.mono HZ.out.size);clear k0 k1 k2 k3 k4 k5 k6 k7 k8 k9 k10 k11 k12 k13 c0 c1 c2 c3 c4;clear HK HQ HZ qq;have HK:Hid _:=HKn;have HQ:Hid _:=HQn;have HZ:Hid _:=HZn;clear HKn HQn HZn
 cases t4 with
 | false =>
  have HX:Hid (ans=false):=by unfold Hid; rw [HV.out]; simp
  go_wp2_with fail
  go_ret;exact ⟨ret_bool HX.out.symm,HZ.out⟩
 | true =>
 obtain ⟨k0,k1,k2,k3,k4,k5,k6,k7,k8,k9,k10,k11,k12,k13⟩:=HK.out.c14;obtain ⟨c0,c1,c2,c3,c4⟩:=HQ.out.c5;go_wp2_with fail
 refine (HN.out _).mono ?_;rintro e W5 ⟨rfl,qq⟩;have HKn:Hid _:=HK.out.kept (by simp) qq;have HQn:Hid _:=HQ.out.kept (by simp [bdL]) qq;have HZn:Hid _:=HZ.out.trans (qq.mono HZ.out.size);clear k0 k1 k2 k3 k4 k5 k6 k7 k8 k9 k10 k11 k12 k13 c0 c1 c2 c3 c4;clear HK HQ HZ qq;have HK:Hid _:=HKn;have HQ:Hid _:=HQn;have HZ:Hid _:=HZn;clear HKn HQn HZn
 cases t5 with
 | false =>
  have HX:Hid (ans=false):=by unfold Hid; rw [HV.out]; simp
  go_wp2_with fail
  go_ret;exact ⟨ret_bool HX.out.symm,HZ.out⟩
 | true =>
 cases bh with
 | true =>
  have HX:Hid (ans=false):=by unfold Hid; rw [HV.out]; simp
  go_wp2_with fail
  go_ret;exact ⟨ret_bool HX.out.symm,HZ.out⟩
 | false =>
 cases bl with
 | true =>
  have HX:Hid (ans=false):=by unfold Hid; rw [HV.out]; simp
  go_wp2_with fail
  go_ret;exact ⟨ret_bool HX.out.symm,HZ.out⟩
 | false =>
 obtain ⟨k0,k1,k2,k3,k4,k5,k6,k7,k8,k9,k10,k11,k12,k13⟩:=HK.out.c14;obtain ⟨c0,c1,c2,c3,c4⟩:=HQ.out.c5;by_cases ho:ot.toList=q.out.toList
 case neg =>
  have ho1:(ot.toList==q.out.toList)=false:=by simp [ho]
  have HX:Hid (ans=false):=by unfold Hid; rw [HV.out,decide_eq_false ho]; simp
  clear ho;go_wp2_with fail
  go_ret;exact ⟨ret_bool HX.out.symm,HZ.out⟩
 have ho1:(ot.toList==q.out.toList)=true:=by simp [ho]
 have HX:Hid (ans=t9):=by unfold Hid; rw [HV.out,decide_eq_true ho]; rfl
 clear ho;go_wp2_with fail
 refine (HS.out _ HZ.out).mono ?_;rintro e W6 ⟨rfl,qq⟩;have HKn:Hid _:=HK.out.kept (by simp) qq;have HQn:Hid _:=HQ.out.kept (by simp [bdL]) qq;have HZn:Hid _:=HZ.out.trans (qq.mono HZ.out.size);clear k0 k1 k2 k3 k4 k5 k6 k7 k8 k9 k10 k11 k12 k13 c0 c1 c2 c3 c4;clear HK HQ HZ qq;have HK:Hid _:=HKn;have HQ:Hid _:=HQn;have HZ:Hid _:=HZn;clear HKn HQn HZn;go_wp2_with fail
 go_ret;exact ⟨ret_bool HX.out.symm,HZ.out⟩
theorem free_any (xs:List Bd) (proto:Int) (s:ByteArray) (n:Int):freeP xs proto s n=!xs.any (ofOut proto s n):=by
 unfold freeP;rw [← findI_any];by_cases h:findI (ofOut proto s n) xs < 0
 ·rw [decide_eq_true h,decide_eq_false (by omega)]; rfl
 ·rw [decide_eq_false h,decide_eq_true (by omega)]; rfl
theorem lendN_or (p:Pl) (xs:List Bd) (proto:Int) (s:ByteArray) (wish:Int):lendN p xs proto s wish=if (isIn wish p.low p.high&&freeP xs proto s wish)=true then some wish else (leastN (fun n=>decide (n % 2=wish % 2)&&freeP xs proto s n) p.low (p.high-p.low+1).toNat).or (leastN (freeP xs proto s) p.low (p.high-p.low+1).toNat):=by
 unfold lendN;split
 ·rfl
 ·cases leastN (fun n=>decide (n % 2=wish % 2)&&freeP xs proto s n) p.low (p.high-p.low+1).toNat<;>rfl
theorem least_any (f:Int→Bool) (L:Int→Option Int) (I:Int→Prop) (st lo hi:Int) (F:Nat) (hG:Enters F) (caps:Array Value) (w:World) (h0:0≤lo) (hlo:lo≤65540) (hhi:hi≤65535) (hst1:1≤st) (hst2:st≤2) (hIs:I lo) (hIn:∀ n,I n→I (n+st)) (hL:∀ n,I n→n≤hi→L n=if f n=true then some n else L (n+st)) (hE:∀ n,I n→hi < n→L n=none)
  (hC:∀ W,Below w.heap.size w W→∀ n,0≤n→n≤65535→Calls Tryz.prog F (#[iV n]++caps) W fun e w'=>e=.returned (.bool (f n))∧Below W.heap.size W w') :
  Cb 184 #[iV lo,iV hi,iV st,.func (.func F) #[] caps] w (.tuple #[iV ((L lo).getD 0),.bool (L lo).isSome]):=by
 have HC:Hid _:=hC;have HL:Hid _:=hL;have HE:Hid _:=hE;have HIN:Hid (∀ n,I n→I (n+st)):=hIn;obtain ⟨lv,hlv⟩ : ∃ y,y=L lo:=⟨_,rfl⟩;have HLV:Hid (lv=L lo):=hlv;rw [← hlv];clear hC hL hE hIn hlv;unfold Enters at hG;go_enter Tryz.func184,Tryz.ntmps184
 go_wp2_with fail
 go_loopw [10] (fun pv wr=>∃ n:Int,0≤n∧n≤65540∧pv=iV n∧Hid (I n)∧Hid (lv=L n)∧Below w.heap.size w wr) (fun pv _=>(65541-intOf pv).toNat)
 case atStart=>exact ⟨lo,by omega,by omega,rfl,hIs,HLV.out,Below.refl _ _⟩
 case round =>
  obtain ⟨n,hn0,hn1,rfl,hin,hln,hb⟩:=hrel;have HB:Hid (Below w.heap.size w wr):=hb;clear hb;by_cases hle:n≤hi
  ·have HC2:Hid _:=HC.out wr HB.out n hn0 (by omega);have HL2:Hid _:=HL.out n hin.out hle;obtain ⟨fb,hfb⟩ : ∃ y,y=f n:=⟨_,rfl⟩;rw [← hfb] at HC2 HL2;clear hfb;go_wp2_with fail
   refine Calls.mono HC2.out ?_;rintro e w1 ⟨rfl,q1⟩;have HB1:Hid _:=HB.out.trans (q1.mono HB.out.size);clear q1
   cases fb with
   | true =>
    have HX:Hid (lv=some n):=by unfold Hid; rw [hln.out,HL2.out,if_pos rfl]
    go_wp2_with fail
    go_ret2
    exact ⟨by rw [HX.out]; rfl,HB1.out⟩
   | false =>
    have HX:Hid (lv=L (n+st)):=by unfold Hid; rw [hln.out,HL2.out,if_neg (by simp)]
    have HI2:Hid (I (n+st)):=HIN.out n hin.out;go_wp2_with fail
    go_roundw
    case rel=>exact ⟨n+st,by omega,by omega,rfl,HI2,HX,HB1.out⟩
    case measure=>simp [intOf]; omega
  ·have HX:Hid (lv=none):=by unfold Hid; rw [hln.out]; exact HE.out n hin.out (by omega)
   have hgt:hi < n:=by omega
   go_wp2_with fail
   go_ret2
   exact ⟨by rw [HX.out]; rfl,HB.out⟩
theorem free1_any (pa:Option Addr) (pc:Nat) (p:Pl) (ba bo:Option Addr) (ca cb:Nat) (x:Bb) (m1 m2:Nat) (xs:List Bd) (proto:Int) (s:ByteArray) (port:Int) (B4 B5 B6:Nat) (w:World) (he:EnIn ⟨proto,s,port⟩) (hk:HoldsL w B4 (KkV pa pc p ba ca bo cb x m1 m2)) (h5:HoldsL w B5 [iV proto]) (h6:HoldsL w B6 [.string s]) (hbk:BookAt w m1 m2 xs xs) :
  Cb 183 #[iV port,.pointer (some ⟨B4,0,none⟩),.pointer (some ⟨B5,0,none⟩),.pointer (some ⟨B6,0,none⟩)] w (.bool (freeP xs proto s port)):=by
 obtain ⟨c,hc⟩ : ∃ c,c=(xs.find? fun q=>sameEn (lentE q) ⟨proto,s,port⟩).getD bdZ:=⟨_,rfl⟩;have LK:(Instr.lookup 148 (.map (some m2)) (.agg (EnV proto s port).toArray) true).run Tryz.prog w=.ok (.tuple #[.agg (BdV c).toArray,.bool (xs.any (ofOut proto s port))]) w:=by
  have h:=hbk.look2 (e:=⟨proto,s,port⟩) he;rw [find_some_any,← hc,show (fun q=>sameEn (lentE q) ⟨proto,s,port⟩)=ofOut proto s port from funext fun c=>lent_out _ _ _ c] at h;exact h
 have HV:Hid (freeP xs proto s port=!xs.any (ofOut proto s port)):=free_any xs proto s port;have k13:=hk.cell (j:=13) rfl;have k5:=h5.cell (j:=0) rfl;have k6:=h6.cell (j:=0) rfl;generalize freeP xs proto s port=ans at *;generalize xs.any (ofOut proto s port)=an at *;clear hc hk h5 h6 hbk he;have HZ:Hid (Below w.heap.size w (w.alloc (.cells (BdV c).toArray 94))):=(Below.refl _ _).alloc (Nat.le_refl _) _;go_enter Tryz.func183,Tryz.ntmps183
 go_wp2_with (at_lookup; refine wpList_look_val rfl _ _ _ _ rfl rfl rfl LK ?_)
 go_ret;exact ⟨ret_bool HV.out.symm,HZ.out⟩
theorem freePort_any (pa:Option Addr) (pc:Nat) (p:Pl) (ba bo:Option Addr) (ca cb:Nat) (x:Bb) (m1 m2:Nat) (xs:List Bd) (proto:Int) (s:ByteArray) (wish:Int) (w:World) (hpo:poolOk p=true) (hs:s.size≤1048576) (hpr:In64t proto) (hw0:0≤wish) (hw1:wish≤65535) (hbk:BookAt w m1 m2 xs xs) :
  Cb 173 #[bkC pa pc p ba bo ca cb x m1 m2,iV proto,.string s,iV wish] w (.tuple #[iV ((lendN p xs proto s wish).getD 0),.bool (lendN p xs proto s wish).isSome]):=by
 have hpb:1≤p.low∧p.low≤p.high∧p.high≤65535:=by
  unfold poolOk at hpo; simp only [Bool.and_eq_true,decide_eq_true_iff] at hpo; omega
 obtain ⟨hlo,hlh,hhi⟩:=hpb;clear hpo;have HZ:Hid (Below w.heap.size w ((aW (aW w (KkV pa pc p ba ca bo cb x m1 m2) 150) [iV proto] 2).alloc (.cells #[.string s] 9))):=(((Below.refl _ _).alloc (Nat.le_refl _) _).alloc (by simp) _).alloc (by simp; omega) _;have HK:Hid (HoldsL ((aW (aW w (KkV pa pc p ba ca bo cb x m1 m2) 150) [iV proto] 2).alloc (.cells #[.string s] 9)) w.heap.size (KkV pa pc p ba ca bo cb x m1 m2)):=((HoldsL.new w (KkV pa pc p ba ca bo cb x m1 m2) 150).alloc _).alloc _;have H5:Hid (HoldsL ((aW (aW w (KkV pa pc p ba ca bo cb x m1 m2) 150) [iV proto] 2).alloc (.cells #[.string s] 9)) (w.heap.size+1) [iV proto]):=by
  have h:=(HoldsL.new (w.alloc (.cells (KkV pa pc p ba ca bo cb x m1 m2).toArray 150)) [iV proto] 2).alloc (.cells #[.string s] 9);rw [World.size_alloc] at h; exact h
 have H6:Hid (HoldsL ((aW (aW w (KkV pa pc p ba ca bo cb x m1 m2) 150) [iV proto] 2).alloc (.cells #[.string s] 9)) (w.heap.size+1+1) [.string s]):=by
  have h:=HoldsL.new ((aW w (KkV pa pc p ba ca bo cb x m1 m2) 150).alloc (.cells #[iV proto] 2)) [.string s] 9;rw [World.size_alloc,World.size_alloc] at h; exact h
 have HBK:Hid (BookAt w m1 m2 xs xs):=hbk;have HFR:Hid (∀ W,Below w.heap.size w W→HoldsL W w.heap.size (KkV pa pc p ba ca bo cb x m1 m2)→HoldsL W (w.heap.size+1) [iV proto]→HoldsL W (w.heap.size+1+1) [.string s]→∀ n,0≤n→n≤65535→Cb 183 #[iV n,.pointer (some ⟨w.heap.size,0,none⟩),.pointer (some ⟨w.heap.size+1,0,none⟩),.pointer (some ⟨w.heap.size+1+1,0,none⟩)] W (.bool (freeP xs proto s n))):=fun W hW h1 h2 h3 n hn0 hn1=>free1_any pa pc p ba bo ca cb x m1 m2 xs proto s n _ _ _ W ⟨hs,hpr,⟨by show _≤n; omega,by show n≤_; omega⟩⟩ h1 h2 h3 (hbk.kept hW)
 have HLD:Hid (∀ W,Cb 167 #[.agg (KkV pa pc p ba ca bo cb x m1 m2).toArray,iV wish] W (.bool (isIn wish p.low p.high))):=fun W=>lends_any pa pc p ba bo ca cb x m1 m2 wish W
 have HL2:Hid (∀ W,Below w.heap.size w W→HoldsL W w.heap.size (KkV pa pc p ba ca bo cb x m1 m2)→HoldsL W (w.heap.size+1) [iV proto]→HoldsL W (w.heap.size+1+1) [.string s]→Cb 184 #[iV (p.low+(p.low+wish) % 2),iV p.high,iV 2,.func (.func 183) #[] #[.pointer (some ⟨w.heap.size,0,none⟩),.pointer (some ⟨w.heap.size+1,0,none⟩),.pointer (some ⟨w.heap.size+1+1,0,none⟩)]] W (.tuple #[iV ((leastN (fun m=>decide (m % 2=wish % 2)&&freeP xs proto s m) p.low (p.high-p.low+1).toNat).getD 0),.bool (leastN (fun m=>decide (m % 2=wish % 2)&&freeP xs proto s m) p.low (p.high-p.low+1).toNat).isSome])):=fun W hW h1 h2 h3=>by
  rw [leastN_first (by omega) hw0 hlh];exact least_any (freeP xs proto s) (fun n=>leastN (fun m=>decide (m % 2=wish % 2)&&freeP xs proto s m) n (p.high-n+1).toNat) (fun n=>n % 2=wish % 2) 2 (p.low+(p.low+wish) % 2) p.high _ (fun args W=>by kernel_rfl) _ W (by omega) (by omega) hhi (by omega) (by omega) (by show _ % 2=_; omega) (fun n hn=>by show _ % 2=_; have:n % 2=wish % 2:=hn; omega) (fun n hn hle=>leastN_par hle hn) (fun n hn hgt=>leastN_end hgt) (fun W' hW' n hn0 hn1=>HFR.out W' (hW.trans (hW'.mono hW.size)) (h1.kept (by simp) hW') (h2.kept (by simp) hW') (h3.kept (by simp) hW') n hn0 hn1)
 have HL1:Hid (∀ W,Below w.heap.size w W→HoldsL W w.heap.size (KkV pa pc p ba ca bo cb x m1 m2)→HoldsL W (w.heap.size+1) [iV proto]→HoldsL W (w.heap.size+1+1) [.string s]→Cb 184 #[iV p.low,iV p.high,iV 1,.func (.func 183) #[] #[.pointer (some ⟨w.heap.size,0,none⟩),.pointer (some ⟨w.heap.size+1,0,none⟩),.pointer (some ⟨w.heap.size+1+1,0,none⟩)]] W (.tuple #[iV ((leastN (freeP xs proto s) p.low (p.high-p.low+1).toNat).getD 0),.bool (leastN (freeP xs proto s) p.low (p.high-p.low+1).toNat).isSome])):=fun W hW h1 h2 h3 =>
  least_any (freeP xs proto s) (fun n=>leastN (freeP xs proto s) n (p.high-n+1).toNat) (fun n=>True) 1 p.low p.high _ (fun args W=>by kernel_rfl) _ W (by omega) (by omega) hhi (by omega) (by omega) trivial (fun n hn=>trivial) (fun n hn hle=>leastN_step hle) (fun n hn hgt=>leastN_end hgt) (fun W' hW' n hn0 hn1=>HFR.out W' (hW.trans (hW'.mono hW.size)) (h1.kept (by simp) hW') (h2.kept (by simp) hW') (h3.kept (by simp) hW') n hn0 hn1)
 have HV:Hid _:=lendN_or p xs proto s wish;generalize lendN p xs proto s wish=ans at *;generalize leastN (fun m=>decide (m % 2=wish % 2)&&freeP xs proto s m) p.low (p.high-p.low+1).toNat=o2 at *;generalize leastN (freeP xs proto s) p.low (p.high-p.low+1).toNat=o1 at *;generalize isIn wish p.low p.high=il at *;have HFW:Hid _:=fun W a1 a2 a3 a4=>HFR.out W a1 a2 a3 a4 wish hw0 hw1
 generalize freeP xs proto s wish=fw at *;clear hbk HFR;have hun:undef=Value.tuple #[]:=rfl;unfold bkC;go_enter Tryz.func173,Tryz.ntmps173
 go_upto_region 1 with fail
 generalize ((aW (aW w (KkV pa pc p ba ca bo cb x m1 m2) 150) [iV proto] 2).alloc (.cells #[.string s] 9))=W at *;obtain ⟨k0,k1,k2,k3,k4,k5,k6,k7,k8,k9,k10,k11,k12,k13⟩:=HK.out.c14;go_wp2_with fail
 refine (HLD.out _).mono ?_;rintro e w1 ⟨rfl,q1⟩;have HZ1:Hid _:=HZ.out.trans (q1.mono HZ.out.size);have HK1:Hid _:=HK.out.kept (by simp) q1;have H51:Hid _:=H5.out.kept (by simp) q1;have H61:Hid _:=H6.out.kept (by simp) q1;clear q1 HZ HK H5 H6 HLD k0 k1 k2 k3 k4 k5 k6 k7 k8 k9 k10 k11 k12 k13
 cases il with
 | false =>
  obtain ⟨-,k1,k2⟩:=HK1.out.c3;have HV2:Hid (ans=o2.or o1):=by unfold Hid; rw [HV.out]; simp
  clear HV;go_wp2_with fail
  refine (HL2.out _ HZ1.out HK1.out H51.out H61.out).mono ?_;rintro e w3 ⟨rfl,q3⟩;have HZ3:Hid _:=HZ1.out.trans (q3.mono HZ1.out.size);have HK3:Hid _:=HK1.out.kept (by simp) q3;have H53:Hid _:=H51.out.kept (by simp) q3;have H63:Hid _:=H61.out.kept (by simp) q3;clear q3 k1 k2 HZ1 HK1 H51 H61 HL2
  cases o2 with
  | some n =>
   have HX:Hid (ans=some n):=HV2.out;go_wp2_with fail
   go_ret2
   exact ⟨by rw [HX.out]; rfl,HZ3.out⟩
  | none =>
   have HX:Hid (ans=o1):=HV2.out;obtain ⟨-,k1,k2⟩:=HK3.out.c3;go_wp2_with fail
   refine (HL1.out _ HZ3.out HK3.out H53.out H63.out).mono ?_;rintro e w4 ⟨rfl,q4⟩;have HZ4:Hid _:=HZ3.out.trans (q4.mono HZ3.out.size);clear q4 k1 k2;go_wp2_with fail
   go_ret2
   exact ⟨by rw [HX.out]; rfl,HZ4.out⟩
 | true =>
  go_wp2_with fail
  refine (HFW.out _ HZ1.out HK1.out H51.out H61.out).mono ?_;rintro e w2 ⟨rfl,q2⟩;have HZ2:Hid _:=HZ1.out.trans (q2.mono HZ1.out.size);have HK2:Hid _:=HK1.out.kept (by simp) q2;have H52:Hid _:=H51.out.kept (by simp) q2;have H62:Hid _:=H61.out.kept (by simp) q2;clear q2 HZ1 HK1 H51 H61 HFW
  cases fw with
  | true =>
   have HX:Hid (ans=some wish):=by unfold Hid; rw [HV.out]; rfl
   go_wp2_with fail
   go_ret2
   exact ⟨by rw [HX.out]; rfl,HZ2.out⟩
  | false =>
   obtain ⟨-,k1,k2⟩:=HK2.out.c3;have HV2:Hid (ans=o2.or o1):=by unfold Hid; rw [HV.out]; simp
   clear HV;go_wp2_with fail
   refine (HL2.out _ HZ2.out HK2.out H52.out H62.out).mono ?_;rintro e w3 ⟨rfl,q3⟩;have HZ3:Hid _:=HZ2.out.trans (q3.mono HZ2.out.size);have HK3:Hid _:=HK2.out.kept (by simp) q3;have H53:Hid _:=H52.out.kept (by simp) q3;have H63:Hid _:=H62.out.kept (by simp) q3;clear q3 k1 k2 HZ2 HK2 H52 H62 HL2
   cases o2 with
   | some n =>
    have HX:Hid (ans=some n):=HV2.out;go_wp2_with fail
    go_ret2
    exact ⟨by rw [HX.out]; rfl,HZ3.out⟩
   | none =>
    have HX:Hid (ans=o1):=HV2.out;obtain ⟨-,k1,k2⟩:=HK3.out.c3;go_wp2_with fail
    refine (HL1.out _ HZ3.out HK3.out H53.out H63.out).mono ?_;rintro e w4 ⟨rfl,q4⟩;have HZ4:Hid _:=HZ3.out.trans (q4.mono HZ3.out.size);clear q4 k1 k2;go_wp2_with fail
    go_ret2
    exact ⟨by rw [HX.out]; rfl,HZ4.out⟩
def bindForV (p:Pl) (xs:List Bd) (h:En):Bd × Bool :=
 if (xs.find? (ofIn h.proto h.addr h.port)).isSome=true then ((xs.find? (ofIn h.proto h.addr h.port)).getD bdZ,true)
 else (⟨h.proto,h.addr,h.port,outIn xs (outD p h.addr) h.addr,(lendN p xs h.proto (outIn xs (outD p h.addr) h.addr) h.port).getD 0⟩,(lendN p xs h.proto (outIn xs (outD p h.addr) h.addr) h.port).isSome)
theorem bindFor_lend (p:Pl) (xs:List Bd) (h:En):lendV p xs h.proto h.addr h.port=if (bindForV p xs h).2=true then ((bindForV p xs h).1,0) else (bdZ,9):=by
 unfold lendV bindForV
 cases xs.find? (ofIn h.proto h.addr h.port) with
 | some c=>rfl
 | none =>
  cases lendN p xs h.proto (outIn xs (outD p h.addr) h.addr) h.port<;>rfl
theorem outIn_some {xs:List Bd} {s d:ByteArray} (h:(xs.find? (ofHost s)).isSome=true):outIn xs d s=outIn xs ⟨#[]⟩ s:=by
 unfold outIn; cases hf:xs.find? (ofHost s) with
 | some c=>rfl
 | none=>rw [hf] at h; simp at h
theorem outIn_none {xs:List Bd} {s d:ByteArray} (h:(xs.find? (ofHost s)).isSome=false):outIn xs d s=d:=by
 unfold outIn; cases hf:xs.find? (ofHost s) with
 | some c=>rw [hf] at h; simp at h
 | none=>rfl
theorem outIn_sz {p:Pl} {xs:List Bd} {s:ByteArray} (hps:∀ s∈p.addrs,s.size≤1048576) (hgb:∀ q∈xs,BdGood q):(outIn xs (outD p s) s).size≤1048576:=by
 unfold outIn
 cases hf:xs.find? (ofHost s) with
 | some c=>exact (hgb c (List.mem_of_find?_eq_some hf)).2.1
 | none =>
  show (outD p s).size≤_;unfold outD
  cases ha:p.addrs[(sumV s).toNat % p.addrs.length]? with
  | none=>exact Nat.zero_le _
  | some a=>exact hps a (List.mem_of_getElem? ha)
theorem bindFor_any (pa:Option Addr) (pc:Nat) (p:Pl) (ba bo:Option Addr) (ca cb:Nat) (x:Bb) (m1 m2:Nat) (h:En) (w:World) (hpo:poolOk p=true) (he:EnIn h) (hw0:0≤h.port) (hw1:h.port≤65535) (hps:∀ s∈p.addrs,s.size≤1048576) (hbl1:x.binds.length≤1048576) (hgb:∀ q∈x.binds,BdGood q) (hbk:BookAt w m1 m2 x.binds x.binds) (hp:SlIs strL1 1 w pa p.addrs) (hx:BbIs w ba bo x) :
  Cb 146 #[bkC pa pc p ba bo ca cb x m1 m2,enC h] w (.tuple #[bdC (bindForV p x.binds h).1,.bool (bindForV p x.binds h).2]):=by
 have hpb:1≤p.addrs.length∧p.addrs.length≤8:=by
  unfold poolOk at hpo; simp only [Bool.and_eq_true,decide_eq_true_iff] at hpo; omega
 obtain ⟨hp1,hp8⟩:=hpb;have HPO:Hid (poolOk p=true):=hpo;have HZ:Hid (Below w.heap.size w ((aW (aW w (KkV pa pc p ba ca bo cb x m1 m2) 150) (EnV h.proto h.addr h.port) 155).alloc (.cells (BdR 0 ⟨#[]⟩ 0 ⟨#[]⟩ 0).toArray 94))):=(((Below.refl _ _).alloc (Nat.le_refl _) _).alloc (by simp) _).alloc (by simp; omega) _;have HK:Hid (HoldsL ((aW (aW w (KkV pa pc p ba ca bo cb x m1 m2) 150) (EnV h.proto h.addr h.port) 155).alloc (.cells (BdR 0 ⟨#[]⟩ 0 ⟨#[]⟩ 0).toArray 94)) w.heap.size (KkV pa pc p ba ca bo cb x m1 m2)):=((HoldsL.new w (KkV pa pc p ba ca bo cb x m1 m2) 150).alloc _).alloc _;have HH:Hid (HoldsL ((aW (aW w (KkV pa pc p ba ca bo cb x m1 m2) 150) (EnV h.proto h.addr h.port) 155).alloc (.cells (BdR 0 ⟨#[]⟩ 0 ⟨#[]⟩ 0).toArray 94)) (w.heap.size+1) (EnV h.proto h.addr h.port)):=by
  have h:=(HoldsL.new (w.alloc (.cells (KkV pa pc p ba ca bo cb x m1 m2).toArray 150)) (EnV h.proto h.addr h.port) 155).alloc (.cells (BdR 0 ⟨#[]⟩ 0 ⟨#[]⟩ 0).toArray 94);rw [World.size_alloc] at h; exact h
 have HR:Hid (HoldsL ((aW (aW w (KkV pa pc p ba ca bo cb x m1 m2) 150) (EnV h.proto h.addr h.port) 155).alloc (.cells (BdR 0 ⟨#[]⟩ 0 ⟨#[]⟩ 0).toArray 94)) (w.heap.size+1+1) (BdR 0 ⟨#[]⟩ 0 ⟨#[]⟩ 0)):=by
  have h:=HoldsL.new ((aW w (KkV pa pc p ba ca bo cb x m1 m2) 150).alloc (.cells (EnV h.proto h.addr h.port).toArray 155)) (BdR 0 ⟨#[]⟩ 0 ⟨#[]⟩ 0) 94;rw [World.size_alloc,World.size_alloc] at h; exact h
 have hRw:w.heap.size≤w.heap.size+1+1:=by omega
 obtain ⟨c,hc⟩ : ∃ c,c=(x.binds.find? (ofIn h.proto h.addr h.port)).getD bdZ:=⟨_,rfl⟩;have HLK:Hid (∀ W,Below w.heap.size w W→(Instr.lookup 148 (.map (some m1)) (.agg (EnV h.proto h.addr h.port).toArray) true).run Tryz.prog W=.ok (.tuple #[.agg (BdV c).toArray,.bool (x.binds.find? (ofIn h.proto h.addr h.port)).isSome]) W):=fun W hW=>by
  have hl:=(hbk.kept hW).look1 (e:=h) he;rw [show (fun q=>sameEn (hostE q) h)=ofIn h.proto h.addr h.port from funext fun c=>host_in _ _ _ c,← hc] at hl;exact hl
 have HO:Hid (∀ W,Below w.heap.size w W→Cb 166 #[.slice ba x.binds.length ca,.string h.addr] W (.tuple #[.string (outIn x.binds ⟨#[]⟩ h.addr),.bool (x.binds.find? (ofHost h.addr)).isSome])):=fun W hW=>outOf_any h.addr x.binds ba ca W hbl1 (hx.bd.below hW)
 have HF:Hid (∀ W s,Below w.heap.size w W→s.size≤1048576→Cb 173 #[.agg (KkV pa pc p ba ca bo cb x m1 m2).toArray,iV h.proto,.string s,iV h.port] W (.tuple #[iV ((lendN p x.binds h.proto s h.port).getD 0),.bool (lendN p x.binds h.proto s h.port).isSome])):=fun W s hW hs=>freePort_any pa pc p ba bo ca cb x m1 m2 x.binds h.proto s h.port W hpo hs he.2.1 hw0 hw1 (hbk.kept hW)
 have HSZ:Hid ((outIn x.binds (outD p h.addr) h.addr).size≤1048576):=outIn_sz hps hgb;have HV:Hid (bindForV p x.binds h=if (x.binds.find? (ofIn h.proto h.addr h.port)).isSome=true then (c,true) else (⟨h.proto,h.addr,h.port,outIn x.binds (outD p h.addr) h.addr,(lendN p x.binds h.proto (outIn x.binds (outD p h.addr) h.addr) h.port).getD 0⟩,(lendN p x.binds h.proto (outIn x.binds (outD p h.addr) h.addr) h.port).isSome)):=by rw [hc]; rfl
 have hsr:=sumV_range h.addr;have HSU:Hid (∀ W,Cb 172 #[.string h.addr] W (iV (sumV h.addr))):=fun W=>(sumOfS_any h.addr W (by have:=he.1; omega)).mono fun e w' hh=>⟨hh.1,by rw [hh.2]; exact Below.refl _ _⟩
 obtain ⟨ix,hix⟩ : ∃ i,i=(sumV h.addr).toNat % p.addrs.length:=⟨_,rfl⟩;have hixl:ix < p.addrs.length:=by rw [hix]; exact Nat.mod_lt _ (by omega)
 have hrem:(sumV h.addr) % (p.addrs.length:Int)=(ix:Int):=by
  obtain ⟨n,hn⟩:=Int.eq_ofNat_of_zero_le hsr.1;rw [hix,hn,Int.toNat_natCast]; rfl
 obtain ⟨bp,op,rfl,hbp,hatp⟩:=hp.at hixl;have HPI:Hid (∀ W,Below w.heap.size w W→W.cell? ⟨bp,op+ix,none⟩=some (.string (outD p h.addr))):=fun W hW=>by
  have hh:=(hatp.below hbp hW) ix hixl 0 _ rfl;have e:outD p h.addr=p.addrs[ix]:=by unfold outD; rw [← hix,List.getElem?_eq_getElem hixl]; rfl
  rw [e]; simpa using hh
 have hixI:(ix:Int) < (p.addrs.length:Int):=by omega
 have hnil:¬ p.addrs=[]:=fun e=>by rw [e] at hp1; simp at hp1
 have hrem2:(sumV h.addr).tmod (p.addrs.length:Int)=(ix:Int):=by rw [Int.tmod_eq_emod_of_nonneg hsr.1]; exact hrem
 have HOS:Hid ((x.binds.find? (ofHost h.addr)).isSome=true→outIn x.binds (outD p h.addr) h.addr=outIn x.binds ⟨#[]⟩ h.addr):=outIn_some;have HON:Hid ((x.binds.find? (ofHost h.addr)).isSome=false→outIn x.binds (outD p h.addr) h.addr=outD p h.addr):=outIn_none;generalize bindForV p x.binds h=ans at *;generalize (x.binds.find? (ofIn h.proto h.addr h.port)).isSome=bd at *;generalize outIn x.binds (outD p h.addr) h.addr=ot at *;generalize outIn x.binds ⟨#[]⟩ h.addr=oe at *;generalize outD p h.addr=od at *;generalize (x.binds.find? (ofHost h.addr)).isSome=mt at *;generalize sumV h.addr=sv at *;clear hc hbk hp hx hgb hps he hpo hatp hbp hix;have hun:undef=Value.tuple #[]:=rfl;unfold bkC enC;go_enter Tryz.func146,Tryz.ntmps146
 go_upto_region 1 with fail
 generalize ((aW (aW w (KkV (some ⟨bp,op,none⟩) pc p ba ca bo cb x m1 m2) 150) (EnV h.proto h.addr h.port) 155).alloc (.cells (BdR 0 ⟨#[]⟩ 0 ⟨#[]⟩ 0).toArray 94))=W at *;obtain ⟨k0,k1,k2,k3,k4,k5,k6,k7,k8,k9,k10,k11,k12,k13⟩:=HK.out.c14;obtain ⟨c0,c1,c2⟩:=HH.out.c3;have LK:=HLK.out W HZ.out;go_upto_region 2 with (at_lookup; refine wpList_look_val rfl _ _ _ _ rfl rfl rfl LK ?_)
 have bn:Below W.heap.size W (W.alloc (.cells (BdV c).toArray 94)):=(Below.refl _ _).alloc (Nat.le_refl _) _;have H6:Hid (HoldsL (W.alloc (.cells (BdV c).toArray 94)) W.heap.size (BdV c)):=HoldsL.new W (BdV c) 94;have HZ1:Hid _:=HZ.out.trans (bn.mono HZ.out.size);have HK1:Hid _:=HK.out.kept (by simp) bn;have HH1:Hid _:=HH.out.kept (by simp) bn;have HR1:Hid _:=HR.out.kept (by simp) bn;clear HZ HK HH HR;generalize (W.alloc (.cells (BdV c).toArray 94))=W1 at *;clear bn LK HLK k0 k1 k2 k3 k4 k5 k6 k7 k8 k9 k10 k11 k12 k13 c0 c1 c2
 cases bd with
 | true =>
  have HX:Hid (ans=(c,true)):=by unfold Hid; rw [HV.out,if_pos rfl]
  obtain ⟨y0,y1,y2,y3,y4⟩:=H6.out.c5;obtain ⟨z0,z1,z2,z3,z4⟩:=HR1.out.c5;obtain ⟨zf0,zf1,zf2,zf3,zf4⟩:=HR1.out.f5;go_wp2_with fail
  refine bodyPost_ret (v:=.tuple #[.agg (BdV c).toArray,.bool true]) (by simp [results,Tryz.results146,go_sem,z0,z1,z2,z3,z4]) rfl (And.intro (by rw [HX.out]; rfl) ?_);exact (((((HZ1.out.setCell (p:=⟨w.heap.size+1+1,0,none⟩) hRw _).setCell (p:=⟨w.heap.size+1+1,1,none⟩) hRw _).setCell (p:=⟨w.heap.size+1+1,2,none⟩) hRw _).setCell (p:=⟨w.heap.size+1+1,3,none⟩) hRw _).setCell (p:=⟨w.heap.size+1+1,4,none⟩) hRw _)
 | false =>
  have HV2:Hid (ans=(⟨h.proto,h.addr,h.port,ot,(lendN p x.binds h.proto ot h.port).getD 0⟩,(lendN p x.binds h.proto ot h.port).isSome)):=by unfold Hid; rw [HV.out,if_neg (by simp)]
  clear HV H6;obtain ⟨k0,k1,k2,k3,k4,k5,k6,k7,k8,k9,k10,k11,k12,k13⟩:=HK1.out.c14;obtain ⟨c0,c1,c2⟩:=HH1.out.c3;go_wp2_with fail
  refine (HO.out _ HZ1.out).mono ?_;rintro e W2 ⟨rfl,q2⟩;have HZ2:Hid _:=HZ1.out.trans (q2.mono HZ1.out.size);have HK2:Hid _:=HK1.out.kept (by simp) q2;have HH2:Hid _:=HH1.out.kept (by simp) q2;have HR2:Hid _:=HR1.out.kept (by simp) q2;clear HZ1 HK1 HH1 HR1;clear q2 HO k0 k1 k2 k3 k4 k5 k6 k7 k8 k9 k10 k11 k12 k13 c0 c1 c2
  cases mt with
  | true =>
   obtain rfl:ot=oe:=HOS.out rfl;obtain ⟨k0,k1,k2,k3,k4,k5,k6,k7,k8,k9,k10,k11,k12,k13⟩:=HK2.out.c14;obtain ⟨c0,c1,c2⟩:=HH2.out.c3;go_wp2_with fail
   refine (HF.out _ ot HZ2.out HSZ.out).mono ?_;rintro e W9 ⟨rfl,q9⟩;have HZ9:Hid _:=HZ2.out.trans (q9.mono HZ2.out.size);have HK9:Hid _:=HK2.out.kept (by simp) q9;have HH9:Hid _:=HH2.out.kept (by simp) q9;have HR9:Hid _:=HR2.out.kept (by simp) q9;clear HZ2 HK2 HH2 HR2;clear q9 HF k0 k1 k2 k3 k4 k5 k6 k7 k8 k9 k10 k11 k12 k13 c0 c1 c2;generalize lendN p x.binds h.proto ot h.port=ln at *;obtain ⟨c0,c1,c2⟩:=HH9.out.c3;obtain ⟨z0,z1,z2,z3,z4⟩:=HR9.out.c5;obtain ⟨zf0,zf1,zf2,zf3,zf4⟩:=HR9.out.f5;go_wp2_with fail
   refine bodyPost_ret (v:=.tuple #[.agg (BdR h.proto h.addr h.port ot (ln.getD 0)).toArray,.bool ln.isSome]) (by simp [results,Tryz.results146,go_sem,z0,z1,z2,z3,z4]) rfl (And.intro (by rw [HV2.out]; rfl) ?_);exact (((((HZ9.out.setCell (p:=⟨w.heap.size+1+1,0,none⟩) hRw _).setCell (p:=⟨w.heap.size+1+1,1,none⟩) hRw _).setCell (p:=⟨w.heap.size+1+1,2,none⟩) hRw _).setCell (p:=⟨w.heap.size+1+1,3,none⟩) hRw _).setCell (p:=⟨w.heap.size+1+1,4,none⟩) hRw _)
  | false =>
   obtain rfl:ot=od:=HON.out rfl;go_upto_region 6 with fail
   go_cut [8] (fun v wx=>v=.string ot∧Below W2.heap.size W2 wx)
   case first =>
    rename_i J K2 hJ hK2;clear hun;have HCP:Hid (∀ wy,Below W2.drew.heap.size W2.drew wy→HoldsL wy w.heap.size (KkV (some ⟨bp,op,none⟩) pc p ba ca bo cb x m1 m2)∧HoldsL wy (w.heap.size+1) (EnV h.proto h.addr h.port)∧Below w.heap.size w wy):=fun wy hy=>⟨HK2.out.drew.kept (by simp) hy,HH2.out.drew.kept (by simp) hy,HZ2.out.drew.trans (hy.mono HZ2.out.size)⟩
    refine wp_region_growH [32,33,34,35,36,37,38,39,40,41,42,43,44,8] (by kernel_rfl) (by kernel_rfl) ?_;apply GCh.v0
    ·rfl
    ·intro K' a wy ho hd hb hK kz;have o2:=ho 2 (by decide);simp [slot] at o2;clear hd ho;go_simp;try go_bits
     exact kz _ rfl
    apply GCh.v1
    ·rfl
    ·intro K' a wy ho hd hb hK kz;have q0:=hd ⟨0,.data⟩ (by simp) rfl;simp [rAt,IsV,slot] at q0;clear hd ho;go_simp;try go_bits
     exact kz _ rfl
    apply GCh.v2
    ·rfl
    ·intro K' a wy ho hd hb hK kz;have q1:=hd ⟨1,.data⟩ (by simp) rfl;simp [rAt,IsV,slot] at q1;clear hd ho;obtain ⟨hk,hh,hbw⟩:=HCP.out wy hb;obtain ⟨k0,k1,k2,k3,k4,k5,k6,k7,k8,k9,k10,k11,k12,k13⟩:=hk.c14;obtain ⟨c0,c1,c2⟩:=hh.c3;have hpi:=HPI.out wy hbw;have hpi1:wy.cell? ⟨bp,op+ix*1,none⟩=some (.string ot):=by simpa using hpi
     go_simp;try go_bits
     exact kz _ rfl
    apply GCh.v3
    ·rfl
    ·intro K' a wy ho hd hb hK kz;have o3:=ho 3 (by decide);simp [slot] at o3;clear hd ho;go_simp;try go_bits
     exact kz _ rfl
    apply GCh.v4
    ·rfl
    ·intro K' a wy ho hd hb hK kz;have q3:=hd ⟨3,.data⟩ (by simp) rfl;simp [rAt,IsV,slot] at q3;clear hd ho;obtain ⟨hk,hh,hbw⟩:=HCP.out wy hb;obtain ⟨k0,k1,k2,k3,k4,k5,k6,k7,k8,k9,k10,k11,k12,k13⟩:=hk.c14;obtain ⟨c0,c1,c2⟩:=hh.c3;have hpi:=HPI.out wy hbw;have hpi1:wy.cell? ⟨bp,op+ix*1,none⟩=some (.string ot):=by simpa using hpi
     go_simp;try go_bits
     exact kz _ rfl
    apply GCh.v5
    ·rfl
    ·intro K' a wy ho hd hb hK kz;have q4:=hd ⟨4,.data⟩ (by simp) rfl;simp [rAt,IsV,slot] at q4;clear hd ho;go_simp;refine (HSU.out wy).mono ?_;rintro e wz ⟨rfl,hz⟩;exact hK _ _ rfl hz
    apply GCh.v6
    ·rfl
    ·intro K' a wy ho hd hb hK kz;have o2:=ho 2 (by decide);simp [slot] at o2;clear hd ho;go_simp;try go_bits
     exact kz _ rfl
    apply GCh.v7
    ·rfl
    ·intro K' a wy ho hd hb hK kz;have q6:=hd ⟨6,.data⟩ (by simp) rfl;simp [rAt,IsV,slot] at q6;clear hd ho;go_simp;try go_bits
     exact kz _ rfl
    apply GCh.v8
    ·rfl
    ·intro K' a wy ho hd hb hK kz;have q7:=hd ⟨7,.data⟩ (by simp) rfl;simp [rAt,IsV,slot] at q7;clear hd ho;obtain ⟨hk,hh,hbw⟩:=HCP.out wy hb;obtain ⟨k0,k1,k2,k3,k4,k5,k6,k7,k8,k9,k10,k11,k12,k13⟩:=hk.c14;obtain ⟨c0,c1,c2⟩:=hh.c3;have hpi:=HPI.out wy hbw;have hpi1:wy.cell? ⟨bp,op+ix*1,none⟩=some (.string ot):=by simpa using hpi
     go_simp;try go_bits
     exact kz _ rfl
    apply GCh.v9
    ·rfl
    ·intro K' a wy ho hd hb hK kz;have q8:=hd ⟨8,.data⟩ (by simp) rfl;simp [rAt,IsV,slot] at q8;clear hd ho;go_simp;try go_bits
     exact kz _ rfl
    apply GCh.v10
    ·rfl
    ·intro K' a wy ho hd hb hK kz;have q5:=hd ⟨5,.data⟩ (by simp) rfl;have q9:=hd ⟨9,.data⟩ (by simp) rfl;simp [rAt,IsV,slot] at q5 q9;clear hd ho;go_simp;try go_bits
     exact kz _ rfl
    apply GCh.v11
    ·rfl
    ·intro K' a wy ho hd hb hK kz;have q2:=hd ⟨2,.data⟩ (by simp) rfl;have q10:=hd ⟨10,.data⟩ (by simp) rfl;simp [rAt,IsV,slot] at q2 q10;clear hd ho;go_simp;try go_bits
     exact kz _ rfl
    apply GCh.v12
    ·rfl
    ·intro K' a wy ho hd hb hK kz;have q11:=hd ⟨11,.data⟩ (by simp) rfl;simp [rAt,IsV,slot] at q11;clear hd ho;obtain ⟨hk,hh,hbw⟩:=HCP.out wy hb;obtain ⟨k0,k1,k2,k3,k4,k5,k6,k7,k8,k9,k10,k11,k12,k13⟩:=hk.c14;obtain ⟨c0,c1,c2⟩:=hh.c3;have hpi:=HPI.out wy hbw;have hpi1:wy.cell? ⟨bp,op+ix*1,none⟩=some (.string ot):=by simpa using hpi
     go_simp;try go_bits
     exact kz _ rfl
    apply GCh.v13
    ·rfl
    ·intro K' a wy ho hd hb hK kz;have q12:=hd ⟨12,.data⟩ (by simp) rfl;simp [rAt,IsV,slot] at q12;clear hd ho;go_simp;try go_bits
     exact kz _ rfl
    intro X wz hR hz;obtain ⟨x0,x1,x2,x3,x4,x5,x6,x7,x8,x9,x10,x11,x12,x13,-⟩:=hR;simp only [IsV] at x0 x1 x2 x3 x4 x5 x6 x7 x8 x9 x10 x11 x12 x13;simp only [putsFrom,x0,x1,x2,x3,x4,x5,x6,x7,x8,x9,x10,x11,x12,x13];clear x0 x1 x2 x3 x4 x5 x6 x7 x8 x9 x10 x11 x12 x13;go_simp;refine hK2 _ _ (hJ _ _ ?_);(repeat apply Exists.intro)
    refine ⟨⟨rfl,(Below.refl _ _).drew.trans hz⟩,rfl⟩
   case rest =>
   obtain ⟨rfl,qc⟩:=hcut;generalize wc=W3 at *;have HZ3:Hid _:=HZ2.out.trans (qc.mono HZ2.out.size);have HK3:Hid _:=HK2.out.kept (by simp) qc;have HH3:Hid _:=HH2.out.kept (by simp) qc;have HR3:Hid _:=HR2.out.kept (by simp) qc;clear HZ2 HK2 HH2 HR2;clear qc;obtain ⟨k0,k1,k2,k3,k4,k5,k6,k7,k8,k9,k10,k11,k12,k13⟩:=HK3.out.c14;obtain ⟨c0,c1,c2⟩:=HH3.out.c3;go_wp2_with fail
   refine (HF.out _ ot HZ3.out HSZ.out).mono ?_;rintro e W9 ⟨rfl,q9⟩;have HZ9:Hid _:=HZ3.out.trans (q9.mono HZ3.out.size);have HK9:Hid _:=HK3.out.kept (by simp) q9;have HH9:Hid _:=HH3.out.kept (by simp) q9;have HR9:Hid _:=HR3.out.kept (by simp) q9;clear HZ3 HK3 HH3 HR3;clear q9 HF k0 k1 k2 k3 k4 k5 k6 k7 k8 k9 k10 k11 k12 k13 c0 c1 c2;generalize lendN p x.binds h.proto ot h.port=ln at *;obtain ⟨c0,c1,c2⟩:=HH9.out.c3;obtain ⟨z0,z1,z2,z3,z4⟩:=HR9.out.c5;obtain ⟨zf0,zf1,zf2,zf3,zf4⟩:=HR9.out.f5;go_wp2_with fail
   refine bodyPost_ret (v:=.tuple #[.agg (BdR h.proto h.addr h.port ot (ln.getD 0)).toArray,.bool ln.isSome]) (by simp [results,Tryz.results146,go_sem,z0,z1,z2,z3,z4]) rfl (And.intro (by rw [HV2.out]; rfl) ?_);exact (((((HZ9.out.setCell (p:=⟨w.heap.size+1+1,0,none⟩) hRw _).setCell (p:=⟨w.heap.size+1+1,1,none⟩) hRw _).setCell (p:=⟨w.heap.size+1+1,2,none⟩) hRw _).setCell (p:=⟨w.heap.size+1+1,3,none⟩) hRw _).setCell (p:=⟨w.heap.size+1+1,4,none⟩) hRw _)
end Go.Proofs.YtcckaeppiamebaaGreatDoor
namespace Go.Proofs.YtcckaeppiamebaaGreatDoor
open Go.RowKit
def metB (h:En) (peer:ByteArray) (s:Ss):Bool:=sameEn (sessE s) h&&decide (s.peer.toList=peer.toList)
def admitV (p:Pl) (x:Bb) (h:En) (peer:ByteArray):Bool:=if p.filter=0 then true else if p.filter=1 then x.sess.any (metB h peer) else false
def sessH (p:Pl) (t:Tc) (h:En) (st now:Int):Ss:=⟨h.proto,h.addr,h.port,t.peer,t.peerPort,st,now+trackLifeV p.lv t.proto st⟩
def growB (p:Pl) (xs:List Bd) (h:En):List Bd:=if (xs.find? (ofIn h.proto h.addr h.port)).isSome=true then xs else xs++[(bindForV p xs h).1]
def beginV (p:Pl) (x:Bb) (h:En) (t:Tc) (now:Int):Bo :=
 if trackNewV t.proto t.inside t.flags=0 then boE 6
 else if (!t.inside&&!admitV p x h t.peer)=true then boE 6
 else if (x.sess.length:Int)=p.most then boE 9
 else if (bindForV p x.binds h).2=false then boE 9
 else ⟨⟨growB p x.binds h,x.sess++[sessH p t h (trackNewV t.proto t.inside t.flags) now]⟩,(bindForV p x.binds h).1,0⟩
def hostV (x:Bb) (t:Tc):En × Bool:=if t.inside=true then (⟨t.proto,t.addr,t.port⟩,true) else (hostE ((x.binds.find? (ofOut t.proto t.addr t.port)).getD bdZ),(x.binds.find? (ofOut t.proto t.addr t.port)).isSome)
def keyT (h:En) (t:Tc):Sk:=⟨h,t.peer,t.peerPort⟩
def goI (p:Pl) (x:Bb) (t:Tc) (now:Int):Bo :=
 if (hostV x t).2=false then boE 6
 else match x.sess.findIdx? (fun s=>sameSk (sessK s) (keyT (hostV x t).1 t)) with
  | none=>beginV p x (hostV x t).1 t now
  | some i=>⟨⟨x.binds,setN x.sess i (nextS p t now)⟩,(x.binds.find? (ofIn (hostV x t).1.proto (hostV x t).1.addr (hostV x t).1.port)).getD bdZ,0⟩
theorem baT_ext {a b:ByteArray} (h:a.toList=b.toList):a=b:=by
 rw [ByteArray.toList_eq,ByteArray.toList_eq] at h;apply ByteArray.ext;exact Array.toList_inj.1 h
theorem sameEn_same (q p:En):sameEn q p=true↔q=p:=by
 rw [sameEn_eq];simp only [Bool.and_eq_true,decide_eq_true_iff];constructor
 ·rintro ⟨⟨h1,h2⟩,h3⟩;have h4:=baT_ext h2
  cases q; cases p; simp_all
 ·rintro rfl; simp
theorem ofIn_host {h:En} {c:Bd}:ofIn h.proto h.addr h.port c=true↔hostE c=h:=by
 rw [← host_in]; exact sameEn_same _ _
theorem withP_key {c:Bd} {h:En} (hc:hostE c=h) (t:Tc) (s:Ss):withP c t.peer t.peerPort s=sameSk (sessK s) (keyT h t):=by
 unfold withP sameSk keyT;rw [← sess_has,hc];show _=(sameEn (sessE s) h&&((s.peer.toList==t.peer.toList)&&(s.peerPort==t.peerPort)));rw [Bool.eq_iff_iff]; simp [and_assoc]
theorem withA_met {c:Bd} {h:En} (hc:hostE c=h) (peer:ByteArray) (s:Ss):withA c peer s=metB h peer s:=by
 unfold withA metB; rw [← sess_has,hc]
theorem book_sess {p:Pl} {x:Bb} (hok:bookOk p x=true) {s:Ss} (hs:s∈x.sess):x.binds.any (ofIn s.proto s.inn s.inPort)=true:=by
 unfold bookOk at hok;simp only [Bool.and_eq_true] at hok;obtain ⟨i,hi,rfl⟩:=List.getElem_of_mem hs;have:=upN_iff.1 hok.2 i hi;unfold sessB at this;simp only [Bool.and_eq_true] at this;exact this.1.1
theorem book_one {p:Pl} {x:Bb} (hok:bookOk p x=true) {c d:Bd} (hc:c∈x.binds) (hd:d∈x.binds) (he:hostE c=hostE d):c=d:=by
 unfold bookOk at hok;simp only [Bool.and_eq_true] at hok;have hF:=upN_iff.1 hok.1.2;obtain ⟨i,hi,rfl⟩:=List.getElem_of_mem hc;obtain ⟨j,hj,rfl⟩:=List.getElem_of_mem hd;have key:∀ i j (hi:i < x.binds.length) (hj:j < x.binds.length),i < j→hostE x.binds[i]=hostE x.binds[j]→False:=by
  intro i j hi hj hij he;have h1:=hF j hj;unfold fitB at h1;simp only [Bool.and_eq_true,Bool.not_eq_true'] at h1;have h6:=h1.1.1.1.2;refine List.any_eq_false.1 h6 x.binds[i] (take_mem hi hij) ?_;exact (ofIn_host (h:=hostE x.binds[j])).2 he
 rcases Nat.lt_trichotomy i j with h | h | h
 ·exact (key i j hi hj h he).elim
 ·subst h; rfl
 ·exact (key j i hj hi h he.symm).elim
theorem book_find {p:Pl} {x:Bb} (hok:bookOk p x=true) {c:Bd} (hc:c∈x.binds) {h:En} (he:hostE c=h):x.binds.find? (ofIn h.proto h.addr h.port)=some c:=by
 cases hf:x.binds.find? (ofIn h.proto h.addr h.port) with
 | none =>
  have:=List.find?_eq_none.1 hf c hc;exact absurd (ofIn_host.2 he) this
 | some d =>
  have h1:=List.mem_of_find?_eq_some hf;have h2:=ofIn_host.1 (List.find?_some hf);rw [book_one hok h1 hc (h2.trans he.symm)]
theorem bindFor_host (p:Pl) (xs:List Bd) (h:En):hostE (bindForV p xs h).1=h:=by
 unfold bindForV;split
 ·rename_i hs
  cases hf:xs.find? (ofIn h.proto h.addr h.port) with
  | none=>rw [hf] at hs; simp at hs
  | some c=>exact ofIn_host.1 (List.find?_some hf)
 ·rfl
theorem findI_neg {α:Type} {f:α→Bool} {xs:List α}:findI f xs < 0↔(xs.find? f).isSome=false:=by
 rw [find_some_any,← findI_any]; simp
theorem grow_new (p:Pl) (xs:List Bd) (h:En):newB xs (bindForV p xs h).1=growB p xs h:=by
 have e:=bindFor_host p xs h;generalize hc:(bindForV p xs h).1=c at *;have e2:ofIn c.proto c.inn c.inPort=ofIn h.proto h.addr h.port:=by rw [← e]; rfl
 unfold newB growB;rw [e2,hc]
 cases hs:(xs.find? (ofIn h.proto h.addr h.port)).isSome with
 | true=>rw [if_neg (fun hh=>by rw [findI_neg,hs] at hh; exact absurd hh (by decide)),if_pos rfl]
 | false=>rw [if_pos (findI_neg.2 hs),if_neg (by decide)]
theorem sess_h (p:Pl) (t:Tc) (h:En) (c:Bd) (st now:Int) (he:hostE c=h) (hp:h.proto=t.proto):sessN p t c st now=sessH p t h st now:=by
 subst he;unfold sessN sessH;rw [hp]; rfl
theorem begin_in {p:Pl} {x:Bb} {t:Tc} (c:Bd) (now:Int) (hm:(x.sess.length:Int)≤p.most) (hin:t.inside=true):newV p x t c now=beginV p x ⟨t.proto,t.addr,t.port⟩ t now:=by
 unfold newV beginV;by_cases h0:trackNewV t.proto t.inside t.flags=0
 ·rw [if_pos h0,if_pos h0]
 have ha:¬ (!t.inside&&!admitV p x ⟨t.proto,t.addr,t.port⟩ t.peer)=true:=by rw [hin]; simp
 rw [if_neg h0,if_neg h0,if_neg ha];by_cases h1:(x.sess.length:Int)=p.most
 ·have h2:p.most≤(x.sess.length:Int):=by omega
  rw [if_pos h1,if_pos h2]
 have h2:¬ p.most≤(x.sess.length:Int):=by omega
 rw [if_neg h1,if_neg h2];clear h2;have hl:=bindFor_lend p x.binds ⟨t.proto,t.addr,t.port⟩;dsimp only at hl;rw [hin,if_pos rfl,hl]
 cases h2:(bindForV p x.binds ⟨t.proto,t.addr,t.port⟩).2 with
 | false=>simp [boE]
 | true =>
  simp only [if_true,ne_eq,not_true_eq_false,if_false,Bool.true_eq_false];rw [grow_new,sess_h p t ⟨t.proto,t.addr,t.port⟩ _ _ now (bindFor_host _ _ _) rfl]
theorem begin_out {p:Pl} {x:Bb} {t:Tc} {c:Bd} {now:Int} (hok:bookOk p x=true) (hfl:p.filter=0∨p.filter=1∨p.filter=2) (hm:(x.sess.length:Int)≤p.most) (hin:t.inside=false) (hc:c∈x.binds) (hp:c.proto=t.proto):(if goneB p x t c=true then boE 6 else newV p x t c now)=beginV p x (hostE c) t now:=by
 have hf:=book_find hok hc (h:=hostE c) rfl;have hb:bindForV p x.binds (hostE c)=(c,true):=by unfold bindForV; rw [hf]; rfl
 have hg:goneB p x t c=(!t.inside&&!admitV p x (hostE c) t.peer):=by
  unfold goneB admitV;rw [show withA c t.peer=metB (hostE c) t.peer from funext fun s=>withA_met rfl _ s];rcases hfl with h | h | h<;>rw [h]<;>simp
 rw [hg];unfold newV beginV
 cases hd:(!t.inside&&!admitV p x (hostE c) t.peer) with
 | true=>simp
 | false =>
  simp only [Bool.false_eq_true,if_false];by_cases h0:trackNewV t.proto t.inside t.flags=0
  ·rw [if_pos h0,if_pos h0]
  rw [if_neg h0,if_neg h0];by_cases h1:(x.sess.length:Int)=p.most
  ·have h2:p.most≤(x.sess.length:Int):=by omega
   rw [if_pos h1,if_pos h2]
  have h2:¬ p.most≤(x.sess.length:Int):=by omega
  rw [if_neg h1,if_neg h2,hb,hin];simp only [Bool.false_eq_true,if_false,ne_eq,not_true_eq_false,Bool.true_eq_false];rw [show newB x.binds c=growB p x.binds (hostE c) from by rw [← grow_new,hb],sess_h p t (hostE c) c _ now rfl hp]
theorem pool_filter {p:Pl} (h:poolOk p=true):p.filter=0∨p.filter=1∨p.filter=2:=by
 unfold poolOk at h; simp only [Bool.and_eq_true] at h;have:=isIn_parts h.1.1.2;omega
theorem go_same {p:Pl} {x:Bb} {t:Tc} {now:Int} (hok:bookOk p x=true):goI p x t now=goV p x t now:=by
 have hk:=hok;unfold bookOk at hk;simp only [Bool.and_eq_true,decide_eq_true_iff] at hk;have hpo:=hk.1.1.1.1;have hm:=hk.1.1.1.2;clear hk;unfold goI goV hostV
 cases hin:t.inside with
 | true =>
  simp only [if_true,Bool.true_eq_false,if_false]
  cases hf:x.binds.find? (ofIn t.proto t.addr t.port) with
  | none =>
   have hn:x.sess.findIdx? (fun s=>sameSk (sessK s) (keyT ⟨t.proto,t.addr,t.port⟩ t))=none:=by
    rw [List.findIdx?_eq_none_iff];intro s hs
    cases hh:sameSk (sessK s) (keyT ⟨t.proto,t.addr,t.port⟩ t) with
    | false=>rfl
    | true =>
     unfold sameSk at hh;simp only [Bool.and_eq_true] at hh;have h1:sessE s=⟨t.proto,t.addr,t.port⟩:=(sameEn_same _ _).1 hh.1;obtain ⟨d,hd,hq⟩:=List.any_eq_true.1 (book_sess hok hs);have h2:hostE d=sessE s:=(ofIn_host (h:=sessE s)).1 hq;exact absurd ((ofIn_host (h:=⟨t.proto,t.addr,t.port⟩)).2 (h2.trans h1)) (List.find?_eq_none.1 hf d hd)
   rw [hn];exact (begin_in bdZ now hm hin).symm
  | some c =>
   have hc:=List.mem_of_find?_eq_some hf;have he:hostE c=⟨t.proto,t.addr,t.port⟩:=(ofIn_host (h:=⟨t.proto,t.addr,t.port⟩)).1 (List.find?_some hf);dsimp only;rw [show withP c t.peer t.peerPort=fun s=>sameSk (sessK s) (keyT ⟨t.proto,t.addr,t.port⟩ t) from funext fun s=>withP_key he t s]
   cases x.sess.findIdx? (fun s=>sameSk (sessK s) (keyT ⟨t.proto,t.addr,t.port⟩ t)) with
   | none =>
    dsimp only;rw [if_neg (by unfold goneB; rw [hin]; simp)];exact (begin_in c now hm hin).symm
   | some i=>rfl
 | false =>
  simp only [Bool.false_eq_true,if_false]
  cases hf:x.binds.find? (ofOut t.proto t.addr t.port) with
  | none=>rfl
  | some c =>
   have hc:=List.mem_of_find?_eq_some hf;have hp:c.proto=t.proto:=by
    have:=List.find?_some hf;unfold ofOut at this;simp only [Bool.and_eq_true,decide_eq_true_iff] at this;exact this.1.1
   simp only [Option.isSome_some,Bool.true_eq_false,if_false,Option.getD_some];rw [show withP c t.peer t.peerPort=fun s=>sameSk (sessK s) (keyT (hostE c) t) from funext fun s=>withP_key rfl t s]
   cases x.sess.findIdx? (fun s=>sameSk (sessK s) (keyT (hostE c) t)) with
   | none=>exact (begin_out hok (pool_filter hpo) hm hin hc hp).symm
   | some i =>
    dsimp only;rw [book_find hok hc rfl]; rfl
theorem touch_same (p:Pl) (x:Bb) (t:Tc) (now:Int):(if (bookOk p x&&isTime now&&touchOk t)=true then goI p x t now else boE 1)=bibTouchV p x t now:=by
 unfold bibTouchV;rw [book_bib];by_cases h:(bibOk p x&&isTime now&&touchOk t)=true
 ·rw [if_pos h,if_pos h];refine go_same ?_;rw [book_bib];simp only [Bool.and_eq_true] at h;exact h.1.1
 ·rw [if_neg h,if_neg h]
theorem wp_append_run {P:Program} {o:Oper} {a:Act} {w w':World} {v1 v2 v':Value} {K:Act→World→Prop} {Q:Exit→Act→World→Prop} (s x:Operand) (t:TypeId) (hop:o.op=Op.call { callee:=Callee.builtin Builtin.append,args:=#[s,x],argTypes:=#[t,t] })
  (hs:a.eval s=v1) (hx:a.eval x=v2) (hrun:(Builtin.append_ #[t,t] o.type #[v1,v2]).run P w=.ok v' w') (hK:K (a.put o.dst v') w'):Oper.wp P o a w K Q:=by
 unfold Oper.wp;simp [execOp,hop,resolve,invoke,builtin,hs,hx,hrun,Result.andThen];exact hK
theorem wpList_append_run {P:Program} {ops:Array Oper} {rest:List Oper} {o:Oper} {a:Act} {w w':World} {v1 v2 v':Value} {Q:Exit→Act→World→Prop} (hg:o.guard=none) (s x:Operand) (t:TypeId) (hop:o.op=Op.call { callee:=Callee.builtin Builtin.append,args:=#[s,x],argTypes:=#[t,t] })
  (hs:a.eval s=v1) (hx:a.eval x=v2) (hrun:(Builtin.append_ #[t,t] o.type #[v1,v2]).run P w=.ok v' w') (hK:wpList P ops Q rest (a.put o.dst v') w'):wpList P ops Q (o::rest) a w :=
 wpList_plain hg fun K hK'=>wp_append_run s x t hop hs hx hrun (hK' _ _ hK)
theorem own_stable {base n z:Nat} {e:TypeId} {v:Value} {xs:List Value} {w w':World} (h:w.ownsRow base e z v n xs) (hb:Below w.heap.size w w'):w'.ownsRow base e z v n xs:=h.kept (grown_of_below (r:=none) hb) (by cases v.ownBlock<;>simp)
open Go.PlainAid
theorem ownC_cell {w:World} {base n s X j:Nat} {e:TypeId} {v u:Value} {xs:List Value} (h:w.ownsRow base e s v n xs) (hne:v.ownBlock≠some X):(w.setCell ⟨X,j,none⟩ u).ownsRow base e s v n xs:=by
 obtain ⟨h1,h2⟩:=h;refine ⟨h1,?_⟩;rcases h2 with h2 | ⟨g,cap,cur,rfl,hg,hh,h3⟩
 ·exact .inl h2
 ·exact .inr ⟨g,cap,cur,rfl,hg,(Below.heap_setCell w _ u g (fun e=>hne (by simpa [Value.ownBlock] using e))).trans hh,h3⟩
theorem ownC_in {w:World} {base n s g:Nat} {e:TypeId} {v:Value} {xs:List Value} (h:w.ownsRow base e s v n xs) (hg:v.ownBlock=some g):base≤g∧g < w.heap.size:=by
 rcases h.2 with ⟨rfl,_⟩ | ⟨g',cap,cur,rfl,hb,hh,_⟩
 ·simp [Value.ownBlock] at hg
 ·simp [Value.ownBlock] at hg; subst hg; exact ⟨hb,(Array.getElem?_eq_some_iff.1 hh).1⟩
theorem ownC_ne {w:World} {base n s:Nat} {e:TypeId} {v:Value} {xs:List Value} (h:w.ownsRow base e s v n xs) {X:Nat} (hX:X < base):v.ownBlock≠some X:=fun e=>by have:=(ownC_in h e).1; omega
theorem bdL_one (q:Bd):∀ u∈bdL q,u.oneCell'=true:=fun u hu=>by simp [bdL] at hu; rcases hu with rfl | rfl | rfl | rfl | rfl<;>rfl
theorem ssL_one (q:Ss):∀ u∈ssL q,u.oneCell'=true:=fun u hu=>by simp [ssL] at hu; rcases hu with rfl | rfl | rfl | rfl | rfl | rfl | rfl<;>rfl
theorem add_at (g i:Nat):(⟨g,0,none⟩ : Addr).add i=⟨g,i,none⟩:=by cases i<;>simp [Addr.add]
structure TickSt (w:World) (cs:List Value) (bv sv:Value) (ys:List Bd) (zs:List Ss) (wx:World):Prop where
 x:HoldsL wx w.heap.size cs
 r:HoldsL wx (w.heap.size+1) [.slice none 0 0,.slice none 0 0]
 o:HoldsL wx (w.heap.size+1+1) [bv,sv]
 bo:wx.ownsRow (w.heap.size+1+1+1) 94 5 bv ys.length (flatS bdL ys)
 so:wx.ownsRow (w.heap.size+1+1+1) 103 7 sv zs.length (flatS ssL zs)
 b:Below w.heap.size w wx
 ne:∀ g,bv.ownBlock=some g→sv.ownBlock=some g→False
section
variable {w:World} {cs:List Value} {bv sv:Value} {ys:List Bd} {zs:List Ss} {wx wy:World}
theorem TickSt.kept (h:TickSt w cs bv sv ys zs wx) (hc:0 < cs.length) (hB:Below wx.heap.size wx wy):TickSt w cs bv sv ys zs wy :=
 ⟨h.x.kept hc hB,h.r.kept (by simp) hB,h.o.kept (by simp) hB,own_stable h.bo hB,own_stable h.so hB,h.b.trans (hB.mono h.b.size),h.ne⟩
theorem TickSt.drew (h:TickSt w cs bv sv ys zs wx):TickSt w cs bv sv ys zs wx.drew:=⟨h.x.drew,h.r.drew,h.o.drew,h.bo,h.so,h.b.drew,h.ne⟩
theorem below_grow {row:Option Nat} (hb:Below w.heap.size w wx) (hg:wx.grownBy wy row) (hr:∀ g,row=some g→w.heap.size≤g):Below w.heap.size w wy :=
 ⟨hg.os.trans hb.os,hg.tape.trans hb.tape,hg.output.trans hb.output,Nat.le_trans hb.size hg.size,fun k hk=>by
  rw [hg.block k (Nat.lt_of_lt_of_le hk hb.size) (fun e=>by have:=hr k e.symm; omega)]; exact hb.block k hk⟩
theorem TickSt.appS (h:TickSt w cs bv sv ys zs wx) (hc:0 < cs.length) (q:Ss) (g:Nat) (hg:HoldsL wx g (ssL q)) (hlen:zs.length≤1048576) :
  ∃ v6 w6,(Builtin.append_ #[37,37] 37 #[sv,.slice (some ⟨g,0,none⟩) 1 1]).run Tryz.prog wx=.ok v6 w6∧(∃ gg l c,v6=.slice (some ⟨gg,0,none⟩) l c)∧HoldsL w6 (w.heap.size+1+1) [bv,sv]∧TickSt w cs bv v6 ys (zs++[q]) (w6.setCell ⟨w.heap.size+1+1,1,none⟩ v6):=by
 obtain ⟨i0,hi,hz0,hz1,hz2⟩:=info_parts Tryz.infoSs;have hos:=h.o.lt (by simp);obtain ⟨v6,w6,hrun,h62,h63,h64,h65⟩:=run_append_own_at (P:=Tryz.prog) wx (w.heap.size+1+1+1) 37 37 103 i0 _ 7 _ Tryz.underlying37 hi hz0 hz1 hz2 rfl (by decide) sv _ _ h.so ⟨g,0,none⟩ 1 1 (ssL q) rfl (fun i u hu=>by rw [add_at]; exact hg.cell hu) (ssL_one q) (by unfold maxLen; omega) (by omega) (by omega);have hnr:∀ X,X < w.heap.size+1+1+1→some X≠sv.ownBlock:=fun X hX e=>ownC_ne h.so hX e.symm
 have n6:v6.ownBlock≠some (w.heap.size+1+1):=by
  rcases h65 with h7 | h7<;>rw [h7]
  ·exact ownC_ne h.so (by omega)
  ·intro e; injection e with e; omega
 have hO:=h.o.grown (by simp) h63 (hnr _ (by omega));have hne:∀ g,bv.ownBlock=some g→v6.ownBlock=some g→False:=by
  intro g e1 e2;rcases h65 with h7 | h7
  ·exact h.ne g e1 (h7 ▸ e2)
  ·rw [h7] at e2;injection e2 with e3
   have:=(ownC_in h.bo e1).2;omega
 have hold:=World.ownsRow.kept h.bo h63 (by
  by_cases e:bv.ownBlock=none
  ·exact .inl e
  ·refine .inr (fun e2=>?_);obtain ⟨k,hk⟩:=Option.ne_none_iff_exists'.1 e;exact h.ne k hk (e2 ▸ hk))
 refine ⟨v6,w6,hrun,?_,hO,(h.x.grown hc h63 (hnr _ (by omega))).setOther (by omega) v6,(h.r.grown (by simp) h63 (hnr _ (by omega))).setOther (by omega) v6,hO.set 1 v6,ownC_cell hold (ownC_ne h.bo (by omega)),ownC_cell (by rw [flatS_snoc,List.length_append]; exact h62) n6,(below_grow h.b h63 (fun k e=>by have:=(ownC_in h.so e).1; omega)).setCell (p:=⟨w.heap.size+1+1,1,none⟩) (by show w.heap.size≤w.heap.size+1+1; omega) v6,hne⟩;rcases h62.2 with ⟨_,h0⟩ | ⟨gg,c6,_,h6,_⟩
 ·simp at h0
 ·exact ⟨gg,_,c6,h6⟩
theorem TickSt.appB (h:TickSt w cs bv sv ys zs wx) (hc:0 < cs.length) (q:Bd) (g:Nat) (hg:HoldsL wx g (bdL q)) (hlen:ys.length≤1048576) :
  ∃ v6 w6,(Builtin.append_ #[36,36] 36 #[bv,.slice (some ⟨g,0,none⟩) 1 1]).run Tryz.prog wx=.ok v6 w6∧(∃ gg l c,v6=.slice (some ⟨gg,0,none⟩) l c)∧HoldsL w6 (w.heap.size+1+1) [bv,sv]∧TickSt w cs v6 sv (ys++[q]) zs (w6.setCell ⟨w.heap.size+1+1,0,none⟩ v6):=by
 obtain ⟨i0,hi,hz0,hz1,hz2⟩:=info_parts Tryz.infoBd;have hos:=h.o.lt (by simp);obtain ⟨v6,w6,hrun,h62,h63,h64,h65⟩:=run_append_own_at (P:=Tryz.prog) wx (w.heap.size+1+1+1) 36 36 94 i0 _ 5 _ Tryz.underlying36 hi hz0 hz1 hz2 rfl (by decide) bv _ _ h.bo ⟨g,0,none⟩ 1 1 (bdL q) rfl (fun i u hu=>by rw [add_at]; exact hg.cell hu) (bdL_one q) (by unfold maxLen; omega) (by omega) (by omega);have hnr:∀ X,X < w.heap.size+1+1+1→some X≠bv.ownBlock:=fun X hX e=>ownC_ne h.bo hX e.symm
 have n6:v6.ownBlock≠some (w.heap.size+1+1):=by
  rcases h65 with h7 | h7<;>rw [h7]
  ·exact ownC_ne h.bo (by omega)
  ·intro e; injection e with e; omega
 have hO:=h.o.grown (by simp) h63 (hnr _ (by omega));have hne:∀ g,v6.ownBlock=some g→sv.ownBlock=some g→False:=by
  intro g e1 e2;rcases h65 with h7 | h7
  ·exact h.ne g (h7 ▸ e1) e2
  ·rw [h7] at e1;injection e1 with e3
   have:=(ownC_in h.so e2).2;omega
 have hold:=World.ownsRow.kept h.so h63 (by
  by_cases e:sv.ownBlock=none
  ·exact .inl e
  ·refine .inr (fun e2=>?_);obtain ⟨k,hk⟩:=Option.ne_none_iff_exists'.1 e;exact h.ne k (e2 ▸ hk) hk)
 refine ⟨v6,w6,hrun,?_,hO,(h.x.grown hc h63 (hnr _ (by omega))).setOther (by omega) v6,(h.r.grown (by simp) h63 (hnr _ (by omega))).setOther (by omega) v6,hO.set 0 v6,ownC_cell (by rw [flatS_snoc,List.length_append]; exact h62) n6,ownC_cell hold (ownC_ne h.so (by omega)),(below_grow h.b h63 (fun k e=>by have:=(ownC_in h.bo e).1; omega)).setCell (p:=⟨w.heap.size+1+1,0,none⟩) (by show w.heap.size≤w.heap.size+1+1; omega) v6,hne⟩;rcases h62.2 with ⟨_,h0⟩ | ⟨gg,c6,_,h6,_⟩
 ·simp at h0
 ·exact ⟨gg,_,c6,h6⟩
end
def IsOneC (cs:List Value):Value→World→Prop:=fun v w=>∃ g,v=.slice (some ⟨g,0,none⟩) 1 1∧HoldsL w g cs
theorem stable_isOneC (cs:List Value) (hl:0 < cs.length):Stable (IsOneC cs):=fun v w w' ⟨g,h1,h2⟩ hb=>⟨g,h1,h2.kept hl hb⟩
structure RowsSt (w:World) (base O:Nat) (ks:List (Nat × List Value)) (bv sv:Value) (ys:List Bd) (zs:List Ss) (wx:World):Prop where
 o:HoldsL wx O [bv,sv]
 bo:wx.ownsRow base 94 5 bv ys.length (flatS bdL ys)
 so:wx.ownsRow base 103 7 sv zs.length (flatS ssL zs)
 ne:∀ g,bv.ownBlock=some g→sv.ownBlock=some g→False
 b:Below w.heap.size w wx
 k:∀ e∈ks,HoldsL wx e.1 e.2
 lo:w.heap.size≤O
 hi:O < base
 hb:base≤wx.heap.size
 kb:∀ e∈ks,e.1 < base∧e.1≠O∧0 < e.2.length
section
variable {w:World} {base O:Nat} {ks:List (Nat × List Value)} {bv sv:Value} {ys:List Bd} {zs:List Ss} {wx wy:World}
theorem RowsSt.at {a:Nat} {l:List Value} (h:RowsSt w base O ks bv sv ys zs wx) (hm:(a,l)∈ks):HoldsL wx a l:=h.k _ hm
theorem RowsSt.kept (h:RowsSt w base O ks bv sv ys zs wx) (hB:Below wx.heap.size wx wy):RowsSt w base O ks bv sv ys zs wy :=
 ⟨h.o.kept (by simp) hB,own_stable h.bo hB,own_stable h.so hB,h.ne,h.b.trans (hB.mono h.b.size),fun e he=>(h.k e he).kept (h.kb e he).2.2 hB,h.lo,h.hi,Nat.le_trans h.hb hB.size,h.kb⟩
theorem RowsSt.start {w:World} {O:Nat} {wx:World} (ks:List (Nat × List Value)) (ho:HoldsL wx O [.slice none 0 0,.slice none 0 0]) (hb:Below w.heap.size w wx) (hk:∀ e∈ks,HoldsL wx e.1 e.2) (hl:w.heap.size≤O) (hkb:∀ e∈ks,e.1 < wx.heap.size∧e.1≠O∧0 < e.2.length):RowsSt w wx.heap.size O ks (.slice none 0 0) (.slice none 0 0) [] [] wx :=
 ⟨ho,⟨by simp [flatS],.inl ⟨rfl,rfl⟩⟩,⟨by simp [flatS],.inl ⟨rfl,rfl⟩⟩,fun g e=>by simp [Value.ownBlock] at e,hb,hk,hl,ho.lt (by simp),Nat.le_refl _,hkb⟩
theorem RowsSt.appS (h:RowsSt w base O ks bv sv ys zs wx) (q:Ss) (g:Nat) (hg:HoldsL wx g (ssL q)) (hlen:zs.length≤1048576) :
  ∃ v6 w6,(Builtin.append_ #[37,37] 37 #[sv,.slice (some ⟨g,0,none⟩) 1 1]).run Tryz.prog wx=.ok v6 w6∧(∃ gg l c,v6=.slice (some ⟨gg,0,none⟩) l c)∧HoldsL w6 O [bv,sv]∧RowsSt w base O ks bv v6 ys (zs++[q]) (w6.setCell ⟨O,1,none⟩ v6):=by
 obtain ⟨i0,hi,hz0,hz1,hz2⟩:=info_parts Tryz.infoSs;have hOb:=h.hi;have hlo:=h.lo;have hbb:=h.hb;obtain ⟨v6,w6,hrun,h62,h63,h64,h65⟩:=run_append_own_at (P:=Tryz.prog) wx base 37 37 103 i0 _ 7 _ Tryz.underlying37 hi hz0 hz1 hz2 rfl (by decide) sv _ _ h.so ⟨g,0,none⟩ 1 1 (ssL q) rfl (fun i u hu=>by rw [add_at]; exact hg.cell hu) (ssL_one q) (by unfold maxLen; omega) (by omega) h.hb;have hnr:∀ X,X < base→some X≠sv.ownBlock:=fun X hX e=>ownC_ne h.so hX e.symm
 have n6:v6.ownBlock≠some O:=by
  rcases h65 with h7 | h7<;>rw [h7]
  ·exact ownC_ne h.so (by omega)
  ·intro e; injection e with e; omega
 have hO:=h.o.grown (by simp) h63 (hnr _ (by omega));have hne:∀ g,bv.ownBlock=some g→v6.ownBlock=some g→False:=by
  intro g e1 e2;rcases h65 with h7 | h7
  ·exact h.ne g e1 (h7 ▸ e2)
  ·rw [h7] at e2;injection e2 with e3
   have:=(ownC_in h.bo e1).2;omega
 have hold:=World.ownsRow.kept h.bo h63 (by
  by_cases e:bv.ownBlock=none
  ·exact .inl e
  ·refine .inr (fun e2=>?_);obtain ⟨k,hk⟩:=Option.ne_none_iff_exists'.1 e;exact h.ne k hk (e2 ▸ hk))
 have hsz:base≤(w6.setCell ⟨O,1,none⟩ v6).heap.size:=by simp; exact Nat.le_trans h.hb h63.size
 refine ⟨v6,w6,hrun,?_,hO,hO.set 1 v6,ownC_cell hold (ownC_ne h.bo (by omega)),ownC_cell (by rw [flatS_snoc,List.length_append]; exact h62) n6,hne,(below_grow h.b h63 (fun k e=>by have:=(ownC_in h.so e).1; omega)).setCell (p:=⟨O,1,none⟩) hlo v6,fun e he=>((h.k e he).grown (h.kb e he).2.2 h63 (hnr _ (h.kb e he).1)).setOther (h.kb e he).2.1 v6,h.lo,h.hi,hsz,h.kb⟩;rcases h62.2 with ⟨_,h0⟩ | ⟨gg,c6,_,h6,_⟩
 ·simp at h0
 ·exact ⟨gg,_,c6,h6⟩
theorem RowsSt.appB (h:RowsSt w base O ks bv sv ys zs wx) (q:Bd) (g:Nat) (hg:HoldsL wx g (bdL q)) (hlen:ys.length≤1048576) :
  ∃ v6 w6,(Builtin.append_ #[36,36] 36 #[bv,.slice (some ⟨g,0,none⟩) 1 1]).run Tryz.prog wx=.ok v6 w6∧(∃ gg l c,v6=.slice (some ⟨gg,0,none⟩) l c)∧HoldsL w6 O [bv,sv]∧RowsSt w base O ks v6 sv (ys++[q]) zs (w6.setCell ⟨O,0,none⟩ v6):=by
 obtain ⟨i0,hi,hz0,hz1,hz2⟩:=info_parts Tryz.infoBd;have hOb:=h.hi;have hlo:=h.lo;have hbb:=h.hb;obtain ⟨v6,w6,hrun,h62,h63,h64,h65⟩:=run_append_own_at (P:=Tryz.prog) wx base 36 36 94 i0 _ 5 _ Tryz.underlying36 hi hz0 hz1 hz2 rfl (by decide) bv _ _ h.bo ⟨g,0,none⟩ 1 1 (bdL q) rfl (fun i u hu=>by rw [add_at]; exact hg.cell hu) (bdL_one q) (by unfold maxLen; omega) (by omega) h.hb;have hnr:∀ X,X < base→some X≠bv.ownBlock:=fun X hX e=>ownC_ne h.bo hX e.symm
 have n6:v6.ownBlock≠some O:=by
  rcases h65 with h7 | h7<;>rw [h7]
  ·exact ownC_ne h.bo (by omega)
  ·intro e; injection e with e; omega
 have hO:=h.o.grown (by simp) h63 (hnr _ (by omega));have hne:∀ g,v6.ownBlock=some g→sv.ownBlock=some g→False:=by
  intro g e1 e2;rcases h65 with h7 | h7
  ·exact h.ne g (h7 ▸ e1) e2
  ·rw [h7] at e1;injection e1 with e3
   have:=(ownC_in h.so e2).2;omega
 have hold:=World.ownsRow.kept h.so h63 (by
  by_cases e:sv.ownBlock=none
  ·exact .inl e
  ·refine .inr (fun e2=>?_);obtain ⟨k,hk⟩:=Option.ne_none_iff_exists'.1 e;exact h.ne k (e2 ▸ hk) hk)
 have hsz:base≤(w6.setCell ⟨O,0,none⟩ v6).heap.size:=by simp; exact Nat.le_trans h.hb h63.size
 refine ⟨v6,w6,hrun,?_,hO,hO.set 0 v6,ownC_cell (by rw [flatS_snoc,List.length_append]; exact h62) n6,ownC_cell hold (ownC_ne h.so (by omega)),hne,(below_grow h.b h63 (fun k e=>by have:=(ownC_in h.bo e).1; omega)).setCell (p:=⟨O,0,none⟩) hlo v6,fun e he=>((h.k e he).grown (h.kb e he).2.2 h63 (hnr _ (h.kb e he).1)).setOther (h.kb e he).2.1 v6,h.lo,h.hi,hsz,h.kb⟩;rcases h62.2 with ⟨_,h0⟩ | ⟨gg,c6,_,h6,_⟩
 ·simp at h0
 ·exact ⟨gg,_,c6,h6⟩
theorem RowsSt.shapes (h:RowsSt w base O ks bv sv ys zs wx):(∃ a cap,bv=.slice a ys.length cap∧ys.length≤cap∧SlOwn bdL 5 base wx a ys)∧∃ a cap,sv=.slice a zs.length cap∧zs.length≤cap∧SlOwn ssL 7 base wx a zs :=
 ⟨Row.shape bdL_length (w0:=wx) ⟨h.bo,Below.refl _ _⟩,Row.shape ssL_length (w0:=wx) ⟨h.so,Below.refl _ _⟩⟩
end
end Go.Proofs.YtcckaeppiamebaaGreatDoor
