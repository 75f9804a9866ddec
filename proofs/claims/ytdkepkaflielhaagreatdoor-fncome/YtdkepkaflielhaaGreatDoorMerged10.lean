import Derived.Test.YtdkepkaflielhaaGreatDoorMerged9
import Derived.Maps.Keyed
import Derived.Maps.AppendAt
import Derived.Maps.OwnOps
import Derived.DeepKeys5
set_option linter.unusedVariables false
set_option linter.unusedSimpArgs false
set_option maxRecDepth 100000
set_option maxHeartbeats 8000000
namespace Go.Proofs.YtdkepkaflielhaaGreatDoor
open Go.RowKit Go.PlainAid Go.ChangeShapes Go.WideShapes
structure OutOf (lo hi:Nat) (w W:World):Prop where
 os:W.os=w.os
 tape:W.tape=w.tape
 output:W.output=w.output
 size:w.heap.size≤W.heap.size
 block:∀ k,k < w.heap.size→(k < lo∨hi≤k)→W.heap[k]?=w.heap[k]?
section
variable {lo hi lo2 hi2 B:Nat} {w w1 W:World}
end
section
variable {α:Type} {en:α→List Value} {n:Nat} {lo hi lo2 hi2:Nat} {w W:World} {a:Option Addr} {xs:List α}
def SlIn (en:α→List Value) (n lo hi:Nat) (w:World) (a:Option Addr) (xs:List α):Prop:=xs=[]∨∃ g,a=some ⟨g,0,none⟩∧lo≤g∧g < hi∧SlLaid en n w g xs xs.length xs.length
end
structure BbIn (lo hi:Nat) (w:World) (a b:Option Addr) (x:Bb):Prop where
 bd:SlIn bdL 5 lo hi w a x.binds
 ss:SlIn ssL 7 lo hi w b x.sess
 ne:∀ g h,a=some ⟨g,0,none⟩→b=some ⟨h,0,none⟩→x.binds≠[]→x.sess≠[]→g≠h
section
variable {lo hi lo2 hi2:Nat} {w W:World} {a b:Option Addr} {x:Bb}
end
theorem findI_in {α:Type} (f:α→Bool) (xs:List α) : -1≤findI f xs∧findI f xs < xs.length:=by
 unfold findI
 cases h:xs.findIdx? f with
 | none=>simp; omega
 | some i =>
  obtain ⟨hi,_,_⟩:=List.findIdx?_eq_some_iff_getElem.1 h;simp; omega
theorem sessAt_any (p:Sk) (xs:List Ss) (a:Option Addr) (cap:Nat) (w:World) (hl:xs.length≤1048576) (hr:SlIs ssL 7 w a xs) :
  Cb 107 #[.slice a xs.length cap,skC p] w (iV (findI (fun q=>sameSk (sessK q) p) xs)):=by
 have HZ:Hid (Below w.heap.size w (w.alloc (.cells (BdR p.host.proto p.host.addr p.host.port p.peer p.peerPort).toArray 147))):=bR.alloc lR _;have HK:Hid (HoldsL (w.alloc (.cells (BdR p.host.proto p.host.addr p.host.port p.peer p.peerPort).toArray 147)) w.heap.size (skL p)):=HoldsL.new w (skL p) 147;have HI:Hid (∀ W,Below w.heap.size w W→HoldsL W w.heap.size (skL p)→Cb 137 #[.slice a xs.length cap,.func (.func 138) #[] #[.pointer (some ⟨w.heap.size,0,none⟩)]] W (iV (findI (fun q=>sameSk (sessK q) p) xs))):=fun W hW h1=>idxSession_any (fun q=>sameSk (sessK q) p) 138 (fun args W=>by kernel_rfl) _ xs a cap W hl (hr.below hW) (fun W' hW' q hq=>sessAt1_any q p _ W' (h1.kept (by simp [skL]) hW'))
 obtain ⟨hf1,hf2⟩:=findI_in (fun q=>sameSk (sessK q) p) xs;generalize findI (fun q=>sameSk (sessK q) p) xs=fi at *;clear hr;unfold skC;go_enter Tryz.func107,Tryz.ntmps107
 go_upto_region 1 with fail
 generalize (w.alloc (.cells (BdR p.host.proto p.host.addr p.host.port p.peer p.peerPort).toArray 147))=W at *;go_wp2_with fail
 refine (HI.out _ HZ.out HK.out).mono ?_;rintro e w1 ⟨rfl,q1⟩;have B1:Hid _:=HZ.out.trans (q1.mono HZ.out.size);clear q1;go_wp2_with fail
 go_ret;exact ⟨rfl,B1.out⟩
theorem hasFunc_any (f:Ss→Bool) (F:Nat) (hG:Enters F) (caps:Array Value) (xs:List Ss) (a:Option Addr) (cap:Nat) (w:World) (hl:xs.length≤1048576) (hr:SlIs ssL 7 w a xs) (hC:∀ W,Below w.heap.size w W→∀ q,q∈xs→Calls Tryz.prog F (#[ssC q]++caps) W fun e w'=>e=.returned (.bool (f q))∧Below W.heap.size W w') :
  Cb 168 #[.slice a xs.length cap,.func (.func F) #[] caps] w (.bool (xs.any f)):=by
 have HI:Hid _:=idxSession_any f F hG caps xs a cap w hl hr hC;have HF:Hid (decide (0≤findI f xs)=xs.any f):=findI_any f xs;obtain ⟨hf1,hf2⟩:=findI_in f xs;generalize xs.any f=ans at *;generalize findI f xs=fi at *;clear hr hC hG;go_enter Tryz.func168,Tryz.ntmps168
 go_wp2_with fail
 refine Calls.mono HI.out ?_;rintro e w1 ⟨rfl,b1⟩;have B1:Hid _:=b1;clear b1;go_wp2_with fail
 go_ret;exact ⟨ret_bool HF.out,B1.out⟩
theorem hasSess_any (b:Bd) (xs:List Ss) (a:Option Addr) (cap:Nat) (w:World) (hl:xs.length≤1048576) (hr:SlIs ssL 7 w a xs) :
  Cb 166 #[.slice a xs.length cap,bdC b] w (.bool (xs.any (hasS b))):=by
 have HZ:Hid (Below w.heap.size w (w.alloc (.cells (BdV b).toArray 48))):=bR.alloc lR _;have HH:Hid (∀ W,Cb 53 #[.agg (BdV b).toArray] W (.agg (EnV b.proto b.inn b.inPort).toArray)):=fun W=>hostEnd_any b W
 have HC:Hid (∀ W B,Below w.heap.size w W→HoldsL W B (enL (hostE b))→Cb 168 #[.slice a xs.length cap,.func (.func 181) #[] #[.pointer (some ⟨B,0,none⟩)]] W (.bool (xs.any (hasS b)))):=fun W B hW hB=>by
  have h:=hasFunc_any (fun q=>sameEn (sessE q) (hostE b)) 181 (fun args W=>by kernel_rfl) #[.pointer (some ⟨B,0,none⟩)] xs a cap W hl (hr.below hW) (fun W' hW' q hq=>hasSess1_any q (hostE b) B W' (hB.kept (by simp [enL]) hW'));rw [show (fun q=>sameEn (sessE q) (hostE b))=hasS b from funext fun q=>sess_has b q] at h;exact h
 generalize xs.any (hasS b)=ans at *;clear hr;unfold bdC;go_enter Tryz.func166,Tryz.ntmps166
 go_wp2_with fail
 refine (HH.out _).mono ?_;rintro e w1 ⟨rfl,q1⟩;have B1:Below w.heap.size w w1:=HZ.out.trans (q1.mono HZ.out.size);go_upto_region 2 with fail
 have B2:Hid (Below w.heap.size w (w1.alloc (.cells (EnV b.proto b.inn b.inPort).toArray 86))):=B1.alloc B1.size _;have K2:Hid (HoldsL (w1.alloc (.cells (EnV b.proto b.inn b.inPort).toArray 86)) w1.heap.size (enL (hostE b))):=HoldsL.new w1 (enL (hostE b)) 86;generalize (w1.alloc (.cells (EnV b.proto b.inn b.inPort).toArray 86))=W2 at *;clear q1 B1 HZ HH;go_wp2_with fail
 refine (HC.out _ _ B2.out K2.out).mono ?_;rintro e w3 ⟨rfl,q3⟩;have B3:Hid _:=B2.out.trans (q3.mono B2.out.size);clear q3;go_wp2_with fail
 go_ret;exact ⟨rfl,B3.out⟩
theorem outOf1_any (q:Bd) (s:ByteArray) (B:Nat) (w:World) (hB:HoldsL w B [.string s]) :
  Cb 180 #[bdC q,.pointer (some ⟨B,0,none⟩)] w (.bool (ofHost s q)):=by
 have HZ:Hid (Below w.heap.size w (w.alloc (.cells (BdV q).toArray 48))):=bR.alloc lR _;have K1:=hB.alloc (.cells (BdV q).toArray 48);have K2:HoldsL (w.alloc (.cells (BdV q).toArray 48)) w.heap.size (bdL q):=HoldsL.new w (bdL q) 48;have HV:Hid (ofHost s q=decide (q.inn.toList=s.toList)):=rfl;generalize ofHost s q=ans at *;unfold bdC;go_enter Tryz.func180,Tryz.ntmps180
 go_upto_region 1 with fail
 generalize (w.alloc (.cells (BdV q).toArray 48))=W at *;have c1:=K2.cell (j:=1) rfl;have k0:=K1.cell (j:=0) rfl;clear K1 K2 hB;go_wp2_with fail
 go_ret;exact ⟨ret_bool (by rw [HV.out]; first | rfl | (rw [Bool.eq_iff_iff]; simp)),HZ.out⟩
theorem outOf_any (s:ByteArray) (xs:List Bd) (a:Option Addr) (cap:Nat) (w:World) (hl:xs.length≤1048576) (hr:SlIs bdL 5 w a xs) :
  Cb 164 #[.slice a xs.length cap,.string s] w (.tuple #[.string (outIn xs ⟨#[]⟩ s),.bool (xs.find? (ofHost s)).isSome]):=by
 have HZ:Hid (Below w.heap.size w (w.alloc (.cells #[.string s] 9))):=bR.alloc lR _;have HK:Hid (HoldsL (w.alloc (.cells #[.string s] 9)) w.heap.size [.string s]):=HoldsL.new w _ _;have HI:Hid (∀ W,Below w.heap.size w W→HoldsL W w.heap.size [.string s]→Cb 79 #[.slice a xs.length cap,.func (.func 180) #[] #[.pointer (some ⟨w.heap.size,0,none⟩)]] W (iV (findI (ofHost s) xs))):=fun W hW h1=>idxBind_any (ofHost s) 180 (fun args W=>by kernel_rfl) _ xs a cap W hl (hr.below hW) (fun W' hW' q hq=>outOf1_any q s _ W' (h1.kept (by simp) hW'))
 have HR:Hid (SlIs bdL 5 w a xs):=hr;have HV:Hid (outIn xs ⟨#[]⟩ s=match xs.find? (ofHost s) with | some c=>c.out | none=>⟨#[]⟩):=rfl;have HAT:Hid (0≤findI (ofHost s) xs→∃ i:Nat,∃ hi:i < xs.length,findI (ofHost s) xs=i∧xs.find? (ofHost s)=some xs[i]):=fun h=>findBd_at _ xs (by omega)
 have HNO:Hid (findI (ofHost s) xs < 0→xs.find? (ofHost s)=none):=find_no _ xs;obtain ⟨hf1,hf2⟩:=findI_in (ofHost s) xs;generalize outIn xs ⟨#[]⟩ s=ans at *;generalize xs.find? (ofHost s)=fd at *;generalize findI (ofHost s) xs=fi at *;clear hr;go_enter Tryz.func164,Tryz.ntmps164
 go_upto_region 1 with fail
 generalize (w.alloc (.cells #[.string s] 9))=W at *;go_wp2_with fail
 refine (HI.out _ HZ.out HK.out).mono ?_;rintro e w1 ⟨rfl,q1⟩;have B1:Hid _:=HZ.out.trans (q1.mono HZ.out.size);clear q1 HI HK HZ;by_cases hk:fi < 0
 ·have HX:=HNO.out hk;have HA:Hid (ans=⟨#[]⟩∧fd.isSome=false):=by unfold Hid; rw [HV.out,HX]; exact ⟨rfl,rfl⟩
  clear HX HNO HAT HV;go_wp2_with fail
  go_ret2
  exact ⟨by rw [HA.out.1,HA.out.2]; rfl,B1.out⟩
 ·obtain ⟨i,hi,hfi,hfd⟩:=HAT.out (by omega);subst hfi;obtain ⟨b,off,rfl,hb,hat⟩:=HR.out.at hi;have hA:=(hat.below hb B1.out) i hi;obtain ⟨q,hq⟩ : ∃ q,xs[i]=q:=⟨_,rfl⟩;rw [hq] at hA hfd;have HA:Hid (ans=q.out∧fd.isSome=true):=by unfold Hid; rw [HV.out,hfd]; exact ⟨rfl,rfl⟩
  have c3:w1.cell? ⟨b,off+i*5+3,none⟩=some (.string q.out):=hA 3 _ rfl;have hiI:(i:Int) < (xs.length:Int):=by omega
  clear hA hat hq hfd HAT HNO HV;go_wp2_with fail
  go_ret2
  exact ⟨by rw [HA.out.1,HA.out.2]; rfl,B1.out⟩
theorem sessRight_any (q:Ss) (w:World) (hs:q.peer.size≤1048576) :
  Cb 135 #[ssC q] w (.bool (sessR q)):=by
 have HZ:Hid (Below w.heap.size w (w.alloc (.cells (SsV q).toArray 59))):=bR.alloc lR _;have K2:HoldsL (w.alloc (.cells (SsV q).toArray 59)) w.heap.size (ssL q):=HoldsL.new w (ssL q) 59;have HW:Hid (∀ W,Cw 122 #[iV q.peerPort] W (.bool (isW q.peerPort))):=fun W=>implWordIs_any _ W
 have HT:Hid (∀ W,Cw 144 #[iV q.state] W (.bool (isIn q.state 1 7))):=fun W=>isState_any _ W
 have HO:Hid (∀ W,Cw 143 #[iV q.proto] W (.bool (stillP q.proto))):=fun W=>implStill_any _ W
 have HV:Hid (sessR q=(decide (q.peer.size=4)&&isW q.peerPort&&isIn q.state 1 7&&(decide (q.state=3)||!stillP q.proto)&&(decide (0≤q.untl)&&decide (q.untl≤2000000000)))):=rfl;generalize sessR q=ans at *;generalize isW q.peerPort=b1 at *;generalize isIn q.state 1 7=b2 at *;generalize stillP q.proto=b3 at *;have hun:undef=Value.tuple #[]:=rfl;unfold ssC;go_enter Tryz.func135,Tryz.ntmps135
 go_upto_region 1 with fail
 generalize (w.alloc (.cells (SsV q).toArray 59))=W at *;obtain ⟨c0,c1,c2,c3,c4,c5,c6⟩:=K2.c7;clear K2;by_cases h4:q.peer.size=4
 case neg =>
  have HX:Hid (ans=false):=by unfold Hid; rw [HV.out,decide_eq_false h4]; rfl
  have h4i:¬ (q.peer.size:Int)=4:=by omega
  have d1:((q.peer.size:Int)==4)=false:=by simp [h4i]
  go_wp2_with fail
  go_ret;exact ⟨ret_bool HX.out.symm,HZ.out⟩
 have h4i:(q.peer.size:Int)=4:=by omega
 have d1:((q.peer.size:Int)==4)=true:=by simp [h4i]
 clear h4i;go_wp2_with fail
 refine (HW.out _).mono ?_;rintro e W ⟨rfl,rfl⟩
 cases b1 with
 | false =>
  have HX:Hid (ans=false):=by unfold Hid; rw [HV.out]; simp
  go_wp2_with fail
  go_ret;exact ⟨ret_bool HX.out.symm,HZ.out⟩
 | true =>
 go_wp2_with fail
 refine (HT.out _).mono ?_;rintro e W ⟨rfl,rfl⟩
 cases b2 with
 | false =>
  have HX:Hid (ans=false):=by unfold Hid; rw [HV.out]; simp
  go_wp2_with fail
  go_ret;exact ⟨ret_bool HX.out.symm,HZ.out⟩
 | true =>
 by_cases h3:q.state=3
 ·have e3:(q.state==3)=true:=by simp [h3]
  have HV2:Hid (ans=(decide (0≤q.untl)&&decide (q.untl≤2000000000))):=by unfold Hid; rw [HV.out,decide_eq_true h4,decide_eq_true h3]; rfl
  have HH3:Hid (q.state=3):=h3;clear h3 HV;by_cases t0:0≤q.untl
  case neg =>
   have HX:Hid (ans=false):=by unfold Hid; rw [HV2.out,decide_eq_false t0]; simp
   have d0:decide (0≤q.untl)=false:=decide_eq_false t0;go_wp2_with fail
   go_ret;exact ⟨ret_bool HX.out.symm,HZ.out⟩
  have d0:decide (0≤q.untl)=true:=decide_eq_true t0;by_cases t1:q.untl≤2000000000
  case neg =>
   have HX:Hid (ans=false):=by unfold Hid; rw [HV2.out,decide_eq_false t1]; simp
   have d9:decide (q.untl≤2000000000)=false:=decide_eq_false t1;go_wp2_with fail
   go_ret;exact ⟨ret_bool HX.out.symm,HZ.out⟩
  have d9:decide (q.untl≤2000000000)=true:=decide_eq_true t1;have HX:Hid (ans=true):=by unfold Hid; rw [HV2.out,decide_eq_true t0,decide_eq_true t1]; rfl
  go_wp2_with fail
  go_ret;exact ⟨ret_bool HX.out.symm,HZ.out⟩
 ·have e3:(q.state==3)=false:=by simp [h3]
  have HV2:Hid (ans=(!b3&&(decide (0≤q.untl)&&decide (q.untl≤2000000000)))):=by unfold Hid; rw [HV.out,decide_eq_true h4,decide_eq_false h3]; rfl
  clear HV;go_wp2_with fail
  refine (HO.out _).mono ?_;rintro e W ⟨rfl,rfl⟩
  cases b3 with
  | true =>
   have HX:Hid (ans=false):=by unfold Hid; rw [HV2.out]; rfl
   go_wp2_with fail
   go_ret;exact ⟨ret_bool HX.out.symm,HZ.out⟩
  | false =>
  by_cases t0:0≤q.untl
  case neg =>
   have HX:Hid (ans=false):=by unfold Hid; rw [HV2.out,decide_eq_false t0]; simp
   have d0:decide (0≤q.untl)=false:=decide_eq_false t0;go_wp2_with fail
   go_ret;exact ⟨ret_bool HX.out.symm,HZ.out⟩
  have d0:decide (0≤q.untl)=true:=decide_eq_true t0;by_cases t1:q.untl≤2000000000
  case neg =>
   have HX:Hid (ans=false):=by unfold Hid; rw [HV2.out,decide_eq_false t1]; simp
   have d9:decide (q.untl≤2000000000)=false:=decide_eq_false t1;go_wp2_with fail
   go_ret;exact ⟨ret_bool HX.out.symm,HZ.out⟩
  have d9:decide (q.untl≤2000000000)=true:=decide_eq_true t1;have HX:Hid (ans=true):=by unfold Hid; rw [HV2.out,decide_eq_true t0,decide_eq_true t1]; rfl
  go_wp2_with fail
  go_ret;exact ⟨ret_bool HX.out.symm,HZ.out⟩
open Go.MapKept
open Go.Maps (Keyed)
def MapAt (P:Program) (k:TypeId) (w:World) (b:Nat) (M:Value→Option Value):Prop :=
 ∃ es clock,w.heap[b]?=some (.map es clock)∧(∀ e∈es.toList,∃ l,keyOf P k e.key=some l)∧es.toList.Pairwise (fun x y=>x.key≠y.key)∧∀ x v,M x=some v↔∃ e∈es.toList,e.key=x∧e.val=v
section
variable {P:Program} {k t e:TypeId} {w W:World} {b:Nat} {M:Value→Option Value}
theorem MapAt.lt (h:MapAt P k w b M):b < w.heap.size:=by
 obtain ⟨es,clock,hb,_⟩:=h;exact (Array.getElem?_eq_some_iff.1 hb).1
theorem MapAt.of_block (h:MapAt P k w b M) (hb:W.heap[b]?=w.heap[b]?):MapAt P k W b M:=by
 obtain ⟨es,clock,h1,h2⟩:=h;exact ⟨es,clock,hb.trans h1,h2⟩
theorem MapAt.below (h:MapAt P k w b M) (hB:Below w.heap.size w W):MapAt P k W b M:=h.of_block (hB.block b h.lt)
theorem MapAt.grown {row:Option Nat} (h:MapAt P k w b M) (hg:w.grownBy W row) (hr:some b≠row):MapAt P k W b M:=h.of_block (hg.block b h.lt hr)
theorem MapAt.made (w:World):MapAt P k (w.alloc (.map #[] 0)) w.heap.size (fun _=>none) :=
 ⟨#[],0,heap_alloc_new w _,fun e he=>by simp at he,by simp,fun x v=>by simp⟩
theorem find_in (K:Keyed P k) {es:List MapEntry} (hk:∀ e∈es,∃ l,keyOf P k e.key=some l) (hp:es.Pairwise fun x y=>x.key≠y.key) (hM:∀ x v,M x=some v↔∃ e∈es,e.key=x∧e.val=v) {x:Value} {l:Lit} (hx:keyOf P k x=some l) (w:World) :
  ((Instr.findKey k x es).run P w=.ok none w∧M x=none∧∀ e∈es,e.key≠x)∨∃ j e,(Instr.findKey k x es).run P w=.ok (some (j,e.val)) w∧M x=some e.val∧es[j]?=some e∧e.key=x:=by
 rcases K.find w hx es hk with ⟨h1,h2⟩ | ⟨j,e,h1,h2,h3⟩
 ·refine .inl ⟨h1,?_,h2⟩
  cases hm:M x with
  | none=>rfl
  | some v =>
   obtain ⟨e,he,hkx,_⟩:=(hM x v).1 hm;exact absurd hkx (h2 e he)
 ·exact .inr ⟨j,e,h1,(hM x e.val).2 ⟨e,List.mem_of_getElem? h2,h3,rfl⟩,h2,h3⟩
theorem MapAt.look (K:Keyed P k) (ht:P.underlying t=some (.map k e)) (h:MapAt P k w b M) {x z:Value} {l:Lit} (hx:keyOf P k x=some l) (hz:(zeroValue e).run P w=.ok z w) :
  (Instr.lookup t (.map (some b)) x false).run P w=.ok ((M x).getD z) w∧(Instr.lookup t (.map (some b)) x true).run P w=.ok (.tuple #[(M x).getD z,.bool (M x).isSome]) w:=by
 obtain ⟨es,clock,hb,hk,hp,hM⟩:=h;rcases find_in K hk hp hM hx w with ⟨h1,h2,_⟩ | ⟨j,e0,h1,h2,_⟩
 ·constructor<;>simp [Instr.lookup,run_underlying ht,MapKept.run_getObj_map hb,K.check w _ hx,h1,h2,hz,Result.andThen]
 ·constructor<;>simp [Instr.lookup,run_underlying ht,MapKept.run_getObj_map hb,K.check w _ hx,h1,h2,hz,Result.andThen]
theorem grown_block (w:World) (b:Nat) (o:Obj):w.grownBy { w with heap:=w.heap.setIfInBounds b o } (some b) :=
 ⟨rfl,rfl,rfl,by simp,fun k hk hne=>by
  show (w.heap.setIfInBounds b o)[k]?=w.heap[k]?;rw [Array.getElem?_setIfInBounds_ne (fun e=>hne (by rw [e]))]⟩
theorem at_block (w:World) {b:Nat} (o:Obj) (hb:b < w.heap.size):({ w with heap:=w.heap.setIfInBounds b o }:World).heap[b]?=some o:=by
 show (w.heap.setIfInBounds b o)[b]?=some o;simp [hb]
open Classical in
theorem MapAt.put (K:Keyed P k) (ht:P.underlying t=some (.map k e)) (h:MapAt P k w b M) {x v:Value} {l:Lit} (hx:keyOf P k x=some l) :
  ∃ W M',(Instr.mapUpdate t (.map (some b)) x v).run P w=.ok () W∧MapAt P k W b M'∧M' x=some v∧(∀ y,y≠x→M' y=M y)∧w.grownBy W (some b)∧W.heap.size=w.heap.size:=by
 have hlt:=h.lt;obtain ⟨es,clock,hb,hk,hp,hM⟩:=h;rcases find_in K hk hp hM hx w with ⟨h1,h2,h3⟩ | ⟨j,e0,h1,h2,h3,h4⟩
 ·refine ⟨{ w with heap:=w.heap.setIfInBounds b (.map (es.push ⟨x,v,clock⟩) (clock+1)) },fun y=>if y=x then some v else M y,?_,⟨_,_,at_block w _ hlt,?_,?_,fun y u=>?_⟩,if_pos rfl,fun y hy=>if_neg hy,grown_block w b _,by simp⟩
  ·simp [Instr.mapUpdate,run_underlying ht,MapKept.run_getObj_map hb,K.check w false hx,h1,MapKept.run_setObj_map _ hb,Result.andThen]
  ·intro y hy;simp only [Array.toList_push,List.mem_append,List.mem_singleton] at hy;rcases hy with hy | rfl
   ·exact hk y hy
   ·exact ⟨l,hx⟩
  ·rw [Array.toList_push];refine List.pairwise_append.2 ⟨hp,by simp,fun a ha c hc=>?_⟩;obtain rfl:c=⟨x,v,clock⟩:=by simpa using hc
   exact h3 a ha
  ·rw [Array.toList_push];dsimp only;by_cases hy:y=x
   ·subst hy;rw [if_pos rfl];constructor
    ·intro hu;exact ⟨⟨y,v,clock⟩,by simp,rfl,by simpa using hu⟩
    ·rintro ⟨a,ha,ha1,ha2⟩;simp only [List.mem_append,List.mem_singleton] at ha;rcases ha with ha | rfl
     ·exact absurd ha1 (h3 a ha)
     ·simpa using ha2
   ·rw [if_neg hy,hM];constructor
    ·rintro ⟨a,ha,ha1,ha2⟩;exact ⟨a,by simp [ha],ha1,ha2⟩
    ·rintro ⟨a,ha,ha1,ha2⟩;simp only [List.mem_append,List.mem_singleton] at ha;rcases ha with ha | rfl
     ·exact ⟨a,ha,ha1,ha2⟩
     ·exact absurd ha1.symm hy
 ·have hj:es[j]?=some e0:=by simpa using h3
  have hjl:j < es.toList.length:=(List.getElem?_eq_some_iff.1 h3).1;have hlist:(es.modify j (fun e'=>{ e' with key:=x,val:=v })).toList=es.toList.set j { e0 with key:=x,val:=v }:=by rw [Array.toList_modify,Go.ChangeMaps.modify_eq_set _ _ _ _ h3]
  have hoth:∀ i (hi:i < es.toList.length),i≠j→es.toList[i].key≠x:=fun i hi hne=>by
   have hje:es.toList[j].key=x:=by
    have:=(List.getElem?_eq_some_iff.1 h3).2;rw [this]; exact h4
   rw [List.pairwise_iff_getElem] at hp;rcases Nat.lt_or_ge i j with hlt' | hge
   ·have:=hp i j hi hjl hlt';rw [hje] at this; exact this
   ·have:=hp j i hjl hi (by omega);rw [hje] at this; exact fun e=>this e.symm
  have who:∀ y∈es.toList.set j { e0 with key:=x,val:=v },y={ e0 with key:=x,val:=v }∨(y∈es.toList∧y.key≠x):=by
   intro y hy;obtain ⟨i,hi,ey⟩:=List.getElem_of_mem hy;rw [List.getElem_set] at ey;split at ey
   ·exact Or.inl ey.symm
   ·rename_i hne;have hi':i < es.toList.length:=by simpa using hi
    exact Or.inr ⟨ey ▸ List.getElem_mem hi',by rw [← ey]; exact hoth i hi' (fun e=>hne e.symm)⟩
  have wo:∀ y∈es.toList,y.key≠x→y∈es.toList.set j { e0 with key:=x,val:=v }:=by
   intro y hy hne;obtain ⟨i,hi,ey⟩:=List.getElem_of_mem hy;have hij:i≠j:=fun e=>by
    subst e;have:=(List.getElem?_eq_some_iff.1 h3).2;rw [ey] at this; rw [this] at hne; exact hne h4
   exact List.mem_iff_getElem.2 ⟨i,by simpa using hi,by rw [List.getElem_set_ne (fun e=>hij e.symm)]; exact ey⟩
  refine ⟨{ w with heap:=w.heap.setIfInBounds b (.map (es.modify j fun e'=>{ e' with key:=x,val:=v }) clock) },fun y=>if y=x then some v else M y,?_,⟨_,_,at_block w _ hlt,?_,?_,fun y u=>?_⟩,if_pos rfl,fun y hy=>if_neg hy,grown_block w b _,by simp⟩
  ·simp [Instr.mapUpdate,run_underlying ht,MapKept.run_getObj_map hb,K.check w false hx,h1,hj,h4,K.stays w hx,MapKept.run_setObj_map _ hb,Result.andThen]
  ·rw [hlist];intro y hy;rcases who y hy with rfl | ⟨hy',_⟩
   ·exact ⟨l,hx⟩
   ·exact hk y hy'
  ·rw [hlist,List.pairwise_iff_getElem];intro p q hpl hql hpq;rw [List.length_set] at hpl hql;rw [List.getElem_set,List.getElem_set];by_cases e1:j=p
   ·subst e1;rw [if_pos rfl,if_neg (by omega)];exact fun e=>hoth q hql (by omega) e.symm
   ·rw [if_neg e1];by_cases e2:j=q
    ·subst e2;rw [if_pos rfl];exact hoth p hpl (fun e=>e1 e.symm)
    ·rw [if_neg e2];exact (List.pairwise_iff_getElem.1 hp) p q hpl hql hpq
  ·rw [hlist];dsimp only;by_cases hy:y=x
   ·subst hy;rw [if_pos rfl];constructor
    ·intro hu;exact ⟨{ e0 with key:=y,val:=v },List.mem_iff_getElem.2 ⟨j,by simpa using hjl,by simp⟩,rfl,by simpa using hu⟩
    ·rintro ⟨a,ha,ha1,ha2⟩;rcases who a ha with rfl | ⟨_,hne⟩
     ·simpa using ha2
     ·exact absurd ha1 hne
   ·rw [if_neg hy,hM];constructor
    ·rintro ⟨a,ha,ha1,ha2⟩;exact ⟨a,wo a ha (by rw [ha1]; exact hy),ha1,ha2⟩
    ·rintro ⟨a,ha,ha1,ha2⟩;rcases who a ha with rfl | ⟨ha',_⟩
     ·exact absurd ha1.symm hy
     ·exact ⟨a,ha',ha1,ha2⟩
open Classical in
end
theorem wp_look_val {P:Program} {o:Oper} {a:Act} {w:World} {v1 v2 v':Value} {K:Act→World→Prop} {Q:Exit→Act→World→Prop} (t:TypeId) (x ix:Operand) (ok:Bool) (hop:o.op=Op.lookup t x ix ok)
  (hs:a.eval x=v1) (hx:a.eval ix=v2) (hrun:(Instr.lookup t v1 v2 ok).run P w=.ok v' w) (hK:K (a.put o.dst v') w):Oper.wp P o a w K Q:=by
 unfold Oper.wp;simp [execOp,hop,hs,hx,hrun,Result.andThen];exact hK
theorem wpList_look_val {P:Program} {ops:Array Oper} {rest:List Oper} {o:Oper} {a:Act} {w:World} {v1 v2 v':Value} {Q:Exit→Act→World→Prop} (hg:o.guard=none) (t:TypeId) (x ix:Operand) (ok:Bool) (hop:o.op=Op.lookup t x ix ok)
  (hs:a.eval x=v1) (hx:a.eval ix=v2) (hrun:(Instr.lookup t v1 v2 ok).run P w=.ok v' w) (hK:wpList P ops Q rest (a.put o.dst v') w):wpList P ops Q (o::rest) a w :=
 wpList_plain hg fun K hK'=>wp_look_val t x ix ok hop hs hx hrun (hK' _ _ hK)
theorem wp_upd_val {P:Program} {o:Oper} {a:Act} {w w':World} {v1 v2 v3:Value} {K:Act→World→Prop} {Q:Exit→Act→World→Prop} (t:TypeId) (m x y:Operand) (hop:o.op=Op.mapUpdate t m x y)
  (hm:a.eval m=v1) (hx:a.eval x=v2) (hy:a.eval y=v3) (hrun:(Instr.mapUpdate t v1 v2 v3).run P w=.ok () w') (hK:K (a.put o.dst undef) w'):Oper.wp P o a w K Q:=by
 unfold Oper.wp;simp [execOp,hop,hm,hx,hy,hrun,Result.andThen];exact hK
def bkC (pa:Option Addr) (pc:Nat) (p:Pl) (a b:Option Addr) (ca cb:Nat) (x:Bb) (m1 m2:Nat):Value:=.agg (KkV pa pc p a ca b cb x m1 m2).toArray
def EnIn (e:En):Prop:=e.addr.size≤1048576∧In64t e.proto∧In64t e.port
def BdGood (q:Bd):Prop:=q.inn.size≤1048576∧q.out.size≤1048576∧In64t q.proto∧In64t q.inPort∧In64t q.outPort
def SsGood (s:Ss):Prop:=s.inn.size≤1048576∧s.peer.size≤1048576∧In64t s.proto∧In64t s.inPort
theorem hostE_in {q:Bd} (h:BdGood q):EnIn (hostE q):=⟨h.1,h.2.2.1,h.2.2.2.1⟩
theorem lentE_in {q:Bd} (h:BdGood q):EnIn (lentE q):=⟨h.2.1,h.2.2.1,h.2.2.2.2⟩
theorem sessE_in {s:Ss} (h:SsGood s):EnIn (sessE s):=⟨h.1,h.2.2.1,h.2.2.2⟩
theorem sameEn_iff (q p:En):sameEn q p=true↔q=p:=by
 rw [sameEn_eq];simp only [Bool.and_eq_true,decide_eq_true_iff];constructor
 ·rintro ⟨⟨h1,h2⟩,h3⟩;have h4:q.addr=p.addr:=by
   rw [ByteArray.toList_eq,ByteArray.toList_eq] at h2;apply ByteArray.ext;exact Array.toList_inj.1 h2
  cases q; cases p; simp_all
 ·rintro rfl; simp
theorem enC_inj {q p:En} (h:enC q=enC p):q=p:=by
 unfold enC at h;simp at h
 cases q; cases p; simp_all
theorem find_some_any {α:Type} (f:α→Bool) (xs:List α):(xs.find? f).isSome=xs.any f:=by
 rw [Bool.eq_iff_iff,List.find?_isSome,List.any_eq_true]
theorem keyed_en:Keyed Tryz.prog 86:=Keyed.of_law (deep_law_gate (by kernel_rfl) (of_decide_eq_true (by kernel_rfl)) (of_decide_eq_true (by kernel_rfl)) (by kernel_rfl) (by kernel_rfl))
theorem wf64b {n:Int} (h:In64t n):(Lit.int .i64 n).wf=true:=by
 simp [Lit.wf]; exact ⟨h.1,h.2⟩
theorem keyOf_en (e:En) (h:EnIn e):∃ l,keyOf Tryz.prog 86 (enC e)=some l:=by
 obtain ⟨h1,h3,h4⟩:=h;have h1:e.addr.size≤maxLen:=by unfold maxLen; omega
 have k1:Tryz.prog.keyType 86=true:=by kernel_rfl
 have k2:Tryz.prog.cellsOf 86=3:=by kernel_rfl
 have k3:Tryz.prog.cellsOf 9=1:=by kernel_rfl
 have k4:Tryz.prog.cellsOf 2=1:=by kernel_rfl
 have k5:∃ m,Tryz.prog.types.size+1=m+2:=⟨Tryz.prog.types.size-1,by have:1≤Tryz.prog.types.size:=of_decide_eq_true (by kernel_rfl); omega⟩;obtain ⟨m,k5⟩:=k5;have w3:=wf64b h3;have w4:=wf64b h4;unfold keyOf;rw [Tryz.underlying86];simp only [k1,Value.formed,enC,Tryz.underlying86,k2,Value.cells,k5];simp [Program.keyLits,Tryz.underlying86,Tryz.underlying9,Tryz.underlying2,k2,k3,k4,h1,w3,w4]
theorem zero_bd (w:World):(zeroValue 48).run Tryz.prog w=.ok (bdC bdZ) w:=by kernel_rfl
structure BookOf (w:World) (m1 m2:Nat) (xs ys:List Bd) (M1 M2:Value→Option Value):Prop where
 h1:MapAt Tryz.prog 86 w m1 M1
 h2:MapAt Tryz.prog 86 w m2 M2
 v1:∀ e:En,M1 (enC e)=(xs.find? fun q=>sameEn (hostE q) e).map bdC
 v2:∀ e:En,M2 (enC e)=(ys.find? fun q=>sameEn (lentE q) e).map bdC
 ne:m1≠m2
def BookAt (w:World) (m1 m2:Nat) (xs ys:List Bd):Prop:=∃ M1 M2,BookOf w m1 m2 xs ys M1 M2
section
variable {w W:World} {m1 m2:Nat} {xs ys:List Bd}
theorem BookAt.kept (h:BookAt w m1 m2 xs ys) (hb:Below w.heap.size w W):BookAt W m1 m2 xs ys:=by
 obtain ⟨M1,M2,h⟩:=h;exact ⟨M1,M2,h.h1.below hb,h.h2.below hb,h.v1,h.v2,h.ne⟩
theorem BookAt.lt (h:BookAt w m1 m2 xs ys):m1 < w.heap.size∧m2 < w.heap.size∧m1≠m2:=by
 obtain ⟨M1,M2,h⟩:=h;exact ⟨h.h1.lt,h.h2.lt,h.ne⟩
theorem BookAt.made {w:World}:BookAt ((w.alloc (.map #[] 0)).alloc (.map #[] 0)) w.heap.size (w.heap.size+1) [] []:=by
 have h2:=MapAt.made (P:=Tryz.prog) (k:=86) (w.alloc (.map #[] 0));rw [World.size_alloc] at h2;refine ⟨fun _=>none,fun _=>none,(MapAt.made w).below (bR.alloc lR _),h2,fun e=>rfl,fun e=>rfl,by omega⟩
theorem map_get (o:Option Bd):(o.map bdC).getD (bdC bdZ)=bdC (o.getD bdZ):=by cases o<;>rfl
theorem BookAt.look1 (h:BookAt w m1 m2 xs ys) {e:En} (he:EnIn e):(Instr.lookup 137 (.map (some m1)) (enC e) true).run Tryz.prog w=.ok (.tuple #[bdC ((xs.find? fun q=>sameEn (hostE q) e).getD bdZ),.bool (xs.find? fun q=>sameEn (hostE q) e).isSome]) w:=by
 obtain ⟨M1,M2,h⟩:=h;obtain ⟨l,hl⟩:=keyOf_en e he;have h1:=(h.h1.look (t:=137) keyed_en Tryz.underlying137 hl (zero_bd w)).2;rw [h.v1,map_get,Option.isSome_map] at h1;exact h1
theorem BookAt.get1 (h:BookAt w m1 m2 xs ys) {e:En} (he:EnIn e):(Instr.lookup 137 (.map (some m1)) (enC e) false).run Tryz.prog w=.ok (bdC ((xs.find? fun q=>sameEn (hostE q) e).getD bdZ)) w:=by
 obtain ⟨M1,M2,h⟩:=h;obtain ⟨l,hl⟩:=keyOf_en e he;have h1:=(h.h1.look (t:=137) keyed_en Tryz.underlying137 hl (zero_bd w)).1;rw [h.v1,map_get] at h1;exact h1
theorem BookAt.look2 (h:BookAt w m1 m2 xs ys) {e:En} (he:EnIn e):(Instr.lookup 137 (.map (some m2)) (enC e) true).run Tryz.prog w=.ok (.tuple #[bdC ((ys.find? fun q=>sameEn (lentE q) e).getD bdZ),.bool (ys.find? fun q=>sameEn (lentE q) e).isSome]) w:=by
 obtain ⟨M1,M2,h⟩:=h;obtain ⟨l,hl⟩:=keyOf_en e he;have h1:=(h.h2.look (t:=137) keyed_en Tryz.underlying137 hl (zero_bd w)).2;rw [h.v2,map_get,Option.isSome_map] at h1;exact h1
theorem find_snoc (E:Bd→En) (xs:List Bd) (q:Bd) (hn:xs.any (fun c=>sameEn (E c) (E q))=false) (M M':Value→Option Value) (hM:∀ e:En,M (enC e)=(xs.find? fun c=>sameEn (E c) e).map bdC) (h1:M' (enC (E q))=some (bdC q)) (h2:∀ y,y≠enC (E q)→M' y=M y) (e:En):M' (enC e)=((xs++[q]).find? fun c=>sameEn (E c) e).map bdC:=by
 rw [List.find?_append];by_cases he:e=E q
 ·subst he;have h0:xs.find? (fun c=>sameEn (E c) (E q))=none:=List.find?_eq_none.2 (fun c hc=>List.any_eq_false.1 hn c hc);have hs:sameEn (E q) (E q)=true:=(sameEn_iff _ _).2 rfl;rw [h0,h1]; simp [hs]
 ·have hs:sameEn (E q) e=false:=by
   cases h:sameEn (E q) e with
   | false=>rfl
   | true=>exact absurd ((sameEn_iff _ _).1 h).symm he
  rw [h2 _ (fun h=>he (enC_inj h)),hM];simp [hs]
theorem BookAt.put1 (h:BookAt w m1 m2 xs ys) {q:Bd} (hq:EnIn (hostE q)) (hn:xs.any (fun c=>sameEn (hostE c) (hostE q))=false) :
  ∃ W,(Instr.mapUpdate 137 (.map (some m1)) (enC (hostE q)) (bdC q)).run Tryz.prog w=.ok () W∧BookAt W m1 m2 (xs++[q]) ys∧w.grownBy W (some m1):=by
 obtain ⟨M1,M2,h⟩:=h;obtain ⟨l,hl⟩:=keyOf_en _ hq;obtain ⟨W,M',hup,hM',hx,hoth,hg,hs⟩:=h.h1.put (v:=bdC q) keyed_en Tryz.underlying137 hl;exact ⟨W,hup,⟨M',M2,hM',h.h2.grown hg (by simp; exact fun e=>h.ne e.symm),find_snoc hostE xs q hn M1 M' h.v1 hx hoth,h.v2,h.ne⟩,hg⟩
theorem BookAt.put2 (h:BookAt w m1 m2 xs ys) {q:Bd} (hq:EnIn (lentE q)) (hn:ys.any (fun c=>sameEn (lentE c) (lentE q))=false) :
  ∃ W,(Instr.mapUpdate 137 (.map (some m2)) (enC (lentE q)) (bdC q)).run Tryz.prog w=.ok () W∧BookAt W m1 m2 xs (ys++[q])∧w.grownBy W (some m2):=by
 obtain ⟨M1,M2,h⟩:=h;obtain ⟨l,hl⟩:=keyOf_en _ hq;obtain ⟨W,M',hup,hM',hx,hoth,hg,hs⟩:=h.h2.put (v:=bdC q) keyed_en Tryz.underlying137 hl;exact ⟨W,hup,⟨M1,M',h.h1.grown hg (by simp; exact h.ne),hM',h.v1,find_snoc lentE ys q hn M2 M' h.v2 hx hoth,h.ne⟩,hg⟩
end
def IsZd (base:Nat):Value→World→Prop:=fun v w=>∃ g,v=.pointer (some ⟨g,0,none⟩)∧base≤g∧HoldsL w g (bdL bdZ)
theorem stable_isZd (base:Nat):Stable (IsZd base):=fun v w w' ⟨g,h1,h2,h3⟩ hb=>⟨g,h1,h2,h3.kept (by simp [bdL]) hb⟩
theorem implPool_any (p:Pl) (a:Option Addr) (cap:Nat) (w:World) (hl:p.addrs.length≤1048576) (hcap:p.addrs.length≤cap) (hsz:∀ s∈p.addrs,s.size≤1048576) (hr:SlIs strL1 1 w a p.addrs) :
  Cb 132 #[plC a cap p] w (.bool (poolOk p)):=by
 have hun:undef=Value.tuple #[]:=rfl;have GA:Hid (Below w.heap.size w (w.alloc (.cells (PlV a cap p).toArray 27))):=bR.alloc lR _;have H0:Hid (HoldsL (w.alloc (.cells (PlV a cap p).toArray 27)) w.heap.size (PlV a cap p)):=HoldsL.new w (PlV a cap p) 27;have HA:Hid (∀ W,Below w.heap.size w W→Cb 163 #[.slice a p.addrs.length cap] W (.bool (poolA p.addrs))):=fun W hW=>implPoolA_any p.addrs a cap W hl hcap hsz (hr.below hW)
 have HL:Hid (∀ W,Cb 147 #[lvC p.lv] W (.bool (livesOk p.lv))):=fun W=>implLives_any p.lv W
 have HV:Hid (poolOk p=(poolA p.addrs&&decide (1≤p.low)&&decide (p.low≤p.high)&&decide (p.high≤65535)&&decide (1≤p.most)&&decide (p.most≤60)&&decide (0≤p.filter)&&decide (p.filter≤2)&&livesOk p.lv)):=by
  unfold Hid poolOk poolA isIn;generalize livesOk p.lv=x1;generalize upN addrOne p.addrs p.addrs.length=x2;rw [Bool.eq_iff_iff]; simp only [Bool.and_eq_true];constructor
  ·intro h; simp_all
  ·intro h; simp_all
 generalize poolOk p=ans at *;generalize poolA p.addrs=bA at *;generalize livesOk p.lv=bL at *;clear hr hsz;unfold plC;unfold lvC at HL;go_enter Tryz.func132,Tryz.ntmps132
 go_wp2_with fail
 refine (HA.out _ GA.out).mono ?_;rintro e w1 ⟨rfl,q1⟩;have G1:Hid _:=GA.out.trans (q1.mono GA.out.size);have K1:=H0.out.kept (by simp) q1;obtain ⟨k0,k1,k2,k3,k4,k5,k6,k7,k8,k9⟩:=K1.c10;clear q1 K1 H0 GA HA
 cases bA with
 | false =>
  have HX:Hid (ans=false):=by unfold Hid; rw [HV.out]; simp
  go_wp2_with fail
  go_ret;exact ⟨ret_bool HX.out.symm,G1.out⟩
 | true =>
  by_cases t0:1≤p.low
  case neg =>
   have HX:Hid (ans=false):=by unfold Hid; rw [HV.out,decide_eq_false t0]; simp
   have d0:decide (1≤p.low)=false:=decide_eq_false t0;go_wp2_with fail
   go_ret;exact ⟨ret_bool HX.out.symm,G1.out⟩
  have d0:decide (1≤p.low)=true:=decide_eq_true t0;by_cases t1:p.low≤p.high
  case neg =>
   have HX:Hid (ans=false):=by unfold Hid; rw [HV.out,decide_eq_false t1]; simp
   have d1:decide (p.low≤p.high)=false:=decide_eq_false t1;go_wp2_with fail
   go_ret;exact ⟨ret_bool HX.out.symm,G1.out⟩
  have d1:decide (p.low≤p.high)=true:=decide_eq_true t1;by_cases t2:p.high≤65535
  case neg =>
   have HX:Hid (ans=false):=by unfold Hid; rw [HV.out,decide_eq_false t2]; simp
   have d2:decide (p.high≤65535)=false:=decide_eq_false t2;go_wp2_with fail
   go_ret;exact ⟨ret_bool HX.out.symm,G1.out⟩
  have d2:decide (p.high≤65535)=true:=decide_eq_true t2;by_cases t3:1≤p.most
  case neg =>
   have HX:Hid (ans=false):=by unfold Hid; rw [HV.out,decide_eq_false t3]; simp
   have d3:decide (1≤p.most)=false:=decide_eq_false t3;go_wp2_with fail
   go_ret;exact ⟨ret_bool HX.out.symm,G1.out⟩
  have d3:decide (1≤p.most)=true:=decide_eq_true t3;by_cases t4:p.most≤60
  case neg =>
   have HX:Hid (ans=false):=by unfold Hid; rw [HV.out,decide_eq_false t4]; simp
   have d4:decide (p.most≤60)=false:=decide_eq_false t4;go_wp2_with fail
   go_ret;exact ⟨ret_bool HX.out.symm,G1.out⟩
  have d4:decide (p.most≤60)=true:=decide_eq_true t4;by_cases t5:0≤p.filter
  case neg =>
   have HX:Hid (ans=false):=by unfold Hid; rw [HV.out,decide_eq_false t5]; simp
   have d5:decide (0≤p.filter)=false:=decide_eq_false t5;go_wp2_with fail
   go_ret;exact ⟨ret_bool HX.out.symm,G1.out⟩
  have d5:decide (0≤p.filter)=true:=decide_eq_true t5;by_cases t6:p.filter≤2
  case neg =>
   have HX:Hid (ans=false):=by unfold Hid; rw [HV.out,decide_eq_false t6]; simp
   have d6:decide (p.filter≤2)=false:=decide_eq_false t6;go_wp2_with fail
   go_ret;exact ⟨ret_bool HX.out.symm,G1.out⟩
  have d6:decide (p.filter≤2)=true:=decide_eq_true t6;have HX:Hid (ans=bL):=by unfold Hid; rw [HV.out,decide_eq_true t0,decide_eq_true t1,decide_eq_true t2,decide_eq_true t3,decide_eq_true t4,decide_eq_true t5,decide_eq_true t6]; rfl
  go_wp2_with fail
  refine (HL.out _).mono ?_;rintro e w2 ⟨rfl,q2⟩;have G2:Hid _:=G1.out.trans (q2.mono G1.out.size);clear q2;go_wp2_with fail
  go_ret;exact ⟨ret_bool HX.out.symm,G2.out⟩
end Go.Proofs.YtdkepkaflielhaaGreatDoor
