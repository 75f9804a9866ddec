import Derived.Test.YtdkepkaflielhaaGreatDoorMerged8
import Derived.Maps.Keyed
import Derived.Maps.AppendAt
import Derived.Maps.OwnOps
import Derived.DeepKeys5
set_option linter.unusedVariables false
set_option linter.unusedSimpArgs false
set_option maxRecDepth 100000
set_option maxHeartbeats 8000000
namespace Go.Proofs.YtdkepkaflielhaaGreatDoor
open Go.RowKit Go.PlainAid
theorem sD{α:Type}(f:α→Bool)(xs:List α): -1≤bG f xs∧bG f xs < xs.length:=by
 unfold bG
 cases h:xs.findIdx? f with
 | none=>simp;omega
 | some i=>
  obtain⟨hi,_,_⟩:=List.findIdx?_eq_some_iff_getElem.1 h;simp;omega
theorem wI(p:Sk)(xs:List Ss)(a:OA)(cap:Nat)(w:World)(hl:xs.length≤1048576)(hr:bP fY 7 w a xs) :
  Cb 107 #[.slice a xs.length cap,SD p] w (iV (bG (fun q=>dG (dZ q) p) xs)):=by
 have HZ:Hid (Below w.heap.size w (w.alloc (.cells (iW p.host.UU p.host.addr p.host.port p.peer p.UV).toArray 147))):=bR.alloc lR _;have HK:Hid (aA (w.alloc (.cells (iW p.host.UU p.host.addr p.host.port p.peer p.UV).toArray 147)) w.heap.size (OV p)):=aA.new w (OV p) 147;have HI:Hid (∀W,Below w.heap.size w W→aA W w.heap.size (OV p)→Cb 137 #[.slice a xs.length cap,.func (.func 138) #[] #[.pointer (some ⟨w.heap.size,0,none⟩)]] W (iV (bG (fun q=>dG (dZ q) p) xs))):=fun W hW h1=>pL (fun q=>dG (dZ q) p) 138 (fun args W=>by kernel_rfl) _ xs a cap W hl (hr.below hW) (fun W' hW' q hq=>DT q p _ W' (h1.kept (by simp[OV]) hW'))
 obtain⟨hf1,hf2⟩:=sD (fun q=>dG (dZ q) p) xs;generalize bG (fun q=>dG (dZ q) p) xs=fi at *;clear hr;unfold SD;go_enter Tryz.func107,Tryz.ntmps107
 go_upto_region 1 with fail
 generalize (w.alloc (.cells (iW p.host.UU p.host.addr p.host.port p.peer p.UV).toArray 147))=W at *;go_wp2_with fail
 refine(HI.out _ HZ.out HK.out).mono ?_;rintro e w1 ⟨rfl,q1⟩;have B1:Hid _:=HZ.out.trans (q1.mono HZ.out.size);clear q1;go_wp2_with fail
 go_ret;exact⟨rfl,B1.out⟩
theorem uA(f:Ss→Bool)(F:Nat)(hG:rB F)(caps:Array Value)(xs:List Ss)(a:OA)(cap:Nat)(w:World)(hl:xs.length≤1048576)(hr:bP fY 7 w a xs)(hC:∀W,Below w.heap.size w W→∀q,q∈xs→Calls Tryz.prog F (#[wR q]++caps) W fun e w'=>e=.returned (.bool (f q))∧Below W.heap.size W w') :
  Cb 168 #[.slice a xs.length cap,.func (.func F) #[] caps] w (.bool (xs.any f)):=by
 have HI:Hid _:=pL f F hG caps xs a cap w hl hr hC;have HF:Hid (decide (0≤bG f xs)=xs.any f):=mG f xs;obtain⟨hf1,hf2⟩:=sD f xs;generalize xs.any f=ans at *;generalize bG f xs=fi at *;clear hr hC hG;go_enter Tryz.func168,Tryz.ntmps168
 go_wp2_with fail
 refine Calls.mono HI.out ?_;rintro e w1 ⟨rfl,b1⟩;have B1:Hid _:=b1;clear b1;go_wp2_with fail
 go_ret;exact⟨aB HF.out,B1.out⟩
theorem CV(b:Bd)(xs:List Ss)(a:OA)(cap:Nat)(w:World)(hl:xs.length≤1048576)(hr:bP fY 7 w a xs) :
  Cb 166 #[.slice a xs.length cap,jI b] w (.bool (xs.any (gY b))):=by
 have HZ:Hid (Below w.heap.size w (w.alloc (.cells (dH b).toArray 48))):=bR.alloc lR _;have HH:Hid (∀W,Cb 53 #[.agg (dH b).toArray] W (.agg (iE b.UU b.inn b.UW).toArray)):=fun W=>nC b W
 have HC:Hid (∀W B,Below w.heap.size w W→aA W B (LC (bN b))→Cb 168 #[.slice a xs.length cap,.func (.func 181) #[] #[.pointer (some ⟨B,0,none⟩)]] W (.bool (xs.any (gY b)))):=fun W B hW hB=>by
  have h:=uA (fun q=>bU (gT q) (bN b)) 181 (fun args W=>by kernel_rfl) #[.pointer (some ⟨B,0,none⟩)] xs a cap W hl (hr.below hW) (fun W' hW' q hq=>zX q (bN b) B W' (hB.kept (by simp[LC]) hW'));rw[show (fun q=>bU (gT q) (bN b))=gY b from funext fun q=>sS b q]at h;exact h
 generalize xs.any (gY b)=ans at *;clear hr;unfold jI;go_enter Tryz.func166,Tryz.ntmps166
 go_wp2_with fail
 refine(HH.out _).mono ?_;rintro e w1 ⟨rfl,q1⟩;have B1:Below w.heap.size w w1:=HZ.out.trans (q1.mono HZ.out.size);go_upto_region 2 with fail
 have B2:Hid (Below w.heap.size w (w1.alloc (.cells (iE b.UU b.inn b.UW).toArray 86))):=B1.alloc B1.size _;have K2:Hid (aA (w1.alloc (.cells (iE b.UU b.inn b.UW).toArray 86)) w1.heap.size (LC (bN b))):=aA.new w1 (LC (bN b)) 86;generalize (w1.alloc (.cells (iE b.UU b.inn b.UW).toArray 86))=W2 at *;clear q1 B1 HZ HH;go_wp2_with fail
 refine(HC.out _ _ B2.out K2.out).mono ?_;rintro e w3 ⟨rfl,q3⟩;have B3:Hid _:=B2.out.trans (q3.mono B2.out.size);clear q3;go_wp2_with fail
 go_ret;exact⟨rfl,B3.out⟩
theorem GT(q:Bd)(s:BA)(B:Nat)(w:World)(hB:aA w B [.string s]) :
  Cb 180 #[jI q,.pointer (some ⟨B,0,none⟩)] w (.bool (cQ s q)):=by
 have HZ:Hid (Below w.heap.size w (w.alloc (.cells (dH q).toArray 48))):=bR.alloc lR _;have K1:=hB.alloc (.cells (dH q).toArray 48);have K2:aA (w.alloc (.cells (dH q).toArray 48)) w.heap.size (eG q):=aA.new w (eG q) 48;have HV:Hid (cQ s q=decide (q.inn.toList=s.toList)):=rfl;generalize cQ s q=ans at *;unfold jI;go_enter Tryz.func180,Tryz.ntmps180
 go_upto_region 1 with fail
 generalize (w.alloc (.cells (dH q).toArray 48))=W at *;have c1:=K2.cell (j:=1) rfl;have k0:=K1.cell (j:=0) rfl;clear K1 K2 hB;go_wp2_with fail
 go_ret;exact⟨aB (by rw[HV.out];first | rfl | (rw[Bool.eq_iff_iff];simp)),HZ.out⟩
theorem yN(s:BA)(xs:List Bd)(a:OA)(cap:Nat)(w:World)(hl:xs.length≤1048576)(hr:bP eG 5 w a xs) :
  Cb 164 #[.slice a xs.length cap,.string s] w (.tuple #[.string (dQ xs ⟨#[]⟩ s),.bool (xs.find? (cQ s)).isSome]):=by
 have HZ:Hid (Below w.heap.size w (w.alloc (.cells #[.string s] 9))):=bR.alloc lR _;have HK:Hid (aA (w.alloc (.cells #[.string s] 9)) w.heap.size [.string s]):=aA.new w _ _;have HI:Hid (∀W,Below w.heap.size w W→aA W w.heap.size [.string s]→Cb 79 #[.slice a xs.length cap,.func (.func 180) #[] #[.pointer (some ⟨w.heap.size,0,none⟩)]] W (iV (bG (cQ s) xs))):=fun W hW h1=>CW (cQ s) 180 (fun args W=>by kernel_rfl) _ xs a cap W hl (hr.below hW) (fun W' hW' q hq=>GT q s _ W' (h1.kept (by simp) hW'))
 have HR:Hid (bP eG 5 w a xs):=hr;have HV:Hid (dQ xs ⟨#[]⟩ s=match xs.find? (cQ s) with | some c=>c.out | none=>⟨#[]⟩):=rfl;have HAT:Hid (0≤bG (cQ s) xs→∃i:Nat,∃hi:i < xs.length,bG (cQ s) xs=i∧xs.find? (cQ s)=some xs[i]):=fun h=>tK _ xs (by omega)
 have HNO:Hid (bG (cQ s) xs < 0→xs.find? (cQ s)=none):=zT _ xs;obtain⟨hf1,hf2⟩:=sD (cQ s) xs;generalize dQ xs ⟨#[]⟩ s=ans at *;generalize xs.find? (cQ s)=fd at *;generalize bG (cQ s) xs=fi at *;clear hr;go_enter Tryz.func164,Tryz.ntmps164
 go_upto_region 1 with fail
 generalize (w.alloc (.cells #[.string s] 9))=W at *;go_wp2_with fail
 refine(HI.out _ HZ.out HK.out).mono ?_;rintro e w1 ⟨rfl,q1⟩;have B1:Hid _:=HZ.out.trans (q1.mono HZ.out.size);clear q1 HI HK HZ;by_cases hk:fi < 0
 ·have HX:=HNO.out hk;have HA:Hid (ans=⟨#[]⟩∧fd.isSome=false):=by unfold Hid;rw[HV.out,HX];exact⟨rfl,rfl⟩
  clear HX HNO HAT HV;go_wp2_with fail
  go_ret2
  exact⟨by rw[HA.out.1,HA.out.2];rfl,B1.out⟩
 ·obtain⟨i,hi,hfi,hfd⟩:=HAT.out (by omega);subst hfi;obtain⟨b,off,rfl,hb,hat⟩:=HR.out.at hi;have hA:=(hat.below hb B1.out) i hi;obtain⟨q,hq⟩: ∃q,xs[i]=q:=⟨_,rfl⟩;rw[hq]at hA hfd;have HA:Hid (ans=q.out∧fd.isSome=true):=by unfold Hid;rw[HV.out,hfd];exact⟨rfl,rfl⟩
  have c3:w1.cell? ⟨b,off+i*5+3,none⟩=some (.string q.out):=hA 3 _ rfl;have hiI:(i:Int) < (xs.length:Int):=by omega
  clear hA hat hq hfd HAT HNO HV;go_wp2_with fail
  go_ret2
  exact⟨by rw[HA.out.1,HA.out.2];rfl,B1.out⟩
theorem xT(q:Ss)(w:World)(hs:q.peer.size≤1048576) :
  Cb 135 #[wR q] w (.bool (sQ q)):=by
 have HZ:Hid (Below w.heap.size w (w.alloc (.cells (iB q).toArray 59))):=bR.alloc lR _;have K2:aA (w.alloc (.cells (iB q).toArray 59)) w.heap.size (fY q):=aA.new w (fY q) 59;have HW:Hid (∀W,Cw 122 #[iV q.UV] W (.bool (jS q.UV))):=fun W=>dO _ W
 have HT:Hid (∀W,Cw 144 #[iV q.state] W (.bool (aM q.state 1 7))):=fun W=>uF _ W
 have HO:Hid (∀W,Cw 143 #[iV q.UU] W (.bool (cY q.UU))):=fun W=>nJ _ W
 have HV:Hid (sQ q=(decide (q.peer.size=4)&&jS q.UV&&aM q.state 1 7&&(decide (q.state=3)||!cY q.UU)&&(decide (0≤q.untl)&&decide (q.untl≤2000000000)))):=rfl;generalize sQ q=ans at *;generalize jS q.UV=b1 at *;generalize aM q.state 1 7=b2 at *;generalize cY q.UU=b3 at *;have hun:undef=Value.tuple #[]:=rfl;unfold wR;go_enter Tryz.func135,Tryz.ntmps135
 go_upto_region 1 with fail
 generalize (w.alloc (.cells (iB q).toArray 59))=W at *;obtain⟨c0,c1,c2,c3,c4,c5,c6⟩:=K2.c7;clear K2;by_cases h4:q.peer.size=4
 case neg=>
  have HX:Hid (ans=false):=by unfold Hid;rw[HV.out,TR h4];rfl
  have h4i:¬(q.peer.size:Int)=4:=by omega
  have d1:((q.peer.size:Int)==4)=false:=by simp[h4i]
  go_wp2_with fail
  go_ret;exact⟨aB HX.out.symm,HZ.out⟩
 have h4i:(q.peer.size:Int)=4:=by omega
 have d1:((q.peer.size:Int)==4)=true:=by simp[h4i]
 clear h4i;go_wp2_with fail
 refine(HW.out _).mono ?_;rintro e W ⟨rfl,rfl⟩
 cases b1 with
 | false=>
  have HX:Hid (ans=false):=by unfold Hid;rw[HV.out];simp
  go_wp2_with fail
  go_ret;exact⟨aB HX.out.symm,HZ.out⟩
 | true=>
 go_wp2_with fail
 refine(HT.out _).mono ?_;rintro e W ⟨rfl,rfl⟩
 cases b2 with
 | false=>
  have HX:Hid (ans=false):=by unfold Hid;rw[HV.out];simp
  go_wp2_with fail
  go_ret;exact⟨aB HX.out.symm,HZ.out⟩
 | true=>
 by_cases h3:q.state=3
 ·have e3:(q.state==3)=true:=by simp[h3]
  have HV2:Hid (ans=(decide (0≤q.untl)&&decide (q.untl≤2000000000))):=by unfold Hid;rw[HV.out,TT h4,TT h3];rfl
  have HH3:Hid (q.state=3):=h3;clear h3 HV;by_cases t0:0≤q.untl
  case neg=>
   have HX:Hid (ans=false):=by unfold Hid;rw[HV2.out,TR t0];simp
   have d0:decide (0≤q.untl)=false:=TR t0;go_wp2_with fail
   go_ret;exact⟨aB HX.out.symm,HZ.out⟩
  have d0:decide (0≤q.untl)=true:=TT t0;by_cases t1:q.untl≤2000000000
  case neg=>
   have HX:Hid (ans=false):=by unfold Hid;rw[HV2.out,TR t1];simp
   have d9:decide (q.untl≤2000000000)=false:=TR t1;go_wp2_with fail
   go_ret;exact⟨aB HX.out.symm,HZ.out⟩
  have d9:decide (q.untl≤2000000000)=true:=TT t1;have HX:Hid (ans=true):=by unfold Hid;rw[HV2.out,TT t0,TT t1];rfl
  go_wp2_with fail
  go_ret;exact⟨aB HX.out.symm,HZ.out⟩
 ·have e3:(q.state==3)=false:=by simp[h3]
  have HV2:Hid (ans=(!b3&&(decide (0≤q.untl)&&decide (q.untl≤2000000000)))):=by unfold Hid;rw[HV.out,TT h4,TR h3];rfl
  clear HV;go_wp2_with fail
  refine(HO.out _).mono ?_;rintro e W ⟨rfl,rfl⟩
  cases b3 with
  | true=>
   have HX:Hid (ans=false):=by unfold Hid;rw[HV2.out];rfl
   go_wp2_with fail
   go_ret;exact⟨aB HX.out.symm,HZ.out⟩
  | false=>
  by_cases t0:0≤q.untl
  case neg=>
   have HX:Hid (ans=false):=by unfold Hid;rw[HV2.out,TR t0];simp
   have d0:decide (0≤q.untl)=false:=TR t0;go_wp2_with fail
   go_ret;exact⟨aB HX.out.symm,HZ.out⟩
  have d0:decide (0≤q.untl)=true:=TT t0;by_cases t1:q.untl≤2000000000
  case neg=>
   have HX:Hid (ans=false):=by unfold Hid;rw[HV2.out,TR t1];simp
   have d9:decide (q.untl≤2000000000)=false:=TR t1;go_wp2_with fail
   go_ret;exact⟨aB HX.out.symm,HZ.out⟩
  have d9:decide (q.untl≤2000000000)=true:=TT t1;have HX:Hid (ans=true):=by unfold Hid;rw[HV2.out,TT t0,TT t1];rfl
  go_wp2_with fail
  go_ret;exact⟨aB HX.out.symm,HZ.out⟩
open Go.MapKept
open Go.Maps (Keyed)
def jP(P:Program)(k:TypeId)(w:World)(b:Nat)(M:Value→Option Value):Prop :=
 ∃es clock,w.heap[b]?=some (.map es clock)∧(∀e∈es.toList,∃l,keyOf P k e.key=some l)∧es.toList.Pairwise (fun x y=>x.key≠y.key)∧∀x v,M x=some v↔∃e∈es.toList,e.key=x∧e.val=v
section
variable {P:Program} {k t e:TypeId} {w W:World} {b:Nat} {M:Value→Option Value}
theorem jP.lt(h:jP P k w b M):b < w.heap.size:=by
 obtain⟨es,clock,hb,_⟩:=h;exact(UI.1 hb).1
theorem jP.of_block(h:jP P k w b M)(hb:W.heap[b]?=w.heap[b]?):jP P k W b M:=by
 obtain⟨es,clock,h1,h2⟩:=h;exact⟨es,clock,hb.trans h1,h2⟩
theorem jP.below(h:jP P k w b M)(hB:Below w.heap.size w W):jP P k W b M:=h.of_block (hB.block b h.lt)
theorem jP.grown{row:Option Nat}(h:jP P k w b M)(hg:w.grownBy W row)(hr:some b≠row):jP P k W b M:=h.of_block (hg.block b h.lt hr)
theorem jP.made(w:World):jP P k (w.alloc (.map #[] 0)) w.heap.size (fun _=>none) :=
 ⟨#[],0,heap_alloc_new w _,fun e he=>by simp at he,by simp,fun x v=>by simp⟩
theorem IQ(K:Keyed P k){es:List MapEntry}(hk:∀e∈es,∃l,keyOf P k e.key=some l)(hp:es.Pairwise fun x y=>x.key≠y.key)(hM:∀x v,M x=some v↔∃e∈es,e.key=x∧e.val=v){x:Value}{l:Lit}(hx:keyOf P k x=some l)(w:World) :
  ((Instr.findKey k x es).run P w=.ok none w∧M x=none∧∀e∈es,e.key≠x)∨∃j e,(Instr.findKey k x es).run P w=.ok (some (j,e.val)) w∧M x=some e.val∧es[j]?=some e∧e.key=x:=by
 rcases K.find w hx es hk with ⟨h1,h2⟩|⟨j,e,h1,h2,h3⟩
 ·refine .inl ⟨h1,?_,h2⟩
  cases hm:M x with
  | none=>rfl
  | some v=>
   obtain⟨e,he,hkx,_⟩:=(hM x v).1 hm;exact absurd hkx (h2 e he)
 ·exact .inr ⟨j,e,h1,(hM x e.val).2 ⟨e,List.mem_of_getElem? h2,h3,rfl⟩,h2,h3⟩
theorem jP.look(K:Keyed P k)(ht:P.underlying t=some (.map k e))(h:jP P k w b M){x z:Value}{l:Lit}(hx:keyOf P k x=some l)(hz:(zeroValue e).run P w=.ok z w) :
  (Instr.lookup t (.map (some b)) x false).run P w=.ok ((M x).getD z) w∧(Instr.lookup t (.map (some b)) x true).run P w=.ok (.tuple #[(M x).getD z,.bool (M x).isSome]) w:=by
 obtain⟨es,clock,hb,hk,hp,hM⟩:=h;rcases IQ K hk hp hM hx w with ⟨h1,h2,_⟩|⟨j,e0,h1,h2,_⟩
 ·constructor<;>simp[Instr.lookup,run_underlying ht,MapKept.run_getObj_map hb,K.check w _ hx,h1,h2,hz,Result.andThen]
 ·constructor<;>simp[Instr.lookup,run_underlying ht,MapKept.run_getObj_map hb,K.check w _ hx,h1,h2,hz,Result.andThen]
theorem tZ(w:World)(b:Nat)(o:Obj):w.grownBy { w with heap:=w.heap.setIfInBounds b o } (some b) :=
 ⟨rfl,rfl,rfl,by simp,fun k hk hne=>by
  show (w.heap.setIfInBounds b o)[k]?=w.heap[k]?;rw[Array.getElem?_setIfInBounds_ne (fun e=>hne (by rw[e]))]⟩
theorem BX(w:World){b:Nat}(o:Obj)(hb:b < w.heap.size):({ w with heap:=w.heap.setIfInBounds b o }:World).heap[b]?=some o:=by
 show (w.heap.setIfInBounds b o)[b]?=some o;simp[hb]
open Classical in
theorem jP.put(K:Keyed P k)(ht:P.underlying t=some (.map k e))(h:jP P k w b M){x v:Value}{l:Lit}(hx:keyOf P k x=some l) :
  ∃W M',(Instr.mapUpdate t (.map (some b)) x v).run P w=.ok () W∧jP P k W b M'∧M' x=some v∧(∀y,y≠x→M' y=M y)∧w.grownBy W (some b)∧W.heap.size=w.heap.size:=by
 have hlt:=h.lt;obtain⟨es,clock,hb,hk,hp,hM⟩:=h;rcases IQ K hk hp hM hx w with ⟨h1,h2,h3⟩|⟨j,e0,h1,h2,h3,h4⟩
 ·refine⟨{ w with heap:=w.heap.setIfInBounds b (.map (es.push ⟨x,v,clock⟩) (clock+1)) },fun y=>if y=x then some v else M y,?_,⟨_,_,BX w _ hlt,?_,?_,fun y u=>?_⟩,if_pos rfl,fun y hy=>if_neg hy,tZ w b _,by simp⟩
  ·simp[Instr.mapUpdate,run_underlying ht,MapKept.run_getObj_map hb,K.check w false hx,h1,MapKept.run_setObj_map _ hb,Result.andThen]
  ·intro y hy;simp only[Array.toList_push,List.mem_append,List.mem_singleton]at hy;rcases hy with hy|rfl
   ·exact hk y hy
   ·exact⟨l,hx⟩
  ·rw[Array.toList_push];refine List.pairwise_append.2 ⟨hp,by simp,fun a ha c hc=>?_⟩;obtain rfl:c=⟨x,v,clock⟩:=by simpa using hc
   exact h3 a ha
  ·rw[Array.toList_push];dsimp only;by_cases hy:y=x
   ·subst hy;rw[if_pos rfl];constructor
    ·intro hu;exact⟨⟨y,v,clock⟩,by simp,rfl,by simpa using hu⟩
    ·rintro⟨a,ha,ha1,ha2⟩;simp only[List.mem_append,List.mem_singleton]at ha;rcases ha with ha|rfl
     ·exact absurd ha1 (h3 a ha)
     ·simpa using ha2
   ·rw[if_neg hy,hM];constructor
    ·rintro⟨a,ha,ha1,ha2⟩;exact⟨a,by simp[ha],ha1,ha2⟩
    ·rintro⟨a,ha,ha1,ha2⟩;simp only[List.mem_append,List.mem_singleton]at ha;rcases ha with ha|rfl
     ·exact⟨a,ha,ha1,ha2⟩
     ·exact absurd ha1.symm hy
 ·have hj:es[j]?=some e0:=by simpa using h3
  have hjl:j < es.toList.length:=(List.getElem?_eq_some_iff.1 h3).1;have hlist:(es.modify j (fun e'=>{ e' with key:=x,val:=v })).toList=es.toList.set j { e0 with key:=x,val:=v }:=by rw[Array.toList_modify,Go.ChangeMaps.modify_eq_set _ _ _ _ h3]
  have hoth:∀i (hi:i < es.toList.length),i≠j→es.toList[i].key≠x:=fun i hi hne=>by
   have hje:es.toList[j].key=x:=by
    have:=(List.getElem?_eq_some_iff.1 h3).2;rw[this];exact h4
   rw[List.pairwise_iff_getElem]at hp;rcases Nat.lt_or_ge i j with hlt'|hge
   ·have:=hp i j hi hjl hlt';rw[hje]at this;exact this
   ·have:=hp j i hjl hi (by omega);rw[hje]at this;exact fun e=>this e.symm
  have who:∀y∈es.toList.set j { e0 with key:=x,val:=v },y={ e0 with key:=x,val:=v }∨(y∈es.toList∧y.key≠x):=by
   intro y hy;obtain⟨i,hi,ey⟩:=UN hy;rw[List.getElem_set]at ey;split at ey
   ·exact Or.inl ey.symm
   ·rename_i hne;have hi':i < es.toList.length:=by simpa using hi
    exact Or.inr ⟨ey ▸ TY hi',by rw[←ey];exact hoth i hi' (fun e=>hne e.symm)⟩
  have wo:∀y∈es.toList,y.key≠x→y∈es.toList.set j { e0 with key:=x,val:=v }:=by
   intro y hy hne;obtain⟨i,hi,ey⟩:=UN hy;have hij:i≠j:=fun e=>by
    subst e;have:=(List.getElem?_eq_some_iff.1 h3).2;rw[ey]at this;rw[this]at hne;exact hne h4
   exact List.mem_iff_getElem.2 ⟨i,by simpa using hi,by rw[List.getElem_set_ne (fun e=>hij e.symm)];exact ey⟩
  refine⟨{ w with heap:=w.heap.setIfInBounds b (.map (es.modify j fun e'=>{ e' with key:=x,val:=v }) clock) },fun y=>if y=x then some v else M y,?_,⟨_,_,BX w _ hlt,?_,?_,fun y u=>?_⟩,if_pos rfl,fun y hy=>if_neg hy,tZ w b _,by simp⟩
  ·simp[Instr.mapUpdate,run_underlying ht,MapKept.run_getObj_map hb,K.check w false hx,h1,hj,h4,K.stays w hx,MapKept.run_setObj_map _ hb,Result.andThen]
  ·rw[hlist];intro y hy;rcases who y hy with rfl|⟨hy',_⟩
   ·exact⟨l,hx⟩
   ·exact hk y hy'
  ·rw[hlist,List.pairwise_iff_getElem];intro p q hpl hql hpq;rw[List.length_set]at hpl hql;rw[List.getElem_set,List.getElem_set];by_cases e1:j=p
   ·subst e1;rw[if_pos rfl,if_neg (by omega)];exact fun e=>hoth q hql (by omega) e.symm
   ·rw[if_neg e1];by_cases e2:j=q
    ·subst e2;rw[if_pos rfl];exact hoth p hpl (fun e=>e1 e.symm)
    ·rw[if_neg e2];exact(List.pairwise_iff_getElem.1 hp) p q hpl hql hpq
  ·rw[hlist];dsimp only;by_cases hy:y=x
   ·subst hy;rw[if_pos rfl];constructor
    ·intro hu;exact⟨{ e0 with key:=y,val:=v },List.mem_iff_getElem.2 ⟨j,by simpa using hjl,by simp⟩,rfl,by simpa using hu⟩
    ·rintro⟨a,ha,ha1,ha2⟩;rcases who a ha with rfl|⟨_,hne⟩
     ·simpa using ha2
     ·exact absurd ha1 hne
   ·rw[if_neg hy,hM];constructor
    ·rintro⟨a,ha,ha1,ha2⟩;exact⟨a,wo a ha (by rw[ha1];exact hy),ha1,ha2⟩
    ·rintro⟨a,ha,ha1,ha2⟩;rcases who a ha with rfl|⟨ha',_⟩
     ·exact absurd ha1.symm hy
     ·exact⟨a,ha',ha1,ha2⟩
open Classical in
end
theorem nH{P:Program}{o:Oper}{a:Act}{w:World}{v1 v2 v':Value}{K:Act→World→Prop}{Q:Exit→Act→World→Prop}(t:TypeId)(x ix:Operand)(ok:Bool)(hop:o.op=Op.lookup t x ix ok)
  (hs:a.eval x=v1) (hx:a.eval ix=v2) (hrun:(Instr.lookup t v1 v2 ok).run P w=.ok v' w) (hK:K (a.put o.dst v') w):Oper.wp P o a w K Q:=by
 unfold Oper.wp;simp[execOp,hop,hs,hx,hrun,Result.andThen];exact hK
theorem iS{P:Program}{ops:Array Oper}{rest:List Oper}{o:Oper}{a:Act}{w:World}{v1 v2 v':Value}{Q:Exit→Act→World→Prop}(hg:o.guard=none)(t:TypeId)(x ix:Operand)(ok:Bool)(hop:o.op=Op.lookup t x ix ok)
  (hs:a.eval x=v1) (hx:a.eval ix=v2) (hrun:(Instr.lookup t v1 v2 ok).run P w=.ok v' w) (hK:wpList P ops Q rest (a.put o.dst v') w):wpList P ops Q (o::rest) a w :=
 wpList_plain hg fun K hK'=>nH t x ix ok hop hs hx hrun (hK' _ _ hK)
theorem wZ{P:Program}{o:Oper}{a:Act}{w w':World}{v1 v2 v3:Value}{K:Act→World→Prop}{Q:Exit→Act→World→Prop}(t:TypeId)(m x y:Operand)(hop:o.op=Op.mapUpdate t m x y)
  (hm:a.eval m=v1) (hx:a.eval x=v2) (hy:a.eval y=v3) (hrun:(Instr.mapUpdate t v1 v2 v3).run P w=.ok () w') (hK:K (a.put o.dst undef) w'):Oper.wp P o a w K Q:=by
 unfold Oper.wp;simp[execOp,hop,hm,hx,hy,hrun,Result.andThen];exact hK
def CF(pa:OA)(pc:Nat)(p:Pl)(a b:OA)(ca cb:Nat)(x:Bb)(m1 m2:Nat):Value:=.agg (iF pa pc p a ca b cb x m1 m2).toArray
def qU(e:En):Prop:=e.addr.size≤1048576∧gO e.UU∧gO e.port
def fJ(q:Bd):Prop:=q.inn.size≤1048576∧q.out.size≤1048576∧gO q.UU∧gO q.UW∧gO q.UX
def iM(s:Ss):Prop:=s.inn.size≤1048576∧s.peer.size≤1048576∧gO s.UU∧gO s.UW
theorem vS{q:Bd}(h:fJ q):qU (bN q):=⟨h.1,h.2.2.1,h.2.2.2.1⟩
theorem DG{q:Bd}(h:fJ q):qU (iY q):=⟨h.2.1,h.2.2.1,h.2.2.2.2⟩
theorem MZ{s:Ss}(h:iM s):qU (gT s):=⟨h.1,h.2.2.1,h.2.2.2⟩
theorem wF(q p:En):bU q p=true↔q=p:=by
 rw[mJ];simp only[TP,TU];constructor
 ·rintro⟨⟨h1,h2⟩,h3⟩;have h4:q.addr=p.addr:=by
   rw[ByteArray.toList_eq,ByteArray.toList_eq]at h2;apply ByteArray.ext;exact Array.toList_inj.1 h2
  cases q;cases p;simp_all
 ·rintro rfl;simp
theorem OG{q p:En}(h:qV q=qV p):q=p:=by
 unfold qV at h;simp at h
 cases q;cases p;simp_all
theorem iU{α:Type}(f:α→Bool)(xs:List α):(xs.find? f).isSome=xs.any f:=by
 rw[Bool.eq_iff_iff,List.find?_isSome,List.any_eq_true]
theorem pP:Keyed Tryz.prog 86:=Keyed.of_law (deep_law_gate (by kernel_rfl) (of_decide_eq_true (by kernel_rfl)) (of_decide_eq_true (by kernel_rfl)) (by kernel_rfl) (by kernel_rfl))
theorem PN{n:Int}(h:gO n):(Lit.int .i64 n).wf=true:=by
 simp[Lit.wf];exact⟨h.1,h.2⟩
theorem pN(e:En)(h:qU e):∃l,keyOf Tryz.prog 86 (qV e)=some l:=by
 obtain⟨h1,h3,h4⟩:=h;have h1:e.addr.size≤maxLen:=by unfold maxLen;omega
 have k1:Tryz.prog.keyType 86=true:=by kernel_rfl
 have k2:Tryz.prog.cellsOf 86=3:=by kernel_rfl
 have k3:Tryz.prog.cellsOf 9=1:=by kernel_rfl
 have k4:Tryz.prog.cellsOf 2=1:=by kernel_rfl
 have k5:∃m,Tryz.prog.types.size+1=m+2:=⟨Tryz.prog.types.size-1,by have:1≤Tryz.prog.types.size:=of_decide_eq_true (by kernel_rfl);omega⟩;obtain⟨m,k5⟩:=k5;have w3:=PN h3;have w4:=PN h4;unfold keyOf;rw[Tryz.underlying86];simp only[k1,Value.formed,qV,Tryz.underlying86,k2,Value.cells,k5];simp[Program.keyLits,Tryz.underlying86,Tryz.underlying9,Tryz.underlying2,k2,k3,k4,h1,w3,w4]
theorem BP(w:World):(zeroValue 48).run Tryz.prog w=.ok (jI lT) w:=by kernel_rfl
structure PQ(w:World)(m1 m2:Nat)(xs ys:List Bd)(M1 M2:Value→Option Value):Prop where
 h1:jP Tryz.prog 86 w m1 M1
 h2:jP Tryz.prog 86 w m2 M2
 v1:∀e:En,M1 (qV e)=(xs.find? fun q=>bU (bN q) e).map jI
 v2:∀e:En,M2 (qV e)=(ys.find? fun q=>bU (iY q) e).map jI
 ne:m1≠m2
def dF(w:World)(m1 m2:Nat)(xs ys:List Bd):Prop:=∃M1 M2,PQ w m1 m2 xs ys M1 M2
section
variable {w W:World} {m1 m2:Nat} {xs ys:List Bd}
theorem dF.kept(h:dF w m1 m2 xs ys)(hb:Below w.heap.size w W):dF W m1 m2 xs ys:=by
 obtain⟨M1,M2,h⟩:=h;exact⟨M1,M2,h.h1.below hb,h.h2.below hb,h.v1,h.v2,h.ne⟩
theorem dF.lt(h:dF w m1 m2 xs ys):m1 < w.heap.size∧m2 < w.heap.size∧m1≠m2:=by
 obtain⟨M1,M2,h⟩:=h;exact⟨h.h1.lt,h.h2.lt,h.ne⟩
theorem dF.made{w:World}:dF ((w.alloc (.map #[] 0)).alloc (.map #[] 0)) w.heap.size (w.heap.size+1) [] []:=by
 have h2:=jP.made (P:=Tryz.prog) (k:=86) (w.alloc (.map #[] 0));rw[TQ]at h2;refine⟨fun _=>none,fun _=>none,(jP.made w).below (bR.alloc lR _),h2,fun e=>rfl,fun e=>rfl,by omega⟩
theorem AJ(o:Option Bd):(o.map jI).getD (jI lT)=jI (o.getD lT):=by cases o<;>rfl
theorem dF.look1(h:dF w m1 m2 xs ys){e:En}(he:qU e):(Instr.lookup 137 (.map (some m1)) (qV e) true).run Tryz.prog w=.ok (.tuple #[jI ((xs.find? fun q=>bU (bN q) e).getD lT),.bool (xs.find? fun q=>bU (bN q) e).isSome]) w:=by
 obtain⟨M1,M2,h⟩:=h;obtain⟨l,hl⟩:=pN e he;have h1:=(h.h1.look (t:=137) pP Tryz.underlying137 hl (BP w)).2;rw[h.v1,AJ,Option.isSome_map]at h1;exact h1
theorem dF.get1(h:dF w m1 m2 xs ys){e:En}(he:qU e):(Instr.lookup 137 (.map (some m1)) (qV e) false).run Tryz.prog w=.ok (jI ((xs.find? fun q=>bU (bN q) e).getD lT)) w:=by
 obtain⟨M1,M2,h⟩:=h;obtain⟨l,hl⟩:=pN e he;have h1:=(h.h1.look (t:=137) pP Tryz.underlying137 hl (BP w)).1;rw[h.v1,AJ]at h1;exact h1
theorem dF.look2(h:dF w m1 m2 xs ys){e:En}(he:qU e):(Instr.lookup 137 (.map (some m2)) (qV e) true).run Tryz.prog w=.ok (.tuple #[jI ((ys.find? fun q=>bU (iY q) e).getD lT),.bool (ys.find? fun q=>bU (iY q) e).isSome]) w:=by
 obtain⟨M1,M2,h⟩:=h;obtain⟨l,hl⟩:=pN e he;have h1:=(h.h2.look (t:=137) pP Tryz.underlying137 hl (BP w)).2;rw[h.v2,AJ,Option.isSome_map]at h1;exact h1
theorem yB(E:Bd→En)(xs:List Bd)(q:Bd)(hn:xs.any (fun c=>bU (E c) (E q))=false)(M M':Value→Option Value)(hM:∀e:En,M (qV e)=(xs.find? fun c=>bU (E c) e).map jI)(h1:M' (qV (E q))=some (jI q))(h2:∀y,y≠qV (E q)→M' y=M y)(e:En):M' (qV e)=((xs++[q]).find? fun c=>bU (E c) e).map jI:=by
 rw[List.find?_append];by_cases he:e=E q
 ·subst he;have h0:xs.find? (fun c=>bU (E c) (E q))=none:=List.find?_eq_none.2 (fun c hc=>List.any_eq_false.1 hn c hc);have hs:bU (E q) (E q)=true:=(wF _ _).2 rfl;rw[h0,h1];simp[hs]
 ·have hs:bU (E q) e=false:=by
   cases h:bU (E q) e with
   | false=>rfl
   | true=>exact absurd ((wF _ _).1 h).symm he
  rw[h2 _ (fun h=>he (OG h)),hM];simp[hs]
theorem dF.put1(h:dF w m1 m2 xs ys){q:Bd}(hq:qU (bN q))(hn:xs.any (fun c=>bU (bN c) (bN q))=false) :
  ∃W,(Instr.mapUpdate 137 (.map (some m1)) (qV (bN q)) (jI q)).run Tryz.prog w=.ok () W∧dF W m1 m2 (xs++[q]) ys∧w.grownBy W (some m1):=by
 obtain⟨M1,M2,h⟩:=h;obtain⟨l,hl⟩:=pN _ hq;obtain⟨W,M',hup,hM',hx,hoth,hg,hs⟩:=h.h1.put (v:=jI q) pP Tryz.underlying137 hl;exact⟨W,hup,⟨M',M2,hM',h.h2.grown hg (by simp;exact fun e=>h.ne e.symm),yB bN xs q hn M1 M' h.v1 hx hoth,h.v2,h.ne⟩,hg⟩
theorem dF.put2(h:dF w m1 m2 xs ys){q:Bd}(hq:qU (iY q))(hn:ys.any (fun c=>bU (iY c) (iY q))=false) :
  ∃W,(Instr.mapUpdate 137 (.map (some m2)) (qV (iY q)) (jI q)).run Tryz.prog w=.ok () W∧dF W m1 m2 xs (ys++[q])∧w.grownBy W (some m2):=by
 obtain⟨M1,M2,h⟩:=h;obtain⟨l,hl⟩:=pN _ hq;obtain⟨W,M',hup,hM',hx,hoth,hg,hs⟩:=h.h2.put (v:=jI q) pP Tryz.underlying137 hl;exact⟨W,hup,⟨M1,M',h.h1.grown hg (by simp;exact h.ne),hM',h.v1,yB iY ys q hn M2 M' h.v2 hx hoth,h.ne⟩,hg⟩
end
def LG(base:Nat):Value→World→Prop:=fun v w=>∃g,v=.pointer (some ⟨g,0,none⟩)∧base≤g∧aA w g (eG lT)
theorem uO(base:Nat):eZ (LG base):=fun v w w' ⟨g,h1,h2,h3⟩ hb=>⟨g,h1,h2,h3.kept (by simp[eG]) hb⟩
theorem AA(p:Pl)(a:OA)(cap:Nat)(w:World)(hl:p.VA.length≤1048576)(hcap:p.VA.length≤cap)(hsz:∀s∈p.VA,s.size≤1048576)(hr:bP bX 1 w a p.VA) :
  Cb 132 #[jQ a cap p] w (.bool (cT p)):=by
 have hun:undef=Value.tuple #[]:=rfl;have GA:Hid (Below w.heap.size w (w.alloc (.cells (bM a cap p).toArray 27))):=bR.alloc lR _;have H0:Hid (aA (w.alloc (.cells (bM a cap p).toArray 27)) w.heap.size (bM a cap p)):=aA.new w (bM a cap p) 27;have HA:Hid (∀W,Below w.heap.size w W→Cb 163 #[.slice a p.VA.length cap] W (.bool (wB p.VA))):=fun W hW=>xR p.VA a cap W hl hcap hsz (hr.below hW)
 have HL:Hid (∀W,Cb 147 #[xS p.lv] W (.bool (fR p.lv))):=fun W=>qX p.lv W
 have HV:Hid (cT p=(wB p.VA&&decide (1≤p.low)&&decide (p.low≤p.high)&&decide (p.high≤65535)&&decide (1≤p.most)&&decide (p.most≤60)&&decide (0≤p.filter)&&decide (p.filter≤2)&&fR p.lv)):=by
  unfold Hid cT wB aM;generalize fR p.lv=x1;generalize jT eV p.VA p.VA.length=x2;rw[Bool.eq_iff_iff];simp only[TP];constructor
  ·intro h;simp_all
  ·intro h;simp_all
 generalize cT p=ans at *;generalize wB p.VA=bA at *;generalize fR p.lv=bL at *;clear hr hsz;unfold jQ;unfold xS at HL;go_enter Tryz.func132,Tryz.ntmps132
 go_wp2_with fail
 refine(HA.out _ GA.out).mono ?_;rintro e w1 ⟨rfl,q1⟩;have G1:Hid _:=GA.out.trans (q1.mono GA.out.size);have K1:=H0.out.kept (by simp) q1;obtain⟨k0,k1,k2,k3,k4,k5,k6,k7,k8,k9⟩:=K1.c10;clear q1 K1 H0 GA HA
 cases bA with
 | false=>
  have HX:Hid (ans=false):=by unfold Hid;rw[HV.out];simp
  go_wp2_with fail
  go_ret;exact⟨aB HX.out.symm,G1.out⟩
 | true=>
  by_cases t0:1≤p.low
  case neg=>
   have HX:Hid (ans=false):=by unfold Hid;rw[HV.out,TR t0];simp
   have d0:decide (1≤p.low)=false:=TR t0;go_wp2_with fail
   go_ret;exact⟨aB HX.out.symm,G1.out⟩
  have d0:decide (1≤p.low)=true:=TT t0;by_cases t1:p.low≤p.high
  case neg=>
   have HX:Hid (ans=false):=by unfold Hid;rw[HV.out,TR t1];simp
   have d1:decide (p.low≤p.high)=false:=TR t1;go_wp2_with fail
   go_ret;exact⟨aB HX.out.symm,G1.out⟩
  have d1:decide (p.low≤p.high)=true:=TT t1;by_cases t2:p.high≤65535
  case neg=>
   have HX:Hid (ans=false):=by unfold Hid;rw[HV.out,TR t2];simp
   have d2:decide (p.high≤65535)=false:=TR t2;go_wp2_with fail
   go_ret;exact⟨aB HX.out.symm,G1.out⟩
  have d2:decide (p.high≤65535)=true:=TT t2;by_cases t3:1≤p.most
  case neg=>
   have HX:Hid (ans=false):=by unfold Hid;rw[HV.out,TR t3];simp
   have d3:decide (1≤p.most)=false:=TR t3;go_wp2_with fail
   go_ret;exact⟨aB HX.out.symm,G1.out⟩
  have d3:decide (1≤p.most)=true:=TT t3;by_cases t4:p.most≤60
  case neg=>
   have HX:Hid (ans=false):=by unfold Hid;rw[HV.out,TR t4];simp
   have d4:decide (p.most≤60)=false:=TR t4;go_wp2_with fail
   go_ret;exact⟨aB HX.out.symm,G1.out⟩
  have d4:decide (p.most≤60)=true:=TT t4;by_cases t5:0≤p.filter
  case neg=>
   have HX:Hid (ans=false):=by unfold Hid;rw[HV.out,TR t5];simp
   have d5:decide (0≤p.filter)=false:=TR t5;go_wp2_with fail
   go_ret;exact⟨aB HX.out.symm,G1.out⟩
  have d5:decide (0≤p.filter)=true:=TT t5;by_cases t6:p.filter≤2
  case neg=>
   have HX:Hid (ans=false):=by unfold Hid;rw[HV.out,TR t6];simp
   have d6:decide (p.filter≤2)=false:=TR t6;go_wp2_with fail
   go_ret;exact⟨aB HX.out.symm,G1.out⟩
  have d6:decide (p.filter≤2)=true:=TT t6;have HX:Hid (ans=bL):=by unfold Hid;rw[HV.out,TT t0,TT t1,TT t2,TT t3,TT t4,TT t5,TT t6];rfl
  go_wp2_with fail
  refine(HL.out _).mono ?_;rintro e w2 ⟨rfl,q2⟩;have G2:Hid _:=G1.out.trans (q2.mono G1.out.size);clear q2;go_wp2_with fail
  go_ret;exact⟨aB HX.out.symm,G2.out⟩
end Go.Proofs.YtdkepkaflielhaaGreatDoor
