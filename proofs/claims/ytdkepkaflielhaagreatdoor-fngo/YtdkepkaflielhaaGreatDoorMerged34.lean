import Derived.Test.YtdkepkaflielhaaGreatDoorMerged14
import Derived.ChangeSame
import Derived.Lib.LaidTab
set_option linter.unusedVariables false
set_option linter.unusedSimpArgs false
set_option maxRecDepth 100000
set_option maxHeartbeats 8000000
namespace Go.Proofs.YtdkepkaflielhaaGreatDoor
open Go.RowKit
theorem zJ{w:World}{a:OA}{len cap:Nat}{zs:List Int}
  (h:(a=none∧len=0∧cap=0∧zs=[])∨∃x,a=some x∧len≤cap∧cap≤maxLen∧zs.length=cap∧(∀i,i < zs.length→w.cell? (x.add i)=some (.int .u8 (zs.getD i 0)))∧∀n∈zs,(Lit.int .u8 n).wf=true) :
  mL w a len w.heap.size:=by
 refine⟨fun i hi=>?_⟩;rcases h with ⟨_,h0,_⟩|⟨⟨b,off,spot⟩,rfl,hl,_,hz,hc,hw⟩
 ·omega
 ·have hci:=hc i (by omega);have hsp:spot=none:=by
   have:=hc 0 (by omega);simpa[Addr.add] using World.cell?_spot this
  subst hsp;have hwf:=hw (zs.getD i 0) (by rw[List.getD,UJ (by omega)];exact TY _);have hbd:0≤zs.getD i 0∧zs.getD i 0≤255:=by simpa[Lit.wf,IntKind.min,IntKind.max,IntKind.signed,IntKind.bits] using hwf
  have hci':w.cell? ⟨b,off+i,none⟩=some (.int .u8 (zs.getD i 0)):=by
   have e:Addr.add ⟨b,off,none⟩ i=⟨b,off+i,none⟩:=by simp only[Addr.add];split<;>simp_all
   rw[←e];exact hci
  exact⟨b,off,rfl,UH w _ hci',zs.getD i 0,hbd.1,hbd.2,hci'⟩
open Go.ChangeShapes Go.WideShapes Go.ChangeShapes
def DN{H:Type}(z:Int × Int):DataW H:=.agg [.lit (.int .i64 z.1),.lit (.int .i64 z.2)]
theorem vL{H:Type}{enc:TypeId × Value→H}{P:Program}{w:World}{base:Nat}{sp:Nat→Bool}{held:Bool}{fuel:Nat}{t e ty:TypeId}{n:Nat}{f0 f1:Field}{cs:List Value}{zs:List (Int × Int)}{p:List MemPlace}
  (ht:P.underlying t=some (.array n e)) (he:P.underlying e=some (.struct #[f0,f1])) (h0:f0.offset=0) (h1:f1.offset=1) (t0:f0.type=ty) (t1:f1.type=ty) (hty:P.underlying ty=some (.int .i64)) (hc1:P.cellsOf ty=1) (hce:P.cellsOf e=2)
  (h:DataW.trod enc P w base sp held fuel t cs=some (.agg (zs.map DN),p)) (i:Nat) (z:Int × Int) (hz:zs[i]?=some z):cs[2*i]?=some (.int .i64 z.1)∧cs[2*i+1]?=some (.int .i64 z.2):=by
 obtain⟨xs,m,_,hx,jJ,hn,hel⟩:=DataW.trod_array ht h;have hxs:xs.map (·.1)=zs.map DN:=by
  have:=congrArg Prod.fst hx;simpa using this.symm
 have hi:i < zs.length:=(List.getElem?_eq_some_iff.1 hz).1;have hl:xs.length=zs.length:=by have:=congrArg List.length hxs;simpa using this
 have hxi:i < xs.length:=by omega
 have h2:=hel i (by omega);rw[UJ hxi,hce]at h2;obtain⟨y0,y1,k,hy,_,g0,g1⟩:=trod_struct2 he h2;rw[h0,t0,hc1]at g0;rw[h1,t1,hc1]at g1;obtain⟨a,ea,da,_⟩:=DataW.trod_int hty g0;obtain⟨b,eb,db,_⟩:=DataW.trod_int hty g1;have hd:(xs[i]).1=DN z:=by
  have:=congrArg (fun l=>l[i]?) hxs;simp only[List.getElem?_map,UJ hxi,hz,Option.map_some]at this;exact Option.some.inj this
 rw[hy,da,db]at hd;unfold DN at hd;simp only[DataW.agg.injEq,List.cons.injEq,DataW.lit.injEq,Lit.int.injEq,true_and,and_true]at hd;obtain⟨rfl,rfl⟩:=hd;have ea':=congrArg (fun l=>l[0]?) ea;have eb':=congrArg (fun l=>l[0]?) eb;simp[List.getElem?_take,List.getElem?_drop]at ea' eb';exact⟨by rw[Nat.mul_comm];exact ea',by rw[Nat.mul_comm];exact eb'⟩
theorem KV{P:Program}{W:World}{name:String}{zs:List (Int × Int)}{rest:List (String × DataW Unit)}{g:Nat}{t e ty:TypeId}{n:Nat}{f0 f1:Field}
  (hg:P.globalNamed name=some g) (hgt:(P.globals[g]?).map (·.type)=some t) (ht:P.underlying t=some (.array n e)) (he:P.underlying e=some (.struct #[f0,f1])) (h0:f0.offset=0) (h1:f1.offset=1) (t0:f0.type=ty) (t1:f1.type=ty) (hty:P.underlying ty=some (.int .i64)) (hc1:P.cellsOf ty=1) (hce:P.cellsOf e=2)
  (h:laidMet P ((name,.agg (zs.map DN))::rest) W) (i:Nat) (z:Int × Int) (hz:zs[i]?=some z):W.cell? ⟨g,2*i,none⟩=some (.int .i64 z.1)∧W.cell? ⟨g,2*i+1,none⟩=some (.int .i64 z.2):=by
 obtain⟨ps,⟨g',t',cs,fuel,p,q,hg',ht',hvar,hd,_,_⟩,_⟩:=h;obtain rfl:=Option.some.inj (hg.symm.trans hg');obtain rfl:=Option.some.inj (hgt.symm.trans ht');obtain⟨c0,c1⟩:=vL ht he h0 h1 t0 t1 hty hc1 hce hd i z hz;have v0:=World.var?_cell hg hvar (2*i);have v1:=World.var?_cell hg hvar (2*i+1);exact⟨by rw[v0];simpa using c0,by rw[v1];simpa using c1⟩
end Go.Proofs.YtdkepkaflielhaaGreatDoor
