import Derived.Test.YtdkepkaflielhaaGreatDoorAb
import Derived.Test.YtdkepkaflielhaaGreatDoorFlat
import Derived.OpenShut
import Derived.ChangeSame
import Derived.Lib.LaidTab
set_option linter.unusedVariables false
set_option linter.unusedSimpArgs false
set_option maxRecDepth 100000
set_option maxHeartbeats 8000000
namespace Go.Proofs.YtdkepkaflielhaaGreatDoor
open Go.RowKit Go.ChangeShapes Go.WideShapes Go.ChangeShapes
def pairD {H:Type} (z:Int × Int):DataW H:=.agg [.lit (.int .i64 z.1),.lit (.int .i64 z.2)]
theorem cells_of_pairs {H:Type} {enc:TypeId × Value→H} {P:Program} {w:World} {base:Nat} {sp:Nat→Bool} {held:Bool} {fuel:Nat} {t e ty:TypeId} {n:Nat} {f0 f1:Field} {cs:List Value} {zs:List (Int × Int)} {p:List MemPlace}
  (ht:P.underlying t=some (.array n e)) (he:P.underlying e=some (.struct #[f0,f1])) (h0:f0.offset=0) (h1:f1.offset=1) (t0:f0.type=ty) (t1:f1.type=ty) (hty:P.underlying ty=some (.int .i64)) (hc1:P.cellsOf ty=1) (hce:P.cellsOf e=2)
  (h:DataW.trod enc P w base sp held fuel t cs=some (.agg (zs.map pairD),p)) (i:Nat) (z:Int × Int) (hz:zs[i]?=some z):cs[2*i]?=some (.int .i64 z.1)∧cs[2*i+1]?=some (.int .i64 z.2):=by
 obtain ⟨xs,m,_,hx,hlen,hn,hel⟩:=DataW.trod_array ht h;have hxs:xs.map (·.1)=zs.map pairD:=by
  have:=congrArg Prod.fst hx;simpa using this.symm
 have hi:i < zs.length:=(List.getElem?_eq_some_iff.1 hz).1;have hl:xs.length=zs.length:=by have:=congrArg List.length hxs; simpa using this
 have hxi:i < xs.length:=by omega
 have h2:=hel i (by omega);rw [List.getElem?_eq_getElem hxi,hce] at h2;obtain ⟨y0,y1,k,hy,_,g0,g1⟩:=trod_struct2 he h2;rw [h0,t0,hc1] at g0;rw [h1,t1,hc1] at g1;obtain ⟨a,ea,da,_⟩:=DataW.trod_int hty g0;obtain ⟨b,eb,db,_⟩:=DataW.trod_int hty g1;have hd:(xs[i]).1=pairD z:=by
  have:=congrArg (fun l=>l[i]?) hxs;simp only [List.getElem?_map,List.getElem?_eq_getElem hxi,hz,Option.map_some] at this;exact Option.some.inj this
 rw [hy,da,db] at hd;unfold pairD at hd;simp only [DataW.agg.injEq,List.cons.injEq,DataW.lit.injEq,Lit.int.injEq,true_and,and_true] at hd;obtain ⟨rfl,rfl⟩:=hd;have ea':=congrArg (fun l=>l[0]?) ea;have eb':=congrArg (fun l=>l[0]?) eb;simp [List.getElem?_take,List.getElem?_drop] at ea' eb';exact ⟨by rw [Nat.mul_comm]; exact ea',by rw [Nat.mul_comm]; exact eb'⟩
theorem var_pairs {P:Program} {W:World} {name:String} {zs:List (Int × Int)} {rest:List (String × DataW Unit)} {g:Nat} {t e ty:TypeId} {n:Nat} {f0 f1:Field}
  (hg:P.globalNamed name=some g) (hgt:(P.globals[g]?).map (·.type)=some t) (ht:P.underlying t=some (.array n e)) (he:P.underlying e=some (.struct #[f0,f1])) (h0:f0.offset=0) (h1:f1.offset=1) (t0:f0.type=ty) (t1:f1.type=ty) (hty:P.underlying ty=some (.int .i64)) (hc1:P.cellsOf ty=1) (hce:P.cellsOf e=2)
  (h:laidMet P ((name,.agg (zs.map pairD))::rest) W) (i:Nat) (z:Int × Int) (hz:zs[i]?=some z):W.cell? ⟨g,2*i,none⟩=some (.int .i64 z.1)∧W.cell? ⟨g,2*i+1,none⟩=some (.int .i64 z.2):=by
 obtain ⟨ps,⟨g',t',cs,fuel,p,q,hg',ht',hvar,hd,_,_⟩,_⟩:=h;obtain rfl:=Option.some.inj (hg.symm.trans hg');obtain rfl:=Option.some.inj (hgt.symm.trans ht');obtain ⟨c0,c1⟩:=cells_of_pairs ht he h0 h1 t0 t1 hty hc1 hce hd i z hz;have v0:=World.var?_cell hg hvar (2*i);have v1:=World.var?_cell hg hvar (2*i+1);exact ⟨by rw [v0]; simpa using c0,by rw [v1]; simpa using c1⟩
end Go.Proofs.YtdkepkaflielhaaGreatDoor
