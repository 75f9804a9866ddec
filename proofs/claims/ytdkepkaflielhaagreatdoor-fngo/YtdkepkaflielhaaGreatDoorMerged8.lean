import Derived.Shelf.LaysM
import Derived.Shelf.Strconv.Clone
import Derived.Test.YtdkepkaflielhaaGreatDoorMerged7
set_option linter.unusedVariables false
set_option linter.unusedSimpArgs false
set_option maxRecDepth 100000
set_option maxHeartbeats 8000000
namespace Go.Proofs.YtdkepkaflielhaaGreatDoor
open Go.RowKit
theorem gV{α:Type}{f:List α→α→Bool}{xs:List α}:jT f xs xs.length=true↔∀i (h:i < xs.length),f (xs.take i) xs[i]=true:=by
 constructor
 ·intro h i hi
  cases hf:f (xs.take i) xs[i] with
  | true=>rfl
  | false=>rw[rV hi hf]at h;exact h
 ·intro h;have key:∀n,n≤xs.length→jT f xs n=true:=by
   intro n;induction n with
   | zero=>intro _;rfl
   | succ n ih=>intro hn;rw[lS (by omega),ih (by omega),h n (by omega)];rfl
  exact key _ lR
theorem mG{α:Type}(f:α→Bool)(xs:List α):decide (0≤bG f xs)=xs.any f:=by
 unfold bG
 cases h:xs.findIdx? f with
 | none=>
  have h2:=List.findIdx?_eq_none_iff.1 h;have:xs.any f=false:=by rw[List.any_eq_false];intro x hx;simp[h2 x hx]
  rw[this];rfl
 | some i=>
  obtain⟨hi,hfi,_⟩:=List.findIdx?_eq_some_iff_getElem.1 h;have:xs.any f=true:=List.any_eq_true.2 ⟨_,TY hi,hfi⟩;rw[this];simp
theorem sM{α:Type}{xs:List α}{i:Nat}{c:α}(h:c∈xs.take i):∃k,∃hk:k < xs.length,k < i∧xs[k]=c:=by
 obtain⟨k,hk,rfl⟩:=UN h;rw[List.length_take]at hk;exact⟨k,by omega,by omega,by simp⟩
theorem qE{α:Type}{xs:List α}{i k:Nat}(hk:k < xs.length)(hi:k < i):xs[k]∈xs.take i:=by
 rw[List.mem_iff_getElem];exact⟨k,by simp;omega,by simp⟩
def lU(p:Pl)(b:Bb)(ys:List Bd)(x:Bd):Bool:=eP x.UU&&cI x.inn&&jS x.UW&&nL p.VA x.out&&aM x.UX p.low p.high&&!(ys.any (cD x.UU x.inn x.UW))&&!(ys.any (dE x.UU x.out x.UX))&&decide ((dQ b.VC ⟨#[]⟩ x.inn).toList=x.out.toList)&&b.UZ.any (gY x)
def sQ(s:Ss):Bool:=decide (s.peer.size=4)&&jS s.UV&&aM s.state 1 7&&(decide (s.state=3)||!cY s.UU)&&aM s.untl 0 2000000000
def nF(b:Bb)(ys:List Ss)(s:Ss):Bool:=b.VC.any (cD s.UU s.inn s.UW)&&sQ s&&!(ys.any fun t=>gS s t)
def cS(p:Pl)(b:Bb):Bool:=cT p&&decide ((b.UZ.length:Int)≤p.most)&&decide (b.VC.length≤b.UZ.length)&&jT (lU p b) b.VC b.VC.length&&jT (nF b) b.UZ b.UZ.length
theorem yQ{p:Pl}(h:cT p=true):1≤p.most∧p.most≤60:=by
 unfold cT at h;simp only[TP]at h;exact eD h.1.1.1.2
theorem DJ{α:Type}[DecidableEq α]:∀ {xs ys:List α},xs.Nodup→(∀x∈xs,x∈ys)→xs.length≤ys.length
 | [],ys,_,_=>UR _
 | x::xs,ys,hn,hs=>by
  have hx:x∈ys:=hs x (by simp);have h1:=DJ (xs:=xs) (ys:=ys.erase x) (List.nodup_cons.1 hn).2 (fun y hy=>by
   have hne:y≠x:=fun e=>by subst e;exact(List.nodup_cons.1 hn).1 hy
   exact(List.mem_erase_of_ne hne).2 (hs y (by simp[hy])))
  rw[List.length_erase_of_mem hx]at h1;have:0 < ys.length:=List.length_pos_of_mem hx;simp;omega
def rI(x:Bd):Int × List UInt8 × Int:=(x.UU,x.inn.toList,x.UW)
def pO(s:Ss):Int × List UInt8 × Int:=(s.UU,s.inn.toList,s.UW)
theorem OO{x:Bd}{s:Ss}(h:gY x s=true):rI x=pO s:=by
 unfold gY at h;simp only[TP,TU]at h;unfold rI pO;rw[h.1.1,h.1.2,h.2]
theorem CH{c b:Bd}(h:cD b.UU b.inn b.UW c=true):eK c b=true:=by
 unfold cD at h;simp only[TP,TU]at h;unfold eK;simp[h.1.1,h.1.2,h.2]
theorem JR{c b:Bd}(h:dE b.UU b.out b.UX c=true):eK c b=true:=by
 unfold dE at h;simp only[TP,TU]at h;unfold eK;simp[h.1.1,h.1.2,h.2]
theorem FQ{c b:Bd}(h:c.inn.toList=b.inn.toList)(hc:eK c b=false):c.out.toList=b.out.toList:=by
 unfold eK at hc;simp only[Bool.or_eq_false_iff]at hc;have:=hc.1;simp[h]at this;exact this
theorem vY{xs:List Bd}{d a b:BA}(h:a.toList=b.toList):dQ xs d a=dQ xs d b:=by
 have:cQ a=cQ b:=by funext c;unfold cQ;rw[h]
 unfold dQ;rw[this]
theorem CE{b:Bb}{p:Pl}(hB:∀i (h:i < b.VC.length),cG p (b.VC.take i) b.VC[i]=true)(hA:∀x∈b.VC,b.UZ.any (fun s=>gY x s)=true):b.VC.length≤b.UZ.length:=by
 have h:=DJ (xs:=b.VC.map rI) (ys:=b.UZ.map pO) ?_ ?_
 ·simpa using h
 ·rw[List.nodup_iff_pairwise_ne,List.pairwise_map,List.pairwise_iff_getElem];intro i j hi hj hij e;have h1:=hB j hj;unfold cG at h1;simp only[TP,Bool.not_eq_true']at h1;have h2:=List.any_eq_false.1 h1.2 b.VC[i] (qE hi hij);unfold rI at e;simp only[Prod.mk.injEq]at e;exact h2 (CH (by unfold cD;simp[e.1,e.2.1,e.2.2]))
 ·intro k hk;obtain⟨x,hx,rfl⟩:=List.mem_map.1 hk;obtain⟨s,hs,hh⟩:=List.any_eq_true.1 (hA x hx);exact List.mem_map.2 ⟨s,hs,(OO hh).symm⟩
theorem mN(p:Pl)(b:Bb):cS p b=fS p b:=by
 rw[Bool.eq_iff_iff];constructor
 ·intro h;unfold cS at h;simp only[TP,TU]at h;obtain⟨⟨⟨⟨hP,hs⟩,hl⟩,hF0⟩,hS0⟩:=h;have hF:=gV.1 hF0;have hS:=gV.1 hS0;have hm:=yQ hP;have F1:∀i (h:i < b.VC.length),cG p (b.VC.take i) b.VC[i]=true:=by
   intro i hi;have hf:=hF i hi;unfold lU at hf;simp only[TP,TU,Bool.not_eq_true']at hf;obtain⟨⟨⟨⟨⟨⟨⟨⟨f1,f2⟩,f3⟩,f4⟩,f5⟩,f6⟩,f7⟩,f8⟩,f9⟩:=hf;unfold cG;simp only[TP,Bool.not_eq_true'];refine⟨⟨⟨⟨⟨f1,f2⟩,f3⟩,f4⟩,f5⟩,?_⟩;rw[List.any_eq_false];intro c hc hcl;obtain⟨k,hk,hki,rfl⟩:=sM hc;unfold eK at hcl;simp only[UK,TP,TU,Bool.not_eq_true',decide_eq_false_iff_not]at hcl;rcases hcl with ⟨e1,e2⟩|⟨e1,⟨e2,e3⟩|⟨e2,e3⟩⟩
   ·have hg:=hF k hk;unfold lU at hg;simp only[TP,TU]at hg;have g8:=hg.1.2;rw[vY e1]at g8;exact e2 (g8.symm.trans f8)
   ·exact List.any_eq_false.1 f6 _ hc (by unfold cD;simp[e1,e2,e3])
   ·exact List.any_eq_false.1 f7 _ hc (by unfold dE;simp[e1,e2,e3])
  unfold fS;simp only[TP,TU,List.all_eq_true];refine⟨⟨⟨⟨⟨hP,hs⟩,by omega⟩,gV.2 F1⟩,gV.2 ?_⟩,?_⟩
  ·intro i hi;have hq:=hS i hi;unfold nF at hq;simp only[TP,Bool.not_eq_true']at hq;obtain⟨⟨q1,q2⟩,q3⟩:=hq;unfold sQ at q2;simp only[TP,TU,UK]at q2;obtain⟨⟨⟨⟨r1,r2⟩,r3⟩,r4⟩,r5⟩:=q2;unfold fV;simp only[TP,TU,Bool.not_eq_true',UK];refine⟨⟨⟨⟨⟨⟨r1,r2⟩,r3⟩,?_⟩,r5⟩,?_⟩,q3⟩
   ·rcases r4 with r4 | r4
    ·exact .inr r4
    ·obtain⟨x,hx,hox⟩:=List.any_eq_true.1 q1;obtain⟨j,hj,rfl⟩:=UN hx;have f1:=F1 j hj;unfold cG at f1;simp only[TP]at f1;have f2:=f1.1.1.1.1.1;unfold cD at hox;simp only[TP,TU]at hox;rw[hox.1.1]at f2;unfold eP at f2;unfold cY at r4;simp at f2 r4;rcases f2 with (f2|f2)|f2
     ·exact .inl f2
     ·exact absurd f2 r4.1
     ·exact absurd f2 r4.2
   ·have:=mG (cD b.UZ[i].UU b.UZ[i].inn b.UZ[i].UW) b.VC;rw[q1]at this;simpa using this
  ·intro x hx;obtain⟨j,hj,rfl⟩:=UN hx;have hf:=hF j hj;unfold lU at hf;simp only[TP]at hf;exact hf.2
 ·intro h;unfold fS at h;simp only[TP,TU,List.all_eq_true]at h;obtain⟨⟨⟨⟨⟨hP,hs⟩,h60⟩,hB0⟩,hS0⟩,hA⟩:=h;have hB:=gV.1 hB0;have hS:=gV.1 hS0;unfold cS;simp only[TP,TU];refine⟨⟨⟨⟨hP,hs⟩,CE hB hA⟩,gV.2 ?_⟩,gV.2 ?_⟩
  ·intro i hi;have h1:=hB i hi;unfold cG at h1;simp only[TP,Bool.not_eq_true']at h1;obtain⟨⟨⟨⟨⟨f1,f2⟩,f3⟩,f4⟩,f5⟩,f6⟩:=h1;unfold lU;simp only[TP,TU,Bool.not_eq_true'];refine⟨⟨⟨⟨⟨⟨⟨⟨f1,f2⟩,f3⟩,f4⟩,f5⟩,?_⟩,?_⟩,?_⟩,hA _ (TY hi)⟩
   ·rw[List.any_eq_false];intro c hc ho;exact List.any_eq_false.1 f6 c hc (CH ho)
   ·rw[List.any_eq_false];intro c hc ho;exact List.any_eq_false.1 f6 c hc (JR ho)
   ·unfold dQ
    cases hfd:b.VC.find? (cQ b.VC[i].inn) with
    | none=>
     have:=List.find?_eq_none.1 hfd b.VC[i] (TY hi);exact absurd (by unfold cQ;simp) this
    | some c=>
     obtain⟨hc1,k,hk,hkc,hlt⟩:=List.find?_eq_some_iff_getElem.1 hfd;have hki:k≤i:=by
      rcases Nat.lt_or_ge i k with h2|h2
      ·have:=hlt i h2;exact absurd this (by unfold cQ;simp)
      ·exact h2
     rcases Nat.lt_or_ge k i with h2|h2
     ·have hcl:=List.any_eq_false.1 f6 b.VC[k] (qE hk h2);rw[hkc]at hcl;unfold cQ at hc1;exact FQ (of_decide_eq_true hc1) (by simpa using hcl)
     ·have:k=i:=by omega
      subst this;rw[hkc]
  ·intro i hi;have hq:=hS i hi;unfold fV at hq;simp only[TP,TU,Bool.not_eq_true',UK]at hq;obtain⟨⟨⟨⟨⟨⟨r1,r2⟩,r3⟩,r4⟩,r5⟩,r6⟩,r7⟩:=hq;unfold nF;simp only[TP,Bool.not_eq_true'];refine⟨⟨?_,?_⟩,r7⟩
   ·rw[←mG];exact TT r6
   ·unfold sQ;simp only[TP,TU,UK];refine⟨⟨⟨⟨r1,r2⟩,r3⟩,?_⟩,r5⟩;rcases r4 with r4|r4
    ·right;rw[r4];rfl
    ·exact .inl r4
theorem GJ(f:Int→Bool)(port:Int)(c:Nat):∀lo:Int,lo % 2=port % 2→cK (fun n=>decide (n % 2=port % 2)&&f n) (lo+1) c=cK (fun n=>decide (n % 2=port % 2)&&f n) (lo+2) (c-1):=by
 intro lo h
 cases c with
 | zero=>rfl
 | succ c=>
  show (if (decide ((lo+1) % 2=port % 2)&&f (lo+1))=true then some (lo+1) else cK _ (lo+1+1) c)=_;rw[if_neg (by rw[TR (by omega)];simp)];rw[show lo+1+1=lo+2 by omega];rfl
theorem GI{f:Int→Bool}{n hi port:Int}(h:n≤hi)(hp:n % 2=port % 2):cK (fun m=>decide (m % 2=port % 2)&&f m) n (hi-n+1).toNat=if f n=true then some n else cK (fun m=>decide (m % 2=port % 2)&&f m) (n+2) (hi-(n+2)+1).toNat:=by
 rw[nE h];rw[TT hp,UE];by_cases hf:f n=true
 ·rw[if_pos hf,if_pos hf]
 ·rw[if_neg hf,if_neg hf,GJ f port _ n hp];rw[show (hi-(n+1)+1).toNat-1=(hi-(n+2)+1).toNat by omega]
theorem AH{f:Int→Bool}{lo hi port:Int}(h0:0≤lo)(h1:0≤port)(h:lo≤hi):cK (fun m=>decide (m % 2=port % 2)&&f m) lo (hi-lo+1).toNat=cK (fun m=>decide (m % 2=port % 2)&&f m) (lo+(lo+port) % 2) (hi-(lo+(lo+port) % 2)+1).toNat:=by
 by_cases hp:lo % 2=port % 2
 ·rw[show (lo+port) % 2=0 by omega,Int.add_zero]
 ·rw[show (lo+port) % 2=1 by omega,nE h];rw[TR hp];simp
end Go.Proofs.YtdkepkaflielhaaGreatDoor
namespace Go.Proofs
open Go.Shelf
def Tryz.laysM316_ren:Go.Shelf.Ren:=⟨fun | 316=>162 | n=>n,fun | 9=>9 | 3=>3 | 4=>4 | 37=>22 | 0=>0 | 127=>198 | 5=>5 | n=>n,fun | n=>n⟩
theorem Tryz.laysM316:Go.Proofs.LaysM.n316 Tryz.prog Tryz.laysM316_ren:={
 mixed:=by kernel_rfl
 f316:=Tryz.func162.trans (congrArg some (by kernel_rfl))
 t0:=Tryz.underlying0
 a0:=Tryz.isAgg0
 z0:=Tryz.sizeOf0
 v0:=Tryz.zeroValue0
 t3:=Tryz.underlying3
 a3:=Tryz.isAgg3
 z3:=Tryz.sizeOf3
 v3:=Tryz.zeroValue3
 t4:=Tryz.underlying4
 a4:=Tryz.isAgg4
 z4:=Tryz.sizeOf4
 v4:=Tryz.zeroValue4
 t9:=Tryz.underlying9
 a9:=Tryz.isAgg9
 z9:=Tryz.sizeOf9
 v9:=Tryz.zeroValue9
 t37:=Tryz.underlying22
 a37:=Tryz.isAgg22
 z37:=Tryz.sizeOf22
 v37:=Tryz.zeroValue22
 t127:=Tryz.underlying198
 a127:=Tryz.isAgg198
 z127:=Tryz.sizeOf198
 v127:=Tryz.zeroValue198
 t5:=Tryz.underlying5
 a5:=Tryz.isAgg5
 z5:=Tryz.sizeOf5
 v5:=Tryz.zeroValue5
 i0:=by kernel_rfl
 i3:=by kernel_rfl
 i4:=by kernel_rfl
 i5:=by kernel_rfl
 i9:=by kernel_rfl
 i37:=by kernel_rfl
 i127:=by kernel_rfl }
open Go.RowKit in
theorem Tryz.stringslite_Clone (s:ByteArray) (w:World) (hlim:s.size≤281474976710656) :
  Calls Tryz.prog 162 #[.string s] w fun e w'=>e=.returned (.string s)∧Below w.heap.size w w':=Any.stringslite_Clone Tryz.laysM316 s w hlim
end Go.Proofs
namespace Go.Proofs.YtdkepkaflielhaaGreatDoor
open Go.RowKit Go.PlainAid
theorem kO(s:BA)(w:World) :
  Cw 129 #[.string s] w (.bool (cI s)):=by
 by_cases h4:s.size=4
 ·have HV:Hid (cI s=true):=oD (.inl h4);have h4':(s.size:Int)=4:=by omega
  clear h4;go_enter Tryz.func129,Tryz.ntmps129
  go_wp2
  go_ret;exact⟨aB HV.out.symm,rfl⟩
 ·by_cases h16:s.size=16
  ·have HV:Hid (cI s=true):=oD (.inr h16);have h16':(s.size:Int)=16:=by omega
   clear h16 h4;go_enter Tryz.func129,Tryz.ntmps129
   go_wp2
   go_ret;exact⟨aB HV.out.symm,rfl⟩
  ·have HV:Hid (cI s=false):=yA (by omega);have e1:((s.size:Int)==4)=false:=by simp;omega
   have e2:((s.size:Int)==16)=false:=by simp;omega
   go_enter Tryz.func129,Tryz.ntmps129
   go_wp2
   go_ret;exact⟨aB HV.out.symm,rfl⟩
open Go.ChangeShapes Go.WideShapes
structure RU(w:World)(B:Nat)(p:Fl):Prop where
 c0:w.cell? ⟨B,0,none⟩=some (iV p.UU)
 c1:w.cell? ⟨B,1,none⟩=some (.string p.src)
 c2:w.cell? ⟨B,2,none⟩=some (.string p.dst)
 c3:w.cell? ⟨B,3,none⟩=some (iV p.sp)
 c4:w.cell? ⟨B,4,none⟩=some (iV p.dp)
theorem kP(t:BA)(w:World) :
  Cw 81 #[.string t] w (.bool (decide (20000 < t.size))):=by
 by_cases h:20000 < t.size
 ·have d:decide ((20000:Int) < (t.size:Int))=true:=by simp;omega
  rw[TT h];go_enter Tryz.func81,Tryz.ntmps81
  go_wp2_with fail
  go_ret;exact⟨rfl,rfl⟩
 ·have d:decide ((20000:Int) < (t.size:Int))=false:=by simp;omega
  rw[TR h];go_enter Tryz.func81,Tryz.ntmps81
  go_wp2_with fail
  go_ret;exact⟨rfl,rfl⟩
theorem tM(t:BA)(w:World)(ht:t.size≤1048576) :
  Cb 103 #[.string t] w (iV (kH t)):=by
 have HL:Hid (∀W,Cw 81 #[.string t] W (.bool (decide (20000 < t.size)))):=fun W=>kP t W
 by_cases h1:20000 < t.size
 ·have HV:Hid (kH t=0):=by unfold Hid kH;rw[if_pos (.inl h1)]
  rw[TT h1]at HL;go_enter Tryz.func103,Tryz.ntmps103
  go_wp2_with fail
  refine(HL.out _).mono ?_;rintro e w2 ⟨rfl,rfl⟩;go_wp2_with fail
  go_ret;exact⟨aK HV.out.symm,Below.refl _ _⟩
 rw[TR h1]at HL;by_cases h2:t.size < 20
 ·have HV:Hid (kH t=0):=by unfold Hid kH;rw[if_pos (.inr h2)]
  go_enter Tryz.func103,Tryz.ntmps103
  go_wp2_with fail
  refine(HL.out _).mono ?_;rintro e w2 ⟨rfl,rfl⟩;go_wp2_with fail
  go_ret;exact⟨aK HV.out.symm,Below.refl _ _⟩
 ·have HV:Hid (kH t=bt t 13):=by unfold Hid kH;rw[if_neg (by omega)]
  have hb:=get_bt t;have b1:=bD t 13;go_enter Tryz.func103,Tryz.ntmps103
  go_wp2_with fail
  refine(HL.out _).mono ?_;rintro e w2 ⟨rfl,rfl⟩;go_wp2_with fail
  go_ret;exact⟨aK HV.out.symm,Below.refl _ _⟩
theorem sH(s d:BA)(w:World)(hs:s.size≤maxLen)(hd:d.size≤maxLen) :
  Cw 97 #[.string s,.string d] w (.bool (dV s d)):=by
 have HA:Hid (∀W,Cw 129 #[.string s] W (.bool (cI s))):=fun W=>kO s W
 unfold maxLen at hs hd;unfold dV;generalize cI s=b at *;by_cases h:s.size=d.size
 ·have dh:((s.size:Int)==(d.size:Int))=true:=by simp;omega
  rw[TT h];clear h
  cases b;all_goals go_enter Tryz.func97,Tryz.ntmps97
  all_goals go_wp2_with fail
  all_goals refine(HA.out _).mono ?_
  all_goals rintro e w2 ⟨rfl,rfl⟩
  all_goals go_wp2_with fail
  all_goals go_ret
  all_goals exact⟨rfl,rfl⟩
 ·have dh:((s.size:Int)==(d.size:Int))=false:=by simp;omega
  rw[TR h]
  cases b;all_goals go_enter Tryz.func97,Tryz.ntmps97
  all_goals go_wp2_with fail
  all_goals refine(HA.out _).mono ?_
  all_goals rintro e w2 ⟨rfl,rfl⟩
  all_goals go_wp2_with fail
  all_goals go_ret
  all_goals exact⟨rfl,rfl⟩
theorem fQ(p:Int)(w:World) :
  Cw 100 #[iV p] w (.bool (aJ p)):=by
 by_cases h1:p=1
 ·have d1:(p==1)=true:=by simp[h1]
  have HV:Hid (aJ p=true):=by unfold Hid aJ;simp[h1]
  clear h1;go_enter Tryz.func100,Tryz.ntmps100
  go_wp2_with fail
  go_ret;exact⟨aB HV.out.symm,rfl⟩
 ·have d1:(p==1)=false:=by simp[h1]
  have HV:Hid (aJ p=(p==58)):=by
   unfold Hid aJ;rw[TR h1,Bool.false_or];rfl
  go_enter Tryz.func100,Tryz.ntmps100
  go_wp2_with fail
  go_ret;exact⟨aB HV.out.symm,rfl⟩
theorem oV(p:Int)(s:BA)(w:World)(hs:s.size≤maxLen) :
  Cw 98 #[iV p,.string s] w (.bool (cB p s.size)):=by
 unfold maxLen at hs;by_cases h6:p=6
 ·have HV:Hid (cB p s.size=true):=by unfold Hid cB;simp[h6]
  have d6:(p==6)=true:=by simp[h6]
  clear h6;go_enter Tryz.func98,Tryz.ntmps98
  go_wp2_with fail
  go_ret;exact⟨aB HV.out.symm,rfl⟩
 have d6:(p==6)=false:=by simp[h6]
 by_cases h17:p=17
 ·have HV:Hid (cB p s.size=true):=by unfold Hid cB;simp[h17]
  have d17:(p==17)=true:=by simp[h17]
  clear h6 h17;go_enter Tryz.func98,Tryz.ntmps98
  go_wp2_with fail
  go_ret;exact⟨aB HV.out.symm,rfl⟩
 have d17:(p==17)=false:=by simp[h17]
 by_cases h1:p=1
 ·have HV:Hid (cB p s.size=((s.size:Int)==4)):=by
   unfold Hid cB;have h4:((s.size:Int)==4)=decide (s.size=4):=by rw[Bool.eq_iff_iff];simp;omega
   rw[h4];simp[h1]
  have d1:(p==1)=true:=by simp[h1]
  clear h6 h17 h1;go_enter Tryz.func98,Tryz.ntmps98
  go_wp2_with fail
  go_ret;exact⟨aB HV.out.symm,rfl⟩
 have d1:(p==1)=false:=by simp[h1]
 by_cases h58:p=58
 ·have HV:Hid (cB p s.size=((s.size:Int)==16)):=by
   unfold Hid cB;have h4:((s.size:Int)==16)=decide (s.size=16):=by rw[Bool.eq_iff_iff];simp;omega
   rw[h4];simp[h58]
  have d58:(p==58)=true:=by simp[h58]
  clear h6 h17 h1 h58;go_enter Tryz.func98,Tryz.ntmps98
  go_wp2_with fail
  go_ret;exact⟨aB HV.out.symm,rfl⟩
 have d58:(p==58)=false:=by simp[h58]
 have HV:Hid (cB p s.size=false):=by unfold Hid cB;simp[h6,h17,h1,h58]
 clear h6 h17 h1 h58;go_enter Tryz.func98,Tryz.ntmps98
 go_wp2_with fail
 go_ret;exact⟨aB HV.out.symm,rfl⟩
theorem sF(f:Fl)(w:World)(h1:f.src.size≤1048576)(h2:f.dst.size≤1048576) :
  Cb 149 #[gQ f] w (.bool (cF f)):=by
 have HB1:Hid (∀W,Cw 97 #[.string f.src,.string f.dst] W (.bool (dV f.src f.dst))):=fun W=>sH _ _ W (by unfold maxLen;omega) (by unfold maxLen;omega)
 have HB2:Hid (∀W,Cw 98 #[iV f.UU,.string f.src] W (.bool (cB f.UU f.src.size))):=fun W=>oV _ _ W (by unfold maxLen;omega)
 have HB3:Hid (∀W,Cw 122 #[iV f.sp] W (.bool (jS f.sp))):=fun W=>dO _ W
 have HB4:Hid (∀W,Cw 122 #[iV f.dp] W (.bool (jS f.dp))):=fun W=>dO _ W
 have HB5:Hid (∀W,Cw 100 #[iV f.UU] W (.bool (aJ f.UU))):=fun W=>fQ _ W
 have HV:Hid (cF f=(dV f.src f.dst&&cB f.UU f.src.size&&jS f.sp&&jS f.dp&&(!aJ f.UU||decide (f.sp=f.dp)))):=rfl;have dq:(f.sp==f.dp)=decide (f.sp=f.dp):=rfl;generalize decide (f.sp=f.dp)=q at *;generalize cF f=ok at *;generalize dV f.src f.dst=a1 at *;generalize cB f.UU f.src.size=a2 at *;generalize jS f.sp=a3 at *;generalize jS f.dp=a4 at *;generalize aJ f.UU=a5 at *;obtain⟨UU,src,dst,sp,dp⟩:=f;unfold gQ;dsimp only at *;have HZ:Hid (Below w.heap.size w (w.alloc (.cells (dA UU src dst sp dp).toArray 43))):=bR.alloc lR _;go_enter Tryz.func149,Tryz.ntmps149
 go_wp2_with fail
 refine(HB1.out _).mono ?_;rintro e w2 ⟨rfl,rfl⟩
 cases a1 with
 | false=>
  have hun:undef=Value.tuple #[]:=rfl;go_wp2_with fail
  go_ret;exact⟨aB (by rw[HV.out];simp),HZ.out⟩
 | true=>
 go_wp2_with fail
 refine(HB2.out _).mono ?_;rintro e w2 ⟨rfl,rfl⟩
 cases a2 with
 | false=>
  have hun:undef=Value.tuple #[]:=rfl;go_wp2_with fail
  go_ret;exact⟨aB (by rw[HV.out];simp),HZ.out⟩
 | true=>
 go_wp2_with fail
 refine(HB3.out _).mono ?_;rintro e w2 ⟨rfl,rfl⟩
 cases a3 with
 | false=>
  have hun:undef=Value.tuple #[]:=rfl;go_wp2_with fail
  go_ret;exact⟨aB (by rw[HV.out];simp),HZ.out⟩
 | true=>
 go_wp2_with fail
 refine(HB4.out _).mono ?_;rintro e w2 ⟨rfl,rfl⟩
 cases a4 with
 | false=>
  have hun:undef=Value.tuple #[]:=rfl;go_wp2_with fail
  go_ret;exact⟨aB (by rw[HV.out];simp),HZ.out⟩
 | true=>
 go_wp2_with fail
 refine(HB5.out _).mono ?_;rintro e w2 ⟨rfl,rfl⟩
 cases a5 with
 | false=>
  have hun:undef=Value.tuple #[]:=rfl;go_wp2_with fail
  go_ret;exact⟨aB (by rw[HV.out];simp),HZ.out⟩
 | true=>
  have hun:undef=Value.tuple #[]:=rfl;go_wp2_with fail
  go_ret;exact⟨aB (by rw[HV.out];simp),HZ.out⟩
theorem jH{P:Program}{o:Oper}{a:Act}{w:World}{v1 v2 v':Value}{K:Act→World→Prop}{Q:Exit→Act→World→Prop}(b:BinOp)(t t2:TypeId)(x y:Operand)(hop:o.op=Op.binOp b t x y t2)
  (hx:a.eval x=v1) (hy:a.eval y=v2) (hgd:(eqGuard b t x y v1 v2).run P w=.ok () w) (hrun:(binOp b t v1 v2).run P w=.ok v' w) (hK:K (a.put o.dst v') w):Oper.wp P o a w K Q:=by
 unfold Oper.wp;simp[execOp,hop,hx,hy,hgd,hrun,Result.andThen];exact hK
def rB(F:Nat):Prop:=∀args W,Sem.run Tryz.prog (callFunc F args) W=.ok (.enter F args) W
def bN(q:Bd):En:=⟨q.UU,q.inn,q.UW⟩
def iY(q:Bd):En:=⟨q.UU,q.out,q.UX⟩
def gT(s:Ss):En:=⟨s.UU,s.inn,s.UW⟩
def dZ(s:Ss):Sk:=⟨gT s,s.peer,s.UV⟩
theorem mJ(q p:En):bU q p=(decide (q.UU=p.UU)&&decide (q.addr.toList=p.addr.toList)&&decide (q.port=p.port)):=by
 unfold bU;rw[Bool.eq_iff_iff];simp[and_assoc]
theorem oI(UU:Int)(s:BA)(port:Int)(q:Bd):bU (bN q) ⟨UU,s,port⟩=cD UU s port q:=mJ _ _
theorem sK(UU:Int)(s:BA)(port:Int)(q:Bd):bU (iY q) ⟨UU,s,port⟩=dE UU s port q:=mJ _ _
theorem sS(b:Bd)(s:Ss):bU (gT s) (bN b)=gY b s:=by
 rw[mJ];unfold gY gT bN;rw[Bool.eq_iff_iff];simp only[TP,TU];exact⟨fun h=>⟨⟨h.1.1.symm,h.1.2.symm⟩,h.2.symm⟩,fun h=>⟨⟨h.1.1.symm,h.1.2.symm⟩,h.2.symm⟩⟩
theorem yS(s t:Ss):dG (dZ t) (dZ s)=gS s t:=by
 unfold dG;rw[show bU (dZ t).host (dZ s).host=bU (gT t) (gT s) from rfl,mJ];unfold gS dZ gT;rw[Bool.eq_iff_iff];simp only[TP,TU,beq_iff_eq];exact⟨fun h=>⟨⟨⟨⟨h.1.1.1.symm,h.1.1.2.symm⟩,h.1.2.symm⟩,h.2.1.symm⟩,h.2.2.symm⟩,fun h=>⟨⟨⟨h.1.1.1.1.symm,h.1.1.1.2.symm⟩,h.1.1.2.symm⟩,h.1.2.symm,h.2.symm⟩⟩
theorem nC(q:Bd)(w:World) :
  Cb 53 #[jI q] w (qV (bN q)):=by
 unfold jI qV bN;go_enter Tryz.func53,Tryz.ntmps53
 go_wp2_with fail
 refine UQ (v:=.agg (iE q.UU q.inn q.UW).toArray) (by simp[results,Tryz.results53,go_sem]) rfl ⟨rfl,?_⟩;first | exact(bR.alloc lR _).alloc (by simp) _ | exact((((bR.alloc lR _).alloc (by simp) _).setCell (by simp) _).setCell (by simp) _).setCell (by simp) _
theorem uG(q:Bd)(w:World) :
  Cb 48 #[jI q] w (qV (iY q)):=by
 unfold jI qV iY;go_enter Tryz.func48,Tryz.ntmps48
 go_wp2_with fail
 refine UQ (v:=.agg (iE q.UU q.out q.UX).toArray) (by simp[results,Tryz.results48,go_sem]) rfl ⟨rfl,?_⟩;first | exact(bR.alloc lR _).alloc (by simp) _ | exact((((bR.alloc lR _).alloc (by simp) _).setCell (by simp) _).setCell (by simp) _).setCell (by simp) _
theorem nG(q:Ss)(w:World) :
  Cb 134 #[wR q] w (SD (dZ q)):=by
 unfold wR SD dZ gT;go_enter Tryz.func134,Tryz.ntmps134
 go_wp2_with fail
 refine UQ (v:=.agg (iW q.UU q.inn q.UW q.peer q.UV).toArray) (by simp[results,Tryz.results134,go_sem]) rfl ⟨rfl,?_⟩;first | exact((bR.alloc lR _).alloc (by simp) _).alloc (by simp;omega) _ | skip
theorem CW(f:Bd→Bool)(F:Nat)(hG:rB F)(caps:Array Value)(xs:List Bd)(a:OA)(cap:Nat)(w:World)(hl:xs.length≤1048576)(hr:bP eG 5 w a xs)(hC:∀W,Below w.heap.size w W→∀q,q∈xs→Calls Tryz.prog F (#[jI q]++caps) W fun e w'=>e=.returned (.bool (f q))∧Below W.heap.size W w') :
  Cb 79 #[.slice a xs.length cap,.func (.func F) #[] caps] w (iV (bG f xs)):=by
 have HR:Hid (bP eG 5 w a xs):=hr;have HC:Hid (∀W,Below w.heap.size w W→∀q,q∈xs→Calls Tryz.prog F (#[jI q]++caps) W fun e w'=>e=.returned (.bool (f q))∧Below W.heap.size W w'):=hC;obtain⟨ans,hans⟩: ∃y,y=bG f xs:=⟨_,rfl⟩;rw[←hans];have HA:Hid (ans=bG f xs):=hans;clear hr hC hans;unfold rB at hG;go_enter Tryz.func79,Tryz.ntmps79
 go_wp2_with fail
 go_loopw [8] (fun iv wr=>∃i:Nat,i≤xs.length∧iv=iV i∧(xs.take i).any f=false∧Below w.heap.size w wr) (fun iv _=>xs.length-(intOf iv).toNat)
 case atStart=>exact⟨0,UR _,rfl,by simp,Below.refl _ _⟩
 case round=>
  obtain⟨i,hil,rfl,hn,hb⟩:=hrel;have HN:Hid ((xs.take i).any f=false):=hn;have HW:Hid (Below w.heap.size w wr):=hb;clear hn hb;by_cases hlt:i < xs.length
  ·obtain⟨b,off,rfl,hb,hat⟩:=HR.out.at hlt;have hA:=(hat.below hb HW.out) i hlt;have HT:Hid ((xs.take (i+1)).any f=f xs[i]):=by
    unfold Hid;rw[List.take_succ_eq_append_getElem hlt,List.any_append,HN.out];simp
   have HX:Hid (f xs[i]=true→bG f xs=i):=fun h=>nQ f xs i hlt HN.out h
   have HC2:Hid _:=HC.out wr HW.out xs[i] (TY hlt);generalize xs[i]=q at *;obtain⟨c0,c1,c2,c3,c4⟩:=NS hA;clear hA hat;obtain⟨cl,hcl⟩: ∃y,y=f q:=⟨_,rfl⟩;rw[←hcl]at HT HX HC2;clear hcl;unfold jI at HC2;go_wp2_with fail
   refine Calls.mono HC2.out ?_;rintro e w1 ⟨rfl,b1⟩;have HW1:Hid _:=HW.out.trans (b1.mono HW.out.size);clear b1 c0 c1 c2 c3 c4
   cases cl with
   | true=>
    have HF:Hid ((i:Int)=ans):=by unfold Hid;rw[HA.out,HX.out rfl]
    go_wp2_with fail
    go_ret;exact⟨aK HF.out,HW1.out⟩
   | false=>
    go_wp2_with fail
    go_roundw
    case rel=>exact⟨i+1,by omega,by go_num,HT.out,HW1.out⟩
    case measure=>simp[intOf];omega
  ·have hie:i=xs.length:=by omega
   have HF:Hid ((-1:Int)=ans):=by
    have:=HN.out;rw[hie,List.take_of_length_le lR]at this;unfold Hid;rw[HA.out,pJ f xs this]
   go_wp2_with fail
   go_ret;exact⟨aK HF.out,HW.out⟩
theorem pL(f:Ss→Bool)(F:Nat)(hG:rB F)(caps:Array Value)(xs:List Ss)(a:OA)(cap:Nat)(w:World)(hl:xs.length≤1048576)(hr:bP fY 7 w a xs)(hC:∀W,Below w.heap.size w W→∀q,q∈xs→Calls Tryz.prog F (#[wR q]++caps) W fun e w'=>e=.returned (.bool (f q))∧Below W.heap.size W w') :
  Cb 137 #[.slice a xs.length cap,.func (.func F) #[] caps] w (iV (bG f xs)):=by
 have HR:Hid (bP fY 7 w a xs):=hr;have HC:Hid (∀W,Below w.heap.size w W→∀q,q∈xs→Calls Tryz.prog F (#[wR q]++caps) W fun e w'=>e=.returned (.bool (f q))∧Below W.heap.size W w'):=hC;obtain⟨ans,hans⟩: ∃y,y=bG f xs:=⟨_,rfl⟩;rw[←hans];have HA:Hid (ans=bG f xs):=hans;clear hr hC hans;unfold rB at hG;go_enter Tryz.func137,Tryz.ntmps137
 go_wp2_with fail
 go_loopw [8] (fun iv wr=>∃i:Nat,i≤xs.length∧iv=iV i∧(xs.take i).any f=false∧Below w.heap.size w wr) (fun iv _=>xs.length-(intOf iv).toNat)
 case atStart=>exact⟨0,UR _,rfl,by simp,Below.refl _ _⟩
 case round=>
  obtain⟨i,hil,rfl,hn,hb⟩:=hrel;have HN:Hid ((xs.take i).any f=false):=hn;have HW:Hid (Below w.heap.size w wr):=hb;clear hn hb;by_cases hlt:i < xs.length
  ·obtain⟨b,off,rfl,hb,hat⟩:=HR.out.at hlt;have hA:=(hat.below hb HW.out) i hlt;have HT:Hid ((xs.take (i+1)).any f=f xs[i]):=by
    unfold Hid;rw[List.take_succ_eq_append_getElem hlt,List.any_append,HN.out];simp
   have HX:Hid (f xs[i]=true→bG f xs=i):=fun h=>nQ f xs i hlt HN.out h
   have HC2:Hid _:=HC.out wr HW.out xs[i] (TY hlt);generalize xs[i]=q at *;obtain⟨c0,c1,c2,c3,c4,c5,c6⟩:=MX hA;clear hA hat;obtain⟨cl,hcl⟩: ∃y,y=f q:=⟨_,rfl⟩;rw[←hcl]at HT HX HC2;clear hcl;unfold wR at HC2;go_wp2_with fail
   refine Calls.mono HC2.out ?_;rintro e w1 ⟨rfl,b1⟩;have HW1:Hid _:=HW.out.trans (b1.mono HW.out.size);clear b1 c0 c1 c2 c3 c4 c5 c6
   cases cl with
   | true=>
    have HF:Hid ((i:Int)=ans):=by unfold Hid;rw[HA.out,HX.out rfl]
    go_wp2_with fail
    go_ret;exact⟨aK HF.out,HW1.out⟩
   | false=>
    go_wp2_with fail
    go_roundw
    case rel=>exact⟨i+1,by omega,by go_num,HT.out,HW1.out⟩
    case measure=>simp[intOf];omega
  ·have hie:i=xs.length:=by omega
   have HF:Hid ((-1:Int)=ans):=by
    have:=HN.out;rw[hie,List.take_of_length_le lR]at this;unfold Hid;rw[HA.out,pJ f xs this]
   go_wp2_with fail
   go_ret;exact⟨aK HF.out,HW.out⟩
theorem DT(q:Ss)(p:Sk)(B1:Nat)(w:World)(hk0:aA w B1 (OV p)) :
  Cb 138 #[wR q,.pointer (some ⟨B1,0,none⟩)] w (.bool (dG (dZ q) p)):=by
 have HF:Hid (∀W,Cb 134 #[.agg (iB q).toArray] W (.agg (iW q.UU q.inn q.UW q.peer q.UV).toArray)):=fun W=>nG q W
 have HE:Hid (∀W,(binOp .eql 147 (.agg (iW q.UU q.inn q.UW q.peer q.UV).toArray) (.agg (iW p.host.UU p.host.addr p.host.port p.peer p.UV).toArray)).run Tryz.prog W=.ok (.bool (dG (dZ q) p)) W):=fun W=>LW (dZ q) p W
 generalize dG (dZ q) p=ans at *;have HZ:Hid (Below w.heap.size w (w.alloc (.cells (iB q).toArray 59))):=bR.alloc lR _;have HQ:Hid (aA (w.alloc (.cells (iB q).toArray 59)) w.heap.size (fY q)):=aA.new w (fY q) 59;have HK0:Hid (aA (w.alloc (.cells (iB q).toArray 59)) B1 (OV p)):=hk0.alloc _;clear hk0;unfold wR;go_enter Tryz.func138,Tryz.ntmps138
 go_upto_region 1 with fail
 generalize (w.alloc (.cells (iB q).toArray 59))=W at *;go_cut [3] (fun v wx=>v=.bool ans∧Below w.heap.size w wx)
 case first=>
  rename_i J K2 hJ hK2;have HCP:Hid (∀wy,Below W.drew.heap.size W.drew wy→aA wy w.heap.size (fY q)∧aA wy B1 (OV p)):=fun wy hy=>⟨HQ.out.drew.kept (by simp[fY]) hy,HK0.out.drew.kept (by simp[LC,OV]) hy⟩
  refine bH [4,5,6,7,3] (by kernel_rfl) (by kernel_rfl) ?_;iterate 3 (apply cW.u rfl;(·intro K' a wy ho hd hb hK;simp[aS,aF,aD,Region.binds]at ho hd;obtain⟨hq,h0⟩:=HCP.out wy hb;have kC:=hq.c7;have kC:=h0.c5;go_simp;first|((try go_bits);exact hK _ _ rfl bQ)|(refine(HF.out wy).mono ?_;rintro e wz ⟨rfl,hz⟩;exact hK _ _ rfl hz));dsimp only[nA,cA])
  apply cW.v3
  ·rfl
  ·intro K' a wy ho hd hb hK kz;have q1:=hd ⟨1,.data⟩ (by simp) rfl;have q2:=hd ⟨2,.data⟩ (by simp) rfl;simp[aS,aF,aD]at q1 q2;clear hd ho;refine jH .eql 147 147 (.tmp 5) (.tmp 6) rfl (by simp[Act.eval,aD,q1]) (by simp[Act.eval,aD,q2]) (run_eqGuard_agg _ _ _ _ _ _ _ (by kernel_rfl)) (HE.out wy) ?_;exact kz _ rfl
  (apply cW.u rfl;(·intro K' a wy ho hd hb hK;simp[aS,aF,aD,Region.binds]at ho hd;go_simp;(try go_bits);exact hK _ _ rfl bQ);dsimp only[nA,cA])
  intro X wz hR hz;simp only[UB,UC,eW,aF]at hR;simp only[aE,hR];clear hR;go_simp;try go_bits
  refine hK2 _ _ (hJ _ _ ?_);(repeat apply Exists.intro)
  refine⟨⟨rfl,HZ.out.drew.trans (hz.mono HZ.out.size)⟩,rfl⟩
 case rest=>
  obtain⟨rfl,hb⟩:=hcut;have HB:Hid (Below w.heap.size w wc):=hb;clear hb;go_wp2_with fail
  go_ret;exact⟨rfl,HB.out⟩
theorem zX(q:Ss)(p:En)(B1:Nat)(w:World)(hk0:aA w B1 (LC p)) :
  Cb 181 #[wR q,.pointer (some ⟨B1,0,none⟩)] w (.bool (bU (gT q) p)):=by
 have HF:Hid (∀W,Cb 134 #[.agg (iB q).toArray] W (.agg (iW q.UU q.inn q.UW q.peer q.UV).toArray)):=fun W=>nG q W
 have HE:Hid (∀W,(binOp .eql 86 (.agg (iE q.UU q.inn q.UW).toArray) (.agg (iE p.UU p.addr p.port).toArray)).run Tryz.prog W=.ok (.bool (bU (gT q) p)) W):=fun W=>CN (gT q) p W
 have HFL:Hid (∀W,Sem.run Tryz.prog (Instr.field 147 (.agg (iW q.UU q.inn q.UW q.peer q.UV).toArray) 0) W=.ok (.agg (iE q.UU q.inn q.UW).toArray) W):=fun W=>by kernel_rfl
 generalize bU (gT q) p=ans at *;have HZ:Hid (Below w.heap.size w (w.alloc (.cells (iB q).toArray 59))):=bR.alloc lR _;have HQ:Hid (aA (w.alloc (.cells (iB q).toArray 59)) w.heap.size (fY q)):=aA.new w (fY q) 59;have HK0:Hid (aA (w.alloc (.cells (iB q).toArray 59)) B1 (LC p)):=hk0.alloc _;clear hk0;unfold wR;go_enter Tryz.func181,Tryz.ntmps181
 go_upto_region 1 with fail
 generalize (w.alloc (.cells (iB q).toArray 59))=W at *;go_cut [3] (fun v wx=>v=.bool ans∧Below w.heap.size w wx)
 case first=>
  rename_i J K2 hJ hK2;have HCP:Hid (∀wy,Below W.drew.heap.size W.drew wy→aA wy w.heap.size (fY q)∧aA wy B1 (LC p)):=fun wy hy=>⟨HQ.out.drew.kept (by simp[fY]) hy,HK0.out.drew.kept (by simp[LC,OV]) hy⟩
  refine bH [4,5,6,7,8,3] (by kernel_rfl) (by kernel_rfl) ?_;iterate 2 (apply cW.u rfl;(·intro K' a wy ho hd hb hK;simp[aS,aF,aD,Region.binds]at ho hd;obtain⟨hq,h0⟩:=HCP.out wy hb;have kC:=hq.c7;have kC:=h0.c3;go_simp;first|((try go_bits);exact hK _ _ rfl bQ)|(refine(HF.out wy).mono ?_;rintro e wz ⟨rfl,hz⟩;exact hK _ _ rfl hz));dsimp only[nA,cA])
  (apply cW.u rfl;(·intro K' a wy ho hd hb hK;simp[aS,aF,aD,Region.binds]at ho hd;have hfl:=HFL.out wy;go_simp;(try go_bits);exact hK _ _ rfl bQ);dsimp only[nA,cA])
  (apply cW.u rfl;(·intro K' a wy ho hd hb hK;simp[aS,aF,aD,Region.binds]at ho hd;obtain⟨hq,h0⟩:=HCP.out wy hb;have kC:=hq.c7;have kC:=h0.c3;go_simp;(try go_bits);exact hK _ _ rfl bQ);dsimp only[nA,cA])
  apply cW.v4
  ·rfl
  ·intro K' a wy ho hd hb hK kz;have q2:=hd ⟨2,.data⟩ (by simp) rfl;have q3:=hd ⟨3,.data⟩ (by simp) rfl;simp[aS,aF,aD]at q2 q3;clear hd ho;refine jH .eql 86 86 (.tmp 6) (.tmp 7) rfl (by simp[Act.eval,aD,q2]) (by simp[Act.eval,aD,q3]) (run_eqGuard_agg _ _ _ _ _ _ _ (by kernel_rfl)) (HE.out wy) ?_;exact kz _ rfl
  (apply cW.u rfl;(·intro K' a wy ho hd hb hK;simp[aS,aF,aD,Region.binds]at ho hd;go_simp;(try go_bits);exact hK _ _ rfl bQ);dsimp only[nA,cA])
  intro X wz hR hz;simp only[UB,UC,eW,aF]at hR;simp only[aE,hR];clear hR;go_simp;try go_bits
  refine hK2 _ _ (hJ _ _ ?_);(repeat apply Exists.intro)
  refine⟨⟨rfl,HZ.out.drew.trans (hz.mono HZ.out.size)⟩,rfl⟩
 case rest=>
  obtain⟨rfl,hb⟩:=hcut;have HB:Hid (Below w.heap.size w wc):=hb;clear hb;go_wp2_with fail
  go_ret;exact⟨rfl,HB.out⟩
theorem jC(s:BA)(w:World)(h:s.size≤1048576) :
  Cb 119 #[.string s] w (.string s):=by
 have HC:Hid (∀W,Cb 162 #[.string s] W (.string s)):=fun W=>Tryz.stringslite_Clone s W (by omega)
 go_enter Tryz.func119,Tryz.ntmps119
 go_wp2_with fail
 refine(HC.out _).mono ?_;rintro e w1 ⟨rfl,b1⟩;go_wp2_with fail
 go_ret;exact⟨rfl,b1⟩
theorem mA(p:Bd)(w:World)(h1:p.inn.size≤1048576)(h2:p.out.size≤1048576) :
  Cb 82 #[jI p] w (jI p):=by
 have H1:Hid (∀W,Cb 119 #[.string p.inn] W (.string p.inn)):=fun W=>jC _ W h1
 have H2:Hid (∀W,Cb 119 #[.string p.out] W (.string p.out)):=fun W=>jC _ W h2
 have hun:undef=Value.tuple #[]:=rfl;clear h1 h2;have HP:Hid (aA ((aW w (dH p) 48).alloc (.cells (iW 0 ⟨#[]⟩ 0 ⟨#[]⟩ 0).toArray 48)) w.heap.size (eG p)):=(aA.new w (eG p) _).alloc _;have HO:Hid (aA ((aW w (dH p) 48).alloc (.cells (iW 0 ⟨#[]⟩ 0 ⟨#[]⟩ 0).toArray 48)) (w.heap.size+1) (iW 0 ⟨#[]⟩ 0 ⟨#[]⟩ 0)):=by
  have h:=aA.new (w.alloc (.cells (dH p).toArray 48)) (iW 0 ⟨#[]⟩ 0 ⟨#[]⟩ 0) 48;rwa [TQ]at h
 have HZ:Hid (Below w.heap.size w ((aW w (dH p) 48).alloc (.cells (iW 0 ⟨#[]⟩ 0 ⟨#[]⟩ 0).toArray 48))):=(bR.alloc lR _).alloc (by simp) _;unfold jI;go_enter Tryz.func82,Tryz.ntmps82
 go_upto_region 1 with fail
 generalize World.alloc _ _=W at *;go_cut [3] (fun v wx=>aA wx w.heap.size (eG p)∧aA wx (w.heap.size+1) (iW 0 ⟨#[]⟩ 0 ⟨#[]⟩ 0)∧Below w.heap.size w wx)
 case first=>
  rename_i J K2 hJ hK2;clear hun;have HCP:Hid (∀wy,Below W.drew.heap.size W.drew wy→aA wy w.heap.size (eG p)∧aA wy (w.heap.size+1) (iW 0 ⟨#[]⟩ 0 ⟨#[]⟩ 0)):=fun wy hy=>⟨HP.out.drew.kept (by simp[eG]) hy,HO.out.drew.kept (by simp) hy⟩
  refine aN [3,4,5,6,7,8,9] (by kernel_rfl) (by kernel_rfl) ?_;iterate 5 (apply bC.u rfl;(·intro K' a wy ho hd hb hK;simp[aS,aF,aD,Region.binds]at ho hd;have hld:=(HCP.out wy hb).1;have kC:=hld.c5;go_simp;first|((try go_bits);exact hK _ _ rfl bQ)|(refine(H1.out wy).mono ?_;rintro e wz ⟨rfl,hz⟩;exact hK _ _ rfl hz));dsimp only[nA,cA])
  iterate 2 (apply bC.u rfl;(·intro K' a wy ho hd hb hK;simp[aS,aF,aD,Region.binds]at ho hd;go_simp;first|((try go_bits);exact hK _ _ rfl bQ)|(refine(H2.out wy).mono ?_;rintro e wz ⟨rfl,hz⟩;exact hK _ _ rfl hz));dsimp only[nA,cA])
  intro X wz hR hz;simp only[UB,UC,eW,aF]at hR;simp only[aE,hR];clear hR;obtain⟨hh,hz0⟩:=HCP.out wz hz;have HB:Hid (Below w.heap.size w wz):=HZ.out.drew.trans (hz.mono HZ.out.size);have f1:wz.frozen? ⟨w.heap.size,1,none⟩=false:=hh.free (j:=1) (by simp[eG]);have f3:wz.frozen? ⟨w.heap.size,3,none⟩=false:=hh.free (j:=3) (by simp[eG]);obtain⟨k0,k1,k2,k3,k4⟩:=hh.c5;have HH:Hid (aA wz w.heap.size (eG p)):=hh;have HH0:Hid (aA wz (w.heap.size+1) (iW 0 ⟨#[]⟩ 0 ⟨#[]⟩ 0)):=hz0;clear hh hz0;intro K10 hK10;go_simp;refine hK10 _ _ ?_;intro K11 hK11;go_simp;refine hK11 _ _ ?_;intro K12 hK12;go_simp;refine hK12 _ _ ?_;show Exit.then _ _ _ _ _;refine hK2 _ _ (hJ _ _ ?_);(repeat apply Exists.intro)
  refine⟨⟨(HH.out.set 1 _).set 3 _,(eN HH0.out).setOther (by omega) _,?_⟩,rfl⟩;exact(sCl HB.out lR).setCell (p:=⟨w.heap.size,3,none⟩) lR _
 case rest=>
  obtain⟨hh,h0,hb⟩:=hcut;have HB:Hid (Below w.heap.size w wc):=hb;obtain⟨k0,k1,k2,k3,k4⟩:=hh.c5;obtain⟨y0,y1,y2,y3,y4⟩:=h0.f5;obtain⟨z0,z1,z2,z3,z4⟩:=h0.c5;clear hh h0 hb;go_wp2_with fail
  refine UQ (v:=.agg (dH p).toArray) (by simp[results,Tryz.results82,go_sem,z0,z1,z2,z3,z4]) rfl ⟨rfl,?_⟩;have hsz:w.heap.size≤w.heap.size+1:=Nat.le_succ _;exact(sCl (sCl (sCl (sCl (sCl HB.out hsz) hsz) hsz) hsz) hsz)
theorem oU(p:Ss)(w:World)(h1:p.inn.size≤1048576)(h2:p.peer.size≤1048576) :
  Cb 142 #[wR p] w (wR p):=by
 have H1:Hid (∀W,Cb 119 #[.string p.inn] W (.string p.inn)):=fun W=>jC _ W h1
 have H2:Hid (∀W,Cb 119 #[.string p.peer] W (.string p.peer)):=fun W=>jC _ W h2
 have hun:undef=Value.tuple #[]:=rfl;clear h1 h2;have HP:Hid (aA ((aW w (iB p) 59).alloc (.cells (rZ 0 ⟨#[]⟩ 0 ⟨#[]⟩ 0 0 0).toArray 59)) w.heap.size (fY p)):=(aA.new w (fY p) _).alloc _;have HO:Hid (aA ((aW w (iB p) 59).alloc (.cells (rZ 0 ⟨#[]⟩ 0 ⟨#[]⟩ 0 0 0).toArray 59)) (w.heap.size+1) (rZ 0 ⟨#[]⟩ 0 ⟨#[]⟩ 0 0 0)):=by
  have h:=aA.new (w.alloc (.cells (iB p).toArray 59)) (rZ 0 ⟨#[]⟩ 0 ⟨#[]⟩ 0 0 0) 59;rwa [TQ]at h
 have HZ:Hid (Below w.heap.size w ((aW w (iB p) 59).alloc (.cells (rZ 0 ⟨#[]⟩ 0 ⟨#[]⟩ 0 0 0).toArray 59))):=(bR.alloc lR _).alloc (by simp) _;unfold wR;go_enter Tryz.func142,Tryz.ntmps142
 go_upto_region 1 with fail
 generalize World.alloc _ _=W at *;go_cut [3] (fun v wx=>aA wx w.heap.size (fY p)∧aA wx (w.heap.size+1) (rZ 0 ⟨#[]⟩ 0 ⟨#[]⟩ 0 0 0)∧Below w.heap.size w wx)
 case first=>
  rename_i J K2 hJ hK2;clear hun;have HCP:Hid (∀wy,Below W.drew.heap.size W.drew wy→aA wy w.heap.size (fY p)∧aA wy (w.heap.size+1) (rZ 0 ⟨#[]⟩ 0 ⟨#[]⟩ 0 0 0)):=fun wy hy=>⟨HP.out.drew.kept (by simp[fY]) hy,HO.out.drew.kept (by simp) hy⟩
  refine aN [3,4,5,6,7,8,9] (by kernel_rfl) (by kernel_rfl) ?_;iterate 5 (apply bC.u rfl;(·intro K' a wy ho hd hb hK;simp[aS,aF,aD,Region.binds]at ho hd;have hld:=(HCP.out wy hb).1;have kC:=hld.c7;go_simp;first|((try go_bits);exact hK _ _ rfl bQ)|(refine(H1.out wy).mono ?_;rintro e wz ⟨rfl,hz⟩;exact hK _ _ rfl hz));dsimp only[nA,cA])
  iterate 2 (apply bC.u rfl;(·intro K' a wy ho hd hb hK;simp[aS,aF,aD,Region.binds]at ho hd;go_simp;first|((try go_bits);exact hK _ _ rfl bQ)|(refine(H2.out wy).mono ?_;rintro e wz ⟨rfl,hz⟩;exact hK _ _ rfl hz));dsimp only[nA,cA])
  intro X wz hR hz;simp only[UB,UC,eW,aF]at hR;simp only[aE,hR];clear hR;obtain⟨hh,hz0⟩:=HCP.out wz hz;have HB:Hid (Below w.heap.size w wz):=HZ.out.drew.trans (hz.mono HZ.out.size);have f1:wz.frozen? ⟨w.heap.size,1,none⟩=false:=hh.free (j:=1) (by simp[fY]);have f3:wz.frozen? ⟨w.heap.size,3,none⟩=false:=hh.free (j:=3) (by simp[fY]);obtain⟨k0,k1,k2,k3,k4,k5,k6⟩:=hh.c7;have HH:Hid (aA wz w.heap.size (fY p)):=hh;have HH0:Hid (aA wz (w.heap.size+1) (rZ 0 ⟨#[]⟩ 0 ⟨#[]⟩ 0 0 0)):=hz0;clear hh hz0;intro K10 hK10;go_simp;refine hK10 _ _ ?_;intro K11 hK11;go_simp;refine hK11 _ _ ?_;intro K12 hK12;go_simp;refine hK12 _ _ ?_;show Exit.then _ _ _ _ _;refine hK2 _ _ (hJ _ _ ?_);(repeat apply Exists.intro)
  refine⟨⟨(HH.out.set 1 _).set 3 _,(eN HH0.out).setOther (by omega) _,?_⟩,rfl⟩;exact(sCl HB.out lR).setCell (p:=⟨w.heap.size,3,none⟩) lR _
 case rest=>
  obtain⟨hh,h0,hb⟩:=hcut;have HB:Hid (Below w.heap.size w wc):=hb;obtain⟨k0,k1,k2,k3,k4,k5,k6⟩:=hh.c7;obtain⟨y0,y1,y2,y3,y4,y5,y6⟩:=h0.f7;obtain⟨z0,z1,z2,z3,z4,z5,z6⟩:=h0.c7;clear hh h0 hb;go_wp2_with fail
  refine UQ (v:=.agg (iB p).toArray) (by simp[results,Tryz.results142,go_sem,z0,z1,z2,z3,z4,z5,z6]) rfl ⟨rfl,?_⟩;have hsz:w.heap.size≤w.heap.size+1:=Nat.le_succ _;exact(sCl (sCl (sCl (sCl (sCl (sCl (sCl HB.out hsz) hsz) hsz) hsz) hsz) hsz) hsz)
structure SW(lo hi:Nat)(w W:World):Prop where
 os:W.os=w.os
 tape:W.tape=w.tape
 output:W.output=w.output
 size:w.heap.size≤W.heap.size
 block:∀k,k < w.heap.size→(k < lo∨hi≤k)→W.heap[k]?=w.heap[k]?
section
variable {lo hi lo2 hi2 B:Nat} {w w1 W:World}
end
section
variable {α:Type} {en:α→List Value} {n:Nat} {lo hi lo2 hi2:Nat} {w W:World} {a:OA} {xs:List α}
def RF(en:α→List Value)(n lo hi:Nat)(w:World)(a:OA)(xs:List α):Prop:=xs=[]∨∃g,a=some ⟨g,0,none⟩∧lo≤g∧g < hi∧iL en n w g xs xs.length xs.length
end
structure TE(lo hi:Nat)(w:World)(a b:OA)(x:Bb):Prop where
 bd:RF eG 5 lo hi w a x.VC
 ss:RF fY 7 lo hi w b x.UZ
 ne:∀g h,a=some ⟨g,0,none⟩→b=some ⟨h,0,none⟩→x.VC≠[]→x.UZ≠[]→g≠h
section
variable {lo hi lo2 hi2:Nat} {w W:World} {a b:OA} {x:Bb}
end
end Go.Proofs.YtdkepkaflielhaaGreatDoor
