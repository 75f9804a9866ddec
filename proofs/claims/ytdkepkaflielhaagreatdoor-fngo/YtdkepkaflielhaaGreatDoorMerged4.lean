import Derived.Test.YtdkepkaflielhaaGreatDoorMerged3
set_option linter.unusedVariables false
set_option linter.unusedSimpArgs false
set_option maxRecDepth 100000
set_option maxHeartbeats 8000000
namespace Go.Proofs.YtdkepkaflielhaaGreatDoor
open Go.RowKit Go.PlainAid
theorem JU:((List.range 256).all fun n=>decide ((bits .and .i64 (n:Int) 22=2)↔(eH (n:Int) 2=true∧eH (n:Int) 4=false∧eH (n:Int) 16=false)))=true:=by kernel_rfl
theorem CQ{VB:Int}(h:aM VB 0 255=true):(eH VB 2=true∧eH VB 4=false∧eH VB 16=false)=(bits .and .i64 VB 22=2):=by
 unfold aM at h;simp only[TP,decide_eq_true_eq]at h;obtain⟨n,rfl⟩:=TZ h.1;have:=List.all_eq_true.1 JU n (List.mem_range.2 (by omega));exact propext (decide_eq_true_eq.mp this).symm
theorem OS(UU state:Int)(UY:Bool)(VB:Int)(hs:cY UU=false)(hp:UU=6)(hb:aM state 1 7=true)(hc:aM VB 0 255=true):aV UU state UY VB=(
  if eH VB 4=true then 7
  else if state=1 then (if UY=false∧eH VB 2=true then 3 else 1)
  else if state=2 then (if UY=true∧eH VB 2=true then 3 else 2)
  else if state=3 then (if eH VB 1=true then (if UY=true then 4 else 5) else 3)
  else if state=4 then (if UY=false∧eH VB 1=true then 6 else 4)
  else if state=5 then (if UY=true∧eH VB 1=true then 6 else 5)
  else if state=7 then 3 else state):=by
 unfold aV;rw[if_neg (by rw[hs];decide),if_pos ⟨hp,hb,hc⟩]
theorem qZ(l:Lv)(w:World) :
  Cb 67 #[xS l] w (.bool (fR l)):=by
 have HC0:Hid (∀W,Cw 40 #[iV l.udp,iV 1,iV 10000] W (.bool (aM l.udp 1 10000))):=fun W=>fD _ _ _ W
 have HC1:Hid (∀W,Cw 40 #[iV l.echo,iV 1,iV 10000] W (.bool (aM l.echo 1 10000))):=fun W=>fD _ _ _ W
 have HC2:Hid (∀W,Cw 40 #[iV l.opening,iV 1,iV 10000] W (.bool (aM l.opening 1 10000))):=fun W=>fD _ _ _ W
 have HC3:Hid (∀W,Cw 40 #[iV l.opn,iV 1,iV 10000] W (.bool (aM l.opn 1 10000))):=fun W=>fD _ _ _ W
 have HC4:Hid (∀W,Cw 40 #[iV l.closing,iV 1,iV 10000] W (.bool (aM l.closing 1 10000))):=fun W=>fD _ _ _ W
 have HV:Hid (fR l=(aM l.udp 1 10000&&aM l.echo 1 10000&&aM l.opening 1 10000&&aM l.opn 1 10000&&aM l.closing 1 10000)):=rfl;generalize fR l=ans at *;generalize aM l.udp 1 10000=b0 at *;generalize aM l.echo 1 10000=b1 at *;generalize aM l.opening 1 10000=b2 at *;generalize aM l.opn 1 10000=b3 at *;generalize aM l.closing 1 10000=b4 at *;have HZ:Hid (Below w.heap.size w (w.alloc (.cells #[iV l.udp,iV l.echo,iV l.opening,iV l.opn,iV l.closing] 25))):=bR.alloc lR _;unfold xS;go_enter Tryz.func67,Tryz.ntmps67
 go_wp2_with fail
 cases b0 with
 | false=>
  refine(HC0.out _).mono ?_;rintro e w0 ⟨rfl,rfl⟩;go_wp2_with fail
  go_ret;exact⟨aB (by rw[HV.out];rfl),HZ.out⟩
 | true=>
  refine(HC0.out _).mono ?_;rintro e w0 ⟨rfl,rfl⟩;go_wp2_with fail
  cases b1 with
  | false=>
   refine(HC1.out _).mono ?_;rintro e w1 ⟨rfl,rfl⟩;go_wp2_with fail
   go_ret;exact⟨aB (by rw[HV.out];rfl),HZ.out⟩
  | true=>
   refine(HC1.out _).mono ?_;rintro e w1 ⟨rfl,rfl⟩;go_wp2_with fail
   cases b2 with
   | false=>
    refine(HC2.out _).mono ?_;rintro e w2 ⟨rfl,rfl⟩;go_wp2_with fail
    go_ret;exact⟨aB (by rw[HV.out];rfl),HZ.out⟩
   | true=>
    refine(HC2.out _).mono ?_;rintro e w2 ⟨rfl,rfl⟩;go_wp2_with fail
    cases b3 with
    | false=>
     refine(HC3.out _).mono ?_;rintro e w3 ⟨rfl,rfl⟩;go_wp2_with fail
     go_ret;exact⟨aB (by rw[HV.out];rfl),HZ.out⟩
    | true=>
     refine(HC3.out _).mono ?_;rintro e w3 ⟨rfl,rfl⟩;go_wp2_with fail
     cases b4 with
     | false=>
      refine(HC4.out _).mono ?_;rintro e w4 ⟨rfl,rfl⟩;go_wp2_with fail
      go_ret;exact⟨aB (by rw[HV.out];rfl),HZ.out⟩
     | true=>
      refine(HC4.out _).mono ?_;rintro e w4 ⟨rfl,rfl⟩;go_wp2_with fail
      go_ret;exact⟨aB (by rw[HV.out];rfl),HZ.out⟩
theorem rA(UU:Int)(w:World) :
  Cw 179 #[iV UU] w (.bool (cY UU)):=by
 by_cases h1:UU=17
 ·have HV:Hid (cY UU=true):=by unfold Hid cY;simp[h1]
  go_enter Tryz.func179,Tryz.ntmps179
  go_wp2_with fail
  go_ret;exact⟨aB HV.out.symm,rfl⟩
 ·by_cases h2:UU=1
  ·have HV:Hid (cY UU=true):=by unfold Hid cY;simp[h2]
   go_enter Tryz.func179,Tryz.ntmps179
   go_wp2_with fail
   go_ret;exact⟨aB HV.out.symm,rfl⟩
  ·have HV:Hid (cY UU=false):=by unfold Hid cY;simp[h1,h2]
   go_enter Tryz.func179,Tryz.ntmps179
   go_wp2_with fail
   go_ret;exact⟨aB (by rw[HV.out];simp[h1,h2]),rfl⟩
theorem BB(UU state:Int)(UY:Bool)(VB:Int)(w:World) :
  Cw 160 #[iV UU,iV state,.bool UY,iV VB] w (iV (aV UU state UY VB)):=by
 have HA:Hid (∀W,Cw 179 #[iV UU] W (.bool (cY UU))):=fun W=>rA _ W
 have HB:Hid (∀W,Cw 40 #[iV state,iV 1,iV 7] W (.bool (aM state 1 7))):=fun W=>fD _ _ _ W
 have HC:Hid (∀W,Cw 38 #[iV VB] W (.bool (aM VB 0 255))):=fun W=>gU _ W
 have HV:Hid (aV UU state UY VB=aV UU state UY VB):=rfl
 cases hs:cY UU with
 | true=>
  have HX:Hid (aV UU state UY VB=3):=by unfold Hid aV;rw[if_pos hs]
  rw[hs]at HA;clear hs;go_enter Tryz.func160,Tryz.ntmps160
  go_wp2_with fail
  refine(HA.out _).mono ?_;rintro e w1 ⟨rfl,rfl⟩;go_wp2_with fail
  go_ret;exact⟨aK HX.out.symm,rfl⟩
 | false=>
  rw[hs]at HA;have HS:Hid (cY UU=false):=hs;clear hs;by_cases hp:UU=6
  ·subst hp
   cases hb:aM state 1 7 with
   | false=>
    have HX:Hid (aV 6 state UY VB=0):=by unfold Hid aV;rw[if_neg (by rw[HS.out];decide),if_neg (by rw[hb];simp)]
    rw[hb]at HB;clear hb;go_enter Tryz.func160,Tryz.ntmps160
    go_wp2_with fail
    refine(HA.out _).mono ?_;rintro e w1 ⟨rfl,rfl⟩;go_wp2_with fail
    refine(HB.out _).mono ?_;rintro e w1 ⟨rfl,rfl⟩;go_wp2_with fail
    go_ret;exact⟨aK HX.out.symm,rfl⟩
   | true=>
    cases hc:aM VB 0 255 with
    | false=>
     have HX:Hid (aV 6 state UY VB=0):=by unfold Hid aV;rw[if_neg (by rw[HS.out];decide),if_neg (by rw[hc];simp)]
     rw[hb]at HB;rw[hc]at HC;clear hb hc;go_enter Tryz.func160,Tryz.ntmps160
     go_wp2_with fail
     refine(HA.out _).mono ?_;rintro e w1 ⟨rfl,rfl⟩;go_wp2_with fail
     refine(HB.out _).mono ?_;rintro e w1 ⟨rfl,rfl⟩;go_wp2_with fail
     refine(HC.out _).mono ?_;rintro e w1 ⟨rfl,rfl⟩;go_wp2_with fail
     go_ret;exact⟨aK HX.out.symm,rfl⟩
    | true=>
     have HX:Hid _:=OS 6 state UY VB HS.out rfl hb hc;rw[hb]at HB;rw[hc]at HC;have hr:state=1∨state=2∨state=3∨state=4∨state=5∨state=6∨state=7:=by
      unfold aM at hb;simp only[TP,decide_eq_true_eq]at hb;omega
     clear hb hc;go_enter Tryz.func160,Tryz.ntmps160
     go_wp2_with fail
     refine(HA.out _).mono ?_;rintro e w1 ⟨rfl,rfl⟩;go_wp2_with fail
     refine(HB.out _).mono ?_;rintro e w1 ⟨rfl,rfl⟩;go_wp2_with fail
     refine(HC.out _).mono ?_;rintro e w1 ⟨rfl,rfl⟩;clear HA HB HC;go_upto_region 5 with fail
     by_cases h4:bits .and .i64 VB 4=0
     ·have n4:eH VB 4=false:=by unfold eH;simp[h4]
      rw[n4,if_neg (by decide)]at HX;clear n4;have e1:eH VB 1=decide (¬bits .and .i64 VB 1=0):=rfl;have e2:eH VB 2=decide (¬bits .and .i64 VB 2=0):=rfl;rw[e1,e2]at HX;clear e1 e2;rcases hr with rfl|rfl|rfl|rfl|rfl|rfl|rfl<;>by_cases h1:bits .and .i64 VB 1=0<;>by_cases h2:bits .and .i64 VB 2=0<;>cases UY
      all_goals
       simp[h1,h2]at HX;go_wp2_with fail
       go_ret;exact⟨aK HX.out.symm,rfl⟩
     ·have HY:Hid (aV 6 state UY VB=7):=by unfold Hid;rw[HX.out,if_pos (by unfold eH;exact TT h4)]
      go_wp2_with fail
      go_ret;exact⟨aK HY.out.symm,rfl⟩
  ·have HX:Hid (aV UU state UY VB=0):=by unfold Hid aV;rw[if_neg (by rw[HS.out];decide),if_neg (fun h=>hp h.1)]
   go_enter Tryz.func160,Tryz.ntmps160
   go_wp2_with fail
   refine(HA.out _).mono ?_;rintro e w1 ⟨rfl,rfl⟩;go_wp2_with fail
   go_ret;exact⟨aK HX.out.symm,rfl⟩
theorem EG(UU:Int)(UY:Bool)(VB:Int)(w:World) :
  Cw 177 #[iV UU,.bool UY,iV VB] w (iV (bB UU UY VB)):=by
 have HA:Hid (∀W,Cw 179 #[iV UU] W (.bool (cY UU))):=fun W=>rA _ W
 have HC:Hid (∀W,Cw 38 #[iV VB] W (.bool (aM VB 0 255))):=fun W=>gU _ W
 cases hc:aM VB 0 255 with
 | false=>
  have HX:Hid (bB UU UY VB=0):=by unfold Hid bB;rw[if_pos hc]
  rw[hc]at HC;clear hc;go_enter Tryz.func177,Tryz.ntmps177
  go_wp2_with fail
  refine(HC.out _).mono ?_;rintro e w1 ⟨rfl,rfl⟩;go_wp2_with fail
  go_ret;exact⟨aK HX.out.symm,rfl⟩
 | true=>
  have h22:=CQ hc;have HN:Hid (¬aM VB 0 255=false):=by unfold Hid;rw[hc];decide
  rw[hc]at HC;clear hc
  cases hs:cY UU with
  | true=>
   have HX:Hid (bB UU UY VB=3):=by unfold Hid bB;rw[if_neg HN.out,if_pos hs]
   rw[hs]at HA;clear hs h22;go_enter Tryz.func177,Tryz.ntmps177
   go_wp2_with fail
   refine(HC.out _).mono ?_;rintro e w1 ⟨rfl,rfl⟩;go_wp2_with fail
   refine(HA.out _).mono ?_;rintro e w1 ⟨rfl,rfl⟩;go_wp2_with fail
   go_ret;exact⟨aK HX.out.symm,rfl⟩
  | false=>
   have HX:Hid (bB UU UY VB=if UU=6∧bits .and .i64 VB 22=2 then (if UY=true then 1 else 2) else 0):=by
    unfold Hid bB;rw[if_neg HN.out,if_neg (by rw[hs];decide)];simp only[h22]
   rw[hs]at HA;clear hs h22;by_cases hp:UU=6
   ·subst hp;by_cases hf:bits .and .i64 VB 22=2
    ·rw[if_pos ⟨rfl,hf⟩]at HX
     cases UY;all_goals
      go_enter Tryz.func177,Tryz.ntmps177
      go_wp2_with fail
      refine(HC.out _).mono ?_;rintro e w1 ⟨rfl,rfl⟩;go_wp2_with fail
      refine(HA.out _).mono ?_;rintro e w1 ⟨rfl,rfl⟩;go_wp2_with fail
      go_ret;exact⟨aK HX.out.symm,rfl⟩
    ·rw[if_neg (fun h=>hf h.2)]at HX;go_enter Tryz.func177,Tryz.ntmps177
     go_wp2_with fail
     refine(HC.out _).mono ?_;rintro e w1 ⟨rfl,rfl⟩;go_wp2_with fail
     refine(HA.out _).mono ?_;rintro e w1 ⟨rfl,rfl⟩;go_wp2_with fail
     go_ret;exact⟨aK HX.out.symm,rfl⟩
   ·rw[if_neg (fun h=>hp h.1)]at HX;go_enter Tryz.func177,Tryz.ntmps177
    go_wp2_with fail
    refine(HC.out _).mono ?_;rintro e w1 ⟨rfl,rfl⟩;go_wp2_with fail
    refine(HA.out _).mono ?_;rintro e w1 ⟨rfl,rfl⟩;go_wp2_with fail
    go_ret;exact⟨aK HX.out.symm,rfl⟩
theorem sX(l:Lv)(UU state:Int)(w:World) :
  Cb 161 #[xS l,iV UU,iV state] w (iV (bT l UU state)):=by
 have HL:Hid (∀W,Cb 67 #[xS l] W (.bool (fR l))):=fun W=>qZ l W
 have HK:Hid (kJ (w.alloc (.cells #[iV l.udp,iV l.echo,iV l.opening,iV l.opn,iV l.closing] 25)) w.heap.size l):=kJ.new w l;have HZ:Hid (Below w.heap.size w (w.alloc (.cells #[iV l.udp,iV l.echo,iV l.opening,iV l.opn,iV l.closing] 25))):=bR.alloc lR _;unfold xS at HL ⊢
 cases hl:fR l with
 | false=>
  have HX:Hid (bT l UU state=0):=by unfold Hid bT;rw[if_pos hl]
  rw[hl]at HL;clear hl;go_enter Tryz.func161,Tryz.ntmps161
  go_wp2_with fail
  refine(HL.out _).mono ?_;rintro e w1 ⟨rfl,q1⟩;have G1:Hid _:=HZ.out.trans (q1.mono HZ.out.size);clear q1;go_wp2_with fail
  go_ret;exact⟨aK HX.out.symm,G1.out⟩
 | true=>
  have HX:Hid (bT l UU state=if UU=17 then l.udp else if UU=1 then l.echo else if UU=6 then (if state=1∨state=2 then l.opening else if state=3∨state=4∨state=5 then l.opn else if state=6∨state=7 then l.closing else 0) else 0):=by unfold Hid bT;rw[if_neg (by rw[hl];decide)]
  rw[hl]at HL;clear hl;go_enter Tryz.func161,Tryz.ntmps161
  go_wp2_with fail
  refine(HL.out _).mono ?_;rintro e w1 ⟨rfl,q1⟩;have G1:Hid _:=HZ.out.trans (q1.mono HZ.out.size);obtain⟨k0,k1,k2,k3,k4⟩:=HK.out.kept q1;clear q1 HZ HK HL;by_cases p0:UU=17
  ·subst p0;rw[if_pos rfl]at HX;go_wp2_with fail
   go_ret;exact⟨aK HX.out.symm,G1.out⟩
  ·by_cases p1:UU=1
   ·subst p1;rw[if_neg (by decide),if_pos rfl]at HX;go_wp2_with fail
    go_ret;exact⟨aK HX.out.symm,G1.out⟩
   ·rw[if_neg p0,if_neg p1]at HX;by_cases p6:UU=6
    ·subst p6;rw[if_pos rfl]at HX;clear p0 p1;by_cases s1:state=1
     ·subst s1;simp at HX;go_wp2_with fail;go_ret;exact⟨aK HX.out.symm,G1.out⟩
     by_cases s2:state=2
     ·subst s2;simp at HX;go_wp2_with fail;go_ret;exact⟨aK HX.out.symm,G1.out⟩
     by_cases s3:state=3
     ·subst s3;simp at HX;go_wp2_with fail;go_ret;exact⟨aK HX.out.symm,G1.out⟩
     by_cases s4:state=4
     ·subst s4;simp at HX;go_wp2_with fail;go_ret;exact⟨aK HX.out.symm,G1.out⟩
     by_cases s5:state=5
     ·subst s5;simp at HX;go_wp2_with fail;go_ret;exact⟨aK HX.out.symm,G1.out⟩
     by_cases s6:state=6
     ·subst s6;simp at HX;go_wp2_with fail;go_ret;exact⟨aK HX.out.symm,G1.out⟩
     by_cases s7:state=7
     ·subst s7;simp at HX;go_wp2_with fail;go_ret;exact⟨aK HX.out.symm,G1.out⟩
     simp[s1,s2,s3,s4,s5,s6,s7]at HX;go_wp2_with fail
     go_ret;exact⟨aK HX.out.symm,G1.out⟩
    ·rw[if_neg p6]at HX;go_wp2_with fail
     go_ret;exact⟨aK HX.out.symm,G1.out⟩
open Go.ChangeShapes
section
variable {P:Program} {ops:Array Oper} {Q:Exit→Act→World→Prop} {ds:List Tmp} {R:Nat→Value→World→Prop} {a0:Act} {w0:World}
def fK(P:Program)(ops:Array Oper)(Q:Exit→Act→World→Prop)(ds:List Tmp)(R:Nat→Value→World→Prop)(a0:Act)(w0:World)(i:Nat)(o:Oper):Prop :=
 ∀(K':Act→World→Prop) (a:Act) (w:World),(∀t,t ∉ ds→aD a t=aD a0 t)→(∀e∈o.after,Region.binds .any e=true→R e.on (aD a (ds.getD e.on 0)) w) →
  Below w0.heap.size w0 w→(∀v w',R i v w'→Below w.heap.size w w'→K' (a.put o.dst v) w')→if Region.wanted o (yielded ops a.tmps)=true then Oper.wp P o a w K' Q else K' (a.put o.dst undef) w
structure vH(ops:Array Oper)(ds:List Tmp)(n:Nat):Prop where
 len:ds.length=ops.size
 dst:∀i o,ops[i]?=some o→o.dst=some (ds.getD i 0)
 nodup:ds.Nodup
 fits:∀d∈ds,d < n
 topo:∀i o,ops[i]?=some o→∀e∈o.after,Region.binds .any e=true→e.on < i
def FV(ops:Array Oper)(ds:List Tmp)(n:Nat):Bool :=
 decide (ds.length=ops.size)&&(List.range ops.size).all (fun i=>match ops[i]? with
  | some o=>(match o.dst with | some d=>d==ds.getD i 0 | none=>false)&&o.after.all (fun e=>!Region.binds .any e||decide (e.on < i))
  | none=>true)&&decide ds.Nodup&&ds.all (fun d=>decide (d < n))
theorem vH.of{n:Nat}(h:FV ops ds n=true):vH ops ds n:=by
 unfold FV at h;simp only[TP,TU,List.all_eq_true,List.mem_range]at h;obtain⟨⟨⟨h1,h2⟩,h3⟩,h4⟩:=h;have hb:∀i o,ops[i]?=some o→i < ops.size:=fun i o ho=>(UI.1 ho).1
 refine⟨h1,fun i o ho=>?_,h3,h4,fun i o ho e he hbd=>?_⟩
 ·have:=h2 i (hb i o ho);rw[ho]at this;simp only[TP]at this;obtain⟨t1,_⟩:=this
  cases hd:o.dst with
  | none=>rw[hd]at t1;simp at t1
  | some d=>rw[hd]at t1;simp at t1;rw[t1];simp
 ·have:=h2 i (hb i o ho);rw[ho]at this;simp only[TP]at this;obtain⟨_,t3⟩:=this;have:=Array.all_eq_true_iff_forall_mem.1 t3 e he;simp[hbd]at this;exact this
theorem ET(hF:vH ops ds a0.tmps.size)(hst:∀i v w w',R i v w→Below w.heap.size w w'→R i v w')
  (hstep:∀i o,ops[i]?=some o→fK P ops Q ds R a0 w0 i o)
  (hdone:∀a w,a.tmps.size=a0.tmps.size→a.defers=a0.defers→(∀t,t ∉ ds→aD a t=aD a0 t)→(∀i,i < ops.size→R i (aD a (ds.getD i 0)) w)→Below w0.heap.size w0 w→Q .normal a w) :
  ∀(fuel:Nat) (listed:Array Bool) (a:Act) (w:World),vF listed ops.size≤fuel→JG ops ds R a0 w0 listed a w→wpAny P .any ops Q fuel listed a w:=by
 have hall:∀(listed:Array Bool) (a:Act) (w:World),JG ops ds R a0 w0 listed a w→Region.ready .any ops listed=[]→Q .normal a w:=by
  intro listed a w hI hr;refine hdone a w hI.tsize hI.defers hI.outer (fun i hi=>hI.inner i ?_) hI.below;have key:∀i,i < ops.size→listed.getD i false=true:=by
   intro i;induction i using Nat.strongRecOn with
   | ind i ih=>
    intro hi;have hsz:=hI.size;by_cases hh:listed.getD i true=true
    ·have hlt:i < listed.size:=by omega
     simpa[hlt] using hh
    ·exfalso
     have hmem:i∈Region.ready .any ops listed:=by
      rw[mem_ready];refine⟨by simpa using hh,ops[i],by simp[hi],fun e he hb=>?_⟩;have hlt:=hF.topo i ops[i] (by simp[hi]) e he hb;exact ih _ hlt (by omega)
     rw[hr]at hmem;simp at hmem
  exact key i hi
 intro fuel;induction fuel with
 | zero=>
  intro listed a w hu hI;have hr:Region.ready .any ops listed=[]:=by
   rw[List.eq_nil_iff_forall_not_mem];intro i hi;rw[mem_ready]at hi;obtain⟨h0,o,ho,_⟩:=hi;have:=nZ (listed:=listed) ops.size (by omega) i (UI.1 ho).1;rw[h0]at this;simp at this
  exact⟨hr,hall listed a w hI hr⟩
 | succ fuel ih=>
  intro listed a w hu hI;refine⟨fun hr=>hall listed a w hI hr,fun i hi=>?_⟩;rw[mem_ready]at hi;obtain⟨h0,o,ho,hdeps⟩:=hi;have hi:i < ops.size:=(UI.1 ho).1;have hd:=hF.dst i o ho;have hil:i < ds.length:=by rw[hF.len];exact hi
  have hmem:ds.getD i 0∈ds:=by rw[mZ hil];exact TY hil
  refine wpOp_step ho (fun K' hK=>?_);refine hstep i o ho K' a w hI.outer (fun e he hb=>hI.inner _ (hdeps e he hb)) hI.below (fun v w' hR hB=>hK _ _ ?_);refine ih _ _ _ (by have:=oS h0 ops.size hi;omega) ⟨by simp[hI.size],?_,?_,fun t ht=>?_,fun j hj=>?_,hI.below.trans (hB.mono hI.below.size)⟩
  ·rw[hd];simp[Act.put,hI.tsize]
  ·rw[hd];simp[Act.put,hI.defers]
  ·rw[hd,eI (show ds.getD i 0≠t from fun e=>ht (e ▸ hmem))];exact hI.outer t ht
  ·rw[hd];by_cases e:i=j
   ·subst e;rw[jF (by rw[hI.tsize];exact hF.fits _ hmem)];exact hR
   ·rw[getD_set_ne false e]at hj;have hjl:j < ds.length:=by
     rw[hF.len,←hI.size];rcases Nat.lt_or_ge j listed.size with h'|h'
     ·exact h'
     ·simp[Array.getElem?_eq_none h']at hj
    rw[eI (mR hF.nodup hil hjl e)];exact hst _ _ _ _ (hI.inner j hj) hB
theorem tU{id:Nat}(hm:P.follows .mixedOrders=true)(hF:vH ops ds a0.tmps.size)(hst:∀i v w w',R i v w→Below w.heap.size w w'→R i v w')
  (hstep:∀i o,ops[i]?=some o→fK P ops Q ds R a0 w0.drew i o)
  (hdone:∀a w,a.tmps.size=a0.tmps.size→a.defers=a0.defers→(∀t,t ∉ ds→aD a t=aD a0 t)→(∀i,i < ops.size→R i (aD a (ds.getD i 0)) w)→Below w0.drew.heap.size w0.drew w→Q .normal a w) :
  (Code.region id ops true).wp P Q a0 w0:=by
 refine wp_region_any hm (ET (w0:=w0.drew) hF hst hstep hdone ops.size _ a0 w0.drew (rU _ _) ⟨by simp,rfl,rfl,fun _ _=>rfl,fun i hi=>?_,Below.refl _ _⟩);exfalso
 by_cases h:i < ops.size
 ·simp[h]at hi
 ·simp[h]at hi
end
theorem IJ{ops:Array Oper}{a:Act}{j d:Nat}{o:Oper}{b:Bool}(ho:ops[j]?=some o)(hd:o.dst=some d)(hs:aD a d=.bool b):yielded ops a.tmps j=some b:=by
 unfold yielded;rw[ho];simp only[Option.bind_some,hd];unfold aD at hs;by_cases h:d < a.tmps.size
 ·simp[h]at hs ⊢;rw[hs]
 ·simp[h,undef]at hs
theorem bE{ops:Array Oper}{a:Act}{o:Oper}{j d:Nat}{oj:Oper}{b want:Bool}(hg:o.guard=some (j,want))(ho:ops[j]?=some oj)(hd:oj.dst=some d)(hs:aD a d=.bool b):Region.wanted o (yielded ops a.tmps)=(b==want):=by
 unfold Region.wanted;rw[hg];show (yielded ops a.tmps j==some want)=_;rw[IJ ho hd hs]
 cases b<;>cases want<;>rfl
theorem BM{ops:Array Oper}{a:Act}{o:Oper}{j d:Nat}{oj:Oper}{want:Bool}(hg:o.guard=some (j,want))(ho:ops[j]?=some oj)(hd:oj.dst=some d)(hs:aD a d=undef):Region.wanted o (yielded ops a.tmps)=false:=by
 unfold Region.wanted;rw[hg];show (yielded ops a.tmps j==some want)=_;unfold yielded;rw[ho];simp only[Option.bind_some,hd];unfold aD at hs;by_cases h:d < a.tmps.size
 ·simp[h,undef]at hs ⊢;rw[hs];simp
 ·simp[h]
theorem RR{ops:Array Oper}{a:Act}{o:Oper}(j d:Nat){oj:Oper}(b want:Bool){A B:Prop}(hg:o.guard=some (j,want))(ho:ops[j]?=some oj)(hd:oj.dst=some d)(hs:aD a d=.bool b)(hb:(b==want)=true)(h:A):if Region.wanted o (yielded ops a.tmps)=true then A else B:=by
 rw[bE hg ho hd hs,if_pos hb];exact h
theorem RA{ops:Array Oper}{a:Act}{o:Oper}(j d:Nat){oj:Oper}(b want:Bool){A B:Prop}(hg:o.guard=some (j,want))(ho:ops[j]?=some oj)(hd:oj.dst=some d)(hs:aD a d=.bool b)(hb:(b==want)=false)(h:B):if Region.wanted o (yielded ops a.tmps)=true then A else B:=by
 rw[bE hg ho hd hs,if_neg (by rw[hb];decide)];exact h
theorem RC{ops:Array Oper}{a:Act}{o:Oper}(j d:Nat){oj:Oper}{want:Bool}{A B:Prop}(hg:o.guard=some (j,want))(ho:ops[j]?=some oj)(hd:oj.dst=some d)(hs:aD a d=undef)(h:B):if Region.wanted o (yielded ops a.tmps)=true then A else B:=by
 rw[BM hg ho hd hs,if_neg (by decide)];exact h
theorem uQ{ops:Array Oper}{a:Act}{o:Oper}(hg:o.guard=none):Region.wanted o (yielded ops a.tmps)=true:=by unfold Region.wanted;rw[hg]
section
variable {P:Program} {ops:Array Oper} {Q:Exit→Act→World→Prop} {ds:List Tmp} {a0:Act} {w0:World}
theorem pV{Rs Ss:List (Value→World→Prop)}{i:Nat}(h:i < Rs.length):aS (Rs++Ss) i=aS Rs i:=by
 unfold aS;simp[List.getElem?_append_left h]
theorem fK.congr{R R':Nat→Value→World→Prop}{i:Nat}{o:Oper}(ht:∀e∈o.after,Region.binds .any e=true→e.on < i)(h:∀j,j≤i→R j=R' j)(hs:fK P ops Q ds R a0 w0 i o):fK P ops Q ds R' a0 w0 i o:=by
 intro K' a w ho hd hb hK;refine hs K' a w ho (fun e he hbd=>?_) hb (fun v w' hr=>?_)
 ·rw[h e.on (Nat.le_of_lt (ht e he hbd))];exact hd e he hbd
 ·rw[h i lR]at hr;exact hK v w' hr
def cW(P:Program)(ops:Array Oper)(Q:Exit→Act→World→Prop)(ds:List Tmp)(a0:Act)(w0:World):List (Value→World→Prop)→List Oper→Prop
 | Rs,[]=>∀(X:Nat→Value) w,eW X w 0 Rs→Below w0.heap.size w0 w→Q .normal (aE X a0 0 ds) w
 | Rs,o::l=>∃r,eZ r∧fK P ops Q ds (aS (Rs++[r])) a0 w0 Rs.length o∧cW P ops Q ds a0 w0 (Rs++[r]) l
theorem cW.all:∀(l:List Oper) (Rs:List (Value→World→Prop)),(∀i o,l[i]?=some o→∀e∈o.after,Region.binds .any e=true→e.on < Rs.length+i)→(∀r∈Rs,eZ r)→cW P ops Q ds a0 w0 Rs l →
  ∃Ss,(Rs++Ss).length=Rs.length+l.length∧(∀r∈Rs++Ss,eZ r)∧(∀i o,l[i]?=some o→fK P ops Q ds (aS (Rs++Ss)) a0 w0 (Rs.length+i) o)∧(∀(X:Nat→Value) w,eW X w 0 (Rs++Ss)→Below w0.heap.size w0 w→Q .normal (aE X a0 0 ds) w)
 | [],Rs,_,hst,h=>⟨[],by simp,by simpa using hst,fun i o ho=>by simp at ho,by rw[List.append_nil];exact h⟩
 | o::l,Rs,ht,hst,⟨r,hr,hs,hc⟩=>by
  obtain⟨Ss,h1,h2,h3,h4⟩:=cW.all l (Rs++[r]) (fun i o' ho e he hb=>by
   have:=ht (i+1) o' (by simpa using ho) e he hb;simp;omega) (fun x hx=>by
   rcases List.mem_append.1 hx with hx|hx
   ·exact hst x hx
   ·simp at hx;subst hx;exact hr) hc
  refine⟨r::Ss,by simp at h1 ⊢;omega,by simpa using h2,fun i o' ho=>?_,by simpa using h4⟩;have e:Rs++r::Ss=Rs++[r]++Ss:=by simp
  rw[e]
  cases i with
  | zero=>
   simp at ho;subst ho;refine fK.congr (ht 0 o rfl) (fun j hj=>?_) hs;exact(pV (by simp;omega)).symm
  | succ i=>
   have:=h3 i o' (by simpa using ho);rwa [show (Rs++[r]).length+i=Rs.length+(i+1) by simp;omega]at this
theorem bH{id:Nat}(ds:List Tmp)(hm:P.follows .mixedOrders=true)(hF:FV ops ds a0.tmps.size=true)(h:cW P ops Q ds a0 w0.drew [] ops.toList) :
  (Code.region id ops true).wp P Q a0 w0:=by
 have hG:=vH.of hF;obtain⟨Ss,h1,h2,h3,h4⟩:=cW.all ops.toList [] (fun i o ho e he hb=>by
  have:=hG.topo i o (by simpa using ho) e he hb;simpa using this) (fun r hr=>by simp at hr) h
 simp only[UB,List.length_nil,TX]at h1 h2 h3 h4;refine tU (ds:=ds) (R:=aS Ss) hm hG (fun i v w w' h hb=>?_) (fun i o ho=>?_) (fun a w g1 g2 g3 g4 g5=>?_)
 ·unfold aS at *;by_cases hi:i < Ss.length
  ·have e:Ss.getD i (fun _ _=>True)=Ss[i]:=by simp[hi]
   rw[e]at h ⊢;exact h2 _ (TY hi) v w w' h hb
  ·have e:Ss.getD i (fun _ _=>True)=fun _ _=>True:=by simp[Nat.le_of_not_lt hi]
   rw[e];trivial
 ·exact h3 i o (by simpa using ho)
 ·have hp:aE (fun i=>aD a (ds.getD i 0)) a0 0 ds=a:=oL ds a0 0 g1.symm g2.symm (fun i _=>by rw[TX]) (fun t ht=>(g3 t ht).symm) (fun d hd=>by rw[g1];exact hG.fits d hd);rw[←hp];exact h4 (fun i=>aD a (ds.getD i 0)) w (eW.mk Ss 0 (fun i hi=>by rw[TX];exact g4 i (by rw[←Array.length_toList,←h1];exact hi))) g5
theorem cW.val{Rs:List (Value→World→Prop)}{n:Nat}{o:Oper}{l:List Oper}(Rs':Value→List (Value→World→Prop))(hR:∀v,Rs' v=Rs++[aF v])(hn:Rs.length=n)(h:∃v,fK P ops Q ds (aS (Rs' v)) a0 w0 n o∧cW P ops Q ds a0 w0 (Rs' v) l):cW P ops Q ds a0 w0 Rs (o::l):=by
 obtain⟨v,h1,h2⟩:=h;rw[hR]at h1 h2;subst hn;exact⟨aF v,cC v,h1,h2⟩
theorem cW.rel{Rs:List (Value→World→Prop)}{n:Nat}{o:Oper}{l:List Oper}(r:Value→World→Prop)(hr:eZ r)(Rs':List (Value→World→Prop))(hR:Rs'=Rs++[r])(hn:Rs.length=n)(h1:fK P ops Q ds (aS Rs') a0 w0 n o)(h2:cW P ops Q ds a0 w0 Rs' l):cW P ops Q ds a0 w0 Rs (o::l):=by
 subst hR hn;exact⟨r,hr,h1,h2⟩
def GW(P:Program)(Q:Exit→Act→World→Prop)(ds:List Tmp)(Rs:List (Value→World→Prop))(a0:Act)(w0:World)(i:Nat)(o:Oper):Prop :=
 ∀(K':Act→World→Prop) (a:Act) (w:World),(∀t,t ∉ ds→aD a t=aD a0 t)→(∀e∈o.after,Region.binds .any e=true→aS Rs e.on (aD a (ds.getD e.on 0)) w) →
  Below w0.heap.size w0 w→(∀v w',aS Rs i v w'→Below w.heap.size w w'→K' (a.put o.dst v) w')→(∀v,aS Rs i v w→K' (a.put o.dst v) w)→Oper.wp P o a w K' Q
theorem GW.step{Rs:List (Value→World→Prop)}{i:Nat}{o:Oper}(hg:o.guard=none)(h:GW P Q ds Rs a0 w0 i o):fK P ops Q ds (aS Rs) a0 w0 i o:=fun K' a w ho hd hb hK=>by
 rw[if_pos (uQ hg)];exact h K' a w ho hd hb hK (fun v hv=>hK v w hv bR)
theorem cW.vv{Rs Rs':List (Value→World→Prop)}{n:Nat}{o:Oper}{l:List Oper}{v:Value}(hR:Rs'=Rs++[aF v])(hn:Rs.length=n)(hg:o.guard=none)(h1:GW P Q ds Rs' a0 w0 n o)(h2:cW P ops Q ds a0 w0 Rs' l):cW P ops Q ds a0 w0 Rs (o::l):=by
 subst hR hn;exact⟨aF v,cC v,h1.step hg,h2⟩
variable {R0 R1 R2 R3 R4 R5 R6 R7 R8 R9 R10 R11 R12 R13 R14 R15 R16 R17 R18 R19 R20 R21 R22 R23 R24 R25 R26 R27 R28 R29 R30 R31 R32 R33 R34 R35 R36 R37 R38 R39 R40 R41 R42 R43 R44 R45:Value→World→Prop} {o:Oper} {l:List Oper} {v:Value}
theorem cW.v2(hg:o.guard=none)(h1:GW P Q ds [R0,R1,aF v] a0 w0 2 o)(h2:cW P ops Q ds a0 w0 [R0,R1,aF v] l):cW P ops Q ds a0 w0 [R0,R1] (o::l):=.vv rfl rfl hg h1 h2
theorem cW.v3(hg:o.guard=none)(h1:GW P Q ds [R0,R1,R2,aF v] a0 w0 3 o)(h2:cW P ops Q ds a0 w0 [R0,R1,R2,aF v] l):cW P ops Q ds a0 w0 [R0,R1,R2] (o::l):=.vv rfl rfl hg h1 h2
theorem cW.v4(hg:o.guard=none)(h1:GW P Q ds [R0,R1,R2,R3,aF v] a0 w0 4 o)(h2:cW P ops Q ds a0 w0 [R0,R1,R2,R3,aF v] l):cW P ops Q ds a0 w0 [R0,R1,R2,R3] (o::l):=.vv rfl rfl hg h1 h2
theorem cW.v8(hg:o.guard=none)(h1:GW P Q ds [R0,R1,R2,R3,R4,R5,R6,R7,aF v] a0 w0 8 o)(h2:cW P ops Q ds a0 w0 [R0,R1,R2,R3,R4,R5,R6,R7,aF v] l):cW P ops Q ds a0 w0 [R0,R1,R2,R3,R4,R5,R6,R7] (o::l):=.vv rfl rfl hg h1 h2
theorem cW.v10(hg:o.guard=none)(h1:GW P Q ds [R0,R1,R2,R3,R4,R5,R6,R7,R8,R9,aF v] a0 w0 10 o)(h2:cW P ops Q ds a0 w0 [R0,R1,R2,R3,R4,R5,R6,R7,R8,R9,aF v] l):cW P ops Q ds a0 w0 [R0,R1,R2,R3,R4,R5,R6,R7,R8,R9] (o::l):=.vv rfl rfl hg h1 h2
theorem cW.v12(hg:o.guard=none)(h1:GW P Q ds [R0,R1,R2,R3,R4,R5,R6,R7,R8,R9,R10,R11,aF v] a0 w0 12 o)(h2:cW P ops Q ds a0 w0 [R0,R1,R2,R3,R4,R5,R6,R7,R8,R9,R10,R11,aF v] l):cW P ops Q ds a0 w0 [R0,R1,R2,R3,R4,R5,R6,R7,R8,R9,R10,R11] (o::l):=.vv rfl rfl hg h1 h2
end
section
variable {P:Program} {ops:Array Oper} {Q:Exit→Act→World→Prop} {ds:List Tmp} {R:Nat→Value→World→Prop} {a0:Act} {w0:World}
def fO(P:Program)(Q:Exit→Act→World→Prop):List Oper→Act→World→Prop
 | [],a,w=>Q .normal a w
 | o::l,a,w=>∀K':Act→World→Prop,(∀a' w',fO P Q l a' w'→K' a' w')→Oper.wp P o a w K' Q
structure rC(ops:Array Oper)(ds:List Tmp)(n:Nat):Prop where
 le:ds.length < ops.size
 dst:∀i o,i < ds.length→ops[i]?=some o→o.dst=some (ds.getD i 0)
 nodup:ds.Nodup
 fits:∀d∈ds,d < n
 topo:∀i o,ops[i]?=some o→∀e∈o.after,Region.binds .any e=true→e.on < i
 sguard:∀i o,ds.length≤i→ops[i]?=some o→o.guard=none
 swait:∀i o,ds.length < i→ops[i]?=some o→∃e∈o.after,Region.binds .any e=true∧e.on=i-1
 lall:∀j,j < ds.length→∃i o,j < i∧i≤ds.length∧ops[i]?=some o∧∃e∈o.after,Region.binds .any e=true∧e.on=j
def zV(ops:Array Oper)(ds:List Tmp)(n:Nat):Bool :=
 decide (ds.length < ops.size)&&(List.range ops.size).all (fun i=>match ops[i]? with
  | some o=>o.after.all (fun e=>!Region.binds .any e||decide (e.on < i))&&(if i < ds.length then (match o.dst with | some d=>d==ds.getD i 0 | none=>false) else o.guard.isNone)&&(if ds.length < i then o.after.any (fun e=>Region.binds .any e&&e.on==i-1) else true)
  | none=>true)&&decide ds.Nodup&&ds.all (fun d=>decide (d < n)) &&
 (List.range ds.length).all (fun j=>(List.range (ds.length+1)).any (fun i=>decide (j < i)&&match ops[i]? with | some o=>o.after.any (fun e=>Region.binds .any e&&e.on==j) | none=>false))
theorem rC.of{n:Nat}(h:zV ops ds n=true):rC ops ds n:=by
 unfold zV at h;simp only[TP,TU,List.all_eq_true,List.mem_range]at h;obtain⟨⟨⟨⟨h1,h2⟩,h3⟩,h4⟩,h5⟩:=h;have hb:∀i o,ops[i]?=some o→i < ops.size:=fun i o ho=>(UI.1 ho).1
 refine⟨h1,fun i o hi ho=>?_,h3,h4,fun i o ho e he hbd=>?_,fun i o hi ho=>?_,fun i o hi ho=>?_,fun j hj=>?_⟩
 ·have:=h2 i (hb i o ho);rw[ho]at this;simp only[TP,if_pos hi]at this;have t1:=this.1.2
  cases hd:o.dst with
  | none=>rw[hd]at t1;simp at t1
  | some d=>rw[hd]at t1;simp at t1;rw[t1];simp
 ·have:=h2 i (hb i o ho);rw[ho]at this;simp only[TP]at this;have:=Array.all_eq_true_iff_forall_mem.1 this.1.1 e he;simp[hbd]at this;exact this
 ·have:=h2 i (hb i o ho);rw[ho]at this;simp only[TP,if_neg (show ¬i < ds.length by omega)]at this;simpa using this.1.2
 ·have:=h2 i (hb i o ho);rw[ho]at this;simp only[TP,if_pos hi]at this;obtain⟨e,he,hbd⟩:=Array.any_eq_true'.1 this.2;simp only[TP,beq_iff_eq]at hbd;exact⟨e,he,hbd.1,hbd.2⟩
 ·obtain⟨i,hi,hh⟩:=List.any_eq_true.1 (h5 j hj);simp only[TP,TU]at hh
  cases ho:ops[i]? with
  | none=>rw[ho]at hh;simp at hh
  | some o=>
   rw[ho]at hh;obtain⟨e,he,hbd⟩:=Array.any_eq_true'.1 hh.2;simp only[TP,beq_iff_eq]at hbd;exact⟨i,o,hh.1,by have:=List.mem_range.1 hi;omega,ho,e,he,hbd.1,hbd.2⟩
theorem zA(hF:rC ops ds a0.tmps.size):∀(fuel m:Nat) (listed:Array Bool) (a:Act) (w:World),ds.length≤m→m≤ops.size→listed.size=ops.size→(∀j,j < ops.size→(listed.getD j false=true↔j < m))→ops.size-m≤fuel→fO P Q (ops.toList.drop m) a w→wpAny P .any ops Q fuel listed a w:=by
 have nil:∀(m:Nat) (listed:Array Bool),listed.size=ops.size→(∀j,j < ops.size→(listed.getD j false=true↔j < m))→ops.size≤m→Region.ready .any ops listed=[]:=by
  intro m listed hsz hl hm;rw[List.eq_nil_iff_forall_not_mem];intro i hi;rw[mem_ready]at hi;obtain⟨h0,o,ho,_⟩:=hi;have hio:=(UI.1 ho).1;have:=(hl i hio).2 (by omega);have hs:i < listed.size:=by omega
  simp[hs]at h0 this;rw[h0]at this;simp at this
 intro fuel;induction fuel with
 | zero=>
  intro m listed a w hn hm hsz hl hf hq;have hme:m=ops.size:=by omega
  subst hme;rw[List.drop_of_length_le (by simp)]at hq;exact⟨nil _ _ hsz hl lR,hq⟩
 | succ fuel ih=>
  intro m listed a w hn hm hsz hl hf hq;by_cases hme:m=ops.size
  ·subst hme;rw[List.drop_of_length_le (by simp)]at hq;exact wpAny_done (nil _ _ hsz hl lR) hq (fuel+1)
  ·have hmo:m < ops.size:=by omega
   have hom:ops[m]?=some ops[m]:=by simp[hmo]
   have hunl:∀j,j < ops.size→m≤j→listed.getD j true=false:=fun j hj hmj=>by
    have hs:j < listed.size:=by omega
    have:=mt (hl j hj).1 (by omega);simp[hs]at this ⊢;exact this
   refine⟨fun hr=>?_,fun i hi=>?_⟩
   ·exfalso
    have hmem:m∈Region.ready .any ops listed:=by
     rw[mem_ready];exact⟨hunl m hmo lR,ops[m],hom,fun e he hb=>(hl _ (by have:=hF.topo m _ hom e he hb;omega)).2 (hF.topo m _ hom e he hb)⟩
    rw[hr]at hmem;simp at hmem
   ·rw[mem_ready]at hi;obtain⟨h0,o,ho,hdeps⟩:=hi;have hio:=(UI.1 ho).1;have him:m≤i:=by
     by_cases e:i < m
     ·exfalso
      have:=(hl i hio).2 e;have hs:i < listed.size:=by omega
      simp[hs]at h0 this;rw[h0]at this;simp at this
     ·omega
    have hie:i=m:=by
     by_cases e:i=m
     ·exact e
     ·exfalso
      obtain⟨e1,he,hb,hon⟩:=hF.swait i o (by omega) ho;have:=(hl e1.on (by omega)).1 (hdeps e1 he hb);omega
    subst hie;obtain rfl:ops[i]=o:=by rw[hom]at ho;exact Option.some.inj ho
    refine wpOp_step ho (fun K' hK=>?_);rw[if_pos (by unfold Region.wanted;rw[hF.sguard i _ hn ho])];rw[List.drop_eq_getElem_cons (by simpa using hmo)]at hq;refine hq K' (fun a' w' h'=>hK _ _ ?_);refine ih (i+1) _ a' w' (by omega) (by omega) (by simp[hsz]) (fun j hj=>?_) (by omega) h';by_cases e:i=j
    ·subst e;have hs:i < listed.size:=by omega
     simp[hs]
    ·rw[getD_set_ne false e,hl j hj];omega
theorem EU(hF:rC ops ds a0.tmps.size)(hst:∀i v w w',R i v w→Below w.heap.size w w'→R i v w')
  (hstep:∀i o,i < ds.length→ops[i]?=some o→fK P ops Q ds R a0 w0 i o)
  (hdone:∀a w,a.tmps.size=a0.tmps.size→a.defers=a0.defers→(∀t,t ∉ ds→aD a t=aD a0 t)→(∀i,i < ds.length→R i (aD a (ds.getD i 0)) w)→Below w0.heap.size w0 w→fO P Q (ops.toList.drop ds.length) a w) :
  ∀(fuel:Nat) (listed:Array Bool) (a:Act) (w:World),vF listed ops.size≤fuel→JG ops ds R a0 w0 listed a w→(∀j,j < ops.size→ds.length≤j→listed.getD j false=false)→(∀i o,ops[i]?=some o→listed.getD i false=true→∀e∈o.after,Region.binds .any e=true→listed.getD e.on false=true)→wpAny P .any ops Q fuel listed a w:=by
 have ft:∀(listed:Array Bool) (j:Nat),j < listed.size→(listed.getD j true=listed.getD j false):=fun listed j hj=>by simp[hj]
 intro fuel;induction fuel with
 | zero=>
  intro listed a w hu hI hs hcl;exfalso
  have:=nZ (listed:=listed) ops.size (by omega) ds.length hF.le;rw[ft listed _ (by rw[hI.size];exact hF.le),hs _ hF.le lR]at this;simp at this
 | succ fuel ih=>
  intro listed a w hu hI hs hcl;by_cases hall:∀j,j < ds.length→listed.getD j false=true
  ·refine zA hF (fuel+1) ds.length listed a w lR (Nat.le_of_lt hF.le) hI.size (fun j hj=>⟨fun h=>?_,fun h=>hall j h⟩) ?_ (hdone a w hI.tsize hI.defers hI.outer (fun j hj=>hI.inner j (hall j hj)) hI.below)
   ·by_cases e:j < ds.length
    ·exact e
    ·rw[hs j hj (by omega)]at h;simp at h
   ·refine UA ?_ hu;have key:∀n,n≤ops.size→n-ds.length≤vF listed n:=by
     intro n;induction n with
     | zero=>intro _;omega
     | succ n ihn=>
      intro hn;have h1:=ihn (by omega);unfold vF;by_cases e:n < ds.length
      ·omega
      ·rw[if_neg (by rw[ft listed n (by rw[hI.size];omega),hs n (by omega) (by omega)];simp)];omega
    exact key ops.size lR
  ·refine⟨fun hr=>?_,fun i hi=>?_⟩
   ·exfalso
    refine hall (fun i=>?_);induction i using Nat.strongRecOn with
    | ind i ih2=>
     intro hil;have hio:i < ops.size:=Nat.lt_trans hil hF.le;by_cases hh:listed.getD i true=true
     ·rw[ft listed i (by rw[hI.size];exact hio)]at hh;exact hh
     ·exfalso
      have hmem:i∈Region.ready .any ops listed:=by
       rw[mem_ready];refine⟨by simpa using hh,ops[i],by simp[hio],fun e he hb=>?_⟩;have hlt:=hF.topo i ops[i] (by simp[hio]) e he hb;exact ih2 _ hlt (by omega)
      rw[hr]at hmem;simp at hmem
   ·rw[mem_ready]at hi;obtain⟨h0,o,ho,hdeps⟩:=hi;have hio:i < ops.size:=(UI.1 ho).1;have hil:i < ds.length:=by
     by_cases e:i < ds.length
     ·exact e
     ·exfalso
      by_cases e2:ds.length < i
      ·obtain⟨e1,he,hb,hon⟩:=hF.swait i o e2 ho;have h1:=hdeps e1 he hb;rw[hs e1.on (by omega) (by omega)]at h1;simp at h1
      ·have hin:i=ds.length:=by omega
       refine hall ?_;have key:∀d j,ds.length-j≤d→j < ds.length→listed.getD j false=true:=by
        intro d;induction d with
        | zero=>intro j h1 h2;omega
        | succ d ihd=>
         intro j h1 h2;obtain⟨q,oq,hq1,hq2,hoq,ed,he,hb,hon⟩:=hF.lall j h2;by_cases e3:q=ds.length
         ·subst hin;subst e3;obtain rfl:o=oq:=by rw[ho]at hoq;exact Option.some.inj hoq
          rw[←hon];exact hdeps ed he hb
         ·rw[←hon];exact hcl q oq hoq (ihd q (by omega) (by omega)) ed he hb
       exact fun j hj=>key ds.length j (by omega) hj
    have hd:=hF.dst i o hil ho;have hmem:ds.getD i 0∈ds:=by rw[mZ hil];exact TY hil
    refine wpOp_step ho (fun K' hK=>?_);refine hstep i o hil ho K' a w hI.outer (fun e he hb=>hI.inner _ (hdeps e he hb)) hI.below (fun v w' hR hB=>hK _ _ ?_);refine ih _ _ _ (by have:=oS h0 ops.size hio;omega) ⟨by simp[hI.size],?_,?_,fun t ht=>?_,fun j hj=>?_,hI.below.trans (hB.mono hI.below.size)⟩ (fun j hj hn=>by rw[getD_set_ne false (by omega)];exact hs j hj hn) ?_
    ·rw[hd];simp[Act.put,hI.tsize]
    ·rw[hd];simp[Act.put,hI.defers]
    ·rw[hd,eI (show ds.getD i 0≠t from fun e=>ht (e ▸ hmem))];exact hI.outer t ht
    ·rw[hd];by_cases e:i=j
     ·subst e;rw[jF (by rw[hI.tsize];exact hF.fits _ hmem)];exact hR
     ·rw[getD_set_ne false e]at hj;have hjo:j < ops.size:=by
       rw[←hI.size];rcases Nat.lt_or_ge j listed.size with h'|h'
       ·exact h'
       ·simp[Array.getElem?_eq_none h']at hj
      have hjl:j < ds.length:=by
       by_cases e2:j < ds.length
       ·exact e2
       ·rw[hs j hjo (by omega)]at hj;simp at hj
      rw[eI (mR hF.nodup hil hjl e)];exact hst _ _ _ _ (hI.inner j hj) hB
    ·have hset:∀j,listed.getD j false=true→(listed.setIfInBounds i true).getD j false=true:=fun j hj=>by
      by_cases e:i=j
      ·subst e;have hsz:i < listed.size:=by rw[hI.size];exact hio
       simp[hsz]
      ·rw[getD_set_ne false e];exact hj
     intro j o' ho' hj e he hb;by_cases hij:i=j
     ·subst hij;obtain rfl:o=o':=by rw[ho]at ho';exact Option.some.inj ho'
      exact hset _ (hdeps e he hb)
     ·rw[getD_set_ne false hij]at hj;exact hset _ (hcl j o' ho' hj e he hb)
def bC(P:Program)(ops:Array Oper)(Q:Exit→Act→World→Prop)(ds:List Tmp)(a0:Act)(w0:World)(suf:List Oper):List (Value→World→Prop)→List Oper→Prop
 | Rs,[]=>∀(X:Nat→Value) w,eW X w 0 Rs→Below w0.heap.size w0 w→fO P Q suf (aE X a0 0 ds) w
 | Rs,o::l=>∃r,eZ r∧fK P ops Q ds (aS (Rs++[r])) a0 w0 Rs.length o∧bC P ops Q ds a0 w0 suf (Rs++[r]) l
theorem bC.all{suf:List Oper}:∀(l:List Oper) (Rs:List (Value→World→Prop)),(∀i o,l[i]?=some o→∀e∈o.after,Region.binds .any e=true→e.on < Rs.length+i)→(∀r∈Rs,eZ r)→bC P ops Q ds a0 w0 suf Rs l →
  ∃Ss,(Rs++Ss).length=Rs.length+l.length∧(∀r∈Rs++Ss,eZ r)∧(∀i o,l[i]?=some o→fK P ops Q ds (aS (Rs++Ss)) a0 w0 (Rs.length+i) o)∧(∀(X:Nat→Value) w,eW X w 0 (Rs++Ss)→Below w0.heap.size w0 w→fO P Q suf (aE X a0 0 ds) w)
 | [],Rs,_,hst,h=>⟨[],by simp,by simpa using hst,fun i o ho=>by simp at ho,by rw[List.append_nil];exact h⟩
 | o::l,Rs,ht,hst,⟨r,hr,hs,hc⟩=>by
  obtain⟨Ss,h1,h2,h3,h4⟩:=bC.all l (Rs++[r]) (fun i o' ho e he hb=>by
   have:=ht (i+1) o' (by simpa using ho) e he hb;simp;omega) (fun x hx=>by
   rcases List.mem_append.1 hx with hx|hx
   ·exact hst x hx
   ·simp at hx;subst hx;exact hr) hc
  refine⟨r::Ss,by simp at h1 ⊢;omega,by simpa using h2,fun i o' ho=>?_,by simpa using h4⟩;have e:Rs++r::Ss=Rs++[r]++Ss:=by simp
  rw[e]
  cases i with
  | zero=>
   simp at ho;subst ho;refine fK.congr (ht 0 o rfl) (fun j hj=>?_) hs;exact(pV (by simp;omega)).symm
  | succ i=>
   have:=h3 i o' (by simpa using ho);rwa [show (Rs++[r]).length+i=Rs.length+(i+1) by simp;omega]at this
theorem aN{id:Nat}(ds:List Tmp)(hm:P.follows .mixedOrders=true)(hF:zV ops ds a0.tmps.size=true)(h:bC P ops Q ds a0 w0.drew (ops.toList.drop ds.length) [] (ops.toList.take ds.length)) :
  (Code.region id ops true).wp P Q a0 w0:=by
 have hG:=rC.of hF;have hle:=hG.le;obtain⟨Ss,h1,h2,h3,h4⟩:=bC.all (ops.toList.take ds.length) [] (fun i o ho e he hb=>by
  have hi:i < ds.length:=by
   by_cases e2:i < ds.length
   ·exact e2
   ·rw[List.getElem?_eq_none (by simp;omega)]at ho;simp at ho
  rw[List.getElem?_take,if_pos hi]at ho;have:=hG.topo i o (by simpa using ho) e he hb;simpa using this) (fun r hr=>by simp at hr) h
 simp only[UB,List.length_nil,TX]at h1 h2 h3 h4;have jJ:Ss.length=ds.length:=by rw[h1];simp;omega
 refine wp_region_any hm (EU (w0:=w0.drew) (R:=aS Ss) hG (fun i v w w' h hb=>?_) (fun i o hi ho=>?_) (fun a w g1 g2 g3 g4 g5=>?_) ops.size _ a0 w0.drew (rU _ _) ⟨by simp,rfl,rfl,fun _ _=>rfl,fun i hi=>?_,Below.refl _ _⟩ (fun j hj _=>by simp[hj]) (fun i o ho hi=>?_))
 ·unfold aS at *;by_cases hi:i < Ss.length
  ·have e:Ss.getD i (fun _ _=>True)=Ss[i]:=by simp[hi]
   rw[e]at h ⊢;exact h2 _ (TY hi) v w w' h hb
  ·have e:Ss.getD i (fun _ _=>True)=fun _ _=>True:=by simp[Nat.le_of_not_lt hi]
   rw[e];trivial
 ·exact h3 i o (by rw[List.getElem?_take,if_pos hi];simpa using ho)
 ·have hp:aE (fun i=>aD a (ds.getD i 0)) a0 0 ds=a:=oL ds a0 0 g1.symm g2.symm (fun i _=>by rw[TX]) (fun t ht=>(g3 t ht).symm) (fun d hd=>by rw[g1];exact hG.fits d hd);rw[←hp];exact h4 (fun i=>aD a (ds.getD i 0)) w (eW.mk Ss 0 (fun i hi=>by rw[TX];exact g4 i (by omega))) g5
 ·exfalso
  by_cases h:i < ops.size
  ·simp[h]at hi
  ·simp[h]at hi
 ·exfalso
  by_cases h:i < ops.size
  ·simp[h]at hi
  ·simp[h]at hi
theorem bC.val{suf:List Oper}{Rs:List (Value→World→Prop)}{n:Nat}{o:Oper}{l:List Oper}(Rs':Value→List (Value→World→Prop))(hR:∀v,Rs' v=Rs++[aF v])(hn:Rs.length=n)(h:∃v,fK P ops Q ds (aS (Rs' v)) a0 w0 n o∧bC P ops Q ds a0 w0 suf (Rs' v) l):bC P ops Q ds a0 w0 suf Rs (o::l):=by
 obtain⟨v,h1,h2⟩:=h;rw[hR]at h1 h2;subst hn;exact⟨aF v,cC v,h1,h2⟩
theorem bC.rel{suf:List Oper}{Rs:List (Value→World→Prop)}{n:Nat}{o:Oper}{l:List Oper}(r:Value→World→Prop)(hr:eZ r)(Rs':List (Value→World→Prop))(hR:Rs'=Rs++[r])(hn:Rs.length=n)(h1:fK P ops Q ds (aS Rs') a0 w0 n o)(h2:bC P ops Q ds a0 w0 suf Rs' l):bC P ops Q ds a0 w0 suf Rs (o::l):=by
 subst hR hn;exact⟨r,hr,h1,h2⟩
theorem bC.vv{suf:List Oper}{Rs Rs':List (Value→World→Prop)}{n:Nat}{o:Oper}{l:List Oper}{v:Value}(hR:Rs'=Rs++[aF v])(hn:Rs.length=n)(hg:o.guard=none)(h1:GW P Q ds Rs' a0 w0 n o)(h2:bC P ops Q ds a0 w0 suf Rs' l):bC P ops Q ds a0 w0 suf Rs (o::l):=by
 subst hR hn;exact⟨aF v,cC v,h1.step hg,h2⟩
variable {R0 R1 R2 R3 R4 R5 R6 R7 R8 R9 R10 R11 R12 R13 R14 R15 R16 R17 R18 R19 R20 R21 R22 R23 R24 R25 R26 R27 R28 R29 R30 R31 R32 R33 R34 R35 R36 R37 R38 R39 R40 R41 R42 R43 R44 R45:Value→World→Prop} {o:Oper} {l suf:List Oper} {v:Value}
theorem bC.v0(hg:o.guard=none)(h1:GW P Q ds [aF v] a0 w0 0 o)(h2:bC P ops Q ds a0 w0 suf [aF v] l):bC P ops Q ds a0 w0 suf [] (o::l):=.vv rfl rfl hg h1 h2
theorem bC.v1(hg:o.guard=none)(h1:GW P Q ds [R0,aF v] a0 w0 1 o)(h2:bC P ops Q ds a0 w0 suf [R0,aF v] l):bC P ops Q ds a0 w0 suf [R0] (o::l):=.vv rfl rfl hg h1 h2
theorem bC.v2(hg:o.guard=none)(h1:GW P Q ds [R0,R1,aF v] a0 w0 2 o)(h2:bC P ops Q ds a0 w0 suf [R0,R1,aF v] l):bC P ops Q ds a0 w0 suf [R0,R1] (o::l):=.vv rfl rfl hg h1 h2
theorem bC.v3(hg:o.guard=none)(h1:GW P Q ds [R0,R1,R2,aF v] a0 w0 3 o)(h2:bC P ops Q ds a0 w0 suf [R0,R1,R2,aF v] l):bC P ops Q ds a0 w0 suf [R0,R1,R2] (o::l):=.vv rfl rfl hg h1 h2
theorem bC.v4(hg:o.guard=none)(h1:GW P Q ds [R0,R1,R2,R3,aF v] a0 w0 4 o)(h2:bC P ops Q ds a0 w0 suf [R0,R1,R2,R3,aF v] l):bC P ops Q ds a0 w0 suf [R0,R1,R2,R3] (o::l):=.vv rfl rfl hg h1 h2
theorem bC.v5(hg:o.guard=none)(h1:GW P Q ds [R0,R1,R2,R3,R4,aF v] a0 w0 5 o)(h2:bC P ops Q ds a0 w0 suf [R0,R1,R2,R3,R4,aF v] l):bC P ops Q ds a0 w0 suf [R0,R1,R2,R3,R4] (o::l):=.vv rfl rfl hg h1 h2
theorem bC.v6(hg:o.guard=none)(h1:GW P Q ds [R0,R1,R2,R3,R4,R5,aF v] a0 w0 6 o)(h2:bC P ops Q ds a0 w0 suf [R0,R1,R2,R3,R4,R5,aF v] l):bC P ops Q ds a0 w0 suf [R0,R1,R2,R3,R4,R5] (o::l):=.vv rfl rfl hg h1 h2
theorem bC.v7(hg:o.guard=none)(h1:GW P Q ds [R0,R1,R2,R3,R4,R5,R6,aF v] a0 w0 7 o)(h2:bC P ops Q ds a0 w0 suf [R0,R1,R2,R3,R4,R5,R6,aF v] l):bC P ops Q ds a0 w0 suf [R0,R1,R2,R3,R4,R5,R6] (o::l):=.vv rfl rfl hg h1 h2
theorem bC.v8(hg:o.guard=none)(h1:GW P Q ds [R0,R1,R2,R3,R4,R5,R6,R7,aF v] a0 w0 8 o)(h2:bC P ops Q ds a0 w0 suf [R0,R1,R2,R3,R4,R5,R6,R7,aF v] l):bC P ops Q ds a0 w0 suf [R0,R1,R2,R3,R4,R5,R6,R7] (o::l):=.vv rfl rfl hg h1 h2
theorem bC.v9(hg:o.guard=none)(h1:GW P Q ds [R0,R1,R2,R3,R4,R5,R6,R7,R8,aF v] a0 w0 9 o)(h2:bC P ops Q ds a0 w0 suf [R0,R1,R2,R3,R4,R5,R6,R7,R8,aF v] l):bC P ops Q ds a0 w0 suf [R0,R1,R2,R3,R4,R5,R6,R7,R8] (o::l):=.vv rfl rfl hg h1 h2
end
end Go.Proofs.YtdkepkaflielhaaGreatDoor
