import Derived.Test.YtdkepkaflielhaaGreatDoorMerged25
set_option linter.unusedVariables false
set_option linter.unusedSimpArgs false
set_option maxRecDepth 100000
set_option maxHeartbeats 8000000
namespace Go.Proofs.YtdkepkaflielhaaGreatDoor
open Go.RowKit
def fU(q p:Fl):Bool:=(q.UU==p.UU)&&((q.src.toList==p.src.toList)&&((q.dst.toList==p.dst.toList)&&((q.sp==p.sp)&&((q.dp==p.dp)))))
theorem vO(D:Nat)(q p:Fl)(W:World):(Op.equalIn (D+2) 43 (.agg (gE q).toArray) (.agg (gE p).toArray)).run Tryz.prog W=.ok (fU q p) W:=by
 have h1:Tryz.prog.underlying 43=some (.struct (Tryz.prog.fieldsOf 43)):=by kernel_rfl
 have h2:Tryz.prog.stoodInHeld 43=false:=by kernel_rfl
 rw[run_equalIn_agg _ _ _ _ _ h1 h2];have h3:(Tryz.prog.fieldsOf 43).toList.length=5:=by kernel_rfl
 have h4 : ((Tryz.prog.fieldsOf 43).toList.map fun f => (f.type, f.offset, f.name == "_")) = [(2, 0, false), (9, 1, false), (9, 2, false), (2, 3, false), (2, 4, false)] := by kernel_rfl
 generalize (Tryz.prog.fieldsOf 43).toList=fs at *;match fs,h3 with
 | [f0,f1,f2,f3,f4],_=>
  simp only[List.map_cons,List.map_nil,List.cons.injEq,Prod.mk.injEq,and_true]at h4;obtain⟨⟨a0,b0,c0⟩,⟨a1,b1,c1⟩,⟨a2,b2,c2⟩,⟨a3,b3,c3⟩,⟨a4,b4,c4⟩⟩:=h4
  have d0 : (f0.name ≠ "_") = True := by simpa using c0
  have q0:∀W,(part 2 (gE q).toArray 0).run Tryz.prog W=.ok (iV q.UU) W:=fun W=>by kernel_rfl
  have p0:∀W,(part 2 (gE p).toArray 0).run Tryz.prog W=.ok (iV p.UU) W:=fun W=>by kernel_rfl
  have d1 : (f1.name ≠ "_") = True := by simpa using c1
  have q1:∀W,(part 9 (gE q).toArray 1).run Tryz.prog W=.ok (.string q.src) W:=fun W=>by kernel_rfl
  have p1:∀W,(part 9 (gE p).toArray 1).run Tryz.prog W=.ok (.string p.src) W:=fun W=>by kernel_rfl
  have d2 : (f2.name ≠ "_") = True := by simpa using c2
  have q2:∀W,(part 9 (gE q).toArray 2).run Tryz.prog W=.ok (.string q.dst) W:=fun W=>by kernel_rfl
  have p2:∀W,(part 9 (gE p).toArray 2).run Tryz.prog W=.ok (.string p.dst) W:=fun W=>by kernel_rfl
  have d3 : (f3.name ≠ "_") = True := by simpa using c3
  have q3:∀W,(part 2 (gE q).toArray 3).run Tryz.prog W=.ok (iV q.sp) W:=fun W=>by kernel_rfl
  have p3:∀W,(part 2 (gE p).toArray 3).run Tryz.prog W=.ok (iV p.sp) W:=fun W=>by kernel_rfl
  have d4 : (f4.name ≠ "_") = True := by simpa using c4
  have q4:∀W,(part 2 (gE q).toArray 4).run Tryz.prog W=.ok (iV q.dp) W:=fun W=>by kernel_rfl
  have p4:∀W,(part 2 (gE p).toArray 4).run Tryz.prog W=.ok (iV p.dp) W:=fun W=>by kernel_rfl
  unfold fU;simp only[Op.eqFields,a0,b0,d0,q0,p0,a1,b1,d1,q1,p1,a2,b2,d2,q2,p2,a3,b3,d3,q3,p3,a4,b4,d4,q4,p4,if_true,Sem.run_bind,Sem.run_ite,Sem.run_pure,Result.andThen_ok,run_equalIn_string _ _ _ _ _ Tryz.underlying9,run_equalIn_int _ _ _ _ _ _ _ Tryz.underlying2,run_equalIn_bool' _ _ _ _ _ Tryz.underlying4];generalize (q.UU==p.UU)=g0;generalize (q.src.toList==p.src.toList)=g1;generalize (q.dst.toList==p.dst.toList)=g2;generalize (q.sp==p.sp)=g3;generalize (q.dp==p.dp)=g4
  cases g0
  ·simp
  simp only[UL,UD,if_false,UE]
  cases g1
  ·simp
  simp only[UL,UD,if_false,UE]
  cases g2
  ·simp
  simp only[UL,UD,if_false,UE]
  cases g3
  ·simp
  simp only[UL,UD,if_false,UE]
  cases g4<;>simp
theorem GM(q p:Fl)(W:World):(binOp .neq 43 (.agg (gE q).toArray) (.agg (gE p).toArray)).run Tryz.prog W=.ok (.bool (!fU q p)) W:=by
 rw[run_neq_struct,vO 9998 q p W];rfl
open Go.PlainAid
theorem GN(s d:BA)(p:Int)(t:BA):(aR s d p t).UU=p∧(aR s d p t).src=s∧(aR s d p t).dst=d:=by
 unfold aR;split
 ·split<;>exact⟨rfl,rfl,rfl⟩
 ·exact⟨rfl,rfl,rfl⟩
theorem uI(f:Fl)(t:BA):fU (aR f.src f.dst f.UU t) f=(decide ((aR f.src f.dst f.UU t).sp=f.sp)&&decide ((aR f.src f.dst f.UU t).dp=f.dp)):=by
 obtain⟨h1,h2,h3⟩:=GN f.src f.dst f.UU t;unfold fU;rw[h1,h2,h3];simp;rfl
theorem gR{n:Nat}{p:Int}{t:BA}(h:aU n p t=0):8≤t.size∧(p=6→20≤t.size):=by
 unfold aU at h;split at h
 ·omega
 split at h
 ·omega
 rename_i h1 h2;have h3:gA p t=false:=by simpa using h2
 unfold gA at h3;rw[Bool.or_eq_false_iff,decide_eq_false_iff_not]at h3;refine⟨by omega,fun hp=>?_⟩;have h4:=h3.1;rw[TT hp,UE,Bool.or_eq_false_iff,Bool.or_eq_false_iff,decide_eq_false_iff_not]at h4;omega
theorem kN{f:Fl}(h:cF f=true):(f.src.size≤16∧f.dst.size≤16)∧(0≤f.UU∧f.UU≤255)∧((0≤f.sp∧f.sp≤65535)∧(0≤f.dp∧f.dp≤65535)):=by
 unfold cF at h;simp only[TP]at h;obtain⟨⟨⟨⟨h1,h2⟩,h3⟩,h4⟩,h5⟩:=h;obtain⟨a,b⟩:=jM h1;refine⟨by omega,?_,by simpa[jS] using h3,by simpa[jS] using h4⟩;unfold cB at h2;simp only[UK,TP,TU]at h2;omega
theorem tT(f g:Fl)(t:BA)(w:World)(f1:f.src.size≤1048576)(f2:f.dst.size≤1048576)(g1:g.src.size≤1048576)(g2:g.dst.size≤1048576)(ht:t.size≤1048576) :
  Cb 16 #[gQ f,gQ g,.string t] w (eJ (cR f g t) (dL f g t)):=by
 have HN:Hid (∀c:Int,dL f g t=c→c≠0→eJ (cR f g t) (dL f g t)=eJ ⟨#[]⟩ c):=fun c h hc=>by unfold cR;rw[h,if_neg hc]
 have HC:Hid (dL f g t=if 20000 < t.size then 2 else if iJ f g t=false then 1 else if eF f t=true∧g.src.size=16 then 5 else 0):=rfl;have HI:Hid (iJ f g t=((cF f&&cF g&&(decide (f.UU=g.UU)||(aJ f.UU&&aJ g.UU)))&&(decide (aU f.src.size f.UU t=0)&&fU (aR f.src f.dst f.UU t) f))):=by unfold Hid iJ;rw[uI];simp only[Bool.and_assoc]
 have KW:Hid (rY w f g ((aW (aW w (gE f) 43) (gE g) 43).alloc (.cells #[eS,iV 0] 55))):=rY.new w f g;by_cases lt:20000 < t.size
 ·have HV:Hid (eJ (cR f g t) (dL f g t)=eJ ⟨#[]⟩ 2):=HN.out 2 (by rw[HC.out,if_pos lt]) (by decide);generalize eJ (cR f g t) (dL f g t)=ans at *;clear HN HC HI;have G0:Hid _:=KW.out.gr;clear KW;obtain⟨UU,src,dst,sp,dp⟩:=f;obtain⟨proto',src',dst',sp',dp'⟩:=g;unfold gQ;dsimp only at *;go_enter Tryz.func16,Tryz.ntmps16
  go_wp2_with fail
  refine UQ (v:=eJ ⟨#[]⟩ 2) (by simp[results,Tryz.results16,go_sem,eJ]) rfl ⟨by rw[HV.out],?_⟩;exact(((bR.alloc lR _).alloc (by simp) _).alloc (by simp;omega) _)
 have HF1:Hid (∀W,Cb 43 #[gQ f] W (.bool (cF f))):=fun W=>kS f W f1 f2
 have HF2:Hid (∀W,Cb 43 #[gQ g] W (.bool (cF g))):=fun W=>kS g W g1 g2
 have HE1:Hid (∀W,Cw 44 #[iV f.UU] W (.bool (aJ f.UU))):=fun W=>jG _ W
 have HE2:Hid (∀W,Cw 44 #[iV g.UU] W (.bool (aJ g.UU))):=fun W=>jG _ W
 have HOf:Hid (∀W,Cb 32 #[.string f.src,.string f.dst,iV f.UU,.string t] W (.tuple #[gQ (aR f.src f.dst f.UU t),iV (aU f.src.size f.UU t)])):=fun W=>wM _ _ _ _ W f1 ht
 replace HC:Hid (dL f g t=if iJ f g t=false then 1 else if eF f t=true∧g.src.size=16 then 5 else 0):=by unfold Hid;rw[HC.out,if_neg lt]
 have HB:Hid (iJ f g t=false→eJ (cR f g t) (dL f g t)=eJ ⟨#[]⟩ 1):=fun h=>HN.out 1 (by rw[HC.out,if_pos h]) (by decide)
 have HD:Hid (iJ f g t=true→eJ (cR f g t) (dL f g t)=if eF f t=true then (if g.src.size=16 then eJ ⟨#[]⟩ 5 else eJ (bJ f g t) 0) else eJ (dW (bJ f g t) (aY f.UU) (aQ (cL f g t))) 0):=fun h=>by
  have hc:=HC.out;rw[if_neg (by rw[h];decide)]at hc;unfold cR;rw[hc]
  cases hb:eF f t with
  | false=>simp
  | true=>by_cases h16:g.src.size=16<;>simp[h16]
 have HSet:Hid (cF f=true→cF g=true→aU f.src.size f.UU t=0→∀W,Cb 45 #[gQ f,gQ g,.string t] W (if eF f t=true then (if g.src.size=16 then eJ ⟨#[]⟩ 5 else eJ (bJ f g t) 0) else eJ (dW (bJ f g t) (aY f.UU) (aQ (cL f g t))) 0)):=fun h1 h2 h3 W=>by
  obtain⟨a1,a2,a3⟩:=kN h1;obtain⟨b1,b2,b3⟩:=kN h2;obtain⟨c1,c2⟩:=gR h3;exact yU f g t W (by omega) c1 c2 a1 b1 a2 b2 b3
 have HV1:Hid (iJ f g t=((cF f&&cF g&&(decide (f.UU=g.UU)||(aJ f.UU&&aJ g.UU)))&&(decide (aU f.src.size f.UU t=0)&&fU (aR f.src f.dst f.UU t) f))):=HI.out;clear HI HN HC f1 f2 g1 g2;obtain⟨gd,gc,hgood⟩: ∃(gd:BA) (gc:Int),(if eF f t=true then (if g.src.size=16 then eJ ⟨#[]⟩ 5 else eJ (bJ f g t) 0) else eJ (dW (bJ f g t) (aY f.UU) (aQ (cL f g t))) 0)=eJ gd gc:=by
  split
  ·split<;>exact⟨_,_,rfl⟩
  ·exact⟨_,_,rfl⟩
 rw[hgood]at HD HSet;clear hgood;generalize eJ (cR f g t) (dL f g t)=ans at *;generalize iJ f g t=sin at *;generalize hfl:aR f.src f.dst f.UU t=fl at *;clear hfl;have HNe:Hid (∀W,(binOp .neq 43 (.agg (gE fl).toArray) (.agg (gE f).toArray)).run Tryz.prog W=.ok (.bool (!fU fl f)) W):=fun W=>GM fl f W
 generalize fU fl f=sm at *;generalize aU f.src.size f.UU t=oc at *;generalize cF f=ok1 at *;generalize cF g=ok2 at *;generalize aJ f.UU=ec1 at *;generalize aJ g.UU=ec2 at *;obtain⟨UU,src,dst,sp,dp⟩:=f;obtain⟨proto',src',dst',sp',dp'⟩:=g;obtain⟨px,sx,dx,spx,dpx⟩:=fl;unfold gQ at *;dsimp only at *;obtain⟨bad,hbad⟩: ∃b:Bool,b=!(ok1&&ok2&&(decide (UU=proto')||(ec1&&ec2))):=⟨_,rfl⟩;have HBad:Hid _:=hbad;clear hbad;go_enter Tryz.func16,Tryz.ntmps16
 go_upto_region 3 with fail
 go_cut [38] (fun c wx=>c=.bool bad∧rY w ⟨UU,src,dst,sp,dp⟩ ⟨proto',src',dst',sp',dp'⟩ wx)
 case first=>
  have KW0:Hid _:=KW.out;clear KW HB HD HSet HV1 HNe HOf
  cases ok1 with
  | false=>
   have hB:bad=true:=HBad.out;clear HBad;subst hB;go_wp2_with fail
   refine(HF1.out _).mono ?_;rintro e w1 ⟨rfl,q⟩;have KW1:Hid _:=KW0.out.kept q;clear q KW0;obtain⟨k0,y0,k1,y1,k2,y2,k3,y3,k4,y4⟩:=KW1.out.bf;obtain⟨j0,x0,j1,x1,j2,x2,j3,x3,j4,x4⟩:=KW1.out.bg;dsimp only at k0 k1 k2 k3 k4 j0 j1 j2 j3 j4;go_wp2_with fail
   go_meet;exact⟨rfl,KW1.out⟩
  | true=>
  cases ok2 with
  | false=>
   have hB:bad=true:=HBad.out;clear HBad;subst hB;go_wp2_with fail
   refine(HF1.out _).mono ?_;rintro e w1 ⟨rfl,q⟩;have KW1:Hid _:=KW0.out.kept q;clear q KW0;obtain⟨k0,y0,k1,y1,k2,y2,k3,y3,k4,y4⟩:=KW1.out.bf;obtain⟨j0,x0,j1,x1,j2,x2,j3,x3,j4,x4⟩:=KW1.out.bg;dsimp only at k0 k1 k2 k3 k4 j0 j1 j2 j3 j4;go_wp2_with fail
   refine(HF2.out _).mono ?_;rintro e w2 ⟨rfl,q⟩;have KW2:Hid _:=KW1.out.kept q;clear q KW1;clear k0 y0 k1 y1 k2 y2 k3 y3 k4 y4 j0 x0 j1 x1 j2 x2 j3 x3 j4 x4;obtain⟨k0,y0,k1,y1,k2,y2,k3,y3,k4,y4⟩:=KW2.out.bf;obtain⟨j0,x0,j1,x1,j2,x2,j3,x3,j4,x4⟩:=KW2.out.bg;dsimp only at k0 k1 k2 k3 k4 j0 j1 j2 j3 j4;go_wp2_with fail
   go_meet;exact⟨rfl,KW2.out⟩
  | true=>
  by_cases c1:UU=proto'
  ·have d1:(UU != proto')=false:=by simp[c1]
   have hB:bad=false:=by rw[HBad.out,TT c1];rfl
   clear HBad c1;subst hB;go_wp2_with fail
   refine(HF1.out _).mono ?_;rintro e w1 ⟨rfl,q⟩;have KW1:Hid _:=KW0.out.kept q;clear q KW0;obtain⟨k0,y0,k1,y1,k2,y2,k3,y3,k4,y4⟩:=KW1.out.bf;obtain⟨j0,x0,j1,x1,j2,x2,j3,x3,j4,x4⟩:=KW1.out.bg;dsimp only at k0 k1 k2 k3 k4 j0 j1 j2 j3 j4;go_wp2_with fail
   refine(HF2.out _).mono ?_;rintro e w2 ⟨rfl,q⟩;have KW2:Hid _:=KW1.out.kept q;clear q KW1;clear k0 y0 k1 y1 k2 y2 k3 y3 k4 y4 j0 x0 j1 x1 j2 x2 j3 x3 j4 x4;obtain⟨k0,y0,k1,y1,k2,y2,k3,y3,k4,y4⟩:=KW2.out.bf;obtain⟨j0,x0,j1,x1,j2,x2,j3,x3,j4,x4⟩:=KW2.out.bg;dsimp only at k0 k1 k2 k3 k4 j0 j1 j2 j3 j4;go_wp2_with fail
   go_meet;exact⟨rfl,KW2.out⟩
  ·have d1:(UU != proto')=true:=by simp[c1]
   have hB:bad=!(ec1&&ec2):=by rw[HBad.out,TR c1];rfl
   clear HBad c1;subst hB
   cases ec1 with
   | false=>
    go_wp2_with fail
    refine(HF1.out _).mono ?_;rintro e w1 ⟨rfl,q⟩;have KW1:Hid _:=KW0.out.kept q;clear q KW0;obtain⟨k0,y0,k1,y1,k2,y2,k3,y3,k4,y4⟩:=KW1.out.bf;obtain⟨j0,x0,j1,x1,j2,x2,j3,x3,j4,x4⟩:=KW1.out.bg;dsimp only at k0 k1 k2 k3 k4 j0 j1 j2 j3 j4;go_wp2_with fail
    refine(HF2.out _).mono ?_;rintro e w2 ⟨rfl,q⟩;have KW2:Hid _:=KW1.out.kept q;clear q KW1;clear k0 y0 k1 y1 k2 y2 k3 y3 k4 y4 j0 x0 j1 x1 j2 x2 j3 x3 j4 x4;obtain⟨k0,y0,k1,y1,k2,y2,k3,y3,k4,y4⟩:=KW2.out.bf;obtain⟨j0,x0,j1,x1,j2,x2,j3,x3,j4,x4⟩:=KW2.out.bg;dsimp only at k0 k1 k2 k3 k4 j0 j1 j2 j3 j4;go_wp2_with fail
    refine(HE1.out _).mono ?_;rintro e w3 ⟨rfl,rfl⟩;go_wp2_with fail
    go_meet;exact⟨rfl,KW2.out⟩
   | true=>
    go_wp2_with fail
    refine(HF1.out _).mono ?_;rintro e w1 ⟨rfl,q⟩;have KW1:Hid _:=KW0.out.kept q;clear q KW0;obtain⟨k0,y0,k1,y1,k2,y2,k3,y3,k4,y4⟩:=KW1.out.bf;obtain⟨j0,x0,j1,x1,j2,x2,j3,x3,j4,x4⟩:=KW1.out.bg;dsimp only at k0 k1 k2 k3 k4 j0 j1 j2 j3 j4;go_wp2_with fail
    refine(HF2.out _).mono ?_;rintro e w2 ⟨rfl,q⟩;have KW2:Hid _:=KW1.out.kept q;clear q KW1;clear k0 y0 k1 y1 k2 y2 k3 y3 k4 y4 j0 x0 j1 x1 j2 x2 j3 x3 j4 x4;obtain⟨k0,y0,k1,y1,k2,y2,k3,y3,k4,y4⟩:=KW2.out.bf;obtain⟨j0,x0,j1,x1,j2,x2,j3,x3,j4,x4⟩:=KW2.out.bg;dsimp only at k0 k1 k2 k3 k4 j0 j1 j2 j3 j4;go_wp2_with fail
    refine(HE1.out _).mono ?_;rintro e w3 ⟨rfl,rfl⟩;go_wp2_with fail
    refine(HE2.out _).mono ?_;rintro e w4 ⟨rfl,rfl⟩;go_wp2_with fail
    go_meet;exact⟨rfl,KW2.out⟩
 case rest=>
 obtain⟨rfl,hKW⟩:=hcut;clear KW HF1 HF2 HE1 HE2;have KW2:Hid _:=hKW;clear hKW;have o0:=KW2.out.c0;have o1:=KW2.out.c1;have v0:=KW2.out.f0;have v1:=KW2.out.f1
 cases bad with
 | true=>
  have hX:sin=false:=by
   have h:=HBad.out;have h':(ok1&&ok2&&(decide (UU=proto')||(ec1&&ec2)))=false:=by
    revert h
    generalize (ok1&&ok2&&(decide (UU=proto')||(ec1&&ec2)))=b
    cases b<;>simp
   rw[HV1.out,h',Bool.false_and]
  have HV:Hid _:=HB.out hX;go_wp2_with fail
  refine UQ (v:=eJ ⟨#[]⟩ 1) (by simp[results,Tryz.results16,go_sem,eJ,o0,o1]) rfl ⟨by rw[HV.out],?_⟩;exact(KW2.out.gr.setCell (Nat.le_add_right _ 2) _).setCell (Nat.le_add_right _ 2) _
 | false=>
  have h':(ok1&&ok2&&(decide (UU=proto')||(ec1&&ec2)))=true:=by
   have h:=HBad.out;revert h
   generalize (ok1&&ok2&&(decide (UU=proto')||(ec1&&ec2)))=b
   cases b<;>simp
  have hV2:sin=(decide (oc=0)&&sm):=by rw[HV1.out,h',UE]
  have ho:ok1=true∧ok2=true:=by simp only[TP]at h';exact h'.1
  clear HBad HV1 h';have HV2:Hid _:=hV2;clear hV2;clear o0 o1 v0 v1;obtain⟨k0,y0,k1,y1,k2,y2,k3,y3,k4,y4⟩:=KW2.out.bf;obtain⟨j0,x0,j1,x1,j2,x2,j3,x3,j4,x4⟩:=KW2.out.bg;dsimp only at k0 k1 k2 k3 k4 j0 j1 j2 j3 j4;go_wp2_with fail
  refine(HOf.out _).mono ?_;rintro e w3 ⟨rfl,q3⟩;have KW3:Hid _:=KW2.out.kept q3;clear q3 KW2;clear k0 y0 k1 y1 k2 y2 k3 y3 k4 y4 j0 x0 j1 x1 j2 x2 j3 x3 j4 x4;have o0:=KW3.out.c0;have o1:=KW3.out.c1;have v0:=KW3.out.f0;have v1:=KW3.out.f1;have hlt:=UH w3 _ o0;dsimp only at hlt;have hne:w.heap.size+1+1≠w3.heap.size:=by omega
  have hlt0:w.heap.size < w3.heap.size:=by omega
  have hlt1:w.heap.size+1 < w3.heap.size:=by omega
  have hne0:w.heap.size≠w3.heap.size:=by omega
  have hne1:w.heap.size+1≠w3.heap.size:=by omega
  obtain⟨k0,y0,k1,y1,k2,y2,k3,y3,k4,y4⟩:=KW3.out.bf;obtain⟨j0,x0,j1,x1,j2,x2,j3,x3,j4,x4⟩:=KW3.out.bg;dsimp only at k0 k1 k2 k3 k4 j0 j1 j2 j3 j4;by_cases c0:oc=0
  ·have dc:(oc != 0)=false:=by simp[c0]
   have hne2:=HNe.out
   cases sm with
   | false=>
    have HV:Hid _:=HB.out (by rw[HV2.out,Bool.and_false]);clear HB HD HSet c0 HOf;go_wp2_with fail
    refine UQ (v:=eJ ⟨#[]⟩ 1) (by simp[results,Tryz.results16,go_sem,eJ,o0,o1,hne,hlt]) rfl ⟨by rw[HV.out],?_⟩;first
    | exact((KW3.out.gr.alloc KW3.out.gr.size _).setCell (Nat.le_add_right _ 2) _).setCell (Nat.le_add_right _ 2) _
    | exact((KW3.out.gr.setCell (Nat.le_add_right _ 2) _).setCell (Nat.le_add_right _ 2) _).alloc (by simp;omega) _
   | true=>
    have HV:Hid _:=HD.out (by rw[HV2.out,TT c0];rfl);have HS:Hid _:=HSet.out ho.1 ho.2 c0;clear HB HD HSet c0 HOf;unfold eJ at *;go_wp2_with fail
    refine(HS.out _).mono ?_;rintro e w5 ⟨rfl,q5⟩;have KW5:Hid _:=(KW3.out.kept (bR.alloc lR _)).kept q5;clear q5 o0 o1 v0 v1 k0 y0 k1 y1 k2 y2 k3 y3 k4 y4 j0 x0 j1 x1 j2 x2 j3 x3 j4 x4;have o0:=KW5.out.c0;have o1:=KW5.out.c1;have v0:=KW5.out.f0;have v1:=KW5.out.f1;go_wp2_with fail
    refine UQ (v:=.agg #[.string gd,iV gc]) (by simp[results,Tryz.results16,go_sem,o0,o1]) rfl ⟨by rw[HV.out],?_⟩;exact(KW5.out.gr.setCell (Nat.le_add_right _ 2) _).setCell (Nat.le_add_right _ 2) _
  ·have dc:(oc != 0)=true:=by simp[c0]
   have HV:Hid _:=HB.out (by rw[HV2.out,TR c0];rfl);clear HB HD HSet HNe c0 HOf;go_wp2_with fail
   refine UQ (v:=eJ ⟨#[]⟩ 1) (by simp[results,Tryz.results16,go_sem,eJ,o0,o1,hne,hlt]) rfl ⟨by rw[HV.out],?_⟩;first
   | exact((KW3.out.gr.alloc KW3.out.gr.size _).setCell (Nat.le_add_right _ 2) _).setCell (Nat.le_add_right _ 2) _
   | exact((KW3.out.gr.setCell (Nat.le_add_right _ 2) _).setCell (Nat.le_add_right _ 2) _).alloc (by simp;omega) _
theorem HJ(t:BA):gA 6 t=(decide (t.size < 20)||(decide (bt t 12 / 16 < 5)||decide ((t.size:Int) < 4*(bt t 12 / 16)))):=by
 unfold gA;rw[Bool.eq_iff_iff];simp only[decide_true,UE,UK,decide_eq_true_eq];constructor
 ·rintro (((h | h) | h) | h)
  ·exact .inl h
  ·exact .inr (.inl h)
  ·exact .inr (.inr h)
  ·exact .inl (by omega)
 ·rintro (h | h | h)
  ·exact .inl (.inl (.inl h))
  ·exact .inl (.inl (.inr h))
  ·exact .inl (.inr h)
theorem GZ(p:Int)(t:BA)(h:p≠6):gA p t=decide (t.size < 8):=by
 unfold gA;rw[TR h];rfl
theorem AC(p:Int)(t:BA)(w:World)(ht:t.size≤1048576) :
  Cw 99 #[iV p,.string t] w (.bool (!gA p t)):=by
 by_cases h6:p=6
 ·subst h6;rw[HJ];by_cases h1:t.size < 20
  ·rw[TT h1];go_enter Tryz.func99,Tryz.ntmps99
   go_wp2_with fail
   go_ret;exact⟨rfl,rfl⟩
  ·rw[TR h1];have hb:=get_bt t;have b12:=bD t 12;by_cases h2:bt t 12 / 16 < 5
   ·rw[TT h2];have d2:decide ((20:Int)≤4*(bt t 12 / 16))=false:=by simp;omega
    go_enter Tryz.func99,Tryz.ntmps99
    go_wp2_with fail
    go_ret;exact⟨rfl,rfl⟩
   ·rw[TR h2];have d2:decide ((20:Int)≤4*(bt t 12 / 16))=true:=by simp;omega
    have HQ:Hid ((!decide ((t.size:Int) < 4*(bt t 12 / 16)))=decide (4*(bt t 12 / 16)≤(t.size:Int))):=by
     unfold Hid;rw[Bool.eq_iff_iff];simp
    go_enter Tryz.func99,Tryz.ntmps99
    go_wp2_with fail
    go_ret;exact⟨aB HQ.out.symm,rfl⟩
 ·rw[GZ p t h6];have d6:(p != 6)=true:=by simp[h6]
  have HQ:Hid ((!decide (t.size < 8))=decide ((8:Int)≤(t.size:Int))):=by
   unfold Hid;rw[Bool.eq_iff_iff];simp;omega
  clear h6;go_enter Tryz.func99,Tryz.ntmps99
  go_wp2_with fail
  go_ret;exact⟨aB HQ.out.symm,rfl⟩
theorem lV(p:Int)(w:World)(hp:aJ p=true) :
  Cw 130 #[iV p] w (.tuple #[.int .u8 (iH p),.int .u8 (jV p)]):=by
 have h:p=1∨p=58:=by unfold aJ at hp;simpa using hp
 clear hp;rcases h with rfl|rfl
 ·rw[show iH 1=8 from rfl,show jV 1=0 from rfl];go_enter Tryz.func130,Tryz.ntmps130
  go_wp2_with fail
  go_ret2
  exact⟨rfl,rfl⟩
 ·rw[show iH 58=128 from rfl,show jV 58=129 from rfl];go_enter Tryz.func130,Tryz.ntmps130
  go_wp2_with fail
  go_ret2
  exact⟨rfl,rfl⟩
def lH(p:Int)(t:BA):Bool:=(decide (bt t 0=iH p)||decide (bt t 0=jV p))&&decide (bt t 1=0)
theorem AB(p:Int)(t:BA)(w:World)(hp:aJ p=true)(h8:8≤t.size)(ht:t.size≤1048576) :
  Cw 101 #[iV p,.string t] w (.bool (lH p t)):=by
 have HE:Hid (∀W,Cw 130 #[iV p] W (.tuple #[.int .u8 (iH p),.int .u8 (jV p)])):=fun W=>lV p W hp
 have hb:=get_bt t;have b0:=bD t 0;have b1:=bD t 1;have q0:(bt t 0==iH p)=decide (bt t 0=iH p):=rfl;have q1:(bt t 0==jV p)=decide (bt t 0=jV p):=rfl;have q2:(bt t 1==0)=decide (bt t 1=0):=rfl;unfold lH;generalize decide (bt t 0=iH p)=c0 at *;generalize decide (bt t 0=jV p)=c1 at *;generalize decide (bt t 1=0)=c2 at *;generalize iH p=a at *;generalize jV p=b at *;have hun:undef=Value.tuple #[]:=rfl
 cases c0
 ·cases c1
  ·go_enter Tryz.func101,Tryz.ntmps101
   go_wp2_with fail
   refine(HE.out _).mono ?_;rintro e w2 ⟨rfl,rfl⟩;go_wp2_with fail
   go_ret;exact⟨rfl,rfl⟩
  ·go_enter Tryz.func101,Tryz.ntmps101
   go_wp2_with fail
   refine(HE.out _).mono ?_;rintro e w2 ⟨rfl,rfl⟩;go_wp2_with fail
   go_ret;exact⟨rfl,rfl⟩
 ·go_enter Tryz.func101,Tryz.ntmps101
  go_wp2_with fail
  refine(HE.out _).mono ?_;rintro e w2 ⟨rfl,rfl⟩;go_wp2_with fail
  go_ret;exact⟨rfl,rfl⟩
theorem DA(p:Int)(t:BA)(w:World)(h8:8≤t.size)(ht:t.size≤1048576) :
  Cw 102 #[iV p,.string t] w (.tuple #[iV (if aJ p=true then aL (bt t) 4 else aL (bt t) 0),iV (if aJ p=true then aL (bt t) 4 else aL (bt t) 2)]):=by
 have HB:Hid (∀W,Cw 100 #[iV p] W (.bool (aJ p))):=fun W=>fQ _ W
 have HW:Hid (∀k:Nat,k < 8→∀W,Cw 131 #[.string t,iV k] W (iV (aL (bt t) k))):=fun k hk W=>lJ t k W (by omega) (by unfold maxLen;omega)
 cases h:aJ p with
 | true=>
  rw[h]at HB;rw[if_pos rfl,if_pos rfl];go_enter Tryz.func102,Tryz.ntmps102
  go_wp2_with fail
  refine(HB.out _).mono ?_;rintro e w2 ⟨rfl,rfl⟩;go_wp2_with fail
  refine(HW.out 4 (by omega) _).mono ?_;rintro e w2 ⟨rfl,rfl⟩;go_wp2_with fail
  go_ret2
  exact⟨rfl,rfl⟩
 | false=>
  rw[h]at HB;rw[if_neg (by decide),if_neg (by decide)];go_enter Tryz.func102,Tryz.ntmps102
  go_wp2_with fail
  refine(HB.out _).mono ?_;rintro e w2 ⟨rfl,rfl⟩;go_wp2_with fail
  refine(HW.out 0 (by omega) _).mono ?_;rintro e w2 ⟨rfl,rfl⟩;go_wp2_with fail
  refine(HW.out 2 (by omega) _).mono ?_;rintro e w2 ⟨rfl,rfl⟩;go_wp2_with fail
  go_ret2
  exact⟨rfl,rfl⟩
theorem oG(s:BA):qK s.size (bt s)=s:=by
 refine FJ (oH _ _) fun i hi=>?_
 rw[oH]at hi;exact FO hi (bt_nonneg s i) (bt_le s i)
theorem mP(s d:BA)(p:Int)(t:BA)(w:World)(hs:s.size≤1048576)(hd:d.size≤1048576)(ht:t.size≤1048576) :
  Cb 58 #[.string s,.string d,iV p,.string t] w (mX (bK s d p t) (aX s d p t)):=by
 have HN:Hid (∀c:Int,aX s d p t=c→c≠0→mX (bK s d p t) (aX s d p t)=.agg #[iV 0,eS,eS,iV 0,iV 0,iV c]):=fun c h hc=>by unfold bK;rw[h,if_neg hc];rfl
 have HY:Hid (aX s d p t=0→aU s.size p t=0→mX (bK s d p t) (aX s d p t)=.agg #[iV p,.string s,.string d,iV (if aJ p=true then aL (bt t) 4 else aL (bt t) 0),iV (if aJ p=true then aL (bt t) 4 else aL (bt t) 2),iV 0]):=fun h h2=>by
  unfold bK;rw[h,if_pos rfl];unfold aR;rw[if_pos h2];split<;>rfl
 have HD:Hid (aX s d p t=if 20000 < t.size∨20000 < s.size∨20000 < d.size then 2 else if dV s d=false then 1 else aU s.size p t):=rfl;have HA1:Hid (∀W,Cw 81 #[.string s] W (.bool (decide (20000 < s.size)))):=fun W=>kP s W
 have HA2:Hid (∀W,Cw 81 #[.string d] W (.bool (decide (20000 < d.size)))):=fun W=>kP d W
 have HA3:Hid (∀W,Cw 81 #[.string t] W (.bool (decide (20000 < t.size)))):=fun W=>kP t W
 have HB:Hid (∀W,Cw 97 #[.string s,.string d] W (.bool (dV s d))):=fun W=>sH _ _ W (by unfold maxLen;omega) (by unfold maxLen;omega)
 have HC:Hid (∀W,Cw 98 #[iV p,.string s] W (.bool (cB p s.size))):=fun W=>oV _ _ W (by unfold maxLen;omega)
 have HE:Hid (∀W,Cw 99 #[iV p,.string t] W (.bool (!gA p t))):=fun W=>AC _ _ W ht
 have HF:Hid (∀W,Cw 100 #[iV p] W (.bool (aJ p))):=fun W=>fQ _ W
 generalize mX (bK s d p t) (aX s d p t)=ans at *;generalize aX s d p t=code at *;by_cases ls:20000 < s.size
 ·have HV:Hid (ans=.agg #[iV 0,eS,eS,iV 0,iV 0,iV 2]):=HN.out 2 (by rw[HD.out,if_pos (Or.inr (Or.inl ls))]) (by decide);rw[TT ls]at HA1;clear HN HY HD;go_enter Tryz.func58,Tryz.ntmps58
  go_wp2_with fail
  refine(HA1.out _).mono ?_;rintro e w2 ⟨rfl,rfl⟩;go_wp2_with fail
  refine UQ (v:=.agg #[iV 0,eS,eS,iV 0,iV 0,iV 2]) (by simp[results,Tryz.results58,go_sem]) rfl ⟨by rw[HV.out],?_⟩;exact bR.alloc lR _
 rw[TR ls]at HA1;by_cases ld:20000 < d.size
 ·have HV:Hid (ans=.agg #[iV 0,eS,eS,iV 0,iV 0,iV 2]):=HN.out 2 (by rw[HD.out,if_pos (Or.inr (Or.inr ld))]) (by decide);rw[TT ld]at HA2;clear HN HY HD;go_enter Tryz.func58,Tryz.ntmps58
  go_wp2_with fail
  refine(HA1.out _).mono ?_;rintro e w2 ⟨rfl,rfl⟩;go_wp2_with fail
  refine(HA2.out _).mono ?_;rintro e w2 ⟨rfl,rfl⟩;go_wp2_with fail
  refine UQ (v:=.agg #[iV 0,eS,eS,iV 0,iV 0,iV 2]) (by simp[results,Tryz.results58,go_sem]) rfl ⟨by rw[HV.out],?_⟩;exact bR.alloc lR _
 rw[TR ld]at HA2;by_cases lt:20000 < t.size
 ·have HV:Hid (ans=.agg #[iV 0,eS,eS,iV 0,iV 0,iV 2]):=HN.out 2 (by rw[HD.out,if_pos (Or.inl lt)]) (by decide);rw[TT lt]at HA3;clear HN HY HD;go_enter Tryz.func58,Tryz.ntmps58
  go_wp2_with fail
  refine(HA1.out _).mono ?_;rintro e w2 ⟨rfl,rfl⟩;go_wp2_with fail
  refine(HA2.out _).mono ?_;rintro e w2 ⟨rfl,rfl⟩;go_wp2_with fail
  refine(HA3.out _).mono ?_;rintro e w2 ⟨rfl,rfl⟩;go_wp2_with fail
  refine UQ (v:=.agg #[iV 0,eS,eS,iV 0,iV 0,iV 2]) (by simp[results,Tryz.results58,go_sem]) rfl ⟨by rw[HV.out],?_⟩;exact bR.alloc lR _
 rw[TR lt]at HA3;replace HD:Hid (code=if dV s d=false then 1 else aU s.size p t):=by unfold Hid;rw[HD.out,if_neg (by omega)]
 cases a1:dV s d with
 | false=>
  have HV:Hid (ans=.agg #[iV 0,eS,eS,iV 0,iV 0,iV 1]):=HN.out 1 (by rw[HD.out,if_pos a1]) (by decide);rw[a1]at HB;clear HN HY HD a1;go_enter Tryz.func58,Tryz.ntmps58
  go_wp2_with fail
  refine(HA1.out _).mono ?_;rintro e w2 ⟨rfl,rfl⟩;go_wp2_with fail
  refine(HA2.out _).mono ?_;rintro e w2 ⟨rfl,rfl⟩;go_wp2_with fail
  refine(HA3.out _).mono ?_;rintro e w2 ⟨rfl,rfl⟩;go_wp2_with fail
  refine(HB.out _).mono ?_;rintro e w2 ⟨rfl,rfl⟩;go_wp2_with fail
  refine UQ (v:=.agg #[iV 0,eS,eS,iV 0,iV 0,iV 1]) (by simp[results,Tryz.results58,go_sem]) rfl ⟨by rw[HV.out],?_⟩;exact bR.alloc lR _
 | true=>
 replace HD:Hid (code=aU s.size p t):=by unfold Hid;rw[HD.out,if_neg (by rw[a1];decide)]
 rw[a1]at HB;clear a1
 cases a2:cB p s.size with
 | false=>
  have HD2:Hid (aU s.size p t=11):=by unfold Hid aU;rw[if_pos a2]
  have HV:Hid (ans=.agg #[iV 0,eS,eS,iV 0,iV 0,iV 11]):=HN.out 11 (by rw[HD.out,HD2.out]) (by decide);rw[a2]at HC;clear HN HY HD HD2 a2;go_enter Tryz.func58,Tryz.ntmps58
  go_wp2_with fail
  refine(HA1.out _).mono ?_;rintro e w2 ⟨rfl,rfl⟩;go_wp2_with fail
  refine(HA2.out _).mono ?_;rintro e w2 ⟨rfl,rfl⟩;go_wp2_with fail
  refine(HA3.out _).mono ?_;rintro e w2 ⟨rfl,rfl⟩;go_wp2_with fail
  refine(HB.out _).mono ?_;rintro e w2 ⟨rfl,rfl⟩;go_wp2_with fail
  refine(HC.out _).mono ?_;rintro e w2 ⟨rfl,rfl⟩;go_wp2_with fail
  refine UQ (v:=.agg #[iV 0,eS,eS,iV 0,iV 0,iV 11]) (by simp[results,Tryz.results58,go_sem]) rfl ⟨by rw[HV.out],?_⟩;exact bR.alloc lR _
 | true=>
 have HO:Hid (aU s.size p t=if gA p t=true then 4 else if aJ p=true then (if (bt t 0≠iH p∧bt t 0≠jV p)∨bt t 1≠0 then 11 else 0) else 0):=by unfold Hid aU;rw[if_neg (by rw[a2];decide)]
 rw[a2]at HC;clear a2
 cases a3:gA p t with
 | true=>
  have HD2:Hid (aU s.size p t=4):=by unfold Hid;rw[HO.out,if_pos a3]
  have HV:Hid (ans=.agg #[iV 0,eS,eS,iV 0,iV 0,iV 4]):=HN.out 4 (by rw[HD.out,HD2.out]) (by decide);rw[a3]at HE;clear HN HY HD HD2 HO a3;go_enter Tryz.func58,Tryz.ntmps58
  go_wp2_with fail
  refine(HA1.out _).mono ?_;rintro e w2 ⟨rfl,rfl⟩;go_wp2_with fail
  refine(HA2.out _).mono ?_;rintro e w2 ⟨rfl,rfl⟩;go_wp2_with fail
  refine(HA3.out _).mono ?_;rintro e w2 ⟨rfl,rfl⟩;go_wp2_with fail
  refine(HB.out _).mono ?_;rintro e w2 ⟨rfl,rfl⟩;go_wp2_with fail
  refine(HC.out _).mono ?_;rintro e w2 ⟨rfl,rfl⟩;go_wp2_with fail
  refine(HE.out _).mono ?_;rintro e w2 ⟨rfl,rfl⟩;go_wp2_with fail
  refine UQ (v:=.agg #[iV 0,eS,eS,iV 0,iV 0,iV 4]) (by simp[results,Tryz.results58,go_sem]) rfl ⟨by rw[HV.out],?_⟩;exact bR.alloc lR _
 | false=>
 replace HO:Hid (aU s.size p t=if aJ p=true then (if (bt t 0≠iH p∧bt t 0≠jV p)∨bt t 1≠0 then 11 else 0) else 0):=by unfold Hid;rw[HO.out,if_neg (by rw[a3];decide)]
 have h8:8≤t.size:=by
  unfold gA at a3;rw[Bool.or_eq_false_iff,decide_eq_false_iff_not]at a3;omega
 rw[a3]at HE;clear a3;have HP:Hid (∀W,Cw 102 #[iV p,.string t] W (.tuple #[iV (if aJ p=true then aL (bt t) 4 else aL (bt t) 0),iV (if aJ p=true then aL (bt t) 4 else aL (bt t) 2)])):=fun W=>DA p t W h8 ht
 have HG:Hid (aJ p=true→∀W,Cw 101 #[iV p,.string t] W (.bool (lH p t))):=fun h W=>AB p t W h h8 ht
 by_cases hbad:aJ p=true∧lH p t=false
 ·obtain⟨a4,a5⟩:=hbad;have HD2:Hid (aU s.size p t=11):=by
   unfold Hid;rw[HO.out,if_pos a4,if_pos];unfold lH at a5;rw[Bool.and_eq_false_iff,Bool.or_eq_false_iff]at a5;simpa using a5
  have HG2:Hid _:=HG.out a4;rw[a5]at HG2;have HV:Hid (ans=.agg #[iV 0,eS,eS,iV 0,iV 0,iV 11]):=HN.out 11 (by rw[HD.out,HD2.out]) (by decide);rw[a4]at HF;clear HN HY HD HD2 HO HG HP a4 a5;go_enter Tryz.func58,Tryz.ntmps58
  go_wp2_with fail
  refine(HA1.out _).mono ?_;rintro e w2 ⟨rfl,rfl⟩;go_wp2_with fail
  refine(HA2.out _).mono ?_;rintro e w2 ⟨rfl,rfl⟩;go_wp2_with fail
  refine(HA3.out _).mono ?_;rintro e w2 ⟨rfl,rfl⟩;go_wp2_with fail
  refine(HB.out _).mono ?_;rintro e w2 ⟨rfl,rfl⟩;go_wp2_with fail
  refine(HC.out _).mono ?_;rintro e w2 ⟨rfl,rfl⟩;go_wp2_with fail
  refine(HE.out _).mono ?_;rintro e w2 ⟨rfl,rfl⟩;go_wp2_with fail
  refine(HF.out _).mono ?_;rintro e w2 ⟨rfl,rfl⟩;go_wp2_with fail
  refine(HG2.out _).mono ?_;rintro e w2 ⟨rfl,rfl⟩;go_wp2_with fail
  refine UQ (v:=.agg #[iV 0,eS,eS,iV 0,iV 0,iV 11]) (by simp[results,Tryz.results58,go_sem]) rfl ⟨by rw[HV.out],?_⟩;exact bR.alloc lR _
 have HD2:Hid (aU s.size p t=0):=by
  unfold Hid;rw[HO.out];by_cases a4:aJ p=true
  ·rw[if_pos a4,if_neg];have a5:lH p t=true:=by
    cases h:lH p t
    ·exact absurd ⟨a4,h⟩ hbad
    ·rfl
   unfold lH at a5;rw[TP,UK]at a5;simp only[decide_eq_true_eq]at a5;omega
  ·rw[if_neg a4]
 have HV:Hid _:=HY.out (HD.out.trans HD2.out) HD2.out;have HG2:Hid (aJ p=true→lH p t=true):=fun h=>by
  cases h2:lH p t
  ·exact absurd ⟨h,h2⟩ hbad
  ·rfl
 clear HN HY HD HD2 HO hbad;have GR:Hid (Below w.heap.size w (w.alloc (.cells #[iV 0,eS,eS,iV 0,iV 0,iV 0] 45))):=bR.alloc lR _;have KR:Hid (uT w.heap.size (w.alloc (.cells #[iV 0,eS,eS,iV 0,iV 0,iV 0] 45)) ⟨0,⟨#[]⟩,⟨#[]⟩,0,0⟩ 0):=uT.new w ⟨0,⟨#[]⟩,⟨#[]⟩,0,0⟩ 0;obtain⟨cp1,W1,hcv1,hh1,hb1,_⟩:=tJ (w.alloc (.cells #[iV 0,eS,eS,iV 0,iV 0,iV 0] 45)) s;have hcw1:=hh1.conv (cap:=cp1) (bD s)
 rw[oG]at hcw1;rw[show (w.alloc (.cells #[iV 0,eS,eS,iV 0,iV 0,iV 0] 45)).heap.size=w.heap.size+1 by simp]at hcv1 hcw1;obtain⟨cp2,W2,hcv2,hh2,hb2,_⟩:=tJ W1 d;have hcw2:=hh2.conv (cap:=cp2) (bD d)
 rw[oG]at hcw2;have G2:Hid (Below w.heap.size w W2):=(GR.out.trans (hb1.mono GR.out.size)).trans (hb2.mono (UA GR.out.size hb1.size));have R2:Hid (uT w.heap.size W2 ⟨0,⟨#[]⟩,⟨#[]⟩,0,0⟩ 0):=(KR.out.kept hb1).kept hb2;clear hh1 hh2 hb1 hb2 GR KR;generalize (if aJ p=true then aL (bt t) 4 else aL (bt t) 0)=x at *;generalize (if aJ p=true then aL (bt t) 4 else aL (bt t) 2)=y at *;have hlt:=UH W2 _ R2.out.c0;have fin:∀q:Bool,aJ p=q→Calls Tryz.prog 58 #[.string s,.string d,iV p,.string t] w fun e w'=>e=.returned ans∧Below w.heap.size w w':=by
  intro q hq;rw[hq]at HF
  cases q with
  | true=>
   have HG3:Hid _:=HG.out hq;rw[HG2.out hq]at HG3;clear HG HG2 hq;go_enter Tryz.func58,Tryz.ntmps58
   go_wp2_with fail
   refine(HA1.out _).mono ?_;rintro e w2 ⟨rfl,rfl⟩;go_wp2_with fail
   refine(HA2.out _).mono ?_;rintro e w2 ⟨rfl,rfl⟩;go_wp2_with fail
   refine(HA3.out _).mono ?_;rintro e w2 ⟨rfl,rfl⟩;go_wp2_with fail
   refine(HB.out _).mono ?_;rintro e w2 ⟨rfl,rfl⟩;go_wp2_with fail
   refine(HC.out _).mono ?_;rintro e w2 ⟨rfl,rfl⟩;go_wp2_with fail
   refine(HE.out _).mono ?_;rintro e w2 ⟨rfl,rfl⟩;go_wp2_with fail
   refine(HF.out _).mono ?_;rintro e w2 ⟨rfl,rfl⟩;go_wp2_with fail
   refine(HG3.out _).mono ?_;rintro e w2 ⟨rfl,rfl⟩;go_wp2_with fail
   refine(HP.out _).mono ?_;rintro e w2 ⟨rfl,rfl⟩;obtain⟨k0,y0,k1,y1,k2,y2,k3,y3,k4,y4,k5,y5⟩:=R2.out;dsimp only at k0 k1 k2 k3 k4 k5;go_wp2_with fail
   have hne:w.heap.size≠W2.heap.size:=by omega
   refine UQ (v:=.agg #[iV p,.string s,.string d,iV x,iV y,iV 0]) (by simp[results,Tryz.results58,go_sem,k0,k1,k2,k3,k4,k5,hlt,hne]) rfl ⟨by rw[HV.out],?_⟩;have hz:=G2.out.size;exact((((((G2.out.setCell lR _).setCell lR _).setCell lR _).setCell lR _).setCell lR _).setCell lR _).alloc (by simp;omega) _
  | false=>
   clear HG HG2 hq;go_enter Tryz.func58,Tryz.ntmps58
   go_wp2_with fail
   refine(HA1.out _).mono ?_;rintro e w2 ⟨rfl,rfl⟩;go_wp2_with fail
   refine(HA2.out _).mono ?_;rintro e w2 ⟨rfl,rfl⟩;go_wp2_with fail
   refine(HA3.out _).mono ?_;rintro e w2 ⟨rfl,rfl⟩;go_wp2_with fail
   refine(HB.out _).mono ?_;rintro e w2 ⟨rfl,rfl⟩;go_wp2_with fail
   refine(HC.out _).mono ?_;rintro e w2 ⟨rfl,rfl⟩;go_wp2_with fail
   refine(HE.out _).mono ?_;rintro e w2 ⟨rfl,rfl⟩;go_wp2_with fail
   refine(HF.out _).mono ?_;rintro e w2 ⟨rfl,rfl⟩;go_wp2_with fail
   refine(HP.out _).mono ?_;rintro e w2 ⟨rfl,rfl⟩;obtain⟨k0,y0,k1,y1,k2,y2,k3,y3,k4,y4,k5,y5⟩:=R2.out;dsimp only at k0 k1 k2 k3 k4 k5;go_wp2_with fail
   have hne:w.heap.size≠W2.heap.size:=by omega
   refine UQ (v:=.agg #[iV p,.string s,.string d,iV x,iV y,iV 0]) (by simp[results,Tryz.results58,go_sem,k0,k1,k2,k3,k4,k5,hlt,hne]) rfl ⟨by rw[HV.out],?_⟩;have hz:=G2.out.size;exact((((((G2.out.setCell lR _).setCell lR _).setCell lR _).setCell lR _).setCell lR _).setCell lR _).alloc (by simp;omega) _
 exact fin _ rfl
end Go.Proofs.YtdkepkaflielhaaGreatDoor
