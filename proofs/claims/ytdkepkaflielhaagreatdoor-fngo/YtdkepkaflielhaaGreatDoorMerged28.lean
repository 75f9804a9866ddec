import Derived.Test.YtdkepkaflielhaaGreatDoorMerged27
set_option linter.unusedVariables false
set_option linter.unusedSimpArgs false
set_option maxRecDepth 100000
set_option maxHeartbeats 8000000
namespace Go.Proofs.YtdkepkaflielhaaGreatDoor
open Go.RowKit Go.PlainAid Go.Lib
theorem LV(q p:Fl)(a b:Int)(W:World):(Op.equalIn 10000 45 (.agg #[iV q.UU,.string q.src,.string q.dst,iV q.sp,iV q.dp,iV a]) (.agg #[iV p.UU,.string p.src,.string p.dst,iV p.sp,iV p.dp,iV b])).run Tryz.prog W=.ok (fU q p&&(a==b)) W:=by
 have h1:Tryz.prog.underlying 45=some (.struct (Tryz.prog.fieldsOf 45)):=by kernel_rfl
 have h2:Tryz.prog.stoodInHeld 45=false:=by kernel_rfl
 rw[run_equalIn_agg _ _ _ _ _ h1 h2];have h3:(Tryz.prog.fieldsOf 45).toList.length=2:=by kernel_rfl
 have h4 : ((Tryz.prog.fieldsOf 45).toList.map fun f => (f.type, f.offset, f.name == "_")) = [(43, 0, false), (2, 5, false)] := by kernel_rfl
 have hq:=vO 9997 q p;generalize (Tryz.prog.fieldsOf 45).toList=fs at *;match fs,h3 with
 | [f,g],_=>
  simp at h4;obtain⟨⟨a1,a2,a3⟩,b1,b2,b3⟩:=h4;have p0:∀W,(part 43 #[iV q.UU,.string q.src,.string q.dst,iV q.sp,iV q.dp,iV a] 0).run Tryz.prog W=.ok (.agg (gE q).toArray) W:=fun W=>by kernel_rfl
  have p1:∀W,(part 43 #[iV p.UU,.string p.src,.string p.dst,iV p.sp,iV p.dp,iV b] 0).run Tryz.prog W=.ok (.agg (gE p).toArray) W:=fun W=>by kernel_rfl
  have p2:∀W,(part 2 #[iV q.UU,.string q.src,.string q.dst,iV q.sp,iV q.dp,iV a] 5).run Tryz.prog W=.ok (iV a) W:=fun W=>by kernel_rfl
  have p3:∀W,(part 2 #[iV p.UU,.string p.src,.string p.dst,iV p.sp,iV p.dp,iV b] 5).run Tryz.prog W=.ok (iV b) W:=fun W=>by kernel_rfl
  generalize fU q p=sf at *;by_cases hab:a=b
  ·subst hab
   cases sf<;>simp[Op.eqFields,a1,a2,a3,b1,b2,b3,p0,p1,p2,p3,hq,run_equalIn_int _ _ _ _ _ _ _ Tryz.underlying2]
  ·have hab2:(a==b)=false:=by simp[hab]
   cases sf<;>simp[Op.eqFields,a1,a2,a3,b1,b2,b3,p0,p1,p2,p3,hq,hab,hab2,run_equalIn_int _ _ _ _ _ _ _ Tryz.underlying2]
theorem ML(q p:Fl)(a b:Int)(W:World):(binOp .neq 45 (.agg #[iV q.UU,.string q.src,.string q.dst,iV q.sp,iV q.dp,iV a]) (.agg #[iV p.UU,.string p.src,.string p.dst,iV p.sp,iV p.dp,iV b])).run Tryz.prog W=.ok (.bool (!(fU q p&&(a==b)))) W:=by
 rw[run_neq_struct,LV];rfl
theorem nT(f g:Fl)(t:BA)(w:World)(f1:f.src.size≤1048576)(f2:f.dst.size≤1048576)(g1:g.src.size≤1048576)(g2:g.dst.size≤1048576)(ht:t.size≤1048576)(hk:¬(f.src.size=16∧g.src.size=16)) :
  Cb 113 #[gQ f,gQ g,.string t] w (eJ (cR f g t) (dL f g t)):=by
 have HLG:Hid (∀W,Cw 81 #[.string t] W (.bool (decide (20000 < t.size)))):=fun W=>kP t W
 have HFO:Hid (∀W,Cb 58 #[.string f.src,.string f.dst,iV f.UU,.string t] W (mX (bK f.src f.dst f.UU t) (aX f.src f.dst f.UU t))):=fun W=>mP _ _ _ _ W f1 f2 ht
 have HFR:Hid (∀W,Cb 149 #[gQ g] W (.bool (cF g))):=fun W=>sF g W g1 g2
 have HLK:Hid (∀W,Cb 150 #[iV f.UU,iV g.UU] W (.bool (decide (f.UU=g.UU)||(aJ f.UU&&aJ g.UU)))):=fun W=>(GF _ _ W).mono fun e w' h=>⟨h.1,by rw[h.2];exact Below.refl _ _⟩
 have HSI:Hid (t.size≤20000→iJ f g t=((fU (bK f.src f.dst f.UU t) f&&(aX f.src f.dst f.UU t==0))&&(cF g&&(decide (f.UU=g.UU)||(aJ f.UU&&aJ g.UU))))):=fun h=>by rw[GY h,Bool.and_comm (fU _ _)];rfl
 have HNE:Hid (∀W,(binOp .neq 45 (mX (bK f.src f.dst f.UU t) (aX f.src f.dst f.UU t)) (mX f 0)).run Tryz.prog W=.ok (.bool (!(fU (bK f.src f.dst f.UU t) f&&(aX f.src f.dst f.UU t==0)))) W):=fun W=>ML _ _ _ _ W
 have HC2:Hid (20000 < t.size→eJ (cR f g t) (dL f g t)=eJ ⟨#[]⟩ 2):=fun h=>by
  have hc:dL f g t=2:=by unfold dL;rw[if_pos h]
  unfold cR;rw[hc,if_neg (by decide)]
 have HC1:Hid (t.size≤20000→iJ f g t=false→eJ (cR f g t) (dL f g t)=eJ ⟨#[]⟩ 1):=fun h h2=>by
  have hc:dL f g t=1:=by unfold dL;rw[if_neg (by omega),if_pos h2]
  unfold cR;rw[hc,if_neg (by decide)]
 have hq:iJ f g t=true→(f.src.size=4∨f.src.size=16)∧f.dst.size≤16∧(0≤f.UU∧f.UU≤255)∧(g.src.size=4∨g.src.size=16)∧g.dst.size≤16∧(0≤g.UU∧g.UU≤255)∧8≤t.size∧(f.UU=6→20≤t.size)∧((0≤g.sp∧g.sp≤65535)∧(0≤g.dp∧g.dp≤65535))∧(aJ g.UU=true→aJ f.UU=true):=fun h=>by
  obtain⟨h1,h2,h3,h4⟩:=uK h;obtain⟨a1,a2,a3⟩:=kN h1;obtain⟨b1,b2,b3⟩:=kN h2;have p1:dV f.src f.dst=true:=by unfold cF at h1;simp only[TP]at h1;exact h1.1.1.1.1
  have p2:dV g.src g.dst=true:=by unfold cF at h2;simp only[TP]at h2;exact h2.1.1.1.1
  have o:=gR h4;refine⟨(jM p1).1,a1.2,a2,(jM p2).1,b1.2,b2,o.1,o.2,b3,fun hg=>?_⟩;rcases h3 with h3|h3
  ·rw[h3];exact hg
  ·exact h3.1
 have HC5:Hid (t.size≤20000→iJ f g t=true→pQ f t=true→g.src.size=16→eJ (cR f g t) (dL f g t)=eJ ⟨#[]⟩ 5):=fun h h2 h3 h4=>by
  have hb:eF f t=true:=by
   rw[rF,h3];rcases (hq h2).1 with h5|h5
   ·simp[h5]
   ·exact absurd ⟨h5,h4⟩ hk
  have hc:dL f g t=5:=by unfold dL;rw[if_neg (by omega),if_neg (by rw[h2];simp),if_pos ⟨hb,h4⟩]
  unfold cR;rw[hc,if_neg (by decide)]
 have HC0:Hid (t.size≤20000→iJ f g t=true→¬(pQ f t=true∧g.src.size=16)→eJ (cR f g t) (dL f g t)=if (!pQ f t||decide (f.src.size=16))=true then eJ (dW (bJ f g t) (aY f.UU) (aQ (cL f g t))) 0 else eJ (bJ f g t) 0):=fun h h2 h3=>by
  have hc:dL f g t=0:=by
   unfold dL;rw[if_neg (by omega),if_neg (by rw[h2];simp),if_neg];rintro⟨h5,h6⟩;rw[rF,TP]at h5;exact h3 ⟨h5.1,h6⟩
  unfold cR;rw[hc,if_pos rfl,rF];have hs:=(hq h2).1;by_cases hl:pQ f t=true
  ·rcases hs with hs | hs
   ·simp[hl,hs]
   ·simp[hl,hs]
  ·simp[hl]
 have HLA:Hid (iJ f g t=true→∀W,Cw 151 #[iV f.UU,.string t] W (.bool (pQ f t))):=fun h W=>CZ _ t W (hq h).2.2.2.2.2.2.1 ht
 have HLY:Hid (t.size≤20000→iJ f g t=true→∀W,Calls Tryz.prog 152 #[iV f.UU,gQ g,.string t] W fun e w'=>LH W.heap.size t.size (bJ f g t) e w'∧Below W.heap.size W w'):=fun h h2 W=>by
  obtain⟨q1,q2,q3,q4,q5,q6,q7,q8,q9,q10⟩:=hq h2;rw[←OP h2];exact JX f.UU g t W q7 h q9 q10
 have HCK:Hid (t.size≤20000→iJ f g t=true→∀W,Cb 155 #[gQ f,gQ g,.string t,.string (bJ f g t)] W (iV (cL f g t))):=fun h h2 W=>by
  obtain⟨q1,q2,q3,q4,q5,q6,q7,q8,q9,q10⟩:=hq h2;have hs:=kF (f:=f) (g:=g) q7;rw[←JP f g t q7 (by omega)];exact CY f g t (bJ f g t) W q7 (by omega) q8 (by omega) (by omega) q1 q2 q3 q4 q5 q6
 have HPL:Hid (∀W,Cb 153 #[iV f.UU] W (iV (aY f.UU:Nat))):=fun W=>(uD _ W).mono fun e w' h=>⟨h.1,by rw[h.2];exact Below.refl _ _⟩
 have HSZ:Hid (iJ f g t=true→(bJ f g t).size=t.size∧8≤t.size∧aY f.UU+2≤t.size):=fun h=>by
  obtain⟨q1,q2,q3,q4,q5,q6,q7,q8,q9,q10⟩:=hq h;refine⟨kF q7,q7,?_⟩;unfold aY;split
  ·rename_i h6;have:=q8 h6;omega
  ·split<;>omega
 have rnc:=pR f g t;have z2:=aP (cL f g t);have HL1:Hid ((kI [cL f g t]).map (Value.int .u8)=strCells (aQ (cL f g t))):=by unfold Hid;rw[mE _ rnc.1 rnc.2];rfl
 have hinfo:(Tryz.prog.info? 5).map (·.size)=some 1:=by
  obtain⟨i0,hi,hz0,hz1,hz2⟩:=info_parts Tryz.info5;rw[hi];simp[hz1]
 generalize eJ (cR f g t) (dL f g t)=ans at *;generalize (fU (bK f.src f.dst f.UU t) f&&(aX f.src f.dst f.UU t==0))=sf at *;generalize (decide (f.UU=g.UU)||(aJ f.UU&&aJ g.UU))=lk at *;generalize cF g=fg at *;generalize iJ f g t=si at *;generalize pQ f t=lc at *;generalize aY f.UU=pl at *;generalize cL f g t=nc at *;generalize bJ f g t=uu at *;generalize bK f.src f.dst f.UU t=ff at *;generalize aX f.src f.dst f.UU t=fc at *;clear hq;obtain⟨UU,src,dst,sp,dp⟩:=f;obtain⟨proto',src',dst',sp',dp'⟩:=g;unfold mX at HFO HNE;unfold gQ at *;dsimp only at *;have HS0:=RD w (dA UU src dst sp dp) 43 (dA proto' src' dst' sp' dp') 43 [eS,iV 0] 55 (by simp) (by simp) (by simp)
 skip;have hRw:w.heap.size≤w.heap.size+1+1:=by omega
 go_enter Tryz.func113,Tryz.ntmps113
 go_upto_region 1 with fail
 generalize World.alloc _ _=W0 at *;go_wp2_with fail
 refine(HLG.out _).mono ?_;rintro e W0 ⟨rfl,rfl⟩;by_cases jJ:20000 < t.size
 case pos=>
  have dl:decide (20000 < t.size)=true:=TT jJ;rw[dl];have HX:Hid (ans=eJ ⟨#[]⟩ 2):=HC2.out jJ;have HHz:=HS0.out.at eX;obtain⟨z0,z1⟩:=HHz.c2;obtain⟨zf0,zf1⟩:=HHz.f2;obtain⟨HRR,RB⟩:=RM HHz HS0.out.b hRw eS (iV 2);clear HHz;clear HC2 HC1 HC5 HC0;go_wp2_with fail
  exact UQ (aG Tryz.results113 _ _ (w.heap.size+1+1) [eS,iV 2] _ rfl HRR.out Tryz.underlying55 rfl (show (Tryz.prog.info? 55).map (·.size)=some 2 by kernel_rfl)) rfl (And.intro (by rw[HX.out];rfl) RB.out)
 have dl:decide (20000 < t.size)=false:=TR jJ;rw[dl];have hle:t.size≤20000:=by omega
 replace HSI:Hid _:=HSI.out hle;replace HC1:Hid _:=HC1.out hle;replace HC5:Hid _:=HC5.out hle;replace HC0:Hid _:=HC0.out hle;replace HLY:Hid _:=HLY.out hle;replace HCK:Hid _:=HCK.out hle;clear HC2 HLG dl jJ;go_upto_region 3 with fail
 go_cut [35] (fun v wx=>v=.bool (!si)∧dX w [(w.heap.size,(dA UU src dst sp dp)),(w.heap.size+1,(dA proto' src' dst' sp' dp')),(w.heap.size+1+1,[eS,iV 0])] wx)
 case first=>
  rename_i J K2 hJ hK2;have HCP:Hid (∀wy,Below W0.drew.heap.size W0.drew wy→_):=fun wy hy=>HS0.out.kept (bR.drew.trans hy)
  clear HC1 HC5 HC0 HLA HLY HCK HPL HSZ HL1
  cases sf with
  | false=>
   refine bH [12,13,14,15,16,17,18,19,20,21,22,23,24,25,26,27,28,29,30,31,32,33,34,35] (by kernel_rfl) (by kernel_rfl) ?_;iterate 10 (apply cW.u rfl;(·intro K' a wy ho hd hb hK;simp[aS,aF,aD,Region.binds]at ho hd;have hst:=HCP.out wy hb;have kC:=(hst.at cO).c5;have kC:=(hst.at eB).c5;clear hst;go_simp;first|((try go_bits);exact hK _ _ rfl bQ)|(refine(HFO.out wy).mono ?_;rintro e wz ⟨rfl,hz⟩;exact hK _ _ rfl hz));dsimp only[nA,cA])
   apply cW.v10
   ·rfl
   ·intro K' a wy ho hd hb hK kz;have q7:=hd ⟨7,.data⟩ (by simp) rfl;have q9:=hd ⟨9,.data⟩ (by simp) rfl;simp[aS,aF,aD]at q7 q9;clear hd ho;refine jH .neq 45 45 (.tmp 19) (.tmp 21) rfl (by simp[Act.eval,aD,q7]) (by simp[Act.eval,aD,q9]) (run_eqGuard_agg _ _ _ _ _ _ _ (by kernel_rfl)) (HNE.out wy) ?_;exact kz _ rfl
   iterate 13 ((first|(refine cW.n rfl rfl rfl rfl rfl (by simp) ?_)|(apply cW.u rfl;(·intro K' a wy ho hd hb hK;simp[aS,aF,aD,Region.binds]at ho hd;go_simp;(try go_bits);exact hK _ _ rfl bQ)));dsimp only[nA,cA])
   intro X wz hR hz;simp only[UB,UC,eW,aF]at hR;simp only[aE,hR];clear hR;have HF:Hid (dX w [(w.heap.size,(dA UU src dst sp dp)),(w.heap.size+1,(dA proto' src' dst' sp' dp')),(w.heap.size+1+1,[eS,iV 0])] wz):=HCP.out wz hz;clear HCP;go_simp;refine hK2 _ _ (hJ _ _ ?_);(repeat apply Exists.intro)
   exact⟨⟨by rw[HSI.out];rfl,HF.out⟩,rfl⟩
  | true=>
   cases fg with
   | false=>
    refine bH [12,13,14,15,16,17,18,19,20,21,22,23,24,25,26,27,28,29,30,31,32,33,34,35] (by kernel_rfl) (by kernel_rfl) ?_;iterate 10 (apply cW.u rfl;(·intro K' a wy ho hd hb hK;simp[aS,aF,aD,Region.binds]at ho hd;have hst:=HCP.out wy hb;have kC:=(hst.at cO).c5;have kC:=(hst.at eB).c5;clear hst;go_simp;first|((try go_bits);exact hK _ _ rfl bQ)|(refine(HFO.out wy).mono ?_;rintro e wz ⟨rfl,hz⟩;exact hK _ _ rfl hz));dsimp only[nA,cA])
    apply cW.v10
    ·rfl
    ·intro K' a wy ho hd hb hK kz;have q7:=hd ⟨7,.data⟩ (by simp) rfl;have q9:=hd ⟨9,.data⟩ (by simp) rfl;simp[aS,aF,aD]at q7 q9;clear hd ho;refine jH .neq 45 45 (.tmp 19) (.tmp 21) rfl (by simp[Act.eval,aD,q7]) (by simp[Act.eval,aD,q9]) (run_eqGuard_agg _ _ _ _ _ _ _ (by kernel_rfl)) (HNE.out wy) ?_;exact kz _ rfl
    iterate 13 ((first|(refine cW.n rfl rfl rfl rfl rfl (by simp) ?_)|((first|apply cW.u rfl|apply cW.g rfl rfl rfl rfl rfl (by simp));(·intro K' a wy ho hd hb hK;simp[aS,aF,aD,Region.binds]at ho hd;have hst:=HCP.out wy hb;have kC:=(hst.at cO).c5;have kC:=(hst.at eB).c5;clear hst;go_simp;first|((try go_bits);exact hK _ _ rfl bQ)|(refine(HFR.out wy).mono ?_;rintro e wz ⟨rfl,hz⟩;exact hK _ _ rfl hz))));dsimp only[nA,cA])
    intro X wz hR hz;simp only[UB,UC,eW,aF]at hR;simp only[aE,hR];clear hR;have HF:Hid (dX w [(w.heap.size,(dA UU src dst sp dp)),(w.heap.size+1,(dA proto' src' dst' sp' dp')),(w.heap.size+1+1,[eS,iV 0])] wz):=HCP.out wz hz;clear HCP;go_simp;refine hK2 _ _ (hJ _ _ ?_);(repeat apply Exists.intro)
    exact⟨⟨by rw[HSI.out];rfl,HF.out⟩,rfl⟩
   | true=>
    refine bH [12,13,14,15,16,17,18,19,20,21,22,23,24,25,26,27,28,29,30,31,32,33,34,35] (by kernel_rfl) (by kernel_rfl) ?_;iterate 10 (apply cW.u rfl;(·intro K' a wy ho hd hb hK;simp[aS,aF,aD,Region.binds]at ho hd;have hst:=HCP.out wy hb;have kC:=(hst.at cO).c5;have kC:=(hst.at eB).c5;clear hst;go_simp;first|((try go_bits);exact hK _ _ rfl bQ)|(refine(HFO.out wy).mono ?_;rintro e wz ⟨rfl,hz⟩;exact hK _ _ rfl hz));dsimp only[nA,cA])
    apply cW.v10
    ·rfl
    ·intro K' a wy ho hd hb hK kz;have q7:=hd ⟨7,.data⟩ (by simp) rfl;have q9:=hd ⟨9,.data⟩ (by simp) rfl;simp[aS,aF,aD]at q7 q9;clear hd ho;refine jH .neq 45 45 (.tmp 19) (.tmp 21) rfl (by simp[Act.eval,aD,q7]) (by simp[Act.eval,aD,q9]) (run_eqGuard_agg _ _ _ _ _ _ _ (by kernel_rfl)) (HNE.out wy) ?_;exact kz _ rfl
    iterate 10 ((first|apply cW.u rfl|apply cW.g rfl rfl rfl rfl rfl (by simp));(·intro K' a wy ho hd hb hK;simp[aS,aF,aD,Region.binds]at ho hd;have hst:=HCP.out wy hb;have kC:=(hst.at cO).c5;have kC:=(hst.at eB).c5;clear hst;go_simp;first|((try go_bits);exact hK _ _ rfl bQ)|(refine(HFR.out wy).mono ?_;rintro e wz ⟨rfl,hz⟩;exact hK _ _ rfl hz));dsimp only[nA,cA])
    iterate 3 ((first|apply cW.u rfl|apply cW.g rfl rfl rfl rfl rfl (by simp));(·intro K' a wy ho hd hb hK;simp[aS,aF,aD,Region.binds]at ho hd;go_simp;first|((try go_bits);exact hK _ _ rfl bQ)|(refine(HLK.out wy).mono ?_;rintro e wz ⟨rfl,hz⟩;exact hK _ _ rfl hz));dsimp only[nA,cA])
    intro X wz hR hz;simp only[UB,UC,eW,aF]at hR;simp only[aE,hR];clear hR;have HF:Hid (dX w [(w.heap.size,(dA UU src dst sp dp)),(w.heap.size+1,(dA proto' src' dst' sp' dp')),(w.heap.size+1+1,[eS,iV 0])] wz):=HCP.out wz hz;clear HCP;go_simp;refine hK2 _ _ (hJ _ _ ?_);(repeat apply Exists.intro)
    exact⟨⟨by rw[HSI.out];rfl,HF.out⟩,rfl⟩
 case rest=>
 obtain⟨rfl,hS⟩:=hcut;have S1:Hid (dX w [(w.heap.size,(dA UU src dst sp dp)),(w.heap.size+1,(dA proto' src' dst' sp' dp')),(w.heap.size+1+1,[eS,iV 0])] wc):=hS;clear hS HS0 HSI HNE HFO HFR HLK;generalize wc=W1 at *
 cases si with
 | false=>
  have HX:Hid (ans=eJ ⟨#[]⟩ 1):=HC1.out rfl;have HHz:=S1.out.at eX;obtain⟨z0,z1⟩:=HHz.c2;obtain⟨zf0,zf1⟩:=HHz.f2;obtain⟨HRR,RB⟩:=RM HHz S1.out.b hRw eS (iV 1);clear HHz;clear HC1 HC5 HC0;go_wp2_with fail
  exact UQ (aG Tryz.results113 _ _ (w.heap.size+1+1) [eS,iV 1] _ rfl HRR.out Tryz.underlying55 rfl (show (Tryz.prog.info? 55).map (·.size)=some 2 by kernel_rfl)) rfl (And.intro (by rw[HX.out];rfl) RB.out)
 | true=>
 replace HC5:Hid _:=HC5.out rfl;replace HC0:Hid _:=HC0.out rfl;replace HLA:Hid _:=HLA.out rfl;replace HLY:Hid _:=HLY.out rfl;replace HCK:Hid _:=HCK.out rfl;obtain⟨hs1,hs2,hs3⟩:=HSZ.out rfl;clear HC1 HSZ;have HHk:=S1.out.at cO;obtain⟨k0,k1,k2,k3,k4⟩:=HHk.c5;clear HHk;have HHl:=S1.out.at eB;obtain⟨l0,l1,l2,l3,l4⟩:=HHl.c5;clear HHl;go_wp2_with fail
 refine(HLA.out _).mono ?_;rintro e W1 ⟨rfl,rfl⟩;by_cases h5:lc=true∧src'.size=16
 case pos=>
  obtain⟨rfl,h16⟩:=h5;have d16:((src'.size:Int)==16)=true:=by rw[h16];rfl
  have hun:undef=Value.tuple #[]:=rfl;have HX:Hid (ans=eJ ⟨#[]⟩ 5):=HC5.out rfl h16;have HHz:=S1.out.at eX;obtain⟨z0,z1⟩:=HHz.c2;obtain⟨zf0,zf1⟩:=HHz.f2;obtain⟨HRR,RB⟩:=RM HHz S1.out.b hRw eS (iV 5);clear HHz;clear HC5 HC0;go_wp2_with fail
  exact UQ (aG Tryz.results113 _ _ (w.heap.size+1+1) [eS,iV 5] _ rfl HRR.out Tryz.underlying55 rfl (show (Tryz.prog.info? 55).map (·.size)=some 2 by kernel_rfl)) rfl (And.intro (by rw[HX.out];rfl) RB.out)
 replace HC0:Hid _:=HC0.out h5;clear HC5;go_upto_region 6 with fail
 go_cut [47] (fun v wx=>v=.bool false∧wx=W1)
 case first=>
  have hun:undef=Value.tuple #[]:=rfl
  cases lc with
  | false=>
   go_wp2_with fail
   go_meet;exact⟨rfl,rfl⟩
  | true=>
   have d16:((src'.size:Int)==16)=false:=by
    have:¬src'.size=16:=fun h=>h5 ⟨rfl,h⟩
    simp;omega
   go_wp2_with fail
   go_meet;exact⟨rfl,rfl⟩
 case rest=>
 obtain⟨rfl,rfl⟩:=hcut;generalize wc=W1 at *;go_upto_region 8 with fail
 go_wp2_with fail
 refine(HLY.out _).mono ?_;rintro e W2 ⟨⟨b,cap,rfl,hcap,hbW,hT2⟩,q2⟩;have S2:Hid _:=S1.out.kept q2;have T2:Hid (aA W2 b (strCells uu)):=hT2;have hfb:w.heap.size+1+1 < W1.heap.size:=(S1.out.k _ eX).lt (by simp);clear hT2 q2 S1 k0 k1 k2 k3 k4 l0 l1 l2 l3 l4 HLY HLA;have hbg:w.heap.size+1+1 < b:=by omega
 have hbw:w.heap.size≤b:=by omega
 have hrb:w.heap.size+1+1≠b:=by omega
 clear hbW hfb;have HHk:=S2.out.at cO;obtain⟨k0,k1,k2,k3,k4⟩:=HHk.c5;clear HHk;have HHl:=S2.out.at eB;obtain⟨l0,l1,l2,l3,l4⟩:=HHl.c5;clear HHl;obtain⟨cb,hcb⟩: ∃cb,cb=(!lc||decide (src.size=16)):=⟨_,rfl⟩;rw[←hcb]at HC0;have HCB:Hid _:=hcb;clear hcb;go_upto_region 9 with fail
 go_cut [61] (fun v wx=>v=.bool cb∧wx=W2)
 case first=>
  have hun:undef=Value.tuple #[]:=rfl
  cases lc with
  | false=>
   go_wp2_with fail
   go_meet;exact⟨by rw[HCB.out];rfl,rfl⟩
  | true=>
   by_cases h16:src.size=16
   case pos=>
    have d16:((src.size:Int)==16)=true:=by rw[h16];rfl
    go_wp2_with fail
    go_meet;exact⟨by rw[HCB.out,TT h16];rfl,rfl⟩
   have d16:((src.size:Int)==16)=false:=by simp;omega
   go_wp2_with fail
   go_meet;exact⟨by rw[HCB.out,TR h16];rfl,rfl⟩
 case rest=>
 obtain⟨rfl,rfl⟩:=hcut;generalize wc=W2 at *;clear HCB k0 k1 k2 k3 k4 l0 l1 l2 l3 l4
 cases cb with
 | false=>
  have hcv:(convert 22 9 (.slice (some ⟨b,0,none⟩) t.size cap)).run Tryz.prog W2=.ok (.string uu) W2:=by rw[←hs1];exact vR T2.out
  have HX:Hid (ans=eJ uu 0):=HC0.out;have HHz:=S2.out.at eX;obtain⟨z0,z1⟩:=HHz.c2;obtain⟨zf0,zf1⟩:=HHz.f2;obtain⟨HRR,RB⟩:=RM HHz S2.out.b hRw (.string uu) (iV 0);clear HHz;clear HC0 T2;go_wp2_with fail
  exact UQ (aG Tryz.results113 _ _ _ _ _ rfl HRR.out Tryz.underlying55 rfl (show (Tryz.prog.info? 55).map (·.size)=some 2 by kernel_rfl)) rfl (And.intro (by rw[HX.out];rfl) RB.out)
 | true=>
 go_upto_region 10 with fail
 have hpc:¬cap=pl:=by omega
 have hpi:¬(t.size:Int) < (pl:Int):=by omega
 have hpj:¬(cap:Int) < (pl:Int):=by omega
 have hpk:(pl:Int)≤t.size:=by omega
 go_cut [75] (fun v wx=>aA wx b (strCells (dW uu pl (aQ nc)))∧dX w [(w.heap.size,(dA UU src dst sp dp)),(w.heap.size+1,(dA proto' src' dst' sp' dp')),(w.heap.size+1+1,[eS,iV 0])] wx)
 case first=>
  rename_i J K2 hJ hK2;have HCP:Hid (∀wy,Below W2.drew.heap.size W2.drew wy→_):=fun wy hy=>S2.out.kept (bR.drew.trans hy)
  have HGP:Hid (∀wy,Below W2.drew.heap.size W2.drew wy→aA wy b (strCells uu)):=fun wy hy=>T2.out.kept (by rw[strCells_length];omega) (bR.drew.trans hy)
  have hlw2:w.heap.size≤W2.drew.heap.size:=S2.out.b.size;clear T2 S2 HC0;refine aN [62,63,64,65,66,67,68,69,70,71,72,73,74] (by kernel_rfl) (by kernel_rfl) ?_;iterate 9 (apply bC.u rfl;(·intro K' a wy ho hd hb hK;simp[aS,aF,aD,Region.binds]at ho hd;have hst:=HCP.out wy hb;have kC:=(hst.at cO).c5;have kC:=(hst.at eB).c5;clear hst;go_simp;first|((try go_bits);exact hK _ _ rfl bQ)|(refine(HPL.out wy).mono ?_;rintro e wz ⟨rfl,hz⟩;exact hK _ _ rfl hz));dsimp only[nA,cA])
  apply bC.v9
  ·rfl
  ·intro K' a wy ho hd hb hK kz;have q8:=hd ⟨8,.data⟩ (by simp) rfl;simp[aS,aF,aD]at q8;clear hd ho;have hcv:(convert 22 9 (.slice (some ⟨b,0,none⟩) t.size cap)).run Tryz.prog wy=.ok (.string uu) wy:=by rw[←hs1];exact vR (HGP.out wy hb)
   go_simp;try go_bits
   exact kz _ rfl
  (apply bC.u rfl;(·intro K' a wy ho hd hb hK;simp[aS,aF,aD,Region.binds]at ho hd;go_simp;refine(HCK.out wy).mono ?_;rintro e wz ⟨rfl,hz⟩;exact hK _ _ rfl hz);dsimp only[nA,cA])
  refine bC.rel (n:=11) (oC [nc]) (qD _) [_,_,_,_,_,_,_,_,_,_,_,oC [nc]] rfl rfl ?_ ?_
  ·intro K' a wy ho hd hb hK;rw[wN rfl];have q10:=hd ⟨10,.data⟩ (by simp) rfl;simp[aS,aF,aD]at q10;clear hd ho;go_simp;exact hK _ _ ⟨wy.heap.size,rfl,by simp,fun k hk=>by
    simp only[List.length_cons,List.length_nil]at hk;match k,hk with
    | 0,_=>simp⟩ (bR.alloc lR _)
  refine bC.rel (n:=12) (BT w.heap.size 5 2 (strCells (aQ nc))) (sY _ _ _ _) [_,_,_,_,_,_,_,_,_,_,_,_,BT w.heap.size 5 2 (strCells (aQ nc))] rfl rfl ?_ ?_
  ·intro K' a wy ho hd hb hK;rw[wN rfl];have hr:oC [nc] (aD a 73) wy:=hd ⟨11,.data⟩ (by simp) rfl;obtain⟨b4,e1,e2,e3⟩:=hr;simp[aD]at e1;clear hd ho;go_simp;refine(mC [nc] b4 1 1 wy (by decide) e2 rfl (qN _ (by simp only[List.forall_mem_cons,TV,false_imp_iff,implies_true,and_true];omega)) e3).mono ?_;rintro e wz ⟨rfl,hown,hz⟩;exact hK _ _ ⟨_,rfl,yO (by rw[←HL1.out];exact hown) (UA hlw2 hb.size)⟩ hz
  intro X wz hR hz;obtain⟨x0,x1,x2,x3,x4,x5,x6,x7,x8,x9,x10,x11,x12,-⟩:=hR;obtain⟨b4,e4,-,-⟩:=x11;obtain⟨g5,e5,own5⟩:=x12;simp only[aF]at x0 x1 x2 x3 x4 x5 x6 x7 x8 x9 x10;simp only[aE,x0,x1,x2,x3,x4,x5,x6,x7,x8,x9,x10,e4,e5];clear x0 x1 x2 x3 x4 x5 x6 x7 x8 x9 x10;rw[e5]at own5;have hgz:=HGP.out wz hz;have hrun:=oN (P:=Tryz.prog) (dCap:=cap-pl) 22 22 3 5 Tryz.underlying22 hinfo hgz (o:=pl) (by omega) (dLen:=t.size-pl) (by omega) z2.symm own5;rw[z2]at hrun;have HN2:Hid (aA (wz.setCells b pl (strCells (aQ nc))) b (strCells (dW uu pl (aQ nc)))):=AF hgz (by omega);have HB2:Hid (dX w [(w.heap.size,(dA UU src dst sp dp)),(w.heap.size+1,(dA proto' src' dst' sp' dp')),(w.heap.size+1+1,[eS,iV 0])] (wz.setCells b pl (strCells (aQ nc)))):=(HCP.out wz hz).cells (fun e he=>by
   simp only[TW,TV,or_false]at he;rcases he with rfl|rfl|rfl<;>(show _≠b;omega)) hbw
  clear hgz own5 hz HCP HGP;intro K10 hK10;go_simp;refine hK10 _ _ ?_;show Exit.then _ _ _ _ _;refine hK2 _ _ (hJ _ _ ?_);(repeat apply Exists.intro)
  exact⟨⟨HN2.out,HB2.out⟩,rfl⟩
 case rest=>
 obtain⟨hG,hS⟩:=hcut;have T3:Hid _:=hG;have S3:Hid (dX w [(w.heap.size,(dA UU src dst sp dp)),(w.heap.size+1,(dA proto' src' dst' sp' dp')),(w.heap.size+1+1,[eS,iV 0])] wc):=hS;clear hG hS S2 T2 HCK HPL HL1;generalize wc=W3 at *;have hsz3:(dW uu pl (aQ nc)).size=t.size:=by rw[eQ (by omega)];exact hs1
 generalize dW uu pl (aQ nc)=vv at *;have hcv:(convert 22 9 (.slice (some ⟨b,0,none⟩) t.size cap)).run Tryz.prog W3=.ok (.string vv) W3:=by rw[←hsz3];exact vR T3.out
 have HX:Hid (ans=eJ vv 0):=HC0.out;have HHz:=S3.out.at eX;obtain⟨z0,z1⟩:=HHz.c2;obtain⟨zf0,zf1⟩:=HHz.f2;obtain⟨HRR,RB⟩:=RM HHz S3.out.b hRw (.string vv) (iV 0);clear HHz;clear HC0 T3;go_wp2_with fail
 exact UQ (aG Tryz.results113 _ _ _ _ _ rfl HRR.out Tryz.underlying55 rfl (show (Tryz.prog.info? 55).map (·.size)=some 2 by kernel_rfl)) rfl (And.intro (by rw[HX.out];rfl) RB.out)
end Go.Proofs.YtdkepkaflielhaaGreatDoor
namespace Go.Proofs.YtdkepkaflielhaaGreatDoor
open Go.RowKit
def IO(p:Pl)(b:Bd):Bool:=eP b.UU&&cI b.inn&&jS b.UW&&nL p.VA b.out&&aM b.UX p.low p.high
theorem vK{p:Pl}{xs:List Bd}:(∀i (h:i < xs.length),cG p (xs.take i) xs[i]=true)↔(∀c∈xs,IO p c=true)∧xs.Pairwise (fun c b=>eK c b=false):=by
 have e:∀ys b,cG p ys b=(IO p b&&!ys.any fun c=>eK c b):=fun ys b=>rfl
 rw[List.pairwise_iff_getElem];constructor
 ·intro h;refine⟨fun c hc=>?_,fun i j hi hj hij=>?_⟩
  ·obtain⟨i,hi,rfl⟩:=UN hc;have:=h i hi;rw[e]at this;simp only[TP]at this;exact this.1
  ·have:=h j hj;rw[e]at this;simp only[TP,Bool.not_eq_true']at this;have:=List.any_eq_false.1 this.2 xs[i] (qE hi hij);simpa using this
 ·rintro⟨h1,h2⟩ i hi;rw[e];simp only[TP,Bool.not_eq_true'];refine⟨h1 _ (TY hi),?_⟩;rw[List.any_eq_false];intro c hc;obtain⟨k,hk,hki,rfl⟩:=sM hc;rw[h2 k i hk hi hki];decide
open Go.PlainAid
theorem MQ{p:Pl}{x:Bb}(h:nN p x){c:Bd}(hc:c∈x.VC):x.VC.find? (dE c.UU c.out c.UX)=some c:=by
 have hp:=(vK.1 h.bind).2;rw[List.find?_eq_some_iff_append];refine⟨by unfold dE;simp,?_⟩;obtain⟨us,vs,e⟩:=List.append_of_mem hc;refine⟨us,vs,e,fun a ha=>?_⟩;rw[e,List.pairwise_append]at hp;have hcl:=hp.2.2 a ha c (List.mem_cons_self);unfold eK at hcl;unfold dE
 cases h1:decide (a.UU=c.UU) with
 | false=>rfl
 | true=>
  rw[h1]at hcl;simp only[UE,Bool.or_eq_false_iff]at hcl;simp only[UE,hcl.2.2,Bool.not_false]
theorem gN{s d:BA}{p:Int}{t:BA}(h:aU s.size p t=0):(aR s d p t).UU=p∧(aR s d p t).src=s∧(aR s d p t).dst=d∧(0≤(aR s d p t).sp∧(aR s d p t).sp≤65535)∧(0≤(aR s d p t).dp∧(aR s d p t).dp≤65535)∧(aJ p=true→(aR s d p t).sp=(aR s d p t).dp):=by
 unfold aR;rw[if_pos h];have w0:=cN (bD t) 0;have w2:=cN (bD t) 2;have w4:=cN (bD t) 4;by_cases he:aJ p=true
 ·rw[if_pos he];exact⟨rfl,rfl,rfl,w4,w4,fun _=>rfl⟩
 ·rw[if_neg he];exact⟨rfl,rfl,rfl,w0,w2,fun h=>absurd h he⟩
theorem kQ{n:Nat}{p:Int}{t:BA}(h:aU n p t=0):cB p n=true:=by
 unfold aU at h;by_cases h3:cB p n=false
 ·rw[if_pos h3]at h;simp at h
 ·simpa using h3
theorem iO{p:Int}(h:cB p 4=true):p=6∨p=17∨p=1:=by
 unfold cB at h;simp only[UK,TP,TU]at h;omega
theorem qL{s d:BA}{p:Int}{t:BA}(h:aU s.size p t=0)(hp:dV s d=true):cF (aR s d p t)=true:=by
 obtain⟨h1,h2,h3,h4,h5,h6⟩:=gN (d:=d) h;unfold cF;rw[h1,h2,h3,hp,kQ h,gK h4.1 h4.2,gK h5.1 h5.2];by_cases he:aJ p=true
 ·simp[he,h6 he]
 ·simp[he]
theorem yC(p:Int)(t:BA):aM (fN p t) 0 255=true:=by
 unfold fN aM;have:=bD t 13;split<;>simp<;>omega
theorem yP{p n:Int}(h:0≤n∧n≤65535):jS (eM p n)=true:=by
 unfold eM;split
 ·decide
 ·exact gK h.1 h.2
theorem tH{s:BA}(h:s.size=4):cI s=true:=by unfold cI;simp[h]
theorem gD{s d:BA}(hs:s.size=4)(hd:d.size=4):dV s d=true:=by unfold dV;rw[tH hs];simp[hs,hd]
theorem lM{p:Int}(h:p=6∨p=17∨p=1):eP p=true∧pU p=p:=by
 rcases h with rfl|rfl|rfl<;>decide
theorem zW{s d:BA}{p:Int}{t:BA}(hs:s.size=4)(hd:d.size=4)(h:aU s.size p t=0):bY (kV (aR s d p t) d t)=true:=by
 obtain⟨h1,h2,h3,h4,h5,h6⟩:=gN (d:=d) h;have hp:=iO (hs ▸ kQ h);unfold bY kV;dsimp only;rw[h1,h2,(lM hp).2,(lM hp).1,tH hs,gK h4.1 h4.2,yP h5,yC];simp[hd]
theorem LT{s d:BA}{p:Int}{t:BA}(hs:s.size=4)(hd:d.size=4)(h:aU s.size p t=0):bY (mO (aR s d p t) t)=true:=by
 obtain⟨h1,h2,h3,h4,h5,h6⟩:=gN (d:=d) h;have hp:=iO (hs ▸ kQ h);unfold bY mO;dsimp only;rw[h1,h2,h3,(lM hp).1,tH hd,gK h5.1 h5.2,yP h4,yC];simp[hs,hd]
theorem nP{p:Pl}{x:Bb}{t:Tc}{now:Int}(h:fS p x=true)(hn:bS now=true)(ht:bY t=true)(hc:(gF p x t now).code=0) :
  (gF p x t now).bind.out.size=4∧(0≤(gF p x t now).bind.UX∧(gF p x t now).bind.UX≤65535)∧((gF p x t now).bind.inn.size=4∨(gF p x t now).bind.inn.size=16)∧(0≤(gF p x t now).bind.UW∧(gF p x t now).bind.UW≤65535)∧(t.UY=true→(gF p x t now).bind.inn=t.addr):=by
 obtain⟨g1,g2,g3,g4,g5⟩:=sE (jB.1 h) hn ht hc;have hb:=(vK.1 g1.bind).1 _ g3;unfold IO at hb;simp only[TP]at hb;have hpl:=g1.pool;have hpo:1≤p.low∧p.high≤65535:=by
  unfold cT at hpl;simp only[TP,TU]at hpl;exact⟨hpl.1.1.1.1.1.1.2,hpl.1.1.1.1.2⟩
 have ho:=eD hb.2;have hw:0≤(gF p x t now).bind.UW∧(gF p x t now).bind.UW≤65535:=by simpa[jS] using hb.1.1.2
 have hsz:(gF p x t now).bind.out.size=4:=by
  unfold cT at hpl;simp only[TP]at hpl;have hu:=gV.1 hpl.2;have hs:=hb.1.2;unfold nL at hs;obtain⟨u,hu1,hu2⟩:=List.any_eq_true.1 hs;obtain⟨i,hi,rfl⟩:=UN hu1;have h1:=hu i hi;unfold eV at h1;simp only[TP,TU]at h1 hu2;have:p.VA[i].size=(gF p x t now).bind.out.size:=by
   have:=congrArg List.length hu2;simpa[ByteArray.toList_eq] using this
  omega
 exact⟨hsz,⟨by omega,by omega⟩,pI hb.1.1.1.2,hw,fun hi=>congrArg En.addr (g4 hi)⟩
theorem rJ{f g:Fl}(hf:cF f=true)(hfs:f.src.size=4)(hgs:g.src.size=4)(hgd:g.dst.size=4)(hp:g.UU=f.UU)(h1:0≤g.sp∧g.sp≤65535)(h2:0≤g.dp∧g.dp≤65535):cF (kW f g)=true∧(kW f g).UU=f.UU∧(kW f g).src=g.src∧(kW f g).dst=g.dst:=by
 have hpo:cB f.UU 4=true:=by unfold cF at hf;simp only[TP]at hf;rw[hfs]at hf;exact hf.1.1.1.2
 unfold kW;by_cases he:aJ f.UU=true
 ·rw[if_pos he];have e1:f.UU=1:=by
   have:=iO hpo;unfold aJ at he;simp only[UK,TU]at he;omega
  rw[if_neg (by omega)];refine⟨?_,e1.symm,rfl,rfl⟩;unfold cF;dsimp only;rw[gD hgs hgd,gK h1.1 h1.2,hgs,show cB 1 4=true by decide];simp
 ·rw[if_neg he];refine⟨?_,hp,rfl,rfl⟩;unfold cF;rw[gD hgs hgd,hp,hgs,hpo,gK h1.1 h1.2,gK h2.1 h2.2];simp[he]
theorem tQ{s d:BA}{p:Int}{t:BA}{g:Fl}(h:aU s.size p t=0)(hs:s.size=4)(hd:d.size=4)(ht:t.size≤20000)(hg:cF g=true)(hp:g.UU=p)(hgs:g.src.size=4):cR (aR s d p t) g t=jN (aR s d p t) g t∧dL (aR s d p t) g t=0:=by
 obtain⟨h1,h2,h3,h4,h5,h6⟩:=gN (d:=d) h;have hin:iJ (aR s d p t) g t=true:=by
  unfold iJ;rw[qL h (gD hs hd),hg,h1,h2,h3,hp,h];simp
 have hc:dL (aR s d p t) g t=0:=by
  unfold dL;rw[if_neg (by omega),if_neg (by rw[hin];simp),if_neg];rintro⟨_,h16⟩;omega
 refine⟨?_,hc⟩;unfold cR jN;rw[hc,if_pos rfl];by_cases hb:eF (aR s d p t) t=true
 ·rw[if_pos hb,if_pos hb,if_neg (by omega)]
 ·rw[if_neg hb,if_neg hb]
theorem zN(p:P4)(w:World)(h1:p.src.size≤1048576)(h2:p.dst.size≤1048576)(h3:p.opts.size≤1048576)(h4:p.data.size≤1048576) :
  Cb 112 #[mD p] w (mD p):=by
 have H1:Hid (∀W,Cb 119 #[.string p.src] W (.string p.src)):=fun W=>jC _ W h1
 have H2:Hid (∀W,Cb 119 #[.string p.dst] W (.string p.dst)):=fun W=>jC _ W h2
 have H3:Hid (∀W,Cb 119 #[.string p.opts] W (.string p.opts)):=fun W=>jC _ W h3
 have H4:Hid (∀W,Cb 119 #[.string p.data] W (.string p.data)):=fun W=>jC _ W h4
 have S0:Hid (dX w [(w.heap.size+1,(fM 0 0 false false 0 0 0 ⟨#[]⟩ ⟨#[]⟩ ⟨#[]⟩ ⟨#[]⟩)),(w.heap.size,(dY p))] ((aW w (dY p) 33).alloc (.cells (fM 0 0 false false 0 0 0 ⟨#[]⟩ ⟨#[]⟩ ⟨#[]⟩ ⟨#[]⟩).toArray 33))):=by
  have h:=((⟨fun e he=>(by cases he),Below.refl _ _,fun e he=>(by cases he)⟩: dX w [] w).push (dY p) (by simp) 33).push (fM 0 0 false false 0 0 0 ⟨#[]⟩ ⟨#[]⟩ ⟨#[]⟩ ⟨#[]⟩) (by simp) 33;rw[TQ]at h;exact h
 clear h1 h2 h3 h4;unfold mD;go_enter Tryz.func112,Tryz.ntmps112
 go_upto_region 1 with fail
 generalize World.alloc _ _=W0 at *;go_cut [3] (fun v wx=>dX w [(w.heap.size+1,(fM 0 0 false false 0 0 0 ⟨#[]⟩ ⟨#[]⟩ ⟨#[]⟩ ⟨#[]⟩)),(w.heap.size,(dY p))] wx)
 case first=>
  rename_i J K2 hJ hK2;have HCP:Hid (∀wy,Below W0.drew.heap.size W0.drew wy→_):=fun wy hy=>S0.out.kept (bR.drew.trans hy)
  refine aN [3,4,5,6,7,8,9] (by kernel_rfl) (by kernel_rfl) ?_;iterate 5 (apply bC.u rfl;(·intro K' a wy ho hd hb hK;simp[aS,aF,aD,Region.binds]at ho hd;have HHq:aA wy w.heap.size (dY p):=(HCP.out wy hb).k _ eB;have kC:=HHq.c11;clear HHq;go_simp;first|((try go_bits);exact hK _ _ rfl bQ)|(refine(H1.out wy).mono ?_;rintro e wz ⟨rfl,hz⟩;exact hK _ _ rfl hz));dsimp only[nA,cA])
  iterate 2 (apply bC.u rfl;(·intro K' a wy ho hd hb hK;simp[aS,aF,aD,Region.binds]at ho hd;go_simp;first|((try go_bits);exact hK _ _ rfl bQ)|(refine(H2.out wy).mono ?_;rintro e wz ⟨rfl,hz⟩;exact hK _ _ rfl hz));dsimp only[nA,cA])
  intro X wz hR hz;simp only[UB,UC,eW,aF]at hR;simp only[aE,hR];clear hR;have hS:=HCP.out wz hz;have HHq:=hS.at eB;obtain⟨-,-,-,-,-,-,-,fi,fj⟩:=HHq.f9;obtain⟨-,-,-,-,-,-,-,ki,kj⟩:=HHq.c9;have HS:Hid (dX w [(w.heap.size+1,(fM 0 0 false false 0 0 0 ⟨#[]⟩ ⟨#[]⟩ ⟨#[]⟩ ⟨#[]⟩)),(w.heap.size,(dY p))] wz):=hS;clear hS HHq;intro K10 hK10;go_simp;refine hK10 _ _ ?_;intro K11 hK11;go_simp;refine hK11 _ _ ?_;intro K12 hK12;go_simp;refine hK12 _ _ ?_;show Exit.then _ _ _ _ _;refine hK2 _ _ (hJ _ _ ?_);(repeat apply Exists.intro)
  refine⟨⟨fun e he=>?_,(sCl HS.out.b lR).setCell (p:=⟨w.heap.size,8,none⟩) lR _,HS.out.z⟩,rfl⟩;simp only[TW,TV,or_false]at he;rcases he with rfl|rfl
  ·exact((HS.out.k _ cO).setOther (by show w.heap.size+1≠w.heap.size;omega) _).setOther (by show w.heap.size+1≠w.heap.size;omega) _
  ·exact((HS.out.k _ eB).set 7 (.string p.src)).set 8 (.string p.dst)
 case rest=>
 have S1:Hid (dX w [(w.heap.size+1,(fM 0 0 false false 0 0 0 ⟨#[]⟩ ⟨#[]⟩ ⟨#[]⟩ ⟨#[]⟩)),(w.heap.size,(dY p))] wc):=hcut;clear hcut S0;generalize wc=W1 at *;go_upto_region 2 with fail
 go_cut [11] (fun v wx=>dX w [(w.heap.size+1,(fM 0 0 false false 0 0 0 ⟨#[]⟩ ⟨#[]⟩ ⟨#[]⟩ ⟨#[]⟩)),(w.heap.size,(dY p))] wx)
 case first=>
  rename_i J K2 hJ hK2;have HCP:Hid (∀wy,Below W1.drew.heap.size W1.drew wy→_):=fun wy hy=>S1.out.kept (bR.drew.trans hy)
  refine aN [11,12,13,14,15,16,17] (by kernel_rfl) (by kernel_rfl) ?_;iterate 5 (apply bC.u rfl;(·intro K' a wy ho hd hb hK;simp[aS,aF,aD,Region.binds]at ho hd;have HHq:aA wy w.heap.size (dY p):=(HCP.out wy hb).k _ eB;have kC:=HHq.c11;clear HHq;go_simp;first|((try go_bits);exact hK _ _ rfl bQ)|(refine(H3.out wy).mono ?_;rintro e wz ⟨rfl,hz⟩;exact hK _ _ rfl hz));dsimp only[nA,cA])
  iterate 2 (apply bC.u rfl;(·intro K' a wy ho hd hb hK;simp[aS,aF,aD,Region.binds]at ho hd;go_simp;first|((try go_bits);exact hK _ _ rfl bQ)|(refine(H4.out wy).mono ?_;rintro e wz ⟨rfl,hz⟩;exact hK _ _ rfl hz));dsimp only[nA,cA])
  intro X wz hR hz;simp only[UB,UC,eW,aF]at hR;simp only[aE,hR];clear hR;have hS:=HCP.out wz hz;have HHq:=hS.at eB;obtain⟨-,-,-,-,-,-,-,-,-,fi,fj⟩:=HHq.f11;obtain⟨-,-,-,-,-,-,-,-,-,ki,kj⟩:=HHq.c11;have HS:Hid (dX w [(w.heap.size+1,(fM 0 0 false false 0 0 0 ⟨#[]⟩ ⟨#[]⟩ ⟨#[]⟩ ⟨#[]⟩)),(w.heap.size,(dY p))] wz):=hS;clear hS HHq;intro K10 hK10;go_simp;refine hK10 _ _ ?_;intro K11 hK11;go_simp;refine hK11 _ _ ?_;intro K12 hK12;go_simp;refine hK12 _ _ ?_;show Exit.then _ _ _ _ _;refine hK2 _ _ (hJ _ _ ?_);(repeat apply Exists.intro)
  refine⟨⟨fun e he=>?_,(sCl HS.out.b lR).setCell (p:=⟨w.heap.size,10,none⟩) lR _,HS.out.z⟩,rfl⟩;simp only[TW,TV,or_false]at he;rcases he with rfl|rfl
  ·exact((HS.out.k _ cO).setOther (by show w.heap.size+1≠w.heap.size;omega) _).setOther (by show w.heap.size+1≠w.heap.size;omega) _
  ·exact((HS.out.k _ eB).set 9 (.string p.opts)).set 10 (.string p.data)
 case rest=>
 have S2:Hid (dX w [(w.heap.size+1,(fM 0 0 false false 0 0 0 ⟨#[]⟩ ⟨#[]⟩ ⟨#[]⟩ ⟨#[]⟩)),(w.heap.size,(dY p))] wc):=hcut;clear hcut S1;generalize wc=W2 at *;have HHq:=S2.out.at eB;obtain⟨k0,k1,k2,k3,k4,k5,k6,k7,k8,k9,k10⟩:=HHq.c11;clear HHq;have HHq:=S2.out.at cO;obtain⟨z0,z1,z2,z3,z4,z5,z6,z7,z8,z9,z10⟩:=HHq.c11;obtain⟨zf0,zf1,zf2,zf3,zf4,zf5,zf6,zf7,zf8,zf9,zf10⟩:=HHq.f11;clear HHq;have HBE:Hid (Below w.heap.size w ((sW (sW (sW (sW (sW (sW (sW (sW (sW (sW W2 (w.heap.size+1) 0 (iV p.tos)) (w.heap.size+1) 1 (iV p.id)) (w.heap.size+1) 2 (.bool p.whole)) (w.heap.size+1) 3 (.bool p.more)) (w.heap.size+1) 4 (iV p.off)) (w.heap.size+1) 5 (iV p.ttl)) (w.heap.size+1) 6 (iV p.UU)) (w.heap.size+1) 7 (.string p.src)) (w.heap.size+1) 8 (.string p.dst)) (w.heap.size+1) 9 (.string p.opts)).setCell ⟨w.heap.size+1,10,none⟩ (.string p.data))):=(sCl (sCl (sCl (sCl (sCl (sCl (sCl (sCl (sCl (sCl (sCl S2.out.b (Nat.le_succ _)) (Nat.le_succ _)) (Nat.le_succ _)) (Nat.le_succ _)) (Nat.le_succ _)) (Nat.le_succ _)) (Nat.le_succ _)) (Nat.le_succ _)) (Nat.le_succ _)) (Nat.le_succ _)) (Nat.le_succ _));clear S2;go_wp2_with fail
 exact UQ (v:=.agg (dY p).toArray) (by simp[results,Tryz.results112,go_sem,z0,z1,z2,z3,z4,z5,z6,z7,z8,z9,z10]) rfl ⟨rfl,HBE.out⟩
theorem vI(q:P4)(f g:Fl)(d:BA)(c:Int)(w:World)(h1:q.src.size≤1048576)(h2:q.dst.size≤1048576)(h3:q.opts.size≤1048576)(h4:q.data.size≤1048576)
  (HS:Hid (∀W,Cb 113 #[gQ f,gQ g,.string q.data] W (eJ d c))) :
  Cb 61 #[mD q,gQ f,gQ g] w (mD { q with src:=g.src,dst:=g.dst,data:=d }):=by
 have HC:Hid (∀W,Cb 112 #[mD q] W (mD q)):=fun W=>zN q W h1 h2 h3 h4
 have S0:Hid (dX w [(w.heap.size+1+1+1,(fM 0 0 false false 0 0 0 ⟨#[]⟩ ⟨#[]⟩ ⟨#[]⟩ ⟨#[]⟩)),(w.heap.size+1+1,(gE g)),(w.heap.size+1,(gE f)),(w.heap.size,(dY q))] ((aW (aW (aW w (dY q) 33) (gE f) 43) (gE g) 43).alloc (.cells (fM 0 0 false false 0 0 0 ⟨#[]⟩ ⟨#[]⟩ ⟨#[]⟩ ⟨#[]⟩).toArray 33))):=by
  have h:=((((⟨fun e he=>(by cases he),Below.refl _ _,fun e he=>(by cases he)⟩: dX w [] w).push (dY q) (by simp) 33).push (gE f) (by simp) 43).push (gE g) (by simp) 43).push (fM 0 0 false false 0 0 0 ⟨#[]⟩ ⟨#[]⟩ ⟨#[]⟩ ⟨#[]⟩) (by simp) 33;simp only[TQ]at h;exact h
 clear h1 h2 h3 h4;unfold mD gQ eJ at *;go_enter Tryz.func61,Tryz.ntmps61
 go_upto_region 1 with fail
 generalize World.alloc _ _=W0 at *;have HHq:=S0.out.at iR;obtain⟨k0,k1,k2,k3,k4,k5,k6,k7,k8,k9,k10⟩:=HHq.c11;clear HHq;go_wp2_with fail
 refine(HC.out W0).mono ?_;rintro e w1 ⟨rfl,qx⟩;have S1:Hid (dX w [(w1.heap.size,(dY q)),(w.heap.size+1+1+1,(fM 0 0 false false 0 0 0 ⟨#[]⟩ ⟨#[]⟩ ⟨#[]⟩ ⟨#[]⟩)),(w.heap.size+1+1,(gE g)),(w.heap.size+1,(gE f)),(w.heap.size,(dY q))] (w1.alloc (.cells (dY q).toArray 33))):=(S0.out.kept qx).push (dY q) (by simp) 33;have hn:w.heap.size+1+1+1 < w1.heap.size:=((S0.out.kept qx).k _ cO).lt (by simp);clear S0 qx HC k0 k1 k2 k3 k4 k5 k6 k7 k8 k9 k10;go_upto_region 2 with fail
 generalize (w1.alloc (.cells (dY q).toArray 33))=W1 at *;generalize w1.heap.size=Nb at *;go_cut [10] (fun v wx=>dX w [(Nb,(fM q.tos q.id q.whole q.more q.off q.ttl q.UU g.src g.dst q.opts d)),(w.heap.size+1+1+1,(fM 0 0 false false 0 0 0 ⟨#[]⟩ ⟨#[]⟩ ⟨#[]⟩ ⟨#[]⟩)),(w.heap.size+1+1,(gE g)),(w.heap.size+1,(gE f)),(w.heap.size,(dY q))] wx)
 case first=>
  have e0:w.heap.size≠Nb:=by omega
  have e1:w.heap.size+1≠Nb:=by omega
  have e2:w.heap.size+1+1≠Nb:=by omega
  have e3:Nb≠w.heap.size:=by omega
  have e4:Nb≠w.heap.size+1:=by omega
  have e5:Nb≠w.heap.size+1+1:=by omega
  have kq:W1.cell? ⟨w.heap.size,10,none⟩=some (.string q.data):=(S1.out.k _ lX:aA W1 (w.heap.size) (dY q)).cell rfl;have kf0:W1.cell? ⟨w.heap.size+1,0,none⟩=some (iV f.UU):=(S1.out.k _ iR:aA W1 (w.heap.size+1) (gE f)).cell rfl;have kf1:W1.cell? ⟨w.heap.size+1,1,none⟩=some (.string f.src):=(S1.out.k _ iR:aA W1 (w.heap.size+1) (gE f)).cell rfl;have kf2:W1.cell? ⟨w.heap.size+1,2,none⟩=some (.string f.dst):=(S1.out.k _ iR:aA W1 (w.heap.size+1) (gE f)).cell rfl;have kf3:W1.cell? ⟨w.heap.size+1,3,none⟩=some (iV f.sp):=(S1.out.k _ iR:aA W1 (w.heap.size+1) (gE f)).cell rfl;have kf4:W1.cell? ⟨w.heap.size+1,4,none⟩=some (iV f.dp):=(S1.out.k _ iR:aA W1 (w.heap.size+1) (gE f)).cell rfl;have kg0:W1.cell? ⟨w.heap.size+1+1,0,none⟩=some (iV g.UU):=(S1.out.k _ eX:aA W1 (w.heap.size+1+1) (gE g)).cell rfl;have kg1:W1.cell? ⟨w.heap.size+1+1,1,none⟩=some (.string g.src):=(S1.out.k _ eX:aA W1 (w.heap.size+1+1) (gE g)).cell rfl;have kg2:W1.cell? ⟨w.heap.size+1+1,2,none⟩=some (.string g.dst):=(S1.out.k _ eX:aA W1 (w.heap.size+1+1) (gE g)).cell rfl;have kg3:W1.cell? ⟨w.heap.size+1+1,3,none⟩=some (iV g.sp):=(S1.out.k _ eX:aA W1 (w.heap.size+1+1) (gE g)).cell rfl;have kg4:W1.cell? ⟨w.heap.size+1+1,4,none⟩=some (iV g.dp):=(S1.out.k _ eX:aA W1 (w.heap.size+1+1) (gE g)).cell rfl;have kn7:W1.cell? ⟨Nb,7,none⟩=some (.string q.src):=(S1.out.k _ cO:aA W1 Nb (dY q)).cell rfl;have km7:W1.frozen? ⟨Nb,7,none⟩=false:=(S1.out.k _ cO:aA W1 Nb (dY q)).free (j:=7) (by simp);have kn8:W1.cell? ⟨Nb,8,none⟩=some (.string q.dst):=(S1.out.k _ cO:aA W1 Nb (dY q)).cell rfl;have km8:W1.frozen? ⟨Nb,8,none⟩=false:=(S1.out.k _ cO:aA W1 Nb (dY q)).free (j:=8) (by simp);have kn10:W1.cell? ⟨Nb,10,none⟩=some (.string q.data):=(S1.out.k _ cO:aA W1 Nb (dY q)).cell rfl
  have km10:W1.frozen? ⟨Nb,10,none⟩=false:=(S1.out.k _ cO:aA W1 Nb (dY q)).free (j:=10) (by simp);have hfd:∀W,(Instr.field 55 (.agg #[.string d,iV c]) 0).run Tryz.prog W=.ok (.string d) W:=fun W=>by kernel_rfl
  go_region_held (fun wy=>wy.cell? ⟨w.heap.size,10,none⟩=some (.string q.data)∧wy.cell? ⟨w.heap.size+1,0,none⟩=some (iV f.UU)∧wy.cell? ⟨w.heap.size+1,1,none⟩=some (.string f.src)∧wy.cell? ⟨w.heap.size+1,2,none⟩=some (.string f.dst)∧wy.cell? ⟨w.heap.size+1,3,none⟩=some (iV f.sp)∧wy.cell? ⟨w.heap.size+1,4,none⟩=some (iV f.dp)∧wy.cell? ⟨w.heap.size+1+1,0,none⟩=some (iV g.UU)∧wy.cell? ⟨w.heap.size+1+1,1,none⟩=some (.string g.src)∧wy.cell? ⟨w.heap.size+1+1,2,none⟩=some (.string g.dst)∧wy.cell? ⟨w.heap.size+1+1,3,none⟩=some (iV g.sp)∧wy.cell? ⟨w.heap.size+1+1,4,none⟩=some (iV g.dp)) (go_keep) (first | (go_at_call 113;refine(HS.out _).mono ?_;rintro e w5 ⟨rfl,qx⟩;have S5:Hid _:=S1.out.kept (bR.drew.trans qx);clear qx;have lq:w5.cell? ⟨w.heap.size,10,none⟩=some (.string q.data):=(S5.out.k _ lX:aA w5 (w.heap.size) (dY q)).cell rfl;have lf0:w5.cell? ⟨w.heap.size+1,0,none⟩=some (iV f.UU):=(S5.out.k _ iR:aA w5 (w.heap.size+1) (gE f)).cell rfl;have lf1:w5.cell? ⟨w.heap.size+1,1,none⟩=some (.string f.src):=(S5.out.k _ iR:aA w5 (w.heap.size+1) (gE f)).cell rfl;have lf2:w5.cell? ⟨w.heap.size+1,2,none⟩=some (.string f.dst):=(S5.out.k _ iR:aA w5 (w.heap.size+1) (gE f)).cell rfl;have lf3:w5.cell? ⟨w.heap.size+1,3,none⟩=some (iV f.sp):=(S5.out.k _ iR:aA w5 (w.heap.size+1) (gE f)).cell rfl;have lf4:w5.cell? ⟨w.heap.size+1,4,none⟩=some (iV f.dp):=(S5.out.k _ iR:aA w5 (w.heap.size+1) (gE f)).cell rfl;have lg0:w5.cell? ⟨w.heap.size+1+1,0,none⟩=some (iV g.UU):=(S5.out.k _ eX:aA w5 (w.heap.size+1+1) (gE g)).cell rfl;have lg1:w5.cell? ⟨w.heap.size+1+1,1,none⟩=some (.string g.src):=(S5.out.k _ eX:aA w5 (w.heap.size+1+1) (gE g)).cell rfl;have lg2:w5.cell? ⟨w.heap.size+1+1,2,none⟩=some (.string g.dst):=(S5.out.k _ eX:aA w5 (w.heap.size+1+1) (gE g)).cell rfl;have lg3:w5.cell? ⟨w.heap.size+1+1,3,none⟩=some (iV g.sp):=(S5.out.k _ eX:aA w5 (w.heap.size+1+1) (gE g)).cell rfl;have lg4:w5.cell? ⟨w.heap.size+1+1,4,none⟩=some (iV g.dp):=(S5.out.k _ eX:aA w5 (w.heap.size+1+1) (gE g)).cell rfl;have ln7:w5.cell? ⟨Nb,7,none⟩=some (.string q.src):=(S5.out.k _ cO:aA w5 Nb (dY q)).cell rfl;have lm7:w5.frozen? ⟨Nb,7,none⟩=false:=(S5.out.k _ cO:aA w5 Nb (dY q)).free (j:=7) (by simp);have ln8:w5.cell? ⟨Nb,8,none⟩=some (.string q.dst):=(S5.out.k _ cO:aA w5 Nb (dY q)).cell rfl;have lm8:w5.frozen? ⟨Nb,8,none⟩=false:=(S5.out.k _ cO:aA w5 Nb (dY q)).free (j:=8) (by simp);have ln10:w5.cell? ⟨Nb,10,none⟩=some (.string q.data):=(S5.out.k _ cO:aA w5 Nb (dY q)).cell rfl;have lm10:w5.frozen? ⟨Nb,10,none⟩=false:=(S5.out.k _ cO:aA w5 Nb (dY q)).free (j:=10) (by simp);clear kq kf0 kf1 kf2 kf3 kf4 kg0 kg1 kg2 kg3 kg4 kn7 km7 kn8 km8 kn10 km10))
  have SX:Hid (dX w [(Nb,(fM q.tos q.id q.whole q.more q.off q.ttl q.UU g.src g.dst q.opts d)),(w.heap.size+1+1+1,(fM 0 0 false false 0 0 0 ⟨#[]⟩ ⟨#[]⟩ ⟨#[]⟩ ⟨#[]⟩)),(w.heap.size+1+1,(gE g)),(w.heap.size+1,(gE f)),(w.heap.size,(dY q))] ((sW (sW w5 Nb 7 (.string g.src)) Nb 8 (.string g.dst)).setCell ⟨Nb,10,none⟩ (.string d))):=⟨fun e he=>by
   simp only[TW,TV,or_false]at he;rcases he with rfl|rfl|rfl|rfl|rfl
   ·exact((((S5.out.k _ cO).set 7 (.string g.src)).set 8 (.string g.dst)).set 10 (.string d))
   ·exact((((S5.out.k _ eB).setOther (by show w.heap.size+1+1+1≠Nb;omega) _).setOther (by show w.heap.size+1+1+1≠Nb;omega) _).setOther (by show w.heap.size+1+1+1≠Nb;omega) _)
   ·exact((((S5.out.k _ eX).setOther (by show w.heap.size+1+1≠Nb;omega) _).setOther (by show w.heap.size+1+1≠Nb;omega) _).setOther (by show w.heap.size+1+1≠Nb;omega) _)
   ·exact((((S5.out.k _ iR).setOther (by show w.heap.size+1≠Nb;omega) _).setOther (by show w.heap.size+1≠Nb;omega) _).setOther (by show w.heap.size+1≠Nb;omega) _)
   ·exact((((S5.out.k _ lX).setOther (by show w.heap.size≠Nb;omega) _).setOther (by show w.heap.size≠Nb;omega) _).setOther (by show w.heap.size≠Nb;omega) _),(sCl (sCl (sCl S5.out.b (show w.heap.size≤Nb by omega)) (show w.heap.size≤Nb by omega)) (show w.heap.size≤Nb by omega)),fun e he=>by
   simp only[TW,TV,or_false]at he;rcases he with rfl|rfl|rfl|rfl|rfl<;>simp⟩
  all_goals go_wp2_with fail
  all_goals go_meet
  all_goals exact SX.out
 case rest=>
 have S2:Hid (dX w [(Nb,(fM q.tos q.id q.whole q.more q.off q.ttl q.UU g.src g.dst q.opts d)),(w.heap.size+1+1+1,(fM 0 0 false false 0 0 0 ⟨#[]⟩ ⟨#[]⟩ ⟨#[]⟩ ⟨#[]⟩)),(w.heap.size+1+1,(gE g)),(w.heap.size+1,(gE f)),(w.heap.size,(dY q))] wc):=hcut;clear hcut S1 HS;generalize wc=W2 at *;have HHq:=S2.out.at cO;obtain⟨k0,k1,k2,k3,k4,k5,k6,k7,k8,k9,k10⟩:=HHq.c11;clear HHq;have HHq:=S2.out.at eB;obtain⟨z0,z1,z2,z3,z4,z5,z6,z7,z8,z9,z10⟩:=HHq.c11;obtain⟨zf0,zf1,zf2,zf3,zf4,zf5,zf6,zf7,zf8,zf9,zf10⟩:=HHq.f11;clear HHq;have HBE:Hid (Below w.heap.size w ((sW (sW (sW (sW (sW (sW (sW (sW (sW (sW W2 (w.heap.size+1+1+1) 0 (iV q.tos)) (w.heap.size+1+1+1) 1 (iV q.id)) (w.heap.size+1+1+1) 2 (.bool q.whole)) (w.heap.size+1+1+1) 3 (.bool q.more)) (w.heap.size+1+1+1) 4 (iV q.off)) (w.heap.size+1+1+1) 5 (iV q.ttl)) (w.heap.size+1+1+1) 6 (iV q.UU)) (w.heap.size+1+1+1) 7 (.string g.src)) (w.heap.size+1+1+1) 8 (.string g.dst)) (w.heap.size+1+1+1) 9 (.string q.opts)).setCell ⟨w.heap.size+1+1+1,10,none⟩ (.string d))):=(sCl (sCl (sCl (sCl (sCl (sCl (sCl (sCl (sCl (sCl (sCl S2.out.b (show w.heap.size≤w.heap.size+1+1+1 by omega)) (show w.heap.size≤w.heap.size+1+1+1 by omega)) (show w.heap.size≤w.heap.size+1+1+1 by omega)) (show w.heap.size≤w.heap.size+1+1+1 by omega)) (show w.heap.size≤w.heap.size+1+1+1 by omega)) (show w.heap.size≤w.heap.size+1+1+1 by omega)) (show w.heap.size≤w.heap.size+1+1+1 by omega)) (show w.heap.size≤w.heap.size+1+1+1 by omega)) (show w.heap.size≤w.heap.size+1+1+1 by omega)) (show w.heap.size≤w.heap.size+1+1+1 by omega)) (show w.heap.size≤w.heap.size+1+1+1 by omega));clear S2;go_wp2_with fail
 exact UQ (v:=.agg (fM q.tos q.id q.whole q.more q.off q.ttl q.UU g.src g.dst q.opts d).toArray) (by simp[results,Tryz.results61,go_sem,z0,z1,z2,z3,z4,z5,z6,z7,z8,z9,z10]) rfl ⟨rfl,HBE.out⟩
end Go.Proofs.YtdkepkaflielhaaGreatDoor
