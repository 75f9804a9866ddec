import Derived.Test.YtdkepkaflielhaaGreatDoorMerged21
set_option linter.unusedVariables false
set_option linter.unusedSimpArgs false
set_option maxRecDepth 100000
set_option maxHeartbeats 8000000
namespace Go.Proofs.YtdkepkaflielhaaGreatDoor
open Go.RowKit Go.PlainAid Go.Lib
theorem MC(q p:Fl)(a b:Int)(W:World):(Op.equalIn 10000 45 (.agg #[iV q.VF,.string q.src,.string q.dst,iV q.sp,iV q.dp,iV a]) (.agg #[iV p.VF,.string p.src,.string p.dst,iV p.sp,iV p.dp,iV b])).run Tryz.prog W=.ok (iW q p&&(a==b)) W:=by
 have h1:Tryz.prog.underlying 45=some (.struct (Tryz.prog.fieldsOf 45)):=by kernel_rfl
 have h2:Tryz.prog.stoodInHeld 45=false:=by kernel_rfl
 rw[run_equalIn_agg _ _ _ _ _ h1 h2];have h3:(Tryz.prog.fieldsOf 45).toList.length=2:=by kernel_rfl
 have h4 : ((Tryz.prog.fieldsOf 45).toList.map fun f => (f.type, f.offset, f.name == "_")) = [(43, 0, false), (2, 5, false)] := by kernel_rfl
 have hq:=FU 9997 q p;generalize (Tryz.prog.fieldsOf 45).toList=fs at *;match fs,h3 with
 | [f,g],_=>
  simp at h4;obtain⟨⟨a1,a2,a3⟩,b1,b2,b3⟩:=h4;have p0:∀W,(part 43 #[iV q.VF,.string q.src,.string q.dst,iV q.sp,iV q.dp,iV a] 0).run Tryz.prog W=.ok (.agg (gH q).toArray) W:=fun W=>by kernel_rfl
  have p1:∀W,(part 43 #[iV p.VF,.string p.src,.string p.dst,iV p.sp,iV p.dp,iV b] 0).run Tryz.prog W=.ok (.agg (gH p).toArray) W:=fun W=>by kernel_rfl
  have p2:∀W,(part 2 #[iV q.VF,.string q.src,.string q.dst,iV q.sp,iV q.dp,iV a] 5).run Tryz.prog W=.ok (iV a) W:=fun W=>by kernel_rfl
  have p3:∀W,(part 2 #[iV p.VF,.string p.src,.string p.dst,iV p.sp,iV p.dp,iV b] 5).run Tryz.prog W=.ok (iV b) W:=fun W=>by kernel_rfl
  generalize iW q p=sf at *;by_cases hab:a=b
  ·subst hab
   cases sf<;>simp[Op.eqFields,a1,a2,a3,b1,b2,b3,p0,p1,p2,p3,hq,run_equalIn_int _ _ _ _ _ _ _ Tryz.underlying2]
  ·have hab2:(a==b)=false:=by simp[hab]
   cases sf<;>simp[Op.eqFields,a1,a2,a3,b1,b2,b3,p0,p1,p2,p3,hq,hab,hab2,run_equalIn_int _ _ _ _ _ _ _ Tryz.underlying2]
theorem MT(q p:Fl)(a b:Int)(W:World):(binOp .neq 45 (.agg #[iV q.VF,.string q.src,.string q.dst,iV q.sp,iV q.dp,iV a]) (.agg #[iV p.VF,.string p.src,.string p.dst,iV p.sp,iV p.dp,iV b])).run Tryz.prog W=.ok (.bool (!(iW q p&&(a==b)))) W:=by
 rw[run_neq_struct,MC];rfl
theorem nX(f g:Fl)(t:BA)(w:World)(f1:f.src.size≤1048576)(f2:f.dst.size≤1048576)(g1:g.src.size≤1048576)(g2:g.dst.size≤1048576)(ht:t.size≤1048576)(hk:¬(f.src.size=16∧g.src.size=16)) :
  Cb 113 #[gF f,gF g,.string t] w (iS (fJ f g t) (gO f g t)):=by
 have HLG:Hid (∀W,Cw 81 #[.string t] W (.bool (decide (20000 < t.size)))):=fun W=>jM t W
 have HFO:Hid (∀W,Cb 58 #[.string f.src,.string f.dst,iV f.VF,.string t] W (nV (bM f.src f.dst f.VF t) (aZ f.src f.dst f.VF t))):=fun W=>mV _ _ _ _ W f1 f2 ht
 have HFR:Hid (∀W,Cb 149 #[gF g] W (.bool (dR g))):=fun W=>sG g W g1 g2
 have HLK:Hid (∀W,Cb 150 #[iV f.VF,iV g.VF] W (.bool (decide (f.VF=g.VF)||(aL f.VF&&aL g.VF)))):=fun W=>(GJ _ _ W).mono fun e w' h=>⟨h.1,by rw[h.2];exact Below.refl _ _⟩
 have HSI:Hid (t.size≤20000→kZ f g t=((iW (bM f.src f.dst f.VF t) f&&(aZ f.src f.dst f.VF t==0))&&(dR g&&(decide (f.VF=g.VF)||(aL f.VF&&aL g.VF))))):=fun h=>by rw[IC h,Bool.and_comm (iW _ _)];rfl
 have HNE:Hid (∀W,(binOp .neq 45 (nV (bM f.src f.dst f.VF t) (aZ f.src f.dst f.VF t)) (nV f 0)).run Tryz.prog W=.ok (.bool (!(iW (bM f.src f.dst f.VF t) f&&(aZ f.src f.dst f.VF t==0)))) W):=fun W=>MT _ _ _ _ W
 have HC2:Hid (20000 < t.size→iS (fJ f g t) (gO f g t)=iS ⟨#[]⟩ 2):=fun h=>by
  have hc:gO f g t=2:=by unfold gO;rw[if_pos h]
  unfold fJ;rw[hc,if_neg (by decide)]
 have HC1:Hid (t.size≤20000→kZ f g t=false→iS (fJ f g t) (gO f g t)=iS ⟨#[]⟩ 1):=fun h h2=>by
  have hc:gO f g t=1:=by unfold gO;rw[if_neg (by omega),if_pos h2]
  unfold fJ;rw[hc,if_neg (by decide)]
 have hq:kZ f g t=true→(f.src.size=4∨f.src.size=16)∧f.dst.size≤16∧(0≤f.VF∧f.VF≤255)∧(g.src.size=4∨g.src.size=16)∧g.dst.size≤16∧(0≤g.VF∧g.VF≤255)∧8≤t.size∧(f.VF=6→20≤t.size)∧((0≤g.sp∧g.sp≤65535)∧(0≤g.dp∧g.dp≤65535))∧(aL g.VF=true→aL f.VF=true):=fun h=>by
  obtain⟨h1,h2,h3,h4⟩:=uL h;obtain⟨a1,a2,a3⟩:=mF h1;obtain⟨b1,b2,b3⟩:=mF h2;have p1:eM f.src f.dst=true:=by unfold dR at h1;simp only[UB]at h1;exact h1.1.1.1.1
  have p2:eM g.src g.dst=true:=by unfold dR at h2;simp only[UB]at h2;exact h2.1.1.1.1
  have o:=gY h4;refine⟨(kT p1).1,a1.2,a2,(kT p2).1,b1.2,b2,o.1,o.2,b3,fun hg=>?_⟩;rcases h3 with h3|h3
  ·rw[h3];exact hg
  ·exact h3.1
 have HC5:Hid (t.size≤20000→kZ f g t=true→pV f t=true→g.src.size=16→iS (fJ f g t) (gO f g t)=iS ⟨#[]⟩ 5):=fun h h2 h3 h4=>by
  have hb:fQ f t=true:=by
   rw[rL,h3];rcases (hq h2).1 with h5|h5
   ·simp[h5]
   ·exact absurd ⟨h5,h4⟩ hk
  have hc:gO f g t=5:=by unfold gO;rw[if_neg (by omega),if_neg (by rw[h2];simp),if_pos ⟨hb,h4⟩]
  unfold fJ;rw[hc,if_neg (by decide)]
 have HC0:Hid (t.size≤20000→kZ f g t=true→¬(pV f t=true∧g.src.size=16)→iS (fJ f g t) (gO f g t)=if (!pV f t||decide (f.src.size=16))=true then iS (eG (bX f g t) (bI f.VF) (aR (dB f g t))) 0 else iS (bX f g t) 0):=fun h h2 h3=>by
  have hc:gO f g t=0:=by
   unfold gO;rw[if_neg (by omega),if_neg (by rw[h2];simp),if_neg];rintro⟨h5,h6⟩;rw[rL,UB]at h5;exact h3 ⟨h5.1,h6⟩
  unfold fJ;rw[hc,if_pos rfl,rL];have hs:=(hq h2).1;by_cases hl:pV f t=true
  ·rcases hs with hs | hs
   ·simp[hl,hs]
   ·simp[hl,hs]
  ·simp[hl]
 have HLA:Hid (kZ f g t=true→∀W,Cw 151 #[iV f.VF,.string t] W (.bool (pV f t))):=fun h W=>DH _ t W (hq h).2.2.2.2.2.2.1 ht
 have HLY:Hid (t.size≤20000→kZ f g t=true→∀W,Calls Tryz.prog 152 #[iV f.VF,gF g,.string t] W fun e w'=>LP W.heap.size t.size (bX f g t) e w'∧Below W.heap.size W w'):=fun h h2 W=>by
  obtain⟨q1,q2,q3,q4,q5,q6,q7,q8,q9,q10⟩:=hq h2;rw[←OZ h2];exact KE f.VF g t W q7 h q9 q10
 have HCK:Hid (t.size≤20000→kZ f g t=true→∀W,Cb 155 #[gF f,gF g,.string t,.string (bX f g t)] W (iV (dB f g t))):=fun h h2 W=>by
  obtain⟨q1,q2,q3,q4,q5,q6,q7,q8,q9,q10⟩:=hq h2;have hs:=kH (f:=f) (g:=g) q7;rw[←JV f g t q7 (by omega)];exact DG f g t (bX f g t) W q7 (by omega) q8 (by omega) (by omega) q1 q2 q3 q4 q5 q6
 have HPL:Hid (∀W,Cb 153 #[iV f.VF] W (iV (bI f.VF:Nat))):=fun W=>(uF _ W).mono fun e w' h=>⟨h.1,by rw[h.2];exact Below.refl _ _⟩
 have HSZ:Hid (kZ f g t=true→(bX f g t).size=t.size∧8≤t.size∧bI f.VF+2≤t.size):=fun h=>by
  obtain⟨q1,q2,q3,q4,q5,q6,q7,q8,q9,q10⟩:=hq h;refine⟨kH q7,q7,?_⟩;unfold bI;split
  ·rename_i h6;have:=q8 h6;omega
  ·split<;>omega
 have rnc:=pY f g t;have z2:=aP (dB f g t);have HL1:Hid ((kK [dB f g t]).map (Value.int .u8)=strCells (aR (dB f g t))):=by unfold Hid;rw[mK _ rnc.1 rnc.2];rfl
 have hinfo:(Tryz.prog.info? 5).map (·.size)=some 1:=by
  obtain⟨i0,hi,hz0,hz1,hz2⟩:=info_parts Tryz.info5;rw[hi];simp[hz1]
 generalize iS (fJ f g t) (gO f g t)=ans at *;generalize (iW (bM f.src f.dst f.VF t) f&&(aZ f.src f.dst f.VF t==0))=sf at *;generalize (decide (f.VF=g.VF)||(aL f.VF&&aL g.VF))=lk at *;generalize dR g=fg at *;generalize kZ f g t=si at *;generalize pV f t=lc at *;generalize bI f.VF=pl at *;generalize dB f g t=nc at *;generalize bX f g t=uu at *;generalize bM f.src f.dst f.VF t=ff at *;generalize aZ f.src f.dst f.VF t=fc at *;clear hq;obtain⟨VF,src,dst,sp,dp⟩:=f;obtain⟨proto',src',dst',sp',dp'⟩:=g;unfold nV at HFO HNE;unfold gF at *;dsimp only at *;have HS0:=RL w (cR VF src dst sp dp) 43 (cR proto' src' dst' sp' dp') 43 [eS,iV 0] 55 (by simp) (by simp) (by simp)
 skip;have hRw:w.heap.size≤w.heap.size+1+1:=by omega
 go_enter Tryz.func113,Tryz.ntmps113
 go_upto_region 1 with fail
 generalize World.alloc _ _=W0 at *;go_wp2_with fail
 refine(HLG.out _).mono ?_;rintro e W0 ⟨rfl,rfl⟩;by_cases jD:20000 < t.size
 case pos=>
  have dl:decide (20000 < t.size)=true:=UE jD;rw[dl];have HX:Hid (ans=iS ⟨#[]⟩ 2):=HC2.out jD;have HHz:=HS0.out.at eL;obtain⟨z0,z1⟩:=HHz.c2;obtain⟨zf0,zf1⟩:=HHz.f2;obtain⟨HRR,RB⟩:=RU HHz HS0.out.b hRw eS (iV 2);clear HHz;clear HC2 HC1 HC5 HC0;go_wp2_with fail
  exact VB (aF Tryz.results113 _ _ (w.heap.size+1+1) [eS,iV 2] _ rfl HRR.out Tryz.underlying55 rfl (show (Tryz.prog.info? 55).map (·.size)=some 2 by kernel_rfl)) rfl (And.intro (by rw[HX.out];rfl) RB.out)
 have dl:decide (20000 < t.size)=false:=UD jD;rw[dl];have hle:t.size≤20000:=by omega
 replace HSI:Hid _:=HSI.out hle;replace HC1:Hid _:=HC1.out hle;replace HC5:Hid _:=HC5.out hle;replace HC0:Hid _:=HC0.out hle;replace HLY:Hid _:=HLY.out hle;replace HCK:Hid _:=HCK.out hle;clear HC2 HLG dl jD;go_upto_region 3 with fail
 go_cut [35] (fun v wx=>v=.bool (!si)∧dD w [(w.heap.size,(cR VF src dst sp dp)),(w.heap.size+1,(cR proto' src' dst' sp' dp')),(w.heap.size+1+1,[eS,iV 0])] wx)
 case first=>
  rename_i J K2 hJ hK2;have HCP:Hid (∀wy,Below W0.drew.heap.size W0.drew wy→_):=fun wy hy=>HS0.out.kept (bR.drew.trans hy)
  clear HC1 HC5 HC0 HLA HLY HCK HPL HSZ HL1
  cases sf with
  | false=>
   refine bJ [12,13,14,15,16,17,18,19,20,21,22,23,24,25,26,27,28,29,30,31,32,33,34,35] (by kernel_rfl) (by kernel_rfl) ?_;iterate 10 (apply fI.u rfl;(·intro K' a wy ho hd hb hK;simp[aU,aG,aD,Region.binds]at ho hd;have hst:=HCP.out wy hb;have kC:=(hst.at cM).c5;have kC:=(hst.at dZ).c5;clear hst;go_simp;first|((try go_bits);exact hK _ _ rfl bQ)|(refine(HFO.out wy).mono ?_;rintro e wz ⟨rfl,hz⟩;exact hK _ _ rfl hz));dsimp only[nA,cA])
   apply fI.v10
   ·rfl
   ·intro K' a wy ho hd hb hK kz;have q7:=hd ⟨7,.data⟩ (by simp) rfl;have q9:=hd ⟨9,.data⟩ (by simp) rfl;simp[aU,aG,aD]at q7 q9;clear hd ho;refine iU .neq 45 45 (.tmp 19) (.tmp 21) rfl (by simp[Act.eval,aD,q7]) (by simp[Act.eval,aD,q9]) (run_eqGuard_agg _ _ _ _ _ _ _ (by kernel_rfl)) (HNE.out wy) ?_;exact kz _ rfl
   iterate 13 ((first|(refine fI.n rfl rfl rfl rfl rfl (by simp) ?_)|(apply fI.u rfl;(·intro K' a wy ho hd hb hK;simp[aU,aG,aD,Region.binds]at ho hd;go_simp;(try go_bits);exact hK _ _ rfl bQ)));dsimp only[nA,cA])
   intro X wz hR hz;simp only[UM,UN,eY,aG]at hR;simp only[aE,hR];clear hR;have HF:Hid (dD w [(w.heap.size,(cR VF src dst sp dp)),(w.heap.size+1,(cR proto' src' dst' sp' dp')),(w.heap.size+1+1,[eS,iV 0])] wz):=HCP.out wz hz;clear HCP;go_simp;refine hK2 _ _ (hJ _ _ ?_);(repeat apply Exists.intro)
   exact⟨⟨by rw[HSI.out];rfl,HF.out⟩,rfl⟩
  | true=>
   cases fg with
   | false=>
    refine bJ [12,13,14,15,16,17,18,19,20,21,22,23,24,25,26,27,28,29,30,31,32,33,34,35] (by kernel_rfl) (by kernel_rfl) ?_;iterate 10 (apply fI.u rfl;(·intro K' a wy ho hd hb hK;simp[aU,aG,aD,Region.binds]at ho hd;have hst:=HCP.out wy hb;have kC:=(hst.at cM).c5;have kC:=(hst.at dZ).c5;clear hst;go_simp;first|((try go_bits);exact hK _ _ rfl bQ)|(refine(HFO.out wy).mono ?_;rintro e wz ⟨rfl,hz⟩;exact hK _ _ rfl hz));dsimp only[nA,cA])
    apply fI.v10
    ·rfl
    ·intro K' a wy ho hd hb hK kz;have q7:=hd ⟨7,.data⟩ (by simp) rfl;have q9:=hd ⟨9,.data⟩ (by simp) rfl;simp[aU,aG,aD]at q7 q9;clear hd ho;refine iU .neq 45 45 (.tmp 19) (.tmp 21) rfl (by simp[Act.eval,aD,q7]) (by simp[Act.eval,aD,q9]) (run_eqGuard_agg _ _ _ _ _ _ _ (by kernel_rfl)) (HNE.out wy) ?_;exact kz _ rfl
    iterate 13 ((first|(refine fI.n rfl rfl rfl rfl rfl (by simp) ?_)|((first|apply fI.u rfl|apply fI.g rfl rfl rfl rfl rfl (by simp));(·intro K' a wy ho hd hb hK;simp[aU,aG,aD,Region.binds]at ho hd;have hst:=HCP.out wy hb;have kC:=(hst.at cM).c5;have kC:=(hst.at dZ).c5;clear hst;go_simp;first|((try go_bits);exact hK _ _ rfl bQ)|(refine(HFR.out wy).mono ?_;rintro e wz ⟨rfl,hz⟩;exact hK _ _ rfl hz))));dsimp only[nA,cA])
    intro X wz hR hz;simp only[UM,UN,eY,aG]at hR;simp only[aE,hR];clear hR;have HF:Hid (dD w [(w.heap.size,(cR VF src dst sp dp)),(w.heap.size+1,(cR proto' src' dst' sp' dp')),(w.heap.size+1+1,[eS,iV 0])] wz):=HCP.out wz hz;clear HCP;go_simp;refine hK2 _ _ (hJ _ _ ?_);(repeat apply Exists.intro)
    exact⟨⟨by rw[HSI.out];rfl,HF.out⟩,rfl⟩
   | true=>
    refine bJ [12,13,14,15,16,17,18,19,20,21,22,23,24,25,26,27,28,29,30,31,32,33,34,35] (by kernel_rfl) (by kernel_rfl) ?_;iterate 10 (apply fI.u rfl;(·intro K' a wy ho hd hb hK;simp[aU,aG,aD,Region.binds]at ho hd;have hst:=HCP.out wy hb;have kC:=(hst.at cM).c5;have kC:=(hst.at dZ).c5;clear hst;go_simp;first|((try go_bits);exact hK _ _ rfl bQ)|(refine(HFO.out wy).mono ?_;rintro e wz ⟨rfl,hz⟩;exact hK _ _ rfl hz));dsimp only[nA,cA])
    apply fI.v10
    ·rfl
    ·intro K' a wy ho hd hb hK kz;have q7:=hd ⟨7,.data⟩ (by simp) rfl;have q9:=hd ⟨9,.data⟩ (by simp) rfl;simp[aU,aG,aD]at q7 q9;clear hd ho;refine iU .neq 45 45 (.tmp 19) (.tmp 21) rfl (by simp[Act.eval,aD,q7]) (by simp[Act.eval,aD,q9]) (run_eqGuard_agg _ _ _ _ _ _ _ (by kernel_rfl)) (HNE.out wy) ?_;exact kz _ rfl
    iterate 10 ((first|apply fI.u rfl|apply fI.g rfl rfl rfl rfl rfl (by simp));(·intro K' a wy ho hd hb hK;simp[aU,aG,aD,Region.binds]at ho hd;have hst:=HCP.out wy hb;have kC:=(hst.at cM).c5;have kC:=(hst.at dZ).c5;clear hst;go_simp;first|((try go_bits);exact hK _ _ rfl bQ)|(refine(HFR.out wy).mono ?_;rintro e wz ⟨rfl,hz⟩;exact hK _ _ rfl hz));dsimp only[nA,cA])
    iterate 3 ((first|apply fI.u rfl|apply fI.g rfl rfl rfl rfl rfl (by simp));(·intro K' a wy ho hd hb hK;simp[aU,aG,aD,Region.binds]at ho hd;go_simp;first|((try go_bits);exact hK _ _ rfl bQ)|(refine(HLK.out wy).mono ?_;rintro e wz ⟨rfl,hz⟩;exact hK _ _ rfl hz));dsimp only[nA,cA])
    intro X wz hR hz;simp only[UM,UN,eY,aG]at hR;simp only[aE,hR];clear hR;have HF:Hid (dD w [(w.heap.size,(cR VF src dst sp dp)),(w.heap.size+1,(cR proto' src' dst' sp' dp')),(w.heap.size+1+1,[eS,iV 0])] wz):=HCP.out wz hz;clear HCP;go_simp;refine hK2 _ _ (hJ _ _ ?_);(repeat apply Exists.intro)
    exact⟨⟨by rw[HSI.out];rfl,HF.out⟩,rfl⟩
 case rest=>
 obtain⟨rfl,hS⟩:=hcut;have S1:Hid (dD w [(w.heap.size,(cR VF src dst sp dp)),(w.heap.size+1,(cR proto' src' dst' sp' dp')),(w.heap.size+1+1,[eS,iV 0])] wc):=hS;clear hS HS0 HSI HNE HFO HFR HLK;generalize wc=W1 at *
 cases si with
 | false=>
  have HX:Hid (ans=iS ⟨#[]⟩ 1):=HC1.out rfl;have HHz:=S1.out.at eL;obtain⟨z0,z1⟩:=HHz.c2;obtain⟨zf0,zf1⟩:=HHz.f2;obtain⟨HRR,RB⟩:=RU HHz S1.out.b hRw eS (iV 1);clear HHz;clear HC1 HC5 HC0;go_wp2_with fail
  exact VB (aF Tryz.results113 _ _ (w.heap.size+1+1) [eS,iV 1] _ rfl HRR.out Tryz.underlying55 rfl (show (Tryz.prog.info? 55).map (·.size)=some 2 by kernel_rfl)) rfl (And.intro (by rw[HX.out];rfl) RB.out)
 | true=>
 replace HC5:Hid _:=HC5.out rfl;replace HC0:Hid _:=HC0.out rfl;replace HLA:Hid _:=HLA.out rfl;replace HLY:Hid _:=HLY.out rfl;replace HCK:Hid _:=HCK.out rfl;obtain⟨hs1,hs2,hs3⟩:=HSZ.out rfl;clear HC1 HSZ;have HHk:=S1.out.at cM;obtain⟨k0,k1,k2,k3,k4⟩:=HHk.c5;clear HHk;have HHl:=S1.out.at dZ;obtain⟨l0,l1,l2,l3,l4⟩:=HHl.c5;clear HHl;go_wp2_with fail
 refine(HLA.out _).mono ?_;rintro e W1 ⟨rfl,rfl⟩;by_cases h5:lc=true∧src'.size=16
 case pos=>
  obtain⟨rfl,h16⟩:=h5;have d16:((src'.size:Int)==16)=true:=by rw[h16];rfl
  have hun:undef=Value.tuple #[]:=rfl;have HX:Hid (ans=iS ⟨#[]⟩ 5):=HC5.out rfl h16;have HHz:=S1.out.at eL;obtain⟨z0,z1⟩:=HHz.c2;obtain⟨zf0,zf1⟩:=HHz.f2;obtain⟨HRR,RB⟩:=RU HHz S1.out.b hRw eS (iV 5);clear HHz;clear HC5 HC0;go_wp2_with fail
  exact VB (aF Tryz.results113 _ _ (w.heap.size+1+1) [eS,iV 5] _ rfl HRR.out Tryz.underlying55 rfl (show (Tryz.prog.info? 55).map (·.size)=some 2 by kernel_rfl)) rfl (And.intro (by rw[HX.out];rfl) RB.out)
 replace HC0:Hid _:=HC0.out h5;clear HC5;go_upto_region 6 with fail
 go_cut [47] (fun v wx=>v=.bool false∧wx=W1)
 case first=>
  have hun:undef=Value.tuple #[]:=rfl
  cases lc with
  | false=>
   go_wp2_with fail
   go_meet;exact⟨rfl,rfl⟩
  | true=>
   have d16:((src'.size:Int)==16)=false:=by
    have:¬src'.size=16:=fun h=>h5 ⟨rfl,h⟩
    simp;omega
   go_wp2_with fail
   go_meet;exact⟨rfl,rfl⟩
 case rest=>
 obtain⟨rfl,rfl⟩:=hcut;generalize wc=W1 at *;go_upto_region 8 with fail
 go_wp2_with fail
 refine(HLY.out _).mono ?_;rintro e W2 ⟨⟨b,cap,rfl,hcap,hbW,hT2⟩,q2⟩;have S2:Hid _:=S1.out.kept q2;have T2:Hid (aA W2 b (strCells uu)):=hT2;have hfb:w.heap.size+1+1 < W1.heap.size:=(S1.out.k _ eL).lt (by simp);clear hT2 q2 S1 k0 k1 k2 k3 k4 l0 l1 l2 l3 l4 HLY HLA;have hbg:w.heap.size+1+1 < b:=by omega
 have hbw:w.heap.size≤b:=by omega
 have hrb:w.heap.size+1+1≠b:=by omega
 clear hbW hfb;have HHk:=S2.out.at cM;obtain⟨k0,k1,k2,k3,k4⟩:=HHk.c5;clear HHk;have HHl:=S2.out.at dZ;obtain⟨l0,l1,l2,l3,l4⟩:=HHl.c5;clear HHl;obtain⟨cb,hcb⟩: ∃cb,cb=(!lc||decide (src.size=16)):=⟨_,rfl⟩;rw[←hcb]at HC0;have HCB:Hid _:=hcb;clear hcb;go_upto_region 9 with fail
 go_cut [61] (fun v wx=>v=.bool cb∧wx=W2)
 case first=>
  have hun:undef=Value.tuple #[]:=rfl
  cases lc with
  | false=>
   go_wp2_with fail
   go_meet;exact⟨by rw[HCB.out];rfl,rfl⟩
  | true=>
   by_cases h16:src.size=16
   case pos=>
    have d16:((src.size:Int)==16)=true:=by rw[h16];rfl
    go_wp2_with fail
    go_meet;exact⟨by rw[HCB.out,UE h16];rfl,rfl⟩
   have d16:((src.size:Int)==16)=false:=by simp;omega
   go_wp2_with fail
   go_meet;exact⟨by rw[HCB.out,UD h16];rfl,rfl⟩
 case rest=>
 obtain⟨rfl,rfl⟩:=hcut;generalize wc=W2 at *;clear HCB k0 k1 k2 k3 k4 l0 l1 l2 l3 l4
 cases cb with
 | false=>
  have hcv:(convert 22 9 (.slice (some ⟨b,0,none⟩) t.size cap)).run Tryz.prog W2=.ok (.string uu) W2:=by rw[←hs1];exact wD T2.out
  have HX:Hid (ans=iS uu 0):=HC0.out;have HHz:=S2.out.at eL;obtain⟨z0,z1⟩:=HHz.c2;obtain⟨zf0,zf1⟩:=HHz.f2;obtain⟨HRR,RB⟩:=RU HHz S2.out.b hRw (.string uu) (iV 0);clear HHz;clear HC0 T2;go_wp2_with fail
  exact VB (aF Tryz.results113 _ _ _ _ _ rfl HRR.out Tryz.underlying55 rfl (show (Tryz.prog.info? 55).map (·.size)=some 2 by kernel_rfl)) rfl (And.intro (by rw[HX.out];rfl) RB.out)
 | true=>
 go_upto_region 10 with fail
 have hpc:¬cap=pl:=by omega
 have hpi:¬(t.size:Int) < (pl:Int):=by omega
 have hpj:¬(cap:Int) < (pl:Int):=by omega
 have hpk:(pl:Int)≤t.size:=by omega
 go_cut [75] (fun v wx=>aA wx b (strCells (eG uu pl (aR nc)))∧dD w [(w.heap.size,(cR VF src dst sp dp)),(w.heap.size+1,(cR proto' src' dst' sp' dp')),(w.heap.size+1+1,[eS,iV 0])] wx)
 case first=>
  rename_i J K2 hJ hK2;have HCP:Hid (∀wy,Below W2.drew.heap.size W2.drew wy→_):=fun wy hy=>S2.out.kept (bR.drew.trans hy)
  have HGP:Hid (∀wy,Below W2.drew.heap.size W2.drew wy→aA wy b (strCells uu)):=fun wy hy=>T2.out.kept (by rw[strCells_length];omega) (bR.drew.trans hy)
  have hlw2:w.heap.size≤W2.drew.heap.size:=S2.out.b.size;clear T2 S2 HC0;refine aN [62,63,64,65,66,67,68,69,70,71,72,73,74] (by kernel_rfl) (by kernel_rfl) ?_;iterate 9 (apply bC.u rfl;(·intro K' a wy ho hd hb hK;simp[aU,aG,aD,Region.binds]at ho hd;have hst:=HCP.out wy hb;have kC:=(hst.at cM).c5;have kC:=(hst.at dZ).c5;clear hst;go_simp;first|((try go_bits);exact hK _ _ rfl bQ)|(refine(HPL.out wy).mono ?_;rintro e wz ⟨rfl,hz⟩;exact hK _ _ rfl hz));dsimp only[nA,cA])
  apply bC.v9
  ·rfl
  ·intro K' a wy ho hd hb hK kz;have q8:=hd ⟨8,.data⟩ (by simp) rfl;simp[aU,aG,aD]at q8;clear hd ho;have hcv:(convert 22 9 (.slice (some ⟨b,0,none⟩) t.size cap)).run Tryz.prog wy=.ok (.string uu) wy:=by rw[←hs1];exact wD (HGP.out wy hb)
   go_simp;try go_bits
   exact kz _ rfl
  (apply bC.u rfl;(·intro K' a wy ho hd hb hK;simp[aU,aG,aD,Region.binds]at ho hd;go_simp;refine(HCK.out wy).mono ?_;rintro e wz ⟨rfl,hz⟩;exact hK _ _ rfl hz);dsimp only[nA,cA])
  refine bC.rel (n:=11) (oG [nc]) (qI _) [_,_,_,_,_,_,_,_,_,_,_,oG [nc]] rfl rfl ?_ ?_
  ·intro K' a wy ho hd hb hK;rw[wN rfl];have q10:=hd ⟨10,.data⟩ (by simp) rfl;simp[aU,aG,aD]at q10;clear hd ho;go_simp;exact hK _ _ ⟨wy.heap.size,rfl,by simp,fun k hk=>by
    simp only[List.length_cons,List.length_nil]at hk;match k,hk with
    | 0,_=>simp⟩ (bR.alloc lR _)
  refine bC.rel (n:=12) (CG w.heap.size 5 2 (strCells (aR nc))) (sY _ _ _ _) [_,_,_,_,_,_,_,_,_,_,_,_,CG w.heap.size 5 2 (strCells (aR nc))] rfl rfl ?_ ?_
  ·intro K' a wy ho hd hb hK;rw[wN rfl];have hr:oG [nc] (aD a 73) wy:=hd ⟨11,.data⟩ (by simp) rfl;obtain⟨b4,e1,e2,e3⟩:=hr;simp[aD]at e1;clear hd ho;go_simp;refine(mG [nc] b4 1 1 wy (by decide) e2 rfl (qQ _ (by simp only[List.forall_mem_cons,UG,false_imp_iff,implies_true,and_true];omega)) e3).mono ?_;rintro e wz ⟨rfl,hown,hz⟩;exact hK _ _ ⟨_,rfl,zC (by rw[←HL1.out];exact hown) (UL hlw2 hb.size)⟩ hz
  intro X wz hR hz;obtain⟨x0,x1,x2,x3,x4,x5,x6,x7,x8,x9,x10,x11,x12,-⟩:=hR;obtain⟨b4,e4,-,-⟩:=x11;obtain⟨g5,e5,own5⟩:=x12;simp only[aG]at x0 x1 x2 x3 x4 x5 x6 x7 x8 x9 x10;simp only[aE,x0,x1,x2,x3,x4,x5,x6,x7,x8,x9,x10,e4,e5];clear x0 x1 x2 x3 x4 x5 x6 x7 x8 x9 x10;rw[e5]at own5;have hgz:=HGP.out wz hz;have hrun:=oT (P:=Tryz.prog) (dCap:=cap-pl) 22 22 3 5 Tryz.underlying22 hinfo hgz (o:=pl) (by omega) (dLen:=t.size-pl) (by omega) z2.symm own5;rw[z2]at hrun;have HN2:Hid (aA (wz.setCells b pl (strCells (aR nc))) b (strCells (eG uu pl (aR nc)))):=AY hgz (by omega);have HB2:Hid (dD w [(w.heap.size,(cR VF src dst sp dp)),(w.heap.size+1,(cR proto' src' dst' sp' dp')),(w.heap.size+1+1,[eS,iV 0])] (wz.setCells b pl (strCells (aR nc)))):=(HCP.out wz hz).cells (fun e he=>by
   simp only[UH,UG,or_false]at he;rcases he with rfl|rfl|rfl<;>(show _≠b;omega)) hbw
  clear hgz own5 hz HCP HGP;intro K10 hK10;go_simp;refine hK10 _ _ ?_;show Exit.then _ _ _ _ _;refine hK2 _ _ (hJ _ _ ?_);(repeat apply Exists.intro)
  exact⟨⟨HN2.out,HB2.out⟩,rfl⟩
 case rest=>
 obtain⟨hG,hS⟩:=hcut;have T3:Hid _:=hG;have S3:Hid (dD w [(w.heap.size,(cR VF src dst sp dp)),(w.heap.size+1,(cR proto' src' dst' sp' dp')),(w.heap.size+1+1,[eS,iV 0])] wc):=hS;clear hG hS S2 T2 HCK HPL HL1;generalize wc=W3 at *;have hsz3:(eG uu pl (aR nc)).size=t.size:=by rw[eR (by omega)];exact hs1
 generalize eG uu pl (aR nc)=vv at *;have hcv:(convert 22 9 (.slice (some ⟨b,0,none⟩) t.size cap)).run Tryz.prog W3=.ok (.string vv) W3:=by rw[←hsz3];exact wD T3.out
 have HX:Hid (ans=iS vv 0):=HC0.out;have HHz:=S3.out.at eL;obtain⟨z0,z1⟩:=HHz.c2;obtain⟨zf0,zf1⟩:=HHz.f2;obtain⟨HRR,RB⟩:=RU HHz S3.out.b hRw (.string vv) (iV 0);clear HHz;clear HC0 T3;go_wp2_with fail
 exact VB (aF Tryz.results113 _ _ _ _ _ rfl HRR.out Tryz.underlying55 rfl (show (Tryz.prog.info? 55).map (·.size)=some 2 by kernel_rfl)) rfl (And.intro (by rw[HX.out];rfl) RB.out)
end Go.Proofs.YtdkepkaflielhaaGreatDoor
