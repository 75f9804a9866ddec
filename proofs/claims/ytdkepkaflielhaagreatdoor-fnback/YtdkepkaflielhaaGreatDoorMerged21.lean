import Derived.Test.YtdkepkaflielhaaGreatDoorMerged18
set_option linter.unusedVariables false
set_option linter.unusedSimpArgs false
set_option maxRecDepth 100000
set_option maxHeartbeats 8000000
namespace Go.Proofs.YtdkepkaflielhaaGreatDoor
open Go.RowKit Go.PlainAid
theorem dD.setHead{w0 W:World}{ks:List (Nat × List Value)}{C:Nat}{v:Value}(h:dD w0 ((C,[v])::ks) W)(hC:w0.heap.size≤C)(hks:∀e∈ks,e.1≠C)(u:Value):dD w0 ((C,[u])::ks) (W.setCell ⟨C,0,none⟩ u) :=
 ⟨fun e he=>by
  rcases UH.1 he with rfl|he
  ·exact(h.k _ cM).set 0 u
  ·exact aA.setOther (h.k e (.tail _ he)) (hks e he) u,h.b.setCell (p:=⟨C,0,none⟩) hC u,fun e he=>by
  rcases UH.1 he with rfl|he
  ·exact Nat.zero_lt_one
  ·exact h.z e (.tail _ he)⟩
theorem dD.tl{w0 W:World}{k:Nat × List Value}{ks:List (Nat × List Value)}(h:dD w0 (k::ks) W):dD w0 ks W:=⟨fun e he=>h.k e (.tail _ he),h.b,fun e he=>h.z e (.tail _ he)⟩
theorem uE(ta tb:BA)(c:Int)(C:Nat)(ks:List (Nat × List Value))(w0 w:World)(ha:ta.size≤1048576)(hb':tb.size≤1048576)(hc:0≤c∧c≤65535)(hC:w0.heap.size≤C)(hks:∀e∈ks,e.1≠C)(h:dD w0 ((C,[iV c])::ks) w) :
  Calls Tryz.prog 174 #[.pointer (some ⟨C,0,none⟩),.agg #[.string ta,.string tb]] w fun e w'=>e=.returned (.tuple #[])∧dD w0 ((C,[iV (eB c (bN ta) (bN tb))])::ks) w':=by
 have HA:Hid (∀W,Cb 170 #[.string ta] W (iV (bN ta))):=fun W=>(rW ta W (by omega)).mono fun e w' h=>⟨h.1,by rw[h.2];exact Below.refl _ _⟩
 have HB:Hid (∀W,Cb 170 #[.string tb] W (iV (bN tb))):=fun W=>(rW tb W (by omega)).mono fun e w' h=>⟨h.1,by rw[h.2];exact Below.refl _ _⟩
 have HT:Hid (∀W,Cb 184 #[iV c,iV (bN ta),iV (bN tb)] W (iV (eB c (bN ta) (bN tb)))):=fun W=>(vH c (bN ta) (bN tb) W).mono fun e w' h=>⟨by rw[h.1,NU hc (dE ta) (dE tb)],h.2⟩
 have hlt:C < w.heap.size:=(h.k _ cM).lt (by simp);have HS0:Hid (dD w0 ((w.heap.size,[.string ta,.string tb])::(C,[iV c])::ks) (w.alloc (.cells #[.string ta,.string tb] 195))):=h.push [.string ta,.string tb] (by simp) _;have HKS:Hid (∀e∈ks,e.1≠C):=hks;generalize bN ta=sa at *;generalize bN tb=sb at *;generalize eB c sa sb=tc at *;clear h hks;go_enter Tryz.func174,Tryz.ntmps174
 go_upto_region 1 with fail
 generalize (w.alloc (.cells #[.string ta,.string tb] 195))=W1 at *;generalize w.heap.size=P at *;have HCP:Hid (∀wy,Below W1.drew.heap.size W1.drew wy→_):=fun wy hy=>HS0.out.kept (bR.drew.trans hy)
 clear HS0;refine aN [4,5,6,7,8,9,10,11,12,13,14,15,16,17] (by kernel_rfl) (by kernel_rfl) ?_;iterate 10 (apply bC.u rfl;(·intro K' a wy ho hd hb hK;simp[aU,aG,aD,Region.binds]at ho hd;have hst:=HCP.out wy hb;have HHp:=hst.at cM;have HHc:=hst.at dZ;have kC:=HHp.c2;have c0:=HHc.cell (j:=0) rfl;clear hst HHp HHc;go_simp;first|((try go_bits);exact hK _ _ rfl bQ)|(refine(HA.out wy).mono ?_;rintro e wz ⟨rfl,hz⟩;exact hK _ _ rfl hz));dsimp only[nA,cA])
 (apply bC.u rfl;(·intro K' a wy ho hd hb hK;simp[aU,aG,aD,Region.binds]at ho hd;go_simp;refine(HB.out wy).mono ?_;rintro e wz ⟨rfl,hz⟩;exact hK _ _ rfl hz);dsimp only[nA,cA])
 iterate 3 (apply bC.u rfl;(·intro K' a wy ho hd hb hK;simp[aU,aG,aD,Region.binds]at ho hd;go_simp;first|((try go_bits);exact hK _ _ rfl bQ)|(refine(HT.out wy).mono ?_;rintro e wz ⟨rfl,hz⟩;exact hK _ _ rfl hz));dsimp only[nA,cA])
 intro X wz hR hz;simp only[UM,UN,eY,aG]at hR;simp only[aE,hR];clear hR;have hst:=HCP.out wz hz;have HF:Hid (dD w0 ((C,[iV tc])::ks) (wz.setCell ⟨C,0,none⟩ (iV tc))):=hst.tl.setHead hC HKS.out _;have HHc:=hst.at dZ;have c0:=HHc.cell (j:=0) rfl;have f0:=HHc.free (j:=0) (by simp);clear hst HHc HCP HKS;intro K10 hK10;go_simp;refine hK10 _ _ ?_;simp only[fN];go_end0
 exact⟨rfl,HF.out⟩
theorem GI(a b a' b':BA)(c:Int)(C R:Nat)(ks:List (Nat × List Value))(w0 w:World)(ha:a.size≤1048576)(hb:b.size≤1048576)(ha':a'.size≤1048576)(hb':b'.size≤1048576)(hc:0≤c∧c≤65535)(hC:w0.heap.size≤C)(hR:R≠C)(hks:∀e∈ks,e.1≠C)(h:dD w0 ((C,[iV c])::(R,[.string a,.string b,.string a',.string b'])::ks) w) :
  Calls Tryz.prog 173 #[.func (.func 174) #[.pointer (some ⟨C,0,none⟩)] #[],.slice (some ⟨R,0,none⟩) 2 2] w fun e w'=>e=.returned (.tuple #[])∧dD w0 ((C,[iV (eB (eB c (bN a) (bN b)) (bN a') (bN b'))])::(R,[.string a,.string b,.string a',.string b'])::ks) w':=by
 have r1:=lV hc (dE a) (dE b);have HKR:Hid (∀e∈(R,[Value.string a,.string b,.string a',.string b'])::ks,e.1≠C):=fun e he=>by
  rcases UH.1 he with rfl|he
  ·exact hR
  ·exact hks e he
 have H1:Hid (∀W ls,(∀e∈ls,e.1≠C)→dD w0 ((C,[iV c])::ls) W→Calls Tryz.prog 174 #[.pointer (some ⟨C,0,none⟩),.agg #[.string a,.string b]] W fun e w'=>e=.returned (.tuple #[])∧dD w0 ((C,[iV (eB c (bN a) (bN b))])::ls) w'):=fun W ls hl hW=>uE a b c C ls w0 W ha hb hc hC hl hW
 have H2:Hid (∀W ls,(∀e∈ls,e.1≠C)→dD w0 ((C,[iV (eB c (bN a) (bN b))])::ls) W→Calls Tryz.prog 174 #[.pointer (some ⟨C,0,none⟩),.agg #[.string a',.string b']] W fun e w'=>e=.returned (.tuple #[])∧dD w0 ((C,[iV (eB (eB c (bN a) (bN b)) (bN a') (bN b'))])::ls) w'):=fun W ls hl hW=>uE a' b' _ C ls w0 W ha' hb' r1 hC hl hW
 have HS0:Hid _:=h;generalize eB (eB c (bN a) (bN b)) (bN a') (bN b')=c2 at *;generalize eB c (bN a) (bN b)=c1 at *;clear h hks r1 ha hb ha' hb' hc;go_enter Tryz.func173,Tryz.ntmps173
 go_wp2_with fail
 go_loopw [8] (fun i wr=>∃k:Nat,k≤2∧i=iV k∧dD w0 ((C,[iV (if k=0 then c else if k=1 then c1 else c2)])::(R,[.string a,.string b,.string a',.string b'])::ks) wr) (fun i _=>2-(intOf i).toNat)
 case atStart=>exact⟨0,by omega,rfl,HS0.out⟩
 case round=>
  obtain⟨k,hk,rfl,hst⟩:=hrel;clear HS0;match k,hk with
  | 0,_=>
   have S1:Hid (dD w0 ((C,[iV c])::(R,[.string a,.string b,.string a',.string b'])::ks) wr):=hst;have HHr:=S1.out.at dZ;obtain⟨q0,q1⟩:=HHr.c2;clear HHr hst;have B1:Hid (Below wr.heap.size wr (wr.alloc (.cells #[.string a,.string b] 195))):=bR.alloc lR _;go_wp2_with fail
   refine(H1.out _ _ HKR.out (S1.out.kept B1.out)).mono ?_;rintro e w2 ⟨rfl,hb2⟩;have S2:Hid _:=hb2;clear hb2 S1 B1;go_wp2_with fail
   go_roundw
   case rel=>exact⟨1,by omega,by go_num,S2.out⟩
   case measure=>simp[intOf]
  | 1,_=>
   have S1:Hid (dD w0 ((C,[iV c1])::(R,[.string a,.string b,.string a',.string b'])::ks) wr):=hst;have HHr:=S1.out.at dZ;obtain⟨-,-,q2,q3⟩:=HHr.c4;clear HHr hst;have B1:Hid (Below wr.heap.size wr (wr.alloc (.cells #[.string a',.string b'] 195))):=bR.alloc lR _;go_wp2_with fail
   refine(H2.out _ _ HKR.out (S1.out.kept B1.out)).mono ?_;rintro e w2 ⟨rfl,hb2⟩;have S2:Hid _:=hb2;clear hb2 S1 B1;go_wp2_with fail
   go_roundw
   case rel=>exact⟨2,by omega,by go_num,S2.out⟩
   case measure=>simp[intOf]
  | 2,_=>
   have S1:Hid (dD w0 ((C,[iV c2])::(R,[.string a,.string b,.string a',.string b'])::ks) wr):=hst;clear hst;go_wp2_with fail
   go_end0
   exact⟨rfl,S1.out⟩
def QG(base:Nat)(vs:List Value):Value→World→Prop:=fun v w=>∃b,v=.slice (some ⟨b,0,none⟩) 2 2∧base≤b∧aA w b vs
theorem EL(base:Nat)(vs:List Value)(h:0 < vs.length):eZ (QG base vs):=fun v w w' ⟨b,h1,h2,h3⟩ hb=>⟨b,h1,h2,h3.kept h hb⟩
theorem JW{p:Int}{n:Nat}(h8:8≤n)(hp:p=6→20≤n):bI p < n:=by
 unfold bI;split
 ·rename_i h;have:=hp h;omega
 ·split<;>omega
theorem DG(f g:Fl)(t u:BA)(w:World)(h8:8≤t.size)(ht:t.size≤65535)(hp:f.VF=6→20≤t.size)(u8:8≤u.size)(hu:u.size≤65535)(fs:f.src.size=4∨f.src.size=16)(fd:f.dst.size≤16)(fp:0≤f.VF∧f.VF≤255)(gs:g.src.size=4∨g.src.size=16)(gd:g.dst.size≤16)(gp:0≤g.VF∧g.VF≤255) :
  Cb 155 #[gF f,gF g,.string t,.string u] w (iV (vZ f g t u)):=by
 have HPl:Hid (∀W,Cw 153 #[iV f.VF] W (iV (bI f.VF:Nat))):=fun W=>uF _ W
 have HWd:Hid (∀W,Cw 131 #[.string t,iV (bI f.VF:Nat)] W (iV (aM (bt t) (bI f.VF)))):=fun W=>lL t _ W (JW h8 hp) (by unfold maxLen;omega)
 have HP1:Hid (∀W,Cb 175 #[iV f.VF,.string t] W (.string (bE f.VF t))):=fun W=>rD _ t W h8 (by omega)
 have HP2:Hid (∀W,Cb 175 #[iV g.VF,.string u] W (.string (bE g.VF u))):=fun W=>rD _ u W u8 (by omega)
 have HH1:Hid (∀W,Cb 176 #[.string f.src,.string f.dst,iV f.VF,iV t.size] W (.string (aQ f.src f.dst f.VF t.size))):=fun W=>sK _ _ _ _ W fs fd fp ht
 have HH2:Hid (∀W,Cb 176 #[.string g.src,.string g.dst,iV g.VF,iV u.size] W (.string (aQ g.src g.dst g.VF u.size))):=fun W=>sK _ _ _ _ W gs gd gp hu
 have s1:=iD f.VF h8;have s2:=iD g.VF u8;have s3:=mI f.src f.dst f.VF t.size (by omega) fd;have s4:=mI g.src g.dst g.VF u.size (by omega) gd;have rc:=cW (bH t) (bI f.VF);have HV:Hid (vZ f g t u=if eB (eB (aM (bt t) (bI f.VF)) (bN (bE f.VF t)) (bN (bE g.VF u))) (bN (aQ f.src f.dst f.VF t.size)) (bN (aQ g.src g.dst g.VF u.size))=0 then 65535 else eB (eB (aM (bt t) (bI f.VF)) (bN (bE f.VF t)) (bN (bE g.VF u))) (bN (aQ f.src f.dst f.VF t.size)) (bN (aQ g.src g.dst g.VF u.size))):=rfl;have HEa:Hid (∀C R ks W,w.heap.size≤C→R≠C→(∀e∈ks,e.1≠C)→dD w ((C,[iV (aM (bt t) (bI f.VF))])::(R,[.string (bE f.VF t),.string (bE g.VF u),.string (aQ f.src f.dst f.VF t.size),.string (aQ g.src g.dst g.VF u.size)])::ks) W→Calls Tryz.prog 173 #[.func (.func 174) #[.pointer (some ⟨C,0,none⟩)] #[],.slice (some ⟨R,0,none⟩) 2 2] W fun e w'=>e=.returned (.tuple #[])∧dD w ((C,[iV (eB (eB (aM (bt t) (bI f.VF)) (bN (bE f.VF t)) (bN (bE g.VF u))) (bN (aQ f.src f.dst f.VF t.size)) (bN (aQ g.src g.dst g.VF u.size)))])::(R,[.string (bE f.VF t),.string (bE g.VF u),.string (aQ f.src f.dst f.VF t.size),.string (aQ g.src g.dst g.VF u.size)])::ks) w'):=fun C R ks W h1 h2 h3 h4=>GI _ _ _ _ _ C R ks w W (by omega) (by omega) (by omega) (by omega) rc h1 h2 h3 h4
 generalize eB (eB (aM (bt t) (bI f.VF)) (bN (bE f.VF t)) (bN (bE g.VF u))) (bN (aQ f.src f.dst f.VF t.size)) (bN (aQ g.src g.dst g.VF u.size))=c2 at *;generalize vZ f g t u=ans at *;obtain⟨c,hc⟩: ∃c,c=aM (bt t) (bI f.VF):=⟨_,rfl⟩;rw[←hc]at HWd HEa;generalize bE f.VF t=p1 at *;generalize bE g.VF u=p2 at *;generalize aQ f.src f.dst f.VF t.size=p3 at *;generalize aQ g.src g.dst g.VF u.size=p4 at *;generalize (bI f.VF)=pl at *;clear hc rc fs fd fp gs gd gp s1 s2 s3 s4 hp;obtain⟨VF,src,dst,sp,dp⟩:=f;obtain⟨proto',src',dst',sp',dp'⟩:=g;unfold gF;dsimp only at *;have HS0:=SL w (cR VF src dst sp dp) 43 (cR proto' src' dst' sp' dp') 43 (by simp) (by simp)
 skip;go_enter Tryz.func155,Tryz.ntmps155
 go_upto_region 1 with fail
 generalize World.alloc _ _=W0 at *;have HHk:=HS0.out.at cM;obtain⟨k0,k1,k2,k3,k4⟩:=HHk.c5;clear HHk;have hw0:w.heap.size≤W0.heap.size:=HS0.out.b.size;have hf0:w.heap.size < W0.heap.size:=(HS0.out.k _ cM).lt (by simp);have hg0:w.heap.size+1 < W0.heap.size:=(HS0.out.k _ dZ).lt (by simp);have HS1:Hid (dD w ((W0.heap.size,[iV c])::[(w.heap.size,(cR VF src dst sp dp)),(w.heap.size+1,(cR proto' src' dst' sp' dp'))]) (W0.alloc (.cells #[iV c] 190))):=HS0.out.push [iV c] (by simp) _;go_upto_region 2 with (first | (go_at_call 153;refine(HPl.out _).mono ?_;rintro e W0 ⟨rfl,rfl⟩) | (go_at_call 131;refine(HWd.out _).mono ?_;rintro e W0 ⟨rfl,rfl⟩))
 clear HS0 HPl HWd k0 k1 k2 k3 k4;generalize (W0.alloc (.cells #[iV c] 190))=W1 at *;generalize W0.heap.size=C at *;have hcl:C < W1.heap.size:=(HS1.out.k _ cM).lt (by simp);go_cut [46] (fun v wx=>dD w [(C,[iV c2])] wx)
 case first=>
  rename_i J K2 hJ hK2;have HCP:Hid (∀wy,Below W1.drew.heap.size W1.drew wy→_):=fun wy hy=>HS1.out.kept (bR.drew.trans hy)
  clear HS1 HV;refine aN [16,17,18,19,20,21,22,23,24,25,26,27,28,29,30,31,32,33,34,35,36,37,38,39,40,41,42,43,44,45] (by kernel_rfl) (by kernel_rfl) ?_;iterate 8 (apply bC.u rfl;(·intro K' a wy ho hd hb hK;simp[aU,aG,aD,Region.binds]at ho hd;have hst:=HCP.out wy hb;have kC:=(hst.at dZ).c3;have kC:=(hst.at eL).c3;clear hst;go_simp;first|((try go_bits);exact hK _ _ rfl bQ)|(refine(HP1.out wy).mono ?_;rintro e wz ⟨rfl,hz⟩;exact hK _ _ rfl hz));dsimp only[nA,cA])
  iterate 10 (apply bC.u rfl;(·intro K' a wy ho hd hb hK;simp[aU,aG,aD,Region.binds]at ho hd;have hst:=HCP.out wy hb;have kC:=(hst.at dZ).c3;have kC:=(hst.at eL).c3;clear hst;go_simp;first|((try go_bits);exact hK _ _ rfl bQ)|(refine(HP2.out wy).mono ?_;rintro e wz ⟨rfl,hz⟩;exact hK _ _ rfl hz));dsimp only[nA,cA])
  iterate 9 (apply bC.u rfl;(·intro K' a wy ho hd hb hK;simp[aU,aG,aD,Region.binds]at ho hd;have hst:=HCP.out wy hb;have kC:=(hst.at dZ).c3;have kC:=(hst.at eL).c3;clear hst;go_simp;first|((try go_bits);exact hK _ _ rfl bQ)|(refine(HH1.out wy).mono ?_;rintro e wz ⟨rfl,hz⟩;exact hK _ _ rfl hz));dsimp only[nA,cA])
  iterate 2 (apply bC.u rfl;(·intro K' a wy ho hd hb hK;simp[aU,aG,aD,Region.binds]at ho hd;go_simp;first|((try go_bits);exact hK _ _ rfl bQ)|(refine(HH2.out wy).mono ?_;rintro e wz ⟨rfl,hz⟩;exact hK _ _ rfl hz));dsimp only[nA,cA])
  refine bC.rel (n:=29) (QG W1.drew.heap.size [.string p1,.string p2,.string p3,.string p4]) (EL _ _ (by simp)) [_,_,_,_,_,_,_,_,_,_,_,_,_,_,_,_,_,_,_,_,_,_,_,_,_,_,_,_,_,QG W1.drew.heap.size [.string p1,.string p2,.string p3,.string p4]] rfl rfl ?_ ?_
  ·intro K' a wy ho hd hb hK;rw[wN rfl];have q9:=hd ⟨9,.data⟩ (by simp) rfl;have q28:=hd ⟨28,.data⟩ (by simp) rfl;simp[aU,aG,aD]at q9 q28;clear hd ho;go_simp;exact hK _ _ ⟨wy.heap.size,rfl,hb.size,aA.new wy [.string p1,.string p2,.string p3,.string p4] 195⟩ (bR.alloc lR _)
  intro X wz hR hz;obtain⟨x0,x1,x2,x3,x4,x5,x6,x7,x8,x9,x10,x11,x12,x13,x14,x15,x16,x17,x18,x19,x20,x21,x22,x23,x24,x25,x26,x27,x28,x29,-⟩:=hR;obtain⟨R,e29,b29,h29⟩:=x29;simp only[aG]at x0 x1 x2 x3 x4 x5 x6 x7 x8 x9 x10 x11 x12 x13 x14 x15 x16 x17 x18 x19 x20 x21 x22 x23 x24 x25 x26 x27 x28;simp only[aE,x0,x1,x2,x3,x4,x5,x6,x7,x8,x9,x10,x11,x12,x13,x14,x15,x16,x17,x18,x19,x20,x21,x22,x23,x24,x25,x26,x27,x28,e29];clear x0 x1 x2 x3 x4 x5 x6 x7 x8 x9 x10 x11 x12 x13 x14 x15 x16 x17 x18 x19 x20 x21 x22 x23 x24 x25 x26 x27 x28;have hst:=HCP.out wz hz;have hRC:R≠C:=by
   have:C < W1.drew.heap.size:=hcl;omega
  have HB5:Hid (dD w ((C,[iV c])::(R,[.string p1,.string p2,.string p3,.string p4])::[(w.heap.size,(cR VF src dst sp dp)),(w.heap.size+1,(cR proto' src' dst' sp' dp'))]) wz):=(hst.tl.cons h29 (by simp)).cons (hst.k _ cM) (by simp);have HKS:Hid (∀e∈([(w.heap.size,(cR VF src dst sp dp)),(w.heap.size+1,(cR proto' src' dst' sp' dp'))]:List (Nat × List Value)),e.1≠C):=fun e he=>by
   simp only[UH,UG,or_false]at he;rcases he with rfl|rfl<;>(show _≠C;omega)
  clear hst h29 HCP HP1 HP2 HH1 HH2;intro K10 hK10;go_simp;refine(HEa.out C R _ wz hw0 hRC HKS.out HB5.out).mono ?_;rintro e w5 ⟨rfl,hb5⟩;have HF:Hid (dD w [(C,[iV c2])] w5):=⟨fun e he=>by
   rw[List.mem_singleton]at he;rw[he];exact hb5.k _ cM,hb5.b,fun e he=>by
   rw[List.mem_singleton]at he;rw[he];simp⟩
  clear hb5 HB5 HKS HEa;refine hK10 _ _ ?_;show Exit.then _ _ _ _ _;refine hK2 _ _ (hJ _ _ ?_);(repeat apply Exists.intro)
  exact⟨HF.out,rfl⟩
 case rest=>
 have S6:Hid (dD w [(C,[iV c2])] wc):=hcut;clear hcut HS1 HP1 HP2 HH1 HH2 HEa;generalize wc=W6 at *;have HH6:=S6.out.at cM;have z0:=HH6.cell (j:=0) rfl;clear HH6;have HFB:Hid (Below w.heap.size w W6):=S6.out.b;clear S6;by_cases h0:c2=0
 case pos=>
  have d0:(c2==0)=true:=by simp[h0]
  have HX:Hid (ans=65535):=by unfold Hid;rw[HV.out,if_pos h0]
  clear h0 HV;go_wp2_with fail
  go_ret;exact⟨aK (by rw[HX.out]),HFB.out⟩
 have d0:(c2==0)=false:=by simp[h0]
 have HX:Hid (ans=c2):=by unfold Hid;rw[HV.out,if_neg h0]
 clear h0 HV;go_wp2_with fail
 go_ret;exact⟨aK (by rw[HX.out]),HFB.out⟩
open Go.Lib
theorem yE{W:World}{b:Nat}{t:BA}(h:CF W b t.size (bt t)):aA W b (strCells t):=by
 refine⟨fun j v hv=>?_,fun j hj=>?_⟩
 ·rw[UI];have hj:j < t.size:=by
   have:=(List.getElem?_eq_some_iff.1 hv).1;rwa [strCells_length]at this
  rw[uU t j hj]at hv;injection hv with hv
  rw[←hv];exact(h.get j hj).1
 ·rw[strCells_length]at hj;rw[UI];exact⟨by rw[(h.get j hj).1];rfl,(h.get j hj).2⟩
theorem wD{W:World}{b cap:Nat}{t:BA}(h:aA W b (strCells t)):(convert 22 9 (.slice (some ⟨b,0,none⟩) t.size cap)).run Tryz.prog W=.ok (.string t) W:=by
 have hh:CF W b t.size (bt t):=⟨fun i hi=>⟨IZ h i hi,h.free (by rw[strCells_length];exact hi)⟩⟩;have:=hh.conv (cap:=cap) (bH t)
 rw[oL]at this;exact this
theorem zF(t:BA)(k n:Nat)(h:k+n≤t.size):t.extract 0 k++t.extract k (k+n)++t.extract (k+n) t.size=t:=by
 refine FK ?_ (fun i hi=>?_)
 ·simp only[UQ,UR];omega
 ·have s1:(t.extract 0 k).size=k:=by rw[UR];omega
  have s2:(t.extract k (k+n)).size=n:=by rw[UR];omega
  simp only[UQ,UR]at hi;rw[dW,dW,UQ,s1,s2];by_cases h1:i < k
  ·rw[if_pos (by omega),if_pos h1,fB _ _ _ _ (by omega),if_pos (by omega),UI]
  ·by_cases h2:i < k+n
   ·rw[if_pos h2,if_neg h1,fB _ _ _ _ (by omega),if_pos (by omega),show k+(i-k)=i by omega]
   ·rw[if_neg h2,fB _ _ _ _ lR,if_pos (by omega),show k+n+(i-(k+n))=i by omega]
theorem AY{W:World}{b k:Nat}{t u:BA}(h:aA W b (strCells t))(hk:k+u.size≤t.size):aA (W.setCells b k (strCells u)) b (strCells (eG t k u)):=by
 rw[←zF t k u.size hk]at h;exact QT h (by rw[UR];omega) (by rw[UR];omega)
theorem oT{P:Program}{w:World}{g o dCap base e g6:Nat}{t s:BA}(dT sT ty elem:TypeId)(hu:P.underlying dT=some (.slice elem))(hz:(P.info? elem).map (·.size)=some 1)(h:aA w g (strCells t))(ho:o+s.size≤t.size){dLen sLen:Nat}(hd:s.size≤dLen)(hs:sLen=s.size)(hown:w.ownsRow base e 1 (.slice (some ⟨g6,0,none⟩) sLen sLen) sLen (strCells s)) :
  (Builtin.copy_ #[dT,sT] ty #[.slice (some ⟨g,o,none⟩) dLen dCap,.slice (some ⟨g6,0,none⟩) sLen sLen]).run P w=.ok (goInt s.size) (w.setCells g o (strCells s)):=by
 have hl:(strCells t).length=t.size:=strCells_length t;have:=run_copy_cells (P:=P) w dT sT ty elem g o dLen dCap ⟨g6,0,none⟩ sLen sLen (strCells s) hu hz (by rw[strCells_length,hs];exact(Nat.min_eq_left hd).symm) (fun j v hj=>hown.cells (g:=g6) rfl j v hj) (fun j hj=>by rw[strCells_length]at hj;have:=(h.th (o+j) (by omega)).1;rwa [UI]at this) (fun j hj=>by rw[strCells_length]at hj;have:=(h.th (o+j) (by omega)).2;rwa [UI]at this) (strCells_oneCell _);rw[strCells_length]at this;exact this
theorem JU{x:Int}(h:0≤x∧x≤255):strCells (lP x)=[.int .u8 x]:=by
 unfold strCells lP;simp;omega
theorem yV{W:World}{b:Nat}{t:BA}{x:Int}(h:aA W b (strCells t))(hx:0≤x∧x≤255)(ht:1≤t.size):aA (W.setCell ⟨b,0,none⟩ (.int .u8 x)) b (strCells (eG t 0 (lP x))):=by
 have e:strCells (eG t 0 (lP x))=(strCells t).set 0 (.int .u8 x):=by
  have hs:=zF t 0 1 (by omega);have h0:(strCells (t.extract 0 0))=[]:=by
   apply List.eq_nil_of_length_eq_zero;rw[strCells_length,UR];omega
  have h1:(strCells (t.extract 0 (0+1))).length=1:=by rw[strCells_length,UR];omega
  obtain⟨y,hy⟩:=List.length_eq_one_iff.1 h1;have ht2:strCells t=y::strCells (t.extract (0+1) t.size):=by
   conv=>lhs;rw[←hs]
   rw[gA,gA,h0,hy];rfl
  unfold eG;rw[gA,gA,h0,JU hx,ht2];rfl
 rw[e];exact h.set 0 _
theorem LX(p:Int):0≤iN p∧iN p≤255:=by unfold iN;split<;>omega
theorem LV(p:Int):0≤jV p∧jV p≤255:=by unfold jV;split<;>omega
def LP(base:Nat)(n:Nat)(u:BA)(e:Ending)(w':World):Prop:=∃b cap,e=.returned (.slice (some ⟨b,0,none⟩) n cap)∧n≤cap∧base≤b∧aA w' b (strCells u)
theorem KE(p:Int)(g:Fl)(t:BA)(w:World)(h8:8≤t.size)(ht:t.size≤20000)(gw:(0≤g.sp∧g.sp≤65535)∧(0≤g.dp∧g.dp≤65535))(hp:aL g.VF=true→aL p=true) :
  Calls Tryz.prog 152 #[iV p,gF g,.string t] w fun e w'=>LP w.heap.size t.size (MN p g t) e w'∧Below w.heap.size w w':=by
 have HE:Hid (∀W,Cw 100 #[iV g.VF] W (.bool (aL g.VF))):=fun W=>fS _ W
 have HV:Hid (MN p g t=if aL g.VF=true then eG (eG t 4 (aR g.sp)) 0 (lP (if bt t 0=iN p then iN g.VF else jV g.VF)) else eG t 0 (aR g.sp++aR g.dp)):=rfl;have HE1:Hid (aL p=true→∀W,Cw 130 #[iV p] W (.tuple #[.int .u8 (iN p),.int .u8 (jV p)])):=fun h W=>lZ p W h
 have HE2:Hid (aL g.VF=true→∀W,Cw 130 #[iV g.VF] W (.tuple #[.int .u8 (iN g.VF),.int .u8 (jV g.VF)])):=fun h W=>lZ _ W h
 have ra:=LX g.VF;have rn:=LV g.VF;have z2:=aP g.sp;have z4:(aR g.sp++aR g.dp).size=4:=by rw[UQ];rfl
 have HL2:Hid ((kK [g.sp,g.dp]).map (Value.int .u8)=strCells (aR g.sp++aR g.dp)):=by unfold Hid;rw[gA,mK _ gw.1.1 gw.1.2,mK _ gw.2.1 gw.2.2];rfl
 have HL1:Hid ((kK [g.sp]).map (Value.int .u8)=strCells (aR g.sp)):=by unfold Hid;rw[mK _ gw.1.1 gw.1.2];rfl
 have hinfo:(Tryz.prog.info? 5).map (·.size)=some 1:=by
  obtain⟨i0,hi,hz0,hz1,hz2⟩:=info_parts Tryz.info5;rw[hi];simp[hz1]
 generalize MN p g t=ans at *;obtain⟨VF,src,dst,sp,dp⟩:=g;unfold gF;dsimp only at *;have HS0:=TA w (cR VF src dst sp dp) 43 (by simp)
 skip;obtain⟨cp,W1,hcv,hh,hb1,hcap⟩:=tH (w.alloc (.cells (cR VF src dst sp dp).toArray 43)) t;rw[show (w.alloc (.cells (cR VF src dst sp dp).toArray 43)).heap.size=w.heap.size+1 by simp]at hcv hh;have HT1:Hid (aA W1 (w.heap.size+1) (strCells t)):=yE hh;have HS1:Hid _:=HS0.out.kept hb1;clear hh hb1 HS0;go_enter Tryz.func152,Tryz.ntmps152
 go_upto_region 2 with fail
 clear hcv;have HHk:=HS1.out.at cM;obtain⟨k0,k1,k2,k3,k4⟩:=HHk.c5;clear HHk;have hlw:w.heap.size+1 < W1.heap.size:=HT1.out.lt (by rw[strCells_length];omega);go_wp2_with fail
 refine(HE.out _).mono ?_;rintro e W1 ⟨rfl,rfl⟩
 cases hec:aL VF with
 | false=>
  have HX:Hid (ans=eG t 0 (aR sp++aR dp)):=by unfold Hid;rw[HV.out,hec];rfl
  clear HV HE1 HE2 HL1;have HL:Hid (Calls Tryz.prog 154 #[.slice (some ⟨W1.heap.size,0,none⟩) 2 2] (W1.alloc (.cells #[iV sp,iV dp] 2)) fun e w'=>e=.returned (.slice (some ⟨W1.heap.size+1,0,none⟩) 4 4)∧w'.ownsRow (W1.heap.size+1) 5 1 (.slice (some ⟨W1.heap.size+1,0,none⟩) 4 4) 4 (strCells (aR sp++aR dp))∧Below W1.heap.size W1 w'):=by
   refine(mG [sp,dp] W1.heap.size 2 2 (W1.alloc (.cells #[iV sp,iV dp] 2)) (by omega) (by simp) rfl (qQ _ (by simp only[List.forall_mem_cons,UG,false_imp_iff,implies_true,and_true];omega)) (by intro k hk;match k,hk with
   | 0,_=>simp
   | 1,_=>simp)).mono ?_
   rintro e w' ⟨rfl,hown,hB⟩;rw[show (W1.alloc (.cells #[iV sp,iV dp] 2)).heap.size=W1.heap.size+1 by simp]at hown hB ⊢;rw[HL2.out]at hown;exact⟨rfl,hown,(bR.alloc lR _).trans (hB.mono (by omega))⟩
  clear HL2;go_wp2_with fail
  refine HL.out.mono ?_;rintro e w3 ⟨rfl,hown,q3⟩;have hT3:aA w3 (w.heap.size+1) (strCells t):=HT1.out.kept (by rw[strCells_length];omega) q3;have hrun:=oT (P:=Tryz.prog) (dCap:=cp) 22 22 3 5 Tryz.underlying22 hinfo hT3 (o:=0) (by omega) (dLen:=t.size) (by omega) z4.symm hown;rw[z4]at hrun;have HF:Hid (aA (w3.setCells (w.heap.size+1) 0 (strCells (aR sp++aR dp))) (w.heap.size+1) (strCells ans)):=by unfold Hid;rw[HX.out];exact AY hT3 (by omega)
  have HB:Hid (Below w.heap.size w (w3.setCells (w.heap.size+1) 0 (strCells (aR sp++aR dp)))):=mS ((HS1.out.kept q3).b) (by omega) _ _;clear hT3 hown q3 HT1 HS1 HL HX k0 k1 k2 k3 k4;go_wp2_with fail
  go_ret;exact⟨⟨_,_,rfl,hcap,by omega,HF.out⟩,HB.out⟩
 | true=>
  have hep:=hp hec;have HX:Hid (ans=eG (eG t 4 (aR sp)) 0 (lP (if bt t 0=iN p then iN VF else jV VF))):=by unfold Hid;rw[HV.out,hec];rfl
  replace HE1:Hid _:=HE1.out hep;replace HE2:Hid _:=HE2.out hec;clear HV HL2 hep hec hp HE;go_upto_region 5 with fail
  clear k0 k1 k2 k3 k4;have n4:¬(t.size:Int) < 4:=by omega
  have c4:¬(cp:Int) < 4:=by omega
  have n5:(4:Int)≤t.size:=by omega
  have c44:¬cp=4:=by omega
  go_cut [33] (fun v wx=>aA wx (w.heap.size+1) (strCells (eG t 4 (aR sp)))∧dD w [(w.heap.size,(cR VF src dst sp dp))] wx)
  case first=>
   rename_i J K2 hJ hK2;have HCP:Hid (∀wy,Below W1.drew.heap.size W1.drew wy→_):=fun wy hy=>HS1.out.kept (bR.drew.trans hy)
   have HGP:Hid (∀wy,Below W1.drew.heap.size W1.drew wy→aA wy (w.heap.size+1) (strCells t)):=fun wy hy=>HT1.out.kept (by rw[strCells_length];omega) (bR.drew.trans hy)
   have hlw2:w.heap.size≤W1.drew.heap.size:=by show w.heap.size≤W1.heap.size;omega
   clear HT1 HS1 HX HE1 HE2;refine aN [27,28,29,30,31,32] (by kernel_rfl) (by kernel_rfl) ?_;iterate 4 (apply bC.u rfl;(·intro K' a wy ho hd hb hK;simp[aU,aG,aD,Region.binds]at ho hd;have hst:=HCP.out wy hb;have HHk:=hst.at cM;have k3:=HHk.cell (j:=3) rfl;clear HHk;clear hst;go_simp;(try go_bits);exact hK _ _ rfl bQ);dsimp only[nA,cA])
   refine bC.rel (n:=4) (oG [sp]) (qI _) [_,_,_,_,oG [sp]] rfl rfl ?_ ?_
   ·intro K' a wy ho hd hb hK;rw[wN rfl];have q3:=hd ⟨3,.data⟩ (by simp) rfl;simp[aU,aG,aD]at q3;clear hd ho;go_simp;exact hK _ _ ⟨wy.heap.size,rfl,by simp,fun k hk=>by
     simp only[List.length_cons,List.length_nil]at hk;match k,hk with
     | 0,_=>simp⟩ (bR.alloc lR _)
   refine bC.rel (n:=5) (CG w.heap.size 5 2 (strCells (aR sp))) (sY _ _ _ _) [_,_,_,_,_,CG w.heap.size 5 2 (strCells (aR sp))] rfl rfl ?_ ?_
   ·intro K' a wy ho hd hb hK;rw[wN rfl];have hr:oG [sp] (aD a 31) wy:=hd ⟨4,.data⟩ (by simp) rfl;obtain⟨b4,e1,e2,e3⟩:=hr;simp[aD]at e1;clear hd ho;go_simp;refine(mG [sp] b4 1 1 wy (by decide) e2 rfl (qQ _ (by simp only[List.forall_mem_cons,UG,false_imp_iff,implies_true,and_true];omega)) e3).mono ?_;rintro e wz ⟨rfl,hown,hz⟩;exact hK _ _ ⟨_,rfl,zC (by rw[←HL1.out];exact hown) (UL hlw2 hb.size)⟩ hz
   intro X wz hR hz;obtain⟨x0,x1,x2,x3,x4,x5,-⟩:=hR;obtain⟨b4,e4,-,-⟩:=x4;obtain⟨g5,e5,own5⟩:=x5;simp only[aG]at x0 x1 x2 x3;simp only[aE,x0,x1,x2,x3,e4,e5];clear x0 x1 x2 x3;rw[e5]at own5;have hgz:=HGP.out wz hz;have hrun:=oT (P:=Tryz.prog) (dCap:=cp-4) 22 22 3 5 Tryz.underlying22 hinfo hgz (o:=4) (by omega) (dLen:=t.size-4) (by omega) z2.symm own5;rw[z2]at hrun;have HN2:Hid (aA (wz.setCells (w.heap.size+1) 4 (strCells (aR sp))) (w.heap.size+1) (strCells (eG t 4 (aR sp)))):=AY hgz (by omega);have HB2:Hid (dD w [(w.heap.size,(cR VF src dst sp dp))] (wz.setCells (w.heap.size+1) 4 (strCells (aR sp)))):=(HCP.out wz hz).cells (fun e he=>by
    rw[List.mem_singleton]at he;rw[he];show w.heap.size≠w.heap.size+1;omega) (by omega)
   clear hgz own5 hz HCP HGP;intro K10 hK10;go_simp;refine hK10 _ _ ?_;show Exit.then _ _ _ _ _;refine hK2 _ _ (hJ _ _ ?_);(repeat apply Exists.intro)
   exact⟨⟨HN2.out,HB2.out⟩,rfl⟩
  case rest=>
  obtain⟨hG,hS⟩:=hcut;have G2:Hid _:=hG;have S2:Hid (dD w [(w.heap.size,(cR VF src dst sp dp))] wc):=hS;clear hG hS HT1 HS1 HL1;generalize wc=W2 at *;have hz2:=eR (t:=t) (u:=aR sp) (k:=4) (by omega);have c0:=IZ G2.out 0 (by omega);have f0:W2.frozen? ⟨w.heap.size+1,0,none⟩=false:=G2.out.free (by rw[strCells_length];omega);have e0:bt (eG t 4 (aR sp)) 0=bt t 0:=by rw[kQ (by omega),if_pos (by omega)]
  rw[e0]at c0;clear e0;have HHk:=S2.out.at cM;obtain⟨k0,k1,k2,k3,k4⟩:=HHk.c5;clear HHk;go_wp2_with fail
  refine(HE1.out _).mono ?_;rintro e W2 ⟨rfl,rfl⟩;go_wp2_with fail
  refine(HE2.out _).mono ?_;rintro e W2 ⟨rfl,rfl⟩;by_cases ha:bt t 0=iN p
  case pos=>
   have d0:(bt t 0==iN p)=true:=by simp[ha]
   have HF:Hid (aA (W2.setCell ⟨w.heap.size+1,0,none⟩ (.int .u8 (iN VF))) (w.heap.size+1) (strCells ans)):=by unfold Hid;rw[HX.out,if_pos ha];exact yV G2.out ra (by omega)
   have HB:Hid (Below w.heap.size w (W2.setCell ⟨w.heap.size+1,0,none⟩ (.int .u8 (iN VF)))):=S2.out.b.setCell (p:=⟨w.heap.size+1,0,none⟩) (by show w.heap.size≤w.heap.size+1;omega) _;clear ha HX G2 S2 HE1 HE2;generalize bt t 0=b0 at *;generalize iN p=ap at *;generalize iN VF=ag at *;generalize jV VF=ng at *;generalize jV p=np at *;go_wp2_with fail
   go_ret;exact⟨⟨_,_,rfl,hcap,by omega,HF.out⟩,HB.out⟩
  case neg=>
   have d0:(bt t 0==iN p)=false:=by simp[ha]
   have HF:Hid (aA (W2.setCell ⟨w.heap.size+1,0,none⟩ (.int .u8 (jV VF))) (w.heap.size+1) (strCells ans)):=by unfold Hid;rw[HX.out,if_neg ha];exact yV G2.out rn (by omega)
   have HB:Hid (Below w.heap.size w (W2.setCell ⟨w.heap.size+1,0,none⟩ (.int .u8 (jV VF)))):=S2.out.b.setCell (p:=⟨w.heap.size+1,0,none⟩) (by show w.heap.size≤w.heap.size+1;omega) _;clear ha HX G2 S2 HE1 HE2;generalize bt t 0=b0 at *;generalize iN p=ap at *;generalize iN VF=ag at *;generalize jV VF=ng at *;generalize jV p=np at *;go_wp2_with fail
   go_ret;exact⟨⟨_,_,rfl,hcap,by omega,HF.out⟩,HB.out⟩
end Go.Proofs.YtdkepkaflielhaaGreatDoor
