import Derived.Test.YtdkepkaflielhaaGreatDoorMerged19
set_option linter.unusedVariables false
set_option linter.unusedSimpArgs false
set_option maxRecDepth 100000
set_option maxHeartbeats 8000000
namespace Go.Proofs.YtdkepkaflielhaaGreatDoor
open Go.RowKit Go.PlainAid
theorem rR(s d:BA)(w:World)(hs:s.size≤maxLen)(hd:d.size≤maxLen) :
  Cw 31 #[.string s,.string d] w (.bool (dV s d)):=by
 have HA:Hid (∀W,Cw 65 #[.string s] W (.bool (cI s))):=fun W=>iZ s W
 unfold maxLen at hs hd;unfold dV;generalize cI s=b at *;by_cases h:s.size=d.size
 ·have dh:((s.size:Int)==(d.size:Int))=true:=by simp;omega
  rw[TT h];clear h
  cases b;all_goals go_enter Tryz.func31,Tryz.ntmps31
  all_goals go_wp2_with fail
  all_goals refine(HA.out _).mono ?_
  all_goals rintro e w2 ⟨rfl,rfl⟩
  all_goals go_wp2_with fail
  all_goals go_ret
  all_goals exact⟨rfl,rfl⟩
 ·have dh:((s.size:Int)==(d.size:Int))=false:=by simp;omega
  rw[TR h]
  cases b;all_goals go_enter Tryz.func31,Tryz.ntmps31
  all_goals go_wp2_with fail
  all_goals refine(HA.out _).mono ?_
  all_goals rintro e w2 ⟨rfl,rfl⟩
  all_goals go_wp2_with fail
  all_goals go_ret
  all_goals exact⟨rfl,rfl⟩
theorem jG(p:Int)(w:World) :
  Cw 44 #[iV p] w (.bool (aJ p)):=by
 by_cases h1:p=1
 ·have d1:(p==1)=true:=by simp[h1]
  have HV:Hid (aJ p=true):=by unfold Hid aJ;simp[h1]
  clear h1;go_enter Tryz.func44,Tryz.ntmps44
  go_wp2_with fail
  go_ret;exact⟨aB HV.out.symm,rfl⟩
 ·have d1:(p==1)=false:=by simp[h1]
  have HV:Hid (aJ p=(p==58)):=by
   unfold Hid aJ;rw[TR h1,Bool.false_or];rfl
  go_enter Tryz.func44,Tryz.ntmps44
  go_wp2_with fail
  go_ret;exact⟨aB HV.out.symm,rfl⟩
theorem uL(p:Int)(n:Nat)(w:World)(hn:n≤maxLen) :
  Cw 66 #[iV p,iV n] w (.bool (cB p n)):=by
 unfold maxLen at hn;have run:∀(a b c d x y:Bool),(p==6)=a→(p==17)=b→(p==1)=c→(p==58)=d→((n:Int)==4)=x→((n:Int)==16)=y →
   Cw 66 #[iV p,iV n] w (.bool (a||b||(c&&x)||(d&&y))):=by
  intro a b c d x y h1 h2 h3 h4 h5 h6
  cases a
  ·cases b
   ·cases c
    ·cases d
     ·go_enter Tryz.func66,Tryz.ntmps66
      go_wp2_with fail
      go_ret;exact⟨rfl,rfl⟩
     ·go_enter Tryz.func66,Tryz.ntmps66
      go_wp2_with fail
      go_ret;exact⟨rfl,rfl⟩
    ·cases x
     ·cases d
      ·go_enter Tryz.func66,Tryz.ntmps66
       go_wp2_with fail
       go_ret;exact⟨rfl,rfl⟩
      ·simp at h3 h4;omega
     ·go_enter Tryz.func66,Tryz.ntmps66
      go_wp2_with fail
      go_ret;exact⟨rfl,rfl⟩
   ·go_enter Tryz.func66,Tryz.ntmps66
    go_wp2_with fail
    go_ret;exact⟨rfl,rfl⟩
  ·go_enter Tryz.func66,Tryz.ntmps66
   go_wp2_with fail
   go_ret;exact⟨rfl,rfl⟩
 have e:cB p n=((p==6)||(p==17)||((p==1)&&((n:Int)==4))||((p==58)&&((n:Int)==16))):=by
  unfold cB;have h4:((n:Int)==4)=decide (n=4):=by rw[Bool.eq_iff_iff];simp;omega
  have h16:((n:Int)==16)=decide (n=16):=by rw[Bool.eq_iff_iff];simp;omega
  rw[h4,h16];rfl
 rw[e];exact run _ _ _ _ _ _ rfl rfl rfl rfl rfl rfl
theorem kS(f:Fl)(w:World)(h1:f.src.size≤1048576)(h2:f.dst.size≤1048576) :
  Cb 43 #[gQ f] w (.bool (cF f)):=by
 have HB1:Hid (∀W,Cw 31 #[.string f.src,.string f.dst] W (.bool (dV f.src f.dst))):=fun W=>rR _ _ W (by unfold maxLen;omega) (by unfold maxLen;omega)
 have HB2:Hid (∀W,Cw 66 #[iV f.UU,iV f.src.size] W (.bool (cB f.UU f.src.size))):=fun W=>uL _ _ W (by unfold maxLen;omega)
 have HB3:Hid (∀W,Cw 39 #[iV f.sp] W (.bool (jS f.sp))):=fun W=>gH _ W
 have HB4:Hid (∀W,Cw 39 #[iV f.dp] W (.bool (jS f.dp))):=fun W=>gH _ W
 have HB5:Hid (∀W,Cw 44 #[iV f.UU] W (.bool (aJ f.UU))):=fun W=>jG _ W
 have HA:Hid (cF f=(dV f.src f.dst&&cB f.UU f.src.size&&jS f.sp&&jS f.dp&&(!aJ f.UU||decide (f.sp=f.dp)))):=rfl;have dq:(f.sp==f.dp)=decide (f.sp=f.dp):=rfl;generalize decide (f.sp=f.dp)=q at *;generalize cF f=ok at *;generalize dV f.src f.dst=a1 at *;generalize cB f.UU f.src.size=a2 at *;generalize jS f.sp=a3 at *;generalize jS f.dp=a4 at *;generalize aJ f.UU=a5 at *;obtain⟨UU,src,dst,sp,dp⟩:=f;unfold gQ;dsimp only at *;have HZ:Hid (Below w.heap.size w (w.alloc (.cells (dA UU src dst sp dp).toArray 43))):=bR.alloc lR _
 cases a1 with
 | false=>
  have HV:Hid (ok=false):=by unfold Hid;rw[HA.out];rfl
  clear HA;go_enter Tryz.func43,Tryz.ntmps43
  go_wp2_with fail
  refine(HB1.out _).mono ?_;rintro e w2 ⟨rfl,rfl⟩;go_wp2_with fail
  go_ret;exact⟨aB HV.out.symm,HZ.out⟩
 | true=>
 cases a2 with
 | false=>
  have HV:Hid (ok=false):=by unfold Hid;rw[HA.out];rfl
  clear HA;go_enter Tryz.func43,Tryz.ntmps43
  go_wp2_with fail
  refine(HB1.out _).mono ?_;rintro e w2 ⟨rfl,rfl⟩;go_wp2_with fail
  refine(HB2.out _).mono ?_;rintro e w2 ⟨rfl,rfl⟩;go_wp2_with fail
  go_ret;exact⟨aB HV.out.symm,HZ.out⟩
 | true=>
 cases a3 with
 | false=>
  have HV:Hid (ok=false):=by unfold Hid;rw[HA.out];rfl
  clear HA;go_enter Tryz.func43,Tryz.ntmps43
  go_wp2_with fail
  refine(HB1.out _).mono ?_;rintro e w2 ⟨rfl,rfl⟩;go_wp2_with fail
  refine(HB2.out _).mono ?_;rintro e w2 ⟨rfl,rfl⟩;go_wp2_with fail
  refine(HB3.out _).mono ?_;rintro e w2 ⟨rfl,rfl⟩;go_wp2_with fail
  go_ret;exact⟨aB HV.out.symm,HZ.out⟩
 | true=>
 cases a4 with
 | false=>
  have HV:Hid (ok=false):=by unfold Hid;rw[HA.out];rfl
  clear HA;go_enter Tryz.func43,Tryz.ntmps43
  go_wp2_with fail
  refine(HB1.out _).mono ?_;rintro e w2 ⟨rfl,rfl⟩;go_wp2_with fail
  refine(HB2.out _).mono ?_;rintro e w2 ⟨rfl,rfl⟩;go_wp2_with fail
  refine(HB3.out _).mono ?_;rintro e w2 ⟨rfl,rfl⟩;go_wp2_with fail
  refine(HB4.out _).mono ?_;rintro e w2 ⟨rfl,rfl⟩;go_wp2_with fail
  go_ret;exact⟨aB HV.out.symm,HZ.out⟩
 | true=>
 have HV:Hid (ok=(!a5||q)):=by unfold Hid;rw[HA.out];rfl
 clear HA
 cases a5;all_goals go_enter Tryz.func43,Tryz.ntmps43
 all_goals go_wp2_with fail
 all_goals refine(HB1.out _).mono ?_
 all_goals rintro e w2 ⟨rfl,rfl⟩
 all_goals go_wp2_with fail
 all_goals refine(HB2.out _).mono ?_
 all_goals rintro e w2 ⟨rfl,rfl⟩
 all_goals go_wp2_with fail
 all_goals refine(HB3.out _).mono ?_
 all_goals rintro e w2 ⟨rfl,rfl⟩
 all_goals go_wp2_with fail
 all_goals refine(HB4.out _).mono ?_
 all_goals rintro e w2 ⟨rfl,rfl⟩
 all_goals go_wp2_with fail
 all_goals refine(HB5.out _).mono ?_
 all_goals rintro e w2 ⟨rfl,rfl⟩
 all_goals go_wp2_with fail
 all_goals go_ret
 all_goals exact⟨aB HV.out.symm,HZ.out⟩
open Go.ChangeShapes Go.WideShapes
structure RE(w:World)(B:Nat)(p:Pc):Prop where
 c0:w.cell? ⟨B,0,none⟩=some (.string p.src)
 c1:w.cell? ⟨B,1,none⟩=some (.string p.dst)
 c2:w.cell? ⟨B,2,none⟩=some (iV p.UU)
 c3:w.cell? ⟨B,3,none⟩=some (iV p.id)
 c4:w.cell? ⟨B,4,none⟩=some (iV p.off)
 c5:w.cell? ⟨B,5,none⟩=some (.bool p.more)
 c6:w.cell? ⟨B,6,none⟩=some (.string p.data)
 c7:w.cell? ⟨B,7,none⟩=some (iV p.since)
theorem wP(n:Int)(w:World) :
  Cw 62 #[iV n] w (.bool (bS n)):=by
 by_cases h1:0≤n
 ·by_cases h2:n≤1000000000
  ·have HV:Hid (bS n=true):=by unfold Hid bS aM;simp[h1,h2]
   go_enter Tryz.func62,Tryz.ntmps62
   go_wp2_with fail
   go_ret;exact⟨aB (by rw[HV.out]),rfl⟩
  ·have HV:Hid (bS n=false):=by unfold Hid bS aM;simp[h2]
   go_enter Tryz.func62,Tryz.ntmps62
   go_wp2_with fail
   go_ret;exact⟨aB (by rw[HV.out]),rfl⟩
 ·have HV:Hid (bS n=false):=by unfold Hid bS aM;simp[h1]
  have h1':n < 0:=by omega
  go_enter Tryz.func62,Tryz.ntmps62
  go_wp2_with fail
  go_ret;exact⟨aB (by rw[HV.out]),rfl⟩
theorem tS(pa:OA)(pc:Nat)(p:Pl)(ba bo:OA)(ca cb:Nat)(x:Bb)(t:Tc)(now:Int)(w:World)(hlp:p.VA.length≤1048576)(hpc:p.VA.length≤pc)(hsz:∀s∈p.VA,s.size≤1048576)(hs1:t.addr.size≤1048576)(hs2:t.peer.size≤1048576)(hl1:x.VC.length≤1048576)(hl2:x.UZ.length≤1048576)(hp:bP bX 1 w pa p.VA)(hx:dI w ba bo x) :
  Calls Tryz.prog 89 #[jQ pa pc p,iQ ba bo ca cb x,qF t,iV now] w fun e w'=>mK w.heap.size (dB p x t now) e w'∧Below w.heap.size w w':=by
 obtain⟨UU,UY,addr,port,peer,UV,VB⟩:=t;dsimp only at hs1 hs2;have HBR:Hid (∀W,Below w.heap.size w W→Cb 13 #[.agg (bM pa pc p).toArray,.agg (bF ba ca bo cb x).toArray] W (.bool (fS p x))):=fun W hW=>pZ p x pa pc ba bo ca cb W hlp hpc hsz hl1 hl2 (hp.below hW) (hx.below hW)
 have HTM:Hid (∀W,Cw 62 #[iV now] W (.bool (bS now))):=fun W=>wP now W
 have HTO:Hid (∀W,Cb 125 #[.agg (eO UU UY addr port peer UV VB).toArray] W (.bool (bY ⟨UU,UY,addr,port,peer,UV,VB⟩))):=fun W=>xV ⟨UU,UY,addr,port,peer,UV,VB⟩ W hs1 hs2
 have HGO:Hid (∀W,(fS p x&&bS now&&bY ⟨UU,UY,addr,port,peer,UV,VB⟩)=true→Below w.heap.size w W→Calls Tryz.prog 114 #[.agg (bM pa pc p).toArray,.agg (bF ba ca bo cb x).toArray,.agg (eO UU UY addr port peer UV VB).toArray,iV now] W fun e w'=>mK W.heap.size (gF p x ⟨UU,UY,addr,port,peer,UV,VB⟩ now) e w'∧Below W.heap.size W w'):=fun W hok hW=>by
  have hb:(fS p x=true∧bS now=true)∧bY ⟨UU,UY,addr,port,peer,UV,VB⟩=true:=by simpa only[TP] using hok
  obtain⟨⟨h1,h2⟩,h3⟩:=hb;have hpo:cT p=true:=by unfold fS at h1;simp only[TP]at h1;first | exact h1.1 | exact h1.1.1 | exact h1.1.1.1 | exact h1.1.1.1.1 | exact h1.1.1.1.1.1 | exact h1.1.1.1.1.1.1
  have hpt:0≤port∧port≤65535:=by
   unfold bY jS aM at h3;simp only[TP,TU]at h3;omega
  exact ED pa pc p ba bo ca cb x ⟨UU,UY,addr,port,peer,UV,VB⟩ now W hpo h2 hs1 hpt.1 hpt.2 hl1 hl2 (hp.below hW) (hx.below hW)
 have HV:Hid (dB p x ⟨UU,UY,addr,port,peer,UV,VB⟩ now=if (fS p x&&bS now&&bY ⟨UU,UY,addr,port,peer,UV,VB⟩)=true then gF p x ⟨UU,UY,addr,port,peer,UV,VB⟩ now else lB 1):=rfl;generalize dB p x ⟨UU,UY,addr,port,peer,UV,VB⟩ now=ans at *;generalize gF p x ⟨UU,UY,addr,port,peer,UV,VB⟩ now=nv at *;generalize fS p x=b1 at *;generalize bS now=b2 at *;generalize bY ⟨UU,UY,addr,port,peer,UV,VB⟩=b3 at *;have hun:undef=Value.tuple #[]:=rfl;have hRw:w.heap.size≤w.heap.size+1+1+1:=by omega
 have e0:aA ((aW (aW (aW w (bM pa pc p) 27) (bF ba ca bo cb x) 31) (eO UU UY addr port peer UV VB) 89).alloc (.cells iG.toArray 104)) (w.heap.size) (bM pa pc p):=by
  have h:=aA.new w (bM pa pc p) 27;try simp only[TQ]at h
  exact(((h.alloc _).alloc _).alloc _)
 have e1:aA ((aW (aW (aW w (bM pa pc p) 27) (bF ba ca bo cb x) 31) (eO UU UY addr port peer UV VB) 89).alloc (.cells iG.toArray 104)) (w.heap.size+1) (bF ba ca bo cb x):=by
  have h:=aA.new (w.alloc (.cells (bM pa pc p).toArray 27)) (bF ba ca bo cb x) 31;try simp only[TQ]at h
  exact((h.alloc _).alloc _)
 have e2:aA ((aW (aW (aW w (bM pa pc p) 27) (bF ba ca bo cb x) 31) (eO UU UY addr port peer UV VB) 89).alloc (.cells iG.toArray 104)) (w.heap.size+1+1) (eO UU UY addr port peer UV VB):=by
  have h:=aA.new ((aW w (bM pa pc p) 27).alloc (.cells (bF ba ca bo cb x).toArray 31)) (eO UU UY addr port peer UV VB) 89;try simp only[TQ]at h
  exact(h.alloc _)
 have e3:aA ((aW (aW (aW w (bM pa pc p) 27) (bF ba ca bo cb x) 31) (eO UU UY addr port peer UV VB) 89).alloc (.cells iG.toArray 104)) (w.heap.size+1+1+1) iG:=by
  have h:=aA.new ((aW (aW w (bM pa pc p) 27) (bF ba ca bo cb x) 31).alloc (.cells (eO UU UY addr port peer UV VB).toArray 89)) iG 104;try simp only[TQ]at h
  exact h
 have HS0:Hid (dX w [(w.heap.size,(bM pa pc p)),(w.heap.size+1,(bF ba ca bo cb x)),(w.heap.size+1+1,(eO UU UY addr port peer UV VB)),(w.heap.size+1+1+1,iG)] ((aW (aW (aW w (bM pa pc p) 27) (bF ba ca bo cb x) 31) (eO UU UY addr port peer UV VB) 89).alloc (.cells iG.toArray 104))):=by
  refine⟨fun e he=>?_,((((bR.alloc lR _).alloc (by simp only[TQ];omega) _).alloc (by simp only[TQ];omega) _).alloc (by simp only[TQ];omega) _),fun e he=>?_⟩
  ·simp only[TW,TV,or_false]at he;rcases he with rfl|rfl|rfl|rfl
   ·exact e0
   ·exact e1
   ·exact e2
   ·exact e3
  ·simp only[TW,TV,or_false]at he;rcases he with rfl|rfl|rfl|rfl<;>simp
 clear e0 e1 e2 e3 hp hx hsz;unfold jQ iQ qF;go_enter Tryz.func89,Tryz.ntmps89
 go_upto_region 1 with fail
 generalize World.alloc _ _=W at *;go_cut [22] (fun v wx=>v=.bool (!(b1&&b2&&b3))∧dX w [(w.heap.size,(bM pa pc p)),(w.heap.size+1,(bF ba ca bo cb x)),(w.heap.size+1+1,(eO UU UY addr port peer UV VB)),(w.heap.size+1+1+1,iG)] wx)
 case first=>
  clear HV HGO;try have hun:undef=Value.tuple #[]:=rfl
  have HHp:=HS0.out.at cO;obtain⟨p0,p1,p2,p3,p4,p5,p6,p7,p8,p9⟩:=HHp.c10;clear HHp;have HHk:=HS0.out.at eB;obtain⟨k0,k1⟩:=HHk.c2;clear HHk;go_wp2_with fail
  refine(HBR.out _ HS0.out.b).mono ?_;rintro e W1 ⟨rfl,q1⟩;have S1:Hid _:=HS0.out.kept q1;clear q1;have HHt:=S1.out.at eX;obtain⟨t0,t1,t2,t3,t4,t5,t6⟩:=HHt.c7;clear HHt
  cases b1 with
  | false=>
   go_wp2_with fail
   go_meet;exact⟨rfl,S1.out⟩
  | true=>
  go_wp2_with fail
  refine(HTM.out _).mono ?_;rintro e W1 ⟨rfl,rfl⟩
  cases b2 with
  | false=>
   go_wp2_with fail
   go_meet;exact⟨rfl,S1.out⟩
  | true=>
  go_wp2_with fail
  refine(HTO.out _).mono ?_;rintro e W2 ⟨rfl,q2⟩;have S2:Hid _:=S1.out.kept q2;clear q2
  cases b3;all_goals
   go_wp2_with fail
   go_meet;exact⟨rfl,S2.out⟩
 case rest=>
 obtain⟨rfl,hS⟩:=hcut;have S3:Hid _:=hS;clear hS HS0 HBR HTM HTO;generalize wc=W3 at *
 cases hok:(b1&&b2&&b3) with
 | false=>
  have HW:Hid (ans=lB 1):=by unfold Hid;rw[HV.out,hok];rfl
  clear HGO HV hok;have HX:Hid (ans=lB (1)):=by unfold Hid;rw[HW.out]
  have HHz:=S3.out.at iR;obtain⟨z0,z1,z2,z3,z4,z5,z6,z7⟩:=HHz.c8;obtain⟨zf0,zf1,zf2,zf3,zf4,zf5,zf6,zf7⟩:=HHz.f8;obtain⟨HRR,RB⟩:=vD HHz S3.out.b hRw (.slice none 0 0) (.slice none 0 0) (iV 0) eS (iV 0) eS (iV 0) (iV (1));clear HHz;go_wp2_with fail
  exact UQ (aG Tryz.results89 _ _ (w.heap.size+1+1+1) [.slice none 0 0,.slice none 0 0,iV 0,eS,iV 0,eS,iV 0,iV (1)] _ rfl HRR.out Tryz.underlying104 rfl (show (Tryz.prog.info? 104).map (·.size)=some 8 by kernel_rfl)) rfl (And.intro (by rw[HX.out];exact⟨none,none,0,0,rfl,.inl rfl,.inl rfl,fun g h e1=>by simp at e1⟩) RB.out)
 | true=>
  have HX:Hid (ans=nv):=by unfold Hid;rw[HV.out,if_pos hok]
  have HNC:Hid _:=fun W=>HGO.out W hok
  clear HGO HV hok;have HHp:=S3.out.at cO;obtain⟨p0,p1,p2,p3,p4,p5,p6,p7,p8,p9⟩:=HHp.c10;clear HHp;have HHk:=S3.out.at eB;obtain⟨k0,k1⟩:=HHk.c2;clear HHk;have HHt:=S3.out.at eX;obtain⟨t0,t1,t2,t3,t4,t5,t6⟩:=HHt.c7;clear HHt;have hRl:w.heap.size+1+1+1 < W3.heap.size:=(S3.out.lts _ iR).1;go_wp2_with fail
  refine(HNC.out _ S3.out.b).mono ?_;rintro e W4 ⟨⟨a1,a2,c1,c2,rfl,hown⟩,q4⟩;have S4:Hid _:=S3.out.kept q4;have HHz:=S4.out.at iR;obtain⟨z0,z1,z2,z3,z4,z5,z6,z7⟩:=HHz.c8;obtain⟨zf0,zf1,zf2,zf3,zf4,zf5,zf6,zf7⟩:=HHz.f8;obtain⟨HRR,RB⟩:=vD HHz S4.out.b hRw (.slice a1 nv.bib.VC.length c1) (.slice a2 nv.bib.UZ.length c2) (iV nv.bind.UU) (.string nv.bind.inn) (iV nv.bind.UW) (.string nv.bind.out) (iV nv.bind.UX) (iV nv.code);clear HHz;have hwl:=S3.out.b.size;have HOW:Hid (dD w.heap.size ((sW (sW (sW (sW (sW (sW (sW W4 (w.heap.size+1+1+1) 0 (.slice a1 nv.bib.VC.length c1)) (w.heap.size+1+1+1) 1 (.slice a2 nv.bib.UZ.length c2)) (w.heap.size+1+1+1) 2 (iV nv.bind.UU)) (w.heap.size+1+1+1) 3 (.string nv.bind.inn)) (w.heap.size+1+1+1) 4 (iV nv.bind.UW)) (w.heap.size+1+1+1) 5 (.string nv.bind.out)) (w.heap.size+1+1+1) 6 (iV nv.bind.UX)).setCell ⟨w.heap.size+1+1+1,7,none⟩ (iV nv.code)) a1 a2 nv.bib):=⟨(hown.bd.grown (aC (aC (aC (aC (aC (aC (aC (aC (World.grownBy.refl _ _) _) _) _) _) _) _) _) _) hRl).down hwl,(hown.ss.grown (aC (aC (aC (aC (aC (aC (aC (aC (World.grownBy.refl _ _) _) _) _) _) _) _) _) _) hRl).down hwl,hown.ne⟩;clear hown q4;unfold IP;go_wp2_with fail
  exact UQ (aG Tryz.results89 _ _ _ _ _ rfl HRR.out Tryz.underlying104 rfl (show (Tryz.prog.info? 104).map (·.size)=some 8 by kernel_rfl)) rfl (And.intro (by rw[HX.out];exact⟨a1,a2,c1,c2,rfl,HOW.out⟩) RB.out)
theorem CM(B:Nat)(sa:OA)(len cap:Nat)(size:Int)(w:World)(hl:len≤1048576)(hs:iT w B sa len cap size) :
  Calls Tryz.prog 54 #[.pointer (some ⟨B,0,none⟩)] w (PP w B sa len cap size):=by
 have hBW:B < w.heap.size:=(Dr.start hs).hB;have D0:Hid (Dr w B sa len cap size ((aW w jU 27).alloc (.cells #[.slice none 0 0,.slice none 0 0] 31))):=((Dr.start hs).alloc _).alloc _;have O0:Hid (aA ((aW w jU 27).alloc (.cells #[.slice none 0 0,.slice none 0 0] 31)) w.heap.size gL):=(aA.new w gL 27).alloc _;have O1:Hid (aA ((aW w jU 27).alloc (.cells #[.slice none 0 0,.slice none 0 0] 31)) (w.heap.size+1) [.slice none 0 0,.slice none 0 0]):=by
  have h:=aA.new (w.alloc (.cells jU.toArray 27)) [.slice none 0 0,.slice none 0 0] 31;rw[TQ]at h;exact h
 have HZ:Hid (((aW w jU 27).alloc (.cells #[.slice none 0 0,.slice none 0 0] 31)).heap.size=w.heap.size+2):=by unfold Hid;simp
 clear hs;go_enter Tryz.func54,Tryz.ntmps54
 go_upto_region 1 with fail
 generalize World.alloc _ _=W0 at *;go_wp2_with fail
 refine(zR B sa len cap size _ hl D0.out.src).mono ?_;rintro e W1 ⟨pa,pc,p,rfl,hpd,hpc,hsl,hfar,hs1,hg1⟩;have HPD:Hid (pH p):=hpd;have hpl:p.VA.length≤3:=hpd.2.1;have HPZ:Hid (∀s∈p.VA,s.size≤1048576):=fun s h=>by have:=hpd.2.2 s h;omega
 obtain⟨gp,op,hpa,hgp,-⟩:=hsl.at (k:=0) (by have:=hpd.1;omega);have hgf:w.heap.size+2≤gp:=by have:=hfar gp op hpa;have:=HZ.out;omega
 have HPA:Hid (pa=some ⟨gp,op,none⟩):=hpa;clear hpa;have hW1:w.heap.size+2≤W1.heap.size:=by have:=hg1.size;have:=HZ.out;omega
 have S2:Hid (BS w B sa len cap size W1.heap.size (W1.heap.size+1) (W1.heap.size+2) pa pc p none none 0 0 NR ((aW W1 (bM pa pc p) 27).alloc (.cells #[.slice none 0 0,.slice none 0 0] 31))):=by
  have D1:=D0.out.draw hs1 hg1;have E0:=O0.out.grown (by simp[gL]) hg1 (by simp;omega);have E1:=O1.out.grown (by simp) hg1 (by simp;omega);have bx:=aA.new (W1.alloc (.cells (bM pa pc p).toArray 27)) [.slice none 0 0,.slice none 0 0] 31;rw[TQ]at bx;exact⟨(D1.alloc _).alloc _,(E0.alloc _).alloc _,(E1.alloc _).alloc _,(aA.new W1 (EY pa pc p) 27).alloc _,bx,hsl.below ((bR.alloc lR _).alloc (by simp) _),⟨.inl rfl,.inl rfl⟩,fun g o e=>by rw[HPA.out]at e;injection e with e;injection e with e1 e2;omega,.inl rfl,.inl rfl,hW1,by omega,by omega,by simp⟩
 clear D0 O0 O1 hsl hfar hs1 hg1 hpd;unfold jQ;go_upto_region 3 with fail
 generalize World.alloc _ _=W2 at *;go_wp2_with fail
 refine(aT 8 B sa len cap size _ (by omega) (by omega) hl S2.out.dr.src).mono ?_;rintro e W3 ⟨r0,rfl,lr0,ur0,hs,hg⟩;obtain⟨k0,rfl⟩:=TZ lr0;have S3:Hid (BS w B sa len cap size W1.heap.size (W1.heap.size+1) (W1.heap.size+2) pa pc p none none 0 0 NR W3):=S2.out.draw hs hg;clear hs hg S2;go_wp2_with fail
 go_loopw [7,8] (fun nv kv wr=>∃(x:Bb) (ba bo:OA) (ca cb k n:Nat) (now:Int),nv=iV now∧kv=iV k∧k+n≤7∧0≤now∧now+4*k≤100∧LB p n x∧BS w B sa len cap size W1.heap.size (W1.heap.size+1) (W1.heap.size+2) pa pc p ba bo ca cb x wr) (fun _ kv _=>(intOf kv).toNat)
 case atStart=>exact⟨NR,none,none,0,0,k0,0,0,rfl,rfl,by omega,by omega,by omega,⟨.inl rfl,by decide,by decide⟩,S3.out⟩
 case round=>
  obtain⟨x,ba,bo,ca,cb,k,n,now,rfl,rfl,hkn,hn0,hn1,hdx,hS⟩:=hrel;have S4:Hid (BS w B sa len cap size W1.heap.size (W1.heap.size+1) (W1.heap.size+2) pa pc p ba bo ca cb x wr):=hS;have HDX:Hid (LB p n x):=hdx;have HBD:Hid (nM x):=hdx.dr HPD.out (by omega);have hxb:x.VC.length≤8:=by have:=hdx.2.1;omega
  have hxs:x.UZ.length≤8:=by have:=hdx.2.2;omega
  clear hS hdx S3 lr0 ur0
  cases k with
  | succ k=>
   have hkI:(0:Int) < ((k+1:Nat):Int):=by omega
   go_wp2_with fail
   refine(aT 4 B sa len cap size _ (by omega) (by omega) hl S4.out.dr.src).mono ?_;rintro e U1 ⟨r1,rfl,lr1,ur1,hs,hg⟩;have S5:Hid (BS w B sa len cap size W1.heap.size (W1.heap.size+1) (W1.heap.size+2) pa pc p ba bo ca cb x U1):=S4.out.draw hs hg;clear hs hg S4;go_upto_region 8 with fail
   go_cut [9] (fun v wx=>∃Y o a7 b7 c7 d7,v=.pointer (some ⟨Y,0,none⟩)∧(o.code=0→LB p (n+1) o.bib)∧(W1.heap.size+2)≤Y∧BS w B sa len cap size W1.heap.size (W1.heap.size+1) (W1.heap.size+2) pa pc p ba bo ca cb x wx∧aA wx Y (TB a7 b7 c7 d7 o)∧dI wx a7 b7 o.bib∧(o.bib.VC=[]∨∀g q,a7=some ⟨g,q,none⟩→(W1.heap.size+2)≤g)∧(o.bib.UZ=[]∨∀g q,b7=some ⟨g,q,none⟩→(W1.heap.size+2)≤g))
   case first=>
    rename_i J K2 hJ hK2;have hBU:B < U1.heap.size:=by have:=S5.out.hP;omega
    have hbU:(W1.heap.size+2)≤U1.heap.size:=S5.out.hP.2.2.2;have HOA:Hid (x.VC=[]∨∀g q,ba=some ⟨g,q,none⟩→g < U1.heap.size):=by
     rcases S5.out.bb.bd with h|⟨b1,o1,h1,h2,-⟩
     ·exact .inl h
     ·exact .inr fun g q e=>by rw[h1]at e;injection e with e;injection e with e1 e2;omega
    have HOB:Hid (x.UZ=[]∨∀g q,bo=some ⟨g,q,none⟩→g < U1.heap.size):=by
     rcases S5.out.bb.ss with h|⟨b1,o1,h1,h2,-⟩
     ·exact .inl h
     ·exact .inr fun g q e=>by rw[h1]at e;injection e with e;injection e with e1 e2;omega
    refine eU (EB B) (fun wx=>BS w B sa len cap size W1.heap.size (W1.heap.size+1) (W1.heap.size+2) pa pc p ba bo ca cb x wx∧U1.heap.size≤wx.heap.size) [23,24,25,26,27,28,29,30,9] (by kernel_rfl) (by kernel_rfl) (⟨S5.out.below bR.drew,Nat.le_refl _⟩) ?_;iterate 5 (apply cP.u xQ rfl;(·intro K' a wy ho hd hI hK;simp[aS,aF,aD,Region.binds]at ho hd;have kC:=hI.1.bp.c10;have kC:=hI.1.bx.c2;go_simp;(try go_bits);exact hK _ rfl);dsimp only[nA,cA])
    refine cP.rel (n:=5) (RZ) (QY) [_,_,_,_,_,RZ] rfl rfl ?_ ?_
    ·intro K' a wy ho hd hI hK;rw[wN rfl];have q2:=hd ⟨2,.data⟩ (by simp) rfl;have q3:=hd ⟨3,.data⟩ (by simp) rfl;have q4:=hd ⟨4,.data⟩ (by simp) rfl;simp[aS,aF,aD]at q2 q3 q4;clear hd ho;go_simp;refine(lC B sa len cap size pa pc p ba bo ca cb x wy hl HPD.out HBD.out hI.1.pl hI.1.bb (fun g o e=>by have:=hI.1.fp g o e;omega) (hI.1.fa.imp id fun f g o e=>by have:=f g o e;omega) (hI.1.fb.imp id fun f g o e=>by have:=f g o e;omega) hI.1.dr.src).mono ?_;rintro e wz ⟨t,rfl,ht,hsz,hgz⟩;exact hK _ _ ⟨t,rfl,ht⟩ hgz ⟨hI.1.draw hsz hgz,UA hI.2 hgz.size⟩
    (apply cP.u xQ rfl;(·intro K' a wy ho hd hI hK;simp[aS,aF,aD,Region.binds]at ho hd;go_simp;(try go_bits);exact hK _ rfl);dsimp only[nA,cA])
    refine cP.rel (n:=7) (SJ U1.heap.size B p x (now+r1)) (QS) [_,_,_,_,_,_,_,SJ U1.heap.size B p x (now+r1)] rfl rfl ?_ ?_
    ·intro K' a wy ho hd hI hK;rw[wN rfl];have q0:=hd ⟨0,.data⟩ (by simp) rfl;have q1:=hd ⟨1,.data⟩ (by simp) rfl;simp[aS,aF,aD]at q0 q1;obtain⟨t5,e5,d5⟩: RZ (aD a 28) wy:=hd ⟨5,.data⟩ (by simp) rfl;simp[aD]at e5;have q6:=hd ⟨6,.data⟩ (by simp) rfl;simp[aS,aF,aD]at q6;clear hd ho;go_simp;refine(tS pa pc p ba bo ca cb x t5 (now+r1) wy (by omega) hpc HPZ.out (by have:=d5.1;omega) (by have:=d5.2.1;omega) (by omega) (by omega) hI.1.pl hI.1.bb).mono ?_;rintro e wz ⟨⟨a',b',c',d',rfl,ho⟩,hz⟩;exact hK _ _ ⟨t5,a',b',c',d',rfl,hBU,DM ho.bd hI.2,DM ho.ss hI.2⟩ (EB.of hz) ⟨hI.1.below hz,UA hI.2 hz.size⟩
    refine cP.rel (n:=8) (FG U1.heap.size B iG) (BF (by simp)) [_,_,_,_,_,_,_,_,FG U1.heap.size B iG] rfl rfl ?_ ?_
    ·intro K' a wy ho hd hI hK;rw[wN rfl];clear hd ho;go_simp;exact hK _ _ ⟨wy.heap.size,rfl,hI.2,by have:=hI.2;omega,aA.new wy iG _⟩ (EB.of (bR.alloc lR _)) ⟨hI.1.below (bR.alloc lR _),by have:=hI.2;simp;omega⟩
    intro X wz hR hI;obtain⟨x0,x1,x2,x3,x4,x5,x6,x7,x8,-⟩:=hR;obtain⟨t7,a7,b7,c7,d7,e7,-,o7,p7⟩:=x7;obtain⟨Y,e8,hYn,hYB,hYc⟩:=x8;simp only[aF]at x0 x1 x2 x3 x4 x6;simp only[aE,x0,x1,x2,x3,x4,aE,x6,e7,e8];clear x0 x1 x2 x3 x4 x6;have HO:Hid ((dB p x t7 (now+r1)).code=0→LB p (n+1) (dB p x t7 (now+r1)).bib):=HDX.out.touch;unfold IP;generalize dB p x t7 (now+r1)=o at *;have na:=IZ o7 (fun q=>⟨_,_,rfl⟩) hYc;have nb:=IZ p7 (fun q=>⟨_,_,rfl⟩) hYc;have fa:=(JA o7).imp id fun f g q e=>UA hbU (f g q e)
    have fb:=(JA p7).imp id fun f g q e=>UA hbU (f g q e)
    have ma:x.VC=[]∨∀g q,ba=some ⟨g,q,none⟩→g≠Y:=HOA.out.imp id fun f g q e=>by have:=f g q e;omega
    have mb:x.UZ=[]∨∀g q,bo=some ⟨g,q,none⟩→g≠Y:=HOB.out.imp id fun f g q e=>by have:=f g q e;omega
    obtain⟨z0,z1,z2,z3,z4,z5,z6,z7⟩:=hYc.c8;obtain⟨zf0,zf1,zf2,zf3,zf4,zf5,zf6,zf7⟩:=hYc.f8;have HC:Hid (aA ((sW (sW (sW (sW (sW (sW (sW wz Y 0 (.slice a7 o.bib.VC.length c7)) Y 1 (.slice b7 o.bib.UZ.length d7)) Y 2 (iV o.bind.UU)) Y 3 (.string o.bind.inn)) Y 4 (iV o.bind.UW)) Y 5 (.string o.bind.out)) Y 6 (iV o.bind.UX)).setCell ⟨Y,7,none⟩ (iV o.code)) Y (TB a7 b7 c7 d7 o)):=((((((((hYc.set 0 (.slice a7 o.bib.VC.length c7)).set 1 (.slice b7 o.bib.UZ.length d7)).set 2 (iV o.bind.UU)).set 3 (.string o.bind.inn)).set 4 (iV o.bind.UW)).set 5 (.string o.bind.out)).set 6 (iV o.bind.UX)).set 7 (iV o.code));have HS:Hid (BS w B sa len cap size W1.heap.size (W1.heap.size+1) (W1.heap.size+2) pa pc p ba bo ca cb x ((sW (sW (sW (sW (sW (sW (sW wz Y 0 (.slice a7 o.bib.VC.length c7)) Y 1 (.slice b7 o.bib.UZ.length d7)) Y 2 (iV o.bind.UU)) Y 3 (.string o.bind.inn)) Y 4 (iV o.bind.UW)) Y 5 (.string o.bind.out)) Y 6 (iV o.bind.UX)).setCell ⟨Y,7,none⟩ (iV o.code))):=((((((((hI.1.other Y 0 (.slice a7 o.bib.VC.length c7) (by omega) ma mb).other Y 1 (.slice b7 o.bib.UZ.length d7) (by omega) ma mb).other Y 2 (iV o.bind.UU) (by omega) ma mb).other Y 3 (.string o.bind.inn) (by omega) ma mb).other Y 4 (iV o.bind.UW) (by omega) ma mb).other Y 5 (.string o.bind.out) (by omega) ma mb).other Y 6 (iV o.bind.UX) (by omega) ma mb).other Y 7 (iV o.code) (by omega) ma mb);have HI:Hid (dI ((sW (sW (sW (sW (sW (sW (sW wz Y 0 (.slice a7 o.bib.VC.length c7)) Y 1 (.slice b7 o.bib.UZ.length d7)) Y 2 (iV o.bind.UU)) Y 3 (.string o.bind.inn)) Y 4 (iV o.bind.UW)) Y 5 (.string o.bind.out)) Y 6 (iV o.bind.UX)).setCell ⟨Y,7,none⟩ (iV o.code)) a7 b7 o.bib):=⟨((((((((o7.is.grown (aH _ Y 0 _) na).grown (aH _ Y 1 _) na).grown (aH _ Y 2 _) na).grown (aH _ Y 3 _) na).grown (aH _ Y 4 _) na).grown (aH _ Y 5 _) na).grown (aH _ Y 6 _) na).grown (aH _ Y 7 _) na),((((((((p7.is.grown (aH _ Y 0 _) nb).grown (aH _ Y 1 _) nb).grown (aH _ Y 2 _) nb).grown (aH _ Y 3 _) nb).grown (aH _ Y 4 _) nb).grown (aH _ Y 5 _) nb).grown (aH _ Y 6 _) nb).grown (aH _ Y 7 _) nb)⟩;clear hYc hI o7 p7 na nb ma mb;intro K5 hK5;go_simp;refine hK5 _ _ ?_;show Exit.then _ _ _ _ _;refine hK2 _ _ (hJ _ _ ?_);(repeat apply Exists.intro)
    exact⟨⟨Y,o,a7,b7,c7,d7,rfl,HO.out,by omega,HS.out,HC.out,HI.out,fa,fb⟩,rfl⟩
   case rest=>
   obtain⟨Y,o,a7,b7,c7,d7,rfl,ho,hYb,hS,hY,hbi,hfa,hfb⟩:=hcut;have HO:Hid (o.code=0→LB p (n+1) o.bib):=ho;have S6:Hid (BS w B sa len cap size W1.heap.size (W1.heap.size+1) (W1.heap.size+2) pa pc p ba bo ca cb x wc):=hS;have HBI:Hid (dI wc a7 b7 o.bib):=hbi;obtain⟨y0,y1,-,-,-,-,-,y7⟩:=hY.c8;obtain⟨x0,x1⟩:=S6.out.bx.c2;obtain⟨xf0,xf1⟩:=S6.out.bx.f2;clear ho hS hbi hY S5;by_cases hc:o.code=0
   ·have S7:Hid (BS w B sa len cap size W1.heap.size (W1.heap.size+1) (W1.heap.size+2) pa pc p a7 b7 c7 d7 o.bib ((sW wc (W1.heap.size+1) 0 (.slice a7 o.bib.VC.length c7)).setCell ⟨W1.heap.size+1,1,none⟩ (.slice b7 o.bib.UZ.length d7))):=S6.out.setX HBI.out hfa hfb;have HDN:=HO.out hc;have hcb:(o.code==0)=true:=by simp[hc]
    clear hfa hfb S6 HBI;go_wp2_with fail
    go_roundw
    case rel=>exact⟨o.bib,a7,b7,c7,d7,k,n+1,now+r1,by first | rfl | go_num,by first | go_num | (congr 1;omega),by omega,by omega,by omega,HDN,S7.out⟩
    case measure=>simp[intOf];try omega
   ·have hcb:(o.code==0)=false:=by simp[hc]
    go_wp2_with fail
    go_roundw
    case rel=>exact⟨x,ba,bo,ca,cb,k,n,now+r1,by first | rfl | go_num,by first | go_num | (congr 1;omega),by omega,by omega,by omega,HDX.out,S6.out⟩
    case measure=>simp[intOf];try omega
  | zero=>
   go_wp2_with fail
   refine(bO 15 B sa len cap size _ (by omega) hl S4.out.dr.src).mono ?_;rintro e U2 ⟨c2,rfl,hs,hg⟩;have S7:Hid (BS w B sa len cap size W1.heap.size (W1.heap.size+1) (W1.heap.size+2) pa pc p ba bo ca cb x U2):=S4.out.draw hs hg;clear hs hg S4;go_upto_if 37 with fail
   go_cut [] (fun wx=>∃y a7 b7 c7 d7,nM y∧BS w B sa len cap size W1.heap.size (W1.heap.size+1) (W1.heap.size+2) pa pc p a7 b7 c7 d7 y wx)
   case first=>
    cases c2 with
    | false=>
     go_wp2_with fail
     go_meet;exact⟨x,ba,bo,ca,cb,HBD.out,S7.out⟩
    | true=>
     obtain⟨x0,x1⟩:=S7.out.bx.c2;go_wp2_with fail
     refine(xL B sa len cap size ba bo ca cb x U2 hl HBD.out ⟨by omega,by omega⟩ HDX.out.ne S7.out.bb S7.out.dr.src).mono ?_;rintro e U3 ⟨y,a7,b7,c7,d7,rfl,hy,hbi,hfa,hfb,hs,hg⟩;have S8:=S7.out.draw hs hg;obtain⟨z0,z1⟩:=S8.bx.c2;obtain⟨zf0,zf1⟩:=S8.bx.f2;have hU:=S7.out.hP.2.2.2;have S9:Hid (BS w B sa len cap size W1.heap.size (W1.heap.size+1) (W1.heap.size+2) pa pc p a7 b7 c7 d7 y ((U3.setCell ⟨W1.heap.size+1,0,none⟩ (.slice a7 y.VC.length c7)).setCell ⟨W1.heap.size+1,1,none⟩ (.slice b7 y.UZ.length d7))):=S8.setX hbi (.inr fun g o e=>UA hU (hfa g o e)) (.inr fun g o e=>UA hU (hfb g o e));have HY:Hid (nM y):=hy;clear hs hg S7 S8 hbi hfa hfb x0 x1 hy;unfold iQ;go_wp2_with fail
     go_meet;exact⟨y,a7,b7,c7,d7,HY.out,S9.out⟩
   case rest=>
   obtain⟨y,a7,b7,c7,d7,hy,hS⟩:=hcut;have HY:Hid (nM y):=hy;have S8:Hid (BS w B sa len cap size W1.heap.size (W1.heap.size+1) (W1.heap.size+2) pa pc p a7 b7 c7 d7 y wc):=hS;clear hy hS S7 HBD HDX hxb hxs;obtain⟨p0,p1,p2,p3,p4,p5,p6,p7,p8,p9⟩:=S8.out.bp.c10;obtain⟨b0,b1⟩:=S8.out.bx.c2;obtain⟨z0,z1,z2,z3,z4,z5,z6,z7,z8,z9⟩:=S8.out.r0.c10;have zf0:=S8.out.r0.free (j:=0) (by simp[gL]);have zf1:=S8.out.r0.free (j:=1) (by simp[gL]);have zf2:=S8.out.r0.free (j:=2) (by simp[gL]);have zf3:=S8.out.r0.free (j:=3) (by simp[gL]);have zf4:=S8.out.r0.free (j:=4) (by simp[gL]);have zf5:=S8.out.r0.free (j:=5) (by simp[gL]);have zf6:=S8.out.r0.free (j:=6) (by simp[gL]);have zf7:=S8.out.r0.free (j:=7) (by simp[gL]);have zf8:=S8.out.r0.free (j:=8) (by simp[gL]);have zf9:=S8.out.r0.free (j:=9) (by simp[gL]);obtain⟨u0,u1⟩:=S8.out.r1.c2;obtain⟨uf0,uf1⟩:=S8.out.r1.f2;have hPw:W1.heap.size≠w.heap.size:=by omega
   have hXw:W1.heap.size+1≠w.heap.size:=by omega
   have hXw1:W1.heap.size+1≠w.heap.size+1:=by omega
   have hPw1:W1.heap.size≠w.heap.size+1:=by omega
   go_upto_region 13 with fail
   go_cut [4] (fun v wx=>v=iV now∧JF w B sa len cap size pa pc p a7 b7 c7 d7 y wx)
   case first=>
    have g1:w.heap.size≠W1.heap.size:=by omega
    have g2:w.heap.size≠W1.heap.size+1:=by omega
    have g3:w.heap.size+1≠W1.heap.size:=by omega
    go_region_held (fun wy=>wy.cell? ⟨W1.heap.size,0,none⟩=some (.slice pa p.VA.length pc)∧wy.cell? ⟨W1.heap.size,1,none⟩=some (iV p.low)∧wy.cell? ⟨W1.heap.size,2,none⟩=some (iV p.high)∧wy.cell? ⟨W1.heap.size,3,none⟩=some (iV p.most)∧wy.cell? ⟨W1.heap.size,4,none⟩=some (iV p.filter)∧wy.cell? ⟨W1.heap.size,5,none⟩=some (iV p.lv.udp)∧wy.cell? ⟨W1.heap.size,6,none⟩=some (iV p.lv.echo)∧wy.cell? ⟨W1.heap.size,7,none⟩=some (iV p.lv.opening)∧wy.cell? ⟨W1.heap.size,8,none⟩=some (iV p.lv.opn)∧wy.cell? ⟨W1.heap.size,9,none⟩=some (iV p.lv.closing)∧wy.cell? ⟨W1.heap.size+1,0,none⟩=some (.slice a7 y.VC.length c7)∧wy.cell? ⟨W1.heap.size+1,1,none⟩=some (.slice b7 y.UZ.length d7)) (go_keep) (fail)
    go_wp2_with fail
    go_meet;exact⟨rfl,S8.out.fin.drew⟩
   case rest=>
   obtain⟨rfl,hF⟩:=hcut;have HF:Hid (JF w B sa len cap size pa pc p a7 b7 c7 d7 y wc):=hF;have HQ:Hid ((∀g o,pa=some ⟨g,o,none⟩→w.heap.size≤g)∧(y.VC=[]∨∀g o,a7=some ⟨g,o,none⟩→w.heap.size≤g)∧(y.UZ=[]∨∀g o,b7=some ⟨g,o,none⟩→w.heap.size≤g)):=by
    obtain⟨q1,q2,q3,q4⟩:=S8.out.hP;exact⟨fun g o e=>by have:=S8.out.fp g o e;omega,S8.out.fa.imp id fun f g o e=>by have:=f g o e;omega,S8.out.fb.imp id fun f g o e=>by have:=f g o e;omega⟩
   clear hF S8 p0 z0 zf0 p1 z1 zf1 p2 z2 zf2 p3 z3 zf3 p4 z4 zf4 p5 z5 zf5 p6 z6 zf6 p7 z7 zf7 p8 z8 zf8 p9 z9 zf9 b0 u0 uf0 b1 u1 uf1;obtain⟨z0,z1,z2,z3,z4,z5,z6,z7,z8,z9⟩:=HF.out.r0.c10;obtain⟨u0,u1⟩:=HF.out.r1.c2;go_wp2_with fail
   exact UQ (v:=.tuple #[.agg (bM pa pc p).toArray,.agg (bF a7 c7 b7 d7 y).toArray,iV now]) (by simp[results,Tryz.results54,go_sem,z0,z1,z2,z3,z4,z5,z6,z7,z8,z9,u0,u1]) rfl ⟨pa,pc,p,a7,b7,c7,d7,y,now,rfl,HPD.out,hpc,HY.out,hn0,by omega,HF.out.pl,HF.out.bb,HQ.out.1,HQ.out.2.1,HQ.out.2.2,HF.out.dr.src,HF.out.dr.grown⟩
theorem FL{n:Nat}{w w1 W:World}{B:Nat}(h:Below n w w1)(hg:w1.grownBy W (some B))(hB:n≤B)(hn:n≤w1.heap.size):Below n w W :=
 ⟨hg.os.trans h.os,hg.tape.trans h.tape,hg.output.trans h.output,UA h.size hg.size,fun k hk=>by rw[hg.block k (by omega) (by simp;omega),h.block k hk]⟩
theorem aI{α:Type}{en:α→List Value}{n g:Nat}{w:World}{a:OA}{xs:List α}(h:bP en n w a xs)(hne:xs=[]∨∀g' o,a=some ⟨g',o,none⟩→g'≠g)(j:Nat)(u:Value):bP en n (w.setCell ⟨g,j,none⟩ u) a xs:=by
 rcases h with h|⟨b,off,ha,hb,hr⟩
 ·exact .inl h
 ·rcases hne with h0 | hne
  ·exact .inl h0
  ·exact .inr ⟨b,off,ha,by simpa[World.setCell] using hb,fun i hi k v hv=>(World.cell?_setCell_other _ _ _ _ (fun e2=>hne b off ha (by injection e2 with e3 _;exact e3.symm))).trans (hr i hi k v hv)⟩
end Go.Proofs.YtdkepkaflielhaaGreatDoor
