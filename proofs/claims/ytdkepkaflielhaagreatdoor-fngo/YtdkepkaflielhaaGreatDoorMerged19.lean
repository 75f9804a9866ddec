import Derived.Test.YtdkepkaflielhaaGreatDoorMerged18
set_option linter.unusedVariables false
set_option linter.unusedSimpArgs false
set_option maxRecDepth 100000
set_option maxHeartbeats 8000000
namespace Go.Proofs.YtdkepkaflielhaaGreatDoor
open Go.RowKit Go.PlainAid
theorem KO(pa:OA)(pc:Nat)(p:Pl)(ba bo:OA)(ca cb:Nat)(x:Bb)(t:Tc)(c:Bd)(now:Int)(w:World)(hpo:cT p=true)(hnow:bS now=true)(hta:t.addr.size≤1048576)(h0:0≤t.port)(h1:t.port≤65535)(hl1:x.VC.length≤1048576)(hl2:x.UZ.length≤1048576)(hp:bP bX 1 w pa p.VA)(hx:dI w ba bo x) :
  Calls Tryz.prog 157 #[jQ pa pc p,iQ ba bo ca cb x,qF t,jI c,iV now] w fun e w'=>mK w.heap.size (jX p x t c now) e w'∧Below w.heap.size w w':=by
 obtain⟨UU,UY,addr,port,peer,UV,VB⟩:=t;dsimp only at hta h0 h1;have hn:0≤now∧now≤1000000000:=by unfold bS aM at hnow;simp only[TP,TU]at hnow;omega
 obtain⟨hn0,hn1⟩:=hn;have HN:Hid (∀W,Cw 177 #[iV UU,.bool UY,iV VB] W (iV (bB UU UY VB))):=fun W=>EG UU UY VB W
 have HPT:Hid (∀W,Below w.heap.size w W→Cb 178 #[.agg (bM pa pc p).toArray,.agg (bF ba ca bo cb x).toArray,iV UU,.string addr,iV port] W (.tuple #[jI (gG p x.VC UU addr port).1,iV (gG p x.VC UU addr port).2])):=fun W hW=>IC p x pa pc ba bo ca cb UU addr port W hpo hta h0 h1 hl1 hl2 (hp.below hW) (hx.below hW)
 have HCY:Hid (∀W,Below w.heap.size w W→Calls Tryz.prog 126 #[.agg (bF ba ca bo cb x).toArray] W fun e w'=>oA W.heap.size x e w'∧Below W.heap.size W w'):=fun W hW=>rQ x ba bo ca cb W hl1 hl2 (hx.below hW)
 have HBI:Hid (∀(d:Bd) (W:World),Below w.heap.size w W→Cb 33 #[.agg (bF ba ca bo cb x).toArray,iV d.UU,.string d.inn,iV d.UW] W (iV (bG (cD d.UU d.inn d.UW) x.VC))):=fun d W hW=>mU x.VC d.UU d.inn d.UW ba ca _ W hl1 (hx.bd.below hW)
 have HLF:Hid (∀(st:Int) (W:World),Cb 161 #[.agg #[iV p.lv.udp,iV p.lv.echo,iV p.lv.opening,iV p.lv.opn,iV p.lv.closing],iV UU,iV st] W (iV (bT p.lv UU st))):=fun st W=>sX p.lv UU st W
 have HV:Hid (jX p x ⟨UU,UY,addr,port,peer,UV,VB⟩ c now=if bB UU UY VB=0 then lB 6 else if p.most≤(x.UZ.length:Int) then lB 9 else if (if UY=true then (gG p x.VC UU addr port).2 else 0)≠0 then lB (if UY=true then (gG p x.VC UU addr port).2 else 0) else ⟨⟨nU x.VC (if UY=true then (gG p x.VC UU addr port).1 else c),x.UZ++[⟨UU,(if UY=true then (gG p x.VC UU addr port).1 else c).inn,(if UY=true then (gG p x.VC UU addr port).1 else c).UW,peer,UV,bB UU UY VB,now+bT p.lv UU (bB UU UY VB)⟩]⟩,(if UY=true then (gG p x.VC UU addr port).1 else c),0⟩):=rfl;unfold jI at HPT;generalize jX p x ⟨UU,UY,addr,port,peer,UV,VB⟩ c now=ans at *;generalize bB UU UY VB=st at *;replace HLF:=HLF.out st;obtain⟨hf0,hf1⟩:=jO p.lv UU st;have HLG:Hid _:=HLF;clear HLF;generalize bT p.lv UU st=lf at *;generalize (gG p x.VC UU addr port).1=lb at *;generalize (gG p x.VC UU addr port).2=lk at *;obtain⟨d,hd⟩: ∃d,d=(if UY=true then lb else c):=⟨_,rfl⟩;obtain⟨kd,hkd⟩: ∃k,k=(if UY=true then lk else 0):=⟨_,rfl⟩;rw[←hd,←hkd]at HV;have HD:Hid _:=hd;have HKD:Hid _:=hkd;have HNB:Hid (nU x.VC d=if bG (cD d.UU d.inn d.UW) x.VC < 0 then x.VC++[d] else x.VC):=rfl;replace HBI:=HBI.out d;have HBJ:Hid _:=HBI;clear HBI;generalize nU x.VC d=nb at *;generalize bG (cD d.UU d.inn d.UW) x.VC=fi at *;have hun:undef=Value.tuple #[]:=rfl;have hRw:w.heap.size≤w.heap.size+1+1+1+1:=by omega
 have e0:aA ((aW (aW (aW (aW w (bM pa pc p) 27) (bF ba ca bo cb x) 31) (eO UU UY addr port peer UV VB) 89) (dH c) 48).alloc (.cells iG.toArray 104)) (w.heap.size) (bM pa pc p):=by
  have h:=aA.new w (bM pa pc p) 27;try simp only[TQ]at h
  exact((((h.alloc _).alloc _).alloc _).alloc _)
 have e1:aA ((aW (aW (aW (aW w (bM pa pc p) 27) (bF ba ca bo cb x) 31) (eO UU UY addr port peer UV VB) 89) (dH c) 48).alloc (.cells iG.toArray 104)) (w.heap.size+1) (bF ba ca bo cb x):=by
  have h:=aA.new (w.alloc (.cells (bM pa pc p).toArray 27)) (bF ba ca bo cb x) 31;try simp only[TQ]at h
  exact(((h.alloc _).alloc _).alloc _)
 have e2:aA ((aW (aW (aW (aW w (bM pa pc p) 27) (bF ba ca bo cb x) 31) (eO UU UY addr port peer UV VB) 89) (dH c) 48).alloc (.cells iG.toArray 104)) (w.heap.size+1+1) (eO UU UY addr port peer UV VB):=by
  have h:=aA.new ((aW w (bM pa pc p) 27).alloc (.cells (bF ba ca bo cb x).toArray 31)) (eO UU UY addr port peer UV VB) 89;try simp only[TQ]at h
  exact((h.alloc _).alloc _)
 have e3:aA ((aW (aW (aW (aW w (bM pa pc p) 27) (bF ba ca bo cb x) 31) (eO UU UY addr port peer UV VB) 89) (dH c) 48).alloc (.cells iG.toArray 104)) (w.heap.size+1+1+1) (dH c):=by
  have h:=aA.new ((aW (aW w (bM pa pc p) 27) (bF ba ca bo cb x) 31).alloc (.cells (eO UU UY addr port peer UV VB).toArray 89)) (dH c) 48;try simp only[TQ]at h
  exact(h.alloc _)
 have e4:aA ((aW (aW (aW (aW w (bM pa pc p) 27) (bF ba ca bo cb x) 31) (eO UU UY addr port peer UV VB) 89) (dH c) 48).alloc (.cells iG.toArray 104)) (w.heap.size+1+1+1+1) iG:=by
  have h:=aA.new ((aW (aW (aW w (bM pa pc p) 27) (bF ba ca bo cb x) 31) (eO UU UY addr port peer UV VB) 89).alloc (.cells (dH c).toArray 48)) iG 104;try simp only[TQ]at h
  exact h
 have HS0:Hid (dX w [(w.heap.size,(bM pa pc p)),(w.heap.size+1,(bF ba ca bo cb x)),(w.heap.size+1+1,(eO UU UY addr port peer UV VB)),(w.heap.size+1+1+1,(dH c)),(w.heap.size+1+1+1+1,iG)] ((aW (aW (aW (aW w (bM pa pc p) 27) (bF ba ca bo cb x) 31) (eO UU UY addr port peer UV VB) 89) (dH c) 48).alloc (.cells iG.toArray 104))):=by
  refine⟨fun e he=>?_,(((((bR.alloc lR _).alloc (by simp only[TQ];omega) _).alloc (by simp only[TQ];omega) _).alloc (by simp only[TQ];omega) _).alloc (by simp only[TQ];omega) _),fun e he=>?_⟩
  ·simp only[TW,TV,or_false]at he;rcases he with rfl|rfl|rfl|rfl|rfl
   ·exact e0
   ·exact e1
   ·exact e2
   ·exact e3
   ·exact e4
  ·simp only[TW,TV,or_false]at he;rcases he with rfl|rfl|rfl|rfl|rfl<;>simp
 clear e0 e1 e2 e3 e4 hp hx hd hkd hpo hnow;unfold jQ iQ qF jI;go_enter Tryz.func157,Tryz.ntmps157
 go_upto_region 1 with fail
 generalize World.alloc _ _=W at *;have HHt:=HS0.out.at eX;obtain⟨t0,t1,t2,t3,t4,t5,t6⟩:=HHt.c7;clear HHt;have HHb:=HS0.out.at eB;obtain⟨b0,b1⟩:=HHb.c2;clear HHb;have HHp:=HS0.out.at cO;have p3:=HHp.cell (j:=3) rfl;clear HHp;go_wp2_with fail
 refine(HN.out _).mono ?_;rintro e W ⟨rfl,rfl⟩;by_cases hst:st=0
 case pos=>
  have dst:(st==0)=true:=by simp[hst]
  have HX:Hid (ans=lB (6)):=by unfold Hid;rw[HV.out,if_pos hst]
  have HHz:=HS0.out.at lX;obtain⟨z0,z1,z2,z3,z4,z5,z6,z7⟩:=HHz.c8;obtain⟨zf0,zf1,zf2,zf3,zf4,zf5,zf6,zf7⟩:=HHz.f8;obtain⟨HRR,RB⟩:=vD HHz HS0.out.b hRw (.slice none 0 0) (.slice none 0 0) (iV 0) eS (iV 0) eS (iV 0) (iV (6));clear HHz;go_wp2_with fail
  exact UQ (aG Tryz.results157 _ _ (w.heap.size+1+1+1+1) [.slice none 0 0,.slice none 0 0,iV 0,eS,iV 0,eS,iV 0,iV (6)] _ rfl HRR.out Tryz.underlying104 rfl (show (Tryz.prog.info? 104).map (·.size)=some 8 by kernel_rfl)) rfl (And.intro (by rw[HX.out];exact⟨none,none,0,0,rfl,.inl rfl,.inl rfl,fun g h e1=>by simp at e1⟩) RB.out)
 have dst:(st==0)=false:=by simp[hst]
 by_cases hm:p.most≤(x.UZ.length:Int)
 case pos=>
  have HX:Hid (ans=lB (9)):=by unfold Hid;rw[HV.out,if_neg hst,if_pos hm]
  have HHz:=HS0.out.at lX;obtain⟨z0,z1,z2,z3,z4,z5,z6,z7⟩:=HHz.c8;obtain⟨zf0,zf1,zf2,zf3,zf4,zf5,zf6,zf7⟩:=HHz.f8;obtain⟨HRR,RB⟩:=vD HHz HS0.out.b hRw (.slice none 0 0) (.slice none 0 0) (iV 0) eS (iV 0) eS (iV 0) (iV (9));clear HHz;go_wp2_with fail
  exact UQ (aG Tryz.results157 _ _ (w.heap.size+1+1+1+1) [.slice none 0 0,.slice none 0 0,iV 0,eS,iV 0,eS,iV 0,iV (9)] _ rfl HRR.out Tryz.underlying104 rfl (show (Tryz.prog.info? 104).map (·.size)=some 8 by kernel_rfl)) rfl (And.intro (by rw[HX.out];exact⟨none,none,0,0,rfl,.inl rfl,.inl rfl,fun g h e1=>by simp at e1⟩) RB.out)
 rw[if_neg hst,if_neg hm]at HV;go_upto_if 32 with fail
 clear p3 hm dst;go_cut [12] (fun v wx=>v=iV kd∧dX w [(w.heap.size,(bM pa pc p)),(w.heap.size+1,(bF ba ca bo cb x)),(w.heap.size+1+1,(eO UU UY addr port peer UV VB)),(w.heap.size+1+1+1,(dH d)),(w.heap.size+1+1+1+1,iG)] wx)
 case first=>
  clear HV HLG HN HBJ HCY HNB
  cases UY with
  | false=>
   have hd:d=c:=by rw[HD.out];rfl
   have hk:kd=0:=by rw[HKD.out];rfl
   go_wp2_with fail
   go_meet;exact⟨by rw[hk],by rw[hd];exact HS0.out⟩
  | true=>
   have hd:d=lb:=by rw[HD.out];rfl
   have hk:kd=lk:=by rw[HKD.out];rfl
   have HHp:=HS0.out.at cO;obtain⟨p0,p1,p2,p3,p4,p5,p6,p7,p8,p9⟩:=HHp.c10;clear HHp;go_wp2_with fail
   refine(HPT.out _ HS0.out.b).mono ?_;rintro e W2 ⟨rfl,q2⟩;have S2:Hid _:=HS0.out.kept q2;clear q2;have HHx:=S2.out.at iR;obtain⟨x0,x1,x2,x3,x4⟩:=HHx.c5;obtain⟨xf0,xf1,xf2,xf3,xf4⟩:=HHx.f5;have HBX:Hid (dX w [(w.heap.size,(bM pa pc p)),(w.heap.size+1,(bF ba ca bo cb x)),(w.heap.size+1+1,(eO UU true addr port peer UV VB)),(w.heap.size+1+1+1,(dH lb)),(w.heap.size+1+1+1+1,iG)] ((sW (sW (sW (sW W2 (w.heap.size+1+1+1) 0 (iV lb.UU)) (w.heap.size+1+1+1) 1 (.string lb.inn)) (w.heap.size+1+1+1) 2 (iV lb.UW)) (w.heap.size+1+1+1) 3 (.string lb.out)).setCell ⟨w.heap.size+1+1+1,4,none⟩ (iV lb.UX))):=by
    refine⟨fun e he=>?_,(((((S2.out.b.setCell (p:=⟨w.heap.size+1+1+1,0,none⟩) (by show w.heap.size≤w.heap.size+1+1+1;omega) (iV lb.UU)).setCell (p:=⟨w.heap.size+1+1+1,1,none⟩) (by show w.heap.size≤w.heap.size+1+1+1;omega) (.string lb.inn)).setCell (p:=⟨w.heap.size+1+1+1,2,none⟩) (by show w.heap.size≤w.heap.size+1+1+1;omega) (iV lb.UW)).setCell (p:=⟨w.heap.size+1+1+1,3,none⟩) (by show w.heap.size≤w.heap.size+1+1+1;omega) (.string lb.out)).setCell (p:=⟨w.heap.size+1+1+1,4,none⟩) (by show w.heap.size≤w.heap.size+1+1+1;omega) (iV lb.UX)),fun e he=>?_⟩
    ·simp only[TW,TV,or_false]at he;rcases he with rfl|rfl|rfl|rfl|rfl
     ·exact(aA.setOther (aA.setOther (aA.setOther (aA.setOther (aA.setOther (S2.out.k _ cO) (by show w.heap.size≠w.heap.size+1+1+1;omega) (iV lb.UU)) (by show w.heap.size≠w.heap.size+1+1+1;omega) (.string lb.inn)) (by show w.heap.size≠w.heap.size+1+1+1;omega) (iV lb.UW)) (by show w.heap.size≠w.heap.size+1+1+1;omega) (.string lb.out)) (by show w.heap.size≠w.heap.size+1+1+1;omega) (iV lb.UX))
     ·exact(aA.setOther (aA.setOther (aA.setOther (aA.setOther (aA.setOther (S2.out.k _ eB) (by show w.heap.size+1≠w.heap.size+1+1+1;omega) (iV lb.UU)) (by show w.heap.size+1≠w.heap.size+1+1+1;omega) (.string lb.inn)) (by show w.heap.size+1≠w.heap.size+1+1+1;omega) (iV lb.UW)) (by show w.heap.size+1≠w.heap.size+1+1+1;omega) (.string lb.out)) (by show w.heap.size+1≠w.heap.size+1+1+1;omega) (iV lb.UX))
     ·exact(aA.setOther (aA.setOther (aA.setOther (aA.setOther (aA.setOther (S2.out.k _ eX) (by show w.heap.size+1+1≠w.heap.size+1+1+1;omega) (iV lb.UU)) (by show w.heap.size+1+1≠w.heap.size+1+1+1;omega) (.string lb.inn)) (by show w.heap.size+1+1≠w.heap.size+1+1+1;omega) (iV lb.UW)) (by show w.heap.size+1+1≠w.heap.size+1+1+1;omega) (.string lb.out)) (by show w.heap.size+1+1≠w.heap.size+1+1+1;omega) (iV lb.UX))
     ·exact(((((HHx.set 0 (iV lb.UU)).set 1 (.string lb.inn)).set 2 (iV lb.UW)).set 3 (.string lb.out)).set 4 (iV lb.UX))
     ·exact(aA.setOther (aA.setOther (aA.setOther (aA.setOther (aA.setOther (S2.out.k _ lX) (by show w.heap.size+1+1+1+1≠w.heap.size+1+1+1;omega) (iV lb.UU)) (by show w.heap.size+1+1+1+1≠w.heap.size+1+1+1;omega) (.string lb.inn)) (by show w.heap.size+1+1+1+1≠w.heap.size+1+1+1;omega) (iV lb.UW)) (by show w.heap.size+1+1+1+1≠w.heap.size+1+1+1;omega) (.string lb.out)) (by show w.heap.size+1+1+1+1≠w.heap.size+1+1+1;omega) (iV lb.UX))
    ·simp only[TW,TV,or_false]at he;rcases he with rfl|rfl|rfl|rfl|rfl<;>simp
   clear HHx;go_wp2_with fail
   go_meet;exact⟨by rw[hk],by rw[hd];exact HBX.out⟩
 case rest=>
 obtain⟨rfl,hS⟩:=hcut;have S1:Hid _:=hS;clear hS HS0 HPT HN t0 t1 t2 t3 t4 t5 t6 b0 b1;generalize wc=W1 at *;by_cases hk:kd=0
 case neg=>
  have dk:(kd != 0)=true:=by simp[hk]
  have HX:Hid (ans=lB (kd)):=by unfold Hid;rw[HV.out,if_pos hk]
  have HHz:=S1.out.at lX;obtain⟨z0,z1,z2,z3,z4,z5,z6,z7⟩:=HHz.c8;obtain⟨zf0,zf1,zf2,zf3,zf4,zf5,zf6,zf7⟩:=HHz.f8;obtain⟨HRR,RB⟩:=vD HHz S1.out.b hRw (.slice none 0 0) (.slice none 0 0) (iV 0) eS (iV 0) eS (iV 0) (iV (kd));clear HHz;go_wp2_with fail
  exact UQ (aG Tryz.results157 _ _ (w.heap.size+1+1+1+1) [.slice none 0 0,.slice none 0 0,iV 0,eS,iV 0,eS,iV 0,iV (kd)] _ rfl HRR.out Tryz.underlying104 rfl (show (Tryz.prog.info? 104).map (·.size)=some 8 by kernel_rfl)) rfl (And.intro (by rw[HX.out];exact⟨none,none,0,0,rfl,.inl rfl,.inl rfl,fun g h e1=>by simp at e1⟩) RB.out)
 have dk:(kd != 0)=false:=by simp[hk]
 rw[if_neg (by simp[hk])]at HV;clear hk;have HHb:=S1.out.at eB;obtain⟨b0,b1⟩:=HHb.c2;clear HHb;go_wp2_with fail
 refine(HCY.out _ S1.out.b).mono ?_;rintro e W5 ⟨⟨bv,sv,rfl,o1,o2⟩,q5⟩;have S5:Hid _:=S1.out.kept q5;have HO:Hid _:=fH.make (ks:=[(w.heap.size,(bM pa pc p)),(w.heap.size+1,(bF ba ca bo cb x)),(w.heap.size+1+1,(eO UU UY addr port peer UV VB)),(w.heap.size+1+1+1,(dH d)),(w.heap.size+1+1+1+1,iG)]) (x:=x) S1.out.b.size S5.out.b o1 o2 S5.out.k S1.out.lts q5.size;obtain⟨ab,cb1,hbv,-,-⟩:=(xB.shape eC (w0:=W5) ⟨o1,Below.refl _ _⟩: ∃a' cap,bv=.slice a' x.VC.length cap∧x.VC.length≤cap∧eY eG 5 W1.heap.size W5 a' x.VC);obtain⟨sa,cs1,hsv,-,-⟩:=(xB.shape eE (w0:=W5) ⟨o2,Below.refl _ _⟩: ∃a' cap,sv=.slice a' x.UZ.length cap∧x.UZ.length≤cap∧eY fY 7 W1.heap.size W5 a' x.UZ);subst hbv hsv;clear q5 o1 o2 S5 S1 b0 b1 dk;go_upto_region 12 with fail
 generalize (W5.alloc (.cells #[(.slice ab x.VC.length cb1),(.slice sa x.UZ.length cs1)] 31))=W6 at *;generalize W5.heap.size=O at *;generalize W1.heap.size=base at *;have HHb:=HO.out.at eB;obtain⟨b0,b1⟩:=HHb.c2;clear HHb;have HHx:=HO.out.at iR;obtain⟨x0,x1,x2,x3,x4⟩:=HHx.c5;clear HHx;go_wp2_with fail
 refine(HBJ.out _ HO.out.b).mono ?_;rintro e W7 ⟨rfl,q7⟩;have S7:Hid _:=HO.out.kept q7;clear q7 HO b0 b1 x0 x1 x2 x3 x4;by_cases hfi:fi < 0
 ·
  have hnb:nb=x.VC++[d]:=by rw[HNB.out,if_pos hfi]
  rw[hnb]at HV;clear hnb HNB;have bn:Below W7.heap.size W7 (W7.alloc (.cells (dH d).toArray 48)):=bR.alloc lR _;obtain⟨v6,w6,hrun,⟨gb,lb6,cb6,rfl⟩,hO6,S6⟩:=(S7.out.kept bn).appB d W7.heap.size (aA.new W7 (eG d) 48) hl1;have HRUN:Hid _:=hrun;have S8:Hid _:=S6;have k0:=S7.out.o.cell (j:=0) rfl;have HHx:=S7.out.at iR;obtain⟨x0,x1,x2,x3,x4⟩:=HHx.c5;clear HHx;have p1:=hO6.cell (j:=0) rfl;have p2:=hO6.free (j:=0) (by simp);clear hrun S6 hO6 S7 bn;go_upto_region 14 with (first | (at_builtin;refine sZ rfl (.tmp 61) (.tmp 63) _ rfl rfl rfl HRUN.out ?_) | go_in)
  clear HRUN p1 p2 k0 x0 x1 x2 x3 x4;generalize (w6.setCell ⟨O,0,none⟩ (.slice (some ⟨gb,0,none⟩) lb6 cb6))=W8 at *;have HCP:Hid (∀wy,Below W8.drew.heap.size W8.drew wy→_):=fun wy hy=>S8.out.kept (bR.drew.trans hy)
  clear hun;refine aN [66,67,68,69,70,71,72,73,74,75,76,77,78,79,80,81,82,83,84,85,86,87,88] (by kernel_rfl) (by kernel_rfl) ?_;iterate 22 (apply bC.u rfl;(·intro K' a wy ho hd hb hK;simp[aS,aF,aD,Region.binds]at ho hd;have hst:=HCP.out wy hb;have ko:=hst.o.cell (j:=1) rfl;have kC:=(hst.at eX).c7;have kC:=(hst.at iR).c5;have kC:=(hst.at cO).c10;clear hst;go_simp;first|((try go_bits);exact hK _ _ rfl bQ)|(refine(HLG.out wy).mono ?_;rintro e wz ⟨rfl,hz⟩;exact hK _ _ rfl hz));dsimp only[nA,cA])
  refine bC.rel (n:=22) (jA (fY ⟨UU,d.inn,d.UW,peer,UV,st,now+lf⟩)) (gB _ (by simp[fY])) [_,_,_,_,_,_,_,_,_,_,_,_,_,_,_,_,_,_,_,_,_,_,jA (fY ⟨UU,d.inn,d.UW,peer,UV,st,now+lf⟩)] rfl rfl ?_ ?_
  ·intro K' a wy ho hd hb hK;rw[wN rfl];have q21:=hd ⟨21,.data⟩ (by simp) rfl;simp[aS,aF,aD]at q21;clear hd ho;go_simp;exact hK _ _ ⟨wy.heap.size,rfl,aA.new wy (fY ⟨UU,d.inn,d.UW,peer,UV,st,now+lf⟩) _⟩ (bR.alloc lR _)
  intro X wz hR hz;obtain⟨x0,x1,x2,x3,x4,x5,x6,x7,x8,x9,x10,x11,x12,x13,x14,x15,x16,x17,x18,x19,x20,x21,x22,-⟩:=hR;simp only[aF]at x0 x1 x2 x3 x4 x5 x6 x7 x8 x9 x10 x11 x12 x13 x14 x15 x16 x17 x18 x19 x20 x21;simp only[aE,x0,x1,x2,x3,x4,x5,x6,x7,x8,x9,x10,x11,x12,x13,x14,x15,x16,x17,x18,x19,x20,x21,aE];clear x0 x1 x2 x3 x4 x5 x6 x7 x8 x9 x10 x11 x12 x13 x14 x15 x16 x17 x18 x19 x20 x21;obtain⟨g7,e7,r7⟩:=x22;have SZ:=HCP.out wz hz;obtain⟨v6,w6,hrun,⟨gg,l6,c6,rfl⟩,hO6,S6⟩:=SZ.appS ⟨UU,d.inn,d.UW,peer,UV,st,now+lf⟩ g7 r7 hl2;have HRUN:Hid _:=hrun;have S9:Hid _:=S6;have p1:=hO6.cell (j:=1) rfl;have p2:=hO6.free (j:=1) (by simp);clear hrun S6 hO6 SZ r7 hz HCP;simp only[e7];simp only[List.length_cons,List.length_nil,List.drop_succ_cons,List.drop_zero,TX,Nat.reduceAdd];intro K5 hK5;with_reducible refine dC (.tmp 67) (.tmp 88) _ rfl ?_ ?_ HRUN.out (hK5 _ _ ?_)
  ·simp[Act.eval,Act.put]
  ·simp[Act.eval,Act.put]
  intro K6 hK6;go_simp;refine hK6 _ _ ?_;intro K7 hK7;go_simp;refine hK7 _ _ ?_;simp only[fO];clear HRUN p1 p2;generalize (w6.setCell ⟨O,1,none⟩ (.slice (some ⟨gg,0,none⟩) l6 c6))=W9 at *;obtain⟨k0,k1⟩:=S9.out.o.c2;have HHx:=S9.out.at iR;obtain⟨x0,x1,x2,x3,x4⟩:=HHx.c5;clear HHx;have HHz:=S9.out.at lX;obtain⟨z0,z1,z2,z3,z4,z5,z6,z7⟩:=HHz.c8;obtain⟨zf0,zf1,zf2,zf3,zf4,zf5,zf6,zf7⟩:=HHz.f8;obtain⟨HRR,RB⟩:=vD HHz S9.out.b hRw ((.slice (some ⟨gb,0,none⟩) lb6 cb6)) ((.slice (some ⟨gg,0,none⟩) l6 c6)) (iV d.UU) (.string d.inn) (iV d.UW) (.string d.out) (iV d.UX) (iV 0);obtain⟨a1,q1,hb1,-,hbo⟩:=S9.out.shapes.1;obtain⟨a2,q2,hb2,-,hso⟩:=S9.out.shapes.2;injection hb1 with i1 i2 i3
  injection hb2 with i4 i5 i6
  have hRb:w.heap.size+1+1+1+1 < base:=(S9.out.kb _ lX).1;have hwb:=S9.out.wb;have HOW:Hid (dD w.heap.size ((sW (sW (sW (sW (sW (sW (sW W9 (w.heap.size+1+1+1+1) 0 ((.slice (some ⟨gb,0,none⟩) lb6 cb6))) (w.heap.size+1+1+1+1) 1 ((.slice (some ⟨gg,0,none⟩) l6 c6))) (w.heap.size+1+1+1+1) 2 (iV d.UU)) (w.heap.size+1+1+1+1) 3 (.string d.inn)) (w.heap.size+1+1+1+1) 4 (iV d.UW)) (w.heap.size+1+1+1+1) 5 (.string d.out)) (w.heap.size+1+1+1+1) 6 (iV d.UX)).setCell ⟨w.heap.size+1+1+1+1,7,none⟩ (iV 0)) a1 a2 ⟨x.VC++[d],x.UZ++[⟨UU,d.inn,d.UW,peer,UV,st,now+lf⟩]⟩):=⟨(hbo.grown (aC (aC (aC (aC (aC (aC (aC (aC (World.grownBy.refl _ _) _) _) _) _) _) _) _) _) hRb).down hwb,(hso.grown (aC (aC (aC (aC (aC (aC (aC (aC (World.grownBy.refl _ _) _) _) _) _) _) _) _) _) hRb).down hwb,fun g h e1 e2 _ _ e3=>S9.out.ne g (by rw[i1,e1];rfl) (by rw[i4,e2,←e3];rfl)⟩;have I1:Hid _:=i1;have I2:Hid _:=i2;have I3:Hid _:=i3;have I4:Hid _:=i4;have I5:Hid _:=i5;have I6:Hid _:=i6;clear HHz hbo hso S9 i1 i2 i3 i4 i5 i6;go_wp2_with fail
  exact UQ (aG Tryz.results157 _ _ _ _ _ rfl HRR.out Tryz.underlying104 rfl (show (Tryz.prog.info? 104).map (·.size)=some 8 by kernel_rfl)) rfl (And.intro (by rw[HV.out];exact⟨a1,a2,q1,q2,by first | (rw[I1.out,I2.out,I3.out,I4.out,I5.out,I6.out];rfl) | (rw[I1.out,I3.out,I4.out,I5.out,I6.out];rfl),HOW.out⟩) RB.out)
 ·
  have hnb:nb=x.VC:=by rw[HNB.out,if_neg hfi]
  rw[hnb]at HV;clear hnb HNB;have S8:Hid _:=S7.out;clear S7;go_upto_region 14 with fail
  have HCP:Hid (∀wy,Below W7.drew.heap.size W7.drew wy→_):=fun wy hy=>S8.out.kept (bR.drew.trans hy)
  clear hun;refine aN [66,67,68,69,70,71,72,73,74,75,76,77,78,79,80,81,82,83,84,85,86,87,88] (by kernel_rfl) (by kernel_rfl) ?_;iterate 22 (apply bC.u rfl;(·intro K' a wy ho hd hb hK;simp[aS,aF,aD,Region.binds]at ho hd;have hst:=HCP.out wy hb;have ko:=hst.o.cell (j:=1) rfl;have kC:=(hst.at eX).c7;have kC:=(hst.at iR).c5;have kC:=(hst.at cO).c10;clear hst;go_simp;first|((try go_bits);exact hK _ _ rfl bQ)|(refine(HLG.out wy).mono ?_;rintro e wz ⟨rfl,hz⟩;exact hK _ _ rfl hz));dsimp only[nA,cA])
  refine bC.rel (n:=22) (jA (fY ⟨UU,d.inn,d.UW,peer,UV,st,now+lf⟩)) (gB _ (by simp[fY])) [_,_,_,_,_,_,_,_,_,_,_,_,_,_,_,_,_,_,_,_,_,_,jA (fY ⟨UU,d.inn,d.UW,peer,UV,st,now+lf⟩)] rfl rfl ?_ ?_
  ·intro K' a wy ho hd hb hK;rw[wN rfl];have q21:=hd ⟨21,.data⟩ (by simp) rfl;simp[aS,aF,aD]at q21;clear hd ho;go_simp;exact hK _ _ ⟨wy.heap.size,rfl,aA.new wy (fY ⟨UU,d.inn,d.UW,peer,UV,st,now+lf⟩) _⟩ (bR.alloc lR _)
  intro X wz hR hz;obtain⟨x0,x1,x2,x3,x4,x5,x6,x7,x8,x9,x10,x11,x12,x13,x14,x15,x16,x17,x18,x19,x20,x21,x22,-⟩:=hR;simp only[aF]at x0 x1 x2 x3 x4 x5 x6 x7 x8 x9 x10 x11 x12 x13 x14 x15 x16 x17 x18 x19 x20 x21;simp only[aE,x0,x1,x2,x3,x4,x5,x6,x7,x8,x9,x10,x11,x12,x13,x14,x15,x16,x17,x18,x19,x20,x21,aE];clear x0 x1 x2 x3 x4 x5 x6 x7 x8 x9 x10 x11 x12 x13 x14 x15 x16 x17 x18 x19 x20 x21;obtain⟨g7,e7,r7⟩:=x22;have SZ:=HCP.out wz hz;obtain⟨v6,w6,hrun,⟨gg,l6,c6,rfl⟩,hO6,S6⟩:=SZ.appS ⟨UU,d.inn,d.UW,peer,UV,st,now+lf⟩ g7 r7 hl2;have HRUN:Hid _:=hrun;have S9:Hid _:=S6;have p1:=hO6.cell (j:=1) rfl;have p2:=hO6.free (j:=1) (by simp);clear hrun S6 hO6 SZ r7 hz HCP;simp only[e7];simp only[List.length_cons,List.length_nil,List.drop_succ_cons,List.drop_zero,TX,Nat.reduceAdd];intro K5 hK5;with_reducible refine dC (.tmp 67) (.tmp 88) _ rfl ?_ ?_ HRUN.out (hK5 _ _ ?_)
  ·simp[Act.eval,Act.put]
  ·simp[Act.eval,Act.put]
  intro K6 hK6;go_simp;refine hK6 _ _ ?_;intro K7 hK7;go_simp;refine hK7 _ _ ?_;simp only[fO];clear HRUN p1 p2;generalize (w6.setCell ⟨O,1,none⟩ (.slice (some ⟨gg,0,none⟩) l6 c6))=W9 at *;obtain⟨k0,k1⟩:=S9.out.o.c2;have HHx:=S9.out.at iR;obtain⟨x0,x1,x2,x3,x4⟩:=HHx.c5;clear HHx;have HHz:=S9.out.at lX;obtain⟨z0,z1,z2,z3,z4,z5,z6,z7⟩:=HHz.c8;obtain⟨zf0,zf1,zf2,zf3,zf4,zf5,zf6,zf7⟩:=HHz.f8;obtain⟨HRR,RB⟩:=vD HHz S9.out.b hRw ((.slice ab x.VC.length cb1)) ((.slice (some ⟨gg,0,none⟩) l6 c6)) (iV d.UU) (.string d.inn) (iV d.UW) (.string d.out) (iV d.UX) (iV 0);obtain⟨a1,q1,hb1,-,hbo⟩:=S9.out.shapes.1;obtain⟨a2,q2,hb2,-,hso⟩:=S9.out.shapes.2;injection hb1 with i1 i2 i3
  injection hb2 with i4 i5 i6
  have hRb:w.heap.size+1+1+1+1 < base:=(S9.out.kb _ lX).1;have hwb:=S9.out.wb;have HOW:Hid (dD w.heap.size ((sW (sW (sW (sW (sW (sW (sW W9 (w.heap.size+1+1+1+1) 0 ((.slice ab x.VC.length cb1))) (w.heap.size+1+1+1+1) 1 ((.slice (some ⟨gg,0,none⟩) l6 c6))) (w.heap.size+1+1+1+1) 2 (iV d.UU)) (w.heap.size+1+1+1+1) 3 (.string d.inn)) (w.heap.size+1+1+1+1) 4 (iV d.UW)) (w.heap.size+1+1+1+1) 5 (.string d.out)) (w.heap.size+1+1+1+1) 6 (iV d.UX)).setCell ⟨w.heap.size+1+1+1+1,7,none⟩ (iV 0)) a1 a2 ⟨x.VC,x.UZ++[⟨UU,d.inn,d.UW,peer,UV,st,now+lf⟩]⟩):=⟨(hbo.grown (aC (aC (aC (aC (aC (aC (aC (aC (World.grownBy.refl _ _) _) _) _) _) _) _) _) _) hRb).down hwb,(hso.grown (aC (aC (aC (aC (aC (aC (aC (aC (World.grownBy.refl _ _) _) _) _) _) _) _) _) _) hRb).down hwb,fun g h e1 e2 _ _ e3=>S9.out.ne g (by rw[i1,e1];rfl) (by rw[i4,e2,←e3];rfl)⟩;have I1:Hid _:=i1;have I2:Hid _:=i2;have I3:Hid _:=i3;have I4:Hid _:=i4;have I5:Hid _:=i5;have I6:Hid _:=i6;clear HHz hbo hso S9 i1 i2 i3 i4 i5 i6;go_wp2_with fail
  exact UQ (aG Tryz.results157 _ _ _ _ _ rfl HRR.out Tryz.underlying104 rfl (show (Tryz.prog.info? 104).map (·.size)=some 8 by kernel_rfl)) rfl (And.intro (by rw[HV.out];exact⟨a1,a2,q1,q2,by first | (rw[I1.out,I2.out,I3.out,I4.out,I5.out,I6.out];rfl) | (rw[I1.out,I3.out,I4.out,I5.out,I6.out];rfl),HOW.out⟩) RB.out)
theorem ED(pa:OA)(pc:Nat)(p:Pl)(ba bo:OA)(ca cb:Nat)(x:Bb)(t:Tc)(now:Int)(w:World)(hpo:cT p=true)(hnow:bS now=true)(hta:t.addr.size≤1048576)(h0:0≤t.port)(h1:t.port≤65535)(hl1:x.VC.length≤1048576)(hl2:x.UZ.length≤1048576)(hp:bP bX 1 w pa p.VA)(hx:dI w ba bo x) :
  Calls Tryz.prog 114 #[jQ pa pc p,iQ ba bo ca cb x,qF t,iV now] w fun e w'=>mK w.heap.size (gF p x t now) e w'∧Below w.heap.size w w':=by
 obtain⟨UU,UY,addr,port,peer,UV,VB⟩:=t;dsimp only at hta h0 h1;have hn:0≤now∧now≤1000000000:=by have h:=hnow;unfold bS aM at h;simp only[TP,TU]at h;omega
 obtain⟨hn0,hn1⟩:=hn;have HB1:Hid (∀W,Below w.heap.size w W→Cb 33 #[.agg (bF ba ca bo cb x).toArray,iV UU,.string addr,iV port] W (iV (bG (cD UU addr port) x.VC))):=fun W hW=>mU x.VC UU addr port ba ca _ W hl1 (hx.bd.below hW)
 have HB2:Hid (∀W,Below w.heap.size w W→Cb 156 #[.agg (bF ba ca bo cb x).toArray,iV UU,.string addr,iV port] W (iV (bG (dE UU addr port) x.VC))):=fun W hW=>DZ x.VC UU addr port ba ca _ W hl1 (hx.bd.below hW)
 have HSS:Hid (∀(c:Bd) (W:World),Below w.heap.size w W→Cb 158 #[.agg (bF ba ca bo cb x).toArray,.agg (dH c).toArray,.string peer,iV UV] W (iV (bG (eR c peer UV) x.UZ))):=fun c W hW=>xU x c peer UV ba bo ca cb W hl2 (hx.below hW)
 have HKN:Hid (∀(c:Bd) (W:World),Below w.heap.size w W→Cb 159 #[.agg (bF ba ca bo cb x).toArray,.agg (dH c).toArray,.string peer] W (.bool (x.UZ.any (kY c peer)))):=fun c W hW=>EF x c peer ba bo ca cb W hl2 (hx.below hW)
 have HCY:Hid (∀W,Below w.heap.size w W→Calls Tryz.prog 126 #[.agg (bF ba ca bo cb x).toArray] W fun e w'=>oA W.heap.size x e w'∧Below W.heap.size W w'):=fun W hW=>rQ x ba bo ca cb W hl1 hl2 (hx.below hW)
 have HNX:Hid (∀(st:Int) (W:World),Cb 160 #[iV UU,iV st,.bool UY,iV VB] W (iV (aV UU st UY VB))):=fun st W=>(BB UU st UY VB W).mono (by rintro e w' ⟨rfl,rfl⟩;exact⟨rfl,Below.refl _ _⟩)
 have HLF:Hid (∀(st:Int) (W:World),Cb 161 #[.agg #[iV p.lv.udp,iV p.lv.echo,iV p.lv.opening,iV p.lv.opn,iV p.lv.closing],iV UU,iV st] W (iV (bT p.lv UU st))):=fun st W=>sX p.lv UU st W
 have HNW:Hid (∀(c:Bd) (W:World),Below w.heap.size w W→Calls Tryz.prog 157 #[.agg (bM pa pc p).toArray,.agg (bF ba ca bo cb x).toArray,.agg (eO UU UY addr port peer UV VB).toArray,jI c,iV now] W fun e w'=>mK W.heap.size (jX p x ⟨UU,UY,addr,port,peer,UV,VB⟩ c now) e w'∧Below W.heap.size W w'):=fun c W hW=>KO pa pc p ba bo ca cb x ⟨UU,UY,addr,port,peer,UV,VB⟩ c now W hpo hnow hta h0 h1 hl1 hl2 (hp.below hW) (hx.below hW)
 obtain⟨g,hg⟩: ∃g,g=(if UY=true then cD UU addr port else dE UU addr port):=⟨_,rfl⟩;have HG:Hid (g=(if UY=true then cD UU addr port else dE UU addr port)):=hg;have HV:Hid (gF p x ⟨UU,UY,addr,port,peer,UV,VB⟩ now=match x.VC.find? g with
  | none=>if UY=true then jX p x ⟨UU,UY,addr,port,peer,UV,VB⟩ lT now else lB 6
  | some c=>match x.UZ.findIdx? (eR c peer UV) with
   | none=>if nB p x ⟨UU,UY,addr,port,peer,UV,VB⟩ c=true then lB 6 else jX p x ⟨UU,UY,addr,port,peer,UV,VB⟩ c now
   | some i=>⟨⟨x.VC,rP x.UZ i (lY p ⟨UU,UY,addr,port,peer,UV,VB⟩ now)⟩,c,0⟩):=by rw[hg];rfl
 generalize gF p x ⟨UU,UY,addr,port,peer,UV,VB⟩ now=ans at *;have HSX:Hid (dI w ba bo x):=hx;have hun:undef=Value.tuple #[]:=rfl;have hRw:w.heap.size≤w.heap.size+1+1+1:=by omega
 have e0:aA ((aW (aW (aW w (bM pa pc p) 27) (bF ba ca bo cb x) 31) (eO UU UY addr port peer UV VB) 89).alloc (.cells iG.toArray 104)) (w.heap.size) (bM pa pc p):=by
  have h:=aA.new w (bM pa pc p) 27;try simp only[TQ]at h
  exact(((h.alloc _).alloc _).alloc _)
 have e1:aA ((aW (aW (aW w (bM pa pc p) 27) (bF ba ca bo cb x) 31) (eO UU UY addr port peer UV VB) 89).alloc (.cells iG.toArray 104)) (w.heap.size+1) (bF ba ca bo cb x):=by
  have h:=aA.new (w.alloc (.cells (bM pa pc p).toArray 27)) (bF ba ca bo cb x) 31;try simp only[TQ]at h
  exact((h.alloc _).alloc _)
 have e2:aA ((aW (aW (aW w (bM pa pc p) 27) (bF ba ca bo cb x) 31) (eO UU UY addr port peer UV VB) 89).alloc (.cells iG.toArray 104)) (w.heap.size+1+1) (eO UU UY addr port peer UV VB):=by
  have h:=aA.new ((aW w (bM pa pc p) 27).alloc (.cells (bF ba ca bo cb x).toArray 31)) (eO UU UY addr port peer UV VB) 89;try simp only[TQ]at h
  exact(h.alloc _)
 have e3:aA ((aW (aW (aW w (bM pa pc p) 27) (bF ba ca bo cb x) 31) (eO UU UY addr port peer UV VB) 89).alloc (.cells iG.toArray 104)) (w.heap.size+1+1+1) iG:=by
  have h:=aA.new ((aW (aW w (bM pa pc p) 27) (bF ba ca bo cb x) 31).alloc (.cells (eO UU UY addr port peer UV VB).toArray 89)) iG 104;try simp only[TQ]at h
  exact h
 have HS0:Hid (dX w [(w.heap.size,(bM pa pc p)),(w.heap.size+1,(bF ba ca bo cb x)),(w.heap.size+1+1,(eO UU UY addr port peer UV VB)),(w.heap.size+1+1+1,iG)] ((aW (aW (aW w (bM pa pc p) 27) (bF ba ca bo cb x) 31) (eO UU UY addr port peer UV VB) 89).alloc (.cells iG.toArray 104))):=by
  refine⟨fun e he=>?_,((((bR.alloc lR _).alloc (by simp only[TQ];omega) _).alloc (by simp only[TQ];omega) _).alloc (by simp only[TQ];omega) _),fun e he=>?_⟩
  ·simp only[TW,TV,or_false]at he;rcases he with rfl|rfl|rfl|rfl
   ·exact e0
   ·exact e1
   ·exact e2
   ·exact e3
  ·simp only[TW,TV,or_false]at he;rcases he with rfl|rfl|rfl|rfl<;>simp
 clear e0 e1 e2 e3 hp hx hpo hnow hg;unfold jQ iQ qF;go_enter Tryz.func114,Tryz.ntmps114
 go_upto_region 1 with fail
 generalize World.alloc _ _=W at *;have HHt:=HS0.out.at eX;obtain⟨t0,t1,t2,t3,t4,t5,t6⟩:=HHt.c7;clear HHt;have HHb:=HS0.out.at eB;obtain⟨b0,b1⟩:=HHb.c2;clear HHb;go_wp2_with fail
 refine(HB1.out _ HS0.out.b).mono ?_;rintro e W1 ⟨rfl,q1⟩;have S1:Hid _:=HS0.out.kept q1;clear q1 HS0 b0 b1 t0 t1 t2 t3 t4 t5 t6;have HHt:=S1.out.at eX;obtain⟨t0,t1,t2,t3,t4,t5,t6⟩:=HHt.c7;clear HHt;go_upto_if 24 with fail
 go_cut [9] (fun v wx=>v=iV (bG g x.VC)∧dX w [(w.heap.size,(bM pa pc p)),(w.heap.size+1,(bF ba ca bo cb x)),(w.heap.size+1+1,(eO UU UY addr port peer UV VB)),(w.heap.size+1+1+1,iG)] wx)
 case first=>
  clear HV HNW HSS HKN HCY HNX HLF
  cases UY with
  | true=>
   have hg:g=cD UU addr port:=by rw[HG.out];rfl
   go_wp2_with fail
   go_meet;exact⟨by rw[hg],S1.out⟩
  | false=>
   have hg:g=dE UU addr port:=by rw[HG.out];rfl
   have HHb:=S1.out.at eB;obtain⟨b0,b1⟩:=HHb.c2;clear HHb;go_wp2_with fail
   refine(HB2.out _ S1.out.b).mono ?_;rintro e W2 ⟨rfl,q2⟩;have S2:Hid _:=S1.out.kept q2;clear q2;go_wp2_with fail
   go_meet;exact⟨by rw[hg],S2.out⟩
 case rest=>
 obtain⟨rfl,hS⟩:=hcut;have S3:Hid _:=hS;clear hS S1 HB1 HB2 t0 t1 t2 t3 t4 t5 t6;generalize wc=W3 at *
 cases hfi:x.VC.findIdx? g with
 | none=>
  have hk:bG g x.VC=-1:=by unfold bG;rw[hfi]
  rw[MD hfi]at HV;have HW:Hid (ans=if UY=true then jX p x ⟨UU,UY,addr,port,peer,UV,VB⟩ lT now else lB 6):=HV.out;clear HV hfi HG;rw[hk];clear hk
  cases UY with
  | false=>
   have HHt:=S3.out.at eX;obtain⟨t0,t1,t2,t3,t4,t5,t6⟩:=HHt.c7;clear HHt;have HX:Hid (ans=lB (6)):=by unfold Hid;rw[HW.out];rfl
   have HHz:=S3.out.at iR;obtain⟨z0,z1,z2,z3,z4,z5,z6,z7⟩:=HHz.c8;obtain⟨zf0,zf1,zf2,zf3,zf4,zf5,zf6,zf7⟩:=HHz.f8;obtain⟨HRR,RB⟩:=vD HHz S3.out.b hRw (.slice none 0 0) (.slice none 0 0) (iV 0) eS (iV 0) eS (iV 0) (iV (6));clear HHz;go_wp2_with fail
   exact UQ (aG Tryz.results114 _ _ (w.heap.size+1+1+1) [.slice none 0 0,.slice none 0 0,iV 0,eS,iV 0,eS,iV 0,iV (6)] _ rfl HRR.out Tryz.underlying104 rfl (show (Tryz.prog.info? 104).map (·.size)=some 8 by kernel_rfl)) rfl (And.intro (by rw[HX.out];exact⟨none,none,0,0,rfl,.inl rfl,.inl rfl,fun g h e1=>by simp at e1⟩) RB.out)
  | true=>
   have HX:Hid (ans=jX p x ⟨UU,true,addr,port,peer,UV,VB⟩ lT now):=by unfold Hid;rw[HW.out];rfl
   have HNC:Hid (∀W,Below w.heap.size w W→Calls Tryz.prog 157 #[.agg (bM pa pc p).toArray,.agg (bF ba ca bo cb x).toArray,.agg (eO UU true addr port peer UV VB).toArray,.agg (iW 0 ⟨#[]⟩ 0 ⟨#[]⟩ 0).toArray,iV now] W fun e w'=>mK W.heap.size (jX p x ⟨UU,true,addr,port,peer,UV,VB⟩ lT now) e w'∧Below W.heap.size W w'):=fun W hW=>HNW.out lT W hW
   generalize jX p x ⟨UU,true,addr,port,peer,UV,VB⟩ lT now=nv at *;have HHp:=S3.out.at cO;obtain⟨p0,p1,p2,p3,p4,p5,p6,p7,p8,p9⟩:=HHp.c10;clear HHp;have HHb:=S3.out.at eB;obtain⟨b0,b1⟩:=HHb.c2;clear HHb;have HHt:=S3.out.at eX;obtain⟨t0,t1,t2,t3,t4,t5,t6⟩:=HHt.c7;clear HHt;have hRl:w.heap.size+1+1+1 < W3.heap.size:=(S3.out.lts _ iR).1;go_wp2_with fail
   refine(HNC.out _ S3.out.b).mono ?_;rintro e W4 ⟨⟨a1,a2,c1,c2,rfl,hown⟩,q4⟩;have S4:Hid _:=S3.out.kept q4;have HHz:=S4.out.at iR;obtain⟨z0,z1,z2,z3,z4,z5,z6,z7⟩:=HHz.c8;obtain⟨zf0,zf1,zf2,zf3,zf4,zf5,zf6,zf7⟩:=HHz.f8;obtain⟨HRR,RB⟩:=vD HHz S4.out.b hRw (.slice a1 nv.bib.VC.length c1) (.slice a2 nv.bib.UZ.length c2) (iV nv.bind.UU) (.string nv.bind.inn) (iV nv.bind.UW) (.string nv.bind.out) (iV nv.bind.UX) (iV nv.code);clear HHz;have hwl:=S3.out.b.size;have HOW:Hid (dD w.heap.size ((sW (sW (sW (sW (sW (sW (sW W4 (w.heap.size+1+1+1) 0 (.slice a1 nv.bib.VC.length c1)) (w.heap.size+1+1+1) 1 (.slice a2 nv.bib.UZ.length c2)) (w.heap.size+1+1+1) 2 (iV nv.bind.UU)) (w.heap.size+1+1+1) 3 (.string nv.bind.inn)) (w.heap.size+1+1+1) 4 (iV nv.bind.UW)) (w.heap.size+1+1+1) 5 (.string nv.bind.out)) (w.heap.size+1+1+1) 6 (iV nv.bind.UX)).setCell ⟨w.heap.size+1+1+1,7,none⟩ (iV nv.code)) a1 a2 nv.bib):=⟨(hown.bd.grown (aC (aC (aC (aC (aC (aC (aC (aC (World.grownBy.refl _ _) _) _) _) _) _) _) _) _) hRl).down hwl,(hown.ss.grown (aC (aC (aC (aC (aC (aC (aC (aC (World.grownBy.refl _ _) _) _) _) _) _) _) _) _) hRl).down hwl,hown.ne⟩;clear hown q4;unfold IP;go_wp2_with fail
   exact UQ (aG Tryz.results114 _ _ _ _ _ rfl HRR.out Tryz.underlying104 rfl (show (Tryz.prog.info? 104).map (·.size)=some 8 by kernel_rfl)) rfl (And.intro (by rw[HX.out];exact⟨a1,a2,c1,c2,rfl,HOW.out⟩) RB.out)
 | some i=>
 have hk:bG g x.VC=(i:Int):=by unfold bG;rw[hfi]
 obtain⟨hlt,hfd⟩:=pM hfi;rw[hfd]at HV;rw[hk];obtain⟨bb,off,hba,hb,hat⟩:=HSX.out.bd.at hlt;have hA:=(hat.below hb S3.out.b) i hlt;obtain⟨c,hc⟩: ∃c,c=x.VC[i]:=⟨_,rfl⟩;rw[←hc]at hA HV;obtain⟨s0,s1,s2,s3,s4⟩:=NS hA;have hltI:(i:Int) < (x.VC.length:Int):=by omega
 have hge:¬(i:Int) < 0:=by omega
 have HVV:Hid _:=HV.out;clear HV hfi hfd hc hA hat hk HG;have HHb:=S3.out.at eB;have b0:=HHb.cell (j:=0) rfl;clear HHb;rw[hba]at b0;go_upto_region 9 with fail
 clear b0 s0 s1 s2 s3 s4 hltI hge hlt hb hba;have S5:Hid _:=S3.out.push (dH c) (by simp) 48;have hXw:w.heap.size≤W3.heap.size:=S3.out.b.size;generalize hW5:W3.alloc _=W5 at *;clear hW5 S3;generalize W3.heap.size=Bx at *;have S6:Hid (dX w [(Bx,(dH c)),(w.heap.size,(bM pa pc p)),(w.heap.size+1,(bF ba ca bo cb x)),(w.heap.size+1+1,(eO UU UY addr port peer UV VB)),(w.heap.size+1+1+1,iG)] W5):=S5.out;clear S5;have HHb:=S6.out.at eX;obtain⟨b0,b1⟩:=HHb.c2;clear HHb;have HHx:=S6.out.at cO;obtain⟨x0,x1,x2,x3,x4⟩:=HHx.c5;clear HHx;have HHt:=S6.out.at iR;obtain⟨t0,t1,t2,t3,t4,t5,t6⟩:=HHt.c7;clear HHt;go_wp2_with fail
 refine(HSS.out c _ S6.out.b).mono ?_;rintro e W6 ⟨rfl,q6⟩;have S7:Hid _:=S6.out.kept q6;clear q6 S6 HSS b0 b1 x0 x1 x2 x3 x4 t0 t1 t2 t3 t4 t5 t6;have HVW:Hid (ans=match x.UZ.findIdx? (eR c peer UV) with
   | none=>if nB p x ⟨UU,UY,addr,port,peer,UV,VB⟩ c=true then lB 6 else jX p x ⟨UU,UY,addr,port,peer,UV,VB⟩ c now
   | some i=>⟨⟨x.VC,rP x.UZ i (lY p ⟨UU,UY,addr,port,peer,UV,VB⟩ now)⟩,c,0⟩):=HVV.out
 clear HVV
 cases hfi:x.UZ.findIdx? (eR c peer UV) with
 | none=>
  have hk:bG (eR c peer UV) x.UZ=-1:=by unfold bG;rw[hfi]
  rw[hfi]at HVW;have HW:Hid (ans=if nB p x ⟨UU,UY,addr,port,peer,UV,VB⟩ c=true then lB 6 else jX p x ⟨UU,UY,addr,port,peer,UV,VB⟩ c now):=HVW.out;clear HVW hfi;rw[hk];clear hk;have HGO:Hid (nB p x ⟨UU,UY,addr,port,peer,UV,VB⟩ c=(!UY&&(decide (p.filter=2)||(decide (p.filter=1)&&!x.UZ.any (kY c peer))))):=rfl;generalize nB p x ⟨UU,UY,addr,port,peer,UV,VB⟩ c=gone at *;have HKC:Hid _:=HKN.out c;clear HKN;obtain⟨kn,hkn⟩: ∃kn,kn=x.UZ.any (kY c peer):=⟨_,rfl⟩;rw[←hkn]at HGO HKC;clear hkn;go_upto_region 11 with fail
  go_cut [79] (fun v wx=>v=.bool gone∧dX w [(Bx,(dH c)),(w.heap.size,(bM pa pc p)),(w.heap.size+1,(bF ba ca bo cb x)),(w.heap.size+1+1,(eO UU UY addr port peer UV VB)),(w.heap.size+1+1+1,iG)] wx)
  case first=>
   have hun:undef=Value.tuple #[]:=rfl;clear HW HNW
   cases UY with
   | true=>
    have HHt:=S7.out.at iR;have t1:=HHt.cell (j:=1) rfl;clear HHt;go_wp2_with fail
    go_meet;exact⟨by rw[HGO.out];rfl,S7.out⟩
   | false=>
    have HHt:=S7.out.at iR;obtain⟨t0,t1,t2,t3,t4,t5,t6⟩:=HHt.c7;clear HHt;have HHp:=S7.out.at eB;have p4:=HHp.cell (j:=4) rfl;clear HHp;have HHb:=S7.out.at eX;obtain⟨b0,b1⟩:=HHb.c2;clear HHb;have HHx:=S7.out.at cO;obtain⟨x0,x1,x2,x3,x4⟩:=HHx.c5;clear HHx;by_cases h2:p.filter=2
    case pos=>
     have d2:(p.filter==2)=true:=by simp[h2]
     have H2:Hid _:=h2;clear h2;go_wp2_with fail
     go_meet;exact⟨by rw[HGO.out];simp[H2.out],S7.out⟩
    have d2:(p.filter==2)=false:=by simp[h2]
    by_cases h1:p.filter=1
    case neg=>
     have d1:(p.filter==1)=false:=by simp[h1]
     go_wp2_with fail
     go_meet;exact⟨by rw[HGO.out];simp[h2,h1],S7.out⟩
    have d1:(p.filter==1)=true:=by simp[h1]
    have H1:Hid _:=h1;clear h1;go_wp2_with fail
    refine(HKC.out _ S7.out.b).mono ?_;rintro e W7 ⟨rfl,q7⟩;have S8:Hid _:=S7.out.kept q7;clear q7
    cases kn;all_goals
     go_wp2_with fail
     go_meet;exact⟨by rw[HGO.out];simp[H1.out],S8.out⟩
  case rest=>
  obtain⟨rfl,hS⟩:=hcut;have S9:Hid _:=hS;clear hS S7 HKC HGO;generalize wc=W9 at *
  cases gone with
  | true=>
   have HX:Hid (ans=lB (6)):=by unfold Hid;rw[HW.out];rfl
   have HHz:=S9.out.at lX;obtain⟨z0,z1,z2,z3,z4,z5,z6,z7⟩:=HHz.c8;obtain⟨zf0,zf1,zf2,zf3,zf4,zf5,zf6,zf7⟩:=HHz.f8;obtain⟨HRR,RB⟩:=vD HHz S9.out.b hRw (.slice none 0 0) (.slice none 0 0) (iV 0) eS (iV 0) eS (iV 0) (iV (6));clear HHz;go_wp2_with fail
   exact UQ (aG Tryz.results114 _ _ (w.heap.size+1+1+1) [.slice none 0 0,.slice none 0 0,iV 0,eS,iV 0,eS,iV 0,iV (6)] _ rfl HRR.out Tryz.underlying104 rfl (show (Tryz.prog.info? 104).map (·.size)=some 8 by kernel_rfl)) rfl (And.intro (by rw[HX.out];exact⟨none,none,0,0,rfl,.inl rfl,.inl rfl,fun g h e1=>by simp at e1⟩) RB.out)
  | false=>
   have HX:Hid (ans=jX p x ⟨UU,UY,addr,port,peer,UV,VB⟩ c now):=by unfold Hid;rw[HW.out];rfl
   have HNC:Hid (∀W,Below w.heap.size w W→Calls Tryz.prog 157 #[.agg (bM pa pc p).toArray,.agg (bF ba ca bo cb x).toArray,.agg (eO UU UY addr port peer UV VB).toArray,.agg (dH c).toArray,iV now] W fun e w'=>mK W.heap.size (jX p x ⟨UU,UY,addr,port,peer,UV,VB⟩ c now) e w'∧Below W.heap.size W w'):=fun W hW=>HNW.out c W hW
   generalize jX p x ⟨UU,UY,addr,port,peer,UV,VB⟩ c now=nv at *;have HHp:=S9.out.at eB;obtain⟨p0,p1,p2,p3,p4,p5,p6,p7,p8,p9⟩:=HHp.c10;clear HHp;have HHb:=S9.out.at eX;obtain⟨b0,b1⟩:=HHb.c2;clear HHb;have HHt:=S9.out.at iR;obtain⟨t0,t1,t2,t3,t4,t5,t6⟩:=HHt.c7;clear HHt;have HHx:=S9.out.at cO;obtain⟨x0,x1,x2,x3,x4⟩:=HHx.c5;clear HHx;have hRl:w.heap.size+1+1+1 < W9.heap.size:=(S9.out.lts _ lX).1;go_wp2_with fail
   refine(HNC.out _ S9.out.b).mono ?_;rintro e W4 ⟨⟨a1,a2,c1,c2,rfl,hown⟩,q4⟩;have S4:Hid _:=S9.out.kept q4;have HHz:=S4.out.at lX;obtain⟨z0,z1,z2,z3,z4,z5,z6,z7⟩:=HHz.c8;obtain⟨zf0,zf1,zf2,zf3,zf4,zf5,zf6,zf7⟩:=HHz.f8;obtain⟨HRR,RB⟩:=vD HHz S4.out.b hRw (.slice a1 nv.bib.VC.length c1) (.slice a2 nv.bib.UZ.length c2) (iV nv.bind.UU) (.string nv.bind.inn) (iV nv.bind.UW) (.string nv.bind.out) (iV nv.bind.UX) (iV nv.code);clear HHz;have hwl:=S9.out.b.size;have HOW:Hid (dD w.heap.size ((sW (sW (sW (sW (sW (sW (sW W4 (w.heap.size+1+1+1) 0 (.slice a1 nv.bib.VC.length c1)) (w.heap.size+1+1+1) 1 (.slice a2 nv.bib.UZ.length c2)) (w.heap.size+1+1+1) 2 (iV nv.bind.UU)) (w.heap.size+1+1+1) 3 (.string nv.bind.inn)) (w.heap.size+1+1+1) 4 (iV nv.bind.UW)) (w.heap.size+1+1+1) 5 (.string nv.bind.out)) (w.heap.size+1+1+1) 6 (iV nv.bind.UX)).setCell ⟨w.heap.size+1+1+1,7,none⟩ (iV nv.code)) a1 a2 nv.bib):=⟨(hown.bd.grown (aC (aC (aC (aC (aC (aC (aC (aC (World.grownBy.refl _ _) _) _) _) _) _) _) _) _) hRl).down hwl,(hown.ss.grown (aC (aC (aC (aC (aC (aC (aC (aC (World.grownBy.refl _ _) _) _) _) _) _) _) _) _) hRl).down hwl,hown.ne⟩;clear hown q4;unfold IP;go_wp2_with fail
   exact UQ (aG Tryz.results114 _ _ _ _ _ rfl HRR.out Tryz.underlying104 rfl (show (Tryz.prog.info? 104).map (·.size)=some 8 by kernel_rfl)) rfl (And.intro (by rw[HX.out];exact⟨a1,a2,c1,c2,rfl,HOW.out⟩) RB.out)
 | some j=>
  have hk:bG (eR c peer UV) x.UZ=(j:Int):=by unfold bG;rw[hfi]
  obtain⟨hlt,-⟩:=pM hfi;rw[hfi]at HVW;rw[hk];clear hfi hk HKN HNW;obtain⟨s,hs⟩: ∃s,s=x.UZ[j]:=⟨_,rfl⟩;have HW:Hid (ans=⟨⟨x.VC,x.UZ.set j { s with state:=aV UU s.state UY VB,untl:=now+bT p.lv UU (aV UU s.state UY VB) }⟩,c,0⟩):=by unfold Hid;rw[HVW.out,hs];unfold rP;simp only[UJ hlt];rfl
  clear HVW;replace HNX:=HNX.out s.state;have HNY:Hid _:=HNX;clear HNX;generalize aV UU s.state UY VB=st at *;replace HLF:=HLF.out st;have HLG:Hid _:=HLF;clear HLF;obtain⟨hf0,hf1⟩:=jO p.lv UU st;generalize bT p.lv UU st=lf at *;have hge:¬(j:Int) < 0:=by omega
  have HHb:=S7.out.at eX;obtain⟨b0,b1⟩:=HHb.c2;clear HHb;go_wp2_with fail
  refine(HCY.out _ S7.out.b).mono ?_;rintro e W8 ⟨⟨bv,sv,rfl,o1,o2⟩,q8⟩;have S8:Hid _:=S7.out.kept q8;have HO:Hid _:=fH.make (ks:=[(Bx,(dH c)),(w.heap.size,(bM pa pc p)),(w.heap.size+1,(bF ba ca bo cb x)),(w.heap.size+1+1,(eO UU UY addr port peer UV VB)),(w.heap.size+1+1+1,iG)]) (x:=x) S7.out.b.size S8.out.b o1 o2 S8.out.k S7.out.lts q8.size;obtain⟨ab,cb1,hbv,-,-⟩:=(xB.shape eC (w0:=W8) ⟨o1,Below.refl _ _⟩: ∃a' cap,bv=.slice a' x.VC.length cap∧x.VC.length≤cap∧eY eG 5 W6.heap.size W8 a' x.VC);obtain⟨gs,cs1,hsv⟩: ∃gs cs1,sv=.slice (some ⟨gs,0,none⟩) x.UZ.length cs1:=by
   rcases o2.2 with ⟨_,h0⟩|⟨g,cap,cur,h3,_⟩
   ·omega
   ·exact⟨g,cap,h3⟩
  subst hbv hsv;clear q8 o1 o2 S8 S7 b0 b1 hge;go_upto_region 15 with fail
  generalize (W8.alloc (.cells #[(.slice ab x.VC.length cb1),(.slice (some ⟨gs,0,none⟩) x.UZ.length cs1)] 31))=V1 at *;generalize W8.heap.size=O at *;generalize W6.heap.size=base at *;have HV1:Hid (fH w base O [(Bx,(dH c)),(w.heap.size,(bM pa pc p)),(w.heap.size+1,(bF ba ca bo cb x)),(w.heap.size+1+1,(eO UU UY addr port peer UV VB)),(w.heap.size+1+1+1,iG)] (.slice ab x.VC.length cb1) (.slice (some ⟨gs,0,none⟩) x.UZ.length cs1) x.VC (x.UZ) V1):=HO.out;clear HO;obtain⟨sb,so,hbo,hsb,hat⟩:=HSX.out.ss.at hlt;have HAT:Hid (∀W,Below w.heap.size w W→W.rangeAt sb (so+j*7) (fY s)):=fun W hW=>by rw[hs];exact(hat.below hsb hW) j hlt
  have HBO:Hid (bo=some ⟨sb,so,none⟩):=hbo;have HSJ:Hid (s=x.UZ[j]):=hs;clear hat hbo hs hsb;have hltI:(j:Int) < (x.UZ.length:Int):=by omega
  have HCP:Hid (∀wy,Below V1.drew.heap.size V1.drew wy→_):=fun wy hy=>HV1.out.kept (bR.drew.trans hy)
  go_cut [13] (fun v wx=>v=iV st∧fH w base O [(Bx,(dH c)),(w.heap.size,(bM pa pc p)),(w.heap.size+1,(bF ba ca bo cb x)),(w.heap.size+1+1,(eO UU UY addr port peer UV VB)),(w.heap.size+1+1+1,iG)] (.slice ab x.VC.length cb1) (.slice (some ⟨gs,0,none⟩) x.UZ.length cs1) x.VC (x.UZ) wx)
  case first=>
   rename_i J K2 hJ hK2;clear hun;refine bH [89,90,91,92,93,94,95,96,97,98,99,100,101,13] (by kernel_rfl) (by kernel_rfl) ?_;iterate 14 (apply cW.u rfl;(·intro K' a wy ho hd hb hK;simp[aS,aF,aD,Region.binds]at ho hd;have hst:=HCP.out wy hb;have kC:=(hst.at iR).c7;have HHb:=hst.at eX;have b1:=HHb.cell (j:=1) rfl;clear HHb;rw[HBO.out]at b1;have hsr:=HAT.out wy hst.b;have s5:wy.cell? ⟨sb,so+j*7+5,none⟩=some (iV s.state):=hsr 5 _ rfl;clear hsr;clear hst;go_simp;first|((try go_bits);exact hK _ _ rfl bQ)|(refine(HNY.out wy).mono ?_;rintro e wz ⟨rfl,hz⟩;exact hK _ _ rfl hz));dsimp only[nA,cA])
   intro X wz hR hz;simp only[UB,UC,eW,aF]at hR;simp only[aE,hR];clear hR;go_simp;refine hK2 _ _ (hJ _ _ ?_);(repeat apply Exists.intro)
   refine⟨⟨rfl,HCP.out wz hz⟩,rfl⟩
  case rest=>
  obtain⟨rfl,hS⟩:=hcut;have V2:Hid _:=hS;clear hS HV1 HCP HNY HAT;generalize wc=U2 at *;have k1:=V2.out.o.cell (j:=1) rfl;have r5:U2.cell? ⟨gs,j*7+5,none⟩=some (iV s.state):=fF V2.out.so rfl j hlt 5 _ (by rw[←HSJ.out];rfl);have f5:U2.frozen? ⟨gs,j*7+5,none⟩=false:=mS V2.out.so _;have V3:Hid _:=V2.out.setS rfl j hlt 5 (by decide) (iV st) { s with state:=st } (by rw[←HSJ.out];rfl);clear V2;go_upto_region 17 with fail
  clear k1 r5 f5;generalize U2.setCell ⟨gs,j*7+5,none⟩ (iV st)=U3 at *;have V4:Hid (fH w base O [(Bx,(dH c)),(w.heap.size,(bM pa pc p)),(w.heap.size+1,(bF ba ca bo cb x)),(w.heap.size+1+1,(eO UU UY addr port peer UV VB)),(w.heap.size+1+1+1,iG)] (.slice ab x.VC.length cb1) (.slice (some ⟨gs,0,none⟩) x.UZ.length cs1) x.VC (x.UZ.set j { s with state:=st }) U3):=V3.out;clear V3;have HCP:Hid (∀wy,Below U3.drew.heap.size U3.drew wy→_):=fun wy hy=>V4.out.kept (bR.drew.trans hy)
  clear V4;try clear hun
  refine aN [108,109,110,111,112,113,114,115,116,117,118,119,120] (by kernel_rfl) (by kernel_rfl) ?_;iterate 13 (apply bC.u rfl;(·intro K' a wy ho hd hb hK;simp[aS,aF,aD,Region.binds]at ho hd;have hst:=HCP.out wy hb;have HHt:=hst.at iR;have t0:=HHt.cell (j:=0) rfl;clear HHt;have kC:=(hst.at eB).c10;have k1:=hst.o.cell (j:=1) rfl;clear hst;go_simp;first|((try go_bits);exact hK _ _ rfl bQ)|(refine(HLG.out wy).mono ?_;rintro e wz ⟨rfl,hz⟩;exact hK _ _ rfl hz));dsimp only[nA,cA])
  intro X wz hR hz;simp only[UB,UC,eW,aF]at hR;simp only[aE,hR];clear hR;have SZ:=HCP.out wz hz;have hls:x.UZ.length=(x.UZ.set j { s with state:=st }).length:=by simp
  have r6:wz.cell? ⟨gs,j*7+6,none⟩=some (iV s.untl):=fF SZ.so hls j (by simpa using hlt) 6 _ (by simp[fY]);have f6:wz.frozen? ⟨gs,j*7+6,none⟩=false:=mS SZ.so _;have S8:=SZ.setS hls j (by simpa using hlt) 6 (by decide) (iV (now+lf)) { s with state:=st,untl:=now+lf } (by simp[fY]);rw[List.set_set]at S8;have S9:Hid _:=S8;clear S8 SZ hz HCP hls;simp only[List.length_cons,List.length_nil,List.drop_succ_cons,List.drop_zero,TX,Nat.reduceAdd];intro K5 hK5;go_simp;refine hK5 _ _ ?_;simp only[fO];clear r6 f6;generalize wz.setCell ⟨gs,j*7+6,none⟩ (iV (now+lf))=W9 at *;obtain⟨k0,k1⟩:=S9.out.o.c2;have HHx:=S9.out.at cO;obtain⟨x0,x1,x2,x3,x4⟩:=HHx.c5;clear HHx;have HHz:=S9.out.at lX;obtain⟨z0,z1,z2,z3,z4,z5,z6,z7⟩:=HHz.c8;obtain⟨zf0,zf1,zf2,zf3,zf4,zf5,zf6,zf7⟩:=HHz.f8;obtain⟨HRR,RB⟩:=vD HHz S9.out.b hRw ((.slice ab x.VC.length cb1)) ((.slice (some ⟨gs,0,none⟩) x.UZ.length cs1)) (iV c.UU) (.string c.inn) (iV c.UW) (.string c.out) (iV c.UX) (iV 0);clear HHz;obtain⟨a1,q1,hb1,-,hbo⟩:=S9.out.shapes.1;obtain⟨a2,q2,hb2,-,hso⟩:=S9.out.shapes.2;injection hb1 with i1 i2 i3
  injection hb2 with i4 i5 i6
  have hRb:w.heap.size+1+1+1 < base:=(S9.out.kb _ lX).1;have hwb:=S9.out.wb;have HOW:Hid (dD w.heap.size ((sW (sW (sW (sW (sW (sW (sW W9 (w.heap.size+1+1+1) 0 ((.slice ab x.VC.length cb1))) (w.heap.size+1+1+1) 1 ((.slice (some ⟨gs,0,none⟩) x.UZ.length cs1))) (w.heap.size+1+1+1) 2 (iV c.UU)) (w.heap.size+1+1+1) 3 (.string c.inn)) (w.heap.size+1+1+1) 4 (iV c.UW)) (w.heap.size+1+1+1) 5 (.string c.out)) (w.heap.size+1+1+1) 6 (iV c.UX)).setCell ⟨w.heap.size+1+1+1,7,none⟩ (iV 0)) a1 a2 ⟨x.VC,x.UZ.set j { s with state:=st,untl:=now+lf }⟩):=⟨(hbo.grown (aC (aC (aC (aC (aC (aC (aC (aC (World.grownBy.refl _ _) _) _) _) _) _) _) _) _) hRb).down hwb,(hso.grown (aC (aC (aC (aC (aC (aC (aC (aC (World.grownBy.refl _ _) _) _) _) _) _) _) _) _) hRb).down hwb,fun g h e1 e2 _ _ e3=>S9.out.ne g (by rw[i1,e1];rfl) (by rw[i4,e2,←e3];rfl)⟩;have I1:Hid _:=i1;have I2:Hid _:=i2;have I3:Hid _:=i3;have I4:Hid _:=i4;have I5:Hid _:=i5;have I6:Hid _:=i6;clear hbo hso S9 i1 i2 i3 i4 i5 i6;go_wp2_with fail
  exact UQ (aG Tryz.results114 _ _ _ _ _ rfl HRR.out Tryz.underlying104 rfl (show (Tryz.prog.info? 104).map (·.size)=some 8 by kernel_rfl)) rfl (And.intro (by rw[HW.out];exact⟨a1,a2,q1,q2,by first | (rw[I1.out,I3.out,I4.out,I5.out,I6.out];rfl) | (rw[I1.out,I3.out,I4.out,I6.out];simp[IP]),HOW.out⟩) RB.out)
end Go.Proofs.YtdkepkaflielhaaGreatDoor
