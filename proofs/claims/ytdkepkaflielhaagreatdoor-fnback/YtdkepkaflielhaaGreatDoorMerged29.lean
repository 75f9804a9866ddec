import Derived.Test.YtdkepkaflielhaaGreatDoorMerged27
set_option linter.unusedVariables false
set_option linter.unusedSimpArgs false
set_option maxRecDepth 100000
set_option maxHeartbeats 8000000
namespace Go.Proofs.YtdkepkaflielhaaGreatDoor
open Go.RowKit Go.PlainAid
structure TS(w:World)(B:Nat)(sa:OA)(len cap:Nat)(size:Int)(R0 R1 P X:Nat)(pa:OA)(pc:Nat)(p:Pl)(a b:OA)(c d:Nat)(x:Bb)(wx:World):Prop where
 dr:Dr w B sa len cap size wx
 r0:aA wx R0 gS
 r1:aA wx R1 [.slice none 0 0,.slice none 0 0]
 bp:aA wx P (FA pa pc p)
 bx:aA wx X (aX a c b d x)
 pl:bP cB 1 wx pa p.VL
 bb:dC wx a b x
 fp:∀g o,pa=some ⟨g,o,none⟩→w.heap.size≤g
 fa:x.VN=[]∨∀g o,a=some ⟨g,o,none⟩→w.heap.size≤g
 fb:x.VK=[]∨∀g o,b=some ⟨g,o,none⟩→w.heap.size≤g
 hP:R0 < R1∧R1 < B∧w.heap.size≤P∧P < X
structure TF(R0 R1:Nat)(pa:OA)(pc:Nat)(p:Pl)(a b:OA)(c d:Nat)(x:Bb)(wx:World):Prop where
 r0:aA wx R0 (FA pa pc p)
 r1:aA wx R1 (aX a c b d x)
 pl:bP cB 1 wx pa p.VL
 bb:dC wx a b x
theorem CV(B:Nat)(sa:OA)(len cap:Nat)(size:Int)(w:World)(hl:len≤1048576)(hs:iY w B sa len cap size) :
  Calls Tryz.prog 54 #[.pointer (some ⟨B,0,none⟩)] w (QB w B sa len cap size):=by
 have hBW:B < w.heap.size:=(Dr.start hs).hB;have D0:Hid (Dr w B sa len cap size ((aW w jU 27).alloc (.cells #[.slice none 0 0,.slice none 0 0] 31))):=((Dr.start hs).alloc _).alloc _;have O0:Hid (aA ((aW w jU 27).alloc (.cells #[.slice none 0 0,.slice none 0 0] 31)) w.heap.size gS):=(aA.new w gS 27).alloc _;have O1:Hid (aA ((aW w jU 27).alloc (.cells #[.slice none 0 0,.slice none 0 0] 31)) (w.heap.size+1) [.slice none 0 0,.slice none 0 0]):=by
  have h:=aA.new (w.alloc (.cells jU.toArray 27)) [.slice none 0 0,.slice none 0 0] 31;rw[UC]at h;exact h
 have HZ:Hid (((aW w jU 27).alloc (.cells #[.slice none 0 0,.slice none 0 0] 31)).heap.size=w.heap.size+2):=by unfold Hid;simp
 clear hs;go_enter Tryz.func54,Tryz.ntmps54
 go_upto_region 1 with fail
 generalize World.alloc _ _=W0 at *;go_wp2_with fail
 refine(AG B sa len cap size _ hl D0.out.src).mono ?_;rintro e W1 ⟨pa,pc,p,rfl,hpd,hpc,hsl,hfar,hs1,hg1⟩;have HPD:Hid (pL p):=hpd;have hpl:p.VL.length≤3:=hpd.2.1;have HPZ:Hid (∀s∈p.VL,s.size≤1048576):=fun s h=>by have:=hpd.2.2 s h;omega
 obtain⟨gp,op,hpa,hgp,-⟩:=hsl.at (k:=0) (by have:=hpd.1;omega);have hgf:w.heap.size+2≤gp:=by have:=hfar gp op hpa;have:=HZ.out;omega
 have HPA:Hid (pa=some ⟨gp,op,none⟩):=hpa;clear hpa;have hW1:w.heap.size+2≤W1.heap.size:=by have:=hg1.size;have:=HZ.out;omega
 have S2:Hid (BS w B sa len cap size W1.heap.size (W1.heap.size+1) (W1.heap.size+2) pa pc p none none 0 0 bbZ ((aW W1 (bG pa pc p) 27).alloc (.cells #[.slice none 0 0,.slice none 0 0] 31))):=by
  have D1:=D0.out.draw hs1 hg1;have E0:=O0.out.grown (by simp[gS]) hg1 (by simp;omega);have E1:=O1.out.grown (by simp) hg1 (by simp;omega);have bx:=aA.new (W1.alloc (.cells (bG pa pc p).toArray 27)) [.slice none 0 0,.slice none 0 0] 31;rw[UC]at bx;exact⟨(D1.alloc _).alloc _,(E0.alloc _).alloc _,(E1.alloc _).alloc _,(aA.new W1 (FA pa pc p) 27).alloc _,bx,hsl.below ((bR.alloc lR _).alloc (by simp) _),⟨.inl rfl,.inl rfl⟩,fun g o e=>by rw[HPA.out]at e;injection e with e;injection e with e1 e2;omega,.inl rfl,.inl rfl,hW1,by omega,by omega,by simp⟩
 clear D0 O0 O1 hsl hfar hs1 hg1 hpd;unfold iK;go_upto_region 3 with fail
 generalize World.alloc _ _=W2 at *;go_wp2_with fail
 refine(aV 8 B sa len cap size _ (by omega) (by omega) hl S2.out.dr.src).mono ?_;rintro e W3 ⟨r0,rfl,lr0,ur0,hs,hg⟩;obtain⟨k0,rfl⟩:=UK lr0;have S3:Hid (BS w B sa len cap size W1.heap.size (W1.heap.size+1) (W1.heap.size+2) pa pc p none none 0 0 bbZ W3):=S2.out.draw hs hg;clear hs hg S2;go_wp2_with fail
 go_loopw [7,8] (fun nv kv wr=>∃(x:Bb) (ba bo:OA) (ca cb k n:Nat) (now:Int),nv=iV now∧kv=iV k∧k+n≤7∧0≤now∧now+4*k≤100∧LG p n x∧BS w B sa len cap size W1.heap.size (W1.heap.size+1) (W1.heap.size+2) pa pc p ba bo ca cb x wr) (fun _ kv _=>(intOf kv).toNat)
 case atStart=>exact⟨bbZ,none,none,0,0,k0,0,0,rfl,rfl,by omega,by omega,by omega,⟨.inl rfl,by decide,by decide⟩,S3.out⟩
 case round=>
  obtain⟨x,ba,bo,ca,cb,k,n,now,rfl,rfl,hkn,hn0,hn1,hdx,hS⟩:=hrel;have S4:Hid (BS w B sa len cap size W1.heap.size (W1.heap.size+1) (W1.heap.size+2) pa pc p ba bo ca cb x wr):=hS;have HDX:Hid (LG p n x):=hdx;have HBD:Hid (nQ x):=hdx.dr HPD.out (by omega);have hxb:x.VN.length≤8:=by have:=hdx.2.1;omega
  have hxs:x.VK.length≤8:=by have:=hdx.2.2;omega
  clear hS hdx S3 lr0 ur0
  cases k with
  | succ k=>
   have hkI:(0:Int) < ((k+1:Nat):Int):=by omega
   go_wp2_with fail
   refine(aV 4 B sa len cap size _ (by omega) (by omega) hl S4.out.dr.src).mono ?_;rintro e U1 ⟨r1,rfl,lr1,ur1,hs,hg⟩;have S5:Hid (BS w B sa len cap size W1.heap.size (W1.heap.size+1) (W1.heap.size+2) pa pc p ba bo ca cb x U1):=S4.out.draw hs hg;clear hs hg S4;go_upto_region 8 with fail
   go_cut [9] (fun v wx=>∃Y o a7 b7 c7 d7,v=.pointer (some ⟨Y,0,none⟩)∧(o.code=0→LG p (n+1) o.bib)∧(W1.heap.size+2)≤Y∧BS w B sa len cap size W1.heap.size (W1.heap.size+1) (W1.heap.size+2) pa pc p ba bo ca cb x wx∧aA wx Y (TL a7 b7 c7 d7 o)∧dC wx a7 b7 o.bib∧(o.bib.VN=[]∨∀g q,a7=some ⟨g,q,none⟩→(W1.heap.size+2)≤g)∧(o.bib.VK=[]∨∀g q,b7=some ⟨g,q,none⟩→(W1.heap.size+2)≤g))
   case first=>
    rename_i J K2 hJ hK2;have hBU:B < U1.heap.size:=by have:=S5.out.hP;omega
    have hbU:(W1.heap.size+2)≤U1.heap.size:=S5.out.hP.2.2.2;have HOA:Hid (x.VN=[]∨∀g q,ba=some ⟨g,q,none⟩→g < U1.heap.size):=by
     rcases S5.out.bb.bd with h|⟨b1,o1,h1,h2,-⟩
     ·exact .inl h
     ·exact .inr fun g q e=>by rw[h1]at e;injection e with e;injection e with e1 e2;omega
    have HOB:Hid (x.VK=[]∨∀g q,bo=some ⟨g,q,none⟩→g < U1.heap.size):=by
     rcases S5.out.bb.ss with h|⟨b1,o1,h1,h2,-⟩
     ·exact .inl h
     ·exact .inr fun g q e=>by rw[h1]at e;injection e with e;injection e with e1 e2;omega
    refine dY (EB B) (fun wx=>BS w B sa len cap size W1.heap.size (W1.heap.size+1) (W1.heap.size+2) pa pc p ba bo ca cb x wx∧U1.heap.size≤wx.heap.size) [23,24,25,26,27,28,29,30,9] (by kernel_rfl) (by kernel_rfl) (⟨S5.out.below bR.drew,Nat.le_refl _⟩) ?_;iterate 5 (apply cS.u xQ rfl;(·intro K' a wy ho hd hI hK;simp[aU,aG,aD,Region.binds]at ho hd;have kC:=hI.1.bp.c10;have kC:=hI.1.bx.c2;go_simp;(try go_bits);exact hK _ rfl);dsimp only[nA,cA])
    refine cS.rel (n:=5) (SK) (RH) [_,_,_,_,_,SK] rfl rfl ?_ ?_
    ·intro K' a wy ho hd hI hK;rw[wN rfl];have q2:=hd ⟨2,.data⟩ (by simp) rfl;have q3:=hd ⟨3,.data⟩ (by simp) rfl;have q4:=hd ⟨4,.data⟩ (by simp) rfl;simp[aU,aG,aD]at q2 q3 q4;clear hd ho;go_simp;refine(lD B sa len cap size pa pc p ba bo ca cb x wy hl HPD.out HBD.out hI.1.pl hI.1.bb (fun g o e=>by have:=hI.1.fp g o e;omega) (hI.1.fa.imp id fun f g o e=>by have:=f g o e;omega) (hI.1.fb.imp id fun f g o e=>by have:=f g o e;omega) hI.1.dr.src).mono ?_;rintro e wz ⟨t,rfl,ht,hsz,hgz⟩;exact hK _ _ ⟨t,rfl,ht⟩ hgz ⟨hI.1.draw hsz hgz,UL hI.2 hgz.size⟩
    (apply cS.u xQ rfl;(·intro K' a wy ho hd hI hK;simp[aU,aG,aD,Region.binds]at ho hd;go_simp;(try go_bits);exact hK _ rfl);dsimp only[nA,cA])
    refine cS.rel (n:=7) (SU U1.heap.size B p x (now+r1)) (RA) [_,_,_,_,_,_,_,SU U1.heap.size B p x (now+r1)] rfl rfl ?_ ?_
    ·intro K' a wy ho hd hI hK;rw[wN rfl];have q0:=hd ⟨0,.data⟩ (by simp) rfl;have q1:=hd ⟨1,.data⟩ (by simp) rfl;simp[aU,aG,aD]at q0 q1;obtain⟨t5,e5,d5⟩: SK (aD a 28) wy:=hd ⟨5,.data⟩ (by simp) rfl;simp[aD]at e5;have q6:=hd ⟨6,.data⟩ (by simp) rfl;simp[aU,aG,aD]at q6;clear hd ho;go_simp;refine(tS pa pc p ba bo ca cb x t5 (now+r1) wy (by omega) hpc HPZ.out (by have:=d5.1;omega) (by have:=d5.2.1;omega) (by omega) (by omega) hI.1.pl hI.1.bb).mono ?_;rintro e wz ⟨⟨a',b',c',d',rfl,ho⟩,hz⟩;exact hK _ _ ⟨t5,a',b',c',d',rfl,hBU,DS ho.bd hI.2,DS ho.ss hI.2⟩ (EB.of hz) ⟨hI.1.below hz,UL hI.2 hz.size⟩
    refine cS.rel (n:=8) (zT U1.heap.size B gU) (vR (by simp)) [_,_,_,_,_,_,_,_,zT U1.heap.size B gU] rfl rfl ?_ ?_
    ·intro K' a wy ho hd hI hK;rw[wN rfl];clear hd ho;go_simp;exact hK _ _ ⟨wy.heap.size,rfl,hI.2,by have:=hI.2;omega,aA.new wy gU _⟩ (EB.of (bR.alloc lR _)) ⟨hI.1.below (bR.alloc lR _),by have:=hI.2;simp;omega⟩
    intro X wz hR hI;obtain⟨x0,x1,x2,x3,x4,x5,x6,x7,x8,-⟩:=hR;obtain⟨t7,a7,b7,c7,d7,e7,-,o7,p7⟩:=x7;obtain⟨Y,e8,hYn,hYB,hYc⟩:=x8;simp only[aG]at x0 x1 x2 x3 x4 x6;simp only[aE,x0,x1,x2,x3,x4,aE,x6,e7,e8];clear x0 x1 x2 x3 x4 x6;have HO:Hid ((dH p x t7 (now+r1)).code=0→LG p (n+1) (dH p x t7 (now+r1)).bib):=HDX.out.touch;unfold EZ;generalize dH p x t7 (now+r1)=o at *;have na:=JE o7 (fun q=>⟨_,_,rfl⟩) hYc;have nb:=JE p7 (fun q=>⟨_,_,rfl⟩) hYc;have fa:=(JF o7).imp id fun f g q e=>UL hbU (f g q e)
    have fb:=(JF p7).imp id fun f g q e=>UL hbU (f g q e)
    have ma:x.VN=[]∨∀g q,ba=some ⟨g,q,none⟩→g≠Y:=HOA.out.imp id fun f g q e=>by have:=f g q e;omega
    have mb:x.VK=[]∨∀g q,bo=some ⟨g,q,none⟩→g≠Y:=HOB.out.imp id fun f g q e=>by have:=f g q e;omega
    obtain⟨z0,z1,z2,z3,z4,z5,z6,z7⟩:=hYc.c8;obtain⟨zf0,zf1,zf2,zf3,zf4,zf5,zf6,zf7⟩:=hYc.f8;have HC:Hid (aA ((sW (sW (sW (sW (sW (sW (sW wz Y 0 (.slice a7 o.bib.VN.length c7)) Y 1 (.slice b7 o.bib.VK.length d7)) Y 2 (iV o.bind.VF)) Y 3 (.string o.bind.inn)) Y 4 (iV o.bind.VH)) Y 5 (.string o.bind.out)) Y 6 (iV o.bind.VI)).setCell ⟨Y,7,none⟩ (iV o.code)) Y (TL a7 b7 c7 d7 o)):=((((((((hYc.set 0 (.slice a7 o.bib.VN.length c7)).set 1 (.slice b7 o.bib.VK.length d7)).set 2 (iV o.bind.VF)).set 3 (.string o.bind.inn)).set 4 (iV o.bind.VH)).set 5 (.string o.bind.out)).set 6 (iV o.bind.VI)).set 7 (iV o.code));have HS:Hid (BS w B sa len cap size W1.heap.size (W1.heap.size+1) (W1.heap.size+2) pa pc p ba bo ca cb x ((sW (sW (sW (sW (sW (sW (sW wz Y 0 (.slice a7 o.bib.VN.length c7)) Y 1 (.slice b7 o.bib.VK.length d7)) Y 2 (iV o.bind.VF)) Y 3 (.string o.bind.inn)) Y 4 (iV o.bind.VH)) Y 5 (.string o.bind.out)) Y 6 (iV o.bind.VI)).setCell ⟨Y,7,none⟩ (iV o.code))):=((((((((hI.1.other Y 0 (.slice a7 o.bib.VN.length c7) (by omega) ma mb).other Y 1 (.slice b7 o.bib.VK.length d7) (by omega) ma mb).other Y 2 (iV o.bind.VF) (by omega) ma mb).other Y 3 (.string o.bind.inn) (by omega) ma mb).other Y 4 (iV o.bind.VH) (by omega) ma mb).other Y 5 (.string o.bind.out) (by omega) ma mb).other Y 6 (iV o.bind.VI) (by omega) ma mb).other Y 7 (iV o.code) (by omega) ma mb);have HI:Hid (dC ((sW (sW (sW (sW (sW (sW (sW wz Y 0 (.slice a7 o.bib.VN.length c7)) Y 1 (.slice b7 o.bib.VK.length d7)) Y 2 (iV o.bind.VF)) Y 3 (.string o.bind.inn)) Y 4 (iV o.bind.VH)) Y 5 (.string o.bind.out)) Y 6 (iV o.bind.VI)).setCell ⟨Y,7,none⟩ (iV o.code)) a7 b7 o.bib):=⟨((((((((o7.is.grown (aH _ Y 0 _) na).grown (aH _ Y 1 _) na).grown (aH _ Y 2 _) na).grown (aH _ Y 3 _) na).grown (aH _ Y 4 _) na).grown (aH _ Y 5 _) na).grown (aH _ Y 6 _) na).grown (aH _ Y 7 _) na),((((((((p7.is.grown (aH _ Y 0 _) nb).grown (aH _ Y 1 _) nb).grown (aH _ Y 2 _) nb).grown (aH _ Y 3 _) nb).grown (aH _ Y 4 _) nb).grown (aH _ Y 5 _) nb).grown (aH _ Y 6 _) nb).grown (aH _ Y 7 _) nb)⟩;clear hYc hI o7 p7 na nb ma mb;intro K5 hK5;go_simp;refine hK5 _ _ ?_;show Exit.then _ _ _ _ _;refine hK2 _ _ (hJ _ _ ?_);(repeat apply Exists.intro)
    exact⟨⟨Y,o,a7,b7,c7,d7,rfl,HO.out,by omega,HS.out,HC.out,HI.out,fa,fb⟩,rfl⟩
   case rest=>
   obtain⟨Y,o,a7,b7,c7,d7,rfl,ho,hYb,hS,hY,hbi,hfa,hfb⟩:=hcut;have HO:Hid (o.code=0→LG p (n+1) o.bib):=ho;have S6:Hid (BS w B sa len cap size W1.heap.size (W1.heap.size+1) (W1.heap.size+2) pa pc p ba bo ca cb x wc):=hS;have HBI:Hid (dC wc a7 b7 o.bib):=hbi;obtain⟨y0,y1,-,-,-,-,-,y7⟩:=hY.c8;obtain⟨x0,x1⟩:=S6.out.bx.c2;obtain⟨xf0,xf1⟩:=S6.out.bx.f2;clear ho hS hbi hY S5;by_cases hc:o.code=0
   ·have S7:Hid (BS w B sa len cap size W1.heap.size (W1.heap.size+1) (W1.heap.size+2) pa pc p a7 b7 c7 d7 o.bib ((sW wc (W1.heap.size+1) 0 (.slice a7 o.bib.VN.length c7)).setCell ⟨W1.heap.size+1,1,none⟩ (.slice b7 o.bib.VK.length d7))):=S6.out.setX HBI.out hfa hfb;have HDN:=HO.out hc;have hcb:(o.code==0)=true:=by simp[hc]
    clear hfa hfb S6 HBI;go_wp2_with fail
    go_roundw
    case rel=>exact⟨o.bib,a7,b7,c7,d7,k,n+1,now+r1,by first | rfl | go_num,by first | go_num | (congr 1;omega),by omega,by omega,by omega,HDN,S7.out⟩
    case measure=>simp[intOf];try omega
   ·have hcb:(o.code==0)=false:=by simp[hc]
    go_wp2_with fail
    go_roundw
    case rel=>exact⟨x,ba,bo,ca,cb,k,n,now+r1,by first | rfl | go_num,by first | go_num | (congr 1;omega),by omega,by omega,by omega,HDX.out,S6.out⟩
    case measure=>simp[intOf];try omega
  | zero=>
   go_wp2_with fail
   refine(bS 15 B sa len cap size _ (by omega) hl S4.out.dr.src).mono ?_;rintro e U2 ⟨c2,rfl,hs,hg⟩;have S7:Hid (BS w B sa len cap size W1.heap.size (W1.heap.size+1) (W1.heap.size+2) pa pc p ba bo ca cb x U2):=S4.out.draw hs hg;clear hs hg S4;go_upto_if 37 with fail
   go_cut [] (fun wx=>∃y a7 b7 c7 d7,nQ y∧BS w B sa len cap size W1.heap.size (W1.heap.size+1) (W1.heap.size+2) pa pc p a7 b7 c7 d7 y wx)
   case first=>
    cases c2 with
    | false=>
     go_wp2_with fail
     go_meet;exact⟨x,ba,bo,ca,cb,HBD.out,S7.out⟩
    | true=>
     obtain⟨x0,x1⟩:=S7.out.bx.c2;go_wp2_with fail
     refine(yD B sa len cap size ba bo ca cb x U2 hl HBD.out ⟨by omega,by omega⟩ HDX.out.ne S7.out.bb S7.out.dr.src).mono ?_;rintro e U3 ⟨y,a7,b7,c7,d7,rfl,hy,hbi,hfa,hfb,hs,hg⟩;have S8:=S7.out.draw hs hg;obtain⟨z0,z1⟩:=S8.bx.c2;obtain⟨zf0,zf1⟩:=S8.bx.f2;have hU:=S7.out.hP.2.2.2;have S9:Hid (BS w B sa len cap size W1.heap.size (W1.heap.size+1) (W1.heap.size+2) pa pc p a7 b7 c7 d7 y ((U3.setCell ⟨W1.heap.size+1,0,none⟩ (.slice a7 y.VN.length c7)).setCell ⟨W1.heap.size+1,1,none⟩ (.slice b7 y.VK.length d7))):=S8.setX hbi (.inr fun g o e=>UL hU (hfa g o e)) (.inr fun g o e=>UL hU (hfb g o e));have HY:Hid (nQ y):=hy;clear hs hg S7 S8 hbi hfa hfb x0 x1 hy;unfold gP;go_wp2_with fail
     go_meet;exact⟨y,a7,b7,c7,d7,HY.out,S9.out⟩
   case rest=>
   obtain⟨y,a7,b7,c7,d7,hy,hS⟩:=hcut;have HY:Hid (nQ y):=hy;have S8:Hid (BS w B sa len cap size W1.heap.size (W1.heap.size+1) (W1.heap.size+2) pa pc p a7 b7 c7 d7 y wc):=hS;clear hy hS S7 HBD HDX hxb hxs;obtain⟨p0,p1,p2,p3,p4,p5,p6,p7,p8,p9⟩:=S8.out.bp.c10;obtain⟨b0,b1⟩:=S8.out.bx.c2;obtain⟨z0,z1,z2,z3,z4,z5,z6,z7,z8,z9⟩:=S8.out.r0.c10;have zf0:=S8.out.r0.free (j:=0) (by simp[gS]);have zf1:=S8.out.r0.free (j:=1) (by simp[gS]);have zf2:=S8.out.r0.free (j:=2) (by simp[gS]);have zf3:=S8.out.r0.free (j:=3) (by simp[gS]);have zf4:=S8.out.r0.free (j:=4) (by simp[gS]);have zf5:=S8.out.r0.free (j:=5) (by simp[gS]);have zf6:=S8.out.r0.free (j:=6) (by simp[gS]);have zf7:=S8.out.r0.free (j:=7) (by simp[gS]);have zf8:=S8.out.r0.free (j:=8) (by simp[gS]);have zf9:=S8.out.r0.free (j:=9) (by simp[gS]);obtain⟨u0,u1⟩:=S8.out.r1.c2;obtain⟨uf0,uf1⟩:=S8.out.r1.f2;have hPw:W1.heap.size≠w.heap.size:=by omega
   have hXw:W1.heap.size+1≠w.heap.size:=by omega
   have hXw1:W1.heap.size+1≠w.heap.size+1:=by omega
   have hPw1:W1.heap.size≠w.heap.size+1:=by omega
   go_upto_region 13 with fail
   go_cut [4] (fun v wx=>v=iV now∧JL w B sa len cap size pa pc p a7 b7 c7 d7 y wx)
   case first=>
    have g1:w.heap.size≠W1.heap.size:=by omega
    have g2:w.heap.size≠W1.heap.size+1:=by omega
    have g3:w.heap.size+1≠W1.heap.size:=by omega
    go_region_held (fun wy=>wy.cell? ⟨W1.heap.size,0,none⟩=some (.slice pa p.VL.length pc)∧wy.cell? ⟨W1.heap.size,1,none⟩=some (iV p.low)∧wy.cell? ⟨W1.heap.size,2,none⟩=some (iV p.high)∧wy.cell? ⟨W1.heap.size,3,none⟩=some (iV p.most)∧wy.cell? ⟨W1.heap.size,4,none⟩=some (iV p.filter)∧wy.cell? ⟨W1.heap.size,5,none⟩=some (iV p.lv.udp)∧wy.cell? ⟨W1.heap.size,6,none⟩=some (iV p.lv.echo)∧wy.cell? ⟨W1.heap.size,7,none⟩=some (iV p.lv.opening)∧wy.cell? ⟨W1.heap.size,8,none⟩=some (iV p.lv.opn)∧wy.cell? ⟨W1.heap.size,9,none⟩=some (iV p.lv.closing)∧wy.cell? ⟨W1.heap.size+1,0,none⟩=some (.slice a7 y.VN.length c7)∧wy.cell? ⟨W1.heap.size+1,1,none⟩=some (.slice b7 y.VK.length d7)) (go_keep) (fail)
    go_wp2_with fail
    go_meet;exact⟨rfl,S8.out.fin.drew⟩
   case rest=>
   obtain⟨rfl,hF⟩:=hcut;have HF:Hid (JL w B sa len cap size pa pc p a7 b7 c7 d7 y wc):=hF;have HQ:Hid ((∀g o,pa=some ⟨g,o,none⟩→w.heap.size≤g)∧(y.VN=[]∨∀g o,a7=some ⟨g,o,none⟩→w.heap.size≤g)∧(y.VK=[]∨∀g o,b7=some ⟨g,o,none⟩→w.heap.size≤g)):=by
    obtain⟨q1,q2,q3,q4⟩:=S8.out.hP;exact⟨fun g o e=>by have:=S8.out.fp g o e;omega,S8.out.fa.imp id fun f g o e=>by have:=f g o e;omega,S8.out.fb.imp id fun f g o e=>by have:=f g o e;omega⟩
   clear hF S8 p0 z0 zf0 p1 z1 zf1 p2 z2 zf2 p3 z3 zf3 p4 z4 zf4 p5 z5 zf5 p6 z6 zf6 p7 z7 zf7 p8 z8 zf8 p9 z9 zf9 b0 u0 uf0 b1 u1 uf1;obtain⟨z0,z1,z2,z3,z4,z5,z6,z7,z8,z9⟩:=HF.out.r0.c10;obtain⟨u0,u1⟩:=HF.out.r1.c2;go_wp2_with fail
   exact VB (v:=.tuple #[.agg (bG pa pc p).toArray,.agg (aX a7 c7 b7 d7 y).toArray,iV now]) (by simp[results,Tryz.results54,go_sem,z0,z1,z2,z3,z4,z5,z6,z7,z8,z9,u0,u1]) rfl ⟨pa,pc,p,a7,b7,c7,d7,y,now,rfl,HPD.out,hpc,HY.out,hn0,by omega,HF.out.pl,HF.out.bb,HQ.out.1,HQ.out.2.1,HQ.out.2.2,HF.out.dr.src,HF.out.dr.grown⟩
theorem FN{n:Nat}{w w1 W:World}{B:Nat}(h:Below n w w1)(hg:w1.grownBy W (some B))(hB:n≤B)(hn:n≤w1.heap.size):Below n w W :=
 ⟨hg.os.trans h.os,hg.tape.trans h.tape,hg.output.trans h.output,UL h.size hg.size,fun k hk=>by rw[hg.block k (by omega) (by simp;omega),h.block k hk]⟩
theorem aJ{α:Type}{en:α→List Value}{n g:Nat}{w:World}{a:OA}{xs:List α}(h:bP en n w a xs)(hne:xs=[]∨∀g' o,a=some ⟨g',o,none⟩→g'≠g)(j:Nat)(u:Value):bP en n (w.setCell ⟨g,j,none⟩ u) a xs:=by
 rcases h with h|⟨b,off,ha,hb,hr⟩
 ·exact .inl h
 ·rcases hne with h0 | hne
  ·exact .inl h0
  ·exact .inr ⟨b,off,ha,by simpa[World.setCell] using hb,fun i hi k v hv=>(World.cell?_setCell_other _ _ _ _ (fun e2=>hne b off ha (by injection e2 with e3 _;exact e3.symm))).trans (hr i hi k v hv)⟩
end Go.Proofs.YtdkepkaflielhaaGreatDoor
