import Derived.Test.YtdkepkaflielhaaGreatDoorMerged22
import Derived.Deep.RegionHeld
set_option linter.unusedVariables false
set_option linter.unusedSimpArgs false
set_option maxRecDepth 100000
set_option maxHeartbeats 8000000
namespace Go.Proofs.YtdkepkaflielhaaGreatDoor
open Go.RowKit Go.PlainAid
theorem nZ{α:Type}{en:α→List Value}{n:Nat}{w:World}{a:OA}{xs:List α}(h:bP en n w a xs)(j:Nat)(R:Nat)(v:Value)(hf:∀g o,a=some ⟨g,o,none⟩→R < g):bP en n (w.setCell ⟨R,j,none⟩ v) a xs:=h.grown (aH w R j v) (.inr fun g o e=>by have:=hf g o e;omega)
theorem rP{α:Type}{P:α→Prop}{xs:List α}{i:Nat}{y:α}(h:∀x∈xs,P x)(hy:P y):∀x∈xs.set i y,P x:=fun x hx=>by
 rcases List.mem_or_eq_of_mem_set hx with h1|rfl
 ·exact h x h1
 ·exact hy
theorem uI{α:Type}{P:α→Prop}{xs:List α}{y:α}(h:∀x∈xs,P x)(hy:P y):∀x∈xs++[y],P x:=fun x hx=>by
 rcases List.mem_append.1 hx with h1|h1
 ·exact h x h1
 ·simp at h1;subst h1;exact hy
def RP(w:World)(B:Nat)(sa:OA)(len cap:Nat)(size:Int)(e:Ending)(w':World):Prop:=∃y a b c d,e=.returned (gP a b c d y)∧nQ y∧dC w' a b y∧(∀g o,a=some ⟨g,o,none⟩→w.heap.size≤g)∧(∀g o,b=some ⟨g,o,none⟩→w.heap.size≤g)∧iY w' B sa len cap size∧w.grownBy w' (some B)
theorem rV{w W:World}{B:Nat}{sa:OA}{len cap:Nat}{size:Int}{y:Bb}{fa fb:OA}{fc fd:Nat}(hy:nQ y)(hR:aA W (w.heap.size+1) [.slice none 0 0,.slice none 0 0])(hbi:dC W fa fb y)(hfa:∀g o,fa=some ⟨g,o,none⟩→w.heap.size+1 < g)(hfb:∀g o,fb=some ⟨g,o,none⟩→w.heap.size+1 < g)(hdr:Dr w B sa len cap size W) :
  Hid (aA ((sW W (w.heap.size+1) 0 (.slice fa y.VN.length fc)).setCell ⟨w.heap.size+1,1,none⟩ (.slice fb y.VK.length fd)) (w.heap.size+1) (aX fa fc fb fd y))∧Hid (Dr w B sa len cap size ((sW W (w.heap.size+1) 0 (.slice fa y.VN.length fc)).setCell ⟨w.heap.size+1,1,none⟩ (.slice fb y.VK.length fd)))∧Hid (dC ((sW W (w.heap.size+1) 0 (.slice fa y.VN.length fc)).setCell ⟨w.heap.size+1,1,none⟩ (.slice fb y.VK.length fd)) fa fb y)∧Hid (nQ y∧(∀g o,fa=some ⟨g,o,none⟩→w.heap.size≤g)∧∀g o,fb=some ⟨g,o,none⟩→w.heap.size≤g) :=
 ⟨(hR.set 0 _).set 1 _,(hdr.set _ 0 _ (by omega)).set _ 1 _ (by omega),⟨nZ (nZ hbi.bd 0 _ _ (fun g o e=>by have:=hfa g o e;omega)) 1 _ _ (fun g o e=>by have:=hfa g o e;omega),nZ (nZ hbi.ss 0 _ _ (fun g o e=>by have:=hfb g o e;omega)) 1 _ _ (fun g o e=>by have:=hfb g o e;omega)⟩,⟨hy,fun g o e=>by have:=hfa g o e;omega,fun g o e=>by have:=hfb g o e;omega⟩⟩
theorem yD(B:Nat)(sa:OA)(len cap:Nat)(size:Int)(ba bo:OA)(ca cb:Nat)(x:Bb)(w:World)(hl:len≤1048576)(hbd:nQ x)(jD:x.VN.length≤50∧x.VK.length≤50)(hne:x.VN≠[]→x.VK≠[])(hx:dC w ba bo x)(hs:iY w B sa len cap size) :
  Calls Tryz.prog 90 #[.pointer (some ⟨B,0,none⟩),gP ba bo ca cb x] w (RP w B sa len cap size):=by
 have hBW:B < w.heap.size:=(Dr.start hs).hB;obtain⟨hl1,hl2⟩:=jD;have HBD:Hid (nQ x):=hbd;have HNE:Hid (x.VN≠[]→x.VK≠[]):=hne;have HCY:Hid (∀W,Below w.heap.size w W→Calls Tryz.prog 126 #[.agg (aX ba ca bo cb x).toArray] W fun e w'=>oE W.heap.size x e w'∧Below W.heap.size W w'):=fun W hW=>rT x ba bo ca cb W (by omega) (by omega) (hx.below hW)
 have D0:Hid (Dr w B sa len cap size ((aW w (aX ba ca bo cb x) 31).alloc (.cells #[.slice none 0 0,.slice none 0 0] 31))):=((Dr.start hs).alloc _).alloc _;have BL:Hid (Below w.heap.size w ((aW w (aX ba ca bo cb x) 31).alloc (.cells #[.slice none 0 0,.slice none 0 0] 31))):=(bR.alloc lR _).alloc (by simp) _;have HX:Hid (aA ((aW w (aX ba ca bo cb x) 31).alloc (.cells #[.slice none 0 0,.slice none 0 0] 31)) w.heap.size (aX ba ca bo cb x)):=(aA.new w (aX ba ca bo cb x) 31).alloc _;have HR:Hid (aA ((aW w (aX ba ca bo cb x) 31).alloc (.cells #[.slice none 0 0,.slice none 0 0] 31)) (w.heap.size+1) [.slice none 0 0,.slice none 0 0]):=by
  have h:=aA.new (w.alloc (.cells (aX ba ca bo cb x).toArray 31)) [.slice none 0 0,.slice none 0 0] 31;rw[UC]at h;exact h
 have hun:undef=Value.tuple #[]:=rfl;clear hs hx hbd hne;unfold gP;go_enter Tryz.func90,Tryz.ntmps90
 go_upto_region 1 with fail
 generalize World.alloc _ _=W0 at *;obtain⟨b0,b1⟩:=HX.out.c2;go_wp2_with fail
 refine(HCY.out _ BL.out).mono ?_;rintro e W1 ⟨⟨bv,sv,rfl,o1,o2⟩,q1⟩;obtain⟨ab,cb1,hbv,-,-⟩:=(xV.shape eC (w0:=W1) ⟨o1,Below.refl _ _⟩: ∃a' cap,bv=.slice a' x.VN.length cap∧x.VN.length≤cap∧eX dP 5 W0.heap.size W1 a' x.VN);obtain⟨sb,cs1,hsv,-,-⟩:=(xV.shape eD (w0:=W1) ⟨o2,Below.refl _ _⟩: ∃a' cap,sv=.slice a' x.VK.length cap∧x.VK.length≤cap∧eX fZ 7 W0.heap.size W1 a' x.VK);subst hbv hsv;have hRl:w.heap.size+1 < W0.heap.size:=HR.out.lt (by simp);have hX1:=HX.out.kept (by simp) q1;have hR1:=HR.out.kept (by simp) q1;have hXR:w.heap.size≠w.heap.size+1:=by omega
 have S2:Hid (tA w B sa len cap size (w.heap.size+1) w.heap.size W0.heap.size (.slice ab x.VN.length cb1) (.slice sb x.VK.length cs1) x.VN x.VK ((sW W1 w.heap.size 0 (.slice ab x.VN.length cb1)).setCell ⟨w.heap.size,1,none⟩ (.slice sb x.VK.length cs1))):=⟨((D0.out.below q1).set _ 0 _ lR).set _ 1 _ lR,(hR1.setOther hXR.symm _).setOther hXR.symm _,(hX1.set 0 _).set 1 _,cG (cG o1 (dX o1 (by omega))) (dX o1 (by omega)),cG (cG o2 (dX o2 (by omega))) (dX o2 (by omega)),⟨Nat.le_refl _,by omega⟩,⟨by omega,hRl⟩,hXR,by omega,by simp;exact q1.size⟩;obtain⟨b0,b1⟩:=hX1.c2;obtain⟨bf0,bf1⟩:=hX1.f2;clear hX1 hR1 o1 o2 HX HR D0 BL q1 HCY;go_upto_region 2 with fail
 generalize ((sW W1 w.heap.size 0 (.slice ab x.VN.length cb1)).setCell ⟨w.heap.size,1,none⟩ (.slice sb x.VK.length cs1))=W2 at *;clear b0 b1 bf0 bf1;generalize W0.heap.size=base at *;have HHx:aA W2 w.heap.size (aX ab cb1 sb cs1 x):=S2.out.box;obtain⟨x0,x1⟩:=HHx.c2;clear HHx;by_cases hb0:x.VN=[]
 case pos=>
  have HB0:Hid (x.VN=[]):=hb0;have d0:((x.VN.length:Int)==0)=true:=by rw[hb0];rfl
  clear hb0;go_upto_region 3 with fail
  clear d0 x0 x1;have HF:Hid (OD w B sa len cap size (w.heap.size+1) w.heap.size base W2):=S2.out.fin ⟨by have:=HBD.out.1;exact this,HBD.out.2.1,HBD.out.2.2⟩;obtain⟨y,fa,fb,fc,fd,hy,hX,hR,hbi,hfa,hfb,hdr⟩:=HF.out;clear HF;obtain⟨x0,x1⟩:=hX.c2;obtain⟨z0,z1⟩:=hR.c2;obtain⟨zf0,zf1⟩:=hR.f2;obtain⟨HRR,DD,BI,HY⟩:=rV (fc:=fc) (fd:=fd) hy hR hbi (fun g o e=>by have:=hfa g o e;omega) (fun g o e=>by have:=hfb g o e;omega) hdr;clear hy hX hR hbi hfa hfb hdr;go_wp2_with fail
  exact VB (aF Tryz.results90 _ _ _ _ _ rfl HRR.out Tryz.underlying31 rfl (show (Tryz.prog.info? 31).map (·.size)=some 2 by kernel_rfl)) rfl ⟨y,fa,fb,fc,fd,rfl,HY.out.1,BI.out,HY.out.2.1,HY.out.2.2,DD.out.src,DD.out.grown⟩
 have hbp:0 < x.VN.length:=List.length_pos_iff.2 hb0;have hsp:0 < x.VK.length:=List.length_pos_iff.2 (HNE.out hb0);have d0:((x.VN.length:Int)==0)=false:=by simp;exact hb0
 clear hb0;obtain⟨gb,hgb⟩: ∃g,ab=some ⟨g,0,none⟩:=by
  rcases S2.out.bo.2 with ⟨_,h0⟩|⟨g,c,cur,h3,_⟩
  ·omega
  ·injection h3 with h3;exact⟨g,h3⟩
 obtain⟨gs,hgs⟩: ∃g,sb=some ⟨g,0,none⟩:=by
  rcases S2.out.so.2 with ⟨_,h0⟩|⟨g,c,cur,h3,_⟩
  ·omega
  ·injection h3 with h3;exact⟨g,h3⟩
 subst hgb hgs;go_upto_region 4 with fail
 clear d0;go_wp2_with fail
 refine(eQ (x.VN.length:Int) B sa len cap size _ (by omega) hl S2.out.dr.src).mono ?_;rintro e W3 ⟨r3,rfl,lo3,hi3,hs,hg⟩;obtain⟨k,rfl⟩:=UK lo3;have hk:k < x.VN.length:=by omega
 have S3:Hid (tA w B sa len cap size (w.heap.size+1) w.heap.size base (.slice (some ⟨gb,0,none⟩) x.VN.length cb1) (.slice (some ⟨gs,0,none⟩) x.VK.length cs1) (x.VN) (x.VK) W3):=S2.out.draw hs hg;clear hs hg S2 lo3 hi3 x0 x1;go_wp2_with fail
 refine(aV 6 B sa len cap size _ (by omega) (by omega) hl S3.out.dr.src).mono ?_;rintro e W4 ⟨r6,rfl,lo6,hi6,hs,hg⟩;have S4:Hid (tA w B sa len cap size (w.heap.size+1) w.heap.size base (.slice (some ⟨gb,0,none⟩) x.VN.length cb1) (.slice (some ⟨gs,0,none⟩) x.VK.length cs1) (x.VN) (x.VK) W4):=S3.out.draw hs hg;clear hs hg S3;have hkI:(k:Int) < (x.VN.length:Int):=by omega
 have hsI:(0:Int) < (x.VK.length:Int):=by omega
 obtain⟨q,hq⟩: ∃q,q=x.VN[k]:=⟨_,rfl⟩;have HQ:Hid (q=x.VN[k]):=hq;have HQD:Hid (uY q):=by unfold Hid;rw[hq];exact HBD.out.2.2.1 _ (UJ _)
 obtain⟨s,hs⟩: ∃s,s=x.VK[0]:=⟨_,rfl⟩;have HS:Hid (s=x.VK[0]):=hs;have HSD:Hid (LQ s):=by unfold Hid;rw[hs];exact HBD.out.2.2.2 _ (UJ _)
 clear hq hs;by_cases d0:r6=0
 case pos=>
  subst d0;clear lo6 hi6;go_upto_region 8 with fail
  have HCP:Hid (∀wy,Below W4.drew.heap.size W4.drew wy→_):=fun wy hy=>S4.out.below (bR.drew.trans hy)
  clear hun;refine aN [27,28,29,30,31,32,33,34] (by kernel_rfl) (by kernel_rfl) ?_;iterate 7 (apply bC.u rfl;(·intro K' a wy ho hd hb hK;simp[aU,aG,aD,Region.binds]at ho hd;have hst:=HCP.out wy hb;have ko:=hst.box.cell (j:=0) rfl;have d0:wy.cell? ⟨gb,k*5,none⟩=some (iV q.VF):=oQ hst.bo rfl k hk 0 _ (by rw[←HQ.out];rfl);have d1:wy.cell? ⟨gb,k*5+1,none⟩=some (.string q.inn):=oQ hst.bo rfl k hk 1 _ (by rw[←HQ.out];rfl);have d2:wy.cell? ⟨gb,k*5+2,none⟩=some (iV q.VH):=oQ hst.bo rfl k hk 2 _ (by rw[←HQ.out];rfl);have d3:wy.cell? ⟨gb,k*5+3,none⟩=some (.string q.out):=oQ hst.bo rfl k hk 3 _ (by rw[←HQ.out];rfl);have d4:wy.cell? ⟨gb,k*5+4,none⟩=some (iV q.VI):=oQ hst.bo rfl k hk 4 _ (by rw[←HQ.out];rfl);clear hst;go_simp;(try go_bits);exact hK _ _ rfl bQ);dsimp only[nA,cA])
  refine bC.rel (n:=7) (jE (dP q)) (gD _ (by simp[dP])) [_,_,_,_,_,_,_,jE (dP q)] rfl rfl ?_ ?_
  ·intro K' a wy ho hd hb hK;rw[wN rfl];have q6:=hd ⟨6,.data⟩ (by simp) rfl;simp[aU,aG,aD]at q6;clear hd ho;go_simp;exact hK _ _ ⟨wy.heap.size,rfl,aA.new wy (dP q) _⟩ (bR.alloc lR _)
  intro X wz hR hz;obtain⟨x0,x1,x2,x3,x4,x5,x6,x7,-⟩:=hR;simp only[aG]at x0 x1 x2 x3 x4 x5 x6;simp only[aE,x0,x1,x2,x3,x4,x5,x6,aE];clear x0 x1 x2 x3 x4 x5 x6;obtain⟨g7,e7,r7⟩:=x7;have SZ:=HCP.out wz hz;obtain⟨v6,w6,hrun,hO6,S6⟩:=SZ.appB q g7 r7 (by omega);have HRUN:Hid _:=hrun;have HS6:Hid _:=S6;have p1:=hO6.cell (j:=0) rfl;have p2:=hO6.free (j:=0) (by simp);obtain⟨a8,c8,e8,-,-⟩:=S6.shapes.1;have hv6:∃a n c,v6=.slice a n c:=⟨_,_,_,e8⟩;clear hrun S6 hO6 SZ r7 hz HCP e8;obtain⟨a8,n8,c8,rfl⟩:=hv6;simp only[e7];simp only[List.length_cons,List.length_nil,List.drop_succ_cons,List.drop_zero,UI,Nat.reduceAdd];intro K5 hK5;with_reducible refine dI (.tmp 28) (.tmp 34) _ rfl ?_ ?_ HRUN.out (hK5 _ _ ?_)
  ·simp[Act.eval,Act.put]
  ·simp[Act.eval,Act.put]
  intro K6 hK6;go_simp;refine hK6 _ _ ?_;intro K7 hK7;go_simp;refine hK7 _ _ ?_;simp only[fN];clear HRUN p1 p2;generalize (w6.setCell ⟨w.heap.size,0,none⟩ (.slice a8 n8 c8))=W8 at *;have HF:Hid (OD w B sa len cap size (w.heap.size+1) w.heap.size base W8):=HS6.out.fin ⟨by simp;omega,by show x.VK.length≤100;omega,uI HBD.out.2.2.1 HQD.out,HBD.out.2.2.2⟩;obtain⟨y,fa,fb,fc,fd,hy,hX,hR,hbi,hfa,hfb,hdr⟩:=HF.out;clear HF;obtain⟨x0,x1⟩:=hX.c2;obtain⟨z0,z1⟩:=hR.c2;obtain⟨zf0,zf1⟩:=hR.f2;obtain⟨HRR,DD,BI,HY⟩:=rV (fc:=fc) (fd:=fd) hy hR hbi (fun g o e=>by have:=hfa g o e;omega) (fun g o e=>by have:=hfb g o e;omega) hdr;clear hy hX hR hbi hfa hfb hdr;go_wp2_with fail
  exact VB (aF Tryz.results90 _ _ _ _ _ rfl HRR.out Tryz.underlying31 rfl (show (Tryz.prog.info? 31).map (·.size)=some 2 by kernel_rfl)) rfl ⟨y,fa,fb,fc,fd,rfl,HY.out.1,BI.out,HY.out.2.1,HY.out.2.2,DD.out.src,DD.out.grown⟩
 have b0:(r6==0)=false:=by simp[d0]
 by_cases d1:r6=1
 case pos=>
  subst d1;clear lo6 hi6;go_upto_region 10 with fail
  clear hun;refine dY (EB B) (fun wx=>tA w B sa len cap size (w.heap.size+1) w.heap.size base (.slice (some ⟨gb,0,none⟩) x.VN.length cb1) (.slice (some ⟨gs,0,none⟩) x.VK.length cs1) (x.VN) (x.VK) wx∧W4.heap.size≤wx.heap.size) [39,40,41,42,43,44,45,46,47,48] (by kernel_rfl) (by kernel_rfl) (⟨S4.out.below bR.drew,Nat.le_refl _⟩) ?_;iterate 3 (apply cS.u xQ rfl;(·intro K' a wy ho hd hI hK;simp[aU,aG,aD,Region.binds]at ho hd;have ko:=hI.1.box.cell (j:=0) rfl;go_simp;(try go_bits);exact hK _ rfl);dsimp only[nA,cA])
  refine cS.rel (n:=3) (IV B 4 0 70000) (NQ _ _ _ _) [_,_,_,IV B 4 0 70000] rfl rfl ?_ ?_
  ·intro K' a wy ho hd hI hK;rw[wN rfl];clear hd ho;go_simp;exact hK _ _ ⟨wy.heap.size,rfl,by have:=hI.1.dr.le;omega,fun j hj=>by
    match j,hj with
    | 0,_=>exact⟨_,bZ rfl,by omega,by omega⟩
    | 1,_=>exact⟨_,bZ rfl,by omega,by omega⟩
    | 2,_=>exact⟨_,bZ rfl,by omega,by omega⟩
    | 3,_=>exact⟨_,bZ rfl,by omega,by omega⟩⟩ (EB.of (bR.alloc lR _)) ⟨hI.1.below (bR.alloc lR _),by simp;omega⟩
  (apply cS.u xQ rfl;(·intro K' a wy ho hd hI hK;simp[aU,aG,aD,Region.binds]at ho hd;go_simp;(try go_bits);exact hK _ rfl);dsimp only[nA,cA])
  refine cS.rel (n:=5) (XR 0 3) (qG _ _ _) [_,_,_,_,_,XR 0 3] rfl rfl ?_ ?_
  ·intro K' a wy ho hd hI hK;rw[wN rfl];have q4:=hd ⟨4,.data⟩ (by simp) rfl;simp[aU,aG,aD]at q4;clear hd ho;go_simp;refine(eQ 4 B sa len cap size wy (by omega) hl hI.1.dr.src).mono ?_;rintro e wz ⟨r,rfl,h0,h1,hsz,hgz⟩;exact hK _ _ ⟨r,rfl,by omega,by omega⟩ hgz ⟨hI.1.draw hsz hgz,UL hI.2 hgz.size⟩
  refine cS.rel (n:=6) (IU B 0 70000) (NP _ _ _) [_,_,_,_,_,_,IU B 0 70000] rfl rfl ?_ ?_
  ·intro K' a wy ho hd hI hK;rw[wN rfl];obtain⟨b3,e3,nb3,g3⟩: IV B 4 0 70000 (aD a 42) wy:=hd ⟨3,.data⟩ (by simp) rfl;simp[aD]at e3;obtain⟨r5,e5,l5,u5⟩: XR 0 3 (aD a 44) wy:=hd ⟨5,.data⟩ (by simp) rfl;simp[aD]at e5;clear hd ho;obtain⟨kk,hkk⟩:=UK (a:=r5) (by omega);subst hkk;obtain⟨yy,hyy,ly,uy⟩:=g3 kk (by omega);have i0:(kk:Int) < 4:=by omega
   go_simp;exact hK _ _ ⟨b3,kk,yy,rfl,nb3,hyy,ly,uy⟩ (EB.of bR) hI
  refine cS.rel (n:=7) (XR 0 70000) (qG _ _ _) [_,_,_,_,_,_,_,XR 0 70000] rfl rfl ?_ ?_
  ·intro K' a wy ho hd hI hK;rw[wN rfl];obtain⟨b6,k6,y6,e6,nb6,c6,l6,u6⟩: IU B 0 70000 (aD a 45) wy:=hd ⟨6,.data⟩ (by simp) rfl;simp[aD]at e6;clear hd ho;have ko:=hI.1.box.cell (j:=0) rfl;go_simp;exact hK _ _ ⟨y6,rfl,l6,u6⟩ (EB.of bR) hI
  iterate 2 (apply cS.u xQ rfl;(·intro K' a wy ho hd hI hK;simp[aU,aG,aD,Region.binds]at ho hd;go_simp;(try go_bits);exact hK _ rfl);dsimp only[nA,cA])
  intro X wz hR hI;obtain⟨x0,x1,x2,x3,x4,x5,x6,x7,x8,x9,-⟩:=hR;obtain⟨r7,e7,l7,u7⟩:=x7;simp only[aG]at x0 x1 x2 x4 x8 x9;simp only[aE,x0,x1,x2,aE,x4,aE,aE,e7,x8,x9];clear x0 x1 x2 x4 x8 x9;have c4:wz.cell? ⟨gb,k*5+4,none⟩=some (iV q.VI):=oQ hI.1.bo rfl k hk 4 _ (by rw[←HQ.out];rfl);have f4:wz.frozen? ⟨gb,k*5+4,none⟩=false:=mZ hI.1.bo _;have S6:Hid _:=hI.1.setB rfl k hk 4 (by decide) (iV r7) { q with VI:=r7 } (by rw[←HQ.out];rfl);clear hI;intro K5 hK5;go_simp;refine hK5 _ _ ?_;simp only[fN];clear c4 f4;generalize wz.setCell ⟨gb,k*5+4,none⟩ (iV r7)=W8 at *;have HF:Hid (OD w B sa len cap size (w.heap.size+1) w.heap.size base W8):=S6.out.fin ⟨by simp;omega,by show x.VK.length≤100;omega,rP HBD.out.2.2.1 ⟨HQD.out.1,HQD.out.2.1,HQD.out.2.2.1,HQD.out.2.2.2.1,by show vP r7;unfold vP;omega⟩,HBD.out.2.2.2⟩;obtain⟨y,fa,fb,fc,fd,hy,hX,hR,hbi,hfa,hfb,hdr⟩:=HF.out;clear HF;obtain⟨x0,x1⟩:=hX.c2;obtain⟨z0,z1⟩:=hR.c2;obtain⟨zf0,zf1⟩:=hR.f2;obtain⟨HRR,DD,BI,HY⟩:=rV (fc:=fc) (fd:=fd) hy hR hbi (fun g o e=>by have:=hfa g o e;omega) (fun g o e=>by have:=hfb g o e;omega) hdr;clear hy hX hR hbi hfa hfb hdr;go_wp2_with fail
  exact VB (aF Tryz.results90 _ _ _ _ _ rfl HRR.out Tryz.underlying31 rfl (show (Tryz.prog.info? 31).map (·.size)=some 2 by kernel_rfl)) rfl ⟨y,fa,fb,fc,fd,rfl,HY.out.1,BI.out,HY.out.2.1,HY.out.2.2,DD.out.src,DD.out.grown⟩
 have b1:(r6==1)=false:=by simp[d1]
 by_cases d2:r6=2
 case pos=>
  subst d2;clear lo6 hi6;have HHx:aA W4 w.heap.size (aX (some ⟨gb,0,none⟩) cb1 (some ⟨gs,0,none⟩) cs1 x):=S4.out.box;obtain⟨x0,x1⟩:=HHx.c2;have xf1:=HHx.free (j:=1) (by simp);clear HHx;have hcs:x.VK.length≤cs1:=by
   obtain⟨a9,c9,e9,h9,-⟩:=S4.out.shapes.2;injection e9 with _ _ e9
   omega
  have hcsI:(1:Int)≤(x.VK.length:Int):=by omega
  have hcsJ:(x.VK.length:Int)≤(cs1:Int):=by omega
  have HF0:Hid (OD w B sa len cap size (w.heap.size+1) w.heap.size base (W4.setCell ⟨w.heap.size,1,none⟩ (.slice (if cs1=1 then some ⟨gs,0,none⟩ else some ⟨gs,7,none⟩) (x.VK.length-1) (cs1-1)))):=by
   have hX:=S4.out.hX;have hgb1:=(fC S4.out.bo (g:=gb) rfl).1;have hgs1:=(fC S4.out.so (g:=gs) rfl).1;obtain⟨⟨a1,c1,e1,-,h1⟩,a2,c2,e2,-,h2⟩:=S4.out.shapes;injection e1 with i1 _ i3
   injection e2 with j1 _ j3
   subst i1 i3 j1 j3;have hfar:∀g o,(if cs1=1 then some (⟨gs,0,none⟩: Addr) else some ⟨gs,7,none⟩)=some ⟨g,o,none⟩→base≤g:=fun g o e=>by
    split at e<;>(injection e with e;injection e with e _;omega)
   refine⟨⟨x.VN,x.VK.tail⟩,some ⟨gb,0,none⟩,(if cs1=1 then some ⟨gs,0,none⟩ else some ⟨gs,7,none⟩),cb1,cs1-1,⟨by show x.VN.length≤100;omega,by simp;omega,HBD.out.2.2.1,fun y hy=>HBD.out.2.2.2 y (List.mem_of_mem_tail hy)⟩,?_,S4.out.out.setOther S4.out.ne.symm _,⟨nZ h1.is 1 _ _ (fun g o e=>by injection e with e;injection e with e _;omega),nZ ?_ 1 _ _ (fun g o e=>by have:=hfar g o e;omega)⟩,fun g o e=>by injection e with e;injection e with e _;omega,hfar,S4.out.dr.set _ 1 _ hX.1⟩
   ·have h:=S4.out.box.set 1 (.slice (if cs1=1 then some ⟨gs,0,none⟩ else some ⟨gs,7,none⟩) (x.VK.length-1) (cs1-1));show aA _ _ [_,_];simpa using h
   ·by_cases hc9:cs1=1
    ·refine .inl ?_;have h9:x.VK.length=1:=by omega
     exact List.length_eq_zero_iff.1 (by show x.VK.tail.length=0;simp;omega)
    rw[if_neg hc9];refine .inr ⟨gs,7,rfl,(fC S4.out.so (g:=gs) rfl).2,fun i hi j v hv=>?_⟩;simp at hi;have h:=fH S4.out.so rfl (i+1) (by omega) j v (by simpa using hv);rw[show 7+i*7+j=(i+1)*7+j by omega];exact h
  go_upto_region 17 with fail
  clear x0 x1 xf1;generalize (if cs1=1 then some (⟨gs,0,none⟩: Addr) else some ⟨gs,7,none⟩)=na at *;generalize (W4.setCell ⟨w.heap.size,1,none⟩ (.slice na (x.VK.length-1) (cs1-1)))=W8 at *;have HF:Hid (OD w B sa len cap size (w.heap.size+1) w.heap.size base W8):=HF0.out;obtain⟨y,fa,fb,fc,fd,hy,hX,hR,hbi,hfa,hfb,hdr⟩:=HF.out;clear HF;obtain⟨x0,x1⟩:=hX.c2;obtain⟨z0,z1⟩:=hR.c2;obtain⟨zf0,zf1⟩:=hR.f2;obtain⟨HRR,DD,BI,HY⟩:=rV (fc:=fc) (fd:=fd) hy hR hbi (fun g o e=>by have:=hfa g o e;omega) (fun g o e=>by have:=hfb g o e;omega) hdr;clear hy hX hR hbi hfa hfb hdr;go_wp2_with fail
  exact VB (aF Tryz.results90 _ _ _ _ _ rfl HRR.out Tryz.underlying31 rfl (show (Tryz.prog.info? 31).map (·.size)=some 2 by kernel_rfl)) rfl ⟨y,fa,fb,fc,fd,rfl,HY.out.1,BI.out,HY.out.2.1,HY.out.2.2,DD.out.src,DD.out.grown⟩
 have b2:(r6==2)=false:=by simp[d2]
 by_cases d3:r6=3
 case pos=>
  subst d3;clear lo6 hi6;go_upto_region 14 with fail
  clear hun;refine dY (EB B) (fun wx=>tA w B sa len cap size (w.heap.size+1) w.heap.size base (.slice (some ⟨gb,0,none⟩) x.VN.length cb1) (.slice (some ⟨gs,0,none⟩) x.VK.length cs1) (x.VN) (x.VK) wx∧W4.heap.size≤wx.heap.size) [57,58,59,60,61,62] (by kernel_rfl) (by kernel_rfl) (⟨S4.out.below bR.drew,Nat.le_refl _⟩) ?_;iterate 3 (apply cS.u xQ rfl;(·intro K' a wy ho hd hI hK;simp[aU,aG,aD,Region.binds]at ho hd;have ko:=hI.1.box.cell (j:=1) rfl;go_simp;(try go_bits);exact hK _ rfl);dsimp only[nA,cA])
  refine cS.rel (n:=3) (XR 0 8) (qG _ _ _) [_,_,_,XR 0 8] rfl rfl ?_ ?_
  ·intro K' a wy ho hd hI hK;rw[wN rfl];have q2:=hd ⟨2,.data⟩ (by simp) rfl;simp[aU,aG,aD]at q2;clear hd ho;go_simp;refine(eQ 9 B sa len cap size wy (by omega) hl hI.1.dr.src).mono ?_;rintro e wz ⟨r,rfl,h0,h1,hsz,hgz⟩;exact hK _ _ ⟨r,rfl,by omega,by omega⟩ hgz ⟨hI.1.draw hsz hgz,UL hI.2 hgz.size⟩
  iterate 2 (apply cS.u xQ rfl;(·intro K' a wy ho hd hI hK;simp[aU,aG,aD,Region.binds]at ho hd;go_simp;(try go_bits);exact hK _ rfl);dsimp only[nA,cA])
  intro X wz hR hI;obtain⟨x0,x1,x2,x3,x4,x5,-⟩:=hR;obtain⟨r3,e3,l3,u3⟩:=x3;simp only[aG]at x0 x1 x2 x4 x5;simp only[aE,x0,x1,x2,e3,x4,x5];clear x0 x1 x2 x4 x5;have c5:wz.cell? ⟨gs,5,none⟩=some (iV s.state):=by have h:=fH hI.1.so rfl 0 hsp 5 (iV s.state) (by rw[←HS.out];rfl);simpa using h
  have f5:wz.frozen? ⟨gs,5,none⟩=false:=mZ hI.1.so _;have S6:Hid (tA w B sa len cap size (w.heap.size+1) w.heap.size base (.slice (some ⟨gb,0,none⟩) x.VN.length cb1) (.slice (some ⟨gs,0,none⟩) x.VK.length cs1) (x.VN) (x.VK.set 0 { s with state:=r3 }) (wz.setCell ⟨gs,5,none⟩ (iV r3))):=by unfold Hid;have h:=hI.1.setS rfl 0 hsp 5 (by decide) (iV r3) { s with state:=r3 } (by rw[←HS.out];rfl);simpa using h
  clear hI;intro K5 hK5;go_simp;refine hK5 _ _ ?_;simp only[fN];clear c5 f5;generalize (wz.setCell ⟨gs,5,none⟩ (iV r3))=W8 at *;have HF:Hid (OD w B sa len cap size (w.heap.size+1) w.heap.size base W8):=S6.out.fin ⟨by show x.VN.length≤100;omega,by simp;omega,HBD.out.2.2.1,rP HBD.out.2.2.2 HSD.out⟩;obtain⟨y,fa,fb,fc,fd,hy,hX,hR,hbi,hfa,hfb,hdr⟩:=HF.out;clear HF;obtain⟨x0,x1⟩:=hX.c2;obtain⟨z0,z1⟩:=hR.c2;obtain⟨zf0,zf1⟩:=hR.f2;obtain⟨HRR,DD,BI,HY⟩:=rV (fc:=fc) (fd:=fd) hy hR hbi (fun g o e=>by have:=hfa g o e;omega) (fun g o e=>by have:=hfb g o e;omega) hdr;clear hy hX hR hbi hfa hfb hdr;go_wp2_with fail
  exact VB (aF Tryz.results90 _ _ _ _ _ rfl HRR.out Tryz.underlying31 rfl (show (Tryz.prog.info? 31).map (·.size)=some 2 by kernel_rfl)) rfl ⟨y,fa,fb,fc,fd,rfl,HY.out.1,BI.out,HY.out.2.1,HY.out.2.2,DD.out.src,DD.out.grown⟩
 have b3:(r6==3)=false:=by simp[d3]
 by_cases d4:r6=4
 case pos=>
  subst d4;clear lo6 hi6;go_upto_region 16 with fail
  have HCP:Hid (∀wy,Below W4.drew.heap.size W4.drew wy→_):=fun wy hy=>S4.out.below (bR.drew.trans hy)
  clear hun;refine aN [65,66,67,68,69,70,71] (by kernel_rfl) (by kernel_rfl) ?_;apply bC.v0
  ·rfl
  ·intro K' a wy ho hd hb hK kz;have o3:=ho 3 (by decide);simp[aD]at o3;clear hd ho;go_simp;try go_bits
   exact kz _ rfl
  apply bC.v1
  ·rfl
  ·intro K' a wy ho hd hb hK kz;have q0:=hd ⟨0,.data⟩ (by simp) rfl;simp[aU,aG,aD]at q0;clear hd ho;have hst:=HCP.out wy hb;have ko:=hst.box.cell (j:=1) rfl;have d0:wy.cell? ⟨gs,0,none⟩=some (iV s.VF):=by have h:=fH hst.so rfl 0 hsp 0 (iV s.VF) (by rw[←HS.out];rfl);simpa using h
   have d1:wy.cell? ⟨gs,1,none⟩=some (.string s.inn):=by have h:=fH hst.so rfl 0 hsp 1 (.string s.inn) (by rw[←HS.out];rfl);simpa using h
   have d2:wy.cell? ⟨gs,2,none⟩=some (iV s.VH):=by have h:=fH hst.so rfl 0 hsp 2 (iV s.VH) (by rw[←HS.out];rfl);simpa using h
   have d3:wy.cell? ⟨gs,3,none⟩=some (.string s.peer):=by have h:=fH hst.so rfl 0 hsp 3 (.string s.peer) (by rw[←HS.out];rfl);simpa using h
   have d4:wy.cell? ⟨gs,4,none⟩=some (iV s.VG):=by have h:=fH hst.so rfl 0 hsp 4 (iV s.VG) (by rw[←HS.out];rfl);simpa using h
   have d5:wy.cell? ⟨gs,5,none⟩=some (iV s.state):=by have h:=fH hst.so rfl 0 hsp 5 (iV s.state) (by rw[←HS.out];rfl);simpa using h
   have d6:wy.cell? ⟨gs,6,none⟩=some (iV s.untl):=by have h:=fH hst.so rfl 0 hsp 6 (iV s.untl) (by rw[←HS.out];rfl);simpa using h
   clear hst;go_simp;try go_bits
   exact kz _ rfl
  apply bC.v2
  ·rfl
  ·intro K' a wy ho hd hb hK kz;have o3:=ho 3 (by decide);simp[aD]at o3;clear hd ho;go_simp;try go_bits
   exact kz _ rfl
  apply bC.v3
  ·rfl
  ·intro K' a wy ho hd hb hK kz;have q2:=hd ⟨2,.data⟩ (by simp) rfl;simp[aU,aG,aD]at q2;clear hd ho;have hst:=HCP.out wy hb;have ko:=hst.box.cell (j:=1) rfl;have d0:wy.cell? ⟨gs,0,none⟩=some (iV s.VF):=by have h:=fH hst.so rfl 0 hsp 0 (iV s.VF) (by rw[←HS.out];rfl);simpa using h
   have d1:wy.cell? ⟨gs,1,none⟩=some (.string s.inn):=by have h:=fH hst.so rfl 0 hsp 1 (.string s.inn) (by rw[←HS.out];rfl);simpa using h
   have d2:wy.cell? ⟨gs,2,none⟩=some (iV s.VH):=by have h:=fH hst.so rfl 0 hsp 2 (iV s.VH) (by rw[←HS.out];rfl);simpa using h
   have d3:wy.cell? ⟨gs,3,none⟩=some (.string s.peer):=by have h:=fH hst.so rfl 0 hsp 3 (.string s.peer) (by rw[←HS.out];rfl);simpa using h
   have d4:wy.cell? ⟨gs,4,none⟩=some (iV s.VG):=by have h:=fH hst.so rfl 0 hsp 4 (iV s.VG) (by rw[←HS.out];rfl);simpa using h
   have d5:wy.cell? ⟨gs,5,none⟩=some (iV s.state):=by have h:=fH hst.so rfl 0 hsp 5 (iV s.state) (by rw[←HS.out];rfl);simpa using h
   have d6:wy.cell? ⟨gs,6,none⟩=some (iV s.untl):=by have h:=fH hst.so rfl 0 hsp 6 (iV s.untl) (by rw[←HS.out];rfl);simpa using h
   clear hst;go_simp;try go_bits
   exact kz _ rfl
  (apply bC.u rfl;(·intro K' a wy ho hd hb hK;simp[aU,aG,aD,Region.binds]at ho hd;go_simp;(try go_bits);exact hK _ _ rfl bQ);dsimp only[nA,cA])
  apply bC.v5
  ·rfl
  ·intro K' a wy ho hd hb hK kz;have q4:=hd ⟨4,.data⟩ (by simp) rfl;simp[aU,aG,aD]at q4;clear hd ho;have hst:=HCP.out wy hb;have ko:=hst.box.cell (j:=1) rfl;have d0:wy.cell? ⟨gs,0,none⟩=some (iV s.VF):=by have h:=fH hst.so rfl 0 hsp 0 (iV s.VF) (by rw[←HS.out];rfl);simpa using h
   have d1:wy.cell? ⟨gs,1,none⟩=some (.string s.inn):=by have h:=fH hst.so rfl 0 hsp 1 (.string s.inn) (by rw[←HS.out];rfl);simpa using h
   have d2:wy.cell? ⟨gs,2,none⟩=some (iV s.VH):=by have h:=fH hst.so rfl 0 hsp 2 (iV s.VH) (by rw[←HS.out];rfl);simpa using h
   have d3:wy.cell? ⟨gs,3,none⟩=some (.string s.peer):=by have h:=fH hst.so rfl 0 hsp 3 (.string s.peer) (by rw[←HS.out];rfl);simpa using h
   have d4:wy.cell? ⟨gs,4,none⟩=some (iV s.VG):=by have h:=fH hst.so rfl 0 hsp 4 (iV s.VG) (by rw[←HS.out];rfl);simpa using h
   have d5:wy.cell? ⟨gs,5,none⟩=some (iV s.state):=by have h:=fH hst.so rfl 0 hsp 5 (iV s.state) (by rw[←HS.out];rfl);simpa using h
   have d6:wy.cell? ⟨gs,6,none⟩=some (iV s.untl):=by have h:=fH hst.so rfl 0 hsp 6 (iV s.untl) (by rw[←HS.out];rfl);simpa using h
   clear hst;go_simp;try go_bits
   exact kz _ rfl
  refine bC.rel (n:=6) (jE (fZ s)) (gD _ (by simp[fZ])) [_,_,_,_,_,_,jE (fZ s)] rfl rfl ?_ ?_
  ·intro K' a wy ho hd hb hK;rw[wN rfl];have q5:=hd ⟨5,.data⟩ (by simp) rfl;simp[aU,aG,aD]at q5;clear hd ho;go_simp;exact hK _ _ ⟨wy.heap.size,rfl,aA.new wy (fZ s) _⟩ (bR.alloc lR _)
  intro X wz hR hz;obtain⟨x0,x1,x2,x3,x4,x5,x6,-⟩:=hR;simp only[aG]at x0 x1 x2 x3 x4 x5;simp only[aE,x0,x1,x2,x3,x4,x5,aE];clear x0 x1 x2 x3 x4 x5;obtain⟨g7,e7,r7⟩:=x6;have SZ:=HCP.out wz hz;obtain⟨v6,w6,hrun,hO6,S6⟩:=SZ.appS s g7 r7 (by omega);have HRUN:Hid _:=hrun;have HS6:Hid _:=S6;have p1:=hO6.cell (j:=1) rfl;have p2:=hO6.free (j:=1) (by simp);obtain⟨a8,c8,e8,-,-⟩:=S6.shapes.2;have hv6:∃a n c,v6=.slice a n c:=⟨_,_,_,e8⟩;clear hrun S6 hO6 SZ r7 hz HCP e8;obtain⟨a8,n8,c8,rfl⟩:=hv6;simp only[e7];simp only[List.length_cons,List.length_nil,List.drop_succ_cons,List.drop_zero,UI,Nat.reduceAdd];intro K5 hK5;with_reducible refine dI (.tmp 66) (.tmp 71) _ rfl ?_ ?_ HRUN.out (hK5 _ _ ?_)
  ·simp[Act.eval,Act.put]
  ·simp[Act.eval,Act.put]
  intro K6 hK6;go_simp;refine hK6 _ _ ?_;intro K7 hK7;go_simp;refine hK7 _ _ ?_;simp only[fN];clear HRUN p1 p2;generalize (w6.setCell ⟨w.heap.size,1,none⟩ (.slice a8 n8 c8))=W8 at *;have HF:Hid (OD w B sa len cap size (w.heap.size+1) w.heap.size base W8):=HS6.out.fin ⟨by show x.VN.length≤100;omega,by simp;omega,HBD.out.2.2.1,uI HBD.out.2.2.2 HSD.out⟩;obtain⟨y,fa,fb,fc,fd,hy,hX,hR,hbi,hfa,hfb,hdr⟩:=HF.out;clear HF;obtain⟨x0,x1⟩:=hX.c2;obtain⟨z0,z1⟩:=hR.c2;obtain⟨zf0,zf1⟩:=hR.f2;obtain⟨HRR,DD,BI,HY⟩:=rV (fc:=fc) (fd:=fd) hy hR hbi (fun g o e=>by have:=hfa g o e;omega) (fun g o e=>by have:=hfb g o e;omega) hdr;clear hy hX hR hbi hfa hfb hdr;go_wp2_with fail
  exact VB (aF Tryz.results90 _ _ _ _ _ rfl HRR.out Tryz.underlying31 rfl (show (Tryz.prog.info? 31).map (·.size)=some 2 by kernel_rfl)) rfl ⟨y,fa,fb,fc,fd,rfl,HY.out.1,BI.out,HY.out.2.1,HY.out.2.2,DD.out.src,DD.out.grown⟩
 have b4:(r6==4)=false:=by simp[d4]
 have HHx:aA W4 w.heap.size (aX (some ⟨gb,0,none⟩) cb1 (some ⟨gs,0,none⟩) cs1 x):=S4.out.box;obtain⟨x0,x1⟩:=HHx.c2;clear HHx;have c3:W4.cell? ⟨gb,k*5+3,none⟩=some (.string q.out):=oQ S4.out.bo rfl k hk 3 _ (by rw[←HQ.out];rfl);have f3:W4.frozen? ⟨gb,k*5+3,none⟩=false:=mZ S4.out.bo _;have S6:Hid _:=S4.out.setB rfl k hk 3 (by decide) (.string ⟨#[203,0,113,2]⟩) { q with out:=⟨#[203,0,113,2]⟩ } (by rw[←HQ.out];rfl);go_upto_region 17 with fail
 clear c3 f3 x0 x1 S4;generalize W4.setCell ⟨gb,k*5+3,none⟩ (.string ⟨#[203,0,113,2]⟩)=W8 at *;have HF:Hid (OD w B sa len cap size (w.heap.size+1) w.heap.size base W8):=S6.out.fin ⟨by simp;omega,by show x.VK.length≤100;omega,rP HBD.out.2.2.1 ⟨HQD.out.1,by show (⟨#[203,0,113,2]⟩: BA).size≤1000;decide,HQD.out.2.2⟩,HBD.out.2.2.2⟩;obtain⟨y,fa,fb,fc,fd,hy,hX,hR,hbi,hfa,hfb,hdr⟩:=HF.out;clear HF;obtain⟨x0,x1⟩:=hX.c2;obtain⟨z0,z1⟩:=hR.c2;obtain⟨zf0,zf1⟩:=hR.f2;obtain⟨HRR,DD,BI,HY⟩:=rV (fc:=fc) (fd:=fd) hy hR hbi (fun g o e=>by have:=hfa g o e;omega) (fun g o e=>by have:=hfb g o e;omega) hdr;clear hy hX hR hbi hfa hfb hdr;go_wp2_with fail
 exact VB (aF Tryz.results90 _ _ _ _ _ rfl HRR.out Tryz.underlying31 rfl (show (Tryz.prog.info? 31).map (·.size)=some 2 by kernel_rfl)) rfl ⟨y,fa,fb,fc,fd,rfl,HY.out.1,BI.out,HY.out.2.1,HY.out.2.2,DD.out.src,DD.out.grown⟩
structure BS(w:World)(B:Nat)(sa:OA)(len cap:Nat)(size:Int)(P X base:Nat)(pa:OA)(pc:Nat)(p:Pl)(a b:OA)(c d:Nat)(x:Bb)(wx:World):Prop where
 dr:Dr w B sa len cap size wx
 r0:aA wx w.heap.size gS
 r1:aA wx (w.heap.size+1) [.slice none 0 0,.slice none 0 0]
 bp:aA wx P (FA pa pc p)
 bx:aA wx X (aX a c b d x)
 pl:bP cB 1 wx pa p.VL
 bb:dC wx a b x
 fp:∀g o,pa=some ⟨g,o,none⟩→w.heap.size+2≤g∧g < P
 fa:x.VN=[]∨∀g o,a=some ⟨g,o,none⟩→base≤g
 fb:x.VK=[]∨∀g o,b=some ⟨g,o,none⟩→base≤g
 hP:w.heap.size+2≤P∧P < X∧X < base∧base≤wx.heap.size
section
variable {w wx wy:World} {B:Nat} {sa:OA} {len cap:Nat} {size:Int} {P X base:Nat} {pa:OA} {pc:Nat} {p:Pl} {a b:OA} {c d:Nat} {x:Bb}
theorem BS.draw(h:BS w B sa len cap size P X base pa pc p a b c d x wx)(hs:iY wy B sa len cap size)(hg:wx.grownBy wy (some B)):BS w B sa len cap size P X base pa pc p a b c d x wy:=by
 have hB:=h.dr.hB;obtain⟨h1,h2,h3,h4⟩:=h.hP;refine⟨h.dr.draw hs hg,h.r0.grown (by simp[gS]) hg (by simp;omega),h.r1.grown (by simp) hg (by simp;omega),h.bp.grown (by simp[FA]) hg (by simp;omega),h.bx.grown (by simp) hg (by simp;omega),h.pl.grown hg (.inr fun g o e=>?_),⟨h.bb.bd.grown hg (h.fa.imp id fun f g o e=>?_),h.bb.ss.grown hg (h.fb.imp id fun f g o e=>?_)⟩,h.fp,h.fa,h.fb,h1,h2,h3,UL h4 hg.size⟩
 ·have:=h.fp g o e;omega
 ·have:=f g o e;omega
 ·have:=f g o e;omega
theorem BS.below(h:BS w B sa len cap size P X base pa pc p a b c d x wx)(hb:Below wx.heap.size wx wy):BS w B sa len cap size P X base pa pc p a b c d x wy :=
 ⟨h.dr.below hb,h.r0.kept (by simp[gS]) hb,h.r1.kept (by simp) hb,h.bp.kept (by simp[FA]) hb,h.bx.kept (by simp) hb,h.pl.below hb,h.bb.below hb,h.fp,h.fa,h.fb,h.hP.1,h.hP.2.1,h.hP.2.2.1,UL h.hP.2.2.2 hb.size⟩
theorem BS.other(h:BS w B sa len cap size P X base pa pc p a b c d x wx)(Y j:Nat)(v:Value)(hY:base≤Y)(ha:x.VN=[]∨∀g o,a=some ⟨g,o,none⟩→g≠Y)(hb:x.VK=[]∨∀g o,b=some ⟨g,o,none⟩→g≠Y):BS w B sa len cap size P X base pa pc p a b c d x (wx.setCell ⟨Y,j,none⟩ v):=by
 have hB:=h.dr.hB;obtain⟨h1,h2,h3,h4⟩:=h.hP;have hg:=aH wx Y j v;refine⟨h.dr.set Y j v (by omega),h.r0.setOther (by omega) v,h.r1.setOther (by omega) v,h.bp.setOther (by omega) v,h.bx.setOther (by omega) v,h.pl.grown hg (.inr fun g o e=>?_),⟨h.bb.bd.grown hg ha,h.bb.ss.grown hg hb⟩,h.fp,h.fa,h.fb,h1,h2,h3,UL h4 hg.size⟩;have:=h.fp g o e;omega
theorem BS.setX{a' b':OA}{c' d':Nat}{y:Bb}(h:BS w B sa len cap size P X base pa pc p a b c d x wx)(hy:dC wx a' b' y)(fa':y.VN=[]∨∀g o,a'=some ⟨g,o,none⟩→base≤g)(fb':y.VK=[]∨∀g o,b'=some ⟨g,o,none⟩→base≤g) :
  BS w B sa len cap size P X base pa pc p a' b' c' d' y ((sW wx X 0 (.slice a' y.VN.length c')).setCell ⟨X,1,none⟩ (.slice b' y.VK.length d')):=by
 have hB:=h.dr.hB;obtain⟨h1,h2,h3,h4⟩:=h.hP;have g1:=aH wx X 0 (.slice a' y.VN.length c');have g2:=aH (wx.setCell ⟨X,0,none⟩ (.slice a' y.VN.length c')) X 1 (.slice b' y.VK.length d');have na:y.VN=[]∨∀g o,a'=some ⟨g,o,none⟩→g≠X:=fa'.imp id fun f g o e=>by have:=f g o e;omega
 have nb:y.VK=[]∨∀g o,b'=some ⟨g,o,none⟩→g≠X:=fb'.imp id fun f g o e=>by have:=f g o e;omega
 have np:∀g o,pa=some ⟨g,o,none⟩→g≠X:=fun g o e=>by have:=h.fp g o e;omega
 exact⟨(h.dr.set X 0 _ (by omega)).set X 1 _ (by omega),(eO h.r0).setOther (by omega) _,(eO h.r1).setOther (by omega) _,(eO h.bp).setOther (by omega) _,(h.bx.set 0 _).set 1 _,(h.pl.grown g1 (.inr np)).grown g2 (.inr np),⟨(hy.bd.grown g1 na).grown g2 na,(hy.ss.grown g1 nb).grown g2 nb⟩,h.fp,fa',fb',h1,h2,h3,UL h4 (UL g1.size g2.size)⟩
end
def SK:Value→World→Prop:=fun v _=>∃t,v=pJ t∧oH t
theorem RH{B:Nat}:cX (EB B) SK:=fun _ _ _ h _=>h
theorem JF{α:Type}{en:α→List Value}{n base:Nat}{w:World}{a:OA}{xs:List α}(h:eX en n base w a xs):xs=[]∨∀g o,a=some ⟨g,o,none⟩→base≤g:=by
 rcases h with h|⟨g,rfl,h1,h2⟩
 ·exact .inl h
 ·exact .inr fun g' o e=>by injection e with e;injection e with e1 e2;omega
theorem JE{α:Type}{en:α→List Value}{n base Y:Nat}{w:World}{a:OA}{xs:List α}{cs:List Value}{y:OA}{m c:Nat}(h:eX en n base w a xs)(hn:∀q,∃k l,en q=iV k::l)(hY:aA w Y (.slice y m c::cs)):xs=[]∨∀g o,a=some ⟨g,o,none⟩→g≠Y:=by
 rcases h with h|⟨g,rfl,h1,h2⟩
 ·exact .inl h
 ·by_cases he:xs=[]
  ·exact .inl he
  refine .inr fun g' o e=>?_
  injection e with e;injection e with e1 e2
  subst e1;intro e3;subst e3;have hp:0 < xs.length:=List.length_pos_iff.2 he;obtain⟨k,l,hk⟩:=hn xs[0];have h3:=h2.at0 0 hp hp 0 (iV k) (by rw[hk];rfl);have h4:=hY.cell (j:=0) rfl;simp at h3;rw[h3]at h4;simp at h4
def SU(base B:Nat)(p:Pl)(x:Bb)(now:Int):Value→World→Prop:=fun v w=>∃t a b c d,v=EZ a b c d (dH p x t now)∧B < base∧eX dP 5 base w a (dH p x t now).bib.VN∧eX fZ 7 base w b (dH p x t now).bib.VK
theorem EC{α:Type}{en:α→List Value}{n base B:Nat}{w w':World}{a:OA}{xs:List α}(h:eX en n base w a xs)(hB:B < base)(he:EB B w w'):eX en n base w' a xs:=by
 rcases h with h|⟨g,rfl,h1,h2⟩
 ·exact .inl h
 ·have hne:g≠B:=by omega
  have hb:w'.heap[g]?=w.heap[g]?:=he.block g h2.blk (by simp;exact hne);have hc:∀j,w'.cell? ⟨g,j,none⟩=w.cell? ⟨g,j,none⟩:=fun j=>by unfold World.cell?;rw[show (⟨g,j,none⟩: Addr).block=g from rfl,hb]
  exact .inr ⟨g,rfl,h1,UX h2.blk he.size,fun i hi hk j v hv=>by rw[hc];exact h2.at0 i hi hk j v hv,fun i hi=>by rw[hc];exact h2.there i hi,fun i hi=>(World.frozen?_of_block (a:=⟨g,i,none⟩) hb).trans (h2.free i hi)⟩
theorem RA{base B:Nat}{p:Pl}{x:Bb}{now:Int}:cX (EB B) (SU base B p x now):=fun v w w' ⟨t,a,b,c,d,h1,h2,h3,h4⟩ he=>⟨t,a,b,c,d,h1,h2,EC h3 h2 he,EC h4 h2 he⟩
def QB(w:World)(B:Nat)(sa:OA)(len cap:Nat)(size:Int)(e:Ending)(w':World):Prop:=∃pa pc p a b c d x now,e=.returned (.tuple #[iK pa pc p,gP a b c d x,iV now])∧pL p∧p.VL.length≤pc∧nQ x∧0≤now∧now≤100∧bP cB 1 w' pa p.VL∧dC w' a b x∧(∀g o,pa=some ⟨g,o,none⟩→w.heap.size≤g)∧(x.VN=[]∨∀g o,a=some ⟨g,o,none⟩→w.heap.size≤g)∧(x.VK=[]∨∀g o,b=some ⟨g,o,none⟩→w.heap.size≤g)∧iY w' B sa len cap size∧w.grownBy w' (some B)
structure JL(w:World)(B:Nat)(sa:OA)(len cap:Nat)(size:Int)(pa:OA)(pc:Nat)(p:Pl)(a b:OA)(c d:Nat)(x:Bb)(wx:World):Prop where
 dr:Dr w B sa len cap size wx
 r0:aA wx w.heap.size (FA pa pc p)
 r1:aA wx (w.heap.size+1) (aX a c b d x)
 pl:bP cB 1 wx pa p.VL
 bb:dC wx a b x
theorem JL.drew{w wx:World}{B:Nat}{sa:OA}{len cap:Nat}{size:Int}{pa:OA}{pc:Nat}{p:Pl}{a b:OA}{c d:Nat}{x:Bb}(h:JL w B sa len cap size pa pc p a b c d x wx):JL w B sa len cap size pa pc p a b c d x wx.drew:=⟨h.dr.below bR.drew,h.r0.drew,h.r1.drew,h.pl.below bR.drew,h.bb.below bR.drew⟩
theorem BS.fin{w wx:World}{B:Nat}{sa:OA}{len cap:Nat}{size:Int}{P X base:Nat}{pa:OA}{pc:Nat}{p:Pl}{a b:OA}{c d:Nat}{x:Bb}(h:BS w B sa len cap size P X base pa pc p a b c d x wx):JL w B sa len cap size pa pc p a b c d x ((sW (sW (sW (sW (sW (sW (sW (sW (sW (sW (sW wx w.heap.size 0 (.slice pa p.VL.length pc)) w.heap.size 1 (iV p.low)) w.heap.size 2 (iV p.high)) w.heap.size 3 (iV p.most)) w.heap.size 4 (iV p.filter)) w.heap.size 5 (iV p.lv.udp)) w.heap.size 6 (iV p.lv.echo)) w.heap.size 7 (iV p.lv.opening)) w.heap.size 8 (iV p.lv.opn)) w.heap.size 9 (iV p.lv.closing)) (w.heap.size+1) 0 (.slice a x.VN.length c)).setCell ⟨w.heap.size+1,1,none⟩ (.slice b x.VK.length d)):=by
 have hB:=h.dr.hB;obtain⟨h1,h2,h3,h4⟩:=h.hP;have np:∀g o,pa=some ⟨g,o,none⟩→g≠w.heap.size:=fun g o e=>by have:=h.fp g o e;omega
 have np1:∀g o,pa=some ⟨g,o,none⟩→g≠w.heap.size+1:=fun g o e=>by have:=h.fp g o e;omega
 have na:x.VN=[]∨∀g o,a=some ⟨g,o,none⟩→g≠w.heap.size:=h.fa.imp id fun f g o e=>by have:=f g o e;omega
 have na1:x.VN=[]∨∀g o,a=some ⟨g,o,none⟩→g≠w.heap.size+1:=h.fa.imp id fun f g o e=>by have:=f g o e;omega
 have nb:x.VK=[]∨∀g o,b=some ⟨g,o,none⟩→g≠w.heap.size:=h.fb.imp id fun f g o e=>by have:=f g o e;omega
 have nb1:x.VK=[]∨∀g o,b=some ⟨g,o,none⟩→g≠w.heap.size+1:=h.fb.imp id fun f g o e=>by have:=f g o e;omega
 refine⟨((((((((((((h.dr.set _ 0 _ lR).set _ 1 _ lR).set _ 2 _ lR).set _ 3 _ lR).set _ 4 _ lR).set _ 5 _ lR).set _ 6 _ lR).set _ 7 _ lR).set _ 8 _ lR).set _ 9 _ lR).set _ 0 _ (by omega)).set _ 1 _ (by omega)),(eO (eO ((((((((((h.r0.set 0 (.slice pa p.VL.length pc)).set 1 (iV p.low)).set 2 (iV p.high)).set 3 (iV p.most)).set 4 (iV p.filter)).set 5 (iV p.lv.udp)).set 6 (iV p.lv.echo)).set 7 (iV p.lv.opening)).set 8 (iV p.lv.opn)).set 9 (iV p.lv.closing)))),(((eO (eO (eO (eO (eO (eO (eO (eO (eO (eO h.r1)))))))))).set 0 (.slice a x.VN.length c)).set 1 (.slice b x.VK.length d)),((((((((((((h.pl.grown (aH _ (w.heap.size) 0 _) (.inr np)).grown (aH _ (w.heap.size) 1 _) (.inr np)).grown (aH _ (w.heap.size) 2 _) (.inr np)).grown (aH _ (w.heap.size) 3 _) (.inr np)).grown (aH _ (w.heap.size) 4 _) (.inr np)).grown (aH _ (w.heap.size) 5 _) (.inr np)).grown (aH _ (w.heap.size) 6 _) (.inr np)).grown (aH _ (w.heap.size) 7 _) (.inr np)).grown (aH _ (w.heap.size) 8 _) (.inr np)).grown (aH _ (w.heap.size) 9 _) (.inr np)).grown (aH _ (w.heap.size+1) 0 _) (.inr np1)).grown (aH _ (w.heap.size+1) 1 _) (.inr np1)),⟨((((((((((((h.bb.bd.grown (aH _ (w.heap.size) 0 _) na).grown (aH _ (w.heap.size) 1 _) na).grown (aH _ (w.heap.size) 2 _) na).grown (aH _ (w.heap.size) 3 _) na).grown (aH _ (w.heap.size) 4 _) na).grown (aH _ (w.heap.size) 5 _) na).grown (aH _ (w.heap.size) 6 _) na).grown (aH _ (w.heap.size) 7 _) na).grown (aH _ (w.heap.size) 8 _) na).grown (aH _ (w.heap.size) 9 _) na).grown (aH _ (w.heap.size+1) 0 _) na1).grown (aH _ (w.heap.size+1) 1 _) na1),((((((((((((h.bb.ss.grown (aH _ (w.heap.size) 0 _) nb).grown (aH _ (w.heap.size) 1 _) nb).grown (aH _ (w.heap.size) 2 _) nb).grown (aH _ (w.heap.size) 3 _) nb).grown (aH _ (w.heap.size) 4 _) nb).grown (aH _ (w.heap.size) 5 _) nb).grown (aH _ (w.heap.size) 6 _) nb).grown (aH _ (w.heap.size) 7 _) nb).grown (aH _ (w.heap.size) 8 _) nb).grown (aH _ (w.heap.size) 9 _) nb).grown (aH _ (w.heap.size+1) 0 _) nb1).grown (aH _ (w.heap.size+1) 1 _) nb1)⟩⟩
theorem DS{α:Type}{en:α→List Value}{n base m:Nat}{w:World}{a:OA}{xs:List α}(h:eX en n base w a xs)(hm:m≤base):eX en n m w a xs:=by
 rcases h with h|⟨g,rfl,h1,h2⟩
 ·exact .inl h
 ·exact .inr ⟨g,rfl,UL hm h1,h2⟩
end Go.Proofs.YtdkepkaflielhaaGreatDoor
