import Derived.Test.YtdkepkaflielhaaGreatDoorSz
import Derived.Test.YtdkepkaflielhaaGreatDoorAb
import Derived.Test.YtdkepkaflielhaaGreatDoorUni
import Derived.Test.YtdkepkaflielhaaGreatDoorUniX
import Derived.Test.YtdkepkaflielhaaGreatDoorDrawBibF
import Derived.Test.YtdkepkaflielhaaGreatDoorSTouch9
import Derived.Deep.RegionHeld
set_option linter.unusedVariables false
set_option linter.unusedSimpArgs false
set_option maxRecDepth 100000
set_option maxHeartbeats 8000000
namespace Go.Proofs.YtdkepkaflielhaaGreatDoor
open Go.RowKit Go.PlainAid
theorem drawBib_any (B:Nat) (sa:Option Addr) (len cap:Nat) (size:Int) (w:World) (hl:len≤1048576) (hs:Src w B sa len cap size) :
  Calls Tryz.prog 54 #[.pointer (some ⟨B,0,none⟩)] w (BibRet w B sa len cap size):=by
 have hBW:B < w.z:=(Dr.start hs).hB;have D0:Hid (Dr w B sa len cap size ((aW w Z10V 27).alloc (.cells #[.slice none 0 0,.slice none 0 0] 31))):=((Dr.start hs).alloc _).alloc _;have O0:Hid (HoldsL ((aW w Z10V 27).alloc (.cells #[.slice none 0 0,.slice none 0 0] 31)) w.z plZ0):=(HoldsL.new w plZ0 27).alloc _;have O1:Hid (HoldsL ((aW w Z10V 27).alloc (.cells #[.slice none 0 0,.slice none 0 0] 31)) (w.z+1) [.slice none 0 0,.slice none 0 0]):=by
  have h:=HoldsL.new (w.alloc (.cells Z10V.toArray 27)) [.slice none 0 0,.slice none 0 0] 31;rw [World.size_alloc] at h; exact h
 have HZ:Hid (((aW w Z10V 27).alloc (.cells #[.slice none 0 0,.slice none 0 0] 31)).heap.size=w.z+2):=by unfold Hid; simp
 clear hs;go_enter Tryz.func54,Tryz.ntmps54
 go_upto_region 1 with fail
 generalize World.alloc _ _=W0 at *;go_wp2_with fail
 refine (drawPool_any B sa len cap size _ hl D0.out.src).mono ?_;rintro e W1 ⟨pa,pc,p,rfl,hpd,hpc,hsl,hfar,hs1,hg1⟩;have HPD:Hid (PlDr p):=hpd;have hpl:p.addrs.length≤3:=hpd.2.1;have HPZ:Hid (∀ s∈p.addrs,s.size≤1048576):=fun s h=>by have:=hpd.2.2 s h; omega
 obtain ⟨gp,op,hpa,hgp,-⟩:=hsl.at (k:=0) (by have:=hpd.1; omega);have hgf:w.z+2≤gp:=by have:=hfar gp op hpa; have:=HZ.out; omega
 have HPA:Hid (pa=some ⟨gp,op,none⟩):=hpa;clear hpa;have hW1:w.z+2≤W1.heap.size:=by have:=hg1.size; have:=HZ.out; omega
 have S2:Hid (BS w B sa len cap size W1.heap.size (W1.heap.size+1) (W1.heap.size+2) pa pc p none none 0 0 bbZ ((aW W1 (PlV pa pc p) 27).alloc (.cells #[.slice none 0 0,.slice none 0 0] 31))):=by
  have D1:=D0.out.draw hs1 hg1;have E0:=O0.out.grown (by simp [plZ0]) hg1 (by simp; omega);have E1:=O1.out.grown (by simp) hg1 (by simp; omega);have bx:=HoldsL.new (W1.alloc (.cells (PlV pa pc p).toArray 27)) [.slice none 0 0,.slice none 0 0] 31;rw [World.size_alloc] at bx;exact ⟨(D1.alloc _).alloc _,(E0.alloc _).alloc _,(E1.alloc _).alloc _,(HoldsL.new W1 (plL pa pc p) 27).alloc _,bx,hsl.below ((bR.alloc lR _).alloc (by simp) _),⟨.inl rfl,.inl rfl⟩,fun g o e=>by rw [HPA.out] at e; injection e with e; injection e with e1 e2; omega,.inl rfl,.inl rfl,hW1,by omega,by omega,by simp⟩
 clear D0 O0 O1 hsl hfar hs1 hg1 hpd;unfold plC;go_upto_region 3 with fail
 generalize World.alloc _ _=W2 at *;go_wp2_with fail
 refine (drawN_more 8 B sa len cap size _ (by omega) (by omega) hl S2.out.dr.src).mono ?_;rintro e W3 ⟨r0,rfl,lr0,ur0,hs,hg⟩;obtain ⟨k0,rfl⟩:=Int.eq_ofNat_of_zero_le lr0;have S3:Hid (BS w B sa len cap size W1.heap.size (W1.heap.size+1) (W1.heap.size+2) pa pc p none none 0 0 bbZ W3):=S2.out.draw hs hg;clear hs hg S2;go_wp2_with fail
 go_loopw [7,8] (fun nv kv wr=>∃ (x:Bb) (ba bo:Option Addr) (ca cb k n:Nat) (now:Int),nv=iV now∧kv=iV k∧k+n≤7∧0≤now∧now+4*k≤100∧DrX p n x∧BS w B sa len cap size W1.heap.size (W1.heap.size+1) (W1.heap.size+2) pa pc p ba bo ca cb x wr) (fun _ kv _=>(intOf kv).toNat)
 case atStart=>exact ⟨bbZ,none,none,0,0,k0,0,0,rfl,rfl,by omega,by omega,by omega,⟨.inl rfl,by decide,by decide⟩,S3.out⟩
 case round =>
  obtain ⟨x,ba,bo,ca,cb,k,n,now,rfl,rfl,hkn,hn0,hn1,hdx,hS⟩:=hrel;have S4:Hid (BS w B sa len cap size W1.heap.size (W1.heap.size+1) (W1.heap.size+2) pa pc p ba bo ca cb x wr):=hS;have HDX:Hid (DrX p n x):=hdx;have HBD:Hid (BbDr x):=hdx.dr HPD.out (by omega);have hxb:x.binds.length≤8:=by have:=hdx.2.1; omega
  have hxs:x.sess.length≤8:=by have:=hdx.2.2; omega
  clear hS hdx S3 lr0 ur0
  cases k with
  | succ k =>
   have hkI:(0:Int) < ((k+1:Nat):Int):=by omega
   go_wp2_with fail
   refine (drawN_more 4 B sa len cap size _ (by omega) (by omega) hl S4.out.dr.src).mono ?_;rintro e U1 ⟨r1,rfl,lr1,ur1,hs,hg⟩;have S5:Hid (BS w B sa len cap size W1.heap.size (W1.heap.size+1) (W1.heap.size+2) pa pc p ba bo ca cb x U1):=S4.out.draw hs hg;clear hs hg S4;go_upto_region 8 with fail
   go_cut [9] (fun v wx=>∃ Y o a7 b7 c7 d7,v=.pointer (some ⟨Y,0,none⟩)∧(o.code=0→DrX p (n+1) o.bib)∧(W1.heap.size+2)≤Y∧BS w B sa len cap size W1.heap.size (W1.heap.size+1) (W1.heap.size+2) pa pc p ba bo ca cb x wx∧HoldsL wx Y (boL a7 b7 c7 d7 o)∧BbIs wx a7 b7 o.bib∧(o.bib.binds=[]∨∀ g q,a7=some ⟨g,q,none⟩→(W1.heap.size+2)≤g)∧(o.bib.sess=[]∨∀ g q,b7=some ⟨g,q,none⟩→(W1.heap.size+2)≤g))
   case first =>
    rename_i J K2 hJ hK2;have hBU:B < U1.heap.size:=by have:=S5.out.hP; omega
    have hbU:(W1.heap.size+2)≤U1.heap.size:=S5.out.hP.2.2.2;have HOA:Hid (x.binds=[]∨∀ g q,ba=some ⟨g,q,none⟩→g < U1.heap.size):=by
     rcases S5.out.bb.bd with h | ⟨b1,o1,h1,h2,-⟩
     ·exact .inl h
     ·exact .inr fun g q e=>by rw [h1] at e; injection e with e; injection e with e1 e2; omega
    have HOB:Hid (x.sess=[]∨∀ g q,bo=some ⟨g,q,none⟩→g < U1.heap.size):=by
     rcases S5.out.bb.ss with h | ⟨b1,o1,h1,h2,-⟩
     ·exact .inl h
     ·exact .inr fun g q e=>by rw [h1] at e; injection e with e; injection e with e1 e2; omega
    refine wp_region_growXV (EB B) (fun wx=>BS w B sa len cap size W1.heap.size (W1.heap.size+1) (W1.heap.size+2) pa pc p ba bo ca cb x wx∧U1.heap.size≤wx.heap.size) [23,24,25,26,27,28,29,30,9] (by kernel_rfl) (by kernel_rfl) (⟨S5.out.below bR.drew,Nat.le_refl _⟩) ?_;iterate 5 (apply XChV.u xQ rfl;(·intro K' a wy ho hd hI hK;simp [rAt,IsV,slot,Region.binds] at ho hd;have kC:=hI.1.bp.c10;have kC:=hI.1.bx.c2;go_simp;(try go_bits);exact hK _ rfl);dsimp only [nA,cA])
    refine XChV.rel (n:=5) (XTc) (st_XTc) [_,_,_,_,_,XTc] rfl rfl ?_ ?_
    ·intro K' a wy ho hd hI hK;rw [wN rfl];have q2:=hd ⟨2,.data⟩ (by simp) rfl;have q3:=hd ⟨3,.data⟩ (by simp) rfl;have q4:=hd ⟨4,.data⟩ (by simp) rfl;simp [rAt,IsV,slot] at q2 q3 q4;clear hd ho;go_simp;refine (drawTouching_any B sa len cap size pa pc p ba bo ca cb x wy hl HPD.out HBD.out hI.1.pl hI.1.bb (fun g o e=>by have:=hI.1.fp g o e; omega) (hI.1.fa.imp id fun f g o e=>by have:=f g o e; omega) (hI.1.fb.imp id fun f g o e=>by have:=f g o e; omega) hI.1.dr.src).mono ?_;rintro e wz ⟨t,rfl,ht,hsz,hgz⟩;exact hK _ _ ⟨t,rfl,ht⟩ hgz ⟨hI.1.draw hsz hgz,Nat.le_trans hI.2 hgz.size⟩
    (apply XChV.u xQ rfl;(·intro K' a wy ho hd hI hK;simp [rAt,IsV,slot,Region.binds] at ho hd;go_simp;(try go_bits);exact hK _ rfl);dsimp only [nA,cA])
    refine XChV.rel (n:=7) (XBo U1.heap.size B p x (now+r1)) (st_XBo) [_,_,_,_,_,_,_,XBo U1.heap.size B p x (now+r1)] rfl rfl ?_ ?_
    ·intro K' a wy ho hd hI hK;rw [wN rfl];have q0:=hd ⟨0,.data⟩ (by simp) rfl;have q1:=hd ⟨1,.data⟩ (by simp) rfl;simp [rAt,IsV,slot] at q0 q1;obtain ⟨t5,e5,d5⟩ : XTc (slot a 28) wy:=hd ⟨5,.data⟩ (by simp) rfl;simp [slot] at e5;have q6:=hd ⟨6,.data⟩ (by simp) rfl;simp [rAt,IsV,slot] at q6;clear hd ho;go_simp;refine (specBibTouch_any pa pc p ba bo ca cb x t5 (now+r1) wy (by omega) hpc HPZ.out (by have:=d5.1; omega) (by have:=d5.2.1; omega) (by omega) (by omega) hI.1.pl hI.1.bb).mono ?_;rintro e wz ⟨⟨a',b',c',d',rfl,ho⟩,hz⟩;exact hK _ _ ⟨t5,a',b',c',d',rfl,hBU,own_mono ho.bd hI.2,own_mono ho.ss hI.2⟩ (EB.of hz) ⟨hI.1.below hz,Nat.le_trans hI.2 hz.size⟩
    refine XChV.rel (n:=8) (XBox U1.heap.size B Z8V) (st_XBox (by simp)) [_,_,_,_,_,_,_,_,XBox U1.heap.size B Z8V] rfl rfl ?_ ?_
    ·intro K' a wy ho hd hI hK;rw [wN rfl];clear hd ho;go_simp;exact hK _ _ ⟨wy.heap.size,rfl,hI.2,by have:=hI.2; omega,HoldsL.new wy Z8V _⟩ (EB.of (bR.alloc lR _)) ⟨hI.1.below (bR.alloc lR _),by have:=hI.2; simp; omega⟩
    intro X wz hR hI;obtain ⟨x0,x1,x2,x3,x4,x5,x6,x7,x8,-⟩:=hR;obtain ⟨t7,a7,b7,c7,d7,e7,-,o7,p7⟩:=x7;obtain ⟨Y,e8,hYn,hYB,hYc⟩:=x8;simp only [IsV] at x0 x1 x2 x3 x4 x6;simp only [putsFrom,x0,x1,x2,x3,x4,putsFrom,x6,e7,e8];clear x0 x1 x2 x3 x4 x6;have HO:Hid ((bibTouchV p x t7 (now+r1)).code=0→DrX p (n+1) (bibTouchV p x t7 (now+r1)).bib):=HDX.out.touch;unfold boC;generalize bibTouchV p x t7 (now+r1)=o at *;have na:=own_box o7 (fun q=>⟨_,_,rfl⟩) hYc;have nb:=own_box p7 (fun q=>⟨_,_,rfl⟩) hYc;have fa:=(own_off o7).imp id fun f g q e=>Nat.le_trans hbU (f g q e)
    have fb:=(own_off p7).imp id fun f g q e=>Nat.le_trans hbU (f g q e)
    have ma:x.binds=[]∨∀ g q,ba=some ⟨g,q,none⟩→g≠Y:=HOA.out.imp id fun f g q e=>by have:=f g q e; omega
    have mb:x.sess=[]∨∀ g q,bo=some ⟨g,q,none⟩→g≠Y:=HOB.out.imp id fun f g q e=>by have:=f g q e; omega
    obtain ⟨z0,z1,z2,z3,z4,z5,z6,z7⟩:=hYc.c8;obtain ⟨zf0,zf1,zf2,zf3,zf4,zf5,zf6,zf7⟩:=hYc.f8;have HC:Hid (HoldsL ((sW (sW (sW (sW (sW (sW (sW wz Y 0 (.slice a7 o.bib.binds.length c7)) Y 1 (.slice b7 o.bib.sess.length d7)) Y 2 (iV o.bind.proto)) Y 3 (.string o.bind.inn)) Y 4 (iV o.bind.inPort)) Y 5 (.string o.bind.out)) Y 6 (iV o.bind.outPort)).setCell ⟨Y,7,none⟩ (iV o.code)) Y (boL a7 b7 c7 d7 o)):=((((((((hYc.set 0 (.slice a7 o.bib.binds.length c7)).set 1 (.slice b7 o.bib.sess.length d7)).set 2 (iV o.bind.proto)).set 3 (.string o.bind.inn)).set 4 (iV o.bind.inPort)).set 5 (.string o.bind.out)).set 6 (iV o.bind.outPort)).set 7 (iV o.code));have HS:Hid (BS w B sa len cap size W1.heap.size (W1.heap.size+1) (W1.heap.size+2) pa pc p ba bo ca cb x ((sW (sW (sW (sW (sW (sW (sW wz Y 0 (.slice a7 o.bib.binds.length c7)) Y 1 (.slice b7 o.bib.sess.length d7)) Y 2 (iV o.bind.proto)) Y 3 (.string o.bind.inn)) Y 4 (iV o.bind.inPort)) Y 5 (.string o.bind.out)) Y 6 (iV o.bind.outPort)).setCell ⟨Y,7,none⟩ (iV o.code))):=((((((((hI.1.other Y 0 (.slice a7 o.bib.binds.length c7) (by omega) ma mb).other Y 1 (.slice b7 o.bib.sess.length d7) (by omega) ma mb).other Y 2 (iV o.bind.proto) (by omega) ma mb).other Y 3 (.string o.bind.inn) (by omega) ma mb).other Y 4 (iV o.bind.inPort) (by omega) ma mb).other Y 5 (.string o.bind.out) (by omega) ma mb).other Y 6 (iV o.bind.outPort) (by omega) ma mb).other Y 7 (iV o.code) (by omega) ma mb);have HI:Hid (BbIs ((sW (sW (sW (sW (sW (sW (sW wz Y 0 (.slice a7 o.bib.binds.length c7)) Y 1 (.slice b7 o.bib.sess.length d7)) Y 2 (iV o.bind.proto)) Y 3 (.string o.bind.inn)) Y 4 (iV o.bind.inPort)) Y 5 (.string o.bind.out)) Y 6 (iV o.bind.outPort)).setCell ⟨Y,7,none⟩ (iV o.code)) a7 b7 o.bib):=⟨((((((((o7.is.grown (grown_cell _ Y 0 _) na).grown (grown_cell _ Y 1 _) na).grown (grown_cell _ Y 2 _) na).grown (grown_cell _ Y 3 _) na).grown (grown_cell _ Y 4 _) na).grown (grown_cell _ Y 5 _) na).grown (grown_cell _ Y 6 _) na).grown (grown_cell _ Y 7 _) na),((((((((p7.is.grown (grown_cell _ Y 0 _) nb).grown (grown_cell _ Y 1 _) nb).grown (grown_cell _ Y 2 _) nb).grown (grown_cell _ Y 3 _) nb).grown (grown_cell _ Y 4 _) nb).grown (grown_cell _ Y 5 _) nb).grown (grown_cell _ Y 6 _) nb).grown (grown_cell _ Y 7 _) nb)⟩;clear hYc hI o7 p7 na nb ma mb;intro K5 hK5;go_simp;refine hK5 _ _ ?_;show Exit.then _ _ _ _ _;refine hK2 _ _ (hJ _ _ ?_);(repeat apply Exists.intro)
    exact ⟨⟨Y,o,a7,b7,c7,d7,rfl,HO.out,by omega,HS.out,HC.out,HI.out,fa,fb⟩,rfl⟩
   case rest =>
   obtain ⟨Y,o,a7,b7,c7,d7,rfl,ho,hYb,hS,hY,hbi,hfa,hfb⟩:=hcut;have HO:Hid (o.code=0→DrX p (n+1) o.bib):=ho;have S6:Hid (BS w B sa len cap size W1.heap.size (W1.heap.size+1) (W1.heap.size+2) pa pc p ba bo ca cb x wc):=hS;have HBI:Hid (BbIs wc a7 b7 o.bib):=hbi;obtain ⟨y0,y1,-,-,-,-,-,y7⟩:=hY.c8;obtain ⟨x0,x1⟩:=S6.out.bx.c2;obtain ⟨xf0,xf1⟩:=S6.out.bx.f2;clear ho hS hbi hY S5;by_cases hc:o.code=0
   ·have S7:Hid (BS w B sa len cap size W1.heap.size (W1.heap.size+1) (W1.heap.size+2) pa pc p a7 b7 c7 d7 o.bib ((sW wc (W1.heap.size+1) 0 (.slice a7 o.bib.binds.length c7)).setCell ⟨W1.heap.size+1,1,none⟩ (.slice b7 o.bib.sess.length d7))):=S6.out.setX HBI.out hfa hfb;have HDN:=HO.out hc;have hcb:(o.code==0)=true:=by simp [hc]
    clear hfa hfb S6 HBI;go_wp2_with fail
    go_roundw
    case rel=>exact ⟨o.bib,a7,b7,c7,d7,k,n+1,now+r1,by first | rfl | go_num,by first | go_num | (congr 1; omega),by omega,by omega,by omega,HDN,S7.out⟩
    case measure=>simp [intOf]; try omega
   ·have hcb:(o.code==0)=false:=by simp [hc]
    go_wp2_with fail
    go_roundw
    case rel=>exact ⟨x,ba,bo,ca,cb,k,n,now+r1,by first | rfl | go_num,by first | go_num | (congr 1; omega),by omega,by omega,by omega,HDX.out,S6.out⟩
    case measure=>simp [intOf]; try omega
  | zero =>
   go_wp2_with fail
   refine (drawOne_any 15 B sa len cap size _ (by omega) hl S4.out.dr.src).mono ?_;rintro e U2 ⟨c2,rfl,hs,hg⟩;have S7:Hid (BS w B sa len cap size W1.heap.size (W1.heap.size+1) (W1.heap.size+2) pa pc p ba bo ca cb x U2):=S4.out.draw hs hg;clear hs hg S4;go_upto_if 37 with fail
   go_cut [] (fun wx=>∃ y a7 b7 c7 d7,BbDr y∧BS w B sa len cap size W1.heap.size (W1.heap.size+1) (W1.heap.size+2) pa pc p a7 b7 c7 d7 y wx)
   case first =>
    cases c2 with
    | false =>
     go_wp2_with fail
     go_meet;exact ⟨x,ba,bo,ca,cb,HBD.out,S7.out⟩
    | true =>
     obtain ⟨x0,x1⟩:=S7.out.bx.c2;go_wp2_with fail
     refine (drawSpoil_any B sa len cap size ba bo ca cb x U2 hl HBD.out ⟨by omega,by omega⟩ HDX.out.ne S7.out.bb S7.out.dr.src).mono ?_;rintro e U3 ⟨y,a7,b7,c7,d7,rfl,hy,hbi,hfa,hfb,hs,hg⟩;have S8:=S7.out.draw hs hg;obtain ⟨z0,z1⟩:=S8.bx.c2;obtain ⟨zf0,zf1⟩:=S8.bx.f2;have hU:=S7.out.hP.2.2.2;have S9:Hid (BS w B sa len cap size W1.heap.size (W1.heap.size+1) (W1.heap.size+2) pa pc p a7 b7 c7 d7 y ((U3.setCell ⟨W1.heap.size+1,0,none⟩ (.slice a7 y.binds.length c7)).setCell ⟨W1.heap.size+1,1,none⟩ (.slice b7 y.sess.length d7))):=S8.setX hbi (.inr fun g o e=>Nat.le_trans hU (hfa g o e)) (.inr fun g o e=>Nat.le_trans hU (hfb g o e));have HY:Hid (BbDr y):=hy;clear hs hg S7 S8 hbi hfa hfb x0 x1 hy;unfold bbC;go_wp2_with fail
     go_meet;exact ⟨y,a7,b7,c7,d7,HY.out,S9.out⟩
   case rest =>
   obtain ⟨y,a7,b7,c7,d7,hy,hS⟩:=hcut;have HY:Hid (BbDr y):=hy;have S8:Hid (BS w B sa len cap size W1.heap.size (W1.heap.size+1) (W1.heap.size+2) pa pc p a7 b7 c7 d7 y wc):=hS;clear hy hS S7 HBD HDX hxb hxs;obtain ⟨p0,p1,p2,p3,p4,p5,p6,p7,p8,p9⟩:=S8.out.bp.c10;obtain ⟨b0,b1⟩:=S8.out.bx.c2;obtain ⟨z0,z1,z2,z3,z4,z5,z6,z7,z8,z9⟩:=S8.out.r0.c10;have zf0:=S8.out.r0.free (j:=0) (by simp [plZ0]);have zf1:=S8.out.r0.free (j:=1) (by simp [plZ0]);have zf2:=S8.out.r0.free (j:=2) (by simp [plZ0]);have zf3:=S8.out.r0.free (j:=3) (by simp [plZ0]);have zf4:=S8.out.r0.free (j:=4) (by simp [plZ0]);have zf5:=S8.out.r0.free (j:=5) (by simp [plZ0]);have zf6:=S8.out.r0.free (j:=6) (by simp [plZ0]);have zf7:=S8.out.r0.free (j:=7) (by simp [plZ0]);have zf8:=S8.out.r0.free (j:=8) (by simp [plZ0]);have zf9:=S8.out.r0.free (j:=9) (by simp [plZ0]);obtain ⟨u0,u1⟩:=S8.out.r1.c2;obtain ⟨uf0,uf1⟩:=S8.out.r1.f2;have hPw:W1.heap.size≠w.z:=by omega
   have hXw:W1.heap.size+1≠w.z:=by omega
   have hXw1:W1.heap.size+1≠w.z+1:=by omega
   have hPw1:W1.heap.size≠w.z+1:=by omega
   go_upto_region 13 with fail
   go_cut [4] (fun v wx=>v=iV now∧FinS w B sa len cap size pa pc p a7 b7 c7 d7 y wx)
   case first =>
    have g1:w.z≠W1.heap.size:=by omega
    have g2:w.z≠W1.heap.size+1:=by omega
    have g3:w.z+1≠W1.heap.size:=by omega
    go_region_held (fun wy=>wy.cell? ⟨W1.heap.size,0,none⟩=some (.slice pa p.addrs.length pc)∧wy.cell? ⟨W1.heap.size,1,none⟩=some (iV p.low)∧wy.cell? ⟨W1.heap.size,2,none⟩=some (iV p.high)∧wy.cell? ⟨W1.heap.size,3,none⟩=some (iV p.most)∧wy.cell? ⟨W1.heap.size,4,none⟩=some (iV p.filter)∧wy.cell? ⟨W1.heap.size,5,none⟩=some (iV p.lv.udp)∧wy.cell? ⟨W1.heap.size,6,none⟩=some (iV p.lv.echo)∧wy.cell? ⟨W1.heap.size,7,none⟩=some (iV p.lv.opening)∧wy.cell? ⟨W1.heap.size,8,none⟩=some (iV p.lv.opn)∧wy.cell? ⟨W1.heap.size,9,none⟩=some (iV p.lv.closing)∧wy.cell? ⟨W1.heap.size+1,0,none⟩=some (.slice a7 y.binds.length c7)∧wy.cell? ⟨W1.heap.size+1,1,none⟩=some (.slice b7 y.sess.length d7)) (go_keep) (fail)
    go_wp2_with fail
    go_meet;exact ⟨rfl,S8.out.fin.drew⟩
   case rest =>
   obtain ⟨rfl,hF⟩:=hcut;have HF:Hid (FinS w B sa len cap size pa pc p a7 b7 c7 d7 y wc):=hF;have HQ:Hid ((∀ g o,pa=some ⟨g,o,none⟩→w.z≤g)∧(y.binds=[]∨∀ g o,a7=some ⟨g,o,none⟩→w.z≤g)∧(y.sess=[]∨∀ g o,b7=some ⟨g,o,none⟩→w.z≤g)):=by
    obtain ⟨q1,q2,q3,q4⟩:=S8.out.hP;exact ⟨fun g o e=>by have:=S8.out.fp g o e; omega,S8.out.fa.imp id fun f g o e=>by have:=f g o e; omega,S8.out.fb.imp id fun f g o e=>by have:=f g o e; omega⟩
   clear hF S8 p0 z0 zf0 p1 z1 zf1 p2 z2 zf2 p3 z3 zf3 p4 z4 zf4 p5 z5 zf5 p6 z6 zf6 p7 z7 zf7 p8 z8 zf8 p9 z9 zf9 b0 u0 uf0 b1 u1 uf1;obtain ⟨z0,z1,z2,z3,z4,z5,z6,z7,z8,z9⟩:=HF.out.r0.c10;obtain ⟨u0,u1⟩:=HF.out.r1.c2;go_wp2_with fail
   exact bodyPost_ret (v:=.tuple #[.agg (PlV pa pc p).toArray,.agg (BbV a7 c7 b7 d7 y).toArray,iV now]) (by simp [results,Tryz.results54,go_sem,z0,z1,z2,z3,z4,z5,z6,z7,z8,z9,u0,u1]) rfl ⟨pa,pc,p,a7,b7,c7,d7,y,now,rfl,HPD.out,hpc,HY.out,hn0,by omega,HF.out.pl,HF.out.bb,HQ.out.1,HQ.out.2.1,HQ.out.2.2,HF.out.dr.src,HF.out.dr.grown⟩
end Go.Proofs.YtdkepkaflielhaaGreatDoor
