import Derived.Test.YthpopipedamciaaGreatMerged15
import Derived.Test.YthpopipedamciaaGreatLawPool
import Derived.Test.YthpopipedamciaaGreatLawBib
import Derived.Test.YthpopipedamciaaGreatLawPieceS
import Derived.Test.YthpopipedamciaaGreatLawRoutes
import Derived.Test.YthpopipedamciaaGreatMerged14
set_option linter.unusedVariables false
set_option linter.unusedSimpArgs false
set_option maxRecDepth 100000
set_option maxHeartbeats 8000000
namespace Go.Proofs.YthpopipedamciaaGreat
open Go.RowKit Go.PlainAid Go.ChangeShapes Go.WideShapes
structure GwWf (g:Gw):Prop where
 rt:RtsWf g.routes
 pl:PlWf g.pool
 sa:g.sixA.size≤maxLen
 sb:In64t g.sixB
 f1:g.four1.size≤maxLen
 s1:g.six1.size≤maxLen
 mt:In64t g.mtu
 bb:BbWf g.bib
 pc:PcsWf g.pcs
 bk:BkWf g.bk
 nw:In64t g.now
def szG0 (g:Gw):Int:=szS g.routes
def szG1 (g:Gw):Int:=szSl strN g.pool.addrs (szG0 g)
def szG2 (g:Gw):Int:=szP g.sixA.size (szG1 g)
def szG3 (g:Gw):Int:=szG2 g-g.four1.size
def szG4 (g:Gw):Int:=szG3 g-g.six1.size
def szG5 (g:Gw):Int:=szBb g.bib (szG4 g)
def szG6 (g:Gw):Int:=szSl pieceN g.pcs (szG5 g)
def szGwV (g:Gw):Int:=if szG0 g < 0 then -1 else if szG1 g < 0 then -1 else if szG2 g < 0 then -1 else if szG3 g < 0 then -1 else if szG4 g < 0 then -1 else if szG5 g < 0 then -1 else szG6 g
theorem szS_range (rs:List Rt) : -1≤szS rs∧szS rs≤1048576:=by
 unfold szS;split
 ·omega
 ·have:=szV_range rs (1048576-rs.length) (by omega); omega
theorem szP_range (n:Nat) (left:Int) (h:0≤left) : -1≤szP n left∧szP n left≤left:=by unfold szP; split<;>omega
structure GwRg (s0 s1 s2 s3 s4 s5 s6:Int) (f1 n1:Nat):Prop where
 r0 : -1≤s0∧s0≤1048576
 r1:0≤s0→-1≤s1∧s1≤s0
 r2:0≤s1→-1≤s2∧s2≤s1
 r3:s3=s2-f1
 r4:s4=s3-n1
 r5:0≤s4→-1≤s5∧s5≤s4
 r6:0≤s5→-1≤s6∧s6≤s5
theorem gw_rg (g:Gw):GwRg (szG0 g) (szG1 g) (szG2 g) (szG3 g) (szG4 g) (szG5 g) (szG6 g) g.four1.size g.six1.size :=
 ⟨szS_range _,fun h=>szSl_range strN g.pool.addrs _ h,fun h=>szP_range _ _ h,rfl,rfl,fun h=>szBb_range _ _ h,fun h=>szSl_range pieceN g.pcs _ h⟩
theorem szGw_in {g:Gw} (h:0≤szGwV g):(g.routes.length≤1048576∧∀ q∈g.routes,q.addr.size≤1048576)∧(g.pool.addrs.length≤1048576∧∀ s∈g.pool.addrs,s.size≤1048576)∧g.sixA.size≤1048576∧g.four1.size≤1048576∧g.six1.size≤1048576∧BbSm g.bib∧PcsIn g.pcs:=by
 have hr:=gw_rg g;unfold szGwV at h;(repeat' split at h)<;>try omega
 rename_i h0 h1 h2 h3 h4 h5;have r0:=hr.r0;have r1:=hr.r1 (by omega);have r2:=hr.r2 (by omega);have r3:=hr.r3;have r4:=hr.r4;have r5:=hr.r5 (by omega);refine ⟨szS_in (show 0≤szS g.routes by show 0≤szG0 g; omega),strs_in (left:=szG0 g) (by omega) (by omega) (by show 0≤szG1 g; omega),?_,by omega,by omega,bb_in (left:=szG4 g) (by omega) (by omega) (by show 0≤szG5 g; omega),pcs_in (left:=szG5 g) (by omega) (by omega) (by show 0≤szG6 g; omega)⟩;have:0≤szP g.sixA.size (szG1 g):=by show 0≤szG2 g; omega
 unfold szP at this;split at this<;>omega
section
variable {H:Type} {enc:TypeId × Value→H} {P:Program} {w:World} {base:Nat} {spare:Nat→Bool} {held:Bool}
theorem flat_part {t:TypeId} {fs:Array Field} {n:Nat} {cs:List Value} {x:DataW H × List MemPlace} (ht:P.underlying t=some (.struct fs)) (h:DataW.trod enc P w base spare held n t cs=some x) (i o k:Nat) (f:Field) (hf:fs[i]?=some f) (ho:f.offset=o) (hc:P.cellsOf f.type=k) (ds:List Value) (hd:(cs.drop o).take k=ds) :
  ∃ m y,DataW.trod enc P w base spare held m f.type ds=some y:=by
 obtain ⟨xs,m,_,_,hl,hx,hg⟩:=DataW.trod_struct ht h;have h1:=hg i f hf;rw [ho,hc,hd] at h1;have hi:i < xs.length:=by rw [hx]; exact (Array.getElem?_eq_some_iff.mp hf).1
 rw [List.getElem?_eq_getElem hi] at h1;exact ⟨m,_,h1⟩
theorem arrG24 {α:Type} {cs:Array α} (h:cs.size=24):∃ c0 c1 c2 c3 c4 c5 c6 c7 c8 c9 c10 c11 c12 c13 c14 c15 c16 c17 c18 c19 c20 c21 c22 c23,cs=#[c0,c1,c2,c3,c4,c5,c6,c7,c8,c9,c10,c11,c12,c13,c14,c15,c16,c17,c18,c19,c20,c21,c22,c23]:=by
 obtain ⟨l⟩:=cs;match l,h with
 | [c0,c1,c2,c3,c4,c5,c6,c7,c8,c9,c10,c11,c12,c13,c14,c15,c16,c17,c18,c19,c20,c21,c22,c23],_=>exact ⟨c0,c1,c2,c3,c4,c5,c6,c7,c8,c9,c10,c11,c12,c13,c14,c15,c16,c17,c18,c19,c20,c21,c22,c23,rfl⟩
theorem openL_Pool {m:Nat} {c0 c1 c2 c3 c4 c5 c6 c7 c8 c9:Value} {y:DataW H × List MemPlace} (hf:DataW.trod enc Tryz.prog w base spare held m 48 [c0,c1,c2,c3,c4,c5,c6,c7,c8,c9]=some y) :
  ∃ (a:Option Addr) (cap:Nat) (q:Pl),[c0,c1,c2,c3,c4,c5,c6,c7,c8,c9]=plL a cap q∧PlWf q∧SlIs strL1 1 w a q.addrs:=by
 obtain ⟨n0,z0,k0⟩:=flat_part Tryz.underlying48 hf 0 0 1 _ rfl rfl (show Tryz.prog.cellsOf 24=1 by kernel_rfl) [c0] rfl;obtain ⟨nc1,zc1,kc1⟩:=flat_part Tryz.underlying48 hf 1 1 1 _ rfl rfl (show Tryz.prog.cellsOf 2=1 by kernel_rfl) [c1] rfl;obtain ⟨xc1,ec1,_,gc1⟩:=DataW.trod_int Tryz.underlying2 kc1;obtain ⟨nc2,zc2,kc2⟩:=flat_part Tryz.underlying48 hf 2 2 1 _ rfl rfl (show Tryz.prog.cellsOf 2=1 by kernel_rfl) [c2] rfl;obtain ⟨xc2,ec2,_,gc2⟩:=DataW.trod_int Tryz.underlying2 kc2;obtain ⟨nc3,zc3,kc3⟩:=flat_part Tryz.underlying48 hf 3 3 1 _ rfl rfl (show Tryz.prog.cellsOf 2=1 by kernel_rfl) [c3] rfl;obtain ⟨xc3,ec3,_,gc3⟩:=DataW.trod_int Tryz.underlying2 kc3;obtain ⟨nc4,zc4,kc4⟩:=flat_part Tryz.underlying48 hf 4 4 1 _ rfl rfl (show Tryz.prog.cellsOf 2=1 by kernel_rfl) [c4] rfl;obtain ⟨xc4,ec4,_,gc4⟩:=DataW.trod_int Tryz.underlying2 kc4;obtain ⟨n5,z5,k5⟩:=flat_part Tryz.underlying48 hf 5 5 5 _ rfl rfl (show Tryz.prog.cellsOf 46=5 by kernel_rfl) [c5,c6,c7,c8,c9] rfl;obtain ⟨nc5,zc5,kc5⟩:=flat_part Tryz.underlying46 k5 0 0 1 _ rfl rfl (show Tryz.prog.cellsOf 2=1 by kernel_rfl) [c5] rfl;obtain ⟨xc5,ec5,_,gc5⟩:=DataW.trod_int Tryz.underlying2 kc5;obtain ⟨nc6,zc6,kc6⟩:=flat_part Tryz.underlying46 k5 1 1 1 _ rfl rfl (show Tryz.prog.cellsOf 2=1 by kernel_rfl) [c6] rfl;obtain ⟨xc6,ec6,_,gc6⟩:=DataW.trod_int Tryz.underlying2 kc6;obtain ⟨nc7,zc7,kc7⟩:=flat_part Tryz.underlying46 k5 2 2 1 _ rfl rfl (show Tryz.prog.cellsOf 2=1 by kernel_rfl) [c7] rfl;obtain ⟨xc7,ec7,_,gc7⟩:=DataW.trod_int Tryz.underlying2 kc7;obtain ⟨nc8,zc8,kc8⟩:=flat_part Tryz.underlying46 k5 3 3 1 _ rfl rfl (show Tryz.prog.cellsOf 2=1 by kernel_rfl) [c8] rfl;obtain ⟨xc8,ec8,_,gc8⟩:=DataW.trod_int Tryz.underlying2 kc8;obtain ⟨nc9,zc9,kc9⟩:=flat_part Tryz.underlying46 k5 4 4 1 _ rfl rfl (show Tryz.prog.cellsOf 2=1 by kernel_rfl) [c9] rfl;obtain ⟨xc9,ec9,_,gc9⟩:=DataW.trod_int Tryz.underlying2 kc9;simp only [List.cons.injEq,and_true] at ec1 ec2 ec3 ec4 ec5 ec6 ec7 ec8 ec9;subst ec1 ec2 ec3 ec4 ec5 ec6 ec7 ec8 ec9;obtain ⟨a0,l0,p0,rfl⟩ : ∃ a len cap,c0=.slice a len cap:=by
  rcases DataW.trod_slice Tryz.underlying24 k0 with ⟨e,_⟩ | ⟨b,l,c,_,_,_,_,e,_⟩
  ·simp at e; exact ⟨_,_,_,e⟩
  ·simp at e; exact ⟨_,_,_,e⟩
 obtain ⟨ys,rfl,hw,hs⟩:=open_StringS k0;exact ⟨a0,p0,⟨ys,xc1,xc2,xc3,xc4,⟨xc5,xc6,xc7,xc8,xc9⟩⟩,rfl,⟨hw,wf64s gc1,wf64s gc2,wf64s gc3,wf64s gc4,wf64s gc5,wf64s gc6,wf64s gc7,wf64s gc8,wf64s gc9⟩,hs⟩
theorem openL_Bib {m:Nat} {c0 c1:Value} {y:DataW H × List MemPlace} (hf:DataW.trod enc Tryz.prog w base spare held m 53 [c0,c1]=some y) :
  ∃ (a b:Option Addr) (ca cb:Nat) (x:Bb),[c0,c1]=[.slice a x.binds.length ca,.slice b x.sess.length cb]∧BbWf x∧BbIs w a b x:=by
 obtain ⟨n0,z0,k0⟩:=flat_part Tryz.underlying53 hf 0 0 1 _ rfl rfl (show Tryz.prog.cellsOf 50=1 by kernel_rfl) [c0] rfl;obtain ⟨n1,z1,k1⟩:=flat_part Tryz.underlying53 hf 1 1 1 _ rfl rfl (show Tryz.prog.cellsOf 51=1 by kernel_rfl) [c1] rfl;obtain ⟨a0,l0,p0,rfl⟩ : ∃ a len cap,c0=.slice a len cap:=by
  rcases DataW.trod_slice Tryz.underlying50 k0 with ⟨e,_⟩ | ⟨b,l,c,_,_,_,_,e,_⟩
  ·simp at e; exact ⟨_,_,_,e⟩
  ·simp at e; exact ⟨_,_,_,e⟩
 obtain ⟨a1,l1,p1,rfl⟩ : ∃ a len cap,c1=.slice a len cap:=by
  rcases DataW.trod_slice Tryz.underlying51 k1 with ⟨e,_⟩ | ⟨b,l,c,_,_,_,_,e,_⟩
  ·simp at e; exact ⟨_,_,_,e⟩
  ·simp at e; exact ⟨_,_,_,e⟩
 obtain ⟨xs,rfl,hw1,hs1⟩:=open_BindS k0;obtain ⟨ys,rfl,hw2,hs2⟩:=open_SessionS k1;exact ⟨a0,a1,p0,p1,⟨xs,ys⟩,rfl,⟨hw1,hw2⟩,⟨hs1,hs2⟩⟩
theorem open_Gw {r:Reach} {b0:Nat} {v:Value} {d:DataW H} {p:List MemPlace} (hv:Value.okWide Tryz.prog w r b0 57 v) (h:DataW.Trod enc Tryz.prog w base spare held 57 v d p) :
  ∃ (A:Ga) (g:Gw),v=gwC A g∧GwWf g∧GwIs w A g:=by
 obtain ⟨cs,rfl,hsz⟩:=okWide_struct Tryz.underlying57 hv;obtain ⟨c0,c1,c2,c3,c4,c5,c6,c7,c8,c9,c10,c11,c12,c13,c14,c15,c16,c17,c18,c19,c20,c21,c22,c23,rfl⟩:=arrG24 (hsz.trans (show Tryz.prog.cellsOf 57=24 by kernel_rfl));obtain ⟨fuel,hf⟩:=h;obtain ⟨mrt,yrt,hrt⟩:=flat_part Tryz.underlying57 hf 0 0 1 _ rfl rfl (show Tryz.prog.cellsOf 45=1 by kernel_rfl) [c0] rfl;obtain ⟨mpl,ypl,hpl⟩:=flat_part Tryz.underlying57 hf 1 1 10 _ rfl rfl (show Tryz.prog.cellsOf 48=10 by kernel_rfl) [c1,c2,c3,c4,c5,c6,c7,c8,c9,c10] rfl;obtain ⟨msx,ysx,hsx⟩:=flat_part Tryz.underlying57 hf 2 11 2 _ rfl rfl (show Tryz.prog.cellsOf 49=2 by kernel_rfl) [c11,c12] rfl;obtain ⟨mf1,yf1,hf1⟩:=flat_part Tryz.underlying57 hf 3 13 1 _ rfl rfl (show Tryz.prog.cellsOf 9=1 by kernel_rfl) [c13] rfl;obtain ⟨ms1,ys1,hs1⟩:=flat_part Tryz.underlying57 hf 4 14 1 _ rfl rfl (show Tryz.prog.cellsOf 9=1 by kernel_rfl) [c14] rfl;obtain ⟨mmt,ymt,hmt⟩:=flat_part Tryz.underlying57 hf 5 15 1 _ rfl rfl (show Tryz.prog.cellsOf 2=1 by kernel_rfl) [c15] rfl;obtain ⟨mbb,ybb,hbb⟩:=flat_part Tryz.underlying57 hf 6 16 2 _ rfl rfl (show Tryz.prog.cellsOf 53=2 by kernel_rfl) [c16,c17] rfl;obtain ⟨mpc,ypc,hpc⟩:=flat_part Tryz.underlying57 hf 7 18 1 _ rfl rfl (show Tryz.prog.cellsOf 54=1 by kernel_rfl) [c18] rfl;obtain ⟨mbk,ybk,hbk⟩:=flat_part Tryz.underlying57 hf 8 19 4 _ rfl rfl (show Tryz.prog.cellsOf 55=4 by kernel_rfl) [c19,c20,c21,c22] rfl;obtain ⟨mnw,ynw,hnw⟩:=flat_part Tryz.underlying57 hf 9 23 1 _ rfl rfl (show Tryz.prog.cellsOf 2=1 by kernel_rfl) [c23] rfl;obtain ⟨pa,pcap,plq,epl,wpl,spl⟩:=openL_Pool hpl;obtain ⟨ba,bo,bca,bcb,bx,ebb,wbb,sbb⟩:=openL_Bib hbb;obtain ⟨n11,z11,k11⟩:=flat_part Tryz.underlying49 hsx 0 0 1 _ rfl rfl (show Tryz.prog.cellsOf 9=1 by kernel_rfl) [c11] rfl;obtain ⟨xc11,ec11,_,gc11⟩:=DataW.trod_string Tryz.underlying9 k11;obtain ⟨nc12,zc12,kc12⟩:=flat_part Tryz.underlying49 hsx 1 1 1 _ rfl rfl (show Tryz.prog.cellsOf 2=1 by kernel_rfl) [c12] rfl;obtain ⟨xc12,ec12,_,gc12⟩:=DataW.trod_int Tryz.underlying2 kc12;obtain ⟨xc13,ec13,_,gc13⟩:=DataW.trod_string Tryz.underlying9 hf1;obtain ⟨xc14,ec14,_,gc14⟩:=DataW.trod_string Tryz.underlying9 hs1;obtain ⟨xc15,ec15,_,gc15⟩:=DataW.trod_int Tryz.underlying2 hmt;obtain ⟨xc23,ec23,_,gc23⟩:=DataW.trod_int Tryz.underlying2 hnw;obtain ⟨nc19,zc19,kc19⟩:=flat_part Tryz.underlying55 hbk 0 0 1 _ rfl rfl (show Tryz.prog.cellsOf 2=1 by kernel_rfl) [c19] rfl;obtain ⟨xc19,ec19,_,gc19⟩:=DataW.trod_int Tryz.underlying2 kc19;obtain ⟨nc20,zc20,kc20⟩:=flat_part Tryz.underlying55 hbk 1 1 1 _ rfl rfl (show Tryz.prog.cellsOf 2=1 by kernel_rfl) [c20] rfl;obtain ⟨xc20,ec20,_,gc20⟩:=DataW.trod_int Tryz.underlying2 kc20;obtain ⟨nc21,zc21,kc21⟩:=flat_part Tryz.underlying55 hbk 2 2 1 _ rfl rfl (show Tryz.prog.cellsOf 2=1 by kernel_rfl) [c21] rfl;obtain ⟨xc21,ec21,_,gc21⟩:=DataW.trod_int Tryz.underlying2 kc21;obtain ⟨nc22,zc22,kc22⟩:=flat_part Tryz.underlying55 hbk 3 3 1 _ rfl rfl (show Tryz.prog.cellsOf 2=1 by kernel_rfl) [c22] rfl;obtain ⟨xc22,ec22,_,gc22⟩:=DataW.trod_int Tryz.underlying2 kc22;simp only [List.cons.injEq,and_true] at ec11 ec12 ec13 ec14 ec15 ec19 ec20 ec21 ec22 ec23 ebb;subst ec11 ec12 ec13 ec14 ec15 ec19 ec20 ec21 ec22 ec23;obtain ⟨rfl,rfl⟩:=ebb;unfold plL at epl;simp only [List.cons.injEq,and_true] at epl;obtain ⟨rfl,rfl,rfl,rfl,rfl,rfl,rfl,rfl,rfl,rfl⟩:=epl;obtain ⟨ar,lr,pr,rfl⟩ : ∃ a len cap,c0=.slice a len cap:=by
  rcases DataW.trod_slice Tryz.underlying45 hrt with ⟨e,_⟩ | ⟨b,l,c,_,_,_,_,e,_⟩
  ·simp at e; exact ⟨_,_,_,e⟩
  ·simp at e; exact ⟨_,_,_,e⟩
 obtain ⟨aq,lq,pq,rfl⟩ : ∃ a len cap,c18=.slice a len cap:=by
  rcases DataW.trod_slice Tryz.underlying54 hpc with ⟨e,_⟩ | ⟨b,l,c,_,_,_,_,e,_⟩
  ·simp at e; exact ⟨_,_,_,e⟩
  ·simp at e; exact ⟨_,_,_,e⟩
 obtain ⟨rs,rfl,wrt,srt⟩:=open_routes hrt;obtain ⟨qs,rfl,wpc,spc⟩:=open_PieceS hpc;exact ⟨⟨ar,pr,pa,pcap,ba,bca,bo,bcb,aq,pq⟩,⟨rs,plq,xc11,xc12,xc13,xc14,xc15,bx,qs,⟨xc19,xc20,xc21,xc22⟩,xc23⟩,rfl,⟨wrt,wpl,gc11,wf64s gc12,gc13,gc14,wf64s gc15,wbb,wpc,⟨wf64s gc19,wf64s gc20,wf64s gc21,wf64s gc22⟩,wf64s gc23⟩,⟨srt,spl,sbb,spc⟩⟩
end
theorem gw_sm {A:Ga} {g:Gw} (h:0≤szGwV g) (hw:GwWf g) (h1:g.routes.length≤A.rc) (h2:g.pool.addrs.length≤A.pc):GwSm A g:=by
 obtain ⟨⟨r1,r2⟩,⟨p1,p2⟩,sx,f1,s1,⟨b1,b2,b3,b4⟩,pi⟩:=szGw_in h;exact ⟨r1,h1,fun q hq=>⟨r2 q hq,(hw.rt.2 q hq).2⟩,p1,h2,p2,sx,f1,s1,b1,b2,fun q hq=>⟨(b3 q hq).1,(b3 q hq).2,(hw.bb.1.2 q hq).1,(hw.bb.1.2 q hq).2.2.1,(hw.bb.1.2 q hq).2.2.2.2⟩,fun s hs=>⟨(b4 s hs).1,(b4 s hs).2,(hw.bb.2.2 s hs).1,(hw.bb.2.2 s hs).2.2.1⟩,pi⟩
end Go.Proofs.YthpopipedamciaaGreat
