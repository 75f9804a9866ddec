import Derived.Test.YtdkepkaflielhaaGreatDoorMerged22
set_option linter.unusedVariables false
set_option linter.unusedSimpArgs false
set_option maxRecDepth 100000
set_option maxHeartbeats 8000000
namespace Go.Proofs.YtdkepkaflielhaaGreatDoor
open Go.RowKit Go.PlainAid
theorem xJ(sa:OA)(len cap:Nat)(w:World)(hl:len≤1048576)(hb:mL w sa len w.heap.size) :
  Calls Tryz.prog 6 #[.slice sa len cap] w fun e w'=>∃pa pc p ba bo ca cb x q now,e=.returned (.tuple #[jQ pa pc p,iQ ba bo ca cb x,mD q,iV now])∧pH p∧p.VA.length≤pc∧nM x∧tE q∧gO now∧bP bX 1 w' pa p.VA∧dI w' ba bo x∧Below w.heap.size w w':=by
 have O0:Hid (aA ((aW (aW w jU 27) [.slice none 0 0,.slice none 0 0] 31).alloc (.cells (fM 0 0 false false 0 0 0 ⟨#[]⟩ ⟨#[]⟩ ⟨#[]⟩ ⟨#[]⟩).toArray 33)) (w.heap.size) jU):=by
  have h:=aA.new w jU 27;try simp only[TQ]at h
  exact((h.alloc _).alloc _)
 have O1:Hid (aA ((aW (aW w jU 27) [.slice none 0 0,.slice none 0 0] 31).alloc (.cells (fM 0 0 false false 0 0 0 ⟨#[]⟩ ⟨#[]⟩ ⟨#[]⟩ ⟨#[]⟩).toArray 33)) (w.heap.size+1) [.slice none 0 0,.slice none 0 0]):=by
  have h:=aA.new (w.alloc (.cells jU.toArray 27)) [.slice none 0 0,.slice none 0 0] 31;try simp only[TQ]at h
  exact(h.alloc _)
 have O2:Hid (aA ((aW (aW w jU 27) [.slice none 0 0,.slice none 0 0] 31).alloc (.cells (fM 0 0 false false 0 0 0 ⟨#[]⟩ ⟨#[]⟩ ⟨#[]⟩ ⟨#[]⟩).toArray 33)) (w.heap.size+1+1) (fM 0 0 false false 0 0 0 ⟨#[]⟩ ⟨#[]⟩ ⟨#[]⟩ ⟨#[]⟩)):=by
  have h:=aA.new ((aW w jU 27).alloc (.cells #[.slice none 0 0,.slice none 0 0] 31)) (fM 0 0 false false 0 0 0 ⟨#[]⟩ ⟨#[]⟩ ⟨#[]⟩ ⟨#[]⟩) 33;try simp only[TQ]at h
  exact h
 have HZ:Hid (((aW (aW w jU 27) [.slice none 0 0,.slice none 0 0] 31).alloc (.cells (fM 0 0 false false 0 0 0 ⟨#[]⟩ ⟨#[]⟩ ⟨#[]⟩ ⟨#[]⟩).toArray 33)).heap.size=w.heap.size+3):=by unfold Hid;simp
 have HB0:Hid (Below w.heap.size w ((aW (aW w jU 27) [.slice none 0 0,.slice none 0 0] 31).alloc (.cells (fM 0 0 false false 0 0 0 ⟨#[]⟩ ⟨#[]⟩ ⟨#[]⟩ ⟨#[]⟩).toArray 33))):=((bR.alloc lR _).alloc (by simp) _).alloc (by simp;omega) _;have HBY:Hid (mL ((aW (aW w jU 27) [.slice none 0 0,.slice none 0 0] 31).alloc (.cells (fM 0 0 false false 0 0 0 ⟨#[]⟩ ⟨#[]⟩ ⟨#[]⟩ ⟨#[]⟩).toArray 33)) sa len ((aW (aW w jU 27) [.slice none 0 0,.slice none 0 0] 31).alloc (.cells (fM 0 0 false false 0 0 0 ⟨#[]⟩ ⟨#[]⟩ ⟨#[]⟩ ⟨#[]⟩).toArray 33)).heap.size):=(((hb.mono (by simp;try omega)).kept (World.grownBy_alloc _ _ none) (by simp)).kept (World.grownBy_alloc _ _ none) (by simp)).kept (World.grownBy_alloc _ _ none) (by simp);clear hb;go_enter Tryz.func6,Tryz.ntmps6
 go_upto_region 1 with fail
 generalize World.alloc _ _=W0 at *;go_cut [5] (fun v wx=>∃pa pc p ba bo ca cb x q now,v=iV now∧pH p∧p.VA.length≤pc∧nM x∧tE q∧gO now∧bP bX 1 wx pa p.VA∧dI wx ba bo x∧Below w.heap.size w wx∧aA wx (w.heap.size) (bM pa pc p)∧aA wx (w.heap.size+1) (bF ba ca bo cb x)∧aA wx (w.heap.size+1+1) (dY q))
 case first=>
  go_wp2_with fail
  refine(IB sa len cap W0 hl HBY.out).mono ?_;rintro e w1 ⟨rfl,b1,size,s0,s1,hs1⟩;have HS1:Hid (iT w1 W0.heap.size sa len cap size):=hs1;obtain⟨B,hBd⟩: ∃B,B=W0.heap.size:=⟨_,rfl⟩;rw[←hBd]at hs1 HS1 ⊢;have hB2:w.heap.size+3≤B:=by rw[hBd,HZ.out];exact Nat.le_refl _
  have hB1:B < w1.heap.size:=(Dr.start hs1).hB;have HB1:Hid _:=HB0.out.trans (b1.mono HB0.out.size);have Q0:Hid _:=O0.out.kept (by simp) b1;have Q1:Hid _:=O1.out.kept (by simp) b1;have Q2:Hid _:=O2.out.kept (by simp) b1;clear hs1 b1 s0 s1 O0 O1 O2 HBY HB0 hBd HZ;go_wp2_with fail
  refine(CL true B sa len cap size w1 hl HS1.out).mono ?_;rintro e w2 ⟨pa,pc,p,ba,bo,ca,cb,x,q,now,rfl,hpd,hpc,hbd,hq,hnow,hA⟩;have A2:Hid (AS w1 B sa len cap size [] pa p ba bo x w2):=hA;have hg:=hA.db.dr.grown;have Hz:aA w2 (w.heap.size) jU:=Q0.out.grown (by simp) hg (by simp;omega);have z0:=Hz.cell (j:=0) rfl;have z1:=Hz.cell (j:=1) rfl;have z2:=Hz.cell (j:=2) rfl;have z3:=Hz.cell (j:=3) rfl;have z4:=Hz.cell (j:=4) rfl;have z5:=Hz.cell (j:=5) rfl;have z6:=Hz.cell (j:=6) rfl;have z7:=Hz.cell (j:=7) rfl;have z8:=Hz.cell (j:=8) rfl;have z9:=Hz.cell (j:=9) rfl;have zf0:=Hz.free (j:=0) (by simp);have zf1:=Hz.free (j:=1) (by simp);have zf2:=Hz.free (j:=2) (by simp);have zf3:=Hz.free (j:=3) (by simp);have zf4:=Hz.free (j:=4) (by simp);have zf5:=Hz.free (j:=5) (by simp);have zf6:=Hz.free (j:=6) (by simp);have zf7:=Hz.free (j:=7) (by simp);have zf8:=Hz.free (j:=8) (by simp);have zf9:=Hz.free (j:=9) (by simp);have Hu:aA w2 (w.heap.size+1) [.slice none 0 0,.slice none 0 0]:=Q1.out.grown (by simp) hg (by simp;omega);have u0:=Hu.cell (j:=0) rfl;have u1:=Hu.cell (j:=1) rfl;have uf0:=Hu.free (j:=0) (by simp);have uf1:=Hu.free (j:=1) (by simp);have Hv:aA w2 (w.heap.size+1+1) (fM 0 0 false false 0 0 0 ⟨#[]⟩ ⟨#[]⟩ ⟨#[]⟩ ⟨#[]⟩):=Q2.out.grown (by simp) hg (by simp;omega);have v0:=Hv.cell (j:=0) rfl;have v1:=Hv.cell (j:=1) rfl;have v2:=Hv.cell (j:=2) rfl;have v3:=Hv.cell (j:=3) rfl;have v4:=Hv.cell (j:=4) rfl;have v5:=Hv.cell (j:=5) rfl;have v6:=Hv.cell (j:=6) rfl;have v7:=Hv.cell (j:=7) rfl;have v8:=Hv.cell (j:=8) rfl;have v9:=Hv.cell (j:=9) rfl;have v10:=Hv.cell (j:=10) rfl;have vf0:=Hv.free (j:=0) (by simp);have vf1:=Hv.free (j:=1) (by simp);have vf2:=Hv.free (j:=2) (by simp);have vf3:=Hv.free (j:=3) (by simp);have vf4:=Hv.free (j:=4) (by simp);have vf5:=Hv.free (j:=5) (by simp);have vf6:=Hv.free (j:=6) (by simp);have vf7:=Hv.free (j:=7) (by simp);have vf8:=Hv.free (j:=8) (by simp);have vf9:=Hv.free (j:=9) (by simp);have vf10:=Hv.free (j:=10) (by simp);have np:∀ {R},R < w1.heap.size→(p.VA=[]∨∀g o,pa=some ⟨g,o,none⟩→g≠R):=fun h=>A2.out.fp.imp id fun f g o e=>by have:=(f g o e).1;omega
  have na:∀ {R},R < w1.heap.size→(x.VC=[]∨∀g o,ba=some ⟨g,o,none⟩→g≠R):=fun h=>A2.out.fa.imp id fun f g o e=>by have:=(f g o e).1;omega
  have nb:∀ {R},R < w1.heap.size→(x.UZ=[]∨∀g o,bo=some ⟨g,o,none⟩→g≠R):=fun h=>A2.out.fb.imp id fun f g o e=>by have:=(f g o e).1;omega
  unfold jQ iQ mD;go_wp2_with fail
  go_meet;exact⟨pa,pc,p,ba,bo,ca,cb,x,q,now,rfl,hpd,hpc,hbd,hq,hnow,(aI (aI (aI (aI (aI (aI (aI (aI (aI (aI (aI (aI (aI (aI (aI (aI (aI (aI (aI (aI (aI (aI (aI A2.out.pl (np (by omega)) 0 _) (np (by omega)) 1 _) (np (by omega)) 2 _) (np (by omega)) 3 _) (np (by omega)) 4 _) (np (by omega)) 5 _) (np (by omega)) 6 _) (np (by omega)) 7 _) (np (by omega)) 8 _) (np (by omega)) 9 _) (np (by omega)) 0 _) (np (by omega)) 1 _) (np (by omega)) 0 _) (np (by omega)) 1 _) (np (by omega)) 2 _) (np (by omega)) 3 _) (np (by omega)) 4 _) (np (by omega)) 5 _) (np (by omega)) 6 _) (np (by omega)) 7 _) (np (by omega)) 8 _) (np (by omega)) 9 _) (np (by omega)) 10 _),⟨(aI (aI (aI (aI (aI (aI (aI (aI (aI (aI (aI (aI (aI (aI (aI (aI (aI (aI (aI (aI (aI (aI (aI A2.out.bb.bd (na (by omega)) 0 _) (na (by omega)) 1 _) (na (by omega)) 2 _) (na (by omega)) 3 _) (na (by omega)) 4 _) (na (by omega)) 5 _) (na (by omega)) 6 _) (na (by omega)) 7 _) (na (by omega)) 8 _) (na (by omega)) 9 _) (na (by omega)) 0 _) (na (by omega)) 1 _) (na (by omega)) 0 _) (na (by omega)) 1 _) (na (by omega)) 2 _) (na (by omega)) 3 _) (na (by omega)) 4 _) (na (by omega)) 5 _) (na (by omega)) 6 _) (na (by omega)) 7 _) (na (by omega)) 8 _) (na (by omega)) 9 _) (na (by omega)) 10 _),(aI (aI (aI (aI (aI (aI (aI (aI (aI (aI (aI (aI (aI (aI (aI (aI (aI (aI (aI (aI (aI (aI (aI A2.out.bb.ss (nb (by omega)) 0 _) (nb (by omega)) 1 _) (nb (by omega)) 2 _) (nb (by omega)) 3 _) (nb (by omega)) 4 _) (nb (by omega)) 5 _) (nb (by omega)) 6 _) (nb (by omega)) 7 _) (nb (by omega)) 8 _) (nb (by omega)) 9 _) (nb (by omega)) 0 _) (nb (by omega)) 1 _) (nb (by omega)) 0 _) (nb (by omega)) 1 _) (nb (by omega)) 2 _) (nb (by omega)) 3 _) (nb (by omega)) 4 _) (nb (by omega)) 5 _) (nb (by omega)) 6 _) (nb (by omega)) 7 _) (nb (by omega)) 8 _) (nb (by omega)) 9 _) (nb (by omega)) 10 _)⟩,(sCl (sCl (sCl (sCl (sCl (sCl (sCl (sCl (sCl (sCl (sCl (sCl (sCl (sCl (sCl (sCl (sCl (sCl (sCl (sCl (sCl (sCl (sCl (FL HB1.out hg (by omega) HB1.out.size) lR) lR) lR) lR) lR) lR) lR) lR) lR) lR) (Nat.le_succ _)) (Nat.le_succ _)) (Nat.le_add_right _ 2)) (Nat.le_add_right _ 2)) (Nat.le_add_right _ 2)) (Nat.le_add_right _ 2)) (Nat.le_add_right _ 2)) (Nat.le_add_right _ 2)) (Nat.le_add_right _ 2)) (Nat.le_add_right _ 2)) (Nat.le_add_right _ 2)) (Nat.le_add_right _ 2)) (Nat.le_add_right _ 2)),(eN (eN (eN (eN (eN (eN (eN (eN (eN (eN (eN (eN (eN ((((((((((Hz.set 0 _).set 1 _).set 2 _).set 3 _).set 4 _).set 5 _).set 6 _).set 7 _).set 8 _).set 9 _)))))))))))))),(eN (eN (eN (eN (eN (eN (eN (eN (eN (eN (eN (((eN (eN (eN (eN (eN (eN (eN (eN (eN (eN Hu)))))))))).set 0 _).set 1 _)))))))))))),((((((((((((eN (eN (eN (eN (eN (eN (eN (eN (eN (eN (eN (eN Hv)))))))))))).set 0 _).set 1 _).set 2 _).set 3 _).set 4 _).set 5 _).set 6 _).set 7 _).set 8 _).set 9 _).set 10 _)⟩
 case rest=>
 obtain⟨pa,pc,p,ba,bo,ca,cb,x,q,now,rfl,hpd,hpc,hbd,hq,hnow,h3,h4,h5,hz,hu,hv⟩:=hcut;have HF:Hid _:=And.intro hpd (And.intro hpc (And.intro hbd (And.intro hq (And.intro hnow (And.intro h3 (And.intro h4 h5))))));have z0:=hz.cell (j:=0) rfl;have z1:=hz.cell (j:=1) rfl;have z2:=hz.cell (j:=2) rfl;have z3:=hz.cell (j:=3) rfl;have z4:=hz.cell (j:=4) rfl;have z5:=hz.cell (j:=5) rfl;have z6:=hz.cell (j:=6) rfl;have z7:=hz.cell (j:=7) rfl;have z8:=hz.cell (j:=8) rfl;have z9:=hz.cell (j:=9) rfl;have u0:=hu.cell (j:=0) rfl;have u1:=hu.cell (j:=1) rfl;have v0:=hv.cell (j:=0) rfl;have v1:=hv.cell (j:=1) rfl;have v2:=hv.cell (j:=2) rfl;have v3:=hv.cell (j:=3) rfl;have v4:=hv.cell (j:=4) rfl;have v5:=hv.cell (j:=5) rfl;have v6:=hv.cell (j:=6) rfl;have v7:=hv.cell (j:=7) rfl;have v8:=hv.cell (j:=8) rfl;have v9:=hv.cell (j:=9) rfl;have v10:=hv.cell (j:=10) rfl;clear hz hu hv hpd hpc hbd hq hnow h3 h4 h5 O0 O1 O2 HBY HB0 HZ;go_wp2_with fail
 exact UQ (v:=.tuple #[.agg (bM pa pc p).toArray,.agg (bF ba ca bo cb x).toArray,.agg (dY q).toArray,iV now]) (by simp[results,Tryz.results6,go_sem,z0,z1,z2,z3,z4,z5,z6,z7,z8,z9,u0,u1,v0,v1,v2,v3,v4,v5,v6,v7,v8,v9,v10]) rfl ⟨pa,pc,p,ba,bo,ca,cb,x,q,now,rfl,HF.out⟩
structure No where
 bib:Bb
 four:P4
 six:P6
 code:Int
def fW(a b:OA)(ca cb:Nat)(o:No):List Value:=[.slice a o.bib.VC.length ca,.slice b o.bib.UZ.length cb,iV o.four.tos,iV o.four.id,.bool o.four.whole,.bool o.four.more,iV o.four.off,iV o.four.ttl,iV o.four.UU,.string o.four.src,.string o.four.dst,.string o.four.opts,.string o.four.data,iV o.six.cls,iV o.six.flow,iV o.six.next,iV o.six.hops,.string o.six.src,.string o.six.dst,.bool o.six.piece,.bool o.six.more,iV o.six.off,iV o.six.id,.string o.six.data,iV o.code]
def IY(a b:OA)(ca cb:Nat)(o:No):Value:=.agg (fW a b ca cb o).toArray
def gW(c:Int):No:=⟨NR,pS,gZ,c⟩
def dP(p:Pl)(x:Bb)(q:P4)(now:Int):Int:=if (fS p x&&iX q&&bS now)=false then 1 else if (q.more||decide (q.off≠0))=true then 10 else 0
def fN(UU:Int)(t:BA):Int:=if UU=6 then bt t 13 else 0
def eM(UU n:Int):Int:=if aJ UU=true then 0 else n
def pU(p:Int):Int:=if p=58 then 1 else p
def kV(f:Fl)(peer t:BA):Tc:=⟨pU f.UU,true,f.src,f.sp,peer,eM f.UU f.dp,fN f.UU t⟩
def mO(f:Fl)(t:BA):Tc:=⟨f.UU,false,f.dst,f.dp,f.src,eM f.UU f.sp,fN f.UU t⟩
def kW(f g:Fl):Fl:=if aJ f.UU=true then ⟨if g.src.size=16 then 58 else 1,g.src,g.dst,g.sp,g.sp⟩ else g
def gP(f:Fl)(src:BA)(port:Int)(dst:BA):Fl:=kW f ⟨f.UU,src,dst,port,f.dp⟩
def BJ(f:Fl)(src dst:BA)(port:Int):Fl:=kW f ⟨f.UU,src,dst,if aJ f.UU=true then port else f.sp,port⟩
def jN(f g:Fl)(t:BA):BA:=if eF f t=true then (if g.src.size=16 then ⟨#[]⟩ else bJ f g t) else dW (bJ f g t) (aY f.UU) (aQ (cL f g t))
def dS(p:Pl)(x:Bb)(q:P4)(now:Int):No :=
 if aU q.src.size q.UU q.data≠0 then gW (aU q.src.size q.UU q.data)
 else if (gF p x (kV (aR q.src q.dst q.UU q.data) q.dst q.data) now).code≠0 then gW (gF p x (kV (aR q.src q.dst q.UU q.data) q.dst q.data) now).code
 else ⟨(gF p x (kV (aR q.src q.dst q.UU q.data) q.dst q.data) now).bib,{ q with src:=(gF p x (kV (aR q.src q.dst q.UU q.data) q.dst q.data) now).bind.out,data:=jN (aR q.src q.dst q.UU q.data) (gP (aR q.src q.dst q.UU q.data) (gF p x (kV (aR q.src q.dst q.UU q.data) q.dst q.data) now).bind.out (gF p x (kV (aR q.src q.dst q.UU q.data) q.dst q.data) now).bind.UX q.dst) q.data },gZ,0⟩
def cX(p:Pl)(x:Bb)(q:P4)(now:Int):No:=if dP p x q now≠0 then gW (dP p x q now) else dS p x q now
def kD(p:Pl)(x:Bb)(q:P4)(now:Int):No :=
 if nL p.VA q.dst=false then gW 6
 else if aU q.src.size q.UU q.data≠0 then gW (aU q.src.size q.UU q.data)
 else if (gF p x (mO (aR q.src q.dst q.UU q.data) q.data) now).code≠0 then gW (gF p x (mO (aR q.src q.dst q.UU q.data) q.data) now).code
 else if (gF p x (mO (aR q.src q.dst q.UU q.data) q.data) now).bind.inn.size≠4 then gW 11
 else ⟨(gF p x (mO (aR q.src q.dst q.UU q.data) q.data) now).bib,{ q with dst:=(gF p x (mO (aR q.src q.dst q.UU q.data) q.data) now).bind.inn,data:=jN (aR q.src q.dst q.UU q.data) (BJ (aR q.src q.dst q.UU q.data) q.src (gF p x (mO (aR q.src q.dst q.UU q.data) q.data) now).bind.inn (gF p x (mO (aR q.src q.dst q.UU q.data) q.data) now).bind.UW) q.data },gZ,0⟩
def fB(p:Pl)(x:Bb)(q:P4)(now:Int):No:=if dP p x q now≠0 then gW (dP p x q now) else kD p x q now
def sN(p:Pl)(x:Bb)(q:P4)(now:Int):No :=
 if dP p x q now≠0 then gW (dP p x q now)
 else if q.UU=1 then gW 11
 else if (dS p x q now).code≠0 then dS p x q now
 else fB p (dS p x q now).bib (dS p x q now).four now
def SM:Value:=.agg pC.toArray
def kK(w:World)(pa:OA)(pc:Nat)(p:Pl)(ba bo:OA)(ca cb:Nat)(x:Bb)(e:Ending)(w':World):Prop:=Below w.heap.size w w'∧((cS p x=false∧e=.returned (.tuple #[SM,.bool false]))∨(cS p x=true∧∃m1 m2,e=.returned (.tuple #[CF pa pc p ba bo ca cb x m1 m2,.bool true])∧w.heap.size≤m1∧w.heap.size≤m2∧dF w' m1 m2 x.VC x.VC))
structure pA(w:World)(pa:OA)(pc:Nat)(p:Pl)(ba bo:OA)(ca cb:Nat)(x:Bb)(m1 m2 Y:Nat)(xs ys:List Bd)(wr:World):Prop where
 bx:aA wr (w.heap.size+1) (bF ba ca bo cb x)
 r:aA wr (w.heap.size+1+1) pC
 k:aA wr Y (iF pa pc p ba ca bo cb x m1 m2)
 bk:dF wr m1 m2 xs ys
 b:Below w.heap.size w wr
 l1:w.heap.size+1+1 < m1
 l2:w.heap.size+1+1 < m2
 n1:Y≠m1
 n2:Y≠m2
section
variable {w:World} {pa:OA} {pc:Nat} {p:Pl} {ba bo:OA} {ca cb:Nat} {x:Bb} {m1 m2 Y:Nat} {xs ys:List Bd} {wr W:World}
theorem pA.kept(h:pA w pa pc p ba bo ca cb x m1 m2 Y xs ys wr)(hb:Below wr.heap.size wr W):pA w pa pc p ba bo ca cb x m1 m2 Y xs ys W :=
 ⟨h.bx.kept (by simp) hb,h.r.kept (by simp) hb,h.k.kept (by simp) hb,h.bk.kept hb,h.b.trans (hb.mono h.b.size),h.l1,h.l2,h.n1,h.n2⟩
theorem pA.put{xs' ys':List Bd}{m:Nat}(h:pA w pa pc p ba bo ca cb x m1 m2 Y xs ys wr)(hm:m=m1∨m=m2)(hg:wr.grownBy W (some m))(hk:dF W m1 m2 xs' ys'):pA w pa pc p ba bo ca cb x m1 m2 Y xs' ys' W:=by
 have a1:=h.l1;have a2:=h.l2;have a3:=h.n1;have a4:=h.n2;exact⟨h.bx.grown (by simp) hg (by simp;omega),h.r.grown (by simp) hg (by simp;omega),h.k.grown (by simp) hg (by simp;omega),hk,CC h.b hg (by omega) h.b.size,h.l1,h.l2,h.n1,h.n2⟩
end
theorem FT{α:Type}(f:α→Bool)(xs:List α)(i:Nat)(h:i < xs.length)(hf:f xs[i]=true):decide (bG f xs=(i:Int))=!(xs.take i).any f:=by
 cases ha:(xs.take i).any f with
 | false=>rw[nQ f xs i h ha hf];simp
 | true=>
  obtain⟨c,hc,hfc⟩:=List.any_eq_true.1 ha;obtain⟨k,hk,hki,rfl⟩:=sM hc;have:bG f xs≠(i:Int):=by
   intro e;unfold bG at e
   cases hx:xs.findIdx? f with
   | none=>
    have:=List.findIdx?_eq_none_iff.1 hx xs[k] (TY hk);rw[hfc]at this;simp at this
   | some n=>
    rw[hx]at e;obtain⟨hn,hfn,hlt⟩:=List.findIdx?_eq_some_iff_getElem.1 hx;simp only at e;have hni:n=i:=by omega
    subst hni;exact absurd hfc (by simpa using hlt k hki)
  rw[TR this];rfl
theorem DK(pa:OA)(pc:Nat)(p:Pl)(ba bo:OA)(ca cb:Nat)(x:Bb)(w:World)(hpl:p.VA.length≤1048576)(hpc:p.VA.length≤pc)(hps:∀s∈p.VA,s.size≤1048576)(hbl1:x.VC.length≤1048576)(hbl2:x.UZ.length≤1048576)(hgb:∀q∈x.VC,fJ q)(hgs:∀s∈x.UZ,iM s)(hp:bP bX 1 w pa p.VA)(hx:dI w ba bo x) :
  Calls Tryz.prog 104 #[jQ pa pc p,iQ ba bo ca cb x] w (kK w pa pc p ba bo ca cb x):=by
 have HZ0:Hid (Below w.heap.size w ((aW (aW w (bM pa pc p) 27) (bF ba ca bo cb x) 31).alloc (.cells pC.toArray 139))):=((bR.alloc lR _).alloc (by simp) _).alloc (by simp;omega) _;have HP:Hid (aA ((aW (aW w (bM pa pc p) 27) (bF ba ca bo cb x) 31).alloc (.cells pC.toArray 139)) w.heap.size (bM pa pc p)):=((aA.new w (bM pa pc p) 27).alloc _).alloc _;have HB:Hid (aA ((aW (aW w (bM pa pc p) 27) (bF ba ca bo cb x) 31).alloc (.cells pC.toArray 139)) (w.heap.size+1) (bF ba ca bo cb x)):=by
  have h:=(aA.new (w.alloc (.cells (bM pa pc p).toArray 27)) (bF ba ca bo cb x) 31).alloc (.cells pC.toArray 139);rw[TQ]at h;exact h
 have HR:Hid (aA ((aW (aW w (bM pa pc p) 27) (bF ba ca bo cb x) 31).alloc (.cells pC.toArray 139)) (w.heap.size+1+1) pC):=by
  have h:=aA.new ((aW w (bM pa pc p) 27).alloc (.cells (bF ba ca bo cb x).toArray 31)) pC 139;rw[TQ,TQ]at h;exact h
 have HSP:Hid (bP bX 1 w pa p.VA):=hp;have HSX:Hid (dI w ba bo x):=hx;have HGB:Hid (∀q∈x.VC,fJ q):=hgb;have HGS:Hid (∀s∈x.UZ,iM s):=hgs;have HPR:Hid (∀W,Below w.heap.size w W→Cb 132 #[.agg (bM pa pc p).toArray] W (.bool (cT p))):=fun W hW=>AA p pa pc W hpl hpc hps (hp.below hW)
 have HV:Hid (cS p x=(cT p&&decide ((x.UZ.length:Int)≤p.most)&&decide (x.VC.length≤x.UZ.length)&&jT (lU p x) x.VC x.VC.length&&jT (nF x) x.UZ x.UZ.length)):=rfl;obtain⟨ok,hok⟩: ∃y,y=cS p x:=⟨_,rfl⟩;have HOK:Hid (ok=cS p x):=hok;rw[←hok]at HV;clear hok;generalize cT p=po at *;have hun:undef=Value.tuple #[]:=rfl;have hRw:w.heap.size≤w.heap.size+1+1:=by omega
 clear hp hx hgb hgs hps;unfold jQ iQ;go_enter Tryz.func104,Tryz.ntmps104
 go_upto_region 1 with fail
 generalize World.alloc _ _=W0 at *;obtain⟨k0,k1,k2,k3,k4,k5,k6,k7,k8,k9⟩:=HP.out.c10;go_wp2_with fail
 refine(HPR.out _ HZ0.out).mono ?_;rintro e w1 ⟨rfl,q1⟩;have B1:Hid _:=HZ0.out.trans (q1.mono HZ0.out.size);have P1:Hid _:=HP.out.kept (by simp) q1;have BX1:Hid _:=HB.out.kept (by simp) q1;have R1:Hid _:=HR.out.kept (by simp) q1;clear q1 HP HB HR HZ0 HPR k0 k1 k2 k3 k4 k5 k6 k7 k8 k9;obtain⟨c0,c1⟩:=BX1.out.c2;obtain⟨k0,k1,k2,k3,k4,k5,k6,k7,k8,k9⟩:=P1.out.c10
 cases po with
 | false=>
  obtain⟨z0,z1,z2,z3,z4,z5,z6,z7,z8,z9,z10,z11,z12,z13⟩:=R1.out.c14;obtain⟨zf0,zf1,zf2,zf3,zf4,zf5,zf6,zf7,zf8,zf9,zf10,zf11,zf12,zf13⟩:=R1.out.f14;have HX:Hid (cS p x=false):=by unfold Hid;rw[←HOK.out,HV.out];rfl
  go_wp2_with fail
  refine UQ (v:=.tuple #[.agg pC.toArray,.bool false]) (by simp[results,Tryz.results104,go_sem,z0,z1,z2,z3,z4,z5,z6,z7,z8,z9,z10,z11,z12,z13]) rfl (show kK w pa pc p ba bo ca cb x _ _ from And.intro ?_ (.inl ⟨HX.out,rfl⟩));exact(sCl (sCl (sCl (sCl (sCl (sCl (sCl (sCl (sCl (sCl (sCl (sCl (sCl (sCl B1.out hRw) hRw) hRw) hRw) hRw) hRw) hRw) hRw) hRw) hRw) hRw) hRw) hRw) hRw)
 | true=>
 by_cases h1:(x.UZ.length:Int)≤p.most
 case neg=>
  have h1':p.most < (x.UZ.length:Int):=by omega
  have d1:decide (p.most < (x.UZ.length:Int))=true:=TT h1';obtain⟨z0,z1,z2,z3,z4,z5,z6,z7,z8,z9,z10,z11,z12,z13⟩:=R1.out.c14;obtain⟨zf0,zf1,zf2,zf3,zf4,zf5,zf6,zf7,zf8,zf9,zf10,zf11,zf12,zf13⟩:=R1.out.f14;have HX:Hid (cS p x=false):=by unfold Hid;rw[←HOK.out,HV.out];rw[TR h1];rfl
  go_wp2_with fail
  refine UQ (v:=.tuple #[.agg pC.toArray,.bool false]) (by simp[results,Tryz.results104,go_sem,z0,z1,z2,z3,z4,z5,z6,z7,z8,z9,z10,z11,z12,z13]) rfl (show kK w pa pc p ba bo ca cb x _ _ from And.intro ?_ (.inl ⟨HX.out,rfl⟩));exact(sCl (sCl (sCl (sCl (sCl (sCl (sCl (sCl (sCl (sCl (sCl (sCl (sCl (sCl B1.out hRw) hRw) hRw) hRw) hRw) hRw) hRw) hRw) hRw) hRw) hRw) hRw) hRw) hRw)
 have h1':¬p.most < (x.UZ.length:Int):=by omega
 have d1:decide (p.most < (x.UZ.length:Int))=false:=TR h1';by_cases h2:x.VC.length≤x.UZ.length
 case neg=>
  have h2':(x.UZ.length:Int) < (x.VC.length:Int):=by omega
  have d2:decide ((x.UZ.length:Int) < (x.VC.length:Int))=true:=TT h2';obtain⟨z0,z1,z2,z3,z4,z5,z6,z7,z8,z9,z10,z11,z12,z13⟩:=R1.out.c14;obtain⟨zf0,zf1,zf2,zf3,zf4,zf5,zf6,zf7,zf8,zf9,zf10,zf11,zf12,zf13⟩:=R1.out.f14;have HX:Hid (cS p x=false):=by unfold Hid;rw[←HOK.out,HV.out];rw[TR h2];simp
  go_wp2_with fail
  refine UQ (v:=.tuple #[.agg pC.toArray,.bool false]) (by simp[results,Tryz.results104,go_sem,z0,z1,z2,z3,z4,z5,z6,z7,z8,z9,z10,z11,z12,z13]) rfl (show kK w pa pc p ba bo ca cb x _ _ from And.intro ?_ (.inl ⟨HX.out,rfl⟩));exact(sCl (sCl (sCl (sCl (sCl (sCl (sCl (sCl (sCl (sCl (sCl (sCl (sCl (sCl B1.out hRw) hRw) hRw) hRw) hRw) hRw) hRw) hRw) hRw) hRw) hRw) hRw) hRw) hRw)
 have h2':¬(x.UZ.length:Int) < (x.VC.length:Int):=by omega
 have d2:decide ((x.UZ.length:Int) < (x.VC.length:Int))=false:=TR h2';have d3:decide (x.UZ.length < x.VC.length)=false:=TR (by omega);have HV2:Hid (ok=(jT (lU p x) x.VC x.VC.length&&jT (nF x) x.UZ x.UZ.length)):=by unfold Hid;rw[HV.out,TT h1,TT h2];rfl
 clear HV;have HV:Hid _:=HV2;clear HV2;have hmm1:=run_makeMap (P:=Tryz.prog) 137 w1;have hmm2:=run_makeMap (P:=Tryz.prog) 137 (w1.alloc (.map #[] 0));rw[TQ]at hmm2;go_upto_region 4 with fail
 have hlt1:w.heap.size+1+1 < w1.heap.size:=R1.out.lt (by simp);have HST:Hid (pA w pa pc p ba bo ca cb x w1.heap.size (w1.heap.size+1) (w1.heap.size+1+1) [] [] (((w1.alloc (.map #[] 0)).alloc (.map #[] 0)).alloc (.cells (iF pa pc p ba ca bo cb x w1.heap.size (w1.heap.size+1)).toArray 139))):=by
  have bm:Below w1.heap.size w1 ((w1.alloc (.map #[] 0)).alloc (.map #[] 0)):=(bR.alloc lR _).alloc (by simp) _;have b3:Below w1.heap.size w1 (((w1.alloc (.map #[] 0)).alloc (.map #[] 0)).alloc (.cells (iF pa pc p ba ca bo cb x w1.heap.size (w1.heap.size+1)).toArray 139)):=bm.alloc bm.size _;have hk:=aA.new ((w1.alloc (.map #[] 0)).alloc (.map #[] 0)) (iF pa pc p ba ca bo cb x w1.heap.size (w1.heap.size+1)) 139;rw[TQ,TQ]at hk;exact⟨BX1.out.kept (by simp) b3,R1.out.kept (by simp) b3,hk,dF.made.kept (bR.alloc lR _),B1.out.trans (b3.mono B1.out.size),hlt1,by omega,by omega,by omega⟩
 clear c0 c1 d1 d2 d3 h1' h2' P1 R1 BX1 hmm1 hmm2 k0 k1 k2 k3 k4 k5 k6 k7 k8 k9;generalize ((w1.alloc (.map #[] 0)).alloc (.map #[] 0)).alloc (.cells (iF pa pc p ba ca bo cb x w1.heap.size (w1.heap.size+1)).toArray 139)=W3 at *;have hm1:w.heap.size≤w1.heap.size:=by omega
 have hm2:w.heap.size≤w1.heap.size+1:=by omega
 generalize hY:w1.heap.size+1+1=Y at *;generalize hm2e:w1.heap.size+1=m2 at *;generalize w1.heap.size=m1 at *;clear hY hm2e hlt1 B1;have c0:=HST.out.bx.cell (j:=0) rfl;go_wp2_with fail
 clear c0;go_loopw [43] (fun iv wr=>∃i:Nat,i≤x.VC.length∧iv=iV i∧jT (lU p x) x.VC i=true∧pA w pa pc p ba bo ca cb x m1 m2 Y (x.VC.take i) (x.VC.take i) wr) (fun iv _=>x.VC.length-(intOf iv).toNat)
 case atStart=>exact⟨0,UR _,rfl,rfl,HST.out⟩
 case round=>
  obtain⟨i,hi,rfl,hn,hS⟩:=hrel;have HN:Hid (jT (lU p x) x.VC i=true):=hn;have HS:Hid (pA w pa pc p ba bo ca cb x m1 m2 Y (x.VC.take i) (x.VC.take i) wr):=hS;clear hn hS HST;generalize wr=w4 at *;by_cases hlt:i < x.VC.length
  ·
   obtain⟨bb,off,rfl,hb,hat⟩:=HSX.out.bd.at hlt;have hA:=(hat.below hb HS.out.b) i hlt;have HST:Hid _:=lS (f:=lU p x) hlt;have HATF:Hid (lU p x (x.VC.take i) x.VC[i]=false→jT (lU p x) x.VC x.VC.length=false):=rV hlt;have hgd:=HGB.out x.VC[i] (TY hlt);have HTK:Hid (x.VC.take (i+1)=x.VC.take i++[x.VC[i]]):=List.take_succ_eq_append_getElem hlt;obtain⟨q,hq⟩: ∃q,q=x.VC[i]:=⟨_,rfl⟩;rw[←hq]at hA HST HATF HTK hgd;have HGD:Hid (fJ q):=hgd;have hltI:(i:Int) < (x.VC.length:Int):=by omega
   obtain⟨c0,c1,c2,c3,c4⟩:=NS hA;clear hA hat hq hgd;have HFI:Hid (∀W,pA w pa pc p (some ⟨bb,off,none⟩) bo ca cb x m1 m2 Y (x.VC.take i) (x.VC.take i) W→Cb 133 #[.agg (iF pa pc p (some ⟨bb,off,none⟩) ca bo cb x m1 m2).toArray,.agg (dH q).toArray] W (.bool (lU p x (x.VC.take i) q))):=fun W hW=>LZ pa pc p (some ⟨bb,off,none⟩) bo ca cb x m1 m2 (x.VC.take i) q W hpl hbl1 hbl2 HGD.out hW.bk (HSP.out.below hW.b) (HSX.out.below hW.b)
   go_upto_region 7 with fail
   have bn:Below w4.heap.size w4 (w4.alloc (.cells (dH q).toArray 48)):=bR.alloc lR _;have HQ:Hid (aA (w4.alloc (.cells (dH q).toArray 48)) w4.heap.size (dH q)):=aA.new w4 (dH q) 48;have HS5:Hid _:=HS.out.kept bn;generalize (w4.alloc (.cells (dH q).toArray 48))=W5 at *;have hqm:w4.heap.size≠m1∧w4.heap.size≠m2:=by have:=HS.out.bk.lt;omega
   clear bn HS c0 c1 c2 c3 c4;obtain⟨k0,k1,k2,k3,k4,k5,k6,k7,k8,k9,k10,k11,k12,k13⟩:=HS5.out.k.c14;obtain⟨c0,c1,c2,c3,c4⟩:=HQ.out.c5;generalize w4.heap.size=Bq at *;obtain⟨fb,hfb⟩: ∃y,y=lU p x (x.VC.take i) q:=⟨_,rfl⟩;have HFB:Hid (fb=lU p x (x.VC.take i) q):=hfb;rw[←hfb]at HFI HST HATF;clear hfb;go_wp2_with fail
   refine(HFI.out _ HS5.out).mono ?_;rintro e w6 ⟨rfl,q6⟩;have HS6:Hid _:=HS5.out.kept q6;have HQ6:Hid _:=HQ.out.kept (by simp) q6;clear q6 HS5 HQ HFI k0 k1 k2 k3 k4 k5 k6 k7 k8 k9 k10 k11 k12 k13 c0 c1 c2 c3 c4
   cases fb with
   | false=>
    have HXF:=HATF.out rfl;obtain⟨z0,z1,z2,z3,z4,z5,z6,z7,z8,z9,z10,z11,z12,z13⟩:=HS6.out.r.c14;obtain⟨zf0,zf1,zf2,zf3,zf4,zf5,zf6,zf7,zf8,zf9,zf10,zf11,zf12,zf13⟩:=HS6.out.r.f14;have HX:Hid (cS p x=false):=by unfold Hid;rw[←HOK.out,HV.out];rw[HXF];rfl
    go_wp2_with fail
    refine UQ (v:=.tuple #[.agg pC.toArray,.bool false]) (by simp[results,Tryz.results104,go_sem,z0,z1,z2,z3,z4,z5,z6,z7,z8,z9,z10,z11,z12,z13]) rfl (show kK w pa pc p (some ⟨bb,off,none⟩) bo ca cb x _ _ from And.intro ?_ (.inl ⟨HX.out,rfl⟩));exact(sCl (sCl (sCl (sCl (sCl (sCl (sCl (sCl (sCl (sCl (sCl (sCl (sCl (sCl HS6.out.b hRw) hRw) hRw) hRw) hRw) hRw) hRw) hRw) hRw) hRw) hRw) hRw) hRw) hRw)
   | true=>
   have HNN:Hid (jT (lU p x) x.VC (i+1)=true):=by unfold Hid;rw[HST.out,HN.out];rfl
   have HNN:Hid (jT (lU p x) x.VC (i+1)=true):=by unfold Hid;rw[HST.out,HN.out];rfl
   have HNI:Hid ((x.VC.take i).any (fun c=>bU (bN c) (bN q))=false∧(x.VC.take i).any (fun c=>bU (iY c) (iY q))=false):=by
    have h:=HFB.out.symm;unfold lU at h;simp only[TP,Bool.not_eq_true']at h;rw[show (fun c=>bU (bN c) (bN q))=cD q.UU q.inn q.UW from funext fun c=>oI _ _ _ c,show (fun c=>bU (iY c) (iY q))=dE q.UU q.out q.UX from funext fun c=>sK _ _ _ c];exact⟨h.1.1.1.2,h.1.1.2⟩
   clear HFB HST HATF HN;go_upto_region 9 with fail
   go_cut [52] (fun v wx=>pA w pa pc p (some ⟨bb,off,none⟩) bo ca cb x m1 m2 Y (x.VC.take i++[q]) (x.VC.take i) wx∧aA wx Bq (dH q))
   case first=>
    rename_i J K2 hJ hK2;clear hun;have HCP:Hid (∀wy,Below w6.drew.heap.size w6.drew wy→pA w pa pc p (some ⟨bb,off,none⟩) bo ca cb x m1 m2 Y (x.VC.take i) (x.VC.take i) wy∧aA wy Bq (dH q)):=fun wy hy=>⟨HS6.out.kept (bR.drew.trans hy),HQ6.out.drew.kept (by simp) hy⟩
    have HHE:Hid (∀W,Cb 53 #[.agg (dH q).toArray] W (.agg (iE q.UU q.inn q.UW).toArray)):=fun W=>nC q W
    refine aN [52,53,54,55,56] (by kernel_rfl) (by kernel_rfl) ?_;iterate 5 (apply bC.u rfl;(·intro K' a wy ho hd hb hK;simp[aS,aF,aD,Region.binds]at ho hd;obtain⟨hst,hqq⟩:=HCP.out wy hb;have kC:=hst.k.c14;have kC:=hqq.c5;go_simp;first|((try go_bits);exact hK _ _ rfl bQ)|(refine(HHE.out wy).mono ?_;rintro e wz ⟨rfl,hz⟩;exact hK _ _ rfl hz));dsimp only[nA,cA])
    intro X wz hR hz;simp only[UB,UC,eW,aF]at hR;simp only[aE,hR];clear hR;obtain⟨hst,hqq⟩:=HCP.out wz hz;obtain⟨W9,hrun,hbk,hgr⟩:=hst.bk.put1 (q:=q) (vS HGD.out) HNI.out.1;unfold qV jI bN at hrun;intro K10 hK10;with_reducible refine wZ _ (.tmp 53) (.tmp 55) (.tmp 56) rfl ?_ ?_ ?_ hrun (hK10 _ _ ?_)
    ·simp[Act.eval,Act.put]
    ·simp[Act.eval,Act.put]
    ·simp[Act.eval,Act.put]
    show Exit.then _ _ _ _ _;refine hK2 _ _ (hJ _ _ ?_);(repeat apply Exists.intro)
    exact⟨⟨hst.put (.inl rfl) hgr hbk,hqq.grown (by simp) hgr (by simp;omega)⟩,rfl⟩
   case rest=>
   obtain⟨hsn,hqn⟩:=hcut;generalize wc=W9 at *;have HS6n:Hid (pA w pa pc p (some ⟨bb,off,none⟩) bo ca cb x m1 m2 Y (x.VC.take i++[q]) (x.VC.take i) W9):=hsn;have HQ6n:Hid (aA W9 Bq (dH q)):=hqn;clear hsn hqn HS6 HQ6;go_upto_region 10 with fail
   clear hun;have HCP:Hid (∀wy,Below W9.drew.heap.size W9.drew wy→pA w pa pc p (some ⟨bb,off,none⟩) bo ca cb x m1 m2 Y (x.VC.take i++[q]) (x.VC.take i) wy∧aA wy Bq (dH q)):=fun wy hy=>⟨HS6n.out.kept (bR.drew.trans hy),HQ6n.out.drew.kept (by simp) hy⟩
   have HHE:Hid (∀W,Cb 48 #[.agg (dH q).toArray] W (.agg (iE q.UU q.out q.UX).toArray)):=fun W=>uG q W
   refine aN [57,58,59,60,61] (by kernel_rfl) (by kernel_rfl) ?_;iterate 5 (apply bC.u rfl;(·intro K' a wy ho hd hb hK;simp[aS,aF,aD,Region.binds]at ho hd;obtain⟨hst,hqq⟩:=HCP.out wy hb;have kC:=hst.k.c14;have kC:=hqq.c5;go_simp;first|((try go_bits);exact hK _ _ rfl bQ)|(refine(HHE.out wy).mono ?_;rintro e wz ⟨rfl,hz⟩;exact hK _ _ rfl hz));dsimp only[nA,cA])
   intro X wz hR hz;simp only[UB,UC,eW,aF]at hR;simp only[aE,hR];clear hR;obtain⟨hst,hqq⟩:=HCP.out wz hz;obtain⟨W9,hrun,hbk,hgr⟩:=hst.bk.put2 (q:=q) (DG HGD.out) HNI.out.2;unfold qV jI iY at hrun;intro K10 hK10;with_reducible refine wZ _ (.tmp 58) (.tmp 60) (.tmp 61) rfl ?_ ?_ ?_ hrun (hK10 _ _ ?_)
   ·simp[Act.eval,Act.put]
   ·simp[Act.eval,Act.put]
   ·simp[Act.eval,Act.put]
   have HSF:Hid (pA w pa pc p (some ⟨bb,off,none⟩) bo ca cb x m1 m2 Y (x.VC.take (i+1)) (x.VC.take (i+1)) W9):=by have h:=hst.put (.inr rfl) hgr hbk;rw[←HTK.out]at h;exact h
   clear hst hqq hbk hgr hrun HCP HHE HNI;simp only[fO];go_wp2_with fail
   go_roundw
   case rel=>
    first | exact⟨i+1,by omega,by go_num,HNN.out,HSF.out⟩ | ((repeat apply Exists.intro);exact⟨⟨i+1,by omega,by go_num,HNN.out,HSF.out⟩,rfl⟩)
   case measure=>simp[intOf]<;>omega
  ·
   have hie:i=x.VC.length:=by omega
   have HF1:Hid (jT (lU p x) x.VC x.VC.length=true):=by unfold Hid;have:=HN.out;rw[hie]at this;exact this
   have HSE:Hid (pA w pa pc p ba bo ca cb x m1 m2 Y (x.VC) (x.VC) w4):=by unfold Hid;have:=HS.out;rw[hie,List.take_length]at this;exact this
   have HV3:Hid (ok=jT (nF x) x.UZ x.UZ.length):=by unfold Hid;rw[HV.out,HF1.out];rfl
   clear HV HS HN;have HV:Hid _:=HV3;clear HV3 HF1;have hge:¬(i:Int) < (x.VC.length:Int):=by omega
   clear hie hlt;have c1:=HSE.out.bx.cell (j:=1) rfl;go_wp2_with fail
   clear c1;go_loopw [66] (fun iv wr=>∃i:Nat,i≤x.UZ.length∧iv=iV i∧jT (nF x) x.UZ i=true∧pA w pa pc p ba bo ca cb x m1 m2 Y (x.VC) (x.VC) wr) (fun iv _=>x.UZ.length-(intOf iv).toNat)
   case atStart=>exact⟨0,UR _,rfl,rfl,HSE.out⟩
   case round=>
    obtain⟨k,hk,rfl,hn,hS⟩:=hrel;have HN:Hid (jT (nF x) x.UZ k=true):=hn;have HS:Hid (pA w pa pc p ba bo ca cb x m1 m2 Y (x.VC) (x.VC) wr):=hS;clear hn hS HSE hge hi;generalize wr=v4 at *;by_cases hlt:k < x.UZ.length
    ·
     obtain⟨bb,off,rfl,hb,hat⟩:=HSX.out.ss.at hlt;have hA:=(hat.below hb HS.out.b) k hlt;have HST:Hid _:=lS (f:=nF x) hlt;have HATF:Hid (nF x (x.UZ.take k) x.UZ[k]=false→jT (nF x) x.UZ x.UZ.length=false):=rV hlt;have hgd:=HGS.out x.UZ[k] (TY hlt);have HFS:Hid (decide (bG (fun q=>dG (dZ q) (dZ x.UZ[k])) x.UZ=(k:Int))=!(x.UZ.take k).any (fun t=>gS x.UZ[k] t)):=by
      have h:=FT (fun q=>dG (dZ q) (dZ x.UZ[k])) x.UZ k hlt (by rw[yS];unfold gS;simp);rw[show (fun t=>gS x.UZ[k] t)=(fun q=>dG (dZ q) (dZ x.UZ[k])) from funext fun q=>(yS _ _).symm];exact h
     obtain⟨s,hs⟩: ∃s,s=x.UZ[k]:=⟨_,rfl⟩;rw[←hs]at hA HST HATF HFS hgd;have HGD:Hid (iM s):=hgd;have hltI:(k:Int) < (x.UZ.length:Int):=by omega
     have HOV:Hid (nF x (x.UZ.take k) s=(x.VC.any (cD s.UU s.inn s.UW)&&sQ s&&!((x.UZ.take k).any fun t=>gS s t))):=rfl;obtain⟨c0,c1,c2,c3,c4,c5,c6⟩:=MX hA;clear hA hat hs hgd;go_upto_region 15 with fail
     have bn:Below v4.heap.size v4 (v4.alloc (.cells (iB s).toArray 59)):=bR.alloc lR _;have HQ:Hid (aA (v4.alloc (.cells (iB s).toArray 59)) v4.heap.size (iB s)):=aA.new v4 (iB s) 59;have HS5:Hid _:=HS.out.kept bn;generalize (v4.alloc (.cells (iB s).toArray 59))=V5 at *;clear bn HS c0 c1 c2 c3 c4 c5 c6;generalize v4.heap.size=Bq at *;obtain⟨c0,c1,c2,c3,c4,c5,c6⟩:=HQ.out.c7;have HKE:Hid (∀W,Cb 134 #[.agg (iB s).toArray] W (.agg (iW s.UU s.inn s.UW s.peer s.UV).toArray)):=fun W=>nG s W
     go_wp2_with fail
     refine(HKE.out _).mono ?_;rintro e v6 ⟨rfl,q6⟩;have HS6:Hid _:=HS5.out.kept q6;have HQ6:Hid _:=HQ.out.kept (by simp) q6;clear q6 HS5 HQ HKE c0 c1 c2 c3 c4 c5 c6;go_upto_region 16 with fail
     have bn:Below v6.heap.size v6 (v6.alloc (.cells (iW s.UU s.inn s.UW s.peer s.UV).toArray 147)):=bR.alloc lR _;have HE:Hid (aA (v6.alloc (.cells (iW s.UU s.inn s.UW s.peer s.UV).toArray 147)) v6.heap.size (iW s.UU s.inn s.UW s.peer s.UV)):=aA.new v6 (iW s.UU s.inn s.UW s.peer s.UV) 147;have HS7:Hid _:=HS6.out.kept bn;have HQ7:Hid _:=HQ6.out.kept (by simp) bn;generalize (v6.alloc (.cells (iW s.UU s.inn s.UW s.peer s.UV).toArray 147))=V7 at *;clear bn HS6 HQ6;generalize v6.heap.size=Be at *;obtain⟨c,hc⟩: ∃c,c=(x.VC.find? fun q=>bU (bN q) (gT s)).getD lT:=⟨_,rfl⟩;have LK:(Instr.lookup 137 (.map (some m1)) (.agg (iE s.UU s.inn s.UW).toArray) true).run Tryz.prog V7=.ok (.tuple #[.agg (dH c).toArray,.bool (x.VC.any (cD s.UU s.inn s.UW))]) V7:=by
      have h:=HS7.out.bk.look1 (e:=gT s) (MZ HGD.out);rw[iU,←hc,show (fun q=>bU (bN q) (gT s))=cD s.UU s.inn s.UW from funext fun c=>oI _ _ _ c]at h;exact h
     clear hc;obtain⟨k0,k1,k2,k3,k4,k5,k6,k7,k8,k9,k10,k11,k12,k13⟩:=HS7.out.k.c14;obtain⟨c0,c1,c2,c3,c4⟩:=HE.out.c5;generalize x.VC.any (cD s.UU s.inn s.UW)=t1 at *;go_upto_region 17 with (at_lookup;refine iS rfl _ _ _ _ rfl rfl rfl LK ?_)
     have bn:Below V7.heap.size V7 (V7.alloc (.cells (dH c).toArray 48)):=bR.alloc lR _;have HS8:Hid _:=HS7.out.kept bn;have HQ8:Hid _:=HQ7.out.kept (by simp) bn;have HE8:Hid _:=HE.out.kept (by simp) bn;generalize V7.alloc (.cells (dH c).toArray 48)=V8 at *;clear bn HS7 HQ7 HE LK k0 k1 k2 k3 k4 k5 k6 k7 k8 k9 k10 k11 k12 k13 c0 c1 c2 c3 c4;have HSR:Hid (∀W,Cb 135 #[.agg (iB s).toArray] W (.bool (sQ s))):=fun W=>xT s W HGD.out.2.1
     have HAT:Hid (∀W,Below w.heap.size w W→Cb 107 #[.slice (some ⟨bb,off,none⟩) x.UZ.length cb,.agg (iW s.UU s.inn s.UW s.peer s.UV).toArray] W (iV (bG (fun q=>dG (dZ q) (dZ s)) x.UZ))):=fun W hW=>wI (dZ s) x.UZ _ cb W hbl2 (HSX.out.ss.below hW)
     obtain⟨hf1,hf2⟩:=sD (fun q=>dG (dZ q) (dZ s)) x.UZ;generalize bG (fun q=>dG (dZ q) (dZ s)) x.UZ=fi at *;generalize sQ s=t2 at *;generalize (x.UZ.take k).any (fun t=>gS s t)=t3 at *
     cases t1 with
     | false=>
      have HXF:=HATF.out (by rw[HOV.out];rfl);obtain⟨z0,z1,z2,z3,z4,z5,z6,z7,z8,z9,z10,z11,z12,z13⟩:=HS8.out.r.c14;obtain⟨zf0,zf1,zf2,zf3,zf4,zf5,zf6,zf7,zf8,zf9,zf10,zf11,zf12,zf13⟩:=HS8.out.r.f14;have HX:Hid (cS p x=false):=by unfold Hid;rw[←HOK.out,HV.out];exact HXF
      go_wp2_with fail
      refine UQ (v:=.tuple #[.agg pC.toArray,.bool false]) (by simp[results,Tryz.results104,go_sem,z0,z1,z2,z3,z4,z5,z6,z7,z8,z9,z10,z11,z12,z13]) rfl (show kK w pa pc p ba (some ⟨bb,off,none⟩) ca cb x _ _ from And.intro ?_ (.inl ⟨HX.out,rfl⟩));exact(sCl (sCl (sCl (sCl (sCl (sCl (sCl (sCl (sCl (sCl (sCl (sCl (sCl (sCl HS8.out.b hRw) hRw) hRw) hRw) hRw) hRw) hRw) hRw) hRw) hRw) hRw) hRw) hRw) hRw)
     | true=>
     obtain⟨c0,c1,c2,c3,c4,c5,c6⟩:=HQ8.out.c7;go_wp2_with fail
     refine(HSR.out _).mono ?_;rintro e v9 ⟨rfl,q9⟩;have HS9:Hid _:=HS8.out.kept q9;have HE9:Hid _:=HE8.out.kept (by simp) q9;clear q9 HS8 HQ8 HE8 HSR c0 c1 c2 c3 c4 c5 c6
     cases t2 with
     | false=>
      have HXF:=HATF.out (by rw[HOV.out];rfl);obtain⟨z0,z1,z2,z3,z4,z5,z6,z7,z8,z9,z10,z11,z12,z13⟩:=HS9.out.r.c14;obtain⟨zf0,zf1,zf2,zf3,zf4,zf5,zf6,zf7,zf8,zf9,zf10,zf11,zf12,zf13⟩:=HS9.out.r.f14;have HX:Hid (cS p x=false):=by unfold Hid;rw[←HOK.out,HV.out];exact HXF
      go_wp2_with fail
      refine UQ (v:=.tuple #[.agg pC.toArray,.bool false]) (by simp[results,Tryz.results104,go_sem,z0,z1,z2,z3,z4,z5,z6,z7,z8,z9,z10,z11,z12,z13]) rfl (show kK w pa pc p ba (some ⟨bb,off,none⟩) ca cb x _ _ from And.intro ?_ (.inl ⟨HX.out,rfl⟩));exact(sCl (sCl (sCl (sCl (sCl (sCl (sCl (sCl (sCl (sCl (sCl (sCl (sCl (sCl HS9.out.b hRw) hRw) hRw) hRw) hRw) hRw) hRw) hRw) hRw) hRw) hRw) hRw) hRw) hRw)
     | true=>
     obtain⟨c0,c1,c2,c3,c4⟩:=HE9.out.c5;have x1:=HS9.out.bx.cell (j:=1) rfl;go_wp2_with fail
     refine(HAT.out _ HS9.out.b).mono ?_;rintro e v10 ⟨rfl,q10⟩;have HS10:Hid _:=HS9.out.kept q10;clear q10 HS9 HE9 HAT x1 c0 c1 c2 c3 c4;by_cases he:fi=(k:Int)
     case neg=>
      have d1:(fi != (k:Int))=true:=by simp[he]
      have HXF:=HATF.out (by rw[HOV.out,←HFS.out,TR he];rfl);clear he;obtain⟨z0,z1,z2,z3,z4,z5,z6,z7,z8,z9,z10,z11,z12,z13⟩:=HS10.out.r.c14;obtain⟨zf0,zf1,zf2,zf3,zf4,zf5,zf6,zf7,zf8,zf9,zf10,zf11,zf12,zf13⟩:=HS10.out.r.f14;have HX:Hid (cS p x=false):=by unfold Hid;rw[←HOK.out,HV.out];exact HXF
      go_wp2_with fail
      refine UQ (v:=.tuple #[.agg pC.toArray,.bool false]) (by simp[results,Tryz.results104,go_sem,z0,z1,z2,z3,z4,z5,z6,z7,z8,z9,z10,z11,z12,z13]) rfl (show kK w pa pc p ba (some ⟨bb,off,none⟩) ca cb x _ _ from And.intro ?_ (.inl ⟨HX.out,rfl⟩));exact(sCl (sCl (sCl (sCl (sCl (sCl (sCl (sCl (sCl (sCl (sCl (sCl (sCl (sCl HS10.out.b hRw) hRw) hRw) hRw) hRw) hRw) hRw) hRw) hRw) hRw) hRw) hRw) hRw) hRw)
     have d1:(fi != (k:Int))=false:=by simp[he]
     have HNN:Hid (jT (nF x) x.UZ (k+1)=true):=by unfold Hid;rw[HST.out,HN.out,HOV.out,←HFS.out,TT he];rfl
     clear he;go_wp2_with fail
     go_roundw
     case rel=>exact⟨k+1,by omega,by go_num,HNN.out,HS10.out⟩
     case measure=>simp[intOf];omega
    ·
     have hie:k=x.UZ.length:=by omega
     have HX:Hid (cS p x=true):=by unfold Hid;rw[←HOK.out,HV.out];have:=HN.out;rw[hie]at this;exact this
     have hge:¬(k:Int) < (x.UZ.length:Int):=by omega
     clear hie hlt HN;obtain⟨z0,z1,z2,z3,z4,z5,z6,z7,z8,z9,z10,z11,z12,z13⟩:=HS.out.r.c14;obtain⟨zf0,zf1,zf2,zf3,zf4,zf5,zf6,zf7,zf8,zf9,zf10,zf11,zf12,zf13⟩:=HS.out.r.f14;obtain⟨k0,k1,k2,k3,k4,k5,k6,k7,k8,k9,k10,k11,k12,k13⟩:=HS.out.k.c14;go_wp2_with fail
     have HBE:Hid (dF ((sW (sW (sW (sW (sW (sW (sW (sW (sW (sW (sW (sW (sW v4 (w.heap.size+1+1) 0 (.slice pa p.VA.length pc)) (w.heap.size+1+1) 1 (iV p.low)) (w.heap.size+1+1) 2 (iV p.high)) (w.heap.size+1+1) 3 (iV p.most)) (w.heap.size+1+1) 4 (iV p.filter)) (w.heap.size+1+1) 5 (iV p.lv.udp)) (w.heap.size+1+1) 6 (iV p.lv.echo)) (w.heap.size+1+1) 7 (iV p.lv.opening)) (w.heap.size+1+1) 8 (iV p.lv.opn)) (w.heap.size+1+1) 9 (iV p.lv.closing)) (w.heap.size+1+1) 10 (.slice ba x.VC.length ca)) (w.heap.size+1+1) 11 (.slice bo x.UZ.length cb)) (w.heap.size+1+1) 12 (.map (some m1))).setCell ⟨w.heap.size+1+1,13,none⟩ (.map (some m2))) m1 m2 x.VC x.VC):=by
      have a1:=HS.out.l1;have a2:=HS.out.l2;obtain⟨M1,M2,hM⟩:=HS.out.bk;have hg:v4.grownBy ((sW (sW (sW (sW (sW (sW (sW (sW (sW (sW (sW (sW (sW v4 (w.heap.size+1+1) 0 (.slice pa p.VA.length pc)) (w.heap.size+1+1) 1 (iV p.low)) (w.heap.size+1+1) 2 (iV p.high)) (w.heap.size+1+1) 3 (iV p.most)) (w.heap.size+1+1) 4 (iV p.filter)) (w.heap.size+1+1) 5 (iV p.lv.udp)) (w.heap.size+1+1) 6 (iV p.lv.echo)) (w.heap.size+1+1) 7 (iV p.lv.opening)) (w.heap.size+1+1) 8 (iV p.lv.opn)) (w.heap.size+1+1) 9 (iV p.lv.closing)) (w.heap.size+1+1) 10 (.slice ba x.VC.length ca)) (w.heap.size+1+1) 11 (.slice bo x.UZ.length cb)) (w.heap.size+1+1) 12 (.map (some m1))).setCell ⟨w.heap.size+1+1,13,none⟩ (.map (some m2))) (some (w.heap.size+1+1)):=aC (aC (aC (aC (aC (aC (aC (aC (aC (aC (aC (aC (aC (aC (World.grownBy.refl _ _) _) _) _) _) _) _) _) _) _) _) _) _) _) _;exact⟨M1,M2,hM.h1.grown hg (by simp;omega),hM.h2.grown hg (by simp;omega),hM.v1,hM.v2,hM.ne⟩
     refine UQ (v:=.tuple #[.agg (iF pa pc p ba ca bo cb x m1 m2).toArray,.bool true]) (by simp[results,Tryz.results104,go_sem,z0,z1,z2,z3,z4,z5,z6,z7,z8,z9,z10,z11,z12,z13]) rfl (show kK w pa pc p ba bo ca cb x _ _ from And.intro ?_ (.inr ⟨HX.out,m1,m2,rfl,hm1,hm2,HBE.out⟩));exact(sCl (sCl (sCl (sCl (sCl (sCl (sCl (sCl (sCl (sCl (sCl (sCl (sCl (sCl HS.out.b hRw) hRw) hRw) hRw) hRw) hRw) hRw) hRw) hRw) hRw) hRw) hRw) hRw) hRw)
end Go.Proofs.YtdkepkaflielhaaGreatDoor
