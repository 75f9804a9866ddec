import Derived.Test.YtdkepkaflielhaaGreatDoorMerged11
set_option linter.unusedVariables false
set_option linter.unusedSimpArgs false
set_option maxRecDepth 100000
set_option maxHeartbeats 8000000
namespace Go.Proofs.YtdkepkaflielhaaGreatDoor
open Go.RowKit Go.PlainAid
def bkZ:Value:=.agg Z14V.toArray
def OpenRet (w:World) (pa:Option Addr) (pc:Nat) (p:Pl) (ba bo:Option Addr) (ca cb:Nat) (x:Bb) (e:Ending) (w':World):Prop:=Below w.heap.size w w'∧((bookOk p x=false∧e=.returned (.tuple #[bkZ,.bool false]))∨(bookOk p x=true∧∃ m1 m2,e=.returned (.tuple #[bkC pa pc p ba bo ca cb x m1 m2,.bool true])∧w.heap.size≤m1∧w.heap.size≤m2∧BookAt w' m1 m2 x.binds x.binds))
structure OpSt (w:World) (pa:Option Addr) (pc:Nat) (p:Pl) (ba bo:Option Addr) (ca cb:Nat) (x:Bb) (m1 m2 Y:Nat) (xs ys:List Bd) (wr:World):Prop where
 bx:HoldsL wr (w.heap.size+1) (BbV ba ca bo cb x)
 r:HoldsL wr (w.heap.size+1+1) Z14V
 k:HoldsL wr Y (KkV pa pc p ba ca bo cb x m1 m2)
 bk:BookAt wr m1 m2 xs ys
 b:Below w.heap.size w wr
 l1:w.heap.size+1+1 < m1
 l2:w.heap.size+1+1 < m2
 n1:Y≠m1
 n2:Y≠m2
section
variable {w:World} {pa:Option Addr} {pc:Nat} {p:Pl} {ba bo:Option Addr} {ca cb:Nat} {x:Bb} {m1 m2 Y:Nat} {xs ys:List Bd} {wr W:World}
theorem OpSt.kept (h:OpSt w pa pc p ba bo ca cb x m1 m2 Y xs ys wr) (hb:Below wr.heap.size wr W):OpSt w pa pc p ba bo ca cb x m1 m2 Y xs ys W :=
 ⟨h.bx.kept (by simp) hb,h.r.kept (by simp) hb,h.k.kept (by simp) hb,h.bk.kept hb,h.b.trans (hb.mono h.b.size),h.l1,h.l2,h.n1,h.n2⟩
theorem OpSt.put {xs' ys':List Bd} {m:Nat} (h:OpSt w pa pc p ba bo ca cb x m1 m2 Y xs ys wr) (hm:m=m1∨m=m2) (hg:wr.grownBy W (some m)) (hk:BookAt W m1 m2 xs' ys'):OpSt w pa pc p ba bo ca cb x m1 m2 Y xs' ys' W:=by
 have a1:=h.l1; have a2:=h.l2; have a3:=h.n1; have a4:=h.n2;exact ⟨h.bx.grown (by simp) hg (by simp; omega),h.r.grown (by simp) hg (by simp; omega),h.k.grown (by simp) hg (by simp; omega),hk,below_grown h.b hg (by omega) h.b.size,h.l1,h.l2,h.n1,h.n2⟩
end
theorem findI_self {α:Type} (f:α→Bool) (xs:List α) (i:Nat) (h:i < xs.length) (hf:f xs[i]=true):decide (findI f xs=(i:Int))=!(xs.take i).any f:=by
 cases ha:(xs.take i).any f with
 | false=>rw [findI_at f xs i h ha hf]; simp
 | true =>
  obtain ⟨c,hc,hfc⟩:=List.any_eq_true.1 ha;obtain ⟨k,hk,hki,rfl⟩:=mem_take hc;have:findI f xs≠(i:Int):=by
   intro e;unfold findI at e
   cases hx:xs.findIdx? f with
   | none =>
    have:=List.findIdx?_eq_none_iff.1 hx xs[k] (List.getElem_mem hk);rw [hfc] at this; simp at this
   | some n =>
    rw [hx] at e;obtain ⟨hn,hfn,hlt⟩:=List.findIdx?_eq_some_iff_getElem.1 hx;simp only at e;have hni:n=i:=by omega
    subst hni;exact absurd hfc (by simpa using hlt k hki)
  rw [decide_eq_false this]; rfl
theorem open_any (pa:Option Addr) (pc:Nat) (p:Pl) (ba bo:Option Addr) (ca cb:Nat) (x:Bb) (w:World) (hpl:p.addrs.length≤1048576) (hpc:p.addrs.length≤pc) (hps:∀ s∈p.addrs,s.size≤1048576) (hbl1:x.binds.length≤1048576) (hbl2:x.sess.length≤1048576) (hgb:∀ q∈x.binds,BdGood q) (hgs:∀ s∈x.sess,SsGood s) (hp:SlIs strL1 1 w pa p.addrs) (hx:BbIs w ba bo x) :
  Calls Tryz.prog 104 #[plC pa pc p,bbC ba bo ca cb x] w (OpenRet w pa pc p ba bo ca cb x):=by
 have HZ0:Hid (Below w.heap.size w ((aW (aW w (PlV pa pc p) 27) (BbV ba ca bo cb x) 31).alloc (.cells Z14V.toArray 139))):=((bR.alloc lR _).alloc (by simp) _).alloc (by simp; omega) _;have HP:Hid (HoldsL ((aW (aW w (PlV pa pc p) 27) (BbV ba ca bo cb x) 31).alloc (.cells Z14V.toArray 139)) w.heap.size (PlV pa pc p)):=((HoldsL.new w (PlV pa pc p) 27).alloc _).alloc _;have HB:Hid (HoldsL ((aW (aW w (PlV pa pc p) 27) (BbV ba ca bo cb x) 31).alloc (.cells Z14V.toArray 139)) (w.heap.size+1) (BbV ba ca bo cb x)):=by
  have h:=(HoldsL.new (w.alloc (.cells (PlV pa pc p).toArray 27)) (BbV ba ca bo cb x) 31).alloc (.cells Z14V.toArray 139);rw [World.size_alloc] at h; exact h
 have HR:Hid (HoldsL ((aW (aW w (PlV pa pc p) 27) (BbV ba ca bo cb x) 31).alloc (.cells Z14V.toArray 139)) (w.heap.size+1+1) Z14V):=by
  have h:=HoldsL.new ((aW w (PlV pa pc p) 27).alloc (.cells (BbV ba ca bo cb x).toArray 31)) Z14V 139;rw [World.size_alloc,World.size_alloc] at h; exact h
 have HSP:Hid (SlIs strL1 1 w pa p.addrs):=hp;have HSX:Hid (BbIs w ba bo x):=hx;have HGB:Hid (∀ q∈x.binds,BdGood q):=hgb;have HGS:Hid (∀ s∈x.sess,SsGood s):=hgs;have HPR:Hid (∀ W,Below w.heap.size w W→Cb 132 #[.agg (PlV pa pc p).toArray] W (.bool (poolOk p))):=fun W hW=>implPool_any p pa pc W hpl hpc hps (hp.below hW)
 have HV:Hid (bookOk p x=(poolOk p&&decide ((x.sess.length:Int)≤p.most)&&decide (x.binds.length≤x.sess.length)&&upN (fitB p x) x.binds x.binds.length&&upN (sessB x) x.sess x.sess.length)):=rfl;obtain ⟨ok,hok⟩ : ∃ y,y=bookOk p x:=⟨_,rfl⟩;have HOK:Hid (ok=bookOk p x):=hok;rw [← hok] at HV;clear hok;generalize poolOk p=po at *;have hun:undef=Value.tuple #[]:=rfl;have hRw:w.heap.size≤w.heap.size+1+1:=by omega
 clear hp hx hgb hgs hps;unfold plC bbC;go_enter Tryz.func104,Tryz.ntmps104
 go_upto_region 1 with fail
 generalize World.alloc _ _=W0 at *;obtain ⟨k0,k1,k2,k3,k4,k5,k6,k7,k8,k9⟩:=HP.out.c10;go_wp2_with fail
 refine (HPR.out _ HZ0.out).mono ?_;rintro e w1 ⟨rfl,q1⟩;have B1:Hid _:=HZ0.out.trans (q1.mono HZ0.out.size);have P1:Hid _:=HP.out.kept (by simp) q1;have BX1:Hid _:=HB.out.kept (by simp) q1;have R1:Hid _:=HR.out.kept (by simp) q1;clear q1 HP HB HR HZ0 HPR k0 k1 k2 k3 k4 k5 k6 k7 k8 k9;obtain ⟨c0,c1⟩:=BX1.out.c2;obtain ⟨k0,k1,k2,k3,k4,k5,k6,k7,k8,k9⟩:=P1.out.c10
 cases po with
 | false =>
  obtain ⟨z0,z1,z2,z3,z4,z5,z6,z7,z8,z9,z10,z11,z12,z13⟩:=R1.out.c14;obtain ⟨zf0,zf1,zf2,zf3,zf4,zf5,zf6,zf7,zf8,zf9,zf10,zf11,zf12,zf13⟩:=R1.out.f14;have HX:Hid (bookOk p x=false):=by unfold Hid; rw [← HOK.out,HV.out]; rfl
  go_wp2_with fail
  refine bodyPost_ret (v:=.tuple #[.agg Z14V.toArray,.bool false]) (by simp [results,Tryz.results104,go_sem,z0,z1,z2,z3,z4,z5,z6,z7,z8,z9,z10,z11,z12,z13]) rfl (show OpenRet w pa pc p ba bo ca cb x _ _ from And.intro ?_ (.inl ⟨HX.out,rfl⟩));exact ((((((((((((((B1.out.setCell (p:=⟨w.heap.size+1+1,0,none⟩) hRw _).setCell (p:=⟨w.heap.size+1+1,1,none⟩) hRw _).setCell (p:=⟨w.heap.size+1+1,2,none⟩) hRw _).setCell (p:=⟨w.heap.size+1+1,3,none⟩) hRw _).setCell (p:=⟨w.heap.size+1+1,4,none⟩) hRw _).setCell (p:=⟨w.heap.size+1+1,5,none⟩) hRw _).setCell (p:=⟨w.heap.size+1+1,6,none⟩) hRw _).setCell (p:=⟨w.heap.size+1+1,7,none⟩) hRw _).setCell (p:=⟨w.heap.size+1+1,8,none⟩) hRw _).setCell (p:=⟨w.heap.size+1+1,9,none⟩) hRw _).setCell (p:=⟨w.heap.size+1+1,10,none⟩) hRw _).setCell (p:=⟨w.heap.size+1+1,11,none⟩) hRw _).setCell (p:=⟨w.heap.size+1+1,12,none⟩) hRw _).setCell (p:=⟨w.heap.size+1+1,13,none⟩) hRw _)
 | true =>
 by_cases h1:(x.sess.length:Int)≤p.most
 case neg =>
  have h1':p.most < (x.sess.length:Int):=by omega
  have d1:decide (p.most < (x.sess.length:Int))=true:=decide_eq_true h1';obtain ⟨z0,z1,z2,z3,z4,z5,z6,z7,z8,z9,z10,z11,z12,z13⟩:=R1.out.c14;obtain ⟨zf0,zf1,zf2,zf3,zf4,zf5,zf6,zf7,zf8,zf9,zf10,zf11,zf12,zf13⟩:=R1.out.f14;have HX:Hid (bookOk p x=false):=by unfold Hid; rw [← HOK.out,HV.out]; rw [decide_eq_false h1]; rfl
  go_wp2_with fail
  refine bodyPost_ret (v:=.tuple #[.agg Z14V.toArray,.bool false]) (by simp [results,Tryz.results104,go_sem,z0,z1,z2,z3,z4,z5,z6,z7,z8,z9,z10,z11,z12,z13]) rfl (show OpenRet w pa pc p ba bo ca cb x _ _ from And.intro ?_ (.inl ⟨HX.out,rfl⟩));exact ((((((((((((((B1.out.setCell (p:=⟨w.heap.size+1+1,0,none⟩) hRw _).setCell (p:=⟨w.heap.size+1+1,1,none⟩) hRw _).setCell (p:=⟨w.heap.size+1+1,2,none⟩) hRw _).setCell (p:=⟨w.heap.size+1+1,3,none⟩) hRw _).setCell (p:=⟨w.heap.size+1+1,4,none⟩) hRw _).setCell (p:=⟨w.heap.size+1+1,5,none⟩) hRw _).setCell (p:=⟨w.heap.size+1+1,6,none⟩) hRw _).setCell (p:=⟨w.heap.size+1+1,7,none⟩) hRw _).setCell (p:=⟨w.heap.size+1+1,8,none⟩) hRw _).setCell (p:=⟨w.heap.size+1+1,9,none⟩) hRw _).setCell (p:=⟨w.heap.size+1+1,10,none⟩) hRw _).setCell (p:=⟨w.heap.size+1+1,11,none⟩) hRw _).setCell (p:=⟨w.heap.size+1+1,12,none⟩) hRw _).setCell (p:=⟨w.heap.size+1+1,13,none⟩) hRw _)
 have h1':¬ p.most < (x.sess.length:Int):=by omega
 have d1:decide (p.most < (x.sess.length:Int))=false:=decide_eq_false h1';by_cases h2:x.binds.length≤x.sess.length
 case neg =>
  have h2':(x.sess.length:Int) < (x.binds.length:Int):=by omega
  have d2:decide ((x.sess.length:Int) < (x.binds.length:Int))=true:=decide_eq_true h2';obtain ⟨z0,z1,z2,z3,z4,z5,z6,z7,z8,z9,z10,z11,z12,z13⟩:=R1.out.c14;obtain ⟨zf0,zf1,zf2,zf3,zf4,zf5,zf6,zf7,zf8,zf9,zf10,zf11,zf12,zf13⟩:=R1.out.f14;have HX:Hid (bookOk p x=false):=by unfold Hid; rw [← HOK.out,HV.out]; rw [decide_eq_false h2]; simp
  go_wp2_with fail
  refine bodyPost_ret (v:=.tuple #[.agg Z14V.toArray,.bool false]) (by simp [results,Tryz.results104,go_sem,z0,z1,z2,z3,z4,z5,z6,z7,z8,z9,z10,z11,z12,z13]) rfl (show OpenRet w pa pc p ba bo ca cb x _ _ from And.intro ?_ (.inl ⟨HX.out,rfl⟩));exact ((((((((((((((B1.out.setCell (p:=⟨w.heap.size+1+1,0,none⟩) hRw _).setCell (p:=⟨w.heap.size+1+1,1,none⟩) hRw _).setCell (p:=⟨w.heap.size+1+1,2,none⟩) hRw _).setCell (p:=⟨w.heap.size+1+1,3,none⟩) hRw _).setCell (p:=⟨w.heap.size+1+1,4,none⟩) hRw _).setCell (p:=⟨w.heap.size+1+1,5,none⟩) hRw _).setCell (p:=⟨w.heap.size+1+1,6,none⟩) hRw _).setCell (p:=⟨w.heap.size+1+1,7,none⟩) hRw _).setCell (p:=⟨w.heap.size+1+1,8,none⟩) hRw _).setCell (p:=⟨w.heap.size+1+1,9,none⟩) hRw _).setCell (p:=⟨w.heap.size+1+1,10,none⟩) hRw _).setCell (p:=⟨w.heap.size+1+1,11,none⟩) hRw _).setCell (p:=⟨w.heap.size+1+1,12,none⟩) hRw _).setCell (p:=⟨w.heap.size+1+1,13,none⟩) hRw _)
 have h2':¬ (x.sess.length:Int) < (x.binds.length:Int):=by omega
 have d2:decide ((x.sess.length:Int) < (x.binds.length:Int))=false:=decide_eq_false h2';have d3:decide (x.sess.length < x.binds.length)=false:=decide_eq_false (by omega);have HV2:Hid (ok=(upN (fitB p x) x.binds x.binds.length&&upN (sessB x) x.sess x.sess.length)):=by unfold Hid; rw [HV.out,decide_eq_true h1,decide_eq_true h2]; rfl
 clear HV;have HV:Hid _:=HV2;clear HV2;have hmm1:=run_makeMap (P:=Tryz.prog) 137 w1;have hmm2:=run_makeMap (P:=Tryz.prog) 137 (w1.alloc (.map #[] 0));rw [World.size_alloc] at hmm2;go_upto_region 4 with fail
 have hlt1:w.heap.size+1+1 < w1.heap.size:=R1.out.lt (by simp);have HST:Hid (OpSt w pa pc p ba bo ca cb x w1.heap.size (w1.heap.size+1) (w1.heap.size+1+1) [] [] (((w1.alloc (.map #[] 0)).alloc (.map #[] 0)).alloc (.cells (KkV pa pc p ba ca bo cb x w1.heap.size (w1.heap.size+1)).toArray 139))):=by
  have bm:Below w1.heap.size w1 ((w1.alloc (.map #[] 0)).alloc (.map #[] 0)):=(bR.alloc lR _).alloc (by simp) _;have b3:Below w1.heap.size w1 (((w1.alloc (.map #[] 0)).alloc (.map #[] 0)).alloc (.cells (KkV pa pc p ba ca bo cb x w1.heap.size (w1.heap.size+1)).toArray 139)):=bm.alloc bm.size _;have hk:=HoldsL.new ((w1.alloc (.map #[] 0)).alloc (.map #[] 0)) (KkV pa pc p ba ca bo cb x w1.heap.size (w1.heap.size+1)) 139;rw [World.size_alloc,World.size_alloc] at hk;exact ⟨BX1.out.kept (by simp) b3,R1.out.kept (by simp) b3,hk,BookAt.made.kept (bR.alloc lR _),B1.out.trans (b3.mono B1.out.size),hlt1,by omega,by omega,by omega⟩
 clear c0 c1 d1 d2 d3 h1' h2' P1 R1 BX1 hmm1 hmm2 k0 k1 k2 k3 k4 k5 k6 k7 k8 k9;generalize ((w1.alloc (.map #[] 0)).alloc (.map #[] 0)).alloc (.cells (KkV pa pc p ba ca bo cb x w1.heap.size (w1.heap.size+1)).toArray 139)=W3 at *;have hm1:w.heap.size≤w1.heap.size:=by omega
 have hm2:w.heap.size≤w1.heap.size+1:=by omega
 generalize hY:w1.heap.size+1+1=Y at *;generalize hm2e:w1.heap.size+1=m2 at *;generalize w1.heap.size=m1 at *;clear hY hm2e hlt1 B1;have c0:=HST.out.bx.cell (j:=0) rfl;go_wp2_with fail
 clear c0;go_loopw [43] (fun iv wr=>∃ i:Nat,i≤x.binds.length∧iv=iV i∧upN (fitB p x) x.binds i=true∧OpSt w pa pc p ba bo ca cb x m1 m2 Y (x.binds.take i) (x.binds.take i) wr) (fun iv _=>x.binds.length-(intOf iv).toNat)
 case atStart=>exact ⟨0,Nat.zero_le _,rfl,rfl,HST.out⟩
 case round =>
  obtain ⟨i,hi,rfl,hn,hS⟩:=hrel;have HN:Hid (upN (fitB p x) x.binds i=true):=hn;have HS:Hid (OpSt w pa pc p ba bo ca cb x m1 m2 Y (x.binds.take i) (x.binds.take i) wr):=hS;clear hn hS HST;generalize wr=w4 at *;by_cases hlt:i < x.binds.length
  ·
   obtain ⟨bb,off,rfl,hb,hat⟩:=HSX.out.bd.at hlt;have hA:=(hat.below hb HS.out.b) i hlt;have HST:Hid _:=upN_step (f:=fitB p x) hlt;have HATF:Hid (fitB p x (x.binds.take i) x.binds[i]=false→upN (fitB p x) x.binds x.binds.length=false):=upN_at hlt;have hgd:=HGB.out x.binds[i] (List.getElem_mem hlt);have HTK:Hid (x.binds.take (i+1)=x.binds.take i++[x.binds[i]]):=List.take_succ_eq_append_getElem hlt;obtain ⟨q,hq⟩ : ∃ q,q=x.binds[i]:=⟨_,rfl⟩;rw [← hq] at hA HST HATF HTK hgd;have HGD:Hid (BdGood q):=hgd;have hltI:(i:Int) < (x.binds.length:Int):=by omega
   obtain ⟨c0,c1,c2,c3,c4⟩:=rc5 hA;clear hA hat hq hgd;have HFI:Hid (∀ W,OpSt w pa pc p (some ⟨bb,off,none⟩) bo ca cb x m1 m2 Y (x.binds.take i) (x.binds.take i) W→Cb 133 #[.agg (KkV pa pc p (some ⟨bb,off,none⟩) ca bo cb x m1 m2).toArray,.agg (BdV q).toArray] W (.bool (fitB p x (x.binds.take i) q))):=fun W hW=>fits_any pa pc p (some ⟨bb,off,none⟩) bo ca cb x m1 m2 (x.binds.take i) q W hpl hbl1 hbl2 HGD.out hW.bk (HSP.out.below hW.b) (HSX.out.below hW.b)
   go_upto_region 7 with fail
   have bn:Below w4.heap.size w4 (w4.alloc (.cells (BdV q).toArray 48)):=bR.alloc lR _;have HQ:Hid (HoldsL (w4.alloc (.cells (BdV q).toArray 48)) w4.heap.size (BdV q)):=HoldsL.new w4 (BdV q) 48;have HS5:Hid _:=HS.out.kept bn;generalize (w4.alloc (.cells (BdV q).toArray 48))=W5 at *;have hqm:w4.heap.size≠m1∧w4.heap.size≠m2:=by have:=HS.out.bk.lt; omega
   clear bn HS c0 c1 c2 c3 c4;obtain ⟨k0,k1,k2,k3,k4,k5,k6,k7,k8,k9,k10,k11,k12,k13⟩:=HS5.out.k.c14;obtain ⟨c0,c1,c2,c3,c4⟩:=HQ.out.c5;generalize w4.heap.size=Bq at *;obtain ⟨fb,hfb⟩ : ∃ y,y=fitB p x (x.binds.take i) q:=⟨_,rfl⟩;have HFB:Hid (fb=fitB p x (x.binds.take i) q):=hfb;rw [← hfb] at HFI HST HATF;clear hfb;go_wp2_with fail
   refine (HFI.out _ HS5.out).mono ?_;rintro e w6 ⟨rfl,q6⟩;have HS6:Hid _:=HS5.out.kept q6;have HQ6:Hid _:=HQ.out.kept (by simp) q6;clear q6 HS5 HQ HFI k0 k1 k2 k3 k4 k5 k6 k7 k8 k9 k10 k11 k12 k13 c0 c1 c2 c3 c4
   cases fb with
   | false =>
    have HXF:=HATF.out rfl;obtain ⟨z0,z1,z2,z3,z4,z5,z6,z7,z8,z9,z10,z11,z12,z13⟩:=HS6.out.r.c14;obtain ⟨zf0,zf1,zf2,zf3,zf4,zf5,zf6,zf7,zf8,zf9,zf10,zf11,zf12,zf13⟩:=HS6.out.r.f14;have HX:Hid (bookOk p x=false):=by unfold Hid; rw [← HOK.out,HV.out]; rw [HXF]; rfl
    go_wp2_with fail
    refine bodyPost_ret (v:=.tuple #[.agg Z14V.toArray,.bool false]) (by simp [results,Tryz.results104,go_sem,z0,z1,z2,z3,z4,z5,z6,z7,z8,z9,z10,z11,z12,z13]) rfl (show OpenRet w pa pc p (some ⟨bb,off,none⟩) bo ca cb x _ _ from And.intro ?_ (.inl ⟨HX.out,rfl⟩));exact ((((((((((((((HS6.out.b.setCell (p:=⟨w.heap.size+1+1,0,none⟩) hRw _).setCell (p:=⟨w.heap.size+1+1,1,none⟩) hRw _).setCell (p:=⟨w.heap.size+1+1,2,none⟩) hRw _).setCell (p:=⟨w.heap.size+1+1,3,none⟩) hRw _).setCell (p:=⟨w.heap.size+1+1,4,none⟩) hRw _).setCell (p:=⟨w.heap.size+1+1,5,none⟩) hRw _).setCell (p:=⟨w.heap.size+1+1,6,none⟩) hRw _).setCell (p:=⟨w.heap.size+1+1,7,none⟩) hRw _).setCell (p:=⟨w.heap.size+1+1,8,none⟩) hRw _).setCell (p:=⟨w.heap.size+1+1,9,none⟩) hRw _).setCell (p:=⟨w.heap.size+1+1,10,none⟩) hRw _).setCell (p:=⟨w.heap.size+1+1,11,none⟩) hRw _).setCell (p:=⟨w.heap.size+1+1,12,none⟩) hRw _).setCell (p:=⟨w.heap.size+1+1,13,none⟩) hRw _)
   | true =>
   have HNN:Hid (upN (fitB p x) x.binds (i+1)=true):=by unfold Hid; rw [HST.out,HN.out]; rfl
   have HNN:Hid (upN (fitB p x) x.binds (i+1)=true):=by unfold Hid; rw [HST.out,HN.out]; rfl
   have HNI:Hid ((x.binds.take i).any (fun c=>sameEn (hostE c) (hostE q))=false∧(x.binds.take i).any (fun c=>sameEn (lentE c) (lentE q))=false):=by
    have h:=HFB.out.symm;unfold fitB at h;simp only [Bool.and_eq_true,Bool.not_eq_true'] at h;rw [show (fun c=>sameEn (hostE c) (hostE q))=ofIn q.proto q.inn q.inPort from funext fun c=>host_in _ _ _ c,show (fun c=>sameEn (lentE c) (lentE q))=ofOut q.proto q.out q.outPort from funext fun c=>lent_out _ _ _ c];exact ⟨h.1.1.1.2,h.1.1.2⟩
   clear HFB HST HATF HN;go_upto_region 9 with fail
   go_cut [52] (fun v wx=>OpSt w pa pc p (some ⟨bb,off,none⟩) bo ca cb x m1 m2 Y (x.binds.take i++[q]) (x.binds.take i) wx∧HoldsL wx Bq (BdV q))
   case first =>
    rename_i J K2 hJ hK2;clear hun;have HCP:Hid (∀ wy,Below w6.drew.heap.size w6.drew wy→OpSt w pa pc p (some ⟨bb,off,none⟩) bo ca cb x m1 m2 Y (x.binds.take i) (x.binds.take i) wy∧HoldsL wy Bq (BdV q)):=fun wy hy=>⟨HS6.out.kept (bR.drew.trans hy),HQ6.out.drew.kept (by simp) hy⟩
    have HHE:Hid (∀ W,Cb 53 #[.agg (BdV q).toArray] W (.agg (EnV q.proto q.inn q.inPort).toArray)):=fun W=>hostEnd_any q W
    refine wp_region_growV [52,53,54,55,56] (by kernel_rfl) (by kernel_rfl) ?_;iterate 5 (apply GChV.u rfl;(·intro K' a wy ho hd hb hK;simp [rAt,IsV,slot,Region.binds] at ho hd;obtain ⟨hst,hqq⟩:=HCP.out wy hb;have kC:=hst.k.c14;have kC:=hqq.c5;go_simp;first|((try go_bits);exact hK _ _ rfl bQ)|(refine (HHE.out wy).mono ?_;rintro e wz ⟨rfl,hz⟩;exact hK _ _ rfl hz));dsimp only [nA,cA])
    intro X wz hR hz;simp only [List.nil_append,List.cons_append,RAll,IsV] at hR;simp only [putsFrom,hR];clear hR;obtain ⟨hst,hqq⟩:=HCP.out wz hz;obtain ⟨W9,hrun,hbk,hgr⟩:=hst.bk.put1 (q:=q) (hostE_in HGD.out) HNI.out.1;unfold enC bdC hostE at hrun;intro K10 hK10;with_reducible refine wp_upd_val _ (.tmp 53) (.tmp 55) (.tmp 56) rfl ?_ ?_ ?_ hrun (hK10 _ _ ?_)
    ·simp [Act.eval,Act.put]
    ·simp [Act.eval,Act.put]
    ·simp [Act.eval,Act.put]
    show Exit.then _ _ _ _ _;refine hK2 _ _ (hJ _ _ ?_);(repeat apply Exists.intro)
    exact ⟨⟨hst.put (.inl rfl) hgr hbk,hqq.grown (by simp) hgr (by simp; omega)⟩,rfl⟩
   case rest =>
   obtain ⟨hsn,hqn⟩:=hcut;generalize wc=W9 at *;have HS6n:Hid (OpSt w pa pc p (some ⟨bb,off,none⟩) bo ca cb x m1 m2 Y (x.binds.take i++[q]) (x.binds.take i) W9):=hsn;have HQ6n:Hid (HoldsL W9 Bq (BdV q)):=hqn;clear hsn hqn HS6 HQ6;go_upto_region 10 with fail
   clear hun;have HCP:Hid (∀ wy,Below W9.drew.heap.size W9.drew wy→OpSt w pa pc p (some ⟨bb,off,none⟩) bo ca cb x m1 m2 Y (x.binds.take i++[q]) (x.binds.take i) wy∧HoldsL wy Bq (BdV q)):=fun wy hy=>⟨HS6n.out.kept (bR.drew.trans hy),HQ6n.out.drew.kept (by simp) hy⟩
   have HHE:Hid (∀ W,Cb 48 #[.agg (BdV q).toArray] W (.agg (EnV q.proto q.out q.outPort).toArray)):=fun W=>lentEnd_any q W
   refine wp_region_growV [57,58,59,60,61] (by kernel_rfl) (by kernel_rfl) ?_;iterate 5 (apply GChV.u rfl;(·intro K' a wy ho hd hb hK;simp [rAt,IsV,slot,Region.binds] at ho hd;obtain ⟨hst,hqq⟩:=HCP.out wy hb;have kC:=hst.k.c14;have kC:=hqq.c5;go_simp;first|((try go_bits);exact hK _ _ rfl bQ)|(refine (HHE.out wy).mono ?_;rintro e wz ⟨rfl,hz⟩;exact hK _ _ rfl hz));dsimp only [nA,cA])
   intro X wz hR hz;simp only [List.nil_append,List.cons_append,RAll,IsV] at hR;simp only [putsFrom,hR];clear hR;obtain ⟨hst,hqq⟩:=HCP.out wz hz;obtain ⟨W9,hrun,hbk,hgr⟩:=hst.bk.put2 (q:=q) (lentE_in HGD.out) HNI.out.2;unfold enC bdC lentE at hrun;intro K10 hK10;with_reducible refine wp_upd_val _ (.tmp 58) (.tmp 60) (.tmp 61) rfl ?_ ?_ ?_ hrun (hK10 _ _ ?_)
   ·simp [Act.eval,Act.put]
   ·simp [Act.eval,Act.put]
   ·simp [Act.eval,Act.put]
   have HSF:Hid (OpSt w pa pc p (some ⟨bb,off,none⟩) bo ca cb x m1 m2 Y (x.binds.take (i+1)) (x.binds.take (i+1)) W9):=by have h:=hst.put (.inr rfl) hgr hbk; rw [← HTK.out] at h; exact h
   clear hst hqq hbk hgr hrun HCP HHE HNI;simp only [wpSeq];go_wp2_with fail
   go_roundw
   case rel =>
    first | exact ⟨i+1,by omega,by go_num,HNN.out,HSF.out⟩ | ((repeat apply Exists.intro); exact ⟨⟨i+1,by omega,by go_num,HNN.out,HSF.out⟩,rfl⟩)
   case measure=>simp [intOf]<;>omega
  ·
   have hie:i=x.binds.length:=by omega
   have HF1:Hid (upN (fitB p x) x.binds x.binds.length=true):=by unfold Hid; have:=HN.out; rw [hie] at this; exact this
   have HSE:Hid (OpSt w pa pc p ba bo ca cb x m1 m2 Y (x.binds) (x.binds) w4):=by unfold Hid; have:=HS.out; rw [hie,List.take_length] at this; exact this
   have HV3:Hid (ok=upN (sessB x) x.sess x.sess.length):=by unfold Hid; rw [HV.out,HF1.out]; rfl
   clear HV HS HN;have HV:Hid _:=HV3;clear HV3 HF1;have hge:¬ (i:Int) < (x.binds.length:Int):=by omega
   clear hie hlt;have c1:=HSE.out.bx.cell (j:=1) rfl;go_wp2_with fail
   clear c1;go_loopw [66] (fun iv wr=>∃ i:Nat,i≤x.sess.length∧iv=iV i∧upN (sessB x) x.sess i=true∧OpSt w pa pc p ba bo ca cb x m1 m2 Y (x.binds) (x.binds) wr) (fun iv _=>x.sess.length-(intOf iv).toNat)
   case atStart=>exact ⟨0,Nat.zero_le _,rfl,rfl,HSE.out⟩
   case round =>
    obtain ⟨k,hk,rfl,hn,hS⟩:=hrel;have HN:Hid (upN (sessB x) x.sess k=true):=hn;have HS:Hid (OpSt w pa pc p ba bo ca cb x m1 m2 Y (x.binds) (x.binds) wr):=hS;clear hn hS HSE hge hi;generalize wr=v4 at *;by_cases hlt:k < x.sess.length
    ·
     obtain ⟨bb,off,rfl,hb,hat⟩:=HSX.out.ss.at hlt;have hA:=(hat.below hb HS.out.b) k hlt;have HST:Hid _:=upN_step (f:=sessB x) hlt;have HATF:Hid (sessB x (x.sess.take k) x.sess[k]=false→upN (sessB x) x.sess x.sess.length=false):=upN_at hlt;have hgd:=HGS.out x.sess[k] (List.getElem_mem hlt);have HFS:Hid (decide (findI (fun q=>sameSk (sessK q) (sessK x.sess[k])) x.sess=(k:Int))=!(x.sess.take k).any (fun t=>sameS x.sess[k] t)):=by
      have h:=findI_self (fun q=>sameSk (sessK q) (sessK x.sess[k])) x.sess k hlt (by rw [sess_same]; unfold sameS; simp);rw [show (fun t=>sameS x.sess[k] t)=(fun q=>sameSk (sessK q) (sessK x.sess[k])) from funext fun q=>(sess_same _ _).symm];exact h
     obtain ⟨s,hs⟩ : ∃ s,s=x.sess[k]:=⟨_,rfl⟩;rw [← hs] at hA HST HATF HFS hgd;have HGD:Hid (SsGood s):=hgd;have hltI:(k:Int) < (x.sess.length:Int):=by omega
     have HOV:Hid (sessB x (x.sess.take k) s=(x.binds.any (ofIn s.proto s.inn s.inPort)&&sessR s&&!((x.sess.take k).any fun t=>sameS s t))):=rfl;obtain ⟨c0,c1,c2,c3,c4,c5,c6⟩:=rc7 hA;clear hA hat hs hgd;go_upto_region 15 with fail
     have bn:Below v4.heap.size v4 (v4.alloc (.cells (SsV s).toArray 59)):=bR.alloc lR _;have HQ:Hid (HoldsL (v4.alloc (.cells (SsV s).toArray 59)) v4.heap.size (SsV s)):=HoldsL.new v4 (SsV s) 59;have HS5:Hid _:=HS.out.kept bn;generalize (v4.alloc (.cells (SsV s).toArray 59))=V5 at *;clear bn HS c0 c1 c2 c3 c4 c5 c6;generalize v4.heap.size=Bq at *;obtain ⟨c0,c1,c2,c3,c4,c5,c6⟩:=HQ.out.c7;have HKE:Hid (∀ W,Cb 134 #[.agg (SsV s).toArray] W (.agg (BdR s.proto s.inn s.inPort s.peer s.peerPort).toArray)):=fun W=>sessKey_any s W
     go_wp2_with fail
     refine (HKE.out _).mono ?_;rintro e v6 ⟨rfl,q6⟩;have HS6:Hid _:=HS5.out.kept q6;have HQ6:Hid _:=HQ.out.kept (by simp) q6;clear q6 HS5 HQ HKE c0 c1 c2 c3 c4 c5 c6;go_upto_region 16 with fail
     have bn:Below v6.heap.size v6 (v6.alloc (.cells (BdR s.proto s.inn s.inPort s.peer s.peerPort).toArray 147)):=bR.alloc lR _;have HE:Hid (HoldsL (v6.alloc (.cells (BdR s.proto s.inn s.inPort s.peer s.peerPort).toArray 147)) v6.heap.size (BdR s.proto s.inn s.inPort s.peer s.peerPort)):=HoldsL.new v6 (BdR s.proto s.inn s.inPort s.peer s.peerPort) 147;have HS7:Hid _:=HS6.out.kept bn;have HQ7:Hid _:=HQ6.out.kept (by simp) bn;generalize (v6.alloc (.cells (BdR s.proto s.inn s.inPort s.peer s.peerPort).toArray 147))=V7 at *;clear bn HS6 HQ6;generalize v6.heap.size=Be at *;obtain ⟨c,hc⟩ : ∃ c,c=(x.binds.find? fun q=>sameEn (hostE q) (sessE s)).getD bdZ:=⟨_,rfl⟩;have LK:(Instr.lookup 137 (.map (some m1)) (.agg (EnV s.proto s.inn s.inPort).toArray) true).run Tryz.prog V7=.ok (.tuple #[.agg (BdV c).toArray,.bool (x.binds.any (ofIn s.proto s.inn s.inPort))]) V7:=by
      have h:=HS7.out.bk.look1 (e:=sessE s) (sessE_in HGD.out);rw [find_some_any,← hc,show (fun q=>sameEn (hostE q) (sessE s))=ofIn s.proto s.inn s.inPort from funext fun c=>host_in _ _ _ c] at h;exact h
     clear hc;obtain ⟨k0,k1,k2,k3,k4,k5,k6,k7,k8,k9,k10,k11,k12,k13⟩:=HS7.out.k.c14;obtain ⟨c0,c1,c2,c3,c4⟩:=HE.out.c5;generalize x.binds.any (ofIn s.proto s.inn s.inPort)=t1 at *;go_upto_region 17 with (at_lookup; refine wpList_look_val rfl _ _ _ _ rfl rfl rfl LK ?_)
     have bn:Below V7.heap.size V7 (V7.alloc (.cells (BdV c).toArray 48)):=bR.alloc lR _;have HS8:Hid _:=HS7.out.kept bn;have HQ8:Hid _:=HQ7.out.kept (by simp) bn;have HE8:Hid _:=HE.out.kept (by simp) bn;generalize V7.alloc (.cells (BdV c).toArray 48)=V8 at *;clear bn HS7 HQ7 HE LK k0 k1 k2 k3 k4 k5 k6 k7 k8 k9 k10 k11 k12 k13 c0 c1 c2 c3 c4;have HSR:Hid (∀ W,Cb 135 #[.agg (SsV s).toArray] W (.bool (sessR s))):=fun W=>sessRight_any s W HGD.out.2.1
     have HAT:Hid (∀ W,Below w.heap.size w W→Cb 107 #[.slice (some ⟨bb,off,none⟩) x.sess.length cb,.agg (BdR s.proto s.inn s.inPort s.peer s.peerPort).toArray] W (iV (findI (fun q=>sameSk (sessK q) (sessK s)) x.sess))):=fun W hW=>sessAt_any (sessK s) x.sess _ cb W hbl2 (HSX.out.ss.below hW)
     obtain ⟨hf1,hf2⟩:=findI_in (fun q=>sameSk (sessK q) (sessK s)) x.sess;generalize findI (fun q=>sameSk (sessK q) (sessK s)) x.sess=fi at *;generalize sessR s=t2 at *;generalize (x.sess.take k).any (fun t=>sameS s t)=t3 at *
     cases t1 with
     | false =>
      have HXF:=HATF.out (by rw [HOV.out]; rfl);obtain ⟨z0,z1,z2,z3,z4,z5,z6,z7,z8,z9,z10,z11,z12,z13⟩:=HS8.out.r.c14;obtain ⟨zf0,zf1,zf2,zf3,zf4,zf5,zf6,zf7,zf8,zf9,zf10,zf11,zf12,zf13⟩:=HS8.out.r.f14;have HX:Hid (bookOk p x=false):=by unfold Hid; rw [← HOK.out,HV.out]; exact HXF
      go_wp2_with fail
      refine bodyPost_ret (v:=.tuple #[.agg Z14V.toArray,.bool false]) (by simp [results,Tryz.results104,go_sem,z0,z1,z2,z3,z4,z5,z6,z7,z8,z9,z10,z11,z12,z13]) rfl (show OpenRet w pa pc p ba (some ⟨bb,off,none⟩) ca cb x _ _ from And.intro ?_ (.inl ⟨HX.out,rfl⟩));exact ((((((((((((((HS8.out.b.setCell (p:=⟨w.heap.size+1+1,0,none⟩) hRw _).setCell (p:=⟨w.heap.size+1+1,1,none⟩) hRw _).setCell (p:=⟨w.heap.size+1+1,2,none⟩) hRw _).setCell (p:=⟨w.heap.size+1+1,3,none⟩) hRw _).setCell (p:=⟨w.heap.size+1+1,4,none⟩) hRw _).setCell (p:=⟨w.heap.size+1+1,5,none⟩) hRw _).setCell (p:=⟨w.heap.size+1+1,6,none⟩) hRw _).setCell (p:=⟨w.heap.size+1+1,7,none⟩) hRw _).setCell (p:=⟨w.heap.size+1+1,8,none⟩) hRw _).setCell (p:=⟨w.heap.size+1+1,9,none⟩) hRw _).setCell (p:=⟨w.heap.size+1+1,10,none⟩) hRw _).setCell (p:=⟨w.heap.size+1+1,11,none⟩) hRw _).setCell (p:=⟨w.heap.size+1+1,12,none⟩) hRw _).setCell (p:=⟨w.heap.size+1+1,13,none⟩) hRw _)
     | true =>
     obtain ⟨c0,c1,c2,c3,c4,c5,c6⟩:=HQ8.out.c7;go_wp2_with fail
     refine (HSR.out _).mono ?_;rintro e v9 ⟨rfl,q9⟩;have HS9:Hid _:=HS8.out.kept q9;have HE9:Hid _:=HE8.out.kept (by simp) q9;clear q9 HS8 HQ8 HE8 HSR c0 c1 c2 c3 c4 c5 c6
     cases t2 with
     | false =>
      have HXF:=HATF.out (by rw [HOV.out]; rfl);obtain ⟨z0,z1,z2,z3,z4,z5,z6,z7,z8,z9,z10,z11,z12,z13⟩:=HS9.out.r.c14;obtain ⟨zf0,zf1,zf2,zf3,zf4,zf5,zf6,zf7,zf8,zf9,zf10,zf11,zf12,zf13⟩:=HS9.out.r.f14;have HX:Hid (bookOk p x=false):=by unfold Hid; rw [← HOK.out,HV.out]; exact HXF
      go_wp2_with fail
      refine bodyPost_ret (v:=.tuple #[.agg Z14V.toArray,.bool false]) (by simp [results,Tryz.results104,go_sem,z0,z1,z2,z3,z4,z5,z6,z7,z8,z9,z10,z11,z12,z13]) rfl (show OpenRet w pa pc p ba (some ⟨bb,off,none⟩) ca cb x _ _ from And.intro ?_ (.inl ⟨HX.out,rfl⟩));exact ((((((((((((((HS9.out.b.setCell (p:=⟨w.heap.size+1+1,0,none⟩) hRw _).setCell (p:=⟨w.heap.size+1+1,1,none⟩) hRw _).setCell (p:=⟨w.heap.size+1+1,2,none⟩) hRw _).setCell (p:=⟨w.heap.size+1+1,3,none⟩) hRw _).setCell (p:=⟨w.heap.size+1+1,4,none⟩) hRw _).setCell (p:=⟨w.heap.size+1+1,5,none⟩) hRw _).setCell (p:=⟨w.heap.size+1+1,6,none⟩) hRw _).setCell (p:=⟨w.heap.size+1+1,7,none⟩) hRw _).setCell (p:=⟨w.heap.size+1+1,8,none⟩) hRw _).setCell (p:=⟨w.heap.size+1+1,9,none⟩) hRw _).setCell (p:=⟨w.heap.size+1+1,10,none⟩) hRw _).setCell (p:=⟨w.heap.size+1+1,11,none⟩) hRw _).setCell (p:=⟨w.heap.size+1+1,12,none⟩) hRw _).setCell (p:=⟨w.heap.size+1+1,13,none⟩) hRw _)
     | true =>
     obtain ⟨c0,c1,c2,c3,c4⟩:=HE9.out.c5;have x1:=HS9.out.bx.cell (j:=1) rfl;go_wp2_with fail
     refine (HAT.out _ HS9.out.b).mono ?_;rintro e v10 ⟨rfl,q10⟩;have HS10:Hid _:=HS9.out.kept q10;clear q10 HS9 HE9 HAT x1 c0 c1 c2 c3 c4;by_cases he:fi=(k:Int)
     case neg =>
      have d1:(fi != (k:Int))=true:=by simp [he]
      have HXF:=HATF.out (by rw [HOV.out,← HFS.out,decide_eq_false he]; rfl);clear he;obtain ⟨z0,z1,z2,z3,z4,z5,z6,z7,z8,z9,z10,z11,z12,z13⟩:=HS10.out.r.c14;obtain ⟨zf0,zf1,zf2,zf3,zf4,zf5,zf6,zf7,zf8,zf9,zf10,zf11,zf12,zf13⟩:=HS10.out.r.f14;have HX:Hid (bookOk p x=false):=by unfold Hid; rw [← HOK.out,HV.out]; exact HXF
      go_wp2_with fail
      refine bodyPost_ret (v:=.tuple #[.agg Z14V.toArray,.bool false]) (by simp [results,Tryz.results104,go_sem,z0,z1,z2,z3,z4,z5,z6,z7,z8,z9,z10,z11,z12,z13]) rfl (show OpenRet w pa pc p ba (some ⟨bb,off,none⟩) ca cb x _ _ from And.intro ?_ (.inl ⟨HX.out,rfl⟩));exact ((((((((((((((HS10.out.b.setCell (p:=⟨w.heap.size+1+1,0,none⟩) hRw _).setCell (p:=⟨w.heap.size+1+1,1,none⟩) hRw _).setCell (p:=⟨w.heap.size+1+1,2,none⟩) hRw _).setCell (p:=⟨w.heap.size+1+1,3,none⟩) hRw _).setCell (p:=⟨w.heap.size+1+1,4,none⟩) hRw _).setCell (p:=⟨w.heap.size+1+1,5,none⟩) hRw _).setCell (p:=⟨w.heap.size+1+1,6,none⟩) hRw _).setCell (p:=⟨w.heap.size+1+1,7,none⟩) hRw _).setCell (p:=⟨w.heap.size+1+1,8,none⟩) hRw _).setCell (p:=⟨w.heap.size+1+1,9,none⟩) hRw _).setCell (p:=⟨w.heap.size+1+1,10,none⟩) hRw _).setCell (p:=⟨w.heap.size+1+1,11,none⟩) hRw _).setCell (p:=⟨w.heap.size+1+1,12,none⟩) hRw _).setCell (p:=⟨w.heap.size+1+1,13,none⟩) hRw _)
     have d1:(fi != (k:Int))=false:=by simp [he]
     have HNN:Hid (upN (sessB x) x.sess (k+1)=true):=by unfold Hid; rw [HST.out,HN.out,HOV.out,← HFS.out,decide_eq_true he]; rfl
     clear he;go_wp2_with fail
     go_roundw
     case rel=>exact ⟨k+1,by omega,by go_num,HNN.out,HS10.out⟩
     case measure=>simp [intOf]; omega
    ·
     have hie:k=x.sess.length:=by omega
     have HX:Hid (bookOk p x=true):=by unfold Hid; rw [← HOK.out,HV.out]; have:=HN.out; rw [hie] at this; exact this
     have hge:¬ (k:Int) < (x.sess.length:Int):=by omega
     clear hie hlt HN;obtain ⟨z0,z1,z2,z3,z4,z5,z6,z7,z8,z9,z10,z11,z12,z13⟩:=HS.out.r.c14;obtain ⟨zf0,zf1,zf2,zf3,zf4,zf5,zf6,zf7,zf8,zf9,zf10,zf11,zf12,zf13⟩:=HS.out.r.f14;obtain ⟨k0,k1,k2,k3,k4,k5,k6,k7,k8,k9,k10,k11,k12,k13⟩:=HS.out.k.c14;go_wp2_with fail
     have HBE:Hid (BookAt ((sW (sW (sW (sW (sW (sW (sW (sW (sW (sW (sW (sW (sW v4 (w.heap.size+1+1) 0 (.slice pa p.addrs.length pc)) (w.heap.size+1+1) 1 (iV p.low)) (w.heap.size+1+1) 2 (iV p.high)) (w.heap.size+1+1) 3 (iV p.most)) (w.heap.size+1+1) 4 (iV p.filter)) (w.heap.size+1+1) 5 (iV p.lv.udp)) (w.heap.size+1+1) 6 (iV p.lv.echo)) (w.heap.size+1+1) 7 (iV p.lv.opening)) (w.heap.size+1+1) 8 (iV p.lv.opn)) (w.heap.size+1+1) 9 (iV p.lv.closing)) (w.heap.size+1+1) 10 (.slice ba x.binds.length ca)) (w.heap.size+1+1) 11 (.slice bo x.sess.length cb)) (w.heap.size+1+1) 12 (.map (some m1))).setCell ⟨w.heap.size+1+1,13,none⟩ (.map (some m2))) m1 m2 x.binds x.binds):=by
      have a1:=HS.out.l1;have a2:=HS.out.l2;obtain ⟨M1,M2,hM⟩:=HS.out.bk;have hg:v4.grownBy ((sW (sW (sW (sW (sW (sW (sW (sW (sW (sW (sW (sW (sW v4 (w.heap.size+1+1) 0 (.slice pa p.addrs.length pc)) (w.heap.size+1+1) 1 (iV p.low)) (w.heap.size+1+1) 2 (iV p.high)) (w.heap.size+1+1) 3 (iV p.most)) (w.heap.size+1+1) 4 (iV p.filter)) (w.heap.size+1+1) 5 (iV p.lv.udp)) (w.heap.size+1+1) 6 (iV p.lv.echo)) (w.heap.size+1+1) 7 (iV p.lv.opening)) (w.heap.size+1+1) 8 (iV p.lv.opn)) (w.heap.size+1+1) 9 (iV p.lv.closing)) (w.heap.size+1+1) 10 (.slice ba x.binds.length ca)) (w.heap.size+1+1) 11 (.slice bo x.sess.length cb)) (w.heap.size+1+1) 12 (.map (some m1))).setCell ⟨w.heap.size+1+1,13,none⟩ (.map (some m2))) (some (w.heap.size+1+1)):=grown_set (grown_set (grown_set (grown_set (grown_set (grown_set (grown_set (grown_set (grown_set (grown_set (grown_set (grown_set (grown_set (grown_set (World.grownBy.refl _ _) _) _) _) _) _) _) _) _) _) _) _) _) _) _;exact ⟨M1,M2,hM.h1.grown hg (by simp; omega),hM.h2.grown hg (by simp; omega),hM.v1,hM.v2,hM.ne⟩
     refine bodyPost_ret (v:=.tuple #[.agg (KkV pa pc p ba ca bo cb x m1 m2).toArray,.bool true]) (by simp [results,Tryz.results104,go_sem,z0,z1,z2,z3,z4,z5,z6,z7,z8,z9,z10,z11,z12,z13]) rfl (show OpenRet w pa pc p ba bo ca cb x _ _ from And.intro ?_ (.inr ⟨HX.out,m1,m2,rfl,hm1,hm2,HBE.out⟩));exact ((((((((((((((HS.out.b.setCell (p:=⟨w.heap.size+1+1,0,none⟩) hRw _).setCell (p:=⟨w.heap.size+1+1,1,none⟩) hRw _).setCell (p:=⟨w.heap.size+1+1,2,none⟩) hRw _).setCell (p:=⟨w.heap.size+1+1,3,none⟩) hRw _).setCell (p:=⟨w.heap.size+1+1,4,none⟩) hRw _).setCell (p:=⟨w.heap.size+1+1,5,none⟩) hRw _).setCell (p:=⟨w.heap.size+1+1,6,none⟩) hRw _).setCell (p:=⟨w.heap.size+1+1,7,none⟩) hRw _).setCell (p:=⟨w.heap.size+1+1,8,none⟩) hRw _).setCell (p:=⟨w.heap.size+1+1,9,none⟩) hRw _).setCell (p:=⟨w.heap.size+1+1,10,none⟩) hRw _).setCell (p:=⟨w.heap.size+1+1,11,none⟩) hRw _).setCell (p:=⟨w.heap.size+1+1,12,none⟩) hRw _).setCell (p:=⟨w.heap.size+1+1,13,none⟩) hRw _)
end Go.Proofs.YtdkepkaflielhaaGreatDoor
