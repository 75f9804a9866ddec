import Derived.Test.YtdkepkaflielhaaGreatDoorMerged9
import Derived.Test.YtdkepkaflielhaaGreatDoorMerged3
set_option linter.unusedVariables false
set_option linter.unusedSimpArgs false
set_option maxRecDepth 100000
set_option maxHeartbeats 8000000
namespace Go.Proofs.YtdkepkaflielhaaGreatDoor
open Go.RowKit Go.PlainAid Go.ChangeShapes Go.WideShapes
section
variable {α:Type} {en:α→List Value} {n:Nat} {w W:World}
theorem gQ.grownNe{B X:Nat}{xs:List α}{L k:Nat}(h:gQ en n w B xs L k)(hg:w.grownBy W (some X))(hne:B≠X):gQ en n W B xs L k:=by
 have hb:W.heap[B]?=w.heap[B]?:=hg.block B h.blk (fun e=>hne (by injection e));have hc:∀o,W.cell? ⟨B,o,none⟩=w.cell? ⟨B,o,none⟩:=fun o=>by unfold World.cell?;rw[show (⟨B,o,none⟩: Addr).block=B from rfl,hb]
 have hf:∀o,W.frozen? ⟨B,o,none⟩=w.frozen? ⟨B,o,none⟩:=fun o=>World.frozen?_of_block (a:=⟨B,o,none⟩) hb
 exact⟨UX h.blk hg.size,fun i hi hk j v hv=>(hc _).trans (h.at0 i hi hk j v hv),fun i hi=>by rw[hc];exact h.there i hi,fun i hi=>by rw[hf];exact h.free i hi⟩
end
structure TQ(base:Nat)(w:World)(a b:OA)(k nb ns:Nat):Prop where
 bd:PM 5 RR base w a k nb
 ss:PM 7 NJ base w b (k+5*nb) ns
structure Bo where
 bib:Bb
 bind:Bd
 code:Int
def TL(a b:OA)(ca cb:Nat)(o:Bo):List Value:=[.slice a o.bib.VN.length ca,.slice b o.bib.VK.length cb,iV o.bind.VF,.string o.bind.inn,iV o.bind.VH,.string o.bind.out,iV o.bind.VI,iV o.code]
def EZ(a b:OA)(ca cb:Nat)(o:Bo):Value:=.agg #[.slice a o.bib.VN.length ca,.slice b o.bib.VK.length cb,iV o.bind.VF,.string o.bind.inn,iV o.bind.VH,.string o.bind.out,iV o.bind.VI,iV o.code]
def kX(base:Nat)(o:Bo)(e:Ending)(w:World):Prop:=∃a b ca cb,e=.returned (EZ a b ca cb o)∧bV base w a b o.bib
abbrev qZ(a:OA)(b:Nat)(c:OA)(d:Nat)(o:Bo):List Value := [.slice a o.bib.VN.length b,.slice c o.bib.VK.length d,iV o.bind.VF,.string o.bind.inn,iV o.bind.VH,.string o.bind.out,iV o.bind.VI,iV o.code]
structure TI(lo hi:Nat)(w W:World):Prop where
 os:W.os=w.os
 tape:W.tape=w.tape
 output:W.output=w.output
 size:w.heap.size≤W.heap.size
 block:∀k,k < w.heap.size→(k < lo∨hi≤k)→W.heap[k]?=w.heap[k]?
section
variable {lo hi lo2 hi2 B:Nat} {w w1 W:World}
end
section
variable {α:Type} {en:α→List Value} {n:Nat} {lo hi lo2 hi2:Nat} {w W:World} {a:OA} {xs:List α}
def RO(en:α→List Value)(n lo hi:Nat)(w:World)(a:OA)(xs:List α):Prop:=xs=[]∨∃g,a=some ⟨g,0,none⟩∧lo≤g∧g < hi∧gQ en n w g xs xs.length xs.length
end
structure TP(lo hi:Nat)(w:World)(a b:OA)(x:Bb):Prop where
 bd:RO dP 5 lo hi w a x.VN
 ss:RO fZ 7 lo hi w b x.VK
 ne:∀g h,a=some ⟨g,0,none⟩→b=some ⟨h,0,none⟩→x.VN≠[]→x.VK≠[]→g≠h
section
variable {lo hi lo2 hi2:Nat} {w W:World} {a b:OA} {x:Bb}
end
def stor(b:Nat):World→Nat→List Value→World
 | W,_,[]=>W
 | W,j,v::l=>stor b (W.setCell ⟨b,j,none⟩ v) (j+1) l
theorem aA.storAt{b:Nat}:∀(vs:List Value) {W:World} {pre olds:List Value},aA W b (pre++olds)→olds.length=vs.length→aA (stor b W pre.length vs) b (pre++vs)
 | [],W,pre,[],h,_=>h
 | [],W,pre,_::_,h,hl=>by simp at hl
 | v::vs,W,pre,[],h,hl=>by simp at hl
 | v::vs,W,pre,o::os,h,hl=>by
  have h2:=h.set pre.length v;rw[List.set_append_right _ _ lR,Nat.sub_self,List.set_cons_zero]at h2;have h3:aA (W.setCell ⟨b,pre.length,none⟩ v) b ((pre++[v])++os):=by rw[List.append_assoc];exact h2
  have:=aA.storAt vs h3 (by simpa using hl);rw[List.length_append,List.append_assoc]at this;exact this
theorem aA.stor{b:Nat}{W:World}{olds:List Value}(h:aA W b olds)(vs:List Value)(hl:olds.length=vs.length):aA (stor b W 0 vs) b vs:=aA.storAt vs (pre:=[]) h hl
theorem Below.stor{n b:Nat}{w:World}(hb:n≤b):∀(vs:List Value) {W:World} {j:Nat},Below n w W→Below n w (Go.Proofs.YtdkepkaflielhaaGreatDoor.stor b W j vs)
 | [],W,j,h=>h
 | v::vs,W,j,h=>Below.stor hb vs (h.setCell (p:=⟨b,j,none⟩) hb v)
theorem aA.storOther{b c:Nat}{cs:List Value}(hne:c≠b):∀(vs:List Value) {W:World} {j:Nat},aA W c cs→aA (Go.Proofs.YtdkepkaflielhaaGreatDoor.stor b W j vs) c cs
 | [],W,j,h=>h
 | v::vs,W,j,h=>aA.storOther hne vs (h.setOther hne v)
theorem dD.stor{w W:World}{ks:List (Nat × List Value)}{b j:Nat}(h:dD w ks W)(hb:w.heap.size≤b)(hks:∀e∈ks,e.1≠b)(vs:List Value):dD w ks (Go.Proofs.YtdkepkaflielhaaGreatDoor.stor b W j vs):=⟨fun e he=>aA.storOther (hks e he) vs (h.k e he),Below.stor hb vs h.b,h.z⟩
theorem oN{b:Nat}:∀(vs:List Value) {w W:World} {j:Nat},w.grownBy W (some b)→w.grownBy (Go.Proofs.YtdkepkaflielhaaGreatDoor.stor b W j vs) (some b)
 | [],w,W,j,h=>h
 | v::vs,w,W,j,h=>oN vs (aB h v)
theorem bV.stor{base b j:Nat}{W:World}{a a':OA}{y:Bb}(h:bV base W a a' y)(hb:b < base)(vs:List Value):bV base (Go.Proofs.YtdkepkaflielhaaGreatDoor.stor b W j vs) a a' y :=
 ⟨h.bd.grown (oN vs (World.grownBy.refl _ _)) hb,h.ss.grown (oN vs (World.grownBy.refl _ _)) hb,h.ne⟩
theorem bV.lowN{base base':Nat}{W:World}{a a':OA}{y:Bb}(h:bV base W a a' y)(hb:base'≤base):bV base' W a a' y:=⟨h.bd.down hb,h.ss.down hb,h.ne⟩
section
variable {base lo hi B:Nat} {w W:World} {a b:OA} {x:Bb}
theorem bV.grownNe(h:bV base w a b x)(hg:w.grownBy W (some B))(hne:∀g o,(x.VN≠[]∧a=some ⟨g,o,none⟩)∨(x.VK≠[]∧b=some ⟨g,o,none⟩)→g≠B):bV base W a b x:=by
 refine⟨?_,?_,h.ne⟩
 ·by_cases e:x.VN=[]
  ·exact .inl e
  ·rcases h.bd with h1 | ⟨g,rfl,h2,h3⟩
   ·exact .inl h1
   ·exact .inr ⟨g,rfl,h2,h3.grownNe hg (hne g 0 (.inl ⟨e,rfl⟩))⟩
 ·by_cases e:x.VK=[]
  ·exact .inl e
  ·rcases h.ss with h1 | ⟨g,rfl,h2,h3⟩
   ·exact .inl h1
   ·exact .inr ⟨g,rfl,h2,h3.grownNe hg (hne g 0 (.inr ⟨e,rfl⟩))⟩
end
theorem DN(x:Bb)(a1 b1 a2 b2:OA)(ca1 cb1 ca2 cb2:Nat)(w:World)(hl1:x.VN.length≤1048576)(hl2:x.VK.length≤1048576)(h1:dC w a1 b1 x)(h2:dC w a2 b2 x) :
  Cb 9 #[gP a1 b1 ca1 cb1 x,gP a2 b2 ca2 cb2 x] w (.bool true):=by
 have HB:Hid (Below w.heap.size w ((aW w (aX a1 ca1 b1 cb1 x) 31).alloc (.cells (aX a2 ca2 b2 cb2 x).toArray 31))):=(bR.alloc lR _).alloc (by simp) _;have H0:=(aA.new w (aX a1 ca1 b1 cb1 x) 31).alloc (.cells (aX a2 ca2 b2 cb2 x).toArray 31);have H1:=aA.new (w.alloc (.cells (aX a1 ca1 b1 cb1 x).toArray 31)) (aX a2 ca2 b2 cb2 x) 31;rw[UC]at H1;have G0:Hid _:=H0;have G1:Hid _:=H1;have R1:Hid (dC w a1 b1 x):=h1;have R2:Hid (dC w a2 b2 x):=h2;unfold gP;clear h1 h2 H0 H1;go_enter Tryz.func9,Tryz.ntmps9
 go_upto_region 1 with fail
 generalize World.alloc _ _=W2 at *;have HCL:Hid (∀wy,Below W2.heap.size W2 wy→wy.cell? ⟨w.heap.size,0,none⟩=some (.slice a1 x.VN.length ca1)∧wy.cell? ⟨w.heap.size,1,none⟩=some (.slice b1 x.VK.length cb1)∧wy.cell? ⟨w.heap.size+1,0,none⟩=some (.slice a2 x.VN.length ca2)∧wy.cell? ⟨w.heap.size+1,1,none⟩=some (.slice b2 x.VK.length cb2)) :=
  fun wy hy=>⟨(G0.out.kept (by simp) hy).cell rfl,(G0.out.kept (by simp) hy).cell rfl,(G1.out.kept (by simp) hy).cell rfl,(G1.out.kept (by simp) hy).cell rfl⟩
 obtain⟨k0,k1,k2,k3⟩:=HCL.out W2 bR;go_wp2_with fail
 go_loopw [5] (fun i wr=>∃k:Nat,k≤x.VN.length∧i=iV k∧Below W2.heap.size W2 wr) (fun i _=>x.VN.length-(intOf i).toNat)
 case atStart=>exact⟨0,VC _,rfl,Below.refl _ _⟩
 case round=>
  obtain⟨k,hk,rfl,hbel⟩:=hrel;have HL:Hid (Below W2.heap.size W2 wr):=hbel;clear hbel;obtain⟨k0,k1,k2,k3⟩:=HCL.out wr HL.out;by_cases hlt:k < x.VN.length
  ·obtain⟨c1,o1,rfl,hc1,hA⟩:=R1.out.bd.at hlt;obtain⟨c2,o2,rfl,hc2,hB⟩:=R2.out.bd.at hlt;have HW:Hid _:=HB.out.trans (HL.out.mono HB.out.size);obtain⟨q,hq⟩: ∃q,q=x.VN[k]:=⟨_,rfl⟩;have CA:Hid (∀wy,Below wr.heap.size wr wy→wy.cell? ⟨c1,o1+k*5,none⟩=some (iV q.VF)∧wy.cell? ⟨c1,o1+k*5+1,none⟩=some (.string q.inn)∧wy.cell? ⟨c1,o1+k*5+2,none⟩=some (iV q.VH)∧wy.cell? ⟨c1,o1+k*5+3,none⟩=some (.string q.out)∧wy.cell? ⟨c1,o1+k*5+4,none⟩=some (iV q.VI)):=fun wy hy=>by
    have h3:=(hA.below hc1 (HW.out.trans (hy.mono HW.out.size))) k hlt;rw[←hq]at h3;exact⟨h3 0 _ rfl,h3 1 _ rfl,h3 2 _ rfl,h3 3 _ rfl,h3 4 _ rfl⟩
   have CB:Hid (∀wy,Below wr.heap.size wr wy→wy.cell? ⟨c2,o2+k*5,none⟩=some (iV q.VF)∧wy.cell? ⟨c2,o2+k*5+1,none⟩=some (.string q.inn)∧wy.cell? ⟨c2,o2+k*5+2,none⟩=some (iV q.VH)∧wy.cell? ⟨c2,o2+k*5+3,none⟩=some (.string q.out)∧wy.cell? ⟨c2,o2+k*5+4,none⟩=some (iV q.VI)):=fun wy hy=>by
    have h3:=(hB.below hc2 (HW.out.trans (hy.mono HW.out.size))) k hlt;rw[←hq]at h3;exact⟨h3 0 _ rfl,h3 1 _ rfl,h3 2 _ rfl,h3 3 _ rfl,h3 4 _ rfl⟩
   have HNE:Hid (∀W,(binOp .neq 48 (.agg (cZ q).toArray) (.agg (cZ q).toArray)).run Tryz.prog W=.ok (.bool false) W):=fun W=>by rw[KH q q W,DW];rfl
   clear hq hA hB;have hk2:¬(x.VN.length:Int)≤(k:Int):=by omega
   go_upto_region 6 with fail
   go_cut [40] (fun v wx=>v=.bool false∧Below wr.heap.size wr wx)
   case first=>
    rename_i J K2 hJ hK2;refine bJ [30,31,32,33,34,35,36,37,38,39,40] (by kernel_rfl) (by kernel_rfl) ?_;iterate 10 (apply fI.u rfl;(·intro K' a wy ho hd hb hK;simp[aU,aG,aD,Region.binds]at ho hd;have hb:=(Below.refl _ wr).drew.trans hb;have hld:=HCL.out wy (HL.out.trans (hb.mono HL.out.size));obtain⟨k0,k1,k2,k3⟩:=hld;have hca:=CA.out wy hb;have hcb:=CB.out wy hb;obtain⟨m0,m1,m2,m3,m4⟩:=hca;obtain⟨n0,n1,n2,n3,n4⟩:=hcb;go_simp;(try go_bits);exact hK _ _ rfl bQ);dsimp only[nA,cA])
    (apply fI.u rfl;(·intro K' a wy ho hd hb hK;simp[aU,aG,aD,Region.binds]at ho hd;have hne:=HNE.out wy;go_simp;(try go_bits);exact hK _ _ rfl bQ);dsimp only[nA,cA])
    intro X wz hR hz;simp only[UM,UN,eY,aG]at hR;simp only[aE,hR];clear hR;go_simp;refine hK2 _ _ (hJ _ _ ?_);(repeat apply Exists.intro)
    refine⟨⟨rfl,(Below.refl _ wr).drew.trans hz⟩,rfl⟩
   case rest=>
   obtain⟨rfl,hbd⟩:=hcut;have HL2:Hid _:=HL.out.trans (hbd.mono HL.out.size);clear hbd;go_wp2_with fail
   go_roundw
   case rel=>exact⟨k+1,by omega,by go_num,HL2.out⟩
   case measure=>simp[intOf];omega
  ·have hk2:(x.VN.length:Int)≤(k:Int):=by omega
   go_wp2_with fail
   go_loopw [6] (fun i wr=>∃k:Nat,k≤x.VK.length∧i=iV k∧Below W2.heap.size W2 wr) (fun i _=>x.VK.length-(intOf i).toNat)
   case atStart=>exact⟨0,VC _,rfl,HL.out⟩
   case round=>
    obtain⟨k,hk,rfl,hbel⟩:=hrel;have HL:Hid (Below W2.heap.size W2 wr):=hbel;clear hbel;obtain⟨k0,k1,k2,k3⟩:=HCL.out wr HL.out;by_cases hlt:k < x.VK.length
    ·obtain⟨c1,o1,rfl,hc1,hA⟩:=R1.out.ss.at hlt;obtain⟨c2,o2,rfl,hc2,hB⟩:=R2.out.ss.at hlt;have HW:Hid _:=HB.out.trans (HL.out.mono HB.out.size);obtain⟨q,hq⟩: ∃q,q=x.VK[k]:=⟨_,rfl⟩;have CA:Hid (∀wy,Below wr.heap.size wr wy→wy.cell? ⟨c1,o1+k*7,none⟩=some (iV q.VF)∧wy.cell? ⟨c1,o1+k*7+1,none⟩=some (.string q.inn)∧wy.cell? ⟨c1,o1+k*7+2,none⟩=some (iV q.VH)∧wy.cell? ⟨c1,o1+k*7+3,none⟩=some (.string q.peer)∧wy.cell? ⟨c1,o1+k*7+4,none⟩=some (iV q.VG)∧wy.cell? ⟨c1,o1+k*7+5,none⟩=some (iV q.state)∧wy.cell? ⟨c1,o1+k*7+6,none⟩=some (iV q.untl)):=fun wy hy=>by
      have h3:=(hA.below hc1 (HW.out.trans (hy.mono HW.out.size))) k hlt;rw[←hq]at h3;exact⟨h3 0 _ rfl,h3 1 _ rfl,h3 2 _ rfl,h3 3 _ rfl,h3 4 _ rfl,h3 5 _ rfl,h3 6 _ rfl⟩
     have CB:Hid (∀wy,Below wr.heap.size wr wy→wy.cell? ⟨c2,o2+k*7,none⟩=some (iV q.VF)∧wy.cell? ⟨c2,o2+k*7+1,none⟩=some (.string q.inn)∧wy.cell? ⟨c2,o2+k*7+2,none⟩=some (iV q.VH)∧wy.cell? ⟨c2,o2+k*7+3,none⟩=some (.string q.peer)∧wy.cell? ⟨c2,o2+k*7+4,none⟩=some (iV q.VG)∧wy.cell? ⟨c2,o2+k*7+5,none⟩=some (iV q.state)∧wy.cell? ⟨c2,o2+k*7+6,none⟩=some (iV q.untl)):=fun wy hy=>by
      have h3:=(hB.below hc2 (HW.out.trans (hy.mono HW.out.size))) k hlt;rw[←hq]at h3;exact⟨h3 0 _ rfl,h3 1 _ rfl,h3 2 _ rfl,h3 3 _ rfl,h3 4 _ rfl,h3 5 _ rfl,h3 6 _ rfl⟩
     have HNE:Hid (∀W,(binOp .neq 59 (.agg (iE q).toArray) (.agg (iE q).toArray)).run Tryz.prog W=.ok (.bool false) W):=fun W=>by rw[KI q q W,DY];rfl
     clear hq hA hB;have hk2:¬(x.VK.length:Int)≤(k:Int):=by omega
     go_upto_region 11 with fail
     go_cut [58] (fun v wx=>v=.bool false∧Below wr.heap.size wr wx)
     case first=>
      rename_i J K2 hJ hK2;refine bJ [48,49,50,51,52,53,54,55,56,57,58] (by kernel_rfl) (by kernel_rfl) ?_;iterate 10 (apply fI.u rfl;(·intro K' a wy ho hd hb hK;simp[aU,aG,aD,Region.binds]at ho hd;have hb:=(Below.refl _ wr).drew.trans hb;have hld:=HCL.out wy (HL.out.trans (hb.mono HL.out.size));obtain⟨k0,k1,k2,k3⟩:=hld;have hca:=CA.out wy hb;have hcb:=CB.out wy hb;obtain⟨m0,m1,m2,m3,m4,m5,m6⟩:=hca;obtain⟨n0,n1,n2,n3,n4,n5,n6⟩:=hcb;go_simp;(try go_bits);exact hK _ _ rfl bQ);dsimp only[nA,cA])
      (apply fI.u rfl;(·intro K' a wy ho hd hb hK;simp[aU,aG,aD,Region.binds]at ho hd;have hne:=HNE.out wy;go_simp;(try go_bits);exact hK _ _ rfl bQ);dsimp only[nA,cA])
      intro X wz hR hz;simp only[UM,UN,eY,aG]at hR;simp only[aE,hR];clear hR;go_simp;refine hK2 _ _ (hJ _ _ ?_);(repeat apply Exists.intro)
      refine⟨⟨rfl,(Below.refl _ wr).drew.trans hz⟩,rfl⟩
     case rest=>
     obtain⟨rfl,hbd⟩:=hcut;have HL2:Hid _:=HL.out.trans (hbd.mono HL.out.size);clear hbd;go_wp2_with fail
     go_roundw
     case rel=>exact⟨k+1,by omega,by go_num,HL2.out⟩
     case measure=>simp[intOf];omega
    ·have hk2:(x.VK.length:Int)≤(k:Int):=by omega
     go_wp2_with fail
     go_ret;exact⟨rfl,HB.out.trans (HL.out.mono HB.out.size)⟩
end Go.Proofs.YtdkepkaflielhaaGreatDoor
