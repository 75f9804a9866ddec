import Derived.Test.YtdkepkaflielhaaGreatDoorMerged12
import Derived.Test.YtdkepkaflielhaaGreatDoorMerged15
import Derived.Test.YtdkepkaflielhaaGreatDoorMerged13
set_option linter.unusedVariables false
set_option linter.unusedSimpArgs false
set_option maxRecDepth 100000
set_option maxHeartbeats 8000000
namespace Go.Proofs.YtdkepkaflielhaaGreatDoor
open Go.RowKit Go.PlainAid
theorem LU{α:Type}(f:α→Bool)(xs:List α)(i:Nat)(h:i < xs.length):(xs.take (i+1)).all f=((xs.take i).all f&&f xs[i]):=by
 rw[List.take_succ_eq_append_getElem h,List.all_append];simp
theorem QN{α:Type}(f:α→Bool)(xs:List α)(i:Nat)(h:i < xs.length)(hf:f xs[i]=false):xs.all f=false:=by
 rw[List.all_eq_false];exact⟨_,UJ h,by simp[hf]⟩
theorem qF(p:Pl)(x:Bb)(pa:OA)(pc:Nat)(a b:OA)(ca cb:Nat)(w:World)(hlp:p.VL.length≤1048576)(hpc:p.VL.length≤pc)(hsz:∀s∈p.VL,s.size≤1048576)(hl1:x.VN.length≤1048576)(hl2:x.VK.length≤1048576)(hp:bP cB 1 w pa p.VL)(hr:dC w a b x) :
  Cb 13 #[iK pa pc p,gP a b ca cb x] w (.bool (fA p x)):=by
 have HB:Hid (Below w.heap.size w ((aW w (bG pa pc p) 27).alloc (.cells (aX a ca b cb x).toArray 31))):=(bR.alloc lR _).alloc (by simp) _;have H0:=(aA.new w (bG pa pc p) 27).alloc (.cells (aX a ca b cb x).toArray 31);have H1:=aA.new (w.alloc (.cells (bG pa pc p).toArray 27)) (aX a ca b cb x) 31;rw[UC]at H1;have hs2:((aW w (bG pa pc p) 27).alloc (.cells (aX a ca b cb x).toArray 31)).heap.size=w.heap.size+1+1:=by simp
 have HP:Hid (∀W,Below w.heap.size w W→Cb 34 #[iK pa pc p] W (.bool (cU p))):=fun W hW=>BP p pa pc W hlp hpc hsz (hp.below hW)
 have HBD:Hid (∀W,Below w.heap.size w W→Cb 35 #[iK pa pc p,.slice a x.VN.length ca] W (.bool (jT (cK p) x.VN x.VN.length))):=fun W hW=>EG p x.VN pa pc a ca W hlp hl1 (hp.below hW) (hr.bd.below hW)
 have HSS:Hid (∀W,Below w.heap.size w W→Cb 36 #[gP a b ca cb x] W (.bool (jT (fX x.VN) x.VK x.VK.length))):=fun W hW=>II x a b ca cb W hl1 hl2 (hr.below hW)
 have HV:Hid (fA p x=(cU p&&decide ((x.VK.length:Int)≤p.most)&&decide (x.VN.length≤60)&&jT (cK p) x.VN x.VN.length&&jT (fX x.VN) x.VK x.VK.length&&x.VN.all fun y=>x.VK.any fun s=>gR y s)):=rfl;generalize fA p x=ans at *;generalize cU p=b1 at *;generalize jT (cK p) x.VN x.VN.length=b4 at *;generalize jT (fX x.VN) x.VK x.VK.length=b5 at *;have G0:Hid _:=H0;have G1:Hid _:=H1;have HR:Hid (dC w a b x):=hr;unfold iK at HP HBD ⊢;unfold gP at HSS ⊢;clear hp hr H0 H1;go_enter Tryz.func13,Tryz.ntmps13
 go_upto_region 1 with fail
 generalize World.alloc _ _=W2 at *;obtain⟨r1,hr1⟩: ∃r,r=(b1&&decide ((x.VK.length:Int)≤p.most)&&decide (x.VN.length≤60)&&b4&&b5):=⟨_,rfl⟩;have HRV:Hid (r1=_):=hr1;rw[←hr1]at HV;clear hr1;go_cut [36] (fun v wx=>v=.bool (!r1)∧Below W2.heap.size W2 wx)
 case first=>
  have hun:undef=Value.tuple #[]:=rfl;obtain⟨z0,z1,z2,z3,z4,z5,z6,z7,z8,z9⟩:=G0.out.c10;go_wp2_with fail
  refine(HP.out _ HB.out).mono ?_;rintro e w1 ⟨rfl,q1⟩;have Q1:Hid (Below W2.heap.size W2 w1):=q1;have B1:Hid _:=HB.out.trans (q1.mono HB.out.size);have K0:=G0.out.kept (by simp) q1;have K1:=G1.out.kept (by simp) q1;clear q1 z0 z1 z2 z3 z4 z5 z6 z7 z8 z9;obtain⟨y0,y1,y2,y3,y4,y5,y6,y7,y8,y9⟩:=K0.c10;obtain⟨k0,k1⟩:=K1.c2;clear K0 K1
  cases b1 with
  | false=>
   go_wp2_with fail
   go_meet;exact⟨by rw[HRV.out];simp,Q1.out⟩
  | true=>
   by_cases h2:p.most < (x.VK.length:Int)
   ·go_wp2_with fail
    go_meet;exact⟨by rw[HRV.out,UD (show ¬(x.VK.length:Int)≤p.most by omega)];simp,Q1.out⟩
   ·by_cases h3:60 < x.VN.length
    ·have h3':(60:Int) < (x.VN.length:Int):=by omega
     go_wp2_with fail
     go_meet;exact⟨by rw[HRV.out,UD (show ¬x.VN.length≤60 by omega)];simp,Q1.out⟩
    ·have h3':¬(60:Int) < (x.VN.length:Int):=by omega
     rw[UE (show (x.VK.length:Int)≤p.most by omega),UE (show x.VN.length≤60 by omega)]at HRV;go_wp2_with fail
     refine(HBD.out _ B1.out).mono ?_;rintro e w2 ⟨rfl,q2⟩;have Q2:Hid _:=Q1.out.trans (q2.mono Q1.out.size);have B2:Hid _:=B1.out.trans (q2.mono B1.out.size);have K1:=G1.out.kept (by simp) Q2.out;clear q2 k0 k1 y0 y1 y2 y3 y4 y5 y6 y7 y8 y9;obtain⟨k0,k1⟩:=K1.c2;clear K1
     cases b4 with
     | false=>
      go_wp2_with fail
      go_meet;exact⟨by rw[HRV.out];simp<;>omega,Q2.out⟩
     | true=>
      go_wp2_with fail
      refine(HSS.out _ B2.out).mono ?_;rintro e w3 ⟨rfl,q3⟩;have Q3:Hid _:=Q2.out.trans (q3.mono Q2.out.size);clear q3 k0 k1
      cases b5;all_goals
       go_wp2_with fail
       go_meet;exact⟨by rw[HRV.out];simp<;>omega,Q3.out⟩
 case rest=>
  obtain⟨rfl,hQ⟩:=hcut;have B3:Hid _:=HB.out.trans (hQ.mono HB.out.size);have K3:Hid _:=G1.out.kept (by simp) hQ;clear hQ HP HBD HSS G0 G1 HRV HB hs2
  cases r1 with
  | false=>
   have HX:Hid (ans=false):=by unfold Hid;rw[HV.out];rfl
   go_wp2_with fail
   go_ret;exact⟨aC HX.out.symm,B3.out⟩
  | true=>
   have HU:Hid (ans=x.VN.all fun y=>x.VK.any fun s=>gR y s):=by unfold Hid;rw[HV.out];rfl
   clear HV;generalize wc=w9 at *;go_wp2_with fail
   go_loopw [5] (fun iv wr=>∃i:Nat,i≤x.VN.length∧iv=iV i∧((x.VN.take i).all fun y=>x.VK.any fun s=>gR y s)=true∧aA wr (w.heap.size+1) (aX a ca b cb x)∧Below w.heap.size w wr) (fun iv _=>x.VN.length-(intOf iv).toNat)
   case atStart=>exact⟨0,VC _,rfl,rfl,K3.out,B3.out⟩
   case round=>
    obtain⟨i,hi,rfl,hn,hk,hbel⟩:=hrel;have HN:Hid (((x.VN.take i).all fun y=>x.VK.any fun s=>gR y s)=true):=hn;have HBi:Hid (Below w.heap.size w wr):=hbel;have HKi:Hid _:=hk;have z0:=hk.cell (j:=0) rfl;clear hn hbel hk K3 B3;generalize wr=w0 at *;by_cases hlt:i < x.VN.length
    ·obtain⟨ba,oa,rfl,hba,hata⟩:=HR.out.bd.at hlt;have HATA:Hid (∀W,Below w.heap.size w W→W.rangeAt ba (oa+i*5) (dP x.VN[i])):=fun W hW=>(hata.below hba hW) i hlt
     have HST:Hid _:=LU (fun y=>x.VK.any fun s=>gR y s) x.VN i hlt;have HNO:Hid _:=QN (fun y=>x.VK.any fun s=>gR y s) x.VN i hlt;obtain⟨y,hy⟩: ∃y,y=x.VN[i]:=⟨_,rfl⟩;rw[←hy]at HATA HST HNO;clear hata hba hy;go_wp2_with fail
     go_loopw [6,7] (fun hv kv wr=>∃k:Nat,k≤x.VK.length∧kv=iV k∧hv=.bool ((x.VK.take k).any fun s=>gR y s)∧aA wr (w.heap.size+1) (aX (some ⟨ba,oa,none⟩) ca b cb x)∧Below w.heap.size w wr) (fun _ kv _=>x.VK.length-(intOf kv).toNat)
     case atStart=>exact⟨0,VC _,rfl,rfl,HKi.out,HBi.out⟩
     case round=>
      obtain⟨k,hk,rfl,rfl,hK,hbel⟩:=hrel;have HBk:Hid (Below w.heap.size w wr):=hbel;have HKk:Hid _:=hK;have z1:=hK.cell (j:=1) rfl;have hbx:Hid (w.heap.size+1 < wr.heap.size):=hK.lt (by simp);clear hbel hK z0;by_cases hkl:k < x.VK.length
      ·obtain⟨bs,os,rfl,hbs,hats⟩:=HR.out.ss.at hkl;have HATS:Hid (∀W,Below w.heap.size w W→W.rangeAt bs (os+k*7) (fZ x.VK[k])):=fun W hW=>(hats.below hbs hW) k hkl
       have HSK:Hid _:=jW (fun s=>gR y s) x.VK k hkl;obtain⟨s,hs⟩: ∃s,s=x.VK[k]:=⟨_,rfl⟩;rw[←hs]at HATS HSK;have HHS:Hid (∀W,Cb 37 #[gW y,xL s] W (.bool (gR y s))):=fun W=>tR y s W
       have hltI:(i:Int) < (x.VN.length:Int):=by omega
       have hklI:(k:Int) < (x.VK.length:Int):=by omega
       generalize (x.VK.take k).any (fun s=>gR y s)=hb0 at *;unfold gW xL at HHS;clear hats hbs hs;go_upto_region 10 with fail
       cases hb0 with
       | false=>
        refine aN [51,52,53,54,55,56,57,58,59,60,61,62,63,64] (by kernel_rfl) (by kernel_rfl) ?_;iterate 14 ((first|apply bC.u rfl|apply bC.g rfl rfl rfl rfl rfl (by simp));(·intro K' a wy ho hd hb hK;simp[aU,aG,aD,Region.binds]at ho hd;have hbw:=HBk.out.drew.trans (hb.mono HBk.out.drew.size);have kx:=(HKk.out.drew.kept (by simp) hb);have kC:=kx.c2;have ra:=HATA.out wy hbw;have rs:=HATS.out wy hbw;obtain⟨a0,a1,a2,a3,a4⟩:=LH ra;obtain⟨s0,s1,s2,s3,s4,s5,s6⟩:=NE rs;clear ra rs kx hbw;go_simp;first|((try go_bits);exact hK _ _ rfl bQ)|(refine(HHS.out wy).mono ?_;rintro e wz ⟨rfl,hz⟩;exact hK _ _ rfl hz));dsimp only[nA,cA])
        intro X wz hR hz;simp only[UM,UN,eY,aG]at hR;simp only[aE,hR];clear hR;simp only[List.length_cons,List.length_nil,List.drop_succ_cons,List.drop_zero,UI,Nat.reduceAdd];intro K9 hK9;go_simp;refine hK9 _ _ ?_;have hb6:Below wr.heap.size wr wz:=(Below.refl _ wr).drew.trans hz;have HB2:Hid _:=HBk.out.trans (hb6.mono HBk.out.size);have HK2:Hid _:=HKk.out.kept (by simp) hb6;clear hb6 hz z1;simp only[fN];go_wp2_with fail
        go_roundw
        case rel=>
         (repeat apply Exists.intro)
         exact⟨⟨k+1,by omega,by go_num,by rw[HSK.out];rfl,HK2.out,HB2.out⟩,rfl⟩
        case measure=>simp[intOf];omega
       | true=>
        refine aN [51,52,53,54,55,56,57,58,59,60,61,62,63,64] (by kernel_rfl) (by kernel_rfl) ?_;iterate 14 ((first|(refine bC.n rfl rfl rfl rfl rfl (by simp) ?_)|(apply bC.u rfl;(·intro K' a wy ho hd hb hK;simp[aU,aG,aD,Region.binds]at ho hd;go_simp;(try go_bits);exact hK _ _ rfl bQ)));dsimp only[nA,cA])
        intro X wz hR hz;simp only[UM,UN,eY,aG]at hR;simp only[aE,hR];clear hR;simp only[List.length_cons,List.length_nil,List.drop_succ_cons,List.drop_zero,UI,Nat.reduceAdd];intro K9 hK9;go_simp;refine hK9 _ _ ?_;have hb6:Below wr.heap.size wr wz:=(Below.refl _ wr).drew.trans hz;have HB2:Hid _:=HBk.out.trans (hb6.mono HBk.out.size);have HK2:Hid _:=HKk.out.kept (by simp) hb6;clear hb6 hz z1;simp only[fN];go_wp2_with fail
        go_roundw
        case rel=>
         (repeat apply Exists.intro)
         exact⟨⟨k+1,by omega,by go_num,by rw[HSK.out];rfl,HK2.out,HB2.out⟩,rfl⟩
        case measure=>simp[intOf];omega
      ·have hke:k=x.VK.length:=by omega
       rw[hke,List.take_length]
       cases hh:x.VK.any (fun s=>gR y s) with
       | false=>
        have HX:Hid (ans=false):=by unfold Hid;rw[HU.out];exact HNO.out hh
        clear hh;go_wp2_with fail
        go_ret;exact⟨aC HX.out.symm,HBk.out⟩
       | true=>
        have HN2:Hid (((x.VN.take (i+1)).all fun y=>x.VK.any fun s=>gR y s)=true):=by unfold Hid;rw[HST.out,HN.out,hh];rfl
        clear hh;go_wp2_with fail
        go_roundw
        case rel=>exact⟨i+1,by omega,by go_num,HN2.out,HKk.out,HBk.out⟩
        case measure=>simp[intOf];omega
    ·have hie:i=x.VN.length:=by omega
     have HX:Hid (ans=true):=by unfold Hid;rw[HU.out];have:=HN.out;rw[hie,List.take_length]at this;exact this
     go_wp2_with fail
     go_ret;exact⟨aC HX.out.symm,HBi.out⟩
end Go.Proofs.YtdkepkaflielhaaGreatDoor
/- SPort: what the specification's l08Port answers. Printed by mksport.py. -/
namespace Go.Proofs.YtdkepkaflielhaaGreatDoor
open Go.RowKit Go.PlainAid
set_option linter.unusedVariables false
set_option linter.unusedSimpArgs false

/-- The boxes of l08Port:the pool,the bib,the bind that is told. -/
structure kP(w:World)(p:Pl)(x:Bb)(pa:OA)(pc:Nat)(a b:OA)(ca cb:Nat)(wx:World):Prop where
 p:aA wx w.heap.size [.slice pa p.VL.length pc,iV p.low,iV p.high,iV p.most,iV p.filter,iV p.lv.udp,iV p.lv.echo,iV p.lv.opening,iV p.lv.opn,iV p.lv.closing]
 x:aA wx (w.heap.size + 1) [.slice a x.VN.length ca,.slice b x.VK.length cb]
 r:aA wx (w.heap.size + 1 + 1) [iV 0,eS,iV 0,eS,iV 0]
 b:Below w.heap.size w wx
theorem kP.kept{w:World}{p:Pl}{x:Bb}{pa:OA}{pc:Nat}{a b:OA}{ca cb:Nat}{wx wy:World}(h:kP w p x pa pc a b ca cb wx)(hB:Below wx.heap.size wx wy):kP w p x pa pc a b ca cb wy :=
 ⟨h.p.kept (by simp) hB,h.x.kept (by simp) hB,h.r.kept (by simp) hB,h.b.trans (hB.mono h.b.size)⟩
theorem kP.setY{w:World}{p:Pl}{x:Bb}{pa:OA}{pc:Nat}{a b:OA}{ca cb:Nat}{wx:World}(h:kP w p x pa pc a b ca cb wx){Y:Nat}(hY:w.heap.size + 1 + 1 < Y)(j:Nat)(v:Value):kP w p x pa pc a b ca cb (wx.setCell ⟨Y,j,none⟩ v) :=
 ⟨h.p.setOther (by omega) v,h.x.setOther (by omega) v,h.r.setOther (by omega) v,h.b.setCell (p := ⟨Y,j,none⟩) (by show w.heap.size ≤ Y;omega) v⟩
theorem kP.drewK{w:World}{p:Pl}{x:Bb}{pa:OA}{pc:Nat}{a b:OA}{ca cb:Nat}{wx:World}(h:kP w p x pa pc a b ca cb wx):kP w p x pa pc a b ca cb wx.drew := ⟨h.p.drew,h.x.drew,h.r.drew,h.b.drew⟩

set_option maxRecDepth 100000 in
set_option maxHeartbeats 4000000 in
theorem IH(p:Pl)(x:Bb)(pa:OA)(pc:Nat)(a b:OA)(ca cb:Nat)(VF:Int)(inn:BA)(port:Int)(w:World)(hpo:cU p = true)(hin:inn.size ≤ 1048576)(h0:0 ≤ port)(h1:port ≤ 65535)(hl1:x.VN.length ≤ 1048576)(hl2:x.VK.length ≤ 1048576)(hp:bP cB 1 w pa p.VL)(hr:dC w a b x) :
  Cb 178 #[iK pa pc p,gP a b ca cb x,iV VF,.string inn,iV port] w (.tuple #[gW (gJ p x.VN VF inn port).1,iV (gJ p x.VN VF inn port).2]) := by
 have hpb:1 ≤ p.VL.length ∧ p.VL.length ≤ 8 ∧ 1 ≤ p.low ∧ p.low ≤ p.high ∧ p.high ≤ 65535 := by
  unfold cU at hpo;simp only[UB,UF]at hpo;omega
 obtain⟨hp1,hp8,hlo,hlh,hhi⟩:= hpb
 clear hpo
 have HST:Hid (kP w p x pa pc a b ca cb ((aW (aW w [.slice pa p.VL.length pc,iV p.low,iV p.high,iV p.most,iV p.filter,iV p.lv.udp,iV p.lv.echo,iV p.lv.opening,iV p.lv.opn,iV p.lv.closing] 27) [.slice a x.VN.length ca,.slice b x.VK.length cb] 31).alloc (.cells #[iV 0,eS,iV 0,eS,iV 0] 48))) := by
  have H0 := ((aA.new w [.slice pa p.VL.length pc,iV p.low,iV p.high,iV p.most,iV p.filter,iV p.lv.udp,iV p.lv.echo,iV p.lv.opening,iV p.lv.opn,iV p.lv.closing] 27).alloc (.cells #[.slice a x.VN.length ca,.slice b x.VK.length cb] 31)).alloc (.cells #[iV 0,eS,iV 0,eS,iV 0] 48)
  have H1 := (aA.new (w.alloc (.cells #[.slice pa p.VL.length pc,iV p.low,iV p.high,iV p.most,iV p.filter,iV p.lv.udp,iV p.lv.echo,iV p.lv.opening,iV p.lv.opn,iV p.lv.closing] 27)) [.slice a x.VN.length ca,.slice b x.VK.length cb] 31).alloc (.cells #[iV 0,eS,iV 0,eS,iV 0] 48)
  have H2 := aA.new ((aW w [.slice pa p.VL.length pc,iV p.low,iV p.high,iV p.most,iV p.filter,iV p.lv.udp,iV p.lv.echo,iV p.lv.opening,iV p.lv.opn,iV p.lv.closing] 27).alloc (.cells #[.slice a x.VN.length ca,.slice b x.VK.length cb] 31)) [iV 0,eS,iV 0,eS,iV 0] 48
  rw[UC]at H1 H2
  rw[UC]at H2
  exact⟨H0,H1,H2,((bR.alloc lR _).alloc (by simp) _).alloc (by simp;omega) _⟩
 have HBI:Hid (∀W,Below w.heap.size w W → Cb 33 #[.agg #[.slice a x.VN.length ca,.slice b x.VK.length cb],iV VF,.string inn,iV port] W (iV (bD (cD VF inn port) x.VN))) := fun W hW=>nC x.VN VF inn port a ca _ W hl1 (hr.bd.below hW)
 have HAT:Hid (∀o n W,Below w.heap.size w W → Cb 156 #[.agg #[.slice a x.VN.length ca,.slice b x.VK.length cb],iV VF,.string o,iV n] W (iV (bD (cV VF o n) x.VN))) := fun o n W hW=>EF x.VN VF o n a ca _ W hl1 (hr.bd.below hW)
 have HSM:Hid (∀W,Cb 70 #[.string inn] W (iV (bN inn))) := fun W=>(mJ inn W (by omega)).mono fun e w' h=>⟨h.1,by rw[h.2];exact Below.refl _ _⟩
 have HIS:Hid (∀W,Cw 40 #[iV port,iV p.low,iV p.high] W (.bool (aO port p.low p.high))) := fun W=>fD _ _ _ W
 have hsr := dE inn
 have HV:Hid (gJ p x.VN VF inn port = gJ p x.VN VF inn port) := rfl
 obtain⟨ans,hans⟩: ∃y,y = gJ p x.VN VF inn port := ⟨_,rfl⟩
 rw[←hans]
 have HA:Hid (ans = gJ p x.VN VF inn port) := hans
 have HR:Hid (dC w a b x) := hr
 have HP:Hid (bP cB 1 w pa p.VL) := hp
 unfold iK gP
 clear hp hr hans HV
 go_enter Tryz.func178,Tryz.ntmps178
 go_upto_region 1 with fail
 generalize ((aW (aW w [.slice pa p.VL.length pc,iV p.low,iV p.high,iV p.most,iV p.filter,iV p.lv.udp,iV p.lv.echo,iV p.lv.opening,iV p.lv.opn,iV p.lv.closing] 27) [.slice a x.VN.length ca,.slice b x.VK.length cb] 31).alloc (.cells #[iV 0,eS,iV 0,eS,iV 0] 48)) = W3 at *
 obtain⟨k0,k1⟩:= HST.out.x.c2
 go_wp2_with fail
 refine(HBI.out _ HST.out.b).mono ?_
 rintro e w1 ⟨rfl,q1⟩
 have S1:Hid _ := HST.out.kept q1
 clear q1 k0 k1 HST HBI
 by_cases hf:bD (cD VF inn port) x.VN < 0
 ·have hno := vO _ _ hf
  have HAN:Hid (ans = match jH p x.VN VF (dV x.VN (jO p inn) inn) port with | some n=>(⟨VF,inn,port,dV x.VN (jO p inn) inn,n⟩,0) | none=>(lB,9)) := by unfold Hid;rw[HA.out];unfold gJ;rw[hno];rfl
  have hf':¬0 ≤ bD (cD VF inn port) x.VN := by omega
  generalize bD (cD VF inn port) x.VN = fi at *
  clear hno HA
  go_upto_region 4 with fail
  -- the address by the sum
  obtain⟨ix,hix⟩: ∃ix:Nat,ix = (bN inn).toNat % p.VL.length := ⟨_,rfl⟩
  have hixl:ix < p.VL.length := by rw[hix];exact Nat.mod_lt _ (by omega)
  have hrem:(bN inn) % (p.VL.length:Int) = (ix:Int) := by
   obtain⟨n,hn⟩:= UK hsr.1
   rw[hix,hn,Int.toNat_natCast];rfl
  obtain⟨bp,op,rfl,hbp,hatp⟩:= HP.out.at hixl
  have HPI:Hid (∀W,Below w.heap.size w W → W.cell? ⟨bp,op + ix,none⟩ = some (.string (jO p inn))) := fun W hW=>by
   have h := (hatp.below hbp hW) ix hixl 0 _ rfl
   have e:jO p inn = p.VL[ix] := by unfold jO;rw[←hix,UU hixl];rfl
   rw[e];simpa using h
  have hixI:(ix:Int) < (p.VL.length:Int) := by omega
  have hlen0:¬(p.VL.length:Int) = 0 := by omega
  have hnil:¬p.VL = [] := fun e=>by rw[e]at hp1;simp at hp1
  have hrem2:(bN inn).tmod (p.VL.length:Int) = (ix:Int) := by rw[Int.tmod_eq_emod_of_nonneg hsr.1];exact hrem
  have HDD:Hid (jO p inn = jO p inn) := rfl
  generalize jO p inn = od at *
  generalize bN inn = sv at *
  clear hatp hbp hix HDD
  go_cut [13] (fun v wx=>v = .string od ∧ Below w1.heap.size w1 wx)
  case first=>
   rename_i J K2 hJ hK2
   refine aN [30,31,32,33,34,35,36,37,38,39] (by kernel_rfl) (by kernel_rfl) ?_
   apply bC.v0
   ·rfl
   ·intro K' a wy ho hd hb hK kz
    have o5 := ho 5 (by decide)
    simp[aD]at o5
    clear hd ho
    go_simp
    try go_bits
    exact kz _ rfl
   apply bC.v1
   ·rfl
   ·intro K' a wy ho hd hb hK kz
    have q0 := hd ⟨0,.data⟩ (by simp) rfl
    simp[aU,aG,aD]at q0
    clear hd ho
    have kx := (S1.out.drewK.kept hb);have kp := kx.p.cell (j := 0) rfl;have ki := HPI.out wy kx.b;clear kx
    go_simp
    try go_bits
    exact kz _ rfl
   apply bC.v2
   ·rfl
   ·intro K' a wy ho hd hb hK kz
    have o3 := ho 3 (by decide)
    simp[aD]at o3
    clear hd ho
    go_simp
    try go_bits
    exact kz _ rfl
   apply bC.v3
   ·rfl
   ·intro K' a wy ho hd hb hK kz
    have q2 := hd ⟨2,.data⟩ (by simp) rfl
    simp[aU,aG,aD]at q2
    clear hd ho
    go_simp
    refine(HSM.out wy).mono ?_
    rintro e wz ⟨rfl,hz⟩
    exact hK _ _ rfl hz
   apply bC.v4
   ·rfl
   ·intro K' a wy ho hd hb hK kz
    have o5 := ho 5 (by decide)
    simp[aD]at o5
    clear hd ho
    go_simp
    try go_bits
    exact kz _ rfl
   apply bC.v5
   ·rfl
   ·intro K' a wy ho hd hb hK kz
    have q4 := hd ⟨4,.data⟩ (by simp) rfl
    simp[aU,aG,aD]at q4
    clear hd ho
    have kx := (S1.out.drewK.kept hb);have kp := kx.p.cell (j := 0) rfl;have ki := HPI.out wy kx.b;clear kx
    go_simp
    try go_bits
    exact kz _ rfl
   apply bC.v6
   ·rfl
   ·intro K' a wy ho hd hb hK kz
    have q5 := hd ⟨5,.data⟩ (by simp) rfl
    simp[aU,aG,aD]at q5
    clear hd ho
    go_simp
    try go_bits
    exact kz _ rfl
   apply bC.v7
   ·rfl
   ·intro K' a wy ho hd hb hK kz
    have q3 := hd ⟨3,.data⟩ (by simp) rfl
    simp[aU,aG,aD]at q3
    have q6 := hd ⟨6,.data⟩ (by simp) rfl
    simp[aU,aG,aD]at q6
    clear hd ho
    go_simp
    try go_bits
    exact kz _ rfl
   apply bC.v8
   ·rfl
   ·intro K' a wy ho hd hb hK kz
    have q1 := hd ⟨1,.data⟩ (by simp) rfl
    simp[aU,aG,aD]at q1
    have q7 := hd ⟨7,.data⟩ (by simp) rfl
    simp[aU,aG,aD]at q7
    clear hd ho
    go_simp
    try go_bits
    exact kz _ rfl
   apply bC.v9
   ·rfl
   ·intro K' a wy ho hd hb hK kz
    have q8 := hd ⟨8,.data⟩ (by simp) rfl
    simp[aU,aG,aD]at q8
    clear hd ho
    have kx := (S1.out.drewK.kept hb);have kp := kx.p.cell (j := 0) rfl;have ki := HPI.out wy kx.b;clear kx
    go_simp
    try go_bits
    exact kz _ rfl
   intro X wz hR hz
   obtain⟨x0,x1,x2,x3,x4,x5,x6,x7,x8,x9,-⟩:= hR
   simp only[aG]at x0 x1 x2 x3 x4 x5 x6 x7 x8 x9
   simp only[aE,x0,x1,x2,x3,x4,x5,x6,x7,x8,x9]
   clear x0 x1 x2 x3 x4 x5 x6 x7 x8 x9
   simp only[List.length_cons,List.length_nil,List.drop_succ_cons,List.drop_zero,UI,Nat.reduceAdd]
   intro K9 hK9
   go_simp
   refine hK9 _ _ ?_
   show Exit.then _ _ _ _ _
   refine hK2 _ _ (hJ _ _ ?_)
   (repeat apply Exists.intro)
   refine⟨⟨rfl,(Below.refl _ w1).drew.trans hz⟩,rfl⟩
  case rest=>
   obtain⟨rfl,hb4⟩:= hcut
   have S4:Hid _ := S1.out.kept hb4
   clear hb4 S1 HSM HPI hrem hrem2
   generalize wc = w4 at *
   have k0 := S4.out.x.cell (j := 0) rfl
   go_wp2_with fail
   go_loopw [13,14] (fun ov iv wr=> ∃i:Nat,i ≤ x.VN.length ∧ iv = iV ((i:Int) - 1) ∧ ov = .string (dV (x.VN.drop i) od inn) ∧ kP w p x (some ⟨bp,op,none⟩) pc a b ca cb wr) (fun _ iv _=>(intOf iv + 1).toNat)
   case atStart=>exact⟨x.VN.length,Nat.le_refl _,rfl,by rw[List.drop_length];rfl,S4.out⟩
   case round=>
    obtain⟨i,hi,rfl,rfl,hS⟩:= hrel
    have S5:Hid _ := hS
    have k0 := hS.x.cell (j := 0) rfl
    clear hS S4
    by_cases hi0:0 < i
    ·obtain⟨j,rfl⟩: ∃j,i = j + 1 := ⟨i - 1,by omega⟩
     have hjl:j < x.VN.length := by omega
     obtain⟨bb,ob,rfl,hbb,hatb⟩:= HR.out.bd.at hjl
     have hA := (hatb.below hbb S5.out.b) j hjl
     have HOS:Hid _ := GY (d := od) (inn := inn) hjl
     obtain⟨q,hq⟩: ∃q,q = x.VN[j] := ⟨_,rfl⟩
     rw[←hq]at hA HOS
     have c1:wr.cell? ⟨bb,ob + j * 5 + 1,none⟩ = some (.string q.inn) := hA 1 _ rfl
     have c3:wr.cell? ⟨bb,ob + j * 5 + 3,none⟩ = some (.string q.out) := hA 3 _ rfl
     have hji:((j + 1:Nat):Int) - 1 = (j:Int) := by omega
     rw[hji]
     have hjn:0 ≤ (j:Int) := by omega
     clear hA hatb hbb hq
     by_cases he:q.inn.toList = inn.toList
     ·have hb := gN he
      have HON:Hid (dV (x.VN.drop j) od inn = q.out) := by unfold Hid;rw[HOS.out];unfold cY;rw[if_pos (UE he)]
      clear he
      go_wp2_with fail
      go_roundw
      case rel=>exact⟨j,by omega,by go_num,by rw[HON.out],S5.out⟩
      case measure=>simp[intOf] <;> omega
     ·have hb := oK he
      have HON:Hid (dV (x.VN.drop j) od inn = dV (x.VN.drop (j + 1)) od inn) := by unfold Hid;rw[HOS.out];unfold cY;rw[if_neg (by simp[he])]
      clear he
      go_wp2_with fail
      go_roundw
      case rel=>exact⟨j,by omega,by go_num,by rw[HON.out],S5.out⟩
      case measure=>simp[intOf] <;> omega
    ·have hie:i = 0 := by omega
     subst hie
     rw[List.drop_zero]
     obtain⟨ou,hou⟩: ∃ou,ou = dV x.VN od inn := ⟨_,rfl⟩
     rw[←hou]at HAN ⊢
     clear hou k0
     have B5:Hid (Below wr.heap.size wr (wr.alloc (.cells #[iV VF,.string inn,iV port,.string ou,iV port] 48))) := bR.alloc lR _
     have Y5:Hid (aA (wr.alloc (.cells #[iV VF,.string inn,iV port,.string ou,iV port] 48)) wr.heap.size [iV VF,.string inn,iV port,.string ou,iV port]) := aA.new wr [iV VF,.string inn,iV port,.string ou,iV port] 48
     have hyr:Hid (w.heap.size + 1 + 1 < wr.heap.size) := S5.out.r.lt (by simp)
     go_upto_region 11 with fail
     have S6:Hid _ := S5.out.kept B5.out
     have hYl:wr.heap.size < (wr.alloc (.cells #[iV VF,.string inn,iV port,.string ou,iV port] 48)).heap.size := by simp
     have hYne:w.heap.size + 1 + 1 ≠ wr.heap.size := by have := hyr.out;omega
     generalize (wr.alloc (.cells #[iV VF,.string inn,iV port,.string ou,iV port] 48)) = W6 at *
     generalize wr.heap.size = Y at *
     have hYY:Hid (w.heap.size + 1 + 1 < Y) := hyr.out
     have HTW:Hid (∀n V,kP w p x (some ⟨bp,op,none⟩) pc a b ca cb V → aA V Y [iV VF,.string inn,iV port,.string ou,iV n] → aA (((((V.setCell ⟨w.heap.size + 1 + 1,0,none⟩ (iV VF)).setCell ⟨w.heap.size + 1 + 1,1,none⟩ (.string inn)).setCell ⟨w.heap.size + 1 + 1,2,none⟩ (iV port)).setCell ⟨w.heap.size + 1 + 1,3,none⟩ (.string ou)).setCell ⟨w.heap.size + 1 + 1,4,none⟩ (iV n)) (w.heap.size + 1 + 1) [iV VF,.string inn,iV port,.string ou,iV n] ∧ Below w.heap.size w (((((V.setCell ⟨w.heap.size + 1 + 1,0,none⟩ (iV VF)).setCell ⟨w.heap.size + 1 + 1,1,none⟩ (.string inn)).setCell ⟨w.heap.size + 1 + 1,2,none⟩ (iV port)).setCell ⟨w.heap.size + 1 + 1,3,none⟩ (.string ou)).setCell ⟨w.heap.size + 1 + 1,4,none⟩ (iV n))) := fun n V hS hY=>
      ⟨((((hS.r.set 0 (iV VF)).set 1 (.string inn)).set 2 (iV port)).set 3 (.string ou)).set 4 (iV n),((((hS.b.setCell (p := ⟨w.heap.size + 1 + 1,0,none⟩) (by show w.heap.size ≤ w.heap.size + 1 + 1;omega) _).setCell (p := ⟨w.heap.size + 1 + 1,1,none⟩) (by show w.heap.size ≤ w.heap.size + 1 + 1;omega) _).setCell (p := ⟨w.heap.size + 1 + 1,2,none⟩) (by show w.heap.size ≤ w.heap.size + 1 + 1;omega) _).setCell (p := ⟨w.heap.size + 1 + 1,3,none⟩) (by show w.heap.size ≤ w.heap.size + 1 + 1;omega) _).setCell (p := ⟨w.heap.size + 1 + 1,4,none⟩) (by show w.heap.size ≤ w.heap.size + 1 + 1;omega) _⟩
     have HFR:Hid (∀n,dS x.VN VF ou n = decide (bD (cV VF ou n) x.VN < 0)) := fun _=>rfl
     have HLN:Hid (jH p x.VN VF ou port = if (aO port p.low p.high && dS x.VN VF ou port) = true then some port else match cQ (fun n=>decide (n % 2 = port % 2) && dS x.VN VF ou n) p.low (p.high - p.low + 1).toNat with | some n=>some n | none=>cQ (dS x.VN VF ou) p.low (p.high - p.low + 1).toNat) := rfl
     obtain⟨-,z1,z2⟩:= S6.out.p.c3
     obtain⟨k0,k1⟩:= S6.out.x.c2
     clear S5 B5
     go_cut [81] (fun v wx=>v = .bool (aO port p.low p.high && dS x.VN VF ou port) ∧ Below W6.heap.size W6 wx)
     case first=>
      have hun:undef = Value.tuple #[] := rfl
      cases hisb:aO port p.low p.high with
      | false=>
       go_wp2_with fail
       refine(HIS.out _).mono ?_
       rw[hisb]
       rintro e w7 ⟨rfl,rfl⟩
       go_wp2_with fail
       go_meet
       exact⟨by rw[hisb];rfl,Below.refl _ _⟩
      | true=>
       go_wp2_with fail
       refine(HIS.out _).mono ?_
       rw[hisb]
       rintro e w7 ⟨rfl,rfl⟩
       go_wp2_with fail
       refine(HAT.out ou port _ S6.out.b).mono ?_
       rintro e w8 ⟨rfl,q8⟩
       have Q8:Hid _ := q8
       have HFP:Hid (dS x.VN VF ou port = decide (bD (cV VF ou port) x.VN < 0)) := HFR.out port
       clear q8
       generalize bD (cV VF ou port) x.VN = fp at *
       by_cases hfp:fp < 0
       ·go_wp2_with fail
        go_meet
        exact⟨by rw[hisb,HFP.out];simp[hfp],Q8.out⟩
       ·go_wp2_with fail
        go_meet
        exact⟨by rw[hisb,HFP.out];simp[hfp],Q8.out⟩
     case rest=>
      obtain⟨rfl,hb7⟩:= hcut
      have S7:Hid _ := S6.out.kept hb7
      have Y7:Hid _ := Y5.out.kept (by simp) hb7
      clear hb7 S6 Y5 z1 z2 k0 k1 HIS
      cases hc7:(aO port p.low p.high && dS x.VN VF ou port) with
      | true=>
       have HAN2:Hid (ans = (⟨VF,inn,port,ou,port⟩,0)) := by unfold Hid;rw[HAN.out,HLN.out,hc7];rfl
       obtain⟨y0,y1,y2,y3,y4⟩:= Y7.out.c5
       obtain⟨r0,r1,r2,r3,r4⟩:= S7.out.r.c5
       obtain⟨f0,f1,f2,f3,f4⟩:= S7.out.r.f5
       obtain⟨t1,t2⟩:= HTW.out port wc S7.out Y7.out
       have T1:Hid _ := t1
       have T2:Hid _ := t2
       clear t1 t2
       go_wp2_with fail
       have u0 := T1.out.cell (j := 0) (v := iV VF) rfl
       have u1 := T1.out.cell (j := 1) (v := .string inn) rfl
       have u2 := T1.out.cell (j := 2) (v := iV port) rfl
       have u3 := T1.out.cell (j := 3) (v := .string ou) rfl
       have u4 := T1.out.cell (j := 4) (v := iV port) rfl
       refine VB (v := .tuple #[.agg #[iV VF,.string inn,iV port,.string ou,iV port],iV 0]) (by simp[results,Tryz.results178,go_sem,u0,u1,u2,u3,u4]) rfl ?_
       exact⟨by rw[HAN2.out];rfl,T2.out⟩
      | false=>
       rw[hc7,if_neg (by decide)]at HLN
       go_wp2_with fail
       go_loopw [16] (fun tv wr=> ∃t:Nat,t ≤ 2 ∧ tv = iV t ∧ (1 ≤ t → cQ (fun n=>decide (n % 2 = port % 2) && dS x.VN VF ou n) p.low (p.high - p.low + 1).toNat = none) ∧ (2 ≤ t → cQ (dS x.VN VF ou) p.low (p.high - p.low + 1).toNat = none) ∧ kP w p x (some ⟨bp,op,none⟩) pc a b ca cb wr ∧ aA wr Y [iV VF,.string inn,iV port,.string ou,iV port]) (fun tv _=>2 - (intOf tv).toNat)
       case atStart=>exact⟨0,by omega,rfl,fun h=>by omega,fun h=>by omega,S7.out,Y7.out⟩
       case round=>
        obtain⟨t,ht,rfl,hn0,hn1,hS,hY⟩:= hrel
        have N0:Hid (1 ≤ t → cQ (fun n=>decide (n % 2 = port % 2) && dS x.VN VF ou n) p.low (p.high - p.low + 1).toNat = none) := hn0
        have N1:Hid (2 ≤ t → cQ (dS x.VN VF ou) p.low (p.high - p.low + 1).toNat = none) := hn1
        have S8:Hid _ := hS
        have Y8:Hid _ := hY
        clear hn0 hn1 hS hY S7 Y7
        generalize wr = w9 at *
        by_cases htl:t < 2
        ·obtain⟨f,hfd⟩: ∃f:Int → Bool,f = if t = 0 then (fun n=>decide (n % 2 = port % 2) && dS x.VN VF ou n) else (dS x.VN VF ou) := ⟨_,rfl⟩
         have HFD:Hid (f = if t = 0 then (fun n=>decide (n % 2 = port % 2) && dS x.VN VF ou n) else (dS x.VN VF ou)) := hfd
         have z1 := S8.out.p.cell (j := 1) rfl
         have htI:(t:Int) < 2 := by omega
         clear hfd
         go_wp2_with fail
         go_loopw [17] (fun nv wr=> ∃n:Int,p.low ≤ n ∧ n ≤ p.high + 1 ∧ nv = iV n ∧ cQ f p.low (p.high - p.low + 1).toNat = cQ f n (p.high - n + 1).toNat ∧ kP w p x (some ⟨bp,op,none⟩) pc a b ca cb wr ∧ aA wr Y [iV VF,.string inn,iV port,.string ou,iV port]) (fun nv _=>(p.high + 1 - intOf nv).toNat)
         case atStart=>exact⟨p.low,by omega,by omega,rfl,rfl,S8.out,Y8.out⟩
         case round=>
          obtain⟨n,hn1,hn2,rfl,hle,hS,hY⟩:= hrel
          have HLE:Hid (cQ f p.low (p.high - p.low + 1).toNat = cQ f n (p.high - n + 1).toNat) := hle
          have S9:Hid _ := hS
          have Y9:Hid _ := hY
          have z2 := hS.p.cell (j := 2) rfl
          obtain⟨k0,k1⟩:= hS.x.c2
          clear hle hS hY S8 Y8 z1
          by_cases hnl:n ≤ p.high
          ·have HSTP:Hid _ := nG (f := f) hnl
           have hn0:0 ≤ n := by omega
           have hn3:n ≤ 65535 := by omega
           go_upto_region 19 with fail
           go_cut [111] (fun v wx=>v = .bool (f n) ∧ Below wr.heap.size wr wx)
           case first=>
            have hun:undef = Value.tuple #[] := rfl
            have HFP:Hid (dS x.VN VF ou n = decide (bD (cV VF ou n) x.VN < 0)) := HFR.out n
            by_cases ht0:t = 0
            ·subst ht0
             have HFN:Hid (f n = (decide (n % 2 = port % 2) && dS x.VN VF ou n)) := by unfold Hid;rw[HFD.out];rfl
             by_cases hpar:n % 2 = port % 2
             ·go_wp2_with fail
              refine(HAT.out ou n _ S9.out.b).mono ?_
              rintro e wa ⟨rfl,qa⟩
              have QA:Hid _ := qa
              clear qa
              generalize bD (cV VF ou n) x.VN = fp at *
              by_cases hfp:fp < 0
              ·go_wp2_with fail
               go_meet
               exact⟨by rw[HFN.out,HFP.out] <;> simp[hfp,hpar],QA.out⟩
              ·go_wp2_with fail
               go_meet
               exact⟨by rw[HFN.out,HFP.out] <;> simp[hfp,hpar],QA.out⟩
             ·go_wp2_with fail
              go_meet
              exact⟨by rw[HFN.out];simp[hpar],Below.refl _ _⟩
            ·have ht1:t = 1 := by omega
             subst ht1
             have HFN:Hid (f n = dS x.VN VF ou n) := by unfold Hid;rw[HFD.out];rfl
             go_wp2_with fail
             refine(HAT.out ou n _ S9.out.b).mono ?_
             rintro e wa ⟨rfl,qa⟩
             have QA:Hid _ := qa
             clear qa
             generalize bD (cV VF ou n) x.VN = fp at *
             by_cases hfp:fp < 0
             ·go_wp2_with fail
              go_meet
              exact⟨by rw[HFN.out,HFP.out] <;> simp[hfp],QA.out⟩
             ·go_wp2_with fail
              go_meet
              exact⟨by rw[HFN.out,HFP.out] <;> simp[hfp],QA.out⟩
           case rest=>
            obtain⟨rfl,hba⟩:= hcut
            have SA:Hid _ := S9.out.kept hba
            have YA:Hid _ := Y9.out.kept (by simp) hba
            clear hba S9 Y9 z2 k0 k1
            cases hfn:f n with
            | true=>
             have HLN2:Hid (jH p x.VN VF ou port = some n) := by
              have e1:cQ f p.low (p.high - p.low + 1).toNat = some n := by rw[HLE.out,HSTP.out,if_pos hfn]
              unfold Hid
              rw[HLN.out]
              by_cases ht0:t = 0
              ·have e2:f = (fun n=>decide (n % 2 = port % 2) && dS x.VN VF ou n) := by rw[HFD.out,if_pos ht0]
               rw[←e2,e1]
              ·have e2:f = (dS x.VN VF ou) := by rw[HFD.out,if_neg ht0]
               rw[N0.out (by omega),←e2,e1]
             have HAN2:Hid (ans = (⟨VF,inn,port,ou,n⟩,0)) := by unfold Hid;rw[HAN.out,HLN2.out]
             have v4 := YA.out.cell (j := 4) rfl
             have g4 := YA.out.free (j := 4) (by simp)
             have SB:Hid _ := SA.out.setY hYY.out 4 (iV n)
             have YB:Hid (aA (wc.setCell ⟨Y,4,none⟩ (iV n)) Y [iV VF,.string inn,iV port,.string ou,iV n]) := YA.out.set 4 (iV n)
             clear hfn
             go_upto_region 21 with fail
             generalize wc.setCell ⟨Y,4,none⟩ (iV n) = WB at *
             clear v4 g4
             obtain⟨y0,y1,y2,y3,y4⟩:= YB.out.c5
             obtain⟨r0,r1,r2,r3,r4⟩:= SB.out.r.c5
             obtain⟨f0,f1,f2,f3,f4⟩:= SB.out.r.f5
             obtain⟨t1,t2⟩:= HTW.out n WB SB.out YB.out
             have T1:Hid _ := t1
             have T2:Hid _ := t2
             clear t1 t2
             go_wp2_with fail
             have u0 := T1.out.cell (j := 0) (v := iV VF) rfl
             have u1 := T1.out.cell (j := 1) (v := .string inn) rfl
             have u2 := T1.out.cell (j := 2) (v := iV port) rfl
             have u3 := T1.out.cell (j := 3) (v := .string ou) rfl
             have u4 := T1.out.cell (j := 4) (v := iV n) rfl
             refine VB (v := .tuple #[.agg #[iV VF,.string inn,iV port,.string ou,iV n],iV 0]) (by simp[results,Tryz.results178,go_sem,u0,u1,u2,u3,u4]) rfl ?_
             exact⟨by rw[HAN2.out];rfl,T2.out⟩
            | false=>
             have HL2:Hid (cQ f p.low (p.high - p.low + 1).toNat = cQ f (n + 1) (p.high - (n + 1) + 1).toNat) := by unfold Hid;rw[HLE.out,HSTP.out,if_neg (by rw[hfn];decide)]
             clear hfn
             go_wp2_with fail
             go_roundw
             case rel=>exact⟨n + 1,by omega,by omega,rfl,HL2.out,SA.out,YA.out⟩
             case measure=>simp[intOf] <;> omega
          ·have HNO:Hid (cQ f p.low (p.high - p.low + 1).toNat = none) := by unfold Hid;rw[HLE.out];exact rO (by omega)
           go_wp2_with fail
           go_roundw
           case rel=>
            refine⟨t + 1,by omega,by go_num,fun h=> ?_,fun h=> ?_,S9.out,Y9.out⟩
            ·by_cases ht0:t = 0
             ·have := HNO.out;rw[HFD.out,if_pos ht0]at this;exact this
             ·exact N0.out (by omega)
            ·have ht0:¬t = 0 := by omega
             have := HNO.out;rw[HFD.out,if_neg ht0]at this;exact this
           case measure=>simp[intOf] <;> omega
        ·have ht2:t = 2 := by omega
         subst ht2
         have HAN2:Hid (ans = (lB,9)) := by unfold Hid;rw[HAN.out,HLN.out,N0.out (by omega),N1.out (by omega)]
         obtain⟨r0,r1,r2,r3,r4⟩:= S8.out.r.c5
         obtain⟨f0,f1,f2,f3,f4⟩:= S8.out.r.f5
         have T1:Hid _ := (((((S8.out.r.set 0 (iV 0)).set 1 eS).set 2 (iV 0)).set 3 eS).set 4 (iV 0))
         have T2:Hid _ := (((((S8.out.b.setCell (p := ⟨w.heap.size + 1 + 1,0,none⟩) (by show w.heap.size ≤ w.heap.size + 1 + 1;omega) (iV 0)).setCell (p := ⟨w.heap.size + 1 + 1,1,none⟩) (by show w.heap.size ≤ w.heap.size + 1 + 1;omega) eS).setCell (p := ⟨w.heap.size + 1 + 1,2,none⟩) (by show w.heap.size ≤ w.heap.size + 1 + 1;omega) (iV 0)).setCell (p := ⟨w.heap.size + 1 + 1,3,none⟩) (by show w.heap.size ≤ w.heap.size + 1 + 1;omega) eS).setCell (p := ⟨w.heap.size + 1 + 1,4,none⟩) (by show w.heap.size ≤ w.heap.size + 1 + 1;omega) (iV 0))
         go_wp2_with fail
         have u0 := T1.out.cell (j := 0) (v := iV 0) rfl
         have u1 := T1.out.cell (j := 1) (v := eS) rfl
         have u2 := T1.out.cell (j := 2) (v := iV 0) rfl
         have u3 := T1.out.cell (j := 3) (v := eS) rfl
         have u4 := T1.out.cell (j := 4) (v := iV 0) rfl
         refine VB (v := .tuple #[.agg #[iV 0,eS,iV 0,eS,iV 0],iV 9]) (by simp[results,Tryz.results178,go_sem,u0,u1,u2,u3,u4]) rfl ?_
         exact⟨by rw[HAN2.out];rfl,T2.out⟩
 ·obtain⟨i,hi,hfi,hfd⟩:= nR _ _ hf
  have HAN:Hid (ans = (x.VN[i],0)) := by unfold Hid;rw[HA.out];unfold gJ;rw[hfd]
  rw[hfi]
  obtain⟨bb,ob,rfl,hbb,hatb⟩:= HR.out.bd.at hi
  have hA := (hatb.below hbb S1.out.b) i hi
  obtain⟨q,hq⟩: ∃q,q = x.VN[i] := ⟨_,rfl⟩
  rw[←hq]at hA HAN
  have c0:w1.cell? ⟨bb,ob + i * 5,none⟩ = some (iV q.VF) := hA 0 _ rfl
  have c1:w1.cell? ⟨bb,ob + i * 5 + 1,none⟩ = some (.string q.inn) := hA 1 _ rfl
  have c2:w1.cell? ⟨bb,ob + i * 5 + 2,none⟩ = some (iV q.VH) := hA 2 _ rfl
  have c3:w1.cell? ⟨bb,ob + i * 5 + 3,none⟩ = some (.string q.out) := hA 3 _ rfl
  have c4:w1.cell? ⟨bb,ob + i * 5 + 4,none⟩ = some (iV q.VI) := hA 4 _ rfl
  have k0 := S1.out.x.cell (j := 0) rfl
  have hiI:(i:Int) < (x.VN.length:Int) := by omega
  clear hatb hbb hq hA hf hfi hfd HA
  obtain⟨r0,r1,r2,r3,r4⟩:= S1.out.r.c5
  obtain⟨f0,f1,f2,f3,f4⟩:= S1.out.r.f5
  have T1:Hid _ := (((((S1.out.r.set 0 (iV q.VF)).set 1 (.string q.inn)).set 2 (iV q.VH)).set 3 (.string q.out)).set 4 (iV q.VI))
  have T2:Hid _ := (((((S1.out.b.setCell (p := ⟨w.heap.size + 1 + 1,0,none⟩) (by show w.heap.size ≤ w.heap.size + 1 + 1;omega) (iV q.VF)).setCell (p := ⟨w.heap.size + 1 + 1,1,none⟩) (by show w.heap.size ≤ w.heap.size + 1 + 1;omega) (.string q.inn)).setCell (p := ⟨w.heap.size + 1 + 1,2,none⟩) (by show w.heap.size ≤ w.heap.size + 1 + 1;omega) (iV q.VH)).setCell (p := ⟨w.heap.size + 1 + 1,3,none⟩) (by show w.heap.size ≤ w.heap.size + 1 + 1;omega) (.string q.out)).setCell (p := ⟨w.heap.size + 1 + 1,4,none⟩) (by show w.heap.size ≤ w.heap.size + 1 + 1;omega) (iV q.VI))
  go_wp2_with fail
  have u0 := T1.out.cell (j := 0) (v := iV q.VF) rfl
  have u1 := T1.out.cell (j := 1) (v := .string q.inn) rfl
  have u2 := T1.out.cell (j := 2) (v := iV q.VH) rfl
  have u3 := T1.out.cell (j := 3) (v := .string q.out) rfl
  have u4 := T1.out.cell (j := 4) (v := iV q.VI) rfl
  refine VB (v := .tuple #[.agg #[iV q.VF,.string q.inn,iV q.VH,.string q.out,iV q.VI],iV 0]) (by simp[results,Tryz.results178,go_sem,u0,u1,u2,u3,u4]) rfl ?_
  exact⟨by rw[HAN.out];rfl,T2.out⟩

end Go.Proofs.YtdkepkaflielhaaGreatDoor
namespace Go.Proofs.YtdkepkaflielhaaGreatDoor
open Go.RowKit Go.PlainAid
def bbZ:Bb:=⟨[],[]⟩
def jE(cs:List Value):Value→World→Prop:=fun v w=>∃g,v=.slice (some ⟨g,0,none⟩) 1 1∧aA w g cs
theorem gD(cs:List Value)(hl:0 < cs.length):eZ (jE cs):=fun v w w' ⟨g,h1,h2⟩ hb=>⟨g,h1,h2.kept hl hb⟩
structure iB(w:World)(base O:Nat)(ks:List (Nat × List Value))(bv sv:Value)(ys:List Bd)(zs:List Ss)(wx:World):Prop where
 o:aA wx O [bv,sv]
 bo:wx.ownsRow base 48 5 bv ys.length (dL dP ys)
 so:wx.ownsRow base 59 7 sv zs.length (dL fZ zs)
 ne:∀g,bv.ownBlock=some g→sv.ownBlock=some g→False
 b:Below w.heap.size w wx
 k:∀e∈ks,aA wx e.1 e.2
 lo:w.heap.size≤O
 hi:O < base
 hb:base≤wx.heap.size
 kb:∀e∈ks,e.1 < base∧e.1≠O∧0 < e.2.length
section
variable {w:World} {base O:Nat} {ks:List (Nat × List Value)} {bv sv:Value} {ys:List Bd} {zs:List Ss} {wx wy:World}
theorem iB.at{a:Nat}{l:List Value}(h:iB w base O ks bv sv ys zs wx)(hm:(a,l)∈ks):aA wx a l:=h.k _ hm
theorem iB.kept(h:iB w base O ks bv sv ys zs wx)(hB:Below wx.heap.size wx wy):iB w base O ks bv sv ys zs wy :=
 ⟨h.o.kept (by simp) hB,fY h.bo hB,fY h.so hB,h.ne,h.b.trans (hB.mono h.b.size),fun e he=>(h.k e he).kept (h.kb e he).2.2 hB,h.lo,h.hi,UL h.hb hB.size,h.kb⟩
theorem iB.start{w:World}{O:Nat}{wx:World}(ks:List (Nat × List Value))(ho:aA wx O [.slice none 0 0,.slice none 0 0])(hb:Below w.heap.size w wx)(hk:∀e∈ks,aA wx e.1 e.2)(hl:w.heap.size≤O)(hkb:∀e∈ks,e.1 < wx.heap.size∧e.1≠O∧0 < e.2.length):iB w wx.heap.size O ks (.slice none 0 0) (.slice none 0 0) [] [] wx :=
 ⟨ho,⟨by simp[dL],.inl ⟨rfl,rfl⟩⟩,⟨by simp[dL],.inl ⟨rfl,rfl⟩⟩,fun g e=>by simp[Value.ownBlock]at e,hb,hk,hl,ho.lt (by simp),Nat.le_refl _,hkb⟩
theorem iB.appS(h:iB w base O ks bv sv ys zs wx)(q:Ss)(g:Nat)(hg:aA wx g (fZ q))(jD:zs.length≤1048576) :
  ∃v6 w6,(Builtin.append_ #[29,29] 29 #[sv,.slice (some ⟨g,0,none⟩) 1 1]).run Tryz.prog wx=.ok v6 w6∧(∃gg l c,v6=.slice (some ⟨gg,0,none⟩) l c)∧aA w6 O [bv,sv]∧iB w base O ks bv v6 ys (zs++[q]) (w6.setCell ⟨O,1,none⟩ v6):=by
 obtain⟨i0,hi,hz0,hz1,hz2⟩:=info_parts Tryz.infoSs;have hOb:=h.hi;have hlo:=h.lo;have hbb:=h.hb;obtain⟨v6,w6,hrun,h62,h63,h64,h65⟩:=run_append_own_at (P:=Tryz.prog) wx base 29 29 59 i0 _ 7 _ Tryz.underlying29 hi hz0 hz1 hz2 rfl (by decide) sv _ _ h.so ⟨g,0,none⟩ 1 1 (fZ q) rfl (fun i u hu=>by rw[rK];exact hg.cell hu) (BQ q) (by unfold maxLen;omega) (by omega) h.hb;have hnr:∀X,X < base→some X≠sv.ownBlock:=fun X hX e=>dX h.so hX e.symm
 have n6:v6.ownBlock≠some O:=by
  rcases h65 with h7|h7<;>rw[h7]
  ·exact dX h.so (by omega)
  ·intro e;injection e with e;omega
 have hO:=h.o.grown (by simp) h63 (hnr _ (by omega));have hne:∀g,bv.ownBlock=some g→v6.ownBlock=some g→False:=by
  intro g e1 e2;rcases h65 with h7|h7
  ·exact h.ne g e1 (h7 ▸ e2)
  ·rw[h7]at e2;injection e2 with e3
   have:=(fC h.bo e1).2;omega
 have hold:=World.ownsRow.kept h.bo h63 (by
  by_cases e:bv.ownBlock=none
  ·exact .inl e
  ·refine .inr (fun e2=>?_);obtain⟨k,hk⟩:=Option.ne_none_iff_exists'.1 e;exact h.ne k hk (e2 ▸ hk))
 have hsz:base≤(w6.setCell ⟨O,1,none⟩ v6).heap.size:=by simp;exact UL h.hb h63.size
 refine⟨v6,w6,hrun,?_,hO,hO.set 1 v6,cG hold (dX h.bo (by omega)),cG (by rw[kB,List.length_append];exact h62) n6,hne,(oJ h.b h63 (fun k e=>by have:=(fC h.so e).1;omega)).setCell (p:=⟨O,1,none⟩) hlo v6,fun e he=>((h.k e he).grown (h.kb e he).2.2 h63 (hnr _ (h.kb e he).1)).setOther (h.kb e he).2.1 v6,h.lo,h.hi,hsz,h.kb⟩;rcases h62.2 with ⟨_,h0⟩|⟨gg,c6,_,h6,_⟩
 ·simp at h0
 ·exact⟨gg,_,c6,h6⟩
theorem iB.appB(h:iB w base O ks bv sv ys zs wx)(q:Bd)(g:Nat)(hg:aA wx g (dP q))(jD:ys.length≤1048576) :
  ∃v6 w6,(Builtin.append_ #[28,28] 28 #[bv,.slice (some ⟨g,0,none⟩) 1 1]).run Tryz.prog wx=.ok v6 w6∧(∃gg l c,v6=.slice (some ⟨gg,0,none⟩) l c)∧aA w6 O [bv,sv]∧iB w base O ks v6 sv (ys++[q]) zs (w6.setCell ⟨O,0,none⟩ v6):=by
 obtain⟨i0,hi,hz0,hz1,hz2⟩:=info_parts Tryz.infoBd;have hOb:=h.hi;have hlo:=h.lo;have hbb:=h.hb;obtain⟨v6,w6,hrun,h62,h63,h64,h65⟩:=run_append_own_at (P:=Tryz.prog) wx base 28 28 48 i0 _ 5 _ Tryz.underlying28 hi hz0 hz1 hz2 rfl (by decide) bv _ _ h.bo ⟨g,0,none⟩ 1 1 (dP q) rfl (fun i u hu=>by rw[rK];exact hg.cell hu) (zX q) (by unfold maxLen;omega) (by omega) h.hb;have hnr:∀X,X < base→some X≠bv.ownBlock:=fun X hX e=>dX h.bo hX e.symm
 have n6:v6.ownBlock≠some O:=by
  rcases h65 with h7|h7<;>rw[h7]
  ·exact dX h.bo (by omega)
  ·intro e;injection e with e;omega
 have hO:=h.o.grown (by simp) h63 (hnr _ (by omega));have hne:∀g,v6.ownBlock=some g→sv.ownBlock=some g→False:=by
  intro g e1 e2;rcases h65 with h7|h7
  ·exact h.ne g (h7 ▸ e1) e2
  ·rw[h7]at e1;injection e1 with e3
   have:=(fC h.so e2).2;omega
 have hold:=World.ownsRow.kept h.so h63 (by
  by_cases e:sv.ownBlock=none
  ·exact .inl e
  ·refine .inr (fun e2=>?_);obtain⟨k,hk⟩:=Option.ne_none_iff_exists'.1 e;exact h.ne k (e2 ▸ hk) hk)
 have hsz:base≤(w6.setCell ⟨O,0,none⟩ v6).heap.size:=by simp;exact UL h.hb h63.size
 refine⟨v6,w6,hrun,?_,hO,hO.set 0 v6,cG (by rw[kB,List.length_append];exact h62) n6,cG hold (dX h.so (by omega)),hne,(oJ h.b h63 (fun k e=>by have:=(fC h.bo e).1;omega)).setCell (p:=⟨O,0,none⟩) hlo v6,fun e he=>((h.k e he).grown (h.kb e he).2.2 h63 (hnr _ (h.kb e he).1)).setOther (h.kb e he).2.1 v6,h.lo,h.hi,hsz,h.kb⟩;rcases h62.2 with ⟨_,h0⟩|⟨gg,c6,_,h6,_⟩
 ·simp at h0
 ·exact⟨gg,_,c6,h6⟩
theorem iB.shapes(h:iB w base O ks bv sv ys zs wx):(∃a cap,bv=.slice a ys.length cap∧ys.length≤cap∧eX dP 5 base wx a ys)∧∃a cap,sv=.slice a zs.length cap∧zs.length≤cap∧eX fZ 7 base wx a zs :=
 ⟨xV.shape eC (w0:=wx) ⟨h.bo,Below.refl _ _⟩,xV.shape eD (w0:=wx) ⟨h.so,Below.refl _ _⟩⟩
end
end Go.Proofs.YtdkepkaflielhaaGreatDoor
