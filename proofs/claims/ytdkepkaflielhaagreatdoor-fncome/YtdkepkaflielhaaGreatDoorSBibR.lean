import Derived.Test.YtdkepkaflielhaaGreatDoorSz
import Derived.Test.YtdkepkaflielhaaGreatDoorAb
import Derived.Test.YtdkepkaflielhaaGreatDoorUni
import Derived.Test.YtdkepkaflielhaaGreatDoorSSess
import Derived.Test.YtdkepkaflielhaaGreatDoorSBib2
import Derived.Test.YtdkepkaflielhaaGreatDoorGrowV
set_option linter.unusedVariables false
set_option linter.unusedSimpArgs false
set_option maxRecDepth 100000
set_option maxHeartbeats 8000000
namespace Go.Proofs.YtdkepkaflielhaaGreatDoor
open Go.RowKit Go.PlainAid
theorem all_take {α:Type} (f:α→Bool) (xs:List α) (i:Nat) (h:i < xs.length):(xs.take (i+1)).all f=((xs.take i).all f&&f xs[i]):=by
 rw [List.take_succ_eq_append_getElem h,List.all_append]; simp
theorem all_no {α:Type} (f:α→Bool) (xs:List α) (i:Nat) (h:i < xs.length) (hf:f xs[i]=false):xs.all f=false:=by
 rw [List.all_eq_false]; exact ⟨_,List.getElem_mem h,by simp [hf]⟩
theorem specBib_any (p:Pl) (x:Bb) (pa:Option Addr) (pc:Nat) (a b:Option Addr) (ca cb:Nat) (w:World) (hlp:p.addrs.length≤1048576) (hpc:p.addrs.length≤pc) (hsz:∀ s∈p.addrs,s.size≤1048576) (hl1:x.binds.length≤1048576) (hl2:x.sess.length≤1048576) (hp:SlIs strL1 1 w pa p.addrs) (hr:BbIs w a b x) :
  Cb 13 #[plC pa pc p,bbC a b ca cb x] w (.bool (bibOk p x)):=by
 have HB:Hid (Below w.z w ((aW w (PlV pa pc p) 27).alloc (.cells (BbV a ca b cb x).toArray 31))):=(bR.alloc lR _).alloc (by simp) _;have H0:=(HoldsL.new w (PlV pa pc p) 27).alloc (.cells (BbV a ca b cb x).toArray 31);have H1:=HoldsL.new (w.alloc (.cells (PlV pa pc p).toArray 27)) (BbV a ca b cb x) 31;rw [World.size_alloc] at H1;have hs2:((aW w (PlV pa pc p) 27).alloc (.cells (BbV a ca b cb x).toArray 31)).heap.size=w.z+1+1:=by simp
 have HP:Hid (∀ W,Below w.z w W→Cb 34 #[plC pa pc p] W (.bool (poolOk p))):=fun W hW=>specPool_any p pa pc W hlp hpc hsz (hp.below hW)
 have HBD:Hid (∀ W,Below w.z w W→Cb 35 #[plC pa pc p,.slice a x.binds.length ca] W (.bool (upN (bindOne p) x.binds x.binds.length))):=fun W hW=>spBinds_any p x.binds pa pc a ca W hlp hl1 (hp.below hW) (hr.bd.below hW)
 have HSS:Hid (∀ W,Below w.z w W→Cb 36 #[bbC a b ca cb x] W (.bool (upN (sessOne x.binds) x.sess x.sess.length))):=fun W hW=>spSess_any x a b ca cb W hl1 hl2 (hr.below hW)
 have HV:Hid (bibOk p x=(poolOk p&&decide ((x.sess.length:Int)≤p.most)&&decide (x.binds.length≤60)&&upN (bindOne p) x.binds x.binds.length&&upN (sessOne x.binds) x.sess x.sess.length&&x.binds.all fun y=>x.sess.any fun s=>hasS y s)):=rfl;generalize bibOk p x=ans at *;generalize poolOk p=b1 at *;generalize upN (bindOne p) x.binds x.binds.length=b4 at *;generalize upN (sessOne x.binds) x.sess x.sess.length=b5 at *;have G0:Hid _:=H0;have G1:Hid _:=H1;have HR:Hid (BbIs w a b x):=hr;unfold plC at HP HBD ⊢;unfold bbC at HSS ⊢;clear hp hr H0 H1;go_enter Tryz.func13,Tryz.ntmps13
 go_upto_region 1 with fail
 generalize World.alloc _ _=W2 at *;obtain ⟨r1,hr1⟩ : ∃ r,r=(b1&&decide ((x.sess.length:Int)≤p.most)&&decide (x.binds.length≤60)&&b4&&b5):=⟨_,rfl⟩;have HRV:Hid (r1=_):=hr1;rw [← hr1] at HV;clear hr1;go_cut [36] (fun v wx=>v=.bool (!r1)∧Below W2.heap.size W2 wx)
 case first =>
  have hun:undef=Value.tuple #[]:=rfl;obtain ⟨z0,z1,z2,z3,z4,z5,z6,z7,z8,z9⟩:=G0.out.c10;go_wp2_with fail
  refine (HP.out _ HB.out).mono ?_;rintro e w1 ⟨rfl,q1⟩;have Q1:Hid (Below W2.heap.size W2 w1):=q1;have B1:Hid _:=HB.out.trans (q1.mono HB.out.size);have K0:=G0.out.kept (by simp) q1;have K1:=G1.out.kept (by simp) q1;clear q1 z0 z1 z2 z3 z4 z5 z6 z7 z8 z9;obtain ⟨y0,y1,y2,y3,y4,y5,y6,y7,y8,y9⟩:=K0.c10;obtain ⟨k0,k1⟩:=K1.c2;clear K0 K1
  cases b1 with
  | false =>
   go_wp2_with fail
   go_meet;exact ⟨by rw [HRV.out]; simp,Q1.out⟩
  | true =>
   by_cases h2:p.most < (x.sess.length:Int)
   ·go_wp2_with fail
    go_meet;exact ⟨by rw [HRV.out,decide_eq_false (show ¬ (x.sess.length:Int)≤p.most by omega)]; simp,Q1.out⟩
   ·by_cases h3:60 < x.binds.length
    ·have h3':(60:Int) < (x.binds.length:Int):=by omega
     go_wp2_with fail
     go_meet;exact ⟨by rw [HRV.out,decide_eq_false (show ¬ x.binds.length≤60 by omega)]; simp,Q1.out⟩
    ·have h3':¬ (60:Int) < (x.binds.length:Int):=by omega
     rw [decide_eq_true (show (x.sess.length:Int)≤p.most by omega),decide_eq_true (show x.binds.length≤60 by omega)] at HRV;go_wp2_with fail
     refine (HBD.out _ B1.out).mono ?_;rintro e w2 ⟨rfl,q2⟩;have Q2:Hid _:=Q1.out.trans (q2.mono Q1.out.size);have B2:Hid _:=B1.out.trans (q2.mono B1.out.size);have K1:=G1.out.kept (by simp) Q2.out;clear q2 k0 k1 y0 y1 y2 y3 y4 y5 y6 y7 y8 y9;obtain ⟨k0,k1⟩:=K1.c2;clear K1
     cases b4 with
     | false =>
      go_wp2_with fail
      go_meet;exact ⟨by rw [HRV.out]; simp<;>omega,Q2.out⟩
     | true =>
      go_wp2_with fail
      refine (HSS.out _ B2.out).mono ?_;rintro e w3 ⟨rfl,q3⟩;have Q3:Hid _:=Q2.out.trans (q3.mono Q2.out.size);clear q3 k0 k1
      cases b5;all_goals
       go_wp2_with fail
       go_meet;exact ⟨by rw [HRV.out]; simp<;>omega,Q3.out⟩
 case rest =>
  obtain ⟨rfl,hQ⟩:=hcut;have B3:Hid _:=HB.out.trans (hQ.mono HB.out.size);have K3:Hid _:=G1.out.kept (by simp) hQ;clear hQ HP HBD HSS G0 G1 HRV HB hs2
  cases r1 with
  | false =>
   have HX:Hid (ans=false):=by unfold Hid; rw [HV.out]; rfl
   go_wp2_with fail
   go_ret;exact ⟨ret_bool HX.out.symm,B3.out⟩
  | true =>
   have HU:Hid (ans=x.binds.all fun y=>x.sess.any fun s=>hasS y s):=by unfold Hid; rw [HV.out]; rfl
   clear HV;generalize wc=w9 at *;go_wp2_with fail
   go_loopw [5] (fun iv wr=>∃ i:Nat,i≤x.binds.length∧iv=iV i∧((x.binds.take i).all fun y=>x.sess.any fun s=>hasS y s)=true∧HoldsL wr (w.z+1) (BbV a ca b cb x)∧Below w.z w wr) (fun iv _=>x.binds.length-(intOf iv).toNat)
   case atStart=>exact ⟨0,Nat.zero_le _,rfl,rfl,K3.out,B3.out⟩
   case round =>
    obtain ⟨i,hi,rfl,hn,hk,hbel⟩:=hrel;have HN:Hid (((x.binds.take i).all fun y=>x.sess.any fun s=>hasS y s)=true):=hn;have HBi:Hid (Below w.z w wr):=hbel;have HKi:Hid _:=hk;have z0:=hk.cell (j:=0) rfl;clear hn hbel hk K3 B3;generalize wr=w0 at *;by_cases hlt:i < x.binds.length
    ·obtain ⟨ba,oa,rfl,hba,hata⟩:=HR.out.bd.at hlt;have HATA:Hid (∀ W,Below w.z w W→W.rangeAt ba (oa+i*5) (bdL x.binds[i])):=fun W hW=>(hata.below hba hW) i hlt
     have HST:Hid _:=all_take (fun y=>x.sess.any fun s=>hasS y s) x.binds i hlt;have HNO:Hid _:=all_no (fun y=>x.sess.any fun s=>hasS y s) x.binds i hlt;obtain ⟨y,hy⟩ : ∃ y,y=x.binds[i]:=⟨_,rfl⟩;rw [← hy] at HATA HST HNO;clear hata hba hy;go_wp2_with fail
     go_loopw [6,7] (fun hv kv wr=>∃ k:Nat,k≤x.sess.length∧kv=iV k∧hv=.bool ((x.sess.take k).any fun s=>hasS y s)∧HoldsL wr (w.z+1) (BbV (some ⟨ba,oa,none⟩) ca b cb x)∧Below w.z w wr) (fun _ kv _=>x.sess.length-(intOf kv).toNat)
     case atStart=>exact ⟨0,Nat.zero_le _,rfl,rfl,HKi.out,HBi.out⟩
     case round =>
      obtain ⟨k,hk,rfl,rfl,hK,hbel⟩:=hrel;have HBk:Hid (Below w.z w wr):=hbel;have HKk:Hid _:=hK;have z1:=hK.cell (j:=1) rfl;have hbx:Hid (w.z+1 < wr.heap.size):=hK.lt (by simp);clear hbel hK z0;by_cases hkl:k < x.sess.length
      ·obtain ⟨bs,os,rfl,hbs,hats⟩:=HR.out.ss.at hkl;have HATS:Hid (∀ W,Below w.z w W→W.rangeAt bs (os+k*7) (ssL x.sess[k])):=fun W hW=>(hats.below hbs hW) k hkl
       have HSK:Hid _:=any_take (fun s=>hasS y s) x.sess k hkl;obtain ⟨s,hs⟩ : ∃ s,s=x.sess[k]:=⟨_,rfl⟩;rw [← hs] at HATS HSK;have HHS:Hid (∀ W,Cb 37 #[bdC y,ssC s] W (.bool (hasS y s))):=fun W=>spHas_any y s W
       have hltI:(i:Int) < (x.binds.length:Int):=by omega
       have hklI:(k:Int) < (x.sess.length:Int):=by omega
       generalize (x.sess.take k).any (fun s=>hasS y s)=hb0 at *;unfold bdC ssC at HHS;clear hats hbs hs;go_upto_region 10 with fail
       cases hb0 with
       | false =>
        refine wp_region_growV [51,52,53,54,55,56,57,58,59,60,61,62,63,64] (by kernel_rfl) (by kernel_rfl) ?_;iterate 14 ((first|apply GChV.u rfl|apply GChV.g rfl rfl rfl rfl rfl (by simp));(·intro K' a wy ho hd hb hK;simp [rAt,IsV,slot,Region.binds] at ho hd;have hbw:=HBk.out.drew.trans (hb.mono HBk.out.drew.size); have kx:=(HKk.out.drew.kept (by simp) hb); have kC:=kx.c2; have ra:=HATA.out wy hbw; have rs:=HATS.out wy hbw; obtain ⟨a0,a1,a2,a3,a4⟩:=rc5 ra; obtain ⟨s0,s1,s2,s3,s4,s5,s6⟩:=rc7 rs; clear ra rs kx hbw;go_simp;first|((try go_bits);exact hK _ _ rfl bQ)|(refine (HHS.out wy).mono ?_;rintro e wz ⟨rfl,hz⟩;exact hK _ _ rfl hz));dsimp only [nA,cA])
        intro X wz hR hz;simp only [List.nil_append,List.cons_append,RAll,IsV] at hR;simp only [putsFrom,hR];clear hR;simp only [List.length_cons,List.length_nil,List.drop_succ_cons,List.drop_zero,Nat.zero_add,Nat.reduceAdd];intro K9 hK9;go_simp;refine hK9 _ _ ?_;have hb6:Below wr.heap.size wr wz:=(Below.refl _ wr).drew.trans hz;have HB2:Hid _:=HBk.out.trans (hb6.mono HBk.out.size);have HK2:Hid _:=HKk.out.kept (by simp) hb6;clear hb6 hz z1;simp only [wpSeq];go_wp2_with fail
        go_roundw
        case rel =>
         (repeat apply Exists.intro)
         exact ⟨⟨k+1,by omega,by go_num,by rw [HSK.out]; rfl,HK2.out,HB2.out⟩,rfl⟩
        case measure=>simp [intOf]; omega
       | true =>
        refine wp_region_growV [51,52,53,54,55,56,57,58,59,60,61,62,63,64] (by kernel_rfl) (by kernel_rfl) ?_;iterate 14 ((first|(refine GChV.n rfl rfl rfl rfl rfl (by simp) ?_)|(apply GChV.u rfl;(·intro K' a wy ho hd hb hK;simp [rAt,IsV,slot,Region.binds] at ho hd;go_simp;(try go_bits);exact hK _ _ rfl bQ)));dsimp only [nA,cA])
        intro X wz hR hz;simp only [List.nil_append,List.cons_append,RAll,IsV] at hR;simp only [putsFrom,hR];clear hR;simp only [List.length_cons,List.length_nil,List.drop_succ_cons,List.drop_zero,Nat.zero_add,Nat.reduceAdd];intro K9 hK9;go_simp;refine hK9 _ _ ?_;have hb6:Below wr.heap.size wr wz:=(Below.refl _ wr).drew.trans hz;have HB2:Hid _:=HBk.out.trans (hb6.mono HBk.out.size);have HK2:Hid _:=HKk.out.kept (by simp) hb6;clear hb6 hz z1;simp only [wpSeq];go_wp2_with fail
        go_roundw
        case rel =>
         (repeat apply Exists.intro)
         exact ⟨⟨k+1,by omega,by go_num,by rw [HSK.out]; rfl,HK2.out,HB2.out⟩,rfl⟩
        case measure=>simp [intOf]; omega
      ·have hke:k=x.sess.length:=by omega
       rw [hke,List.take_length]
       cases hh:x.sess.any (fun s=>hasS y s) with
       | false =>
        have HX:Hid (ans=false):=by unfold Hid; rw [HU.out]; exact HNO.out hh
        clear hh;go_wp2_with fail
        go_ret;exact ⟨ret_bool HX.out.symm,HBk.out⟩
       | true =>
        have HN2:Hid (((x.binds.take (i+1)).all fun y=>x.sess.any fun s=>hasS y s)=true):=by unfold Hid; rw [HST.out,HN.out,hh]; rfl
        clear hh;go_wp2_with fail
        go_roundw
        case rel=>exact ⟨i+1,by omega,by go_num,HN2.out,HKk.out,HBk.out⟩
        case measure=>simp [intOf]; omega
    ·have hie:i=x.binds.length:=by omega
     have HX:Hid (ans=true):=by unfold Hid; rw [HU.out]; have:=HN.out; rw [hie,List.take_length] at this; exact this
     go_wp2_with fail
     go_ret;exact ⟨ret_bool HX.out.symm,HBi.out⟩
end Go.Proofs.YtdkepkaflielhaaGreatDoor
