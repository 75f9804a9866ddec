import Derived.Test.YtdkepkaflielhaaGreatDoorSz
import Derived.Test.YtdkepkaflielhaaGreatDoorAb
import Derived.Test.YtdkepkaflielhaaGreatDoorSPool
import Derived.Test.YtdkepkaflielhaaGreatDoorLawBindS
set_option linter.unusedVariables false
set_option linter.unusedSimpArgs false
set_option maxRecDepth 100000
set_option maxHeartbeats 8000000
namespace Go.Proofs.YtdkepkaflielhaaGreatDoor
open Go.RowKit Go.PlainAid
theorem beq_yes {a b:List UInt8} (h:a=b):(a==b)=true:=by simp [h]
theorem beq_no {a b:List UInt8} (h:¬ a=b):(a==b)=false:=by simp [h]
theorem spBinds_any (p:Pl) (xs:List Bd) (a:Option Addr) (cap:Nat) (b:Option Addr) (capb:Nat) (w:World) (hl:p.addrs.length≤1048576) (hlx:xs.length≤1048576) (hr:SlIs strL1 1 w a p.addrs) (hx:SlIs bdL 5 w b xs) :
  Cb 35 #[plC a cap p,.slice b xs.length capb] w (.bool (upN (bindOne p) xs xs.length)):=by
 have GA:Hid (Below w.z w (w.alloc (.cells (PlV a cap p).toArray 27))):=bR.alloc lR _;have H0:Hid (HoldsL (w.alloc (.cells (PlV a cap p).toArray 27)) w.z (PlV a cap p)):=HoldsL.new w (PlV a cap p) 27;have HV:Hid (upN (bindOne p) xs xs.length=upN (bindOne p) xs xs.length):=rfl;obtain ⟨ans,hans⟩ : ∃ x,x=upN (bindOne p) xs xs.length:=⟨_,rfl⟩;rw [← hans];have HA:Hid (ans=upN (bindOne p) xs xs.length):=hans;have HR:Hid (SlIs strL1 1 w a p.addrs):=hr;have HX:Hid (SlIs bdL 5 w b xs):=hx;clear hr hx hans HV;unfold plC;go_enter Tryz.func35,Tryz.ntmps35
 go_wp2_with fail
 go_loopw [5] (fun iv wr=>∃ i:Nat,i≤xs.length∧iv=iV i∧upN (bindOne p) xs i=true∧HoldsL wr w.z (PlV a cap p)∧Below w.z w wr) (fun iv _=>xs.length-(intOf iv).toNat)
 case atStart=>exact ⟨0,Nat.zero_le _,rfl,rfl,H0.out,GA.out⟩
 case round =>
  obtain ⟨i,hi,rfl,hn,hk,hbel⟩:=hrel;have HN:Hid (upN (bindOne p) xs i=true):=hn;have HB:Hid (Below w.z w wr):=hbel;have HK:Hid (HoldsL wr w.z (PlV a cap p)):=hk;have hwb:w.z < wr.heap.size:=hk.lt (by simp);clear hn hbel hk H0 GA;generalize wr=w0 at *;by_cases hlt:i < xs.length
  ·obtain ⟨bb,off,rfl,hb,hat⟩:=HX.out.at hlt;have hA:=(hat.below hb HB.out) i hlt;have HAT:Hid (∀ k,(hk:k < xs.length)→∀ W,Below w.z w W→W.rangeAt bb (off+k*5) (bdL xs[k])):=fun k hk W hW=>(hat.below hb hW) k hk
   have HST:Hid _:=upN_step (f:=bindOne p) hlt;have HATF:Hid (bindOne p (xs.take i) xs[i]=false→upN (bindOne p) xs xs.length=false):=upN_at hlt;obtain ⟨q,hq⟩ : ∃ q,q=xs[i]:=⟨_,rfl⟩;rw [← hq] at hA HST HATF;obtain ⟨c0,c1,c2,c3,c4⟩:=rc5 hA;have HOV:Hid (bindOne p (xs.take i) q=(protoB q.proto&&addrOk q.inn&&isW q.inPort&&inL p.addrs q.out&&isIn q.outPort p.low p.high&&!(xs.take i).any fun c=>clashB c q)):=rfl;have B4:Hid (Below w0.heap.size w0 (w0.alloc (.cells (BdV q).toArray 48))):=bR.alloc lR _;have Y4:Hid (HoldsL (w0.alloc (.cells (BdV q).toArray 48)) w0.heap.size (bdL q)):=HoldsL.new w0 (bdL q) 48;clear hat hA hq;go_upto_region 5 with fail
   have H5:Hid _:=HB.out.trans (B4.out.mono HB.out.size);have K5:Hid _:=HK.out.kept (by simp) B4.out;have hY:w0.heap.size < (w0.alloc (.cells (BdV q).toArray 48)).heap.size:=by simp
   generalize (w0.alloc (.cells (BdV q).toArray 48))=W4 at *;have HP:Hid (∀ W,Cw 69 #[iV q.proto] W (.bool (protoB q.proto))):=fun W=>spBProto_any _ W
   have HAD:Hid (∀ W,Cw 65 #[.string q.inn] W (.bool (addrOk q.inn))):=fun W=>specAddrRight_any _ W
   have HWD:Hid (∀ W,Cw 39 #[iV q.inPort] W (.bool (isW q.inPort))):=fun W=>specWordIs_any _ W
   have HIN:Hid (∀ W,Below w.z w W→Cb 68 #[.slice a p.addrs.length cap,.string q.out] W (.bool (inL p.addrs q.out))):=fun W hW=>spIn_any p.addrs q.out a cap W hl (HR.out.below hW)
   have HIS:Hid (∀ W,Cw 40 #[iV q.outPort,iV p.low,iV p.high] W (.bool (isIn q.outPort p.low p.high))):=fun W=>specIs_any _ _ _ W
   generalize protoB q.proto=b1 at *;generalize addrOk q.inn=b2 at *;generalize isW q.inPort=b3 at *;generalize inL p.addrs q.out=b4 at *;generalize isIn q.outPort p.low p.high=b5 at *;obtain ⟨y0,y1,y2,y3⟩:=Y4.out.c4;have z0:=K5.out.cell (j:=0) rfl;have hun:undef=Value.tuple #[]:=rfl;clear c0 c1 c2 c3 c4
   cases b1 with
   | false =>
    have HXF:Hid (ans=false):=by unfold Hid; rw [HA.out]; refine HATF.out ?_; rw [HOV.out]; simp
    go_wp2_with fail
    refine (HP.out _).mono ?_;rintro e w1 ⟨rfl,rfl⟩;go_wp2_with fail
    go_ret;exact ⟨ret_bool HXF.out.symm,H5.out⟩
   | true =>
    go_wp2_with fail
    refine (HP.out _).mono ?_;rintro e w1 ⟨rfl,rfl⟩
    cases b2 with
    | false =>
     have HXF:Hid (ans=false):=by unfold Hid; rw [HA.out]; refine HATF.out ?_; rw [HOV.out]; simp
     go_wp2_with fail
     refine (HAD.out _).mono ?_;rintro e w1 ⟨rfl,rfl⟩;go_wp2_with fail
     go_ret;exact ⟨ret_bool HXF.out.symm,H5.out⟩
    | true =>
     go_wp2_with fail
     refine (HAD.out _).mono ?_;rintro e w1 ⟨rfl,rfl⟩
     cases b3 with
     | false =>
      have HXF:Hid (ans=false):=by unfold Hid; rw [HA.out]; refine HATF.out ?_; rw [HOV.out]; simp
      go_wp2_with fail
      refine (HWD.out _).mono ?_;rintro e w1 ⟨rfl,rfl⟩;go_wp2_with fail
      go_ret;exact ⟨ret_bool HXF.out.symm,H5.out⟩
     | true =>
      go_wp2_with fail
      refine (HWD.out _).mono ?_;rintro e w1 ⟨rfl,rfl⟩;go_wp2_with fail
      refine (HIN.out _ H5.out).mono ?_;rintro e w2 ⟨rfl,q2⟩;have H6:Hid _:=H5.out.trans (q2.mono H5.out.size);have K6:Hid _:=K5.out.kept (by simp) q2;have Y6:Hid _:=Y4.out.kept (by simp [bdL]) q2;have y4:=Y6.out.cell (j:=4) rfl;obtain ⟨-,z1,z2⟩:=K6.out.c3;have hY2:w0.heap.size < w2.heap.size:=by have:=q2.size; omega
      clear q2 y0 y1 y2 y3 z0 H5 K5 Y4 B4
      cases b4 with
      | false =>
       have HXF:Hid (ans=false):=by unfold Hid; rw [HA.out]; refine HATF.out ?_; rw [HOV.out]; simp
       go_wp2_with fail
       go_ret;exact ⟨ret_bool HXF.out.symm,H6.out⟩
      | true =>
       cases b5 with
       | false =>
        have HXF:Hid (ans=false):=by unfold Hid; rw [HA.out]; refine HATF.out ?_; rw [HOV.out]; simp
        go_wp2_with fail
        refine (HIS.out _).mono ?_;rintro e w1 ⟨rfl,rfl⟩;go_wp2_with fail
        go_ret;exact ⟨ret_bool HXF.out.symm,H6.out⟩
       | true =>
        go_wp2_with fail
        refine (HIS.out _).mono ?_;rintro e w1 ⟨rfl,rfl⟩;have HOV2:Hid (bindOne p (xs.take i) q=!(xs.take i).any fun c=>clashB c q):=by unfold Hid; rw [HOV.out]; simp
        clear y4 z1 z2 HOV HP HAD HWD HIN HIS;go_wp2_with fail
        go_loopw [7] (fun kv wr=>∃ k:Nat,k≤i∧kv=iV k∧((xs.take k).any fun c=>clashB c q)=false∧HoldsL wr w.z (PlV a cap p)∧HoldsL wr w0.heap.size (bdL q)∧Below w.z w wr) (fun kv _=>i-(intOf kv).toNat)
        case atStart=>exact ⟨0,Nat.zero_le _,rfl,rfl,K6.out,Y6.out,H6.out⟩
        case round =>
         obtain ⟨k,hk,rfl,hn,hK,hY,hbel⟩:=hrel;have HNk:Hid (((xs.take k).any fun c=>clashB c q)=false):=hn;have HBk:Hid (Below w.z w wr):=hbel;have HKk:Hid _:=hK;have HYk:Hid _:=hY;have hYl:w0.heap.size < wr.heap.size:=hY.lt (by simp [bdL]);clear hn hbel hK hY K6 Y6 H6;by_cases hkl:k < i
         ·have hkx:k < xs.length:=by omega
          have hA:=HAT.out k hkx wr HBk.out;have HSTk:Hid _:=any_take (fun c=>clashB c q) xs k hkx;have HYES:Hid (clashB xs[k] q=true→bindOne p (xs.take i) q=false):=fun h=>by
           rw [HOV2.out,any_at (fun c=>clashB c q) (xs.take i) k (by simp; omega) (by rw [List.getElem_take]; exact h)]; rfl
          obtain ⟨c,hc⟩ : ∃ c,c=xs[k]:=⟨_,rfl⟩;rw [← hc] at hA HSTk HYES;obtain ⟨c0,c1,c2,c3,c4⟩:=rc5 hA;have B5:Hid (Below wr.heap.size wr (wr.alloc (.cells (BdV c).toArray 48))):=bR.alloc lR _;have Z5:Hid (HoldsL (wr.alloc (.cells (BdV c).toArray 48)) wr.heap.size (bdL c)):=HoldsL.new wr (bdL c) 48;clear hA hc;go_upto_region 11 with fail
          have HB5:Hid _:=HBk.out.trans (B5.out.mono HBk.out.size);have HK5:Hid _:=HKk.out.kept (by simp) B5.out;have HY5:Hid _:=HYk.out.kept (by simp [bdL]) B5.out;generalize (wr.alloc (.cells (BdV c).toArray 48))=W5 at *;obtain ⟨y0,y1,y2,y3,y4⟩:=HY5.out.c5;obtain ⟨x0,x1,x2,x3,x4⟩:=Z5.out.c5;have HCV:Hid (clashB c q=((decide (c.inn.toList=q.inn.toList)&&!decide (c.out.toList=q.out.toList))||(decide (c.proto=q.proto)&&((decide (c.inn.toList=q.inn.toList)&&decide (c.inPort=q.inPort))||(decide (c.out.toList=q.out.toList)&&decide (c.outPort=q.outPort)))))):=rfl;clear c0 c1 c2 c3 c4 B5 Z5 HBk HKk HYk;go_cut [108] (fun v wx=>v=.bool (clashB c q)∧wx=W5)
          case first =>
           by_cases e1:c.inn.toList=q.inn.toList
           ·by_cases e2:c.out.toList=q.out.toList
            ·by_cases e3:c.proto=q.proto
             ·by_cases e4:c.inPort=q.inPort
              ·have HCW:Hid (clashB c q=true):=by unfold Hid; rw [HCV.out]; simp [e1,e2,e3,e4]
               have f1:=beq_yes e1;have f2:=beq_yes e2;go_wp2_with fail
               all_goals go_meet
               all_goals exact ⟨by rw [HCW.out]; try simp [e1,e2,e3,e4],rfl⟩
              ·by_cases e5:c.outPort=q.outPort
               ·have HCW:Hid (clashB c q=true):=by unfold Hid; rw [HCV.out]; simp [e1,e2,e3,e4,e5]
                have f1:=beq_yes e1;have f2:=beq_yes e2;go_wp2_with fail
                all_goals go_meet
                all_goals exact ⟨by rw [HCW.out]; try simp [e1,e2,e3,e4,e5],rfl⟩
               ·have HCW:Hid (clashB c q=false):=by unfold Hid; rw [HCV.out]; simp [e1,e2,e3,e4,e5]
                have f1:=beq_yes e1;have f2:=beq_yes e2;go_wp2_with fail
                all_goals go_meet
                all_goals exact ⟨by rw [HCW.out]; try simp [e1,e2,e3,e4,e5],rfl⟩
             ·have HCW:Hid (clashB c q=false):=by unfold Hid; rw [HCV.out]; simp [e1,e2,e3]
              have f1:=beq_yes e1;have f2:=beq_yes e2;go_wp2_with fail
              all_goals go_meet
              all_goals exact ⟨by rw [HCW.out]; try simp [e1,e2,e3],rfl⟩
            ·have HCW:Hid (clashB c q=true):=by unfold Hid; rw [HCV.out]; simp [e1,e2]
             have f1:=beq_yes e1;have f2:=beq_no e2;go_wp2_with fail
             all_goals go_meet
             all_goals exact ⟨by rw [HCW.out]; try simp [e1,e2],rfl⟩
           ·by_cases e3:c.proto=q.proto
            ·by_cases e2:c.out.toList=q.out.toList
             ·by_cases e5:c.outPort=q.outPort
              ·have HCW:Hid (clashB c q=true):=by unfold Hid; rw [HCV.out]; simp [e1,e3,e2,e5]
               have f1:=beq_no e1;have f2:=beq_yes e2;go_wp2_with fail
               all_goals go_meet
               all_goals exact ⟨by rw [HCW.out]; try simp [e1,e3,e2,e5],rfl⟩
              ·have HCW:Hid (clashB c q=false):=by unfold Hid; rw [HCV.out]; simp [e1,e3,e2,e5]
               have f1:=beq_no e1;have f2:=beq_yes e2;go_wp2_with fail
               all_goals go_meet
               all_goals exact ⟨by rw [HCW.out]; try simp [e1,e3,e2,e5],rfl⟩
             ·have HCW:Hid (clashB c q=false):=by unfold Hid; rw [HCV.out]; simp [e1,e3,e2]
              have f1:=beq_no e1;have f2:=beq_no e2;go_wp2_with fail
              all_goals go_meet
              all_goals exact ⟨by rw [HCW.out]; try simp [e1,e3,e2],rfl⟩
            ·have HCW:Hid (clashB c q=false):=by unfold Hid; rw [HCV.out]; simp [e1,e3]
             have f1:=beq_no e1;go_wp2_with fail
             all_goals go_meet
             all_goals exact ⟨by rw [HCW.out]; try simp [e1,e3],rfl⟩
          case rest =>
           obtain ⟨rfl,rfl⟩:=hcut
           cases hcl:clashB c q with
           | true =>
            have HXF:Hid (ans=false):=by unfold Hid; rw [HA.out]; exact HATF.out (HYES.out hcl)
            clear hcl;go_wp2_with fail
            go_ret;exact ⟨ret_bool HXF.out.symm,HB5.out⟩
           | false =>
            have HN2:Hid (((xs.take (k+1)).any fun c=>clashB c q)=false):=by unfold Hid; rw [HSTk.out,HNk.out,hcl]; rfl
            clear hcl;go_wp2_with fail
            go_roundw
            case rel=>exact ⟨k+1,by omega,by go_num,HN2.out,HK5.out,HY5.out,HB5.out⟩
            case measure=>simp [intOf]; omega
         ·have hke:k=i:=by omega
          have HN2:Hid (upN (bindOne p) xs (i+1)=true):=by
           unfold Hid; rw [HST.out,HN.out,HOV2.out,← hke,HNk.out]; rfl
          go_wp2_with fail
          go_roundw
          case rel =>
           (repeat apply Exists.intro)
           exact ⟨⟨i+1,by omega,by go_num,HN2.out,HKk.out,HBk.out⟩,rfl⟩
          case measure=>simp [intOf]; omega
  ·have hie:i=xs.length:=by omega
   have HXT:Hid (ans=true):=by unfold Hid; rw [HA.out,← hie]; exact HN.out
   go_wp2_with fail
   go_ret;exact ⟨ret_bool HXT.out.symm,HB.out⟩
end Go.Proofs.YtdkepkaflielhaaGreatDoor
