import Derived.Test.YtdkepkaflielhaaGreatDoorSz
import Derived.Test.YtdkepkaflielhaaGreatDoorAb
import Derived.Test.YtdkepkaflielhaaGreatDoorSBinds
import Derived.Test.YtdkepkaflielhaaGreatDoorLawBib
set_option linter.unusedVariables false
set_option linter.unusedSimpArgs false
set_option maxRecDepth 100000
set_option maxHeartbeats 8000000
namespace Go.Proofs.YtdkepkaflielhaaGreatDoor
open Go.RowKit Go.PlainAid
theorem spSess_any (x:Bb) (a b:Option Addr) (ca cb:Nat) (w:World) (hl1:x.binds.length≤1048576) (hl2:x.sess.length≤1048576) (hr:BbIs w a b x) :
  Cb 36 #[bbC a b ca cb x] w (.bool (upN (sessOne x.binds) x.sess x.sess.length)):=by
 have GA:Hid (Below w.z w (w.alloc (.cells (BbV a ca b cb x).toArray 31))):=bR.alloc lR _;have H0:Hid (HoldsL (w.alloc (.cells (BbV a ca b cb x).toArray 31)) w.z (BbV a ca b cb x)):=HoldsL.new w (BbV a ca b cb x) 31;obtain ⟨ans,hans⟩ : ∃ y,y=upN (sessOne x.binds) x.sess x.sess.length:=⟨_,rfl⟩;rw [← hans];have HA:Hid (ans=upN (sessOne x.binds) x.sess x.sess.length):=hans;have HR:Hid (BbIs w a b x):=hr;clear hr hans;unfold bbC;go_enter Tryz.func36,Tryz.ntmps36
 go_wp2_with fail
 go_loopw [3] (fun iv wr=>∃ i:Nat,i≤x.sess.length∧iv=iV i∧upN (sessOne x.binds) x.sess i=true∧HoldsL wr w.z (BbV a ca b cb x)∧Below w.z w wr) (fun iv _=>x.sess.length-(intOf iv).toNat)
 case atStart=>exact ⟨0,Nat.zero_le _,rfl,rfl,H0.out,GA.out⟩
 case round =>
  obtain ⟨i,hi,rfl,hn,hk,hbel⟩:=hrel;have HN:Hid (upN (sessOne x.binds) x.sess i=true):=hn;have HB:Hid (Below w.z w wr):=hbel;have HK:Hid (HoldsL wr w.z (BbV a ca b cb x)):=hk;have hwb:w.z < wr.heap.size:=hk.lt (by simp);have z1:=hk.cell (j:=1) rfl;clear hn hbel hk H0 GA;generalize wr=w0 at *;by_cases hlt:i < x.sess.length
  ·obtain ⟨bb,off,rfl,hb,hat⟩:=HR.out.ss.at hlt;have hA:=(hat.below hb HB.out) i hlt;have HAT:Hid (∀ k,(hk:k < x.sess.length)→∀ W,Below w.z w W→W.rangeAt bb (off+k*7) (ssL x.sess[k])):=fun k hk W hW=>(hat.below hb hW) k hk
   have HST:Hid _:=upN_step (f:=sessOne x.binds) hlt;have HATF:Hid (sessOne x.binds (x.sess.take i) x.sess[i]=false→upN (sessOne x.binds) x.sess x.sess.length=false):=upN_at hlt;obtain ⟨q,hq⟩ : ∃ q,q=x.sess[i]:=⟨_,rfl⟩;rw [← hq] at hA HST HATF;obtain ⟨c0,c1,c2,c3,c4,c5,c6⟩:=rc7 hA;have HOV:Hid (sessOne x.binds (x.sess.take i) q=(decide (q.peer.size=4)&&isW q.peerPort&&isIn q.state 1 7&&(decide (q.proto=6)||decide (q.state=3))&&isIn q.untl 0 2000000000&&decide (0≤findI (ofIn q.proto q.inn q.inPort) x.binds)&&!(x.sess.take i).any fun t=>sameS q t)):=rfl;have B4:Hid (Below w0.heap.size w0 (w0.alloc (.cells (SsV q).toArray 59))):=bR.alloc lR _;have Y4:Hid (HoldsL (w0.alloc (.cells (SsV q).toArray 59)) w0.heap.size (ssL q)):=HoldsL.new w0 (ssL q) 59;clear hat hA hq;go_upto_region 5 with fail
   have H5:Hid _:=HB.out.trans (B4.out.mono HB.out.size);have K5:Hid _:=HK.out.kept (by simp) B4.out;have hY:w0.heap.size < (w0.alloc (.cells (SsV q).toArray 59)).heap.size:=by simp
   generalize (w0.alloc (.cells (SsV q).toArray 59))=W4 at *;have HWD:Hid (∀ W,Cw 39 #[iV q.peerPort] W (.bool (isW q.peerPort))):=fun W=>specWordIs_any _ W
   have HS1:Hid (∀ W,Cw 40 #[iV q.state,iV 1,iV 7] W (.bool (isIn q.state 1 7))):=fun W=>specIs_any _ _ _ W
   have HS2:Hid (∀ W,Cw 40 #[iV q.untl,iV 0,iV 2000000000] W (.bool (isIn q.untl 0 2000000000))):=fun W=>specIs_any _ _ _ W
   have HBI:Hid (∀ W,Below w.z w W→Cb 33 #[.agg (BbV a ca (some ⟨bb,off,none⟩) cb x).toArray,iV q.proto,.string q.inn,iV q.inPort] W (iV (findI (ofIn q.proto q.inn q.inPort) x.binds))):=fun W hW=>spBind_any x.binds q.proto q.inn q.inPort a ca _ W hl1 (HR.out.bd.below hW)
   generalize isW q.peerPort=b2 at *;generalize isIn q.state 1 7=b3 at *;generalize isIn q.untl 0 2000000000=b5 at *;generalize findI (ofIn q.proto q.inn q.inPort) x.binds=fi at *;obtain ⟨y0,y1,y2,y3,y4,y5,y6⟩:=Y4.out.c7;obtain ⟨z0,z1⟩:=K5.out.c2;have hun:undef=Value.tuple #[]:=rfl;clear c0 c1 c2 c3 c4 c5 c6;obtain ⟨r5,hr5⟩ : ∃ r,r=(decide (q.peer.size=4)&&b2&&b3&&(decide (q.proto=6)||decide (q.state=3))&&b5):=⟨_,rfl⟩;have HRV:Hid (r5=_):=hr5;rw [← hr5] at HOV;clear hr5;go_cut [50] (fun v wx=>v=.bool (!r5)∧wx=W4)
   case first =>
    by_cases h4:q.peer.size=4
    ·have h4i:(q.peer.size:Int)=4:=by omega
     have d1:((q.peer.size:Int) != 4)=false:=by simp [h4i]
     cases b2 with
     | false =>
      go_wp2_with fail
      refine (HWD.out _).mono ?_;rintro e w1 ⟨rfl,rfl⟩;go_wp2_with fail
      go_meet;exact ⟨by rw [HRV.out]; simp,rfl⟩
     | true =>
      go_wp2_with fail
      refine (HWD.out _).mono ?_;rintro e w1 ⟨rfl,rfl⟩
      cases b3 with
      | false =>
       go_wp2_with fail
       refine (HS1.out _).mono ?_;rintro e w1 ⟨rfl,rfl⟩;go_wp2_with fail
       go_meet;exact ⟨by rw [HRV.out]; simp,rfl⟩
      | true =>
       go_wp2_with fail
       refine (HS1.out _).mono ?_;rintro e w1 ⟨rfl,rfl⟩;by_cases h6:q.proto=6<;>by_cases h3:q.state=3
       all_goals first | (have hno:¬ q.proto=6∧¬ q.state=3:=⟨h6,h3⟩; go_wp2_with fail; go_meet; exact ⟨by rw [HRV.out]; simp [h6,h3],rfl⟩) | skip
       all_goals
        cases b5 with
        | false =>
         go_wp2_with fail
         refine (HS2.out _).mono ?_;rintro e w1 ⟨rfl,rfl⟩;go_wp2_with fail
         go_meet;exact ⟨by rw [HRV.out]; simp [h6,h3],rfl⟩
        | true =>
         go_wp2_with fail
         refine (HS2.out _).mono ?_;rintro e w1 ⟨rfl,rfl⟩;go_wp2_with fail
         go_meet;exact ⟨by rw [HRV.out]; simp [h6,h3,h4],rfl⟩
    ·have h4i:¬ (q.peer.size:Int)=4:=by omega
     have d1:((q.peer.size:Int) != 4)=true:=by simp [h4i]
     go_wp2_with fail
     go_meet;exact ⟨by rw [HRV.out]; simp [h4],rfl⟩
   case rest =>
   obtain ⟨rfl,rfl⟩:=hcut
   cases r5 with
   | false =>
    have HXF:Hid (ans=false):=by unfold Hid; rw [HA.out]; refine HATF.out ?_; rw [HOV.out]; rfl
    go_wp2_with fail
    go_ret;exact ⟨ret_bool HXF.out.symm,H5.out⟩
   | true =>
    go_wp2_with fail
    refine (HBI.out _ H5.out).mono ?_;rintro e w2 ⟨rfl,q2⟩;have H6:Hid _:=H5.out.trans (q2.mono H5.out.size);have K6:Hid _:=K5.out.kept (by simp) q2;have Y6:Hid _:=Y4.out.kept (by simp [ssL]) q2;have hY2:w0.heap.size < w2.heap.size:=by have:=q2.size; omega
    clear q2 z0 z1 H5 K5 Y4 B4 y0 y1 y2 y3 y4 y5 y6;by_cases hfi:fi < 0
    ·have HXF:Hid (ans=false):=by unfold Hid; rw [HA.out]; refine HATF.out ?_; rw [HOV.out,decide_eq_false (show ¬ 0≤fi by omega)]; rfl
     go_wp2_with fail
     go_ret;exact ⟨ret_bool HXF.out.symm,H6.out⟩
    ·rw [decide_eq_true (show 0≤fi by omega)] at HOV;have HOV2:Hid (sessOne x.binds (x.sess.take i) q=!(x.sess.take i).any fun t=>sameS q t):=by unfold Hid; rw [HOV.out]; rfl
     clear HOV HWD HS1 HS2 HBI HRV;go_wp2_with fail
     go_loopw [5] (fun kv wr=>∃ k:Nat,k≤i∧kv=iV k∧((x.sess.take k).any fun t=>sameS q t)=false∧HoldsL wr w.z (BbV a ca (some ⟨bb,off,none⟩) cb x)∧HoldsL wr w0.heap.size (ssL q)∧Below w.z w wr) (fun kv _=>i-(intOf kv).toNat)
     case atStart=>exact ⟨0,Nat.zero_le _,rfl,rfl,K6.out,Y6.out,H6.out⟩
     case round =>
      obtain ⟨k,hk,rfl,hn,hK,hY,hbel⟩:=hrel;have HNk:Hid (((x.sess.take k).any fun t=>sameS q t)=false):=hn;have HBk:Hid (Below w.z w wr):=hbel;have HKk:Hid _:=hK;have HYk:Hid _:=hY;have hYl:w0.heap.size < wr.heap.size:=hY.lt (by simp [ssL]);have z1:=hK.cell (j:=1) rfl;clear hn hbel hK hY K6 Y6 H6;by_cases hkl:k < i
      ·have hkx:k < x.sess.length:=by omega
       have hkx':(k:Int) < (x.sess.length:Int):=by omega
       have hA:=HAT.out k hkx wr HBk.out;have HSTk:Hid _:=any_take (fun t=>sameS q t) x.sess k hkx;have HYES:Hid (sameS q x.sess[k]=true→sessOne x.binds (x.sess.take i) q=false):=fun h=>by
        rw [HOV2.out,any_at (fun t=>sameS q t) (x.sess.take i) k (by simp; omega) (by rw [List.getElem_take]; exact h)]; rfl
       obtain ⟨c,hc⟩ : ∃ c,c=x.sess[k]:=⟨_,rfl⟩;rw [← hc] at hA HSTk HYES;obtain ⟨c0,c1,c2,c3,c4,c5,c6⟩:=rc7 hA;have B5:Hid (Below wr.heap.size wr (wr.alloc (.cells (SsV c).toArray 59))):=bR.alloc lR _;have Z5:Hid (HoldsL (wr.alloc (.cells (SsV c).toArray 59)) wr.heap.size (ssL c)):=HoldsL.new wr (ssL c) 59;clear hA hc;go_upto_region 13 with fail
       have HB5:Hid _:=HBk.out.trans (B5.out.mono HBk.out.size);have HK5:Hid _:=HKk.out.kept (by simp) B5.out;have HY5:Hid _:=HYk.out.kept (by simp [ssL]) B5.out;generalize (wr.alloc (.cells (SsV c).toArray 59))=W5 at *;obtain ⟨y0,y1,y2,y3,y4,y5,y6⟩:=HY5.out.c7;obtain ⟨x0,x1,x2,x3,x4,x5,x6⟩:=Z5.out.c7;have HCV:Hid (sameS q c=(decide (q.proto=c.proto)&&decide (q.inn.toList=c.inn.toList)&&decide (q.inPort=c.inPort)&&decide (q.peer.toList=c.peer.toList)&&decide (q.peerPort=c.peerPort))):=rfl;clear c0 c1 c2 c3 c4 c5 c6 B5 Z5 HBk HKk HYk z1;go_cut [102] (fun v wx=>v=.bool (sameS q c)∧wx=W5)
       case first =>
        by_cases e1:q.proto=c.proto
        ·by_cases e2:q.inn.toList=c.inn.toList
         ·by_cases e3:q.inPort=c.inPort
          ·by_cases e4:q.peer.toList=c.peer.toList
           ·by_cases e5:q.peerPort=c.peerPort
            ·have HCW:Hid (sameS q c=true):=by unfold Hid; rw [HCV.out]; simp [e1,e2,e3,e4,e5]
             have f2:=beq_yes e2;have f4:=beq_yes e4;go_wp2_with fail
             all_goals go_meet
             all_goals exact ⟨by rw [HCW.out]; try simp [e1,e2,e3,e4,e5],rfl⟩
            ·have HCW:Hid (sameS q c=false):=by unfold Hid; rw [HCV.out]; simp [e1,e2,e3,e4,e5]
             have f2:=beq_yes e2;have f4:=beq_yes e4;have f5:(q.peerPort==c.peerPort)=false:=by simp [e5]
             go_wp2_with fail
             all_goals go_meet
             all_goals exact ⟨by rw [HCW.out]; try simp [e1,e2,e3,e4,e5],rfl⟩
           ·have HCW:Hid (sameS q c=false):=by unfold Hid; rw [HCV.out]; simp [e1,e2,e3,e4]
            have f2:=beq_yes e2;have f4:=beq_no e4;go_wp2_with fail
            all_goals go_meet
            all_goals exact ⟨by rw [HCW.out]; try simp [e1,e2,e3,e4],rfl⟩
          ·have HCW:Hid (sameS q c=false):=by unfold Hid; rw [HCV.out]; simp [e1,e2,e3]
           have f2:=beq_yes e2;have f3:(q.inPort==c.inPort)=false:=by simp [e3]
           go_wp2_with fail
           all_goals go_meet
           all_goals exact ⟨by rw [HCW.out]; try simp [e1,e2,e3],rfl⟩
         ·have HCW:Hid (sameS q c=false):=by unfold Hid; rw [HCV.out]; simp [e1,e2]
          have f2:=beq_no e2;go_wp2_with fail
          all_goals go_meet
          all_goals exact ⟨by rw [HCW.out]; try simp [e1,e2],rfl⟩
        ·have HCW:Hid (sameS q c=false):=by unfold Hid; rw [HCV.out]; simp [e1]
         have f1:(q.proto==c.proto)=false:=by simp [e1]
         go_wp2_with fail
         all_goals go_meet
         all_goals exact ⟨by rw [HCW.out]; try simp [e1],rfl⟩
       case rest =>
        obtain ⟨rfl,rfl⟩:=hcut
        cases hcl:sameS q c with
        | true =>
         have HXF:Hid (ans=false):=by unfold Hid; rw [HA.out]; exact HATF.out (HYES.out hcl)
         clear hcl;go_wp2_with fail
         go_ret;exact ⟨ret_bool HXF.out.symm,HB5.out⟩
        | false =>
         have HN2:Hid (((x.sess.take (k+1)).any fun t=>sameS q t)=false):=by unfold Hid; rw [HSTk.out,HNk.out,hcl]; rfl
         clear hcl;go_wp2_with fail
         go_roundw
         case rel=>exact ⟨k+1,by omega,by go_num,HN2.out,HK5.out,HY5.out,HB5.out⟩
         case measure=>simp [intOf]; omega
      ·have hke:k=i:=by omega
       have HN2:Hid (upN (sessOne x.binds) x.sess (i+1)=true):=by
        unfold Hid; rw [HST.out,HN.out,HOV2.out,← hke,HNk.out]; rfl
       go_wp2_with fail
       go_roundw
       case rel=>exact ⟨i+1,by omega,by go_num,HN2.out,HKk.out,HBk.out⟩
       case measure=>simp [intOf]; omega
  ·have hie:i=x.sess.length:=by omega
   have HXT:Hid (ans=true):=by unfold Hid; rw [HA.out,← hie]; exact HN.out
   go_wp2_with fail
   go_ret;exact ⟨ret_bool HXT.out.symm,HB.out⟩
end Go.Proofs.YtdkepkaflielhaaGreatDoor
