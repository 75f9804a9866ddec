import Derived.Test.YtdkepkaflielhaaGreatDoorAb
import Derived.Test.YtdkepkaflielhaaGreatDoorMerged2
import Derived.Test.YtdkepkaflielhaaGreatDoorMerged4
import Derived.Test.YtdkepkaflielhaaGreatDoorMerged3
import Derived.Deep.RegionWith
import Derived.Deep.DeepCutAuto
import Derived.Test.YtdkepkaflielhaaGreatDoorMerged6
import Derived.Test.YtdkepkaflielhaaGreatDoorGrowV
set_option linter.unusedVariables false
set_option linter.unusedSimpArgs false
set_option maxRecDepth 100000
set_option maxHeartbeats 8000000
namespace Go.Proofs.YtdkepkaflielhaaGreatDoor
open Go.RowKit Go.PlainAid Go.ChangeShapes Go.WideShapes
theorem Tryz.infoSs:(Tryz.prog.info? 59).map (fun i=>(i.zero,i.size,i.bytes))=some (some (.agg (SsR 0 ⟨#[]⟩ 0 ⟨#[]⟩ 0 0 0).toArray),7,72):=by kernel_rfl
def sessionM (k:Nat):List Value:=(SsR ((k:Nat):Int) (markV (k+1)) ((k+2:Nat):Int) (markV (k+3)) ((k+4:Nat):Int) ((k+5:Nat):Int) ((k+6:Nat):Int))
structure BbIs (w:World) (a b:Option Addr) (x:Bb):Prop where
 bd:SlIs bdL 5 w a x.binds
 ss:SlIs ssL 7 w b x.sess
theorem BbIs.below {w W:World} {a b:Option Addr} {x:Bb} (h:BbIs w a b x) (hB:Below w.heap.size w W):BbIs W a b x:=⟨h.bd.below hB,h.ss.below hB⟩
structure BbOwn (base:Nat) (w:World) (a b:Option Addr) (x:Bb):Prop where
 bd:SlOwn bdL 5 base w a x.binds
 ss:SlOwn ssL 7 base w b x.sess
 ne:∀ g h,a=some ⟨g,0,none⟩→b=some ⟨h,0,none⟩→x.binds≠[]→x.sess≠[]→g≠h
theorem BbOwn.is {base:Nat} {w:World} {a b:Option Addr} {x:Bb} (h:BbOwn base w a b x):BbIs w a b x:=⟨h.bd.is,h.ss.is⟩
theorem BbOwn.kept {base:Nat} {w W:World} {a b:Option Addr} {x:Bb} (h:BbOwn base w a b x) (hB:Below w.heap.size w W):BbOwn base W a b x:=⟨h.bd.kept hB,h.ss.kept hB,h.ne⟩
end Go.Proofs.YtdkepkaflielhaaGreatDoor
namespace Go.Proofs.YtdkepkaflielhaaGreatDoor
open Go.RowKit Go.PlainAid
theorem spSess_any (x:Bb) (a b:Option Addr) (ca cb:Nat) (w:World) (hl1:x.binds.length≤1048576) (hl2:x.sess.length≤1048576) (hr:BbIs w a b x) :
  Cb 36 #[bbC a b ca cb x] w (.bool (upN (sessOne x.binds) x.sess x.sess.length)):=by
 have GA:Hid (Below w.heap.size w (w.alloc (.cells (BbV a ca b cb x).toArray 31))):=(Below.refl _ _).alloc (Nat.le_refl _) _;have H0:Hid (HoldsL (w.alloc (.cells (BbV a ca b cb x).toArray 31)) w.heap.size (BbV a ca b cb x)):=HoldsL.new w (BbV a ca b cb x) 31;obtain ⟨ans,hans⟩ : ∃ y,y=upN (sessOne x.binds) x.sess x.sess.length:=⟨_,rfl⟩;rw [← hans];have HA:Hid (ans=upN (sessOne x.binds) x.sess x.sess.length):=hans;have HR:Hid (BbIs w a b x):=hr;clear hr hans;unfold bbC;go_enter Tryz.func36,Tryz.ntmps36
 go_wp2_with fail
 go_loopw [3] (fun iv wr=>∃ i:Nat,i≤x.sess.length∧iv=iV i∧upN (sessOne x.binds) x.sess i=true∧HoldsL wr w.heap.size (BbV a ca b cb x)∧Below w.heap.size w wr) (fun iv _=>x.sess.length-(intOf iv).toNat)
 case atStart=>exact ⟨0,Nat.zero_le _,rfl,rfl,H0.out,GA.out⟩
 case round =>
  obtain ⟨i,hi,rfl,hn,hk,hbel⟩:=hrel;have HN:Hid (upN (sessOne x.binds) x.sess i=true):=hn;have HB:Hid (Below w.heap.size w wr):=hbel;have HK:Hid (HoldsL wr w.heap.size (BbV a ca b cb x)):=hk;have hwb:w.heap.size < wr.heap.size:=hk.lt (by simp);have z1:=hk.cell (j:=1) rfl;clear hn hbel hk H0 GA;generalize wr=w0 at *;by_cases hlt:i < x.sess.length
  ·obtain ⟨bb,off,rfl,hb,hat⟩:=HR.out.ss.at hlt;have hA:=(hat.below hb HB.out) i hlt;have HAT:Hid (∀ k,(hk:k < x.sess.length)→∀ W,Below w.heap.size w W→W.rangeAt bb (off+k*7) (ssL x.sess[k])):=fun k hk W hW=>(hat.below hb hW) k hk
   have HST:Hid _:=upN_step (f:=sessOne x.binds) hlt;have HATF:Hid (sessOne x.binds (x.sess.take i) x.sess[i]=false→upN (sessOne x.binds) x.sess x.sess.length=false):=upN_at hlt;obtain ⟨q,hq⟩ : ∃ q,q=x.sess[i]:=⟨_,rfl⟩;rw [← hq] at hA HST HATF;have c0:w0.cell? ⟨bb,off+i*7,none⟩=some (iV q.proto):=hA 0 _ rfl;have c1:w0.cell? ⟨bb,off+i*7+1,none⟩=some (.string q.inn):=hA 1 _ rfl;have c2:w0.cell? ⟨bb,off+i*7+2,none⟩=some (iV q.inPort):=hA 2 _ rfl;have c3:w0.cell? ⟨bb,off+i*7+3,none⟩=some (.string q.peer):=hA 3 _ rfl;have c4:w0.cell? ⟨bb,off+i*7+4,none⟩=some (iV q.peerPort):=hA 4 _ rfl;have c5:w0.cell? ⟨bb,off+i*7+5,none⟩=some (iV q.state):=hA 5 _ rfl;have c6:w0.cell? ⟨bb,off+i*7+6,none⟩=some (iV q.untl):=hA 6 _ rfl;have HOV:Hid (sessOne x.binds (x.sess.take i) q=(decide (q.peer.size=4)&&isW q.peerPort&&isIn q.state 1 7&&(decide (q.proto=6)||decide (q.state=3))&&isIn q.untl 0 2000000000&&decide (0≤findI (ofIn q.proto q.inn q.inPort) x.binds)&&!(x.sess.take i).any fun t=>sameS q t)):=rfl;have B4:Hid (Below w0.heap.size w0 (w0.alloc (.cells (SsV q).toArray 59))):=(Below.refl _ _).alloc (Nat.le_refl _) _;have Y4:Hid (HoldsL (w0.alloc (.cells (SsV q).toArray 59)) w0.heap.size (ssL q)):=HoldsL.new w0 (ssL q) 59;clear hat hA hq;go_upto_region 5 with fail
   have H5:Hid _:=HB.out.trans (B4.out.mono HB.out.size);have K5:Hid _:=HK.out.kept (by simp) B4.out;have hY:w0.heap.size < (w0.alloc (.cells (SsV q).toArray 59)).heap.size:=by simp
   generalize (w0.alloc (.cells (SsV q).toArray 59))=W4 at *;have HWD:Hid (∀ W,Cw 39 #[iV q.peerPort] W (.bool (isW q.peerPort))):=fun W=>specWordIs_any _ W
   have HS1:Hid (∀ W,Cw 40 #[iV q.state,iV 1,iV 7] W (.bool (isIn q.state 1 7))):=fun W=>specIs_any _ _ _ W
   have HS2:Hid (∀ W,Cw 40 #[iV q.untl,iV 0,iV 2000000000] W (.bool (isIn q.untl 0 2000000000))):=fun W=>specIs_any _ _ _ W
   have HBI:Hid (∀ W,Below w.heap.size w W→Cb 33 #[.agg (BbV a ca (some ⟨bb,off,none⟩) cb x).toArray,iV q.proto,.string q.inn,iV q.inPort] W (iV (findI (ofIn q.proto q.inn q.inPort) x.binds))):=fun W hW=>spBind_any x.binds q.proto q.inn q.inPort a ca _ W hl1 (HR.out.bd.below hW)
   generalize isW q.peerPort=b2 at *;generalize isIn q.state 1 7=b3 at *;generalize isIn q.untl 0 2000000000=b5 at *;generalize findI (ofIn q.proto q.inn q.inPort) x.binds=fi at *;obtain ⟨y0,y1,y2,y3,y4,y5,y6⟩:=Y4.out.c7;obtain ⟨z0,z1⟩:=K5.out.c2;have hun:undef=Value.tuple #[]:=rfl;clear c0 c1 c2 c3 c4 c5 c6;obtain ⟨r5,hr5⟩ : ∃ r,r=(decide (q.peer.size=4)&&b2&&b3&&(decide (q.proto=6)||decide (q.state=3))&&b5):=⟨_,rfl⟩;have HRV:Hid (r5=_):=hr5;rw [← hr5] at HOV;clear hr5;go_cut [50] (fun v wx=>v=.bool (!r5)∧wx=W4)
   case first =>
    by_cases h4:q.peer.size=4
    ·have h4i:(q.peer.size:Int)=4:=by omega
     have d1:((q.peer.size:Int) != 4)=false:=by simp [h4i]
     cases b2 with
     | false =>
      go_wp2_with fail
      refine (HWD.out _).mono ?_;rintro e w1 ⟨rfl,rfl⟩;go_wp2_with fail
      go_meet;exact ⟨by rw [HRV.out]; simp,rfl⟩
     | true =>
      go_wp2_with fail
      refine (HWD.out _).mono ?_;rintro e w1 ⟨rfl,rfl⟩
      cases b3 with
      | false =>
       go_wp2_with fail
       refine (HS1.out _).mono ?_;rintro e w1 ⟨rfl,rfl⟩;go_wp2_with fail
       go_meet;exact ⟨by rw [HRV.out]; simp,rfl⟩
      | true =>
       go_wp2_with fail
       refine (HS1.out _).mono ?_;rintro e w1 ⟨rfl,rfl⟩;by_cases h6:q.proto=6<;>by_cases h3:q.state=3
       all_goals first | (have hno:¬ q.proto=6∧¬ q.state=3:=⟨h6,h3⟩; go_wp2_with fail; go_meet; exact ⟨by rw [HRV.out]; simp [h6,h3],rfl⟩) | skip
       all_goals
        cases b5 with
        | false =>
         go_wp2_with fail
         refine (HS2.out _).mono ?_;rintro e w1 ⟨rfl,rfl⟩;go_wp2_with fail
         go_meet;exact ⟨by rw [HRV.out]; simp [h6,h3],rfl⟩
        | true =>
         go_wp2_with fail
         refine (HS2.out _).mono ?_;rintro e w1 ⟨rfl,rfl⟩;go_wp2_with fail
         go_meet;exact ⟨by rw [HRV.out]; simp [h6,h3,h4],rfl⟩
    ·have h4i:¬ (q.peer.size:Int)=4:=by omega
     have d1:((q.peer.size:Int) != 4)=true:=by simp [h4i]
     go_wp2_with fail
     go_meet;exact ⟨by rw [HRV.out]; simp [h4],rfl⟩
   case rest =>
   obtain ⟨rfl,rfl⟩:=hcut
   cases r5 with
   | false =>
    have HXF:Hid (ans=false):=by unfold Hid; rw [HA.out]; refine HATF.out ?_; rw [HOV.out]; rfl
    go_wp2_with fail
    go_ret;exact ⟨ret_bool HXF.out.symm,H5.out⟩
   | true =>
    go_wp2_with fail
    refine (HBI.out _ H5.out).mono ?_;rintro e w2 ⟨rfl,q2⟩;have H6:Hid _:=H5.out.trans (q2.mono H5.out.size);have K6:Hid _:=K5.out.kept (by simp) q2;have Y6:Hid _:=Y4.out.kept (by simp [ssL]) q2;have hY2:w0.heap.size < w2.heap.size:=by have:=q2.size; omega
    clear q2 z0 z1 H5 K5 Y4 B4 y0 y1 y2 y3 y4 y5 y6;by_cases hfi:fi < 0
    ·have HXF:Hid (ans=false):=by unfold Hid; rw [HA.out]; refine HATF.out ?_; rw [HOV.out,decide_eq_false (show ¬ 0≤fi by omega)]; rfl
     go_wp2_with fail
     go_ret;exact ⟨ret_bool HXF.out.symm,H6.out⟩
    ·rw [decide_eq_true (show 0≤fi by omega)] at HOV;have HOV2:Hid (sessOne x.binds (x.sess.take i) q=!(x.sess.take i).any fun t=>sameS q t):=by unfold Hid; rw [HOV.out]; rfl
     clear HOV HWD HS1 HS2 HBI HRV;go_wp2_with fail
     go_loopw [5] (fun kv wr=>∃ k:Nat,k≤i∧kv=iV k∧((x.sess.take k).any fun t=>sameS q t)=false∧HoldsL wr w.heap.size (BbV a ca (some ⟨bb,off,none⟩) cb x)∧HoldsL wr w0.heap.size (ssL q)∧Below w.heap.size w wr) (fun kv _=>i-(intOf kv).toNat)
     case atStart=>exact ⟨0,Nat.zero_le _,rfl,rfl,K6.out,Y6.out,H6.out⟩
     case round =>
      obtain ⟨k,hk,rfl,hn,hK,hY,hbel⟩:=hrel;have HNk:Hid (((x.sess.take k).any fun t=>sameS q t)=false):=hn;have HBk:Hid (Below w.heap.size w wr):=hbel;have HKk:Hid _:=hK;have HYk:Hid _:=hY;have hYl:w0.heap.size < wr.heap.size:=hY.lt (by simp [ssL]);have z1:=hK.cell (j:=1) rfl;clear hn hbel hK hY K6 Y6 H6;by_cases hkl:k < i
      ·have hkx:k < x.sess.length:=by omega
       have hkx':(k:Int) < (x.sess.length:Int):=by omega
       have hA:=HAT.out k hkx wr HBk.out;have HSTk:Hid _:=any_take (fun t=>sameS q t) x.sess k hkx;have HYES:Hid (sameS q x.sess[k]=true→sessOne x.binds (x.sess.take i) q=false):=fun h=>by
        rw [HOV2.out,any_at (fun t=>sameS q t) (x.sess.take i) k (by simp; omega) (by rw [List.getElem_take]; exact h)]; rfl
       obtain ⟨c,hc⟩ : ∃ c,c=x.sess[k]:=⟨_,rfl⟩;rw [← hc] at hA HSTk HYES;have c0:wr.cell? ⟨bb,off+k*7,none⟩=some (iV c.proto):=hA 0 _ rfl;have c1:wr.cell? ⟨bb,off+k*7+1,none⟩=some (.string c.inn):=hA 1 _ rfl;have c2:wr.cell? ⟨bb,off+k*7+2,none⟩=some (iV c.inPort):=hA 2 _ rfl;have c3:wr.cell? ⟨bb,off+k*7+3,none⟩=some (.string c.peer):=hA 3 _ rfl;have c4:wr.cell? ⟨bb,off+k*7+4,none⟩=some (iV c.peerPort):=hA 4 _ rfl;have c5:wr.cell? ⟨bb,off+k*7+5,none⟩=some (iV c.state):=hA 5 _ rfl;have c6:wr.cell? ⟨bb,off+k*7+6,none⟩=some (iV c.untl):=hA 6 _ rfl;have B5:Hid (Below wr.heap.size wr (wr.alloc (.cells (SsV c).toArray 59))):=(Below.refl _ _).alloc (Nat.le_refl _) _;have Z5:Hid (HoldsL (wr.alloc (.cells (SsV c).toArray 59)) wr.heap.size (ssL c)):=HoldsL.new wr (ssL c) 59;clear hA hc;go_upto_region 13 with fail
       have HB5:Hid _:=HBk.out.trans (B5.out.mono HBk.out.size);have HK5:Hid _:=HKk.out.kept (by simp) B5.out;have HY5:Hid _:=HYk.out.kept (by simp [ssL]) B5.out;generalize (wr.alloc (.cells (SsV c).toArray 59))=W5 at *;obtain ⟨y0,y1,y2,y3,y4,y5,y6⟩:=HY5.out.c7;obtain ⟨x0,x1,x2,x3,x4,x5,x6⟩:=Z5.out.c7;have HCV:Hid (sameS q c=(decide (q.proto=c.proto)&&decide (q.inn.toList=c.inn.toList)&&decide (q.inPort=c.inPort)&&decide (q.peer.toList=c.peer.toList)&&decide (q.peerPort=c.peerPort))):=rfl;clear c0 c1 c2 c3 c4 c5 c6 B5 Z5 HBk HKk HYk z1;go_cut [102] (fun v wx=>v=.bool (sameS q c)∧wx=W5)
       case first =>
        by_cases e1:q.proto=c.proto
        ·by_cases e2:q.inn.toList=c.inn.toList
         ·by_cases e3:q.inPort=c.inPort
          ·by_cases e4:q.peer.toList=c.peer.toList
           ·by_cases e5:q.peerPort=c.peerPort
            ·have HCW:Hid (sameS q c=true):=by unfold Hid; rw [HCV.out]; simp [e1,e2,e3,e4,e5]
             have f2:=beq_yes e2;have f4:=beq_yes e4;go_wp2_with fail
             all_goals go_meet
             all_goals exact ⟨by rw [HCW.out]; try simp [e1,e2,e3,e4,e5],rfl⟩
            ·have HCW:Hid (sameS q c=false):=by unfold Hid; rw [HCV.out]; simp [e1,e2,e3,e4,e5]
             have f2:=beq_yes e2;have f4:=beq_yes e4;have f5:(q.peerPort==c.peerPort)=false:=by simp [e5]
             go_wp2_with fail
             all_goals go_meet
             all_goals exact ⟨by rw [HCW.out]; try simp [e1,e2,e3,e4,e5],rfl⟩
           ·have HCW:Hid (sameS q c=false):=by unfold Hid; rw [HCV.out]; simp [e1,e2,e3,e4]
            have f2:=beq_yes e2;have f4:=beq_no e4;go_wp2_with fail
            all_goals go_meet
            all_goals exact ⟨by rw [HCW.out]; try simp [e1,e2,e3,e4],rfl⟩
          ·have HCW:Hid (sameS q c=false):=by unfold Hid; rw [HCV.out]; simp [e1,e2,e3]
           have f2:=beq_yes e2;have f3:(q.inPort==c.inPort)=false:=by simp [e3]
           go_wp2_with fail
           all_goals go_meet
           all_goals exact ⟨by rw [HCW.out]; try simp [e1,e2,e3],rfl⟩
         ·have HCW:Hid (sameS q c=false):=by unfold Hid; rw [HCV.out]; simp [e1,e2]
          have f2:=beq_no e2;go_wp2_with fail
          all_goals go_meet
          all_goals exact ⟨by rw [HCW.out]; try simp [e1,e2],rfl⟩
        ·have HCW:Hid (sameS q c=false):=by unfold Hid; rw [HCV.out]; simp [e1]
         have f1:(q.proto==c.proto)=false:=by simp [e1]
         go_wp2_with fail
         all_goals go_meet
         all_goals exact ⟨by rw [HCW.out]; try simp [e1],rfl⟩
       case rest =>
        obtain ⟨rfl,rfl⟩:=hcut
        cases hcl:sameS q c with
        | true =>
         have HXF:Hid (ans=false):=by unfold Hid; rw [HA.out]; exact HATF.out (HYES.out hcl)
         clear hcl;go_wp2_with fail
         go_ret;exact ⟨ret_bool HXF.out.symm,HB5.out⟩
        | false =>
         have HN2:Hid (((x.sess.take (k+1)).any fun t=>sameS q t)=false):=by unfold Hid; rw [HSTk.out,HNk.out,hcl]; rfl
         clear hcl;go_wp2_with fail
         go_roundw
         case rel=>exact ⟨k+1,by omega,by go_num,HN2.out,HK5.out,HY5.out,HB5.out⟩
         case measure=>simp [intOf]; omega
      ·have hke:k=i:=by omega
       have HN2:Hid (upN (sessOne x.binds) x.sess (i+1)=true):=by
        unfold Hid; rw [HST.out,HN.out,HOV2.out,← hke,HNk.out]; rfl
       go_wp2_with fail
       go_roundw
       case rel=>exact ⟨i+1,by omega,by go_num,HN2.out,HKk.out,HBk.out⟩
       case measure=>simp [intOf]; omega
  ·have hie:i=x.sess.length:=by omega
   have HXT:Hid (ans=true):=by unfold Hid; rw [HA.out,← hie]; exact HN.out
   go_wp2_with fail
   go_ret;exact ⟨ret_bool HXT.out.symm,HB.out⟩
theorem all_take {α:Type} (f:α→Bool) (xs:List α) (i:Nat) (h:i < xs.length):(xs.take (i+1)).all f=((xs.take i).all f&&f xs[i]):=by
 rw [List.take_succ_eq_append_getElem h,List.all_append]; simp
theorem all_no {α:Type} (f:α→Bool) (xs:List α) (i:Nat) (h:i < xs.length) (hf:f xs[i]=false):xs.all f=false:=by
 rw [List.all_eq_false]; exact ⟨_,List.getElem_mem h,by simp [hf]⟩
theorem specBib_any (p:Pl) (x:Bb) (pa:Option Addr) (pc:Nat) (a b:Option Addr) (ca cb:Nat) (w:World) (hlp:p.addrs.length≤1048576) (hpc:p.addrs.length≤pc) (hsz:∀ s∈p.addrs,s.size≤1048576) (hl1:x.binds.length≤1048576) (hl2:x.sess.length≤1048576) (hp:SlIs strL1 1 w pa p.addrs) (hr:BbIs w a b x) :
  Cb 13 #[plC pa pc p,bbC a b ca cb x] w (.bool (bibOk p x)):=by
 have HB:Hid (Below w.heap.size w ((aW w (PlV pa pc p) 27).alloc (.cells (BbV a ca b cb x).toArray 31))):=((Below.refl _ _).alloc (Nat.le_refl _) _).alloc (by simp) _;have H0:=(HoldsL.new w (PlV pa pc p) 27).alloc (.cells (BbV a ca b cb x).toArray 31);have H1:=HoldsL.new (w.alloc (.cells (PlV pa pc p).toArray 27)) (BbV a ca b cb x) 31;rw [World.size_alloc] at H1;have hs2:((aW w (PlV pa pc p) 27).alloc (.cells (BbV a ca b cb x).toArray 31)).heap.size=w.heap.size+1+1:=by simp
 have HP:Hid (∀ W,Below w.heap.size w W→Cb 34 #[plC pa pc p] W (.bool (poolOk p))):=fun W hW=>specPool_any p pa pc W hlp hpc hsz (hp.below hW)
 have HBD:Hid (∀ W,Below w.heap.size w W→Cb 35 #[plC pa pc p,.slice a x.binds.length ca] W (.bool (upN (bindOne p) x.binds x.binds.length))):=fun W hW=>spBinds_any p x.binds pa pc a ca W hlp hl1 (hp.below hW) (hr.bd.below hW)
 have HSS:Hid (∀ W,Below w.heap.size w W→Cb 36 #[bbC a b ca cb x] W (.bool (upN (sessOne x.binds) x.sess x.sess.length))):=fun W hW=>spSess_any x a b ca cb W hl1 hl2 (hr.below hW)
 have HV:Hid (bibOk p x=(poolOk p&&decide ((x.sess.length:Int)≤p.most)&&decide (x.binds.length≤60)&&upN (bindOne p) x.binds x.binds.length&&upN (sessOne x.binds) x.sess x.sess.length&&x.binds.all fun y=>x.sess.any fun s=>hasS y s)):=rfl;generalize bibOk p x=ans at *;generalize poolOk p=b1 at *;generalize upN (bindOne p) x.binds x.binds.length=b4 at *;generalize upN (sessOne x.binds) x.sess x.sess.length=b5 at *;have G0:Hid _:=H0;have G1:Hid _:=H1;have HR:Hid (BbIs w a b x):=hr;unfold plC at HP HBD ⊢;unfold bbC at HSS ⊢;clear hp hr H0 H1;go_enter Tryz.func13,Tryz.ntmps13
 go_upto_region 1 with fail
 generalize ((aW w (PlV pa pc p) 27).alloc (.cells (BbV a ca b cb x).toArray 31))=W2 at *;obtain ⟨r1,hr1⟩ : ∃ r,r=(b1&&decide ((x.sess.length:Int)≤p.most)&&decide (x.binds.length≤60)&&b4&&b5):=⟨_,rfl⟩;have HRV:Hid (r1=_):=hr1;rw [← hr1] at HV;clear hr1;go_cut [36] (fun v wx=>v=.bool (!r1)∧Below W2.heap.size W2 wx)
 case first =>
  have hun:undef=Value.tuple #[]:=rfl;obtain ⟨z0,z1,z2,z3,z4,z5,z6,z7,z8,z9⟩:=G0.out.c10;go_wp2_with fail
  refine (HP.out _ HB.out).mono ?_;rintro e w1 ⟨rfl,q1⟩;have Q1:Hid (Below W2.heap.size W2 w1):=q1;have B1:Hid _:=HB.out.trans (q1.mono HB.out.size);have K0:=G0.out.kept (by simp) q1;have K1:=G1.out.kept (by simp) q1;clear q1 z0 z1 z2 z3 z4 z5 z6 z7 z8 z9;obtain ⟨y0,y1,y2,y3,y4,y5,y6,y7,y8,y9⟩:=K0.c10;obtain ⟨k0,k1⟩:=K1.c2;clear K0 K1
  cases b1 with
  | false =>
   go_wp2_with fail
   go_meet;exact ⟨by rw [HRV.out]; simp,Q1.out⟩
  | true =>
   by_cases h2:p.most < (x.sess.length:Int)
   ·go_wp2_with fail
    go_meet;exact ⟨by rw [HRV.out,decide_eq_false (show ¬ (x.sess.length:Int)≤p.most by omega)]; simp,Q1.out⟩
   ·by_cases h3:60 < x.binds.length
    ·have h3':(60:Int) < (x.binds.length:Int):=by omega
     go_wp2_with fail
     go_meet;exact ⟨by rw [HRV.out,decide_eq_false (show ¬ x.binds.length≤60 by omega)]; simp,Q1.out⟩
    ·have h3':¬ (60:Int) < (x.binds.length:Int):=by omega
     rw [decide_eq_true (show (x.sess.length:Int)≤p.most by omega),decide_eq_true (show x.binds.length≤60 by omega)] at HRV;go_wp2_with fail
     refine (HBD.out _ B1.out).mono ?_;rintro e w2 ⟨rfl,q2⟩;have Q2:Hid _:=Q1.out.trans (q2.mono Q1.out.size);have B2:Hid _:=B1.out.trans (q2.mono B1.out.size);have K1:=G1.out.kept (by simp) Q2.out;clear q2 k0 k1 y0 y1 y2 y3 y4 y5 y6 y7 y8 y9;obtain ⟨k0,k1⟩:=K1.c2;clear K1
     cases b4 with
     | false =>
      go_wp2_with fail
      go_meet;exact ⟨by rw [HRV.out]; simp<;>omega,Q2.out⟩
     | true =>
      go_wp2_with fail
      refine (HSS.out _ B2.out).mono ?_;rintro e w3 ⟨rfl,q3⟩;have Q3:Hid _:=Q2.out.trans (q3.mono Q2.out.size);clear q3 k0 k1
      cases b5;all_goals
       go_wp2_with fail
       go_meet;exact ⟨by rw [HRV.out]; simp<;>omega,Q3.out⟩
 case rest =>
  obtain ⟨rfl,hQ⟩:=hcut;have B3:Hid _:=HB.out.trans (hQ.mono HB.out.size);have K3:Hid _:=G1.out.kept (by simp) hQ;clear hQ HP HBD HSS G0 G1 HRV HB hs2
  cases r1 with
  | false =>
   have HX:Hid (ans=false):=by unfold Hid; rw [HV.out]; rfl
   go_wp2_with fail
   go_ret;exact ⟨ret_bool HX.out.symm,B3.out⟩
  | true =>
   have HU:Hid (ans=x.binds.all fun y=>x.sess.any fun s=>hasS y s):=by unfold Hid; rw [HV.out]; rfl
   clear HV;generalize wc=w9 at *;go_wp2_with fail
   go_loopw [5] (fun iv wr=>∃ i:Nat,i≤x.binds.length∧iv=iV i∧((x.binds.take i).all fun y=>x.sess.any fun s=>hasS y s)=true∧HoldsL wr (w.heap.size+1) (BbV a ca b cb x)∧Below w.heap.size w wr) (fun iv _=>x.binds.length-(intOf iv).toNat)
   case atStart=>exact ⟨0,Nat.zero_le _,rfl,rfl,K3.out,B3.out⟩
   case round =>
    obtain ⟨i,hi,rfl,hn,hk,hbel⟩:=hrel;have HN:Hid (((x.binds.take i).all fun y=>x.sess.any fun s=>hasS y s)=true):=hn;have HBi:Hid (Below w.heap.size w wr):=hbel;have HKi:Hid _:=hk;have z0:=hk.cell (j:=0) rfl;clear hn hbel hk K3 B3;generalize wr=w0 at *;by_cases hlt:i < x.binds.length
    ·obtain ⟨ba,oa,rfl,hba,hata⟩:=HR.out.bd.at hlt;have HATA:Hid (∀ W,Below w.heap.size w W→W.rangeAt ba (oa+i*5) (bdL x.binds[i])):=fun W hW=>(hata.below hba hW) i hlt
     have HST:Hid _:=all_take (fun y=>x.sess.any fun s=>hasS y s) x.binds i hlt;have HNO:Hid _:=all_no (fun y=>x.sess.any fun s=>hasS y s) x.binds i hlt;obtain ⟨y,hy⟩ : ∃ y,y=x.binds[i]:=⟨_,rfl⟩;rw [← hy] at HATA HST HNO;clear hata hba hy;go_wp2_with fail
     go_loopw [6,7] (fun hv kv wr=>∃ k:Nat,k≤x.sess.length∧kv=iV k∧hv=.bool ((x.sess.take k).any fun s=>hasS y s)∧HoldsL wr (w.heap.size+1) (BbV (some ⟨ba,oa,none⟩) ca b cb x)∧Below w.heap.size w wr) (fun _ kv _=>x.sess.length-(intOf kv).toNat)
     case atStart=>exact ⟨0,Nat.zero_le _,rfl,rfl,HKi.out,HBi.out⟩
     case round =>
      obtain ⟨k,hk,rfl,rfl,hK,hbel⟩:=hrel;have HBk:Hid (Below w.heap.size w wr):=hbel;have HKk:Hid _:=hK;have z1:=hK.cell (j:=1) rfl;have hbx:Hid (w.heap.size+1 < wr.heap.size):=hK.lt (by simp);clear hbel hK z0;by_cases hkl:k < x.sess.length
      ·obtain ⟨bs,os,rfl,hbs,hats⟩:=HR.out.ss.at hkl;have HATS:Hid (∀ W,Below w.heap.size w W→W.rangeAt bs (os+k*7) (ssL x.sess[k])):=fun W hW=>(hats.below hbs hW) k hkl
       have HSK:Hid _:=any_take (fun s=>hasS y s) x.sess k hkl;obtain ⟨s,hs⟩ : ∃ s,s=x.sess[k]:=⟨_,rfl⟩;rw [← hs] at HATS HSK;have HHS:Hid (∀ W,Cb 37 #[bdC y,ssC s] W (.bool (hasS y s))):=fun W=>spHas_any y s W
       have hltI:(i:Int) < (x.binds.length:Int):=by omega
       have hklI:(k:Int) < (x.sess.length:Int):=by omega
       generalize (x.sess.take k).any (fun s=>hasS y s)=hb0 at *;unfold bdC ssC at HHS;clear hats hbs hs;go_upto_region 10 with fail
       cases hb0 with
       | false =>
        refine wp_region_growV [51,52,53,54,55,56,57,58,59,60,61,62,63,64] (by kernel_rfl) (by kernel_rfl) ?_;iterate 14 ((first|apply GChV.u rfl|apply GChV.g rfl rfl rfl rfl rfl (by simp));(·intro K' a wy ho hd hb hK;simp [rAt,IsV,slot,Region.binds] at ho hd;have hbw:=HBk.out.drew.trans (hb.mono HBk.out.drew.size); have kx:=(HKk.out.drew.kept (by simp) hb); have kC:=kx.c2; have ra:=HATA.out wy hbw; have rs:=HATS.out wy hbw; have a0:wy.cell? ⟨ba,oa+i*5,none⟩=some (iV y.proto):=ra 0 _ rfl; have a1:wy.cell? ⟨ba,oa+i*5+1,none⟩=some (.string y.inn):=ra 1 _ rfl; have a2:wy.cell? ⟨ba,oa+i*5+2,none⟩=some (iV y.inPort):=ra 2 _ rfl; have a3:wy.cell? ⟨ba,oa+i*5+3,none⟩=some (.string y.out):=ra 3 _ rfl; have a4:wy.cell? ⟨ba,oa+i*5+4,none⟩=some (iV y.outPort):=ra 4 _ rfl; have s0:wy.cell? ⟨bs,os+k*7,none⟩=some (iV s.proto):=rs 0 _ rfl; have s1:wy.cell? ⟨bs,os+k*7+1,none⟩=some (.string s.inn):=rs 1 _ rfl; have s2:wy.cell? ⟨bs,os+k*7+2,none⟩=some (iV s.inPort):=rs 2 _ rfl; have s3:wy.cell? ⟨bs,os+k*7+3,none⟩=some (.string s.peer):=rs 3 _ rfl; have s4:wy.cell? ⟨bs,os+k*7+4,none⟩=some (iV s.peerPort):=rs 4 _ rfl; have s5:wy.cell? ⟨bs,os+k*7+5,none⟩=some (iV s.state):=rs 5 _ rfl; have s6:wy.cell? ⟨bs,os+k*7+6,none⟩=some (iV s.untl):=rs 6 _ rfl; clear ra rs kx hbw;go_simp;first|((try go_bits);exact hK _ _ rfl bQ)|(refine (HHS.out wy).mono ?_;rintro e wz ⟨rfl,hz⟩;exact hK _ _ rfl hz));dsimp only [nA,cA])
        intro X wz hR hz;simp only [List.nil_append,List.cons_append,RAll,IsV] at hR;simp only [putsFrom,hR];clear hR;simp only [List.length_cons,List.length_nil,List.drop_succ_cons,List.drop_zero,Nat.zero_add,Nat.reduceAdd];intro K9 hK9;go_simp;refine hK9 _ _ ?_;have hb6:Below wr.heap.size wr wz:=(Below.refl _ wr).drew.trans hz;have HB2:Hid _:=HBk.out.trans (hb6.mono HBk.out.size);have HK2:Hid _:=HKk.out.kept (by simp) hb6;clear hb6 hz z1;simp only [wpSeq];go_wp2_with fail
        go_roundw
        case rel =>
         (repeat apply Exists.intro)
         exact ⟨⟨k+1,by omega,by go_num,by rw [HSK.out]; rfl,HK2.out,HB2.out⟩,rfl⟩
        case measure=>simp [intOf]; omega
       | true =>
        refine wp_region_growV [51,52,53,54,55,56,57,58,59,60,61,62,63,64] (by kernel_rfl) (by kernel_rfl) ?_;iterate 14 ((first|(refine GChV.n rfl rfl rfl rfl rfl (by simp) ?_)|(apply GChV.u rfl;(·intro K' a wy ho hd hb hK;simp [rAt,IsV,slot,Region.binds] at ho hd;go_simp;(try go_bits);exact hK _ _ rfl bQ)));dsimp only [nA,cA])
        intro X wz hR hz;simp only [List.nil_append,List.cons_append,RAll,IsV] at hR;simp only [putsFrom,hR];clear hR;simp only [List.length_cons,List.length_nil,List.drop_succ_cons,List.drop_zero,Nat.zero_add,Nat.reduceAdd];intro K9 hK9;go_simp;refine hK9 _ _ ?_;have hb6:Below wr.heap.size wr wz:=(Below.refl _ wr).drew.trans hz;have HB2:Hid _:=HBk.out.trans (hb6.mono HBk.out.size);have HK2:Hid _:=HKk.out.kept (by simp) hb6;clear hb6 hz z1;simp only [wpSeq];go_wp2_with fail
        go_roundw
        case rel =>
         (repeat apply Exists.intro)
         exact ⟨⟨k+1,by omega,by go_num,by rw [HSK.out]; rfl,HK2.out,HB2.out⟩,rfl⟩
        case measure=>simp [intOf]; omega
      ·have hke:k=x.sess.length:=by omega
       rw [hke,List.take_length]
       cases hh:x.sess.any (fun s=>hasS y s) with
       | false =>
        have HX:Hid (ans=false):=by unfold Hid; rw [HU.out]; exact HNO.out hh
        clear hh;go_wp2_with fail
        go_ret;exact ⟨ret_bool HX.out.symm,HBk.out⟩
       | true =>
        have HN2:Hid (((x.binds.take (i+1)).all fun y=>x.sess.any fun s=>hasS y s)=true):=by unfold Hid; rw [HST.out,HN.out,hh]; rfl
        clear hh;go_wp2_with fail
        go_roundw
        case rel=>exact ⟨i+1,by omega,by go_num,HN2.out,HKk.out,HBk.out⟩
        case measure=>simp [intOf]; omega
    ·have hie:i=x.binds.length:=by omega
     have HX:Hid (ans=true):=by unfold Hid; rw [HU.out]; have:=HN.out; rw [hie,List.take_length] at this; exact this
     go_wp2_with fail
     go_ret;exact ⟨ret_bool HX.out.symm,HBi.out⟩
end Go.Proofs.YtdkepkaflielhaaGreatDoor
