import Derived.Test.YtdkepkaflielhaaGreatDoorMerged9
import Derived.Test.YtdkepkaflielhaaGreatDoorMerged3
import Derived.Test.YtdkepkaflielhaaGreatDoorShelf
set_option linter.unusedVariables false
set_option linter.unusedSimpArgs false
set_option maxRecDepth 100000
set_option maxHeartbeats 8000000
namespace Go.Proofs.YtdkepkaflielhaaGreatDoor
open Go.RowKit
def cY(inn:BA)(c:Bd):Bool:=decide (c.inn.toList=inn.toList)
def jO(p:Pl)(inn:BA):BA:=(p.VL[(bN inn).toNat % p.VL.length]?).getD ⟨#[]⟩
def dV(xs:List Bd)(d inn:BA):BA:=match xs.find? (cY inn) with | some c=>c.out | none=>d
def dS(xs:List Bd)(VF:Int)(out:BA)(n:Int):Bool:=decide (bD (cV VF out n) xs < 0)
def cQ(f:Int→Bool):Int→Nat→Option Int
 | _,0=>none
 | lo,c+1=>if f lo=true then some lo else cQ f (lo+1) c
def jH(p:Pl)(xs:List Bd)(VF:Int)(out:BA)(port:Int):Option Int :=
 if (aO port p.low p.high&&dS xs VF out port)=true then some port
 else match cQ (fun n=>decide (n % 2=port % 2)&&dS xs VF out n) p.low (p.high-p.low+1).toNat with
  | some n=>some n
  | none=>cQ (dS xs VF out) p.low (p.high-p.low+1).toNat
def gJ(p:Pl)(xs:List Bd)(VF:Int)(inn:BA)(port:Int):Bd × Int :=
 match xs.find? (cD VF inn port) with
 | some c=>(c,0)
 | none=>match jH p xs VF (dV xs (jO p inn) inn) port with
  | some n=>(⟨VF,inn,port,dV xs (jO p inn) inn,n⟩,0)
  | none=>(lB,9)
theorem nG{f:Int→Bool}{n hi:Int}(h:n≤hi):cQ f n (hi-n+1).toNat=if f n=true then some n else cQ f (n+1) (hi-(n+1)+1).toNat:=by
 obtain⟨c,hc⟩: ∃c:Nat,(hi-n+1).toNat=c+1:=⟨(hi-n).toNat,by omega⟩;rw[hc];show (if f n=true then some n else cQ f (n+1) c)=_;rw[show (hi-(n+1)+1).toNat=c by omega]
theorem rO{f:Int→Bool}{n hi:Int}(h:hi < n):cQ f n (hi-n+1).toNat=none:=by
 rw[show (hi-n+1).toNat=0 by omega];rfl
theorem GY{xs:List Bd}{d inn:BA}{i:Nat}(h:i < xs.length):dV (xs.drop i) d inn=if cY inn xs[i]=true then xs[i].out else dV (xs.drop (i+1)) d inn:=by
 unfold dV;rw[List.drop_eq_getElem_cons h,List.find?_cons]
 cases hb:cY inn xs[i]<;>simp
open Go.PlainAid
theorem bP.take{α:Type}{en:α→List Value}{n:Nat}{w:World}{a:OA}{xs:List α}(h:bP en n w a xs)(i:Nat):bP en n w a (xs.take i):=by
 rcases h with rfl|⟨b,off,rfl,hb,hat⟩
 ·exact .inl (by simp)
 ·exact .inr ⟨b,off,rfl,hb,fun j hj=>by rw[List.getElem_take];exact hat j (by simp at hj;omega)⟩
theorem BP(p:Pl)(a:OA)(cap:Nat)(w:World)(hl:p.VL.length≤1048576)(hcap:p.VL.length≤cap)(hsz:∀s∈p.VL,s.size≤1048576)(hr:bP cB 1 w a p.VL) :
  Cb 34 #[iK a cap p] w (.bool (cU p)):=by
 have hun:undef=Value.tuple #[]:=rfl;have GA:Hid (Below w.heap.size w (w.alloc (.cells (bG a cap p).toArray 27))):=bR.alloc lR _;have H0:Hid (aA (w.alloc (.cells (bG a cap p).toArray 27)) w.heap.size (bG a cap p)):=aA.new w (bG a cap p) 27;have HM:Hid (∀W,Cw 40 #[iV p.most,iV 1,iV 60] W (.bool (aO p.most 1 60))):=fun W=>fD _ _ _ W
 have HF:Hid (∀W,Cw 40 #[iV p.filter,iV 0,iV 2] W (.bool (aO p.filter 0 2))):=fun W=>fD _ _ _ W
 have HL:Hid (∀W,Cb 67 #[yI p.lv] W (.bool (fT p.lv))):=fun W=>rE p.lv W
 have HV:Hid (cU p=(decide (1≤p.VL.length)&&decide (p.VL.length≤8)&&decide (1≤p.low)&&decide (p.low≤p.high)&&decide (p.high≤65535)&&aO p.most 1 60&&aO p.filter 0 2&&fT p.lv&&jT eV p.VL p.VL.length)):=rfl;generalize cU p=ans at *;generalize aO p.most 1 60=bm at *;generalize aO p.filter 0 2=bf at *;generalize fT p.lv=bl at *;have HR:Hid (bP cB 1 w a p.VL):=hr;have HZ:Hid (∀s∈p.VL,s.size≤1048576):=hsz;clear hr hsz;unfold iK;unfold yI at HL;by_cases h1:p.VL.length < 1
 ·have HX:Hid (ans=false):=by
    unfold Hid;rw[HV.out,show decide (1≤p.VL.length)=false from UD (by omega)];simp
  have h1':(p.VL.length:Int) < 1:=by omega
  go_enter Tryz.func34,Tryz.ntmps34
  go_wp2_with fail
  go_ret;exact⟨aC HX.out.symm,GA.out⟩
 ·rw[show decide (1≤p.VL.length)=true from UE (by omega)]at HV;have h1n:¬(p.VL.length:Int) < 1:=by omega
  by_cases h2:8 < p.VL.length
  ·have HX:Hid (ans=false):=by
     unfold Hid;rw[HV.out,show decide (p.VL.length≤8)=false from UD (by omega)];simp
   have h2':(8:Int) < (p.VL.length:Int):=by omega
   go_enter Tryz.func34,Tryz.ntmps34
   go_wp2_with fail
   go_ret;exact⟨aC HX.out.symm,GA.out⟩
  ·rw[show decide (p.VL.length≤8)=true from UE (by omega)]at HV;have h2n:¬(8:Int) < (p.VL.length:Int):=by omega
   by_cases h3:p.low < 1
   ·have HX:Hid (ans=false):=by
      unfold Hid;rw[HV.out,show decide (1≤p.low)=false from UD (by omega)];simp
    have h3':p.low < 1:=by omega
    go_enter Tryz.func34,Tryz.ntmps34
    go_wp2_with fail
    go_ret;exact⟨aC HX.out.symm,GA.out⟩
   ·rw[show decide (1≤p.low)=true from UE (by omega)]at HV;have h3n:¬p.low < 1:=by omega
    by_cases h4:p.high < p.low
    ·have HX:Hid (ans=false):=by
       unfold Hid;rw[HV.out,show decide (p.low≤p.high)=false from UD (by omega)];simp
     have h4':p.high < p.low:=by omega
     go_enter Tryz.func34,Tryz.ntmps34
     go_wp2_with fail
     go_ret;exact⟨aC HX.out.symm,GA.out⟩
    ·rw[show decide (p.low≤p.high)=true from UE (by omega)]at HV;have h4n:¬p.high < p.low:=by omega
     by_cases h5:65535 < p.high
     ·have HX:Hid (ans=false):=by
        unfold Hid;rw[HV.out,show decide (p.high≤65535)=false from UD (by omega)];simp
      have h5':65535 < p.high:=by omega
      go_enter Tryz.func34,Tryz.ntmps34
      go_wp2_with fail
      go_ret;exact⟨aC HX.out.symm,GA.out⟩
     ·rw[show decide (p.high≤65535)=true from UE (by omega)]at HV;have h5n:¬65535 < p.high:=by omega
      cases bm with
      | false=>
       have HX:Hid (ans=false):=by unfold Hid;rw[HV.out];simp
       go_enter Tryz.func34,Tryz.ntmps34
       go_wp2_with (go_at_call 40;refine(HM.out _).mono ?_;rintro e w1 ⟨rfl,rfl⟩)
       go_ret;exact⟨aC HX.out.symm,GA.out⟩
      | true=>
       cases bf with
       | false=>
        have HX:Hid (ans=false):=by unfold Hid;rw[HV.out];simp
        go_enter Tryz.func34,Tryz.ntmps34
        go_wp2_with fail
        refine(HM.out _).mono ?_;rintro e w1 ⟨rfl,rfl⟩;go_wp2_with fail
        refine(HF.out _).mono ?_;rintro e w1 ⟨rfl,rfl⟩;go_wp2_with fail
        go_ret;exact⟨aC HX.out.symm,GA.out⟩
       | true=>
        go_enter Tryz.func34,Tryz.ntmps34
        go_wp2_with fail
        refine(HM.out _).mono ?_;rintro e w1 ⟨rfl,rfl⟩;go_wp2_with fail
        refine(HF.out _).mono ?_;rintro e w1 ⟨rfl,rfl⟩;go_wp2_with fail
        refine(HL.out _).mono ?_;rintro e w1 ⟨rfl,q1⟩;have G1:Hid _:=GA.out.trans (q1.mono GA.out.size);have K1:=H0.out.kept (by simp) q1;have k0:=K1.cell (j:=0) rfl;have KB:Hid (w.heap.size < w1.heap.size):=K1.lt (by simp);have HK1:Hid _:=K1;clear q1 K1 H0 GA HM HF HL
        cases bl with
        | false=>
         have HX:Hid (ans=false):=by unfold Hid;rw[HV.out];simp
         go_wp2_with fail
         go_ret;exact⟨aC HX.out.symm,G1.out⟩
        | true=>
         have HU:Hid (ans=jT eV p.VL p.VL.length):=by unfold Hid;rw[HV.out];simp
         clear HV;go_wp2_with fail
         go_loopw [3] (fun iv wr=>∃i:Nat,i≤p.VL.length∧iv=iV i∧jT eV p.VL i=true∧wr.cell? ⟨w.heap.size,0,none⟩=some (.slice a p.VL.length cap)∧Below w.heap.size w wr) (fun iv _=>p.VL.length-(intOf iv).toNat)
         case atStart=>exact⟨0,VC _,rfl,rfl,k0,G1.out⟩
         case round=>
          obtain⟨i,hi,rfl,hn,hk,hbel⟩:=hrel;have HN:Hid (jT eV p.VL i=true):=hn;have HB:Hid (Below w.heap.size w wr):=hbel;have HK:Hid (wr.cell? ⟨w.heap.size,0,none⟩=some (.slice a p.VL.length cap)):=hk;clear hn hbel k0;by_cases hlt:i < p.VL.length
          ·obtain⟨b,off,rfl,hb,hat⟩:=HR.out.at hlt;have HA:=(hat.below hb HB.out) i hlt;have HST:Hid _:=lW (f:=eV) hlt;have hsi:=HZ.out p.VL[i] (UJ hlt);have HATF:Hid (eV (p.VL.take i) p.VL[i]=false→jT eV p.VL p.VL.length=false):=rY hlt;obtain⟨s,hs⟩: ∃s,s=p.VL[i]:=⟨_,rfl⟩;rw[←hs]at HA HST HATF hsi;have c0:wr.cell? ⟨b,off+i,none⟩=some (.string s):=by have:=HA 0 _ rfl;simpa using this
           have C0:Hid (wr.cell? ⟨b,off+i,none⟩=some (.string s)):=c0;have hbw:Hid (b < wr.heap.size):=US wr _ c0;have hwb:Hid (w.heap.size < wr.heap.size):=US wr _ hk;have HIN:Hid (∀W,Below wr.heap.size wr W→Cb 68 #[.slice (some ⟨b,off,none⟩) i cap,.string s] W (.bool (mW (p.VL.take i) s))):=fun W hW=>by
            have:=xD (p.VL.take i) s (some ⟨b,off,none⟩) cap W (by simp;omega) (((HR.out.take i).below HB.out).below hW);rw[List.length_take_of_le (by omega)]at this;exact this
           have hic:(i:Int)≤(cap:Int):=by omega
           have hlt':(i:Int) < (p.VL.length:Int):=by omega
           clear hat HA hs c0 hun;by_cases h4:s.size=4
           ·have hd:((s.size:Int) != 4)=false:=by rw[h4];rfl
            have hd2:decide ((s.size:Int)=4)=true:=by rw[h4];rfl
            generalize hin:mW (p.VL.take i) s=bi at *;go_upto_region 6 with fail
            go_cut [74] (fun v wx=>v=.bool bi∧Below wr.heap.size wr wx)
            case first=>
             rename_i J K2 hJ hK2;refine bJ [56,57,58,59,60,61,62,63,64,65,66,67,68,69,70,71,72,73,74] (by kernel_rfl) (by kernel_rfl) ?_;iterate 19 ((first|apply fI.u rfl|apply fI.g rfl rfl rfl rfl rfl (by simp));(·intro K' a wy ho hd hb hK;simp[aU,aG,aD,Region.binds]at ho hd;have kk0:=((iO ((Below.refl _ wr).drew.trans hb)).1 _ _ hwb.out).trans HK.out;have kk1:=((iO ((Below.refl _ wr).drew.trans hb)).1 _ _ hbw.out).trans C0.out;go_simp;first|((try go_bits);exact hK _ _ rfl bQ)|(refine(HIN.out wy ((Below.refl _ wr).drew.trans hb)).mono ?_;rintro e wz ⟨rfl,hz⟩;exact hK _ _ rfl hz));dsimp only[nA,cA])
             intro X wz hR hz;simp only[UM,UN,eY,aG]at hR;simp only[aE,hR];clear hR;go_simp;refine hK2 _ _ (hJ _ _ ?_);(repeat apply Exists.intro)
             refine⟨⟨rfl,(Below.refl _ wr).drew.trans hz⟩,rfl⟩
            case rest=>
             obtain⟨rfl,hb6⟩:=hcut;have HB2:Hid _:=HB.out.trans (hb6.mono HB.out.size);have hk2:wc.cell? ⟨w.heap.size,0,none⟩=some (.slice (some ⟨b,off,none⟩) p.VL.length cap):=((iO hb6).1 _ _ hwb.out).trans HK.out;have HK2:Hid _:=hk2;clear hk2 hb6 hk
             cases bi with
             | true=>
              have HX:Hid (ans=false):=by
               unfold Hid;rw[HU.out];refine HATF.out ?_;unfold eV;rw[hin];simp
              go_wp2_with fail
              go_ret;exact⟨aC HX.out.symm,HB2.out⟩
             | false=>
              have HN2:Hid (jT eV p.VL (i+1)=true):=by
               unfold Hid;rw[HST.out,HN.out];unfold eV;rw[hin,h4];rfl
              go_wp2_with fail
              go_roundw
              case rel=>exact⟨i+1,by omega,by go_num,HN2.out,HK2.out,HB2.out⟩
              case measure=>simp[intOf];omega
           ·have hd:((s.size:Int) != 4)=true:=by simp;omega
            have hd2:decide ((s.size:Int)=4)=false:=by simp;omega
            have HX:Hid (ans=false):=by
             unfold Hid;rw[HU.out];refine HATF.out ?_;unfold eV;rw[UD h4];rfl
            go_upto_region 6 with fail
            go_cut [74] (fun v wx=>v=.bool true∧Below wr.heap.size wr wx)
            case first=>
             rename_i J K2 hJ hK2;refine bJ [56,57,58,59,60,61,62,63,64,65,66,67,68,69,70,71,72,73,74] (by kernel_rfl) (by kernel_rfl) ?_;iterate 19 ((first|(refine fI.n rfl rfl rfl rfl rfl (by simp) ?_)|(apply fI.u rfl;(·intro K' a wy ho hd hb hK;simp[aU,aG,aD,Region.binds]at ho hd;have kk0:=((iO ((Below.refl _ wr).drew.trans hb)).1 _ _ hwb.out).trans HK.out;have kk1:=((iO ((Below.refl _ wr).drew.trans hb)).1 _ _ hbw.out).trans C0.out;go_simp;(try go_bits);exact hK _ _ rfl bQ)));dsimp only[nA,cA])
             intro X wz hR hz;simp only[UM,UN,eY,aG]at hR;simp only[aE,hR];clear hR;go_simp;refine hK2 _ _ (hJ _ _ ?_);(repeat apply Exists.intro)
             refine⟨⟨rfl,(Below.refl _ wr).drew.trans hz⟩,rfl⟩
            case rest=>
             obtain⟨rfl,hb6⟩:=hcut;have HB2:Hid _:=HB.out.trans (hb6.mono HB.out.size);clear hb6 hk;go_wp2_with fail
             go_ret;exact⟨aC HX.out.symm,HB2.out⟩
          ·have hie:i=p.VL.length:=by omega
           have HX:Hid (ans=true):=by unfold Hid;rw[HU.out,←hie];exact HN.out
           go_wp2_with fail
           go_ret;exact⟨aC HX.out.symm,HB.out⟩
theorem gN{a b:List UInt8}(h:a=b):(a==b)=true:=by simp[h]
theorem oK{a b:List UInt8}(h:¬a=b):(a==b)=false:=by simp[h]
theorem EG(p:Pl)(xs:List Bd)(a:OA)(cap:Nat)(b:OA)(capb:Nat)(w:World)(hl:p.VL.length≤1048576)(hlx:xs.length≤1048576)(hr:bP cB 1 w a p.VL)(hx:bP dP 5 w b xs) :
  Cb 35 #[iK a cap p,.slice b xs.length capb] w (.bool (jT (cK p) xs xs.length)):=by
 have GA:Hid (Below w.heap.size w (w.alloc (.cells (bG a cap p).toArray 27))):=bR.alloc lR _;have H0:Hid (aA (w.alloc (.cells (bG a cap p).toArray 27)) w.heap.size (bG a cap p)):=aA.new w (bG a cap p) 27;have HV:Hid (jT (cK p) xs xs.length=jT (cK p) xs xs.length):=rfl;obtain⟨ans,hans⟩: ∃x,x=jT (cK p) xs xs.length:=⟨_,rfl⟩;rw[←hans];have HA:Hid (ans=jT (cK p) xs xs.length):=hans;have HR:Hid (bP cB 1 w a p.VL):=hr;have HX:Hid (bP dP 5 w b xs):=hx;clear hr hx hans HV;unfold iK;go_enter Tryz.func35,Tryz.ntmps35
 go_wp2_with fail
 go_loopw [5] (fun iv wr=>∃i:Nat,i≤xs.length∧iv=iV i∧jT (cK p) xs i=true∧aA wr w.heap.size (bG a cap p)∧Below w.heap.size w wr) (fun iv _=>xs.length-(intOf iv).toNat)
 case atStart=>exact⟨0,VC _,rfl,rfl,H0.out,GA.out⟩
 case round=>
  obtain⟨i,hi,rfl,hn,hk,hbel⟩:=hrel;have HN:Hid (jT (cK p) xs i=true):=hn;have HB:Hid (Below w.heap.size w wr):=hbel;have HK:Hid (aA wr w.heap.size (bG a cap p)):=hk;have hwb:w.heap.size < wr.heap.size:=hk.lt (by simp);clear hn hbel hk H0 GA;generalize wr=w0 at *;by_cases hlt:i < xs.length
  ·obtain⟨bb,off,rfl,hb,hat⟩:=HX.out.at hlt;have hA:=(hat.below hb HB.out) i hlt;have HAT:Hid (∀k,(hk:k < xs.length)→∀W,Below w.heap.size w W→W.rangeAt bb (off+k*5) (dP xs[k])):=fun k hk W hW=>(hat.below hb hW) k hk
   have HST:Hid _:=lW (f:=cK p) hlt;have HATF:Hid (cK p (xs.take i) xs[i]=false→jT (cK p) xs xs.length=false):=rY hlt;obtain⟨q,hq⟩: ∃q,q=xs[i]:=⟨_,rfl⟩;rw[←hq]at hA HST HATF;obtain⟨c0,c1,c2,c3,c4⟩:=LH hA;have HOV:Hid (cK p (xs.take i) q=(eN q.VF&&cO q.inn&&jS q.VH&&mW p.VL q.out&&aO q.VI p.low p.high&&!(xs.take i).any fun c=>eJ c q)):=rfl;have B4:Hid (Below w0.heap.size w0 (w0.alloc (.cells (cZ q).toArray 48))):=bR.alloc lR _;have Y4:Hid (aA (w0.alloc (.cells (cZ q).toArray 48)) w0.heap.size (dP q)):=aA.new w0 (dP q) 48;clear hat hA hq;go_upto_region 5 with fail
   have H5:Hid _:=HB.out.trans (B4.out.mono HB.out.size);have K5:Hid _:=HK.out.kept (by simp) B4.out;have hY:w0.heap.size < (w0.alloc (.cells (cZ q).toArray 48)).heap.size:=by simp
   generalize (w0.alloc (.cells (cZ q).toArray 48))=W4 at *;have HP:Hid (∀W,Cw 69 #[iV q.VF] W (.bool (eN q.VF))):=fun W=>sU _ W
   have HAD:Hid (∀W,Cw 65 #[.string q.inn] W (.bool (cO q.inn))):=fun W=>jC _ W
   have HWD:Hid (∀W,Cw 39 #[iV q.VH] W (.bool (jS q.VH))):=fun W=>gL _ W
   have HIN:Hid (∀W,Below w.heap.size w W→Cb 68 #[.slice a p.VL.length cap,.string q.out] W (.bool (mW p.VL q.out))):=fun W hW=>xD p.VL q.out a cap W hl (HR.out.below hW)
   have HIS:Hid (∀W,Cw 40 #[iV q.VI,iV p.low,iV p.high] W (.bool (aO q.VI p.low p.high))):=fun W=>fD _ _ _ W
   generalize eN q.VF=b1 at *;generalize cO q.inn=b2 at *;generalize jS q.VH=b3 at *;generalize mW p.VL q.out=b4 at *;generalize aO q.VI p.low p.high=b5 at *;obtain⟨y0,y1,y2,y3⟩:=Y4.out.c4;have z0:=K5.out.cell (j:=0) rfl;have hun:undef=Value.tuple #[]:=rfl;clear c0 c1 c2 c3 c4
   cases b1 with
   | false=>
    have HXF:Hid (ans=false):=by unfold Hid;rw[HA.out];refine HATF.out ?_;rw[HOV.out];simp
    go_wp2_with fail
    refine(HP.out _).mono ?_;rintro e w1 ⟨rfl,rfl⟩;go_wp2_with fail
    go_ret;exact⟨aC HXF.out.symm,H5.out⟩
   | true=>
    go_wp2_with fail
    refine(HP.out _).mono ?_;rintro e w1 ⟨rfl,rfl⟩
    cases b2 with
    | false=>
     have HXF:Hid (ans=false):=by unfold Hid;rw[HA.out];refine HATF.out ?_;rw[HOV.out];simp
     go_wp2_with fail
     refine(HAD.out _).mono ?_;rintro e w1 ⟨rfl,rfl⟩;go_wp2_with fail
     go_ret;exact⟨aC HXF.out.symm,H5.out⟩
    | true=>
     go_wp2_with fail
     refine(HAD.out _).mono ?_;rintro e w1 ⟨rfl,rfl⟩
     cases b3 with
     | false=>
      have HXF:Hid (ans=false):=by unfold Hid;rw[HA.out];refine HATF.out ?_;rw[HOV.out];simp
      go_wp2_with fail
      refine(HWD.out _).mono ?_;rintro e w1 ⟨rfl,rfl⟩;go_wp2_with fail
      go_ret;exact⟨aC HXF.out.symm,H5.out⟩
     | true=>
      go_wp2_with fail
      refine(HWD.out _).mono ?_;rintro e w1 ⟨rfl,rfl⟩;go_wp2_with fail
      refine(HIN.out _ H5.out).mono ?_;rintro e w2 ⟨rfl,q2⟩;have H6:Hid _:=H5.out.trans (q2.mono H5.out.size);have K6:Hid _:=K5.out.kept (by simp) q2;have Y6:Hid _:=Y4.out.kept (by simp[dP]) q2;have y4:=Y6.out.cell (j:=4) rfl;obtain⟨-,z1,z2⟩:=K6.out.c3;have hY2:w0.heap.size < w2.heap.size:=by have:=q2.size;omega
      clear q2 y0 y1 y2 y3 z0 H5 K5 Y4 B4
      cases b4 with
      | false=>
       have HXF:Hid (ans=false):=by unfold Hid;rw[HA.out];refine HATF.out ?_;rw[HOV.out];simp
       go_wp2_with fail
       go_ret;exact⟨aC HXF.out.symm,H6.out⟩
      | true=>
       cases b5 with
       | false=>
        have HXF:Hid (ans=false):=by unfold Hid;rw[HA.out];refine HATF.out ?_;rw[HOV.out];simp
        go_wp2_with fail
        refine(HIS.out _).mono ?_;rintro e w1 ⟨rfl,rfl⟩;go_wp2_with fail
        go_ret;exact⟨aC HXF.out.symm,H6.out⟩
       | true=>
        go_wp2_with fail
        refine(HIS.out _).mono ?_;rintro e w1 ⟨rfl,rfl⟩;have HOV2:Hid (cK p (xs.take i) q=!(xs.take i).any fun c=>eJ c q):=by unfold Hid;rw[HOV.out];simp
        clear y4 z1 z2 HOV HP HAD HWD HIN HIS;go_wp2_with fail
        go_loopw [7] (fun kv wr=>∃k:Nat,k≤i∧kv=iV k∧((xs.take k).any fun c=>eJ c q)=false∧aA wr w.heap.size (bG a cap p)∧aA wr w0.heap.size (dP q)∧Below w.heap.size w wr) (fun kv _=>i-(intOf kv).toNat)
        case atStart=>exact⟨0,VC _,rfl,rfl,K6.out,Y6.out,H6.out⟩
        case round=>
         obtain⟨k,hk,rfl,hn,hK,hY,hbel⟩:=hrel;have HNk:Hid (((xs.take k).any fun c=>eJ c q)=false):=hn;have HBk:Hid (Below w.heap.size w wr):=hbel;have HKk:Hid _:=hK;have HYk:Hid _:=hY;have hYl:w0.heap.size < wr.heap.size:=hY.lt (by simp[dP]);clear hn hbel hK hY K6 Y6 H6;by_cases hkl:k < i
         ·have hkx:k < xs.length:=by omega
          have hA:=HAT.out k hkx wr HBk.out;have HSTk:Hid _:=jW (fun c=>eJ c q) xs k hkx;have HYES:Hid (eJ xs[k] q=true→cK p (xs.take i) q=false):=fun h=>by
           rw[HOV2.out,tF (fun c=>eJ c q) (xs.take i) k (by simp;omega) (by rw[List.getElem_take];exact h)];rfl
          obtain⟨c,hc⟩: ∃c,c=xs[k]:=⟨_,rfl⟩;rw[←hc]at hA HSTk HYES;obtain⟨c0,c1,c2,c3,c4⟩:=LH hA;have B5:Hid (Below wr.heap.size wr (wr.alloc (.cells (cZ c).toArray 48))):=bR.alloc lR _;have Z5:Hid (aA (wr.alloc (.cells (cZ c).toArray 48)) wr.heap.size (dP c)):=aA.new wr (dP c) 48;clear hA hc;go_upto_region 11 with fail
          have HB5:Hid _:=HBk.out.trans (B5.out.mono HBk.out.size);have HK5:Hid _:=HKk.out.kept (by simp) B5.out;have HY5:Hid _:=HYk.out.kept (by simp[dP]) B5.out;generalize (wr.alloc (.cells (cZ c).toArray 48))=W5 at *;obtain⟨y0,y1,y2,y3,y4⟩:=HY5.out.c5;obtain⟨x0,x1,x2,x3,x4⟩:=Z5.out.c5;have HCV:Hid (eJ c q=((decide (c.inn.toList=q.inn.toList)&&!decide (c.out.toList=q.out.toList))||(decide (c.VF=q.VF)&&((decide (c.inn.toList=q.inn.toList)&&decide (c.VH=q.VH))||(decide (c.out.toList=q.out.toList)&&decide (c.VI=q.VI)))))):=rfl;clear c0 c1 c2 c3 c4 B5 Z5 HBk HKk HYk;go_cut [108] (fun v wx=>v=.bool (eJ c q)∧wx=W5)
          case first=>
           by_cases e1:c.inn.toList=q.inn.toList
           ·by_cases e2:c.out.toList=q.out.toList
            ·by_cases e3:c.VF=q.VF
             ·by_cases e4:c.VH=q.VH
              ·have HCW:Hid (eJ c q=true):=by unfold Hid;rw[HCV.out];simp[e1,e2,e3,e4]
               have f1:=gN e1;have f2:=gN e2;go_wp2_with fail
               all_goals go_meet
               all_goals exact⟨by rw[HCW.out];try simp[e1,e2,e3,e4],rfl⟩
              ·by_cases e5:c.VI=q.VI
               ·have HCW:Hid (eJ c q=true):=by unfold Hid;rw[HCV.out];simp[e1,e2,e3,e4,e5]
                have f1:=gN e1;have f2:=gN e2;go_wp2_with fail
                all_goals go_meet
                all_goals exact⟨by rw[HCW.out];try simp[e1,e2,e3,e4,e5],rfl⟩
               ·have HCW:Hid (eJ c q=false):=by unfold Hid;rw[HCV.out];simp[e1,e2,e3,e4,e5]
                have f1:=gN e1;have f2:=gN e2;go_wp2_with fail
                all_goals go_meet
                all_goals exact⟨by rw[HCW.out];try simp[e1,e2,e3,e4,e5],rfl⟩
             ·have HCW:Hid (eJ c q=false):=by unfold Hid;rw[HCV.out];simp[e1,e2,e3]
              have f1:=gN e1;have f2:=gN e2;go_wp2_with fail
              all_goals go_meet
              all_goals exact⟨by rw[HCW.out];try simp[e1,e2,e3],rfl⟩
            ·have HCW:Hid (eJ c q=true):=by unfold Hid;rw[HCV.out];simp[e1,e2]
             have f1:=gN e1;have f2:=oK e2;go_wp2_with fail
             all_goals go_meet
             all_goals exact⟨by rw[HCW.out];try simp[e1,e2],rfl⟩
           ·by_cases e3:c.VF=q.VF
            ·by_cases e2:c.out.toList=q.out.toList
             ·by_cases e5:c.VI=q.VI
              ·have HCW:Hid (eJ c q=true):=by unfold Hid;rw[HCV.out];simp[e1,e3,e2,e5]
               have f1:=oK e1;have f2:=gN e2;go_wp2_with fail
               all_goals go_meet
               all_goals exact⟨by rw[HCW.out];try simp[e1,e3,e2,e5],rfl⟩
              ·have HCW:Hid (eJ c q=false):=by unfold Hid;rw[HCV.out];simp[e1,e3,e2,e5]
               have f1:=oK e1;have f2:=gN e2;go_wp2_with fail
               all_goals go_meet
               all_goals exact⟨by rw[HCW.out];try simp[e1,e3,e2,e5],rfl⟩
             ·have HCW:Hid (eJ c q=false):=by unfold Hid;rw[HCV.out];simp[e1,e3,e2]
              have f1:=oK e1;have f2:=oK e2;go_wp2_with fail
              all_goals go_meet
              all_goals exact⟨by rw[HCW.out];try simp[e1,e3,e2],rfl⟩
            ·have HCW:Hid (eJ c q=false):=by unfold Hid;rw[HCV.out];simp[e1,e3]
             have f1:=oK e1;go_wp2_with fail
             all_goals go_meet
             all_goals exact⟨by rw[HCW.out];try simp[e1,e3],rfl⟩
          case rest=>
           obtain⟨rfl,rfl⟩:=hcut
           cases hcl:eJ c q with
           | true=>
            have HXF:Hid (ans=false):=by unfold Hid;rw[HA.out];exact HATF.out (HYES.out hcl)
            clear hcl;go_wp2_with fail
            go_ret;exact⟨aC HXF.out.symm,HB5.out⟩
           | false=>
            have HN2:Hid (((xs.take (k+1)).any fun c=>eJ c q)=false):=by unfold Hid;rw[HSTk.out,HNk.out,hcl];rfl
            clear hcl;go_wp2_with fail
            go_roundw
            case rel=>exact⟨k+1,by omega,by go_num,HN2.out,HK5.out,HY5.out,HB5.out⟩
            case measure=>simp[intOf];omega
         ·have hke:k=i:=by omega
          have HN2:Hid (jT (cK p) xs (i+1)=true):=by
           unfold Hid;rw[HST.out,HN.out,HOV2.out,←hke,HNk.out];rfl
          go_wp2_with fail
          go_roundw
          case rel=>
           (repeat apply Exists.intro)
           exact⟨⟨i+1,by omega,by go_num,HN2.out,HKk.out,HBk.out⟩,rfl⟩
          case measure=>simp[intOf];omega
  ·have hie:i=xs.length:=by omega
   have HXT:Hid (ans=true):=by unfold Hid;rw[HA.out,←hie];exact HN.out
   go_wp2_with fail
   go_ret;exact⟨aC HXT.out.symm,HB.out⟩
theorem II(x:Bb)(a b:OA)(ca cb:Nat)(w:World)(hl1:x.VN.length≤1048576)(hl2:x.VK.length≤1048576)(hr:dC w a b x) :
  Cb 36 #[gP a b ca cb x] w (.bool (jT (fX x.VN) x.VK x.VK.length)):=by
 have GA:Hid (Below w.heap.size w (w.alloc (.cells (aX a ca b cb x).toArray 31))):=bR.alloc lR _;have H0:Hid (aA (w.alloc (.cells (aX a ca b cb x).toArray 31)) w.heap.size (aX a ca b cb x)):=aA.new w (aX a ca b cb x) 31;obtain⟨ans,hans⟩: ∃y,y=jT (fX x.VN) x.VK x.VK.length:=⟨_,rfl⟩;rw[←hans];have HA:Hid (ans=jT (fX x.VN) x.VK x.VK.length):=hans;have HR:Hid (dC w a b x):=hr;clear hr hans;unfold gP;go_enter Tryz.func36,Tryz.ntmps36
 go_wp2_with fail
 go_loopw [3] (fun iv wr=>∃i:Nat,i≤x.VK.length∧iv=iV i∧jT (fX x.VN) x.VK i=true∧aA wr w.heap.size (aX a ca b cb x)∧Below w.heap.size w wr) (fun iv _=>x.VK.length-(intOf iv).toNat)
 case atStart=>exact⟨0,VC _,rfl,rfl,H0.out,GA.out⟩
 case round=>
  obtain⟨i,hi,rfl,hn,hk,hbel⟩:=hrel;have HN:Hid (jT (fX x.VN) x.VK i=true):=hn;have HB:Hid (Below w.heap.size w wr):=hbel;have HK:Hid (aA wr w.heap.size (aX a ca b cb x)):=hk;have hwb:w.heap.size < wr.heap.size:=hk.lt (by simp);have z1:=hk.cell (j:=1) rfl;clear hn hbel hk H0 GA;generalize wr=w0 at *;by_cases hlt:i < x.VK.length
  ·obtain⟨bb,off,rfl,hb,hat⟩:=HR.out.ss.at hlt;have hA:=(hat.below hb HB.out) i hlt;have HAT:Hid (∀k,(hk:k < x.VK.length)→∀W,Below w.heap.size w W→W.rangeAt bb (off+k*7) (fZ x.VK[k])):=fun k hk W hW=>(hat.below hb hW) k hk
   have HST:Hid _:=lW (f:=fX x.VN) hlt;have HATF:Hid (fX x.VN (x.VK.take i) x.VK[i]=false→jT (fX x.VN) x.VK x.VK.length=false):=rY hlt;obtain⟨q,hq⟩: ∃q,q=x.VK[i]:=⟨_,rfl⟩;rw[←hq]at hA HST HATF;obtain⟨c0,c1,c2,c3,c4,c5,c6⟩:=NE hA;have HOV:Hid (fX x.VN (x.VK.take i) q=(decide (q.peer.size=4)&&jS q.VG&&aO q.state 1 7&&(decide (q.VF=6)||decide (q.state=3))&&aO q.untl 0 2000000000&&decide (0≤bD (cD q.VF q.inn q.VH) x.VN)&&!(x.VK.take i).any fun t=>gZ q t)):=rfl;have B4:Hid (Below w0.heap.size w0 (w0.alloc (.cells (iE q).toArray 59))):=bR.alloc lR _;have Y4:Hid (aA (w0.alloc (.cells (iE q).toArray 59)) w0.heap.size (fZ q)):=aA.new w0 (fZ q) 59;clear hat hA hq;go_upto_region 5 with fail
   have H5:Hid _:=HB.out.trans (B4.out.mono HB.out.size);have K5:Hid _:=HK.out.kept (by simp) B4.out;have hY:w0.heap.size < (w0.alloc (.cells (iE q).toArray 59)).heap.size:=by simp
   generalize (w0.alloc (.cells (iE q).toArray 59))=W4 at *;have HWD:Hid (∀W,Cw 39 #[iV q.VG] W (.bool (jS q.VG))):=fun W=>gL _ W
   have HS1:Hid (∀W,Cw 40 #[iV q.state,iV 1,iV 7] W (.bool (aO q.state 1 7))):=fun W=>fD _ _ _ W
   have HS2:Hid (∀W,Cw 40 #[iV q.untl,iV 0,iV 2000000000] W (.bool (aO q.untl 0 2000000000))):=fun W=>fD _ _ _ W
   have HBI:Hid (∀W,Below w.heap.size w W→Cb 33 #[.agg (aX a ca (some ⟨bb,off,none⟩) cb x).toArray,iV q.VF,.string q.inn,iV q.VH] W (iV (bD (cD q.VF q.inn q.VH) x.VN))):=fun W hW=>nC x.VN q.VF q.inn q.VH a ca _ W hl1 (HR.out.bd.below hW)
   generalize jS q.VG=b2 at *;generalize aO q.state 1 7=b3 at *;generalize aO q.untl 0 2000000000=b5 at *;generalize bD (cD q.VF q.inn q.VH) x.VN=fi at *;obtain⟨y0,y1,y2,y3,y4,y5,y6⟩:=Y4.out.c7;obtain⟨z0,z1⟩:=K5.out.c2;have hun:undef=Value.tuple #[]:=rfl;clear c0 c1 c2 c3 c4 c5 c6;obtain⟨r5,hr5⟩: ∃r,r=(decide (q.peer.size=4)&&b2&&b3&&(decide (q.VF=6)||decide (q.state=3))&&b5):=⟨_,rfl⟩;have HRV:Hid (r5=_):=hr5;rw[←hr5]at HOV;clear hr5;go_cut [50] (fun v wx=>v=.bool (!r5)∧wx=W4)
   case first=>
    by_cases h4:q.peer.size=4
    ·have h4i:(q.peer.size:Int)=4:=by omega
     have d1:((q.peer.size:Int) != 4)=false:=by simp[h4i]
     cases b2 with
     | false=>
      go_wp2_with fail
      refine(HWD.out _).mono ?_;rintro e w1 ⟨rfl,rfl⟩;go_wp2_with fail
      go_meet;exact⟨by rw[HRV.out];simp,rfl⟩
     | true=>
      go_wp2_with fail
      refine(HWD.out _).mono ?_;rintro e w1 ⟨rfl,rfl⟩
      cases b3 with
      | false=>
       go_wp2_with fail
       refine(HS1.out _).mono ?_;rintro e w1 ⟨rfl,rfl⟩;go_wp2_with fail
       go_meet;exact⟨by rw[HRV.out];simp,rfl⟩
      | true=>
       go_wp2_with fail
       refine(HS1.out _).mono ?_;rintro e w1 ⟨rfl,rfl⟩;by_cases h6:q.VF=6<;>by_cases h3:q.state=3
       all_goals first | (have hno:¬q.VF=6∧¬q.state=3:=⟨h6,h3⟩;go_wp2_with fail;go_meet;exact⟨by rw[HRV.out];simp[h6,h3],rfl⟩) | skip
       all_goals
        cases b5 with
        | false=>
         go_wp2_with fail
         refine(HS2.out _).mono ?_;rintro e w1 ⟨rfl,rfl⟩;go_wp2_with fail
         go_meet;exact⟨by rw[HRV.out];simp[h6,h3],rfl⟩
        | true=>
         go_wp2_with fail
         refine(HS2.out _).mono ?_;rintro e w1 ⟨rfl,rfl⟩;go_wp2_with fail
         go_meet;exact⟨by rw[HRV.out];simp[h6,h3,h4],rfl⟩
    ·have h4i:¬(q.peer.size:Int)=4:=by omega
     have d1:((q.peer.size:Int) != 4)=true:=by simp[h4i]
     go_wp2_with fail
     go_meet;exact⟨by rw[HRV.out];simp[h4],rfl⟩
   case rest=>
   obtain⟨rfl,rfl⟩:=hcut
   cases r5 with
   | false=>
    have HXF:Hid (ans=false):=by unfold Hid;rw[HA.out];refine HATF.out ?_;rw[HOV.out];rfl
    go_wp2_with fail
    go_ret;exact⟨aC HXF.out.symm,H5.out⟩
   | true=>
    go_wp2_with fail
    refine(HBI.out _ H5.out).mono ?_;rintro e w2 ⟨rfl,q2⟩;have H6:Hid _:=H5.out.trans (q2.mono H5.out.size);have K6:Hid _:=K5.out.kept (by simp) q2;have Y6:Hid _:=Y4.out.kept (by simp[fZ]) q2;have hY2:w0.heap.size < w2.heap.size:=by have:=q2.size;omega
    clear q2 z0 z1 H5 K5 Y4 B4 y0 y1 y2 y3 y4 y5 y6;by_cases hfi:fi < 0
    ·have HXF:Hid (ans=false):=by unfold Hid;rw[HA.out];refine HATF.out ?_;rw[HOV.out,UD (show ¬0≤fi by omega)];rfl
     go_wp2_with fail
     go_ret;exact⟨aC HXF.out.symm,H6.out⟩
    ·rw[UE (show 0≤fi by omega)]at HOV;have HOV2:Hid (fX x.VN (x.VK.take i) q=!(x.VK.take i).any fun t=>gZ q t):=by unfold Hid;rw[HOV.out];rfl
     clear HOV HWD HS1 HS2 HBI HRV;go_wp2_with fail
     go_loopw [5] (fun kv wr=>∃k:Nat,k≤i∧kv=iV k∧((x.VK.take k).any fun t=>gZ q t)=false∧aA wr w.heap.size (aX a ca (some ⟨bb,off,none⟩) cb x)∧aA wr w0.heap.size (fZ q)∧Below w.heap.size w wr) (fun kv _=>i-(intOf kv).toNat)
     case atStart=>exact⟨0,VC _,rfl,rfl,K6.out,Y6.out,H6.out⟩
     case round=>
      obtain⟨k,hk,rfl,hn,hK,hY,hbel⟩:=hrel;have HNk:Hid (((x.VK.take k).any fun t=>gZ q t)=false):=hn;have HBk:Hid (Below w.heap.size w wr):=hbel;have HKk:Hid _:=hK;have HYk:Hid _:=hY;have hYl:w0.heap.size < wr.heap.size:=hY.lt (by simp[fZ]);have z1:=hK.cell (j:=1) rfl;clear hn hbel hK hY K6 Y6 H6;by_cases hkl:k < i
      ·have hkx:k < x.VK.length:=by omega
       have hkx':(k:Int) < (x.VK.length:Int):=by omega
       have hA:=HAT.out k hkx wr HBk.out;have HSTk:Hid _:=jW (fun t=>gZ q t) x.VK k hkx;have HYES:Hid (gZ q x.VK[k]=true→fX x.VN (x.VK.take i) q=false):=fun h=>by
        rw[HOV2.out,tF (fun t=>gZ q t) (x.VK.take i) k (by simp;omega) (by rw[List.getElem_take];exact h)];rfl
       obtain⟨c,hc⟩: ∃c,c=x.VK[k]:=⟨_,rfl⟩;rw[←hc]at hA HSTk HYES;obtain⟨c0,c1,c2,c3,c4,c5,c6⟩:=NE hA;have B5:Hid (Below wr.heap.size wr (wr.alloc (.cells (iE c).toArray 59))):=bR.alloc lR _;have Z5:Hid (aA (wr.alloc (.cells (iE c).toArray 59)) wr.heap.size (fZ c)):=aA.new wr (fZ c) 59;clear hA hc;go_upto_region 13 with fail
       have HB5:Hid _:=HBk.out.trans (B5.out.mono HBk.out.size);have HK5:Hid _:=HKk.out.kept (by simp) B5.out;have HY5:Hid _:=HYk.out.kept (by simp[fZ]) B5.out;generalize (wr.alloc (.cells (iE c).toArray 59))=W5 at *;obtain⟨y0,y1,y2,y3,y4,y5,y6⟩:=HY5.out.c7;obtain⟨x0,x1,x2,x3,x4,x5,x6⟩:=Z5.out.c7;have HCV:Hid (gZ q c=(decide (q.VF=c.VF)&&decide (q.inn.toList=c.inn.toList)&&decide (q.VH=c.VH)&&decide (q.peer.toList=c.peer.toList)&&decide (q.VG=c.VG))):=rfl;clear c0 c1 c2 c3 c4 c5 c6 B5 Z5 HBk HKk HYk z1;go_cut [102] (fun v wx=>v=.bool (gZ q c)∧wx=W5)
       case first=>
        by_cases e1:q.VF=c.VF
        ·by_cases e2:q.inn.toList=c.inn.toList
         ·by_cases e3:q.VH=c.VH
          ·by_cases e4:q.peer.toList=c.peer.toList
           ·by_cases e5:q.VG=c.VG
            ·have HCW:Hid (gZ q c=true):=by unfold Hid;rw[HCV.out];simp[e1,e2,e3,e4,e5]
             have f2:=gN e2;have f4:=gN e4;go_wp2_with fail
             all_goals go_meet
             all_goals exact⟨by rw[HCW.out];try simp[e1,e2,e3,e4,e5],rfl⟩
            ·have HCW:Hid (gZ q c=false):=by unfold Hid;rw[HCV.out];simp[e1,e2,e3,e4,e5]
             have f2:=gN e2;have f4:=gN e4;have f5:(q.VG==c.VG)=false:=by simp[e5]
             go_wp2_with fail
             all_goals go_meet
             all_goals exact⟨by rw[HCW.out];try simp[e1,e2,e3,e4,e5],rfl⟩
           ·have HCW:Hid (gZ q c=false):=by unfold Hid;rw[HCV.out];simp[e1,e2,e3,e4]
            have f2:=gN e2;have f4:=oK e4;go_wp2_with fail
            all_goals go_meet
            all_goals exact⟨by rw[HCW.out];try simp[e1,e2,e3,e4],rfl⟩
          ·have HCW:Hid (gZ q c=false):=by unfold Hid;rw[HCV.out];simp[e1,e2,e3]
           have f2:=gN e2;have f3:(q.VH==c.VH)=false:=by simp[e3]
           go_wp2_with fail
           all_goals go_meet
           all_goals exact⟨by rw[HCW.out];try simp[e1,e2,e3],rfl⟩
         ·have HCW:Hid (gZ q c=false):=by unfold Hid;rw[HCV.out];simp[e1,e2]
          have f2:=oK e2;go_wp2_with fail
          all_goals go_meet
          all_goals exact⟨by rw[HCW.out];try simp[e1,e2],rfl⟩
        ·have HCW:Hid (gZ q c=false):=by unfold Hid;rw[HCV.out];simp[e1]
         have f1:(q.VF==c.VF)=false:=by simp[e1]
         go_wp2_with fail
         all_goals go_meet
         all_goals exact⟨by rw[HCW.out];try simp[e1],rfl⟩
       case rest=>
        obtain⟨rfl,rfl⟩:=hcut
        cases hcl:gZ q c with
        | true=>
         have HXF:Hid (ans=false):=by unfold Hid;rw[HA.out];exact HATF.out (HYES.out hcl)
         clear hcl;go_wp2_with fail
         go_ret;exact⟨aC HXF.out.symm,HB5.out⟩
        | false=>
         have HN2:Hid (((x.VK.take (k+1)).any fun t=>gZ q t)=false):=by unfold Hid;rw[HSTk.out,HNk.out,hcl];rfl
         clear hcl;go_wp2_with fail
         go_roundw
         case rel=>exact⟨k+1,by omega,by go_num,HN2.out,HK5.out,HY5.out,HB5.out⟩
         case measure=>simp[intOf];omega
      ·have hke:k=i:=by omega
       have HN2:Hid (jT (fX x.VN) x.VK (i+1)=true):=by
        unfold Hid;rw[HST.out,HN.out,HOV2.out,←hke,HNk.out];rfl
       go_wp2_with fail
       go_roundw
       case rel=>exact⟨i+1,by omega,by go_num,HN2.out,HKk.out,HBk.out⟩
       case measure=>simp[intOf];omega
  ·have hie:i=x.VK.length:=by omega
   have HXT:Hid (ans=true):=by unfold Hid;rw[HA.out,←hie];exact HN.out
   go_wp2_with fail
   go_ret;exact⟨aC HXT.out.symm,HB.out⟩
theorem uG(VF:Int)(w:World) :
  Cw 136 #[iV VF] w (.bool (eN VF)):=by
 have hun:undef=Value.tuple #[]:=rfl;by_cases h0:VF=6
 ·subst h0;go_enter Tryz.func136,Tryz.ntmps136
  go_wp2_with fail
  go_ret;exact⟨rfl,rfl⟩
 ·by_cases h1:VF=17
  ·subst h1;go_enter Tryz.func136,Tryz.ntmps136
   go_wp2_with fail
   go_ret;exact⟨rfl,rfl⟩
  ·by_cases h2:VF=1
   ·subst h2;go_enter Tryz.func136,Tryz.ntmps136
    go_wp2_with fail
    go_ret;exact⟨rfl,rfl⟩
   ·have HV:Hid (eN VF=false):=by unfold Hid eN;simp[h0,h1,h2]
    go_enter Tryz.func136,Tryz.ntmps136
    go_wp2_with fail
    go_ret;exact⟨aC (by rw[HV.out];simp[h0,h1,h2]),rfl⟩
theorem BT(xs:List BA)(s:BA)(a:OA)(cap:Nat)(w:World)(jD:xs.length≤1048576)(hr:bP cB 1 w a xs) :
  Calls Tryz.prog 128 #[.slice a xs.length cap,.string s] w fun e w'=>∃j:Int,e=.returned (iV j)∧-1≤j∧j≤1048576∧Hid (decide (0≤j)=mW xs s)∧Below w.heap.size w w':=by
 have HR:Hid (bP cB 1 w a xs):=hr;have HV:Hid (mW xs s=xs.any fun t=>decide (t.toList=s.toList)):=rfl;generalize mW xs s=ans at *;clear hr;go_enter Tryz.func128,Tryz.ntmps128
 go_wp2_with fail
 go_loopw [8] (fun iv wr=>∃i:Nat,i≤xs.length∧iv=iV i∧(xs.take i).any (fun t=>decide (t.toList=s.toList))=false∧Below w.heap.size w wr) (fun iv _=>xs.length-(intOf iv).toNat)
 case atStart=>exact⟨0,VC _,rfl,rfl,Below.refl _ _⟩
 case round=>
  obtain⟨i,hi,rfl,hn,hbel⟩:=hrel;have HN:Hid ((xs.take i).any (fun t=>decide (t.toList=s.toList))=false):=hn;have HL:Hid (Below w.heap.size w wr):=hbel;clear hn hbel;by_cases hlt:i < xs.length
  ·obtain⟨b,off,rfl,hb,hat⟩:=HR.out.at hlt;have hA:=(hat.below hb HL.out) i hlt;have HST:Hid _:=jW (fun t:BA=>decide (t.toList=s.toList)) xs i hlt;have HAT:Hid _:=tF (fun t:BA=>decide (t.toList=s.toList)) xs i hlt;obtain⟨t,ht⟩: ∃t,xs[i]=t:=⟨_,rfl⟩;rw[ht]at hA HST HAT;have c0:wr.cell? ⟨b,off+i,none⟩=some (.string t):=by have:=hA 0 _ rfl;simpa using this
   have c0':wr.cell? ⟨b,off+i*1,none⟩=some (.string t):=by simpa using c0
   clear hA hat ht;by_cases he:t.toList=s.toList
   ·have HX:Hid (decide (0≤(i:Int))=ans):=by unfold Hid;rw[HV.out,HAT.out (UE he)];simp
    have hbq:(s.toList==t.toList)=true:=by simp[he]
    clear he;go_wp2_with fail
    go_ret;exact⟨i,rfl,by omega,by omega,HX,HL.out⟩
   ·have HN2:Hid ((xs.take (i+1)).any (fun t=>decide (t.toList=s.toList))=false):=by unfold Hid;rw[HST.out,HN.out,UD he];rfl
    have hbq:(s.toList==t.toList)=false:=by simp;exact fun e=>he e.symm
    clear he;go_wp2_with fail
    go_roundw
    case rel=>exact⟨i+1,by omega,by go_num,HN2.out,HL.out⟩
    case measure=>simp[intOf];omega
  ·have hie:i=xs.length:=by omega
   have HX:Hid (decide (0≤(-1:Int))=ans):=by unfold Hid;have:=HN.out;rw[hie,List.take_length]at this;rw[HV.out,this];rfl
   go_wp2_with fail
   go_ret;exact⟨-1,rfl,by omega,by omega,HX,HL.out⟩
theorem xM(xs:List BA)(s:BA)(a:OA)(cap:Nat)(w:World)(jD:xs.length≤1048576)(hr:bP cB 1 w a xs) :
  Cb 96 #[.slice a xs.length cap,.string s] w (.bool (mW xs s)):=by
 have HI:Hid _:=BT xs s a cap w jD hr;generalize mW xs s=ans at *;clear hr;go_enter Tryz.func96,Tryz.ntmps96
 go_wp2_with fail
 refine Calls.mono HI.out ?_;rintro e w1 ⟨j,rfl,h1,h2,h3,b1⟩;have B1:Hid _:=b1;clear b1;go_wp2_with fail
 go_ret;exact⟨aC h3.out,B1.out⟩
def wT(xs:List BA):Bool:=decide (1≤xs.length)&&decide (xs.length≤8)&&jT eV xs xs.length
theorem yH(xs:List BA)(a:OA)(cap:Nat)(w:World)(jD:xs.length≤1048576)(hcap:xs.length≤cap)(hsz:∀s∈xs,s.size≤1048576)(hr:bP cB 1 w a xs) :
  Cb 163 #[.slice a xs.length cap] w (.bool (wT xs)):=by
 have HR:Hid (bP cB 1 w a xs):=hr;have HZ:Hid (∀s∈xs,s.size≤1048576):=hsz;have HV:Hid (wT xs=(decide (1≤xs.length)&&decide (xs.length≤8)&&jT eV xs xs.length)):=rfl;generalize wT xs=ans at *;have hun:undef=Value.tuple #[]:=rfl;clear hr hsz;by_cases h1:xs.length < 1
 ·have HX:Hid (ans=false):=by unfold Hid;rw[HV.out,UD (show ¬1≤xs.length by omega)];rfl
  have h1':(xs.length:Int) < 1:=by omega
  go_enter Tryz.func163,Tryz.ntmps163
  go_wp2_with fail
  go_ret;exact⟨aC HX.out.symm,Below.refl _ _⟩
 ·have h1n:¬(xs.length:Int) < 1:=by omega
  by_cases h2:8 < xs.length
  ·have HX:Hid (ans=false):=by unfold Hid;rw[HV.out,UD (show ¬xs.length≤8 by omega)];simp
   have h2':(8:Int) < (xs.length:Int):=by omega
   go_enter Tryz.func163,Tryz.ntmps163
   go_wp2_with fail
   go_ret;exact⟨aC HX.out.symm,Below.refl _ _⟩
  ·have HU:Hid (ans=jT eV xs xs.length):=by unfold Hid;rw[HV.out,UE (show 1≤xs.length by omega),UE (show xs.length≤8 by omega)];rfl
   have h2n:¬(8:Int) < (xs.length:Int):=by omega
   clear HV;go_enter Tryz.func163,Tryz.ntmps163
   go_wp2_with fail
   go_loopw [15] (fun iv wr=>∃i:Nat,i≤xs.length∧iv=iV i∧jT eV xs i=true∧Below w.heap.size w wr) (fun iv _=>xs.length-(intOf iv).toNat)
   case atStart=>exact⟨0,VC _,rfl,rfl,Below.refl _ _⟩
   case round=>
    obtain⟨i,hi,rfl,hn,hbel⟩:=hrel;have HN:Hid (jT eV xs i=true):=hn;have HL:Hid (Below w.heap.size w wr):=hbel;clear hn hbel;by_cases hlt:i < xs.length
    ·obtain⟨b,off,rfl,hb,hat⟩:=HR.out.at hlt;have hA:=(hat.below hb HL.out) i hlt;have HST:Hid _:=lW (f:=eV) hlt;have HATF:Hid (eV (xs.take i) xs[i]=false→jT eV xs xs.length=false):=rY hlt;have hts:=HZ.out xs[i] (UJ hlt);obtain⟨t,ht⟩: ∃t,xs[i]=t:=⟨_,rfl⟩;rw[ht]at hA HST HATF hts;have c0:wr.cell? ⟨b,off+i,none⟩=some (.string t):=by have:=hA 0 _ rfl;simpa using this
     have c0':wr.cell? ⟨b,off+i*1,none⟩=some (.string t):=by simpa using c0
     have HOV:Hid (eV (xs.take i) t=(decide (t.size=4)&&!mW (xs.take i) t)):=rfl;have hltI:(i:Int) < (xs.length:Int):=by omega
     have HC:Hid (∀W,Below w.heap.size w W→Cb 96 #[.slice (some ⟨b,off,none⟩) i cap,.string t] W (.bool (mW (xs.take i) t))):=fun W hW=>by
      have h:=xM (xs.take i) t (some ⟨b,off,none⟩) cap W (by simp;omega) ((HR.out.below hW).take i);rw[List.length_take,Nat.min_eq_left (by omega)]at h;exact h
     generalize mW (xs.take i) t=il at *;clear hA hat ht;by_cases h4:t.size=4
     ·have h4i:(t.size:Int)=4:=by omega
      have d1:((t.size:Int) != 4)=false:=by simp[h4i]
      clear h4i;go_wp2_with fail
      refine(HC.out _ HL.out).mono ?_;rintro e w1 ⟨rfl,q1⟩;have HL1:Hid _:=HL.out.trans (q1.mono HL.out.size);clear q1
      cases il with
      | true=>
       have HX:Hid (ans=false):=by unfold Hid;rw[HU.out];refine HATF.out ?_;rw[HOV.out];simp
       go_wp2_with fail
       go_ret;exact⟨aC HX.out.symm,HL1.out⟩
      | false=>
       have HN2:Hid (jT eV xs (i+1)=true):=by unfold Hid;rw[HST.out,HN.out,HOV.out,UE h4];rfl
       go_wp2_with fail
       go_roundw
       case rel=>exact⟨i+1,by omega,by go_num,HN2.out,HL1.out⟩
       case measure=>simp[intOf];omega
     ·have HX:Hid (ans=false):=by unfold Hid;rw[HU.out];refine HATF.out ?_;rw[HOV.out,UD h4];rfl
      have h4i:¬(t.size:Int)=4:=by omega
      have d1:((t.size:Int) != 4)=true:=by simp[h4i]
      go_wp2_with fail
      go_ret;exact⟨aC HX.out.symm,HL.out⟩
    ·have hie:i=xs.length:=by omega
     have HX:Hid (ans=true):=by unfold Hid;have:=HN.out;rw[hie]at this;rw[HU.out];exact this
     go_wp2_with fail
     go_ret;exact⟨aC HX.out.symm,HL.out⟩
theorem iA{α:Type}{f:List α→α→Bool}{xs:List α}:jT f xs xs.length=true↔∀i (h:i < xs.length),f (xs.take i) xs[i]=true:=by
 constructor
 ·intro h i hi
  cases hf:f (xs.take i) xs[i] with
  | true=>rfl
  | false=>rw[rY hi hf]at h;exact h
 ·intro h;have key:∀n,n≤xs.length→jT f xs n=true:=by
   intro n;induction n with
   | zero=>intro _;rfl
   | succ n ih=>intro hn;rw[lW (by omega),ih (by omega),h n (by omega)];rfl
  exact key _ lR
theorem mN{α:Type}(f:α→Bool)(xs:List α):decide (0≤bD f xs)=xs.any f:=by
 unfold bD
 cases h:xs.findIdx? f with
 | none=>
  have h2:=List.findIdx?_eq_none_iff.1 h;have:xs.any f=false:=by rw[List.any_eq_false];intro x hx;simp[h2 x hx]
  rw[this];rfl
 | some i=>
  obtain⟨hi,hfi,_⟩:=List.findIdx?_eq_some_iff_getElem.1 h;have:xs.any f=true:=List.any_eq_true.2 ⟨_,UJ hi,hfi⟩;rw[this];simp
theorem sM{α:Type}{xs:List α}{i:Nat}{c:α}(h:c∈xs.take i):∃k,∃hk:k < xs.length,k < i∧xs[k]=c:=by
 obtain⟨k,hk,rfl⟩:=UY h;rw[List.length_take]at hk;exact⟨k,by omega,by omega,by simp⟩
theorem qJ{α:Type}{xs:List α}{i k:Nat}(hk:k < xs.length)(hi:k < i):xs[k]∈xs.take i:=by
 rw[List.mem_iff_getElem];exact⟨k,by simp;omega,by simp⟩
def lY(p:Pl)(b:Bb)(ys:List Bd)(x:Bd):Bool:=eN x.VF&&cO x.inn&&jS x.VH&&mW p.VL x.out&&aO x.VI p.low p.high&&!(ys.any (cD x.VF x.inn x.VH))&&!(ys.any (cV x.VF x.out x.VI))&&decide ((dV b.VN ⟨#[]⟩ x.inn).toList=x.out.toList)&&b.VK.any (gR x)
def sP(s:Ss):Bool:=decide (s.peer.size=4)&&jS s.VG&&aO s.state 1 7&&(decide (s.state=3)||!dF s.VF)&&aO s.untl 0 2000000000
def nJ(b:Bb)(ys:List Ss)(s:Ss):Bool:=b.VN.any (cD s.VF s.inn s.VH)&&sP s&&!(ys.any fun t=>gZ s t)
def dA(p:Pl)(b:Bb):Bool:=cU p&&decide ((b.VK.length:Int)≤p.most)&&decide (b.VN.length≤b.VK.length)&&jT (lY p b) b.VN b.VN.length&&jT (nJ b) b.VK b.VK.length
theorem zE{p:Pl}(h:cU p=true):1≤p.most∧p.most≤60:=by
 unfold cU at h;simp only[UB]at h;exact eK h.1.1.1.2
theorem DP{α:Type}[DecidableEq α]:∀ {xs ys:List α},xs.Nodup→(∀x∈xs,x∈ys)→xs.length≤ys.length
 | [],ys,_,_=>VC _
 | x::xs,ys,hn,hs=>by
  have hx:x∈ys:=hs x (by simp);have h1:=DP (xs:=xs) (ys:=ys.erase x) (List.nodup_cons.1 hn).2 (fun y hy=>by
   have hne:y≠x:=fun e=>by subst e;exact(List.nodup_cons.1 hn).1 hy
   exact(List.mem_erase_of_ne hne).2 (hs y (by simp[hy])))
  rw[List.length_erase_of_mem hx]at h1;have:0 < ys.length:=List.length_pos_of_mem hx;simp;omega
def rN(x:Bd):Int × List UInt8 × Int:=(x.VF,x.inn.toList,x.VH)
def pT(s:Ss):Int × List UInt8 × Int:=(s.VF,s.inn.toList,s.VH)
theorem OY{x:Bd}{s:Ss}(h:gR x s=true):rN x=pT s:=by
 unfold gR at h;simp only[UB,UF]at h;unfold rN pT;rw[h.1.1,h.1.2,h.2]
theorem CQ{c b:Bd}(h:cD b.VF b.inn b.VH c=true):eJ c b=true:=by
 unfold cD at h;simp only[UB,UF]at h;unfold eJ;simp[h.1.1,h.1.2,h.2]
theorem JX{c b:Bd}(h:cV b.VF b.out b.VI c=true):eJ c b=true:=by
 unfold cV at h;simp only[UB,UF]at h;unfold eJ;simp[h.1.1,h.1.2,h.2]
theorem FS{c b:Bd}(h:c.inn.toList=b.inn.toList)(hc:eJ c b=false):c.out.toList=b.out.toList:=by
 unfold eJ at hc;simp only[Bool.or_eq_false_iff]at hc;have:=hc.1;simp[h]at this;exact this
theorem wQ{xs:List Bd}{d a b:BA}(h:a.toList=b.toList):dV xs d a=dV xs d b:=by
 have:cY a=cY b:=by funext c;unfold cY;rw[h]
 unfold dV;rw[this]
theorem CN{b:Bb}{p:Pl}(hB:∀i (h:i < b.VN.length),cK p (b.VN.take i) b.VN[i]=true)(hA:∀x∈b.VN,b.VK.any (fun s=>gR x s)=true):b.VN.length≤b.VK.length:=by
 have h:=DP (xs:=b.VN.map rN) (ys:=b.VK.map pT) ?_ ?_
 ·simpa using h
 ·rw[List.nodup_iff_pairwise_ne,List.pairwise_map,List.pairwise_iff_getElem];intro i j hi hj hij e;have h1:=hB j hj;unfold cK at h1;simp only[UB,Bool.not_eq_true']at h1;have h2:=List.any_eq_false.1 h1.2 b.VN[i] (qJ hi hij);unfold rN at e;simp only[Prod.mk.injEq]at e;exact h2 (CQ (by unfold cD;simp[e.1,e.2.1,e.2.2]))
 ·intro k hk;obtain⟨x,hx,rfl⟩:=List.mem_map.1 hk;obtain⟨s,hs,hh⟩:=List.any_eq_true.1 (hA x hx);exact List.mem_map.2 ⟨s,hs,(OY hh).symm⟩
theorem mT(p:Pl)(b:Bb):dA p b=fA p b:=by
 rw[Bool.eq_iff_iff];constructor
 ·intro h;unfold dA at h;simp only[UB,UF]at h;obtain⟨⟨⟨⟨hP,hs⟩,hl⟩,hF0⟩,hS0⟩:=h;have hF:=iA.1 hF0;have hS:=iA.1 hS0;have hm:=zE hP;have F1:∀i (h:i < b.VN.length),cK p (b.VN.take i) b.VN[i]=true:=by
   intro i hi;have hf:=hF i hi;unfold lY at hf;simp only[UB,UF,Bool.not_eq_true']at hf;obtain⟨⟨⟨⟨⟨⟨⟨⟨f1,f2⟩,f3⟩,f4⟩,f5⟩,f6⟩,f7⟩,f8⟩,f9⟩:=hf;unfold cK;simp only[UB,Bool.not_eq_true'];refine⟨⟨⟨⟨⟨f1,f2⟩,f3⟩,f4⟩,f5⟩,?_⟩;rw[List.any_eq_false];intro c hc hcl;obtain⟨k,hk,hki,rfl⟩:=sM hc;unfold eJ at hcl;simp only[UV,UB,UF,Bool.not_eq_true',decide_eq_false_iff_not]at hcl;rcases hcl with ⟨e1,e2⟩|⟨e1,⟨e2,e3⟩|⟨e2,e3⟩⟩
   ·have hg:=hF k hk;unfold lY at hg;simp only[UB,UF]at hg;have g8:=hg.1.2;rw[wQ e1]at g8;exact e2 (g8.symm.trans f8)
   ·exact List.any_eq_false.1 f6 _ hc (by unfold cD;simp[e1,e2,e3])
   ·exact List.any_eq_false.1 f7 _ hc (by unfold cV;simp[e1,e2,e3])
  unfold fA;simp only[UB,UF,List.all_eq_true];refine⟨⟨⟨⟨⟨hP,hs⟩,by omega⟩,iA.2 F1⟩,iA.2 ?_⟩,?_⟩
  ·intro i hi;have hq:=hS i hi;unfold nJ at hq;simp only[UB,Bool.not_eq_true']at hq;obtain⟨⟨q1,q2⟩,q3⟩:=hq;unfold sP at q2;simp only[UB,UF,UV]at q2;obtain⟨⟨⟨⟨r1,r2⟩,r3⟩,r4⟩,r5⟩:=q2;unfold fX;simp only[UB,UF,Bool.not_eq_true',UV];refine⟨⟨⟨⟨⟨⟨r1,r2⟩,r3⟩,?_⟩,r5⟩,?_⟩,q3⟩
   ·rcases r4 with r4 | r4
    ·exact .inr r4
    ·obtain⟨x,hx,hox⟩:=List.any_eq_true.1 q1;obtain⟨j,hj,rfl⟩:=UY hx;have f1:=F1 j hj;unfold cK at f1;simp only[UB]at f1;have f2:=f1.1.1.1.1.1;unfold cD at hox;simp only[UB,UF]at hox;rw[hox.1.1]at f2;unfold eN at f2;unfold dF at r4;simp at f2 r4;rcases f2 with (f2|f2)|f2
     ·exact .inl f2
     ·exact absurd f2 r4.1
     ·exact absurd f2 r4.2
   ·have:=mN (cD b.VK[i].VF b.VK[i].inn b.VK[i].VH) b.VN;rw[q1]at this;simpa using this
  ·intro x hx;obtain⟨j,hj,rfl⟩:=UY hx;have hf:=hF j hj;unfold lY at hf;simp only[UB]at hf;exact hf.2
 ·intro h;unfold fA at h;simp only[UB,UF,List.all_eq_true]at h;obtain⟨⟨⟨⟨⟨hP,hs⟩,h60⟩,hB0⟩,hS0⟩,hA⟩:=h;have hB:=iA.1 hB0;have hS:=iA.1 hS0;unfold dA;simp only[UB,UF];refine⟨⟨⟨⟨hP,hs⟩,CN hB hA⟩,iA.2 ?_⟩,iA.2 ?_⟩
  ·intro i hi;have h1:=hB i hi;unfold cK at h1;simp only[UB,Bool.not_eq_true']at h1;obtain⟨⟨⟨⟨⟨f1,f2⟩,f3⟩,f4⟩,f5⟩,f6⟩:=h1;unfold lY;simp only[UB,UF,Bool.not_eq_true'];refine⟨⟨⟨⟨⟨⟨⟨⟨f1,f2⟩,f3⟩,f4⟩,f5⟩,?_⟩,?_⟩,?_⟩,hA _ (UJ hi)⟩
   ·rw[List.any_eq_false];intro c hc ho;exact List.any_eq_false.1 f6 c hc (CQ ho)
   ·rw[List.any_eq_false];intro c hc ho;exact List.any_eq_false.1 f6 c hc (JX ho)
   ·unfold dV
    cases hfd:b.VN.find? (cY b.VN[i].inn) with
    | none=>
     have:=List.find?_eq_none.1 hfd b.VN[i] (UJ hi);exact absurd (by unfold cY;simp) this
    | some c=>
     obtain⟨hc1,k,hk,hkc,hlt⟩:=List.find?_eq_some_iff_getElem.1 hfd;have hki:k≤i:=by
      rcases Nat.lt_or_ge i k with h2|h2
      ·have:=hlt i h2;exact absurd this (by unfold cY;simp)
      ·exact h2
     rcases Nat.lt_or_ge k i with h2|h2
     ·have hcl:=List.any_eq_false.1 f6 b.VN[k] (qJ hk h2);rw[hkc]at hcl;unfold cY at hc1;exact FS (of_decide_eq_true hc1) (by simpa using hcl)
     ·have:k=i:=by omega
      subst this;rw[hkc]
  ·intro i hi;have hq:=hS i hi;unfold fX at hq;simp only[UB,UF,Bool.not_eq_true',UV]at hq;obtain⟨⟨⟨⟨⟨⟨r1,r2⟩,r3⟩,r4⟩,r5⟩,r6⟩,r7⟩:=hq;unfold nJ;simp only[UB,Bool.not_eq_true'];refine⟨⟨?_,?_⟩,r7⟩
   ·rw[←mN];exact UE r6
   ·unfold sP;simp only[UB,UF,UV];refine⟨⟨⟨⟨r1,r2⟩,r3⟩,?_⟩,r5⟩;rcases r4 with r4|r4
    ·right;rw[r4];rfl
    ·exact .inl r4
theorem GN(f:Int→Bool)(port:Int)(c:Nat):∀lo:Int,lo % 2=port % 2→cQ (fun n=>decide (n % 2=port % 2)&&f n) (lo+1) c=cQ (fun n=>decide (n % 2=port % 2)&&f n) (lo+2) (c-1):=by
 intro lo h
 cases c with
 | zero=>rfl
 | succ c=>
  show (if (decide ((lo+1) % 2=port % 2)&&f (lo+1))=true then some (lo+1) else cQ _ (lo+1+1) c)=_;rw[if_neg (by rw[UD (by omega)];simp)];rw[show lo+1+1=lo+2 by omega];rfl
theorem GM{f:Int→Bool}{n hi port:Int}(h:n≤hi)(hp:n % 2=port % 2):cQ (fun m=>decide (m % 2=port % 2)&&f m) n (hi-n+1).toNat=if f n=true then some n else cQ (fun m=>decide (m % 2=port % 2)&&f m) (n+2) (hi-(n+2)+1).toNat:=by
 rw[nG h];rw[UE hp,UP];by_cases hf:f n=true
 ·rw[if_pos hf,if_pos hf]
 ·rw[if_neg hf,if_neg hf,GN f port _ n hp];rw[show (hi-(n+1)+1).toNat-1=(hi-(n+2)+1).toNat by omega]
theorem bAA{f:Int→Bool}{lo hi port:Int}(h0:0≤lo)(h1:0≤port)(h:lo≤hi):cQ (fun m=>decide (m % 2=port % 2)&&f m) lo (hi-lo+1).toNat=cQ (fun m=>decide (m % 2=port % 2)&&f m) (lo+(lo+port) % 2) (hi-(lo+(lo+port) % 2)+1).toNat:=by
 by_cases hp:lo % 2=port % 2
 ·rw[show (lo+port) % 2=0 by omega,Int.add_zero]
 ·rw[show (lo+port) % 2=1 by omega,nG h];rw[UD hp];simp
def nM(F:Nat):Prop:=∀args W,Sem.run Tryz.prog (callFunc F args) W=.ok (.enter F args) W
def bO(q:Bd):En:=⟨q.VF,q.inn,q.VH⟩
def iP(q:Bd):En:=⟨q.VF,q.out,q.VI⟩
def hH(s:Ss):En:=⟨s.VF,s.inn,s.VH⟩
def eA(s:Ss):Sk:=⟨hH s,s.peer,s.VG⟩
theorem mQ(q p:En):bB q p=(decide (q.VF=p.VF)&&decide (q.addr.toList=p.addr.toList)&&decide (q.port=p.port)):=by
 unfold bB;rw[Bool.eq_iff_iff];simp[and_assoc]
theorem nE(VF:Int)(s:BA)(port:Int)(q:Bd):bB (bO q) ⟨VF,s,port⟩=cD VF s port q:=mQ _ _
theorem pX(VF:Int)(s:BA)(port:Int)(q:Bd):bB (iP q) ⟨VF,s,port⟩=cV VF s port q:=mQ _ _
theorem sR(b:Bd)(s:Ss):bB (hH s) (bO b)=gR b s:=by
 rw[mQ];unfold gR hH bO;rw[Bool.eq_iff_iff];simp only[UB,UF];exact⟨fun h=>⟨⟨h.1.1.symm,h.1.2.symm⟩,h.2.symm⟩,fun h=>⟨⟨h.1.1.symm,h.1.2.symm⟩,h.2.symm⟩⟩
theorem zG(s t:Ss):dK (eA t) (eA s)=gZ s t:=by
 unfold dK;rw[show bB (eA t).host (eA s).host=bB (hH t) (hH s) from rfl,mQ];unfold gZ eA hH;rw[Bool.eq_iff_iff];simp only[UB,UF,beq_iff_eq];exact⟨fun h=>⟨⟨⟨⟨h.1.1.1.symm,h.1.1.2.symm⟩,h.1.2.symm⟩,h.2.1.symm⟩,h.2.2.symm⟩,fun h=>⟨⟨⟨h.1.1.1.1.symm,h.1.1.1.2.symm⟩,h.1.1.2.symm⟩,h.1.2.symm,h.2.symm⟩⟩
theorem lN(q:Bd)(w:World) :
  Cb 53 #[gW q] w (pG (bO q)):=by
 unfold gW pG bO;go_enter Tryz.func53,Tryz.ntmps53
 go_wp2_with fail
 refine VB (v:=.agg (gT q.VF q.inn q.VH).toArray) (by simp[results,Tryz.results53,go_sem]) rfl ⟨rfl,?_⟩;first | exact(bR.alloc lR _).alloc (by simp) _ | exact((((bR.alloc lR _).alloc (by simp) _).setCell (by simp) _).setCell (by simp) _).setCell (by simp) _
theorem pW(q:Bd)(w:World) :
  Cb 48 #[gW q] w (pG (iP q)):=by
 unfold gW pG iP;go_enter Tryz.func48,Tryz.ntmps48
 go_wp2_with fail
 refine VB (v:=.agg (gT q.VF q.out q.VI).toArray) (by simp[results,Tryz.results48,go_sem]) rfl ⟨rfl,?_⟩;first | exact(bR.alloc lR _).alloc (by simp) _ | exact((((bR.alloc lR _).alloc (by simp) _).setCell (by simp) _).setCell (by simp) _).setCell (by simp) _
theorem nK(q:Ss)(w:World) :
  Cb 134 #[xL q] w (SN (eA q)):=by
 unfold xL SN eA hH;go_enter Tryz.func134,Tryz.ntmps134
 go_wp2_with fail
 refine VB (v:=.agg (gB q.VF q.inn q.VH q.peer q.VG).toArray) (by simp[results,Tryz.results134,go_sem]) rfl ⟨rfl,?_⟩;first | exact((bR.alloc lR _).alloc (by simp) _).alloc (by simp;omega) _ | skip
theorem uC(f:Bd→Bool)(F:Nat)(hG:nM F)(caps:Array Value)(xs:List Bd)(a:OA)(cap:Nat)(w:World)(hl:xs.length≤1048576)(hr:bP dP 5 w a xs)(hC:∀W,Below w.heap.size w W→∀q,q∈xs→Calls Tryz.prog F (#[gW q]++caps) W fun e w'=>e=.returned (.bool (f q))∧Below W.heap.size W w') :
  Cb 79 #[.slice a xs.length cap,.func (.func F) #[] caps] w (iV (bD f xs)):=by
 have HR:Hid (bP dP 5 w a xs):=hr;have HC:Hid (∀W,Below w.heap.size w W→∀q,q∈xs→Calls Tryz.prog F (#[gW q]++caps) W fun e w'=>e=.returned (.bool (f q))∧Below W.heap.size W w'):=hC;obtain⟨ans,hans⟩: ∃y,y=bD f xs:=⟨_,rfl⟩;rw[←hans];have HA:Hid (ans=bD f xs):=hans;clear hr hC hans;unfold nM at hG;go_enter Tryz.func79,Tryz.ntmps79
 go_wp2_with fail
 go_loopw [8] (fun iv wr=>∃i:Nat,i≤xs.length∧iv=iV i∧(xs.take i).any f=false∧Below w.heap.size w wr) (fun iv _=>xs.length-(intOf iv).toNat)
 case atStart=>exact⟨0,VC _,rfl,by simp,Below.refl _ _⟩
 case round=>
  obtain⟨i,hil,rfl,hn,hb⟩:=hrel;have HN:Hid ((xs.take i).any f=false):=hn;have HW:Hid (Below w.heap.size w wr):=hb;clear hn hb;by_cases hlt:i < xs.length
  ·obtain⟨b,off,rfl,hb,hat⟩:=HR.out.at hlt;have hA:=(hat.below hb HW.out) i hlt;have HT:Hid ((xs.take (i+1)).any f=f xs[i]):=by
    unfold Hid;rw[List.take_succ_eq_append_getElem hlt,List.any_append,HN.out];simp
   have HX:Hid (f xs[i]=true→bD f xs=i):=fun h=>nS f xs i hlt HN.out h
   have HC2:Hid _:=HC.out wr HW.out xs[i] (UJ hlt);generalize xs[i]=q at *;obtain⟨c0,c1,c2,c3,c4⟩:=LH hA;clear hA hat;obtain⟨cl,hcl⟩: ∃y,y=f q:=⟨_,rfl⟩;rw[←hcl]at HT HX HC2;clear hcl;unfold gW at HC2;go_wp2_with fail
   refine Calls.mono HC2.out ?_;rintro e w1 ⟨rfl,b1⟩;have HW1:Hid _:=HW.out.trans (b1.mono HW.out.size);clear b1 c0 c1 c2 c3 c4
   cases cl with
   | true=>
    have HF:Hid ((i:Int)=ans):=by unfold Hid;rw[HA.out,HX.out rfl]
    go_wp2_with fail
    go_ret;exact⟨aK HF.out,HW1.out⟩
   | false=>
    go_wp2_with fail
    go_roundw
    case rel=>exact⟨i+1,by omega,by go_num,HT.out,HW1.out⟩
    case measure=>simp[intOf];omega
  ·have hie:i=xs.length:=by omega
   have HF:Hid ((-1:Int)=ans):=by
    have:=HN.out;rw[hie,List.take_of_length_le lR]at this;unfold Hid;rw[HA.out,pO f xs this]
   go_wp2_with fail
   go_ret;exact⟨aK HF.out,HW.out⟩
theorem pQ(f:Ss→Bool)(F:Nat)(hG:nM F)(caps:Array Value)(xs:List Ss)(a:OA)(cap:Nat)(w:World)(hl:xs.length≤1048576)(hr:bP fZ 7 w a xs)(hC:∀W,Below w.heap.size w W→∀q,q∈xs→Calls Tryz.prog F (#[xL q]++caps) W fun e w'=>e=.returned (.bool (f q))∧Below W.heap.size W w') :
  Cb 137 #[.slice a xs.length cap,.func (.func F) #[] caps] w (iV (bD f xs)):=by
 have HR:Hid (bP fZ 7 w a xs):=hr;have HC:Hid (∀W,Below w.heap.size w W→∀q,q∈xs→Calls Tryz.prog F (#[xL q]++caps) W fun e w'=>e=.returned (.bool (f q))∧Below W.heap.size W w'):=hC;obtain⟨ans,hans⟩: ∃y,y=bD f xs:=⟨_,rfl⟩;rw[←hans];have HA:Hid (ans=bD f xs):=hans;clear hr hC hans;unfold nM at hG;go_enter Tryz.func137,Tryz.ntmps137
 go_wp2_with fail
 go_loopw [8] (fun iv wr=>∃i:Nat,i≤xs.length∧iv=iV i∧(xs.take i).any f=false∧Below w.heap.size w wr) (fun iv _=>xs.length-(intOf iv).toNat)
 case atStart=>exact⟨0,VC _,rfl,by simp,Below.refl _ _⟩
 case round=>
  obtain⟨i,hil,rfl,hn,hb⟩:=hrel;have HN:Hid ((xs.take i).any f=false):=hn;have HW:Hid (Below w.heap.size w wr):=hb;clear hn hb;by_cases hlt:i < xs.length
  ·obtain⟨b,off,rfl,hb,hat⟩:=HR.out.at hlt;have hA:=(hat.below hb HW.out) i hlt;have HT:Hid ((xs.take (i+1)).any f=f xs[i]):=by
    unfold Hid;rw[List.take_succ_eq_append_getElem hlt,List.any_append,HN.out];simp
   have HX:Hid (f xs[i]=true→bD f xs=i):=fun h=>nS f xs i hlt HN.out h
   have HC2:Hid _:=HC.out wr HW.out xs[i] (UJ hlt);generalize xs[i]=q at *;obtain⟨c0,c1,c2,c3,c4,c5,c6⟩:=NE hA;clear hA hat;obtain⟨cl,hcl⟩: ∃y,y=f q:=⟨_,rfl⟩;rw[←hcl]at HT HX HC2;clear hcl;unfold xL at HC2;go_wp2_with fail
   refine Calls.mono HC2.out ?_;rintro e w1 ⟨rfl,b1⟩;have HW1:Hid _:=HW.out.trans (b1.mono HW.out.size);clear b1 c0 c1 c2 c3 c4 c5 c6
   cases cl with
   | true=>
    have HF:Hid ((i:Int)=ans):=by unfold Hid;rw[HA.out,HX.out rfl]
    go_wp2_with fail
    go_ret;exact⟨aK HF.out,HW1.out⟩
   | false=>
    go_wp2_with fail
    go_roundw
    case rel=>exact⟨i+1,by omega,by go_num,HT.out,HW1.out⟩
    case measure=>simp[intOf];omega
  ·have hie:i=xs.length:=by omega
   have HF:Hid ((-1:Int)=ans):=by
    have:=HN.out;rw[hie,List.take_of_length_le lR]at this;unfold Hid;rw[HA.out,pO f xs this]
   go_wp2_with fail
   go_ret;exact⟨aK HF.out,HW.out⟩
theorem FX(E:Bd→En)(F:Nat)(hG:nM F)(q:Bd)(p:En)(B1 B2:Nat)(w:World)(hF:∀q W,Calls Tryz.prog F #[gW q] W fun e w'=>e=.returned (pG (E q))∧Below W.heap.size W w')(hk0:aA w B1 [.func (.func F) #[] #[]])(hk1:aA w B2 (xW p)) :
  Cb 80 #[gW q,.pointer (some ⟨B1,0,none⟩),.pointer (some ⟨B2,0,none⟩)] w (.bool (bB (E q) p)):=by
 have HF:Hid (∀W,Calls Tryz.prog F #[.agg (cZ q).toArray] W fun e w'=>e=.returned (.agg #[iV (E q).VF,.string (E q).addr,iV (E q).port])∧Below W.heap.size W w'):=hF q;have HE:Hid (∀W,(binOp .eql 86 (.agg #[iV (E q).VF,.string (E q).addr,iV (E q).port]) (.agg (gT p.VF p.addr p.port).toArray)).run Tryz.prog W=.ok (.bool (bB (E q) p)) W):=fun W=>wB (E q) p W
 generalize bB (E q) p=ans at *;generalize E q=eq at *;clear hF;unfold nM at hG;have HZ:Hid (Below w.heap.size w (w.alloc (.cells (cZ q).toArray 48))):=bR.alloc lR _;have HQ:Hid (aA (w.alloc (.cells (cZ q).toArray 48)) w.heap.size (dP q)):=aA.new w (dP q) 48;have HK0:Hid (aA (w.alloc (.cells (cZ q).toArray 48)) B1 [.func (.func F) #[] #[]]):=hk0.alloc _;have HK1:Hid (aA (w.alloc (.cells (cZ q).toArray 48)) B2 (xW p)):=hk1.alloc _;clear hk0 hk1;unfold gW;go_enter Tryz.func80,Tryz.ntmps80
 go_upto_region 1 with fail
 generalize (w.alloc (.cells (cZ q).toArray 48))=W at *;go_cut [4] (fun v wx=>v=.bool ans∧Below w.heap.size w wx)
 case first=>
  rename_i J K2 hJ hK2;have HCP:Hid (∀wy,Below W.drew.heap.size W.drew wy→aA wy w.heap.size (dP q)∧aA wy B1 [.func (.func F) #[] #[]]∧aA wy B2 (xW p)):=fun wy hy=>⟨HQ.out.drew.kept (by simp[dP]) hy,HK0.out.drew.kept (by simp[xW,NN]) hy,HK1.out.drew.kept (by simp[xW,NN]) hy⟩
  refine bJ [5,6,7,8,9,4] (by kernel_rfl) (by kernel_rfl) ?_;iterate 4 (apply fI.u rfl;(·intro K' a wy ho hd hb hK;simp[aU,aG,aD,Region.binds]at ho hd;obtain⟨hq,h0,h1⟩:=HCP.out wy hb;have kC:=hq.c5;have k00:=h0.cell (j:=0) rfl;have kC:=h1.c3;go_simp;first|((try go_bits);exact hK _ _ rfl bQ)|(refine(HF.out wy).mono ?_;rintro e wz ⟨rfl,hz⟩;exact hK _ _ rfl hz));dsimp only[nA,cA])
  apply fI.v4
  ·rfl
  ·intro K' a wy ho hd hb hK kz;have q2:=hd ⟨2,.data⟩ (by simp) rfl;have q3:=hd ⟨3,.data⟩ (by simp) rfl;simp[aU,aG,aD]at q2 q3;clear hd ho;refine iU .eql 86 86 (.tmp 7) (.tmp 8) rfl (by simp[Act.eval,aD,q2]) (by simp[Act.eval,aD,q3]) (run_eqGuard_agg _ _ _ _ _ _ _ (by kernel_rfl)) (HE.out wy) ?_;exact kz _ rfl
  (apply fI.u rfl;(·intro K' a wy ho hd hb hK;simp[aU,aG,aD,Region.binds]at ho hd;go_simp;(try go_bits);exact hK _ _ rfl bQ);dsimp only[nA,cA])
  intro X wz hR hz;simp only[UM,UN,eY,aG]at hR;simp only[aE,hR];clear hR;go_simp;try go_bits
  refine hK2 _ _ (hJ _ _ ?_);(repeat apply Exists.intro)
  refine⟨⟨rfl,HZ.out.drew.trans (hz.mono HZ.out.size)⟩,rfl⟩
 case rest=>
  obtain⟨rfl,hb⟩:=hcut;have HB:Hid (Below w.heap.size w wc):=hb;clear hb;go_wp2_with fail
  go_ret;exact⟨rfl,HB.out⟩
theorem DZ(q:Ss)(p:Sk)(B1:Nat)(w:World)(hk0:aA w B1 (NN p)) :
  Cb 138 #[xL q,.pointer (some ⟨B1,0,none⟩)] w (.bool (dK (eA q) p)):=by
 have HF:Hid (∀W,Cb 134 #[.agg (iE q).toArray] W (.agg (gB q.VF q.inn q.VH q.peer q.VG).toArray)):=fun W=>nK q W
 have HE:Hid (∀W,(binOp .eql 147 (.agg (gB q.VF q.inn q.VH q.peer q.VG).toArray) (.agg (gB p.host.VF p.host.addr p.host.port p.peer p.VG).toArray)).run Tryz.prog W=.ok (.bool (dK (eA q) p)) W):=fun W=>MD (eA q) p W
 generalize dK (eA q) p=ans at *;have HZ:Hid (Below w.heap.size w (w.alloc (.cells (iE q).toArray 59))):=bR.alloc lR _;have HQ:Hid (aA (w.alloc (.cells (iE q).toArray 59)) w.heap.size (fZ q)):=aA.new w (fZ q) 59;have HK0:Hid (aA (w.alloc (.cells (iE q).toArray 59)) B1 (NN p)):=hk0.alloc _;clear hk0;unfold xL;go_enter Tryz.func138,Tryz.ntmps138
 go_upto_region 1 with fail
 generalize (w.alloc (.cells (iE q).toArray 59))=W at *;go_cut [3] (fun v wx=>v=.bool ans∧Below w.heap.size w wx)
 case first=>
  rename_i J K2 hJ hK2;have HCP:Hid (∀wy,Below W.drew.heap.size W.drew wy→aA wy w.heap.size (fZ q)∧aA wy B1 (NN p)):=fun wy hy=>⟨HQ.out.drew.kept (by simp[fZ]) hy,HK0.out.drew.kept (by simp[xW,NN]) hy⟩
  refine bJ [4,5,6,7,3] (by kernel_rfl) (by kernel_rfl) ?_;iterate 3 (apply fI.u rfl;(·intro K' a wy ho hd hb hK;simp[aU,aG,aD,Region.binds]at ho hd;obtain⟨hq,h0⟩:=HCP.out wy hb;have kC:=hq.c7;have kC:=h0.c5;go_simp;first|((try go_bits);exact hK _ _ rfl bQ)|(refine(HF.out wy).mono ?_;rintro e wz ⟨rfl,hz⟩;exact hK _ _ rfl hz));dsimp only[nA,cA])
  apply fI.v3
  ·rfl
  ·intro K' a wy ho hd hb hK kz;have q1:=hd ⟨1,.data⟩ (by simp) rfl;have q2:=hd ⟨2,.data⟩ (by simp) rfl;simp[aU,aG,aD]at q1 q2;clear hd ho;refine iU .eql 147 147 (.tmp 5) (.tmp 6) rfl (by simp[Act.eval,aD,q1]) (by simp[Act.eval,aD,q2]) (run_eqGuard_agg _ _ _ _ _ _ _ (by kernel_rfl)) (HE.out wy) ?_;exact kz _ rfl
  (apply fI.u rfl;(·intro K' a wy ho hd hb hK;simp[aU,aG,aD,Region.binds]at ho hd;go_simp;(try go_bits);exact hK _ _ rfl bQ);dsimp only[nA,cA])
  intro X wz hR hz;simp only[UM,UN,eY,aG]at hR;simp only[aE,hR];clear hR;go_simp;try go_bits
  refine hK2 _ _ (hJ _ _ ?_);(repeat apply Exists.intro)
  refine⟨⟨rfl,HZ.out.drew.trans (hz.mono HZ.out.size)⟩,rfl⟩
 case rest=>
  obtain⟨rfl,hb⟩:=hcut;have HB:Hid (Below w.heap.size w wc):=hb;clear hb;go_wp2_with fail
  go_ret;exact⟨rfl,HB.out⟩
theorem AN(q:Ss)(p:En)(B1:Nat)(w:World)(hk0:aA w B1 (xW p)) :
  Cb 181 #[xL q,.pointer (some ⟨B1,0,none⟩)] w (.bool (bB (hH q) p)):=by
 have HF:Hid (∀W,Cb 134 #[.agg (iE q).toArray] W (.agg (gB q.VF q.inn q.VH q.peer q.VG).toArray)):=fun W=>nK q W
 have HE:Hid (∀W,(binOp .eql 86 (.agg (gT q.VF q.inn q.VH).toArray) (.agg (gT p.VF p.addr p.port).toArray)).run Tryz.prog W=.ok (.bool (bB (hH q) p)) W):=fun W=>wB (hH q) p W
 have HFL:Hid (∀W,Sem.run Tryz.prog (Instr.field 147 (.agg (gB q.VF q.inn q.VH q.peer q.VG).toArray) 0) W=.ok (.agg (gT q.VF q.inn q.VH).toArray) W):=fun W=>by kernel_rfl
 generalize bB (hH q) p=ans at *;have HZ:Hid (Below w.heap.size w (w.alloc (.cells (iE q).toArray 59))):=bR.alloc lR _;have HQ:Hid (aA (w.alloc (.cells (iE q).toArray 59)) w.heap.size (fZ q)):=aA.new w (fZ q) 59;have HK0:Hid (aA (w.alloc (.cells (iE q).toArray 59)) B1 (xW p)):=hk0.alloc _;clear hk0;unfold xL;go_enter Tryz.func181,Tryz.ntmps181
 go_upto_region 1 with fail
 generalize (w.alloc (.cells (iE q).toArray 59))=W at *;go_cut [3] (fun v wx=>v=.bool ans∧Below w.heap.size w wx)
 case first=>
  rename_i J K2 hJ hK2;have HCP:Hid (∀wy,Below W.drew.heap.size W.drew wy→aA wy w.heap.size (fZ q)∧aA wy B1 (xW p)):=fun wy hy=>⟨HQ.out.drew.kept (by simp[fZ]) hy,HK0.out.drew.kept (by simp[xW,NN]) hy⟩
  refine bJ [4,5,6,7,8,3] (by kernel_rfl) (by kernel_rfl) ?_;iterate 2 (apply fI.u rfl;(·intro K' a wy ho hd hb hK;simp[aU,aG,aD,Region.binds]at ho hd;obtain⟨hq,h0⟩:=HCP.out wy hb;have kC:=hq.c7;have kC:=h0.c3;go_simp;first|((try go_bits);exact hK _ _ rfl bQ)|(refine(HF.out wy).mono ?_;rintro e wz ⟨rfl,hz⟩;exact hK _ _ rfl hz));dsimp only[nA,cA])
  (apply fI.u rfl;(·intro K' a wy ho hd hb hK;simp[aU,aG,aD,Region.binds]at ho hd;have hfl:=HFL.out wy;go_simp;(try go_bits);exact hK _ _ rfl bQ);dsimp only[nA,cA])
  (apply fI.u rfl;(·intro K' a wy ho hd hb hK;simp[aU,aG,aD,Region.binds]at ho hd;obtain⟨hq,h0⟩:=HCP.out wy hb;have kC:=hq.c7;have kC:=h0.c3;go_simp;(try go_bits);exact hK _ _ rfl bQ);dsimp only[nA,cA])
  apply fI.v4
  ·rfl
  ·intro K' a wy ho hd hb hK kz;have q2:=hd ⟨2,.data⟩ (by simp) rfl;have q3:=hd ⟨3,.data⟩ (by simp) rfl;simp[aU,aG,aD]at q2 q3;clear hd ho;refine iU .eql 86 86 (.tmp 6) (.tmp 7) rfl (by simp[Act.eval,aD,q2]) (by simp[Act.eval,aD,q3]) (run_eqGuard_agg _ _ _ _ _ _ _ (by kernel_rfl)) (HE.out wy) ?_;exact kz _ rfl
  (apply fI.u rfl;(·intro K' a wy ho hd hb hK;simp[aU,aG,aD,Region.binds]at ho hd;go_simp;(try go_bits);exact hK _ _ rfl bQ);dsimp only[nA,cA])
  intro X wz hR hz;simp only[UM,UN,eY,aG]at hR;simp only[aE,hR];clear hR;go_simp;try go_bits
  refine hK2 _ _ (hJ _ _ ?_);(repeat apply Exists.intro)
  refine⟨⟨rfl,HZ.out.drew.trans (hz.mono HZ.out.size)⟩,rfl⟩
 case rest=>
  obtain⟨rfl,hb⟩:=hcut;have HB:Hid (Below w.heap.size w wc):=hb;clear hb;go_wp2_with fail
  go_ret;exact⟨rfl,HB.out⟩
theorem AR(p:Pl)(a:OA)(cap:Nat)(w:World)(hl:p.VL.length≤1048576)(hcap:p.VL.length≤cap)(hsz:∀s∈p.VL,s.size≤1048576)(hr:bP cB 1 w a p.VL) :
  Cb 132 #[iK a cap p] w (.bool (cU p)):=by
 have hun:undef=Value.tuple #[]:=rfl;have GA:Hid (Below w.heap.size w (w.alloc (.cells (bG a cap p).toArray 27))):=bR.alloc lR _;have H0:Hid (aA (w.alloc (.cells (bG a cap p).toArray 27)) w.heap.size (bG a cap p)):=aA.new w (bG a cap p) 27;have HA:Hid (∀W,Below w.heap.size w W→Cb 163 #[.slice a p.VL.length cap] W (.bool (wT p.VL))):=fun W hW=>yH p.VL a cap W hl hcap hsz (hr.below hW)
 have HL:Hid (∀W,Cb 147 #[yI p.lv] W (.bool (fT p.lv))):=fun W=>rC p.lv W
 have HV:Hid (cU p=(wT p.VL&&decide (1≤p.low)&&decide (p.low≤p.high)&&decide (p.high≤65535)&&decide (1≤p.most)&&decide (p.most≤60)&&decide (0≤p.filter)&&decide (p.filter≤2)&&fT p.lv)):=by
  unfold Hid cU wT aO;generalize fT p.lv=x1;generalize jT eV p.VL p.VL.length=x2;rw[Bool.eq_iff_iff];simp only[UB];constructor
  ·intro h;simp_all
  ·intro h;simp_all
 generalize cU p=ans at *;generalize wT p.VL=bA at *;generalize fT p.lv=bL at *;clear hr hsz;unfold iK;unfold yI at HL;go_enter Tryz.func132,Tryz.ntmps132
 go_wp2_with fail
 refine(HA.out _ GA.out).mono ?_;rintro e w1 ⟨rfl,q1⟩;have G1:Hid _:=GA.out.trans (q1.mono GA.out.size);have K1:=H0.out.kept (by simp) q1;obtain⟨k0,k1,k2,k3,k4,k5,k6,k7,k8,k9⟩:=K1.c10;clear q1 K1 H0 GA HA
 cases bA with
 | false=>
  have HX:Hid (ans=false):=by unfold Hid;rw[HV.out];simp
  go_wp2_with fail
  go_ret;exact⟨aC HX.out.symm,G1.out⟩
 | true=>
  by_cases t0:1≤p.low
  case neg=>
   have HX:Hid (ans=false):=by unfold Hid;rw[HV.out,UD t0];simp
   have d0:decide (1≤p.low)=false:=UD t0;go_wp2_with fail
   go_ret;exact⟨aC HX.out.symm,G1.out⟩
  have d0:decide (1≤p.low)=true:=UE t0;by_cases t1:p.low≤p.high
  case neg=>
   have HX:Hid (ans=false):=by unfold Hid;rw[HV.out,UD t1];simp
   have d1:decide (p.low≤p.high)=false:=UD t1;go_wp2_with fail
   go_ret;exact⟨aC HX.out.symm,G1.out⟩
  have d1:decide (p.low≤p.high)=true:=UE t1;by_cases t2:p.high≤65535
  case neg=>
   have HX:Hid (ans=false):=by unfold Hid;rw[HV.out,UD t2];simp
   have d2:decide (p.high≤65535)=false:=UD t2;go_wp2_with fail
   go_ret;exact⟨aC HX.out.symm,G1.out⟩
  have d2:decide (p.high≤65535)=true:=UE t2;by_cases t3:1≤p.most
  case neg=>
   have HX:Hid (ans=false):=by unfold Hid;rw[HV.out,UD t3];simp
   have d3:decide (1≤p.most)=false:=UD t3;go_wp2_with fail
   go_ret;exact⟨aC HX.out.symm,G1.out⟩
  have d3:decide (1≤p.most)=true:=UE t3;by_cases t4:p.most≤60
  case neg=>
   have HX:Hid (ans=false):=by unfold Hid;rw[HV.out,UD t4];simp
   have d4:decide (p.most≤60)=false:=UD t4;go_wp2_with fail
   go_ret;exact⟨aC HX.out.symm,G1.out⟩
  have d4:decide (p.most≤60)=true:=UE t4;by_cases t5:0≤p.filter
  case neg=>
   have HX:Hid (ans=false):=by unfold Hid;rw[HV.out,UD t5];simp
   have d5:decide (0≤p.filter)=false:=UD t5;go_wp2_with fail
   go_ret;exact⟨aC HX.out.symm,G1.out⟩
  have d5:decide (0≤p.filter)=true:=UE t5;by_cases t6:p.filter≤2
  case neg=>
   have HX:Hid (ans=false):=by unfold Hid;rw[HV.out,UD t6];simp
   have d6:decide (p.filter≤2)=false:=UD t6;go_wp2_with fail
   go_ret;exact⟨aC HX.out.symm,G1.out⟩
  have d6:decide (p.filter≤2)=true:=UE t6;have HX:Hid (ans=bL):=by unfold Hid;rw[HV.out,UE t0,UE t1,UE t2,UE t3,UE t4,UE t5,UE t6];rfl
  go_wp2_with fail
  refine(HL.out _).mono ?_;rintro e w2 ⟨rfl,q2⟩;have G2:Hid _:=G1.out.trans (q2.mono G1.out.size);clear q2;go_wp2_with fail
  go_ret;exact⟨aC HX.out.symm,G2.out⟩
end Go.Proofs.YtdkepkaflielhaaGreatDoor
