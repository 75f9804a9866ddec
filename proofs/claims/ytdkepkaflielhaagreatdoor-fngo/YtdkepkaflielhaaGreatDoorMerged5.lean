import Derived.Test.YtdkepkaflielhaaGreatDoorMerged4
set_option linter.unusedVariables false
set_option linter.unusedSimpArgs false
set_option maxRecDepth 100000
set_option maxHeartbeats 8000000
namespace Go.Proofs.YtdkepkaflielhaaGreatDoor
open Go.RowKit Go.ChangeShapes
theorem nA{α:Type}(l:List α):[]++l=l:=rfl
theorem cA{α:Type}(a:α)(l m:List α):a::l++m=a::(l++m):=rfl
theorem bQ{w:World}{n:Nat}:Below n w w:=Below.refl _ _
section
variable {P:Program} {ops:Array Oper} {Q:Exit→Act→World→Prop} {ds:List Tmp} {a0:Act} {w0:World}
def GU(P:Program)(Q:Exit→Act→World→Prop)(ds:List Tmp)(Rs:List (Value→World→Prop))(a0:Act)(w0:World)(v:Value)(o:Oper):Prop :=
 ∀(K':Act→World→Prop) (a:Act) (wy:World),(∀t,t ∉ ds→aD a t=aD a0 t)→(∀e∈o.after,Region.binds .any e=true→aS (Rs++[aF v]) e.on (aD a (ds.getD e.on 0)) wy) →
  Below w0.heap.size w0 wy→(∀x wz,x=v→Below wy.heap.size wy wz→K' (a.put o.dst x) wz)→Oper.wp P o a wy K' Q
theorem GU.k{Rs:List (Value→World→Prop)}{v:Value}{o:Oper}{K':Act→World→Prop}{a:Act}{wy:World}(hK:∀x w',aS (Rs++[aF v]) Rs.length x w'→Below wy.heap.size wy w'→K' (a.put o.dst x) w'):∀x wz,x=v→Below wy.heap.size wy wz→K' (a.put o.dst x) wz :=
 fun x wz hx hz=>hK x wz (by simp[aS,aF,hx]) hz
theorem GU.step{Rs:List (Value→World→Prop)}{v:Value}{o:Oper}(hg:o.guard=none)(h:GU P Q ds Rs a0 w0 v o):fK P ops Q ds (aS (Rs++[aF v])) a0 w0 Rs.length o :=
 GW.step hg fun K' a w ho hd hb hk _=>h K' a w ho hd hb (GU.k hk)
theorem GX{Rs:List (Value→World→Prop)}{r s:Value→World→Prop}{k:Nat}(h:Rs[k]?=some r)(v:Value)(w:World):aS (Rs++[s]) k v w=r v w:=by
 obtain⟨hk,_⟩:=List.getElem?_eq_some_iff.1 h;rw[pV hk];unfold aS;rw[List.getD_eq_getElem?_getD,h];rfl
theorem GU.stepG{Rs:List (Value→World→Prop)}{v:Value}{o oj:Oper}{k:Nat}{b want:Bool}(hg:o.guard=some (k,want))(hk:ops[k]?=some oj)(hj:oj.dst=some (ds.getD k 0))(hR:Rs[k]?=some (aF (.bool b)))(hb:(b==want)=true)(hm:⟨k,.guard⟩∈o.after)(h:GU P Q ds Rs a0 w0 v o):fK P ops Q ds (aS (Rs++[aF v])) a0 w0 Rs.length o:=fun K' a w ho hd hB hK=>by
 have hs:=hd _ hm rfl;rw[GX hR]at hs;exact RR k _ b want hg hk hj hs hb (h K' a w ho hd hB (GU.k hK))
theorem PL{Rs:List (Value→World→Prop)}{o oj:Oper}{k:Nat}{b want:Bool}(hg:o.guard=some (k,want))(hk:ops[k]?=some oj)(hj:oj.dst=some (ds.getD k 0))(hR:Rs[k]?=some (aF (.bool b)))(hb:(b==want)=false)(hm:⟨k,.guard⟩∈o.after):fK P ops Q ds (aS (Rs++[aF undef])) a0 w0 Rs.length o:=fun K' a w ho hd hB hK=>by
 have hs:=hd _ hm rfl;rw[GX hR]at hs;exact RA k _ b want hg hk hj hs hb (GU.k hK _ _ rfl bQ)
theorem PK{Rs:List (Value→World→Prop)}{o oj:Oper}{k:Nat}{want:Bool}(hg:o.guard=some (k,want))(hk:ops[k]?=some oj)(hj:oj.dst=some (ds.getD k 0))(hR:Rs[k]?=some (aF undef))(hm:⟨k,.guard⟩∈o.after):fK P ops Q ds (aS (Rs++[aF undef])) a0 w0 Rs.length o:=fun K' a w ho hd hB hK=>by
 have hs:=hd _ hm rfl;rw[GX hR]at hs;exact RC k _ hg hk hj hs (GU.k hK _ _ rfl bQ)
variable {suf:List Oper} {Rs:List (Value→World→Prop)} {o oj:Oper} {l:List Oper} {v:Value} {k:Nat} {b want:Bool}
theorem bC.u(hg:o.guard=none)(h1:GU P Q ds Rs a0 w0 v o)(h2:bC P ops Q ds a0 w0 suf (Rs++[aF v]) l):bC P ops Q ds a0 w0 suf Rs (o::l):=⟨aF v,cC v,h1.step hg,h2⟩
theorem bC.g(hg:o.guard=some (k,want))(hk:ops[k]?=some oj)(hj:oj.dst=some (ds.getD k 0))(hR:Rs[k]?=some (aF (.bool b)))(hb:(b==want)=true)(hm:⟨k,.guard⟩∈o.after)(h1:GU P Q ds Rs a0 w0 v o)(h2:bC P ops Q ds a0 w0 suf (Rs++[aF v]) l):bC P ops Q ds a0 w0 suf Rs (o::l):=⟨aF v,cC v,h1.stepG hg hk hj hR hb hm,h2⟩
theorem bC.n(hg:o.guard=some (k,want))(hk:ops[k]?=some oj)(hj:oj.dst=some (ds.getD k 0))(hR:Rs[k]?=some (aF (.bool b)))(hb:(b==want)=false)(hm:⟨k,.guard⟩∈o.after)(h2:bC P ops Q ds a0 w0 suf (Rs++[aF undef]) l):bC P ops Q ds a0 w0 suf Rs (o::l):=⟨aF undef,cC _,PL hg hk hj hR hb hm,h2⟩
theorem bC.m(hg:o.guard=some (k,want))(hk:ops[k]?=some oj)(hj:oj.dst=some (ds.getD k 0))(hR:Rs[k]?=some (aF undef))(hm:⟨k,.guard⟩∈o.after)(h2:bC P ops Q ds a0 w0 suf (Rs++[aF undef]) l):bC P ops Q ds a0 w0 suf Rs (o::l):=⟨aF undef,cC _,PK hg hk hj hR hm,h2⟩
theorem cW.u(hg:o.guard=none)(h1:GU P Q ds Rs a0 w0 v o)(h2:cW P ops Q ds a0 w0 (Rs++[aF v]) l):cW P ops Q ds a0 w0 Rs (o::l):=⟨aF v,cC v,h1.step hg,h2⟩
theorem cW.g(hg:o.guard=some (k,want))(hk:ops[k]?=some oj)(hj:oj.dst=some (ds.getD k 0))(hR:Rs[k]?=some (aF (.bool b)))(hb:(b==want)=true)(hm:⟨k,.guard⟩∈o.after)(h1:GU P Q ds Rs a0 w0 v o)(h2:cW P ops Q ds a0 w0 (Rs++[aF v]) l):cW P ops Q ds a0 w0 Rs (o::l):=⟨aF v,cC v,h1.stepG hg hk hj hR hb hm,h2⟩
theorem cW.n(hg:o.guard=some (k,want))(hk:ops[k]?=some oj)(hj:oj.dst=some (ds.getD k 0))(hR:Rs[k]?=some (aF (.bool b)))(hb:(b==want)=false)(hm:⟨k,.guard⟩∈o.after)(h2:cW P ops Q ds a0 w0 (Rs++[aF undef]) l):cW P ops Q ds a0 w0 Rs (o::l):=⟨aF undef,cC _,PL hg hk hj hR hb hm,h2⟩
theorem cW.m(hg:o.guard=some (k,want))(hk:ops[k]?=some oj)(hj:oj.dst=some (ds.getD k 0))(hR:Rs[k]?=some (aF undef))(hm:⟨k,.guard⟩∈o.after)(h2:cW P ops Q ds a0 w0 (Rs++[aF undef]) l):cW P ops Q ds a0 w0 Rs (o::l):=⟨aF undef,cC _,PK hg hk hj hR hm,h2⟩
end
open Go.PlainAid
theorem bP.take{α:Type}{en:α→List Value}{n:Nat}{w:World}{a:OA}{xs:List α}(h:bP en n w a xs)(i:Nat):bP en n w a (xs.take i):=by
 rcases h with rfl|⟨b,off,rfl,hb,hat⟩
 ·exact .inl (by simp)
 ·exact .inr ⟨b,off,rfl,hb,fun j hj=>by rw[List.getElem_take];exact hat j (by simp at hj;omega)⟩
theorem BD(p:Pl)(a:OA)(cap:Nat)(w:World)(hl:p.VA.length≤1048576)(hcap:p.VA.length≤cap)(hsz:∀s∈p.VA,s.size≤1048576)(hr:bP bX 1 w a p.VA) :
  Cb 34 #[jQ a cap p] w (.bool (cT p)):=by
 have hun:undef=Value.tuple #[]:=rfl;have GA:Hid (Below w.heap.size w (w.alloc (.cells (bM a cap p).toArray 27))):=bR.alloc lR _;have H0:Hid (aA (w.alloc (.cells (bM a cap p).toArray 27)) w.heap.size (bM a cap p)):=aA.new w (bM a cap p) 27;have HM:Hid (∀W,Cw 40 #[iV p.most,iV 1,iV 60] W (.bool (aM p.most 1 60))):=fun W=>fD _ _ _ W
 have HF:Hid (∀W,Cw 40 #[iV p.filter,iV 0,iV 2] W (.bool (aM p.filter 0 2))):=fun W=>fD _ _ _ W
 have HL:Hid (∀W,Cb 67 #[xS p.lv] W (.bool (fR p.lv))):=fun W=>qZ p.lv W
 have HV:Hid (cT p=(decide (1≤p.VA.length)&&decide (p.VA.length≤8)&&decide (1≤p.low)&&decide (p.low≤p.high)&&decide (p.high≤65535)&&aM p.most 1 60&&aM p.filter 0 2&&fR p.lv&&jT eV p.VA p.VA.length)):=rfl;generalize cT p=ans at *;generalize aM p.most 1 60=bm at *;generalize aM p.filter 0 2=bf at *;generalize fR p.lv=bl at *;have HR:Hid (bP bX 1 w a p.VA):=hr;have HZ:Hid (∀s∈p.VA,s.size≤1048576):=hsz;clear hr hsz;unfold jQ;unfold xS at HL;by_cases h1:p.VA.length < 1
 ·have HX:Hid (ans=false):=by
    unfold Hid;rw[HV.out,show decide (1≤p.VA.length)=false from TR (by omega)];simp
  have h1':(p.VA.length:Int) < 1:=by omega
  go_enter Tryz.func34,Tryz.ntmps34
  go_wp2_with fail
  go_ret;exact⟨aB HX.out.symm,GA.out⟩
 ·rw[show decide (1≤p.VA.length)=true from TT (by omega)]at HV;have h1n:¬(p.VA.length:Int) < 1:=by omega
  by_cases h2:8 < p.VA.length
  ·have HX:Hid (ans=false):=by
     unfold Hid;rw[HV.out,show decide (p.VA.length≤8)=false from TR (by omega)];simp
   have h2':(8:Int) < (p.VA.length:Int):=by omega
   go_enter Tryz.func34,Tryz.ntmps34
   go_wp2_with fail
   go_ret;exact⟨aB HX.out.symm,GA.out⟩
  ·rw[show decide (p.VA.length≤8)=true from TT (by omega)]at HV;have h2n:¬(8:Int) < (p.VA.length:Int):=by omega
   by_cases h3:p.low < 1
   ·have HX:Hid (ans=false):=by
      unfold Hid;rw[HV.out,show decide (1≤p.low)=false from TR (by omega)];simp
    have h3':p.low < 1:=by omega
    go_enter Tryz.func34,Tryz.ntmps34
    go_wp2_with fail
    go_ret;exact⟨aB HX.out.symm,GA.out⟩
   ·rw[show decide (1≤p.low)=true from TT (by omega)]at HV;have h3n:¬p.low < 1:=by omega
    by_cases h4:p.high < p.low
    ·have HX:Hid (ans=false):=by
       unfold Hid;rw[HV.out,show decide (p.low≤p.high)=false from TR (by omega)];simp
     have h4':p.high < p.low:=by omega
     go_enter Tryz.func34,Tryz.ntmps34
     go_wp2_with fail
     go_ret;exact⟨aB HX.out.symm,GA.out⟩
    ·rw[show decide (p.low≤p.high)=true from TT (by omega)]at HV;have h4n:¬p.high < p.low:=by omega
     by_cases h5:65535 < p.high
     ·have HX:Hid (ans=false):=by
        unfold Hid;rw[HV.out,show decide (p.high≤65535)=false from TR (by omega)];simp
      have h5':65535 < p.high:=by omega
      go_enter Tryz.func34,Tryz.ntmps34
      go_wp2_with fail
      go_ret;exact⟨aB HX.out.symm,GA.out⟩
     ·rw[show decide (p.high≤65535)=true from TT (by omega)]at HV;have h5n:¬65535 < p.high:=by omega
      cases bm with
      | false=>
       have HX:Hid (ans=false):=by unfold Hid;rw[HV.out];simp
       go_enter Tryz.func34,Tryz.ntmps34
       go_wp2_with (go_at_call 40;refine(HM.out _).mono ?_;rintro e w1 ⟨rfl,rfl⟩)
       go_ret;exact⟨aB HX.out.symm,GA.out⟩
      | true=>
       cases bf with
       | false=>
        have HX:Hid (ans=false):=by unfold Hid;rw[HV.out];simp
        go_enter Tryz.func34,Tryz.ntmps34
        go_wp2_with fail
        refine(HM.out _).mono ?_;rintro e w1 ⟨rfl,rfl⟩;go_wp2_with fail
        refine(HF.out _).mono ?_;rintro e w1 ⟨rfl,rfl⟩;go_wp2_with fail
        go_ret;exact⟨aB HX.out.symm,GA.out⟩
       | true=>
        go_enter Tryz.func34,Tryz.ntmps34
        go_wp2_with fail
        refine(HM.out _).mono ?_;rintro e w1 ⟨rfl,rfl⟩;go_wp2_with fail
        refine(HF.out _).mono ?_;rintro e w1 ⟨rfl,rfl⟩;go_wp2_with fail
        refine(HL.out _).mono ?_;rintro e w1 ⟨rfl,q1⟩;have G1:Hid _:=GA.out.trans (q1.mono GA.out.size);have K1:=H0.out.kept (by simp) q1;have k0:=K1.cell (j:=0) rfl;have KB:Hid (w.heap.size < w1.heap.size):=K1.lt (by simp);have HK1:Hid _:=K1;clear q1 K1 H0 GA HM HF HL
        cases bl with
        | false=>
         have HX:Hid (ans=false):=by unfold Hid;rw[HV.out];simp
         go_wp2_with fail
         go_ret;exact⟨aB HX.out.symm,G1.out⟩
        | true=>
         have HU:Hid (ans=jT eV p.VA p.VA.length):=by unfold Hid;rw[HV.out];simp
         clear HV;go_wp2_with fail
         go_loopw [3] (fun iv wr=>∃i:Nat,i≤p.VA.length∧iv=iV i∧jT eV p.VA i=true∧wr.cell? ⟨w.heap.size,0,none⟩=some (.slice a p.VA.length cap)∧Below w.heap.size w wr) (fun iv _=>p.VA.length-(intOf iv).toNat)
         case atStart=>exact⟨0,UR _,rfl,rfl,k0,G1.out⟩
         case round=>
          obtain⟨i,hi,rfl,hn,hk,hbel⟩:=hrel;have HN:Hid (jT eV p.VA i=true):=hn;have HB:Hid (Below w.heap.size w wr):=hbel;have HK:Hid (wr.cell? ⟨w.heap.size,0,none⟩=some (.slice a p.VA.length cap)):=hk;clear hn hbel k0;by_cases hlt:i < p.VA.length
          ·obtain⟨b,off,rfl,hb,hat⟩:=HR.out.at hlt;have HA:=(hat.below hb HB.out) i hlt;have HST:Hid _:=lS (f:=eV) hlt;have hsi:=HZ.out p.VA[i] (TY hlt);have HATF:Hid (eV (p.VA.take i) p.VA[i]=false→jT eV p.VA p.VA.length=false):=rV hlt;obtain⟨s,hs⟩: ∃s,s=p.VA[i]:=⟨_,rfl⟩;rw[←hs]at HA HST HATF hsi;have c0:wr.cell? ⟨b,off+i,none⟩=some (.string s):=by have:=HA 0 _ rfl;simpa using this
           have C0:Hid (wr.cell? ⟨b,off+i,none⟩=some (.string s)):=c0;have hbw:Hid (b < wr.heap.size):=UH wr _ c0;have hwb:Hid (w.heap.size < wr.heap.size):=UH wr _ hk;have HIN:Hid (∀W,Below wr.heap.size wr W→Cb 68 #[.slice (some ⟨b,off,none⟩) i cap,.string s] W (.bool (nL (p.VA.take i) s))):=fun W hW=>by
            have:=EE (p.VA.take i) s (some ⟨b,off,none⟩) cap W (by simp;omega) (((HR.out.take i).below HB.out).below hW);rw[List.length_take_of_le (by omega)]at this;exact this
           have hic:(i:Int)≤(cap:Int):=by omega
           have hlt':(i:Int) < (p.VA.length:Int):=by omega
           clear hat HA hs c0 hun;by_cases h4:s.size=4
           ·have hd:((s.size:Int) != 4)=false:=by rw[h4];rfl
            have hd2:decide ((s.size:Int)=4)=true:=by rw[h4];rfl
            generalize hin:nL (p.VA.take i) s=bi at *;go_upto_region 6 with fail
            go_cut [74] (fun v wx=>v=.bool bi∧Below wr.heap.size wr wx)
            case first=>
             rename_i J K2 hJ hK2;refine bH [56,57,58,59,60,61,62,63,64,65,66,67,68,69,70,71,72,73,74] (by kernel_rfl) (by kernel_rfl) ?_;iterate 19 ((first|apply cW.u rfl|apply cW.g rfl rfl rfl rfl rfl (by simp));(·intro K' a wy ho hd hb hK;simp[aS,aF,aD,Region.binds]at ho hd;have kk0:=((iI ((Below.refl _ wr).drew.trans hb)).1 _ _ hwb.out).trans HK.out;have kk1:=((iI ((Below.refl _ wr).drew.trans hb)).1 _ _ hbw.out).trans C0.out;go_simp;first|((try go_bits);exact hK _ _ rfl bQ)|(refine(HIN.out wy ((Below.refl _ wr).drew.trans hb)).mono ?_;rintro e wz ⟨rfl,hz⟩;exact hK _ _ rfl hz));dsimp only[nA,cA])
             intro X wz hR hz;simp only[UB,UC,eW,aF]at hR;simp only[aE,hR];clear hR;go_simp;refine hK2 _ _ (hJ _ _ ?_);(repeat apply Exists.intro)
             refine⟨⟨rfl,(Below.refl _ wr).drew.trans hz⟩,rfl⟩
            case rest=>
             obtain⟨rfl,hb6⟩:=hcut;have HB2:Hid _:=HB.out.trans (hb6.mono HB.out.size);have hk2:wc.cell? ⟨w.heap.size,0,none⟩=some (.slice (some ⟨b,off,none⟩) p.VA.length cap):=((iI hb6).1 _ _ hwb.out).trans HK.out;have HK2:Hid _:=hk2;clear hk2 hb6 hk
             cases bi with
             | true=>
              have HX:Hid (ans=false):=by
               unfold Hid;rw[HU.out];refine HATF.out ?_;unfold eV;rw[hin];simp
              go_wp2_with fail
              go_ret;exact⟨aB HX.out.symm,HB2.out⟩
             | false=>
              have HN2:Hid (jT eV p.VA (i+1)=true):=by
               unfold Hid;rw[HST.out,HN.out];unfold eV;rw[hin,h4];rfl
              go_wp2_with fail
              go_roundw
              case rel=>exact⟨i+1,by omega,by go_num,HN2.out,HK2.out,HB2.out⟩
              case measure=>simp[intOf];omega
           ·have hd:((s.size:Int) != 4)=true:=by simp;omega
            have hd2:decide ((s.size:Int)=4)=false:=by simp;omega
            have HX:Hid (ans=false):=by
             unfold Hid;rw[HU.out];refine HATF.out ?_;unfold eV;rw[TR h4];rfl
            go_upto_region 6 with fail
            go_cut [74] (fun v wx=>v=.bool true∧Below wr.heap.size wr wx)
            case first=>
             rename_i J K2 hJ hK2;refine bH [56,57,58,59,60,61,62,63,64,65,66,67,68,69,70,71,72,73,74] (by kernel_rfl) (by kernel_rfl) ?_;iterate 19 ((first|(refine cW.n rfl rfl rfl rfl rfl (by simp) ?_)|(apply cW.u rfl;(·intro K' a wy ho hd hb hK;simp[aS,aF,aD,Region.binds]at ho hd;have kk0:=((iI ((Below.refl _ wr).drew.trans hb)).1 _ _ hwb.out).trans HK.out;have kk1:=((iI ((Below.refl _ wr).drew.trans hb)).1 _ _ hbw.out).trans C0.out;go_simp;(try go_bits);exact hK _ _ rfl bQ)));dsimp only[nA,cA])
             intro X wz hR hz;simp only[UB,UC,eW,aF]at hR;simp only[aE,hR];clear hR;go_simp;refine hK2 _ _ (hJ _ _ ?_);(repeat apply Exists.intro)
             refine⟨⟨rfl,(Below.refl _ wr).drew.trans hz⟩,rfl⟩
            case rest=>
             obtain⟨rfl,hb6⟩:=hcut;have HB2:Hid _:=HB.out.trans (hb6.mono HB.out.size);clear hb6 hk;go_wp2_with fail
             go_ret;exact⟨aB HX.out.symm,HB2.out⟩
          ·have hie:i=p.VA.length:=by omega
           have HX:Hid (ans=true):=by unfold Hid;rw[HU.out,←hie];exact HN.out
           go_wp2_with fail
           go_ret;exact⟨aB HX.out.symm,HB.out⟩
open Go.WideShapes
theorem Tryz.infoBd:(Tryz.prog.info? 48).map (fun i=>(i.zero,i.size,i.bytes))=some (some (.agg (iW 0 ⟨#[]⟩ 0 ⟨#[]⟩ 0).toArray),5,56):=by kernel_rfl
def RI(k:Nat):List Value:=(iW ((k:Nat):Int) (IX (k+1)) ((k+2:Nat):Int) (IX (k+3)) ((k+4:Nat):Int))
theorem gJ{a b:List UInt8}(h:a=b):(a==b)=true:=by simp[h]
theorem oF{a b:List UInt8}(h:¬a=b):(a==b)=false:=by simp[h]
theorem EA(p:Pl)(xs:List Bd)(a:OA)(cap:Nat)(b:OA)(capb:Nat)(w:World)(hl:p.VA.length≤1048576)(hlx:xs.length≤1048576)(hr:bP bX 1 w a p.VA)(hx:bP eG 5 w b xs) :
  Cb 35 #[jQ a cap p,.slice b xs.length capb] w (.bool (jT (cG p) xs xs.length)):=by
 have GA:Hid (Below w.heap.size w (w.alloc (.cells (bM a cap p).toArray 27))):=bR.alloc lR _;have H0:Hid (aA (w.alloc (.cells (bM a cap p).toArray 27)) w.heap.size (bM a cap p)):=aA.new w (bM a cap p) 27;have HV:Hid (jT (cG p) xs xs.length=jT (cG p) xs xs.length):=rfl;obtain⟨ans,hans⟩: ∃x,x=jT (cG p) xs xs.length:=⟨_,rfl⟩;rw[←hans];have HA:Hid (ans=jT (cG p) xs xs.length):=hans;have HR:Hid (bP bX 1 w a p.VA):=hr;have HX:Hid (bP eG 5 w b xs):=hx;clear hr hx hans HV;unfold jQ;go_enter Tryz.func35,Tryz.ntmps35
 go_wp2_with fail
 go_loopw [5] (fun iv wr=>∃i:Nat,i≤xs.length∧iv=iV i∧jT (cG p) xs i=true∧aA wr w.heap.size (bM a cap p)∧Below w.heap.size w wr) (fun iv _=>xs.length-(intOf iv).toNat)
 case atStart=>exact⟨0,UR _,rfl,rfl,H0.out,GA.out⟩
 case round=>
  obtain⟨i,hi,rfl,hn,hk,hbel⟩:=hrel;have HN:Hid (jT (cG p) xs i=true):=hn;have HB:Hid (Below w.heap.size w wr):=hbel;have HK:Hid (aA wr w.heap.size (bM a cap p)):=hk;have hwb:w.heap.size < wr.heap.size:=hk.lt (by simp);clear hn hbel hk H0 GA;generalize wr=w0 at *;by_cases hlt:i < xs.length
  ·obtain⟨bb,off,rfl,hb,hat⟩:=HX.out.at hlt;have hA:=(hat.below hb HB.out) i hlt;have HAT:Hid (∀k,(hk:k < xs.length)→∀W,Below w.heap.size w W→W.rangeAt bb (off+k*5) (eG xs[k])):=fun k hk W hW=>(hat.below hb hW) k hk
   have HST:Hid _:=lS (f:=cG p) hlt;have HATF:Hid (cG p (xs.take i) xs[i]=false→jT (cG p) xs xs.length=false):=rV hlt;obtain⟨q,hq⟩: ∃q,q=xs[i]:=⟨_,rfl⟩;rw[←hq]at hA HST HATF;obtain⟨c0,c1,c2,c3,c4⟩:=NS hA;have HOV:Hid (cG p (xs.take i) q=(eP q.UU&&cI q.inn&&jS q.UW&&nL p.VA q.out&&aM q.UX p.low p.high&&!(xs.take i).any fun c=>eK c q)):=rfl;have B4:Hid (Below w0.heap.size w0 (w0.alloc (.cells (dH q).toArray 48))):=bR.alloc lR _;have Y4:Hid (aA (w0.alloc (.cells (dH q).toArray 48)) w0.heap.size (eG q)):=aA.new w0 (eG q) 48;clear hat hA hq;go_upto_region 5 with fail
   have H5:Hid _:=HB.out.trans (B4.out.mono HB.out.size);have K5:Hid _:=HK.out.kept (by simp) B4.out;have hY:w0.heap.size < (w0.alloc (.cells (dH q).toArray 48)).heap.size:=by simp
   generalize (w0.alloc (.cells (dH q).toArray 48))=W4 at *;have HP:Hid (∀W,Cw 69 #[iV q.UU] W (.bool (eP q.UU))):=fun W=>sU _ W
   have HAD:Hid (∀W,Cw 65 #[.string q.inn] W (.bool (cI q.inn))):=fun W=>iZ _ W
   have HWD:Hid (∀W,Cw 39 #[iV q.UW] W (.bool (jS q.UW))):=fun W=>gH _ W
   have HIN:Hid (∀W,Below w.heap.size w W→Cb 68 #[.slice a p.VA.length cap,.string q.out] W (.bool (nL p.VA q.out))):=fun W hW=>EE p.VA q.out a cap W hl (HR.out.below hW)
   have HIS:Hid (∀W,Cw 40 #[iV q.UX,iV p.low,iV p.high] W (.bool (aM q.UX p.low p.high))):=fun W=>fD _ _ _ W
   generalize eP q.UU=b1 at *;generalize cI q.inn=b2 at *;generalize jS q.UW=b3 at *;generalize nL p.VA q.out=b4 at *;generalize aM q.UX p.low p.high=b5 at *;obtain⟨y0,y1,y2,y3⟩:=Y4.out.c4;have z0:=K5.out.cell (j:=0) rfl;have hun:undef=Value.tuple #[]:=rfl;clear c0 c1 c2 c3 c4
   cases b1 with
   | false=>
    have HXF:Hid (ans=false):=by unfold Hid;rw[HA.out];refine HATF.out ?_;rw[HOV.out];simp
    go_wp2_with fail
    refine(HP.out _).mono ?_;rintro e w1 ⟨rfl,rfl⟩;go_wp2_with fail
    go_ret;exact⟨aB HXF.out.symm,H5.out⟩
   | true=>
    go_wp2_with fail
    refine(HP.out _).mono ?_;rintro e w1 ⟨rfl,rfl⟩
    cases b2 with
    | false=>
     have HXF:Hid (ans=false):=by unfold Hid;rw[HA.out];refine HATF.out ?_;rw[HOV.out];simp
     go_wp2_with fail
     refine(HAD.out _).mono ?_;rintro e w1 ⟨rfl,rfl⟩;go_wp2_with fail
     go_ret;exact⟨aB HXF.out.symm,H5.out⟩
    | true=>
     go_wp2_with fail
     refine(HAD.out _).mono ?_;rintro e w1 ⟨rfl,rfl⟩
     cases b3 with
     | false=>
      have HXF:Hid (ans=false):=by unfold Hid;rw[HA.out];refine HATF.out ?_;rw[HOV.out];simp
      go_wp2_with fail
      refine(HWD.out _).mono ?_;rintro e w1 ⟨rfl,rfl⟩;go_wp2_with fail
      go_ret;exact⟨aB HXF.out.symm,H5.out⟩
     | true=>
      go_wp2_with fail
      refine(HWD.out _).mono ?_;rintro e w1 ⟨rfl,rfl⟩;go_wp2_with fail
      refine(HIN.out _ H5.out).mono ?_;rintro e w2 ⟨rfl,q2⟩;have H6:Hid _:=H5.out.trans (q2.mono H5.out.size);have K6:Hid _:=K5.out.kept (by simp) q2;have Y6:Hid _:=Y4.out.kept (by simp[eG]) q2;have y4:=Y6.out.cell (j:=4) rfl;obtain⟨-,z1,z2⟩:=K6.out.c3;have hY2:w0.heap.size < w2.heap.size:=by have:=q2.size;omega
      clear q2 y0 y1 y2 y3 z0 H5 K5 Y4 B4
      cases b4 with
      | false=>
       have HXF:Hid (ans=false):=by unfold Hid;rw[HA.out];refine HATF.out ?_;rw[HOV.out];simp
       go_wp2_with fail
       go_ret;exact⟨aB HXF.out.symm,H6.out⟩
      | true=>
       cases b5 with
       | false=>
        have HXF:Hid (ans=false):=by unfold Hid;rw[HA.out];refine HATF.out ?_;rw[HOV.out];simp
        go_wp2_with fail
        refine(HIS.out _).mono ?_;rintro e w1 ⟨rfl,rfl⟩;go_wp2_with fail
        go_ret;exact⟨aB HXF.out.symm,H6.out⟩
       | true=>
        go_wp2_with fail
        refine(HIS.out _).mono ?_;rintro e w1 ⟨rfl,rfl⟩;have HOV2:Hid (cG p (xs.take i) q=!(xs.take i).any fun c=>eK c q):=by unfold Hid;rw[HOV.out];simp
        clear y4 z1 z2 HOV HP HAD HWD HIN HIS;go_wp2_with fail
        go_loopw [7] (fun kv wr=>∃k:Nat,k≤i∧kv=iV k∧((xs.take k).any fun c=>eK c q)=false∧aA wr w.heap.size (bM a cap p)∧aA wr w0.heap.size (eG q)∧Below w.heap.size w wr) (fun kv _=>i-(intOf kv).toNat)
        case atStart=>exact⟨0,UR _,rfl,rfl,K6.out,Y6.out,H6.out⟩
        case round=>
         obtain⟨k,hk,rfl,hn,hK,hY,hbel⟩:=hrel;have HNk:Hid (((xs.take k).any fun c=>eK c q)=false):=hn;have HBk:Hid (Below w.heap.size w wr):=hbel;have HKk:Hid _:=hK;have HYk:Hid _:=hY;have hYl:w0.heap.size < wr.heap.size:=hY.lt (by simp[eG]);clear hn hbel hK hY K6 Y6 H6;by_cases hkl:k < i
         ·have hkx:k < xs.length:=by omega
          have hA:=HAT.out k hkx wr HBk.out;have HSTk:Hid _:=jW (fun c=>eK c q) xs k hkx;have HYES:Hid (eK xs[k] q=true→cG p (xs.take i) q=false):=fun h=>by
           rw[HOV2.out,tI (fun c=>eK c q) (xs.take i) k (by simp;omega) (by rw[List.getElem_take];exact h)];rfl
          obtain⟨c,hc⟩: ∃c,c=xs[k]:=⟨_,rfl⟩;rw[←hc]at hA HSTk HYES;obtain⟨c0,c1,c2,c3,c4⟩:=NS hA;have B5:Hid (Below wr.heap.size wr (wr.alloc (.cells (dH c).toArray 48))):=bR.alloc lR _;have Z5:Hid (aA (wr.alloc (.cells (dH c).toArray 48)) wr.heap.size (eG c)):=aA.new wr (eG c) 48;clear hA hc;go_upto_region 11 with fail
          have HB5:Hid _:=HBk.out.trans (B5.out.mono HBk.out.size);have HK5:Hid _:=HKk.out.kept (by simp) B5.out;have HY5:Hid _:=HYk.out.kept (by simp[eG]) B5.out;generalize (wr.alloc (.cells (dH c).toArray 48))=W5 at *;obtain⟨y0,y1,y2,y3,y4⟩:=HY5.out.c5;obtain⟨x0,x1,x2,x3,x4⟩:=Z5.out.c5;have HCV:Hid (eK c q=((decide (c.inn.toList=q.inn.toList)&&!decide (c.out.toList=q.out.toList))||(decide (c.UU=q.UU)&&((decide (c.inn.toList=q.inn.toList)&&decide (c.UW=q.UW))||(decide (c.out.toList=q.out.toList)&&decide (c.UX=q.UX)))))):=rfl;clear c0 c1 c2 c3 c4 B5 Z5 HBk HKk HYk;go_cut [108] (fun v wx=>v=.bool (eK c q)∧wx=W5)
          case first=>
           by_cases e1:c.inn.toList=q.inn.toList
           ·by_cases e2:c.out.toList=q.out.toList
            ·by_cases e3:c.UU=q.UU
             ·by_cases e4:c.UW=q.UW
              ·have HCW:Hid (eK c q=true):=by unfold Hid;rw[HCV.out];simp[e1,e2,e3,e4]
               have f1:=gJ e1;have f2:=gJ e2;go_wp2_with fail
               all_goals go_meet
               all_goals exact⟨by rw[HCW.out];try simp[e1,e2,e3,e4],rfl⟩
              ·by_cases e5:c.UX=q.UX
               ·have HCW:Hid (eK c q=true):=by unfold Hid;rw[HCV.out];simp[e1,e2,e3,e4,e5]
                have f1:=gJ e1;have f2:=gJ e2;go_wp2_with fail
                all_goals go_meet
                all_goals exact⟨by rw[HCW.out];try simp[e1,e2,e3,e4,e5],rfl⟩
               ·have HCW:Hid (eK c q=false):=by unfold Hid;rw[HCV.out];simp[e1,e2,e3,e4,e5]
                have f1:=gJ e1;have f2:=gJ e2;go_wp2_with fail
                all_goals go_meet
                all_goals exact⟨by rw[HCW.out];try simp[e1,e2,e3,e4,e5],rfl⟩
             ·have HCW:Hid (eK c q=false):=by unfold Hid;rw[HCV.out];simp[e1,e2,e3]
              have f1:=gJ e1;have f2:=gJ e2;go_wp2_with fail
              all_goals go_meet
              all_goals exact⟨by rw[HCW.out];try simp[e1,e2,e3],rfl⟩
            ·have HCW:Hid (eK c q=true):=by unfold Hid;rw[HCV.out];simp[e1,e2]
             have f1:=gJ e1;have f2:=oF e2;go_wp2_with fail
             all_goals go_meet
             all_goals exact⟨by rw[HCW.out];try simp[e1,e2],rfl⟩
           ·by_cases e3:c.UU=q.UU
            ·by_cases e2:c.out.toList=q.out.toList
             ·by_cases e5:c.UX=q.UX
              ·have HCW:Hid (eK c q=true):=by unfold Hid;rw[HCV.out];simp[e1,e3,e2,e5]
               have f1:=oF e1;have f2:=gJ e2;go_wp2_with fail
               all_goals go_meet
               all_goals exact⟨by rw[HCW.out];try simp[e1,e3,e2,e5],rfl⟩
              ·have HCW:Hid (eK c q=false):=by unfold Hid;rw[HCV.out];simp[e1,e3,e2,e5]
               have f1:=oF e1;have f2:=gJ e2;go_wp2_with fail
               all_goals go_meet
               all_goals exact⟨by rw[HCW.out];try simp[e1,e3,e2,e5],rfl⟩
             ·have HCW:Hid (eK c q=false):=by unfold Hid;rw[HCV.out];simp[e1,e3,e2]
              have f1:=oF e1;have f2:=oF e2;go_wp2_with fail
              all_goals go_meet
              all_goals exact⟨by rw[HCW.out];try simp[e1,e3,e2],rfl⟩
            ·have HCW:Hid (eK c q=false):=by unfold Hid;rw[HCV.out];simp[e1,e3]
             have f1:=oF e1;go_wp2_with fail
             all_goals go_meet
             all_goals exact⟨by rw[HCW.out];try simp[e1,e3],rfl⟩
          case rest=>
           obtain⟨rfl,rfl⟩:=hcut
           cases hcl:eK c q with
           | true=>
            have HXF:Hid (ans=false):=by unfold Hid;rw[HA.out];exact HATF.out (HYES.out hcl)
            clear hcl;go_wp2_with fail
            go_ret;exact⟨aB HXF.out.symm,HB5.out⟩
           | false=>
            have HN2:Hid (((xs.take (k+1)).any fun c=>eK c q)=false):=by unfold Hid;rw[HSTk.out,HNk.out,hcl];rfl
            clear hcl;go_wp2_with fail
            go_roundw
            case rel=>exact⟨k+1,by omega,by go_num,HN2.out,HK5.out,HY5.out,HB5.out⟩
            case measure=>simp[intOf];omega
         ·have hke:k=i:=by omega
          have HN2:Hid (jT (cG p) xs (i+1)=true):=by
           unfold Hid;rw[HST.out,HN.out,HOV2.out,←hke,HNk.out];rfl
          go_wp2_with fail
          go_roundw
          case rel=>
           (repeat apply Exists.intro)
           exact⟨⟨i+1,by omega,by go_num,HN2.out,HKk.out,HBk.out⟩,rfl⟩
          case measure=>simp[intOf];omega
  ·have hie:i=xs.length:=by omega
   have HXT:Hid (ans=true):=by unfold Hid;rw[HA.out,←hie];exact HN.out
   go_wp2_with fail
   go_ret;exact⟨aB HXT.out.symm,HB.out⟩
theorem Tryz.infoSs:(Tryz.prog.info? 59).map (fun i=>(i.zero,i.size,i.bytes))=some (some (.agg (rZ 0 ⟨#[]⟩ 0 ⟨#[]⟩ 0 0 0).toArray),7,72):=by kernel_rfl
def NC(k:Nat):List Value:=(rZ ((k:Nat):Int) (IX (k+1)) ((k+2:Nat):Int) (IX (k+3)) ((k+4:Nat):Int) ((k+5:Nat):Int) ((k+6:Nat):Int))
structure dI(w:World)(a b:OA)(x:Bb):Prop where
 bd:bP eG 5 w a x.VC
 ss:bP fY 7 w b x.UZ
theorem dI.below{w W:World}{a b:OA}{x:Bb}(h:dI w a b x)(hB:Below w.heap.size w W):dI W a b x:=⟨h.bd.below hB,h.ss.below hB⟩
structure dD(base:Nat)(w:World)(a b:OA)(x:Bb):Prop where
 bd:eY eG 5 base w a x.VC
 ss:eY fY 7 base w b x.UZ
 ne:∀g h,a=some ⟨g,0,none⟩→b=some ⟨h,0,none⟩→x.VC≠[]→x.UZ≠[]→g≠h
theorem dD.is{base:Nat}{w:World}{a b:OA}{x:Bb}(h:dD base w a b x):dI w a b x:=⟨h.bd.is,h.ss.is⟩
theorem dD.kept{base:Nat}{w W:World}{a b:OA}{x:Bb}(h:dD base w a b x)(hB:Below w.heap.size w W):dD base W a b x:=⟨h.bd.kept hB,h.ss.kept hB,h.ne⟩
theorem ID(x:Bb)(a b:OA)(ca cb:Nat)(w:World)(hl1:x.VC.length≤1048576)(hl2:x.UZ.length≤1048576)(hr:dI w a b x) :
  Cb 36 #[iQ a b ca cb x] w (.bool (jT (fV x.VC) x.UZ x.UZ.length)):=by
 have GA:Hid (Below w.heap.size w (w.alloc (.cells (bF a ca b cb x).toArray 31))):=bR.alloc lR _;have H0:Hid (aA (w.alloc (.cells (bF a ca b cb x).toArray 31)) w.heap.size (bF a ca b cb x)):=aA.new w (bF a ca b cb x) 31;obtain⟨ans,hans⟩: ∃y,y=jT (fV x.VC) x.UZ x.UZ.length:=⟨_,rfl⟩;rw[←hans];have HA:Hid (ans=jT (fV x.VC) x.UZ x.UZ.length):=hans;have HR:Hid (dI w a b x):=hr;clear hr hans;unfold iQ;go_enter Tryz.func36,Tryz.ntmps36
 go_wp2_with fail
 go_loopw [3] (fun iv wr=>∃i:Nat,i≤x.UZ.length∧iv=iV i∧jT (fV x.VC) x.UZ i=true∧aA wr w.heap.size (bF a ca b cb x)∧Below w.heap.size w wr) (fun iv _=>x.UZ.length-(intOf iv).toNat)
 case atStart=>exact⟨0,UR _,rfl,rfl,H0.out,GA.out⟩
 case round=>
  obtain⟨i,hi,rfl,hn,hk,hbel⟩:=hrel;have HN:Hid (jT (fV x.VC) x.UZ i=true):=hn;have HB:Hid (Below w.heap.size w wr):=hbel;have HK:Hid (aA wr w.heap.size (bF a ca b cb x)):=hk;have hwb:w.heap.size < wr.heap.size:=hk.lt (by simp);have z1:=hk.cell (j:=1) rfl;clear hn hbel hk H0 GA;generalize wr=w0 at *;by_cases hlt:i < x.UZ.length
  ·obtain⟨bb,off,rfl,hb,hat⟩:=HR.out.ss.at hlt;have hA:=(hat.below hb HB.out) i hlt;have HAT:Hid (∀k,(hk:k < x.UZ.length)→∀W,Below w.heap.size w W→W.rangeAt bb (off+k*7) (fY x.UZ[k])):=fun k hk W hW=>(hat.below hb hW) k hk
   have HST:Hid _:=lS (f:=fV x.VC) hlt;have HATF:Hid (fV x.VC (x.UZ.take i) x.UZ[i]=false→jT (fV x.VC) x.UZ x.UZ.length=false):=rV hlt;obtain⟨q,hq⟩: ∃q,q=x.UZ[i]:=⟨_,rfl⟩;rw[←hq]at hA HST HATF;obtain⟨c0,c1,c2,c3,c4,c5,c6⟩:=MX hA;have HOV:Hid (fV x.VC (x.UZ.take i) q=(decide (q.peer.size=4)&&jS q.UV&&aM q.state 1 7&&(decide (q.UU=6)||decide (q.state=3))&&aM q.untl 0 2000000000&&decide (0≤bG (cD q.UU q.inn q.UW) x.VC)&&!(x.UZ.take i).any fun t=>gS q t)):=rfl;have B4:Hid (Below w0.heap.size w0 (w0.alloc (.cells (iB q).toArray 59))):=bR.alloc lR _;have Y4:Hid (aA (w0.alloc (.cells (iB q).toArray 59)) w0.heap.size (fY q)):=aA.new w0 (fY q) 59;clear hat hA hq;go_upto_region 5 with fail
   have H5:Hid _:=HB.out.trans (B4.out.mono HB.out.size);have K5:Hid _:=HK.out.kept (by simp) B4.out;have hY:w0.heap.size < (w0.alloc (.cells (iB q).toArray 59)).heap.size:=by simp
   generalize (w0.alloc (.cells (iB q).toArray 59))=W4 at *;have HWD:Hid (∀W,Cw 39 #[iV q.UV] W (.bool (jS q.UV))):=fun W=>gH _ W
   have HS1:Hid (∀W,Cw 40 #[iV q.state,iV 1,iV 7] W (.bool (aM q.state 1 7))):=fun W=>fD _ _ _ W
   have HS2:Hid (∀W,Cw 40 #[iV q.untl,iV 0,iV 2000000000] W (.bool (aM q.untl 0 2000000000))):=fun W=>fD _ _ _ W
   have HBI:Hid (∀W,Below w.heap.size w W→Cb 33 #[.agg (bF a ca (some ⟨bb,off,none⟩) cb x).toArray,iV q.UU,.string q.inn,iV q.UW] W (iV (bG (cD q.UU q.inn q.UW) x.VC))):=fun W hW=>mU x.VC q.UU q.inn q.UW a ca _ W hl1 (HR.out.bd.below hW)
   generalize jS q.UV=b2 at *;generalize aM q.state 1 7=b3 at *;generalize aM q.untl 0 2000000000=b5 at *;generalize bG (cD q.UU q.inn q.UW) x.VC=fi at *;obtain⟨y0,y1,y2,y3,y4,y5,y6⟩:=Y4.out.c7;obtain⟨z0,z1⟩:=K5.out.c2;have hun:undef=Value.tuple #[]:=rfl;clear c0 c1 c2 c3 c4 c5 c6;obtain⟨r5,hr5⟩: ∃r,r=(decide (q.peer.size=4)&&b2&&b3&&(decide (q.UU=6)||decide (q.state=3))&&b5):=⟨_,rfl⟩;have HRV:Hid (r5=_):=hr5;rw[←hr5]at HOV;clear hr5;go_cut [50] (fun v wx=>v=.bool (!r5)∧wx=W4)
   case first=>
    by_cases h4:q.peer.size=4
    ·have h4i:(q.peer.size:Int)=4:=by omega
     have d1:((q.peer.size:Int) != 4)=false:=by simp[h4i]
     cases b2 with
     | false=>
      go_wp2_with fail
      refine(HWD.out _).mono ?_;rintro e w1 ⟨rfl,rfl⟩;go_wp2_with fail
      go_meet;exact⟨by rw[HRV.out];simp,rfl⟩
     | true=>
      go_wp2_with fail
      refine(HWD.out _).mono ?_;rintro e w1 ⟨rfl,rfl⟩
      cases b3 with
      | false=>
       go_wp2_with fail
       refine(HS1.out _).mono ?_;rintro e w1 ⟨rfl,rfl⟩;go_wp2_with fail
       go_meet;exact⟨by rw[HRV.out];simp,rfl⟩
      | true=>
       go_wp2_with fail
       refine(HS1.out _).mono ?_;rintro e w1 ⟨rfl,rfl⟩;by_cases h6:q.UU=6<;>by_cases h3:q.state=3
       all_goals first | (have hno:¬q.UU=6∧¬q.state=3:=⟨h6,h3⟩;go_wp2_with fail;go_meet;exact⟨by rw[HRV.out];simp[h6,h3],rfl⟩) | skip
       all_goals
        cases b5 with
        | false=>
         go_wp2_with fail
         refine(HS2.out _).mono ?_;rintro e w1 ⟨rfl,rfl⟩;go_wp2_with fail
         go_meet;exact⟨by rw[HRV.out];simp[h6,h3],rfl⟩
        | true=>
         go_wp2_with fail
         refine(HS2.out _).mono ?_;rintro e w1 ⟨rfl,rfl⟩;go_wp2_with fail
         go_meet;exact⟨by rw[HRV.out];simp[h6,h3,h4],rfl⟩
    ·have h4i:¬(q.peer.size:Int)=4:=by omega
     have d1:((q.peer.size:Int) != 4)=true:=by simp[h4i]
     go_wp2_with fail
     go_meet;exact⟨by rw[HRV.out];simp[h4],rfl⟩
   case rest=>
   obtain⟨rfl,rfl⟩:=hcut
   cases r5 with
   | false=>
    have HXF:Hid (ans=false):=by unfold Hid;rw[HA.out];refine HATF.out ?_;rw[HOV.out];rfl
    go_wp2_with fail
    go_ret;exact⟨aB HXF.out.symm,H5.out⟩
   | true=>
    go_wp2_with fail
    refine(HBI.out _ H5.out).mono ?_;rintro e w2 ⟨rfl,q2⟩;have H6:Hid _:=H5.out.trans (q2.mono H5.out.size);have K6:Hid _:=K5.out.kept (by simp) q2;have Y6:Hid _:=Y4.out.kept (by simp[fY]) q2;have hY2:w0.heap.size < w2.heap.size:=by have:=q2.size;omega
    clear q2 z0 z1 H5 K5 Y4 B4 y0 y1 y2 y3 y4 y5 y6;by_cases hfi:fi < 0
    ·have HXF:Hid (ans=false):=by unfold Hid;rw[HA.out];refine HATF.out ?_;rw[HOV.out,TR (show ¬0≤fi by omega)];rfl
     go_wp2_with fail
     go_ret;exact⟨aB HXF.out.symm,H6.out⟩
    ·rw[TT (show 0≤fi by omega)]at HOV;have HOV2:Hid (fV x.VC (x.UZ.take i) q=!(x.UZ.take i).any fun t=>gS q t):=by unfold Hid;rw[HOV.out];rfl
     clear HOV HWD HS1 HS2 HBI HRV;go_wp2_with fail
     go_loopw [5] (fun kv wr=>∃k:Nat,k≤i∧kv=iV k∧((x.UZ.take k).any fun t=>gS q t)=false∧aA wr w.heap.size (bF a ca (some ⟨bb,off,none⟩) cb x)∧aA wr w0.heap.size (fY q)∧Below w.heap.size w wr) (fun kv _=>i-(intOf kv).toNat)
     case atStart=>exact⟨0,UR _,rfl,rfl,K6.out,Y6.out,H6.out⟩
     case round=>
      obtain⟨k,hk,rfl,hn,hK,hY,hbel⟩:=hrel;have HNk:Hid (((x.UZ.take k).any fun t=>gS q t)=false):=hn;have HBk:Hid (Below w.heap.size w wr):=hbel;have HKk:Hid _:=hK;have HYk:Hid _:=hY;have hYl:w0.heap.size < wr.heap.size:=hY.lt (by simp[fY]);have z1:=hK.cell (j:=1) rfl;clear hn hbel hK hY K6 Y6 H6;by_cases hkl:k < i
      ·have hkx:k < x.UZ.length:=by omega
       have hkx':(k:Int) < (x.UZ.length:Int):=by omega
       have hA:=HAT.out k hkx wr HBk.out;have HSTk:Hid _:=jW (fun t=>gS q t) x.UZ k hkx;have HYES:Hid (gS q x.UZ[k]=true→fV x.VC (x.UZ.take i) q=false):=fun h=>by
        rw[HOV2.out,tI (fun t=>gS q t) (x.UZ.take i) k (by simp;omega) (by rw[List.getElem_take];exact h)];rfl
       obtain⟨c,hc⟩: ∃c,c=x.UZ[k]:=⟨_,rfl⟩;rw[←hc]at hA HSTk HYES;obtain⟨c0,c1,c2,c3,c4,c5,c6⟩:=MX hA;have B5:Hid (Below wr.heap.size wr (wr.alloc (.cells (iB c).toArray 59))):=bR.alloc lR _;have Z5:Hid (aA (wr.alloc (.cells (iB c).toArray 59)) wr.heap.size (fY c)):=aA.new wr (fY c) 59;clear hA hc;go_upto_region 13 with fail
       have HB5:Hid _:=HBk.out.trans (B5.out.mono HBk.out.size);have HK5:Hid _:=HKk.out.kept (by simp) B5.out;have HY5:Hid _:=HYk.out.kept (by simp[fY]) B5.out;generalize (wr.alloc (.cells (iB c).toArray 59))=W5 at *;obtain⟨y0,y1,y2,y3,y4,y5,y6⟩:=HY5.out.c7;obtain⟨x0,x1,x2,x3,x4,x5,x6⟩:=Z5.out.c7;have HCV:Hid (gS q c=(decide (q.UU=c.UU)&&decide (q.inn.toList=c.inn.toList)&&decide (q.UW=c.UW)&&decide (q.peer.toList=c.peer.toList)&&decide (q.UV=c.UV))):=rfl;clear c0 c1 c2 c3 c4 c5 c6 B5 Z5 HBk HKk HYk z1;go_cut [102] (fun v wx=>v=.bool (gS q c)∧wx=W5)
       case first=>
        by_cases e1:q.UU=c.UU
        ·by_cases e2:q.inn.toList=c.inn.toList
         ·by_cases e3:q.UW=c.UW
          ·by_cases e4:q.peer.toList=c.peer.toList
           ·by_cases e5:q.UV=c.UV
            ·have HCW:Hid (gS q c=true):=by unfold Hid;rw[HCV.out];simp[e1,e2,e3,e4,e5]
             have f2:=gJ e2;have f4:=gJ e4;go_wp2_with fail
             all_goals go_meet
             all_goals exact⟨by rw[HCW.out];try simp[e1,e2,e3,e4,e5],rfl⟩
            ·have HCW:Hid (gS q c=false):=by unfold Hid;rw[HCV.out];simp[e1,e2,e3,e4,e5]
             have f2:=gJ e2;have f4:=gJ e4;have f5:(q.UV==c.UV)=false:=by simp[e5]
             go_wp2_with fail
             all_goals go_meet
             all_goals exact⟨by rw[HCW.out];try simp[e1,e2,e3,e4,e5],rfl⟩
           ·have HCW:Hid (gS q c=false):=by unfold Hid;rw[HCV.out];simp[e1,e2,e3,e4]
            have f2:=gJ e2;have f4:=oF e4;go_wp2_with fail
            all_goals go_meet
            all_goals exact⟨by rw[HCW.out];try simp[e1,e2,e3,e4],rfl⟩
          ·have HCW:Hid (gS q c=false):=by unfold Hid;rw[HCV.out];simp[e1,e2,e3]
           have f2:=gJ e2;have f3:(q.UW==c.UW)=false:=by simp[e3]
           go_wp2_with fail
           all_goals go_meet
           all_goals exact⟨by rw[HCW.out];try simp[e1,e2,e3],rfl⟩
         ·have HCW:Hid (gS q c=false):=by unfold Hid;rw[HCV.out];simp[e1,e2]
          have f2:=oF e2;go_wp2_with fail
          all_goals go_meet
          all_goals exact⟨by rw[HCW.out];try simp[e1,e2],rfl⟩
        ·have HCW:Hid (gS q c=false):=by unfold Hid;rw[HCV.out];simp[e1]
         have f1:(q.UU==c.UU)=false:=by simp[e1]
         go_wp2_with fail
         all_goals go_meet
         all_goals exact⟨by rw[HCW.out];try simp[e1],rfl⟩
       case rest=>
        obtain⟨rfl,rfl⟩:=hcut
        cases hcl:gS q c with
        | true=>
         have HXF:Hid (ans=false):=by unfold Hid;rw[HA.out];exact HATF.out (HYES.out hcl)
         clear hcl;go_wp2_with fail
         go_ret;exact⟨aB HXF.out.symm,HB5.out⟩
        | false=>
         have HN2:Hid (((x.UZ.take (k+1)).any fun t=>gS q t)=false):=by unfold Hid;rw[HSTk.out,HNk.out,hcl];rfl
         clear hcl;go_wp2_with fail
         go_roundw
         case rel=>exact⟨k+1,by omega,by go_num,HN2.out,HK5.out,HY5.out,HB5.out⟩
         case measure=>simp[intOf];omega
      ·have hke:k=i:=by omega
       have HN2:Hid (jT (fV x.VC) x.UZ (i+1)=true):=by
        unfold Hid;rw[HST.out,HN.out,HOV2.out,←hke,HNk.out];rfl
       go_wp2_with fail
       go_roundw
       case rel=>exact⟨i+1,by omega,by go_num,HN2.out,HKk.out,HBk.out⟩
       case measure=>simp[intOf];omega
  ·have hie:i=x.UZ.length:=by omega
   have HXT:Hid (ans=true):=by unfold Hid;rw[HA.out,←hie];exact HN.out
   go_wp2_with fail
   go_ret;exact⟨aB HXT.out.symm,HB.out⟩
theorem LN{α:Type}(f:α→Bool)(xs:List α)(i:Nat)(h:i < xs.length):(xs.take (i+1)).all f=((xs.take i).all f&&f xs[i]):=by
 rw[List.take_succ_eq_append_getElem h,List.all_append];simp
theorem QG{α:Type}(f:α→Bool)(xs:List α)(i:Nat)(h:i < xs.length)(hf:f xs[i]=false):xs.all f=false:=by
 rw[List.all_eq_false];exact⟨_,TY h,by simp[hf]⟩
theorem pZ(p:Pl)(x:Bb)(pa:OA)(pc:Nat)(a b:OA)(ca cb:Nat)(w:World)(hlp:p.VA.length≤1048576)(hpc:p.VA.length≤pc)(hsz:∀s∈p.VA,s.size≤1048576)(hl1:x.VC.length≤1048576)(hl2:x.UZ.length≤1048576)(hp:bP bX 1 w pa p.VA)(hr:dI w a b x) :
  Cb 13 #[jQ pa pc p,iQ a b ca cb x] w (.bool (fS p x)):=by
 have HB:Hid (Below w.heap.size w ((aW w (bM pa pc p) 27).alloc (.cells (bF a ca b cb x).toArray 31))):=(bR.alloc lR _).alloc (by simp) _;have H0:=(aA.new w (bM pa pc p) 27).alloc (.cells (bF a ca b cb x).toArray 31);have H1:=aA.new (w.alloc (.cells (bM pa pc p).toArray 27)) (bF a ca b cb x) 31;rw[TQ]at H1;have hs2:((aW w (bM pa pc p) 27).alloc (.cells (bF a ca b cb x).toArray 31)).heap.size=w.heap.size+1+1:=by simp
 have HP:Hid (∀W,Below w.heap.size w W→Cb 34 #[jQ pa pc p] W (.bool (cT p))):=fun W hW=>BD p pa pc W hlp hpc hsz (hp.below hW)
 have HBD:Hid (∀W,Below w.heap.size w W→Cb 35 #[jQ pa pc p,.slice a x.VC.length ca] W (.bool (jT (cG p) x.VC x.VC.length))):=fun W hW=>EA p x.VC pa pc a ca W hlp hl1 (hp.below hW) (hr.bd.below hW)
 have HSS:Hid (∀W,Below w.heap.size w W→Cb 36 #[iQ a b ca cb x] W (.bool (jT (fV x.VC) x.UZ x.UZ.length))):=fun W hW=>ID x a b ca cb W hl1 hl2 (hr.below hW)
 have HV:Hid (fS p x=(cT p&&decide ((x.UZ.length:Int)≤p.most)&&decide (x.VC.length≤60)&&jT (cG p) x.VC x.VC.length&&jT (fV x.VC) x.UZ x.UZ.length&&x.VC.all fun y=>x.UZ.any fun s=>gY y s)):=rfl;generalize fS p x=ans at *;generalize cT p=b1 at *;generalize jT (cG p) x.VC x.VC.length=b4 at *;generalize jT (fV x.VC) x.UZ x.UZ.length=b5 at *;have G0:Hid _:=H0;have G1:Hid _:=H1;have HR:Hid (dI w a b x):=hr;unfold jQ at HP HBD ⊢;unfold iQ at HSS ⊢;clear hp hr H0 H1;go_enter Tryz.func13,Tryz.ntmps13
 go_upto_region 1 with fail
 generalize World.alloc _ _=W2 at *;obtain⟨r1,hr1⟩: ∃r,r=(b1&&decide ((x.UZ.length:Int)≤p.most)&&decide (x.VC.length≤60)&&b4&&b5):=⟨_,rfl⟩;have HRV:Hid (r1=_):=hr1;rw[←hr1]at HV;clear hr1;go_cut [36] (fun v wx=>v=.bool (!r1)∧Below W2.heap.size W2 wx)
 case first=>
  have hun:undef=Value.tuple #[]:=rfl;obtain⟨z0,z1,z2,z3,z4,z5,z6,z7,z8,z9⟩:=G0.out.c10;go_wp2_with fail
  refine(HP.out _ HB.out).mono ?_;rintro e w1 ⟨rfl,q1⟩;have Q1:Hid (Below W2.heap.size W2 w1):=q1;have B1:Hid _:=HB.out.trans (q1.mono HB.out.size);have K0:=G0.out.kept (by simp) q1;have K1:=G1.out.kept (by simp) q1;clear q1 z0 z1 z2 z3 z4 z5 z6 z7 z8 z9;obtain⟨y0,y1,y2,y3,y4,y5,y6,y7,y8,y9⟩:=K0.c10;obtain⟨k0,k1⟩:=K1.c2;clear K0 K1
  cases b1 with
  | false=>
   go_wp2_with fail
   go_meet;exact⟨by rw[HRV.out];simp,Q1.out⟩
  | true=>
   by_cases h2:p.most < (x.UZ.length:Int)
   ·go_wp2_with fail
    go_meet;exact⟨by rw[HRV.out,TR (show ¬(x.UZ.length:Int)≤p.most by omega)];simp,Q1.out⟩
   ·by_cases h3:60 < x.VC.length
    ·have h3':(60:Int) < (x.VC.length:Int):=by omega
     go_wp2_with fail
     go_meet;exact⟨by rw[HRV.out,TR (show ¬x.VC.length≤60 by omega)];simp,Q1.out⟩
    ·have h3':¬(60:Int) < (x.VC.length:Int):=by omega
     rw[TT (show (x.UZ.length:Int)≤p.most by omega),TT (show x.VC.length≤60 by omega)]at HRV;go_wp2_with fail
     refine(HBD.out _ B1.out).mono ?_;rintro e w2 ⟨rfl,q2⟩;have Q2:Hid _:=Q1.out.trans (q2.mono Q1.out.size);have B2:Hid _:=B1.out.trans (q2.mono B1.out.size);have K1:=G1.out.kept (by simp) Q2.out;clear q2 k0 k1 y0 y1 y2 y3 y4 y5 y6 y7 y8 y9;obtain⟨k0,k1⟩:=K1.c2;clear K1
     cases b4 with
     | false=>
      go_wp2_with fail
      go_meet;exact⟨by rw[HRV.out];simp<;>omega,Q2.out⟩
     | true=>
      go_wp2_with fail
      refine(HSS.out _ B2.out).mono ?_;rintro e w3 ⟨rfl,q3⟩;have Q3:Hid _:=Q2.out.trans (q3.mono Q2.out.size);clear q3 k0 k1
      cases b5;all_goals
       go_wp2_with fail
       go_meet;exact⟨by rw[HRV.out];simp<;>omega,Q3.out⟩
 case rest=>
  obtain⟨rfl,hQ⟩:=hcut;have B3:Hid _:=HB.out.trans (hQ.mono HB.out.size);have K3:Hid _:=G1.out.kept (by simp) hQ;clear hQ HP HBD HSS G0 G1 HRV HB hs2
  cases r1 with
  | false=>
   have HX:Hid (ans=false):=by unfold Hid;rw[HV.out];rfl
   go_wp2_with fail
   go_ret;exact⟨aB HX.out.symm,B3.out⟩
  | true=>
   have HU:Hid (ans=x.VC.all fun y=>x.UZ.any fun s=>gY y s):=by unfold Hid;rw[HV.out];rfl
   clear HV;generalize wc=w9 at *;go_wp2_with fail
   go_loopw [5] (fun iv wr=>∃i:Nat,i≤x.VC.length∧iv=iV i∧((x.VC.take i).all fun y=>x.UZ.any fun s=>gY y s)=true∧aA wr (w.heap.size+1) (bF a ca b cb x)∧Below w.heap.size w wr) (fun iv _=>x.VC.length-(intOf iv).toNat)
   case atStart=>exact⟨0,UR _,rfl,rfl,K3.out,B3.out⟩
   case round=>
    obtain⟨i,hi,rfl,hn,hk,hbel⟩:=hrel;have HN:Hid (((x.VC.take i).all fun y=>x.UZ.any fun s=>gY y s)=true):=hn;have HBi:Hid (Below w.heap.size w wr):=hbel;have HKi:Hid _:=hk;have z0:=hk.cell (j:=0) rfl;clear hn hbel hk K3 B3;generalize wr=w0 at *;by_cases hlt:i < x.VC.length
    ·obtain⟨ba,oa,rfl,hba,hata⟩:=HR.out.bd.at hlt;have HATA:Hid (∀W,Below w.heap.size w W→W.rangeAt ba (oa+i*5) (eG x.VC[i])):=fun W hW=>(hata.below hba hW) i hlt
     have HST:Hid _:=LN (fun y=>x.UZ.any fun s=>gY y s) x.VC i hlt;have HNO:Hid _:=QG (fun y=>x.UZ.any fun s=>gY y s) x.VC i hlt;obtain⟨y,hy⟩: ∃y,y=x.VC[i]:=⟨_,rfl⟩;rw[←hy]at HATA HST HNO;clear hata hba hy;go_wp2_with fail
     go_loopw [6,7] (fun hv kv wr=>∃k:Nat,k≤x.UZ.length∧kv=iV k∧hv=.bool ((x.UZ.take k).any fun s=>gY y s)∧aA wr (w.heap.size+1) (bF (some ⟨ba,oa,none⟩) ca b cb x)∧Below w.heap.size w wr) (fun _ kv _=>x.UZ.length-(intOf kv).toNat)
     case atStart=>exact⟨0,UR _,rfl,rfl,HKi.out,HBi.out⟩
     case round=>
      obtain⟨k,hk,rfl,rfl,hK,hbel⟩:=hrel;have HBk:Hid (Below w.heap.size w wr):=hbel;have HKk:Hid _:=hK;have z1:=hK.cell (j:=1) rfl;have hbx:Hid (w.heap.size+1 < wr.heap.size):=hK.lt (by simp);clear hbel hK z0;by_cases hkl:k < x.UZ.length
      ·obtain⟨bs,os,rfl,hbs,hats⟩:=HR.out.ss.at hkl;have HATS:Hid (∀W,Below w.heap.size w W→W.rangeAt bs (os+k*7) (fY x.UZ[k])):=fun W hW=>(hats.below hbs hW) k hkl
       have HSK:Hid _:=jW (fun s=>gY y s) x.UZ k hkl;obtain⟨s,hs⟩: ∃s,s=x.UZ[k]:=⟨_,rfl⟩;rw[←hs]at HATS HSK;have HHS:Hid (∀W,Cb 37 #[jI y,wR s] W (.bool (gY y s))):=fun W=>tR y s W
       have hltI:(i:Int) < (x.VC.length:Int):=by omega
       have hklI:(k:Int) < (x.UZ.length:Int):=by omega
       generalize (x.UZ.take k).any (fun s=>gY y s)=hb0 at *;unfold jI wR at HHS;clear hats hbs hs;go_upto_region 10 with fail
       cases hb0 with
       | false=>
        refine aN [51,52,53,54,55,56,57,58,59,60,61,62,63,64] (by kernel_rfl) (by kernel_rfl) ?_;iterate 14 ((first|apply bC.u rfl|apply bC.g rfl rfl rfl rfl rfl (by simp));(·intro K' a wy ho hd hb hK;simp[aS,aF,aD,Region.binds]at ho hd;have hbw:=HBk.out.drew.trans (hb.mono HBk.out.drew.size);have kx:=(HKk.out.drew.kept (by simp) hb);have kC:=kx.c2;have ra:=HATA.out wy hbw;have rs:=HATS.out wy hbw;obtain⟨a0,a1,a2,a3,a4⟩:=NS ra;obtain⟨s0,s1,s2,s3,s4,s5,s6⟩:=MX rs;clear ra rs kx hbw;go_simp;first|((try go_bits);exact hK _ _ rfl bQ)|(refine(HHS.out wy).mono ?_;rintro e wz ⟨rfl,hz⟩;exact hK _ _ rfl hz));dsimp only[nA,cA])
        intro X wz hR hz;simp only[UB,UC,eW,aF]at hR;simp only[aE,hR];clear hR;simp only[List.length_cons,List.length_nil,List.drop_succ_cons,List.drop_zero,TX,Nat.reduceAdd];intro K9 hK9;go_simp;refine hK9 _ _ ?_;have hb6:Below wr.heap.size wr wz:=(Below.refl _ wr).drew.trans hz;have HB2:Hid _:=HBk.out.trans (hb6.mono HBk.out.size);have HK2:Hid _:=HKk.out.kept (by simp) hb6;clear hb6 hz z1;simp only[fO];go_wp2_with fail
        go_roundw
        case rel=>
         (repeat apply Exists.intro)
         exact⟨⟨k+1,by omega,by go_num,by rw[HSK.out];rfl,HK2.out,HB2.out⟩,rfl⟩
        case measure=>simp[intOf];omega
       | true=>
        refine aN [51,52,53,54,55,56,57,58,59,60,61,62,63,64] (by kernel_rfl) (by kernel_rfl) ?_;iterate 14 ((first|(refine bC.n rfl rfl rfl rfl rfl (by simp) ?_)|(apply bC.u rfl;(·intro K' a wy ho hd hb hK;simp[aS,aF,aD,Region.binds]at ho hd;go_simp;(try go_bits);exact hK _ _ rfl bQ)));dsimp only[nA,cA])
        intro X wz hR hz;simp only[UB,UC,eW,aF]at hR;simp only[aE,hR];clear hR;simp only[List.length_cons,List.length_nil,List.drop_succ_cons,List.drop_zero,TX,Nat.reduceAdd];intro K9 hK9;go_simp;refine hK9 _ _ ?_;have hb6:Below wr.heap.size wr wz:=(Below.refl _ wr).drew.trans hz;have HB2:Hid _:=HBk.out.trans (hb6.mono HBk.out.size);have HK2:Hid _:=HKk.out.kept (by simp) hb6;clear hb6 hz z1;simp only[fO];go_wp2_with fail
        go_roundw
        case rel=>
         (repeat apply Exists.intro)
         exact⟨⟨k+1,by omega,by go_num,by rw[HSK.out];rfl,HK2.out,HB2.out⟩,rfl⟩
        case measure=>simp[intOf];omega
      ·have hke:k=x.UZ.length:=by omega
       rw[hke,List.take_length]
       cases hh:x.UZ.any (fun s=>gY y s) with
       | false=>
        have HX:Hid (ans=false):=by unfold Hid;rw[HU.out];exact HNO.out hh
        clear hh;go_wp2_with fail
        go_ret;exact⟨aB HX.out.symm,HBk.out⟩
       | true=>
        have HN2:Hid (((x.VC.take (i+1)).all fun y=>x.UZ.any fun s=>gY y s)=true):=by unfold Hid;rw[HST.out,HN.out,hh];rfl
        clear hh;go_wp2_with fail
        go_roundw
        case rel=>exact⟨i+1,by omega,by go_num,HN2.out,HKk.out,HBk.out⟩
        case measure=>simp[intOf];omega
    ·have hie:i=x.VC.length:=by omega
     have HX:Hid (ans=true):=by unfold Hid;rw[HU.out];have:=HN.out;rw[hie,List.take_length]at this;exact this
     go_wp2_with fail
     go_ret;exact⟨aB HX.out.symm,HBi.out⟩
end Go.Proofs.YtdkepkaflielhaaGreatDoor
