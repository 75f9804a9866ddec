import Derived.Test.YtdkepkaflielhaaGreatDoorMerged2
import Derived.Deep.RegionWith
import Derived.Orders
import Derived.BigQuiet
set_option linter.unusedVariables false
set_option linter.unusedSimpArgs false
set_option maxRecDepth 100000
set_option maxHeartbeats 8000000
namespace Go.Proofs.YtdkepkaflielhaaGreatDoor
open Go.RowKit Go.PlainAid
theorem jW{α:Type}(f:α→Bool)(xs:List α)(i:Nat)(h:i < xs.length):(xs.take (i+1)).any f=((xs.take i).any f||f xs[i]):=by
 rw[List.take_succ_eq_append_getElem h,List.any_append];simp
theorem tI{α:Type}(f:α→Bool)(xs:List α)(i:Nat)(h:i < xs.length)(hf:f xs[i]=true):xs.any f=true:=List.any_eq_true.2 ⟨_,TY h,hf⟩
theorem nQ{α:Type}(f:α→Bool)(xs:List α)(i:Nat)(h:i < xs.length)(hn:(xs.take i).any f=false)(hf:f xs[i]=true):bG f xs=i:=by
 have:xs.findIdx? f=some i:=by
  rw[List.findIdx?_eq_some_iff_getElem];refine⟨h,hf,fun j hj=>?_⟩;have hjl:j < xs.length:=Nat.lt_trans hj h;have:=List.any_eq_false.1 hn (xs[j]) (by rw[List.mem_take_iff_getElem];exact⟨j,by omega,rfl⟩);simpa using this
 unfold bG;rw[this]
theorem pJ{α:Type}(f:α→Bool)(xs:List α)(hn:xs.any f=false):bG f xs=-1:=by
 have:xs.findIdx? f=none:=by
  rw[List.findIdx?_eq_none_iff];intro x hx;have:=List.any_eq_false.1 hn x hx;simpa using this
 unfold bG;rw[this]
theorem sU(UU:Int)(w:World) :
  Cw 69 #[iV UU] w (.bool (eP UU)):=by
 have hun:undef=Value.tuple #[]:=rfl;by_cases h0:UU=6
 ·subst h0;go_enter Tryz.func69,Tryz.ntmps69
  go_wp2_with fail
  go_ret;exact⟨rfl,rfl⟩
 ·by_cases h1:UU=17
  ·subst h1;go_enter Tryz.func69,Tryz.ntmps69
   go_wp2_with fail
   go_ret;exact⟨rfl,rfl⟩
  ·by_cases h2:UU=1
   ·subst h2;go_enter Tryz.func69,Tryz.ntmps69
    go_wp2_with fail
    go_ret;exact⟨rfl,rfl⟩
   ·have HV:Hid (eP UU=false):=by unfold Hid eP;simp[h0,h1,h2]
    go_enter Tryz.func69,Tryz.ntmps69
    go_wp2_with fail
    go_ret;exact⟨aB (by rw[HV.out];simp[h0,h1,h2]),rfl⟩
theorem EE(xs:List BA)(s:BA)(a:OA)(cap:Nat)(w:World)(jJ:xs.length≤1048576)(hr:bP bX 1 w a xs) :
  Cb 68 #[.slice a xs.length cap,.string s] w (.bool (nL xs s)):=by
 have HR:Hid (bP bX 1 w a xs):=hr;have HV:Hid (nL xs s=xs.any fun t=>decide (t.toList=s.toList)):=rfl;generalize nL xs s=ans at *;clear hr;go_enter Tryz.func68,Tryz.ntmps68
 go_wp2_with fail
 go_loopw [5] (fun iv wr=>∃i:Nat,i≤xs.length∧iv=iV i∧(xs.take i).any (fun t=>decide (t.toList=s.toList))=false∧Below w.heap.size w wr) (fun iv _=>xs.length-(intOf iv).toNat)
 case atStart=>exact⟨0,UR _,rfl,rfl,Below.refl _ _⟩
 case round=>
  obtain⟨i,hi,rfl,hn,hbel⟩:=hrel;have HN:Hid ((xs.take i).any (fun t=>decide (t.toList=s.toList))=false):=hn;have HL:Hid (Below w.heap.size w wr):=hbel;clear hn hbel;by_cases hlt:i < xs.length
  ·obtain⟨b,off,rfl,hb,hat⟩:=HR.out.at hlt;have hA:=(hat.below hb HL.out) i hlt;have HST:Hid _:=jW (fun t:BA=>decide (t.toList=s.toList)) xs i hlt;have HAT:Hid _:=tI (fun t:BA=>decide (t.toList=s.toList)) xs i hlt;obtain⟨t,ht⟩: ∃t,xs[i]=t:=⟨_,rfl⟩;rw[ht]at hA HST HAT;have c0:wr.cell? ⟨b,off+i,none⟩=some (.string t):=by have:=hA 0 _ rfl;simpa using this
   have c0':wr.cell? ⟨b,off+i*1,none⟩=some (.string t):=by simpa using c0
   clear hA hat ht;by_cases he:t.toList=s.toList
   ·have HX:Hid (ans=true):=by unfold Hid;rw[HV.out];exact HAT.out (TT he)
    have hbq:(t.toList==s.toList)=true:=by simp[he]
    clear he;go_wp2_with fail
    go_ret;exact⟨aB HX.out.symm,HL.out⟩
   ·have HN2:Hid ((xs.take (i+1)).any (fun t=>decide (t.toList=s.toList))=false):=by unfold Hid;rw[HST.out,HN.out,TR he];rfl
    have hbq:(t.toList==s.toList)=false:=by simp[he]
    clear he;go_wp2_with fail
    go_roundw
    case rel=>exact⟨i+1,by omega,by go_num,HN2.out,HL.out⟩
    case measure=>simp[intOf];omega
  ·have hie:i=xs.length:=by omega
   have HX:Hid (ans=false):=by unfold Hid;have:=HN.out;rw[hie,List.take_length]at this;rw[HV.out];exact this
   go_wp2_with fail
   go_ret;exact⟨aB HX.out.symm,HL.out⟩
theorem mU(xs:List Bd)(UU:Int)(s:BA)(port:Int)(a:OA)(cap:Nat)(sv:Value)(w:World)(jJ:xs.length≤1048576)(hr:bP eG 5 w a xs) :
  Cb 33 #[.agg #[.slice a xs.length cap,sv],iV UU,.string s,iV port] w (iV (bG (cD UU s port) xs)):=by
 have HB0:Hid (aA (w.alloc (.cells [.slice a xs.length cap,sv].toArray 31)) w.heap.size [.slice a xs.length cap,sv]):=aA.new w _ _;have HZ:Hid (Below w.heap.size w (w.alloc (.cells [.slice a xs.length cap,sv].toArray 31))):=bR.alloc lR _;have HR:Hid (bP eG 5 (w.alloc (.cells [.slice a xs.length cap,sv].toArray 31)) a xs):=hr.below HZ.out;rw[show [.slice a xs.length cap,sv].toArray=#[.slice a xs.length cap,sv] from rfl]at HB0 HZ HR;obtain⟨f,hf⟩: ∃f,f=cD UU s port:=⟨_,rfl⟩;rw[←hf];have HF:Hid (∀q,f q=(decide (q.UU=UU)&&decide (q.inn.toList=s.toList)&&decide (q.UW=port))):=fun q=>by rw[hf];rfl
 clear hr hf;go_enter Tryz.func33,Tryz.ntmps33
 go_wp2_with fail
 generalize w.alloc (.cells #[.slice a xs.length cap,sv] 31)=W0 at *;have hX0:w.heap.size < W0.heap.size:=HB0.out.lt (by simp);generalize hX:w.heap.size=X at *;go_loopw [9] (fun iv wr=>∃i:Nat,i≤xs.length∧iv=iV i∧(xs.take i).any f=false∧Below W0.heap.size W0 wr) (fun iv _=>xs.length-(intOf iv).toNat)
 case atStart=>exact⟨0,UR _,rfl,rfl,Below.refl _ _⟩
 case round=>
  obtain⟨i,hi,rfl,hn,hbel⟩:=hrel;have HN:Hid ((xs.take i).any f=false):=hn;have HL:Hid (Below W0.heap.size W0 wr):=hbel;have HW:Hid _:=HZ.out.trans (hbel.mono (by omega));have x0:wr.cell? ⟨X,0,none⟩=some (.slice a xs.length cap):=(HB0.out.kept (by simp) hbel).cell rfl;clear hn hbel;by_cases hlt:i < xs.length
  ·obtain⟨b,off,rfl,hb,hat⟩:=HR.out.at hlt;have hA:=(hat.below hb HL.out) i hlt;have HST:Hid _:=jW f xs i hlt;have HAT:Hid _:=nQ f xs i hlt HN.out;obtain⟨q,hq⟩: ∃q,xs[i]=q:=⟨_,rfl⟩;rw[hq]at hA HST HAT;have hfq:=HF.out q;obtain⟨c0,c1,c2,c3,c4⟩:=NS hA;have HFQ:Hid _:=hfq;have L8:Hid (Below W0.heap.size W0 (wr.alloc (.cells (dH q).toArray 48))):=HL.out.alloc HL.out.size _;have W8:Hid (Below X w (wr.alloc (.cells (dH q).toArray 48))):=HW.out.alloc (by have:=HL.out.size;omega) _;have K8:Hid (qG (wr.alloc (.cells (dH q).toArray 48)) wr.heap.size q):=qG.new wr q;clear hA hat hq hfq;go_upto_region 5 with fail
   clear c0 c1 c2 c3 c4 x0 HL HW;generalize wr.alloc (.cells (dH q).toArray 48)=V8 at *;generalize wr.heap.size=Y at *;obtain⟨k0,k1,k2,k3,k4⟩:=K8.out;go_cut [38] (fun v wx=>v=.bool (f q)∧wx=V8)
   case first=>
    by_cases d0:q.UU=UU
    ·by_cases d1:q.inn.toList=s.toList
     ·by_cases d2:q.UW=port
      ·have HG:Hid (f q=true):=by unfold Hid;rw[HFQ.out,TT d0,TT d1,TT d2];rfl
       go_wp2_with fail
       go_meet;rw[HG.out];first | exact⟨rfl,rfl⟩ | simp[d2]
      ·have HG:Hid (f q=false):=by unfold Hid;rw[HFQ.out,TT d0,TT d1,TR d2];rfl
       go_wp2_with fail
       go_meet;rw[HG.out];first | exact⟨rfl,rfl⟩ | simp[d2]
     ·have HG:Hid (f q=false):=by unfold Hid;rw[HFQ.out,TR d1];simp
      go_wp2_with fail
      go_meet;rw[HG.out];first | exact⟨rfl,rfl⟩ | simp[d1]
    ·have HG:Hid (f q=false):=by unfold Hid;rw[HFQ.out,TR d0];simp
     go_wp2_with fail
     go_meet;rw[HG.out];first | exact⟨rfl,rfl⟩ | simp[d0]
   case rest=>
   obtain⟨rfl,rfl⟩:=hcut;clear k0 k1 k2 k3 k4
   cases hfq:f q with
   | true=>
    have HX:Hid (bG f xs=(i:Int)):=HAT.out hfq;go_wp2_with fail
    go_ret;exact⟨aK HX.out.symm,by rw[hX];exact W8.out⟩
   | false=>
    have HN2:Hid ((xs.take (i+1)).any f=false):=by unfold Hid;rw[HST.out,HN.out,hfq];rfl
    go_wp2_with fail
    go_roundw
    case rel=>exact⟨i+1,by omega,by go_num,HN2.out,L8.out⟩
    case measure=>simp[intOf];omega
  ·have hie:i=xs.length:=by omega
   have HX:Hid (bG f xs=-1):=by unfold Hid;have:=HN.out;rw[hie,List.take_length]at this;exact pJ f xs this
   go_wp2_with fail
   go_ret;exact⟨aK HX.out.symm,by rw[hX];exact HW.out⟩
theorem DZ(xs:List Bd)(UU:Int)(s:BA)(port:Int)(a:OA)(cap:Nat)(sv:Value)(w:World)(jJ:xs.length≤1048576)(hr:bP eG 5 w a xs) :
  Cb 156 #[.agg #[.slice a xs.length cap,sv],iV UU,.string s,iV port] w (iV (bG (dE UU s port) xs)):=by
 have HB0:Hid (aA (w.alloc (.cells [.slice a xs.length cap,sv].toArray 31)) w.heap.size [.slice a xs.length cap,sv]):=aA.new w _ _;have HZ:Hid (Below w.heap.size w (w.alloc (.cells [.slice a xs.length cap,sv].toArray 31))):=bR.alloc lR _;have HR:Hid (bP eG 5 (w.alloc (.cells [.slice a xs.length cap,sv].toArray 31)) a xs):=hr.below HZ.out;rw[show [.slice a xs.length cap,sv].toArray=#[.slice a xs.length cap,sv] from rfl]at HB0 HZ HR;obtain⟨f,hf⟩: ∃f,f=dE UU s port:=⟨_,rfl⟩;rw[←hf];have HF:Hid (∀q,f q=(decide (q.UU=UU)&&decide (q.out.toList=s.toList)&&decide (q.UX=port))):=fun q=>by rw[hf];rfl
 clear hr hf;go_enter Tryz.func156,Tryz.ntmps156
 go_wp2_with fail
 generalize w.alloc (.cells #[.slice a xs.length cap,sv] 31)=W0 at *;have hX0:w.heap.size < W0.heap.size:=HB0.out.lt (by simp);generalize hX:w.heap.size=X at *;go_loopw [9] (fun iv wr=>∃i:Nat,i≤xs.length∧iv=iV i∧(xs.take i).any f=false∧Below W0.heap.size W0 wr) (fun iv _=>xs.length-(intOf iv).toNat)
 case atStart=>exact⟨0,UR _,rfl,rfl,Below.refl _ _⟩
 case round=>
  obtain⟨i,hi,rfl,hn,hbel⟩:=hrel;have HN:Hid ((xs.take i).any f=false):=hn;have HL:Hid (Below W0.heap.size W0 wr):=hbel;have HW:Hid _:=HZ.out.trans (hbel.mono (by omega));have x0:wr.cell? ⟨X,0,none⟩=some (.slice a xs.length cap):=(HB0.out.kept (by simp) hbel).cell rfl;clear hn hbel;by_cases hlt:i < xs.length
  ·obtain⟨b,off,rfl,hb,hat⟩:=HR.out.at hlt;have hA:=(hat.below hb HL.out) i hlt;have HST:Hid _:=jW f xs i hlt;have HAT:Hid _:=nQ f xs i hlt HN.out;obtain⟨q,hq⟩: ∃q,xs[i]=q:=⟨_,rfl⟩;rw[hq]at hA HST HAT;have hfq:=HF.out q;obtain⟨c0,c1,c2,c3,c4⟩:=NS hA;have HFQ:Hid _:=hfq;have L8:Hid (Below W0.heap.size W0 (wr.alloc (.cells (dH q).toArray 48))):=HL.out.alloc HL.out.size _;have W8:Hid (Below X w (wr.alloc (.cells (dH q).toArray 48))):=HW.out.alloc (by have:=HL.out.size;omega) _;have K8:Hid (qG (wr.alloc (.cells (dH q).toArray 48)) wr.heap.size q):=qG.new wr q;clear hA hat hq hfq;go_upto_region 5 with fail
   clear c0 c1 c2 c3 c4 x0 HL HW;generalize wr.alloc (.cells (dH q).toArray 48)=V8 at *;generalize wr.heap.size=Y at *;obtain⟨k0,k1,k2,k3,k4⟩:=K8.out;go_cut [38] (fun v wx=>v=.bool (f q)∧wx=V8)
   case first=>
    by_cases d0:q.UU=UU
    ·by_cases d1:q.out.toList=s.toList
     ·by_cases d2:q.UX=port
      ·have HG:Hid (f q=true):=by unfold Hid;rw[HFQ.out,TT d0,TT d1,TT d2];rfl
       go_wp2_with fail
       go_meet;rw[HG.out];first | exact⟨rfl,rfl⟩ | simp[d2]
      ·have HG:Hid (f q=false):=by unfold Hid;rw[HFQ.out,TT d0,TT d1,TR d2];rfl
       go_wp2_with fail
       go_meet;rw[HG.out];first | exact⟨rfl,rfl⟩ | simp[d2]
     ·have HG:Hid (f q=false):=by unfold Hid;rw[HFQ.out,TR d1];simp
      go_wp2_with fail
      go_meet;rw[HG.out];first | exact⟨rfl,rfl⟩ | simp[d1]
    ·have HG:Hid (f q=false):=by unfold Hid;rw[HFQ.out,TR d0];simp
     go_wp2_with fail
     go_meet;rw[HG.out];first | exact⟨rfl,rfl⟩ | simp[d0]
   case rest=>
   obtain⟨rfl,rfl⟩:=hcut;clear k0 k1 k2 k3 k4
   cases hfq:f q with
   | true=>
    have HX:Hid (bG f xs=(i:Int)):=HAT.out hfq;go_wp2_with fail
    go_ret;exact⟨aK HX.out.symm,by rw[hX];exact W8.out⟩
   | false=>
    have HN2:Hid ((xs.take (i+1)).any f=false):=by unfold Hid;rw[HST.out,HN.out,hfq];rfl
    go_wp2_with fail
    go_roundw
    case rel=>exact⟨i+1,by omega,by go_num,HN2.out,L8.out⟩
    case measure=>simp[intOf];omega
  ·have hie:i=xs.length:=by omega
   have HX:Hid (bG f xs=-1):=by unfold Hid;have:=HN.out;rw[hie,List.take_length]at this;exact pJ f xs this
   go_wp2_with fail
   go_ret;exact⟨aK HX.out.symm,by rw[hX];exact HW.out⟩
open Go.ChangeShapes Go.WideShapes
structure PR(w:World)(B:Nat)(p:Ss):Prop where
 c0:w.cell? ⟨B,0,none⟩=some (iV p.UU)
 c1:w.cell? ⟨B,1,none⟩=some (.string p.inn)
 c2:w.cell? ⟨B,2,none⟩=some (iV p.UW)
 c3:w.cell? ⟨B,3,none⟩=some (.string p.peer)
 c4:w.cell? ⟨B,4,none⟩=some (iV p.UV)
 c5:w.cell? ⟨B,5,none⟩=some (iV p.state)
 c6:w.cell? ⟨B,6,none⟩=some (iV p.untl)
def lT:Bd:=⟨0,⟨#[]⟩,0,⟨#[]⟩,0⟩
def vJ(f:Bd→Bool)(xs:List Bd)(s:BA):Bd:=if 20000 < s.size then lT else (xs.find? f).getD lT
theorem tK(f:Bd→Bool)(xs:List Bd)(h:¬bG f xs < 0):∃i:Nat,∃hi:i < xs.length,bG f xs=i∧xs.find? f=some xs[i]:=by
 unfold bG at *
 cases hf:xs.findIdx? f with
 | none=>rw[hf]at h;exact absurd (by decide) h
 | some i=>
  obtain⟨hi,hfi,hn⟩:=List.findIdx?_eq_some_iff_getElem.1 hf;exact⟨i,hi,rfl,List.find?_eq_some_iff_getElem.2 ⟨hfi,i,hi,rfl,fun j hj=>by simpa using hn j hj⟩⟩
theorem zT(f:Bd→Bool)(xs:List Bd)(h:bG f xs < 0):xs.find? f=none:=by
 unfold bG at h
 cases hf:xs.findIdx? f with
 | none=>exact List.find?_eq_none.2 (fun x hx=>by have:=List.findIdx?_eq_none_iff.1 hf x hx;simp[this])
 | some i=>rw[hf]at h;simp only at h;omega
theorem qA(xs:List Bd)(UU:Int)(s:BA)(port:Int)(a:OA)(cap:Nat)(sv:Value)(w:World)(jJ:xs.length≤1048576)(hr:bP eG 5 w a xs) :
  Cb 11 #[.agg #[.slice a xs.length cap,sv],iV UU,.string s,iV port] w (jI (vJ (cD UU s port) xs s)):=by
 have HB0:Hid (aA (w.alloc (.cells #[.slice a xs.length cap,sv] 31)) w.heap.size [.slice a xs.length cap,sv]):=aA.new w _ _;rw[show [.slice a xs.length cap,sv].toArray=#[.slice a xs.length cap,sv] from rfl]at HB0;have HZ0:Hid (Below w.heap.size w (w.alloc (.cells #[.slice a xs.length cap,sv] 31))):=bR.alloc lR _;have HRB:Hid (aA ((aW w [.slice a xs.length cap,sv] 31).alloc (.cells (eG lT).toArray 48)) (w.alloc (.cells #[.slice a xs.length cap,sv] 31)).heap.size (eG lT)):=aA.new _ _ _;rw[show (eG lT).toArray=(iW 0 ⟨#[]⟩ 0 ⟨#[]⟩ 0).toArray from rfl]at HRB;have HB1:Hid (aA ((aW w [.slice a xs.length cap,sv] 31).alloc (.cells (iW 0 ⟨#[]⟩ 0 ⟨#[]⟩ 0).toArray 48)) w.heap.size [.slice a xs.length cap,sv]):=HB0.out.alloc _;have HZ:Hid (Below w.heap.size w ((aW w [.slice a xs.length cap,sv] 31).alloc (.cells (iW 0 ⟨#[]⟩ 0 ⟨#[]⟩ 0).toArray 48))):=HZ0.out.alloc HZ0.out.size _;rw[TQ]at HRB;have hRw:w.heap.size≤w.heap.size+1:=Nat.le_succ _;have HSI:Hid (bP eG 5 ((aW w [.slice a xs.length cap,sv] 31).alloc (.cells (iW 0 ⟨#[]⟩ 0 ⟨#[]⟩ 0).toArray 48)) a xs):=hr.below HZ.out;have HC:Hid (∀W,bP eG 5 W a xs→Cb 33 #[.agg #[.slice a xs.length cap,sv],iV UU,.string s,iV port] W (iV (bG (cD UU s port) xs))):=fun W hW=>mU xs UU s port a cap sv W jJ hW
 have HV:Hid (vJ (cD UU s port) xs s=if 20000 < s.size then lT else (xs.find? (cD UU s port)).getD lT):=rfl;generalize vJ (cD UU s port) xs s=ans at *;generalize cD UU s port=f at *;clear hr HB0 HZ0;obtain⟨b0,b1⟩: _∧_:=⟨HB1.out.cell (j:=0) rfl,HB1.out.cell (j:=1) rfl⟩;go_enter Tryz.func11,Tryz.ntmps11
 go_wp2_with fail
 generalize World.alloc _ _=W0 at *;refine(HC.out W0 HSI.out).mono ?_;rintro e w1 ⟨rfl,q1⟩;have HW:Hid _:=HZ.out.trans (q1.mono HZ.out.size);have HB2:=HB1.out.kept (by simp) q1;have HR2:=HRB.out.kept (by simp[eG]) q1;have HS2:Hid (bP eG 5 w1 a xs):=HSI.out.below q1;clear b0 b1 HZ HC HSI q1;have b0:=HB2.cell (j:=0) rfl;have z0:=HR2.cell (j:=0) rfl;have zf0:=HR2.free (j:=0) (by simp[eG]);have z1:=HR2.cell (j:=1) rfl;have zf1:=HR2.free (j:=1) (by simp[eG]);have z2:=HR2.cell (j:=2) rfl;have zf2:=HR2.free (j:=2) (by simp[eG]);have z3:=HR2.cell (j:=3) rfl;have zf3:=HR2.free (j:=3) (by simp[eG]);have z4:=HR2.cell (j:=4) rfl;have zf4:=HR2.free (j:=4) (by simp[eG]);have PF:Hid (∀v0 v1 v2 v3 v4,Below w.heap.size w ((sW (sW (sW (sW w1 (w.heap.size+1) 0 v0) (w.heap.size+1) 1 v1) (w.heap.size+1) 2 v2) (w.heap.size+1) 3 v3).setCell ⟨w.heap.size+1,4,none⟩ v4)):=fun v0 v1 v2 v3 v4=>(((((HW.out.setCell (p:=⟨w.heap.size+1,0,none⟩) hRw v0).setCell (p:=⟨w.heap.size+1,1,none⟩) hRw v1).setCell (p:=⟨w.heap.size+1,2,none⟩) hRw v2).setCell (p:=⟨w.heap.size+1,3,none⟩) hRw v3).setCell (p:=⟨w.heap.size+1,4,none⟩) hRw v4)
 clear HB1 HRB HB2 HR2;by_cases hk:bG f xs < 0
 ·have HX:Hid (ans=lT):=by unfold Hid;rw[HV.out,zT f xs hk];split<;>rfl
  generalize bG f xs=k at *;go_wp2_with fail
  refine UQ (v:=.agg (iW 0 ⟨#[]⟩ 0 ⟨#[]⟩ 0).toArray) (by simp[results,Tryz.results11,go_sem,z0,z1,z2,z3,z4]) rfl (And.intro (congrArg (fun x=>Ending.returned (jI x)) HX.out.symm) (PF.out _ _ _ _ _))
 ·obtain⟨i,hi,hfi,hfd⟩:=tK f xs hk;rw[hfi];clear hk hfi;by_cases hs:20000 < s.size
  ·have HX:Hid (ans=lT):=by unfold Hid;rw[HV.out,if_pos hs]
   have hs':(20000:Int) < (s.size:Int):=by omega
   go_wp2_with fail
   refine UQ (v:=.agg (iW 0 ⟨#[]⟩ 0 ⟨#[]⟩ 0).toArray) (by simp[results,Tryz.results11,go_sem,z0,z1,z2,z3,z4]) rfl (And.intro (congrArg (fun x=>Ending.returned (jI x)) HX.out.symm) (PF.out _ _ _ _ _))
  ·obtain⟨b,off,rfl,hb,hat⟩:=HS2.out.at hi;have hA:=hat i hi;obtain⟨q,hq⟩: ∃q,xs[i]=q:=⟨_,rfl⟩;rw[hq]at hA hfd;have HX:Hid (ans=q):=by unfold Hid;rw[HV.out,if_neg hs,hfd];rfl
   obtain⟨c0,c1,c2,c3,c4⟩:=NS hA;have hs':¬(20000:Int) < (s.size:Int):=by omega
   clear hA hat hq hfd;go_wp2_with fail
   refine UQ (v:=.agg (dH q).toArray) (by simp[results,Tryz.results11,go_sem,z0,z1,z2,z3,z4]) rfl (And.intro (congrArg (fun x=>Ending.returned (jI x)) HX.out.symm) (PF.out _ _ _ _ _))
theorem tR(p:Bd)(q:Ss)(w:World) :
  Cb 37 #[jI p,wR q] w (.bool (gY p q)):=by
 have HV:Hid (gY p q=(decide (p.UU=q.UU)&&decide (p.inn.toList=q.inn.toList)&&decide (p.UW=q.UW))):=rfl;generalize gY p q=ans at *;obtain⟨UU,inn,UW,out,UX⟩:=p;obtain⟨proto',inn',inPort',peer',peerPort',state',untl'⟩:=q;unfold jI wR;dsimp only at *;have HZ:Hid (∀o1 o2,Below w.heap.size w ((w.alloc o1).alloc o2)):=fun o1 o2=>(bR.alloc lR _).alloc (by simp) _
 go_enter Tryz.func37,Tryz.ntmps37
 go_wp2_with fail
 all_goals go_ret
 all_goals exact⟨aB (by rw[HV.out];simp_all;try rfl),HZ.out _ _⟩
def cQ(inn:BA)(c:Bd):Bool:=decide (c.inn.toList=inn.toList)
def jL(p:Pl)(inn:BA):BA:=(p.VA[(bI inn).toNat % p.VA.length]?).getD ⟨#[]⟩
def dQ(xs:List Bd)(d inn:BA):BA:=match xs.find? (cQ inn) with | some c=>c.out | none=>d
def dN(xs:List Bd)(UU:Int)(out:BA)(n:Int):Bool:=decide (bG (dE UU out n) xs < 0)
def cK(f:Int→Bool):Int→Nat→Option Int
 | _,0=>none
 | lo,c+1=>if f lo=true then some lo else cK f (lo+1) c
def jE(p:Pl)(xs:List Bd)(UU:Int)(out:BA)(port:Int):Option Int :=
 if (aM port p.low p.high&&dN xs UU out port)=true then some port
 else match cK (fun n=>decide (n % 2=port % 2)&&dN xs UU out n) p.low (p.high-p.low+1).toNat with
  | some n=>some n
  | none=>cK (dN xs UU out) p.low (p.high-p.low+1).toNat
def gG(p:Pl)(xs:List Bd)(UU:Int)(inn:BA)(port:Int):Bd × Int :=
 match xs.find? (cD UU inn port) with
 | some c=>(c,0)
 | none=>match jE p xs UU (dQ xs (jL p inn) inn) port with
  | some n=>(⟨UU,inn,port,dQ xs (jL p inn) inn,n⟩,0)
  | none=>(lT,9)
theorem nE{f:Int→Bool}{n hi:Int}(h:n≤hi):cK f n (hi-n+1).toNat=if f n=true then some n else cK f (n+1) (hi-(n+1)+1).toNat:=by
 obtain⟨c,hc⟩: ∃c:Nat,(hi-n+1).toNat=c+1:=⟨(hi-n).toNat,by omega⟩;rw[hc];show (if f n=true then some n else cK f (n+1) c)=_;rw[show (hi-(n+1)+1).toNat=c by omega]
theorem rK{f:Int→Bool}{n hi:Int}(h:hi < n):cK f n (hi-n+1).toNat=none:=by
 rw[show (hi-n+1).toNat=0 by omega];rfl
theorem GS{xs:List Bd}{d inn:BA}{i:Nat}(h:i < xs.length):dQ (xs.drop i) d inn=if cQ inn xs[i]=true then xs[i].out else dQ (xs.drop (i+1)) d inn:=by
 unfold dQ;rw[List.drop_eq_getElem_cons h,List.find?_cons]
 cases hb:cQ inn xs[i]<;>simp
theorem CC{n:Nat}{w w1 W:World}{B:Nat}(h:Below n w w1)(hg:w1.grownBy W (some B))(hB:n≤B)(hn:n≤w1.heap.size:=by omega):Below n w W :=
 ⟨hg.os.trans h.os,hg.tape.trans h.tape,hg.output.trans h.output,UA h.size hg.size,fun k hk=>by rw[hg.block k (by omega) (by simp;omega),h.block k hk]⟩
section
variable {α:Type} (en:α→List Value) (n:Nat)
def dK(xs:List α):List Value:=xs.flatMap en
def eY(base:Nat)(w:World)(a:OA)(xs:List α):Prop:=xs=[]∨∃g,a=some ⟨g,0,none⟩∧base≤g∧iL en n w g xs xs.length xs.length
def PB(em:Nat→List Value)(base:Nat)(w:World)(a:OA)(k L:Nat):Prop:=L=0∨∃g,a=some ⟨g,0,none⟩∧base≤g∧iL em n w g ((List.range L).map fun i=>k+n*i) L L
structure xB(base:Nat)(e:TypeId)(v:Value)(xs:List α)(w0 w:World):Prop where
 own:w.ownsRow base e n v xs.length (dK en xs)
 bel:Below base w0 w
end
section
variable {α:Type} {en:α→List Value} {n:Nat} {w w0 W:World} {base:Nat} {e:TypeId} {v:Value} {xs:List α}
theorem fP(hn:∀x,(en x).length=n):∀xs:List α,(dK en xs).length=xs.length*n
 | []=>by simp[dK]
 | x::xs=>by
  have:=fP hn xs;unfold dK at *;rw[List.flatMap_cons,List.length_append,this,hn,List.length_cons,Nat.succ_mul];omega
theorem kB(xs:List α)(q:α):dK en (xs++[q])=dK en xs++en q:=by
 unfold dK;rw[List.flatMap_append];simp
theorem tL(hn:∀x,(en x).length=n):∀(xs:List α) (i:Nat) (h:i < xs.length) (j:Nat) (u:Value),(en xs[i])[j]?=some u→(dK en xs)[i*n+j]?=some u
 | [],i,h,_,_,_=>by simp at h
 | x::xs,0,h,j,u,hu=>by
  have hj:=(List.getElem?_eq_some_iff.1 hu).1;unfold dK;rw[List.flatMap_cons,Nat.zero_mul,TX,List.getElem?_append_left (by simpa using hj)];simpa using hu
 | x::xs,i+1,h,j,u,hu=>by
  have:=tL hn xs i (by simpa using h) j u (by simpa using hu);unfold dK at *;rw[List.flatMap_cons,List.getElem?_append_right (by rw[hn,Nat.succ_mul];omega),hn];rw[show (i+1)*n+j-n=i*n+j by rw[Nat.succ_mul];omega];exact this
theorem pK(hn:∀x,(en x).length=n)(hn0:0 < n){b off:Nat}(h:FE en n w b off xs)(j:Nat)(u:Value)(hu:(dK en xs)[j]?=some u):w.cell? ⟨b,off+j,none⟩=some u:=by
 have hj:=(List.getElem?_eq_some_iff.1 hu).1;rw[fP hn]at hj;have hi:j / n < xs.length:=(Nat.div_lt_iff_lt_mul hn0).2 hj;have hr:j % n < (en xs[j / n]).length:=by rw[hn];exact Nat.mod_lt _ hn0
 have h1:=tL hn xs (j / n) hi (j % n) _ (UJ hr);have e:j / n*n+j % n=j:=by rw[Nat.mul_comm];exact Nat.div_add_mod j n
 rw[e,hu]at h1;have h2:=h (j / n) hi (j % n) _ (UJ hr);rw[Nat.add_assoc,e]at h2;rw[h2,h1]
theorem xB.laid(hn:∀x,(en x).length=n){g cap:Nat}(h:w.ownsRow base e n (.slice (some ⟨g,0,none⟩) xs.length cap) xs.length (dK en xs)):iL en n w g xs xs.length xs.length:=by
 have hs:iL en n w g xs xs.length 0:=iL.start h;refine⟨hs.blk,fun i hi _ j u hu=>?_,hs.there,hs.free⟩;have hj:j < n:=by have:=(List.getElem?_eq_some_iff.1 hu).1;rwa [hn]at this
 have hb:i*n+j < xs.length*n:=by have:=Nat.mul_le_mul_right n (show i+1≤xs.length from hi);rw[Nat.succ_mul]at this;omega
 rw[h.cellAt _ hb];exact tL hn xs i hi j u hu
theorem xB.shape(hn:∀x,(en x).length=n)(h:xB en n base e v xs w0 w):∃a cap,v=.slice a xs.length cap∧xs.length≤cap∧eY en n base w a xs:=by
 rcases h.own.2 with ⟨h1,h2⟩|⟨g,cap,cur,h1,hb,hg,hc,_⟩
 ·have hx:xs.length=0:=by simpa using h2
  exact⟨none,0,by rw[h1,hx],by omega,.inl (List.length_eq_zero_iff.1 hx)⟩
 ·refine⟨some ⟨g,0,none⟩,cap,h1,hc,.inr ⟨g,rfl,hb,?_⟩⟩;have:=h.own;rw[h1]at this;exact xB.laid hn this
theorem eY.is{a:OA}(h:eY en n base w a xs):bP en n w a xs:=by
 rcases h with h|⟨g,rfl,_,h⟩
 ·exact .inl h
 ·exact h.is
theorem eY.grown{a:OA}(h:eY en n base w a xs){B:Nat}(hg:w.grownBy W (some B))(hB:B < base):eY en n base W a xs:=by
 rcases h with h|⟨g,rfl,h1,h⟩
 ·exact .inl h
 ·refine .inr ⟨g,rfl,h1,?_⟩;have hb:=hg.block g h.blk (by simp;omega);have hc:∀o,W.cell? ⟨g,o,none⟩=w.cell? ⟨g,o,none⟩:=fun o=>by unfold World.cell?;rw[show (⟨g,o,none⟩: Addr).block=g from rfl,hb]
  have hf:∀o,W.frozen? ⟨g,o,none⟩=w.frozen? ⟨g,o,none⟩:=fun o=>World.frozen?_of_block (a:=⟨g,o,none⟩) hb
  exact⟨UM h.blk hg.size,fun i hi hk j u hu=>(hc _).trans (h.at0 i hi hk j u hu),fun i hi=>by rw[hc];exact h.there i hi,fun i hi=>by rw[hf];exact h.free i hi⟩
theorem eY.down{a:OA}(h:eY en n base w a xs){b0:Nat}(hb:b0≤base):eY en n b0 w a xs:=by
 rcases h with h|⟨g,rfl,h1,h⟩
 ·exact .inl h
 ·exact .inr ⟨g,rfl,UA hb h1,h⟩
theorem eY.kept{a:OA}(h:eY en n base w a xs)(hb:Below w.heap.size w W):eY en n base W a xs:=by
 rcases h with h|⟨g,rfl,h1,h⟩
 ·exact .inl h
 ·exact .inr ⟨g,rfl,h1,h.kept hb⟩
end
def SP(x:Nat):BA:=⟨#[UInt8.ofNat x]⟩
def PH(k:Nat)(o:BA):BA:=if h:k=0 then o else PH (k / 10) (SP (48+k % 10)++o)
termination_by k
decreasing_by omega
def TK:BA:=⟨#[109]⟩
def IX(k:Nat):BA:=TK++PH k ⟨#[]⟩
def OR(n k L:Nat):List Nat:=(List.range L).map fun i=>k+n*i
structure TI(en:Nat→List Value)(n:Nat)(w0:World)(B k L m:Nat)(cs:List Value)(w:World):Prop where
 laid:iL en n w B (OR n k L) L m
 part:w.rangeAt B (m*n) cs
 grown:w0.grownBy w (some B)
section
variable {en:Nat→List Value} {n:Nat} {w0 w w':World} {B k L m:Nat} {cs:List Value}
end
def aD(a:Act)(t:Tmp):Value:=a.tmps.getD t undef
theorem eI{a:Act}{d t:Tmp}{v:Value}(h:d≠t):aD (a.put (some d) v) t=aD a t:=by
 simp[aD,Act.put,Array.getElem?_setIfInBounds_ne h]
theorem jF{a:Act}{d:Tmp}{v:Value}(h:d < a.tmps.size):aD (a.put (some d) v) d=v:=by
 simp[aD,Act.put,h]
def vF(listed:Array Bool):Nat→Nat
 | 0=>0
 | n+1=>vF listed n+(if listed.getD n true=true then 0 else 1)
theorem rU(listed:Array Bool):∀n,vF listed n≤n
 | 0=>Nat.le_refl _
 | n+1=>by have:=rU listed n;unfold vF;split<;>omega
theorem NO{listed:Array Bool}{i:Nat}:∀n,n≤i→vF (listed.setIfInBounds i true) n=vF listed n
 | 0,_=>rfl
 | n+1,h=>by unfold vF;rw[NO n (by omega),getD_set_ne true (by omega)]
theorem oS{listed:Array Bool}{i:Nat}(hf:listed.getD i true=false):∀n,i < n→vF (listed.setIfInBounds i true) n+1=vF listed n
 | 0,h=>by omega
 | n+1,h=>by
  unfold vF;by_cases e:i=n
  ·subst e;have hlt:i < listed.size:=by
    rcases Nat.lt_or_ge i listed.size with h'|h'
    ·exact h'
    ·simp[Array.getElem?_eq_none h']at hf
   have hs:(listed.setIfInBounds i true).getD i true=true:=by simp[hlt]
   rw[NO i lR,hs,hf,if_pos rfl,if_neg (by simp)]
  ·rw[getD_set_ne true e,←oS hf n (by omega)];omega
theorem nZ{listed:Array Bool}:∀n,vF listed n=0→∀i,i < n→listed.getD i true=true
 | 0,_,i,h=>by omega
 | n+1,h0,i,h=>by
  unfold vF at h0;by_cases e:i=n
  ·subst e;by_cases hh:listed.getD i true=true
   ·exact hh
   ·rw[if_neg hh]at h0;omega
  ·exact nZ n (by omega) i (by omega)
section
variable {P:Program} {ops:Array Oper} {Q:Exit→Act→World→Prop} {ds:List Tmp} {R:Nat→Value→World→Prop} {a0:Act} {w0:World}
structure JG(ops:Array Oper)(ds:List Tmp)(R:Nat→Value→World→Prop)(a0:Act)(w0:World)(listed:Array Bool)(a:Act)(w:World):Prop where
 size:listed.size=ops.size
 tsize:a.tmps.size=a0.tmps.size
 defers:a.defers=a0.defers
 outer:∀t,t ∉ ds→aD a t=aD a0 t
 inner:∀i,listed.getD i false=true→R i (aD a (ds.getD i 0)) w
 below:Below w0.heap.size w0 w
def IK(P:Program)(Q:Exit→Act→World→Prop)(ds:List Tmp)(R:Nat→Value→World→Prop)(a0:Act)(w0:World)(i:Nat)(o:Oper):Prop :=
 ∀(K':Act→World→Prop) (a:Act) (w:World),(∀t,t ∉ ds→aD a t=aD a0 t)→(∀e∈o.after,Region.binds .any e=true→R e.on (aD a (ds.getD e.on 0)) w) →
  Below w0.heap.size w0 w→(∀v w',R i v w'→Below w.heap.size w w'→K' (a.put o.dst v) w')→Oper.wp P o a w K' Q
structure BQ(ops:Array Oper)(ds:List Tmp)(n:Nat):Prop where
 len:ds.length=ops.size
 dst:∀i o,ops[i]?=some o→o.dst=some (ds.getD i 0)∧o.guard=none
 nodup:ds.Nodup
 fits:∀d∈ds,d < n
 topo:∀i o,ops[i]?=some o→∀e∈o.after,Region.binds .any e=true→e.on < i
def MB(ops:Array Oper)(ds:List Tmp)(n:Nat):Bool :=
 decide (ds.length=ops.size)&&(List.range ops.size).all (fun i=>match ops[i]? with
  | some o=>(match o.dst with | some d=>d==ds.getD i 0 | none=>false)&&o.guard.isNone&&o.after.all (fun e=>!Region.binds .any e||decide (e.on < i))
  | none=>true)&&decide ds.Nodup&&ds.all (fun d=>decide (d < n))
theorem BQ.of{n:Nat}(h:MB ops ds n=true):BQ ops ds n:=by
 unfold MB at h;simp only[TP,TU,List.all_eq_true,List.mem_range]at h;obtain⟨⟨⟨h1,h2⟩,h3⟩,h4⟩:=h;refine⟨h1,fun i o ho=>?_,h3,h4,fun i o ho e he hb=>?_⟩
 ·have:=h2 i (UI.1 ho).1;rw[ho]at this;simp only[TP]at this;obtain⟨⟨t1,t2⟩,_⟩:=this;refine⟨?_,by simpa using t2⟩
  cases hd:o.dst with
  | none=>rw[hd]at t1;simp at t1
  | some d=>rw[hd]at t1;simp at t1;rw[t1];simp
 ·have:=h2 i (UI.1 ho).1;rw[ho]at this;simp only[TP]at this;obtain⟨_,t3⟩:=this;have:=Array.all_eq_true_iff_forall_mem.1 t3 e he;simp[hb]at this;exact this
theorem mZ{ds:List Tmp}{i:Nat}(h:i < ds.length):ds.getD i 0=ds[i]:=by simp[h]
theorem mR{ds:List Tmp}(h:ds.Nodup){i j:Nat}(hi:i < ds.length)(hj:j < ds.length)(hne:i≠j):ds.getD i 0≠ds.getD j 0:=by
 intro e;rw[mZ hi,mZ hj]at e;have hp:=List.pairwise_iff_getElem.1 h;rcases Nat.lt_or_gt_of_ne hne with hlt|hlt
 ·exact hp i j hi hj hlt e
 ·exact hp j i hj hi hlt e.symm
theorem II(hF:BQ ops ds a0.tmps.size)(hst:∀i v w w',R i v w→Below w.heap.size w w'→R i v w')
  (hstep:∀i o,ops[i]?=some o→IK P Q ds R a0 w0 i o)
  (hdone:∀a w,a.tmps.size=a0.tmps.size→a.defers=a0.defers→(∀t,t ∉ ds→aD a t=aD a0 t)→(∀i,i < ops.size→R i (aD a (ds.getD i 0)) w)→Below w0.heap.size w0 w→Q .normal a w) :
  ∀(fuel:Nat) (listed:Array Bool) (a:Act) (w:World),vF listed ops.size≤fuel→JG ops ds R a0 w0 listed a w→wpAny P .any ops Q fuel listed a w:=by
 have hall:∀(listed:Array Bool) (a:Act) (w:World),JG ops ds R a0 w0 listed a w→Region.ready .any ops listed=[]→Q .normal a w:=by
  intro listed a w hI hr;refine hdone a w hI.tsize hI.defers hI.outer (fun i hi=>hI.inner i ?_) hI.below;have key:∀i,i < ops.size→listed.getD i false=true:=by
   intro i;induction i using Nat.strongRecOn with
   | ind i ih=>
    intro hi;have hsz:=hI.size;by_cases hh:listed.getD i true=true
    ·have hlt:i < listed.size:=by omega
     simpa[hlt] using hh
    ·exfalso
     have hmem:i∈Region.ready .any ops listed:=by
      rw[mem_ready];refine⟨by simpa using hh,ops[i],by simp[hi],fun e he hb=>?_⟩;have hlt:=hF.topo i ops[i] (by simp[hi]) e he hb;exact ih _ hlt (by omega)
     rw[hr]at hmem;simp at hmem
  exact key i hi
 intro fuel;induction fuel with
 | zero=>
  intro listed a w hu hI;have hr:Region.ready .any ops listed=[]:=by
   rw[List.eq_nil_iff_forall_not_mem];intro i hi;rw[mem_ready]at hi;obtain⟨h0,o,ho,_⟩:=hi;have:=nZ (listed:=listed) ops.size (by omega) i (UI.1 ho).1;rw[h0]at this;simp at this
  exact⟨hr,hall listed a w hI hr⟩
 | succ fuel ih=>
  intro listed a w hu hI;refine⟨fun hr=>hall listed a w hI hr,fun i hi=>?_⟩;rw[mem_ready]at hi;obtain⟨h0,o,ho,hdeps⟩:=hi;have hi:i < ops.size:=(UI.1 ho).1;obtain⟨hd,hg⟩:=hF.dst i o ho;have hil:i < ds.length:=by rw[hF.len];exact hi
  have hmem:ds.getD i 0∈ds:=by rw[mZ hil];exact TY hil
  refine wpOp_step ho (fun K' hK=>?_);rw[if_pos (by unfold Region.wanted;rw[hg])];refine hstep i o ho K' a w hI.outer (fun e he hb=>hI.inner _ (hdeps e he hb)) hI.below (fun v w' hR hB=>hK _ _ ?_);refine ih _ _ _ (by have:=oS h0 ops.size hi;omega) ⟨by simp[hI.size],?_,?_,fun t ht=>?_,fun j hj=>?_,hI.below.trans (hB.mono hI.below.size)⟩
  ·rw[hd];simp[Act.put,hI.tsize]
  ·rw[hd];simp[Act.put,hI.defers]
  ·rw[hd,eI (show ds.getD i 0≠t from fun e=>ht (e ▸ hmem))];exact hI.outer t ht
  ·rw[hd];by_cases e:i=j
   ·subst e;rw[jF (by rw[hI.tsize];exact hF.fits _ hmem)];exact hR
   ·rw[getD_set_ne false e]at hj;have hjl:j < ds.length:=by
     rw[hF.len,←hI.size];rcases Nat.lt_or_ge j listed.size with h'|h'
     ·exact h'
     ·simp[Array.getElem?_eq_none h']at hj
    rw[eI (mR hF.nodup hil hjl e)];exact hst _ _ _ _ (hI.inner j hj) hB
theorem wY{id:Nat}(hm:P.follows .mixedOrders=true)(hF:BQ ops ds a0.tmps.size)(hst:∀i v w w',R i v w→Below w.heap.size w w'→R i v w')
  (hstep:∀i o,ops[i]?=some o→IK P Q ds R a0 w0.drew i o)
  (hdone:∀a w,a.tmps.size=a0.tmps.size→a.defers=a0.defers→(∀t,t ∉ ds→aD a t=aD a0 t)→(∀i,i < ops.size→R i (aD a (ds.getD i 0)) w)→Below w0.drew.heap.size w0.drew w→Q .normal a w) :
  (Code.region id ops true).wp P Q a0 w0:=by
 refine wp_region_any hm (II (w0:=w0.drew) hF hst hstep hdone ops.size _ a0 w0.drew (rU _ _) ⟨by simp,rfl,rfl,fun _ _=>rfl,fun i hi=>?_,Below.refl _ _⟩);exfalso
 by_cases h:i < ops.size
 ·simp[h]at hi
 ·simp[h]at hi
def aS(Rs:List (Value→World→Prop))(i:Nat)(v:Value)(w:World):Prop:=Rs.getD i (fun _ _=>True) v w
def tD(P:Program)(Q:Exit→Act→World→Prop)(ds:List Tmp)(R:Nat→Value→World→Prop)(a0:Act)(w0:World):Nat→List Oper→Prop
 | _,[]=>True
 | n,o::l=>IK P Q ds R a0 w0 n o∧tD P Q ds R a0 w0 (n+1) l
theorem tD.at':∀(l:List Oper) (n:Nat),tD P Q ds R a0 w0 n l→∀i o,l[i]?=some o→IK P Q ds R a0 w0 (n+i) o
 | [],_,_,i,o,h=>by simp at h
 | p::l,n,hs,0,o,h=>by simp at h;subst h;exact hs.1
 | p::l,n,hs,i+1,o,h=>by
  have:=tD.at' l (n+1) hs.2 i o (by simpa using h);rwa [show n+1+i=n+(i+1) by omega]at this
def eW(X:Nat→Value)(w:World):Nat→List (Value→World→Prop)→Prop
 | _,[]=>True
 | n,r::l=>r (X n) w∧eW X w (n+1) l
theorem eW.mk{X:Nat→Value}{w:World}:∀(l:List (Value→World→Prop)) (n:Nat),(∀i,i < l.length→aS l i (X (n+i)) w)→eW X w n l
 | [],_,_=>trivial
 | r::l,n,h=>⟨h 0 (by simp),eW.mk l (n+1) (fun i hi=>by have:=h (i+1) (by simp;omega);rw[show n+1+i=n+(i+1) by omega];exact this)⟩
def eZ(r:Value→World→Prop):Prop:=∀v w w',r v w→Below w.heap.size w w'→r v w'
def aE(X:Nat→Value):Act→Nat→List Tmp→Act
 | a,_,[]=>a
 | a,k,d::l=>aE X (a.put (some d) (X k)) (k+1) l
theorem NY{a b:Act}(h1:a.tmps.size=b.tmps.size)(h2:a.defers=b.defers)(h:∀t,aD a t=aD b t):a=b:=by
 obtain⟨ta,da⟩:=a;obtain⟨tb,db⟩:=b;simp only at h1 h2;subst h2;congr 1
 refine Array.ext h1 (fun i hi hj=>?_);have:=h i;simpa[aD,hi,hj] using this
theorem oL{X:Nat→Value}{a:Act}:∀(l:List Tmp) (b:Act) (k:Nat),b.tmps.size=a.tmps.size→b.defers=a.defers→(∀i,i < l.length→X (k+i)=aD a (l.getD i 0))→(∀t,t ∉ l→aD b t=aD a t)→(∀d∈l,d < a.tmps.size)→aE X b k l=a
 | [],b,k,h1,h2,_,h4,_=>NY h1 h2 (fun t=>h4 t (by simp))
 | d::l,b,k,h1,h2,h3,h4,h5=>by
  refine oL l _ (k+1) (by simp[Act.put,h1]) (by simp[Act.put,h2]) (fun i hi=>?_) (fun t ht=>?_) (fun e he=>h5 e (by simp[he]))
  ·have:=h3 (i+1) (by simp;omega);rw[show k+1+i=k+(i+1) by omega,this];simp
  ·by_cases e:d=t
   ·subst e;rw[jF (by rw[h1];exact h5 d (by simp))];have:=h3 0 (by simp);simpa using this
   ·rw[eI e];exact h4 t (by simp;exact⟨fun h=>e h.symm,ht⟩)
theorem cZ{id:Nat}{Rs:List (Value→World→Prop)}(ds:List Tmp)(hm:P.follows .mixedOrders=true)(hF:MB ops ds a0.tmps.size=true)(hl:Rs.length=ops.size)(hst:∀r∈Rs,eZ r)
  (hstep:tD P Q ds (aS Rs) a0 w0.drew 0 ops.toList)
  (hdone:∀(X:Nat→Value) w,eW X w 0 Rs→Below w0.drew.heap.size w0.drew w→Q .normal (aE X a0 0 ds) w) :
  (Code.region id ops true).wp P Q a0 w0:=by
 have hG:=BQ.of hF;refine wY (ds:=ds) (R:=aS Rs) hm hG (fun i v w w' h hb=>?_) (fun i o ho=>?_) (fun a w h1 h2 h3 h4 h5=>?_)
 ·unfold aS at *;by_cases hi:i < Rs.length
  ·have e:Rs.getD i (fun _ _=>True)=Rs[i]:=by simp[hi]
   rw[e]at h ⊢;exact hst _ (TY hi) v w w' h hb
  ·have e:Rs.getD i (fun _ _=>True)=fun _ _=>True:=by simp[Nat.le_of_not_lt hi]
   rw[e];trivial
 ·have:=tD.at' ops.toList 0 hstep i o (by simpa using ho);rwa [TX]at this
 ·have hp:aE (fun i=>aD a (ds.getD i 0)) a0 0 ds=a:=oL ds a0 0 h1.symm h2.symm (fun i _=>by rw[TX]) (fun t ht=>(h3 t ht).symm) (fun d hd=>by rw[h1];exact hG.fits d hd);rw[←hp];exact hdone (fun i=>aD a (ds.getD i 0)) w (eW.mk Rs 0 (fun i hi=>by rw[TX];exact h4 i (by omega))) h5
def aF(x:Value):Value→World→Prop:=fun v _=>v=x
theorem cC(x:Value):eZ (aF x):=fun _ _ _ h _=>h
def tW(x y:Int):Value→World→Prop:=fun v w=>∃b,v=.slice (some ⟨b,0,none⟩) 2 2∧w.cell? ⟨b,0,none⟩=some (.int .u8 x)∧w.cell? ⟨b,1,none⟩=some (.int .u8 y)
theorem kU(x y:Int):eZ (tW x y):=fun v w w' ⟨b,h1,h2,h3⟩ hb=>by
 have hlt:=UH w _ h2;exact⟨b,h1,((iI hb).1 b 0 hlt).trans h2,((iI hb).1 b 1 hlt).trans h3⟩
end
theorem mF(s:BA):(bX s).length=1:=rfl
section
variable {H:Type} {enc:TypeId × Value→H} {w:World} {base:Nat} {spare:Nat→Bool} {held:Bool}
end
structure kJ(w:World)(B:Nat)(p:Lv):Prop where
 c0:w.cell? ⟨B,0,none⟩=some (iV p.udp)
 c1:w.cell? ⟨B,1,none⟩=some (iV p.echo)
 c2:w.cell? ⟨B,2,none⟩=some (iV p.opening)
 c3:w.cell? ⟨B,3,none⟩=some (iV p.opn)
 c4:w.cell? ⟨B,4,none⟩=some (iV p.closing)
theorem kJ.kept{w W:World}{B:Nat}{p:Lv}(h:kJ w B p)(hB:Below w.heap.size w W):kJ W B p:=by
 have hb:=UH w _ h.c0;exact⟨((iI hB).1 B 0 hb).trans h.c0,((iI hB).1 B 1 hb).trans h.c1,((iI hB).1 B 2 hb).trans h.c2,((iI hB).1 B 3 hb).trans h.c3,((iI hB).1 B 4 hb).trans h.c4⟩
theorem kJ.new(w:World)(p:Lv){t:TypeId}:kJ (w.alloc (.cells #[iV p.udp,iV p.echo,iV p.opening,iV p.opn,iV p.closing] t)) w.heap.size p:=⟨bW rfl,bW rfl,bW rfl,bW rfl,bW rfl⟩
end Go.Proofs.YtdkepkaflielhaaGreatDoor
/- SV4: what the specification's l01Is, l01Byte and V4Right answer. -/
namespace Go.Proofs.YtdkepkaflielhaaGreatDoor
open Go.RowKit Go.PlainAid
set_option linter.unusedVariables false
set_option linter.unusedSimpArgs false

theorem fD(n lo hi:Int)(w:World) :
  Cw 40 #[iV n,iV lo,iV hi] w (.bool (aM n lo hi)) := by
 by_cases h1:lo ≤ n
 ·by_cases h2:n ≤ hi
  ·have HV:Hid (aM n lo hi = true) := by unfold Hid aM;simp[h1,h2]
   go_enter Tryz.func40,Tryz.ntmps40
   go_wp2_with fail
   go_ret
   exact⟨aB (by rw[HV.out]),rfl⟩
  ·have HV:Hid (aM n lo hi = false) := by unfold Hid aM;simp[h2]
   go_enter Tryz.func40,Tryz.ntmps40
   go_wp2_with fail
   go_ret
   exact⟨aB (by rw[HV.out]),rfl⟩
 ·have HV:Hid (aM n lo hi = false) := by unfold Hid aM;simp[h1]
  have h1':n < lo := by omega
  go_enter Tryz.func40,Tryz.ntmps40
  go_wp2_with fail
  go_ret
  exact⟨aB (by rw[HV.out]),rfl⟩

theorem gU(n:Int)(w:World) :
  Cw 38 #[iV n] w (.bool (aM n 0 255)) := by
 have HC:Hid (∀W,Cw 40 #[iV n,iV 0,iV 255] W (.bool (aM n 0 255))) := fun W=>fD n 0 255 W
 generalize aM n 0 255 = b at *
 go_enter Tryz.func38,Tryz.ntmps38
 go_wp2_with fail
 refine(HC.out _).mono ?_
 rintro e w2 ⟨rfl,rfl⟩
 go_wp2_with fail
 go_ret
 exact⟨rfl,rfl⟩

set_option maxRecDepth 100000 in
set_option maxHeartbeats 2000000 in
theorem oX(p:P4)(w:World)(h1:p.src.size ≤ 1048576)(h2:p.dst.size ≤ 1048576)(h3:p.opts.size ≤ 1048576)(h4:p.data.size ≤ 1048576) :
  Cb 14 #[mD p] w (.bool (iX p)) := by
 have HB1:Hid (∀W,Cw 38 #[iV p.tos] W (.bool (aM p.tos 0 255))) := fun W=>gU p.tos W
 have HB2:Hid (∀W,Cw 38 #[iV p.ttl] W (.bool (aM p.ttl 0 255))) := fun W=>gU p.ttl W
 have HB3:Hid (∀W,Cw 38 #[iV p.UU] W (.bool (aM p.UU 0 255))) := fun W=>gU p.UU W
 have HB4:Hid (∀W,Cw 39 #[iV p.id] W (.bool (aM p.id 0 65535))) := fun W=>gH p.id W
 have HB5:Hid (∀W,Cw 40 #[iV p.off,iV 0,iV 8191] W (.bool (aM p.off 0 8191))) := fun W=>fD p.off 0 8191 W
 have HO:Hid (aM p.off 0 8191 = true → 0 ≤ p.off ∧ p.off ≤ 8191) := fun h=>eD h
 have HA:Hid (KT p = (aM p.tos 0 255 && aM p.ttl 0 255 && aM p.UU 0 255 && aM p.id 0 65535 && aM p.off 0 8191 && decide (p.src.size = 4) && decide (p.dst.size = 4))) := rfl
 have HF:Hid (KT p = false → iX p = false) := fun h=>by unfold iX;rw[h];rfl
 have HF2:Hid (KT p = true → LD p = false → iX p = false) := fun h h' =>by unfold iX;rw[h,h'];rfl
 have HF3:Hid (KT p = true → LD p = true → iX p = QZ p) := fun h h' =>by unfold iX;rw[h,h'];rfl
 have HBB:Hid (LD p = (decide (p.opts.size ≤ 40) && decide (p.opts.size % 4 = 0) && decide (p.data.size ≤ 1400) && !(p.more && !decide (p.data.size % 8 = 0)) && decide (8 * p.off + p.data.size ≤ 65515))) := rfl
 have HCC:Hid (QZ p = (!p.whole || (!p.more && decide (p.off = 0)))) := rfl
 generalize KT p = vA at *
 generalize LD p = vB at *
 generalize QZ p = vC at *
 generalize iX p = ok at *
 obtain⟨tos,id,whole,more,off,ttl,UU,src,dst,opts,data⟩:= p
 unfold mD
 dsimp only at *
 have HZ:Hid (Below w.heap.size w (w.alloc (.cells #[iV tos,iV id,.bool whole,.bool more,iV off,iV ttl,iV UU,.string src,.string dst,.string opts,.string data] 33))) := bR.alloc lR _
 cases b1:aM tos 0 255 with
 | false=>
  have HV:Hid (ok = false) := HF.out (by rw[HA.out,b1];simp)
  rw[b1]at HB1
  clear b1 HA HF HF2 HF3 HBB HCC HO
  go_enter Tryz.func14,Tryz.ntmps14
  go_wp2_with fail
  refine(HB1.out _).mono ?_
  rintro e w2 ⟨rfl,rfl⟩
  go_wp2_with fail
  go_ret
  exact⟨aB HV.out.symm,HZ.out⟩
 | true=>
  rw[b1]at HB1
  cases b2:aM ttl 0 255 with
  | false=>
   have HV:Hid (ok = false) := HF.out (by rw[HA.out,b2];simp)
   rw[b2]at HB2
   clear b2 HA HF HF2 HF3 HBB HCC HO
   go_enter Tryz.func14,Tryz.ntmps14
   go_wp2_with fail
   refine(HB1.out _).mono ?_
   rintro e w2 ⟨rfl,rfl⟩
   go_wp2_with fail
   refine(HB2.out _).mono ?_
   rintro e w2 ⟨rfl,rfl⟩
   go_wp2_with fail
   go_ret
   exact⟨aB HV.out.symm,HZ.out⟩
  | true=>
   rw[b2]at HB2
   cases b3:aM UU 0 255 with
   | false=>
    have HV:Hid (ok = false) := HF.out (by rw[HA.out,b3];simp)
    rw[b3]at HB3
    clear b3 HA HF HF2 HF3 HBB HCC HO
    go_enter Tryz.func14,Tryz.ntmps14
    go_wp2_with fail
    refine(HB1.out _).mono ?_
    rintro e w2 ⟨rfl,rfl⟩
    go_wp2_with fail
    refine(HB2.out _).mono ?_
    rintro e w2 ⟨rfl,rfl⟩
    go_wp2_with fail
    refine(HB3.out _).mono ?_
    rintro e w2 ⟨rfl,rfl⟩
    go_wp2_with fail
    go_ret
    exact⟨aB HV.out.symm,HZ.out⟩
   | true=>
    rw[b3]at HB3
    cases b4:aM id 0 65535 with
    | false=>
     have HV:Hid (ok = false) := HF.out (by rw[HA.out,b4];simp)
     rw[b4]at HB4
     clear b4 HA HF HF2 HF3 HBB HCC HO
     go_enter Tryz.func14,Tryz.ntmps14
     go_wp2_with fail
     refine(HB1.out _).mono ?_
     rintro e w2 ⟨rfl,rfl⟩
     go_wp2_with fail
     refine(HB2.out _).mono ?_
     rintro e w2 ⟨rfl,rfl⟩
     go_wp2_with fail
     refine(HB3.out _).mono ?_
     rintro e w2 ⟨rfl,rfl⟩
     go_wp2_with fail
     refine(HB4.out _).mono ?_
     rintro e w2 ⟨rfl,rfl⟩
     go_wp2_with fail
     go_ret
     exact⟨aB HV.out.symm,HZ.out⟩
    | true=>
     rw[b4]at HB4
     cases b5:aM off 0 8191 with
     | false=>
      have HV:Hid (ok = false) := HF.out (by rw[HA.out,b5];simp)
      rw[b5]at HB5
      clear b5 HA HF HF2 HF3 HBB HCC HO
      go_enter Tryz.func14,Tryz.ntmps14
      go_wp2_with fail
      refine(HB1.out _).mono ?_
      rintro e w2 ⟨rfl,rfl⟩
      go_wp2_with fail
      refine(HB2.out _).mono ?_
      rintro e w2 ⟨rfl,rfl⟩
      go_wp2_with fail
      refine(HB3.out _).mono ?_
      rintro e w2 ⟨rfl,rfl⟩
      go_wp2_with fail
      refine(HB4.out _).mono ?_
      rintro e w2 ⟨rfl,rfl⟩
      go_wp2_with fail
      refine(HB5.out _).mono ?_
      rintro e w2 ⟨rfl,rfl⟩
      go_wp2_with fail
      go_ret
      exact⟨aB HV.out.symm,HZ.out⟩
     | true=>
      rw[b5]at HB5
      obtain⟨o0,o1⟩:= HO.out b5
      by_cases s1:src.size = 4
      ·have ds1:((src.size:Int) != 4) = false := by simp;omega
       by_cases s2:dst.size = 4
       ·have ds2:((dst.size:Int) != 4) = false := by simp;omega
        have hA:vA = true := by rw[HA.out,b1,b2,b3,b4,b5,TT s1,TT s2];rfl
        have HG2:Hid (vB = false → ok = false) := HF2.out hA
        have HG3:Hid (vB = true → ok = vC) := HF3.out hA
        clear hA HA HF HF2 HF3 HO b1 b2 b3 b4 b5 s1 s2
        by_cases e0:opts.size ≤ 40
        ·have dT0:decide ((40:Int) < (opts.size:Int)) = false := by simp;omega
         by_cases e1:opts.size % 4 = 0
         ·have dT1:(((opts.size:Int) % 4) != 0) = false := by simp;omega
          by_cases e2:data.size ≤ 1400
          ·have dT2:decide ((1400:Int) < (data.size:Int)) = false := by simp;omega
           have em:(more && !decide (data.size % 8 = 0)) = false ∨ (more = true ∧ data.size % 8 ≠ 0) := by cases more <;> simp <;> omega
           rcases em with em|⟨rfl,em⟩
           ·have dm:more = true → (((data.size:Int) % 8) != 0) = false := fun h=>by rw[h]at em;simp at em;simp;omega
            by_cases e9:8 * off + data.size ≤ 65515
            ·have d9:decide ((65515:Int) < 8 * off + (data.size:Int)) = false := by simp;omega
             have HV:Hid (ok = (!whole || (!more && decide (off = 0)))) := by unfold Hid;rw[←HCC.out];exact HG3.out (by rw[HBB.out,em,TT e0,TT e1,TT e2,TT e9];rfl)
             clear HG2 HG3 HBB HCC em
             cases more with
             | false=>
              clear dm
              cases whole with
              | false=>
               go_enter Tryz.func14,Tryz.ntmps14
               go_wp2_with fail
               refine(HB1.out _).mono ?_
               rintro e w2 ⟨rfl,rfl⟩
               go_wp2_with fail
               refine(HB2.out _).mono ?_
               rintro e w2 ⟨rfl,rfl⟩
               go_wp2_with fail
               refine(HB3.out _).mono ?_
               rintro e w2 ⟨rfl,rfl⟩
               go_wp2_with fail
               refine(HB4.out _).mono ?_
               rintro e w2 ⟨rfl,rfl⟩
               go_wp2_with fail
               refine(HB5.out _).mono ?_
               rintro e w2 ⟨rfl,rfl⟩
               go_wp2_with fail
               go_ret
               exact⟨aB (by rw[HV.out];rfl),HZ.out⟩
              | true=>
               go_enter Tryz.func14,Tryz.ntmps14
               go_wp2_with fail
               refine(HB1.out _).mono ?_
               rintro e w2 ⟨rfl,rfl⟩
               go_wp2_with fail
               refine(HB2.out _).mono ?_
               rintro e w2 ⟨rfl,rfl⟩
               go_wp2_with fail
               refine(HB3.out _).mono ?_
               rintro e w2 ⟨rfl,rfl⟩
               go_wp2_with fail
               refine(HB4.out _).mono ?_
               rintro e w2 ⟨rfl,rfl⟩
               go_wp2_with fail
               refine(HB5.out _).mono ?_
               rintro e w2 ⟨rfl,rfl⟩
               go_wp2_with fail
               go_ret
               exact⟨aB (by rw[HV.out];rfl),HZ.out⟩
             | true=>
              have dm := dm rfl
              cases whole with
              | false=>
               go_enter Tryz.func14,Tryz.ntmps14
               go_wp2_with fail
               refine(HB1.out _).mono ?_
               rintro e w2 ⟨rfl,rfl⟩
               go_wp2_with fail
               refine(HB2.out _).mono ?_
               rintro e w2 ⟨rfl,rfl⟩
               go_wp2_with fail
               refine(HB3.out _).mono ?_
               rintro e w2 ⟨rfl,rfl⟩
               go_wp2_with fail
               refine(HB4.out _).mono ?_
               rintro e w2 ⟨rfl,rfl⟩
               go_wp2_with fail
               refine(HB5.out _).mono ?_
               rintro e w2 ⟨rfl,rfl⟩
               go_wp2_with fail
               go_ret
               exact⟨aB (by rw[HV.out];rfl),HZ.out⟩
              | true=>
               go_enter Tryz.func14,Tryz.ntmps14
               go_wp2_with fail
               refine(HB1.out _).mono ?_
               rintro e w2 ⟨rfl,rfl⟩
               go_wp2_with fail
               refine(HB2.out _).mono ?_
               rintro e w2 ⟨rfl,rfl⟩
               go_wp2_with fail
               refine(HB3.out _).mono ?_
               rintro e w2 ⟨rfl,rfl⟩
               go_wp2_with fail
               refine(HB4.out _).mono ?_
               rintro e w2 ⟨rfl,rfl⟩
               go_wp2_with fail
               refine(HB5.out _).mono ?_
               rintro e w2 ⟨rfl,rfl⟩
               go_wp2_with fail
               go_ret
               exact⟨aB (by rw[HV.out];rfl),HZ.out⟩
            ·have HV:Hid (ok = false) := HG2.out (by rw[HBB.out,TR e9];simp)
             have d9:decide ((65515:Int) < 8 * off + (data.size:Int)) = true := by simp;omega
             clear HG2 HG3 HBB HCC
             cases more with
             | false=>
              clear dm
              go_enter Tryz.func14,Tryz.ntmps14
              go_wp2_with fail
              refine(HB1.out _).mono ?_
              rintro e w2 ⟨rfl,rfl⟩
              go_wp2_with fail
              refine(HB2.out _).mono ?_
              rintro e w2 ⟨rfl,rfl⟩
              go_wp2_with fail
              refine(HB3.out _).mono ?_
              rintro e w2 ⟨rfl,rfl⟩
              go_wp2_with fail
              refine(HB4.out _).mono ?_
              rintro e w2 ⟨rfl,rfl⟩
              go_wp2_with fail
              refine(HB5.out _).mono ?_
              rintro e w2 ⟨rfl,rfl⟩
              go_wp2_with fail
              go_ret
              exact⟨aB HV.out.symm,HZ.out⟩
             | true=>
              have dm := dm rfl
              go_enter Tryz.func14,Tryz.ntmps14
              go_wp2_with fail
              refine(HB1.out _).mono ?_
              rintro e w2 ⟨rfl,rfl⟩
              go_wp2_with fail
              refine(HB2.out _).mono ?_
              rintro e w2 ⟨rfl,rfl⟩
              go_wp2_with fail
              refine(HB3.out _).mono ?_
              rintro e w2 ⟨rfl,rfl⟩
              go_wp2_with fail
              refine(HB4.out _).mono ?_
              rintro e w2 ⟨rfl,rfl⟩
              go_wp2_with fail
              refine(HB5.out _).mono ?_
              rintro e w2 ⟨rfl,rfl⟩
              go_wp2_with fail
              go_ret
              exact⟨aB HV.out.symm,HZ.out⟩
           ·have HV:Hid (ok = false) := HG2.out (by rw[HBB.out,TR em];simp)
            have dm:(((data.size:Int) % 8) != 0) = true := by simp;omega
            clear HG2 HG3 HBB HCC
            go_enter Tryz.func14,Tryz.ntmps14
            go_wp2_with fail
            refine(HB1.out _).mono ?_
            rintro e w2 ⟨rfl,rfl⟩
            go_wp2_with fail
            refine(HB2.out _).mono ?_
            rintro e w2 ⟨rfl,rfl⟩
            go_wp2_with fail
            refine(HB3.out _).mono ?_
            rintro e w2 ⟨rfl,rfl⟩
            go_wp2_with fail
            refine(HB4.out _).mono ?_
            rintro e w2 ⟨rfl,rfl⟩
            go_wp2_with fail
            refine(HB5.out _).mono ?_
            rintro e w2 ⟨rfl,rfl⟩
            go_wp2_with fail
            go_ret
            exact⟨aB HV.out.symm,HZ.out⟩
          ·have HV:Hid (ok = false) := HG2.out (by rw[HBB.out,TR e2];simp)
           have dF2:decide ((1400:Int) < (data.size:Int)) = true := by simp;omega
           clear HG2 HG3 HBB HCC
           go_enter Tryz.func14,Tryz.ntmps14
           go_wp2_with fail
           refine(HB1.out _).mono ?_
           rintro e w2 ⟨rfl,rfl⟩
           go_wp2_with fail
           refine(HB2.out _).mono ?_
           rintro e w2 ⟨rfl,rfl⟩
           go_wp2_with fail
           refine(HB3.out _).mono ?_
           rintro e w2 ⟨rfl,rfl⟩
           go_wp2_with fail
           refine(HB4.out _).mono ?_
           rintro e w2 ⟨rfl,rfl⟩
           go_wp2_with fail
           refine(HB5.out _).mono ?_
           rintro e w2 ⟨rfl,rfl⟩
           go_wp2_with fail
           go_ret
           exact⟨aB HV.out.symm,HZ.out⟩
         ·have HV:Hid (ok = false) := HG2.out (by rw[HBB.out,TR e1];simp)
          have dF1:(((opts.size:Int) % 4) != 0) = true := by simp;omega
          clear HG2 HG3 HBB HCC
          go_enter Tryz.func14,Tryz.ntmps14
          go_wp2_with fail
          refine(HB1.out _).mono ?_
          rintro e w2 ⟨rfl,rfl⟩
          go_wp2_with fail
          refine(HB2.out _).mono ?_
          rintro e w2 ⟨rfl,rfl⟩
          go_wp2_with fail
          refine(HB3.out _).mono ?_
          rintro e w2 ⟨rfl,rfl⟩
          go_wp2_with fail
          refine(HB4.out _).mono ?_
          rintro e w2 ⟨rfl,rfl⟩
          go_wp2_with fail
          refine(HB5.out _).mono ?_
          rintro e w2 ⟨rfl,rfl⟩
          go_wp2_with fail
          go_ret
          exact⟨aB HV.out.symm,HZ.out⟩
        ·have HV:Hid (ok = false) := HG2.out (by rw[HBB.out,TR e0];simp)
         have dF0:decide ((40:Int) < (opts.size:Int)) = true := by simp;omega
         clear HG2 HG3 HBB HCC
         go_enter Tryz.func14,Tryz.ntmps14
         go_wp2_with fail
         refine(HB1.out _).mono ?_
         rintro e w2 ⟨rfl,rfl⟩
         go_wp2_with fail
         refine(HB2.out _).mono ?_
         rintro e w2 ⟨rfl,rfl⟩
         go_wp2_with fail
         refine(HB3.out _).mono ?_
         rintro e w2 ⟨rfl,rfl⟩
         go_wp2_with fail
         refine(HB4.out _).mono ?_
         rintro e w2 ⟨rfl,rfl⟩
         go_wp2_with fail
         refine(HB5.out _).mono ?_
         rintro e w2 ⟨rfl,rfl⟩
         go_wp2_with fail
         go_ret
         exact⟨aB HV.out.symm,HZ.out⟩
       ·have HV:Hid (ok = false) := HF.out (by rw[HA.out,TR s2];simp)
        have hd:((dst.size:Int) != 4) = true := by simp;omega
        clear s2 HA HF HF2 HF3 HBB HCC HO
        go_enter Tryz.func14,Tryz.ntmps14
        go_wp2_with fail
        refine(HB1.out _).mono ?_
        rintro e w2 ⟨rfl,rfl⟩
        go_wp2_with fail
        refine(HB2.out _).mono ?_
        rintro e w2 ⟨rfl,rfl⟩
        go_wp2_with fail
        refine(HB3.out _).mono ?_
        rintro e w2 ⟨rfl,rfl⟩
        go_wp2_with fail
        refine(HB4.out _).mono ?_
        rintro e w2 ⟨rfl,rfl⟩
        go_wp2_with fail
        refine(HB5.out _).mono ?_
        rintro e w2 ⟨rfl,rfl⟩
        go_wp2_with fail
        go_ret
        exact⟨aB HV.out.symm,HZ.out⟩
      ·have HV:Hid (ok = false) := HF.out (by rw[HA.out,TR s1];simp)
       have hd:((src.size:Int) != 4) = true := by simp;omega
       clear s1 HA HF HF2 HF3 HBB HCC HO
       go_enter Tryz.func14,Tryz.ntmps14
       go_wp2_with fail
       refine(HB1.out _).mono ?_
       rintro e w2 ⟨rfl,rfl⟩
       go_wp2_with fail
       refine(HB2.out _).mono ?_
       rintro e w2 ⟨rfl,rfl⟩
       go_wp2_with fail
       refine(HB3.out _).mono ?_
       rintro e w2 ⟨rfl,rfl⟩
       go_wp2_with fail
       refine(HB4.out _).mono ?_
       rintro e w2 ⟨rfl,rfl⟩
       go_wp2_with fail
       refine(HB5.out _).mono ?_
       rintro e w2 ⟨rfl,rfl⟩
       go_wp2_with fail
       go_ret
       exact⟨aB HV.out.symm,HZ.out⟩

end Go.Proofs.YtdkepkaflielhaaGreatDoor
