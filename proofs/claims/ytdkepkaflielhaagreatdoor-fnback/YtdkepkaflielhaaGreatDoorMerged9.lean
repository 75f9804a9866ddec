import Derived.Test.YtdkepkaflielhaaGreatDoorMerged7
import Derived.Test.YtdkepkaflielhaaGreatDoorMerged6
set_option linter.unusedVariables false
set_option linter.unusedSimpArgs false
set_option maxRecDepth 100000
set_option maxHeartbeats 8000000
namespace Go.Proofs.YtdkepkaflielhaaGreatDoor
open Go.RowKit
structure Pl where
 VL:List BA
 low:Int
 high:Int
 most:Int
 filter:Int
 lv:Lv
def FA(a:OA)(cap:Nat)(p:Pl):List Value:=[.slice a p.VL.length cap,iV p.low,iV p.high,iV p.most,iV p.filter,iV p.lv.udp,iV p.lv.echo,iV p.lv.opening,iV p.lv.opn,iV p.lv.closing]
def iK(a:OA)(cap:Nat)(p:Pl):Value:=.agg #[.slice a p.VL.length cap,iV p.low,iV p.high,iV p.most,iV p.filter,iV p.lv.udp,iV p.lv.echo,iV p.lv.opening,iV p.lv.opn,iV p.lv.closing]
structure Bb where
 VN:List Bd
 VK:List Ss
def gP(a b:OA)(ca cb:Nat)(x:Bb):Value:=.agg #[.slice a x.VN.length ca,.slice b x.VK.length cb]
def cB(s:BA):List Value:=[.string s]
def eN(VF:Int):Bool:=decide (VF=6)||decide (VF=17)||decide (VF=1)
def mW(xs:List BA)(s:BA):Bool:=xs.any fun t=>decide (t.toList=s.toList)
def bD{α:Type}(f:α→Bool)(xs:List α):Int:=match xs.findIdx? f with | some i=>i | none=>-1
def cD(VF:Int)(s:BA)(port:Int)(q:Bd):Bool:=decide (q.VF=VF)&&decide (q.inn.toList=s.toList)&&decide (q.VH=port)
def cV(VF:Int)(s:BA)(port:Int)(q:Bd):Bool:=decide (q.VF=VF)&&decide (q.out.toList=s.toList)&&decide (q.VI=port)
def gR(p:Bd)(q:Ss):Bool:=decide (p.VF=q.VF)&&decide (p.inn.toList=q.inn.toList)&&decide (p.VH=q.VH)
def jT{α:Type}(f:List α→α→Bool)(xs:List α):Nat→Bool
 | 0=>true
 | n+1=>jT f xs n&&(match xs[n]? with | some x=>f (xs.take n) x | none=>true)
theorem lW{α:Type}{f:List α→α→Bool}{xs:List α}{n:Nat}(h:n < xs.length):jT f xs (n+1)=(jT f xs n&&f (xs.take n) xs[n]):=by
 show (jT f xs n&&_)=_;rw[UU h]
theorem zL{α:Type}{f:List α→α→Bool}{xs:List α}:∀ {m n:Nat},n≤m→jT f xs n=false→jT f xs m=false
 | 0,n,h,hf=>by have e:n=0:=(by omega);rw[e]at hf;exact hf
 | m+1,n,h,hf=>by
  by_cases e:n=m+1
  ·subst e;exact hf
  ·show (jT f xs m&&_)=false;rw[zL (m:=m) (n:=n) (by omega) hf];rfl
theorem rY{α:Type}{f:List α→α→Bool}{xs:List α}{i:Nat}(h:i < xs.length)(hf:f (xs.take i) xs[i]=false):jT f xs xs.length=false:=by
 refine zL (n:=i+1) (by omega) ?_;rw[lW h,hf,Bool.and_false]
def eV(ys:List BA)(s:BA):Bool:=decide (s.size=4)&&!mW ys s
def cU(p:Pl):Bool:=decide (1≤p.VL.length)&&decide (p.VL.length≤8)&&decide (1≤p.low)&&decide (p.low≤p.high)&&decide (p.high≤65535)&&aO p.most 1 60&&aO p.filter 0 2&&fT p.lv&&jT eV p.VL p.VL.length
def eJ(c b:Bd):Bool:=(decide (c.inn.toList=b.inn.toList)&&!decide (c.out.toList=b.out.toList))||(decide (c.VF=b.VF)&&((decide (c.inn.toList=b.inn.toList)&&decide (c.VH=b.VH))||(decide (c.out.toList=b.out.toList)&&decide (c.VI=b.VI))))
def cK(p:Pl)(ys:List Bd)(b:Bd):Bool:=eN b.VF&&cO b.inn&&jS b.VH&&mW p.VL b.out&&aO b.VI p.low p.high&&!ys.any fun c=>eJ c b
def gZ(s t:Ss):Bool:=decide (s.VF=t.VF)&&decide (s.inn.toList=t.inn.toList)&&decide (s.VH=t.VH)&&decide (s.peer.toList=t.peer.toList)&&decide (s.VG=t.VG)
def fX(bs:List Bd)(ys:List Ss)(s:Ss):Bool:=decide (s.peer.size=4)&&jS s.VG&&aO s.state 1 7&&(decide (s.VF=6)||decide (s.state=3))&&aO s.untl 0 2000000000&&decide (0≤bD (cD s.VF s.inn s.VH) bs)&&!ys.any fun t=>gZ s t
def fA(p:Pl)(b:Bb):Bool:=cU p&&decide ((b.VK.length:Int)≤p.most)&&decide (b.VN.length≤60)&&jT (cK p) b.VN b.VN.length&&jT (fX b.VN) b.VK b.VK.length&&b.VN.all fun x=>b.VK.any fun s=>gR x s
abbrev iM(a:OA)(c:Nat)(p:Pl)(d:OA)(e:Nat)(f:OA)(g:Nat)(x:Bb)(m n:Nat):List Value := [.slice a p.VL.length c,iV p.low,iV p.high,iV p.most,iV p.filter,iV p.lv.udp,iV p.lv.echo,iV p.lv.opening,iV p.lv.opn,iV p.lv.closing,.slice d x.VN.length e,.slice f x.VK.length g,.map (some m),.map (some n)]
abbrev bG(a:OA)(c:Nat)(p:Pl):List Value := [.slice a p.VL.length c,iV p.low,iV p.high,iV p.most,iV p.filter,iV p.lv.udp,iV p.lv.echo,iV p.lv.opening,iV p.lv.opn,iV p.lv.closing]
abbrev aX(d:OA)(e:Nat)(f:OA)(g:Nat)(x:Bb):List Value := [.slice d x.VN.length e,.slice f x.VK.length g]
open Go.PlainAid Go.ChangeShapes Go.WideShapes
structure qK(w:World)(B:Nat)(p:Bd):Prop where
 c0:w.cell? ⟨B,0,none⟩=some (iV p.VF)
 c1:w.cell? ⟨B,1,none⟩=some (.string p.inn)
 c2:w.cell? ⟨B,2,none⟩=some (iV p.VH)
 c3:w.cell? ⟨B,3,none⟩=some (.string p.out)
 c4:w.cell? ⟨B,4,none⟩=some (iV p.VI)
theorem qK.new(w:World)(p:Bd){t:TypeId}:qK (w.alloc (.cells (cZ p).toArray t)) w.heap.size p:=⟨bZ rfl,bZ rfl,bZ rfl,bZ rfl,bZ rfl⟩
theorem jW{α:Type}(f:α→Bool)(xs:List α)(i:Nat)(h:i < xs.length):(xs.take (i+1)).any f=((xs.take i).any f||f xs[i]):=by
 rw[List.take_succ_eq_append_getElem h,List.any_append];simp
theorem tF{α:Type}(f:α→Bool)(xs:List α)(i:Nat)(h:i < xs.length)(hf:f xs[i]=true):xs.any f=true:=List.any_eq_true.2 ⟨_,UJ h,hf⟩
theorem nS{α:Type}(f:α→Bool)(xs:List α)(i:Nat)(h:i < xs.length)(hn:(xs.take i).any f=false)(hf:f xs[i]=true):bD f xs=i:=by
 have:xs.findIdx? f=some i:=by
  rw[List.findIdx?_eq_some_iff_getElem];refine⟨h,hf,fun j hj=>?_⟩;have hjl:j < xs.length:=Nat.lt_trans hj h;have:=List.any_eq_false.1 hn (xs[j]) (by rw[List.mem_take_iff_getElem];exact⟨j,by omega,rfl⟩);simpa using this
 unfold bD;rw[this]
theorem pO{α:Type}(f:α→Bool)(xs:List α)(hn:xs.any f=false):bD f xs=-1:=by
 have:xs.findIdx? f=none:=by
  rw[List.findIdx?_eq_none_iff];intro x hx;have:=List.any_eq_false.1 hn x hx;simpa using this
 unfold bD;rw[this]
theorem sU(VF:Int)(w:World) :
  Cw 69 #[iV VF] w (.bool (eN VF)):=by
 have hun:undef=Value.tuple #[]:=rfl;by_cases h0:VF=6
 ·subst h0;go_enter Tryz.func69,Tryz.ntmps69
  go_wp2_with fail
  go_ret;exact⟨rfl,rfl⟩
 ·by_cases h1:VF=17
  ·subst h1;go_enter Tryz.func69,Tryz.ntmps69
   go_wp2_with fail
   go_ret;exact⟨rfl,rfl⟩
  ·by_cases h2:VF=1
   ·subst h2;go_enter Tryz.func69,Tryz.ntmps69
    go_wp2_with fail
    go_ret;exact⟨rfl,rfl⟩
   ·have HV:Hid (eN VF=false):=by unfold Hid eN;simp[h0,h1,h2]
    go_enter Tryz.func69,Tryz.ntmps69
    go_wp2_with fail
    go_ret;exact⟨aC (by rw[HV.out];simp[h0,h1,h2]),rfl⟩
theorem xD(xs:List BA)(s:BA)(a:OA)(cap:Nat)(w:World)(jD:xs.length≤1048576)(hr:bP cB 1 w a xs) :
  Cb 68 #[.slice a xs.length cap,.string s] w (.bool (mW xs s)):=by
 have HR:Hid (bP cB 1 w a xs):=hr;have HV:Hid (mW xs s=xs.any fun t=>decide (t.toList=s.toList)):=rfl;generalize mW xs s=ans at *;clear hr;go_enter Tryz.func68,Tryz.ntmps68
 go_wp2_with fail
 go_loopw [5] (fun iv wr=>∃i:Nat,i≤xs.length∧iv=iV i∧(xs.take i).any (fun t=>decide (t.toList=s.toList))=false∧Below w.heap.size w wr) (fun iv _=>xs.length-(intOf iv).toNat)
 case atStart=>exact⟨0,VC _,rfl,rfl,Below.refl _ _⟩
 case round=>
  obtain⟨i,hi,rfl,hn,hbel⟩:=hrel;have HN:Hid ((xs.take i).any (fun t=>decide (t.toList=s.toList))=false):=hn;have HL:Hid (Below w.heap.size w wr):=hbel;clear hn hbel;by_cases hlt:i < xs.length
  ·obtain⟨b,off,rfl,hb,hat⟩:=HR.out.at hlt;have hA:=(hat.below hb HL.out) i hlt;have HST:Hid _:=jW (fun t:BA=>decide (t.toList=s.toList)) xs i hlt;have HAT:Hid _:=tF (fun t:BA=>decide (t.toList=s.toList)) xs i hlt;obtain⟨t,ht⟩: ∃t,xs[i]=t:=⟨_,rfl⟩;rw[ht]at hA HST HAT;have c0:wr.cell? ⟨b,off+i,none⟩=some (.string t):=by have:=hA 0 _ rfl;simpa using this
   have c0':wr.cell? ⟨b,off+i*1,none⟩=some (.string t):=by simpa using c0
   clear hA hat ht;by_cases he:t.toList=s.toList
   ·have HX:Hid (ans=true):=by unfold Hid;rw[HV.out];exact HAT.out (UE he)
    have hbq:(t.toList==s.toList)=true:=by simp[he]
    clear he;go_wp2_with fail
    go_ret;exact⟨aC HX.out.symm,HL.out⟩
   ·have HN2:Hid ((xs.take (i+1)).any (fun t=>decide (t.toList=s.toList))=false):=by unfold Hid;rw[HST.out,HN.out,UD he];rfl
    have hbq:(t.toList==s.toList)=false:=by simp[he]
    clear he;go_wp2_with fail
    go_roundw
    case rel=>exact⟨i+1,by omega,by go_num,HN2.out,HL.out⟩
    case measure=>simp[intOf];omega
  ·have hie:i=xs.length:=by omega
   have HX:Hid (ans=false):=by unfold Hid;have:=HN.out;rw[hie,List.take_length]at this;rw[HV.out];exact this
   go_wp2_with fail
   go_ret;exact⟨aC HX.out.symm,HL.out⟩
theorem nC(xs:List Bd)(VF:Int)(s:BA)(port:Int)(a:OA)(cap:Nat)(sv:Value)(w:World)(jD:xs.length≤1048576)(hr:bP dP 5 w a xs) :
  Cb 33 #[.agg #[.slice a xs.length cap,sv],iV VF,.string s,iV port] w (iV (bD (cD VF s port) xs)):=by
 have HB0:Hid (aA (w.alloc (.cells [.slice a xs.length cap,sv].toArray 31)) w.heap.size [.slice a xs.length cap,sv]):=aA.new w _ _;have HZ:Hid (Below w.heap.size w (w.alloc (.cells [.slice a xs.length cap,sv].toArray 31))):=bR.alloc lR _;have HR:Hid (bP dP 5 (w.alloc (.cells [.slice a xs.length cap,sv].toArray 31)) a xs):=hr.below HZ.out;rw[show [.slice a xs.length cap,sv].toArray=#[.slice a xs.length cap,sv] from rfl]at HB0 HZ HR;obtain⟨f,hf⟩: ∃f,f=cD VF s port:=⟨_,rfl⟩;rw[←hf];have HF:Hid (∀q,f q=(decide (q.VF=VF)&&decide (q.inn.toList=s.toList)&&decide (q.VH=port))):=fun q=>by rw[hf];rfl
 clear hr hf;go_enter Tryz.func33,Tryz.ntmps33
 go_wp2_with fail
 generalize w.alloc (.cells #[.slice a xs.length cap,sv] 31)=W0 at *;have hX0:w.heap.size < W0.heap.size:=HB0.out.lt (by simp);generalize hX:w.heap.size=X at *;go_loopw [9] (fun iv wr=>∃i:Nat,i≤xs.length∧iv=iV i∧(xs.take i).any f=false∧Below W0.heap.size W0 wr) (fun iv _=>xs.length-(intOf iv).toNat)
 case atStart=>exact⟨0,VC _,rfl,rfl,Below.refl _ _⟩
 case round=>
  obtain⟨i,hi,rfl,hn,hbel⟩:=hrel;have HN:Hid ((xs.take i).any f=false):=hn;have HL:Hid (Below W0.heap.size W0 wr):=hbel;have HW:Hid _:=HZ.out.trans (hbel.mono (by omega));have x0:wr.cell? ⟨X,0,none⟩=some (.slice a xs.length cap):=(HB0.out.kept (by simp) hbel).cell rfl;clear hn hbel;by_cases hlt:i < xs.length
  ·obtain⟨b,off,rfl,hb,hat⟩:=HR.out.at hlt;have hA:=(hat.below hb HL.out) i hlt;have HST:Hid _:=jW f xs i hlt;have HAT:Hid _:=nS f xs i hlt HN.out;obtain⟨q,hq⟩: ∃q,xs[i]=q:=⟨_,rfl⟩;rw[hq]at hA HST HAT;have hfq:=HF.out q;obtain⟨c0,c1,c2,c3,c4⟩:=LH hA;have HFQ:Hid _:=hfq;have L8:Hid (Below W0.heap.size W0 (wr.alloc (.cells (cZ q).toArray 48))):=HL.out.alloc HL.out.size _;have W8:Hid (Below X w (wr.alloc (.cells (cZ q).toArray 48))):=HW.out.alloc (by have:=HL.out.size;omega) _;have K8:Hid (qK (wr.alloc (.cells (cZ q).toArray 48)) wr.heap.size q):=qK.new wr q;clear hA hat hq hfq;go_upto_region 5 with fail
   clear c0 c1 c2 c3 c4 x0 HL HW;generalize wr.alloc (.cells (cZ q).toArray 48)=V8 at *;generalize wr.heap.size=Y at *;obtain⟨k0,k1,k2,k3,k4⟩:=K8.out;go_cut [38] (fun v wx=>v=.bool (f q)∧wx=V8)
   case first=>
    by_cases d0:q.VF=VF
    ·by_cases d1:q.inn.toList=s.toList
     ·by_cases d2:q.VH=port
      ·have HG:Hid (f q=true):=by unfold Hid;rw[HFQ.out,UE d0,UE d1,UE d2];rfl
       go_wp2_with fail
       go_meet;rw[HG.out];first | exact⟨rfl,rfl⟩ | simp[d2]
      ·have HG:Hid (f q=false):=by unfold Hid;rw[HFQ.out,UE d0,UE d1,UD d2];rfl
       go_wp2_with fail
       go_meet;rw[HG.out];first | exact⟨rfl,rfl⟩ | simp[d2]
     ·have HG:Hid (f q=false):=by unfold Hid;rw[HFQ.out,UD d1];simp
      go_wp2_with fail
      go_meet;rw[HG.out];first | exact⟨rfl,rfl⟩ | simp[d1]
    ·have HG:Hid (f q=false):=by unfold Hid;rw[HFQ.out,UD d0];simp
     go_wp2_with fail
     go_meet;rw[HG.out];first | exact⟨rfl,rfl⟩ | simp[d0]
   case rest=>
   obtain⟨rfl,rfl⟩:=hcut;clear k0 k1 k2 k3 k4
   cases hfq:f q with
   | true=>
    have HX:Hid (bD f xs=(i:Int)):=HAT.out hfq;go_wp2_with fail
    go_ret;exact⟨aK HX.out.symm,by rw[hX];exact W8.out⟩
   | false=>
    have HN2:Hid ((xs.take (i+1)).any f=false):=by unfold Hid;rw[HST.out,HN.out,hfq];rfl
    go_wp2_with fail
    go_roundw
    case rel=>exact⟨i+1,by omega,by go_num,HN2.out,L8.out⟩
    case measure=>simp[intOf];omega
  ·have hie:i=xs.length:=by omega
   have HX:Hid (bD f xs=-1):=by unfold Hid;have:=HN.out;rw[hie,List.take_length]at this;exact pO f xs this
   go_wp2_with fail
   go_ret;exact⟨aK HX.out.symm,by rw[hX];exact HW.out⟩
theorem EF(xs:List Bd)(VF:Int)(s:BA)(port:Int)(a:OA)(cap:Nat)(sv:Value)(w:World)(jD:xs.length≤1048576)(hr:bP dP 5 w a xs) :
  Cb 156 #[.agg #[.slice a xs.length cap,sv],iV VF,.string s,iV port] w (iV (bD (cV VF s port) xs)):=by
 have HB0:Hid (aA (w.alloc (.cells [.slice a xs.length cap,sv].toArray 31)) w.heap.size [.slice a xs.length cap,sv]):=aA.new w _ _;have HZ:Hid (Below w.heap.size w (w.alloc (.cells [.slice a xs.length cap,sv].toArray 31))):=bR.alloc lR _;have HR:Hid (bP dP 5 (w.alloc (.cells [.slice a xs.length cap,sv].toArray 31)) a xs):=hr.below HZ.out;rw[show [.slice a xs.length cap,sv].toArray=#[.slice a xs.length cap,sv] from rfl]at HB0 HZ HR;obtain⟨f,hf⟩: ∃f,f=cV VF s port:=⟨_,rfl⟩;rw[←hf];have HF:Hid (∀q,f q=(decide (q.VF=VF)&&decide (q.out.toList=s.toList)&&decide (q.VI=port))):=fun q=>by rw[hf];rfl
 clear hr hf;go_enter Tryz.func156,Tryz.ntmps156
 go_wp2_with fail
 generalize w.alloc (.cells #[.slice a xs.length cap,sv] 31)=W0 at *;have hX0:w.heap.size < W0.heap.size:=HB0.out.lt (by simp);generalize hX:w.heap.size=X at *;go_loopw [9] (fun iv wr=>∃i:Nat,i≤xs.length∧iv=iV i∧(xs.take i).any f=false∧Below W0.heap.size W0 wr) (fun iv _=>xs.length-(intOf iv).toNat)
 case atStart=>exact⟨0,VC _,rfl,rfl,Below.refl _ _⟩
 case round=>
  obtain⟨i,hi,rfl,hn,hbel⟩:=hrel;have HN:Hid ((xs.take i).any f=false):=hn;have HL:Hid (Below W0.heap.size W0 wr):=hbel;have HW:Hid _:=HZ.out.trans (hbel.mono (by omega));have x0:wr.cell? ⟨X,0,none⟩=some (.slice a xs.length cap):=(HB0.out.kept (by simp) hbel).cell rfl;clear hn hbel;by_cases hlt:i < xs.length
  ·obtain⟨b,off,rfl,hb,hat⟩:=HR.out.at hlt;have hA:=(hat.below hb HL.out) i hlt;have HST:Hid _:=jW f xs i hlt;have HAT:Hid _:=nS f xs i hlt HN.out;obtain⟨q,hq⟩: ∃q,xs[i]=q:=⟨_,rfl⟩;rw[hq]at hA HST HAT;have hfq:=HF.out q;obtain⟨c0,c1,c2,c3,c4⟩:=LH hA;have HFQ:Hid _:=hfq;have L8:Hid (Below W0.heap.size W0 (wr.alloc (.cells (cZ q).toArray 48))):=HL.out.alloc HL.out.size _;have W8:Hid (Below X w (wr.alloc (.cells (cZ q).toArray 48))):=HW.out.alloc (by have:=HL.out.size;omega) _;have K8:Hid (qK (wr.alloc (.cells (cZ q).toArray 48)) wr.heap.size q):=qK.new wr q;clear hA hat hq hfq;go_upto_region 5 with fail
   clear c0 c1 c2 c3 c4 x0 HL HW;generalize wr.alloc (.cells (cZ q).toArray 48)=V8 at *;generalize wr.heap.size=Y at *;obtain⟨k0,k1,k2,k3,k4⟩:=K8.out;go_cut [38] (fun v wx=>v=.bool (f q)∧wx=V8)
   case first=>
    by_cases d0:q.VF=VF
    ·by_cases d1:q.out.toList=s.toList
     ·by_cases d2:q.VI=port
      ·have HG:Hid (f q=true):=by unfold Hid;rw[HFQ.out,UE d0,UE d1,UE d2];rfl
       go_wp2_with fail
       go_meet;rw[HG.out];first | exact⟨rfl,rfl⟩ | simp[d2]
      ·have HG:Hid (f q=false):=by unfold Hid;rw[HFQ.out,UE d0,UE d1,UD d2];rfl
       go_wp2_with fail
       go_meet;rw[HG.out];first | exact⟨rfl,rfl⟩ | simp[d2]
     ·have HG:Hid (f q=false):=by unfold Hid;rw[HFQ.out,UD d1];simp
      go_wp2_with fail
      go_meet;rw[HG.out];first | exact⟨rfl,rfl⟩ | simp[d1]
    ·have HG:Hid (f q=false):=by unfold Hid;rw[HFQ.out,UD d0];simp
     go_wp2_with fail
     go_meet;rw[HG.out];first | exact⟨rfl,rfl⟩ | simp[d0]
   case rest=>
   obtain⟨rfl,rfl⟩:=hcut;clear k0 k1 k2 k3 k4
   cases hfq:f q with
   | true=>
    have HX:Hid (bD f xs=(i:Int)):=HAT.out hfq;go_wp2_with fail
    go_ret;exact⟨aK HX.out.symm,by rw[hX];exact W8.out⟩
   | false=>
    have HN2:Hid ((xs.take (i+1)).any f=false):=by unfold Hid;rw[HST.out,HN.out,hfq];rfl
    go_wp2_with fail
    go_roundw
    case rel=>exact⟨i+1,by omega,by go_num,HN2.out,L8.out⟩
    case measure=>simp[intOf];omega
  ·have hie:i=xs.length:=by omega
   have HX:Hid (bD f xs=-1):=by unfold Hid;have:=HN.out;rw[hie,List.take_length]at this;exact pO f xs this
   go_wp2_with fail
   go_ret;exact⟨aK HX.out.symm,by rw[hX];exact HW.out⟩
structure QD(w:World)(B:Nat)(p:Ss):Prop where
 c0:w.cell? ⟨B,0,none⟩=some (iV p.VF)
 c1:w.cell? ⟨B,1,none⟩=some (.string p.inn)
 c2:w.cell? ⟨B,2,none⟩=some (iV p.VH)
 c3:w.cell? ⟨B,3,none⟩=some (.string p.peer)
 c4:w.cell? ⟨B,4,none⟩=some (iV p.VG)
 c5:w.cell? ⟨B,5,none⟩=some (iV p.state)
 c6:w.cell? ⟨B,6,none⟩=some (iV p.untl)
def lB:Bd:=⟨0,⟨#[]⟩,0,⟨#[]⟩,0⟩
def kF(f:Bd→Bool)(xs:List Bd)(s:BA):Bd:=if 20000 < s.size then lB else (xs.find? f).getD lB
theorem nR(f:Bd→Bool)(xs:List Bd)(h:¬bD f xs < 0):∃i:Nat,∃hi:i < xs.length,bD f xs=i∧xs.find? f=some xs[i]:=by
 unfold bD at *
 cases hf:xs.findIdx? f with
 | none=>rw[hf]at h;exact absurd (by decide) h
 | some i=>
  obtain⟨hi,hfi,hn⟩:=List.findIdx?_eq_some_iff_getElem.1 hf;exact⟨i,hi,rfl,List.find?_eq_some_iff_getElem.2 ⟨hfi,i,hi,rfl,fun j hj=>by simpa using hn j hj⟩⟩
theorem vO(f:Bd→Bool)(xs:List Bd)(h:bD f xs < 0):xs.find? f=none:=by
 unfold bD at h
 cases hf:xs.findIdx? f with
 | none=>exact List.find?_eq_none.2 (fun x hx=>by have:=List.findIdx?_eq_none_iff.1 hf x hx;simp[this])
 | some i=>rw[hf]at h;simp only at h;omega
theorem xI(xs:List Bd)(VF:Int)(s:BA)(port:Int)(a:OA)(cap:Nat)(sv:Value)(w:World)(jD:xs.length≤1048576)(hr:bP dP 5 w a xs) :
  Cb 11 #[.agg #[.slice a xs.length cap,sv],iV VF,.string s,iV port] w (gW (kF (cD VF s port) xs s)):=by
 have HB0:Hid (aA (w.alloc (.cells #[.slice a xs.length cap,sv] 31)) w.heap.size [.slice a xs.length cap,sv]):=aA.new w _ _;rw[show [.slice a xs.length cap,sv].toArray=#[.slice a xs.length cap,sv] from rfl]at HB0;have HZ0:Hid (Below w.heap.size w (w.alloc (.cells #[.slice a xs.length cap,sv] 31))):=bR.alloc lR _;have HRB:Hid (aA ((aW w [.slice a xs.length cap,sv] 31).alloc (.cells (dP lB).toArray 48)) (w.alloc (.cells #[.slice a xs.length cap,sv] 31)).heap.size (dP lB)):=aA.new _ _ _;rw[show (dP lB).toArray=(gB 0 ⟨#[]⟩ 0 ⟨#[]⟩ 0).toArray from rfl]at HRB;have HB1:Hid (aA ((aW w [.slice a xs.length cap,sv] 31).alloc (.cells (gB 0 ⟨#[]⟩ 0 ⟨#[]⟩ 0).toArray 48)) w.heap.size [.slice a xs.length cap,sv]):=HB0.out.alloc _;have HZ:Hid (Below w.heap.size w ((aW w [.slice a xs.length cap,sv] 31).alloc (.cells (gB 0 ⟨#[]⟩ 0 ⟨#[]⟩ 0).toArray 48))):=HZ0.out.alloc HZ0.out.size _;rw[UC]at HRB;have hRw:w.heap.size≤w.heap.size+1:=Nat.le_succ _;have HSI:Hid (bP dP 5 ((aW w [.slice a xs.length cap,sv] 31).alloc (.cells (gB 0 ⟨#[]⟩ 0 ⟨#[]⟩ 0).toArray 48)) a xs):=hr.below HZ.out;have HC:Hid (∀W,bP dP 5 W a xs→Cb 33 #[.agg #[.slice a xs.length cap,sv],iV VF,.string s,iV port] W (iV (bD (cD VF s port) xs))):=fun W hW=>nC xs VF s port a cap sv W jD hW
 have HV:Hid (kF (cD VF s port) xs s=if 20000 < s.size then lB else (xs.find? (cD VF s port)).getD lB):=rfl;generalize kF (cD VF s port) xs s=ans at *;generalize cD VF s port=f at *;clear hr HB0 HZ0;obtain⟨b0,b1⟩: _∧_:=⟨HB1.out.cell (j:=0) rfl,HB1.out.cell (j:=1) rfl⟩;go_enter Tryz.func11,Tryz.ntmps11
 go_wp2_with fail
 generalize World.alloc _ _=W0 at *;refine(HC.out W0 HSI.out).mono ?_;rintro e w1 ⟨rfl,q1⟩;have HW:Hid _:=HZ.out.trans (q1.mono HZ.out.size);have HB2:=HB1.out.kept (by simp) q1;have HR2:=HRB.out.kept (by simp[dP]) q1;have HS2:Hid (bP dP 5 w1 a xs):=HSI.out.below q1;clear b0 b1 HZ HC HSI q1;have b0:=HB2.cell (j:=0) rfl;have z0:=HR2.cell (j:=0) rfl;have zf0:=HR2.free (j:=0) (by simp[dP]);have z1:=HR2.cell (j:=1) rfl;have zf1:=HR2.free (j:=1) (by simp[dP]);have z2:=HR2.cell (j:=2) rfl;have zf2:=HR2.free (j:=2) (by simp[dP]);have z3:=HR2.cell (j:=3) rfl;have zf3:=HR2.free (j:=3) (by simp[dP]);have z4:=HR2.cell (j:=4) rfl;have zf4:=HR2.free (j:=4) (by simp[dP]);have PF:Hid (∀v0 v1 v2 v3 v4,Below w.heap.size w ((sW (sW (sW (sW w1 (w.heap.size+1) 0 v0) (w.heap.size+1) 1 v1) (w.heap.size+1) 2 v2) (w.heap.size+1) 3 v3).setCell ⟨w.heap.size+1,4,none⟩ v4)):=fun v0 v1 v2 v3 v4=>(((((HW.out.setCell (p:=⟨w.heap.size+1,0,none⟩) hRw v0).setCell (p:=⟨w.heap.size+1,1,none⟩) hRw v1).setCell (p:=⟨w.heap.size+1,2,none⟩) hRw v2).setCell (p:=⟨w.heap.size+1,3,none⟩) hRw v3).setCell (p:=⟨w.heap.size+1,4,none⟩) hRw v4)
 clear HB1 HRB HB2 HR2;by_cases hk:bD f xs < 0
 ·have HX:Hid (ans=lB):=by unfold Hid;rw[HV.out,vO f xs hk];split<;>rfl
  generalize bD f xs=k at *;go_wp2_with fail
  refine VB (v:=.agg (gB 0 ⟨#[]⟩ 0 ⟨#[]⟩ 0).toArray) (by simp[results,Tryz.results11,go_sem,z0,z1,z2,z3,z4]) rfl (And.intro (congrArg (fun x=>Ending.returned (gW x)) HX.out.symm) (PF.out _ _ _ _ _))
 ·obtain⟨i,hi,hfi,hfd⟩:=nR f xs hk;rw[hfi];clear hk hfi;by_cases hs:20000 < s.size
  ·have HX:Hid (ans=lB):=by unfold Hid;rw[HV.out,if_pos hs]
   have hs':(20000:Int) < (s.size:Int):=by omega
   go_wp2_with fail
   refine VB (v:=.agg (gB 0 ⟨#[]⟩ 0 ⟨#[]⟩ 0).toArray) (by simp[results,Tryz.results11,go_sem,z0,z1,z2,z3,z4]) rfl (And.intro (congrArg (fun x=>Ending.returned (gW x)) HX.out.symm) (PF.out _ _ _ _ _))
  ·obtain⟨b,off,rfl,hb,hat⟩:=HS2.out.at hi;have hA:=hat i hi;obtain⟨q,hq⟩: ∃q,xs[i]=q:=⟨_,rfl⟩;rw[hq]at hA hfd;have HX:Hid (ans=q):=by unfold Hid;rw[HV.out,if_neg hs,hfd];rfl
   obtain⟨c0,c1,c2,c3,c4⟩:=LH hA;have hs':¬(20000:Int) < (s.size:Int):=by omega
   clear hA hat hq hfd;go_wp2_with fail
   refine VB (v:=.agg (cZ q).toArray) (by simp[results,Tryz.results11,go_sem,z0,z1,z2,z3,z4]) rfl (And.intro (congrArg (fun x=>Ending.returned (gW x)) HX.out.symm) (PF.out _ _ _ _ _))
theorem tR(p:Bd)(q:Ss)(w:World) :
  Cb 37 #[gW p,xL q] w (.bool (gR p q)):=by
 have HV:Hid (gR p q=(decide (p.VF=q.VF)&&decide (p.inn.toList=q.inn.toList)&&decide (p.VH=q.VH))):=rfl;generalize gR p q=ans at *;obtain⟨VF,inn,VH,out,VI⟩:=p;obtain⟨proto',inn',inPort',peer',peerPort',state',untl'⟩:=q;unfold gW xL;dsimp only at *;have HZ:Hid (∀o1 o2,Below w.heap.size w ((w.alloc o1).alloc o2)):=fun o1 o2=>(bR.alloc lR _).alloc (by simp) _
 go_enter Tryz.func37,Tryz.ntmps37
 go_wp2_with fail
 all_goals go_ret
 all_goals exact⟨aC (by rw[HV.out];simp_all;try rfl),HZ.out _ _⟩
theorem mL(s:BA):(cB s).length=1:=rfl
section
variable {H:Type} {enc:TypeId × Value→H} {w:World} {base:Nat} {spare:Nat→Bool} {held:Bool}
end
structure kM(w:World)(B:Nat)(p:Lv):Prop where
 c0:w.cell? ⟨B,0,none⟩=some (iV p.udp)
 c1:w.cell? ⟨B,1,none⟩=some (iV p.echo)
 c2:w.cell? ⟨B,2,none⟩=some (iV p.opening)
 c3:w.cell? ⟨B,3,none⟩=some (iV p.opn)
 c4:w.cell? ⟨B,4,none⟩=some (iV p.closing)
theorem kM.kept{w W:World}{B:Nat}{p:Lv}(h:kM w B p)(hB:Below w.heap.size w W):kM W B p:=by
 have hb:=US w _ h.c0;exact⟨((iO hB).1 B 0 hb).trans h.c0,((iO hB).1 B 1 hb).trans h.c1,((iO hB).1 B 2 hb).trans h.c2,((iO hB).1 B 3 hb).trans h.c3,((iO hB).1 B 4 hb).trans h.c4⟩
theorem kM.new(w:World)(p:Lv){t:TypeId}:kM (w.alloc (.cells #[iV p.udp,iV p.echo,iV p.opening,iV p.opn,iV p.closing] t)) w.heap.size p:=⟨bZ rfl,bZ rfl,bZ rfl,bZ rfl,bZ rfl⟩
theorem KA:((List.range 256).all fun n=>decide ((bits .and .i64 (n:Int) 22=2)↔(eE (n:Int) 2=true∧eE (n:Int) 4=false∧eE (n:Int) 16=false)))=true:=by kernel_rfl
theorem CX{VM:Int}(h:aO VM 0 255=true):(eE VM 2=true∧eE VM 4=false∧eE VM 16=false)=(bits .and .i64 VM 22=2):=by
 unfold aO at h;simp only[UB,decide_eq_true_eq]at h;obtain⟨n,rfl⟩:=UK h.1;have:=List.all_eq_true.1 KA n (List.mem_range.2 (by omega));exact propext (decide_eq_true_eq.mp this).symm
theorem PB(VF state:Int)(VJ:Bool)(VM:Int)(hs:dF VF=false)(hp:VF=6)(hb:aO state 1 7=true)(hc:aO VM 0 255=true):aY VF state VJ VM=(
  if eE VM 4=true then 7
  else if state=1 then (if VJ=false∧eE VM 2=true then 3 else 1)
  else if state=2 then (if VJ=true∧eE VM 2=true then 3 else 2)
  else if state=3 then (if eE VM 1=true then (if VJ=true then 4 else 5) else 3)
  else if state=4 then (if VJ=false∧eE VM 1=true then 6 else 4)
  else if state=5 then (if VJ=true∧eE VM 1=true then 6 else 5)
  else if state=7 then 3 else state):=by
 unfold aY;rw[if_neg (by rw[hs];decide),if_pos ⟨hp,hb,hc⟩]
theorem rE(l:Lv)(w:World) :
  Cb 67 #[yI l] w (.bool (fT l)):=by
 have HC0:Hid (∀W,Cw 40 #[iV l.udp,iV 1,iV 10000] W (.bool (aO l.udp 1 10000))):=fun W=>fD _ _ _ W
 have HC1:Hid (∀W,Cw 40 #[iV l.echo,iV 1,iV 10000] W (.bool (aO l.echo 1 10000))):=fun W=>fD _ _ _ W
 have HC2:Hid (∀W,Cw 40 #[iV l.opening,iV 1,iV 10000] W (.bool (aO l.opening 1 10000))):=fun W=>fD _ _ _ W
 have HC3:Hid (∀W,Cw 40 #[iV l.opn,iV 1,iV 10000] W (.bool (aO l.opn 1 10000))):=fun W=>fD _ _ _ W
 have HC4:Hid (∀W,Cw 40 #[iV l.closing,iV 1,iV 10000] W (.bool (aO l.closing 1 10000))):=fun W=>fD _ _ _ W
 have HV:Hid (fT l=(aO l.udp 1 10000&&aO l.echo 1 10000&&aO l.opening 1 10000&&aO l.opn 1 10000&&aO l.closing 1 10000)):=rfl;generalize fT l=ans at *;generalize aO l.udp 1 10000=b0 at *;generalize aO l.echo 1 10000=b1 at *;generalize aO l.opening 1 10000=b2 at *;generalize aO l.opn 1 10000=b3 at *;generalize aO l.closing 1 10000=b4 at *;have HZ:Hid (Below w.heap.size w (w.alloc (.cells #[iV l.udp,iV l.echo,iV l.opening,iV l.opn,iV l.closing] 25))):=bR.alloc lR _;unfold yI;go_enter Tryz.func67,Tryz.ntmps67
 go_wp2_with fail
 cases b0 with
 | false=>
  refine(HC0.out _).mono ?_;rintro e w0 ⟨rfl,rfl⟩;go_wp2_with fail
  go_ret;exact⟨aC (by rw[HV.out];rfl),HZ.out⟩
 | true=>
  refine(HC0.out _).mono ?_;rintro e w0 ⟨rfl,rfl⟩;go_wp2_with fail
  cases b1 with
  | false=>
   refine(HC1.out _).mono ?_;rintro e w1 ⟨rfl,rfl⟩;go_wp2_with fail
   go_ret;exact⟨aC (by rw[HV.out];rfl),HZ.out⟩
  | true=>
   refine(HC1.out _).mono ?_;rintro e w1 ⟨rfl,rfl⟩;go_wp2_with fail
   cases b2 with
   | false=>
    refine(HC2.out _).mono ?_;rintro e w2 ⟨rfl,rfl⟩;go_wp2_with fail
    go_ret;exact⟨aC (by rw[HV.out];rfl),HZ.out⟩
   | true=>
    refine(HC2.out _).mono ?_;rintro e w2 ⟨rfl,rfl⟩;go_wp2_with fail
    cases b3 with
    | false=>
     refine(HC3.out _).mono ?_;rintro e w3 ⟨rfl,rfl⟩;go_wp2_with fail
     go_ret;exact⟨aC (by rw[HV.out];rfl),HZ.out⟩
    | true=>
     refine(HC3.out _).mono ?_;rintro e w3 ⟨rfl,rfl⟩;go_wp2_with fail
     cases b4 with
     | false=>
      refine(HC4.out _).mono ?_;rintro e w4 ⟨rfl,rfl⟩;go_wp2_with fail
      go_ret;exact⟨aC (by rw[HV.out];rfl),HZ.out⟩
     | true=>
      refine(HC4.out _).mono ?_;rintro e w4 ⟨rfl,rfl⟩;go_wp2_with fail
      go_ret;exact⟨aC (by rw[HV.out];rfl),HZ.out⟩
theorem rF(VF:Int)(w:World) :
  Cw 179 #[iV VF] w (.bool (dF VF)):=by
 by_cases h1:VF=17
 ·have HV:Hid (dF VF=true):=by unfold Hid dF;simp[h1]
  go_enter Tryz.func179,Tryz.ntmps179
  go_wp2_with fail
  go_ret;exact⟨aC HV.out.symm,rfl⟩
 ·by_cases h2:VF=1
  ·have HV:Hid (dF VF=true):=by unfold Hid dF;simp[h2]
   go_enter Tryz.func179,Tryz.ntmps179
   go_wp2_with fail
   go_ret;exact⟨aC HV.out.symm,rfl⟩
  ·have HV:Hid (dF VF=false):=by unfold Hid dF;simp[h1,h2]
   go_enter Tryz.func179,Tryz.ntmps179
   go_wp2_with fail
   go_ret;exact⟨aC (by rw[HV.out];simp[h1,h2]),rfl⟩
theorem BN(VF state:Int)(VJ:Bool)(VM:Int)(w:World) :
  Cw 160 #[iV VF,iV state,.bool VJ,iV VM] w (iV (aY VF state VJ VM)):=by
 have HA:Hid (∀W,Cw 179 #[iV VF] W (.bool (dF VF))):=fun W=>rF _ W
 have HB:Hid (∀W,Cw 40 #[iV state,iV 1,iV 7] W (.bool (aO state 1 7))):=fun W=>fD _ _ _ W
 have HC:Hid (∀W,Cw 38 #[iV VM] W (.bool (aO VM 0 255))):=fun W=>iT _ W
 have HV:Hid (aY VF state VJ VM=aY VF state VJ VM):=rfl
 cases hs:dF VF with
 | true=>
  have HX:Hid (aY VF state VJ VM=3):=by unfold Hid aY;rw[if_pos hs]
  rw[hs]at HA;clear hs;go_enter Tryz.func160,Tryz.ntmps160
  go_wp2_with fail
  refine(HA.out _).mono ?_;rintro e w1 ⟨rfl,rfl⟩;go_wp2_with fail
  go_ret;exact⟨aK HX.out.symm,rfl⟩
 | false=>
  rw[hs]at HA;have HS:Hid (dF VF=false):=hs;clear hs;by_cases hp:VF=6
  ·subst hp
   cases hb:aO state 1 7 with
   | false=>
    have HX:Hid (aY 6 state VJ VM=0):=by unfold Hid aY;rw[if_neg (by rw[HS.out];decide),if_neg (by rw[hb];simp)]
    rw[hb]at HB;clear hb;go_enter Tryz.func160,Tryz.ntmps160
    go_wp2_with fail
    refine(HA.out _).mono ?_;rintro e w1 ⟨rfl,rfl⟩;go_wp2_with fail
    refine(HB.out _).mono ?_;rintro e w1 ⟨rfl,rfl⟩;go_wp2_with fail
    go_ret;exact⟨aK HX.out.symm,rfl⟩
   | true=>
    cases hc:aO VM 0 255 with
    | false=>
     have HX:Hid (aY 6 state VJ VM=0):=by unfold Hid aY;rw[if_neg (by rw[HS.out];decide),if_neg (by rw[hc];simp)]
     rw[hb]at HB;rw[hc]at HC;clear hb hc;go_enter Tryz.func160,Tryz.ntmps160
     go_wp2_with fail
     refine(HA.out _).mono ?_;rintro e w1 ⟨rfl,rfl⟩;go_wp2_with fail
     refine(HB.out _).mono ?_;rintro e w1 ⟨rfl,rfl⟩;go_wp2_with fail
     refine(HC.out _).mono ?_;rintro e w1 ⟨rfl,rfl⟩;go_wp2_with fail
     go_ret;exact⟨aK HX.out.symm,rfl⟩
    | true=>
     have HX:Hid _:=PB 6 state VJ VM HS.out rfl hb hc;rw[hb]at HB;rw[hc]at HC;have hr:state=1∨state=2∨state=3∨state=4∨state=5∨state=6∨state=7:=by
      unfold aO at hb;simp only[UB,decide_eq_true_eq]at hb;omega
     clear hb hc;go_enter Tryz.func160,Tryz.ntmps160
     go_wp2_with fail
     refine(HA.out _).mono ?_;rintro e w1 ⟨rfl,rfl⟩;go_wp2_with fail
     refine(HB.out _).mono ?_;rintro e w1 ⟨rfl,rfl⟩;go_wp2_with fail
     refine(HC.out _).mono ?_;rintro e w1 ⟨rfl,rfl⟩;clear HA HB HC;go_upto_region 5 with fail
     by_cases h4:bits .and .i64 VM 4=0
     ·have n4:eE VM 4=false:=by unfold eE;simp[h4]
      rw[n4,if_neg (by decide)]at HX;clear n4;have e1:eE VM 1=decide (¬bits .and .i64 VM 1=0):=rfl;have e2:eE VM 2=decide (¬bits .and .i64 VM 2=0):=rfl;rw[e1,e2]at HX;clear e1 e2;rcases hr with rfl|rfl|rfl|rfl|rfl|rfl|rfl<;>by_cases h1:bits .and .i64 VM 1=0<;>by_cases h2:bits .and .i64 VM 2=0<;>cases VJ
      all_goals
       simp[h1,h2]at HX;go_wp2_with fail
       go_ret;exact⟨aK HX.out.symm,rfl⟩
     ·have HY:Hid (aY 6 state VJ VM=7):=by unfold Hid;rw[HX.out,if_pos (by unfold eE;exact UE h4)]
      go_wp2_with fail
      go_ret;exact⟨aK HY.out.symm,rfl⟩
  ·have HX:Hid (aY VF state VJ VM=0):=by unfold Hid aY;rw[if_neg (by rw[HS.out];decide),if_neg (fun h=>hp h.1)]
   go_enter Tryz.func160,Tryz.ntmps160
   go_wp2_with fail
   refine(HA.out _).mono ?_;rintro e w1 ⟨rfl,rfl⟩;go_wp2_with fail
   go_ret;exact⟨aK HX.out.symm,rfl⟩
theorem EJ(VF:Int)(VJ:Bool)(VM:Int)(w:World) :
  Cw 177 #[iV VF,.bool VJ,iV VM] w (iV (bF VF VJ VM)):=by
 have HA:Hid (∀W,Cw 179 #[iV VF] W (.bool (dF VF))):=fun W=>rF _ W
 have HC:Hid (∀W,Cw 38 #[iV VM] W (.bool (aO VM 0 255))):=fun W=>iT _ W
 cases hc:aO VM 0 255 with
 | false=>
  have HX:Hid (bF VF VJ VM=0):=by unfold Hid bF;rw[if_pos hc]
  rw[hc]at HC;clear hc;go_enter Tryz.func177,Tryz.ntmps177
  go_wp2_with fail
  refine(HC.out _).mono ?_;rintro e w1 ⟨rfl,rfl⟩;go_wp2_with fail
  go_ret;exact⟨aK HX.out.symm,rfl⟩
 | true=>
  have h22:=CX hc;have HN:Hid (¬aO VM 0 255=false):=by unfold Hid;rw[hc];decide
  rw[hc]at HC;clear hc
  cases hs:dF VF with
  | true=>
   have HX:Hid (bF VF VJ VM=3):=by unfold Hid bF;rw[if_neg HN.out,if_pos hs]
   rw[hs]at HA;clear hs h22;go_enter Tryz.func177,Tryz.ntmps177
   go_wp2_with fail
   refine(HC.out _).mono ?_;rintro e w1 ⟨rfl,rfl⟩;go_wp2_with fail
   refine(HA.out _).mono ?_;rintro e w1 ⟨rfl,rfl⟩;go_wp2_with fail
   go_ret;exact⟨aK HX.out.symm,rfl⟩
  | false=>
   have HX:Hid (bF VF VJ VM=if VF=6∧bits .and .i64 VM 22=2 then (if VJ=true then 1 else 2) else 0):=by
    unfold Hid bF;rw[if_neg HN.out,if_neg (by rw[hs];decide)];simp only[h22]
   rw[hs]at HA;clear hs h22;by_cases hp:VF=6
   ·subst hp;by_cases hf:bits .and .i64 VM 22=2
    ·rw[if_pos ⟨rfl,hf⟩]at HX
     cases VJ;all_goals
      go_enter Tryz.func177,Tryz.ntmps177
      go_wp2_with fail
      refine(HC.out _).mono ?_;rintro e w1 ⟨rfl,rfl⟩;go_wp2_with fail
      refine(HA.out _).mono ?_;rintro e w1 ⟨rfl,rfl⟩;go_wp2_with fail
      go_ret;exact⟨aK HX.out.symm,rfl⟩
    ·rw[if_neg (fun h=>hf h.2)]at HX;go_enter Tryz.func177,Tryz.ntmps177
     go_wp2_with fail
     refine(HC.out _).mono ?_;rintro e w1 ⟨rfl,rfl⟩;go_wp2_with fail
     refine(HA.out _).mono ?_;rintro e w1 ⟨rfl,rfl⟩;go_wp2_with fail
     go_ret;exact⟨aK HX.out.symm,rfl⟩
   ·rw[if_neg (fun h=>hp h.1)]at HX;go_enter Tryz.func177,Tryz.ntmps177
    go_wp2_with fail
    refine(HC.out _).mono ?_;rintro e w1 ⟨rfl,rfl⟩;go_wp2_with fail
    refine(HA.out _).mono ?_;rintro e w1 ⟨rfl,rfl⟩;go_wp2_with fail
    go_ret;exact⟨aK HX.out.symm,rfl⟩
theorem sX(l:Lv)(VF state:Int)(w:World) :
  Cb 161 #[yI l,iV VF,iV state] w (iV (bU l VF state)):=by
 have HL:Hid (∀W,Cb 67 #[yI l] W (.bool (fT l))):=fun W=>rE l W
 have HK:Hid (kM (w.alloc (.cells #[iV l.udp,iV l.echo,iV l.opening,iV l.opn,iV l.closing] 25)) w.heap.size l):=kM.new w l;have HZ:Hid (Below w.heap.size w (w.alloc (.cells #[iV l.udp,iV l.echo,iV l.opening,iV l.opn,iV l.closing] 25))):=bR.alloc lR _;unfold yI at HL ⊢
 cases hl:fT l with
 | false=>
  have HX:Hid (bU l VF state=0):=by unfold Hid bU;rw[if_pos hl]
  rw[hl]at HL;clear hl;go_enter Tryz.func161,Tryz.ntmps161
  go_wp2_with fail
  refine(HL.out _).mono ?_;rintro e w1 ⟨rfl,q1⟩;have G1:Hid _:=HZ.out.trans (q1.mono HZ.out.size);clear q1;go_wp2_with fail
  go_ret;exact⟨aK HX.out.symm,G1.out⟩
 | true=>
  have HX:Hid (bU l VF state=if VF=17 then l.udp else if VF=1 then l.echo else if VF=6 then (if state=1∨state=2 then l.opening else if state=3∨state=4∨state=5 then l.opn else if state=6∨state=7 then l.closing else 0) else 0):=by unfold Hid bU;rw[if_neg (by rw[hl];decide)]
  rw[hl]at HL;clear hl;go_enter Tryz.func161,Tryz.ntmps161
  go_wp2_with fail
  refine(HL.out _).mono ?_;rintro e w1 ⟨rfl,q1⟩;have G1:Hid _:=HZ.out.trans (q1.mono HZ.out.size);obtain⟨k0,k1,k2,k3,k4⟩:=HK.out.kept q1;clear q1 HZ HK HL;by_cases p0:VF=17
  ·subst p0;rw[if_pos rfl]at HX;go_wp2_with fail
   go_ret;exact⟨aK HX.out.symm,G1.out⟩
  ·by_cases p1:VF=1
   ·subst p1;rw[if_neg (by decide),if_pos rfl]at HX;go_wp2_with fail
    go_ret;exact⟨aK HX.out.symm,G1.out⟩
   ·rw[if_neg p0,if_neg p1]at HX;by_cases p6:VF=6
    ·subst p6;rw[if_pos rfl]at HX;clear p0 p1;by_cases s1:state=1
     ·subst s1;simp at HX;go_wp2_with fail;go_ret;exact⟨aK HX.out.symm,G1.out⟩
     by_cases s2:state=2
     ·subst s2;simp at HX;go_wp2_with fail;go_ret;exact⟨aK HX.out.symm,G1.out⟩
     by_cases s3:state=3
     ·subst s3;simp at HX;go_wp2_with fail;go_ret;exact⟨aK HX.out.symm,G1.out⟩
     by_cases s4:state=4
     ·subst s4;simp at HX;go_wp2_with fail;go_ret;exact⟨aK HX.out.symm,G1.out⟩
     by_cases s5:state=5
     ·subst s5;simp at HX;go_wp2_with fail;go_ret;exact⟨aK HX.out.symm,G1.out⟩
     by_cases s6:state=6
     ·subst s6;simp at HX;go_wp2_with fail;go_ret;exact⟨aK HX.out.symm,G1.out⟩
     by_cases s7:state=7
     ·subst s7;simp at HX;go_wp2_with fail;go_ret;exact⟨aK HX.out.symm,G1.out⟩
     simp[s1,s2,s3,s4,s5,s6,s7]at HX;go_wp2_with fail
     go_ret;exact⟨aK HX.out.symm,G1.out⟩
    ·rw[if_neg p6]at HX;go_wp2_with fail
     go_ret;exact⟨aK HX.out.symm,G1.out⟩
theorem Tryz.infoBd:(Tryz.prog.info? 48).map (fun i=>(i.zero,i.size,i.bytes))=some (some (.agg (gB 0 ⟨#[]⟩ 0 ⟨#[]⟩ 0).toArray),5,56):=by kernel_rfl
def RR(k:Nat):List Value:=(gB ((k:Nat):Int) (JC (k+1)) ((k+2:Nat):Int) (JC (k+3)) ((k+4:Nat):Int))
theorem Tryz.infoSs:(Tryz.prog.info? 59).map (fun i=>(i.zero,i.size,i.bytes))=some (some (.agg (sA 0 ⟨#[]⟩ 0 ⟨#[]⟩ 0 0 0).toArray),7,72):=by kernel_rfl
def NJ(k:Nat):List Value:=(sA ((k:Nat):Int) (JC (k+1)) ((k+2:Nat):Int) (JC (k+3)) ((k+4:Nat):Int) ((k+5:Nat):Int) ((k+6:Nat):Int))
structure dC(w:World)(a b:OA)(x:Bb):Prop where
 bd:bP dP 5 w a x.VN
 ss:bP fZ 7 w b x.VK
theorem dC.below{w W:World}{a b:OA}{x:Bb}(h:dC w a b x)(hB:Below w.heap.size w W):dC W a b x:=⟨h.bd.below hB,h.ss.below hB⟩
structure bV(base:Nat)(w:World)(a b:OA)(x:Bb):Prop where
 bd:eX dP 5 base w a x.VN
 ss:eX fZ 7 base w b x.VK
 ne:∀g h,a=some ⟨g,0,none⟩→b=some ⟨h,0,none⟩→x.VN≠[]→x.VK≠[]→g≠h
theorem bV.is{base:Nat}{w:World}{a b:OA}{x:Bb}(h:bV base w a b x):dC w a b x:=⟨h.bd.is,h.ss.is⟩
theorem bV.kept{base:Nat}{w W:World}{a b:OA}{x:Bb}(h:bV base w a b x)(hB:Below w.heap.size w W):bV base W a b x:=⟨h.bd.kept hB,h.ss.kept hB,h.ne⟩
structure Pc where
 src:BA
 dst:BA
 VF:Int
 id:Int
 off:Int
 more:Bool
 data:BA
 since:Int
instance:Inhabited Pc:=⟨⟨⟨#[]⟩,⟨#[]⟩,0,0,0,false,⟨#[]⟩,0⟩⟩
def bT(n:Int):Bool:=aO n 0 1000000000
theorem OR{α:Type}{p:α→Bool}{xs:List α}{i:Nat}(h:i < xs.length)(hn:(xs.take i).find? p=none)(hp:p xs[i]=true):xs.find? p=some xs[i]:=by
 conv=>lhs;rw[←List.take_append_drop i xs]
 rw[List.find?_append,hn,List.drop_eq_getElem_cons h,List.find?_cons_of_pos hp];rfl
structure TJ where
 pieces:List Pc
 data:BA
 done:Bool
 code:Int
theorem jL(n:Int)(w:World) :
  Cw 121 #[iV n] w (.bool (aO n 0 255)):=by
 by_cases h1:0≤n
 ·by_cases h2:n≤255
  ·have HV:Hid (aO n 0 255=true):=by unfold Hid aO;simp[h1,h2]
   go_enter Tryz.func121,Tryz.ntmps121
   go_wp2_with fail
   go_ret;exact⟨aC (by rw[HV.out]),rfl⟩
  ·have HV:Hid (aO n 0 255=false):=by unfold Hid aO;simp[h2]
   go_enter Tryz.func121,Tryz.ntmps121
   go_wp2_with fail
   go_ret;exact⟨aC (by rw[HV.out]),rfl⟩
 ·have HV:Hid (aO n 0 255=false):=by unfold Hid aO;simp[h1]
  have h1':n < 0:=by omega
  go_enter Tryz.func121,Tryz.ntmps121
  go_wp2_with fail
  go_ret;exact⟨aC (by rw[HV.out]),rfl⟩
def PT(off:Int)(more:Bool)(data:BA)(top:Int):Bool:=aO off 0 8191&&decide (data.size≤1400)&&(!more||decide (data.size % 8=0))&&decide (8*off+data.size≤top)
theorem LA(p:P4):jB p=(aO p.tos 0 255&&(aO p.ttl 0 255&&(aO p.VF 0 255&&(aO p.id 0 65535&&(decide (p.src.size=4)&&(decide (p.dst.size=4)&&(decide (p.opts.size≤40)&&(decide (p.opts.size % 4=0)&&(PT p.off p.more p.data 65515&&!(p.whole&&(p.more||!decide (p.off=0))))))))))) ):=by
 unfold jB KZ LI RM PT;simp only[Bool.not_and,Bool.not_not,Bool.not_or];ac_rfl
theorem yG(off:Int)(more:Bool)(data:BA)(top:Int)(w:World)(h4:data.size≤1048576) :
  Cw 123 #[iV off,.bool more,.string data,iV top] w (.bool (PT off more data top)):=by
 have HV:Hid (PT off more data top=(decide (0≤off)&&decide (off≤8191)&&decide (data.size≤1400)&&(!more||decide (data.size % 8=0))&&decide (8*off+data.size≤top))):=by unfold Hid PT aO;rfl
 generalize PT off more data top=ok at *;by_cases e0:0≤off
 ·by_cases e1:off≤8191
  ·by_cases e2:data.size≤1400
   ·have d2:decide ((data.size:Int)≤1400)=true:=by simp;omega
    have em:(!more||decide (data.size % 8=0))=true∨(more=true∧¬data.size % 8=0):=by cases more<;>simp<;>omega
    rcases em with em|⟨rfl,em⟩
    ·by_cases e9:8*off+data.size≤top
     ·replace HV:Hid (ok=true):=by unfold Hid;rw[HV.out,em];simp[e0,e1,e2,e9]
      cases more with
      | false=>
       clear em;go_enter Tryz.func123,Tryz.ntmps123
       go_wp2_with fail
       go_ret;exact⟨aC HV.out.symm,rfl⟩
      | true=>
       have dm:(((data.size:Int) % 8)==0)=true:=by simp at em;simp;omega
       clear em;go_enter Tryz.func123,Tryz.ntmps123
       go_wp2_with fail
       go_ret;exact⟨aC HV.out.symm,rfl⟩
     ·replace HV:Hid (ok=false):=by unfold Hid;rw[HV.out];simp[e9]
      cases more with
      | false=>
       clear em;go_enter Tryz.func123,Tryz.ntmps123
       go_wp2_with fail
       go_ret;exact⟨aC HV.out.symm,rfl⟩
      | true=>
       have dm:(((data.size:Int) % 8)==0)=true:=by simp at em;simp;omega
       clear em;go_enter Tryz.func123,Tryz.ntmps123
       go_wp2_with fail
       go_ret;exact⟨aC HV.out.symm,rfl⟩
    ·replace HV:Hid (ok=false):=by unfold Hid;rw[HV.out];simp[em]
     have dm:(((data.size:Int) % 8)==0)=false:=by simp;omega
     go_enter Tryz.func123,Tryz.ntmps123
     go_wp2_with fail
     go_ret;exact⟨aC HV.out.symm,rfl⟩
   ·replace HV:Hid (ok=false):=by unfold Hid;rw[HV.out];simp[e2]
    have d2:decide ((data.size:Int)≤1400)=false:=by simp;omega
    go_enter Tryz.func123,Tryz.ntmps123
    go_wp2_with fail
    go_ret;exact⟨aC HV.out.symm,rfl⟩
  ·replace HV:Hid (ok=false):=by unfold Hid;rw[HV.out];simp[e1]
   go_enter Tryz.func123,Tryz.ntmps123
   go_wp2_with fail
   go_ret;exact⟨aC HV.out.symm,rfl⟩
 ·replace HV:Hid (ok=false):=by unfold Hid;rw[HV.out];simp[e0]
  go_enter Tryz.func123,Tryz.ntmps123
  go_wp2_with fail
  go_ret;exact⟨aC HV.out.symm,rfl⟩
theorem mX(n:Int)(w:World) :
  Cw 172 #[iV n] w (.bool (aO n 1 10000)):=by
 by_cases h1:1≤n
 ·by_cases h2:n≤10000
  ·have HV:Hid (aO n 1 10000=true):=by unfold Hid aO;simp[h1,h2]
   go_enter Tryz.func172,Tryz.ntmps172
   go_wp2_with fail
   go_ret;exact⟨aC (by rw[HV.out]),rfl⟩
  ·have HV:Hid (aO n 1 10000=false):=by unfold Hid aO;simp[h2]
   go_enter Tryz.func172,Tryz.ntmps172
   go_wp2_with fail
   go_ret;exact⟨aC (by rw[HV.out]),rfl⟩
 ·have HV:Hid (aO n 1 10000=false):=by unfold Hid aO;simp[h1]
  have h1':n < 1:=by omega
  go_enter Tryz.func172,Tryz.ntmps172
  go_wp2_with fail
  go_ret;exact⟨aC (by rw[HV.out]),rfl⟩
theorem uH(n:Int)(w:World) :
  Cw 144 #[iV n] w (.bool (aO n 1 7)):=by
 by_cases h1:1≤n
 ·by_cases h2:n≤7
  ·have HV:Hid (aO n 1 7=true):=by unfold Hid aO;simp[h1,h2]
   go_enter Tryz.func144,Tryz.ntmps144
   go_wp2_with fail
   go_ret;exact⟨aC (by rw[HV.out]),rfl⟩
  ·have HV:Hid (aO n 1 7=false):=by unfold Hid aO;simp[h2]
   go_enter Tryz.func144,Tryz.ntmps144
   go_wp2_with fail
   go_ret;exact⟨aC (by rw[HV.out]),rfl⟩
 ·have HV:Hid (aO n 1 7=false):=by unfold Hid aO;simp[h1]
  have h1':n < 1:=by omega
  go_enter Tryz.func144,Tryz.ntmps144
  go_wp2_with fail
  go_ret;exact⟨aC (by rw[HV.out]),rfl⟩
theorem nO(VF:Int)(w:World) :
  Cw 143 #[iV VF] w (.bool (dF VF)):=by
 by_cases h1:VF=17
 ·have HV:Hid (dF VF=true):=by unfold Hid dF;simp[h1]
  go_enter Tryz.func143,Tryz.ntmps143
  go_wp2_with fail
  go_ret;exact⟨aC HV.out.symm,rfl⟩
 ·by_cases h2:VF=1
  ·have HV:Hid (dF VF=true):=by unfold Hid dF;simp[h2]
   go_enter Tryz.func143,Tryz.ntmps143
   go_wp2_with fail
   go_ret;exact⟨aC HV.out.symm,rfl⟩
  ·have HV:Hid (dF VF=false):=by unfold Hid dF;simp[h1,h2]
   go_enter Tryz.func143,Tryz.ntmps143
   go_wp2_with fail
   go_ret;exact⟨aC (by rw[HV.out];simp[h1,h2]),rfl⟩
theorem rC(l:Lv)(w:World) :
  Cb 147 #[yI l] w (.bool (fT l)):=by
 have HC0:Hid (∀W,Cw 172 #[iV l.udp] W (.bool (aO l.udp 1 10000))):=fun W=>mX _ W
 have HC1:Hid (∀W,Cw 172 #[iV l.echo] W (.bool (aO l.echo 1 10000))):=fun W=>mX _ W
 have HC2:Hid (∀W,Cw 172 #[iV l.opening] W (.bool (aO l.opening 1 10000))):=fun W=>mX _ W
 have HC3:Hid (∀W,Cw 172 #[iV l.opn] W (.bool (aO l.opn 1 10000))):=fun W=>mX _ W
 have HC4:Hid (∀W,Cw 172 #[iV l.closing] W (.bool (aO l.closing 1 10000))):=fun W=>mX _ W
 have HV:Hid (fT l=(aO l.udp 1 10000&&aO l.echo 1 10000&&aO l.opening 1 10000&&aO l.opn 1 10000&&aO l.closing 1 10000)):=rfl;generalize fT l=ans at *;generalize aO l.udp 1 10000=b0 at *;generalize aO l.echo 1 10000=b1 at *;generalize aO l.opening 1 10000=b2 at *;generalize aO l.opn 1 10000=b3 at *;generalize aO l.closing 1 10000=b4 at *;have HZ:Hid (Below w.heap.size w (w.alloc (.cells #[iV l.udp,iV l.echo,iV l.opening,iV l.opn,iV l.closing] 25))):=bR.alloc lR _;unfold yI;go_enter Tryz.func147,Tryz.ntmps147
 go_wp2_with fail
 cases b0 with
 | false=>
  refine(HC0.out _).mono ?_;rintro e w0 ⟨rfl,rfl⟩;go_wp2_with fail
  go_ret;exact⟨aC (by rw[HV.out];rfl),HZ.out⟩
 | true=>
  refine(HC0.out _).mono ?_;rintro e w0 ⟨rfl,rfl⟩;go_wp2_with fail
  cases b1 with
  | false=>
   refine(HC1.out _).mono ?_;rintro e w1 ⟨rfl,rfl⟩;go_wp2_with fail
   go_ret;exact⟨aC (by rw[HV.out];rfl),HZ.out⟩
  | true=>
   refine(HC1.out _).mono ?_;rintro e w1 ⟨rfl,rfl⟩;go_wp2_with fail
   cases b2 with
   | false=>
    refine(HC2.out _).mono ?_;rintro e w2 ⟨rfl,rfl⟩;go_wp2_with fail
    go_ret;exact⟨aC (by rw[HV.out];rfl),HZ.out⟩
   | true=>
    refine(HC2.out _).mono ?_;rintro e w2 ⟨rfl,rfl⟩;go_wp2_with fail
    cases b3 with
    | false=>
     refine(HC3.out _).mono ?_;rintro e w3 ⟨rfl,rfl⟩;go_wp2_with fail
     go_ret;exact⟨aC (by rw[HV.out];rfl),HZ.out⟩
    | true=>
     refine(HC3.out _).mono ?_;rintro e w3 ⟨rfl,rfl⟩;go_wp2_with fail
     cases b4 with
     | false=>
      refine(HC4.out _).mono ?_;rintro e w4 ⟨rfl,rfl⟩;go_wp2_with fail
      go_ret;exact⟨aC (by rw[HV.out];rfl),HZ.out⟩
     | true=>
      refine(HC4.out _).mono ?_;rintro e w4 ⟨rfl,rfl⟩;go_wp2_with fail
      go_ret;exact⟨aC (by rw[HV.out];rfl),HZ.out⟩
theorem AB(l:Lv)(state:Int)(w:World) :
  Cb 148 #[yI l,iV state] w (iV (if state=1∨state=2 then l.opening else if state=3∨state=4∨state=5 then l.opn else if state=6∨state=7 then l.closing else 0)):=by
 have HZ:Hid (Below w.heap.size w (w.alloc (.cells #[iV l.udp,iV l.echo,iV l.opening,iV l.opn,iV l.closing] 25))):=bR.alloc lR _;obtain⟨ans,hans⟩: ∃x,x=(if state=1∨state=2 then l.opening else if state=3∨state=4∨state=5 then l.opn else if state=6∨state=7 then l.closing else 0):=⟨_,rfl⟩;rw[←hans];have HX:Hid (ans=_):=hans;clear hans;unfold yI;by_cases s1:state=1
 ·subst s1;simp at HX;go_enter Tryz.func148,Tryz.ntmps148;go_wp2_with fail;go_ret;exact⟨aK HX.out.symm,HZ.out⟩
 by_cases s2:state=2
 ·subst s2;simp at HX;go_enter Tryz.func148,Tryz.ntmps148;go_wp2_with fail;go_ret;exact⟨aK HX.out.symm,HZ.out⟩
 by_cases s3:state=3
 ·subst s3;simp at HX;go_enter Tryz.func148,Tryz.ntmps148;go_wp2_with fail;go_ret;exact⟨aK HX.out.symm,HZ.out⟩
 by_cases s4:state=4
 ·subst s4;simp at HX;go_enter Tryz.func148,Tryz.ntmps148;go_wp2_with fail;go_ret;exact⟨aK HX.out.symm,HZ.out⟩
 by_cases s5:state=5
 ·subst s5;simp at HX;go_enter Tryz.func148,Tryz.ntmps148;go_wp2_with fail;go_ret;exact⟨aK HX.out.symm,HZ.out⟩
 by_cases s6:state=6
 ·subst s6;simp at HX;go_enter Tryz.func148,Tryz.ntmps148;go_wp2_with fail;go_ret;exact⟨aK HX.out.symm,HZ.out⟩
 by_cases s7:state=7
 ·subst s7;simp at HX;go_enter Tryz.func148,Tryz.ntmps148;go_wp2_with fail;go_ret;exact⟨aK HX.out.symm,HZ.out⟩
 simp[s1,s2,s3,s4,s5,s6,s7]at HX;go_enter Tryz.func148,Tryz.ntmps148
 go_wp2_with fail
 go_ret;exact⟨aK HX.out.symm,HZ.out⟩
theorem sH(l:Lv)(VF state:Int)(w:World) :
  Cb 111 #[yI l,iV VF,iV state] w (iV (bU l VF state)):=by
 have HL:Hid (∀W,Cb 147 #[yI l] W (.bool (fT l))):=fun W=>rC l W
 have HN:Hid (∀W,Cb 148 #[yI l,iV state] W (iV (if state=1∨state=2 then l.opening else if state=3∨state=4∨state=5 then l.opn else if state=6∨state=7 then l.closing else 0))):=fun W=>AB l state W
 have HK:Hid (kM (w.alloc (.cells #[iV l.udp,iV l.echo,iV l.opening,iV l.opn,iV l.closing] 25)) w.heap.size l):=kM.new w l;have HZ:Hid (Below w.heap.size w (w.alloc (.cells #[iV l.udp,iV l.echo,iV l.opening,iV l.opn,iV l.closing] 25))):=bR.alloc lR _;unfold yI at HL HN ⊢
 cases hl:fT l with
 | false=>
  have HX:Hid (bU l VF state=0):=by unfold Hid bU;rw[if_pos hl]
  rw[hl]at HL;clear hl;go_enter Tryz.func111,Tryz.ntmps111
  go_wp2_with fail
  refine(HL.out _).mono ?_;rintro e w1 ⟨rfl,q1⟩;have G1:Hid _:=HZ.out.trans (q1.mono HZ.out.size);clear q1;go_wp2_with fail
  go_ret;exact⟨aK HX.out.symm,G1.out⟩
 | true=>
  generalize hcl:(if state=1∨state=2 then l.opening else if state=3∨state=4∨state=5 then l.opn else if state=6∨state=7 then l.closing else 0)=cl at HN;have HX:Hid (bU l VF state=if VF=17 then l.udp else if VF=1 then l.echo else if VF=6 then cl else 0):=by unfold Hid bU;rw[if_neg (by rw[hl];decide),hcl]
  rw[hl]at HL;clear hl hcl;go_enter Tryz.func111,Tryz.ntmps111
  go_wp2_with fail
  refine(HL.out _).mono ?_;rintro e w1 ⟨rfl,q1⟩;have G1:Hid _:=HZ.out.trans (q1.mono HZ.out.size);obtain⟨k0,k1,k2,k3,k4⟩:=HK.out.kept q1;clear q1 HZ HK HL;by_cases p0:VF=17
  ·subst p0;rw[if_pos rfl]at HX;go_wp2_with fail
   go_ret;exact⟨aK HX.out.symm,G1.out⟩
  ·by_cases p1:VF=1
   ·subst p1;rw[if_neg (by decide),if_pos rfl]at HX;go_wp2_with fail
    go_ret;exact⟨aK HX.out.symm,G1.out⟩
   ·rw[if_neg p0,if_neg p1]at HX;by_cases p6:VF=6
    ·subst p6;rw[if_pos rfl]at HX;clear p0 p1;go_wp2_with fail
     refine(HN.out _).mono ?_;rintro e w2 ⟨rfl,q2⟩;have G2:Hid _:=G1.out.trans (q2.mono G1.out.size);clear q2;go_wp2_with fail
     go_ret;exact⟨aK HX.out.symm,G2.out⟩
    ·rw[if_neg p6]at HX;go_wp2_with fail
     go_ret;exact⟨aK HX.out.symm,G1.out⟩
def zM(state VM:Int):Bool:=if state=1∨state=2 then eE VM 2 else if state=3∨state=4∨state=5 then eE VM 1 else true
theorem LC(state VM:Int)(w:World)(hr:state=1∨state=2∨state=3∨state=4∨state=5∨state=6∨state=7) :
  Cw 146 #[iV state,iV VM] w (.bool (zM state VM)):=by
 obtain⟨ans,hans⟩: ∃x,x=zM state VM:=⟨_,rfl⟩;rw[←hans];have HX:Hid (ans=zM state VM):=hans;clear hans;have e1:eE VM 1=decide (¬bits .and .i64 VM 1=0):=rfl;have e2:eE VM 2=decide (¬bits .and .i64 VM 2=0):=rfl;unfold zM at HX;rw[e1,e2]at HX;clear e1 e2;rcases hr with rfl|rfl|rfl|rfl|rfl|rfl|rfl<;>by_cases h1:bits .and .i64 VM 1=0<;>by_cases h2:bits .and .i64 VM 2=0
 all_goals
  simp[h1,h2]at HX;go_enter Tryz.func146,Tryz.ntmps146
  go_wp2_with fail
  go_ret;exact⟨aC (by first | exact HX.out.symm | (rw[HX.out];simp[h1,h2])),rfl⟩
theorem MH(a b:Int)(VJ:Bool)(w:World) :
  Cb 145 #[.agg #[iV a,iV b],.bool VJ] w (iV (if VJ=true then a else b)):=by
 have HZ:Hid (Below w.heap.size w (w.alloc (.cells #[iV a,iV b] 171))):=bR.alloc lR _
 cases VJ;all_goals
  go_enter Tryz.func145,Tryz.ntmps145
  go_wp2_with fail
  go_ret;exact⟨aK (by simp),HZ.out⟩
def rJ(w:World):Prop:=∀i:Nat,i < 16→w.cell? ⟨0,i,none⟩=some (iV ([0,0,0,3,3,0,4,5,0,6,6,0,0,0,3,3].getD i 0))
theorem rJ.below{w W:World}(h:rJ w)(hb:Below w.heap.size w W):rJ W:=fun i hi=>((iO hb).1 _ _ (US w _ (h i hi))).trans (h i hi)
theorem MX(state:Int)(VJ:Bool)(VM:Int)(hb:aO state 1 7=true)(hc:aO VM 0 255=true):aY 6 state VJ VM=(
  if eE VM 4=true then 7
  else if state=1 then (if VJ=false∧eE VM 2=true then 3 else 1)
  else if state=2 then (if VJ=true∧eE VM 2=true then 3 else 2)
  else if state=3 then (if eE VM 1=true then (if VJ=true then 4 else 5) else 3)
  else if state=4 then (if VJ=false∧eE VM 1=true then 6 else 4)
  else if state=5 then (if VJ=true∧eE VM 1=true then 6 else 5)
  else if state=7 then 3 else state):=by
 unfold aY;rw[if_neg (by decide),if_pos ⟨rfl,hb,hc⟩]
theorem AQ(VF state:Int)(VJ:Bool)(VM:Int)(w:World)(hT:rJ w) :
  Cb 110 #[iV VF,iV state,.bool VJ,iV VM] w (iV (aY VF state VJ VM)):=by
 have HA:Hid (∀W,Cw 143 #[iV VF] W (.bool (dF VF))):=fun W=>nO _ W
 have HB:Hid (∀W,Cw 144 #[iV state] W (.bool (aO state 1 7))):=fun W=>uH _ W
 have HC:Hid (∀W,Cw 121 #[iV VM] W (.bool (aO VM 0 255))):=fun W=>jL _ W
 cases hs:dF VF with
 | true=>
  have HX:Hid (aY VF state VJ VM=3):=by unfold Hid aY;rw[if_pos hs]
  rw[hs]at HA;clear hs hT;go_enter Tryz.func110,Tryz.ntmps110
  go_wp2_with fail
  refine(HA.out _).mono ?_;rintro e w1 ⟨rfl,rfl⟩;go_wp2_with fail
  go_ret;exact⟨aK HX.out.symm,Below.refl _ _⟩
 | false=>
  rw[hs]at HA;have HS:Hid (dF VF=false):=hs;clear hs;by_cases hp:VF=6
  ·subst hp
   cases hb:aO state 1 7 with
   | false=>
    have HX:Hid (aY 6 state VJ VM=0):=by unfold Hid aY;rw[if_neg (by rw[HS.out];decide),if_neg (by rw[hb];simp)]
    rw[hb]at HB;clear hb hT;go_enter Tryz.func110,Tryz.ntmps110
    go_wp2_with fail
    refine(HA.out _).mono ?_;rintro e w1 ⟨rfl,rfl⟩;go_wp2_with fail
    refine(HB.out _).mono ?_;rintro e w1 ⟨rfl,rfl⟩;go_wp2_with fail
    go_ret;exact⟨aK HX.out.symm,Below.refl _ _⟩
   | true=>
    cases hc:aO VM 0 255 with
    | false=>
     have HX:Hid (aY 6 state VJ VM=0):=by unfold Hid aY;rw[if_neg (by rw[HS.out];decide),if_neg (by rw[hc];simp)]
     rw[hb]at HB;rw[hc]at HC;clear hb hc hT;go_enter Tryz.func110,Tryz.ntmps110
     go_wp2_with fail
     refine(HA.out _).mono ?_;rintro e w1 ⟨rfl,rfl⟩;go_wp2_with fail
     refine(HB.out _).mono ?_;rintro e w1 ⟨rfl,rfl⟩;go_wp2_with fail
     refine(HC.out _).mono ?_;rintro e w1 ⟨rfl,rfl⟩;go_wp2_with fail
     go_ret;exact⟨aK HX.out.symm,Below.refl _ _⟩
    | true=>
     have HX:Hid _:=MX state VJ VM hb hc;rw[hb]at HB;rw[hc]at HC;have hr:state=1∨state=2∨state=3∨state=4∨state=5∨state=6∨state=7:=by
      unfold aO at hb;simp only[UB,decide_eq_true_eq]at hb;omega
     have HW:Hid (∀W,Cw 146 #[iV state,iV VM] W (.bool (zM state VM))):=fun W=>LC state VM W hr
     have HF:Hid (∀a b W,Cb 145 #[.agg #[iV a,iV b],.bool VJ] W (iV (if VJ=true then a else b))):=fun a b W=>MH a b VJ W
     clear hb hc;have k0:=hT 0 (by decide);have k1:=hT 1 (by decide);have k2:=hT 2 (by decide);have k3:=hT 3 (by decide);have k4:=hT 4 (by decide);have k5:=hT 5 (by decide);have k6:=hT 6 (by decide);have k7:=hT 7 (by decide);have k8:=hT 8 (by decide);have k9:=hT 9 (by decide);have k10:=hT 10 (by decide);have k11:=hT 11 (by decide);have k12:=hT 12 (by decide);have k13:=hT 13 (by decide);have k14:=hT 14 (by decide);have k15:=hT 15 (by decide);simp only[List.getD_cons_zero,List.getD_cons_succ]at k0 k1 k2 k3 k4 k5 k6 k7 k8 k9 k10 k11 k12 k13 k14 k15;clear hT;go_enter Tryz.func110,Tryz.ntmps110
     go_wp2_with fail
     refine(HA.out _).mono ?_;rintro e w1 ⟨rfl,rfl⟩;go_wp2_with fail
     refine(HB.out _).mono ?_;rintro e w1 ⟨rfl,rfl⟩;go_wp2_with fail
     refine(HC.out _).mono ?_;rintro e w1 ⟨rfl,rfl⟩;clear HA HB HC;go_upto_region 5 with fail
     by_cases h4:bits .and .i64 VM 4=0
     ·have n4:eE VM 4=false:=by unfold eE;simp[h4]
      rw[n4,if_neg (by decide)]at HX;clear n4;have e1:eE VM 1=decide (¬bits .and .i64 VM 1=0):=rfl;have e2:eE VM 2=decide (¬bits .and .i64 VM 2=0):=rfl;unfold zM at HW;rw[e1,e2]at HX HW;clear e1 e2;rcases hr with rfl|rfl|rfl|rfl|rfl|rfl|rfl<;>by_cases h1:bits .and .i64 VM 1=0<;>by_cases h2:bits .and .i64 VM 2=0<;>cases VJ
      all_goals
       simp[h1,h2]at HX;simp[h1,h2]at HW;simp at HF;go_wp2_with fail
       refine(HF.out _ _ _).mono ?_;rintro e w2 ⟨rfl,q2⟩;have G2:Hid (Below w1.heap.size w1 w2):=q2;clear q2;go_wp2_with (go_at_call 146;refine(HW.out _).mono ?_;rintro e w3 ⟨rfl,rfl⟩)
       go_ret;exact⟨aK HX.out.symm,G2.out⟩
     ·have HY:Hid (aY 6 state VJ VM=7):=by unfold Hid;rw[HX.out,if_pos (by unfold eE;exact UE h4)]
      go_wp2_with fail
      go_ret;exact⟨aK HY.out.symm,Below.refl _ _⟩
  ·have HX:Hid (aY VF state VJ VM=0):=by unfold Hid aY;rw[if_neg (by rw[HS.out];decide),if_neg (fun h=>hp h.1)]
   clear hT;go_enter Tryz.func110,Tryz.ntmps110
   go_wp2_with fail
   refine(HA.out _).mono ?_;rintro e w1 ⟨rfl,rfl⟩;go_wp2_with fail
   go_ret;exact⟨aK HX.out.symm,Below.refl _ _⟩
structure En where
 VF:Int
 addr:BA
 port:Int
def pG(q:En):Value:=.agg (gT q.VF q.addr q.port).toArray
def xW(q:En):List Value:=(gT q.VF q.addr q.port)
def bB(q p:En):Bool:=(q.VF==p.VF)&&((q.addr.toList==p.addr.toList)&&(q.port==p.port))
structure Sk where
 host:En
 peer:BA
 VG:Int
def SN(q:Sk):Value:=.agg (gB q.host.VF q.host.addr q.host.port q.peer q.VG).toArray
def NN(q:Sk):List Value:=(gB q.host.VF q.host.addr q.host.port q.peer q.VG)
def dK(q p:Sk):Bool:=bB q.host p.host&&((q.peer.toList==p.peer.toList)&&(q.VG==p.VG))
theorem CW(D:Nat)(q p:En)(W:World):(Op.equalIn (D+2) 86 (.agg (gT q.VF q.addr q.port).toArray) (.agg (gT p.VF p.addr p.port).toArray)).run Tryz.prog W=.ok (bB q p) W:=by
 have h1:Tryz.prog.underlying 86=some (.struct (Tryz.prog.fieldsOf 86)):=by kernel_rfl
 have h2:Tryz.prog.stoodInHeld 86=false:=by kernel_rfl
 rw[run_equalIn_agg _ _ _ _ _ h1 h2];have h3:(Tryz.prog.fieldsOf 86).toList.length=3:=by kernel_rfl
 have h4 : ((Tryz.prog.fieldsOf 86).toList.map fun f => (f.type, f.offset, f.name == "_")) = [(2, 0, false), (9, 1, false), (2, 2, false)] := by kernel_rfl
 generalize (Tryz.prog.fieldsOf 86).toList=fs at *;match fs,h3 with
 | [f0,f1,f2],_=>
  simp only[List.map_cons,List.map_nil,List.cons.injEq,Prod.mk.injEq,and_true]at h4;obtain⟨⟨a0,b0,c0⟩,⟨a1,b1,c1⟩,⟨a2,b2,c2⟩⟩:=h4
  have d0 : (f0.name ≠ "_") = True := by simpa using c0
  have q0:∀W,(part 2 (gT q.VF q.addr q.port).toArray 0).run Tryz.prog W=.ok (iV q.VF) W:=fun W=>by kernel_rfl
  have p0:∀W,(part 2 (gT p.VF p.addr p.port).toArray 0).run Tryz.prog W=.ok (iV p.VF) W:=fun W=>by kernel_rfl
  have d1 : (f1.name ≠ "_") = True := by simpa using c1
  have q1:∀W,(part 9 (gT q.VF q.addr q.port).toArray 1).run Tryz.prog W=.ok (.string q.addr) W:=fun W=>by kernel_rfl
  have p1:∀W,(part 9 (gT p.VF p.addr p.port).toArray 1).run Tryz.prog W=.ok (.string p.addr) W:=fun W=>by kernel_rfl
  have d2 : (f2.name ≠ "_") = True := by simpa using c2
  have q2:∀W,(part 2 (gT q.VF q.addr q.port).toArray 2).run Tryz.prog W=.ok (iV q.port) W:=fun W=>by kernel_rfl
  have p2:∀W,(part 2 (gT p.VF p.addr p.port).toArray 2).run Tryz.prog W=.ok (iV p.port) W:=fun W=>by kernel_rfl
  unfold bB;simp only[Op.eqFields,a0,b0,d0,q0,p0,a1,b1,d1,q1,p1,a2,b2,d2,q2,p2,if_true,Sem.run_bind,Sem.run_ite,Sem.run_pure,Result.andThen_ok,run_equalIn_string _ _ _ _ _ Tryz.underlying9,run_equalIn_int _ _ _ _ _ _ _ Tryz.underlying2];generalize (q.VF==p.VF)=g0;generalize (q.addr.toList==p.addr.toList)=g1;generalize (q.port==p.port)=g2
  cases g0
  ·simp
  simp only[UW,UO,if_false,UP]
  cases g1
  ·simp
  simp only[UW,UO,if_false,UP]
  cases g2<;>simp
theorem wB(q p:En)(W:World):(binOp .eql 86 (.agg (gT q.VF q.addr q.port).toArray) (.agg (gT p.VF p.addr p.port).toArray)).run Tryz.prog W=.ok (.bool (bB q p)) W:=by
 rw[run_eql_struct,CW 9998 q p W];rfl
theorem ME(D:Nat)(q p:Sk)(W:World):(Op.equalIn (D+3) 147 (.agg (gB q.host.VF q.host.addr q.host.port q.peer q.VG).toArray) (.agg (gB p.host.VF p.host.addr p.host.port p.peer p.VG).toArray)).run Tryz.prog W=.ok (dK q p) W:=by
 have h1:Tryz.prog.underlying 147=some (.struct (Tryz.prog.fieldsOf 147)):=by kernel_rfl
 have h2:Tryz.prog.stoodInHeld 147=false:=by kernel_rfl
 rw[run_equalIn_agg _ _ _ _ _ h1 h2];have h3:(Tryz.prog.fieldsOf 147).toList.length=3:=by kernel_rfl
 have h4 : ((Tryz.prog.fieldsOf 147).toList.map fun f => (f.type, f.offset, f.name == "_")) = [(86, 0, false), (9, 3, false), (2, 4, false)] := by kernel_rfl
 generalize (Tryz.prog.fieldsOf 147).toList=fs at *;match fs,h3 with
 | [f0,f1,f2],_=>
  simp only[List.map_cons,List.map_nil,List.cons.injEq,Prod.mk.injEq,and_true]at h4;obtain⟨⟨a0,b0,c0⟩,⟨a1,b1,c1⟩,⟨a2,b2,c2⟩⟩:=h4
  have d0 : (f0.name ≠ "_") = True := by simpa using c0
  have q0:∀W,(part 86 (gB q.host.VF q.host.addr q.host.port q.peer q.VG).toArray 0).run Tryz.prog W=.ok (.agg (gT q.host.VF q.host.addr q.host.port).toArray) W:=fun W=>by kernel_rfl
  have p0:∀W,(part 86 (gB p.host.VF p.host.addr p.host.port p.peer p.VG).toArray 0).run Tryz.prog W=.ok (.agg (gT p.host.VF p.host.addr p.host.port).toArray) W:=fun W=>by kernel_rfl
  have d1 : (f1.name ≠ "_") = True := by simpa using c1
  have q1:∀W,(part 9 (gB q.host.VF q.host.addr q.host.port q.peer q.VG).toArray 3).run Tryz.prog W=.ok (.string q.peer) W:=fun W=>by kernel_rfl
  have p1:∀W,(part 9 (gB p.host.VF p.host.addr p.host.port p.peer p.VG).toArray 3).run Tryz.prog W=.ok (.string p.peer) W:=fun W=>by kernel_rfl
  have d2 : (f2.name ≠ "_") = True := by simpa using c2
  have q2:∀W,(part 2 (gB q.host.VF q.host.addr q.host.port q.peer q.VG).toArray 4).run Tryz.prog W=.ok (iV q.VG) W:=fun W=>by kernel_rfl
  have p2:∀W,(part 2 (gB p.host.VF p.host.addr p.host.port p.peer p.VG).toArray 4).run Tryz.prog W=.ok (iV p.VG) W:=fun W=>by kernel_rfl
  unfold dK;simp only[Op.eqFields,a0,b0,d0,q0,p0,a1,b1,d1,q1,p1,a2,b2,d2,q2,p2,if_true,Sem.run_bind,Sem.run_ite,Sem.run_pure,Result.andThen_ok,run_equalIn_string _ _ _ _ _ Tryz.underlying9,run_equalIn_int _ _ _ _ _ _ _ Tryz.underlying2,CW D q.host p.host];generalize (bB q.host p.host)=g0;generalize (q.peer.toList==p.peer.toList)=g1;generalize (q.VG==p.VG)=g2
  cases g0
  ·simp
  simp only[UW,UO,if_false,UP]
  cases g1
  ·simp
  simp only[UW,UO,if_false,UP]
  cases g2<;>simp
theorem MD(q p:Sk)(W:World):(binOp .eql 147 (.agg (gB q.host.VF q.host.addr q.host.port q.peer q.VG).toArray) (.agg (gB p.host.VF p.host.addr p.host.port p.peer p.VG).toArray)).run Tryz.prog W=.ok (.bool (dK q p)) W:=by
 rw[run_eql_struct,ME 9997 q p W];rfl
structure SE(w:World)(B:Nat)(p:Fl):Prop where
 c0:w.cell? ⟨B,0,none⟩=some (iV p.VF)
 c1:w.cell? ⟨B,1,none⟩=some (.string p.src)
 c2:w.cell? ⟨B,2,none⟩=some (.string p.dst)
 c3:w.cell? ⟨B,3,none⟩=some (iV p.sp)
 c4:w.cell? ⟨B,4,none⟩=some (iV p.dp)
theorem jM(t:BA)(w:World) :
  Cw 81 #[.string t] w (.bool (decide (20000 < t.size))):=by
 by_cases h:20000 < t.size
 ·have d:decide ((20000:Int) < (t.size:Int))=true:=by simp;omega
  rw[UE h];go_enter Tryz.func81,Tryz.ntmps81
  go_wp2_with fail
  go_ret;exact⟨rfl,rfl⟩
 ·have d:decide ((20000:Int) < (t.size:Int))=false:=by simp;omega
  rw[UD h];go_enter Tryz.func81,Tryz.ntmps81
  go_wp2_with fail
  go_ret;exact⟨rfl,rfl⟩
theorem tK(t:BA)(w:World)(ht:t.size≤1048576) :
  Cb 103 #[.string t] w (iV (kJ t)):=by
 have HL:Hid (∀W,Cw 81 #[.string t] W (.bool (decide (20000 < t.size)))):=fun W=>jM t W
 by_cases h1:20000 < t.size
 ·have HV:Hid (kJ t=0):=by unfold Hid kJ;rw[if_pos (.inl h1)]
  rw[UE h1]at HL;go_enter Tryz.func103,Tryz.ntmps103
  go_wp2_with fail
  refine(HL.out _).mono ?_;rintro e w2 ⟨rfl,rfl⟩;go_wp2_with fail
  go_ret;exact⟨aK HV.out.symm,Below.refl _ _⟩
 rw[UD h1]at HL;by_cases h2:t.size < 20
 ·have HV:Hid (kJ t=0):=by unfold Hid kJ;rw[if_pos (.inr h2)]
  go_enter Tryz.func103,Tryz.ntmps103
  go_wp2_with fail
  refine(HL.out _).mono ?_;rintro e w2 ⟨rfl,rfl⟩;go_wp2_with fail
  go_ret;exact⟨aK HV.out.symm,Below.refl _ _⟩
 ·have HV:Hid (kJ t=bt t 13):=by unfold Hid kJ;rw[if_neg (by omega)]
  have hb:=get_bt t;have b1:=bH t 13;go_enter Tryz.func103,Tryz.ntmps103
  go_wp2_with fail
  refine(HL.out _).mono ?_;rintro e w2 ⟨rfl,rfl⟩;go_wp2_with fail
  go_ret;exact⟨aK HV.out.symm,Below.refl _ _⟩
theorem sI(s d:BA)(w:World)(hs:s.size≤maxLen)(hd:d.size≤maxLen) :
  Cw 97 #[.string s,.string d] w (.bool (eM s d)):=by
 have HA:Hid (∀W,Cw 129 #[.string s] W (.bool (cO s))):=fun W=>kS s W
 unfold maxLen at hs hd;unfold eM;generalize cO s=b at *;by_cases h:s.size=d.size
 ·have dh:((s.size:Int)==(d.size:Int))=true:=by simp;omega
  rw[UE h];clear h
  cases b;all_goals go_enter Tryz.func97,Tryz.ntmps97
  all_goals go_wp2_with fail
  all_goals refine(HA.out _).mono ?_
  all_goals rintro e w2 ⟨rfl,rfl⟩
  all_goals go_wp2_with fail
  all_goals go_ret
  all_goals exact⟨rfl,rfl⟩
 ·have dh:((s.size:Int)==(d.size:Int))=false:=by simp;omega
  rw[UD h]
  cases b;all_goals go_enter Tryz.func97,Tryz.ntmps97
  all_goals go_wp2_with fail
  all_goals refine(HA.out _).mono ?_
  all_goals rintro e w2 ⟨rfl,rfl⟩
  all_goals go_wp2_with fail
  all_goals go_ret
  all_goals exact⟨rfl,rfl⟩
theorem fS(p:Int)(w:World) :
  Cw 100 #[iV p] w (.bool (aL p)):=by
 by_cases h1:p=1
 ·have d1:(p==1)=true:=by simp[h1]
  have HV:Hid (aL p=true):=by unfold Hid aL;simp[h1]
  clear h1;go_enter Tryz.func100,Tryz.ntmps100
  go_wp2_with fail
  go_ret;exact⟨aC HV.out.symm,rfl⟩
 ·have d1:(p==1)=false:=by simp[h1]
  have HV:Hid (aL p=(p==58)):=by
   unfold Hid aL;rw[UD h1,Bool.false_or];rfl
  go_enter Tryz.func100,Tryz.ntmps100
  go_wp2_with fail
  go_ret;exact⟨aC HV.out.symm,rfl⟩
theorem pA(p:Int)(s:BA)(w:World)(hs:s.size≤maxLen) :
  Cw 98 #[iV p,.string s] w (.bool (cH p s.size)):=by
 unfold maxLen at hs;by_cases h6:p=6
 ·have HV:Hid (cH p s.size=true):=by unfold Hid cH;simp[h6]
  have d6:(p==6)=true:=by simp[h6]
  clear h6;go_enter Tryz.func98,Tryz.ntmps98
  go_wp2_with fail
  go_ret;exact⟨aC HV.out.symm,rfl⟩
 have d6:(p==6)=false:=by simp[h6]
 by_cases h17:p=17
 ·have HV:Hid (cH p s.size=true):=by unfold Hid cH;simp[h17]
  have d17:(p==17)=true:=by simp[h17]
  clear h6 h17;go_enter Tryz.func98,Tryz.ntmps98
  go_wp2_with fail
  go_ret;exact⟨aC HV.out.symm,rfl⟩
 have d17:(p==17)=false:=by simp[h17]
 by_cases h1:p=1
 ·have HV:Hid (cH p s.size=((s.size:Int)==4)):=by
   unfold Hid cH;have h4:((s.size:Int)==4)=decide (s.size=4):=by rw[Bool.eq_iff_iff];simp;omega
   rw[h4];simp[h1]
  have d1:(p==1)=true:=by simp[h1]
  clear h6 h17 h1;go_enter Tryz.func98,Tryz.ntmps98
  go_wp2_with fail
  go_ret;exact⟨aC HV.out.symm,rfl⟩
 have d1:(p==1)=false:=by simp[h1]
 by_cases h58:p=58
 ·have HV:Hid (cH p s.size=((s.size:Int)==16)):=by
   unfold Hid cH;have h4:((s.size:Int)==16)=decide (s.size=16):=by rw[Bool.eq_iff_iff];simp;omega
   rw[h4];simp[h58]
  have d58:(p==58)=true:=by simp[h58]
  clear h6 h17 h1 h58;go_enter Tryz.func98,Tryz.ntmps98
  go_wp2_with fail
  go_ret;exact⟨aC HV.out.symm,rfl⟩
 have d58:(p==58)=false:=by simp[h58]
 have HV:Hid (cH p s.size=false):=by unfold Hid cH;simp[h6,h17,h1,h58]
 clear h6 h17 h1 h58;go_enter Tryz.func98,Tryz.ntmps98
 go_wp2_with fail
 go_ret;exact⟨aC HV.out.symm,rfl⟩
theorem sG(f:Fl)(w:World)(h1:f.src.size≤1048576)(h2:f.dst.size≤1048576) :
  Cb 149 #[gF f] w (.bool (dR f)):=by
 have HB1:Hid (∀W,Cw 97 #[.string f.src,.string f.dst] W (.bool (eM f.src f.dst))):=fun W=>sI _ _ W (by unfold maxLen;omega) (by unfold maxLen;omega)
 have HB2:Hid (∀W,Cw 98 #[iV f.VF,.string f.src] W (.bool (cH f.VF f.src.size))):=fun W=>pA _ _ W (by unfold maxLen;omega)
 have HB3:Hid (∀W,Cw 122 #[iV f.sp] W (.bool (jS f.sp))):=fun W=>dU _ W
 have HB4:Hid (∀W,Cw 122 #[iV f.dp] W (.bool (jS f.dp))):=fun W=>dU _ W
 have HB5:Hid (∀W,Cw 100 #[iV f.VF] W (.bool (aL f.VF))):=fun W=>fS _ W
 have HV:Hid (dR f=(eM f.src f.dst&&cH f.VF f.src.size&&jS f.sp&&jS f.dp&&(!aL f.VF||decide (f.sp=f.dp)))):=rfl;have dq:(f.sp==f.dp)=decide (f.sp=f.dp):=rfl;generalize decide (f.sp=f.dp)=q at *;generalize dR f=ok at *;generalize eM f.src f.dst=a1 at *;generalize cH f.VF f.src.size=a2 at *;generalize jS f.sp=a3 at *;generalize jS f.dp=a4 at *;generalize aL f.VF=a5 at *;obtain⟨VF,src,dst,sp,dp⟩:=f;unfold gF;dsimp only at *;have HZ:Hid (Below w.heap.size w (w.alloc (.cells (cR VF src dst sp dp).toArray 43))):=bR.alloc lR _;go_enter Tryz.func149,Tryz.ntmps149
 go_wp2_with fail
 refine(HB1.out _).mono ?_;rintro e w2 ⟨rfl,rfl⟩
 cases a1 with
 | false=>
  have hun:undef=Value.tuple #[]:=rfl;go_wp2_with fail
  go_ret;exact⟨aC (by rw[HV.out];simp),HZ.out⟩
 | true=>
 go_wp2_with fail
 refine(HB2.out _).mono ?_;rintro e w2 ⟨rfl,rfl⟩
 cases a2 with
 | false=>
  have hun:undef=Value.tuple #[]:=rfl;go_wp2_with fail
  go_ret;exact⟨aC (by rw[HV.out];simp),HZ.out⟩
 | true=>
 go_wp2_with fail
 refine(HB3.out _).mono ?_;rintro e w2 ⟨rfl,rfl⟩
 cases a3 with
 | false=>
  have hun:undef=Value.tuple #[]:=rfl;go_wp2_with fail
  go_ret;exact⟨aC (by rw[HV.out];simp),HZ.out⟩
 | true=>
 go_wp2_with fail
 refine(HB4.out _).mono ?_;rintro e w2 ⟨rfl,rfl⟩
 cases a4 with
 | false=>
  have hun:undef=Value.tuple #[]:=rfl;go_wp2_with fail
  go_ret;exact⟨aC (by rw[HV.out];simp),HZ.out⟩
 | true=>
 go_wp2_with fail
 refine(HB5.out _).mono ?_;rintro e w2 ⟨rfl,rfl⟩
 cases a5 with
 | false=>
  have hun:undef=Value.tuple #[]:=rfl;go_wp2_with fail
  go_ret;exact⟨aC (by rw[HV.out];simp),HZ.out⟩
 | true=>
  have hun:undef=Value.tuple #[]:=rfl;go_wp2_with fail
  go_ret;exact⟨aC (by rw[HV.out];simp),HZ.out⟩
theorem xF(s d:BA)(w:World)(hs:s.size≤maxLen)(hd:d.size≤maxLen) :
  Cw 31 #[.string s,.string d] w (.bool (eM s d)):=by
 have HA:Hid (∀W,Cw 65 #[.string s] W (.bool (cO s))):=fun W=>jC s W
 unfold maxLen at hs hd;unfold eM;generalize cO s=b at *;by_cases h:s.size=d.size
 ·have dh:((s.size:Int)==(d.size:Int))=true:=by simp;omega
  rw[UE h];clear h
  cases b;all_goals go_enter Tryz.func31,Tryz.ntmps31
  all_goals go_wp2_with fail
  all_goals refine(HA.out _).mono ?_
  all_goals rintro e w2 ⟨rfl,rfl⟩
  all_goals go_wp2_with fail
  all_goals go_ret
  all_goals exact⟨rfl,rfl⟩
 ·have dh:((s.size:Int)==(d.size:Int))=false:=by simp;omega
  rw[UD h]
  cases b;all_goals go_enter Tryz.func31,Tryz.ntmps31
  all_goals go_wp2_with fail
  all_goals refine(HA.out _).mono ?_
  all_goals rintro e w2 ⟨rfl,rfl⟩
  all_goals go_wp2_with fail
  all_goals go_ret
  all_goals exact⟨rfl,rfl⟩
theorem kE(p:Int)(w:World) :
  Cw 44 #[iV p] w (.bool (aL p)):=by
 by_cases h1:p=1
 ·have d1:(p==1)=true:=by simp[h1]
  have HV:Hid (aL p=true):=by unfold Hid aL;simp[h1]
  clear h1;go_enter Tryz.func44,Tryz.ntmps44
  go_wp2_with fail
  go_ret;exact⟨aC HV.out.symm,rfl⟩
 ·have d1:(p==1)=false:=by simp[h1]
  have HV:Hid (aL p=(p==58)):=by
   unfold Hid aL;rw[UD h1,Bool.false_or];rfl
  go_enter Tryz.func44,Tryz.ntmps44
  go_wp2_with fail
  go_ret;exact⟨aC HV.out.symm,rfl⟩
theorem uO(p:Int)(n:Nat)(w:World)(hn:n≤maxLen) :
  Cw 66 #[iV p,iV n] w (.bool (cH p n)):=by
 unfold maxLen at hn;have run:∀(a b c d x y:Bool),(p==6)=a→(p==17)=b→(p==1)=c→(p==58)=d→((n:Int)==4)=x→((n:Int)==16)=y →
   Cw 66 #[iV p,iV n] w (.bool (a||b||(c&&x)||(d&&y))):=by
  intro a b c d x y h1 h2 h3 h4 h5 h6
  cases a
  ·cases b
   ·cases c
    ·cases d
     ·go_enter Tryz.func66,Tryz.ntmps66
      go_wp2_with fail
      go_ret;exact⟨rfl,rfl⟩
     ·go_enter Tryz.func66,Tryz.ntmps66
      go_wp2_with fail
      go_ret;exact⟨rfl,rfl⟩
    ·cases x
     ·cases d
      ·go_enter Tryz.func66,Tryz.ntmps66
       go_wp2_with fail
       go_ret;exact⟨rfl,rfl⟩
      ·simp at h3 h4;omega
     ·go_enter Tryz.func66,Tryz.ntmps66
      go_wp2_with fail
      go_ret;exact⟨rfl,rfl⟩
   ·go_enter Tryz.func66,Tryz.ntmps66
    go_wp2_with fail
    go_ret;exact⟨rfl,rfl⟩
  ·go_enter Tryz.func66,Tryz.ntmps66
   go_wp2_with fail
   go_ret;exact⟨rfl,rfl⟩
 have e:cH p n=((p==6)||(p==17)||((p==1)&&((n:Int)==4))||((p==58)&&((n:Int)==16))):=by
  unfold cH;have h4:((n:Int)==4)=decide (n=4):=by rw[Bool.eq_iff_iff];simp;omega
  have h16:((n:Int)==16)=decide (n=16):=by rw[Bool.eq_iff_iff];simp;omega
  rw[h4,h16];rfl
 rw[e];exact run _ _ _ _ _ _ rfl rfl rfl rfl rfl rfl
theorem sV(f:Fl)(w:World)(h1:f.src.size≤1048576)(h2:f.dst.size≤1048576) :
  Cb 43 #[gF f] w (.bool (dR f)):=by
 have HB1:Hid (∀W,Cw 31 #[.string f.src,.string f.dst] W (.bool (eM f.src f.dst))):=fun W=>xF _ _ W (by unfold maxLen;omega) (by unfold maxLen;omega)
 have HB2:Hid (∀W,Cw 66 #[iV f.VF,iV f.src.size] W (.bool (cH f.VF f.src.size))):=fun W=>uO _ _ W (by unfold maxLen;omega)
 have HB3:Hid (∀W,Cw 39 #[iV f.sp] W (.bool (jS f.sp))):=fun W=>gL _ W
 have HB4:Hid (∀W,Cw 39 #[iV f.dp] W (.bool (jS f.dp))):=fun W=>gL _ W
 have HB5:Hid (∀W,Cw 44 #[iV f.VF] W (.bool (aL f.VF))):=fun W=>kE _ W
 have HA:Hid (dR f=(eM f.src f.dst&&cH f.VF f.src.size&&jS f.sp&&jS f.dp&&(!aL f.VF||decide (f.sp=f.dp)))):=rfl;have dq:(f.sp==f.dp)=decide (f.sp=f.dp):=rfl;generalize decide (f.sp=f.dp)=q at *;generalize dR f=ok at *;generalize eM f.src f.dst=a1 at *;generalize cH f.VF f.src.size=a2 at *;generalize jS f.sp=a3 at *;generalize jS f.dp=a4 at *;generalize aL f.VF=a5 at *;obtain⟨VF,src,dst,sp,dp⟩:=f;unfold gF;dsimp only at *;have HZ:Hid (Below w.heap.size w (w.alloc (.cells (cR VF src dst sp dp).toArray 43))):=bR.alloc lR _
 cases a1 with
 | false=>
  have HV:Hid (ok=false):=by unfold Hid;rw[HA.out];rfl
  clear HA;go_enter Tryz.func43,Tryz.ntmps43
  go_wp2_with fail
  refine(HB1.out _).mono ?_;rintro e w2 ⟨rfl,rfl⟩;go_wp2_with fail
  go_ret;exact⟨aC HV.out.symm,HZ.out⟩
 | true=>
 cases a2 with
 | false=>
  have HV:Hid (ok=false):=by unfold Hid;rw[HA.out];rfl
  clear HA;go_enter Tryz.func43,Tryz.ntmps43
  go_wp2_with fail
  refine(HB1.out _).mono ?_;rintro e w2 ⟨rfl,rfl⟩;go_wp2_with fail
  refine(HB2.out _).mono ?_;rintro e w2 ⟨rfl,rfl⟩;go_wp2_with fail
  go_ret;exact⟨aC HV.out.symm,HZ.out⟩
 | true=>
 cases a3 with
 | false=>
  have HV:Hid (ok=false):=by unfold Hid;rw[HA.out];rfl
  clear HA;go_enter Tryz.func43,Tryz.ntmps43
  go_wp2_with fail
  refine(HB1.out _).mono ?_;rintro e w2 ⟨rfl,rfl⟩;go_wp2_with fail
  refine(HB2.out _).mono ?_;rintro e w2 ⟨rfl,rfl⟩;go_wp2_with fail
  refine(HB3.out _).mono ?_;rintro e w2 ⟨rfl,rfl⟩;go_wp2_with fail
  go_ret;exact⟨aC HV.out.symm,HZ.out⟩
 | true=>
 cases a4 with
 | false=>
  have HV:Hid (ok=false):=by unfold Hid;rw[HA.out];rfl
  clear HA;go_enter Tryz.func43,Tryz.ntmps43
  go_wp2_with fail
  refine(HB1.out _).mono ?_;rintro e w2 ⟨rfl,rfl⟩;go_wp2_with fail
  refine(HB2.out _).mono ?_;rintro e w2 ⟨rfl,rfl⟩;go_wp2_with fail
  refine(HB3.out _).mono ?_;rintro e w2 ⟨rfl,rfl⟩;go_wp2_with fail
  refine(HB4.out _).mono ?_;rintro e w2 ⟨rfl,rfl⟩;go_wp2_with fail
  go_ret;exact⟨aC HV.out.symm,HZ.out⟩
 | true=>
 have HV:Hid (ok=(!a5||q)):=by unfold Hid;rw[HA.out];rfl
 clear HA
 cases a5;all_goals go_enter Tryz.func43,Tryz.ntmps43
 all_goals go_wp2_with fail
 all_goals refine(HB1.out _).mono ?_
 all_goals rintro e w2 ⟨rfl,rfl⟩
 all_goals go_wp2_with fail
 all_goals refine(HB2.out _).mono ?_
 all_goals rintro e w2 ⟨rfl,rfl⟩
 all_goals go_wp2_with fail
 all_goals refine(HB3.out _).mono ?_
 all_goals rintro e w2 ⟨rfl,rfl⟩
 all_goals go_wp2_with fail
 all_goals refine(HB4.out _).mono ?_
 all_goals rintro e w2 ⟨rfl,rfl⟩
 all_goals go_wp2_with fail
 all_goals refine(HB5.out _).mono ?_
 all_goals rintro e w2 ⟨rfl,rfl⟩
 all_goals go_wp2_with fail
 all_goals go_ret
 all_goals exact⟨aC HV.out.symm,HZ.out⟩
structure RN(w:World)(B:Nat)(p:Pc):Prop where
 c0:w.cell? ⟨B,0,none⟩=some (.string p.src)
 c1:w.cell? ⟨B,1,none⟩=some (.string p.dst)
 c2:w.cell? ⟨B,2,none⟩=some (iV p.VF)
 c3:w.cell? ⟨B,3,none⟩=some (iV p.id)
 c4:w.cell? ⟨B,4,none⟩=some (iV p.off)
 c5:w.cell? ⟨B,5,none⟩=some (.bool p.more)
 c6:w.cell? ⟨B,6,none⟩=some (.string p.data)
 c7:w.cell? ⟨B,7,none⟩=some (iV p.since)
theorem xH(n:Int)(w:World) :
  Cw 62 #[iV n] w (.bool (bT n)):=by
 by_cases h1:0≤n
 ·by_cases h2:n≤1000000000
  ·have HV:Hid (bT n=true):=by unfold Hid bT aO;simp[h1,h2]
   go_enter Tryz.func62,Tryz.ntmps62
   go_wp2_with fail
   go_ret;exact⟨aC (by rw[HV.out]),rfl⟩
  ·have HV:Hid (bT n=false):=by unfold Hid bT aO;simp[h2]
   go_enter Tryz.func62,Tryz.ntmps62
   go_wp2_with fail
   go_ret;exact⟨aC (by rw[HV.out]),rfl⟩
 ·have HV:Hid (bT n=false):=by unfold Hid bT aO;simp[h1]
  have h1':n < 0:=by omega
  go_enter Tryz.func62,Tryz.ntmps62
  go_wp2_with fail
  go_ret;exact⟨aC (by rw[HV.out]),rfl⟩
structure jR(w:World)(X:Nat)(f:Fl):Prop where
 c0:w.cell? ⟨X,0,none⟩=some (iV f.VF)
 f0:w.frozen? ⟨X,0,none⟩=false
 c1:w.cell? ⟨X,1,none⟩=some (.string f.src)
 f1:w.frozen? ⟨X,1,none⟩=false
 c2:w.cell? ⟨X,2,none⟩=some (.string f.dst)
 f2:w.frozen? ⟨X,2,none⟩=false
 c3:w.cell? ⟨X,3,none⟩=some (iV f.sp)
 f3:w.frozen? ⟨X,3,none⟩=false
 c4:w.cell? ⟨X,4,none⟩=some (iV f.dp)
 f4:w.frozen? ⟨X,4,none⟩=false
section
variable {w w':World} {X:Nat} {f:Fl}
theorem jR.new(w:World)(f:Fl){t:TypeId}:jR (w.alloc (.cells (gH f).toArray t)) w.heap.size f:=⟨bZ rfl,by simp,bZ rfl,by simp,bZ rfl,by simp,bZ rfl,by simp,bZ rfl,by simp⟩
theorem jR.kept(h:jR w X f)(q:Below w.heap.size w w'):jR w' X f:=by
 have hb:=US w _ h.c0;obtain⟨hc,hf⟩:=iO q;exact⟨(hc X 0 hb).trans h.c0,(hf X 0 hb).trans h.f0,(hc X 1 hb).trans h.c1,(hf X 1 hb).trans h.f1,(hc X 2 hb).trans h.c2,(hf X 2 hb).trans h.f2,(hc X 3 hb).trans h.c3,(hf X 3 hb).trans h.f3,(hc X 4 hb).trans h.c4,(hf X 4 hb).trans h.f4⟩
theorem jR.other(h:jR w X f){C o:Nat}(v:Value)(hC:C≠X):jR (w.setCell ⟨C,o,none⟩ v) X f:=by
 have hc:∀j,(w.setCell ⟨C,o,none⟩ v).cell? ⟨X,j,none⟩=w.cell? ⟨X,j,none⟩:=fun j=>World.cell?_setCell_other w _ _ v (fun e=>hC (congrArg Addr.block e))
 have hf:∀j,(w.setCell ⟨C,o,none⟩ v).frozen? ⟨X,j,none⟩=w.frozen? ⟨X,j,none⟩:=fun j=>by simp
 exact⟨(hc 0).trans h.c0,(hf 0).trans h.f0,(hc 1).trans h.c1,(hf 1).trans h.f1,(hc 2).trans h.c2,(hf 2).trans h.f2,(hc 3).trans h.c3,(hf 3).trans h.f3,(hc 4).trans h.c4,(hf 4).trans h.f4⟩
theorem jR.set3(h:jR w X f)(q:Int):jR (w.setCell ⟨X,3,none⟩ (iV q)) X ⟨f.VF,f.src,f.dst,q,f.dp⟩:=by
 obtain⟨c0,f0,c1,f1,c2,f2,c3,f3,c4,f4⟩:=h;constructor<;>simp[go_sem,c0,f0,c1,f1,c2,f2,c3,f3,c4,f4]
end
theorem xE(s d:BA)(p:Int)(t:BA)(w:World)(hs:s.size≤1048576)(ht:t.size≤1048576) :
  Cb 32 #[.string s,.string d,iV p,.string t] w (.tuple #[gF (aI s d p t),iV (aS s.size p t)]):=by
 have HB1:Hid (∀W,Cw 66 #[iV p,iV s.size] W (.bool (cH p s.size))):=fun W=>uO _ _ W (by unfold maxLen;omega)
 have HB2:Hid (∀W,Cw 44 #[iV p] W (.bool (aL p))):=fun W=>kE _ W
 have HN:Hid (aS s.size p t≠0→gF (aI s d p t)=.agg (cR p s d 0 0).toArray):=fun h=>by unfold aI;rw[if_neg h];rfl
 cases a1:cH p s.size with
 | false=>
  have HV:Hid (aS s.size p t=11):=by unfold Hid aS;rw[if_pos a1]
  have HW:Hid (gF (aI s d p t)=.agg (cR p s d 0 0).toArray):=HN.out (by rw[HV.out];decide);rw[a1]at HB1;rw[HV.out,HW.out];clear HN HV HW HB2;go_enter Tryz.func32,Tryz.ntmps32
  go_wp2_with fail
  refine(HB1.out _).mono ?_;rintro e w2 ⟨rfl,rfl⟩;go_wp2_with fail
  refine VB (v:=.tuple #[.agg (cR p s d 0 0).toArray,iV 11]) (by simp[results,Tryz.results32,go_sem]) rfl ⟨rfl,?_⟩;exact(bR.alloc lR _).alloc (by simp) _
 | true=>
  have hb:=get_bt t;have b12:=bH t 12;have b0:=bH t 0;have b1:=bH t 1;have HC:Hid (∀k:Nat,k+1 < t.size→∀W,Cb 42 #[.string t,iV k] W (iV (aM (bt t) k))):=fun k hk W=>rU t k W hk (by unfold maxLen;omega)
  have HS:Hid (gC p t=((decide (p=6)&&(decide (t.size < 20)||decide (bt t 12 / 16 < 5)||decide ((t.size:Int) < 4*(bt t 12 / 16))))||decide (t.size < 8))):=rfl;have HV:Hid (aS s.size p t=if gC p t=true then 4 else if aL p=true then (if (bt t 0≠iN p∧bt t 0≠jV p)∨bt t 1≠0 then 11 else 0) else 0):=by unfold Hid aS;rw[if_neg (by rw[a1];decide)]
  have HY:Hid (aS s.size p t=0→gF (aI s d p t)=.agg (cR p s d (if aL p=true then aM (bt t) 4 else aM (bt t) 0) (if aL p=true then aM (bt t) 4 else aM (bt t) 2)).toArray):=fun h=>by
   unfold aI;rw[if_pos h];split<;>rfl
  have HL:Hid (gC p t=false→8≤t.size):=fun h=>by
   unfold gC at h;rw[Bool.or_eq_false_iff,decide_eq_false_iff_not]at h;omega
  rw[a1]at HB1;generalize aS s.size p t=code at *;generalize gF (aI s d p t)=out at *;generalize gC p t=sh at *;clear a1;go_enter Tryz.func32,Tryz.ntmps32
  go_wp2_with fail
  refine(HB1.out _).mono ?_;rintro e w2 ⟨rfl,rfl⟩;clear HB1;go_upto_region 4 with fail
  have HWB:Hid (Below w.heap.size w ((aW w (cR 0 ⟨#[]⟩ ⟨#[]⟩ 0 0) 43).alloc (.cells (cR p s d 0 0).toArray 43))):=(bR.alloc lR _).alloc (by simp) _;have KF:Hid (jR ((aW w (cR 0 ⟨#[]⟩ ⟨#[]⟩ 0 0) 43).alloc (.cells (cR p s d 0 0).toArray 43)) (w.heap.size+1) ⟨p,s,d,0,0⟩):=by
   have h:=jR.new (w.alloc (.cells (cR 0 ⟨#[]⟩ ⟨#[]⟩ 0 0).toArray 43)) ⟨p,s,d,0,0⟩ (t:=43);rw[show (w.alloc (.cells (cR 0 ⟨#[]⟩ ⟨#[]⟩ 0 0).toArray 43)).heap.size=w.heap.size+1 by simp]at h;exact h
  have KR:Hid (jR ((aW w (cR 0 ⟨#[]⟩ ⟨#[]⟩ 0 0) 43).alloc (.cells (cR p s d 0 0).toArray 43)) w.heap.size ⟨0,⟨#[]⟩,⟨#[]⟩,0,0⟩):=(jR.new w ⟨0,⟨#[]⟩,⟨#[]⟩,0,0⟩).kept (bR.alloc lR _);go_cut [24] (fun c wx=>c=.bool sh∧wx=(aW w (cR 0 ⟨#[]⟩ ⟨#[]⟩ 0 0) 43).alloc (.cells (cR p s d 0 0).toArray 43))
  case first=>
   clear HV HY HN HL HC HB2 HWB KF KR;by_cases c1:p=6
   ·have d1:(p==6)=true:=by simp[c1]
    by_cases c2:t.size < 20
    ·have hB:sh=true:=by rw[HS.out,UE c1,UE c2];rfl
     clear HS c1;subst hB;go_wp2_with fail
     go_meet;exact⟨rfl,rfl⟩
    ·by_cases c3:bt t 12 / 16 < 5
     ·have hB:sh=true:=by rw[HS.out,UE c1,UE c3];simp
      clear HS c1;subst hB;go_wp2_with fail
      go_meet;exact⟨rfl,rfl⟩
     ·by_cases c4:(t.size:Int) < 4*(bt t 12 / 16)
      ·have hB:sh=true:=by rw[HS.out,UE c1,UE c4];simp
       clear HS c1;subst hB;go_wp2_with fail
       go_meet;exact⟨rfl,rfl⟩
      ·have hB:sh=false:=by rw[HS.out,UD c2,UD c3,UD c4,UD (show ¬t.size < 8 by omega)];simp
       clear HS c1;subst hB;go_wp2_with fail
       go_meet;exact⟨congrArg Value.bool (by simp;omega),rfl⟩
   ·have d1:(p==6)=false:=by simp[c1]
    by_cases c2:t.size < 8
    ·have hB:sh=true:=by rw[HS.out,UE c2];simp
     clear HS c1;subst hB;go_wp2_with fail
     go_meet;exact⟨congrArg Value.bool (by simp;omega),rfl⟩
    ·have hB:sh=false:=by rw[HS.out,UD c1,UD c2];rfl
     clear HS c1;subst hB;go_wp2_with fail
     go_meet;exact⟨congrArg Value.bool (by simp;omega),rfl⟩
  case rest=>
  obtain⟨rfl,rfl⟩:=hcut;clear HS
  cases sh with
  | true=>
   have HV2:Hid (code=4):=HV.out;have HO:Hid (out=.agg (cR p s d 0 0).toArray):=HN.out (by rw[HV2.out];decide);clear HV HY HN HL HC HB2 HWB KF KR;go_wp2_with fail
   refine VB (v:=.tuple #[.agg (cR p s d 0 0).toArray,iV 4]) (by simp[results,Tryz.results32,go_sem]) rfl ⟨by rw[HV2.out,HO.out],?_⟩;exact(bR.alloc lR _).alloc (by simp) _
  | false=>
   have hl:=HL.out rfl;replace HV:Hid (code=if aL p=true then (if (bt t 0≠iN p∧bt t 0≠jV p)∨bt t 1≠0 then 11 else 0) else 0):=HV.out;have HC4:Hid _:=HC.out 4 (by omega);have HC0:Hid _:=HC.out 0 (by omega);have HC2:Hid _:=HC.out 2 (by omega);clear HL HC
   cases a2:aL p with
   | false=>
    have HV2:Hid (code=0):=by unfold Hid;rw[HV.out,a2];rfl
    have HO:Hid (out=.agg (cR p s d (aM (bt t) 0) (aM (bt t) 2)).toArray):=by unfold Hid;rw[HY.out HV2.out,a2];rfl
    rw[a2]at HB2;clear HV HY HN HC4 a2;generalize aM (bt t) 0=x0 at *;generalize aM (bt t) 2=x2 at *;go_wp2_with fail
    refine(HB2.out _).mono ?_;rintro e w2 ⟨rfl,rfl⟩;go_wp2_with fail
    refine(HC0.out _).mono ?_;rintro e w3 ⟨rfl,q3⟩;have G3:Hid _:=HWB.out.trans (q3.mono HWB.out.size);have K3:Hid (jR w3 (w.heap.size+1) ⟨p,s,d,0,0⟩):=KF.out.kept q3;have R3:Hid (jR w3 w.heap.size ⟨0,⟨#[]⟩,⟨#[]⟩,0,0⟩):=KR.out.kept q3;clear q3 HWB KF KR;obtain⟨k0,y0,k1,y1,k2,y2,k3,y3,k4,y4⟩:=K3.out;go_wp2_with fail
    refine(HC2.out _).mono ?_;rintro e w4 ⟨rfl,q4⟩;have G4:Hid (Below w.heap.size w w4):=(G3.out.setCell (Nat.le_succ _) _).trans (q4.mono (G3.out.setCell (Nat.le_succ _) _).size);have K4:Hid (jR w4 (w.heap.size+1) ⟨p,s,d,x0,0⟩):=(K3.out.set3 x0).kept q4;have R4:Hid (jR w4 w.heap.size ⟨0,⟨#[]⟩,⟨#[]⟩,0,0⟩):=(R3.out.other _ (by omega)).kept q4;clear q4 G3 K3 R3 k0 y0 k1 y1 k2 y2 k3 y3 k4 y4;obtain⟨k0,y0,k1,y1,k2,y2,k3,y3,k4,y4⟩:=K4.out;obtain⟨o0,z0,o1,z1,o2,z2,o3,z3,o4,z4⟩:=R4.out;go_wp2_with fail
    refine VB (v:=.tuple #[.agg (cR p s d x0 x2).toArray,iV 0]) (by simp[results,Tryz.results32,go_sem,k0,o0,k1,o1,k2,o2,k3,o3,k4,o4]) rfl ⟨by rw[HV2.out,HO.out],?_⟩;exact(((((G4.out.setCell (Nat.le_succ _) _).setCell lR _).setCell lR _).setCell lR _).setCell lR _).setCell lR _
   | true=>
    have hp:p=1∨p=58:=by unfold aL at a2;simpa using a2
    rw[a2]at HB2 HV HY;clear HC0 HC2 a2;generalize aM (bt t) 4=x4 at *;rcases hp with rfl|rfl
    ·have HV3:Hid (code=if (bt t 0≠8∧bt t 0≠0)∨bt t 1≠0 then 11 else 0):=HV.out;clear HV;by_cases e0:bt t 0=8
     ·have d0:(bt t 0 != 8)=false:=by simp[e0]
      by_cases e1:bt t 1=0
      ·have d1:(bt t 1 != 0)=false:=by simp[e1]
       have HV2:Hid (code=0):=by unfold Hid;rw[HV3.out,if_neg (fun h=>h.elim (fun q=>q.1 e0) (fun q=>q e1))]
       have HO:Hid (out=.agg (cR 1 s d x4 x4).toArray):=HY.out HV2.out;clear HV3 HY HN;go_wp2_with fail
       refine(HB2.out _).mono ?_;rintro e w2 ⟨rfl,rfl⟩;go_wp2_with fail
       refine(HC4.out _).mono ?_;rintro e w3 ⟨rfl,q3⟩;have G3:Hid _:=HWB.out.trans (q3.mono HWB.out.size);have K3:Hid (jR w3 (w.heap.size+1) ⟨1,s,d,0,0⟩):=KF.out.kept q3;have R3:Hid (jR w3 w.heap.size ⟨0,⟨#[]⟩,⟨#[]⟩,0,0⟩):=KR.out.kept q3;clear q3 HWB KF KR;obtain⟨k0,y0,k1,y1,k2,y2,k3,y3,k4,y4⟩:=K3.out;obtain⟨o0,z0,o1,z1,o2,z2,o3,z3,o4,z4⟩:=R3.out;go_wp2_with fail
       refine VB (v:=.tuple #[.agg (cR 1 s d x4 x4).toArray,iV 0]) (by simp[results,Tryz.results32,go_sem,k0,o0,k1,o1,k2,o2,k3,o3,k4,o4]) rfl ⟨by rw[HV2.out,HO.out],?_⟩;exact((((((G3.out.setCell (Nat.le_succ _) _).setCell (Nat.le_succ _) _).setCell lR _).setCell lR _).setCell lR _).setCell lR _).setCell lR _
      ·have d1:(bt t 1 != 0)=true:=by simp[e1]
       have HV2:Hid (code=11):=by unfold Hid;rw[HV3.out,if_pos (Or.inr e1)]
       have HO:Hid (out=.agg (cR 1 s d 0 0).toArray):=HN.out (by rw[HV2.out];decide);clear HV3 HY HN HC4 KF KR HWB;go_wp2_with fail
       refine(HB2.out _).mono ?_;rintro e w2 ⟨rfl,rfl⟩;go_wp2_with fail
       refine VB (v:=.tuple #[.agg (cR 1 s d 0 0).toArray,iV 11]) (by simp[results,Tryz.results32,go_sem]) rfl ⟨by rw[HV2.out,HO.out],?_⟩;exact(bR.alloc lR _).alloc (by simp) _
     ·have d0:(bt t 0 != 8)=true:=by simp[e0]
      by_cases e2:bt t 0=0
      ·have d2:(bt t 0 != 0)=false:=by simp[e2]
       by_cases e1:bt t 1=0
       ·have d1:(bt t 1 != 0)=false:=by simp[e1]
        have HV2:Hid (code=0):=by unfold Hid;rw[HV3.out,if_neg (fun h=>h.elim (fun q=>q.2 e2) (fun q=>q e1))]
        have HO:Hid (out=.agg (cR 1 s d x4 x4).toArray):=HY.out HV2.out;clear HV3 HY HN;go_wp2_with fail
        refine(HB2.out _).mono ?_;rintro e w2 ⟨rfl,rfl⟩;go_wp2_with fail
        refine(HC4.out _).mono ?_;rintro e w3 ⟨rfl,q3⟩;have G3:Hid _:=HWB.out.trans (q3.mono HWB.out.size);have K3:Hid (jR w3 (w.heap.size+1) ⟨1,s,d,0,0⟩):=KF.out.kept q3;have R3:Hid (jR w3 w.heap.size ⟨0,⟨#[]⟩,⟨#[]⟩,0,0⟩):=KR.out.kept q3;clear q3 HWB KF KR;obtain⟨k0,y0,k1,y1,k2,y2,k3,y3,k4,y4⟩:=K3.out;obtain⟨o0,z0,o1,z1,o2,z2,o3,z3,o4,z4⟩:=R3.out;go_wp2_with fail
        refine VB (v:=.tuple #[.agg (cR 1 s d x4 x4).toArray,iV 0]) (by simp[results,Tryz.results32,go_sem,k0,o0,k1,o1,k2,o2,k3,o3,k4,o4]) rfl ⟨by rw[HV2.out,HO.out],?_⟩;exact((((((G3.out.setCell (Nat.le_succ _) _).setCell (Nat.le_succ _) _).setCell lR _).setCell lR _).setCell lR _).setCell lR _).setCell lR _
       ·have d1:(bt t 1 != 0)=true:=by simp[e1]
        have HV2:Hid (code=11):=by unfold Hid;rw[HV3.out,if_pos (Or.inr e1)]
        have HO:Hid (out=.agg (cR 1 s d 0 0).toArray):=HN.out (by rw[HV2.out];decide);clear HV3 HY HN HC4 KF KR HWB;go_wp2_with fail
        refine(HB2.out _).mono ?_;rintro e w2 ⟨rfl,rfl⟩;go_wp2_with fail
        refine VB (v:=.tuple #[.agg (cR 1 s d 0 0).toArray,iV 11]) (by simp[results,Tryz.results32,go_sem]) rfl ⟨by rw[HV2.out,HO.out],?_⟩;exact(bR.alloc lR _).alloc (by simp) _
      ·have d2:(bt t 0 != 0)=true:=by simp[e2]
       have HV2:Hid (code=11):=by unfold Hid;rw[HV3.out,if_pos (Or.inl ⟨e0,e2⟩)]
       have HO:Hid (out=.agg (cR 1 s d 0 0).toArray):=HN.out (by rw[HV2.out];decide);clear HV3 HY HN HC4 KF KR HWB;go_wp2_with fail
       refine(HB2.out _).mono ?_;rintro e w2 ⟨rfl,rfl⟩;go_wp2_with fail
       refine VB (v:=.tuple #[.agg (cR 1 s d 0 0).toArray,iV 11]) (by simp[results,Tryz.results32,go_sem]) rfl ⟨by rw[HV2.out,HO.out],?_⟩;exact(bR.alloc lR _).alloc (by simp) _
    ·have HV3:Hid (code=if (bt t 0≠128∧bt t 0≠129)∨bt t 1≠0 then 11 else 0):=HV.out;clear HV;by_cases e0:bt t 0=128
     ·have d0:(bt t 0 != 128)=false:=by simp[e0]
      by_cases e1:bt t 1=0
      ·have d1:(bt t 1 != 0)=false:=by simp[e1]
       have HV2:Hid (code=0):=by unfold Hid;rw[HV3.out,if_neg (fun h=>h.elim (fun q=>q.1 e0) (fun q=>q e1))]
       have HO:Hid (out=.agg (cR 58 s d x4 x4).toArray):=HY.out HV2.out;clear HV3 HY HN;go_wp2_with fail
       refine(HB2.out _).mono ?_;rintro e w2 ⟨rfl,rfl⟩;go_wp2_with fail
       refine(HC4.out _).mono ?_;rintro e w3 ⟨rfl,q3⟩;have G3:Hid _:=HWB.out.trans (q3.mono HWB.out.size);have K3:Hid (jR w3 (w.heap.size+1) ⟨58,s,d,0,0⟩):=KF.out.kept q3;have R3:Hid (jR w3 w.heap.size ⟨0,⟨#[]⟩,⟨#[]⟩,0,0⟩):=KR.out.kept q3;clear q3 HWB KF KR;obtain⟨k0,y0,k1,y1,k2,y2,k3,y3,k4,y4⟩:=K3.out;obtain⟨o0,z0,o1,z1,o2,z2,o3,z3,o4,z4⟩:=R3.out;go_wp2_with fail
       refine VB (v:=.tuple #[.agg (cR 58 s d x4 x4).toArray,iV 0]) (by simp[results,Tryz.results32,go_sem,k0,o0,k1,o1,k2,o2,k3,o3,k4,o4]) rfl ⟨by rw[HV2.out,HO.out],?_⟩;exact((((((G3.out.setCell (Nat.le_succ _) _).setCell (Nat.le_succ _) _).setCell lR _).setCell lR _).setCell lR _).setCell lR _).setCell lR _
      ·have d1:(bt t 1 != 0)=true:=by simp[e1]
       have HV2:Hid (code=11):=by unfold Hid;rw[HV3.out,if_pos (Or.inr e1)]
       have HO:Hid (out=.agg (cR 58 s d 0 0).toArray):=HN.out (by rw[HV2.out];decide);clear HV3 HY HN HC4 KF KR HWB;go_wp2_with fail
       refine(HB2.out _).mono ?_;rintro e w2 ⟨rfl,rfl⟩;go_wp2_with fail
       refine VB (v:=.tuple #[.agg (cR 58 s d 0 0).toArray,iV 11]) (by simp[results,Tryz.results32,go_sem]) rfl ⟨by rw[HV2.out,HO.out],?_⟩;exact(bR.alloc lR _).alloc (by simp) _
     ·have d0:(bt t 0 != 128)=true:=by simp[e0]
      by_cases e2:bt t 0=129
      ·have d2:(bt t 0 != 129)=false:=by simp[e2]
       by_cases e1:bt t 1=0
       ·have d1:(bt t 1 != 0)=false:=by simp[e1]
        have HV2:Hid (code=0):=by unfold Hid;rw[HV3.out,if_neg (fun h=>h.elim (fun q=>q.2 e2) (fun q=>q e1))]
        have HO:Hid (out=.agg (cR 58 s d x4 x4).toArray):=HY.out HV2.out;clear HV3 HY HN;go_wp2_with fail
        refine(HB2.out _).mono ?_;rintro e w2 ⟨rfl,rfl⟩;go_wp2_with fail
        refine(HC4.out _).mono ?_;rintro e w3 ⟨rfl,q3⟩;have G3:Hid _:=HWB.out.trans (q3.mono HWB.out.size);have K3:Hid (jR w3 (w.heap.size+1) ⟨58,s,d,0,0⟩):=KF.out.kept q3;have R3:Hid (jR w3 w.heap.size ⟨0,⟨#[]⟩,⟨#[]⟩,0,0⟩):=KR.out.kept q3;clear q3 HWB KF KR;obtain⟨k0,y0,k1,y1,k2,y2,k3,y3,k4,y4⟩:=K3.out;obtain⟨o0,z0,o1,z1,o2,z2,o3,z3,o4,z4⟩:=R3.out;go_wp2_with fail
        refine VB (v:=.tuple #[.agg (cR 58 s d x4 x4).toArray,iV 0]) (by simp[results,Tryz.results32,go_sem,k0,o0,k1,o1,k2,o2,k3,o3,k4,o4]) rfl ⟨by rw[HV2.out,HO.out],?_⟩;exact((((((G3.out.setCell (Nat.le_succ _) _).setCell (Nat.le_succ _) _).setCell lR _).setCell lR _).setCell lR _).setCell lR _).setCell lR _
       ·have d1:(bt t 1 != 0)=true:=by simp[e1]
        have HV2:Hid (code=11):=by unfold Hid;rw[HV3.out,if_pos (Or.inr e1)]
        have HO:Hid (out=.agg (cR 58 s d 0 0).toArray):=HN.out (by rw[HV2.out];decide);clear HV3 HY HN HC4 KF KR HWB;go_wp2_with fail
        refine(HB2.out _).mono ?_;rintro e w2 ⟨rfl,rfl⟩;go_wp2_with fail
        refine VB (v:=.tuple #[.agg (cR 58 s d 0 0).toArray,iV 11]) (by simp[results,Tryz.results32,go_sem]) rfl ⟨by rw[HV2.out,HO.out],?_⟩;exact(bR.alloc lR _).alloc (by simp) _
      ·have d2:(bt t 0 != 129)=true:=by simp[e2]
       have HV2:Hid (code=11):=by unfold Hid;rw[HV3.out,if_pos (Or.inl ⟨e0,e2⟩)]
       have HO:Hid (out=.agg (cR 58 s d 0 0).toArray):=HN.out (by rw[HV2.out];decide);clear HV3 HY HN HC4 KF KR HWB;go_wp2_with fail
       refine(HB2.out _).mono ?_;rintro e w2 ⟨rfl,rfl⟩;go_wp2_with fail
       refine VB (v:=.tuple #[.agg (cR 58 s d 0 0).toArray,iV 11]) (by simp[results,Tryz.results32,go_sem]) rfl ⟨by rw[HV2.out,HO.out],?_⟩;exact(bR.alloc lR _).alloc (by simp) _
structure uZ(X:Nat)(w:World)(f:Fl)(code:Int):Prop where
 c0:w.cell? ⟨X,0,none⟩=some (iV f.VF)
 f0:w.frozen? ⟨X,0,none⟩=false
 c1:w.cell? ⟨X,1,none⟩=some (.string f.src)
 f1:w.frozen? ⟨X,1,none⟩=false
 c2:w.cell? ⟨X,2,none⟩=some (.string f.dst)
 f2:w.frozen? ⟨X,2,none⟩=false
 c3:w.cell? ⟨X,3,none⟩=some (iV f.sp)
 f3:w.frozen? ⟨X,3,none⟩=false
 c4:w.cell? ⟨X,4,none⟩=some (iV f.dp)
 f4:w.frozen? ⟨X,4,none⟩=false
 c5:w.cell? ⟨X,5,none⟩=some (iV code)
 f5:w.frozen? ⟨X,5,none⟩=false
theorem uZ.new(w:World)(f:Fl)(code:Int){t:TypeId}:uZ w.heap.size (w.alloc (.cells #[iV f.VF,.string f.src,.string f.dst,iV f.sp,iV f.dp,iV code] t)) f code:=⟨bZ rfl,by simp,bZ rfl,by simp,bZ rfl,by simp,bZ rfl,by simp,bZ rfl,by simp,bZ rfl,by simp⟩
theorem uZ.kept{w w':World}{X:Nat}{f:Fl}{code:Int}(h:uZ X w f code)(q:Below w.heap.size w w'):uZ X w' f code:=by
 have hb:=US w _ h.c0;obtain⟨hc,hf⟩:=iO q;exact⟨(hc X 0 hb).trans h.c0,(hf X 0 hb).trans h.f0,(hc X 1 hb).trans h.c1,(hf X 1 hb).trans h.f1,(hc X 2 hb).trans h.c2,(hf X 2 hb).trans h.f2,(hc X 3 hb).trans h.c3,(hf X 3 hb).trans h.f3,(hc X 4 hb).trans h.c4,(hf X 4 hb).trans h.f4,(hc X 5 hb).trans h.c5,(hf X 5 hb).trans h.f5⟩
theorem xJ(s d:BA)(p:Int)(t:BA)(w:World)(hs:s.size≤1048576)(hd:d.size≤1048576)(ht:t.size≤1048576) :
  Cb 10 #[.string s,.string d,iV p,.string t] w (nV (bM s d p t) (aZ s d p t)):=by
 have HN:Hid (∀c:Int,aZ s d p t=c→c≠0→nV (bM s d p t) (aZ s d p t)=.agg #[iV 0,eS,eS,iV 0,iV 0,iV c]):=fun c h hc=>by unfold bM;rw[h,if_neg hc];rfl
 have HY:Hid (aZ s d p t=0→nV (bM s d p t) (aZ s d p t)=nV (aI s d p t) 0):=fun h=>by unfold bM;rw[h,if_pos rfl]
 have HD:Hid (aZ s d p t=if 20000 < t.size∨20000 < s.size∨20000 < d.size then 2 else if eM s d=false then 1 else aS s.size p t):=rfl;generalize nV (bM s d p t) (aZ s d p t)=ans at *;generalize aZ s d p t=code at *;by_cases lt:20000 < t.size
 ·have HV:Hid (ans=.agg #[iV 0,eS,eS,iV 0,iV 0,iV 2]):=HN.out 2 (by rw[HD.out,if_pos (Or.inl lt)]) (by decide);clear HN HY HD;go_enter Tryz.func10,Tryz.ntmps10
  go_wp2_with fail
  refine VB (v:=.agg #[iV 0,eS,eS,iV 0,iV 0,iV 2]) (by simp[results,Tryz.results10,go_sem]) rfl ⟨by rw[HV.out],?_⟩;exact bR.alloc lR _
 by_cases ls:20000 < s.size
 ·have HV:Hid (ans=.agg #[iV 0,eS,eS,iV 0,iV 0,iV 2]):=HN.out 2 (by rw[HD.out,if_pos (Or.inr (Or.inl ls))]) (by decide);clear HN HY HD;go_enter Tryz.func10,Tryz.ntmps10
  go_wp2_with fail
  refine VB (v:=.agg #[iV 0,eS,eS,iV 0,iV 0,iV 2]) (by simp[results,Tryz.results10,go_sem]) rfl ⟨by rw[HV.out],?_⟩;exact bR.alloc lR _
 by_cases ld:20000 < d.size
 ·have HV:Hid (ans=.agg #[iV 0,eS,eS,iV 0,iV 0,iV 2]):=HN.out 2 (by rw[HD.out,if_pos (Or.inr (Or.inr ld))]) (by decide);clear HN HY HD;go_enter Tryz.func10,Tryz.ntmps10
  go_wp2_with fail
  refine VB (v:=.agg #[iV 0,eS,eS,iV 0,iV 0,iV 2]) (by simp[results,Tryz.results10,go_sem]) rfl ⟨by rw[HV.out],?_⟩;exact bR.alloc lR _
 replace HD:Hid (code=if eM s d=false then 1 else aS s.size p t):=by unfold Hid;rw[HD.out,if_neg (by omega)]
 have HB1:Hid (∀W,Cw 31 #[.string s,.string d] W (.bool (eM s d))):=fun W=>xF _ _ W (by unfold maxLen;omega) (by unfold maxLen;omega)
 cases a1:eM s d with
 | false=>
  have HV:Hid (ans=.agg #[iV 0,eS,eS,iV 0,iV 0,iV 1]):=HN.out 1 (by rw[HD.out,if_pos a1]) (by decide);rw[a1]at HB1;clear HN HY HD a1;go_enter Tryz.func10,Tryz.ntmps10
  go_wp2_with fail
  refine(HB1.out _).mono ?_;rintro e w2 ⟨rfl,rfl⟩;go_wp2_with fail
  refine VB (v:=.agg #[iV 0,eS,eS,iV 0,iV 0,iV 1]) (by simp[results,Tryz.results10,go_sem]) rfl ⟨by rw[HV.out],?_⟩;exact bR.alloc lR _
 | true=>
  have HB2:Hid (∀W,Cb 32 #[.string s,.string d,iV p,.string t] W (.tuple #[gF (aI s d p t),iV (aS s.size p t)])):=fun W=>xE s d p t W hs ht
  replace HD:Hid (code=aS s.size p t):=by unfold Hid;rw[HD.out,if_neg (by rw[a1];decide)]
  rw[a1]at HB1;rw[←HD.out]at HB2;clear HD a1;have KR:Hid (uZ w.heap.size (w.alloc (.cells #[iV 0,eS,eS,iV 0,iV 0,iV 0] 45)) ⟨0,⟨#[]⟩,⟨#[]⟩,0,0⟩ 0):=uZ.new w ⟨0,⟨#[]⟩,⟨#[]⟩,0,0⟩ 0;have GR:Hid (Below w.heap.size w (w.alloc (.cells #[iV 0,eS,eS,iV 0,iV 0,iV 0] 45))):=bR.alloc lR _;generalize aI s d p t=fl at *;obtain⟨p',s',d',x,y⟩:=fl;unfold gF nV at *;dsimp only at *;by_cases c0:code=0
  ·have HV:=HY.out c0;have HV:Hid _:=HV;subst c0;clear HN HY;go_enter Tryz.func10,Tryz.ntmps10
   go_wp2_with fail
   refine(HB1.out _).mono ?_;rintro e w2 ⟨rfl,rfl⟩;go_wp2_with fail
   refine(HB2.out _).mono ?_;rintro e w3 ⟨rfl,q3⟩;have G3:Hid _:=GR.out.trans (q3.mono GR.out.size);have R3:Hid (uZ w.heap.size w3 ⟨0,⟨#[]⟩,⟨#[]⟩,0,0⟩ 0):=KR.out.kept q3;clear q3 GR KR;have hlt:=US w3 _ R3.out.c0;obtain⟨k0,y0,k1,y1,k2,y2,k3,y3,k4,y4,k5,y5⟩:=R3.out;dsimp only at k0 k1 k2 k3 k4 k5;go_wp2_with fail
   have hne:w.heap.size≠w3.heap.size:=by omega
   refine VB (v:=.agg #[iV p',.string s',.string d',iV x,iV y,iV 0]) (by simp[results,Tryz.results10,go_sem,k0,k1,k2,k3,k4,k5,hlt,hne]) rfl ⟨by rw[HV.out],?_⟩;exact((((((G3.out.setCell lR _).setCell lR _).setCell lR _).setCell lR _).setCell lR _).setCell lR _).alloc (by simp;omega) _
  ·have HV:Hid _:=HN.out code rfl c0;have dc:(code != 0)=true:=by simp[c0]
   clear HN HY;go_enter Tryz.func10,Tryz.ntmps10
   go_wp2_with fail
   refine(HB1.out _).mono ?_;rintro e w2 ⟨rfl,rfl⟩;go_wp2_with fail
   refine(HB2.out _).mono ?_;rintro e w3 ⟨rfl,q3⟩;have G3:Hid _:=GR.out.trans (q3.mono GR.out.size);have R3:Hid (uZ w.heap.size w3 ⟨0,⟨#[]⟩,⟨#[]⟩,0,0⟩ 0):=KR.out.kept q3;clear q3 GR KR;have hlt:=US w3 _ R3.out.c0;obtain⟨k0,y0,k1,y1,k2,y2,k3,y3,k4,y4,k5,y5⟩:=R3.out;dsimp only at k0 k1 k2 k3 k4 k5;go_wp2_with fail
   have hne:w.heap.size≠w3.heap.size:=by omega
   refine VB (v:=.agg #[iV 0,eS,eS,iV 0,iV 0,iV code]) (by simp[results,Tryz.results10,go_sem,k0,k1,k2,k3,k4,k5,hlt,hne]) rfl ⟨by rw[HV.out],?_⟩;exact((((((G3.out.setCell lR _).setCell lR _).setCell lR _).setCell lR _).setCell lR _).setCell lR _).alloc (by simp;omega) _
theorem IE(t:BA):gC 6 t=(decide (t.size < 20)||(decide (bt t 12 / 16 < 5)||decide ((t.size:Int) < 4*(bt t 12 / 16)))):=by
 unfold gC;rw[Bool.eq_iff_iff];simp only[decide_true,UP,UV,decide_eq_true_eq];constructor
 ·rintro (((h | h) | h) | h)
  ·exact .inl h
  ·exact .inr (.inl h)
  ·exact .inr (.inr h)
  ·exact .inl (by omega)
 ·rintro (h | h | h)
  ·exact .inl (.inl (.inl h))
  ·exact .inl (.inl (.inr h))
  ·exact .inl (.inr h)
theorem ID(p:Int)(t:BA)(h:p≠6):gC p t=decide (t.size < 8):=by
 unfold gC;rw[UD h];rfl
theorem AV(p:Int)(t:BA)(w:World)(ht:t.size≤1048576) :
  Cw 99 #[iV p,.string t] w (.bool (!gC p t)):=by
 by_cases h6:p=6
 ·subst h6;rw[IE];by_cases h1:t.size < 20
  ·rw[UE h1];go_enter Tryz.func99,Tryz.ntmps99
   go_wp2_with fail
   go_ret;exact⟨rfl,rfl⟩
  ·rw[UD h1];have hb:=get_bt t;have b12:=bH t 12;by_cases h2:bt t 12 / 16 < 5
   ·rw[UE h2];have d2:decide ((20:Int)≤4*(bt t 12 / 16))=false:=by simp;omega
    go_enter Tryz.func99,Tryz.ntmps99
    go_wp2_with fail
    go_ret;exact⟨rfl,rfl⟩
   ·rw[UD h2];have d2:decide ((20:Int)≤4*(bt t 12 / 16))=true:=by simp;omega
    have HQ:Hid ((!decide ((t.size:Int) < 4*(bt t 12 / 16)))=decide (4*(bt t 12 / 16)≤(t.size:Int))):=by
     unfold Hid;rw[Bool.eq_iff_iff];simp
    go_enter Tryz.func99,Tryz.ntmps99
    go_wp2_with fail
    go_ret;exact⟨aC HQ.out.symm,rfl⟩
 ·rw[ID p t h6];have d6:(p != 6)=true:=by simp[h6]
  have HQ:Hid ((!decide (t.size < 8))=decide ((8:Int)≤(t.size:Int))):=by
   unfold Hid;rw[Bool.eq_iff_iff];simp;omega
  clear h6;go_enter Tryz.func99,Tryz.ntmps99
  go_wp2_with fail
  go_ret;exact⟨aC HQ.out.symm,rfl⟩
theorem lZ(p:Int)(w:World)(hp:aL p=true) :
  Cw 130 #[iV p] w (.tuple #[.int .u8 (iN p),.int .u8 (jV p)]):=by
 have h:p=1∨p=58:=by unfold aL at hp;simpa using hp
 clear hp;rcases h with rfl|rfl
 ·rw[show iN 1=8 from rfl,show jV 1=0 from rfl];go_enter Tryz.func130,Tryz.ntmps130
  go_wp2_with fail
  go_ret2
  exact⟨rfl,rfl⟩
 ·rw[show iN 58=128 from rfl,show jV 58=129 from rfl];go_enter Tryz.func130,Tryz.ntmps130
  go_wp2_with fail
  go_ret2
  exact⟨rfl,rfl⟩
def lJ(p:Int)(t:BA):Bool:=(decide (bt t 0=iN p)||decide (bt t 0=jV p))&&decide (bt t 1=0)
theorem AU(p:Int)(t:BA)(w:World)(hp:aL p=true)(h8:8≤t.size)(ht:t.size≤1048576) :
  Cw 101 #[iV p,.string t] w (.bool (lJ p t)):=by
 have HE:Hid (∀W,Cw 130 #[iV p] W (.tuple #[.int .u8 (iN p),.int .u8 (jV p)])):=fun W=>lZ p W hp
 have hb:=get_bt t;have b0:=bH t 0;have b1:=bH t 1;have q0:(bt t 0==iN p)=decide (bt t 0=iN p):=rfl;have q1:(bt t 0==jV p)=decide (bt t 0=jV p):=rfl;have q2:(bt t 1==0)=decide (bt t 1=0):=rfl;unfold lJ;generalize decide (bt t 0=iN p)=c0 at *;generalize decide (bt t 0=jV p)=c1 at *;generalize decide (bt t 1=0)=c2 at *;generalize iN p=a at *;generalize jV p=b at *;have hun:undef=Value.tuple #[]:=rfl
 cases c0
 ·cases c1
  ·go_enter Tryz.func101,Tryz.ntmps101
   go_wp2_with fail
   refine(HE.out _).mono ?_;rintro e w2 ⟨rfl,rfl⟩;go_wp2_with fail
   go_ret;exact⟨rfl,rfl⟩
  ·go_enter Tryz.func101,Tryz.ntmps101
   go_wp2_with fail
   refine(HE.out _).mono ?_;rintro e w2 ⟨rfl,rfl⟩;go_wp2_with fail
   go_ret;exact⟨rfl,rfl⟩
 ·go_enter Tryz.func101,Tryz.ntmps101
  go_wp2_with fail
  refine(HE.out _).mono ?_;rintro e w2 ⟨rfl,rfl⟩;go_wp2_with fail
  go_ret;exact⟨rfl,rfl⟩
theorem DI(p:Int)(t:BA)(w:World)(h8:8≤t.size)(ht:t.size≤1048576) :
  Cw 102 #[iV p,.string t] w (.tuple #[iV (if aL p=true then aM (bt t) 4 else aM (bt t) 0),iV (if aL p=true then aM (bt t) 4 else aM (bt t) 2)]):=by
 have HB:Hid (∀W,Cw 100 #[iV p] W (.bool (aL p))):=fun W=>fS _ W
 have HW:Hid (∀k:Nat,k < 8→∀W,Cw 131 #[.string t,iV k] W (iV (aM (bt t) k))):=fun k hk W=>lL t k W (by omega) (by unfold maxLen;omega)
 cases h:aL p with
 | true=>
  rw[h]at HB;rw[if_pos rfl,if_pos rfl];go_enter Tryz.func102,Tryz.ntmps102
  go_wp2_with fail
  refine(HB.out _).mono ?_;rintro e w2 ⟨rfl,rfl⟩;go_wp2_with fail
  refine(HW.out 4 (by omega) _).mono ?_;rintro e w2 ⟨rfl,rfl⟩;go_wp2_with fail
  go_ret2
  exact⟨rfl,rfl⟩
 | false=>
  rw[h]at HB;rw[if_neg (by decide),if_neg (by decide)];go_enter Tryz.func102,Tryz.ntmps102
  go_wp2_with fail
  refine(HB.out _).mono ?_;rintro e w2 ⟨rfl,rfl⟩;go_wp2_with fail
  refine(HW.out 0 (by omega) _).mono ?_;rintro e w2 ⟨rfl,rfl⟩;go_wp2_with fail
  refine(HW.out 2 (by omega) _).mono ?_;rintro e w2 ⟨rfl,rfl⟩;go_wp2_with fail
  go_ret2
  exact⟨rfl,rfl⟩
theorem oL(s:BA):qO s.size (bt s)=s:=by
 refine FK (oM _ _) fun i hi=>?_
 rw[oM]at hi;exact FQ hi (bt_nonneg s i) (bt_le s i)
theorem mV(s d:BA)(p:Int)(t:BA)(w:World)(hs:s.size≤1048576)(hd:d.size≤1048576)(ht:t.size≤1048576) :
  Cb 58 #[.string s,.string d,iV p,.string t] w (nV (bM s d p t) (aZ s d p t)):=by
 have HN:Hid (∀c:Int,aZ s d p t=c→c≠0→nV (bM s d p t) (aZ s d p t)=.agg #[iV 0,eS,eS,iV 0,iV 0,iV c]):=fun c h hc=>by unfold bM;rw[h,if_neg hc];rfl
 have HY:Hid (aZ s d p t=0→aS s.size p t=0→nV (bM s d p t) (aZ s d p t)=.agg #[iV p,.string s,.string d,iV (if aL p=true then aM (bt t) 4 else aM (bt t) 0),iV (if aL p=true then aM (bt t) 4 else aM (bt t) 2),iV 0]):=fun h h2=>by
  unfold bM;rw[h,if_pos rfl];unfold aI;rw[if_pos h2];split<;>rfl
 have HD:Hid (aZ s d p t=if 20000 < t.size∨20000 < s.size∨20000 < d.size then 2 else if eM s d=false then 1 else aS s.size p t):=rfl;have HA1:Hid (∀W,Cw 81 #[.string s] W (.bool (decide (20000 < s.size)))):=fun W=>jM s W
 have HA2:Hid (∀W,Cw 81 #[.string d] W (.bool (decide (20000 < d.size)))):=fun W=>jM d W
 have HA3:Hid (∀W,Cw 81 #[.string t] W (.bool (decide (20000 < t.size)))):=fun W=>jM t W
 have HB:Hid (∀W,Cw 97 #[.string s,.string d] W (.bool (eM s d))):=fun W=>sI _ _ W (by unfold maxLen;omega) (by unfold maxLen;omega)
 have HC:Hid (∀W,Cw 98 #[iV p,.string s] W (.bool (cH p s.size))):=fun W=>pA _ _ W (by unfold maxLen;omega)
 have HE:Hid (∀W,Cw 99 #[iV p,.string t] W (.bool (!gC p t))):=fun W=>AV _ _ W ht
 have HF:Hid (∀W,Cw 100 #[iV p] W (.bool (aL p))):=fun W=>fS _ W
 generalize nV (bM s d p t) (aZ s d p t)=ans at *;generalize aZ s d p t=code at *;by_cases ls:20000 < s.size
 ·have HV:Hid (ans=.agg #[iV 0,eS,eS,iV 0,iV 0,iV 2]):=HN.out 2 (by rw[HD.out,if_pos (Or.inr (Or.inl ls))]) (by decide);rw[UE ls]at HA1;clear HN HY HD;go_enter Tryz.func58,Tryz.ntmps58
  go_wp2_with fail
  refine(HA1.out _).mono ?_;rintro e w2 ⟨rfl,rfl⟩;go_wp2_with fail
  refine VB (v:=.agg #[iV 0,eS,eS,iV 0,iV 0,iV 2]) (by simp[results,Tryz.results58,go_sem]) rfl ⟨by rw[HV.out],?_⟩;exact bR.alloc lR _
 rw[UD ls]at HA1;by_cases ld:20000 < d.size
 ·have HV:Hid (ans=.agg #[iV 0,eS,eS,iV 0,iV 0,iV 2]):=HN.out 2 (by rw[HD.out,if_pos (Or.inr (Or.inr ld))]) (by decide);rw[UE ld]at HA2;clear HN HY HD;go_enter Tryz.func58,Tryz.ntmps58
  go_wp2_with fail
  refine(HA1.out _).mono ?_;rintro e w2 ⟨rfl,rfl⟩;go_wp2_with fail
  refine(HA2.out _).mono ?_;rintro e w2 ⟨rfl,rfl⟩;go_wp2_with fail
  refine VB (v:=.agg #[iV 0,eS,eS,iV 0,iV 0,iV 2]) (by simp[results,Tryz.results58,go_sem]) rfl ⟨by rw[HV.out],?_⟩;exact bR.alloc lR _
 rw[UD ld]at HA2;by_cases lt:20000 < t.size
 ·have HV:Hid (ans=.agg #[iV 0,eS,eS,iV 0,iV 0,iV 2]):=HN.out 2 (by rw[HD.out,if_pos (Or.inl lt)]) (by decide);rw[UE lt]at HA3;clear HN HY HD;go_enter Tryz.func58,Tryz.ntmps58
  go_wp2_with fail
  refine(HA1.out _).mono ?_;rintro e w2 ⟨rfl,rfl⟩;go_wp2_with fail
  refine(HA2.out _).mono ?_;rintro e w2 ⟨rfl,rfl⟩;go_wp2_with fail
  refine(HA3.out _).mono ?_;rintro e w2 ⟨rfl,rfl⟩;go_wp2_with fail
  refine VB (v:=.agg #[iV 0,eS,eS,iV 0,iV 0,iV 2]) (by simp[results,Tryz.results58,go_sem]) rfl ⟨by rw[HV.out],?_⟩;exact bR.alloc lR _
 rw[UD lt]at HA3;replace HD:Hid (code=if eM s d=false then 1 else aS s.size p t):=by unfold Hid;rw[HD.out,if_neg (by omega)]
 cases a1:eM s d with
 | false=>
  have HV:Hid (ans=.agg #[iV 0,eS,eS,iV 0,iV 0,iV 1]):=HN.out 1 (by rw[HD.out,if_pos a1]) (by decide);rw[a1]at HB;clear HN HY HD a1;go_enter Tryz.func58,Tryz.ntmps58
  go_wp2_with fail
  refine(HA1.out _).mono ?_;rintro e w2 ⟨rfl,rfl⟩;go_wp2_with fail
  refine(HA2.out _).mono ?_;rintro e w2 ⟨rfl,rfl⟩;go_wp2_with fail
  refine(HA3.out _).mono ?_;rintro e w2 ⟨rfl,rfl⟩;go_wp2_with fail
  refine(HB.out _).mono ?_;rintro e w2 ⟨rfl,rfl⟩;go_wp2_with fail
  refine VB (v:=.agg #[iV 0,eS,eS,iV 0,iV 0,iV 1]) (by simp[results,Tryz.results58,go_sem]) rfl ⟨by rw[HV.out],?_⟩;exact bR.alloc lR _
 | true=>
 replace HD:Hid (code=aS s.size p t):=by unfold Hid;rw[HD.out,if_neg (by rw[a1];decide)]
 rw[a1]at HB;clear a1
 cases a2:cH p s.size with
 | false=>
  have HD2:Hid (aS s.size p t=11):=by unfold Hid aS;rw[if_pos a2]
  have HV:Hid (ans=.agg #[iV 0,eS,eS,iV 0,iV 0,iV 11]):=HN.out 11 (by rw[HD.out,HD2.out]) (by decide);rw[a2]at HC;clear HN HY HD HD2 a2;go_enter Tryz.func58,Tryz.ntmps58
  go_wp2_with fail
  refine(HA1.out _).mono ?_;rintro e w2 ⟨rfl,rfl⟩;go_wp2_with fail
  refine(HA2.out _).mono ?_;rintro e w2 ⟨rfl,rfl⟩;go_wp2_with fail
  refine(HA3.out _).mono ?_;rintro e w2 ⟨rfl,rfl⟩;go_wp2_with fail
  refine(HB.out _).mono ?_;rintro e w2 ⟨rfl,rfl⟩;go_wp2_with fail
  refine(HC.out _).mono ?_;rintro e w2 ⟨rfl,rfl⟩;go_wp2_with fail
  refine VB (v:=.agg #[iV 0,eS,eS,iV 0,iV 0,iV 11]) (by simp[results,Tryz.results58,go_sem]) rfl ⟨by rw[HV.out],?_⟩;exact bR.alloc lR _
 | true=>
 have HO:Hid (aS s.size p t=if gC p t=true then 4 else if aL p=true then (if (bt t 0≠iN p∧bt t 0≠jV p)∨bt t 1≠0 then 11 else 0) else 0):=by unfold Hid aS;rw[if_neg (by rw[a2];decide)]
 rw[a2]at HC;clear a2
 cases a3:gC p t with
 | true=>
  have HD2:Hid (aS s.size p t=4):=by unfold Hid;rw[HO.out,if_pos a3]
  have HV:Hid (ans=.agg #[iV 0,eS,eS,iV 0,iV 0,iV 4]):=HN.out 4 (by rw[HD.out,HD2.out]) (by decide);rw[a3]at HE;clear HN HY HD HD2 HO a3;go_enter Tryz.func58,Tryz.ntmps58
  go_wp2_with fail
  refine(HA1.out _).mono ?_;rintro e w2 ⟨rfl,rfl⟩;go_wp2_with fail
  refine(HA2.out _).mono ?_;rintro e w2 ⟨rfl,rfl⟩;go_wp2_with fail
  refine(HA3.out _).mono ?_;rintro e w2 ⟨rfl,rfl⟩;go_wp2_with fail
  refine(HB.out _).mono ?_;rintro e w2 ⟨rfl,rfl⟩;go_wp2_with fail
  refine(HC.out _).mono ?_;rintro e w2 ⟨rfl,rfl⟩;go_wp2_with fail
  refine(HE.out _).mono ?_;rintro e w2 ⟨rfl,rfl⟩;go_wp2_with fail
  refine VB (v:=.agg #[iV 0,eS,eS,iV 0,iV 0,iV 4]) (by simp[results,Tryz.results58,go_sem]) rfl ⟨by rw[HV.out],?_⟩;exact bR.alloc lR _
 | false=>
 replace HO:Hid (aS s.size p t=if aL p=true then (if (bt t 0≠iN p∧bt t 0≠jV p)∨bt t 1≠0 then 11 else 0) else 0):=by unfold Hid;rw[HO.out,if_neg (by rw[a3];decide)]
 have h8:8≤t.size:=by
  unfold gC at a3;rw[Bool.or_eq_false_iff,decide_eq_false_iff_not]at a3;omega
 rw[a3]at HE;clear a3;have HP:Hid (∀W,Cw 102 #[iV p,.string t] W (.tuple #[iV (if aL p=true then aM (bt t) 4 else aM (bt t) 0),iV (if aL p=true then aM (bt t) 4 else aM (bt t) 2)])):=fun W=>DI p t W h8 ht
 have HG:Hid (aL p=true→∀W,Cw 101 #[iV p,.string t] W (.bool (lJ p t))):=fun h W=>AU p t W h h8 ht
 by_cases hbad:aL p=true∧lJ p t=false
 ·obtain⟨a4,a5⟩:=hbad;have HD2:Hid (aS s.size p t=11):=by
   unfold Hid;rw[HO.out,if_pos a4,if_pos];unfold lJ at a5;rw[Bool.and_eq_false_iff,Bool.or_eq_false_iff]at a5;simpa using a5
  have HG2:Hid _:=HG.out a4;rw[a5]at HG2;have HV:Hid (ans=.agg #[iV 0,eS,eS,iV 0,iV 0,iV 11]):=HN.out 11 (by rw[HD.out,HD2.out]) (by decide);rw[a4]at HF;clear HN HY HD HD2 HO HG HP a4 a5;go_enter Tryz.func58,Tryz.ntmps58
  go_wp2_with fail
  refine(HA1.out _).mono ?_;rintro e w2 ⟨rfl,rfl⟩;go_wp2_with fail
  refine(HA2.out _).mono ?_;rintro e w2 ⟨rfl,rfl⟩;go_wp2_with fail
  refine(HA3.out _).mono ?_;rintro e w2 ⟨rfl,rfl⟩;go_wp2_with fail
  refine(HB.out _).mono ?_;rintro e w2 ⟨rfl,rfl⟩;go_wp2_with fail
  refine(HC.out _).mono ?_;rintro e w2 ⟨rfl,rfl⟩;go_wp2_with fail
  refine(HE.out _).mono ?_;rintro e w2 ⟨rfl,rfl⟩;go_wp2_with fail
  refine(HF.out _).mono ?_;rintro e w2 ⟨rfl,rfl⟩;go_wp2_with fail
  refine(HG2.out _).mono ?_;rintro e w2 ⟨rfl,rfl⟩;go_wp2_with fail
  refine VB (v:=.agg #[iV 0,eS,eS,iV 0,iV 0,iV 11]) (by simp[results,Tryz.results58,go_sem]) rfl ⟨by rw[HV.out],?_⟩;exact bR.alloc lR _
 have HD2:Hid (aS s.size p t=0):=by
  unfold Hid;rw[HO.out];by_cases a4:aL p=true
  ·rw[if_pos a4,if_neg];have a5:lJ p t=true:=by
    cases h:lJ p t
    ·exact absurd ⟨a4,h⟩ hbad
    ·rfl
   unfold lJ at a5;rw[UB,UV]at a5;simp only[decide_eq_true_eq]at a5;omega
  ·rw[if_neg a4]
 have HV:Hid _:=HY.out (HD.out.trans HD2.out) HD2.out;have HG2:Hid (aL p=true→lJ p t=true):=fun h=>by
  cases h2:lJ p t
  ·exact absurd ⟨h,h2⟩ hbad
  ·rfl
 clear HN HY HD HD2 HO hbad;have GR:Hid (Below w.heap.size w (w.alloc (.cells #[iV 0,eS,eS,iV 0,iV 0,iV 0] 45))):=bR.alloc lR _;have KR:Hid (uZ w.heap.size (w.alloc (.cells #[iV 0,eS,eS,iV 0,iV 0,iV 0] 45)) ⟨0,⟨#[]⟩,⟨#[]⟩,0,0⟩ 0):=uZ.new w ⟨0,⟨#[]⟩,⟨#[]⟩,0,0⟩ 0;obtain⟨cp1,W1,hcv1,hh1,hb1,_⟩:=tH (w.alloc (.cells #[iV 0,eS,eS,iV 0,iV 0,iV 0] 45)) s;have hcw1:=hh1.conv (cap:=cp1) (bH s)
 rw[oL]at hcw1;rw[show (w.alloc (.cells #[iV 0,eS,eS,iV 0,iV 0,iV 0] 45)).heap.size=w.heap.size+1 by simp]at hcv1 hcw1;obtain⟨cp2,W2,hcv2,hh2,hb2,_⟩:=tH W1 d;have hcw2:=hh2.conv (cap:=cp2) (bH d)
 rw[oL]at hcw2;have G2:Hid (Below w.heap.size w W2):=(GR.out.trans (hb1.mono GR.out.size)).trans (hb2.mono (UL GR.out.size hb1.size));have R2:Hid (uZ w.heap.size W2 ⟨0,⟨#[]⟩,⟨#[]⟩,0,0⟩ 0):=(KR.out.kept hb1).kept hb2;clear hh1 hh2 hb1 hb2 GR KR;generalize (if aL p=true then aM (bt t) 4 else aM (bt t) 0)=x at *;generalize (if aL p=true then aM (bt t) 4 else aM (bt t) 2)=y at *;have hlt:=US W2 _ R2.out.c0;have fin:∀q:Bool,aL p=q→Calls Tryz.prog 58 #[.string s,.string d,iV p,.string t] w fun e w'=>e=.returned ans∧Below w.heap.size w w':=by
  intro q hq;rw[hq]at HF
  cases q with
  | true=>
   have HG3:Hid _:=HG.out hq;rw[HG2.out hq]at HG3;clear HG HG2 hq;go_enter Tryz.func58,Tryz.ntmps58
   go_wp2_with fail
   refine(HA1.out _).mono ?_;rintro e w2 ⟨rfl,rfl⟩;go_wp2_with fail
   refine(HA2.out _).mono ?_;rintro e w2 ⟨rfl,rfl⟩;go_wp2_with fail
   refine(HA3.out _).mono ?_;rintro e w2 ⟨rfl,rfl⟩;go_wp2_with fail
   refine(HB.out _).mono ?_;rintro e w2 ⟨rfl,rfl⟩;go_wp2_with fail
   refine(HC.out _).mono ?_;rintro e w2 ⟨rfl,rfl⟩;go_wp2_with fail
   refine(HE.out _).mono ?_;rintro e w2 ⟨rfl,rfl⟩;go_wp2_with fail
   refine(HF.out _).mono ?_;rintro e w2 ⟨rfl,rfl⟩;go_wp2_with fail
   refine(HG3.out _).mono ?_;rintro e w2 ⟨rfl,rfl⟩;go_wp2_with fail
   refine(HP.out _).mono ?_;rintro e w2 ⟨rfl,rfl⟩;obtain⟨k0,y0,k1,y1,k2,y2,k3,y3,k4,y4,k5,y5⟩:=R2.out;dsimp only at k0 k1 k2 k3 k4 k5;go_wp2_with fail
   have hne:w.heap.size≠W2.heap.size:=by omega
   refine VB (v:=.agg #[iV p,.string s,.string d,iV x,iV y,iV 0]) (by simp[results,Tryz.results58,go_sem,k0,k1,k2,k3,k4,k5,hlt,hne]) rfl ⟨by rw[HV.out],?_⟩;have hz:=G2.out.size;exact((((((G2.out.setCell lR _).setCell lR _).setCell lR _).setCell lR _).setCell lR _).setCell lR _).alloc (by simp;omega) _
  | false=>
   clear HG HG2 hq;go_enter Tryz.func58,Tryz.ntmps58
   go_wp2_with fail
   refine(HA1.out _).mono ?_;rintro e w2 ⟨rfl,rfl⟩;go_wp2_with fail
   refine(HA2.out _).mono ?_;rintro e w2 ⟨rfl,rfl⟩;go_wp2_with fail
   refine(HA3.out _).mono ?_;rintro e w2 ⟨rfl,rfl⟩;go_wp2_with fail
   refine(HB.out _).mono ?_;rintro e w2 ⟨rfl,rfl⟩;go_wp2_with fail
   refine(HC.out _).mono ?_;rintro e w2 ⟨rfl,rfl⟩;go_wp2_with fail
   refine(HE.out _).mono ?_;rintro e w2 ⟨rfl,rfl⟩;go_wp2_with fail
   refine(HF.out _).mono ?_;rintro e w2 ⟨rfl,rfl⟩;go_wp2_with fail
   refine(HP.out _).mono ?_;rintro e w2 ⟨rfl,rfl⟩;obtain⟨k0,y0,k1,y1,k2,y2,k3,y3,k4,y4,k5,y5⟩:=R2.out;dsimp only at k0 k1 k2 k3 k4 k5;go_wp2_with fail
   have hne:w.heap.size≠W2.heap.size:=by omega
   refine VB (v:=.agg #[iV p,.string s,.string d,iV x,iV y,iV 0]) (by simp[results,Tryz.results58,go_sem,k0,k1,k2,k3,k4,k5,hlt,hne]) rfl ⟨by rw[HV.out],?_⟩;have hz:=G2.out.size;exact((((((G2.out.setCell lR _).setCell lR _).setCell lR _).setCell lR _).setCell lR _).setCell lR _).alloc (by simp;omega) _
 exact fin _ rfl
theorem sJ(n:Int)(w:World) :
  Cw 87 #[iV n] w (.bool (bT n)):=by
 by_cases h1:0≤n
 ·by_cases h2:n≤1000000000
  ·have HV:Hid (bT n=true):=by unfold Hid bT aO;simp[h1,h2]
   go_enter Tryz.func87,Tryz.ntmps87
   go_wp2_with fail
   go_ret;exact⟨aC (by rw[HV.out]),rfl⟩
  ·have HV:Hid (bT n=false):=by unfold Hid bT aO;simp[h2]
   go_enter Tryz.func87,Tryz.ntmps87
   go_wp2_with fail
   go_ret;exact⟨aC (by rw[HV.out]),rfl⟩
 ·have HV:Hid (bT n=false):=by unfold Hid bT aO;simp[h1]
  have h1':n < 0:=by omega
  go_enter Tryz.func87,Tryz.ntmps87
  go_wp2_with fail
  go_ret;exact⟨aC (by rw[HV.out]),rfl⟩
theorem vI(p:P4)(w:World)(h1:p.src.size≤1048576)(h2:p.dst.size≤1048576)(h3:p.opts.size≤1048576)(h4:p.data.size≤1048576) :
  Cb 86 #[kL p] w (.bool (jB p)):=by
 have HB1:Hid (∀W,Cw 121 #[iV p.tos] W (.bool (aO p.tos 0 255))):=fun W=>jL p.tos W
 have HB2:Hid (∀W,Cw 121 #[iV p.ttl] W (.bool (aO p.ttl 0 255))):=fun W=>jL p.ttl W
 have HB3:Hid (∀W,Cw 121 #[iV p.VF] W (.bool (aO p.VF 0 255))):=fun W=>jL p.VF W
 have HB4:Hid (∀W,Cw 122 #[iV p.id] W (.bool (aO p.id 0 65535))):=fun W=>dU p.id W
 have HB5:Hid (∀W,Cw 123 #[iV p.off,.bool p.more,.string p.data,iV 65515] W (.bool (PT p.off p.more p.data 65515))):=fun W=>yG p.off p.more p.data 65515 W h4
 have HV:Hid (jB p=_):=LA p;generalize jB p=ok at *;obtain⟨tos,id,whole,more,off,ttl,VF,src,dst,opts,data⟩:=p;unfold kL;dsimp only at *;have HZ:Hid (Below w.heap.size w (w.alloc (.cells (eP tos id whole more off ttl VF src dst opts data).toArray 33))):=bR.alloc lR _;generalize aO tos 0 255=b1 at *;generalize aO ttl 0 255=b2 at *;generalize aO VF 0 255=b3 at *;generalize aO id 0 65535=b4 at *;generalize PT off more data 65515=b5 at *;go_enter Tryz.func86,Tryz.ntmps86
 go_wp2_with fail
 refine(HB1.out _).mono ?_;rintro e w2 ⟨rfl,rfl⟩
 cases b1 with
 | false=>
  have hun:undef=Value.tuple #[]:=rfl;go_wp2_with fail
  go_ret;exact⟨aC (by rw[HV.out];simp),HZ.out⟩
 | true=>
  go_wp2_with fail
  refine(HB2.out _).mono ?_;rintro e w2 ⟨rfl,rfl⟩
  cases b2 with
  | false=>
   have hun:undef=Value.tuple #[]:=rfl;go_wp2_with fail
   go_ret;exact⟨aC (by rw[HV.out];simp),HZ.out⟩
  | true=>
   go_wp2_with fail
   refine(HB3.out _).mono ?_;rintro e w2 ⟨rfl,rfl⟩
   cases b3 with
   | false=>
    have hun:undef=Value.tuple #[]:=rfl;go_wp2_with fail
    go_ret;exact⟨aC (by rw[HV.out];simp),HZ.out⟩
   | true=>
    go_wp2_with fail
    refine(HB4.out _).mono ?_;rintro e w2 ⟨rfl,rfl⟩
    cases b4 with
    | false=>
     have hun:undef=Value.tuple #[]:=rfl;go_wp2_with fail
     go_ret;exact⟨aC (by rw[HV.out];simp),HZ.out⟩
    | true=>
     by_cases s1:src.size=4
     ·have ds1:((src.size:Int)==4)=true:=by simp<;>omega
      have vs1:decide (src.size=4)=true:=UE s1;rw[vs1]at HV;by_cases s2:dst.size=4
      ·have ds2:((dst.size:Int)==4)=true:=by simp<;>omega
       have vs2:decide (dst.size=4)=true:=UE s2;rw[vs2]at HV;by_cases s3:opts.size≤40
       ·have ds3:decide ((opts.size:Int)≤40)=true:=by simp<;>omega
        have vs3:decide (opts.size≤40)=true:=UE s3;rw[vs3]at HV;by_cases s4:opts.size % 4=0
        ·have ds4:(((opts.size:Int) % 4)==0)=true:=by simp<;>omega
         have vs4:decide (opts.size % 4=0)=true:=UE s4;rw[vs4]at HV;go_wp2_with fail
         refine(HB5.out _).mono ?_;rintro e w2 ⟨rfl,rfl⟩
         cases b5 with
         | false=>
          have hun:undef=Value.tuple #[]:=rfl;go_wp2_with fail
          go_ret;exact⟨aC (by rw[HV.out];simp),HZ.out⟩
         | true=>
          cases whole with
          | false=>
           have hun:undef=Value.tuple #[]:=rfl;go_wp2_with fail
           go_ret;exact⟨aC (by rw[HV.out];simp),HZ.out⟩
          | true=>
           cases more with
           | true=>
            have hun:undef=Value.tuple #[]:=rfl;go_wp2_with fail
            go_ret;exact⟨aC (by rw[HV.out];simp),HZ.out⟩
           | false=>
            by_cases t1:off=0
            ·rw[UE t1]at HV;have dt1:(off != 0)=false:=by simp[t1]
             clear t1;have hun:undef=Value.tuple #[]:=rfl;go_wp2_with fail
             go_ret;exact⟨aC (by rw[HV.out];simp),HZ.out⟩
            ·rw[UD t1]at HV;have dt1:(off != 0)=true:=by simp[t1]
             have hun:undef=Value.tuple #[]:=rfl;go_wp2_with fail
             go_ret;exact⟨aC (by rw[HV.out];simp),HZ.out⟩
        ·have ds4:(((opts.size:Int) % 4)==0)=false:=by simp<;>omega
         have vs4:decide (opts.size % 4=0)=false:=UD s4;rw[vs4]at HV;have hun:undef=Value.tuple #[]:=rfl;go_wp2_with fail
         go_ret;exact⟨aC (by rw[HV.out];simp),HZ.out⟩
       ·have ds3:decide ((opts.size:Int)≤40)=false:=by simp<;>omega
        have vs3:decide (opts.size≤40)=false:=UD s3;rw[vs3]at HV;have hun:undef=Value.tuple #[]:=rfl;go_wp2_with fail
        go_ret;exact⟨aC (by rw[HV.out];simp),HZ.out⟩
      ·have ds2:((dst.size:Int)==4)=false:=by simp<;>omega
       have vs2:decide (dst.size=4)=false:=UD s2;rw[vs2]at HV;have hun:undef=Value.tuple #[]:=rfl;go_wp2_with fail
       go_ret;exact⟨aC (by rw[HV.out];simp),HZ.out⟩
     ·have ds1:((src.size:Int)==4)=false:=by simp<;>omega
      have vs1:decide (src.size=4)=false:=UD s1;rw[vs1]at HV;have hun:undef=Value.tuple #[]:=rfl;go_wp2_with fail
      go_ret;exact⟨aC (by rw[HV.out];simp),HZ.out⟩
def lI(ws:List Int):BA:=⟨((kK ws).map (fun x=>UInt8.ofNat x.toNat)).toArray⟩
theorem uW(ws:List Int):(lI ws).size=2*ws.length:=by
 unfold lI ByteArray.size;simp[nF]
theorem xS{w:World}{b cap n:Nat}{ws:List Int}(hn:n=2*ws.length)(hw:∀m∈ws,0≤m∧m≤65535)(hc:∀i,i < n→w.cell? ⟨b,i,none⟩=some (.int .u8 (fL ws i))) :
  (convert 22 9 (.slice (some ⟨b,0,none⟩) n cap)).run Tryz.prog w=.ok (.string (lI ws)) w:=by
 have hl:=nF ws;have e:n=((kK ws).map (fun x=>UInt8.ofNat x.toNat)).length:=by simp[hl,hn]
 rw[e];refine run_convert_bytes_back (P:=Tryz.prog) w 22 9 5 ⟨b,0,none⟩ cap ((kK ws).map (fun x=>UInt8.ofNat x.toNat)) Tryz.underlying22 Tryz.underlying5 Tryz.underlying9 ?_;intro j hj;have hj2:j < (kK ws).length:=by simpa using hj
 have hb:=AH ws hw j;have e2:fL ws j=(kK ws)[j]:=by simp[fL,List.getD,hj2]
 rw[e2]at hb;have e3:Addr.add ⟨b,0,none⟩ j=⟨b,j,none⟩:=by simp[Addr.add];omega
 rw[e3,List.getElem_map,fM _ hb.1 hb.2,←e2];exact hc j (by omega)
theorem EU(p n:Int)(hp:0≤p∧p≤255):kG 0 p++aR n=lI [p,n]:=by
 have e1:p / 256=0:=by omega
 have e2:p % 256=p:=by omega
 simp only[lI,kK,e1,e2];rfl
theorem IO(p n:Int)(hp:0≤p∧p≤255)(hn:0≤n∧n≤65535):aR (n / 65536)++aR (n % 65536)++pB 0 p=lI [n / 65536,n,0,p]:=by
 have e1:p / 256=0:=by omega
 have e2:p % 256=p:=by omega
 have e3:n % 65536=n:=by omega
 simp only[lI,kK,e1,e2,e3];rfl
theorem sK(s d:BA)(p:Int)(n:Nat)(w:World)(hs:s.size=4∨s.size=16)(hd:d.size≤16)(hp:0≤p∧p≤255)(hn:n≤65535) :
  Cb 176 #[.string s,.string d,iV p,iV n] w (.string (aQ s d p n)):=by
 have n1:¬9223372036854775807 < s.size+d.size:=by omega
 rcases hs with hs|hs
 ·have d4:((s.size:Int)==16)=false:=by simp;omega
  by_cases h1:p=1
  ·have d1:(p==1)=true:=by simp[h1]
   have HV:Hid (aQ s d p n=⟨#[]⟩):=by unfold Hid aQ;rw[if_pos ⟨h1,hs⟩]
   generalize aQ s d p n=ans at *;clear h1;go_enter Tryz.func176,Tryz.ntmps176
   go_wp2_with fail
   go_ret;exact⟨rR HV.out.symm,Below.refl _ _⟩
  ·have d1:(p==1)=false:=by simp[h1]
   have HV:Hid (aQ s d p n=s++d++lI [p,(n:Int)]):=by
    unfold Hid aQ;rw[if_neg (fun h=>h1 h.1),if_pos hs,←EU p n hp,ByteArray.append_assoc (a:=s++d)]
   generalize aQ s d p n=ans at *;have hws:∀m∈[p,(n:Int)],0≤m∧m≤65535:=by intro m hm;simp at hm;rcases hm with rfl|rfl<;>omega
   have HL:Hid (Calls Tryz.prog 154 #[.slice (some ⟨w.heap.size,0,none⟩) 2 2] (w.alloc (.cells #[iV p,iV n] 2)) fun e w' =>
    e=.returned (.slice (some ⟨w.heap.size+1,0,none⟩) 4 4)∧(∀i,i < 4→w'.cell? ⟨w.heap.size+1,i,none⟩=some (.int .u8 (fL [p,(n:Int)] i)))∧Below w.heap.size w w'):=MM [p,(n:Int)] w (by simp) hws
   have HW:Hid (∀m∈[p,(n:Int)],0≤m∧m≤65535):=hws;have z:=uW [p,(n:Int)];simp at z;have n2:¬9223372036854775807 < s.size+d.size+(lI [p,(n:Int)]).size:=by omega
   clear hws h1;go_enter Tryz.func176,Tryz.ntmps176
   go_wp2_with fail
   refine HL.out.mono ?_;rintro e w1 ⟨rfl,hc,hB⟩;have hcv:=xS (cap:=4) (by simp) HW.out hc;have HB:Hid (Below w.heap.size w w1):=hB;clear hc hB HL;generalize lI [p,(n:Int)]=u at *;go_wp2_with fail
   go_ret;exact⟨rR HV.out.symm,HB.out⟩
 ·have d4:((s.size:Int)==16)=true:=by simp;omega
  have HV:Hid (aQ s d p n=s++d++lI [(n:Int) / 65536,(n:Int),0,p]):=by
   unfold Hid aQ;rw[if_neg (by omega),if_neg (by omega),←IO p n hp (by omega),ByteArray.append_assoc (a:=s++d),ByteArray.append_assoc (a:=s++d)]
  generalize aQ s d p n=ans at *;have hws:∀m∈[(n:Int) / 65536,(n:Int),0,p],0≤m∧m≤65535:=by intro m hm;simp at hm;rcases hm with rfl|rfl|rfl|rfl<;>omega
  have HL:Hid (Calls Tryz.prog 154 #[.slice (some ⟨w.heap.size,0,none⟩) 4 4] (w.alloc (.cells #[iV ((n:Int) / 65536),iV n,iV 0,iV p] 2)) fun e w' =>
   e=.returned (.slice (some ⟨w.heap.size+1,0,none⟩) 8 8)∧(∀i,i < 8→w'.cell? ⟨w.heap.size+1,i,none⟩=some (.int .u8 (fL [(n:Int) / 65536,(n:Int),0,p] i)))∧Below w.heap.size w w'):=MM [(n:Int) / 65536,(n:Int),0,p] w (by simp) hws
  have HW:Hid (∀m∈[(n:Int) / 65536,(n:Int),0,p],0≤m∧m≤65535):=hws;have z:=uW [(n:Int) / 65536,(n:Int),0,p];simp at z;have n2:¬9223372036854775807 < s.size+d.size+(lI [(n:Int) / 65536,(n:Int),0,p]).size:=by omega
  clear hws;go_enter Tryz.func176,Tryz.ntmps176
  go_wp2_with fail
  refine HL.out.mono ?_;rintro e w1 ⟨rfl,hc,hB⟩;have hcv:=xS (cap:=8) (by simp) HW.out hc;have HB:Hid (Below w.heap.size w w1):=hB;clear hc hB HL;generalize lI [(n:Int) / 65536,(n:Int),0,p]=u at *;go_wp2_with fail
  go_ret;exact⟨rR HV.out.symm,HB.out⟩
theorem DH(p:Int)(t:BA)(w:World)(h8:8≤t.size)(ht:t.size≤1048576) :
  Cw 151 #[iV p,.string t] w (.bool (decide (p=17)&&decide (aM (bt t) 6=0))):=by
 have HW:Hid (∀W,Cw 131 #[.string t,iV (6:Nat)] W (iV (aM (bt t) 6))):=fun W=>lL t 6 W (by omega) (by unfold maxLen;omega)
 have dq:(aM (bt t) 6==0)=decide (aM (bt t) 6=0):=rfl;generalize decide (aM (bt t) 6=0)=q at *;generalize aM (bt t) 6=x at *;by_cases h:p=17
 ·have d1:(p==17)=true:=by simp[h]
  rw[UE h];clear h;go_enter Tryz.func151,Tryz.ntmps151
  go_wp2_with fail
  refine(HW.out _).mono ?_;rintro e w2 ⟨rfl,rfl⟩;go_wp2_with fail
  go_ret;exact⟨rfl,rfl⟩
 ·have d1:(p==17)=false:=by simp[h]
  rw[UD h];clear h;go_enter Tryz.func151,Tryz.ntmps151
  go_wp2_with fail
  go_ret;exact⟨rfl,rfl⟩
def wW(q p:Bd):Bool:=(q.VF==p.VF)&&((q.inn.toList==p.inn.toList)&&((q.VH==p.VH)&&((q.out.toList==p.out.toList)&&((q.VI==p.VI)))))
theorem DW(q:Bd):wW q q=true:=by unfold wW;simp
theorem JY(D:Nat)(q p:Bd)(W:World):(Op.equalIn (D+2) 48 (.agg (cZ q).toArray) (.agg (cZ p).toArray)).run Tryz.prog W=.ok (wW q p) W:=by
 have h1:Tryz.prog.underlying 48=some (.struct (Tryz.prog.fieldsOf 48)):=by kernel_rfl
 have h2:Tryz.prog.stoodInHeld 48=false:=by kernel_rfl
 rw[run_equalIn_agg _ _ _ _ _ h1 h2];have h3:(Tryz.prog.fieldsOf 48).toList.length=5:=by kernel_rfl
 have h4 : ((Tryz.prog.fieldsOf 48).toList.map fun f => (f.type, f.offset, f.name == "_")) = [(2, 0, false), (9, 1, false), (2, 2, false), (9, 3, false), (2, 4, false)] := by kernel_rfl
 generalize (Tryz.prog.fieldsOf 48).toList=fs at *;match fs,h3 with
 | [f0,f1,f2,f3,f4],_=>
  simp only[List.map_cons,List.map_nil,List.cons.injEq,Prod.mk.injEq,and_true]at h4;obtain⟨⟨a0,b0,c0⟩,⟨a1,b1,c1⟩,⟨a2,b2,c2⟩,⟨a3,b3,c3⟩,⟨a4,b4,c4⟩⟩:=h4
  have d0 : (f0.name ≠ "_") = True := by simpa using c0
  have q0:∀W,(part 2 (cZ q).toArray 0).run Tryz.prog W=.ok (iV q.VF) W:=fun W=>by kernel_rfl
  have p0:∀W,(part 2 (cZ p).toArray 0).run Tryz.prog W=.ok (iV p.VF) W:=fun W=>by kernel_rfl
  have d1 : (f1.name ≠ "_") = True := by simpa using c1
  have q1:∀W,(part 9 (cZ q).toArray 1).run Tryz.prog W=.ok (.string q.inn) W:=fun W=>by kernel_rfl
  have p1:∀W,(part 9 (cZ p).toArray 1).run Tryz.prog W=.ok (.string p.inn) W:=fun W=>by kernel_rfl
  have d2 : (f2.name ≠ "_") = True := by simpa using c2
  have q2:∀W,(part 2 (cZ q).toArray 2).run Tryz.prog W=.ok (iV q.VH) W:=fun W=>by kernel_rfl
  have p2:∀W,(part 2 (cZ p).toArray 2).run Tryz.prog W=.ok (iV p.VH) W:=fun W=>by kernel_rfl
  have d3 : (f3.name ≠ "_") = True := by simpa using c3
  have q3:∀W,(part 9 (cZ q).toArray 3).run Tryz.prog W=.ok (.string q.out) W:=fun W=>by kernel_rfl
  have p3:∀W,(part 9 (cZ p).toArray 3).run Tryz.prog W=.ok (.string p.out) W:=fun W=>by kernel_rfl
  have d4 : (f4.name ≠ "_") = True := by simpa using c4
  have q4:∀W,(part 2 (cZ q).toArray 4).run Tryz.prog W=.ok (iV q.VI) W:=fun W=>by kernel_rfl
  have p4:∀W,(part 2 (cZ p).toArray 4).run Tryz.prog W=.ok (iV p.VI) W:=fun W=>by kernel_rfl
  unfold wW;simp only[Op.eqFields,a0,b0,d0,q0,p0,a1,b1,d1,q1,p1,a2,b2,d2,q2,p2,a3,b3,d3,q3,p3,a4,b4,d4,q4,p4,if_true,Sem.run_bind,Sem.run_ite,Sem.run_pure,Result.andThen_ok,run_equalIn_string _ _ _ _ _ Tryz.underlying9,run_equalIn_int _ _ _ _ _ _ _ Tryz.underlying2];generalize (q.VF==p.VF)=g0;generalize (q.inn.toList==p.inn.toList)=g1;generalize (q.VH==p.VH)=g2;generalize (q.out.toList==p.out.toList)=g3;generalize (q.VI==p.VI)=g4
  cases g0
  ·simp
  simp only[UW,UO,if_false,UP]
  cases g1
  ·simp
  simp only[UW,UO,if_false,UP]
  cases g2
  ·simp
  simp only[UW,UO,if_false,UP]
  cases g3
  ·simp
  simp only[UW,UO,if_false,UP]
  cases g4<;>simp
theorem KH(q p:Bd)(W:World):(binOp .neq 48 (.agg (cZ q).toArray) (.agg (cZ p).toArray)).run Tryz.prog W=.ok (.bool (!wW q p)) W:=by
 rw[run_neq_struct,JY 9998 q p W];rfl
def wY(q p:Ss):Bool:=(q.VF==p.VF)&&((q.inn.toList==p.inn.toList)&&((q.VH==p.VH)&&((q.peer.toList==p.peer.toList)&&((q.VG==p.VG)&&((q.state==p.state)&&((q.untl==p.untl)))))))
theorem DY(q:Ss):wY q q=true:=by unfold wY;simp
theorem JZ(D:Nat)(q p:Ss)(W:World):(Op.equalIn (D+2) 59 (.agg (iE q).toArray) (.agg (iE p).toArray)).run Tryz.prog W=.ok (wY q p) W:=by
 have h1:Tryz.prog.underlying 59=some (.struct (Tryz.prog.fieldsOf 59)):=by kernel_rfl
 have h2:Tryz.prog.stoodInHeld 59=false:=by kernel_rfl
 rw[run_equalIn_agg _ _ _ _ _ h1 h2];have h3:(Tryz.prog.fieldsOf 59).toList.length=7:=by kernel_rfl
 have h4 : ((Tryz.prog.fieldsOf 59).toList.map fun f => (f.type, f.offset, f.name == "_")) = [(2, 0, false), (9, 1, false), (2, 2, false), (9, 3, false), (2, 4, false), (2, 5, false), (2, 6, false)] := by kernel_rfl
 generalize (Tryz.prog.fieldsOf 59).toList=fs at *;match fs,h3 with
 | [f0,f1,f2,f3,f4,f5,f6],_=>
  simp only[List.map_cons,List.map_nil,List.cons.injEq,Prod.mk.injEq,and_true]at h4;obtain⟨⟨a0,b0,c0⟩,⟨a1,b1,c1⟩,⟨a2,b2,c2⟩,⟨a3,b3,c3⟩,⟨a4,b4,c4⟩,⟨a5,b5,c5⟩,⟨a6,b6,c6⟩⟩:=h4
  have d0 : (f0.name ≠ "_") = True := by simpa using c0
  have q0:∀W,(part 2 (iE q).toArray 0).run Tryz.prog W=.ok (iV q.VF) W:=fun W=>by kernel_rfl
  have p0:∀W,(part 2 (iE p).toArray 0).run Tryz.prog W=.ok (iV p.VF) W:=fun W=>by kernel_rfl
  have d1 : (f1.name ≠ "_") = True := by simpa using c1
  have q1:∀W,(part 9 (iE q).toArray 1).run Tryz.prog W=.ok (.string q.inn) W:=fun W=>by kernel_rfl
  have p1:∀W,(part 9 (iE p).toArray 1).run Tryz.prog W=.ok (.string p.inn) W:=fun W=>by kernel_rfl
  have d2 : (f2.name ≠ "_") = True := by simpa using c2
  have q2:∀W,(part 2 (iE q).toArray 2).run Tryz.prog W=.ok (iV q.VH) W:=fun W=>by kernel_rfl
  have p2:∀W,(part 2 (iE p).toArray 2).run Tryz.prog W=.ok (iV p.VH) W:=fun W=>by kernel_rfl
  have d3 : (f3.name ≠ "_") = True := by simpa using c3
  have q3:∀W,(part 9 (iE q).toArray 3).run Tryz.prog W=.ok (.string q.peer) W:=fun W=>by kernel_rfl
  have p3:∀W,(part 9 (iE p).toArray 3).run Tryz.prog W=.ok (.string p.peer) W:=fun W=>by kernel_rfl
  have d4 : (f4.name ≠ "_") = True := by simpa using c4
  have q4:∀W,(part 2 (iE q).toArray 4).run Tryz.prog W=.ok (iV q.VG) W:=fun W=>by kernel_rfl
  have p4:∀W,(part 2 (iE p).toArray 4).run Tryz.prog W=.ok (iV p.VG) W:=fun W=>by kernel_rfl
  have d5 : (f5.name ≠ "_") = True := by simpa using c5
  have q5:∀W,(part 2 (iE q).toArray 5).run Tryz.prog W=.ok (iV q.state) W:=fun W=>by kernel_rfl
  have p5:∀W,(part 2 (iE p).toArray 5).run Tryz.prog W=.ok (iV p.state) W:=fun W=>by kernel_rfl
  have d6 : (f6.name ≠ "_") = True := by simpa using c6
  have q6:∀W,(part 2 (iE q).toArray 6).run Tryz.prog W=.ok (iV q.untl) W:=fun W=>by kernel_rfl
  have p6:∀W,(part 2 (iE p).toArray 6).run Tryz.prog W=.ok (iV p.untl) W:=fun W=>by kernel_rfl
  unfold wY;simp only[Op.eqFields,a0,b0,d0,q0,p0,a1,b1,d1,q1,p1,a2,b2,d2,q2,p2,a3,b3,d3,q3,p3,a4,b4,d4,q4,p4,a5,b5,d5,q5,p5,a6,b6,d6,q6,p6,if_true,Sem.run_bind,Sem.run_ite,Sem.run_pure,Result.andThen_ok,run_equalIn_string _ _ _ _ _ Tryz.underlying9,run_equalIn_int _ _ _ _ _ _ _ Tryz.underlying2];generalize (q.VF==p.VF)=g0;generalize (q.inn.toList==p.inn.toList)=g1;generalize (q.VH==p.VH)=g2;generalize (q.peer.toList==p.peer.toList)=g3;generalize (q.VG==p.VG)=g4;generalize (q.state==p.state)=g5;generalize (q.untl==p.untl)=g6
  cases g0
  ·simp
  simp only[UW,UO,if_false,UP]
  cases g1
  ·simp
  simp only[UW,UO,if_false,UP]
  cases g2
  ·simp
  simp only[UW,UO,if_false,UP]
  cases g3
  ·simp
  simp only[UW,UO,if_false,UP]
  cases g4
  ·simp
  simp only[UW,UO,if_false,UP]
  cases g5
  ·simp
  simp only[UW,UO,if_false,UP]
  cases g6<;>simp
theorem KI(q p:Ss)(W:World):(binOp .neq 59 (.agg (iE q).toArray) (.agg (iE p).toArray)).run Tryz.prog W=.ok (.bool (!wY q p)) W:=by
 rw[run_neq_struct,JZ 9998 q p W];rfl
end Go.Proofs.YtdkepkaflielhaaGreatDoor
