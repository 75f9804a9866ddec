import Derived.Test.YtdkepkaflielhaaGreatDoorMerged28
set_option linter.unusedVariables false
set_option linter.unusedSimpArgs false
set_option maxRecDepth 100000
set_option maxHeartbeats 8000000
namespace Go.Proofs.YtdkepkaflielhaaGreatDoor
open Go.RowKit Go.PlainAid
theorem GD(xs:List BA)(s:BA)(a:OA)(cap:Nat)(w:World)(jJ:xs.length≤1048576)(hr:bP bX 1 w a xs) :
  Calls Tryz.prog 128 #[.slice a xs.length cap,.string s] w fun e w'=>(∃r:Int,e=.returned (iV r)∧decide (0≤r)=nL xs s)∧Below w.heap.size w w':=by
 have HR:Hid (bP bX 1 w a xs):=hr;have HV:Hid (nL xs s=xs.any fun t=>decide (t.toList=s.toList)):=rfl;generalize nL xs s=ans at *;clear hr;go_enter Tryz.func128,Tryz.ntmps128
 go_wp2_with fail
 go_loopw [8] (fun iv wr=>∃i:Nat,i≤xs.length∧iv=iV i∧(xs.take i).any (fun t=>decide (t.toList=s.toList))=false∧Below w.heap.size w wr) (fun iv _=>xs.length-(intOf iv).toNat)
 case atStart=>exact⟨0,UR _,rfl,rfl,Below.refl _ _⟩
 case round=>
  obtain⟨i,hi,rfl,hn,hbel⟩:=hrel;have HN:Hid ((xs.take i).any (fun t=>decide (t.toList=s.toList))=false):=hn;have HL:Hid (Below w.heap.size w wr):=hbel;clear hn hbel;by_cases hlt:i < xs.length
  ·obtain⟨b,off,rfl,hb,hat⟩:=HR.out.at hlt;have hA:=(hat.below hb HL.out) i hlt;have HST:Hid _:=jW (fun t:BA=>decide (t.toList=s.toList)) xs i hlt;have HAT:Hid _:=tI (fun t:BA=>decide (t.toList=s.toList)) xs i hlt;obtain⟨t,ht⟩: ∃t,xs[i]=t:=⟨_,rfl⟩;rw[ht]at hA HST HAT;have c0:wr.cell? ⟨b,off+i,none⟩=some (.string t):=by have:=hA 0 _ rfl;simpa using this
   have c0':wr.cell? ⟨b,off+i*1,none⟩=some (.string t):=by simpa using c0
   clear hA hat ht;by_cases he:t.toList=s.toList
   ·have HX:Hid (ans=true):=by unfold Hid;rw[HV.out];exact HAT.out (TT he)
    have hbq:(s.toList==t.toList)=true:=by simp[he]
    clear he;go_wp2_with fail
    go_ret;exact⟨⟨i,rfl,by rw[HX.out];simp⟩,HL.out⟩
   ·have HN2:Hid ((xs.take (i+1)).any (fun t=>decide (t.toList=s.toList))=false):=by unfold Hid;rw[HST.out,HN.out,TR he];rfl
    have hbq:(s.toList==t.toList)=false:=by simp;exact fun h=>he h.symm
    clear he;go_wp2_with fail
    go_roundw
    case rel=>exact⟨i+1,by omega,by go_num,HN2.out,HL.out⟩
    case measure=>simp[intOf];omega
  ·have hie:i=xs.length:=by omega
   have HX:Hid (ans=false):=by unfold Hid;have:=HN.out;rw[hie,List.take_length]at this;rw[HV.out];exact this
   go_wp2_with fail
   go_ret;exact⟨⟨-1,rfl,by rw[HX.out];rfl⟩,HL.out⟩
theorem xF(xs:List BA)(s:BA)(a:OA)(cap:Nat)(w:World)(jJ:xs.length≤1048576)(hr:bP bX 1 w a xs) :
  Cb 96 #[.slice a xs.length cap,.string s] w (.bool (nL xs s)):=by
 have HC:Hid _:=GD xs s a cap w jJ hr;clear hr;go_enter Tryz.func96,Tryz.ntmps96
 go_wp2_with fail
 refine Calls.mono HC.out ?_;rintro e w1 ⟨⟨r,rfl,hr⟩,b1⟩;have HR:Hid (decide (0≤r)=nL xs s):=hr;clear hr HC;go_wp2_with fail
 go_ret;exact⟨aB HR.out,b1⟩
def RT:Value:=.iface 65 (.agg #[])
def RS(pa:OA)(n pc:Nat):Value:=.iface 82 (.agg #[.slice pa n pc])
theorem GH(s:BA)(w:World) :
  Cb 57 #[RT,.string s] w (.bool true):=by
 have t1:∀W,(Instr.typeAssert (.iface 65 (.agg #[])) 99 82 true).run Tryz.prog W=.ok (.tuple #[.agg #[.slice none 0 0],.bool false]) W:=fun W=>by kernel_rfl
 have t2:∀W,(Instr.typeAssert (.iface 65 (.agg #[])) 99 65 true).run Tryz.prog W=.ok (.tuple #[.agg #[],.bool true]) W:=fun W=>by kernel_rfl
 unfold RT;go_enter Tryz.func57,Tryz.ntmps57
 go_wp2_with fail
 go_ret;exact⟨rfl,bR.alloc lR _⟩
theorem GG(xs:List BA)(s:BA)(pa:OA)(pc:Nat)(w:World)(jJ:xs.length≤1048576)(hr:bP bX 1 w pa xs) :
  Cb 57 #[RS pa xs.length pc,.string s] w (.bool (nL xs s)):=by
 have t1:∀W,(Instr.typeAssert (.iface 82 (.agg #[.slice pa xs.length pc])) 99 82 true).run Tryz.prog W=.ok (.tuple #[.agg #[.slice pa xs.length pc],.bool true]) W:=fun W=>by kernel_rfl
 have HC:Hid (∀W,Below w.heap.size w W→Cb 96 #[.slice pa xs.length pc,.string s] W (.bool (nL xs s))):=fun W hW=>xF xs s pa pc W jJ (hr.below hW)
 have HB:Hid (Below w.heap.size w (w.alloc (.cells #[.slice pa xs.length pc] 82))):=bR.alloc lR _;clear hr;unfold RS;go_enter Tryz.func57,Tryz.ntmps57
 go_wp2_with fail
 refine(HC.out _ HB.out).mono ?_;rintro e w1 ⟨rfl,b1⟩;have HB1:Hid _:=HB.out.trans (b1.mono HB.out.size);clear b1 HC;go_wp2_with fail
 go_ret;exact⟨rfl,HB1.out⟩
theorem mI{p:Pl}{x:Bb}{q:P4}{now:Int}(h:dP p x q now=0):fS p x=true∧iX q=true∧bS now=true:=by
 unfold dP at h;split at h
 ·omega
 ·rename_i h2;simp only[Bool.not_eq_false,TP]at h2;exact⟨h2.1.1,h2.1.2,h2.2⟩
theorem jZ{q:P4}(h:iX q=true):q.src.size=4∧q.dst.size=4∧q.opts.size≤40∧q.data.size≤1400:=by
 have hA:KT q=true:=by unfold iX at h;simp only[TP]at h;exact h.1.1
 have hB:LD q=true:=by unfold iX at h;simp only[TP]at h;exact h.1.2
 have h1:=yX hA;have h2:=yY hB;exact⟨h1.2.2.2.2.2.1,h1.2.2.2.2.2.2,h2.1,h2.2.2.1⟩
theorem qM{q:P4}(h:iX q=true):aX q.src q.dst q.UU q.data=aU q.src.size q.UU q.data∧(aU q.src.size q.UU q.data=0→bK q.src q.dst q.UU q.data=aR q.src q.dst q.UU q.data):=by
 obtain⟨h1,h2,h3,h4⟩:=jZ h;have e:aX q.src q.dst q.UU q.data=aU q.src.size q.UU q.data:=by
  unfold aX;rw[if_neg (by omega),if_neg (by rw[gD h1 h2];simp)]
 exact⟨e,fun hc=>by unfold bK;rw[e,if_pos hc]⟩
theorem EN{n:Nat}{t:BA}(h:aU n 6 t=0):20≤t.size:=by
 unfold aU at h;split at h
 ·omega
 ·split at h
  ·omega
  ·rename_i _ h2;unfold gA at h2;simp at h2;omega
theorem EO{p:Pl}{x:Bb}{t:Tc}{now:Int}(h:fS p x=true)(hn:bS now=true)(ht:bY t=true):dB p x t now=gF p x t now:=by
 unfold dB;rw[h,hn,ht];rfl
theorem MU{p:Pl}{x:Bb}{q:P4}{now:Int}(h:dP p x q now=0)(hc:aU q.src.size q.UU q.data=0)(F:Fl)(hF:F=aR q.src q.dst q.UU q.data)(Y:Bo)(hY:Y=gF p x (kV F q.dst q.data) now) :
  dB p x ⟨F.UU,true,F.src,F.sp,F.dst,eM F.UU F.dp,fN q.UU q.data⟩ now=Y∧F.src.size=4∧F.dst.size=4∧(Y.code=0→Y.bind.inn.size=4∧Y.bind.out.size=4∧∃G:Fl,(⟨F.UU,Y.bind.out,F.dst,Y.bind.UX,if aJ F.UU=true then Y.bind.UX else F.dp⟩: Fl)=G∧G=gP F Y.bind.out Y.bind.UX q.dst∧cR F G q.data=jN F G q.data∧G.src=Y.bind.out∧G.dst=q.dst):=by
 obtain⟨h1,h2,h3⟩:=mI h;obtain⟨s1,s2,s3,s4⟩:=jZ h2;obtain⟨z1,z2,z3,z4,z5,z6⟩:=@gN q.src q.dst q.UU q.data hc;have hp:=kQ hc;rw[s1]at hp;have hp4:=iO hp;obtain⟨b1,b2⟩:=lM hp4;have ht:=zW s1 s2 hc;rw[←hF]at z1 z2 z3 z4 z5 z6 ht;have eT:(⟨F.UU,true,F.src,F.sp,F.dst,eM F.UU F.dp,fN q.UU q.data⟩: Tc)=kV F q.dst q.data:=by
  unfold kV;rw[z1,b2,z3]
 refine⟨by rw[eT,EO h1 h3 ht,hY],by rw[z2];exact s1,by rw[z3];exact s2,fun y0=>?_⟩;rw[hY]at y0;obtain⟨e1,e2,e3,e4,e5⟩:=nP h1 h3 ht y0;rw[←hY]at e1 e2 e3 e4 e5;have e6:Y.bind.inn.size=4:=by rw[e5 rfl];show F.src.size=4;rw[z2];exact s1
 have hG:(⟨F.UU,Y.bind.out,F.dst,Y.bind.UX,if aJ F.UU=true then Y.bind.UX else F.dp⟩: Fl)=gP F Y.bind.out Y.bind.UX q.dst:=by
  unfold gP kW;split
  ·rename_i he;rw[z1]at he;have:q.UU=1:=by
    rcases hp4 with h6|h6|h6
    ·rw[h6]at he;simp[aJ]at he
    ·rw[h6]at he;simp[aJ]at he
    ·exact h6
   dsimp only;rw[if_neg (by omega),z1,z3,this]
  ·rw[z3]
 refine⟨e6,e1,_,hG,rfl,?_,?_,?_⟩
 ·have hfo:=qL hc (gD s1 s2);rw[←hF]at hfo;obtain⟨k1,k2,k3,k4⟩:=rJ (f:=F) (g:=⟨F.UU,Y.bind.out,q.dst,Y.bind.UX,F.dp⟩) hfo (by rw[z2];exact s1) e1 s2 rfl e2 z5;have:=(tQ (g:=gP F Y.bind.out Y.bind.UX q.dst) hc s1 s2 (by omega) k1 (by rw[←z1];exact k2) (by show (kW _ _).src.size=4;rw[k3];exact e1)).1;rw[←hF]at this;exact this
 ·rw[←hG]
 ·rw[←hG];exact z3
theorem OU{p:Pl}{x:Bb}{q:P4}{now:Int}(h:dP p x q now=0)(hc:aU q.src.size q.UU q.data=0)(F:Fl)(hF:F=aR q.src q.dst q.UU q.data)(Y:Bo)(hY:Y=gF p x (mO F q.data) now) :
  dB p x ⟨F.UU,false,F.dst,F.dp,F.src,eM F.UU F.sp,fN q.UU q.data⟩ now=Y∧F.src.size=4∧F.dst.size=4∧(Y.code=0→Y.bind.inn.size≤16∧(Y.bind.inn.size=4→∃G:Fl,(⟨F.UU,F.src,Y.bind.inn,if aJ F.UU=true then Y.bind.UW else F.sp,Y.bind.UW⟩: Fl)=G∧G=BJ F q.src Y.bind.inn Y.bind.UW∧cR F G q.data=jN F G q.data∧G.src=q.src∧G.dst=Y.bind.inn)):=by
 obtain⟨h1,h2,h3⟩:=mI h;obtain⟨s1,s2,s3,s4⟩:=jZ h2;obtain⟨z1,z2,z3,z4,z5,z6⟩:=@gN q.src q.dst q.UU q.data hc;have hp:=kQ hc;rw[s1]at hp;have hp4:=iO hp;have ht:=LT s1 s2 hc;rw[←hF]at z1 z2 z3 z4 z5 z6 ht;have eT:(⟨F.UU,false,F.dst,F.dp,F.src,eM F.UU F.sp,fN q.UU q.data⟩: Tc)=mO F q.data:=by
  unfold mO;rw[z1]
 refine⟨by rw[eT,EO h1 h3 ht,hY],by rw[z2];exact s1,by rw[z3];exact s2,fun y0=>?_⟩;rw[hY]at y0;obtain⟨e1,e2,e3,e4,e5⟩:=nP h1 h3 ht y0;rw[←hY]at e1 e2 e3 e4 e5;refine⟨by omega,fun e6=>?_⟩;have hG:(⟨F.UU,F.src,Y.bind.inn,if aJ F.UU=true then Y.bind.UW else F.sp,Y.bind.UW⟩: Fl)=BJ F q.src Y.bind.inn Y.bind.UW:=by
  unfold BJ kW;split
  ·rename_i he;have he2:=he;rw[z1]at he;have:q.UU=1:=by
    rcases hp4 with h6|h6|h6
    ·rw[h6]at he;simp[aJ]at he
    ·rw[h6]at he;simp[aJ]at he
    ·exact h6
   dsimp only;rw[if_neg (by omega),z1,z2,this]
  ·rw[z2]
 refine⟨_,hG,rfl,?_,?_,?_⟩
 ·have hfo:=qL hc (gD s1 s2);rw[←hF]at hfo;obtain⟨k1,k2,k3,k4⟩:=rJ (f:=F) (g:=⟨F.UU,q.src,Y.bind.inn,if aJ F.UU=true then Y.bind.UW else F.sp,Y.bind.UW⟩) hfo (by rw[z2];exact s1) s1 e6 rfl (by dsimp only;split<;>omega) e4;have:=(tQ (g:=BJ F q.src Y.bind.inn Y.bind.UW) hc s1 s2 (by omega) k1 (by rw[←z1];exact k2) (by show (kW _ _).src.size=4;rw[k3];exact s1)).1;rw[←hF]at this;exact this
 ·rw[←hG];exact z2
 ·rw[←hG]
theorem bAA(n:Int)(w:World) :
  Cw 115 #[iV n] w (iV (pU n)):=by
 by_cases h:n=58
 ·subst h;go_enter Tryz.func115,Tryz.ntmps115
  go_wp2_with fail
  go_ret;exact⟨rfl,rfl⟩
 ·have HV:Hid (pU n=n):=if_neg h;have d0:(n==58)=false:=by simp[h]
  go_enter Tryz.func115,Tryz.ntmps115
  go_wp2_with fail
  go_ret;exact⟨aK (by rw[HV.out]),rfl⟩
theorem DY(f:Fl)(n:Int)(w:World) :
  Cb 116 #[gQ f,iV n] w (iV (eM f.UU n)):=by
 have HE:Hid (∀W,Cw 44 #[iV f.UU] W (.bool (aJ f.UU))):=fun W=>jG _ W
 have HV:Hid (eM f.UU n=if aJ f.UU=true then 0 else n):=rfl;generalize eM f.UU n=ans at *;generalize aJ f.UU=b at *;obtain⟨UU,src,dst,sp,dp⟩:=f;unfold gQ;dsimp only at *;have HS0:=SN w (dA UU src dst sp dp) 43 (by simp)
 skip;have HB:Hid _:=HS0.out.b;clear HS0;go_enter Tryz.func116,Tryz.ntmps116
 go_wp2_with fail
 refine(HE.out _).mono ?_;rintro e w2 ⟨rfl,rfl⟩
 cases b with
 | false=>
  go_wp2_with fail
  go_ret;exact⟨aK (by rw[HV.out];rfl),HB.out⟩
 | true=>
  go_wp2_with fail
  go_ret;exact⟨aK (by rw[HV.out];rfl),HB.out⟩
theorem AY(f:Fl)(t:BA)(w:World)(ht:t.size≤1048576)(h20:f.UU=6→20≤t.size) :
  Cb 117 #[gQ f,.string t] w (iV (fN f.UU t)):=by
 obtain⟨UU,src,dst,sp,dp⟩:=f;unfold gQ;dsimp only at *;have HS0:=SN w (dA UU src dst sp dp) 43 (by simp)
 skip;have HB:Hid _:=HS0.out.b;clear HS0;by_cases h:UU=6
 case pos=>
  have h20':=h20 h;subst h;have HV:Hid (fN 6 t=bt t 13):=rfl;have hb:=get_bt t;have b1:=bD t 13;generalize fN 6 t=ans at *;have hi:¬(t.size:Int)≤13:=by omega
  have hj:(13:Int) < t.size:=by omega
  go_enter Tryz.func117,Tryz.ntmps117
  go_wp2_with fail
  go_ret;exact⟨aK HV.out.symm,HB.out⟩
 have HV:Hid (fN UU t=0):=if_neg h;generalize fN UU t=ans at *;have d0:(UU != 6)=true:=by simp[h]
 go_enter Tryz.func117,Tryz.ntmps117
 go_wp2_with fail
 go_ret;exact⟨aK (by rw[HV.out]),HB.out⟩
theorem DX(f g:Fl)(w:World)(hg:g.src.size≤1048576) :
  Cb 118 #[gQ f,gQ g] w (gQ (kW f g)):=by
 have HE:Hid (∀W,Cw 44 #[iV f.UU] W (.bool (aJ f.UU))):=fun W=>jG _ W
 have HV:Hid (kW f g=if aJ f.UU=true then ⟨if g.src.size=16 then 58 else 1,g.src,g.dst,g.sp,g.sp⟩ else g):=rfl;generalize kW f g=ans at *;generalize aJ f.UU=b at *;obtain⟨UU,src,dst,sp,dp⟩:=f;obtain⟨proto',src',dst',sp',dp'⟩:=g;unfold gQ;dsimp only at *;have HS0:=RD w (dA UU src dst sp dp) 43 (dA proto' src' dst' sp' dp') 43 (dA 0 ⟨#[]⟩ ⟨#[]⟩ 0 0) 43 (by simp) (by simp) (by simp)
 skip;have hRw:w.heap.size≤w.heap.size+1+1:=by omega
 have hGw:w.heap.size≤w.heap.size+1:=by omega
 go_enter Tryz.func118,Tryz.ntmps118
 go_upto_region 1 with fail
 generalize World.alloc _ _=W0 at *;have HHk:=HS0.out.at cO;obtain⟨k0,k1,k2,k3,k4⟩:=HHk.c5;clear HHk;go_wp2_with fail
 refine(HE.out _).mono ?_;rintro e W0 ⟨rfl,rfl⟩
 cases b with
 | false=>
  have HX:Hid (ans=⟨proto',src',dst',sp',dp'⟩):=HV.out;clear HV;have HHl:=HS0.out.at eB;obtain⟨l0,l1,l2,l3,l4⟩:=HHl.c5;clear HHl;have HHz:=HS0.out.at eX;obtain⟨z0,z1,z2,z3,z4⟩:=HHz.c5;obtain⟨zf0,zf1,zf2,zf3,zf4⟩:=HHz.f5;obtain⟨HRR,RB⟩:=PJ HHz HS0.out.b hRw (iV proto') (.string src') (.string dst') (iV sp') (iV dp');clear HHz;go_wp2_with fail
  exact UQ (aG Tryz.results118 _ _ _ _ _ rfl HRR.out Tryz.underlying43 rfl (show (Tryz.prog.info? 43).map (·.size)=some 5 by kernel_rfl)) rfl (And.intro (by rw[HX.out]) RB.out)
 | true=>
  by_cases h16:src'.size=16
  case pos=>
   have HX:Hid (ans=⟨58,src',dst',sp',sp'⟩):=by unfold Hid;rw[HV.out,if_pos rfl];simp[h16]
   have d16:((src'.size:Int)==16)=true:=by rw[h16];rfl
   clear HV h16;have HHg:=HS0.out.at eB;obtain⟨l0,l1,l2,l3,l4⟩:=HHg.c5;obtain⟨lf0,lf1,lf2,lf3,lf4⟩:=HHg.f5;have S2:Hid (dX w [(w.heap.size+1,(dA 58 src' dst' sp' sp')),(w.heap.size+1+1,(dA 0 ⟨#[]⟩ ⟨#[]⟩ 0 0))] ((sW (sW W0 (w.heap.size+1) 4 (iV sp')) (w.heap.size+1) 0 (iV 1)).setCell ⟨w.heap.size+1,0,none⟩ (iV 58))):=⟨fun e he=>by
    simp only[TW,TV,or_false]at he;rcases he with rfl|rfl
    ·exact((HHg.set 4 (iV sp')).set 0 (iV 1)).set 0 (iV 58)
    ·exact(aA.setOther (aA.setOther (aA.setOther (HS0.out.k _ eX) (by show w.heap.size+1+1≠w.heap.size+1;omega) _) (by show w.heap.size+1+1≠w.heap.size+1;omega) _) (by show w.heap.size+1+1≠w.heap.size+1;omega) _),(sCl (sCl (sCl HS0.out.b hGw) hGw) hGw),fun e he=>by
    simp only[TW,TV,or_false]at he;rcases he with rfl|rfl<;>simp⟩
   clear HHg;go_upto_region 7 with fail
   generalize ((sW (sW W0 (w.heap.size+1) 4 (iV sp')) (w.heap.size+1) 0 (iV 1)).setCell ⟨w.heap.size+1,0,none⟩ (iV 58))=W2 at *;clear l0 lf0 l1 lf1 l2 lf2 l3 lf3 l4 lf4 HS0 k0 k1 k2 k3 k4;have HHl:=S2.out.at cO;obtain⟨l0,l1,l2,l3,l4⟩:=HHl.c5;clear HHl;have HHz:=S2.out.at eB;obtain⟨z0,z1,z2,z3,z4⟩:=HHz.c5;obtain⟨zf0,zf1,zf2,zf3,zf4⟩:=HHz.f5;obtain⟨HRR,RB⟩:=PJ HHz S2.out.b hRw (iV 58) (.string src') (.string dst') (iV sp') (iV sp');clear HHz;go_wp2_with fail
   exact UQ (aG Tryz.results118 _ _ _ _ _ rfl HRR.out Tryz.underlying43 rfl (show (Tryz.prog.info? 43).map (·.size)=some 5 by kernel_rfl)) rfl (And.intro (by rw[HX.out]) RB.out)
  case neg=>
   have HX:Hid (ans=⟨1,src',dst',sp',sp'⟩):=by unfold Hid;rw[HV.out,if_pos rfl];simp[h16]
   have d16:((src'.size:Int)==16)=false:=by simp;omega
   clear HV h16;have HHg:=HS0.out.at eB;obtain⟨l0,l1,l2,l3,l4⟩:=HHg.c5;obtain⟨lf0,lf1,lf2,lf3,lf4⟩:=HHg.f5;have S2:Hid (dX w [(w.heap.size+1,(dA 1 src' dst' sp' sp')),(w.heap.size+1+1,(dA 0 ⟨#[]⟩ ⟨#[]⟩ 0 0))] ((sW W0 (w.heap.size+1) 4 (iV sp')).setCell ⟨w.heap.size+1,0,none⟩ (iV 1))):=⟨fun e he=>by
    simp only[TW,TV,or_false]at he;rcases he with rfl|rfl
    ·exact((HHg.set 4 (iV sp')).set 0 (iV 1))
    ·exact(aA.setOther (aA.setOther (HS0.out.k _ eX) (by show w.heap.size+1+1≠w.heap.size+1;omega) _) (by show w.heap.size+1+1≠w.heap.size+1;omega) _),(sCl (sCl HS0.out.b hGw) hGw),fun e he=>by
    simp only[TW,TV,or_false]at he;rcases he with rfl|rfl<;>simp⟩
   clear HHg;go_upto_region 7 with fail
   generalize ((sW W0 (w.heap.size+1) 4 (iV sp')).setCell ⟨w.heap.size+1,0,none⟩ (iV 1))=W2 at *;clear l0 lf0 l1 lf1 l2 lf2 l3 lf3 l4 lf4 HS0 k0 k1 k2 k3 k4;have HHl:=S2.out.at cO;obtain⟨l0,l1,l2,l3,l4⟩:=HHl.c5;clear HHl;have HHz:=S2.out.at eB;obtain⟨z0,z1,z2,z3,z4⟩:=HHz.c5;obtain⟨zf0,zf1,zf2,zf3,zf4⟩:=HHz.f5;obtain⟨HRR,RB⟩:=PJ HHz S2.out.b hRw (iV 1) (.string src') (.string dst') (iV sp') (iV sp');clear HHz;go_wp2_with fail
   exact UQ (aG Tryz.results118 _ _ _ _ _ rfl HRR.out Tryz.underlying43 rfl (show (Tryz.prog.info? 43).map (·.size)=some 5 by kernel_rfl)) rfl (And.intro (by rw[HX.out]) RB.out)
theorem DW(f:Fl)(s:BA)(n:Int)(d:BA)(w:World)(hs:s.size≤1048576) :
  Cb 64 #[gQ f,.string s,iV n,.string d] w (gQ (gP f s n d)):=by
 have HK:Hid (∀W,Cb 118 #[gQ f,gQ ⟨f.UU,s,d,n,f.dp⟩] W (gQ (gP f s n d))):=fun W=>DX f ⟨f.UU,s,d,n,f.dp⟩ W hs
 generalize gP f s n d=ans at *;obtain⟨UU,src,dst,sp,dp⟩:=f;unfold gQ at *;dsimp only at *;have HS0:=SC w (dA UU src dst sp dp) 43 (dA 0 ⟨#[]⟩ ⟨#[]⟩ 0 0) 43 (by simp) (by simp)
 skip;have hRw:w.heap.size≤w.heap.size+1:=by omega
 go_enter Tryz.func64,Tryz.ntmps64
 go_upto_region 1 with fail
 generalize World.alloc _ _=W0 at *;have HHk:=HS0.out.at cO;obtain⟨k0,k1,k2,k3,k4⟩:=HHk.c5;clear HHk;have S1:Hid (dX w ((W0.heap.size,(dA UU s d n dp))::[(w.heap.size,(dA UU src dst sp dp)),(w.heap.size+1,(dA 0 ⟨#[]⟩ ⟨#[]⟩ 0 0))]) (W0.alloc (.cells (dA UU s d n dp).toArray 43))):=HS0.out.push (dA UU s d n dp) (by simp) _;go_upto_region 2 with fail
 clear HS0 k0 k1 k2 k3 k4;generalize (W0.alloc (.cells (dA UU s d n dp).toArray 43))=W1 at *;generalize W0.heap.size=G at *;have HHk:=S1.out.at eB;obtain⟨k0,k1,k2,k3,k4⟩:=HHk.c5;clear HHk;have HHl:=S1.out.at cO;obtain⟨l0,l1,l2,l3,l4⟩:=HHl.c5;clear HHl;go_wp2_with fail
 refine(HK.out _).mono ?_;rintro e W2 ⟨rfl,q2⟩;have S2:Hid _:=S1.out.kept q2;clear q2 S1 k0 k1 k2 k3 k4 l0 l1 l2 l3 l4;have HHz:=S2.out.at eX;obtain⟨z0,z1,z2,z3,z4⟩:=HHz.c5;obtain⟨zf0,zf1,zf2,zf3,zf4⟩:=HHz.f5;obtain⟨HRR,RB⟩:=PJ HHz S2.out.b hRw (iV ans.UU) (.string ans.src) (.string ans.dst) (iV ans.sp) (iV ans.dp);clear HHz;go_wp2_with fail
 exact UQ (aG Tryz.results64 _ _ _ _ _ rfl HRR.out Tryz.underlying43 rfl (show (Tryz.prog.info? 43).map (·.size)=some 5 by kernel_rfl)) rfl (And.intro rfl RB.out)
def PU(base:Nat)(o:Bo):Value→World→Prop:=fun v w=>∃a b ca cb,v=IP a b ca cb o∧dD base w a b o.bib
theorem EH(base:Nat)(o:Bo):eZ (PU base o):=fun v w w' ⟨a,b,ca,cb,h1,h2⟩ hb=>⟨a,b,ca,cb,h1,h2.kept hb⟩
theorem KN(pa:OA)(pc:Nat)(p:Pl)(ba bo:OA)(ca cb:Nat)(x:Bb)(q:P4)(now:Int)(w:World)(hlp:p.VA.length≤1048576)(hpc:p.VA.length≤pc)(hsz:∀s∈p.VA,s.size≤1048576)(hl1:x.VC.length≤1048576)(hl2:x.UZ.length≤1048576)(q1:q.src.size≤1048576)(q2:q.dst.size≤1048576)(q3:q.opts.size≤1048576)(q4:q.data.size≤1048576)(hp:bP bX 1 w pa p.VA)(hx:dI w ba bo x) :
  Cb 28 #[jQ pa pc p,iQ ba bo ca cb x,mD q,iV now] w (iV (dP p x q now)):=by
 have HBR:Hid (∀W,Below w.heap.size w W→Cb 13 #[jQ pa pc p,iQ ba bo ca cb x] W (.bool (fS p x))):=fun W hW=>pZ p x pa pc ba bo ca cb W hlp hpc hsz hl1 hl2 (hp.below hW) (hx.below hW)
 have HV4:Hid (∀W,Cb 14 #[mD q] W (.bool (iX q))):=fun W=>oX q W q1 q2 q3 q4
 have HTM:Hid (∀W,Cw 62 #[iV now] W (.bool (bS now))):=fun W=>wP now W
 have HV:Hid (dP p x q now=if (fS p x&&iX q&&bS now)=false then 1 else if (q.more||decide (q.off≠0))=true then 10 else 0):=rfl;generalize dP p x q now=ans at *;generalize fS p x=b1 at *;generalize iX q=b2 at *;generalize bS now=b3 at *;obtain⟨tos,id,whole,more,off,ttl,UU,src,dst,opts,data⟩:=q;clear hp hx hsz;unfold jQ iQ mD at *;dsimp only at *;have hun:undef=Value.tuple #[]:=rfl;have HS0:=RD w (bM pa pc p) 27 (bF ba ca bo cb x) 31 (fM tos id whole more off ttl UU src dst opts data) 33 (by simp) (by simp) (by simp)
 skip;go_enter Tryz.func28,Tryz.ntmps28
 go_upto_region 1 with fail
 generalize World.alloc _ _=W0 at *;have HHk:=HS0.out.at cO;obtain⟨k0,k1,k2,k3,k4,k5,k6,k7,k8,k9⟩:=HHk.c10;clear HHk;have HHl:=HS0.out.at eB;obtain⟨l0,l1⟩:=HHl.c2;clear HHl;go_wp2_with fail
 refine(HBR.out _ HS0.out.b).mono ?_;rintro e W1 ⟨rfl,r1⟩;have S1:Hid _:=HS0.out.kept r1;clear r1 HS0 k0 k1 k2 k3 k4 k5 k6 k7 k8 k9 l0 l1
 cases b1 with
 | false=>
  have HFB:Hid _:=S1.out.b;go_wp2_with fail
  go_ret;exact⟨aK (by rw[HV.out];rfl),HFB.out⟩
 | true=>
 have HHk:=S1.out.at eX;obtain⟨k0,k1,k2,k3,k4,k5,k6,k7,k8,k9,k10⟩:=HHk.c11;clear HHk;go_wp2_with fail
 refine(HV4.out _).mono ?_;rintro e W2 ⟨rfl,r2⟩;have S2:Hid _:=S1.out.kept r2;clear r2 S1 k0 k1 k2 k3 k4 k5 k6 k7 k8 k9 k10
 cases b2 with
 | false=>
  have HFB:Hid _:=S2.out.b;go_wp2_with fail
  go_ret;exact⟨aK (by rw[HV.out];rfl),HFB.out⟩
 | true=>
 go_wp2_with fail
 refine(HTM.out _).mono ?_;rintro e W2 ⟨rfl,rfl⟩
 cases b3 with
 | false=>
  have HFB:Hid _:=S2.out.b;go_wp2_with fail
  go_ret;exact⟨aK (by rw[HV.out];rfl),HFB.out⟩
 | true=>
 have HHk:=S2.out.at eX;obtain⟨k0,k1,k2,k3,k4,k5,k6,k7,k8,k9,k10⟩:=HHk.c11;clear HHk
 cases more with
 | true=>
  have HFB:Hid _:=S2.out.b;go_wp2_with fail
  go_ret;exact⟨aK (by rw[HV.out];rfl),HFB.out⟩
 | false=>
 by_cases ho:off=0
 case pos=>
  have d0:(off != 0)=false:=by simp[ho]
  have HFB:Hid _:=S2.out.b;go_wp2_with fail
  go_ret;exact⟨aK (by rw[HV.out];simp[ho]),HFB.out⟩
 have d0:(off != 0)=true:=by simp[ho]
 have HFB:Hid _:=S2.out.b;go_wp2_with fail
 go_ret;exact⟨aK (by rw[HV.out];simp[ho]),HFB.out⟩
theorem KM(pa:OA)(pc:Nat)(p:Pl)(ba bo:OA)(ca cb:Nat)(x:Bb)(f:Fl)(peer t:BA)(now:Int)(w:World)(hpo:cT p=true)(hnow:bS now=true)(hfs:f.src.size≤1048576)(h0:0≤f.sp)(h1:f.sp≤65535)(ht:t.size≤1048576)(h20:f.UU=6→20≤t.size)(hl1:x.VC.length≤1048576)(hl2:x.UZ.length≤1048576)(hp:bP bX 1 w pa p.VA)(hx:dI w ba bo x) :
  Calls Tryz.prog 63 #[jQ pa pc p,iQ ba bo ca cb x,gQ f,.string peer,.string t,iV now] w fun e w'=>mK w.heap.size (gF p x (kV f peer t) now) e w'∧Below w.heap.size w w':=by
 have HGO:Hid (∀W,Below w.heap.size w W→Calls Tryz.prog 114 #[jQ pa pc p,iQ ba bo ca cb x,.agg (eO (pU f.UU) true f.src f.sp peer (eM f.UU f.dp) (fN f.UU t)).toArray,iV now] W fun e w'=>mK W.heap.size (gF p x (kV f peer t) now) e w'∧Below W.heap.size W w'):=fun W hW=>ED pa pc p ba bo ca cb x (kV f peer t) now W hpo hnow hfs h0 h1 hl1 hl2 (hp.below hW) (hx.below hW)
 have HPN:Hid (∀W,Cb 115 #[iV f.UU] W (iV (pU f.UU))):=fun W=>(bAA _ W).mono fun e w' h=>⟨h.1,by rw[h.2];exact Below.refl _ _⟩
 have HPO:Hid (∀W,Cb 116 #[gQ f,iV f.dp] W (iV (eM f.UU f.dp))):=fun W=>DY f _ W
 have HFL:Hid (∀W,Cb 117 #[gQ f,.string t] W (iV (fN f.UU t))):=fun W=>AY f t W ht h20
 generalize gF p x (kV f peer t) now=nv at *;generalize eM f.UU f.dp=pv at *;generalize pU f.UU=pn at *;generalize fN f.UU t=fv at *;obtain⟨UU,src,dst,sp,dp⟩:=f;dsimp only at *;clear hp hx hpo hnow h20;unfold jQ iQ gQ at *;dsimp only at *;have e0:aA ((aW (aW (aW w (bM pa pc p) 27) (bF ba ca bo cb x) 31) (dA UU src dst sp dp) 43).alloc (.cells iG.toArray 104)) (w.heap.size) (bM pa pc p):=by
  have h:=aA.new w (bM pa pc p) 27;try simp only[TQ]at h
  exact(((h.alloc _).alloc _).alloc _)
 have e1:aA ((aW (aW (aW w (bM pa pc p) 27) (bF ba ca bo cb x) 31) (dA UU src dst sp dp) 43).alloc (.cells iG.toArray 104)) (w.heap.size+1) (bF ba ca bo cb x):=by
  have h:=aA.new (w.alloc (.cells (bM pa pc p).toArray 27)) (bF ba ca bo cb x) 31;try simp only[TQ]at h
  exact((h.alloc _).alloc _)
 have e2:aA ((aW (aW (aW w (bM pa pc p) 27) (bF ba ca bo cb x) 31) (dA UU src dst sp dp) 43).alloc (.cells iG.toArray 104)) (w.heap.size+1+1) (dA UU src dst sp dp):=by
  have h:=aA.new ((aW w (bM pa pc p) 27).alloc (.cells (bF ba ca bo cb x).toArray 31)) (dA UU src dst sp dp) 43;try simp only[TQ]at h
  exact(h.alloc _)
 have e3:aA ((aW (aW (aW w (bM pa pc p) 27) (bF ba ca bo cb x) 31) (dA UU src dst sp dp) 43).alloc (.cells iG.toArray 104)) (w.heap.size+1+1+1) iG:=by
  have h:=aA.new ((aW (aW w (bM pa pc p) 27) (bF ba ca bo cb x) 31).alloc (.cells (dA UU src dst sp dp).toArray 43)) iG 104;try simp only[TQ]at h
  exact h
 have HS0:Hid (dX w [(w.heap.size,(bM pa pc p)),(w.heap.size+1,(bF ba ca bo cb x)),(w.heap.size+1+1,(dA UU src dst sp dp)),(w.heap.size+1+1+1,iG)] ((aW (aW (aW w (bM pa pc p) 27) (bF ba ca bo cb x) 31) (dA UU src dst sp dp) 43).alloc (.cells iG.toArray 104))):=by
  refine⟨fun e he=>?_,((((bR.alloc (by (try simp only[TQ]);omega) _).alloc (by (try simp only[TQ]);omega) _).alloc (by (try simp only[TQ]);omega) _).alloc (by (try simp only[TQ]);omega) _),fun e he=>?_⟩
  ·simp only[TW,TV,or_false]at he;rcases he with rfl|rfl|rfl|rfl
   ·exact e0
   ·exact e1
   ·exact e2
   ·exact e3
  ·simp only[TW,TV,or_false]at he;rcases he with rfl|rfl|rfl|rfl<;>simp
 clear e0 e1 e2 e3;have hRw:w.heap.size≤w.heap.size+1+1+1:=by omega
 go_enter Tryz.func63,Tryz.ntmps63
 go_upto_region 1 with fail
 generalize World.alloc _ _=W0 at *;have hR0:w.heap.size+1+1+1 < W0.heap.size:=(HS0.out.k _ iR).lt (by simp);have HCP:Hid (∀wy,Below W0.drew.heap.size W0.drew wy→_):=fun wy hy=>HS0.out.kept (bR.drew.trans hy)
 have hRl:w.heap.size+1+1+1 < W0.drew.heap.size:=hR0;have hwl:w.heap.size≤W0.drew.heap.size:=HS0.out.b.size;clear HS0 hR0;refine aN [13,14,15,16,17,18,19,20,21,22,23,24,25,26,27,28,29,30,31,32] (by kernel_rfl) (by kernel_rfl) ?_;iterate 13 (apply bC.u rfl;(·intro K' a wy ho hd hb hK;simp[aS,aF,aD,Region.binds]at ho hd;have hst:=HCP.out wy hb;have kC:=(hst.at cO).c10;have kC:=(hst.at eB).c2;have kC:=(hst.at eX).c5;clear hst;go_simp;first|((try go_bits);exact hK _ _ rfl bQ)|(refine(HPN.out wy).mono ?_;rintro e wz ⟨rfl,hz⟩;exact hK _ _ rfl hz));dsimp only[nA,cA])
 iterate 3 (apply bC.u rfl;(·intro K' a wy ho hd hb hK;simp[aS,aF,aD,Region.binds]at ho hd;have hst:=HCP.out wy hb;have kC:=(hst.at cO).c10;have kC:=(hst.at eB).c2;have kC:=(hst.at eX).c5;clear hst;go_simp;first|((try go_bits);exact hK _ _ rfl bQ)|(refine(HPO.out wy).mono ?_;rintro e wz ⟨rfl,hz⟩;exact hK _ _ rfl hz));dsimp only[nA,cA])
 iterate 3 (apply bC.u rfl;(·intro K' a wy ho hd hb hK;simp[aS,aF,aD,Region.binds]at ho hd;go_simp;first|((try go_bits);exact hK _ _ rfl bQ)|(refine(HFL.out wy).mono ?_;rintro e wz ⟨rfl,hz⟩;exact hK _ _ rfl hz));dsimp only[nA,cA])
 refine bC.rel (n:=19) (PU W0.drew.heap.size nv) (EH _ _) [_,_,_,_,_,_,_,_,_,_,_,_,_,_,_,_,_,_,_,PU W0.drew.heap.size nv] rfl rfl ?_ ?_
 ·intro K' a wy ho hd hb hK;rw[wN rfl];have q0:=hd ⟨0,.data⟩ (by simp) rfl;have q1:=hd ⟨1,.data⟩ (by simp) rfl;have q17:=hd ⟨17,.data⟩ (by simp) rfl;have q18:=hd ⟨18,.data⟩ (by simp) rfl;simp[aS,aF,aD]at q0 q1 q17 q18;clear hd ho;go_simp;have hst:=HCP.out wy hb;refine(HGO.out wy hst.b).mono ?_;rintro e wz ⟨⟨a9,b9,c9,d9,rfl,hown⟩,hz⟩;exact hK _ _ ⟨a9,b9,c9,d9,rfl,⟨hown.bd.down hb.size,hown.ss.down hb.size,hown.ne⟩⟩ hz
 intro X wz hR hz;obtain⟨x0,x1,x2,x3,x4,x5,x6,x7,x8,x9,x10,x11,x12,x13,x14,x15,x16,x17,x18,x19,-⟩:=hR;obtain⟨a9,b9,c9,d9,e9,own9⟩:=x19;unfold IP at e9;simp only[aF]at x0 x1 x2 x3 x4 x5 x6 x7 x8 x9 x10 x11 x12 x13 x14 x15 x16 x17 x18;simp only[aE,x0,x1,x2,x3,x4,x5,x6,x7,x8,x9,x10,x11,x12,x13,x14,x15,x16,x17,x18,e9];clear x0 x1 x2 x3 x4 x5 x6 x7 x8 x9 x10 x11 x12 x13 x14 x15 x16 x17 x18;have V7:Hid (dX w [(w.heap.size,(bM pa pc p)),(w.heap.size+1,(bF ba ca bo cb x)),(w.heap.size+1+1,(dA UU src dst sp dp)),(w.heap.size+1+1+1,iG)] wz):=HCP.out wz hz;clear hz HCP;have HHz:=V7.out.at iR;obtain⟨z0,z1,z2,z3,z4,z5,z6,z7⟩:=HHz.c8;obtain⟨zf0,zf1,zf2,zf3,zf4,zf5,zf6,zf7⟩:=HHz.f8;obtain⟨HRR,RB⟩:=vD HHz V7.out.b hRw (.slice a9 nv.bib.VC.length c9) (.slice b9 nv.bib.UZ.length d9) (iV nv.bind.UU) (.string nv.bind.inn) (iV nv.bind.UW) (.string nv.bind.out) (iV nv.bind.UX) (iV nv.code);clear HHz;have HOW:Hid (dD w.heap.size ((sW (sW (sW (sW (sW (sW (sW wz (w.heap.size+1+1+1) 0 (.slice a9 nv.bib.VC.length c9)) (w.heap.size+1+1+1) 1 (.slice b9 nv.bib.UZ.length d9)) (w.heap.size+1+1+1) 2 (iV nv.bind.UU)) (w.heap.size+1+1+1) 3 (.string nv.bind.inn)) (w.heap.size+1+1+1) 4 (iV nv.bind.UW)) (w.heap.size+1+1+1) 5 (.string nv.bind.out)) (w.heap.size+1+1+1) 6 (iV nv.bind.UX)).setCell ⟨w.heap.size+1+1+1,7,none⟩ (iV nv.code)) a9 b9 nv.bib):=⟨(own9.bd.grown (aC (aC (aC (aC (aC (aC (aC (aC (World.grownBy.refl _ _) _) _) _) _) _) _) _) _) hRl).down hwl,(own9.ss.grown (aC (aC (aC (aC (aC (aC (aC (aC (World.grownBy.refl _ _) _) _) _) _) _) _) _) _) hRl).down hwl,own9.ne⟩
 clear own9 V7 HGO;intro K10 hK10;go_simp;refine hK10 _ _ ?_;simp only[fO];go_wp2_with fail
 exact UQ (aG Tryz.results63 _ _ _ _ _ rfl HRR.out Tryz.underlying104 rfl (show (Tryz.prog.info? 104).map (·.size)=some 8 by kernel_rfl)) rfl (And.intro ⟨a9,b9,c9,d9,rfl,HOW.out⟩ RB.out)
def stor(b:Nat):World→Nat→List Value→World
 | W,_,[]=>W
 | W,j,v::l=>stor b (W.setCell ⟨b,j,none⟩ v) (j+1) l
theorem aA.storAt{b:Nat}:∀(vs:List Value) {W:World} {pre olds:List Value},aA W b (pre++olds)→olds.length=vs.length→aA (stor b W pre.length vs) b (pre++vs)
 | [],W,pre,[],h,_=>h
 | [],W,pre,_::_,h,hl=>by simp at hl
 | v::vs,W,pre,[],h,hl=>by simp at hl
 | v::vs,W,pre,o::os,h,hl=>by
  have h2:=h.set pre.length v;rw[List.set_append_right _ _ lR,Nat.sub_self,List.set_cons_zero]at h2;have h3:aA (W.setCell ⟨b,pre.length,none⟩ v) b ((pre++[v])++os):=by rw[List.append_assoc];exact h2
  have:=aA.storAt vs h3 (by simpa using hl);rw[List.length_append,List.append_assoc]at this;exact this
theorem aA.stor{b:Nat}{W:World}{olds:List Value}(h:aA W b olds)(vs:List Value)(hl:olds.length=vs.length):aA (stor b W 0 vs) b vs:=aA.storAt vs (pre:=[]) h hl
theorem Below.stor{n b:Nat}{w:World}(hb:n≤b):∀(vs:List Value) {W:World} {j:Nat},Below n w W→Below n w (Go.Proofs.YtdkepkaflielhaaGreatDoor.stor b W j vs)
 | [],W,j,h=>h
 | v::vs,W,j,h=>Below.stor hb vs (h.setCell (p:=⟨b,j,none⟩) hb v)
theorem aA.storOther{b c:Nat}{cs:List Value}(hne:c≠b):∀(vs:List Value) {W:World} {j:Nat},aA W c cs→aA (Go.Proofs.YtdkepkaflielhaaGreatDoor.stor b W j vs) c cs
 | [],W,j,h=>h
 | v::vs,W,j,h=>aA.storOther hne vs (h.setOther hne v)
theorem dX.stor{w W:World}{ks:List (Nat × List Value)}{b j:Nat}(h:dX w ks W)(hb:w.heap.size≤b)(hks:∀e∈ks,e.1≠b)(vs:List Value):dX w ks (Go.Proofs.YtdkepkaflielhaaGreatDoor.stor b W j vs):=⟨fun e he=>aA.storOther (hks e he) vs (h.k e he),Below.stor hb vs h.b,h.z⟩
theorem rG{b:Nat}:∀(vs:List Value) {w W:World} {j:Nat},w.grownBy W (some b)→w.grownBy (Go.Proofs.YtdkepkaflielhaaGreatDoor.stor b W j vs) (some b)
 | [],w,W,j,h=>h
 | v::vs,w,W,j,h=>rG vs (aC h v)
theorem dD.stor{base b j:Nat}{W:World}{a a':OA}{y:Bb}(h:dD base W a a' y)(hb:b < base)(vs:List Value):dD base (Go.Proofs.YtdkepkaflielhaaGreatDoor.stor b W j vs) a a' y :=
 ⟨h.bd.grown (rG vs (World.grownBy.refl _ _)) hb,h.ss.grown (rG vs (World.grownBy.refl _ _)) hb,h.ne⟩
theorem dD.lowN{base base':Nat}{W:World}{a a':OA}{y:Bb}(h:dD base W a a' y)(hb:base'≤base):dD base' W a a' y:=⟨h.bd.down hb,h.ss.down hb,h.ne⟩
theorem oQ(b:Nat):∀(vs:List Value) (W:World) (j:Nat),stor b W j vs=W.setCells b j vs
 | [],W,j=>rfl
 | v::vs,W,j=>by
  show stor b (W.setCell ⟨b,j,none⟩ v) (j+1) vs=_;rw[oQ b vs];rfl
theorem AR(a b:OA)(ca cb:Nat)(o:No):(fW a b ca cb o).length=25:=rfl
theorem fG(a b:OA)(ca cb:Nat)(o:No):(fW a b ca cb o).toArray.all (·.oneCell')=true:=all_oneCell_toArray (by unfold fW;simp[Value.oneCell'])
theorem aA.mid{W:World}{b:Nat}{olds vs:List Value}(h:aA W b olds)(hl:olds.length=vs.length):aA (W.setCells b 0 vs.toArray.toList) b vs:=by
 rw[List.toList_toArray,←oQ];exact h.stor vs hl
theorem Below.mid{n b:Nat}{w W:World}(h:Below n w W)(hb:n≤b)(vs:List Value):Below n w (W.setCells b 0 vs.toArray.toList):=by
 rw[List.toList_toArray,←oQ];exact Below.stor hb vs h
theorem dD.mid{base b:Nat}{W:World}{a a':OA}{y:Bb}(h:dD base W a a' y)(hb:b < base)(vs:List Value):dD base (W.setCells b 0 vs.toArray.toList) a a' y:=by
 rw[List.toList_toArray,←oQ];exact h.stor hb vs
theorem nV{W:World}{b:Nat}{a a':OA}{ca cb:Nat}{o:No}(h:aA W b (fW a a' ca cb o))(x x':OA)(cx cy:Nat)(y:No):W.there b 0 (fW x x' cx cy y).toArray.size:=by
 have:=h.th;rw[AR]at this;exact this
theorem pF{n b:Nat}{w W:World}(h:aA W b (fW none none 0 0 (gW 0)))(hb:Below n w W)(hn:n≤b)(a a':OA)(ca cb:Nat)(o:No):Hid (W.there b 0 (fW a a' ca cb o).toArray.size)∧Hid (aA (W.setCells b 0 (fW a a' ca cb o).toArray.toList) b (fW a a' ca cb o))∧Hid (Below n w (W.setCells b 0 (fW a a' ca cb o).toArray.toList)):=⟨nV h _ _ _ _ _,h.mid rfl,Below.mid hb hn _⟩
end Go.Proofs.YtdkepkaflielhaaGreatDoor
