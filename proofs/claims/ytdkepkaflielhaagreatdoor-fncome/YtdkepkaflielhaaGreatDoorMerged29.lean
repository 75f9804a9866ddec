import Derived.Test.YtdkepkaflielhaaGreatDoorAb
import Derived.Test.YtdkepkaflielhaaGreatDoorMerged3
import Derived.Test.YtdkepkaflielhaaGreatDoorMerged10
import Derived.Test.YtdkepkaflielhaaGreatDoorMerged28
import Derived.Test.YtdkepkaflielhaaGreatDoorMerged22
import Derived.Test.YtdkepkaflielhaaGreatDoorMerged20
import Derived.Test.YtdkepkaflielhaaGreatDoorMerged14
import Derived.Test.YtdkepkaflielhaaGreatDoorGrowV
import Derived.Deep.DeepCutAuto
import Derived.RegionTactic
set_option linter.unusedVariables false
set_option linter.unusedSimpArgs false
set_option maxRecDepth 100000
set_option maxHeartbeats 8000000
namespace Go.Proofs.YtdkepkaflielhaaGreatDoor
open Go.RowKit Go.PlainAid
theorem indexS_any (xs:List ByteArray) (s:ByteArray) (a:Option Addr) (cap:Nat) (w:World) (hlen:xs.length≤1048576) (hr:SlIs strL1 1 w a xs) :
  Calls Tryz.prog 128 #[.slice a xs.length cap,.string s] w fun e w'=>(∃ r:Int,e=.returned (iV r)∧decide (0≤r)=inL xs s)∧Below w.heap.size w w':=by
 have HR:Hid (SlIs strL1 1 w a xs):=hr;have HV:Hid (inL xs s=xs.any fun t=>decide (t.toList=s.toList)):=rfl;generalize inL xs s=ans at *;clear hr;go_enter Tryz.func128,Tryz.ntmps128
 go_wp2_with fail
 go_loopw [8] (fun iv wr=>∃ i:Nat,i≤xs.length∧iv=iV i∧(xs.take i).any (fun t=>decide (t.toList=s.toList))=false∧Below w.heap.size w wr) (fun iv _=>xs.length-(intOf iv).toNat)
 case atStart=>exact ⟨0,Nat.zero_le _,rfl,rfl,Below.refl _ _⟩
 case round =>
  obtain ⟨i,hi,rfl,hn,hbel⟩:=hrel;have HN:Hid ((xs.take i).any (fun t=>decide (t.toList=s.toList))=false):=hn;have HL:Hid (Below w.heap.size w wr):=hbel;clear hn hbel;by_cases hlt:i < xs.length
  ·obtain ⟨b,off,rfl,hb,hat⟩:=HR.out.at hlt;have hA:=(hat.below hb HL.out) i hlt;have HST:Hid _:=any_take (fun t:ByteArray=>decide (t.toList=s.toList)) xs i hlt;have HAT:Hid _:=any_at (fun t:ByteArray=>decide (t.toList=s.toList)) xs i hlt;obtain ⟨t,ht⟩ : ∃ t,xs[i]=t:=⟨_,rfl⟩;rw [ht] at hA HST HAT;have c0:wr.cell? ⟨b,off+i,none⟩=some (.string t):=by have:=hA 0 _ rfl; simpa using this
   have c0':wr.cell? ⟨b,off+i*1,none⟩=some (.string t):=by simpa using c0
   clear hA hat ht;by_cases he:t.toList=s.toList
   ·have HX:Hid (ans=true):=by unfold Hid; rw [HV.out]; exact HAT.out (decide_eq_true he)
    have hbq:(s.toList==t.toList)=true:=by simp [he]
    clear he;go_wp2_with fail
    go_ret;exact ⟨⟨i,rfl,by rw [HX.out]; simp⟩,HL.out⟩
   ·have HN2:Hid ((xs.take (i+1)).any (fun t=>decide (t.toList=s.toList))=false):=by unfold Hid; rw [HST.out,HN.out,decide_eq_false he]; rfl
    have hbq:(s.toList==t.toList)=false:=by simp; exact fun h=>he h.symm
    clear he;go_wp2_with fail
    go_roundw
    case rel=>exact ⟨i+1,by omega,by go_num,HN2.out,HL.out⟩
    case measure=>simp [intOf]; omega
  ·have hie:i=xs.length:=by omega
   have HX:Hid (ans=false):=by unfold Hid; have:=HN.out; rw [hie,List.take_length] at this; rw [HV.out]; exact this
   go_wp2_with fail
   go_ret;exact ⟨⟨-1,rfl,by rw [HX.out]; rfl⟩,HL.out⟩
theorem containsS_any (xs:List ByteArray) (s:ByteArray) (a:Option Addr) (cap:Nat) (w:World) (hlen:xs.length≤1048576) (hr:SlIs strL1 1 w a xs) :
  Cb 96 #[.slice a xs.length cap,.string s] w (.bool (inL xs s)):=by
 have HC:Hid _:=indexS_any xs s a cap w hlen hr;clear hr;go_enter Tryz.func96,Tryz.ntmps96
 go_wp2_with fail
 refine Calls.mono HC.out ?_;rintro e w1 ⟨⟨r,rfl,hr⟩,b1⟩;have HR:Hid (decide (0≤r)=inL xs s):=hr;clear hr HC;go_wp2_with fail
 go_ret;exact ⟨ret_bool HR.out,b1⟩
def wayI (pa:Option Addr) (n pc:Nat):Value:=.iface 82 (.agg #[.slice pa n pc])
theorem leadsI_any (xs:List ByteArray) (s:ByteArray) (pa:Option Addr) (pc:Nat) (w:World) (hlen:xs.length≤1048576) (hr:SlIs strL1 1 w pa xs) :
  Cb 57 #[wayI pa xs.length pc,.string s] w (.bool (inL xs s)):=by
 have t1:∀ W,(Instr.typeAssert (.iface 82 (.agg #[.slice pa xs.length pc])) 99 82 true).run Tryz.prog W=.ok (.tuple #[.agg #[.slice pa xs.length pc],.bool true]) W:=fun W=>by kernel_rfl
 have HC:Hid (∀ W,Below w.heap.size w W→Cb 96 #[.slice pa xs.length pc,.string s] W (.bool (inL xs s))):=fun W hW=>containsS_any xs s pa pc W hlen (hr.below hW)
 have HB:Hid (Below w.heap.size w (w.alloc (.cells #[.slice pa xs.length pc] 82))):=(Below.refl _ _).alloc (Nat.le_refl _) _;clear hr;unfold wayI;go_enter Tryz.func57,Tryz.ntmps57
 go_wp2_with fail
 refine (HC.out _ HB.out).mono ?_;rintro e w1 ⟨rfl,b1⟩;have HB1:Hid _:=HB.out.trans (b1.mono HB.out.size);clear b1 HC;go_wp2_with fail
 go_ret;exact ⟨rfl,HB1.out⟩
theorem nat_parts {p:Pl} {x:Bb} {q:P4} {now:Int} (h:natFt p x q now=0):bibOk p x=true∧v4Ok q=true∧isTime now=true:=by
 unfold natFt at h;split at h
 ·omega
 ·rename_i h2;simp only [Bool.not_eq_false,Bool.and_eq_true] at h2;exact ⟨h2.1.1,h2.1.2,h2.2⟩
theorem v4_sizes {q:P4} (h:v4Ok q=true):q.src.size=4∧q.dst.size=4∧q.opts.size≤40∧q.data.size≤1400:=by
 have hA:v4A q=true:=by unfold v4Ok at h; simp only [Bool.and_eq_true] at h; exact h.1.1
 have hB:v4B q=true:=by unfold v4Ok at h; simp only [Bool.and_eq_true] at h; exact h.1.2
 have h1:=v4A_parts hA; have h2:=v4B_parts hB;exact ⟨h1.2.2.2.2.2.1,h1.2.2.2.2.2.2,h2.1,h2.2.2.1⟩
theorem flow_four {q:P4} (h:v4Ok q=true):flowCode q.src q.dst q.proto q.data=ofCode q.src.size q.proto q.data∧(ofCode q.src.size q.proto q.data=0→flowOfV q.src q.dst q.proto q.data=ofFl q.src q.dst q.proto q.data):=by
 obtain ⟨h1,h2,h3,h4⟩:=v4_sizes h;have e:flowCode q.src q.dst q.proto q.data=ofCode q.src.size q.proto q.data:=by
  unfold flowCode; rw [if_neg (by omega),if_neg (by rw [pair_four h1 h2]; simp)]
 exact ⟨e,fun hc=>by unfold flowOfV; rw [e,if_pos hc]⟩
theorem tcp_long {n:Nat} {t:ByteArray} (h:ofCode n 6 t=0):20≤t.size:=by
 unfold ofCode at h;split at h
 ·omega
 ·split at h
  ·omega
  ·rename_i _ h2;unfold shortP at h2;simp at h2; omega
theorem touch_go {p:Pl} {x:Bb} {t:Tc} {now:Int} (h:bibOk p x=true) (hn:isTime now=true) (ht:touchOk t=true):bibTouchV p x t now=goV p x t now:=by
 unfold bibTouchV; rw [h,hn,ht]; rfl
theorem pass_in {p:Pl} {x:Bb} {q:P4} {now:Int} (h:natFt p x q now=0) (hc:ofCode q.src.size q.proto q.data=0) (F:Fl) (hF:F=ofFl q.src q.dst q.proto q.data) (Y:Bo) (hY:Y=goV p x (comeT F q.data) now) :
  bibTouchV p x ⟨F.proto,false,F.dst,F.dp,F.src,peerV F.proto F.sp,flagV q.proto q.data⟩ now=Y∧F.src.size=4∧F.dst.size=4∧(Y.code=0→Y.bind.inn.size≤16∧(Y.bind.inn.size=4→∃ G:Fl,(⟨F.proto,F.src,Y.bind.inn,if echoP F.proto=true then Y.bind.inPort else F.sp,Y.bind.inPort⟩ : Fl)=G∧G=toF F q.src Y.bind.inn Y.bind.inPort∧setData F G q.data=setD F G q.data∧G.src=q.src∧G.dst=Y.bind.inn)):=by
 obtain ⟨h1,h2,h3⟩:=nat_parts h;obtain ⟨s1,s2,s3,s4⟩:=v4_sizes h2;obtain ⟨z1,z2,z3,z4,z5,z6⟩:=@ofFl_zero q.src q.dst q.proto q.data hc;have hp:=proto_of hc;rw [s1] at hp;have hp4:=proto_four hp;have ht:=comeT_ok s1 s2 hc;rw [← hF] at z1 z2 z3 z4 z5 z6 ht;have eT:(⟨F.proto,false,F.dst,F.dp,F.src,peerV F.proto F.sp,flagV q.proto q.data⟩ : Tc)=comeT F q.data:=by
  unfold comeT; rw [z1]
 refine ⟨by rw [eT,touch_go h1 h3 ht,hY],by rw [z2]; exact s1,by rw [z3]; exact s2,fun y0=>?_⟩;rw [hY] at y0;obtain ⟨e1,e2,e3,e4,e5⟩:=bind_ends h1 h3 ht y0;rw [← hY] at e1 e2 e3 e4 e5;refine ⟨by omega,fun e6=>?_⟩;have hG:(⟨F.proto,F.src,Y.bind.inn,if echoP F.proto=true then Y.bind.inPort else F.sp,Y.bind.inPort⟩ : Fl)=toF F q.src Y.bind.inn Y.bind.inPort:=by
  unfold toF kindF;split
  ·rename_i he;have he2:=he;rw [z1] at he;have:q.proto=1:=by
    rcases hp4 with h6 | h6 | h6
    ·rw [h6] at he; simp [echoP] at he
    ·rw [h6] at he; simp [echoP] at he
    ·exact h6
   dsimp only;rw [if_neg (by omega),z1,z2,this]
  ·rw [z2]
 refine ⟨_,hG,rfl,?_,?_,?_⟩
 ·have hfo:=flowOk_of hc (pair_four s1 s2);rw [← hF] at hfo;obtain ⟨k1,k2,k3,k4⟩:=kind_right (f:=F) (g:=⟨F.proto,q.src,Y.bind.inn,if echoP F.proto=true then Y.bind.inPort else F.sp,Y.bind.inPort⟩) hfo (by rw [z2]; exact s1) s1 e6 rfl (by dsimp only; split<;>omega) e4;have:=(setD_four (g:=toF F q.src Y.bind.inn Y.bind.inPort) hc s1 s2 (by omega) k1 (by rw [← z1]; exact k2) (by show (kindF _ _).src.size=4; rw [k3]; exact s1)).1;rw [← hF] at this;exact this
 ·rw [← hG]; exact z2
 ·rw [← hG]
theorem sp9Port_any (f:Fl) (n:Int) (w:World) :
  Cb 116 #[fwC f,iV n] w (iV (peerV f.proto n)):=by
 have HE:Hid (∀ W,Cw 44 #[iV f.proto] W (.bool (echoP f.proto))):=fun W=>spEcho_any _ W
 have HV:Hid (peerV f.proto n=if echoP f.proto=true then 0 else n):=rfl;generalize peerV f.proto n=ans at *;generalize echoP f.proto=b at *;obtain ⟨proto,src,dst,sp,dp⟩:=f;unfold fwC;dsimp only at *;have HS0:=bx1 w (FlR proto src dst sp dp) 43 (by simp)
 skip;have HB:Hid _:=HS0.out.b;clear HS0;go_enter Tryz.func116,Tryz.ntmps116
 go_wp2_with fail
 refine (HE.out _).mono ?_;rintro e w2 ⟨rfl,rfl⟩
 cases b with
 | false =>
  go_wp2_with fail
  go_ret;exact ⟨ret_int (by rw [HV.out]; rfl),HB.out⟩
 | true =>
  go_wp2_with fail
  go_ret;exact ⟨ret_int (by rw [HV.out]; rfl),HB.out⟩
theorem sp9Flags_any (f:Fl) (t:ByteArray) (w:World) (ht:t.size≤1048576) (h20:f.proto=6→20≤t.size) :
  Cb 117 #[fwC f,.string t] w (iV (flagV f.proto t)):=by
 obtain ⟨proto,src,dst,sp,dp⟩:=f;unfold fwC;dsimp only at *;have HS0:=bx1 w (FlR proto src dst sp dp) 43 (by simp)
 skip;have HB:Hid _:=HS0.out.b;clear HS0;by_cases h:proto=6
 case pos =>
  have h20':=h20 h;subst h;have HV:Hid (flagV 6 t=bt t 13):=rfl;have hb:=get_bt t;have b1:=bt_isByte t 13;generalize flagV 6 t=ans at *;have hi:¬ (t.size:Int)≤13:=by omega
  have hj:(13:Int) < t.size:=by omega
  go_enter Tryz.func117,Tryz.ntmps117
  go_wp2_with fail
  go_ret;exact ⟨ret_int HV.out.symm,HB.out⟩
 have HV:Hid (flagV proto t=0):=if_neg h;generalize flagV proto t=ans at *;have d0:(proto != 6)=true:=by simp [h]
 go_enter Tryz.func117,Tryz.ntmps117
 go_wp2_with fail
 go_ret;exact ⟨ret_int (by rw [HV.out]),HB.out⟩
theorem sp9Kind_any (f g:Fl) (w:World) (hg:g.src.size≤1048576) :
  Cb 118 #[fwC f,fwC g] w (fwC (kindF f g)):=by
 have HE:Hid (∀ W,Cw 44 #[iV f.proto] W (.bool (echoP f.proto))):=fun W=>spEcho_any _ W
 have HV:Hid (kindF f g=if echoP f.proto=true then ⟨if g.src.size=16 then 58 else 1,g.src,g.dst,g.sp,g.sp⟩ else g):=rfl;generalize kindF f g=ans at *;generalize echoP f.proto=b at *;obtain ⟨proto,src,dst,sp,dp⟩:=f;obtain ⟨proto',src',dst',sp',dp'⟩:=g;unfold fwC;dsimp only at *;have HS0:=bx3 w (FlR proto src dst sp dp) 43 (FlR proto' src' dst' sp' dp') 43 (FlR 0 ⟨#[]⟩ ⟨#[]⟩ 0 0) 43 (by simp) (by simp) (by simp)
 skip;have hRw:w.heap.size≤w.heap.size+1+1:=by omega
 have hGw:w.heap.size≤w.heap.size+1:=by omega
 go_enter Tryz.func118,Tryz.ntmps118
 go_upto_region 1 with fail
 generalize ((aW (aW w (FlR proto src dst sp dp) 43) (FlR proto' src' dst' sp' dp') 43).alloc (.cells (FlR 0 ⟨#[]⟩ ⟨#[]⟩ 0 0).toArray 43))=W0 at *;have HHk:=HS0.out.at mE0;obtain ⟨k0,k1,k2,k3,k4⟩:=HHk.c5;clear HHk;go_wp2_with fail
 refine (HE.out _).mono ?_;rintro e W0 ⟨rfl,rfl⟩
 cases b with
 | false =>
  have HX:Hid (ans=⟨proto',src',dst',sp',dp'⟩):=HV.out;clear HV;have HHl:=HS0.out.at mE1;obtain ⟨l0,l1,l2,l3,l4⟩:=HHl.c5;clear HHl;have HHz:=HS0.out.at mE2;obtain ⟨z0,z1,z2,z3,z4⟩:=HHz.c5;obtain ⟨zf0,zf1,zf2,zf3,zf4⟩:=HHz.f5;have HRR:Hid (HoldsL ((sW (sW (sW (sW W0 (w.heap.size+1+1) 0 (iV proto')) (w.heap.size+1+1) 1 (.string src')) (w.heap.size+1+1) 2 (.string dst')) (w.heap.size+1+1) 3 (iV sp')).setCell ⟨w.heap.size+1+1,4,none⟩ (iV dp')) (w.heap.size+1+1) (FlR proto' src' dst' sp' dp')):=(((((HHz.set 0 (iV proto')).set 1 (.string src')).set 2 (.string dst')).set 3 (iV sp')).set 4 (iV dp'));have RB:Hid _:=(((((HS0.out.b.setCell (p:=⟨w.heap.size+1+1,0,none⟩) hRw (iV proto')).setCell (p:=⟨w.heap.size+1+1,1,none⟩) hRw (.string src')).setCell (p:=⟨w.heap.size+1+1,2,none⟩) hRw (.string dst')).setCell (p:=⟨w.heap.size+1+1,3,none⟩) hRw (iV sp')).setCell (p:=⟨w.heap.size+1+1,4,none⟩) hRw (iV dp'));clear HHz;go_wp2_with fail
  exact bodyPost_ret (results_mid Tryz.results118 _ _ (w.heap.size+1+1) (FlR proto' src' dst' sp' dp') _ rfl HRR.out Tryz.underlying43 rfl (show (Tryz.prog.info? 43).map (·.size)=some 5 by kernel_rfl)) rfl (And.intro (by rw [HX.out]) RB.out)
 | true =>
  by_cases h16:src'.size=16
  case pos =>
   have HX:Hid (ans=⟨58,src',dst',sp',sp'⟩):=by unfold Hid; rw [HV.out,if_pos rfl]; simp [h16]
   have d16:((src'.size:Int)==16)=true:=by rw [h16]; rfl
   clear HV h16;have HHg:=HS0.out.at mE1;obtain ⟨l0,l1,l2,l3,l4⟩:=HHg.c5;obtain ⟨lf0,lf1,lf2,lf3,lf4⟩:=HHg.f5;have S2:Hid (Bxs w [(w.heap.size+1,(FlR 58 src' dst' sp' sp')),(w.heap.size+1+1,(FlR 0 ⟨#[]⟩ ⟨#[]⟩ 0 0))] ((sW (sW W0 (w.heap.size+1) 4 (iV sp')) (w.heap.size+1) 0 (iV 1)).setCell ⟨w.heap.size+1,0,none⟩ (iV 58))):=⟨fun e he=>by
    simp only [List.mem_cons,List.not_mem_nil,or_false] at he;rcases he with rfl | rfl
    ·exact ((HHg.set 4 (iV sp')).set 0 (iV 1)).set 0 (iV 58)
    ·exact (HoldsL.setOther (HoldsL.setOther (HoldsL.setOther (HS0.out.k _ mE2) (by show w.heap.size+1+1≠w.heap.size+1; omega) _) (by show w.heap.size+1+1≠w.heap.size+1; omega) _) (by show w.heap.size+1+1≠w.heap.size+1; omega) _),(((HS0.out.b.setCell (p:=⟨w.heap.size+1,4,none⟩) hGw _).setCell (p:=⟨w.heap.size+1,0,none⟩) hGw _).setCell (p:=⟨w.heap.size+1,0,none⟩) hGw _),fun e he=>by
    simp only [List.mem_cons,List.not_mem_nil,or_false] at he;rcases he with rfl | rfl<;>simp⟩
   clear HHg;go_upto_region 7 with fail
   generalize ((sW (sW W0 (w.heap.size+1) 4 (iV sp')) (w.heap.size+1) 0 (iV 1)).setCell ⟨w.heap.size+1,0,none⟩ (iV 58))=W2 at *;clear l0 lf0 l1 lf1 l2 lf2 l3 lf3 l4 lf4 HS0 k0 k1 k2 k3 k4;have HHl:=S2.out.at mE0;obtain ⟨l0,l1,l2,l3,l4⟩:=HHl.c5;clear HHl;have HHz:=S2.out.at mE1;obtain ⟨z0,z1,z2,z3,z4⟩:=HHz.c5;obtain ⟨zf0,zf1,zf2,zf3,zf4⟩:=HHz.f5;have HRR:Hid (HoldsL ((sW (sW (sW (sW W2 (w.heap.size+1+1) 0 (iV 58)) (w.heap.size+1+1) 1 (.string src')) (w.heap.size+1+1) 2 (.string dst')) (w.heap.size+1+1) 3 (iV sp')).setCell ⟨w.heap.size+1+1,4,none⟩ (iV sp')) (w.heap.size+1+1) (FlR 58 src' dst' sp' sp')):=(((((HHz.set 0 (iV 58)).set 1 (.string src')).set 2 (.string dst')).set 3 (iV sp')).set 4 (iV sp'));have RB:Hid _:=(((((S2.out.b.setCell (p:=⟨w.heap.size+1+1,0,none⟩) hRw (iV 58)).setCell (p:=⟨w.heap.size+1+1,1,none⟩) hRw (.string src')).setCell (p:=⟨w.heap.size+1+1,2,none⟩) hRw (.string dst')).setCell (p:=⟨w.heap.size+1+1,3,none⟩) hRw (iV sp')).setCell (p:=⟨w.heap.size+1+1,4,none⟩) hRw (iV sp'));clear HHz;go_wp2_with fail
   exact bodyPost_ret (results_mid Tryz.results118 _ _ (w.heap.size+1+1) (FlR 58 src' dst' sp' sp') _ rfl HRR.out Tryz.underlying43 rfl (show (Tryz.prog.info? 43).map (·.size)=some 5 by kernel_rfl)) rfl (And.intro (by rw [HX.out]) RB.out)
  case neg =>
   have HX:Hid (ans=⟨1,src',dst',sp',sp'⟩):=by unfold Hid; rw [HV.out,if_pos rfl]; simp [h16]
   have d16:((src'.size:Int)==16)=false:=by simp; omega
   clear HV h16;have HHg:=HS0.out.at mE1;obtain ⟨l0,l1,l2,l3,l4⟩:=HHg.c5;obtain ⟨lf0,lf1,lf2,lf3,lf4⟩:=HHg.f5;have S2:Hid (Bxs w [(w.heap.size+1,(FlR 1 src' dst' sp' sp')),(w.heap.size+1+1,(FlR 0 ⟨#[]⟩ ⟨#[]⟩ 0 0))] ((sW W0 (w.heap.size+1) 4 (iV sp')).setCell ⟨w.heap.size+1,0,none⟩ (iV 1))):=⟨fun e he=>by
    simp only [List.mem_cons,List.not_mem_nil,or_false] at he;rcases he with rfl | rfl
    ·exact ((HHg.set 4 (iV sp')).set 0 (iV 1))
    ·exact (HoldsL.setOther (HoldsL.setOther (HS0.out.k _ mE2) (by show w.heap.size+1+1≠w.heap.size+1; omega) _) (by show w.heap.size+1+1≠w.heap.size+1; omega) _),((HS0.out.b.setCell (p:=⟨w.heap.size+1,4,none⟩) hGw _).setCell (p:=⟨w.heap.size+1,0,none⟩) hGw _),fun e he=>by
    simp only [List.mem_cons,List.not_mem_nil,or_false] at he;rcases he with rfl | rfl<;>simp⟩
   clear HHg;go_upto_region 7 with fail
   generalize ((sW W0 (w.heap.size+1) 4 (iV sp')).setCell ⟨w.heap.size+1,0,none⟩ (iV 1))=W2 at *;clear l0 lf0 l1 lf1 l2 lf2 l3 lf3 l4 lf4 HS0 k0 k1 k2 k3 k4;have HHl:=S2.out.at mE0;obtain ⟨l0,l1,l2,l3,l4⟩:=HHl.c5;clear HHl;have HHz:=S2.out.at mE1;obtain ⟨z0,z1,z2,z3,z4⟩:=HHz.c5;obtain ⟨zf0,zf1,zf2,zf3,zf4⟩:=HHz.f5;have HRR:Hid (HoldsL ((sW (sW (sW (sW W2 (w.heap.size+1+1) 0 (iV 1)) (w.heap.size+1+1) 1 (.string src')) (w.heap.size+1+1) 2 (.string dst')) (w.heap.size+1+1) 3 (iV sp')).setCell ⟨w.heap.size+1+1,4,none⟩ (iV sp')) (w.heap.size+1+1) (FlR 1 src' dst' sp' sp')):=(((((HHz.set 0 (iV 1)).set 1 (.string src')).set 2 (.string dst')).set 3 (iV sp')).set 4 (iV sp'));have RB:Hid _:=(((((S2.out.b.setCell (p:=⟨w.heap.size+1+1,0,none⟩) hRw (iV 1)).setCell (p:=⟨w.heap.size+1+1,1,none⟩) hRw (.string src')).setCell (p:=⟨w.heap.size+1+1,2,none⟩) hRw (.string dst')).setCell (p:=⟨w.heap.size+1+1,3,none⟩) hRw (iV sp')).setCell (p:=⟨w.heap.size+1+1,4,none⟩) hRw (iV sp'));clear HHz;go_wp2_with fail
   exact bodyPost_ret (results_mid Tryz.results118 _ _ (w.heap.size+1+1) (FlR 1 src' dst' sp' sp') _ rfl HRR.out Tryz.underlying43 rfl (show (Tryz.prog.info? 43).map (·.size)=some 5 by kernel_rfl)) rfl (And.intro (by rw [HX.out]) RB.out)
theorem sp9To_any (f:Fl) (s d:ByteArray) (n:Int) (w:World) (hs:s.size≤1048576) :
  Cb 78 #[fwC f,.string s,.string d,iV n] w (fwC (toF f s d n)):=by
 have HE:Hid (∀ W,Cw 44 #[iV f.proto] W (.bool (echoP f.proto))):=fun W=>spEcho_any _ W
 have HK:Hid (∀ W,Cb 118 #[fwC f,fwC ⟨f.proto,s,d,if echoP f.proto=true then n else f.sp,n⟩] W (fwC (toF f s d n))):=fun W=>sp9Kind_any f ⟨f.proto,s,d,_,n⟩ W hs
 generalize toF f s d n=ans at *;generalize echoP f.proto=b at *;obtain ⟨proto,src,dst,sp,dp⟩:=f;unfold fwC at *;dsimp only at *;have HS0:=bx2 w (FlR proto src dst sp dp) 43 (FlR 0 ⟨#[]⟩ ⟨#[]⟩ 0 0) 43 (by simp) (by simp)
 skip;have hRw:w.heap.size≤w.heap.size+1:=by omega
 go_enter Tryz.func78,Tryz.ntmps78
 go_upto_region 1 with fail
 generalize ((aW w (FlR proto src dst sp dp) 43).alloc (.cells (FlR 0 ⟨#[]⟩ ⟨#[]⟩ 0 0).toArray 43))=W0 at *;have HHk:=HS0.out.at mE0;obtain ⟨k0,k1,k2,k3,k4⟩:=HHk.c5;clear HHk;have S1:Hid (Bxs w ((W0.heap.size,(FlR proto s d sp n))::[(w.heap.size,(FlR proto src dst sp dp)),(w.heap.size+1,(FlR 0 ⟨#[]⟩ ⟨#[]⟩ 0 0))]) (W0.alloc (.cells (FlR proto s d sp n).toArray 43))):=HS0.out.push (FlR proto s d sp n) (by simp) _;have hrg:w.heap.size+1 < W0.heap.size:=(HS0.out.k _ mE1).lt (by simp);go_upto_region 2 with fail
 clear HS0 k0 k1 k2 k3 k4;generalize (W0.alloc (.cells (FlR proto s d sp n).toArray 43))=W1 at *;generalize W0.heap.size=G at *;have HHk:=S1.out.at mE1;obtain ⟨k0,k1,k2,k3,k4⟩:=HHk.c5;clear HHk;go_wp2_with fail
 refine (HE.out _).mono ?_;rintro e W1 ⟨rfl,rfl⟩
 cases b with
 | false =>
  clear k0 k1 k2 k3 k4;have HHk:=S1.out.at mE1;obtain ⟨k0,k1,k2,k3,k4⟩:=HHk.c5;clear HHk;have HHl:=S1.out.at mE0;obtain ⟨l0,l1,l2,l3,l4⟩:=HHl.c5;clear HHl;go_wp2_with fail
  refine (HK.out _).mono ?_;rintro e W2 ⟨rfl,q2⟩;have S2:Hid _:=S1.out.kept q2;clear q2 k0 k1 k2 k3 k4 l0 l1 l2 l3 l4;have HHz:=S2.out.at mE2;obtain ⟨z0,z1,z2,z3,z4⟩:=HHz.c5;obtain ⟨zf0,zf1,zf2,zf3,zf4⟩:=HHz.f5;have HRR:Hid (HoldsL ((sW (sW (sW (sW W2 (w.heap.size+1) 0 (iV ans.proto)) (w.heap.size+1) 1 (.string ans.src)) (w.heap.size+1) 2 (.string ans.dst)) (w.heap.size+1) 3 (iV ans.sp)).setCell ⟨w.heap.size+1,4,none⟩ (iV ans.dp)) (w.heap.size+1) (FlV ans)):=(((((HHz.set 0 (iV ans.proto)).set 1 (.string ans.src)).set 2 (.string ans.dst)).set 3 (iV ans.sp)).set 4 (iV ans.dp));have RB:Hid _:=(((((S2.out.b.setCell (p:=⟨w.heap.size+1,0,none⟩) hRw (iV ans.proto)).setCell (p:=⟨w.heap.size+1,1,none⟩) hRw (.string ans.src)).setCell (p:=⟨w.heap.size+1,2,none⟩) hRw (.string ans.dst)).setCell (p:=⟨w.heap.size+1,3,none⟩) hRw (iV ans.sp)).setCell (p:=⟨w.heap.size+1,4,none⟩) hRw (iV ans.dp));clear HHz;go_wp2_with fail
  exact bodyPost_ret (results_mid Tryz.results78 _ _ (w.heap.size+1) (FlV ans) _ rfl HRR.out Tryz.underlying43 rfl (show (Tryz.prog.info? 43).map (·.size)=some 5 by kernel_rfl)) rfl (And.intro rfl RB.out)
 | true =>
  have HHg:=S1.out.at mE0;have l3:=HHg.cell (j:=3) rfl;have lf3:=HHg.free (j:=3) (by simp);have S1':Hid (Bxs w [(G,(FlR proto s d n n)),(w.heap.size,(FlR proto src dst sp dp)),(w.heap.size+1,(FlR 0 ⟨#[]⟩ ⟨#[]⟩ 0 0))] (W1.setCell ⟨G,3,none⟩ (iV n))):=⟨fun e he=>by
   simp only [List.mem_cons,List.not_mem_nil,or_false] at he;rcases he with rfl | rfl | rfl
   ·exact HHg.set 3 _
   ·exact HoldsL.setOther (S1.out.k _ mE1) (by show w.heap.size≠G; omega) _
   ·exact HoldsL.setOther (S1.out.k _ mE2) (by show w.heap.size+1≠G; omega) _,S1.out.b.setCell (p:=⟨G,3,none⟩) (by show w.heap.size≤G; omega) _,fun e he=>by
   simp only [List.mem_cons,List.not_mem_nil,or_false] at he;rcases he with rfl | rfl | rfl<;>simp⟩
  clear HHg S1;go_upto_region 4 with fail
  generalize (W1.setCell ⟨G,3,none⟩ (iV n))=W3 at *;clear l3 lf3 k0 k1 k2 k3 k4;have HHk:=S1'.out.at mE1;obtain ⟨k0,k1,k2,k3,k4⟩:=HHk.c5;clear HHk;have HHl:=S1'.out.at mE0;obtain ⟨l0,l1,l2,l3,l4⟩:=HHl.c5;clear HHl;go_wp2_with fail
  refine (HK.out _).mono ?_;rintro e W2 ⟨rfl,q2⟩;have S2:Hid (Bxs w [(G,(FlR proto s d n n)),(w.heap.size,(FlR proto src dst sp dp)),(w.heap.size+1,(FlR 0 ⟨#[]⟩ ⟨#[]⟩ 0 0))] W2):=S1'.out.kept q2;clear q2 k0 k1 k2 k3 k4 l0 l1 l2 l3 l4;have HHz:=S2.out.at mE2;obtain ⟨z0,z1,z2,z3,z4⟩:=HHz.c5;obtain ⟨zf0,zf1,zf2,zf3,zf4⟩:=HHz.f5;have HRR:Hid (HoldsL ((sW (sW (sW (sW W2 (w.heap.size+1) 0 (iV ans.proto)) (w.heap.size+1) 1 (.string ans.src)) (w.heap.size+1) 2 (.string ans.dst)) (w.heap.size+1) 3 (iV ans.sp)).setCell ⟨w.heap.size+1,4,none⟩ (iV ans.dp)) (w.heap.size+1) (FlV ans)):=(((((HHz.set 0 (iV ans.proto)).set 1 (.string ans.src)).set 2 (.string ans.dst)).set 3 (iV ans.sp)).set 4 (iV ans.dp));have RB:Hid _:=(((((S2.out.b.setCell (p:=⟨w.heap.size+1,0,none⟩) hRw (iV ans.proto)).setCell (p:=⟨w.heap.size+1,1,none⟩) hRw (.string ans.src)).setCell (p:=⟨w.heap.size+1,2,none⟩) hRw (.string ans.dst)).setCell (p:=⟨w.heap.size+1,3,none⟩) hRw (iV ans.sp)).setCell (p:=⟨w.heap.size+1,4,none⟩) hRw (iV ans.dp));clear HHz;go_wp2_with fail
  exact bodyPost_ret (results_mid Tryz.results78 _ _ (w.heap.size+1) (FlV ans) _ rfl HRR.out Tryz.underlying43 rfl (show (Tryz.prog.info? 43).map (·.size)=some 5 by kernel_rfl)) rfl (And.intro rfl RB.out)
end Go.Proofs.YtdkepkaflielhaaGreatDoor
