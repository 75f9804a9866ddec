import Derived.Test.YtdkepkaflielhaaGreatDoorMerged25
set_option linter.unusedVariables false
set_option linter.unusedSimpArgs false
set_option maxRecDepth 100000
set_option maxHeartbeats 8000000
namespace Go.Proofs.YtdkepkaflielhaaGreatDoor
open Go.RowKit Go.PlainAid
theorem indexS_any (xs:List ByteArray) (s:ByteArray) (a:Option Addr) (cap:Nat) (w:World) (hlen:xs.length≤1048576) (hr:SlIs strL1 1 w a xs) :
  Calls Tryz.prog 128 #[.slice a xs.length cap,.string s] w fun e w'=>(∃ r:Int,e=.returned (iV r)∧decide (0≤r)=inL xs s)∧Below w.heap.size w w':=by
 have HR:Hid (SlIs strL1 1 w a xs):=hr;have HV:Hid (inL xs s=xs.any fun t=>decide (t.toList=s.toList)):=rfl;generalize inL xs s=ans at *;clear hr;go_enter Tryz.func128,Tryz.ntmps128
 go_wp2_with fail
 go_loopw [8] (fun iv wr=>∃ i:Nat,i≤xs.length∧iv=iV i∧(xs.take i).any (fun t=>decide (t.toList=s.toList))=false∧Below w.heap.size w wr) (fun iv _=>xs.length-(intOf iv).toNat)
 case atStart=>exact ⟨0,Nat.zero_le _,rfl,rfl,Below.refl _ _⟩
 case round =>
  obtain ⟨i,hi,rfl,hn,hbel⟩:=hrel;have HN:Hid ((xs.take i).any (fun t=>decide (t.toList=s.toList))=false):=hn;have HL:Hid (Below w.heap.size w wr):=hbel;clear hn hbel;by_cases hlt:i < xs.length
  ·obtain ⟨b,off,rfl,hb,hat⟩:=HR.out.at hlt;have hA:=(hat.below hb HL.out) i hlt;have HST:Hid _:=any_take (fun t:ByteArray=>decide (t.toList=s.toList)) xs i hlt;have HAT:Hid _:=any_at (fun t:ByteArray=>decide (t.toList=s.toList)) xs i hlt;obtain ⟨t,ht⟩ : ∃ t,xs[i]=t:=⟨_,rfl⟩;rw [ht] at hA HST HAT;have c0:wr.cell? ⟨b,off+i,none⟩=some (.string t):=by have:=hA 0 _ rfl; simpa using this
   have c0':wr.cell? ⟨b,off+i*1,none⟩=some (.string t):=by simpa using c0
   clear hA hat ht;by_cases he:t.toList=s.toList
   ·have HX:Hid (ans=true):=by unfold Hid; rw [HV.out]; exact HAT.out (decide_eq_true he)
    have hbq:(s.toList==t.toList)=true:=by simp [he]
    clear he;go_wp2_with fail
    go_ret;exact ⟨⟨i,rfl,by rw [HX.out]; simp⟩,HL.out⟩
   ·have HN2:Hid ((xs.take (i+1)).any (fun t=>decide (t.toList=s.toList))=false):=by unfold Hid; rw [HST.out,HN.out,decide_eq_false he]; rfl
    have hbq:(s.toList==t.toList)=false:=by simp; exact fun h=>he h.symm
    clear he;go_wp2_with fail
    go_roundw
    case rel=>exact ⟨i+1,by omega,by go_num,HN2.out,HL.out⟩
    case measure=>simp [intOf]; omega
  ·have hie:i=xs.length:=by omega
   have HX:Hid (ans=false):=by unfold Hid; have:=HN.out; rw [hie,List.take_length] at this; rw [HV.out]; exact this
   go_wp2_with fail
   go_ret;exact ⟨⟨-1,rfl,by rw [HX.out]; rfl⟩,HL.out⟩
theorem containsS_any (xs:List ByteArray) (s:ByteArray) (a:Option Addr) (cap:Nat) (w:World) (hlen:xs.length≤1048576) (hr:SlIs strL1 1 w a xs) :
  Cb 96 #[.slice a xs.length cap,.string s] w (.bool (inL xs s)):=by
 have HC:Hid _:=indexS_any xs s a cap w hlen hr;clear hr;go_enter Tryz.func96,Tryz.ntmps96
 go_wp2_with fail
 refine Calls.mono HC.out ?_;rintro e w1 ⟨⟨r,rfl,hr⟩,b1⟩;have HR:Hid (decide (0≤r)=inL xs s):=hr;clear hr HC;go_wp2_with fail
 go_ret;exact ⟨ret_bool HR.out,b1⟩
def wayI (pa:Option Addr) (n pc:Nat):Value:=.iface 82 (.agg #[.slice pa n pc])
theorem leadsI_any (xs:List ByteArray) (s:ByteArray) (pa:Option Addr) (pc:Nat) (w:World) (hlen:xs.length≤1048576) (hr:SlIs strL1 1 w pa xs) :
  Cb 57 #[wayI pa xs.length pc,.string s] w (.bool (inL xs s)):=by
 have t1:∀ W,(Instr.typeAssert (.iface 82 (.agg #[.slice pa xs.length pc])) 99 82 true).run Tryz.prog W=.ok (.tuple #[.agg #[.slice pa xs.length pc],.bool true]) W:=fun W=>by kernel_rfl
 have HC:Hid (∀ W,Below w.heap.size w W→Cb 96 #[.slice pa xs.length pc,.string s] W (.bool (inL xs s))):=fun W hW=>containsS_any xs s pa pc W hlen (hr.below hW)
 have HB:Hid (Below w.heap.size w (w.alloc (.cells #[.slice pa xs.length pc] 82))):=bR.alloc lR _;clear hr;unfold wayI;go_enter Tryz.func57,Tryz.ntmps57
 go_wp2_with fail
 refine (HC.out _ HB.out).mono ?_;rintro e w1 ⟨rfl,b1⟩;have HB1:Hid _:=HB.out.trans (b1.mono HB.out.size);clear b1 HC;go_wp2_with fail
 go_ret;exact ⟨rfl,HB1.out⟩
theorem nat_parts {p:Pl} {x:Bb} {q:P4} {now:Int} (h:natFt p x q now=0):bibOk p x=true∧v4Ok q=true∧isTime now=true:=by
 unfold natFt at h;split at h
 ·omega
 ·rename_i h2;simp only [Bool.not_eq_false,Bool.and_eq_true] at h2;exact ⟨h2.1.1,h2.1.2,h2.2⟩
theorem v4_sizes {q:P4} (h:v4Ok q=true):q.src.size=4∧q.dst.size=4∧q.opts.size≤40∧q.data.size≤1400:=by
 have hA:v4A q=true:=by unfold v4Ok at h; simp only [Bool.and_eq_true] at h; exact h.1.1
 have hB:v4B q=true:=by unfold v4Ok at h; simp only [Bool.and_eq_true] at h; exact h.1.2
 have h1:=v4A_parts hA; have h2:=v4B_parts hB;exact ⟨h1.2.2.2.2.2.1,h1.2.2.2.2.2.2,h2.1,h2.2.2.1⟩
theorem flow_four {q:P4} (h:v4Ok q=true):flowCode q.src q.dst q.proto q.data=ofCode q.src.size q.proto q.data∧(ofCode q.src.size q.proto q.data=0→flowOfV q.src q.dst q.proto q.data=ofFl q.src q.dst q.proto q.data):=by
 obtain ⟨h1,h2,h3,h4⟩:=v4_sizes h;have e:flowCode q.src q.dst q.proto q.data=ofCode q.src.size q.proto q.data:=by
  unfold flowCode; rw [if_neg (by omega),if_neg (by rw [pair_four h1 h2]; simp)]
 exact ⟨e,fun hc=>by unfold flowOfV; rw [e,if_pos hc]⟩
theorem tcp_long {n:Nat} {t:ByteArray} (h:ofCode n 6 t=0):20≤t.size:=by
 unfold ofCode at h;split at h
 ·omega
 ·split at h
  ·omega
  ·rename_i _ h2;unfold shortP at h2;simp at h2; omega
theorem touch_go {p:Pl} {x:Bb} {t:Tc} {now:Int} (h:bibOk p x=true) (hn:isTime now=true) (ht:touchOk t=true):bibTouchV p x t now=goV p x t now:=by
 unfold bibTouchV; rw [h,hn,ht]; rfl
theorem pass_in {p:Pl} {x:Bb} {q:P4} {now:Int} (h:natFt p x q now=0) (hc:ofCode q.src.size q.proto q.data=0) (F:Fl) (hF:F=ofFl q.src q.dst q.proto q.data) (Y:Bo) (hY:Y=goV p x (comeT F q.data) now) :
  bibTouchV p x ⟨F.proto,false,F.dst,F.dp,F.src,peerV F.proto F.sp,flagV q.proto q.data⟩ now=Y∧F.src.size=4∧F.dst.size=4∧(Y.code=0→Y.bind.inn.size≤16∧(Y.bind.inn.size=4→∃ G:Fl,(⟨F.proto,F.src,Y.bind.inn,if echoP F.proto=true then Y.bind.inPort else F.sp,Y.bind.inPort⟩ : Fl)=G∧G=toF F q.src Y.bind.inn Y.bind.inPort∧setData F G q.data=setD F G q.data∧G.src=q.src∧G.dst=Y.bind.inn)):=by
 obtain ⟨h1,h2,h3⟩:=nat_parts h;obtain ⟨s1,s2,s3,s4⟩:=v4_sizes h2;obtain ⟨z1,z2,z3,z4,z5,z6⟩:=@ofFl_zero q.src q.dst q.proto q.data hc;have hp:=proto_of hc;rw [s1] at hp;have hp4:=proto_four hp;have ht:=comeT_ok s1 s2 hc;rw [← hF] at z1 z2 z3 z4 z5 z6 ht;have eT:(⟨F.proto,false,F.dst,F.dp,F.src,peerV F.proto F.sp,flagV q.proto q.data⟩ : Tc)=comeT F q.data:=by
  unfold comeT; rw [z1]
 refine ⟨by rw [eT,touch_go h1 h3 ht,hY],by rw [z2]; exact s1,by rw [z3]; exact s2,fun y0=>?_⟩;rw [hY] at y0;obtain ⟨e1,e2,e3,e4,e5⟩:=bind_ends h1 h3 ht y0;rw [← hY] at e1 e2 e3 e4 e5;refine ⟨by omega,fun e6=>?_⟩;have hG:(⟨F.proto,F.src,Y.bind.inn,if echoP F.proto=true then Y.bind.inPort else F.sp,Y.bind.inPort⟩ : Fl)=toF F q.src Y.bind.inn Y.bind.inPort:=by
  unfold toF kindF;split
  ·rename_i he;have he2:=he;rw [z1] at he;have:q.proto=1:=by
    rcases hp4 with h6 | h6 | h6
    ·rw [h6] at he; simp [echoP] at he
    ·rw [h6] at he; simp [echoP] at he
    ·exact h6
   dsimp only;rw [if_neg (by omega),z1,z2,this]
  ·rw [z2]
 refine ⟨_,hG,rfl,?_,?_,?_⟩
 ·have hfo:=flowOk_of hc (pair_four s1 s2);rw [← hF] at hfo;obtain ⟨k1,k2,k3,k4⟩:=kind_right (f:=F) (g:=⟨F.proto,q.src,Y.bind.inn,if echoP F.proto=true then Y.bind.inPort else F.sp,Y.bind.inPort⟩) hfo (by rw [z2]; exact s1) s1 e6 rfl (by dsimp only; split<;>omega) e4;have:=(setD_four (g:=toF F q.src Y.bind.inn Y.bind.inPort) hc s1 s2 (by omega) k1 (by rw [← z1]; exact k2) (by show (kindF _ _).src.size=4; rw [k3]; exact s1)).1;rw [← hF] at this;exact this
 ·rw [← hG]; exact z2
 ·rw [← hG]
theorem sp9Port_any (f:Fl) (n:Int) (w:World) :
  Cb 116 #[fwC f,iV n] w (iV (peerV f.proto n)):=by
 have HE:Hid (∀ W,Cw 44 #[iV f.proto] W (.bool (echoP f.proto))):=fun W=>spEcho_any _ W
 have HV:Hid (peerV f.proto n=if echoP f.proto=true then 0 else n):=rfl;generalize peerV f.proto n=ans at *;generalize echoP f.proto=b at *;obtain ⟨proto,src,dst,sp,dp⟩:=f;unfold fwC;dsimp only at *;have HS0:=bx1 w (FlR proto src dst sp dp) 43 (by simp)
 skip;have HB:Hid _:=HS0.out.b;clear HS0;go_enter Tryz.func116,Tryz.ntmps116
 go_wp2_with fail
 refine (HE.out _).mono ?_;rintro e w2 ⟨rfl,rfl⟩
 cases b with
 | false =>
  go_wp2_with fail
  go_ret;exact ⟨ret_int (by rw [HV.out]; rfl),HB.out⟩
 | true =>
  go_wp2_with fail
  go_ret;exact ⟨ret_int (by rw [HV.out]; rfl),HB.out⟩
theorem sp9Flags_any (f:Fl) (t:ByteArray) (w:World) (ht:t.size≤1048576) (h20:f.proto=6→20≤t.size) :
  Cb 117 #[fwC f,.string t] w (iV (flagV f.proto t)):=by
 obtain ⟨proto,src,dst,sp,dp⟩:=f;unfold fwC;dsimp only at *;have HS0:=bx1 w (FlR proto src dst sp dp) 43 (by simp)
 skip;have HB:Hid _:=HS0.out.b;clear HS0;by_cases h:proto=6
 case pos =>
  have h20':=h20 h;subst h;have HV:Hid (flagV 6 t=bt t 13):=rfl;have hb:=get_bt t;have b1:=bt_isByte t 13;generalize flagV 6 t=ans at *;have hi:¬ (t.size:Int)≤13:=by omega
  have hj:(13:Int) < t.size:=by omega
  go_enter Tryz.func117,Tryz.ntmps117
  go_wp2_with fail
  go_ret;exact ⟨ret_int HV.out.symm,HB.out⟩
 have HV:Hid (flagV proto t=0):=if_neg h;generalize flagV proto t=ans at *;have d0:(proto != 6)=true:=by simp [h]
 go_enter Tryz.func117,Tryz.ntmps117
 go_wp2_with fail
 go_ret;exact ⟨ret_int (by rw [HV.out]),HB.out⟩
theorem sp9Kind_any (f g:Fl) (w:World) (hg:g.src.size≤1048576) :
  Cb 118 #[fwC f,fwC g] w (fwC (kindF f g)):=by
 have HE:Hid (∀ W,Cw 44 #[iV f.proto] W (.bool (echoP f.proto))):=fun W=>spEcho_any _ W
 have HV:Hid (kindF f g=if echoP f.proto=true then ⟨if g.src.size=16 then 58 else 1,g.src,g.dst,g.sp,g.sp⟩ else g):=rfl;generalize kindF f g=ans at *;generalize echoP f.proto=b at *;obtain ⟨proto,src,dst,sp,dp⟩:=f;obtain ⟨proto',src',dst',sp',dp'⟩:=g;unfold fwC;dsimp only at *;have HS0:=bx3 w (FlR proto src dst sp dp) 43 (FlR proto' src' dst' sp' dp') 43 (FlR 0 ⟨#[]⟩ ⟨#[]⟩ 0 0) 43 (by simp) (by simp) (by simp)
 skip;have hRw:w.heap.size≤w.heap.size+1+1:=by omega
 have hGw:w.heap.size≤w.heap.size+1:=by omega
 go_enter Tryz.func118,Tryz.ntmps118
 go_upto_region 1 with fail
 generalize World.alloc _ _=W0 at *;have HHk:=HS0.out.at mE0;obtain ⟨k0,k1,k2,k3,k4⟩:=HHk.c5;clear HHk;go_wp2_with fail
 refine (HE.out _).mono ?_;rintro e W0 ⟨rfl,rfl⟩
 cases b with
 | false =>
  have HX:Hid (ans=⟨proto',src',dst',sp',dp'⟩):=HV.out;clear HV;have HHl:=HS0.out.at mE1;obtain ⟨l0,l1,l2,l3,l4⟩:=HHl.c5;clear HHl;have HHz:=HS0.out.at mE2;obtain ⟨z0,z1,z2,z3,z4⟩:=HHz.c5;obtain ⟨zf0,zf1,zf2,zf3,zf4⟩:=HHz.f5;obtain ⟨HRR,RB⟩:=st5 HHz HS0.out.b hRw (iV proto') (.string src') (.string dst') (iV sp') (iV dp');clear HHz;go_wp2_with fail
  exact bodyPost_ret (results_mid Tryz.results118 _ _ _ _ _ rfl HRR.out Tryz.underlying43 rfl (show (Tryz.prog.info? 43).map (·.size)=some 5 by kernel_rfl)) rfl (And.intro (by rw [HX.out]) RB.out)
 | true =>
  by_cases h16:src'.size=16
  case pos =>
   have HX:Hid (ans=⟨58,src',dst',sp',sp'⟩):=by unfold Hid; rw [HV.out,if_pos rfl]; simp [h16]
   have d16:((src'.size:Int)==16)=true:=by rw [h16]; rfl
   clear HV h16;have HHg:=HS0.out.at mE1;obtain ⟨l0,l1,l2,l3,l4⟩:=HHg.c5;obtain ⟨lf0,lf1,lf2,lf3,lf4⟩:=HHg.f5;have S2:Hid (Bxs w [(w.heap.size+1,(FlR 58 src' dst' sp' sp')),(w.heap.size+1+1,(FlR 0 ⟨#[]⟩ ⟨#[]⟩ 0 0))] ((sW (sW W0 (w.heap.size+1) 4 (iV sp')) (w.heap.size+1) 0 (iV 1)).setCell ⟨w.heap.size+1,0,none⟩ (iV 58))):=⟨fun e he=>by
    simp only [List.mem_cons,List.not_mem_nil,or_false] at he;rcases he with rfl | rfl
    ·exact ((HHg.set 4 (iV sp')).set 0 (iV 1)).set 0 (iV 58)
    ·exact (HoldsL.setOther (HoldsL.setOther (HoldsL.setOther (HS0.out.k _ mE2) (by show w.heap.size+1+1≠w.heap.size+1; omega) _) (by show w.heap.size+1+1≠w.heap.size+1; omega) _) (by show w.heap.size+1+1≠w.heap.size+1; omega) _),(((HS0.out.b.setCell (p:=⟨w.heap.size+1,4,none⟩) hGw _).setCell (p:=⟨w.heap.size+1,0,none⟩) hGw _).setCell (p:=⟨w.heap.size+1,0,none⟩) hGw _),fun e he=>by
    simp only [List.mem_cons,List.not_mem_nil,or_false] at he;rcases he with rfl | rfl<;>simp⟩
   clear HHg;go_upto_region 7 with fail
   generalize ((sW (sW W0 (w.heap.size+1) 4 (iV sp')) (w.heap.size+1) 0 (iV 1)).setCell ⟨w.heap.size+1,0,none⟩ (iV 58))=W2 at *;clear l0 lf0 l1 lf1 l2 lf2 l3 lf3 l4 lf4 HS0 k0 k1 k2 k3 k4;have HHl:=S2.out.at mE0;obtain ⟨l0,l1,l2,l3,l4⟩:=HHl.c5;clear HHl;have HHz:=S2.out.at mE1;obtain ⟨z0,z1,z2,z3,z4⟩:=HHz.c5;obtain ⟨zf0,zf1,zf2,zf3,zf4⟩:=HHz.f5;obtain ⟨HRR,RB⟩:=st5 HHz S2.out.b hRw (iV 58) (.string src') (.string dst') (iV sp') (iV sp');clear HHz;go_wp2_with fail
   exact bodyPost_ret (results_mid Tryz.results118 _ _ _ _ _ rfl HRR.out Tryz.underlying43 rfl (show (Tryz.prog.info? 43).map (·.size)=some 5 by kernel_rfl)) rfl (And.intro (by rw [HX.out]) RB.out)
  case neg =>
   have HX:Hid (ans=⟨1,src',dst',sp',sp'⟩):=by unfold Hid; rw [HV.out,if_pos rfl]; simp [h16]
   have d16:((src'.size:Int)==16)=false:=by simp; omega
   clear HV h16;have HHg:=HS0.out.at mE1;obtain ⟨l0,l1,l2,l3,l4⟩:=HHg.c5;obtain ⟨lf0,lf1,lf2,lf3,lf4⟩:=HHg.f5;have S2:Hid (Bxs w [(w.heap.size+1,(FlR 1 src' dst' sp' sp')),(w.heap.size+1+1,(FlR 0 ⟨#[]⟩ ⟨#[]⟩ 0 0))] ((sW W0 (w.heap.size+1) 4 (iV sp')).setCell ⟨w.heap.size+1,0,none⟩ (iV 1))):=⟨fun e he=>by
    simp only [List.mem_cons,List.not_mem_nil,or_false] at he;rcases he with rfl | rfl
    ·exact ((HHg.set 4 (iV sp')).set 0 (iV 1))
    ·exact (HoldsL.setOther (HoldsL.setOther (HS0.out.k _ mE2) (by show w.heap.size+1+1≠w.heap.size+1; omega) _) (by show w.heap.size+1+1≠w.heap.size+1; omega) _),((HS0.out.b.setCell (p:=⟨w.heap.size+1,4,none⟩) hGw _).setCell (p:=⟨w.heap.size+1,0,none⟩) hGw _),fun e he=>by
    simp only [List.mem_cons,List.not_mem_nil,or_false] at he;rcases he with rfl | rfl<;>simp⟩
   clear HHg;go_upto_region 7 with fail
   generalize ((sW W0 (w.heap.size+1) 4 (iV sp')).setCell ⟨w.heap.size+1,0,none⟩ (iV 1))=W2 at *;clear l0 lf0 l1 lf1 l2 lf2 l3 lf3 l4 lf4 HS0 k0 k1 k2 k3 k4;have HHl:=S2.out.at mE0;obtain ⟨l0,l1,l2,l3,l4⟩:=HHl.c5;clear HHl;have HHz:=S2.out.at mE1;obtain ⟨z0,z1,z2,z3,z4⟩:=HHz.c5;obtain ⟨zf0,zf1,zf2,zf3,zf4⟩:=HHz.f5;obtain ⟨HRR,RB⟩:=st5 HHz S2.out.b hRw (iV 1) (.string src') (.string dst') (iV sp') (iV sp');clear HHz;go_wp2_with fail
   exact bodyPost_ret (results_mid Tryz.results118 _ _ _ _ _ rfl HRR.out Tryz.underlying43 rfl (show (Tryz.prog.info? 43).map (·.size)=some 5 by kernel_rfl)) rfl (And.intro (by rw [HX.out]) RB.out)
theorem sp9To_any (f:Fl) (s d:ByteArray) (n:Int) (w:World) (hs:s.size≤1048576) :
  Cb 78 #[fwC f,.string s,.string d,iV n] w (fwC (toF f s d n)):=by
 have HE:Hid (∀ W,Cw 44 #[iV f.proto] W (.bool (echoP f.proto))):=fun W=>spEcho_any _ W
 have HK:Hid (∀ W,Cb 118 #[fwC f,fwC ⟨f.proto,s,d,if echoP f.proto=true then n else f.sp,n⟩] W (fwC (toF f s d n))):=fun W=>sp9Kind_any f ⟨f.proto,s,d,_,n⟩ W hs
 generalize toF f s d n=ans at *;generalize echoP f.proto=b at *;obtain ⟨proto,src,dst,sp,dp⟩:=f;unfold fwC at *;dsimp only at *;have HS0:=bx2 w (FlR proto src dst sp dp) 43 (FlR 0 ⟨#[]⟩ ⟨#[]⟩ 0 0) 43 (by simp) (by simp)
 skip;have hRw:w.heap.size≤w.heap.size+1:=by omega
 go_enter Tryz.func78,Tryz.ntmps78
 go_upto_region 1 with fail
 generalize World.alloc _ _=W0 at *;have HHk:=HS0.out.at mE0;obtain ⟨k0,k1,k2,k3,k4⟩:=HHk.c5;clear HHk;have S1:Hid (Bxs w ((W0.heap.size,(FlR proto s d sp n))::[(w.heap.size,(FlR proto src dst sp dp)),(w.heap.size+1,(FlR 0 ⟨#[]⟩ ⟨#[]⟩ 0 0))]) (W0.alloc (.cells (FlR proto s d sp n).toArray 43))):=HS0.out.push (FlR proto s d sp n) (by simp) _;have hrg:w.heap.size+1 < W0.heap.size:=(HS0.out.k _ mE1).lt (by simp);go_upto_region 2 with fail
 clear HS0 k0 k1 k2 k3 k4;generalize (W0.alloc (.cells (FlR proto s d sp n).toArray 43))=W1 at *;generalize W0.heap.size=G at *;have HHk:=S1.out.at mE1;obtain ⟨k0,k1,k2,k3,k4⟩:=HHk.c5;clear HHk;go_wp2_with fail
 refine (HE.out _).mono ?_;rintro e W1 ⟨rfl,rfl⟩
 cases b with
 | false =>
  clear k0 k1 k2 k3 k4;have HHk:=S1.out.at mE1;obtain ⟨k0,k1,k2,k3,k4⟩:=HHk.c5;clear HHk;have HHl:=S1.out.at mE0;obtain ⟨l0,l1,l2,l3,l4⟩:=HHl.c5;clear HHl;go_wp2_with fail
  refine (HK.out _).mono ?_;rintro e W2 ⟨rfl,q2⟩;have S2:Hid _:=S1.out.kept q2;clear q2 k0 k1 k2 k3 k4 l0 l1 l2 l3 l4;have HHz:=S2.out.at mE2;obtain ⟨z0,z1,z2,z3,z4⟩:=HHz.c5;obtain ⟨zf0,zf1,zf2,zf3,zf4⟩:=HHz.f5;obtain ⟨HRR,RB⟩:=st5 HHz S2.out.b hRw (iV ans.proto) (.string ans.src) (.string ans.dst) (iV ans.sp) (iV ans.dp);clear HHz;go_wp2_with fail
  exact bodyPost_ret (results_mid Tryz.results78 _ _ _ _ _ rfl HRR.out Tryz.underlying43 rfl (show (Tryz.prog.info? 43).map (·.size)=some 5 by kernel_rfl)) rfl (And.intro rfl RB.out)
 | true =>
  have HHg:=S1.out.at mE0;have l3:=HHg.cell (j:=3) rfl;have lf3:=HHg.free (j:=3) (by simp);have S1':Hid (Bxs w [(G,(FlR proto s d n n)),(w.heap.size,(FlR proto src dst sp dp)),(w.heap.size+1,(FlR 0 ⟨#[]⟩ ⟨#[]⟩ 0 0))] (W1.setCell ⟨G,3,none⟩ (iV n))):=⟨fun e he=>by
   simp only [List.mem_cons,List.not_mem_nil,or_false] at he;rcases he with rfl | rfl | rfl
   ·exact HHg.set 3 _
   ·exact HoldsL.setOther (S1.out.k _ mE1) (by show w.heap.size≠G; omega) _
   ·exact HoldsL.setOther (S1.out.k _ mE2) (by show w.heap.size+1≠G; omega) _,S1.out.b.setCell (p:=⟨G,3,none⟩) (by show w.heap.size≤G; omega) _,fun e he=>by
   simp only [List.mem_cons,List.not_mem_nil,or_false] at he;rcases he with rfl | rfl | rfl<;>simp⟩
  clear HHg S1;go_upto_region 4 with fail
  generalize (W1.setCell ⟨G,3,none⟩ (iV n))=W3 at *;clear l3 lf3 k0 k1 k2 k3 k4;have HHk:=S1'.out.at mE1;obtain ⟨k0,k1,k2,k3,k4⟩:=HHk.c5;clear HHk;have HHl:=S1'.out.at mE0;obtain ⟨l0,l1,l2,l3,l4⟩:=HHl.c5;clear HHl;go_wp2_with fail
  refine (HK.out _).mono ?_;rintro e W2 ⟨rfl,q2⟩;have S2:Hid (Bxs w [(G,(FlR proto s d n n)),(w.heap.size,(FlR proto src dst sp dp)),(w.heap.size+1,(FlR 0 ⟨#[]⟩ ⟨#[]⟩ 0 0))] W2):=S1'.out.kept q2;clear q2 k0 k1 k2 k3 k4 l0 l1 l2 l3 l4;have HHz:=S2.out.at mE2;obtain ⟨z0,z1,z2,z3,z4⟩:=HHz.c5;obtain ⟨zf0,zf1,zf2,zf3,zf4⟩:=HHz.f5;obtain ⟨HRR,RB⟩:=st5 HHz S2.out.b hRw (iV ans.proto) (.string ans.src) (.string ans.dst) (iV ans.sp) (iV ans.dp);clear HHz;go_wp2_with fail
  exact bodyPost_ret (results_mid Tryz.results78 _ _ _ _ _ rfl HRR.out Tryz.underlying43 rfl (show (Tryz.prog.info? 43).map (·.size)=some 5 by kernel_rfl)) rfl (And.intro rfl RB.out)
def IsBv (base:Nat) (o:Bo):Value→World→Prop:=fun v w=>∃ a b ca cb,v=boC a b ca cb o∧BbOwn base w a b o.bib
theorem stable_isBv (base:Nat) (o:Bo):Stable (IsBv base o):=fun v w w' ⟨a,b,ca,cb,h1,h2⟩ hb=>⟨a,b,ca,cb,h1,h2.kept hb⟩
theorem sp9Ok_any (pa:Option Addr) (pc:Nat) (p:Pl) (ba bo:Option Addr) (ca cb:Nat) (x:Bb) (q:P4) (now:Int) (w:World) (hlp:p.addrs.length≤1048576) (hpc:p.addrs.length≤pc) (hsz:∀ s∈p.addrs,s.size≤1048576) (hl1:x.binds.length≤1048576) (hl2:x.sess.length≤1048576) (q1:q.src.size≤1048576) (q2:q.dst.size≤1048576) (q3:q.opts.size≤1048576) (q4:q.data.size≤1048576) (hp:SlIs strL1 1 w pa p.addrs) (hx:BbIs w ba bo x) :
  Cb 28 #[plC pa pc p,bbC ba bo ca cb x,p4C q,iV now] w (iV (natFt p x q now)):=by
 have HBR:Hid (∀ W,Below w.heap.size w W→Cb 13 #[plC pa pc p,bbC ba bo ca cb x] W (.bool (bibOk p x))):=fun W hW=>specBib_any p x pa pc ba bo ca cb W hlp hpc hsz hl1 hl2 (hp.below hW) (hx.below hW)
 have HV4:Hid (∀ W,Cb 14 #[p4C q] W (.bool (v4Ok q))):=fun W=>specV4Right_any q W q1 q2 q3 q4
 have HTM:Hid (∀ W,Cw 62 #[iV now] W (.bool (isTime now))):=fun W=>spTime_any now W
 have HV:Hid (natFt p x q now=if (bibOk p x&&v4Ok q&&isTime now)=false then 1 else if (q.more||decide (q.off≠0))=true then 10 else 0):=rfl;generalize natFt p x q now=ans at *;generalize bibOk p x=b1 at *;generalize v4Ok q=b2 at *;generalize isTime now=b3 at *;obtain ⟨tos,id,whole,more,off,ttl,proto,src,dst,opts,data⟩:=q;clear hp hx hsz;unfold plC bbC p4C at *;dsimp only at *;have hun:undef=Value.tuple #[]:=rfl;have HS0:=bx3 w (PlV pa pc p) 27 (BbV ba ca bo cb x) 31 (P4R tos id whole more off ttl proto src dst opts data) 33 (by simp) (by simp) (by simp)
 skip;go_enter Tryz.func28,Tryz.ntmps28
 go_upto_region 1 with fail
 generalize World.alloc _ _=W0 at *;have HHk:=HS0.out.at mE0;obtain ⟨k0,k1,k2,k3,k4,k5,k6,k7,k8,k9⟩:=HHk.c10;clear HHk;have HHl:=HS0.out.at mE1;obtain ⟨l0,l1⟩:=HHl.c2;clear HHl;go_wp2_with fail
 refine (HBR.out _ HS0.out.b).mono ?_;rintro e W1 ⟨rfl,r1⟩;have S1:Hid _:=HS0.out.kept r1;clear r1 HS0 k0 k1 k2 k3 k4 k5 k6 k7 k8 k9 l0 l1
 cases b1 with
 | false =>
  have HFB:Hid _:=S1.out.b;go_wp2_with fail
  go_ret;exact ⟨ret_int (by rw [HV.out]; rfl),HFB.out⟩
 | true =>
 have HHk:=S1.out.at mE2;obtain ⟨k0,k1,k2,k3,k4,k5,k6,k7,k8,k9,k10⟩:=HHk.c11;clear HHk;go_wp2_with fail
 refine (HV4.out _).mono ?_;rintro e W2 ⟨rfl,r2⟩;have S2:Hid _:=S1.out.kept r2;clear r2 S1 k0 k1 k2 k3 k4 k5 k6 k7 k8 k9 k10
 cases b2 with
 | false =>
  have HFB:Hid _:=S2.out.b;go_wp2_with fail
  go_ret;exact ⟨ret_int (by rw [HV.out]; rfl),HFB.out⟩
 | true =>
 go_wp2_with fail
 refine (HTM.out _).mono ?_;rintro e W2 ⟨rfl,rfl⟩
 cases b3 with
 | false =>
  have HFB:Hid _:=S2.out.b;go_wp2_with fail
  go_ret;exact ⟨ret_int (by rw [HV.out]; rfl),HFB.out⟩
 | true =>
 have HHk:=S2.out.at mE2;obtain ⟨k0,k1,k2,k3,k4,k5,k6,k7,k8,k9,k10⟩:=HHk.c11;clear HHk
 cases more with
 | true =>
  have HFB:Hid _:=S2.out.b;go_wp2_with fail
  go_ret;exact ⟨ret_int (by rw [HV.out]; rfl),HFB.out⟩
 | false =>
 by_cases ho:off=0
 case pos =>
  have d0:(off != 0)=false:=by simp [ho]
  have HFB:Hid _:=S2.out.b;go_wp2_with fail
  go_ret;exact ⟨ret_int (by rw [HV.out]; simp [ho]),HFB.out⟩
 have d0:(off != 0)=true:=by simp [ho]
 have HFB:Hid _:=S2.out.b;go_wp2_with fail
 go_ret;exact ⟨ret_int (by rw [HV.out]; simp [ho]),HFB.out⟩
theorem sp9Come_any (pa:Option Addr) (pc:Nat) (p:Pl) (ba bo:Option Addr) (ca cb:Nat) (x:Bb) (f:Fl) (t:ByteArray) (now:Int) (w:World) (hpo:poolOk p=true) (hnow:isTime now=true) (hfs:f.dst.size≤1048576) (h0:0≤f.dp) (h1:f.dp≤65535) (ht:t.size≤1048576) (h20:f.proto=6→20≤t.size) (hl1:x.binds.length≤1048576) (hl2:x.sess.length≤1048576) (hp:SlIs strL1 1 w pa p.addrs) (hx:BbIs w ba bo x) :
  Calls Tryz.prog 77 #[plC pa pc p,bbC ba bo ca cb x,fwC f,.string t,iV now] w fun e w'=>BoRet w.heap.size (goV p x (comeT f t) now) e w'∧Below w.heap.size w w':=by
 have HGO:Hid (∀ W,Below w.heap.size w W→Calls Tryz.prog 114 #[plC pa pc p,bbC ba bo ca cb x,.agg (TcR f.proto false f.dst f.dp f.src (peerV f.proto f.sp) (flagV f.proto t)).toArray,iV now] W fun e w'=>BoRet W.heap.size (goV p x (comeT f t) now) e w'∧Below W.heap.size W w'):=fun W hW=>spGo_any pa pc p ba bo ca cb x (comeT f t) now W hpo hnow hfs h0 h1 hl1 hl2 (hp.below hW) (hx.below hW)
 have HPO:Hid (∀ W,Cb 116 #[fwC f,iV f.sp] W (iV (peerV f.proto f.sp))):=fun W=>sp9Port_any f _ W
 have HFL:Hid (∀ W,Cb 117 #[fwC f,.string t] W (iV (flagV f.proto t))):=fun W=>sp9Flags_any f t W ht h20
 generalize goV p x (comeT f t) now=nv at *;generalize peerV f.proto f.sp=pv at *;generalize flagV f.proto t=fv at *;obtain ⟨proto,src,dst,sp,dp⟩:=f;dsimp only at *;clear hp hx hpo hnow h20;unfold plC bbC fwC at *;dsimp only at *;have e0:HoldsL ((aW (aW (aW w (PlV pa pc p) 27) (BbV ba ca bo cb x) 31) (FlR proto src dst sp dp) 43).alloc (.cells Z8V.toArray 104)) (w.heap.size) (PlV pa pc p):=by
  have h:=HoldsL.new w (PlV pa pc p) 27;try simp only [World.size_alloc] at h
  exact (((h.alloc _).alloc _).alloc _)
 have e1:HoldsL ((aW (aW (aW w (PlV pa pc p) 27) (BbV ba ca bo cb x) 31) (FlR proto src dst sp dp) 43).alloc (.cells Z8V.toArray 104)) (w.heap.size+1) (BbV ba ca bo cb x):=by
  have h:=HoldsL.new (w.alloc (.cells (PlV pa pc p).toArray 27)) (BbV ba ca bo cb x) 31;try simp only [World.size_alloc] at h
  exact ((h.alloc _).alloc _)
 have e2:HoldsL ((aW (aW (aW w (PlV pa pc p) 27) (BbV ba ca bo cb x) 31) (FlR proto src dst sp dp) 43).alloc (.cells Z8V.toArray 104)) (w.heap.size+1+1) (FlR proto src dst sp dp):=by
  have h:=HoldsL.new ((aW w (PlV pa pc p) 27).alloc (.cells (BbV ba ca bo cb x).toArray 31)) (FlR proto src dst sp dp) 43;try simp only [World.size_alloc] at h
  exact (h.alloc _)
 have e3:HoldsL ((aW (aW (aW w (PlV pa pc p) 27) (BbV ba ca bo cb x) 31) (FlR proto src dst sp dp) 43).alloc (.cells Z8V.toArray 104)) (w.heap.size+1+1+1) Z8V:=by
  have h:=HoldsL.new ((aW (aW w (PlV pa pc p) 27) (BbV ba ca bo cb x) 31).alloc (.cells (FlR proto src dst sp dp).toArray 43)) Z8V 104;try simp only [World.size_alloc] at h
  exact h
 have HS0:Hid (Bxs w [(w.heap.size,(PlV pa pc p)),(w.heap.size+1,(BbV ba ca bo cb x)),(w.heap.size+1+1,(FlR proto src dst sp dp)),(w.heap.size+1+1+1,Z8V)] ((aW (aW (aW w (PlV pa pc p) 27) (BbV ba ca bo cb x) 31) (FlR proto src dst sp dp) 43).alloc (.cells Z8V.toArray 104))):=by
  refine ⟨fun e he=>?_,((((bR.alloc (by (try simp only [World.size_alloc]); omega) _).alloc (by (try simp only [World.size_alloc]); omega) _).alloc (by (try simp only [World.size_alloc]); omega) _).alloc (by (try simp only [World.size_alloc]); omega) _),fun e he=>?_⟩
  ·simp only [List.mem_cons,List.not_mem_nil,or_false] at he;rcases he with rfl | rfl | rfl | rfl
   ·exact e0
   ·exact e1
   ·exact e2
   ·exact e3
  ·simp only [List.mem_cons,List.not_mem_nil,or_false] at he;rcases he with rfl | rfl | rfl | rfl<;>simp
 clear e0 e1 e2 e3;have hRw:w.heap.size≤w.heap.size+1+1+1:=by omega
 go_enter Tryz.func77,Tryz.ntmps77
 go_upto_region 1 with fail
 generalize World.alloc _ _=W0 at *;have hR0:w.heap.size+1+1+1 < W0.heap.size:=(HS0.out.k _ mE3).lt (by simp);have HCP:Hid (∀ wy,Below W0.drew.heap.size W0.drew wy→_):=fun wy hy=>HS0.out.kept (bR.drew.trans hy)
 have hRl:w.heap.size+1+1+1 < W0.drew.heap.size:=hR0;have hwl:w.heap.size≤W0.drew.heap.size:=HS0.out.b.size;clear HS0 hR0;refine wp_region_growV [11,12,13,14,15,16,17,18,19,20,21,22,23,24,25,26,27,28,29,30] (by kernel_rfl) (by kernel_rfl) ?_;iterate 16 (apply GChV.u rfl;(·intro K' a wy ho hd hb hK;simp [rAt,IsV,slot,Region.binds] at ho hd;have hst:=HCP.out wy hb;have kC:=(hst.at mE0).c10;have kC:=(hst.at mE1).c2;have kC:=(hst.at mE2).c5;clear hst;go_simp;first|((try go_bits);exact hK _ _ rfl bQ)|(refine (HPO.out wy).mono ?_;rintro e wz ⟨rfl,hz⟩;exact hK _ _ rfl hz));dsimp only [nA,cA])
 iterate 3 (apply GChV.u rfl;(·intro K' a wy ho hd hb hK;simp [rAt,IsV,slot,Region.binds] at ho hd;go_simp;first|((try go_bits);exact hK _ _ rfl bQ)|(refine (HFL.out wy).mono ?_;rintro e wz ⟨rfl,hz⟩;exact hK _ _ rfl hz));dsimp only [nA,cA])
 refine GChV.rel (n:=19) (IsBv W0.drew.heap.size nv) (stable_isBv _ _) [_,_,_,_,_,_,_,_,_,_,_,_,_,_,_,_,_,_,_,IsBv W0.drew.heap.size nv] rfl rfl ?_ ?_
 ·intro K' a wy ho hd hb hK;rw [wN rfl];have q0:=hd ⟨0,.data⟩ (by simp) rfl;have q1:=hd ⟨1,.data⟩ (by simp) rfl;have q17:=hd ⟨17,.data⟩ (by simp) rfl;have q18:=hd ⟨18,.data⟩ (by simp) rfl;simp [rAt,IsV,slot] at q0 q1 q17 q18;clear hd ho;go_simp;have hst:=HCP.out wy hb;refine (HGO.out wy hst.b).mono ?_;rintro e wz ⟨⟨a9,b9,c9,d9,rfl,hown⟩,hz⟩;exact hK _ _ ⟨a9,b9,c9,d9,rfl,⟨hown.bd.down hb.size,hown.ss.down hb.size,hown.ne⟩⟩ hz
 intro X wz hR hz;obtain ⟨x0,x1,x2,x3,x4,x5,x6,x7,x8,x9,x10,x11,x12,x13,x14,x15,x16,x17,x18,x19,-⟩:=hR;obtain ⟨a9,b9,c9,d9,e9,own9⟩:=x19;unfold boC at e9;simp only [IsV] at x0 x1 x2 x3 x4 x5 x6 x7 x8 x9 x10 x11 x12 x13 x14 x15 x16 x17 x18;simp only [putsFrom,x0,x1,x2,x3,x4,x5,x6,x7,x8,x9,x10,x11,x12,x13,x14,x15,x16,x17,x18,e9];clear x0 x1 x2 x3 x4 x5 x6 x7 x8 x9 x10 x11 x12 x13 x14 x15 x16 x17 x18;have V7:Hid (Bxs w [(w.heap.size,(PlV pa pc p)),(w.heap.size+1,(BbV ba ca bo cb x)),(w.heap.size+1+1,(FlR proto src dst sp dp)),(w.heap.size+1+1+1,Z8V)] wz):=HCP.out wz hz;clear hz HCP;have HHz:=V7.out.at mE3;obtain ⟨z0,z1,z2,z3,z4,z5,z6,z7⟩:=HHz.c8;obtain ⟨zf0,zf1,zf2,zf3,zf4,zf5,zf6,zf7⟩:=HHz.f8;obtain ⟨HRR,RB⟩:=st8 HHz V7.out.b hRw (.slice a9 nv.bib.binds.length c9) (.slice b9 nv.bib.sess.length d9) (iV nv.bind.proto) (.string nv.bind.inn) (iV nv.bind.inPort) (.string nv.bind.out) (iV nv.bind.outPort) (iV nv.code);clear HHz;have HOW:Hid (BbOwn w.heap.size ((sW (sW (sW (sW (sW (sW (sW wz (w.heap.size+1+1+1) 0 (.slice a9 nv.bib.binds.length c9)) (w.heap.size+1+1+1) 1 (.slice b9 nv.bib.sess.length d9)) (w.heap.size+1+1+1) 2 (iV nv.bind.proto)) (w.heap.size+1+1+1) 3 (.string nv.bind.inn)) (w.heap.size+1+1+1) 4 (iV nv.bind.inPort)) (w.heap.size+1+1+1) 5 (.string nv.bind.out)) (w.heap.size+1+1+1) 6 (iV nv.bind.outPort)).setCell ⟨w.heap.size+1+1+1,7,none⟩ (iV nv.code)) a9 b9 nv.bib):=⟨(own9.bd.grown (grown_set (grown_set (grown_set (grown_set (grown_set (grown_set (grown_set (grown_set (World.grownBy.refl _ _) _) _) _) _) _) _) _) _) hRl).down hwl,(own9.ss.grown (grown_set (grown_set (grown_set (grown_set (grown_set (grown_set (grown_set (grown_set (World.grownBy.refl _ _) _) _) _) _) _) _) _) _) hRl).down hwl,own9.ne⟩
 clear own9 V7 HGO;intro K10 hK10;go_simp;refine hK10 _ _ ?_;simp only [wpSeq];go_wp2_with fail
 exact bodyPost_ret (results_mid Tryz.results77 _ _ _ _ _ rfl HRR.out Tryz.underlying104 rfl (show (Tryz.prog.info? 104).map (·.size)=some 8 by kernel_rfl)) rfl (And.intro ⟨a9,b9,c9,d9,rfl,HOW.out⟩ RB.out)
def stor (b:Nat):World→Nat→List Value→World
 | W,_,[]=>W
 | W,j,v::l=>stor b (W.setCell ⟨b,j,none⟩ v) (j+1) l
theorem HoldsL.storAt {b:Nat}:∀ (vs:List Value) {W:World} {pre olds:List Value},HoldsL W b (pre++olds)→olds.length=vs.length→HoldsL (stor b W pre.length vs) b (pre++vs)
 | [],W,pre,[],h,_=>h
 | [],W,pre,_::_,h,hl=>by simp at hl
 | v::vs,W,pre,[],h,hl=>by simp at hl
 | v::vs,W,pre,o::os,h,hl=>by
  have h2:=h.set pre.length v;rw [List.set_append_right _ _ lR,Nat.sub_self,List.set_cons_zero] at h2;have h3:HoldsL (W.setCell ⟨b,pre.length,none⟩ v) b ((pre++[v])++os):=by rw [List.append_assoc]; exact h2
  have:=HoldsL.storAt vs h3 (by simpa using hl);rw [List.length_append,List.append_assoc] at this;exact this
theorem HoldsL.stor {b:Nat} {W:World} {olds:List Value} (h:HoldsL W b olds) (vs:List Value) (hl:olds.length=vs.length):HoldsL (stor b W 0 vs) b vs:=HoldsL.storAt vs (pre:=[]) h hl
theorem Below.stor {n b:Nat} {w:World} (hb:n≤b):∀ (vs:List Value) {W:World} {j:Nat},Below n w W→Below n w (Go.Proofs.YtdkepkaflielhaaGreatDoor.stor b W j vs)
 | [],W,j,h=>h
 | v::vs,W,j,h=>Below.stor hb vs (h.setCell (p:=⟨b,j,none⟩) hb v)
theorem HoldsL.storOther {b c:Nat} {cs:List Value} (hne:c≠b):∀ (vs:List Value) {W:World} {j:Nat},HoldsL W c cs→HoldsL (Go.Proofs.YtdkepkaflielhaaGreatDoor.stor b W j vs) c cs
 | [],W,j,h=>h
 | v::vs,W,j,h=>HoldsL.storOther hne vs (h.setOther hne v)
theorem Bxs.stor {w W:World} {ks:List (Nat × List Value)} {b j:Nat} (h:Bxs w ks W) (hb:w.heap.size≤b) (hks:∀ e∈ks,e.1≠b) (vs:List Value):Bxs w ks (Go.Proofs.YtdkepkaflielhaaGreatDoor.stor b W j vs):=⟨fun e he=>HoldsL.storOther (hks e he) vs (h.k e he),Below.stor hb vs h.b,h.z⟩
theorem grown_stor {b:Nat}:∀ (vs:List Value) {w W:World} {j:Nat},w.grownBy W (some b)→w.grownBy (Go.Proofs.YtdkepkaflielhaaGreatDoor.stor b W j vs) (some b)
 | [],w,W,j,h=>h
 | v::vs,w,W,j,h=>grown_stor vs (grown_set h v)
theorem BbOwn.stor {base b j:Nat} {W:World} {a a':Option Addr} {y:Bb} (h:BbOwn base W a a' y) (hb:b < base) (vs:List Value):BbOwn base (Go.Proofs.YtdkepkaflielhaaGreatDoor.stor b W j vs) a a' y :=
 ⟨h.bd.grown (grown_stor vs (World.grownBy.refl _ _)) hb,h.ss.grown (grown_stor vs (World.grownBy.refl _ _)) hb,h.ne⟩
theorem BbOwn.lowN {base base':Nat} {W:World} {a a':Option Addr} {y:Bb} (h:BbOwn base W a a' y) (hb:base'≤base):BbOwn base' W a a' y:=⟨h.bd.down hb,h.ss.down hb,h.ne⟩
theorem stor_cells (b:Nat):∀ (vs:List Value) (W:World) (j:Nat),stor b W j vs=W.setCells b j vs
 | [],W,j=>rfl
 | v::vs,W,j=>by
  show stor b (W.setCell ⟨b,j,none⟩ v) (j+1) vs=_;rw [stor_cells b vs]; rfl
theorem noL_len (a b:Option Addr) (ca cb:Nat) (o:No):(noL a b ca cb o).length=25:=rfl
theorem noL_one (a b:Option Addr) (ca cb:Nat) (o:No):(noL a b ca cb o).toArray.all (·.oneCell')=true:=all_oneCell_toArray (by unfold noL; simp [Value.oneCell'])
theorem HoldsL.mid {W:World} {b:Nat} {olds vs:List Value} (h:HoldsL W b olds) (hl:olds.length=vs.length):HoldsL (W.setCells b 0 vs.toArray.toList) b vs:=by
 rw [List.toList_toArray,← stor_cells]; exact h.stor vs hl
theorem Below.mid {n b:Nat} {w W:World} (h:Below n w W) (hb:n≤b) (vs:List Value):Below n w (W.setCells b 0 vs.toArray.toList):=by
 rw [List.toList_toArray,← stor_cells]; exact Below.stor hb vs h
theorem BbOwn.mid {base b:Nat} {W:World} {a a':Option Addr} {y:Bb} (h:BbOwn base W a a' y) (hb:b < base) (vs:List Value):BbOwn base (W.setCells b 0 vs.toArray.toList) a a' y:=by
 rw [List.toList_toArray,← stor_cells]; exact h.stor hb vs
theorem noL_there {W:World} {b:Nat} {a a':Option Addr} {ca cb:Nat} {o:No} (h:HoldsL W b (noL a a' ca cb o)) (x x':Option Addr) (cx cy:Nat) (y:No):W.there b 0 (noL x x' cx cy y).toArray.size:=by
 have:=h.th;rw [noL_len] at this;exact this
theorem mid3 {n b:Nat} {w W:World} (h:HoldsL W b (noL none none 0 0 (noE 0))) (hb:Below n w W) (hn:n≤b) (a a':Option Addr) (ca cb:Nat) (o:No):Hid (W.there b 0 (noL a a' ca cb o).toArray.size)∧Hid (HoldsL (W.setCells b 0 (noL a a' ca cb o).toArray.toList) b (noL a a' ca cb o))∧Hid (Below n w (W.setCells b 0 (noL a a' ca cb o).toArray.toList)):=⟨noL_there h _ _ _ _ _,h.mid rfl,Below.mid hb hn _⟩
def NoRet (base:Nat) (o:No) (e:Ending) (w':World):Prop:=∃ a b ca cb,e=.returned (noC a b ca cb o)∧BbOwn base w' a b o.bib
theorem noRet_ill {base:Nat} {w:World} (c:Int):NoRet base (noE c) (.returned (noC none none 0 0 (noE c))) w:=⟨none,none,0,0,rfl,.inl rfl,.inl rfl,fun g h e1=>by simp at e1⟩
theorem no_info:(Tryz.prog.info? 39).map (·.size)=some 25:=by kernel_rfl
theorem sp9Ill_any (c:Int) (w:World) :
  Cb 29 #[iV c] w (noC none none 0 0 (noE c)):=by
 have H0:Hid (HoldsL (w.alloc (.cells Z25V.toArray 39)) w.heap.size (noL none none 0 0 (noE 0))):=HoldsL.new w Z25V 39;have B0:Hid (Below w.heap.size w (w.alloc (.cells Z25V.toArray 39))):=bR.alloc lR _;go_enter Tryz.func29,Tryz.ntmps29
 go_upto_region 1 with fail
 generalize (w.alloc (.cells Z25V.toArray 39))=W0 at *;have HTH:Hid (W0.there w.heap.size 0 (noL none none 0 0 (noE c)).toArray.size):=noL_there H0.out _ _ _ _ _;have HRR:Hid (HoldsL (W0.setCells w.heap.size 0 (noL none none 0 0 (noE c)).toArray.toList) w.heap.size (noL none none 0 0 (noE c))):=H0.out.mid rfl;have RB:Hid (Below w.heap.size w (W0.setCells w.heap.size 0 (noL none none 0 0 (noE c)).toArray.toList)):=Below.mid B0.out lR _;clear H0 B0;go_wp2_with (refine wpList_store_mid (by rfl) 39 (.tmp 2) (.tmp 4) (by rfl) _ _ _ (by rfl) (by rfl) HTH.out no_info (noL_one _ _ _ _ _) ?_)
 exact bodyPost_ret (results_mid Tryz.results29 _ _ _ _ _ rfl HRR.out Tryz.underlying39 rfl no_info) rfl (And.intro rfl RB.out)
theorem begins_any (flags:Int) (w:World) :
  Cw 167 #[iV flags] w (.bool (decide (bits .and .i64 flags 22=2))):=by
 by_cases h:bits .and .i64 flags 22=2
 ·go_enter Tryz.func167,Tryz.ntmps167
  go_wp2_with fail
  go_ret;exact ⟨ret_bool (by simp [h]),rfl⟩
 ·go_enter Tryz.func167,Tryz.ntmps167
  go_wp2_with fail
  go_ret;exact ⟨ret_bool (by simp [h]),rfl⟩
theorem new_byte {proto:Int} {inside:Bool} {flags:Int} (hf:isIn flags 0 255=true):trackNewV proto inside flags=if stillP proto=true then 3 else if proto=6 then (if bits .and .i64 flags 22=2 then (if inside=true then 1 else 2) else 0) else 0:=by
 unfold trackNewV;have e:=flags_22 hf;rw [if_neg (by rw [hf]; decide)];by_cases h1:stillP proto=true
 ·rw [if_pos h1,if_pos h1]
 ·rw [if_neg h1,if_neg h1];by_cases h2:proto=6
  ·rw [if_pos h2];by_cases h3:bits .and .i64 flags 22=2
   ·rw [if_pos h3,if_pos ⟨h2,e.mpr h3⟩]
   ·rw [if_neg h3,if_neg (fun h=>h3 (e.mp h.2))]
  ·rw [if_neg h2,if_neg (fun h=>h2 h.1)]
theorem new_range (proto:Int) (inside:Bool) (flags:Int):0≤trackNewV proto inside flags∧trackNewV proto inside flags≤3:=by
 unfold trackNewV;(repeat' split)<;>omega
theorem implNewB_any (proto:Int) (inside:Bool) (flags:Int) (w:World) (hf:isIn flags 0 255=true) :
  Cw 139 #[iV proto,.bool inside,iV flags] w (iV (trackNewV proto inside flags)):=by
 have HA:Hid (∀ W,Cw 143 #[iV proto] W (.bool (stillP proto))):=fun W=>implStill_any _ W
 have HC:Hid (∀ W,Cw 121 #[iV flags] W (.bool (isIn flags 0 255))):=fun W=>implByte_any _ W
 have HB:Hid (∀ W,Cw 167 #[iV flags] W (.bool (decide (bits .and .i64 flags 22=2)))):=fun W=>begins_any _ W
 have HV:Hid (trackNewV proto inside flags=if stillP proto=true then 3 else if proto=6 then (if bits .and .i64 flags 22=2 then (if inside=true then 1 else 2) else 0) else 0):=new_byte hf;rw [hf] at HC;generalize trackNewV proto inside flags=ans at *;clear hf
 cases hs:stillP proto with
 | true =>
  rw [hs] at HA;have HX:Hid (ans=3):=by unfold Hid; rw [HV.out,if_pos hs]
  clear HV hs;go_enter Tryz.func139,Tryz.ntmps139
  go_wp2_with fail
  refine (HA.out _).mono ?_;rintro e w1 ⟨rfl,rfl⟩;go_wp2_with fail
  go_ret;exact ⟨ret_int HX.out.symm,rfl⟩
 | false =>
  rw [hs,if_neg (by decide)] at HV;rw [hs] at HA;clear hs;by_cases hp:proto=6
  ·subst hp;rw [if_pos rfl] at HV;by_cases hb:bits .and .i64 flags 22=2
   ·rw [if_pos hb] at HV;rw [decide_eq_true hb] at HB;clear hb
    cases inside;all_goals
     simp at HV;go_enter Tryz.func139,Tryz.ntmps139
     go_wp2_with fail
     refine (HA.out _).mono ?_;rintro e w1 ⟨rfl,rfl⟩;go_wp2_with fail
     refine (HC.out _).mono ?_;rintro e w1 ⟨rfl,rfl⟩;go_wp2_with fail
     refine (HB.out _).mono ?_;rintro e w1 ⟨rfl,rfl⟩;go_wp2_with fail
     go_ret;exact ⟨ret_int HV.out.symm,rfl⟩
   ·rw [if_neg hb] at HV;rw [decide_eq_false hb] at HB;clear hb;go_enter Tryz.func139,Tryz.ntmps139
    go_wp2_with fail
    refine (HA.out _).mono ?_;rintro e w1 ⟨rfl,rfl⟩;go_wp2_with fail
    refine (HC.out _).mono ?_;rintro e w1 ⟨rfl,rfl⟩;go_wp2_with fail
    refine (HB.out _).mono ?_;rintro e w1 ⟨rfl,rfl⟩;go_wp2_with fail
    go_ret;exact ⟨ret_int HV.out.symm,rfl⟩
  ·rw [if_neg hp] at HV;go_enter Tryz.func139,Tryz.ntmps139
   go_wp2_with fail
   refine (HA.out _).mono ?_;rintro e w1 ⟨rfl,rfl⟩;go_wp2_with fail
   go_ret;exact ⟨ret_int HV.out.symm,rfl⟩
theorem touchRight_any (t:Tc) (w:World) (hs1:t.addr.size≤1048576) (hs2:t.peer.size≤1048576) :
  Cb 105 #[tcC t] w (.bool (touchOk t)):=by
 obtain ⟨proto,inside,addr,port,peer,peerPort,flags⟩:=t;dsimp only at hs1 hs2;have HZ:Hid (Below w.heap.size w (w.alloc (.cells (TcR proto inside addr port peer peerPort flags).toArray 89))):=bR.alloc lR _;have HT:Hid (HoldsL (w.alloc (.cells (TcR proto inside addr port peer peerPort flags).toArray 89)) w.heap.size (TcR proto inside addr port peer peerPort flags)):=HoldsL.new w (TcR proto inside addr port peer peerPort flags) 89;have H1:Hid (∀ W,Cw 136 #[iV proto] W (.bool (protoB proto))):=fun W=>isBound_any _ W
 have H2:Hid (∀ W,Cw 129 #[.string addr] W (.bool (addrOk addr))):=fun W=>implAddrRight_any addr W
 have H3:Hid (∀ W,Cw 122 #[iV port] W (.bool (isW port))):=fun W=>implWordIs_any _ W
 have H4:Hid (∀ W,Cw 122 #[iV peerPort] W (.bool (isW peerPort))):=fun W=>implWordIs_any _ W
 have H5:Hid (∀ W,Cw 121 #[iV flags] W (.bool (isIn flags 0 255))):=fun W=>implByte_any _ W
 have HV:Hid (touchOk ⟨proto,inside,addr,port,peer,peerPort,flags⟩=(protoB proto&&addrOk addr&&(inside||decide (addr.size=4))&&isW port&&decide (peer.size=4)&&isW peerPort&&isIn flags 0 255)):=rfl;generalize touchOk ⟨proto,inside,addr,port,peer,peerPort,flags⟩=ans at *;generalize protoB proto=b1 at *;generalize addrOk addr=b2 at *;generalize isW port=b3 at *;generalize isW peerPort=b4 at *;generalize isIn flags 0 255=b5 at *;unfold tcC;go_enter Tryz.func105,Tryz.ntmps105
 go_upto_region 1 with fail
 generalize (w.alloc (.cells (TcR proto inside addr port peer peerPort flags).toArray 89))=W at *;obtain ⟨k0,k1,k2,k3,k4,k5,k6⟩:=HT.out.c7;clear HT;go_wp2_with fail
 refine (H1.out _).mono ?_;rintro e W ⟨rfl,rfl⟩
 cases b1 with
 | false =>
  go_wp2_with fail
  go_ret;exact ⟨ret_bool (by rw [HV.out]; rfl),HZ.out⟩
 | true =>
 go_wp2_with fail
 refine (H2.out _).mono ?_;rintro e W ⟨rfl,rfl⟩
 cases b2 with
 | false =>
  go_wp2_with fail
  go_ret;exact ⟨ret_bool (by rw [HV.out]; rfl),HZ.out⟩
 | true =>
 by_cases hi:inside=false∧¬ addr.size=4
 ·obtain ⟨rfl,ha⟩:=hi;have haI:¬ (addr.size:Int)=4:=by omega
  go_wp2_with fail
  go_ret;exact ⟨ret_bool (by rw [HV.out,decide_eq_false ha]; rfl),HZ.out⟩
 have HI:Hid ((inside||decide (addr.size=4))=true):=by
  unfold Hid
  cases inside with
  | true=>rfl
  | false=>simp at hi; simp [hi]
 have hsp:inside=true∨(inside=false∧addr.size=4):=by
  cases inside with
  | true=>exact .inl rfl
  | false=>simp at hi; exact .inr ⟨rfl,hi⟩
 clear hi;have HV2:Hid (ans=(b3&&decide (peer.size=4)&&b4&&b5)):=by unfold Hid; rw [HV.out,HI.out]; rfl
 clear HV HI;rcases hsp with rfl | ⟨rfl,ha⟩
 all_goals
  try have haI:(addr.size:Int)=4:=by omega
  go_wp2_with fail
  refine (H3.out _).mono ?_;rintro e W ⟨rfl,rfl⟩
  cases b3 with
  | false =>
   go_wp2_with fail
   go_ret;exact ⟨ret_bool (by rw [HV2.out]; rfl),HZ.out⟩
  | true =>
  go_wp2_with fail
  refine (H4.out _).mono ?_;rintro e W ⟨rfl,rfl⟩
  cases b4 with
  | false =>
   go_wp2_with fail
   go_ret;exact ⟨ret_bool (by rw [HV2.out]; simp),HZ.out⟩
  | true =>
  by_cases hp:peer.size=4
  ·have HX:Hid (ans=b5):=by unfold Hid; rw [HV2.out,decide_eq_true hp]; rfl
   have hpI:(peer.size:Int)=4:=by omega
   go_wp2_with fail
   refine (H5.out _).mono ?_;rintro e W ⟨rfl,rfl⟩;go_wp2_with fail
   go_ret;exact ⟨ret_bool HX.out.symm,HZ.out⟩
  ·have HX:Hid (ans=false):=by unfold Hid; rw [HV2.out,decide_eq_false hp]; rfl
   have hpI:¬ (peer.size:Int)=4:=by omega
   go_wp2_with fail
   go_ret;exact ⟨ret_bool HX.out.symm,HZ.out⟩
end Go.Proofs.YtdkepkaflielhaaGreatDoor
