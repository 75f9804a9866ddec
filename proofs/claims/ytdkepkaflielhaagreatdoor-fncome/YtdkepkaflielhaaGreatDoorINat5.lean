import Derived.Test.YtdkepkaflielhaaGreatDoorSz
import Derived.Test.YtdkepkaflielhaaGreatDoorAb
import Derived.Test.YtdkepkaflielhaaGreatDoorUni
import Derived.Test.YtdkepkaflielhaaGreatDoorStN
import Derived.Test.YtdkepkaflielhaaGreatDoorINat3
import Derived.Test.YtdkepkaflielhaaGreatDoorINat4
import Derived.Test.YtdkepkaflielhaaGreatDoorILeads
import Derived.Test.YtdkepkaflielhaaGreatDoorNatP
import Derived.Test.YtdkepkaflielhaaGreatDoorSNat3
import Derived.Test.YtdkepkaflielhaaGreatDoorITouch9
import Derived.Test.YtdkepkaflielhaaGreatDoorBAid
set_option linter.unusedVariables false
set_option linter.unusedSimpArgs false
set_option maxRecDepth 100000
set_option maxHeartbeats 8000000
namespace Go.Proofs.YtdkepkaflielhaaGreatDoor
open Go.RowKit Go.PlainAid
structure PassO (p:Pl) (x:Bb) (q:P4) (now:Int) (ans:No) (ft cd:Int) (ld:Bool) (fl:Fl) (nv:Bo) (gg:Fl):Prop where
 a1:ft≠0→ans=noE ft
 a2:ft=0→ld=false→ans=noE 6
 a3:ft=0→ld=true→cd≠0→ans=noE cd
 tc:ft=0→cd=0→q.proto=6→20≤q.data.size
 sz:ft=0→q.data.size≤20000
 tb:ft=0→cd=0→bibTouchV p x ⟨fl.proto,true,fl.src,fl.sp,fl.dst,peerV fl.proto fl.dp,flagV q.proto q.data⟩ now=nv
 fs:ft=0→cd=0→fl.src.size=4∧fl.dst.size=4
 a4:ft=0→ld=true→cd=0→nv.code≠0→ans=noE nv.code
 a5:ft=0→ld=true→cd=0→nv.code=0→nv.bind.inn.size≠4→ans=noE 11
 ns:ft=0→cd=0→nv.code=0→nv.bind.inn.size≤16
 gs:ft=0→cd=0→nv.code=0→nv.bind.inn.size=4→gg.src.size=4∧gg.dst.size=4
 a6:ft=0→ld=true→cd=0→nv.code=0→nv.bind.inn.size=4→ans=⟨nv.bib,{ q with src:=gg.src,dst:=gg.dst,data:=setData fl gg q.data },p6Zero,0⟩
structure PassI (p:Pl) (x:Bb) (q:P4) (now:Int) (ans:No) (ft cd:Int) (ld:Bool) (fl:Fl) (nv:Bo) (gg:Fl):Prop where
 a1:ft≠0→ans=noE ft
 a2:ft=0→ld=false→ans=noE 6
 a3:ft=0→ld=true→cd≠0→ans=noE cd
 tc:ft=0→cd=0→q.proto=6→20≤q.data.size
 sz:ft=0→q.data.size≤20000
 tb:ft=0→cd=0→bibTouchV p x ⟨fl.proto,false,fl.dst,fl.dp,fl.src,peerV fl.proto fl.sp,flagV q.proto q.data⟩ now=nv
 fs:ft=0→cd=0→fl.src.size=4∧fl.dst.size=4
 a4:ft=0→ld=true→cd=0→nv.code≠0→ans=noE nv.code
 a5:ft=0→ld=true→cd=0→nv.code=0→nv.bind.inn.size≠4→ans=noE 11
 ns:ft=0→cd=0→nv.code=0→nv.bind.inn.size≤16
 gs:ft=0→cd=0→nv.code=0→nv.bind.inn.size=4→gg.src.size=4∧gg.dst.size=4
 a6:ft=0→ld=true→cd=0→nv.code=0→nv.bind.inn.size=4→ans=⟨nv.bib,{ q with src:=gg.src,dst:=gg.dst,data:=setData fl gg q.data },p6Zero,0⟩
theorem passI_is (p:Pl) (x:Bb) (q:P4) (now:Int):∃ nv gg,PassI p x q now (natComeV p x q now) (natFt p x q now) (flowCode q.src q.dst q.proto q.data) (inL p.addrs q.dst) (flowOfV q.src q.dst q.proto q.data) nv gg∧gg=⟨(flowOfV q.src q.dst q.proto q.data).proto,(flowOfV q.src q.dst q.proto q.data).src,nv.bind.inn,if echoP (flowOfV q.src q.dst q.proto q.data).proto=true then nv.bind.inPort else (flowOfV q.src q.dst q.proto q.data).sp,nv.bind.inPort⟩:=by
 obtain ⟨nv,hnv⟩ : ∃ nv,nv=goV p x (comeT (ofFl q.src q.dst q.proto q.data) q.data) now:=⟨_,rfl⟩;refine ⟨nv,_,?_,rfl⟩;have hv:natFt p x q now=0→natComeV p x q now=natComeIn p x q now:=fun h=>by unfold natComeV; rw [if_neg (by simp [h])]
 have hft:natFt p x q now=0→v4Ok q=true:=fun h=>(nat_parts h).2.1
 have hcd:natFt p x q now=0→flowCode q.src q.dst q.proto q.data=ofCode q.src.size q.proto q.data:=fun h=>(flow_four (hft h)).1
 have hfl:natFt p x q now=0→flowCode q.src q.dst q.proto q.data=0→flowOfV q.src q.dst q.proto q.data=ofFl q.src q.dst q.proto q.data:=fun h h2=>(flow_four (hft h)).2 (by rw [← hcd h]; exact h2)
 have hpass:=fun (h:natFt p x q now=0) (h2:flowCode q.src q.dst q.proto q.data=0)=>pass_in (p:=p) (x:=x) (q:=q) (now:=now) h (by rw [← hcd h]; exact h2) (flowOfV q.src q.dst q.proto q.data) (hfl h h2) nv (by rw [hfl h h2]; exact hnv)
 refine ⟨fun h=>?_,fun h hl=>?_,fun h hl c=>?_,fun h c hp=>?_,fun h=>?_,fun h c=>(hpass h c).1,fun h c=>⟨(hpass h c).2.1,(hpass h c).2.2.1⟩,fun h hl c n=>?_,fun h hl c n i=>?_,fun h c n=>?_,fun h c n i=>?_,fun h hl c n i=>?_⟩
 ·unfold natComeV; rw [if_pos h]
 ·rw [hv h]; unfold natComeIn; rw [if_pos hl]
 ·rw [hv h]; unfold natComeIn; rw [if_neg (by rw [hl]; simp)]; rw [if_pos (by rw [← hcd h]; exact c),hcd h]
 ·have c2:ofCode q.src.size q.proto q.data=0:=by rw [← hcd h]; exact c
  rw [hp] at c2; exact tcp_long c2
 ·have:=(v4_sizes (hft h)).2.2.2; omega
 ·rw [hv h]; unfold natComeIn; rw [if_neg (by rw [hl]; simp)]; rw [if_neg (by rw [← hcd h]; simp [c]),← hnv,if_pos n]
 ·rw [hv h]; unfold natComeIn; rw [if_neg (by rw [hl]; simp)]; rw [if_neg (by rw [← hcd h]; simp [c]),← hnv,if_neg (by simp [n]),if_pos i]
 ·exact ((hpass h c).2.2.2 n).1
 ·obtain ⟨G,hG,-,-,e4,e5⟩:=((hpass h c).2.2.2 n).2 i;rw [hG,e4,e5]; exact ⟨(v4_sizes (hft h)).1,i⟩
 ·obtain ⟨G,hG,hG2,hS,e4,e5⟩:=((hpass h c).2.2.2 n).2 i;rw [hv h,hG,hS,e4,e5]; unfold natComeIn;rw [if_neg (by rw [hl]; simp),if_neg (by rw [← hcd h]; simp [c]),← hnv,if_neg (by simp [n]),if_neg (by simp [i]),hG2,hfl h c]
theorem natPassI_any (pa:Option Addr) (pc:Nat) (p:Pl) (ba bo:Option Addr) (ca cb:Nat) (x:Bb) (q:P4) (now:Int) (w:World) (hT:TabB w) (hlp:p.addrs.length≤1048576) (hpc:p.addrs.length≤pc) (hsz:∀ s∈p.addrs,s.size≤1048576) (hl1:x.binds.length≤1048576) (hl2:x.sess.length≤1048576) (hgb:∀ q∈x.binds,BdGood q) (hgs:∀ s∈x.sess,SsGood s) (q1:q.src.size≤1048576) (q2:q.dst.size≤1048576) (q3:q.opts.size≤1048576) (q4:q.data.size≤1048576) (hp:SlIs strL1 1 w pa p.addrs) (hx:BbIs w ba bo x) :
  Calls Tryz.prog 27 #[.iface 82 (.agg #[.slice pa p.addrs.length pc]),plC pa pc p,bbC ba bo ca cb x,p4C q,iV now] w fun e w'=>NoRet w.heap.size (natComeV p x q now) e w'∧Below w.heap.size w w':=by
 obtain ⟨nv,gg,HPS,hgg⟩:=passI_is p x q now;have CFT:Hid (∀ W,Below w.z w W→Cb 52 #[plC pa pc p,bbC ba bo ca cb x,p4C q,iV now] W (iV (natFt p x q now))):=fun W hW=>ip9Ok_any pa pc p ba bo ca cb x q now W hlp hpc hsz hl1 hl2 hgb hgs q1 q2 q3 q4 (hp.below hW) (hx.below hW)
 have CLD:Hid (∀ W,Below w.z w W→Cb 57 #[.iface 82 (.agg #[.slice pa p.addrs.length pc]),.string q.dst] W (.bool (inL p.addrs q.dst))):=fun W hW=>leadsI_any p.addrs q.dst pa pc W hlp (hp.below hW)
 have CFO:Hid (∀ W,Cb 58 #[.string q.src,.string q.dst,iV q.proto,.string q.data] W (fwCO (flowOfV q.src q.dst q.proto q.data) (flowCode q.src q.dst q.proto q.data))):=fun W=>implFlowOf_any _ _ _ _ W q1 q2 q4
 generalize flowOfV q.src q.dst q.proto q.data=fl at *;generalize flowCode q.src q.dst q.proto q.data=cd at *;generalize natFt p x q now=ft at *;generalize natComeV p x q now=ans at *;generalize inL p.addrs q.dst=ld at *;have CTO:Hid (∀ W,Cb 205 #[.agg #[.slice pa p.addrs.length pc],fwC fl] W (tcC ⟨fl.proto,false,fl.dst,fl.dp,fl.src,peerV fl.proto fl.sp,0⟩)):=fun W=>ipTouchI_any fl pa p.addrs.length pc W
 have CFL:Hid (ft=0→cd=0→∀ W,Cb 59 #[iV q.proto,.string q.data] W (iV (flagV q.proto q.data))):=fun h c W=>ipFlags_any _ _ W (HPS.sz h) (HPS.tc h c)
 have CBT:Hid (ft=0→cd=0→∀ W,Below w.z w W→Calls Tryz.prog 60 #[plC pa pc p,bbC ba bo ca cb x,tcC ⟨fl.proto,false,fl.dst,fl.dp,fl.src,peerV fl.proto fl.sp,(flagV q.proto q.data)⟩,iV now] W fun e w'=>BoRet W.heap.size nv e w'∧Below W.heap.size W w'):=fun h c W hW=>by
  have:=implBibTouch_any pa pc p ba bo ca cb x ⟨fl.proto,false,fl.dst,fl.dp,fl.src,peerV fl.proto fl.sp,(flagV q.proto q.data)⟩ now W (hT.below hW) (by dsimp only; have:=HPS.fs h c; omega) (by dsimp only; have:=HPS.fs h c; omega) hlp hpc hsz hl1 hl2 hgb hgs (hp.below hW) (hx.below hW);rw [HPS.tb h c] at this; exact this
 have CTU:Hid (∀ W,Cb 206 #[.agg #[.slice pa p.addrs.length pc],fwC fl,bdC nv.bind] W (fwC gg)):=fun W=>by rw [hgg]; exact ipTurnI_any fl nv.bind pa p.addrs.length pc W
 have CAS:Hid (ft=0→cd=0→nv.code=0→nv.bind.inn.size=4→∀ W,Cb 61 #[p4C q,fwC fl,fwC gg] W (p4C { q with src:=gg.src,dst:=gg.dst,data:=setData fl gg q.data })):=fun h c n i W=>by
  have hf:=HPS.fs h c;have hg:=HPS.gs h c n i;exact asFlow_any q fl gg _ _ W q1 q2 q3 q4 (fun W=>implCarrySet_any fl gg q.data W (by omega) (by omega) (by omega) (by omega) q4 (by omega))
 have HPS:Hid (PassI p x q now ans ft cd ld fl nv gg):=HPS;clear hgg hT hlp hpc hsz hl1 hl2 hgb hgs hp hx q1 q2 q3
 have hmtouch : ∀ W, (method 319 82 (.agg #[.slice pa p.addrs.length pc]) "loop.example/g00314/impl.touch").run Tryz.prog W = .ok (205, .agg #[.slice pa p.addrs.length pc]) W := fun W => by kernel_rfl
 have hmturn : ∀ W, (method 319 82 (.agg #[.slice pa p.addrs.length pc]) "loop.example/g00314/impl.turn").run Tryz.prog W = .ok (206, .agg #[.slice pa p.addrs.length pc]) W := fun W => by kernel_rfl
 unfold plC bbC p4C fwC fwCO tcC bdC at *;dsimp only at *;generalize peerV fl.proto fl.sp=pe at *;generalize hsd:setData fl gg q.data=sd at *;have HSD:Hid (setData fl gg q.data=sd):=hsd;clear hsd;generalize flagV q.proto q.data=fg at *;have e0:HoldsL ((aW (aW (aW w (PlV pa pc p) 27) (BbV ba ca bo cb x) 31) (P4V q) 33).alloc (.cells Z25V.toArray 39)) (w.z) (PlV pa pc p):=by
  have h:=HoldsL.new w (PlV pa pc p) 27;try simp only [World.size_alloc] at h
  exact (((h.alloc _).alloc _).alloc _)
 have e1:HoldsL ((aW (aW (aW w (PlV pa pc p) 27) (BbV ba ca bo cb x) 31) (P4V q) 33).alloc (.cells Z25V.toArray 39)) (w.z+1) (BbV ba ca bo cb x):=by
  have h:=HoldsL.new (w.alloc (.cells (PlV pa pc p).toArray 27)) (BbV ba ca bo cb x) 31;try simp only [World.size_alloc] at h
  exact ((h.alloc _).alloc _)
 have e2:HoldsL ((aW (aW (aW w (PlV pa pc p) 27) (BbV ba ca bo cb x) 31) (P4V q) 33).alloc (.cells Z25V.toArray 39)) (w.z+1+1) (P4V q):=by
  have h:=HoldsL.new ((aW w (PlV pa pc p) 27).alloc (.cells (BbV ba ca bo cb x).toArray 31)) (P4V q) 33;try simp only [World.size_alloc] at h
  exact (h.alloc _)
 have e3:HoldsL ((aW (aW (aW w (PlV pa pc p) 27) (BbV ba ca bo cb x) 31) (P4V q) 33).alloc (.cells Z25V.toArray 39)) (w.z+1+1+1) Z25V:=by
  have h:=HoldsL.new ((aW (aW w (PlV pa pc p) 27) (BbV ba ca bo cb x) 31).alloc (.cells (P4V q).toArray 33)) Z25V 39;try simp only [World.size_alloc] at h
  exact h
 have HS0:Hid (Bxs w [(w.z,(PlV pa pc p)),(w.z+1,(BbV ba ca bo cb x)),(w.z+1+1,(P4V q)),(w.z+1+1+1,Z25V)] ((aW (aW (aW w (PlV pa pc p) 27) (BbV ba ca bo cb x) 31) (P4V q) 33).alloc (.cells Z25V.toArray 39))):=by
  refine ⟨fun e he=>?_,((((bR.alloc (by (try simp only [World.size_alloc]); omega) _).alloc (by (try simp only [World.size_alloc]); omega) _).alloc (by (try simp only [World.size_alloc]); omega) _).alloc (by (try simp only [World.size_alloc]); omega) _),fun e he=>?_⟩
  ·simp only [List.mem_cons,List.not_mem_nil,or_false] at he;rcases he with rfl | rfl | rfl | rfl
   ·exact e0
   ·exact e1
   ·exact e2
   ·exact e3
  ·simp only [List.mem_cons,List.not_mem_nil,or_false] at he;rcases he with rfl | rfl | rfl | rfl<;>simp
 clear e0 e1 e2 e3;have hRw:w.z≤w.z+1+1+1:=by omega
 go_enter Tryz.func27,Tryz.ntmps27
 go_upto_region 1 with fail
 generalize World.alloc _ _=W0 at *;have HHk:=HS0.out.at mE0;obtain ⟨k0,k1,k2,k3,k4,k5,k6,k7,k8,k9⟩:=HHk.c10;clear HHk;have HHl:=HS0.out.at mE1;obtain ⟨l0,l1⟩:=HHl.c2;clear HHl;have HHm:=HS0.out.at mE2;obtain ⟨m0,m1,m2,m3,m4,m5,m6,m7,m8,m9,m10⟩:=HHm.c11;clear HHm;go_wp2_with fail
 refine (CFT.out W0 HS0.out.b).mono ?_;rintro e W1 ⟨rfl,r1⟩;have S1:Hid _:=HS0.out.kept r1;clear r1 HS0 CFT k0 k1 k2 k3 k4 k5 k6 k7 k8 k9 l0 l1 m0 m1 m2 m3 m4 m5 m6 m7 m8 m9 m10;by_cases hft:ft=0
 case neg =>
  have d0:(ft != 0)=true:=by simp [hft]
  have HX:Hid (ans=noE (ft)):=HPS.out.a1 hft;obtain ⟨HTH,HRR,RB⟩:=mid3 (show HoldsL W1 (w.z+1+1+1) (noL none none 0 0 (noE 0)) from S1.out.k _ mE3) S1.out.b hRw none none 0 0 (noE (ft));go_wp2_with (refine wpList_store_mid (by rfl) 39 (.tmp 10) (.tmp 24) (by rfl) _ _ _ (by rfl) (by rfl) HTH.out no_info (noL_one _ _ _ _ _) ?_)
  exact bodyPost_ret (results_mid Tryz.results27 _ _ _ _ _ rfl HRR.out Tryz.underlying39 rfl no_info) rfl (And.intro (by rw [HX.out]; exact noRet_ill _) RB.out)
 have d0:(ft != 0)=false:=by simp [hft]
 go_upto_region 4 with fail
 clear d0;have HHm:=S1.out.at mE2;obtain ⟨m0,m1,m2,m3,m4,m5,m6,m7,m8,m9,m10⟩:=HHm.c11;clear HHm;go_wp2_with fail
 refine (CLD.out W1 S1.out.b).mono ?_;rintro e W2 ⟨rfl,r1⟩;have S2:Hid _:=S1.out.kept r1;clear r1 S1 CLD m0 m1 m2 m3 m4 m5 m6 m7 m8 m9 m10
 cases ld with
 | false =>
  have HX:Hid (ans=noE (6)):=HPS.out.a2 hft rfl;obtain ⟨HTH,HRR,RB⟩:=mid3 (show HoldsL W2 (w.z+1+1+1) (noL none none 0 0 (noE 0)) from S2.out.k _ mE3) S2.out.b hRw none none 0 0 (noE (6));go_wp2_with (refine wpList_store_mid (by rfl) 39 (.tmp 10) (.tmp 30) (by rfl) _ _ _ (by rfl) (by rfl) HTH.out no_info (noL_one _ _ _ _ _) ?_)
  exact bodyPost_ret (results_mid Tryz.results27 _ _ _ _ _ rfl HRR.out Tryz.underlying39 rfl no_info) rfl (And.intro (by rw [HX.out]; exact noRet_ill _) RB.out)
 | true =>
 go_upto_region 6 with fail
 have HHm:=S2.out.at mE2;obtain ⟨m0,m1,m2,m3,m4,m5,m6,m7,m8,m9,m10⟩:=HHm.c11;clear HHm;go_wp2_with fail
 refine (CFO.out W2).mono ?_;rintro e W3 ⟨rfl,r1⟩;have S4:Hid (Bxs w ((W3.heap.size,[iV fl.proto,.string fl.src,.string fl.dst,iV fl.sp,iV fl.dp,iV cd])::[(w.z,(PlV pa pc p)),(w.z+1,(BbV ba ca bo cb x)),(w.z+1+1,(P4V q)),(w.z+1+1+1,Z25V)]) (W3.alloc (.cells #[iV fl.proto,.string fl.src,.string fl.dst,iV fl.sp,iV fl.dp,iV cd] 45))):=(S2.out.kept r1).push [iV fl.proto,.string fl.src,.string fl.dst,iV fl.sp,iV fl.dp,iV cd] (by simp) _;have hFb:w.z+1+1+1 < W3.heap.size:=((S2.out.kept r1).k _ mE3).lt (by simp);clear r1 S2 CFO m0 m1 m2 m3 m4 m5 m6 m7 m8 m9 m10;go_upto_region 7 with fail
 generalize (W3.alloc (.cells #[iV fl.proto,.string fl.src,.string fl.dst,iV fl.sp,iV fl.dp,iV cd] 45))=W4 at *;generalize W3.heap.size=Fb at *;have HHk:=S4.out.at mE0;obtain ⟨k0,k1,k2,k3,k4,k5⟩:=HHk.c6;clear HHk;by_cases hcd:cd=0
 case neg =>
  have d0:(cd != 0)=true:=by simp [hcd]
  have HX:Hid (ans=noE (cd)):=HPS.out.a3 hft rfl hcd;obtain ⟨HTH,HRR,RB⟩:=mid3 (show HoldsL W4 (w.z+1+1+1) (noL none none 0 0 (noE 0)) from S4.out.k _ mE4) S4.out.b hRw none none 0 0 (noE (cd));go_wp2_with (refine wpList_store_mid (by rfl) 39 (.tmp 10) (.tmp 45) (by rfl) _ _ _ (by rfl) (by rfl) HTH.out no_info (noL_one _ _ _ _ _) ?_)
  exact bodyPost_ret (results_mid Tryz.results27 _ _ _ _ _ rfl HRR.out Tryz.underlying39 rfl no_info) rfl (And.intro (by rw [HX.out]; exact noRet_ill _) RB.out)
 have d0:(cd != 0)=false:=by simp [hcd]
 replace CFL:Hid _:=CFL.out hft hcd;replace CBT:Hid _:=CBT.out hft hcd;replace CAS:Hid _:=CAS.out hft hcd;go_upto_region 9 with fail
 clear d0;go_wp2_with fail
 refine (CTO.out W4).mono ?_;rintro e W5 ⟨rfl,r1⟩;have S6:Hid (Bxs w ((W5.heap.size,(TcR fl.proto false fl.dst fl.dp fl.src pe 0))::[(Fb,[iV fl.proto,.string fl.src,.string fl.dst,iV fl.sp,iV fl.dp,iV cd]),(w.z,(PlV pa pc p)),(w.z+1,(BbV ba ca bo cb x)),(w.z+1+1,(P4V q)),(w.z+1+1+1,Z25V)]) (W5.alloc (.cells (TcR fl.proto false fl.dst fl.dp fl.src pe 0).toArray 89))):=(S4.out.kept r1).push (TcR fl.proto false fl.dst fl.dp fl.src pe 0) (by simp) _;have hTb:Fb < W5.heap.size:=((S4.out.kept r1).k _ mE0).lt (by simp);clear r1 S4 CTO hmtouch k0 k1 k2 k3 k4 k5;go_upto_region 10 with fail
 generalize (W5.alloc (.cells (TcR fl.proto false fl.dst fl.dp fl.src pe 0).toArray 89))=W6 at *;generalize W5.heap.size=Tb at *;have HHm:=S6.out.at mE4;obtain ⟨m0,m1,m2,m3,m4,m5,m6,m7,m8,m9,m10⟩:=HHm.c11;clear HHm;go_wp2_with fail
 refine (CFL.out W6).mono ?_;rintro e W7 ⟨rfl,r1⟩;have S7:Hid _:=S6.out.kept r1;clear r1 S6 CFL m0 m1 m2 m3 m4 m5 m6 m7 m8 m9 m10;have HHt:=S7.out.at mE0;have tc6:=HHt.cell (j:=6) rfl;have tf6:=HHt.free (j:=6) (by simp);clear HHt;have S8:Hid (Bxs w [(Tb,(TcR fl.proto false fl.dst fl.dp fl.src pe fg)),(Fb,[iV fl.proto,.string fl.src,.string fl.dst,iV fl.sp,iV fl.dp,iV cd]),(w.z,(PlV pa pc p)),(w.z+1,(BbV ba ca bo cb x)),(w.z+1+1,(P4V q)),(w.z+1+1+1,Z25V)] (W7.setCell ⟨Tb,6,none⟩ (iV fg))):=⟨fun e he=>by
  simp only [List.mem_cons,List.not_mem_nil,or_false] at he;rcases he with rfl | rfl | rfl | rfl | rfl | rfl
  ·exact (S7.out.k _ mE0).set 6 (iV fg)
  ·exact (S7.out.k _ mE1).setOther (by show Fb≠Tb; omega) _
  ·exact (S7.out.k _ mE2).setOther (by omega) _
  ·exact (S7.out.k _ mE3).setOther (by omega) _
  ·exact (S7.out.k _ mE4).setOther (by omega) _
  ·exact (S7.out.k _ mE5).setOther (by omega) _,S7.out.b.setCell (p:=⟨Tb,6,none⟩) (show w.z≤Tb by omega) _,fun e he=>by
  simp only [List.mem_cons,List.not_mem_nil,or_false] at he;rcases he with rfl | rfl | rfl | rfl | rfl | rfl<;>simp⟩
 clear S7;go_upto_region 11 with fail
 generalize (W7.setCell ⟨Tb,6,none⟩ (iV fg))=W8 at *;clear tc6 tf6;have HHk:=S8.out.at mE2;obtain ⟨k0,k1,k2,k3,k4,k5,k6,k7,k8,k9⟩:=HHk.c10;clear HHk;have HHl:=S8.out.at mE3;obtain ⟨l0,l1⟩:=HHl.c2;clear HHl;have HHm:=S8.out.at mE0;obtain ⟨m0,m1,m2,m3,m4,m5,m6⟩:=HHm.c7;clear HHm;have hR8:w.z+1+1+1 < W8.heap.size:=(S8.out.k _ mE5).lt (by simp);have hw8:w.z≤W8.heap.size:=S8.out.b.size;go_wp2_with fail
 refine (CBT.out W8 S8.out.b).mono ?_;rintro e W9 ⟨⟨a9,b9,c9,d9,rfl,hown⟩,r3⟩;unfold boC;have S10:Hid (Bxs w ((W9.heap.size,(BoV a9 c9 b9 d9 nv))::[(Tb,(TcR fl.proto false fl.dst fl.dp fl.src pe fg)),(Fb,[iV fl.proto,.string fl.src,.string fl.dst,iV fl.sp,iV fl.dp,iV cd]),(w.z,(PlV pa pc p)),(w.z+1,(BbV ba ca bo cb x)),(w.z+1+1,(P4V q)),(w.z+1+1+1,Z25V)]) (W9.alloc (.cells (BoV a9 c9 b9 d9 nv).toArray 104))):=(S8.out.kept r3).push (BoV a9 c9 b9 d9 nv) (by simp) _;have O10:Hid (BbOwn W8.heap.size (W9.alloc (.cells (BoV a9 c9 b9 d9 nv).toArray 104)) a9 b9 nv.bib):=hown.kept (bR.alloc lR _);have hx9:W8.heap.size≤W9.heap.size:=r3.size;clear r3 hown S8 CBT k0 k1 k2 k3 k4 k5 k6 k7 k8 k9 l0 l1 m0 m1 m2 m3 m4 m5 m6;go_upto_region 12 with fail
 generalize (W9.alloc (.cells (BoV a9 c9 b9 d9 nv).toArray 104))=W10 at *;generalize W9.heap.size=Xb at *;have HHk:=S10.out.at mE0;obtain ⟨k0,k1,k2,k3,k4,k5,k6,k7⟩:=HHk.c8;clear HHk;by_cases hn:nv.code=0
 case neg =>
  have d0:(nv.code != 0)=true:=by simp [hn]
  have HX:Hid (ans=noE (nv.code)):=HPS.out.a4 hft rfl hcd hn;obtain ⟨HTH,HRR,RB⟩:=mid3 (show HoldsL W10 (w.z+1+1+1) (noL none none 0 0 (noE 0)) from S10.out.k _ mE6) S10.out.b hRw none none 0 0 (noE (nv.code));go_wp2_with (refine wpList_store_mid (by rfl) 39 (.tmp 10) (.tmp 66) (by rfl) _ _ _ (by rfl) (by rfl) HTH.out no_info (noL_one _ _ _ _ _) ?_)
  exact bodyPost_ret (results_mid Tryz.results27 _ _ _ _ _ rfl HRR.out Tryz.underlying39 rfl no_info) rfl (And.intro (by rw [HX.out]; exact noRet_ill _) RB.out)
 have d0:(nv.code != 0)=false:=by simp [hn]
 have hi16:nv.bind.inn.size≤16:=HPS.out.ns hft hcd hn;by_cases hi:nv.bind.inn.size=4
 case neg =>
  have d1:((nv.bind.inn.size:Int) != 4)=true:=by rw [bne_iff_ne]; omega
  have HX:Hid (ans=noE (11)):=HPS.out.a5 hft rfl hcd hn hi;obtain ⟨HTH,HRR,RB⟩:=mid3 (show HoldsL W10 (w.z+1+1+1) (noL none none 0 0 (noE 0)) from S10.out.k _ mE6) S10.out.b hRw none none 0 0 (noE (11));go_wp2_with (refine wpList_store_mid (by rfl) 39 (.tmp 10) (.tmp 72) (by rfl) _ _ _ (by rfl) (by rfl) HTH.out no_info (noL_one _ _ _ _ _) ?_)
  exact bodyPost_ret (results_mid Tryz.results27 _ _ _ _ _ rfl HRR.out Tryz.underlying39 rfl no_info) rfl (And.intro (by rw [HX.out]; exact noRet_ill _) RB.out)
 have d1:((nv.bind.inn.size:Int) != 4)=false:=by rw [bne_eq_false_iff_eq]; omega
 have HX:Hid _:=HPS.out.a6 hft rfl hcd hn hi;replace CAS:Hid _:=CAS.out hn hi;clear HPS;go_upto_region 16 with fail
 clear d0 d1;have HHm:=S10.out.at mE2;obtain ⟨m0,m1,m2,m3,m4,m5⟩:=HHm.c6;clear HHm;go_wp2_with fail
 refine (CTU.out W10).mono ?_;rintro e W11 ⟨rfl,r1⟩;have S12:Hid (Bxs w ((W11.heap.size,(FlV gg))::[(Xb,(BoV a9 c9 b9 d9 nv)),(Tb,(TcR fl.proto false fl.dst fl.dp fl.src pe fg)),(Fb,[iV fl.proto,.string fl.src,.string fl.dst,iV fl.sp,iV fl.dp,iV cd]),(w.z,(PlV pa pc p)),(w.z+1,(BbV ba ca bo cb x)),(w.z+1+1,(P4V q)),(w.z+1+1+1,Z25V)]) (W11.alloc (.cells (FlV gg).toArray 43))):=(S10.out.kept r1).push (FlV gg) (by simp) _;have O12:Hid (BbOwn W8.heap.size (W11.alloc (.cells (FlV gg).toArray 43)) a9 b9 nv.bib):=(O10.out.kept r1).kept (bR.alloc lR _);clear r1 S10 O10 CTU hmturn m0 m1 m2 m3 m4 m5 k0 k1 k2 k3 k4 k5 k6 k7;go_upto_region 17 with fail
 generalize (W11.alloc (.cells (FlV gg).toArray 43))=W12 at *;generalize W11.heap.size=Gb at *;have HCP:Hid (∀ wy,Below W12.drew.heap.size W12.drew wy→_):=fun wy hy=>S12.out.kept (bR.drew.trans hy)
 have HOP:Hid (∀ wy,Below W12.drew.heap.size W12.drew wy→BbOwn W8.heap.size wy a9 b9 nv.bib):=fun wy hy=>O12.out.kept (bR.drew.trans hy)
 clear S12 O12;refine wp_region_growV [79,80,81,82,83,84,85,86] (by kernel_rfl) (by kernel_rfl) ?_;iterate 8 (apply GChV.u rfl;(·intro K' a wy ho hd hb hK;simp [rAt,IsV,slot,Region.binds] at ho hd;have hst:=HCP.out wy hb;have kC:=(hst.at mE6).c11;have kC:=(hst.at mE1).c8;have kC:=(hst.at mE3).c6;have kC:=(hst.at mE0).c5;clear hst;go_simp;first|((try go_bits);exact hK _ _ rfl bQ)|(refine (CAS.out wy).mono ?_;rintro e wz ⟨rfl,hz⟩;exact hK _ _ rfl hz));dsimp only [nA,cA])
 intro X wz hR hz;simp only [List.nil_append,List.cons_append,RAll,IsV] at hR;simp only [putsFrom,hR];clear hR;have hS:=HCP.out wz hz;have hO:=HOP.out wz hz;have hrb:HoldsL wz (w.z+1+1+1) (noL none none 0 0 (noE 0)):=hS.k _ mE7;obtain ⟨HTH,HRR,RB⟩:=mid3 hrb hS.b hRw a9 b9 c9 d9 ⟨nv.bib,⟨q.tos,q.id,q.whole,q.more,q.off,q.ttl,q.proto,gg.src,gg.dst,q.opts,sd⟩,p6Zero,0⟩;have HOW:Hid (BbOwn w.z (wz.setCells (w.z+1+1+1) 0 (noL a9 b9 c9 d9 ⟨nv.bib,⟨q.tos,q.id,q.whole,q.more,q.off,q.ttl,q.proto,gg.src,gg.dst,q.opts,sd⟩,p6Zero,0⟩).toArray.toList) a9 b9 nv.bib):=(BbOwn.mid hO hR8 _).lowN hw8;clear hS hO hrb HCP HOP;simp only [List.length_cons,List.length_nil,List.drop_succ_cons,List.drop_zero,Nat.zero_add,Nat.reduceAdd];with_reducible refine wpSeq_store 39 (.tmp 10) (.tmp 86) rfl (w.z+1+1+1) 0 (noL a9 b9 c9 d9 ⟨nv.bib,⟨q.tos,q.id,q.whole,q.more,q.off,q.ttl,q.proto,gg.src,gg.dst,q.opts,sd⟩,p6Zero,0⟩).toArray ?_ ?_ ?_ ?_ ?_ ?_
 ·simp [Act.eval,Act.put]
 ·simp [Act.eval,Act.put,noL,p6Zero]
 ·exact HTH.out
 ·exact no_info
 ·exact noL_one _ _ _ _ _
 generalize wz.setCells (w.z+1+1+1) 0 (noL a9 b9 c9 d9 ⟨nv.bib,⟨q.tos,q.id,q.whole,q.more,q.off,q.ttl,q.proto,gg.src,gg.dst,q.opts,sd⟩,p6Zero,0⟩).toArray.toList=WE at *;go_wp2_with fail
 with_reducible refine bodyPost_ret (v:=.agg (noL a9 b9 c9 d9 ⟨nv.bib,⟨q.tos,q.id,q.whole,q.more,q.off,q.ttl,q.proto,gg.src,gg.dst,q.opts,sd⟩,p6Zero,0⟩).toArray) ?_ ?_ ?_
 ·refine results_mid Tryz.results27 _ _ _ _ _ ?_ HRR.out Tryz.underlying39 rfl no_info;simp [Act.put]
 ·simp [Act.put]
 ·exact And.intro (by rw [HX.out,HSD.out]; exact ⟨a9,b9,c9,d9,rfl,HOW.out⟩) RB.out
end Go.Proofs.YtdkepkaflielhaaGreatDoor
