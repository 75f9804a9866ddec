import Derived.Test.YtdkepkaflielhaaGreatDoorSz
import Derived.Test.YtdkepkaflielhaaGreatDoorAb
import Derived.Test.YtdkepkaflielhaaGreatDoorUni
import Derived.Test.YtdkepkaflielhaaGreatDoorSt
import Derived.Test.YtdkepkaflielhaaGreatDoorSGo9
import Derived.Test.YtdkepkaflielhaaGreatDoorSBibR
import Derived.Test.YtdkepkaflielhaaGreatDoorSPiece
set_option linter.unusedVariables false
set_option linter.unusedSimpArgs false
set_option maxRecDepth 100000
set_option maxHeartbeats 8000000
namespace Go.Proofs.YtdkepkaflielhaaGreatDoor
open Go.RowKit Go.PlainAid
theorem specBibTouch_any (pa:Option Addr) (pc:Nat) (p:Pl) (ba bo:Option Addr) (ca cb:Nat) (x:Bb) (t:Tc) (now:Int) (w:World) (hlp:p.addrs.length≤1048576) (hpc:p.addrs.length≤pc) (hsz:∀ s∈p.addrs,s.size≤1048576) (hs1:t.addr.size≤1048576) (hs2:t.peer.size≤1048576) (hl1:x.binds.length≤1048576) (hl2:x.sess.length≤1048576) (hp:SlIs strL1 1 w pa p.addrs) (hx:BbIs w ba bo x) :
  Calls Tryz.prog 89 #[plC pa pc p,bbC ba bo ca cb x,tcC t,iV now] w fun e w'=>BoRet w.heap.size (bibTouchV p x t now) e w'∧Below w.heap.size w w':=by
 obtain ⟨proto,inside,addr,port,peer,peerPort,flags⟩:=t;dsimp only at hs1 hs2;have HBR:Hid (∀ W,Below w.z w W→Cb 13 #[.agg (PlV pa pc p).toArray,.agg (BbV ba ca bo cb x).toArray] W (.bool (bibOk p x))):=fun W hW=>specBib_any p x pa pc ba bo ca cb W hlp hpc hsz hl1 hl2 (hp.below hW) (hx.below hW)
 have HTM:Hid (∀ W,Cw 62 #[iV now] W (.bool (isTime now))):=fun W=>spTime_any now W
 have HTO:Hid (∀ W,Cb 125 #[.agg (TcR proto inside addr port peer peerPort flags).toArray] W (.bool (touchOk ⟨proto,inside,addr,port,peer,peerPort,flags⟩))):=fun W=>spTouchOk_any ⟨proto,inside,addr,port,peer,peerPort,flags⟩ W hs1 hs2
 have HGO:Hid (∀ W,(bibOk p x&&isTime now&&touchOk ⟨proto,inside,addr,port,peer,peerPort,flags⟩)=true→Below w.z w W→Calls Tryz.prog 114 #[.agg (PlV pa pc p).toArray,.agg (BbV ba ca bo cb x).toArray,.agg (TcR proto inside addr port peer peerPort flags).toArray,iV now] W fun e w'=>BoRet W.heap.size (goV p x ⟨proto,inside,addr,port,peer,peerPort,flags⟩ now) e w'∧Below W.heap.size W w'):=fun W hok hW=>by
  have hb:(bibOk p x=true∧isTime now=true)∧touchOk ⟨proto,inside,addr,port,peer,peerPort,flags⟩=true:=by simpa only [Bool.and_eq_true] using hok
  obtain ⟨⟨h1,h2⟩,h3⟩:=hb;have hpo:poolOk p=true:=by unfold bibOk at h1; simp only [Bool.and_eq_true] at h1; first | exact h1.1 | exact h1.1.1 | exact h1.1.1.1 | exact h1.1.1.1.1 | exact h1.1.1.1.1.1 | exact h1.1.1.1.1.1.1
  have hpt:0≤port∧port≤65535:=by
   unfold touchOk isW isIn at h3;simp only [Bool.and_eq_true,decide_eq_true_iff] at h3;omega
  exact spGo_any pa pc p ba bo ca cb x ⟨proto,inside,addr,port,peer,peerPort,flags⟩ now W hpo h2 hs1 hpt.1 hpt.2 hl1 hl2 (hp.below hW) (hx.below hW)
 have HV:Hid (bibTouchV p x ⟨proto,inside,addr,port,peer,peerPort,flags⟩ now=if (bibOk p x&&isTime now&&touchOk ⟨proto,inside,addr,port,peer,peerPort,flags⟩)=true then goV p x ⟨proto,inside,addr,port,peer,peerPort,flags⟩ now else boE 1):=rfl;generalize bibTouchV p x ⟨proto,inside,addr,port,peer,peerPort,flags⟩ now=ans at *;generalize goV p x ⟨proto,inside,addr,port,peer,peerPort,flags⟩ now=nv at *;generalize bibOk p x=b1 at *;generalize isTime now=b2 at *;generalize touchOk ⟨proto,inside,addr,port,peer,peerPort,flags⟩=b3 at *;have hun:undef=Value.tuple #[]:=rfl;have hRw:w.z≤w.z+1+1+1:=by omega
 have e0:HoldsL ((aW (aW (aW w (PlV pa pc p) 27) (BbV ba ca bo cb x) 31) (TcR proto inside addr port peer peerPort flags) 89).alloc (.cells Z8V.toArray 104)) (w.z) (PlV pa pc p):=by
  have h:=HoldsL.new w (PlV pa pc p) 27;try simp only [World.size_alloc] at h
  exact (((h.alloc _).alloc _).alloc _)
 have e1:HoldsL ((aW (aW (aW w (PlV pa pc p) 27) (BbV ba ca bo cb x) 31) (TcR proto inside addr port peer peerPort flags) 89).alloc (.cells Z8V.toArray 104)) (w.z+1) (BbV ba ca bo cb x):=by
  have h:=HoldsL.new (w.alloc (.cells (PlV pa pc p).toArray 27)) (BbV ba ca bo cb x) 31;try simp only [World.size_alloc] at h
  exact ((h.alloc _).alloc _)
 have e2:HoldsL ((aW (aW (aW w (PlV pa pc p) 27) (BbV ba ca bo cb x) 31) (TcR proto inside addr port peer peerPort flags) 89).alloc (.cells Z8V.toArray 104)) (w.z+1+1) (TcR proto inside addr port peer peerPort flags):=by
  have h:=HoldsL.new ((aW w (PlV pa pc p) 27).alloc (.cells (BbV ba ca bo cb x).toArray 31)) (TcR proto inside addr port peer peerPort flags) 89;try simp only [World.size_alloc] at h
  exact (h.alloc _)
 have e3:HoldsL ((aW (aW (aW w (PlV pa pc p) 27) (BbV ba ca bo cb x) 31) (TcR proto inside addr port peer peerPort flags) 89).alloc (.cells Z8V.toArray 104)) (w.z+1+1+1) Z8V:=by
  have h:=HoldsL.new ((aW (aW w (PlV pa pc p) 27) (BbV ba ca bo cb x) 31).alloc (.cells (TcR proto inside addr port peer peerPort flags).toArray 89)) Z8V 104;try simp only [World.size_alloc] at h
  exact h
 have HS0:Hid (Bxs w [(w.z,(PlV pa pc p)),(w.z+1,(BbV ba ca bo cb x)),(w.z+1+1,(TcR proto inside addr port peer peerPort flags)),(w.z+1+1+1,Z8V)] ((aW (aW (aW w (PlV pa pc p) 27) (BbV ba ca bo cb x) 31) (TcR proto inside addr port peer peerPort flags) 89).alloc (.cells Z8V.toArray 104))):=by
  refine ⟨fun e he=>?_,((((bR.alloc lR _).alloc (by simp only [World.size_alloc]; omega) _).alloc (by simp only [World.size_alloc]; omega) _).alloc (by simp only [World.size_alloc]; omega) _),fun e he=>?_⟩
  ·simp only [List.mem_cons,List.not_mem_nil,or_false] at he;rcases he with rfl | rfl | rfl | rfl
   ·exact e0
   ·exact e1
   ·exact e2
   ·exact e3
  ·simp only [List.mem_cons,List.not_mem_nil,or_false] at he;rcases he with rfl | rfl | rfl | rfl<;>simp
 clear e0 e1 e2 e3 hp hx hsz;unfold plC bbC tcC;go_enter Tryz.func89,Tryz.ntmps89
 go_upto_region 1 with fail
 generalize World.alloc _ _=W at *;go_cut [22] (fun v wx=>v=.bool (!(b1&&b2&&b3))∧Bxs w [(w.z,(PlV pa pc p)),(w.z+1,(BbV ba ca bo cb x)),(w.z+1+1,(TcR proto inside addr port peer peerPort flags)),(w.z+1+1+1,Z8V)] wx)
 case first =>
  clear HV HGO;try have hun:undef=Value.tuple #[]:=rfl
  have HHp:=HS0.out.at mE0;obtain ⟨p0,p1,p2,p3,p4,p5,p6,p7,p8,p9⟩:=HHp.c10;clear HHp;have HHk:=HS0.out.at mE1;obtain ⟨k0,k1⟩:=HHk.c2;clear HHk;go_wp2_with fail
  refine (HBR.out _ HS0.out.b).mono ?_;rintro e W1 ⟨rfl,q1⟩;have S1:Hid _:=HS0.out.kept q1;clear q1;have HHt:=S1.out.at mE2;obtain ⟨t0,t1,t2,t3,t4,t5,t6⟩:=HHt.c7;clear HHt
  cases b1 with
  | false =>
   go_wp2_with fail
   go_meet;exact ⟨rfl,S1.out⟩
  | true =>
  go_wp2_with fail
  refine (HTM.out _).mono ?_;rintro e W1 ⟨rfl,rfl⟩
  cases b2 with
  | false =>
   go_wp2_with fail
   go_meet;exact ⟨rfl,S1.out⟩
  | true =>
  go_wp2_with fail
  refine (HTO.out _).mono ?_;rintro e W2 ⟨rfl,q2⟩;have S2:Hid _:=S1.out.kept q2;clear q2
  cases b3;all_goals
   go_wp2_with fail
   go_meet;exact ⟨rfl,S2.out⟩
 case rest =>
 obtain ⟨rfl,hS⟩:=hcut;have S3:Hid _:=hS;clear hS HS0 HBR HTM HTO;generalize wc=W3 at *
 cases hok:(b1&&b2&&b3) with
 | false =>
  have HW:Hid (ans=boE 1):=by unfold Hid; rw [HV.out,hok]; rfl
  clear HGO HV hok;have HX:Hid (ans=boE (1)):=by unfold Hid; rw [HW.out]
  have HHz:=S3.out.at mE3;obtain ⟨z0,z1,z2,z3,z4,z5,z6,z7⟩:=HHz.c8;obtain ⟨zf0,zf1,zf2,zf3,zf4,zf5,zf6,zf7⟩:=HHz.f8;obtain ⟨HRR,RB⟩:=st8 HHz S3.out.b hRw (.slice none 0 0) (.slice none 0 0) (iV 0) eS (iV 0) eS (iV 0) (iV (1));clear HHz;go_wp2_with fail
  exact bodyPost_ret (results_mid Tryz.results89 _ _ (w.z+1+1+1) [.slice none 0 0,.slice none 0 0,iV 0,eS,iV 0,eS,iV 0,iV (1)] _ rfl HRR.out Tryz.underlying104 rfl (show (Tryz.prog.info? 104).map (·.size)=some 8 by kernel_rfl)) rfl (And.intro (by rw [HX.out]; exact ⟨none,none,0,0,rfl,.inl rfl,.inl rfl,fun g h e1=>by simp at e1⟩) RB.out)
 | true =>
  have HX:Hid (ans=nv):=by unfold Hid; rw [HV.out,if_pos hok]
  have HNC:Hid _:=fun W=>HGO.out W hok
  clear HGO HV hok;have HHp:=S3.out.at mE0;obtain ⟨p0,p1,p2,p3,p4,p5,p6,p7,p8,p9⟩:=HHp.c10;clear HHp;have HHk:=S3.out.at mE1;obtain ⟨k0,k1⟩:=HHk.c2;clear HHk;have HHt:=S3.out.at mE2;obtain ⟨t0,t1,t2,t3,t4,t5,t6⟩:=HHt.c7;clear HHt;have hRl:w.z+1+1+1 < W3.heap.size:=(S3.out.lts _ mE3).1;go_wp2_with fail
  refine (HNC.out _ S3.out.b).mono ?_;rintro e W4 ⟨⟨a1,a2,c1,c2,rfl,hown⟩,q4⟩;have S4:Hid _:=S3.out.kept q4;have HHz:=S4.out.at mE3;obtain ⟨z0,z1,z2,z3,z4,z5,z6,z7⟩:=HHz.c8;obtain ⟨zf0,zf1,zf2,zf3,zf4,zf5,zf6,zf7⟩:=HHz.f8;obtain ⟨HRR,RB⟩:=st8 HHz S4.out.b hRw (.slice a1 nv.bib.binds.length c1) (.slice a2 nv.bib.sess.length c2) (iV nv.bind.proto) (.string nv.bind.inn) (iV nv.bind.inPort) (.string nv.bind.out) (iV nv.bind.outPort) (iV nv.code);clear HHz;have hwl:=S3.out.b.size;have HOW:Hid (BbOwn w.z ((sW (sW (sW (sW (sW (sW (sW W4 (w.z+1+1+1) 0 (.slice a1 nv.bib.binds.length c1)) (w.z+1+1+1) 1 (.slice a2 nv.bib.sess.length c2)) (w.z+1+1+1) 2 (iV nv.bind.proto)) (w.z+1+1+1) 3 (.string nv.bind.inn)) (w.z+1+1+1) 4 (iV nv.bind.inPort)) (w.z+1+1+1) 5 (.string nv.bind.out)) (w.z+1+1+1) 6 (iV nv.bind.outPort)).setCell ⟨w.z+1+1+1,7,none⟩ (iV nv.code)) a1 a2 nv.bib):=⟨(hown.bd.grown (grown_set (grown_set (grown_set (grown_set (grown_set (grown_set (grown_set (grown_set (World.grownBy.refl _ _) _) _) _) _) _) _) _) _) hRl).down hwl,(hown.ss.grown (grown_set (grown_set (grown_set (grown_set (grown_set (grown_set (grown_set (grown_set (World.grownBy.refl _ _) _) _) _) _) _) _) _) _) hRl).down hwl,hown.ne⟩;clear hown q4;unfold boC;go_wp2_with fail
  exact bodyPost_ret (results_mid Tryz.results89 _ _ _ _ _ rfl HRR.out Tryz.underlying104 rfl (show (Tryz.prog.info? 104).map (·.size)=some 8 by kernel_rfl)) rfl (And.intro (by rw [HX.out]; exact ⟨a1,a2,c1,c2,rfl,HOW.out⟩) RB.out)
end Go.Proofs.YtdkepkaflielhaaGreatDoor
