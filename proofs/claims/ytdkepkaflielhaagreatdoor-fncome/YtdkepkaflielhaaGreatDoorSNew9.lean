import Derived.Test.YtdkepkaflielhaaGreatDoorSz
import Derived.Test.YtdkepkaflielhaaGreatDoorAb
import Derived.Test.YtdkepkaflielhaaGreatDoorUni
import Derived.Test.YtdkepkaflielhaaGreatDoorSt
import Derived.Test.YtdkepkaflielhaaGreatDoorRowsO
import Derived.Test.YtdkepkaflielhaaGreatDoorSTrack
import Derived.Test.YtdkepkaflielhaaGreatDoorSTch1
import Derived.Great.BuildSlice
set_option linter.unusedVariables false
set_option linter.unusedSimpArgs false
set_option maxRecDepth 100000
set_option maxHeartbeats 8000000
namespace Go.Proofs.YtdkepkaflielhaaGreatDoor
open Go.RowKit Go.PlainAid
theorem spNew_any (pa:Option Addr) (pc:Nat) (p:Pl) (ba bo:Option Addr) (ca cb:Nat) (x:Bb) (t:Tc) (c:Bd) (now:Int) (w:World) (hpo:poolOk p=true) (hnow:isTime now=true) (hta:t.addr.size≤1048576) (h0:0≤t.port) (h1:t.port≤65535) (hl1:x.binds.length≤1048576) (hl2:x.sess.length≤1048576) (hp:SlIs strL1 1 w pa p.addrs) (hx:BbIs w ba bo x) :
  Calls Tryz.prog 157 #[plC pa pc p,bbC ba bo ca cb x,tcC t,bdC c,iV now] w fun e w'=>BoRet w.heap.size (newV p x t c now) e w'∧Below w.heap.size w w':=by
 obtain ⟨proto,inside,addr,port,peer,peerPort,flags⟩:=t;dsimp only at hta h0 h1;have hn:0≤now∧now≤1000000000:=by unfold isTime isIn at hnow; simp only [Bool.and_eq_true,decide_eq_true_iff] at hnow; omega
 obtain ⟨hn0,hn1⟩:=hn;have HN:Hid (∀ W,Cw 177 #[iV proto,.bool inside,iV flags] W (iV (trackNewV proto inside flags))):=fun W=>specNew_any proto inside flags W
 have HPT:Hid (∀ W,Below w.z w W→Cb 178 #[.agg (PlV pa pc p).toArray,.agg (BbV ba ca bo cb x).toArray,iV proto,.string addr,iV port] W (.tuple #[bdC (lendV p x.binds proto addr port).1,iV (lendV p x.binds proto addr port).2])):=fun W hW=>spPort_any p x pa pc ba bo ca cb proto addr port W hpo hta h0 h1 hl1 hl2 (hp.below hW) (hx.below hW)
 have HCY:Hid (∀ W,Below w.z w W→Calls Tryz.prog 126 #[.agg (BbV ba ca bo cb x).toArray] W fun e w'=>CopyRet W.heap.size x e w'∧Below W.heap.size W w'):=fun W hW=>spCopy_any x ba bo ca cb W hl1 hl2 (hx.below hW)
 have HBI:Hid (∀ (d:Bd) (W:World),Below w.z w W→Cb 33 #[.agg (BbV ba ca bo cb x).toArray,iV d.proto,.string d.inn,iV d.inPort] W (iV (findI (ofIn d.proto d.inn d.inPort) x.binds))):=fun d W hW=>spBind_any x.binds d.proto d.inn d.inPort ba ca _ W hl1 (hx.bd.below hW)
 have HLF:Hid (∀ (st:Int) (W:World),Cb 161 #[.agg #[iV p.lv.udp,iV p.lv.echo,iV p.lv.opening,iV p.lv.opn,iV p.lv.closing],iV proto,iV st] W (iV (trackLifeV p.lv proto st))):=fun st W=>specLife_any p.lv proto st W
 have HV:Hid (newV p x ⟨proto,inside,addr,port,peer,peerPort,flags⟩ c now=if trackNewV proto inside flags=0 then boE 6 else if p.most≤(x.sess.length:Int) then boE 9 else if (if inside=true then (lendV p x.binds proto addr port).2 else 0)≠0 then boE (if inside=true then (lendV p x.binds proto addr port).2 else 0) else ⟨⟨newB x.binds (if inside=true then (lendV p x.binds proto addr port).1 else c),x.sess++[⟨proto,(if inside=true then (lendV p x.binds proto addr port).1 else c).inn,(if inside=true then (lendV p x.binds proto addr port).1 else c).inPort,peer,peerPort,trackNewV proto inside flags,now+trackLifeV p.lv proto (trackNewV proto inside flags)⟩]⟩,(if inside=true then (lendV p x.binds proto addr port).1 else c),0⟩):=rfl;unfold bdC at HPT;generalize newV p x ⟨proto,inside,addr,port,peer,peerPort,flags⟩ c now=ans at *;generalize trackNewV proto inside flags=st at *;replace HLF:=HLF.out st;obtain ⟨hf0,hf1⟩:=trackLife_in p.lv proto st;have HLG:Hid _:=HLF;clear HLF;generalize trackLifeV p.lv proto st=lf at *;generalize (lendV p x.binds proto addr port).1=lb at *;generalize (lendV p x.binds proto addr port).2=lk at *;obtain ⟨d,hd⟩ : ∃ d,d=(if inside=true then lb else c):=⟨_,rfl⟩;obtain ⟨kd,hkd⟩ : ∃ k,k=(if inside=true then lk else 0):=⟨_,rfl⟩;rw [← hd,← hkd] at HV;have HD:Hid _:=hd;have HKD:Hid _:=hkd;have HNB:Hid (newB x.binds d=if findI (ofIn d.proto d.inn d.inPort) x.binds < 0 then x.binds++[d] else x.binds):=rfl;replace HBI:=HBI.out d;have HBJ:Hid _:=HBI;clear HBI;generalize newB x.binds d=nb at *;generalize findI (ofIn d.proto d.inn d.inPort) x.binds=fi at *;have hun:undef=Value.tuple #[]:=rfl;have hRw:w.z≤w.z+1+1+1+1:=by omega
 have e0:HoldsL ((aW (aW (aW (aW w (PlV pa pc p) 27) (BbV ba ca bo cb x) 31) (TcR proto inside addr port peer peerPort flags) 89) (BdV c) 48).alloc (.cells Z8V.toArray 104)) (w.z) (PlV pa pc p):=by
  have h:=HoldsL.new w (PlV pa pc p) 27;try simp only [World.size_alloc] at h
  exact ((((h.alloc _).alloc _).alloc _).alloc _)
 have e1:HoldsL ((aW (aW (aW (aW w (PlV pa pc p) 27) (BbV ba ca bo cb x) 31) (TcR proto inside addr port peer peerPort flags) 89) (BdV c) 48).alloc (.cells Z8V.toArray 104)) (w.z+1) (BbV ba ca bo cb x):=by
  have h:=HoldsL.new (w.alloc (.cells (PlV pa pc p).toArray 27)) (BbV ba ca bo cb x) 31;try simp only [World.size_alloc] at h
  exact (((h.alloc _).alloc _).alloc _)
 have e2:HoldsL ((aW (aW (aW (aW w (PlV pa pc p) 27) (BbV ba ca bo cb x) 31) (TcR proto inside addr port peer peerPort flags) 89) (BdV c) 48).alloc (.cells Z8V.toArray 104)) (w.z+1+1) (TcR proto inside addr port peer peerPort flags):=by
  have h:=HoldsL.new ((aW w (PlV pa pc p) 27).alloc (.cells (BbV ba ca bo cb x).toArray 31)) (TcR proto inside addr port peer peerPort flags) 89;try simp only [World.size_alloc] at h
  exact ((h.alloc _).alloc _)
 have e3:HoldsL ((aW (aW (aW (aW w (PlV pa pc p) 27) (BbV ba ca bo cb x) 31) (TcR proto inside addr port peer peerPort flags) 89) (BdV c) 48).alloc (.cells Z8V.toArray 104)) (w.z+1+1+1) (BdV c):=by
  have h:=HoldsL.new ((aW (aW w (PlV pa pc p) 27) (BbV ba ca bo cb x) 31).alloc (.cells (TcR proto inside addr port peer peerPort flags).toArray 89)) (BdV c) 48;try simp only [World.size_alloc] at h
  exact (h.alloc _)
 have e4:HoldsL ((aW (aW (aW (aW w (PlV pa pc p) 27) (BbV ba ca bo cb x) 31) (TcR proto inside addr port peer peerPort flags) 89) (BdV c) 48).alloc (.cells Z8V.toArray 104)) (w.z+1+1+1+1) Z8V:=by
  have h:=HoldsL.new ((aW (aW (aW w (PlV pa pc p) 27) (BbV ba ca bo cb x) 31) (TcR proto inside addr port peer peerPort flags) 89).alloc (.cells (BdV c).toArray 48)) Z8V 104;try simp only [World.size_alloc] at h
  exact h
 have HS0:Hid (Bxs w [(w.z,(PlV pa pc p)),(w.z+1,(BbV ba ca bo cb x)),(w.z+1+1,(TcR proto inside addr port peer peerPort flags)),(w.z+1+1+1,(BdV c)),(w.z+1+1+1+1,Z8V)] ((aW (aW (aW (aW w (PlV pa pc p) 27) (BbV ba ca bo cb x) 31) (TcR proto inside addr port peer peerPort flags) 89) (BdV c) 48).alloc (.cells Z8V.toArray 104))):=by
  refine ⟨fun e he=>?_,(((((bR.alloc lR _).alloc (by simp only [World.size_alloc]; omega) _).alloc (by simp only [World.size_alloc]; omega) _).alloc (by simp only [World.size_alloc]; omega) _).alloc (by simp only [World.size_alloc]; omega) _),fun e he=>?_⟩
  ·simp only [List.mem_cons,List.not_mem_nil,or_false] at he;rcases he with rfl | rfl | rfl | rfl | rfl
   ·exact e0
   ·exact e1
   ·exact e2
   ·exact e3
   ·exact e4
  ·simp only [List.mem_cons,List.not_mem_nil,or_false] at he;rcases he with rfl | rfl | rfl | rfl | rfl<;>simp
 clear e0 e1 e2 e3 e4 hp hx hd hkd hpo hnow;unfold plC bbC tcC bdC;go_enter Tryz.func157,Tryz.ntmps157
 go_upto_region 1 with fail
 generalize World.alloc _ _=W at *;have HHt:=HS0.out.at mE2;obtain ⟨t0,t1,t2,t3,t4,t5,t6⟩:=HHt.c7;clear HHt;have HHb:=HS0.out.at mE1;obtain ⟨b0,b1⟩:=HHb.c2;clear HHb;have HHp:=HS0.out.at mE0;have p3:=HHp.cell (j:=3) rfl;clear HHp;go_wp2_with fail
 refine (HN.out _).mono ?_;rintro e W ⟨rfl,rfl⟩;by_cases hst:st=0
 case pos =>
  have dst:(st==0)=true:=by simp [hst]
  have HX:Hid (ans=boE (6)):=by unfold Hid; rw [HV.out,if_pos hst]
  have HHz:=HS0.out.at mE4;obtain ⟨z0,z1,z2,z3,z4,z5,z6,z7⟩:=HHz.c8;obtain ⟨zf0,zf1,zf2,zf3,zf4,zf5,zf6,zf7⟩:=HHz.f8;obtain ⟨HRR,RB⟩:=st8 HHz HS0.out.b hRw (.slice none 0 0) (.slice none 0 0) (iV 0) eS (iV 0) eS (iV 0) (iV (6));clear HHz;go_wp2_with fail
  exact bodyPost_ret (results_mid Tryz.results157 _ _ (w.z+1+1+1+1) [.slice none 0 0,.slice none 0 0,iV 0,eS,iV 0,eS,iV 0,iV (6)] _ rfl HRR.out Tryz.underlying104 rfl (show (Tryz.prog.info? 104).map (·.size)=some 8 by kernel_rfl)) rfl (And.intro (by rw [HX.out]; exact ⟨none,none,0,0,rfl,.inl rfl,.inl rfl,fun g h e1=>by simp at e1⟩) RB.out)
 have dst:(st==0)=false:=by simp [hst]
 by_cases hm:p.most≤(x.sess.length:Int)
 case pos =>
  have HX:Hid (ans=boE (9)):=by unfold Hid; rw [HV.out,if_neg hst,if_pos hm]
  have HHz:=HS0.out.at mE4;obtain ⟨z0,z1,z2,z3,z4,z5,z6,z7⟩:=HHz.c8;obtain ⟨zf0,zf1,zf2,zf3,zf4,zf5,zf6,zf7⟩:=HHz.f8;obtain ⟨HRR,RB⟩:=st8 HHz HS0.out.b hRw (.slice none 0 0) (.slice none 0 0) (iV 0) eS (iV 0) eS (iV 0) (iV (9));clear HHz;go_wp2_with fail
  exact bodyPost_ret (results_mid Tryz.results157 _ _ (w.z+1+1+1+1) [.slice none 0 0,.slice none 0 0,iV 0,eS,iV 0,eS,iV 0,iV (9)] _ rfl HRR.out Tryz.underlying104 rfl (show (Tryz.prog.info? 104).map (·.size)=some 8 by kernel_rfl)) rfl (And.intro (by rw [HX.out]; exact ⟨none,none,0,0,rfl,.inl rfl,.inl rfl,fun g h e1=>by simp at e1⟩) RB.out)
 rw [if_neg hst,if_neg hm] at HV;go_upto_if 32 with fail
 clear p3 hm dst;go_cut [12] (fun v wx=>v=iV kd∧Bxs w [(w.z,(PlV pa pc p)),(w.z+1,(BbV ba ca bo cb x)),(w.z+1+1,(TcR proto inside addr port peer peerPort flags)),(w.z+1+1+1,(BdV d)),(w.z+1+1+1+1,Z8V)] wx)
 case first =>
  clear HV HLG HN HBJ HCY HNB
  cases inside with
  | false =>
   have hd:d=c:=by rw [HD.out]; rfl
   have hk:kd=0:=by rw [HKD.out]; rfl
   go_wp2_with fail
   go_meet;exact ⟨by rw [hk],by rw [hd]; exact HS0.out⟩
  | true =>
   have hd:d=lb:=by rw [HD.out]; rfl
   have hk:kd=lk:=by rw [HKD.out]; rfl
   have HHp:=HS0.out.at mE0;obtain ⟨p0,p1,p2,p3,p4,p5,p6,p7,p8,p9⟩:=HHp.c10;clear HHp;go_wp2_with fail
   refine (HPT.out _ HS0.out.b).mono ?_;rintro e W2 ⟨rfl,q2⟩;have S2:Hid _:=HS0.out.kept q2;clear q2;have HHx:=S2.out.at mE3;obtain ⟨x0,x1,x2,x3,x4⟩:=HHx.c5;obtain ⟨xf0,xf1,xf2,xf3,xf4⟩:=HHx.f5;have HBX:Hid (Bxs w [(w.z,(PlV pa pc p)),(w.z+1,(BbV ba ca bo cb x)),(w.z+1+1,(TcR proto true addr port peer peerPort flags)),(w.z+1+1+1,(BdV lb)),(w.z+1+1+1+1,Z8V)] ((sW (sW (sW (sW W2 (w.z+1+1+1) 0 (iV lb.proto)) (w.z+1+1+1) 1 (.string lb.inn)) (w.z+1+1+1) 2 (iV lb.inPort)) (w.z+1+1+1) 3 (.string lb.out)).setCell ⟨w.z+1+1+1,4,none⟩ (iV lb.outPort))):=by
    refine ⟨fun e he=>?_,(((((S2.out.b.setCell (p:=⟨w.z+1+1+1,0,none⟩) (by show w.z≤w.z+1+1+1; omega) (iV lb.proto)).setCell (p:=⟨w.z+1+1+1,1,none⟩) (by show w.z≤w.z+1+1+1; omega) (.string lb.inn)).setCell (p:=⟨w.z+1+1+1,2,none⟩) (by show w.z≤w.z+1+1+1; omega) (iV lb.inPort)).setCell (p:=⟨w.z+1+1+1,3,none⟩) (by show w.z≤w.z+1+1+1; omega) (.string lb.out)).setCell (p:=⟨w.z+1+1+1,4,none⟩) (by show w.z≤w.z+1+1+1; omega) (iV lb.outPort)),fun e he=>?_⟩
    ·simp only [List.mem_cons,List.not_mem_nil,or_false] at he;rcases he with rfl | rfl | rfl | rfl | rfl
     ·exact (HoldsL.setOther (HoldsL.setOther (HoldsL.setOther (HoldsL.setOther (HoldsL.setOther (S2.out.k _ mE0) (by show w.z≠w.z+1+1+1; omega) (iV lb.proto)) (by show w.z≠w.z+1+1+1; omega) (.string lb.inn)) (by show w.z≠w.z+1+1+1; omega) (iV lb.inPort)) (by show w.z≠w.z+1+1+1; omega) (.string lb.out)) (by show w.z≠w.z+1+1+1; omega) (iV lb.outPort))
     ·exact (HoldsL.setOther (HoldsL.setOther (HoldsL.setOther (HoldsL.setOther (HoldsL.setOther (S2.out.k _ mE1) (by show w.z+1≠w.z+1+1+1; omega) (iV lb.proto)) (by show w.z+1≠w.z+1+1+1; omega) (.string lb.inn)) (by show w.z+1≠w.z+1+1+1; omega) (iV lb.inPort)) (by show w.z+1≠w.z+1+1+1; omega) (.string lb.out)) (by show w.z+1≠w.z+1+1+1; omega) (iV lb.outPort))
     ·exact (HoldsL.setOther (HoldsL.setOther (HoldsL.setOther (HoldsL.setOther (HoldsL.setOther (S2.out.k _ mE2) (by show w.z+1+1≠w.z+1+1+1; omega) (iV lb.proto)) (by show w.z+1+1≠w.z+1+1+1; omega) (.string lb.inn)) (by show w.z+1+1≠w.z+1+1+1; omega) (iV lb.inPort)) (by show w.z+1+1≠w.z+1+1+1; omega) (.string lb.out)) (by show w.z+1+1≠w.z+1+1+1; omega) (iV lb.outPort))
     ·exact (((((HHx.set 0 (iV lb.proto)).set 1 (.string lb.inn)).set 2 (iV lb.inPort)).set 3 (.string lb.out)).set 4 (iV lb.outPort))
     ·exact (HoldsL.setOther (HoldsL.setOther (HoldsL.setOther (HoldsL.setOther (HoldsL.setOther (S2.out.k _ mE4) (by show w.z+1+1+1+1≠w.z+1+1+1; omega) (iV lb.proto)) (by show w.z+1+1+1+1≠w.z+1+1+1; omega) (.string lb.inn)) (by show w.z+1+1+1+1≠w.z+1+1+1; omega) (iV lb.inPort)) (by show w.z+1+1+1+1≠w.z+1+1+1; omega) (.string lb.out)) (by show w.z+1+1+1+1≠w.z+1+1+1; omega) (iV lb.outPort))
    ·simp only [List.mem_cons,List.not_mem_nil,or_false] at he;rcases he with rfl | rfl | rfl | rfl | rfl<;>simp
   clear HHx;go_wp2_with fail
   go_meet;exact ⟨by rw [hk],by rw [hd]; exact HBX.out⟩
 case rest =>
 obtain ⟨rfl,hS⟩:=hcut;have S1:Hid _:=hS;clear hS HS0 HPT HN t0 t1 t2 t3 t4 t5 t6 b0 b1;generalize wc=W1 at *;by_cases hk:kd=0
 case neg =>
  have dk:(kd != 0)=true:=by simp [hk]
  have HX:Hid (ans=boE (kd)):=by unfold Hid; rw [HV.out,if_pos hk]
  have HHz:=S1.out.at mE4;obtain ⟨z0,z1,z2,z3,z4,z5,z6,z7⟩:=HHz.c8;obtain ⟨zf0,zf1,zf2,zf3,zf4,zf5,zf6,zf7⟩:=HHz.f8;obtain ⟨HRR,RB⟩:=st8 HHz S1.out.b hRw (.slice none 0 0) (.slice none 0 0) (iV 0) eS (iV 0) eS (iV 0) (iV (kd));clear HHz;go_wp2_with fail
  exact bodyPost_ret (results_mid Tryz.results157 _ _ (w.z+1+1+1+1) [.slice none 0 0,.slice none 0 0,iV 0,eS,iV 0,eS,iV 0,iV (kd)] _ rfl HRR.out Tryz.underlying104 rfl (show (Tryz.prog.info? 104).map (·.size)=some 8 by kernel_rfl)) rfl (And.intro (by rw [HX.out]; exact ⟨none,none,0,0,rfl,.inl rfl,.inl rfl,fun g h e1=>by simp at e1⟩) RB.out)
 have dk:(kd != 0)=false:=by simp [hk]
 rw [if_neg (by simp [hk])] at HV;clear hk;have HHb:=S1.out.at mE1;obtain ⟨b0,b1⟩:=HHb.c2;clear HHb;go_wp2_with fail
 refine (HCY.out _ S1.out.b).mono ?_;rintro e W5 ⟨⟨bv,sv,rfl,o1,o2⟩,q5⟩;have S5:Hid _:=S1.out.kept q5;have HO:Hid _:=RowsO.make (ks:=[(w.z,(PlV pa pc p)),(w.z+1,(BbV ba ca bo cb x)),(w.z+1+1,(TcR proto inside addr port peer peerPort flags)),(w.z+1+1+1,(BdV d)),(w.z+1+1+1+1,Z8V)]) (x:=x) S1.out.b.size S5.out.b o1 o2 S5.out.k S1.out.lts q5.size;obtain ⟨ab,cb1,hbv,-,-⟩:=(Row.shape bdL_length (w0:=W5) ⟨o1,Below.refl _ _⟩ : ∃ a' cap,bv=.slice a' x.binds.length cap∧x.binds.length≤cap∧SlOwn bdL 5 W1.heap.size W5 a' x.binds);obtain ⟨sa,cs1,hsv,-,-⟩:=(Row.shape ssL_length (w0:=W5) ⟨o2,Below.refl _ _⟩ : ∃ a' cap,sv=.slice a' x.sess.length cap∧x.sess.length≤cap∧SlOwn ssL 7 W1.heap.size W5 a' x.sess);subst hbv hsv;clear q5 o1 o2 S5 S1 b0 b1 dk;go_upto_region 12 with fail
 generalize (W5.alloc (.cells #[(.slice ab x.binds.length cb1),(.slice sa x.sess.length cs1)] 31))=W6 at *;generalize W5.heap.size=O at *;generalize W1.heap.size=base at *;have HHb:=HO.out.at mE1;obtain ⟨b0,b1⟩:=HHb.c2;clear HHb;have HHx:=HO.out.at mE3;obtain ⟨x0,x1,x2,x3,x4⟩:=HHx.c5;clear HHx;go_wp2_with fail
 refine (HBJ.out _ HO.out.b).mono ?_;rintro e W7 ⟨rfl,q7⟩;have S7:Hid _:=HO.out.kept q7;clear q7 HO b0 b1 x0 x1 x2 x3 x4;by_cases hfi:fi < 0
 ·
  have hnb:nb=x.binds++[d]:=by rw [HNB.out,if_pos hfi]
  rw [hnb] at HV;clear hnb HNB;have bn:Below W7.heap.size W7 (W7.alloc (.cells (BdV d).toArray 48)):=bR.alloc lR _;obtain ⟨v6,w6,hrun,⟨gb,lb6,cb6,rfl⟩,hO6,S6⟩:=(S7.out.kept bn).appB d W7.heap.size (HoldsL.new W7 (bdL d) 48) hl1;have HRUN:Hid _:=hrun;have S8:Hid _:=S6;have k0:=S7.out.o.cell (j:=0) rfl;have HHx:=S7.out.at mE3;obtain ⟨x0,x1,x2,x3,x4⟩:=HHx.c5;clear HHx;have p1:=hO6.cell (j:=0) rfl;have p2:=hO6.free (j:=0) (by simp);clear hrun S6 hO6 S7 bn;go_upto_region 14 with (first | (at_builtin; refine wpList_append_run rfl (.tmp 61) (.tmp 63) _ rfl rfl rfl HRUN.out ?_) | go_in)
  clear HRUN p1 p2 k0 x0 x1 x2 x3 x4;generalize (w6.setCell ⟨O,0,none⟩ (.slice (some ⟨gb,0,none⟩) lb6 cb6))=W8 at *;have HCP:Hid (∀ wy,Below W8.drew.heap.size W8.drew wy→_):=fun wy hy=>S8.out.kept (bR.drew.trans hy)
  clear hun;refine wp_region_growV [66,67,68,69,70,71,72,73,74,75,76,77,78,79,80,81,82,83,84,85,86,87,88] (by kernel_rfl) (by kernel_rfl) ?_;iterate 22 (apply GChV.u rfl;(·intro K' a wy ho hd hb hK;simp [rAt,IsV,slot,Region.binds] at ho hd;have hst:=HCP.out wy hb;have ko:=hst.o.cell (j:=1) rfl;have kC:=(hst.at mE2).c7;have kC:=(hst.at mE3).c5;have kC:=(hst.at mE0).c10;clear hst;go_simp;first|((try go_bits);exact hK _ _ rfl bQ)|(refine (HLG.out wy).mono ?_;rintro e wz ⟨rfl,hz⟩;exact hK _ _ rfl hz));dsimp only [nA,cA])
  refine GChV.rel (n:=22) (IsOneC (ssL ⟨proto,d.inn,d.inPort,peer,peerPort,st,now+lf⟩)) (stable_isOneC _ (by simp [ssL])) [_,_,_,_,_,_,_,_,_,_,_,_,_,_,_,_,_,_,_,_,_,_,IsOneC (ssL ⟨proto,d.inn,d.inPort,peer,peerPort,st,now+lf⟩)] rfl rfl ?_ ?_
  ·intro K' a wy ho hd hb hK;rw [wN rfl];have q21:=hd ⟨21,.data⟩ (by simp) rfl;simp [rAt,IsV,slot] at q21;clear hd ho;go_simp;exact hK _ _ ⟨wy.heap.size,rfl,HoldsL.new wy (ssL ⟨proto,d.inn,d.inPort,peer,peerPort,st,now+lf⟩) _⟩ (bR.alloc lR _)
  intro X wz hR hz;obtain ⟨x0,x1,x2,x3,x4,x5,x6,x7,x8,x9,x10,x11,x12,x13,x14,x15,x16,x17,x18,x19,x20,x21,x22,-⟩:=hR;simp only [IsV] at x0 x1 x2 x3 x4 x5 x6 x7 x8 x9 x10 x11 x12 x13 x14 x15 x16 x17 x18 x19 x20 x21;simp only [putsFrom,x0,x1,x2,x3,x4,x5,x6,x7,x8,x9,x10,x11,x12,x13,x14,x15,x16,x17,x18,x19,x20,x21,putsFrom];clear x0 x1 x2 x3 x4 x5 x6 x7 x8 x9 x10 x11 x12 x13 x14 x15 x16 x17 x18 x19 x20 x21;obtain ⟨g7,e7,r7⟩:=x22;have SZ:=HCP.out wz hz;obtain ⟨v6,w6,hrun,⟨gg,l6,c6,rfl⟩,hO6,S6⟩:=SZ.appS ⟨proto,d.inn,d.inPort,peer,peerPort,st,now+lf⟩ g7 r7 hl2;have HRUN:Hid _:=hrun;have S9:Hid _:=S6;have p1:=hO6.cell (j:=1) rfl;have p2:=hO6.free (j:=1) (by simp);clear hrun S6 hO6 SZ r7 hz HCP;simp only [e7];simp only [List.length_cons,List.length_nil,List.drop_succ_cons,List.drop_zero,Nat.zero_add,Nat.reduceAdd];intro K5 hK5;with_reducible refine wp_append_run (.tmp 67) (.tmp 88) _ rfl ?_ ?_ HRUN.out (hK5 _ _ ?_)
  ·simp [Act.eval,Act.put]
  ·simp [Act.eval,Act.put]
  intro K6 hK6;go_simp;refine hK6 _ _ ?_;intro K7 hK7;go_simp;refine hK7 _ _ ?_;simp only [wpSeq];clear HRUN p1 p2;generalize (w6.setCell ⟨O,1,none⟩ (.slice (some ⟨gg,0,none⟩) l6 c6))=W9 at *;obtain ⟨k0,k1⟩:=S9.out.o.c2;have HHx:=S9.out.at mE3;obtain ⟨x0,x1,x2,x3,x4⟩:=HHx.c5;clear HHx;have HHz:=S9.out.at mE4;obtain ⟨z0,z1,z2,z3,z4,z5,z6,z7⟩:=HHz.c8;obtain ⟨zf0,zf1,zf2,zf3,zf4,zf5,zf6,zf7⟩:=HHz.f8;obtain ⟨HRR,RB⟩:=st8 HHz S9.out.b hRw ((.slice (some ⟨gb,0,none⟩) lb6 cb6)) ((.slice (some ⟨gg,0,none⟩) l6 c6)) (iV d.proto) (.string d.inn) (iV d.inPort) (.string d.out) (iV d.outPort) (iV 0);obtain ⟨a1,q1,hb1,-,hbo⟩:=S9.out.shapes.1;obtain ⟨a2,q2,hb2,-,hso⟩:=S9.out.shapes.2;injection hb1 with i1 i2 i3
  injection hb2 with i4 i5 i6
  have hRb:w.z+1+1+1+1 < base:=(S9.out.kb _ mE4).1;have hwb:=S9.out.wb;have HOW:Hid (BbOwn w.z ((sW (sW (sW (sW (sW (sW (sW W9 (w.z+1+1+1+1) 0 ((.slice (some ⟨gb,0,none⟩) lb6 cb6))) (w.z+1+1+1+1) 1 ((.slice (some ⟨gg,0,none⟩) l6 c6))) (w.z+1+1+1+1) 2 (iV d.proto)) (w.z+1+1+1+1) 3 (.string d.inn)) (w.z+1+1+1+1) 4 (iV d.inPort)) (w.z+1+1+1+1) 5 (.string d.out)) (w.z+1+1+1+1) 6 (iV d.outPort)).setCell ⟨w.z+1+1+1+1,7,none⟩ (iV 0)) a1 a2 ⟨x.binds++[d],x.sess++[⟨proto,d.inn,d.inPort,peer,peerPort,st,now+lf⟩]⟩):=⟨(hbo.grown (grown_set (grown_set (grown_set (grown_set (grown_set (grown_set (grown_set (grown_set (World.grownBy.refl _ _) _) _) _) _) _) _) _) _) hRb).down hwb,(hso.grown (grown_set (grown_set (grown_set (grown_set (grown_set (grown_set (grown_set (grown_set (World.grownBy.refl _ _) _) _) _) _) _) _) _) _) hRb).down hwb,fun g h e1 e2 _ _ e3=>S9.out.ne g (by rw [i1,e1]; rfl) (by rw [i4,e2,← e3]; rfl)⟩;have I1:Hid _:=i1;have I2:Hid _:=i2;have I3:Hid _:=i3;have I4:Hid _:=i4;have I5:Hid _:=i5;have I6:Hid _:=i6;clear HHz hbo hso S9 i1 i2 i3 i4 i5 i6;go_wp2_with fail
  exact bodyPost_ret (results_mid Tryz.results157 _ _ _ _ _ rfl HRR.out Tryz.underlying104 rfl (show (Tryz.prog.info? 104).map (·.size)=some 8 by kernel_rfl)) rfl (And.intro (by rw [HV.out]; exact ⟨a1,a2,q1,q2,by first | (rw [I1.out,I2.out,I3.out,I4.out,I5.out,I6.out]; rfl) | (rw [I1.out,I3.out,I4.out,I5.out,I6.out]; rfl),HOW.out⟩) RB.out)
 ·
  have hnb:nb=x.binds:=by rw [HNB.out,if_neg hfi]
  rw [hnb] at HV;clear hnb HNB;have S8:Hid _:=S7.out;clear S7;go_upto_region 14 with fail
  have HCP:Hid (∀ wy,Below W7.drew.heap.size W7.drew wy→_):=fun wy hy=>S8.out.kept (bR.drew.trans hy)
  clear hun;refine wp_region_growV [66,67,68,69,70,71,72,73,74,75,76,77,78,79,80,81,82,83,84,85,86,87,88] (by kernel_rfl) (by kernel_rfl) ?_;iterate 22 (apply GChV.u rfl;(·intro K' a wy ho hd hb hK;simp [rAt,IsV,slot,Region.binds] at ho hd;have hst:=HCP.out wy hb;have ko:=hst.o.cell (j:=1) rfl;have kC:=(hst.at mE2).c7;have kC:=(hst.at mE3).c5;have kC:=(hst.at mE0).c10;clear hst;go_simp;first|((try go_bits);exact hK _ _ rfl bQ)|(refine (HLG.out wy).mono ?_;rintro e wz ⟨rfl,hz⟩;exact hK _ _ rfl hz));dsimp only [nA,cA])
  refine GChV.rel (n:=22) (IsOneC (ssL ⟨proto,d.inn,d.inPort,peer,peerPort,st,now+lf⟩)) (stable_isOneC _ (by simp [ssL])) [_,_,_,_,_,_,_,_,_,_,_,_,_,_,_,_,_,_,_,_,_,_,IsOneC (ssL ⟨proto,d.inn,d.inPort,peer,peerPort,st,now+lf⟩)] rfl rfl ?_ ?_
  ·intro K' a wy ho hd hb hK;rw [wN rfl];have q21:=hd ⟨21,.data⟩ (by simp) rfl;simp [rAt,IsV,slot] at q21;clear hd ho;go_simp;exact hK _ _ ⟨wy.heap.size,rfl,HoldsL.new wy (ssL ⟨proto,d.inn,d.inPort,peer,peerPort,st,now+lf⟩) _⟩ (bR.alloc lR _)
  intro X wz hR hz;obtain ⟨x0,x1,x2,x3,x4,x5,x6,x7,x8,x9,x10,x11,x12,x13,x14,x15,x16,x17,x18,x19,x20,x21,x22,-⟩:=hR;simp only [IsV] at x0 x1 x2 x3 x4 x5 x6 x7 x8 x9 x10 x11 x12 x13 x14 x15 x16 x17 x18 x19 x20 x21;simp only [putsFrom,x0,x1,x2,x3,x4,x5,x6,x7,x8,x9,x10,x11,x12,x13,x14,x15,x16,x17,x18,x19,x20,x21,putsFrom];clear x0 x1 x2 x3 x4 x5 x6 x7 x8 x9 x10 x11 x12 x13 x14 x15 x16 x17 x18 x19 x20 x21;obtain ⟨g7,e7,r7⟩:=x22;have SZ:=HCP.out wz hz;obtain ⟨v6,w6,hrun,⟨gg,l6,c6,rfl⟩,hO6,S6⟩:=SZ.appS ⟨proto,d.inn,d.inPort,peer,peerPort,st,now+lf⟩ g7 r7 hl2;have HRUN:Hid _:=hrun;have S9:Hid _:=S6;have p1:=hO6.cell (j:=1) rfl;have p2:=hO6.free (j:=1) (by simp);clear hrun S6 hO6 SZ r7 hz HCP;simp only [e7];simp only [List.length_cons,List.length_nil,List.drop_succ_cons,List.drop_zero,Nat.zero_add,Nat.reduceAdd];intro K5 hK5;with_reducible refine wp_append_run (.tmp 67) (.tmp 88) _ rfl ?_ ?_ HRUN.out (hK5 _ _ ?_)
  ·simp [Act.eval,Act.put]
  ·simp [Act.eval,Act.put]
  intro K6 hK6;go_simp;refine hK6 _ _ ?_;intro K7 hK7;go_simp;refine hK7 _ _ ?_;simp only [wpSeq];clear HRUN p1 p2;generalize (w6.setCell ⟨O,1,none⟩ (.slice (some ⟨gg,0,none⟩) l6 c6))=W9 at *;obtain ⟨k0,k1⟩:=S9.out.o.c2;have HHx:=S9.out.at mE3;obtain ⟨x0,x1,x2,x3,x4⟩:=HHx.c5;clear HHx;have HHz:=S9.out.at mE4;obtain ⟨z0,z1,z2,z3,z4,z5,z6,z7⟩:=HHz.c8;obtain ⟨zf0,zf1,zf2,zf3,zf4,zf5,zf6,zf7⟩:=HHz.f8;obtain ⟨HRR,RB⟩:=st8 HHz S9.out.b hRw ((.slice ab x.binds.length cb1)) ((.slice (some ⟨gg,0,none⟩) l6 c6)) (iV d.proto) (.string d.inn) (iV d.inPort) (.string d.out) (iV d.outPort) (iV 0);obtain ⟨a1,q1,hb1,-,hbo⟩:=S9.out.shapes.1;obtain ⟨a2,q2,hb2,-,hso⟩:=S9.out.shapes.2;injection hb1 with i1 i2 i3
  injection hb2 with i4 i5 i6
  have hRb:w.z+1+1+1+1 < base:=(S9.out.kb _ mE4).1;have hwb:=S9.out.wb;have HOW:Hid (BbOwn w.z ((sW (sW (sW (sW (sW (sW (sW W9 (w.z+1+1+1+1) 0 ((.slice ab x.binds.length cb1))) (w.z+1+1+1+1) 1 ((.slice (some ⟨gg,0,none⟩) l6 c6))) (w.z+1+1+1+1) 2 (iV d.proto)) (w.z+1+1+1+1) 3 (.string d.inn)) (w.z+1+1+1+1) 4 (iV d.inPort)) (w.z+1+1+1+1) 5 (.string d.out)) (w.z+1+1+1+1) 6 (iV d.outPort)).setCell ⟨w.z+1+1+1+1,7,none⟩ (iV 0)) a1 a2 ⟨x.binds,x.sess++[⟨proto,d.inn,d.inPort,peer,peerPort,st,now+lf⟩]⟩):=⟨(hbo.grown (grown_set (grown_set (grown_set (grown_set (grown_set (grown_set (grown_set (grown_set (World.grownBy.refl _ _) _) _) _) _) _) _) _) _) hRb).down hwb,(hso.grown (grown_set (grown_set (grown_set (grown_set (grown_set (grown_set (grown_set (grown_set (World.grownBy.refl _ _) _) _) _) _) _) _) _) _) hRb).down hwb,fun g h e1 e2 _ _ e3=>S9.out.ne g (by rw [i1,e1]; rfl) (by rw [i4,e2,← e3]; rfl)⟩;have I1:Hid _:=i1;have I2:Hid _:=i2;have I3:Hid _:=i3;have I4:Hid _:=i4;have I5:Hid _:=i5;have I6:Hid _:=i6;clear HHz hbo hso S9 i1 i2 i3 i4 i5 i6;go_wp2_with fail
  exact bodyPost_ret (results_mid Tryz.results157 _ _ _ _ _ rfl HRR.out Tryz.underlying104 rfl (show (Tryz.prog.info? 104).map (·.size)=some 8 by kernel_rfl)) rfl (And.intro (by rw [HV.out]; exact ⟨a1,a2,q1,q2,by first | (rw [I1.out,I2.out,I3.out,I4.out,I5.out,I6.out]; rfl) | (rw [I1.out,I3.out,I4.out,I5.out,I6.out]; rfl),HOW.out⟩) RB.out)
end Go.Proofs.YtdkepkaflielhaaGreatDoor
