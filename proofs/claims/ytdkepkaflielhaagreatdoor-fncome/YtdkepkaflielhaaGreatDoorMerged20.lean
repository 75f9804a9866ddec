import Derived.Test.YtdkepkaflielhaaGreatDoorMerged19
set_option linter.unusedVariables false
set_option linter.unusedSimpArgs false
set_option maxRecDepth 100000
set_option maxHeartbeats 8000000
namespace Go.Proofs.YtdkepkaflielhaaGreatDoor
open Go.RowKit Go.PlainAid
theorem spNew_any (pa:Option Addr) (pc:Nat) (p:Pl) (ba bo:Option Addr) (ca cb:Nat) (x:Bb) (t:Tc) (c:Bd) (now:Int) (w:World) (hpo:poolOk p=true) (hnow:isTime now=true) (hta:t.addr.size≤1048576) (h0:0≤t.port) (h1:t.port≤65535) (hl1:x.binds.length≤1048576) (hl2:x.sess.length≤1048576) (hp:SlIs strL1 1 w pa p.addrs) (hx:BbIs w ba bo x) :
  Calls Tryz.prog 157 #[plC pa pc p,bbC ba bo ca cb x,tcC t,bdC c,iV now] w fun e w'=>BoRet w.heap.size (newV p x t c now) e w'∧Below w.heap.size w w':=by
 obtain ⟨proto,inside,addr,port,peer,peerPort,flags⟩:=t;dsimp only at hta h0 h1;have hn:0≤now∧now≤1000000000:=by unfold isTime isIn at hnow; simp only [Bool.and_eq_true,decide_eq_true_iff] at hnow; omega
 obtain ⟨hn0,hn1⟩:=hn;have HN:Hid (∀ W,Cw 177 #[iV proto,.bool inside,iV flags] W (iV (trackNewV proto inside flags))):=fun W=>specNew_any proto inside flags W
 have HPT:Hid (∀ W,Below w.heap.size w W→Cb 178 #[.agg (PlV pa pc p).toArray,.agg (BbV ba ca bo cb x).toArray,iV proto,.string addr,iV port] W (.tuple #[bdC (lendV p x.binds proto addr port).1,iV (lendV p x.binds proto addr port).2])):=fun W hW=>spPort_any p x pa pc ba bo ca cb proto addr port W hpo hta h0 h1 hl1 hl2 (hp.below hW) (hx.below hW)
 have HCY:Hid (∀ W,Below w.heap.size w W→Calls Tryz.prog 126 #[.agg (BbV ba ca bo cb x).toArray] W fun e w'=>CopyRet W.heap.size x e w'∧Below W.heap.size W w'):=fun W hW=>spCopy_any x ba bo ca cb W hl1 hl2 (hx.below hW)
 have HBI:Hid (∀ (d:Bd) (W:World),Below w.heap.size w W→Cb 33 #[.agg (BbV ba ca bo cb x).toArray,iV d.proto,.string d.inn,iV d.inPort] W (iV (findI (ofIn d.proto d.inn d.inPort) x.binds))):=fun d W hW=>spBind_any x.binds d.proto d.inn d.inPort ba ca _ W hl1 (hx.bd.below hW)
 have HLF:Hid (∀ (st:Int) (W:World),Cb 161 #[.agg #[iV p.lv.udp,iV p.lv.echo,iV p.lv.opening,iV p.lv.opn,iV p.lv.closing],iV proto,iV st] W (iV (trackLifeV p.lv proto st))):=fun st W=>specLife_any p.lv proto st W
 have HV:Hid (newV p x ⟨proto,inside,addr,port,peer,peerPort,flags⟩ c now=if trackNewV proto inside flags=0 then boE 6 else if p.most≤(x.sess.length:Int) then boE 9 else if (if inside=true then (lendV p x.binds proto addr port).2 else 0)≠0 then boE (if inside=true then (lendV p x.binds proto addr port).2 else 0) else ⟨⟨newB x.binds (if inside=true then (lendV p x.binds proto addr port).1 else c),x.sess++[⟨proto,(if inside=true then (lendV p x.binds proto addr port).1 else c).inn,(if inside=true then (lendV p x.binds proto addr port).1 else c).inPort,peer,peerPort,trackNewV proto inside flags,now+trackLifeV p.lv proto (trackNewV proto inside flags)⟩]⟩,(if inside=true then (lendV p x.binds proto addr port).1 else c),0⟩):=rfl;unfold bdC at HPT;generalize newV p x ⟨proto,inside,addr,port,peer,peerPort,flags⟩ c now=ans at *;generalize trackNewV proto inside flags=st at *;replace HLF:=HLF.out st;obtain ⟨hf0,hf1⟩:=trackLife_in p.lv proto st;have HLG:Hid _:=HLF;clear HLF;generalize trackLifeV p.lv proto st=lf at *;generalize (lendV p x.binds proto addr port).1=lb at *;generalize (lendV p x.binds proto addr port).2=lk at *;obtain ⟨d,hd⟩ : ∃ d,d=(if inside=true then lb else c):=⟨_,rfl⟩;obtain ⟨kd,hkd⟩ : ∃ k,k=(if inside=true then lk else 0):=⟨_,rfl⟩;rw [← hd,← hkd] at HV;have HD:Hid _:=hd;have HKD:Hid _:=hkd;have HNB:Hid (newB x.binds d=if findI (ofIn d.proto d.inn d.inPort) x.binds < 0 then x.binds++[d] else x.binds):=rfl;replace HBI:=HBI.out d;have HBJ:Hid _:=HBI;clear HBI;generalize newB x.binds d=nb at *;generalize findI (ofIn d.proto d.inn d.inPort) x.binds=fi at *;have hun:undef=Value.tuple #[]:=rfl;have hRw:w.heap.size≤w.heap.size+1+1+1+1:=by omega
 have e0:HoldsL ((aW (aW (aW (aW w (PlV pa pc p) 27) (BbV ba ca bo cb x) 31) (TcR proto inside addr port peer peerPort flags) 89) (BdV c) 48).alloc (.cells Z8V.toArray 104)) (w.heap.size) (PlV pa pc p):=by
  have h:=HoldsL.new w (PlV pa pc p) 27;try simp only [World.size_alloc] at h
  exact ((((h.alloc _).alloc _).alloc _).alloc _)
 have e1:HoldsL ((aW (aW (aW (aW w (PlV pa pc p) 27) (BbV ba ca bo cb x) 31) (TcR proto inside addr port peer peerPort flags) 89) (BdV c) 48).alloc (.cells Z8V.toArray 104)) (w.heap.size+1) (BbV ba ca bo cb x):=by
  have h:=HoldsL.new (w.alloc (.cells (PlV pa pc p).toArray 27)) (BbV ba ca bo cb x) 31;try simp only [World.size_alloc] at h
  exact (((h.alloc _).alloc _).alloc _)
 have e2:HoldsL ((aW (aW (aW (aW w (PlV pa pc p) 27) (BbV ba ca bo cb x) 31) (TcR proto inside addr port peer peerPort flags) 89) (BdV c) 48).alloc (.cells Z8V.toArray 104)) (w.heap.size+1+1) (TcR proto inside addr port peer peerPort flags):=by
  have h:=HoldsL.new ((aW w (PlV pa pc p) 27).alloc (.cells (BbV ba ca bo cb x).toArray 31)) (TcR proto inside addr port peer peerPort flags) 89;try simp only [World.size_alloc] at h
  exact ((h.alloc _).alloc _)
 have e3:HoldsL ((aW (aW (aW (aW w (PlV pa pc p) 27) (BbV ba ca bo cb x) 31) (TcR proto inside addr port peer peerPort flags) 89) (BdV c) 48).alloc (.cells Z8V.toArray 104)) (w.heap.size+1+1+1) (BdV c):=by
  have h:=HoldsL.new ((aW (aW w (PlV pa pc p) 27) (BbV ba ca bo cb x) 31).alloc (.cells (TcR proto inside addr port peer peerPort flags).toArray 89)) (BdV c) 48;try simp only [World.size_alloc] at h
  exact (h.alloc _)
 have e4:HoldsL ((aW (aW (aW (aW w (PlV pa pc p) 27) (BbV ba ca bo cb x) 31) (TcR proto inside addr port peer peerPort flags) 89) (BdV c) 48).alloc (.cells Z8V.toArray 104)) (w.heap.size+1+1+1+1) Z8V:=by
  have h:=HoldsL.new ((aW (aW (aW w (PlV pa pc p) 27) (BbV ba ca bo cb x) 31) (TcR proto inside addr port peer peerPort flags) 89).alloc (.cells (BdV c).toArray 48)) Z8V 104;try simp only [World.size_alloc] at h
  exact h
 have HS0:Hid (Bxs w [(w.heap.size,(PlV pa pc p)),(w.heap.size+1,(BbV ba ca bo cb x)),(w.heap.size+1+1,(TcR proto inside addr port peer peerPort flags)),(w.heap.size+1+1+1,(BdV c)),(w.heap.size+1+1+1+1,Z8V)] ((aW (aW (aW (aW w (PlV pa pc p) 27) (BbV ba ca bo cb x) 31) (TcR proto inside addr port peer peerPort flags) 89) (BdV c) 48).alloc (.cells Z8V.toArray 104))):=by
  refine ⟨fun e he=>?_,(((((bR.alloc lR _).alloc (by simp only [World.size_alloc]; omega) _).alloc (by simp only [World.size_alloc]; omega) _).alloc (by simp only [World.size_alloc]; omega) _).alloc (by simp only [World.size_alloc]; omega) _),fun e he=>?_⟩
  ·simp only [List.mem_cons,List.not_mem_nil,or_false] at he;rcases he with rfl | rfl | rfl | rfl | rfl
   ·exact e0
   ·exact e1
   ·exact e2
   ·exact e3
   ·exact e4
  ·simp only [List.mem_cons,List.not_mem_nil,or_false] at he;rcases he with rfl | rfl | rfl | rfl | rfl<;>simp
 clear e0 e1 e2 e3 e4 hp hx hd hkd hpo hnow;unfold plC bbC tcC bdC;go_enter Tryz.func157,Tryz.ntmps157
 go_upto_region 1 with fail
 generalize World.alloc _ _=W at *;have HHt:=HS0.out.at mE2;obtain ⟨t0,t1,t2,t3,t4,t5,t6⟩:=HHt.c7;clear HHt;have HHb:=HS0.out.at mE1;obtain ⟨b0,b1⟩:=HHb.c2;clear HHb;have HHp:=HS0.out.at mE0;have p3:=HHp.cell (j:=3) rfl;clear HHp;go_wp2_with fail
 refine (HN.out _).mono ?_;rintro e W ⟨rfl,rfl⟩;by_cases hst:st=0
 case pos =>
  have dst:(st==0)=true:=by simp [hst]
  have HX:Hid (ans=boE (6)):=by unfold Hid; rw [HV.out,if_pos hst]
  have HHz:=HS0.out.at mE4;obtain ⟨z0,z1,z2,z3,z4,z5,z6,z7⟩:=HHz.c8;obtain ⟨zf0,zf1,zf2,zf3,zf4,zf5,zf6,zf7⟩:=HHz.f8;obtain ⟨HRR,RB⟩:=st8 HHz HS0.out.b hRw (.slice none 0 0) (.slice none 0 0) (iV 0) eS (iV 0) eS (iV 0) (iV (6));clear HHz;go_wp2_with fail
  exact bodyPost_ret (results_mid Tryz.results157 _ _ (w.heap.size+1+1+1+1) [.slice none 0 0,.slice none 0 0,iV 0,eS,iV 0,eS,iV 0,iV (6)] _ rfl HRR.out Tryz.underlying104 rfl (show (Tryz.prog.info? 104).map (·.size)=some 8 by kernel_rfl)) rfl (And.intro (by rw [HX.out]; exact ⟨none,none,0,0,rfl,.inl rfl,.inl rfl,fun g h e1=>by simp at e1⟩) RB.out)
 have dst:(st==0)=false:=by simp [hst]
 by_cases hm:p.most≤(x.sess.length:Int)
 case pos =>
  have HX:Hid (ans=boE (9)):=by unfold Hid; rw [HV.out,if_neg hst,if_pos hm]
  have HHz:=HS0.out.at mE4;obtain ⟨z0,z1,z2,z3,z4,z5,z6,z7⟩:=HHz.c8;obtain ⟨zf0,zf1,zf2,zf3,zf4,zf5,zf6,zf7⟩:=HHz.f8;obtain ⟨HRR,RB⟩:=st8 HHz HS0.out.b hRw (.slice none 0 0) (.slice none 0 0) (iV 0) eS (iV 0) eS (iV 0) (iV (9));clear HHz;go_wp2_with fail
  exact bodyPost_ret (results_mid Tryz.results157 _ _ (w.heap.size+1+1+1+1) [.slice none 0 0,.slice none 0 0,iV 0,eS,iV 0,eS,iV 0,iV (9)] _ rfl HRR.out Tryz.underlying104 rfl (show (Tryz.prog.info? 104).map (·.size)=some 8 by kernel_rfl)) rfl (And.intro (by rw [HX.out]; exact ⟨none,none,0,0,rfl,.inl rfl,.inl rfl,fun g h e1=>by simp at e1⟩) RB.out)
 rw [if_neg hst,if_neg hm] at HV;go_upto_if 32 with fail
 clear p3 hm dst;go_cut [12] (fun v wx=>v=iV kd∧Bxs w [(w.heap.size,(PlV pa pc p)),(w.heap.size+1,(BbV ba ca bo cb x)),(w.heap.size+1+1,(TcR proto inside addr port peer peerPort flags)),(w.heap.size+1+1+1,(BdV d)),(w.heap.size+1+1+1+1,Z8V)] wx)
 case first =>
  clear HV HLG HN HBJ HCY HNB
  cases inside with
  | false =>
   have hd:d=c:=by rw [HD.out]; rfl
   have hk:kd=0:=by rw [HKD.out]; rfl
   go_wp2_with fail
   go_meet;exact ⟨by rw [hk],by rw [hd]; exact HS0.out⟩
  | true =>
   have hd:d=lb:=by rw [HD.out]; rfl
   have hk:kd=lk:=by rw [HKD.out]; rfl
   have HHp:=HS0.out.at mE0;obtain ⟨p0,p1,p2,p3,p4,p5,p6,p7,p8,p9⟩:=HHp.c10;clear HHp;go_wp2_with fail
   refine (HPT.out _ HS0.out.b).mono ?_;rintro e W2 ⟨rfl,q2⟩;have S2:Hid _:=HS0.out.kept q2;clear q2;have HHx:=S2.out.at mE3;obtain ⟨x0,x1,x2,x3,x4⟩:=HHx.c5;obtain ⟨xf0,xf1,xf2,xf3,xf4⟩:=HHx.f5;have HBX:Hid (Bxs w [(w.heap.size,(PlV pa pc p)),(w.heap.size+1,(BbV ba ca bo cb x)),(w.heap.size+1+1,(TcR proto true addr port peer peerPort flags)),(w.heap.size+1+1+1,(BdV lb)),(w.heap.size+1+1+1+1,Z8V)] ((sW (sW (sW (sW W2 (w.heap.size+1+1+1) 0 (iV lb.proto)) (w.heap.size+1+1+1) 1 (.string lb.inn)) (w.heap.size+1+1+1) 2 (iV lb.inPort)) (w.heap.size+1+1+1) 3 (.string lb.out)).setCell ⟨w.heap.size+1+1+1,4,none⟩ (iV lb.outPort))):=by
    refine ⟨fun e he=>?_,(((((S2.out.b.setCell (p:=⟨w.heap.size+1+1+1,0,none⟩) (by show w.heap.size≤w.heap.size+1+1+1; omega) (iV lb.proto)).setCell (p:=⟨w.heap.size+1+1+1,1,none⟩) (by show w.heap.size≤w.heap.size+1+1+1; omega) (.string lb.inn)).setCell (p:=⟨w.heap.size+1+1+1,2,none⟩) (by show w.heap.size≤w.heap.size+1+1+1; omega) (iV lb.inPort)).setCell (p:=⟨w.heap.size+1+1+1,3,none⟩) (by show w.heap.size≤w.heap.size+1+1+1; omega) (.string lb.out)).setCell (p:=⟨w.heap.size+1+1+1,4,none⟩) (by show w.heap.size≤w.heap.size+1+1+1; omega) (iV lb.outPort)),fun e he=>?_⟩
    ·simp only [List.mem_cons,List.not_mem_nil,or_false] at he;rcases he with rfl | rfl | rfl | rfl | rfl
     ·exact (HoldsL.setOther (HoldsL.setOther (HoldsL.setOther (HoldsL.setOther (HoldsL.setOther (S2.out.k _ mE0) (by show w.heap.size≠w.heap.size+1+1+1; omega) (iV lb.proto)) (by show w.heap.size≠w.heap.size+1+1+1; omega) (.string lb.inn)) (by show w.heap.size≠w.heap.size+1+1+1; omega) (iV lb.inPort)) (by show w.heap.size≠w.heap.size+1+1+1; omega) (.string lb.out)) (by show w.heap.size≠w.heap.size+1+1+1; omega) (iV lb.outPort))
     ·exact (HoldsL.setOther (HoldsL.setOther (HoldsL.setOther (HoldsL.setOther (HoldsL.setOther (S2.out.k _ mE1) (by show w.heap.size+1≠w.heap.size+1+1+1; omega) (iV lb.proto)) (by show w.heap.size+1≠w.heap.size+1+1+1; omega) (.string lb.inn)) (by show w.heap.size+1≠w.heap.size+1+1+1; omega) (iV lb.inPort)) (by show w.heap.size+1≠w.heap.size+1+1+1; omega) (.string lb.out)) (by show w.heap.size+1≠w.heap.size+1+1+1; omega) (iV lb.outPort))
     ·exact (HoldsL.setOther (HoldsL.setOther (HoldsL.setOther (HoldsL.setOther (HoldsL.setOther (S2.out.k _ mE2) (by show w.heap.size+1+1≠w.heap.size+1+1+1; omega) (iV lb.proto)) (by show w.heap.size+1+1≠w.heap.size+1+1+1; omega) (.string lb.inn)) (by show w.heap.size+1+1≠w.heap.size+1+1+1; omega) (iV lb.inPort)) (by show w.heap.size+1+1≠w.heap.size+1+1+1; omega) (.string lb.out)) (by show w.heap.size+1+1≠w.heap.size+1+1+1; omega) (iV lb.outPort))
     ·exact (((((HHx.set 0 (iV lb.proto)).set 1 (.string lb.inn)).set 2 (iV lb.inPort)).set 3 (.string lb.out)).set 4 (iV lb.outPort))
     ·exact (HoldsL.setOther (HoldsL.setOther (HoldsL.setOther (HoldsL.setOther (HoldsL.setOther (S2.out.k _ mE4) (by show w.heap.size+1+1+1+1≠w.heap.size+1+1+1; omega) (iV lb.proto)) (by show w.heap.size+1+1+1+1≠w.heap.size+1+1+1; omega) (.string lb.inn)) (by show w.heap.size+1+1+1+1≠w.heap.size+1+1+1; omega) (iV lb.inPort)) (by show w.heap.size+1+1+1+1≠w.heap.size+1+1+1; omega) (.string lb.out)) (by show w.heap.size+1+1+1+1≠w.heap.size+1+1+1; omega) (iV lb.outPort))
    ·simp only [List.mem_cons,List.not_mem_nil,or_false] at he;rcases he with rfl | rfl | rfl | rfl | rfl<;>simp
   clear HHx;go_wp2_with fail
   go_meet;exact ⟨by rw [hk],by rw [hd]; exact HBX.out⟩
 case rest =>
 obtain ⟨rfl,hS⟩:=hcut;have S1:Hid _:=hS;clear hS HS0 HPT HN t0 t1 t2 t3 t4 t5 t6 b0 b1;generalize wc=W1 at *;by_cases hk:kd=0
 case neg =>
  have dk:(kd != 0)=true:=by simp [hk]
  have HX:Hid (ans=boE (kd)):=by unfold Hid; rw [HV.out,if_pos hk]
  have HHz:=S1.out.at mE4;obtain ⟨z0,z1,z2,z3,z4,z5,z6,z7⟩:=HHz.c8;obtain ⟨zf0,zf1,zf2,zf3,zf4,zf5,zf6,zf7⟩:=HHz.f8;obtain ⟨HRR,RB⟩:=st8 HHz S1.out.b hRw (.slice none 0 0) (.slice none 0 0) (iV 0) eS (iV 0) eS (iV 0) (iV (kd));clear HHz;go_wp2_with fail
  exact bodyPost_ret (results_mid Tryz.results157 _ _ (w.heap.size+1+1+1+1) [.slice none 0 0,.slice none 0 0,iV 0,eS,iV 0,eS,iV 0,iV (kd)] _ rfl HRR.out Tryz.underlying104 rfl (show (Tryz.prog.info? 104).map (·.size)=some 8 by kernel_rfl)) rfl (And.intro (by rw [HX.out]; exact ⟨none,none,0,0,rfl,.inl rfl,.inl rfl,fun g h e1=>by simp at e1⟩) RB.out)
 have dk:(kd != 0)=false:=by simp [hk]
 rw [if_neg (by simp [hk])] at HV;clear hk;have HHb:=S1.out.at mE1;obtain ⟨b0,b1⟩:=HHb.c2;clear HHb;go_wp2_with fail
 refine (HCY.out _ S1.out.b).mono ?_;rintro e W5 ⟨⟨bv,sv,rfl,o1,o2⟩,q5⟩;have S5:Hid _:=S1.out.kept q5;have HO:Hid _:=RowsO.make (ks:=[(w.heap.size,(PlV pa pc p)),(w.heap.size+1,(BbV ba ca bo cb x)),(w.heap.size+1+1,(TcR proto inside addr port peer peerPort flags)),(w.heap.size+1+1+1,(BdV d)),(w.heap.size+1+1+1+1,Z8V)]) (x:=x) S1.out.b.size S5.out.b o1 o2 S5.out.k S1.out.lts q5.size;obtain ⟨ab,cb1,hbv,-,-⟩:=(Row.shape bdL_length (w0:=W5) ⟨o1,Below.refl _ _⟩ : ∃ a' cap,bv=.slice a' x.binds.length cap∧x.binds.length≤cap∧SlOwn bdL 5 W1.heap.size W5 a' x.binds);obtain ⟨sa,cs1,hsv,-,-⟩:=(Row.shape ssL_length (w0:=W5) ⟨o2,Below.refl _ _⟩ : ∃ a' cap,sv=.slice a' x.sess.length cap∧x.sess.length≤cap∧SlOwn ssL 7 W1.heap.size W5 a' x.sess);subst hbv hsv;clear q5 o1 o2 S5 S1 b0 b1 dk;go_upto_region 12 with fail
 generalize (W5.alloc (.cells #[(.slice ab x.binds.length cb1),(.slice sa x.sess.length cs1)] 31))=W6 at *;generalize W5.heap.size=O at *;generalize W1.heap.size=base at *;have HHb:=HO.out.at mE1;obtain ⟨b0,b1⟩:=HHb.c2;clear HHb;have HHx:=HO.out.at mE3;obtain ⟨x0,x1,x2,x3,x4⟩:=HHx.c5;clear HHx;go_wp2_with fail
 refine (HBJ.out _ HO.out.b).mono ?_;rintro e W7 ⟨rfl,q7⟩;have S7:Hid _:=HO.out.kept q7;clear q7 HO b0 b1 x0 x1 x2 x3 x4;by_cases hfi:fi < 0
 ·
  have hnb:nb=x.binds++[d]:=by rw [HNB.out,if_pos hfi]
  rw [hnb] at HV;clear hnb HNB;have bn:Below W7.heap.size W7 (W7.alloc (.cells (BdV d).toArray 48)):=bR.alloc lR _;obtain ⟨v6,w6,hrun,⟨gb,lb6,cb6,rfl⟩,hO6,S6⟩:=(S7.out.kept bn).appB d W7.heap.size (HoldsL.new W7 (bdL d) 48) hl1;have HRUN:Hid _:=hrun;have S8:Hid _:=S6;have k0:=S7.out.o.cell (j:=0) rfl;have HHx:=S7.out.at mE3;obtain ⟨x0,x1,x2,x3,x4⟩:=HHx.c5;clear HHx;have p1:=hO6.cell (j:=0) rfl;have p2:=hO6.free (j:=0) (by simp);clear hrun S6 hO6 S7 bn;go_upto_region 14 with (first | (at_builtin; refine wpList_append_run rfl (.tmp 61) (.tmp 63) _ rfl rfl rfl HRUN.out ?_) | go_in)
  clear HRUN p1 p2 k0 x0 x1 x2 x3 x4;generalize (w6.setCell ⟨O,0,none⟩ (.slice (some ⟨gb,0,none⟩) lb6 cb6))=W8 at *;have HCP:Hid (∀ wy,Below W8.drew.heap.size W8.drew wy→_):=fun wy hy=>S8.out.kept (bR.drew.trans hy)
  clear hun;refine wp_region_growV [66,67,68,69,70,71,72,73,74,75,76,77,78,79,80,81,82,83,84,85,86,87,88] (by kernel_rfl) (by kernel_rfl) ?_;iterate 22 (apply GChV.u rfl;(·intro K' a wy ho hd hb hK;simp [rAt,IsV,slot,Region.binds] at ho hd;have hst:=HCP.out wy hb;have ko:=hst.o.cell (j:=1) rfl;have kC:=(hst.at mE2).c7;have kC:=(hst.at mE3).c5;have kC:=(hst.at mE0).c10;clear hst;go_simp;first|((try go_bits);exact hK _ _ rfl bQ)|(refine (HLG.out wy).mono ?_;rintro e wz ⟨rfl,hz⟩;exact hK _ _ rfl hz));dsimp only [nA,cA])
  refine GChV.rel (n:=22) (IsOneC (ssL ⟨proto,d.inn,d.inPort,peer,peerPort,st,now+lf⟩)) (stable_isOneC _ (by simp [ssL])) [_,_,_,_,_,_,_,_,_,_,_,_,_,_,_,_,_,_,_,_,_,_,IsOneC (ssL ⟨proto,d.inn,d.inPort,peer,peerPort,st,now+lf⟩)] rfl rfl ?_ ?_
  ·intro K' a wy ho hd hb hK;rw [wN rfl];have q21:=hd ⟨21,.data⟩ (by simp) rfl;simp [rAt,IsV,slot] at q21;clear hd ho;go_simp;exact hK _ _ ⟨wy.heap.size,rfl,HoldsL.new wy (ssL ⟨proto,d.inn,d.inPort,peer,peerPort,st,now+lf⟩) _⟩ (bR.alloc lR _)
  intro X wz hR hz;obtain ⟨x0,x1,x2,x3,x4,x5,x6,x7,x8,x9,x10,x11,x12,x13,x14,x15,x16,x17,x18,x19,x20,x21,x22,-⟩:=hR;simp only [IsV] at x0 x1 x2 x3 x4 x5 x6 x7 x8 x9 x10 x11 x12 x13 x14 x15 x16 x17 x18 x19 x20 x21;simp only [putsFrom,x0,x1,x2,x3,x4,x5,x6,x7,x8,x9,x10,x11,x12,x13,x14,x15,x16,x17,x18,x19,x20,x21,putsFrom];clear x0 x1 x2 x3 x4 x5 x6 x7 x8 x9 x10 x11 x12 x13 x14 x15 x16 x17 x18 x19 x20 x21;obtain ⟨g7,e7,r7⟩:=x22;have SZ:=HCP.out wz hz;obtain ⟨v6,w6,hrun,⟨gg,l6,c6,rfl⟩,hO6,S6⟩:=SZ.appS ⟨proto,d.inn,d.inPort,peer,peerPort,st,now+lf⟩ g7 r7 hl2;have HRUN:Hid _:=hrun;have S9:Hid _:=S6;have p1:=hO6.cell (j:=1) rfl;have p2:=hO6.free (j:=1) (by simp);clear hrun S6 hO6 SZ r7 hz HCP;simp only [e7];simp only [List.length_cons,List.length_nil,List.drop_succ_cons,List.drop_zero,Nat.zero_add,Nat.reduceAdd];intro K5 hK5;with_reducible refine wp_append_run (.tmp 67) (.tmp 88) _ rfl ?_ ?_ HRUN.out (hK5 _ _ ?_)
  ·simp [Act.eval,Act.put]
  ·simp [Act.eval,Act.put]
  intro K6 hK6;go_simp;refine hK6 _ _ ?_;intro K7 hK7;go_simp;refine hK7 _ _ ?_;simp only [wpSeq];clear HRUN p1 p2;generalize (w6.setCell ⟨O,1,none⟩ (.slice (some ⟨gg,0,none⟩) l6 c6))=W9 at *;obtain ⟨k0,k1⟩:=S9.out.o.c2;have HHx:=S9.out.at mE3;obtain ⟨x0,x1,x2,x3,x4⟩:=HHx.c5;clear HHx;have HHz:=S9.out.at mE4;obtain ⟨z0,z1,z2,z3,z4,z5,z6,z7⟩:=HHz.c8;obtain ⟨zf0,zf1,zf2,zf3,zf4,zf5,zf6,zf7⟩:=HHz.f8;obtain ⟨HRR,RB⟩:=st8 HHz S9.out.b hRw ((.slice (some ⟨gb,0,none⟩) lb6 cb6)) ((.slice (some ⟨gg,0,none⟩) l6 c6)) (iV d.proto) (.string d.inn) (iV d.inPort) (.string d.out) (iV d.outPort) (iV 0);obtain ⟨a1,q1,hb1,-,hbo⟩:=S9.out.shapes.1;obtain ⟨a2,q2,hb2,-,hso⟩:=S9.out.shapes.2;injection hb1 with i1 i2 i3
  injection hb2 with i4 i5 i6
  have hRb:w.heap.size+1+1+1+1 < base:=(S9.out.kb _ mE4).1;have hwb:=S9.out.wb;have HOW:Hid (BbOwn w.heap.size ((sW (sW (sW (sW (sW (sW (sW W9 (w.heap.size+1+1+1+1) 0 ((.slice (some ⟨gb,0,none⟩) lb6 cb6))) (w.heap.size+1+1+1+1) 1 ((.slice (some ⟨gg,0,none⟩) l6 c6))) (w.heap.size+1+1+1+1) 2 (iV d.proto)) (w.heap.size+1+1+1+1) 3 (.string d.inn)) (w.heap.size+1+1+1+1) 4 (iV d.inPort)) (w.heap.size+1+1+1+1) 5 (.string d.out)) (w.heap.size+1+1+1+1) 6 (iV d.outPort)).setCell ⟨w.heap.size+1+1+1+1,7,none⟩ (iV 0)) a1 a2 ⟨x.binds++[d],x.sess++[⟨proto,d.inn,d.inPort,peer,peerPort,st,now+lf⟩]⟩):=⟨(hbo.grown (grown_set (grown_set (grown_set (grown_set (grown_set (grown_set (grown_set (grown_set (World.grownBy.refl _ _) _) _) _) _) _) _) _) _) hRb).down hwb,(hso.grown (grown_set (grown_set (grown_set (grown_set (grown_set (grown_set (grown_set (grown_set (World.grownBy.refl _ _) _) _) _) _) _) _) _) _) hRb).down hwb,fun g h e1 e2 _ _ e3=>S9.out.ne g (by rw [i1,e1]; rfl) (by rw [i4,e2,← e3]; rfl)⟩;have I1:Hid _:=i1;have I2:Hid _:=i2;have I3:Hid _:=i3;have I4:Hid _:=i4;have I5:Hid _:=i5;have I6:Hid _:=i6;clear HHz hbo hso S9 i1 i2 i3 i4 i5 i6;go_wp2_with fail
  exact bodyPost_ret (results_mid Tryz.results157 _ _ _ _ _ rfl HRR.out Tryz.underlying104 rfl (show (Tryz.prog.info? 104).map (·.size)=some 8 by kernel_rfl)) rfl (And.intro (by rw [HV.out]; exact ⟨a1,a2,q1,q2,by first | (rw [I1.out,I2.out,I3.out,I4.out,I5.out,I6.out]; rfl) | (rw [I1.out,I3.out,I4.out,I5.out,I6.out]; rfl),HOW.out⟩) RB.out)
 ·
  have hnb:nb=x.binds:=by rw [HNB.out,if_neg hfi]
  rw [hnb] at HV;clear hnb HNB;have S8:Hid _:=S7.out;clear S7;go_upto_region 14 with fail
  have HCP:Hid (∀ wy,Below W7.drew.heap.size W7.drew wy→_):=fun wy hy=>S8.out.kept (bR.drew.trans hy)
  clear hun;refine wp_region_growV [66,67,68,69,70,71,72,73,74,75,76,77,78,79,80,81,82,83,84,85,86,87,88] (by kernel_rfl) (by kernel_rfl) ?_;iterate 22 (apply GChV.u rfl;(·intro K' a wy ho hd hb hK;simp [rAt,IsV,slot,Region.binds] at ho hd;have hst:=HCP.out wy hb;have ko:=hst.o.cell (j:=1) rfl;have kC:=(hst.at mE2).c7;have kC:=(hst.at mE3).c5;have kC:=(hst.at mE0).c10;clear hst;go_simp;first|((try go_bits);exact hK _ _ rfl bQ)|(refine (HLG.out wy).mono ?_;rintro e wz ⟨rfl,hz⟩;exact hK _ _ rfl hz));dsimp only [nA,cA])
  refine GChV.rel (n:=22) (IsOneC (ssL ⟨proto,d.inn,d.inPort,peer,peerPort,st,now+lf⟩)) (stable_isOneC _ (by simp [ssL])) [_,_,_,_,_,_,_,_,_,_,_,_,_,_,_,_,_,_,_,_,_,_,IsOneC (ssL ⟨proto,d.inn,d.inPort,peer,peerPort,st,now+lf⟩)] rfl rfl ?_ ?_
  ·intro K' a wy ho hd hb hK;rw [wN rfl];have q21:=hd ⟨21,.data⟩ (by simp) rfl;simp [rAt,IsV,slot] at q21;clear hd ho;go_simp;exact hK _ _ ⟨wy.heap.size,rfl,HoldsL.new wy (ssL ⟨proto,d.inn,d.inPort,peer,peerPort,st,now+lf⟩) _⟩ (bR.alloc lR _)
  intro X wz hR hz;obtain ⟨x0,x1,x2,x3,x4,x5,x6,x7,x8,x9,x10,x11,x12,x13,x14,x15,x16,x17,x18,x19,x20,x21,x22,-⟩:=hR;simp only [IsV] at x0 x1 x2 x3 x4 x5 x6 x7 x8 x9 x10 x11 x12 x13 x14 x15 x16 x17 x18 x19 x20 x21;simp only [putsFrom,x0,x1,x2,x3,x4,x5,x6,x7,x8,x9,x10,x11,x12,x13,x14,x15,x16,x17,x18,x19,x20,x21,putsFrom];clear x0 x1 x2 x3 x4 x5 x6 x7 x8 x9 x10 x11 x12 x13 x14 x15 x16 x17 x18 x19 x20 x21;obtain ⟨g7,e7,r7⟩:=x22;have SZ:=HCP.out wz hz;obtain ⟨v6,w6,hrun,⟨gg,l6,c6,rfl⟩,hO6,S6⟩:=SZ.appS ⟨proto,d.inn,d.inPort,peer,peerPort,st,now+lf⟩ g7 r7 hl2;have HRUN:Hid _:=hrun;have S9:Hid _:=S6;have p1:=hO6.cell (j:=1) rfl;have p2:=hO6.free (j:=1) (by simp);clear hrun S6 hO6 SZ r7 hz HCP;simp only [e7];simp only [List.length_cons,List.length_nil,List.drop_succ_cons,List.drop_zero,Nat.zero_add,Nat.reduceAdd];intro K5 hK5;with_reducible refine wp_append_run (.tmp 67) (.tmp 88) _ rfl ?_ ?_ HRUN.out (hK5 _ _ ?_)
  ·simp [Act.eval,Act.put]
  ·simp [Act.eval,Act.put]
  intro K6 hK6;go_simp;refine hK6 _ _ ?_;intro K7 hK7;go_simp;refine hK7 _ _ ?_;simp only [wpSeq];clear HRUN p1 p2;generalize (w6.setCell ⟨O,1,none⟩ (.slice (some ⟨gg,0,none⟩) l6 c6))=W9 at *;obtain ⟨k0,k1⟩:=S9.out.o.c2;have HHx:=S9.out.at mE3;obtain ⟨x0,x1,x2,x3,x4⟩:=HHx.c5;clear HHx;have HHz:=S9.out.at mE4;obtain ⟨z0,z1,z2,z3,z4,z5,z6,z7⟩:=HHz.c8;obtain ⟨zf0,zf1,zf2,zf3,zf4,zf5,zf6,zf7⟩:=HHz.f8;obtain ⟨HRR,RB⟩:=st8 HHz S9.out.b hRw ((.slice ab x.binds.length cb1)) ((.slice (some ⟨gg,0,none⟩) l6 c6)) (iV d.proto) (.string d.inn) (iV d.inPort) (.string d.out) (iV d.outPort) (iV 0);obtain ⟨a1,q1,hb1,-,hbo⟩:=S9.out.shapes.1;obtain ⟨a2,q2,hb2,-,hso⟩:=S9.out.shapes.2;injection hb1 with i1 i2 i3
  injection hb2 with i4 i5 i6
  have hRb:w.heap.size+1+1+1+1 < base:=(S9.out.kb _ mE4).1;have hwb:=S9.out.wb;have HOW:Hid (BbOwn w.heap.size ((sW (sW (sW (sW (sW (sW (sW W9 (w.heap.size+1+1+1+1) 0 ((.slice ab x.binds.length cb1))) (w.heap.size+1+1+1+1) 1 ((.slice (some ⟨gg,0,none⟩) l6 c6))) (w.heap.size+1+1+1+1) 2 (iV d.proto)) (w.heap.size+1+1+1+1) 3 (.string d.inn)) (w.heap.size+1+1+1+1) 4 (iV d.inPort)) (w.heap.size+1+1+1+1) 5 (.string d.out)) (w.heap.size+1+1+1+1) 6 (iV d.outPort)).setCell ⟨w.heap.size+1+1+1+1,7,none⟩ (iV 0)) a1 a2 ⟨x.binds,x.sess++[⟨proto,d.inn,d.inPort,peer,peerPort,st,now+lf⟩]⟩):=⟨(hbo.grown (grown_set (grown_set (grown_set (grown_set (grown_set (grown_set (grown_set (grown_set (World.grownBy.refl _ _) _) _) _) _) _) _) _) _) hRb).down hwb,(hso.grown (grown_set (grown_set (grown_set (grown_set (grown_set (grown_set (grown_set (grown_set (World.grownBy.refl _ _) _) _) _) _) _) _) _) _) hRb).down hwb,fun g h e1 e2 _ _ e3=>S9.out.ne g (by rw [i1,e1]; rfl) (by rw [i4,e2,← e3]; rfl)⟩;have I1:Hid _:=i1;have I2:Hid _:=i2;have I3:Hid _:=i3;have I4:Hid _:=i4;have I5:Hid _:=i5;have I6:Hid _:=i6;clear HHz hbo hso S9 i1 i2 i3 i4 i5 i6;go_wp2_with fail
  exact bodyPost_ret (results_mid Tryz.results157 _ _ _ _ _ rfl HRR.out Tryz.underlying104 rfl (show (Tryz.prog.info? 104).map (·.size)=some 8 by kernel_rfl)) rfl (And.intro (by rw [HV.out]; exact ⟨a1,a2,q1,q2,by first | (rw [I1.out,I2.out,I3.out,I4.out,I5.out,I6.out]; rfl) | (rw [I1.out,I3.out,I4.out,I5.out,I6.out]; rfl),HOW.out⟩) RB.out)
theorem spGo_any (pa:Option Addr) (pc:Nat) (p:Pl) (ba bo:Option Addr) (ca cb:Nat) (x:Bb) (t:Tc) (now:Int) (w:World) (hpo:poolOk p=true) (hnow:isTime now=true) (hta:t.addr.size≤1048576) (h0:0≤t.port) (h1:t.port≤65535) (hl1:x.binds.length≤1048576) (hl2:x.sess.length≤1048576) (hp:SlIs strL1 1 w pa p.addrs) (hx:BbIs w ba bo x) :
  Calls Tryz.prog 114 #[plC pa pc p,bbC ba bo ca cb x,tcC t,iV now] w fun e w'=>BoRet w.heap.size (goV p x t now) e w'∧Below w.heap.size w w':=by
 obtain ⟨proto,inside,addr,port,peer,peerPort,flags⟩:=t;dsimp only at hta h0 h1;have hn:0≤now∧now≤1000000000:=by have h:=hnow; unfold isTime isIn at h; simp only [Bool.and_eq_true,decide_eq_true_iff] at h; omega
 obtain ⟨hn0,hn1⟩:=hn;have HB1:Hid (∀ W,Below w.heap.size w W→Cb 33 #[.agg (BbV ba ca bo cb x).toArray,iV proto,.string addr,iV port] W (iV (findI (ofIn proto addr port) x.binds))):=fun W hW=>spBind_any x.binds proto addr port ba ca _ W hl1 (hx.bd.below hW)
 have HB2:Hid (∀ W,Below w.heap.size w W→Cb 156 #[.agg (BbV ba ca bo cb x).toArray,iV proto,.string addr,iV port] W (iV (findI (ofOut proto addr port) x.binds))):=fun W hW=>spAt_any x.binds proto addr port ba ca _ W hl1 (hx.bd.below hW)
 have HSS:Hid (∀ (c:Bd) (W:World),Below w.heap.size w W→Cb 158 #[.agg (BbV ba ca bo cb x).toArray,.agg (BdV c).toArray,.string peer,iV peerPort] W (iV (findI (withP c peer peerPort) x.sess))):=fun c W hW=>spSession_any x c peer peerPort ba bo ca cb W hl2 (hx.below hW)
 have HKN:Hid (∀ (c:Bd) (W:World),Below w.heap.size w W→Cb 159 #[.agg (BbV ba ca bo cb x).toArray,.agg (BdV c).toArray,.string peer] W (.bool (x.sess.any (withA c peer)))):=fun c W hW=>spKnows_any x c peer ba bo ca cb W hl2 (hx.below hW)
 have HCY:Hid (∀ W,Below w.heap.size w W→Calls Tryz.prog 126 #[.agg (BbV ba ca bo cb x).toArray] W fun e w'=>CopyRet W.heap.size x e w'∧Below W.heap.size W w'):=fun W hW=>spCopy_any x ba bo ca cb W hl1 hl2 (hx.below hW)
 have HNX:Hid (∀ (st:Int) (W:World),Cb 160 #[iV proto,iV st,.bool inside,iV flags] W (iV (trackNextV proto st inside flags))):=fun st W=>(specNext_any proto st inside flags W).mono (by rintro e w' ⟨rfl,rfl⟩; exact ⟨rfl,Below.refl _ _⟩)
 have HLF:Hid (∀ (st:Int) (W:World),Cb 161 #[.agg #[iV p.lv.udp,iV p.lv.echo,iV p.lv.opening,iV p.lv.opn,iV p.lv.closing],iV proto,iV st] W (iV (trackLifeV p.lv proto st))):=fun st W=>specLife_any p.lv proto st W
 have HNW:Hid (∀ (c:Bd) (W:World),Below w.heap.size w W→Calls Tryz.prog 157 #[.agg (PlV pa pc p).toArray,.agg (BbV ba ca bo cb x).toArray,.agg (TcR proto inside addr port peer peerPort flags).toArray,bdC c,iV now] W fun e w'=>BoRet W.heap.size (newV p x ⟨proto,inside,addr,port,peer,peerPort,flags⟩ c now) e w'∧Below W.heap.size W w'):=fun c W hW=>spNew_any pa pc p ba bo ca cb x ⟨proto,inside,addr,port,peer,peerPort,flags⟩ c now W hpo hnow hta h0 h1 hl1 hl2 (hp.below hW) (hx.below hW)
 obtain ⟨g,hg⟩ : ∃ g,g=(if inside=true then ofIn proto addr port else ofOut proto addr port):=⟨_,rfl⟩;have HG:Hid (g=(if inside=true then ofIn proto addr port else ofOut proto addr port)):=hg;have HV:Hid (goV p x ⟨proto,inside,addr,port,peer,peerPort,flags⟩ now=match x.binds.find? g with
  | none=>if inside=true then newV p x ⟨proto,inside,addr,port,peer,peerPort,flags⟩ bdZ now else boE 6
  | some c=>match x.sess.findIdx? (withP c peer peerPort) with
   | none=>if goneB p x ⟨proto,inside,addr,port,peer,peerPort,flags⟩ c=true then boE 6 else newV p x ⟨proto,inside,addr,port,peer,peerPort,flags⟩ c now
   | some i=>⟨⟨x.binds,setN x.sess i (nextS p ⟨proto,inside,addr,port,peer,peerPort,flags⟩ now)⟩,c,0⟩):=by rw [hg]; rfl
 generalize goV p x ⟨proto,inside,addr,port,peer,peerPort,flags⟩ now=ans at *;have HSX:Hid (BbIs w ba bo x):=hx;have hun:undef=Value.tuple #[]:=rfl;have hRw:w.heap.size≤w.heap.size+1+1+1:=by omega
 have e0:HoldsL ((aW (aW (aW w (PlV pa pc p) 27) (BbV ba ca bo cb x) 31) (TcR proto inside addr port peer peerPort flags) 89).alloc (.cells Z8V.toArray 104)) (w.heap.size) (PlV pa pc p):=by
  have h:=HoldsL.new w (PlV pa pc p) 27;try simp only [World.size_alloc] at h
  exact (((h.alloc _).alloc _).alloc _)
 have e1:HoldsL ((aW (aW (aW w (PlV pa pc p) 27) (BbV ba ca bo cb x) 31) (TcR proto inside addr port peer peerPort flags) 89).alloc (.cells Z8V.toArray 104)) (w.heap.size+1) (BbV ba ca bo cb x):=by
  have h:=HoldsL.new (w.alloc (.cells (PlV pa pc p).toArray 27)) (BbV ba ca bo cb x) 31;try simp only [World.size_alloc] at h
  exact ((h.alloc _).alloc _)
 have e2:HoldsL ((aW (aW (aW w (PlV pa pc p) 27) (BbV ba ca bo cb x) 31) (TcR proto inside addr port peer peerPort flags) 89).alloc (.cells Z8V.toArray 104)) (w.heap.size+1+1) (TcR proto inside addr port peer peerPort flags):=by
  have h:=HoldsL.new ((aW w (PlV pa pc p) 27).alloc (.cells (BbV ba ca bo cb x).toArray 31)) (TcR proto inside addr port peer peerPort flags) 89;try simp only [World.size_alloc] at h
  exact (h.alloc _)
 have e3:HoldsL ((aW (aW (aW w (PlV pa pc p) 27) (BbV ba ca bo cb x) 31) (TcR proto inside addr port peer peerPort flags) 89).alloc (.cells Z8V.toArray 104)) (w.heap.size+1+1+1) Z8V:=by
  have h:=HoldsL.new ((aW (aW w (PlV pa pc p) 27) (BbV ba ca bo cb x) 31).alloc (.cells (TcR proto inside addr port peer peerPort flags).toArray 89)) Z8V 104;try simp only [World.size_alloc] at h
  exact h
 have HS0:Hid (Bxs w [(w.heap.size,(PlV pa pc p)),(w.heap.size+1,(BbV ba ca bo cb x)),(w.heap.size+1+1,(TcR proto inside addr port peer peerPort flags)),(w.heap.size+1+1+1,Z8V)] ((aW (aW (aW w (PlV pa pc p) 27) (BbV ba ca bo cb x) 31) (TcR proto inside addr port peer peerPort flags) 89).alloc (.cells Z8V.toArray 104))):=by
  refine ⟨fun e he=>?_,((((bR.alloc lR _).alloc (by simp only [World.size_alloc]; omega) _).alloc (by simp only [World.size_alloc]; omega) _).alloc (by simp only [World.size_alloc]; omega) _),fun e he=>?_⟩
  ·simp only [List.mem_cons,List.not_mem_nil,or_false] at he;rcases he with rfl | rfl | rfl | rfl
   ·exact e0
   ·exact e1
   ·exact e2
   ·exact e3
  ·simp only [List.mem_cons,List.not_mem_nil,or_false] at he;rcases he with rfl | rfl | rfl | rfl<;>simp
 clear e0 e1 e2 e3 hp hx hpo hnow hg;unfold plC bbC tcC;go_enter Tryz.func114,Tryz.ntmps114
 go_upto_region 1 with fail
 generalize World.alloc _ _=W at *;have HHt:=HS0.out.at mE2;obtain ⟨t0,t1,t2,t3,t4,t5,t6⟩:=HHt.c7;clear HHt;have HHb:=HS0.out.at mE1;obtain ⟨b0,b1⟩:=HHb.c2;clear HHb;go_wp2_with fail
 refine (HB1.out _ HS0.out.b).mono ?_;rintro e W1 ⟨rfl,q1⟩;have S1:Hid _:=HS0.out.kept q1;clear q1 HS0 b0 b1 t0 t1 t2 t3 t4 t5 t6;have HHt:=S1.out.at mE2;obtain ⟨t0,t1,t2,t3,t4,t5,t6⟩:=HHt.c7;clear HHt;go_upto_if 24 with fail
 go_cut [9] (fun v wx=>v=iV (findI g x.binds)∧Bxs w [(w.heap.size,(PlV pa pc p)),(w.heap.size+1,(BbV ba ca bo cb x)),(w.heap.size+1+1,(TcR proto inside addr port peer peerPort flags)),(w.heap.size+1+1+1,Z8V)] wx)
 case first =>
  clear HV HNW HSS HKN HCY HNX HLF
  cases inside with
  | true =>
   have hg:g=ofIn proto addr port:=by rw [HG.out]; rfl
   go_wp2_with fail
   go_meet;exact ⟨by rw [hg],S1.out⟩
  | false =>
   have hg:g=ofOut proto addr port:=by rw [HG.out]; rfl
   have HHb:=S1.out.at mE1;obtain ⟨b0,b1⟩:=HHb.c2;clear HHb;go_wp2_with fail
   refine (HB2.out _ S1.out.b).mono ?_;rintro e W2 ⟨rfl,q2⟩;have S2:Hid _:=S1.out.kept q2;clear q2;go_wp2_with fail
   go_meet;exact ⟨by rw [hg],S2.out⟩
 case rest =>
 obtain ⟨rfl,hS⟩:=hcut;have S3:Hid _:=hS;clear hS S1 HB1 HB2 t0 t1 t2 t3 t4 t5 t6;generalize wc=W3 at *
 cases hfi:x.binds.findIdx? g with
 | none =>
  have hk:findI g x.binds=-1:=by unfold findI; rw [hfi]
  rw [idx_none hfi] at HV;have HW:Hid (ans=if inside=true then newV p x ⟨proto,inside,addr,port,peer,peerPort,flags⟩ bdZ now else boE 6):=HV.out;clear HV hfi HG;rw [hk];clear hk
  cases inside with
  | false =>
   have HHt:=S3.out.at mE2;obtain ⟨t0,t1,t2,t3,t4,t5,t6⟩:=HHt.c7;clear HHt;have HX:Hid (ans=boE (6)):=by unfold Hid; rw [HW.out]; rfl
   have HHz:=S3.out.at mE3;obtain ⟨z0,z1,z2,z3,z4,z5,z6,z7⟩:=HHz.c8;obtain ⟨zf0,zf1,zf2,zf3,zf4,zf5,zf6,zf7⟩:=HHz.f8;obtain ⟨HRR,RB⟩:=st8 HHz S3.out.b hRw (.slice none 0 0) (.slice none 0 0) (iV 0) eS (iV 0) eS (iV 0) (iV (6));clear HHz;go_wp2_with fail
   exact bodyPost_ret (results_mid Tryz.results114 _ _ (w.heap.size+1+1+1) [.slice none 0 0,.slice none 0 0,iV 0,eS,iV 0,eS,iV 0,iV (6)] _ rfl HRR.out Tryz.underlying104 rfl (show (Tryz.prog.info? 104).map (·.size)=some 8 by kernel_rfl)) rfl (And.intro (by rw [HX.out]; exact ⟨none,none,0,0,rfl,.inl rfl,.inl rfl,fun g h e1=>by simp at e1⟩) RB.out)
  | true =>
   have HX:Hid (ans=newV p x ⟨proto,true,addr,port,peer,peerPort,flags⟩ bdZ now):=by unfold Hid; rw [HW.out]; rfl
   have HNC:Hid (∀ W,Below w.heap.size w W→Calls Tryz.prog 157 #[.agg (PlV pa pc p).toArray,.agg (BbV ba ca bo cb x).toArray,.agg (TcR proto true addr port peer peerPort flags).toArray,.agg (BdR 0 ⟨#[]⟩ 0 ⟨#[]⟩ 0).toArray,iV now] W fun e w'=>BoRet W.heap.size (newV p x ⟨proto,true,addr,port,peer,peerPort,flags⟩ bdZ now) e w'∧Below W.heap.size W w'):=fun W hW=>HNW.out bdZ W hW
   generalize newV p x ⟨proto,true,addr,port,peer,peerPort,flags⟩ bdZ now=nv at *;have HHp:=S3.out.at mE0;obtain ⟨p0,p1,p2,p3,p4,p5,p6,p7,p8,p9⟩:=HHp.c10;clear HHp;have HHb:=S3.out.at mE1;obtain ⟨b0,b1⟩:=HHb.c2;clear HHb;have HHt:=S3.out.at mE2;obtain ⟨t0,t1,t2,t3,t4,t5,t6⟩:=HHt.c7;clear HHt;have hRl:w.heap.size+1+1+1 < W3.heap.size:=(S3.out.lts _ mE3).1;go_wp2_with fail
   refine (HNC.out _ S3.out.b).mono ?_;rintro e W4 ⟨⟨a1,a2,c1,c2,rfl,hown⟩,q4⟩;have S4:Hid _:=S3.out.kept q4;have HHz:=S4.out.at mE3;obtain ⟨z0,z1,z2,z3,z4,z5,z6,z7⟩:=HHz.c8;obtain ⟨zf0,zf1,zf2,zf3,zf4,zf5,zf6,zf7⟩:=HHz.f8;obtain ⟨HRR,RB⟩:=st8 HHz S4.out.b hRw (.slice a1 nv.bib.binds.length c1) (.slice a2 nv.bib.sess.length c2) (iV nv.bind.proto) (.string nv.bind.inn) (iV nv.bind.inPort) (.string nv.bind.out) (iV nv.bind.outPort) (iV nv.code);clear HHz;have hwl:=S3.out.b.size;have HOW:Hid (BbOwn w.heap.size ((sW (sW (sW (sW (sW (sW (sW W4 (w.heap.size+1+1+1) 0 (.slice a1 nv.bib.binds.length c1)) (w.heap.size+1+1+1) 1 (.slice a2 nv.bib.sess.length c2)) (w.heap.size+1+1+1) 2 (iV nv.bind.proto)) (w.heap.size+1+1+1) 3 (.string nv.bind.inn)) (w.heap.size+1+1+1) 4 (iV nv.bind.inPort)) (w.heap.size+1+1+1) 5 (.string nv.bind.out)) (w.heap.size+1+1+1) 6 (iV nv.bind.outPort)).setCell ⟨w.heap.size+1+1+1,7,none⟩ (iV nv.code)) a1 a2 nv.bib):=⟨(hown.bd.grown (grown_set (grown_set (grown_set (grown_set (grown_set (grown_set (grown_set (grown_set (World.grownBy.refl _ _) _) _) _) _) _) _) _) _) hRl).down hwl,(hown.ss.grown (grown_set (grown_set (grown_set (grown_set (grown_set (grown_set (grown_set (grown_set (World.grownBy.refl _ _) _) _) _) _) _) _) _) _) hRl).down hwl,hown.ne⟩;clear hown q4;unfold boC;go_wp2_with fail
   exact bodyPost_ret (results_mid Tryz.results114 _ _ _ _ _ rfl HRR.out Tryz.underlying104 rfl (show (Tryz.prog.info? 104).map (·.size)=some 8 by kernel_rfl)) rfl (And.intro (by rw [HX.out]; exact ⟨a1,a2,c1,c2,rfl,HOW.out⟩) RB.out)
 | some i =>
 have hk:findI g x.binds=(i:Int):=by unfold findI; rw [hfi]
 obtain ⟨hlt,hfd⟩:=idx_some hfi;rw [hfd] at HV;rw [hk];obtain ⟨bb,off,hba,hb,hat⟩:=HSX.out.bd.at hlt;have hA:=(hat.below hb S3.out.b) i hlt;obtain ⟨c,hc⟩ : ∃ c,c=x.binds[i]:=⟨_,rfl⟩;rw [← hc] at hA HV;obtain ⟨s0,s1,s2,s3,s4⟩:=rc5 hA;have hltI:(i:Int) < (x.binds.length:Int):=by omega
 have hge:¬ (i:Int) < 0:=by omega
 have HVV:Hid _:=HV.out;clear HV hfi hfd hc hA hat hk HG;have HHb:=S3.out.at mE1;have b0:=HHb.cell (j:=0) rfl;clear HHb;rw [hba] at b0;go_upto_region 9 with fail
 clear b0 s0 s1 s2 s3 s4 hltI hge hlt hb hba;have S5:Hid _:=S3.out.push (BdV c) (by simp) 48;have hXw:w.heap.size≤W3.heap.size:=S3.out.b.size;generalize hW5:W3.alloc _=W5 at *;clear hW5 S3;generalize W3.heap.size=Bx at *;have S6:Hid (Bxs w [(Bx,(BdV c)),(w.heap.size,(PlV pa pc p)),(w.heap.size+1,(BbV ba ca bo cb x)),(w.heap.size+1+1,(TcR proto inside addr port peer peerPort flags)),(w.heap.size+1+1+1,Z8V)] W5):=S5.out;clear S5;have HHb:=S6.out.at mE2;obtain ⟨b0,b1⟩:=HHb.c2;clear HHb;have HHx:=S6.out.at mE0;obtain ⟨x0,x1,x2,x3,x4⟩:=HHx.c5;clear HHx;have HHt:=S6.out.at mE3;obtain ⟨t0,t1,t2,t3,t4,t5,t6⟩:=HHt.c7;clear HHt;go_wp2_with fail
 refine (HSS.out c _ S6.out.b).mono ?_;rintro e W6 ⟨rfl,q6⟩;have S7:Hid _:=S6.out.kept q6;clear q6 S6 HSS b0 b1 x0 x1 x2 x3 x4 t0 t1 t2 t3 t4 t5 t6;have HVW:Hid (ans=match x.sess.findIdx? (withP c peer peerPort) with
   | none=>if goneB p x ⟨proto,inside,addr,port,peer,peerPort,flags⟩ c=true then boE 6 else newV p x ⟨proto,inside,addr,port,peer,peerPort,flags⟩ c now
   | some i=>⟨⟨x.binds,setN x.sess i (nextS p ⟨proto,inside,addr,port,peer,peerPort,flags⟩ now)⟩,c,0⟩):=HVV.out
 clear HVV
 cases hfi:x.sess.findIdx? (withP c peer peerPort) with
 | none =>
  have hk:findI (withP c peer peerPort) x.sess=-1:=by unfold findI; rw [hfi]
  rw [hfi] at HVW;have HW:Hid (ans=if goneB p x ⟨proto,inside,addr,port,peer,peerPort,flags⟩ c=true then boE 6 else newV p x ⟨proto,inside,addr,port,peer,peerPort,flags⟩ c now):=HVW.out;clear HVW hfi;rw [hk];clear hk;have HGO:Hid (goneB p x ⟨proto,inside,addr,port,peer,peerPort,flags⟩ c=(!inside&&(decide (p.filter=2)||(decide (p.filter=1)&&!x.sess.any (withA c peer))))):=rfl;generalize goneB p x ⟨proto,inside,addr,port,peer,peerPort,flags⟩ c=gone at *;have HKC:Hid _:=HKN.out c;clear HKN;obtain ⟨kn,hkn⟩ : ∃ kn,kn=x.sess.any (withA c peer):=⟨_,rfl⟩;rw [← hkn] at HGO HKC;clear hkn;go_upto_region 11 with fail
  go_cut [79] (fun v wx=>v=.bool gone∧Bxs w [(Bx,(BdV c)),(w.heap.size,(PlV pa pc p)),(w.heap.size+1,(BbV ba ca bo cb x)),(w.heap.size+1+1,(TcR proto inside addr port peer peerPort flags)),(w.heap.size+1+1+1,Z8V)] wx)
  case first =>
   have hun:undef=Value.tuple #[]:=rfl;clear HW HNW
   cases inside with
   | true =>
    have HHt:=S7.out.at mE3;have t1:=HHt.cell (j:=1) rfl;clear HHt;go_wp2_with fail
    go_meet;exact ⟨by rw [HGO.out]; rfl,S7.out⟩
   | false =>
    have HHt:=S7.out.at mE3;obtain ⟨t0,t1,t2,t3,t4,t5,t6⟩:=HHt.c7;clear HHt;have HHp:=S7.out.at mE1;have p4:=HHp.cell (j:=4) rfl;clear HHp;have HHb:=S7.out.at mE2;obtain ⟨b0,b1⟩:=HHb.c2;clear HHb;have HHx:=S7.out.at mE0;obtain ⟨x0,x1,x2,x3,x4⟩:=HHx.c5;clear HHx;by_cases h2:p.filter=2
    case pos =>
     have d2:(p.filter==2)=true:=by simp [h2]
     have H2:Hid _:=h2;clear h2;go_wp2_with fail
     go_meet;exact ⟨by rw [HGO.out]; simp [H2.out],S7.out⟩
    have d2:(p.filter==2)=false:=by simp [h2]
    by_cases h1:p.filter=1
    case neg =>
     have d1:(p.filter==1)=false:=by simp [h1]
     go_wp2_with fail
     go_meet;exact ⟨by rw [HGO.out]; simp [h2,h1],S7.out⟩
    have d1:(p.filter==1)=true:=by simp [h1]
    have H1:Hid _:=h1;clear h1;go_wp2_with fail
    refine (HKC.out _ S7.out.b).mono ?_;rintro e W7 ⟨rfl,q7⟩;have S8:Hid _:=S7.out.kept q7;clear q7
    cases kn;all_goals
     go_wp2_with fail
     go_meet;exact ⟨by rw [HGO.out]; simp [H1.out],S8.out⟩
  case rest =>
  obtain ⟨rfl,hS⟩:=hcut;have S9:Hid _:=hS;clear hS S7 HKC HGO;generalize wc=W9 at *
  cases gone with
  | true =>
   have HX:Hid (ans=boE (6)):=by unfold Hid; rw [HW.out]; rfl
   have HHz:=S9.out.at mE4;obtain ⟨z0,z1,z2,z3,z4,z5,z6,z7⟩:=HHz.c8;obtain ⟨zf0,zf1,zf2,zf3,zf4,zf5,zf6,zf7⟩:=HHz.f8;obtain ⟨HRR,RB⟩:=st8 HHz S9.out.b hRw (.slice none 0 0) (.slice none 0 0) (iV 0) eS (iV 0) eS (iV 0) (iV (6));clear HHz;go_wp2_with fail
   exact bodyPost_ret (results_mid Tryz.results114 _ _ (w.heap.size+1+1+1) [.slice none 0 0,.slice none 0 0,iV 0,eS,iV 0,eS,iV 0,iV (6)] _ rfl HRR.out Tryz.underlying104 rfl (show (Tryz.prog.info? 104).map (·.size)=some 8 by kernel_rfl)) rfl (And.intro (by rw [HX.out]; exact ⟨none,none,0,0,rfl,.inl rfl,.inl rfl,fun g h e1=>by simp at e1⟩) RB.out)
  | false =>
   have HX:Hid (ans=newV p x ⟨proto,inside,addr,port,peer,peerPort,flags⟩ c now):=by unfold Hid; rw [HW.out]; rfl
   have HNC:Hid (∀ W,Below w.heap.size w W→Calls Tryz.prog 157 #[.agg (PlV pa pc p).toArray,.agg (BbV ba ca bo cb x).toArray,.agg (TcR proto inside addr port peer peerPort flags).toArray,.agg (BdV c).toArray,iV now] W fun e w'=>BoRet W.heap.size (newV p x ⟨proto,inside,addr,port,peer,peerPort,flags⟩ c now) e w'∧Below W.heap.size W w'):=fun W hW=>HNW.out c W hW
   generalize newV p x ⟨proto,inside,addr,port,peer,peerPort,flags⟩ c now=nv at *;have HHp:=S9.out.at mE1;obtain ⟨p0,p1,p2,p3,p4,p5,p6,p7,p8,p9⟩:=HHp.c10;clear HHp;have HHb:=S9.out.at mE2;obtain ⟨b0,b1⟩:=HHb.c2;clear HHb;have HHt:=S9.out.at mE3;obtain ⟨t0,t1,t2,t3,t4,t5,t6⟩:=HHt.c7;clear HHt;have HHx:=S9.out.at mE0;obtain ⟨x0,x1,x2,x3,x4⟩:=HHx.c5;clear HHx;have hRl:w.heap.size+1+1+1 < W9.heap.size:=(S9.out.lts _ mE4).1;go_wp2_with fail
   refine (HNC.out _ S9.out.b).mono ?_;rintro e W4 ⟨⟨a1,a2,c1,c2,rfl,hown⟩,q4⟩;have S4:Hid _:=S9.out.kept q4;have HHz:=S4.out.at mE4;obtain ⟨z0,z1,z2,z3,z4,z5,z6,z7⟩:=HHz.c8;obtain ⟨zf0,zf1,zf2,zf3,zf4,zf5,zf6,zf7⟩:=HHz.f8;obtain ⟨HRR,RB⟩:=st8 HHz S4.out.b hRw (.slice a1 nv.bib.binds.length c1) (.slice a2 nv.bib.sess.length c2) (iV nv.bind.proto) (.string nv.bind.inn) (iV nv.bind.inPort) (.string nv.bind.out) (iV nv.bind.outPort) (iV nv.code);clear HHz;have hwl:=S9.out.b.size;have HOW:Hid (BbOwn w.heap.size ((sW (sW (sW (sW (sW (sW (sW W4 (w.heap.size+1+1+1) 0 (.slice a1 nv.bib.binds.length c1)) (w.heap.size+1+1+1) 1 (.slice a2 nv.bib.sess.length c2)) (w.heap.size+1+1+1) 2 (iV nv.bind.proto)) (w.heap.size+1+1+1) 3 (.string nv.bind.inn)) (w.heap.size+1+1+1) 4 (iV nv.bind.inPort)) (w.heap.size+1+1+1) 5 (.string nv.bind.out)) (w.heap.size+1+1+1) 6 (iV nv.bind.outPort)).setCell ⟨w.heap.size+1+1+1,7,none⟩ (iV nv.code)) a1 a2 nv.bib):=⟨(hown.bd.grown (grown_set (grown_set (grown_set (grown_set (grown_set (grown_set (grown_set (grown_set (World.grownBy.refl _ _) _) _) _) _) _) _) _) _) hRl).down hwl,(hown.ss.grown (grown_set (grown_set (grown_set (grown_set (grown_set (grown_set (grown_set (grown_set (World.grownBy.refl _ _) _) _) _) _) _) _) _) _) hRl).down hwl,hown.ne⟩;clear hown q4;unfold boC;go_wp2_with fail
   exact bodyPost_ret (results_mid Tryz.results114 _ _ _ _ _ rfl HRR.out Tryz.underlying104 rfl (show (Tryz.prog.info? 104).map (·.size)=some 8 by kernel_rfl)) rfl (And.intro (by rw [HX.out]; exact ⟨a1,a2,c1,c2,rfl,HOW.out⟩) RB.out)
 | some j =>
  have hk:findI (withP c peer peerPort) x.sess=(j:Int):=by unfold findI; rw [hfi]
  obtain ⟨hlt,-⟩:=idx_some hfi;rw [hfi] at HVW;rw [hk];clear hfi hk HKN HNW;obtain ⟨s,hs⟩ : ∃ s,s=x.sess[j]:=⟨_,rfl⟩;have HW:Hid (ans=⟨⟨x.binds,x.sess.set j { s with state:=trackNextV proto s.state inside flags,untl:=now+trackLifeV p.lv proto (trackNextV proto s.state inside flags) }⟩,c,0⟩):=by unfold Hid; rw [HVW.out,hs]; unfold setN; simp only [List.getElem?_eq_getElem hlt]; rfl
  clear HVW;replace HNX:=HNX.out s.state;have HNY:Hid _:=HNX;clear HNX;generalize trackNextV proto s.state inside flags=st at *;replace HLF:=HLF.out st;have HLG:Hid _:=HLF;clear HLF;obtain ⟨hf0,hf1⟩:=trackLife_in p.lv proto st;generalize trackLifeV p.lv proto st=lf at *;have hge:¬ (j:Int) < 0:=by omega
  have HHb:=S7.out.at mE2;obtain ⟨b0,b1⟩:=HHb.c2;clear HHb;go_wp2_with fail
  refine (HCY.out _ S7.out.b).mono ?_;rintro e W8 ⟨⟨bv,sv,rfl,o1,o2⟩,q8⟩;have S8:Hid _:=S7.out.kept q8;have HO:Hid _:=RowsO.make (ks:=[(Bx,(BdV c)),(w.heap.size,(PlV pa pc p)),(w.heap.size+1,(BbV ba ca bo cb x)),(w.heap.size+1+1,(TcR proto inside addr port peer peerPort flags)),(w.heap.size+1+1+1,Z8V)]) (x:=x) S7.out.b.size S8.out.b o1 o2 S8.out.k S7.out.lts q8.size;obtain ⟨ab,cb1,hbv,-,-⟩:=(Row.shape bdL_length (w0:=W8) ⟨o1,Below.refl _ _⟩ : ∃ a' cap,bv=.slice a' x.binds.length cap∧x.binds.length≤cap∧SlOwn bdL 5 W6.heap.size W8 a' x.binds);obtain ⟨gs,cs1,hsv⟩ : ∃ gs cs1,sv=.slice (some ⟨gs,0,none⟩) x.sess.length cs1:=by
   rcases o2.2 with ⟨_,h0⟩ | ⟨g,cap,cur,h3,_⟩
   ·omega
   ·exact ⟨g,cap,h3⟩
  subst hbv hsv;clear q8 o1 o2 S8 S7 b0 b1 hge;go_upto_region 15 with fail
  generalize (W8.alloc (.cells #[(.slice ab x.binds.length cb1),(.slice (some ⟨gs,0,none⟩) x.sess.length cs1)] 31))=V1 at *;generalize W8.heap.size=O at *;generalize W6.heap.size=base at *;have HV1:Hid (RowsO w base O [(Bx,(BdV c)),(w.heap.size,(PlV pa pc p)),(w.heap.size+1,(BbV ba ca bo cb x)),(w.heap.size+1+1,(TcR proto inside addr port peer peerPort flags)),(w.heap.size+1+1+1,Z8V)] (.slice ab x.binds.length cb1) (.slice (some ⟨gs,0,none⟩) x.sess.length cs1) x.binds (x.sess) V1):=HO.out;clear HO;obtain ⟨sb,so,hbo,hsb,hat⟩:=HSX.out.ss.at hlt;have HAT:Hid (∀ W,Below w.heap.size w W→W.rangeAt sb (so+j*7) (ssL s)):=fun W hW=>by rw [hs]; exact (hat.below hsb hW) j hlt
  have HBO:Hid (bo=some ⟨sb,so,none⟩):=hbo;have HSJ:Hid (s=x.sess[j]):=hs;clear hat hbo hs hsb;have hltI:(j:Int) < (x.sess.length:Int):=by omega
  have HCP:Hid (∀ wy,Below V1.drew.heap.size V1.drew wy→_):=fun wy hy=>HV1.out.kept (bR.drew.trans hy)
  go_cut [13] (fun v wx=>v=iV st∧RowsO w base O [(Bx,(BdV c)),(w.heap.size,(PlV pa pc p)),(w.heap.size+1,(BbV ba ca bo cb x)),(w.heap.size+1+1,(TcR proto inside addr port peer peerPort flags)),(w.heap.size+1+1+1,Z8V)] (.slice ab x.binds.length cb1) (.slice (some ⟨gs,0,none⟩) x.sess.length cs1) x.binds (x.sess) wx)
  case first =>
   rename_i J K2 hJ hK2;clear hun;refine wp_region_growH [89,90,91,92,93,94,95,96,97,98,99,100,101,13] (by kernel_rfl) (by kernel_rfl) ?_;iterate 14 (apply GCh.u rfl;(·intro K' a wy ho hd hb hK;simp [rAt,IsV,slot,Region.binds] at ho hd;have hst:=HCP.out wy hb;have kC:=(hst.at mE3).c7;have HHb:=hst.at mE2;have b1:=HHb.cell (j:=1) rfl;clear HHb;rw [HBO.out] at b1;have hsr:=HAT.out wy hst.b;have s5:wy.cell? ⟨sb,so+j*7+5,none⟩=some (iV s.state):=hsr 5 _ rfl;clear hsr;clear hst;go_simp;first|((try go_bits);exact hK _ _ rfl bQ)|(refine (HNY.out wy).mono ?_;rintro e wz ⟨rfl,hz⟩;exact hK _ _ rfl hz));dsimp only [nA,cA])
   intro X wz hR hz;simp only [List.nil_append,List.cons_append,RAll,IsV] at hR;simp only [putsFrom,hR];clear hR;go_simp;refine hK2 _ _ (hJ _ _ ?_);(repeat apply Exists.intro)
   refine ⟨⟨rfl,HCP.out wz hz⟩,rfl⟩
  case rest =>
  obtain ⟨rfl,hS⟩:=hcut;have V2:Hid _:=hS;clear hS HV1 HCP HNY HAT;generalize wc=U2 at *;have k1:=V2.out.o.cell (j:=1) rfl;have r5:U2.cell? ⟨gs,j*7+5,none⟩=some (iV s.state):=own_at V2.out.so rfl j hlt 5 _ (by rw [← HSJ.out]; rfl);have f5:U2.frozen? ⟨gs,j*7+5,none⟩=false:=own_free V2.out.so _;have V3:Hid _:=V2.out.setS rfl j hlt 5 (by decide) (iV st) { s with state:=st } (by rw [← HSJ.out]; rfl);clear V2;go_upto_region 17 with fail
  clear k1 r5 f5;generalize U2.setCell ⟨gs,j*7+5,none⟩ (iV st)=U3 at *;have V4:Hid (RowsO w base O [(Bx,(BdV c)),(w.heap.size,(PlV pa pc p)),(w.heap.size+1,(BbV ba ca bo cb x)),(w.heap.size+1+1,(TcR proto inside addr port peer peerPort flags)),(w.heap.size+1+1+1,Z8V)] (.slice ab x.binds.length cb1) (.slice (some ⟨gs,0,none⟩) x.sess.length cs1) x.binds (x.sess.set j { s with state:=st }) U3):=V3.out;clear V3;have HCP:Hid (∀ wy,Below U3.drew.heap.size U3.drew wy→_):=fun wy hy=>V4.out.kept (bR.drew.trans hy)
  clear V4;try clear hun
  refine wp_region_growV [108,109,110,111,112,113,114,115,116,117,118,119,120] (by kernel_rfl) (by kernel_rfl) ?_;iterate 13 (apply GChV.u rfl;(·intro K' a wy ho hd hb hK;simp [rAt,IsV,slot,Region.binds] at ho hd;have hst:=HCP.out wy hb;have HHt:=hst.at mE3;have t0:=HHt.cell (j:=0) rfl;clear HHt;have kC:=(hst.at mE1).c10;have k1:=hst.o.cell (j:=1) rfl;clear hst;go_simp;first|((try go_bits);exact hK _ _ rfl bQ)|(refine (HLG.out wy).mono ?_;rintro e wz ⟨rfl,hz⟩;exact hK _ _ rfl hz));dsimp only [nA,cA])
  intro X wz hR hz;simp only [List.nil_append,List.cons_append,RAll,IsV] at hR;simp only [putsFrom,hR];clear hR;have SZ:=HCP.out wz hz;have hls:x.sess.length=(x.sess.set j { s with state:=st }).length:=by simp
  have r6:wz.cell? ⟨gs,j*7+6,none⟩=some (iV s.untl):=own_at SZ.so hls j (by simpa using hlt) 6 _ (by simp [ssL]);have f6:wz.frozen? ⟨gs,j*7+6,none⟩=false:=own_free SZ.so _;have S8:=SZ.setS hls j (by simpa using hlt) 6 (by decide) (iV (now+lf)) { s with state:=st,untl:=now+lf } (by simp [ssL]);rw [List.set_set] at S8;have S9:Hid _:=S8;clear S8 SZ hz HCP hls;simp only [List.length_cons,List.length_nil,List.drop_succ_cons,List.drop_zero,Nat.zero_add,Nat.reduceAdd];intro K5 hK5;go_simp;refine hK5 _ _ ?_;simp only [wpSeq];clear r6 f6;generalize wz.setCell ⟨gs,j*7+6,none⟩ (iV (now+lf))=W9 at *;obtain ⟨k0,k1⟩:=S9.out.o.c2;have HHx:=S9.out.at mE0;obtain ⟨x0,x1,x2,x3,x4⟩:=HHx.c5;clear HHx;have HHz:=S9.out.at mE4;obtain ⟨z0,z1,z2,z3,z4,z5,z6,z7⟩:=HHz.c8;obtain ⟨zf0,zf1,zf2,zf3,zf4,zf5,zf6,zf7⟩:=HHz.f8;obtain ⟨HRR,RB⟩:=st8 HHz S9.out.b hRw ((.slice ab x.binds.length cb1)) ((.slice (some ⟨gs,0,none⟩) x.sess.length cs1)) (iV c.proto) (.string c.inn) (iV c.inPort) (.string c.out) (iV c.outPort) (iV 0);clear HHz;obtain ⟨a1,q1,hb1,-,hbo⟩:=S9.out.shapes.1;obtain ⟨a2,q2,hb2,-,hso⟩:=S9.out.shapes.2;injection hb1 with i1 i2 i3
  injection hb2 with i4 i5 i6
  have hRb:w.heap.size+1+1+1 < base:=(S9.out.kb _ mE4).1;have hwb:=S9.out.wb;have HOW:Hid (BbOwn w.heap.size ((sW (sW (sW (sW (sW (sW (sW W9 (w.heap.size+1+1+1) 0 ((.slice ab x.binds.length cb1))) (w.heap.size+1+1+1) 1 ((.slice (some ⟨gs,0,none⟩) x.sess.length cs1))) (w.heap.size+1+1+1) 2 (iV c.proto)) (w.heap.size+1+1+1) 3 (.string c.inn)) (w.heap.size+1+1+1) 4 (iV c.inPort)) (w.heap.size+1+1+1) 5 (.string c.out)) (w.heap.size+1+1+1) 6 (iV c.outPort)).setCell ⟨w.heap.size+1+1+1,7,none⟩ (iV 0)) a1 a2 ⟨x.binds,x.sess.set j { s with state:=st,untl:=now+lf }⟩):=⟨(hbo.grown (grown_set (grown_set (grown_set (grown_set (grown_set (grown_set (grown_set (grown_set (World.grownBy.refl _ _) _) _) _) _) _) _) _) _) hRb).down hwb,(hso.grown (grown_set (grown_set (grown_set (grown_set (grown_set (grown_set (grown_set (grown_set (World.grownBy.refl _ _) _) _) _) _) _) _) _) _) hRb).down hwb,fun g h e1 e2 _ _ e3=>S9.out.ne g (by rw [i1,e1]; rfl) (by rw [i4,e2,← e3]; rfl)⟩;have I1:Hid _:=i1;have I2:Hid _:=i2;have I3:Hid _:=i3;have I4:Hid _:=i4;have I5:Hid _:=i5;have I6:Hid _:=i6;clear hbo hso S9 i1 i2 i3 i4 i5 i6;go_wp2_with fail
  exact bodyPost_ret (results_mid Tryz.results114 _ _ _ _ _ rfl HRR.out Tryz.underlying104 rfl (show (Tryz.prog.info? 104).map (·.size)=some 8 by kernel_rfl)) rfl (And.intro (by rw [HW.out]; exact ⟨a1,a2,q1,q2,by first | (rw [I1.out,I3.out,I4.out,I5.out,I6.out]; rfl) | (rw [I1.out,I3.out,I4.out,I6.out]; simp [boC]),HOW.out⟩) RB.out)
end Go.Proofs.YtdkepkaflielhaaGreatDoor
