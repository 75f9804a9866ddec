import Derived.Test.YtdkepkaflielhaaGreatDoorSz
import Derived.Test.YtdkepkaflielhaaGreatDoorAb
import Derived.Test.YtdkepkaflielhaaGreatDoorUni
import Derived.Test.YtdkepkaflielhaaGreatDoorITch1
import Derived.Test.YtdkepkaflielhaaGreatDoorRowSet
set_option linter.unusedVariables false
set_option linter.unusedSimpArgs false
set_option maxRecDepth 100000
set_option maxHeartbeats 8000000
namespace Go.Proofs.YtdkepkaflielhaaGreatDoor
open Go.RowKit Go.PlainAid
theorem hostOf_any (pa:Option Addr) (pc:Nat) (p:Pl) (ba bo:Option Addr) (ca cb:Nat) (x:Bb) (m1 m2:Nat) (t:Tc) (w:World) (he:EnIn ⟨t.proto,t.addr,t.port⟩) (hbk:BookAt w m1 m2 x.binds x.binds) :
  Cb 106 #[bkC pa pc p ba bo ca cb x m1 m2,tcC t] w (.tuple #[enC (hostV x t).1,.bool (hostV x t).2]):=by
 obtain ⟨proto,inside,addr,port,peer,peerPort,flags⟩:=t;dsimp only at he;obtain ⟨c,hc⟩ : ∃ c,c=(x.binds.find? (ofOut proto addr port)).getD bdZ:=⟨_,rfl⟩;have HLK:Hid (∀ W,Below w.z w W→(Instr.lookup 137 (.map (some m2)) (.agg (EnV proto addr port).toArray) true).run Tryz.prog W=.ok (.tuple #[.agg (BdV c).toArray,.bool (x.binds.find? (ofOut proto addr port)).isSome]) W):=fun W hW=>by
  have hl:=(hbk.kept hW).look2 (e:=⟨proto,addr,port⟩) he;rw [show (fun q=>sameEn (lentE q) ⟨proto,addr,port⟩)=ofOut proto addr port from funext fun c=>lent_out _ _ _ c,← hc] at hl;exact hl
 have HHE:Hid (∀ W,Cb 53 #[.agg (BdV c).toArray] W (.agg (EnV c.proto c.inn c.inPort).toArray)):=fun W=>hostEnd_any c W
 have HV:Hid (hostV x ⟨proto,inside,addr,port,peer,peerPort,flags⟩=if inside=true then (⟨proto,addr,port⟩,true) else (⟨c.proto,c.inn,c.inPort⟩,(x.binds.find? (ofOut proto addr port)).isSome)):=by rw [hc]; rfl
 generalize hostV x ⟨proto,inside,addr,port,peer,peerPort,flags⟩=ans at *;generalize (x.binds.find? (ofOut proto addr port)).isSome=fd at *;clear hc he hbk;have hRw:w.z≤w.z+1+1:=by omega
 have hun:undef=Value.tuple #[]:=rfl;have HS0:=bx3 w (KkV pa pc p ba ca bo cb x m1 m2) 139 (TcR proto inside addr port peer peerPort flags) 89 (EnV 0 ⟨#[]⟩ 0) 86 (by simp) (by simp) (by simp)
 skip;unfold bkC tcC;go_enter Tryz.func106,Tryz.ntmps106
 go_upto_region 1 with fail
 generalize World.alloc _ _=W at *;have HHt:=HS0.out.at mE1;obtain ⟨t0,t1,t2,t3,t4,t5,t6⟩:=HHt.c7;clear HHt;go_upto_region 2 with fail
 have S1:Hid _:=HS0.out.push (EnV proto addr port) (by simp) 86;generalize hW1:W.alloc _=W1 at *;clear hW1 HS0 t0 t1 t2 t3 t4 t5 t6;generalize W.heap.size=Be at *
 cases inside with
 | true =>
  have HX:Hid (ans=(⟨proto,addr,port⟩,true)):=HV.out;clear HV;have HHt:=S1.out.at mE2;have t1:=HHt.cell (j:=1) rfl;clear HHt;have HHn:=S1.out.at mE0;obtain ⟨n0,n1,n2⟩:=HHn.c3;clear HHn;have HHz:=S1.out.at mE3;obtain ⟨z0,z1,z2⟩:=HHz.c3;obtain ⟨zf0,zf1,zf2⟩:=HHz.f3;go_wp2_with fail
  refine bodyPost_ret (v:=.tuple #[.agg (EnV proto addr port).toArray,.bool true]) (by simp [results,Tryz.results106,go_sem,z0,z1,z2]) rfl (And.intro (by rw [HX.out]; rfl) ?_);exact (((S1.out.b.setCell (p:=⟨w.z+1+1,0,none⟩) hRw _).setCell (p:=⟨w.z+1+1,1,none⟩) hRw _).setCell (p:=⟨w.z+1+1,2,none⟩) hRw _)
 | false =>
  have HX:Hid (ans=(⟨c.proto,c.inn,c.inPort⟩,fd)):=HV.out;clear HV;have HHt:=S1.out.at mE2;have t1:=HHt.cell (j:=1) rfl;clear HHt;have HHn:=S1.out.at mE0;obtain ⟨n0,n1,n2⟩:=HHn.c3;clear HHn;have HHk:=S1.out.at mE1;have k13:=HHk.cell (j:=13) rfl;clear HHk;have LK:=HLK.out W1 S1.out.b;go_upto_region 5 with (at_lookup; refine wpList_look_val rfl _ _ _ _ rfl rfl rfl LK ?_)
  have S2:Hid _:=S1.out.push (BdV c) (by simp) 48;generalize hW2:W1.alloc _=W2 at *;clear hW2 S1 LK HLK n0 n1 n2 k13 t1;generalize W1.heap.size=Bc at *;have HHy:=S2.out.at mE0;obtain ⟨y0,y1,y2,y3,y4⟩:=HHy.c5;clear HHy;go_wp2_with fail
  refine (HHE.out _).mono ?_;rintro e W3 ⟨rfl,q3⟩;have S3:Hid _:=S2.out.kept q3;clear q3 S2 HHE y0 y1 y2 y3 y4;have HHz:=S3.out.at mE4;obtain ⟨z0,z1,z2⟩:=HHz.c3;obtain ⟨zf0,zf1,zf2⟩:=HHz.f3;go_wp2_with fail
  refine bodyPost_ret (v:=.tuple #[.agg (EnV c.proto c.inn c.inPort).toArray,.bool fd]) (by simp [results,Tryz.results106,go_sem,z0,z1,z2]) rfl (And.intro (by rw [HX.out]; rfl) ?_);exact (((S3.out.b.setCell (p:=⟨w.z+1+1,0,none⟩) hRw _).setCell (p:=⟨w.z+1+1,1,none⟩) hRw _).setCell (p:=⟨w.z+1+1,2,none⟩) hRw _)
theorem admits1_any (q:Ss) (h:En) (s:ByteArray) (B1 B2:Nat) (w:World) (hk0:HoldsL w B1 (enL h)) (hk1:HoldsL w B2 [.string s]) :
  Cb 169 #[ssC q,.pointer (some ⟨B1,0,none⟩),.pointer (some ⟨B2,0,none⟩)] w (.bool (metB h s q)):=by
 have HF:Hid (∀ W,Cb 134 #[.agg (SsV q).toArray] W (.agg (BdR q.proto q.inn q.inPort q.peer q.peerPort).toArray)):=fun W=>sessKey_any q W
 have HE:Hid (∀ W,(binOp .eql 86 (.agg (EnV q.proto q.inn q.inPort).toArray) (.agg (EnV h.proto h.addr h.port).toArray)).run Tryz.prog W=.ok (.bool (sameEn (sessE q) h)) W):=fun W=>eqEn_bin (sessE q) h W
 have HFL:Hid (∀ W,Sem.run Tryz.prog (Instr.field 147 (.agg (BdR q.proto q.inn q.inPort q.peer q.peerPort).toArray) 0) W=.ok (.agg (EnV q.proto q.inn q.inPort).toArray) W):=fun W=>by kernel_rfl
 have HV:Hid (metB h s q=(sameEn (sessE q) h&&decide (q.peer.toList=s.toList))):=rfl;generalize metB h s q=ans at *;generalize sameEn (sessE q) h=b at *;have HZ:Hid (Below w.z w (w.alloc (.cells (SsV q).toArray 59))):=bR.alloc lR _;have HQ:Hid (HoldsL (w.alloc (.cells (SsV q).toArray 59)) w.z (SsV q)):=HoldsL.new w (SsV q) 59;have HK0:Hid (HoldsL (w.alloc (.cells (SsV q).toArray 59)) B1 (EnV h.proto h.addr h.port)):=HoldsL.alloc (cs:=(EnV h.proto h.addr h.port)) hk0 _;have HK1:Hid (HoldsL (w.alloc (.cells (SsV q).toArray 59)) B2 [.string s]):=hk1.alloc _;clear hk0 hk1;unfold ssC;go_enter Tryz.func169,Tryz.ntmps169
 go_upto_region 1 with fail
 generalize (w.alloc (.cells (SsV q).toArray 59))=W at *;go_cut [4] (fun v wx=>v=.bool ans∧Below w.z w wx)
 case first =>
  rename_i J K2 hJ hK2;have HCP:Hid (∀ wy,Below W.drew.heap.size W.drew wy→HoldsL wy w.z (SsV q)∧HoldsL wy B1 (EnV h.proto h.addr h.port)∧HoldsL wy B2 [.string s]):=fun wy hy=>⟨HQ.out.drew.kept (by simp) hy,HK0.out.drew.kept (by simp) hy,HK1.out.drew.kept (by simp) hy⟩
  cases b with
  | false =>
   have HX:Hid (ans=false):=HV.out;clear HV;refine wp_region_growH [5,6,7,8,9,10,11,12,13,14,15,4] (by kernel_rfl) (by kernel_rfl) ?_;iterate 2 (apply GCh.u rfl;(·intro K' a wy ho hd hb hK;simp [rAt,IsV,slot,Region.binds] at ho hd;obtain ⟨hq,h0,h1⟩:=HCP.out wy hb;have kC:=hq.c7;have kC:=h0.c3;have m0:=h1.cell (j:=0) rfl;go_simp;first|((try go_bits);exact hK _ _ rfl bQ)|(refine (HF.out wy).mono ?_;rintro e wz ⟨rfl,hz⟩;exact hK _ _ rfl hz));dsimp only [nA,cA])
   (apply GCh.u rfl;(·intro K' a wy ho hd hb hK;simp [rAt,IsV,slot,Region.binds] at ho hd;have hfl:=HFL.out wy;go_simp;(try go_bits);exact hK _ _ rfl bQ);dsimp only [nA,cA])
   (apply GCh.u rfl;(·intro K' a wy ho hd hb hK;simp [rAt,IsV,slot,Region.binds] at ho hd;obtain ⟨hq,h0,h1⟩:=HCP.out wy hb;have kC:=hq.c7;have kC:=h0.c3;have m0:=h1.cell (j:=0) rfl;go_simp;(try go_bits);exact hK _ _ rfl bQ);dsimp only [nA,cA])
   apply GCh.v4
   ·rfl
   ·intro K' a wy ho hd hb hK kz;have q2:=hd ⟨2,.data⟩ (by simp) rfl;have q3:=hd ⟨3,.data⟩ (by simp) rfl;simp [rAt,IsV,slot] at q2 q3;clear hd ho;refine wp_bin_val .eql 86 86 (.tmp 7) (.tmp 8) rfl (by simp [Act.eval,slot,q2]) (by simp [Act.eval,slot,q3]) (run_eqGuard_agg _ _ _ _ _ _ _ (by kernel_rfl)) (HE.out wy) ?_;exact kz _ rfl
   iterate 7 ((first|(refine GCh.n rfl rfl rfl rfl rfl (by simp) ?_)|(apply GCh.u rfl;(·intro K' a wy ho hd hb hK;simp [rAt,IsV,slot,Region.binds] at ho hd;go_simp;(try go_bits);exact hK _ _ rfl bQ)));dsimp only [nA,cA])
   intro X wz hR hz;simp only [List.nil_append,List.cons_append,RAll,IsV] at hR;simp only [putsFrom,hR];clear hR;go_simp;try go_bits
   refine hK2 _ _ (hJ _ _ ?_);(repeat apply Exists.intro)
   refine ⟨⟨by rw [HX.out],HZ.out.drew.trans (hz.mono HZ.out.size)⟩,rfl⟩
  | true =>
   have HX:Hid (ans=decide (q.peer.toList=s.toList)):=by unfold Hid; rw [HV.out]; rfl
   clear HV;by_cases hs:q.peer.toList=s.toList
   case pos =>
    have hs2:(q.peer.toList==s.toList)=true:=by simp [hs]
    rw [decide_eq_true hs] at HX;clear hs;refine wp_region_growH [5,6,7,8,9,10,11,12,13,14,15,4] (by kernel_rfl) (by kernel_rfl) ?_;iterate 2 (apply GCh.u rfl;(·intro K' a wy ho hd hb hK;simp [rAt,IsV,slot,Region.binds] at ho hd;obtain ⟨hq,h0,h1⟩:=HCP.out wy hb;have kC:=hq.c7;have kC:=h0.c3;have m0:=h1.cell (j:=0) rfl;go_simp;first|((try go_bits);exact hK _ _ rfl bQ)|(refine (HF.out wy).mono ?_;rintro e wz ⟨rfl,hz⟩;exact hK _ _ rfl hz));dsimp only [nA,cA])
    (apply GCh.u rfl;(·intro K' a wy ho hd hb hK;simp [rAt,IsV,slot,Region.binds] at ho hd;have hfl:=HFL.out wy;go_simp;(try go_bits);exact hK _ _ rfl bQ);dsimp only [nA,cA])
    (apply GCh.u rfl;(·intro K' a wy ho hd hb hK;simp [rAt,IsV,slot,Region.binds] at ho hd;obtain ⟨hq,h0,h1⟩:=HCP.out wy hb;have kC:=hq.c7;have kC:=h0.c3;have m0:=h1.cell (j:=0) rfl;go_simp;(try go_bits);exact hK _ _ rfl bQ);dsimp only [nA,cA])
    apply GCh.v4
    ·rfl
    ·intro K' a wy ho hd hb hK kz;have q2:=hd ⟨2,.data⟩ (by simp) rfl;have q3:=hd ⟨3,.data⟩ (by simp) rfl;simp [rAt,IsV,slot] at q2 q3;clear hd ho;refine wp_bin_val .eql 86 86 (.tmp 7) (.tmp 8) rfl (by simp [Act.eval,slot,q2]) (by simp [Act.eval,slot,q3]) (run_eqGuard_agg _ _ _ _ _ _ _ (by kernel_rfl)) (HE.out wy) ?_;exact kz _ rfl
    iterate 7 ((first|apply GCh.u rfl|apply GCh.g rfl rfl rfl rfl rfl (by simp));(·intro K' a wy ho hd hb hK;simp [rAt,IsV,slot,Region.binds] at ho hd;obtain ⟨hq,h0,h1⟩:=HCP.out wy hb;have kC:=hq.c7;have kC:=h0.c3;have m0:=h1.cell (j:=0) rfl;go_simp;(try go_bits);exact hK _ _ rfl bQ);dsimp only [nA,cA])
    intro X wz hR hz;simp only [List.nil_append,List.cons_append,RAll,IsV] at hR;simp only [putsFrom,hR];clear hR;go_simp;try go_bits
    refine hK2 _ _ (hJ _ _ ?_);(repeat apply Exists.intro)
    refine ⟨⟨by rw [HX.out],HZ.out.drew.trans (hz.mono HZ.out.size)⟩,rfl⟩
   case neg =>
    have hs2:(q.peer.toList==s.toList)=false:=by simp [hs]
    rw [decide_eq_false hs] at HX;clear hs;refine wp_region_growH [5,6,7,8,9,10,11,12,13,14,15,4] (by kernel_rfl) (by kernel_rfl) ?_;iterate 2 (apply GCh.u rfl;(·intro K' a wy ho hd hb hK;simp [rAt,IsV,slot,Region.binds] at ho hd;obtain ⟨hq,h0,h1⟩:=HCP.out wy hb;have kC:=hq.c7;have kC:=h0.c3;have m0:=h1.cell (j:=0) rfl;go_simp;first|((try go_bits);exact hK _ _ rfl bQ)|(refine (HF.out wy).mono ?_;rintro e wz ⟨rfl,hz⟩;exact hK _ _ rfl hz));dsimp only [nA,cA])
    (apply GCh.u rfl;(·intro K' a wy ho hd hb hK;simp [rAt,IsV,slot,Region.binds] at ho hd;have hfl:=HFL.out wy;go_simp;(try go_bits);exact hK _ _ rfl bQ);dsimp only [nA,cA])
    (apply GCh.u rfl;(·intro K' a wy ho hd hb hK;simp [rAt,IsV,slot,Region.binds] at ho hd;obtain ⟨hq,h0,h1⟩:=HCP.out wy hb;have kC:=hq.c7;have kC:=h0.c3;have m0:=h1.cell (j:=0) rfl;go_simp;(try go_bits);exact hK _ _ rfl bQ);dsimp only [nA,cA])
    apply GCh.v4
    ·rfl
    ·intro K' a wy ho hd hb hK kz;have q2:=hd ⟨2,.data⟩ (by simp) rfl;have q3:=hd ⟨3,.data⟩ (by simp) rfl;simp [rAt,IsV,slot] at q2 q3;clear hd ho;refine wp_bin_val .eql 86 86 (.tmp 7) (.tmp 8) rfl (by simp [Act.eval,slot,q2]) (by simp [Act.eval,slot,q3]) (run_eqGuard_agg _ _ _ _ _ _ _ (by kernel_rfl)) (HE.out wy) ?_;exact kz _ rfl
    iterate 7 ((first|apply GCh.u rfl|apply GCh.g rfl rfl rfl rfl rfl (by simp));(·intro K' a wy ho hd hb hK;simp [rAt,IsV,slot,Region.binds] at ho hd;obtain ⟨hq,h0,h1⟩:=HCP.out wy hb;have kC:=hq.c7;have kC:=h0.c3;have m0:=h1.cell (j:=0) rfl;go_simp;(try go_bits);exact hK _ _ rfl bQ);dsimp only [nA,cA])
    intro X wz hR hz;simp only [List.nil_append,List.cons_append,RAll,IsV] at hR;simp only [putsFrom,hR];clear hR;go_simp;try go_bits
    refine hK2 _ _ (hJ _ _ ?_);(repeat apply Exists.intro)
    refine ⟨⟨by rw [HX.out],HZ.out.drew.trans (hz.mono HZ.out.size)⟩,rfl⟩
 case rest =>
  obtain ⟨rfl,hb⟩:=hcut;have HB:Hid (Below w.z w wc):=hb;clear hb;go_wp2_with fail
  go_ret;exact ⟨rfl,HB.out⟩
theorem admits_any (pa:Option Addr) (pc:Nat) (p:Pl) (ba bo:Option Addr) (ca cb:Nat) (x:Bb) (m1 m2:Nat) (h:En) (s:ByteArray) (w:World) (hl2:x.sess.length≤1048576) (hx:BbIs w ba bo x) :
  Cb 140 #[bkC pa pc p ba bo ca cb x m1 m2,enC h,.string s] w (.bool (admitV p x h s)):=by
 have HC:Hid (∀ W B1 B2,Below w.z w W→HoldsL W B1 (enL h)→HoldsL W B2 [.string s]→Cb 168 #[.slice bo x.sess.length cb,.func (.func 169) #[] #[.pointer (some ⟨B1,0,none⟩),.pointer (some ⟨B2,0,none⟩)]] W (.bool (x.sess.any (metB h s)))):=fun W B1 B2 hW h1 h2=>hasFunc_any (metB h s) 169 (fun args W=>by kernel_rfl) #[.pointer (some ⟨B1,0,none⟩),.pointer (some ⟨B2,0,none⟩)] x.sess bo cb W hl2 (hx.ss.below hW) (fun W' hW' q hq=>admits1_any q h s B1 B2 W' (h1.kept (by simp [enL]) hW') (h2.kept (by simp) hW'))
 have HV:Hid (admitV p x h s=if p.filter=0 then true else if p.filter=1 then x.sess.any (metB h s) else false):=rfl;generalize admitV p x h s=ans at *;generalize x.sess.any (metB h s)=an at *;clear hx;have HS0:=bx3 w (KkV pa pc p ba ca bo cb x m1 m2) 139 (EnV h.proto h.addr h.port) 86 [.string s] 9 (by simp) (by simp) (by simp)
 skip;unfold bkC enC;go_enter Tryz.func140,Tryz.ntmps140
 go_upto_region 1 with fail
 generalize World.alloc _ _=W at *;have HHk:=HS0.out.at mE0;obtain ⟨k0,k1,k2,k3,k4,k5,k6,k7,k8,k9,k10,k11,k12,k13⟩:=HHk.c14;clear HHk;by_cases h0:p.filter=0
 case pos =>
  have d0:(p.filter==0)=true:=by simp [h0]
  have HX:Hid (ans=true):=by unfold Hid; rw [HV.out,if_pos h0]
  clear h0 HV;go_wp2_with fail
  go_ret;exact ⟨ret_bool HX.out.symm,HS0.out.b⟩
 have d0:(p.filter==0)=false:=by simp [h0]
 by_cases h1:p.filter=1
 case neg =>
  have d1:(p.filter==1)=false:=by simp [h1]
  have HX:Hid (ans=false):=by unfold Hid; rw [HV.out,if_neg h0,if_neg h1]
  clear h0 h1 HV;go_wp2_with fail
  go_ret;exact ⟨ret_bool HX.out.symm,HS0.out.b⟩
 have d1:(p.filter==1)=true:=by simp [h1]
 have HX:Hid (ans=an):=by unfold Hid; rw [HV.out,if_neg h0,if_pos h1]
 clear h0 h1 HV;go_wp2_with fail
 refine (HC.out _ _ _ HS0.out.b (HS0.out.k _ mE1) (HS0.out.k _ mE2)).mono ?_;rintro e W1 ⟨rfl,q1⟩;have B1:Hid (Below w.z w W1):=HS0.out.b.trans (q1.mono HS0.out.b.size);clear q1 HS0;go_wp2_with fail
 go_ret;exact ⟨ret_bool HX.out.symm,B1.out⟩
end Go.Proofs.YtdkepkaflielhaaGreatDoor
