import Derived.Test.YtdkepkaflielhaaGreatDoorSz
import Derived.Test.YtdkepkaflielhaaGreatDoorAb
import Derived.Test.YtdkepkaflielhaaGreatDoorUni
import Derived.Test.YtdkepkaflielhaaGreatDoorILend
set_option linter.unusedVariables false
set_option linter.unusedSimpArgs false
set_option maxRecDepth 100000
set_option maxHeartbeats 8000000
namespace Go.Proofs.YtdkepkaflielhaaGreatDoor
open Go.RowKit Go.PlainAid
def bindForV (p:Pl) (xs:List Bd) (h:En):Bd × Bool :=
 if (xs.find? (ofIn h.proto h.addr h.port)).isSome=true then ((xs.find? (ofIn h.proto h.addr h.port)).getD bdZ,true)
 else (⟨h.proto,h.addr,h.port,outIn xs (outD p h.addr) h.addr,(lendN p xs h.proto (outIn xs (outD p h.addr) h.addr) h.port).getD 0⟩,(lendN p xs h.proto (outIn xs (outD p h.addr) h.addr) h.port).isSome)
theorem bindFor_lend (p:Pl) (xs:List Bd) (h:En):lendV p xs h.proto h.addr h.port=if (bindForV p xs h).2=true then ((bindForV p xs h).1,0) else (bdZ,9):=by
 unfold lendV bindForV
 cases xs.find? (ofIn h.proto h.addr h.port) with
 | some c=>rfl
 | none =>
  cases lendN p xs h.proto (outIn xs (outD p h.addr) h.addr) h.port<;>rfl
theorem outIn_some {xs:List Bd} {s d:ByteArray} (h:(xs.find? (ofHost s)).isSome=true):outIn xs d s=outIn xs ⟨#[]⟩ s:=by
 unfold outIn; cases hf:xs.find? (ofHost s) with
 | some c=>rfl
 | none=>rw [hf] at h; simp at h
theorem outIn_none {xs:List Bd} {s d:ByteArray} (h:(xs.find? (ofHost s)).isSome=false):outIn xs d s=d:=by
 unfold outIn; cases hf:xs.find? (ofHost s) with
 | some c=>rw [hf] at h; simp at h
 | none=>rfl
theorem outIn_sz {p:Pl} {xs:List Bd} {s:ByteArray} (hps:∀ s∈p.addrs,s.size≤1048576) (hgb:∀ q∈xs,BdGood q):(outIn xs (outD p s) s).size≤1048576:=by
 unfold outIn
 cases hf:xs.find? (ofHost s) with
 | some c=>exact (hgb c (List.mem_of_find?_eq_some hf)).2.1
 | none =>
  show (outD p s).size≤_;unfold outD
  cases ha:p.addrs[(sumV s).toNat % p.addrs.length]? with
  | none=>exact Nat.zero_le _
  | some a=>exact hps a (List.mem_of_getElem? ha)
theorem bindFor_any (pa:Option Addr) (pc:Nat) (p:Pl) (ba bo:Option Addr) (ca cb:Nat) (x:Bb) (m1 m2:Nat) (h:En) (w:World) (hpo:poolOk p=true) (he:EnIn h) (hw0:0≤h.port) (hw1:h.port≤65535) (hps:∀ s∈p.addrs,s.size≤1048576) (hbl1:x.binds.length≤1048576) (hgb:∀ q∈x.binds,BdGood q) (hbk:BookAt w m1 m2 x.binds x.binds) (hp:SlIs strL1 1 w pa p.addrs) (hx:BbIs w ba bo x) :
  Cb 141 #[bkC pa pc p ba bo ca cb x m1 m2,enC h] w (.tuple #[bdC (bindForV p x.binds h).1,.bool (bindForV p x.binds h).2]):=by
 have hpb:1≤p.addrs.length∧p.addrs.length≤8:=by
  unfold poolOk at hpo; simp only [Bool.and_eq_true,decide_eq_true_iff] at hpo; omega
 obtain ⟨hp1,hp8⟩:=hpb;have HPO:Hid (poolOk p=true):=hpo;have HZ:Hid (Below w.z w ((aW (aW w (KkV pa pc p ba ca bo cb x m1 m2) 139) (EnV h.proto h.addr h.port) 86).alloc (.cells (BdR 0 ⟨#[]⟩ 0 ⟨#[]⟩ 0).toArray 48))):=((bR.alloc lR _).alloc (by simp) _).alloc (by simp; omega) _;have HK:Hid (HoldsL ((aW (aW w (KkV pa pc p ba ca bo cb x m1 m2) 139) (EnV h.proto h.addr h.port) 86).alloc (.cells (BdR 0 ⟨#[]⟩ 0 ⟨#[]⟩ 0).toArray 48)) w.z (KkV pa pc p ba ca bo cb x m1 m2)):=((HoldsL.new w (KkV pa pc p ba ca bo cb x m1 m2) 139).alloc _).alloc _;have HH:Hid (HoldsL ((aW (aW w (KkV pa pc p ba ca bo cb x m1 m2) 139) (EnV h.proto h.addr h.port) 86).alloc (.cells (BdR 0 ⟨#[]⟩ 0 ⟨#[]⟩ 0).toArray 48)) (w.z+1) (EnV h.proto h.addr h.port)):=by
  have h:=(HoldsL.new (w.alloc (.cells (KkV pa pc p ba ca bo cb x m1 m2).toArray 139)) (EnV h.proto h.addr h.port) 86).alloc (.cells (BdR 0 ⟨#[]⟩ 0 ⟨#[]⟩ 0).toArray 48);rw [World.size_alloc] at h; exact h
 have HR:Hid (HoldsL ((aW (aW w (KkV pa pc p ba ca bo cb x m1 m2) 139) (EnV h.proto h.addr h.port) 86).alloc (.cells (BdR 0 ⟨#[]⟩ 0 ⟨#[]⟩ 0).toArray 48)) (w.z+1+1) (BdR 0 ⟨#[]⟩ 0 ⟨#[]⟩ 0)):=by
  have h:=HoldsL.new ((aW w (KkV pa pc p ba ca bo cb x m1 m2) 139).alloc (.cells (EnV h.proto h.addr h.port).toArray 86)) (BdR 0 ⟨#[]⟩ 0 ⟨#[]⟩ 0) 48;rw [World.size_alloc,World.size_alloc] at h; exact h
 have hRw:w.z≤w.z+1+1:=by omega
 obtain ⟨c,hc⟩ : ∃ c,c=(x.binds.find? (ofIn h.proto h.addr h.port)).getD bdZ:=⟨_,rfl⟩;have HLK:Hid (∀ W,Below w.z w W→(Instr.lookup 137 (.map (some m1)) (.agg (EnV h.proto h.addr h.port).toArray) true).run Tryz.prog W=.ok (.tuple #[.agg (BdV c).toArray,.bool (x.binds.find? (ofIn h.proto h.addr h.port)).isSome]) W):=fun W hW=>by
  have hl:=(hbk.kept hW).look1 (e:=h) he;rw [show (fun q=>sameEn (hostE q) h)=ofIn h.proto h.addr h.port from funext fun c=>host_in _ _ _ c,← hc] at hl;exact hl
 have HO:Hid (∀ W,Below w.z w W→Cb 164 #[.slice ba x.binds.length ca,.string h.addr] W (.tuple #[.string (outIn x.binds ⟨#[]⟩ h.addr),.bool (x.binds.find? (ofHost h.addr)).isSome])):=fun W hW=>outOf_any h.addr x.binds ba ca W hbl1 (hx.bd.below hW)
 have HF:Hid (∀ W s,Below w.z w W→s.size≤1048576→Cb 171 #[.agg (KkV pa pc p ba ca bo cb x m1 m2).toArray,iV h.proto,.string s,iV h.port] W (.tuple #[iV ((lendN p x.binds h.proto s h.port).getD 0),.bool (lendN p x.binds h.proto s h.port).isSome])):=fun W s hW hs=>freePort_any pa pc p ba bo ca cb x m1 m2 x.binds h.proto s h.port W hpo hs he.2.1 hw0 hw1 (hbk.kept hW)
 have HSZ:Hid ((outIn x.binds (outD p h.addr) h.addr).size≤1048576):=outIn_sz hps hgb;have HV:Hid (bindForV p x.binds h=if (x.binds.find? (ofIn h.proto h.addr h.port)).isSome=true then (c,true) else (⟨h.proto,h.addr,h.port,outIn x.binds (outD p h.addr) h.addr,(lendN p x.binds h.proto (outIn x.binds (outD p h.addr) h.addr) h.port).getD 0⟩,(lendN p x.binds h.proto (outIn x.binds (outD p h.addr) h.addr) h.port).isSome)):=by rw [hc]; rfl
 have hsr:=sumV_range h.addr;have HSU:Hid (∀ W,Cb 170 #[.string h.addr] W (iV (sumV h.addr))):=fun W=>(sumOfS_any h.addr W (by have:=he.1; omega)).mono fun e w' hh=>⟨hh.1,by rw [hh.2]; exact Below.refl _ _⟩
 obtain ⟨ix,hix⟩ : ∃ i,i=(sumV h.addr).toNat % p.addrs.length:=⟨_,rfl⟩;have hixl:ix < p.addrs.length:=by rw [hix]; exact Nat.mod_lt _ (by omega)
 have hrem:(sumV h.addr) % (p.addrs.length:Int)=(ix:Int):=by
  obtain ⟨n,hn⟩:=Int.eq_ofNat_of_zero_le hsr.1;rw [hix,hn,Int.toNat_natCast]; rfl
 obtain ⟨bp,op,rfl,hbp,hatp⟩:=hp.at hixl;have HPI:Hid (∀ W,Below w.z w W→W.cell? ⟨bp,op+ix,none⟩=some (.string (outD p h.addr))):=fun W hW=>by
  have hh:=(hatp.below hbp hW) ix hixl 0 _ rfl;have e:outD p h.addr=p.addrs[ix]:=by unfold outD; rw [← hix,List.getElem?_eq_getElem hixl]; rfl
  rw [e]; simpa using hh
 have hixI:(ix:Int) < (p.addrs.length:Int):=by omega
 have hnil:¬ p.addrs=[]:=fun e=>by rw [e] at hp1; simp at hp1
 have hrem2:(sumV h.addr).tmod (p.addrs.length:Int)=(ix:Int):=by rw [Int.tmod_eq_emod_of_nonneg hsr.1]; exact hrem
 have HOS:Hid ((x.binds.find? (ofHost h.addr)).isSome=true→outIn x.binds (outD p h.addr) h.addr=outIn x.binds ⟨#[]⟩ h.addr):=outIn_some;have HON:Hid ((x.binds.find? (ofHost h.addr)).isSome=false→outIn x.binds (outD p h.addr) h.addr=outD p h.addr):=outIn_none;generalize bindForV p x.binds h=ans at *;generalize (x.binds.find? (ofIn h.proto h.addr h.port)).isSome=bd at *;generalize outIn x.binds (outD p h.addr) h.addr=ot at *;generalize outIn x.binds ⟨#[]⟩ h.addr=oe at *;generalize outD p h.addr=od at *;generalize (x.binds.find? (ofHost h.addr)).isSome=mt at *;generalize sumV h.addr=sv at *;clear hc hbk hp hx hgb hps he hpo hatp hbp hix;have hun:undef=Value.tuple #[]:=rfl;unfold bkC enC;go_enter Tryz.func141,Tryz.ntmps141
 go_upto_region 1 with fail
 generalize World.alloc _ _=W at *;obtain ⟨k0,k1,k2,k3,k4,k5,k6,k7,k8,k9,k10,k11,k12,k13⟩:=HK.out.c14;obtain ⟨c0,c1,c2⟩:=HH.out.c3;have LK:=HLK.out W HZ.out;go_upto_region 2 with (at_lookup; refine wpList_look_val rfl _ _ _ _ rfl rfl rfl LK ?_)
 have bn:Below W.heap.size W (W.alloc (.cells (BdV c).toArray 48)):=bR.alloc lR _;have H6:Hid (HoldsL (W.alloc (.cells (BdV c).toArray 48)) W.heap.size (BdV c)):=HoldsL.new W (BdV c) 48;have HZ1:Hid _:=HZ.out.trans (bn.mono HZ.out.size);have HK1:Hid _:=HK.out.kept (by simp) bn;have HH1:Hid _:=HH.out.kept (by simp) bn;have HR1:Hid _:=HR.out.kept (by simp) bn;clear HZ HK HH HR;generalize (W.alloc (.cells (BdV c).toArray 48))=W1 at *;clear bn LK HLK k0 k1 k2 k3 k4 k5 k6 k7 k8 k9 k10 k11 k12 k13 c0 c1 c2
 cases bd with
 | true =>
  have HX:Hid (ans=(c,true)):=by unfold Hid; rw [HV.out,if_pos rfl]
  obtain ⟨y0,y1,y2,y3,y4⟩:=H6.out.c5;obtain ⟨z0,z1,z2,z3,z4⟩:=HR1.out.c5;obtain ⟨zf0,zf1,zf2,zf3,zf4⟩:=HR1.out.f5;go_wp2_with fail
  refine bodyPost_ret (v:=.tuple #[.agg (BdV c).toArray,.bool true]) (by simp [results,Tryz.results141,go_sem,z0,z1,z2,z3,z4]) rfl (And.intro (by rw [HX.out]; rfl) ?_);exact (((((HZ1.out.setCell (p:=⟨w.z+1+1,0,none⟩) hRw _).setCell (p:=⟨w.z+1+1,1,none⟩) hRw _).setCell (p:=⟨w.z+1+1,2,none⟩) hRw _).setCell (p:=⟨w.z+1+1,3,none⟩) hRw _).setCell (p:=⟨w.z+1+1,4,none⟩) hRw _)
 | false =>
  have HV2:Hid (ans=(⟨h.proto,h.addr,h.port,ot,(lendN p x.binds h.proto ot h.port).getD 0⟩,(lendN p x.binds h.proto ot h.port).isSome)):=by unfold Hid; rw [HV.out,if_neg (by simp)]
  clear HV H6;obtain ⟨k0,k1,k2,k3,k4,k5,k6,k7,k8,k9,k10,k11,k12,k13⟩:=HK1.out.c14;obtain ⟨c0,c1,c2⟩:=HH1.out.c3;go_wp2_with fail
  refine (HO.out _ HZ1.out).mono ?_;rintro e W2 ⟨rfl,q2⟩;have HZ2:Hid _:=HZ1.out.trans (q2.mono HZ1.out.size);have HK2:Hid _:=HK1.out.kept (by simp) q2;have HH2:Hid _:=HH1.out.kept (by simp) q2;have HR2:Hid _:=HR1.out.kept (by simp) q2;clear HZ1 HK1 HH1 HR1;clear q2 HO k0 k1 k2 k3 k4 k5 k6 k7 k8 k9 k10 k11 k12 k13 c0 c1 c2
  cases mt with
  | true =>
   obtain rfl:ot=oe:=HOS.out rfl;obtain ⟨k0,k1,k2,k3,k4,k5,k6,k7,k8,k9,k10,k11,k12,k13⟩:=HK2.out.c14;obtain ⟨c0,c1,c2⟩:=HH2.out.c3;go_wp2_with fail
   refine (HF.out _ ot HZ2.out HSZ.out).mono ?_;rintro e W9 ⟨rfl,q9⟩;have HZ9:Hid _:=HZ2.out.trans (q9.mono HZ2.out.size);have HK9:Hid _:=HK2.out.kept (by simp) q9;have HH9:Hid _:=HH2.out.kept (by simp) q9;have HR9:Hid _:=HR2.out.kept (by simp) q9;clear HZ2 HK2 HH2 HR2;clear q9 HF k0 k1 k2 k3 k4 k5 k6 k7 k8 k9 k10 k11 k12 k13 c0 c1 c2;generalize lendN p x.binds h.proto ot h.port=ln at *;obtain ⟨c0,c1,c2⟩:=HH9.out.c3;obtain ⟨z0,z1,z2,z3,z4⟩:=HR9.out.c5;obtain ⟨zf0,zf1,zf2,zf3,zf4⟩:=HR9.out.f5;go_wp2_with fail
   refine bodyPost_ret (v:=.tuple #[.agg (BdR h.proto h.addr h.port ot (ln.getD 0)).toArray,.bool ln.isSome]) (by simp [results,Tryz.results141,go_sem,z0,z1,z2,z3,z4]) rfl (And.intro (by rw [HV2.out]; rfl) ?_);exact (((((HZ9.out.setCell (p:=⟨w.z+1+1,0,none⟩) hRw _).setCell (p:=⟨w.z+1+1,1,none⟩) hRw _).setCell (p:=⟨w.z+1+1,2,none⟩) hRw _).setCell (p:=⟨w.z+1+1,3,none⟩) hRw _).setCell (p:=⟨w.z+1+1,4,none⟩) hRw _)
  | false =>
   obtain rfl:ot=od:=HON.out rfl;go_upto_region 6 with fail
   go_cut [8] (fun v wx=>v=.string ot∧Below W2.heap.size W2 wx)
   case first =>
    rename_i J K2 hJ hK2;clear hun;have HCP:Hid (∀ wy,Below W2.drew.heap.size W2.drew wy→HoldsL wy w.z (KkV (some ⟨bp,op,none⟩) pc p ba ca bo cb x m1 m2)∧HoldsL wy (w.z+1) (EnV h.proto h.addr h.port)∧Below w.z w wy):=fun wy hy=>⟨HK2.out.drew.kept (by simp) hy,HH2.out.drew.kept (by simp) hy,HZ2.out.drew.trans (hy.mono HZ2.out.size)⟩
    refine wp_region_growH [32,33,34,35,36,37,38,39,40,41,42,43,44,8] (by kernel_rfl) (by kernel_rfl) ?_;iterate 2 (apply GCh.u rfl;(·intro K' a wy ho hd hb hK;simp [rAt,IsV,slot,Region.binds] at ho hd;go_simp;(try go_bits);exact hK _ _ rfl bQ);dsimp only [nA,cA])
    apply GCh.v2
    ·rfl
    ·intro K' a wy ho hd hb hK kz;have q1:=hd ⟨1,.data⟩ (by simp) rfl;simp [rAt,IsV,slot] at q1;clear hd ho;obtain ⟨hk,hh,hbw⟩:=HCP.out wy hb;obtain ⟨k0,k1,k2,k3,k4,k5,k6,k7,k8,k9,k10,k11,k12,k13⟩:=hk.c14;obtain ⟨c0,c1,c2⟩:=hh.c3;have hpi:=HPI.out wy hbw;have hpi1:wy.cell? ⟨bp,op+ix*1,none⟩=some (.string ot):=by simpa using hpi
     go_simp;try go_bits
     exact kz _ rfl
    (apply GCh.u rfl;(·intro K' a wy ho hd hb hK;simp [rAt,IsV,slot,Region.binds] at ho hd;go_simp;(try go_bits);exact hK _ _ rfl bQ);dsimp only [nA,cA])
    apply GCh.v4
    ·rfl
    ·intro K' a wy ho hd hb hK kz;have q3:=hd ⟨3,.data⟩ (by simp) rfl;simp [rAt,IsV,slot] at q3;clear hd ho;obtain ⟨hk,hh,hbw⟩:=HCP.out wy hb;obtain ⟨k0,k1,k2,k3,k4,k5,k6,k7,k8,k9,k10,k11,k12,k13⟩:=hk.c14;obtain ⟨c0,c1,c2⟩:=hh.c3;have hpi:=HPI.out wy hbw;have hpi1:wy.cell? ⟨bp,op+ix*1,none⟩=some (.string ot):=by simpa using hpi
     go_simp;try go_bits
     exact kz _ rfl
    iterate 3 (apply GCh.u rfl;(·intro K' a wy ho hd hb hK;simp [rAt,IsV,slot,Region.binds] at ho hd;go_simp;first|((try go_bits);exact hK _ _ rfl bQ)|(refine (HSU.out wy).mono ?_;rintro e wz ⟨rfl,hz⟩;exact hK _ _ rfl hz));dsimp only [nA,cA])
    apply GCh.v8
    ·rfl
    ·intro K' a wy ho hd hb hK kz;have q7:=hd ⟨7,.data⟩ (by simp) rfl;simp [rAt,IsV,slot] at q7;clear hd ho;obtain ⟨hk,hh,hbw⟩:=HCP.out wy hb;obtain ⟨k0,k1,k2,k3,k4,k5,k6,k7,k8,k9,k10,k11,k12,k13⟩:=hk.c14;obtain ⟨c0,c1,c2⟩:=hh.c3;have hpi:=HPI.out wy hbw;have hpi1:wy.cell? ⟨bp,op+ix*1,none⟩=some (.string ot):=by simpa using hpi
     go_simp;try go_bits
     exact kz _ rfl
    iterate 3 (apply GCh.u rfl;(·intro K' a wy ho hd hb hK;simp [rAt,IsV,slot,Region.binds] at ho hd;go_simp;(try go_bits);exact hK _ _ rfl bQ);dsimp only [nA,cA])
    apply GCh.v12
    ·rfl
    ·intro K' a wy ho hd hb hK kz;have q11:=hd ⟨11,.data⟩ (by simp) rfl;simp [rAt,IsV,slot] at q11;clear hd ho;obtain ⟨hk,hh,hbw⟩:=HCP.out wy hb;obtain ⟨k0,k1,k2,k3,k4,k5,k6,k7,k8,k9,k10,k11,k12,k13⟩:=hk.c14;obtain ⟨c0,c1,c2⟩:=hh.c3;have hpi:=HPI.out wy hbw;have hpi1:wy.cell? ⟨bp,op+ix*1,none⟩=some (.string ot):=by simpa using hpi
     go_simp;try go_bits
     exact kz _ rfl
    (apply GCh.u rfl;(·intro K' a wy ho hd hb hK;simp [rAt,IsV,slot,Region.binds] at ho hd;go_simp;(try go_bits);exact hK _ _ rfl bQ);dsimp only [nA,cA])
    intro X wz hR hz;simp only [List.nil_append,List.cons_append,RAll,IsV] at hR;simp only [putsFrom,hR];clear hR;go_simp;refine hK2 _ _ (hJ _ _ ?_);(repeat apply Exists.intro)
    refine ⟨⟨rfl,bR.drew.trans hz⟩,rfl⟩
   case rest =>
   obtain ⟨rfl,qc⟩:=hcut;generalize wc=W3 at *;have HZ3:Hid _:=HZ2.out.trans (qc.mono HZ2.out.size);have HK3:Hid _:=HK2.out.kept (by simp) qc;have HH3:Hid _:=HH2.out.kept (by simp) qc;have HR3:Hid _:=HR2.out.kept (by simp) qc;clear HZ2 HK2 HH2 HR2;clear qc;obtain ⟨k0,k1,k2,k3,k4,k5,k6,k7,k8,k9,k10,k11,k12,k13⟩:=HK3.out.c14;obtain ⟨c0,c1,c2⟩:=HH3.out.c3;go_wp2_with fail
   refine (HF.out _ ot HZ3.out HSZ.out).mono ?_;rintro e W9 ⟨rfl,q9⟩;have HZ9:Hid _:=HZ3.out.trans (q9.mono HZ3.out.size);have HK9:Hid _:=HK3.out.kept (by simp) q9;have HH9:Hid _:=HH3.out.kept (by simp) q9;have HR9:Hid _:=HR3.out.kept (by simp) q9;clear HZ3 HK3 HH3 HR3;clear q9 HF k0 k1 k2 k3 k4 k5 k6 k7 k8 k9 k10 k11 k12 k13 c0 c1 c2;generalize lendN p x.binds h.proto ot h.port=ln at *;obtain ⟨c0,c1,c2⟩:=HH9.out.c3;obtain ⟨z0,z1,z2,z3,z4⟩:=HR9.out.c5;obtain ⟨zf0,zf1,zf2,zf3,zf4⟩:=HR9.out.f5;go_wp2_with fail
   refine bodyPost_ret (v:=.tuple #[.agg (BdR h.proto h.addr h.port ot (ln.getD 0)).toArray,.bool ln.isSome]) (by simp [results,Tryz.results141,go_sem,z0,z1,z2,z3,z4]) rfl (And.intro (by rw [HV2.out]; rfl) ?_);exact (((((HZ9.out.setCell (p:=⟨w.z+1+1,0,none⟩) hRw _).setCell (p:=⟨w.z+1+1,1,none⟩) hRw _).setCell (p:=⟨w.z+1+1,2,none⟩) hRw _).setCell (p:=⟨w.z+1+1,3,none⟩) hRw _).setCell (p:=⟨w.z+1+1,4,none⟩) hRw _)
end Go.Proofs.YtdkepkaflielhaaGreatDoor
