import Derived.Test.YtdkepkaflielhaaGreatDoorMerged28
set_option linter.unusedVariables false
set_option linter.unusedSimpArgs false
set_option maxRecDepth 100000
set_option maxHeartbeats 8000000
namespace Go.Proofs.YtdkepkaflielhaaGreatDoor
open Go.RowKit
def bindP (p:Pl) (b:Bd):Bool:=protoB b.proto&&addrOk b.inn&&isW b.inPort&&inL p.addrs b.out&&isIn b.outPort p.low p.high
theorem bind_iff {p:Pl} {xs:List Bd}:(∀ i (h:i < xs.length),bindOne p (xs.take i) xs[i]=true)↔(∀ c∈xs,bindP p c=true)∧xs.Pairwise (fun c b=>clashB c b=false):=by
 have e:∀ ys b,bindOne p ys b=(bindP p b&&!ys.any fun c=>clashB c b):=fun ys b=>rfl
 rw [List.pairwise_iff_getElem];constructor
 ·intro h;refine ⟨fun c hc=>?_,fun i j hi hj hij=>?_⟩
  ·obtain ⟨i,hi,rfl⟩:=List.getElem_of_mem hc;have:=h i hi;rw [e] at this;simp only [Bool.and_eq_true] at this;exact this.1
  ·have:=h j hj;rw [e] at this;simp only [Bool.and_eq_true,Bool.not_eq_true'] at this;have:=List.any_eq_false.1 this.2 xs[i] (take_mem hi hij);simpa using this
 ·rintro ⟨h1,h2⟩ i hi;rw [e];simp only [Bool.and_eq_true,Bool.not_eq_true'];refine ⟨h1 _ (List.getElem_mem hi),?_⟩;rw [List.any_eq_false];intro c hc;obtain ⟨k,hk,hki,rfl⟩:=mem_take hc;rw [h2 k i hk hi hki]; decide
open Go.PlainAid
theorem ofFl_zero {s d:ByteArray} {p:Int} {t:ByteArray} (h:ofCode s.size p t=0):(ofFl s d p t).proto=p∧(ofFl s d p t).src=s∧(ofFl s d p t).dst=d∧(0≤(ofFl s d p t).sp∧(ofFl s d p t).sp≤65535)∧(0≤(ofFl s d p t).dp∧(ofFl s d p t).dp≤65535)∧(echoP p=true→(ofFl s d p t).sp=(ofFl s d p t).dp):=by
 unfold ofFl;rw [if_pos h];have w0:=wordN_range (bt_isByte t) 0;have w2:=wordN_range (bt_isByte t) 2;have w4:=wordN_range (bt_isByte t) 4;by_cases he:echoP p=true
 ·rw [if_pos he]; exact ⟨rfl,rfl,rfl,w4,w4,fun _=>rfl⟩
 ·rw [if_neg he]; exact ⟨rfl,rfl,rfl,w0,w2,fun h=>absurd h he⟩
theorem proto_of {n:Nat} {p:Int} {t:ByteArray} (h:ofCode n p t=0):protoOk p n=true:=by
 unfold ofCode at h;by_cases h3:protoOk p n=false
 ·rw [if_pos h3] at h; simp at h
 ·simpa using h3
theorem proto_four {p:Int} (h:protoOk p 4=true):p=6∨p=17∨p=1:=by
 unfold protoOk at h;simp only [Bool.or_eq_true,Bool.and_eq_true,decide_eq_true_iff] at h;omega
theorem flowOk_of {s d:ByteArray} {p:Int} {t:ByteArray} (h:ofCode s.size p t=0) (hp:pairOk s d=true):flowOk (ofFl s d p t)=true:=by
 obtain ⟨h1,h2,h3,h4,h5,h6⟩:=ofFl_zero (d:=d) h;unfold flowOk;rw [h1,h2,h3,hp,proto_of h,isW_yes h4.1 h4.2,isW_yes h5.1 h5.2];by_cases he:echoP p=true
 ·simp [he,h6 he]
 ·simp [he]
theorem flag_byte (p:Int) (t:ByteArray):isIn (flagV p t) 0 255=true:=by
 unfold flagV isIn;have:=bt_isByte t 13;split<;>simp<;>omega
theorem peer_word {p n:Int} (h:0≤n∧n≤65535):isW (peerV p n)=true:=by
 unfold peerV; split
 ·decide
 ·exact isW_yes h.1 h.2
theorem addr_four {s:ByteArray} (h:s.size=4):addrOk s=true:=by unfold addrOk; simp [h]
theorem pair_four {s d:ByteArray} (hs:s.size=4) (hd:d.size=4):pairOk s d=true:=by unfold pairOk; rw [addr_four hs]; simp [hs,hd]
theorem protoB_four {p:Int} (h:p=6∨p=17∨p=1):protoB p=true∧protoN p=p:=by
 rcases h with rfl | rfl | rfl<;>decide
theorem comeT_ok {s d:ByteArray} {p:Int} {t:ByteArray} (hs:s.size=4) (hd:d.size=4) (h:ofCode s.size p t=0):touchOk (comeT (ofFl s d p t) t)=true:=by
 obtain ⟨h1,h2,h3,h4,h5,h6⟩:=ofFl_zero (d:=d) h;have hp:=proto_four (hs ▸ proto_of h);unfold touchOk comeT;dsimp only;rw [h1,h2,h3,(protoB_four hp).1,addr_four hd,isW_yes h5.1 h5.2,peer_word h4,flag_byte];simp [hs,hd]
theorem bind_ends {p:Pl} {x:Bb} {t:Tc} {now:Int} (h:bibOk p x=true) (hn:isTime now=true) (ht:touchOk t=true) (hc:(goV p x t now).code=0) :
  (goV p x t now).bind.out.size=4∧(0≤(goV p x t now).bind.outPort∧(goV p x t now).bind.outPort≤65535)∧((goV p x t now).bind.inn.size=4∨(goV p x t now).bind.inn.size=16)∧(0≤(goV p x t now).bind.inPort∧(goV p x t now).bind.inPort≤65535)∧(t.inside=true→(goV p x t now).bind.inn=t.addr):=by
 obtain ⟨g1,g2,g3,g4,g5⟩:=go_right (bibR_iff.1 h) hn ht hc;have hb:=(bind_iff.1 g1.bind).1 _ g3;unfold bindP at hb;simp only [Bool.and_eq_true] at hb;have hpl:=g1.pool;have hpo:1≤p.low∧p.high≤65535:=by
  unfold poolOk at hpl;simp only [Bool.and_eq_true,decide_eq_true_iff] at hpl;exact ⟨hpl.1.1.1.1.1.1.2,hpl.1.1.1.1.2⟩
 have ho:=isIn_parts hb.2;have hw:0≤(goV p x t now).bind.inPort∧(goV p x t now).bind.inPort≤65535:=by simpa [isW] using hb.1.1.2
 have hsz:(goV p x t now).bind.out.size=4:=by
  unfold poolOk at hpl;simp only [Bool.and_eq_true] at hpl;have hu:=upN_iff.1 hpl.2;have hs:=hb.1.2;unfold inL at hs;obtain ⟨u,hu1,hu2⟩:=List.any_eq_true.1 hs;obtain ⟨i,hi,rfl⟩:=List.getElem_of_mem hu1;have h1:=hu i hi;unfold addrOne at h1;simp only [Bool.and_eq_true,decide_eq_true_iff] at h1 hu2;have:p.addrs[i].size=(goV p x t now).bind.out.size:=by
   have:=congrArg List.length hu2;simpa [ByteArray.toList_eq] using this
  omega
 exact ⟨hsz,⟨by omega,by omega⟩,addrOk_size hb.1.1.1.2,hw,fun hi=>congrArg En.addr (g4 hi)⟩
theorem kind_right {f g:Fl} (hf:flowOk f=true) (hfs:f.src.size=4) (hgs:g.src.size=4) (hgd:g.dst.size=4) (hp:g.proto=f.proto) (h1:0≤g.sp∧g.sp≤65535) (h2:0≤g.dp∧g.dp≤65535):flowOk (kindF f g)=true∧(kindF f g).proto=f.proto∧(kindF f g).src=g.src∧(kindF f g).dst=g.dst:=by
 have hpo:protoOk f.proto 4=true:=by unfold flowOk at hf; simp only [Bool.and_eq_true] at hf; rw [hfs] at hf; exact hf.1.1.1.2
 unfold kindF;by_cases he:echoP f.proto=true
 ·rw [if_pos he];have e1:f.proto=1:=by
   have:=proto_four hpo;unfold echoP at he;simp only [Bool.or_eq_true,decide_eq_true_iff] at he;omega
  rw [if_neg (by omega)];refine ⟨?_,e1.symm,rfl,rfl⟩;unfold flowOk;dsimp only;rw [pair_four hgs hgd,isW_yes h1.1 h1.2,hgs,show protoOk 1 4=true by decide]; simp
 ·rw [if_neg he];refine ⟨?_,hp,rfl,rfl⟩;unfold flowOk;rw [pair_four hgs hgd,hp,hgs,hpo,isW_yes h1.1 h1.2,isW_yes h2.1 h2.2]; simp [he]
theorem setD_four {s d:ByteArray} {p:Int} {t:ByteArray} {g:Fl} (h:ofCode s.size p t=0) (hs:s.size=4) (hd:d.size=4) (ht:t.size≤20000) (hg:flowOk g=true) (hp:g.proto=p) (hgs:g.src.size=4):setData (ofFl s d p t) g t=setD (ofFl s d p t) g t∧setCode (ofFl s d p t) g t=0:=by
 obtain ⟨h1,h2,h3,h4,h5,h6⟩:=ofFl_zero (d:=d) h;have hin:setIn (ofFl s d p t) g t=true:=by
  unfold setIn;rw [flowOk_of h (pair_four hs hd),hg,h1,h2,h3,hp,h]; simp
 have hc:setCode (ofFl s d p t) g t=0:=by
  unfold setCode;rw [if_neg (by omega),if_neg (by rw [hin]; simp),if_neg];rintro ⟨_,h16⟩; omega
 refine ⟨?_,hc⟩;unfold setData setD;rw [hc,if_pos rfl];by_cases hb:bareUdp (ofFl s d p t) t=true
 ·rw [if_pos hb,if_pos hb,if_neg (by omega)]
 ·rw [if_neg hb,if_neg hb]
theorem copyFour_any (p:P4) (w:World) (h1:p.src.size≤1048576) (h2:p.dst.size≤1048576) (h3:p.opts.size≤1048576) (h4:p.data.size≤1048576) :
  Cb 112 #[p4C p] w (p4C p):=by
 have H1:Hid (∀ W,Cb 119 #[.string p.src] W (.string p.src)):=fun W=>cloneS_any _ W h1
 have H2:Hid (∀ W,Cb 119 #[.string p.dst] W (.string p.dst)):=fun W=>cloneS_any _ W h2
 have H3:Hid (∀ W,Cb 119 #[.string p.opts] W (.string p.opts)):=fun W=>cloneS_any _ W h3
 have H4:Hid (∀ W,Cb 119 #[.string p.data] W (.string p.data)):=fun W=>cloneS_any _ W h4
 have S0:Hid (Bxs w [(w.heap.size+1,(P4R 0 0 false false 0 0 0 ⟨#[]⟩ ⟨#[]⟩ ⟨#[]⟩ ⟨#[]⟩)),(w.heap.size,(P4V p))] ((aW w (P4V p) 33).alloc (.cells (P4R 0 0 false false 0 0 0 ⟨#[]⟩ ⟨#[]⟩ ⟨#[]⟩ ⟨#[]⟩).toArray 33))):=by
  have h:=((⟨fun e he=>(by cases he),Below.refl _ _,fun e he=>(by cases he)⟩ : Bxs w [] w).push (P4V p) (by simp) 33).push (P4R 0 0 false false 0 0 0 ⟨#[]⟩ ⟨#[]⟩ ⟨#[]⟩ ⟨#[]⟩) (by simp) 33;rw [World.size_alloc] at h;exact h
 clear h1 h2 h3 h4;unfold p4C;go_enter Tryz.func112,Tryz.ntmps112
 go_upto_region 1 with fail
 generalize World.alloc _ _=W0 at *;go_cut [3] (fun v wx=>Bxs w [(w.heap.size+1,(P4R 0 0 false false 0 0 0 ⟨#[]⟩ ⟨#[]⟩ ⟨#[]⟩ ⟨#[]⟩)),(w.heap.size,(P4V p))] wx)
 case first =>
  rename_i J K2 hJ hK2;have HCP:Hid (∀ wy,Below W0.drew.heap.size W0.drew wy→_):=fun wy hy=>S0.out.kept (bR.drew.trans hy)
  refine wp_region_growV [3,4,5,6,7,8,9] (by kernel_rfl) (by kernel_rfl) ?_;iterate 5 (apply GChV.u rfl;(·intro K' a wy ho hd hb hK;simp [rAt,IsV,slot,Region.binds] at ho hd;have HHq:HoldsL wy w.heap.size (P4V p):=(HCP.out wy hb).k _ mE1;have kC:=HHq.c11;clear HHq;go_simp;first|((try go_bits);exact hK _ _ rfl bQ)|(refine (H1.out wy).mono ?_;rintro e wz ⟨rfl,hz⟩;exact hK _ _ rfl hz));dsimp only [nA,cA])
  iterate 2 (apply GChV.u rfl;(·intro K' a wy ho hd hb hK;simp [rAt,IsV,slot,Region.binds] at ho hd;go_simp;first|((try go_bits);exact hK _ _ rfl bQ)|(refine (H2.out wy).mono ?_;rintro e wz ⟨rfl,hz⟩;exact hK _ _ rfl hz));dsimp only [nA,cA])
  intro X wz hR hz;simp only [List.nil_append,List.cons_append,RAll,IsV] at hR;simp only [putsFrom,hR];clear hR;have hS:=HCP.out wz hz;have HHq:=hS.at mE1;obtain ⟨-,-,-,-,-,-,-,fi,fj⟩:=HHq.f9;obtain ⟨-,-,-,-,-,-,-,ki,kj⟩:=HHq.c9;have HS:Hid (Bxs w [(w.heap.size+1,(P4R 0 0 false false 0 0 0 ⟨#[]⟩ ⟨#[]⟩ ⟨#[]⟩ ⟨#[]⟩)),(w.heap.size,(P4V p))] wz):=hS;clear hS HHq;intro K10 hK10;go_simp;refine hK10 _ _ ?_;intro K11 hK11;go_simp;refine hK11 _ _ ?_;intro K12 hK12;go_simp;refine hK12 _ _ ?_;show Exit.then _ _ _ _ _;refine hK2 _ _ (hJ _ _ ?_);(repeat apply Exists.intro)
  refine ⟨⟨fun e he=>?_,(HS.out.b.setCell (p:=⟨w.heap.size,7,none⟩) lR _).setCell (p:=⟨w.heap.size,8,none⟩) lR _,HS.out.z⟩,rfl⟩;simp only [List.mem_cons,List.not_mem_nil,or_false] at he;rcases he with rfl | rfl
  ·exact ((HS.out.k _ mE0).setOther (by show w.heap.size+1≠w.heap.size; omega) _).setOther (by show w.heap.size+1≠w.heap.size; omega) _
  ·exact ((HS.out.k _ mE1).set 7 (.string p.src)).set 8 (.string p.dst)
 case rest =>
 have S1:Hid (Bxs w [(w.heap.size+1,(P4R 0 0 false false 0 0 0 ⟨#[]⟩ ⟨#[]⟩ ⟨#[]⟩ ⟨#[]⟩)),(w.heap.size,(P4V p))] wc):=hcut;clear hcut S0;generalize wc=W1 at *;go_upto_region 2 with fail
 go_cut [11] (fun v wx=>Bxs w [(w.heap.size+1,(P4R 0 0 false false 0 0 0 ⟨#[]⟩ ⟨#[]⟩ ⟨#[]⟩ ⟨#[]⟩)),(w.heap.size,(P4V p))] wx)
 case first =>
  rename_i J K2 hJ hK2;have HCP:Hid (∀ wy,Below W1.drew.heap.size W1.drew wy→_):=fun wy hy=>S1.out.kept (bR.drew.trans hy)
  refine wp_region_growV [11,12,13,14,15,16,17] (by kernel_rfl) (by kernel_rfl) ?_;iterate 5 (apply GChV.u rfl;(·intro K' a wy ho hd hb hK;simp [rAt,IsV,slot,Region.binds] at ho hd;have HHq:HoldsL wy w.heap.size (P4V p):=(HCP.out wy hb).k _ mE1;have kC:=HHq.c11;clear HHq;go_simp;first|((try go_bits);exact hK _ _ rfl bQ)|(refine (H3.out wy).mono ?_;rintro e wz ⟨rfl,hz⟩;exact hK _ _ rfl hz));dsimp only [nA,cA])
  iterate 2 (apply GChV.u rfl;(·intro K' a wy ho hd hb hK;simp [rAt,IsV,slot,Region.binds] at ho hd;go_simp;first|((try go_bits);exact hK _ _ rfl bQ)|(refine (H4.out wy).mono ?_;rintro e wz ⟨rfl,hz⟩;exact hK _ _ rfl hz));dsimp only [nA,cA])
  intro X wz hR hz;simp only [List.nil_append,List.cons_append,RAll,IsV] at hR;simp only [putsFrom,hR];clear hR;have hS:=HCP.out wz hz;have HHq:=hS.at mE1;obtain ⟨-,-,-,-,-,-,-,-,-,fi,fj⟩:=HHq.f11;obtain ⟨-,-,-,-,-,-,-,-,-,ki,kj⟩:=HHq.c11;have HS:Hid (Bxs w [(w.heap.size+1,(P4R 0 0 false false 0 0 0 ⟨#[]⟩ ⟨#[]⟩ ⟨#[]⟩ ⟨#[]⟩)),(w.heap.size,(P4V p))] wz):=hS;clear hS HHq;intro K10 hK10;go_simp;refine hK10 _ _ ?_;intro K11 hK11;go_simp;refine hK11 _ _ ?_;intro K12 hK12;go_simp;refine hK12 _ _ ?_;show Exit.then _ _ _ _ _;refine hK2 _ _ (hJ _ _ ?_);(repeat apply Exists.intro)
  refine ⟨⟨fun e he=>?_,(HS.out.b.setCell (p:=⟨w.heap.size,9,none⟩) lR _).setCell (p:=⟨w.heap.size,10,none⟩) lR _,HS.out.z⟩,rfl⟩;simp only [List.mem_cons,List.not_mem_nil,or_false] at he;rcases he with rfl | rfl
  ·exact ((HS.out.k _ mE0).setOther (by show w.heap.size+1≠w.heap.size; omega) _).setOther (by show w.heap.size+1≠w.heap.size; omega) _
  ·exact ((HS.out.k _ mE1).set 9 (.string p.opts)).set 10 (.string p.data)
 case rest =>
 have S2:Hid (Bxs w [(w.heap.size+1,(P4R 0 0 false false 0 0 0 ⟨#[]⟩ ⟨#[]⟩ ⟨#[]⟩ ⟨#[]⟩)),(w.heap.size,(P4V p))] wc):=hcut;clear hcut S1;generalize wc=W2 at *;have HHq:=S2.out.at mE1;obtain ⟨k0,k1,k2,k3,k4,k5,k6,k7,k8,k9,k10⟩:=HHq.c11;clear HHq;have HHq:=S2.out.at mE0;obtain ⟨z0,z1,z2,z3,z4,z5,z6,z7,z8,z9,z10⟩:=HHq.c11;obtain ⟨zf0,zf1,zf2,zf3,zf4,zf5,zf6,zf7,zf8,zf9,zf10⟩:=HHq.f11;clear HHq;have HBE:Hid (Below w.heap.size w ((sW (sW (sW (sW (sW (sW (sW (sW (sW (sW W2 (w.heap.size+1) 0 (iV p.tos)) (w.heap.size+1) 1 (iV p.id)) (w.heap.size+1) 2 (.bool p.whole)) (w.heap.size+1) 3 (.bool p.more)) (w.heap.size+1) 4 (iV p.off)) (w.heap.size+1) 5 (iV p.ttl)) (w.heap.size+1) 6 (iV p.proto)) (w.heap.size+1) 7 (.string p.src)) (w.heap.size+1) 8 (.string p.dst)) (w.heap.size+1) 9 (.string p.opts)).setCell ⟨w.heap.size+1,10,none⟩ (.string p.data))):=(((((((((((S2.out.b.setCell (p:=⟨w.heap.size+1,0,none⟩) (Nat.le_succ _) _).setCell (p:=⟨w.heap.size+1,1,none⟩) (Nat.le_succ _) _).setCell (p:=⟨w.heap.size+1,2,none⟩) (Nat.le_succ _) _).setCell (p:=⟨w.heap.size+1,3,none⟩) (Nat.le_succ _) _).setCell (p:=⟨w.heap.size+1,4,none⟩) (Nat.le_succ _) _).setCell (p:=⟨w.heap.size+1,5,none⟩) (Nat.le_succ _) _).setCell (p:=⟨w.heap.size+1,6,none⟩) (Nat.le_succ _) _).setCell (p:=⟨w.heap.size+1,7,none⟩) (Nat.le_succ _) _).setCell (p:=⟨w.heap.size+1,8,none⟩) (Nat.le_succ _) _).setCell (p:=⟨w.heap.size+1,9,none⟩) (Nat.le_succ _) _).setCell (p:=⟨w.heap.size+1,10,none⟩) (Nat.le_succ _) _);clear S2;go_wp2_with fail
 exact bodyPost_ret (v:=.agg (P4V p).toArray) (by simp [results,Tryz.results112,go_sem,z0,z1,z2,z3,z4,z5,z6,z7,z8,z9,z10]) rfl ⟨rfl,HBE.out⟩
theorem asFlow_any (q:P4) (f g:Fl) (d:ByteArray) (c:Int) (w:World) (h1:q.src.size≤1048576) (h2:q.dst.size≤1048576) (h3:q.opts.size≤1048576) (h4:q.data.size≤1048576)
  (HS:Hid (∀ W,Cb 113 #[fwC f,fwC g,.string q.data] W (dtCO d c))) :
  Cb 61 #[p4C q,fwC f,fwC g] w (p4C { q with src:=g.src,dst:=g.dst,data:=d }):=by
 have HC:Hid (∀ W,Cb 112 #[p4C q] W (p4C q)):=fun W=>copyFour_any q W h1 h2 h3 h4
 have S0:Hid (Bxs w [(w.heap.size+1+1+1,(P4R 0 0 false false 0 0 0 ⟨#[]⟩ ⟨#[]⟩ ⟨#[]⟩ ⟨#[]⟩)),(w.heap.size+1+1,(FlV g)),(w.heap.size+1,(FlV f)),(w.heap.size,(P4V q))] ((aW (aW (aW w (P4V q) 33) (FlV f) 43) (FlV g) 43).alloc (.cells (P4R 0 0 false false 0 0 0 ⟨#[]⟩ ⟨#[]⟩ ⟨#[]⟩ ⟨#[]⟩).toArray 33))):=by
  have h:=((((⟨fun e he=>(by cases he),Below.refl _ _,fun e he=>(by cases he)⟩ : Bxs w [] w).push (P4V q) (by simp) 33).push (FlV f) (by simp) 43).push (FlV g) (by simp) 43).push (P4R 0 0 false false 0 0 0 ⟨#[]⟩ ⟨#[]⟩ ⟨#[]⟩ ⟨#[]⟩) (by simp) 33;simp only [World.size_alloc] at h;exact h
 clear h1 h2 h3 h4;unfold p4C fwC dtCO at *;go_enter Tryz.func61,Tryz.ntmps61
 go_upto_region 1 with fail
 generalize World.alloc _ _=W0 at *;have HHq:=S0.out.at mE3;obtain ⟨k0,k1,k2,k3,k4,k5,k6,k7,k8,k9,k10⟩:=HHq.c11;clear HHq;go_wp2_with fail
 refine (HC.out W0).mono ?_;rintro e w1 ⟨rfl,qx⟩;have S1:Hid (Bxs w [(w1.heap.size,(P4V q)),(w.heap.size+1+1+1,(P4R 0 0 false false 0 0 0 ⟨#[]⟩ ⟨#[]⟩ ⟨#[]⟩ ⟨#[]⟩)),(w.heap.size+1+1,(FlV g)),(w.heap.size+1,(FlV f)),(w.heap.size,(P4V q))] (w1.alloc (.cells (P4V q).toArray 33))):=(S0.out.kept qx).push (P4V q) (by simp) 33;have hn:w.heap.size+1+1+1 < w1.heap.size:=((S0.out.kept qx).k _ mE0).lt (by simp);clear S0 qx HC k0 k1 k2 k3 k4 k5 k6 k7 k8 k9 k10;go_upto_region 2 with fail
 generalize (w1.alloc (.cells (P4V q).toArray 33))=W1 at *;generalize w1.heap.size=Nb at *;go_cut [10] (fun v wx=>Bxs w [(Nb,(P4R q.tos q.id q.whole q.more q.off q.ttl q.proto g.src g.dst q.opts d)),(w.heap.size+1+1+1,(P4R 0 0 false false 0 0 0 ⟨#[]⟩ ⟨#[]⟩ ⟨#[]⟩ ⟨#[]⟩)),(w.heap.size+1+1,(FlV g)),(w.heap.size+1,(FlV f)),(w.heap.size,(P4V q))] wx)
 case first =>
  have e0:w.heap.size≠Nb:=by omega
  have e1:w.heap.size+1≠Nb:=by omega
  have e2:w.heap.size+1+1≠Nb:=by omega
  have e3:Nb≠w.heap.size:=by omega
  have e4:Nb≠w.heap.size+1:=by omega
  have e5:Nb≠w.heap.size+1+1:=by omega
  have kq:W1.cell? ⟨w.heap.size,10,none⟩=some (.string q.data):=(S1.out.k _ mE4:HoldsL W1 (w.heap.size) (P4V q)).cell rfl;have kf0:W1.cell? ⟨w.heap.size+1,0,none⟩=some (iV f.proto):=(S1.out.k _ mE3:HoldsL W1 (w.heap.size+1) (FlV f)).cell rfl;have kf1:W1.cell? ⟨w.heap.size+1,1,none⟩=some (.string f.src):=(S1.out.k _ mE3:HoldsL W1 (w.heap.size+1) (FlV f)).cell rfl;have kf2:W1.cell? ⟨w.heap.size+1,2,none⟩=some (.string f.dst):=(S1.out.k _ mE3:HoldsL W1 (w.heap.size+1) (FlV f)).cell rfl;have kf3:W1.cell? ⟨w.heap.size+1,3,none⟩=some (iV f.sp):=(S1.out.k _ mE3:HoldsL W1 (w.heap.size+1) (FlV f)).cell rfl;have kf4:W1.cell? ⟨w.heap.size+1,4,none⟩=some (iV f.dp):=(S1.out.k _ mE3:HoldsL W1 (w.heap.size+1) (FlV f)).cell rfl;have kg0:W1.cell? ⟨w.heap.size+1+1,0,none⟩=some (iV g.proto):=(S1.out.k _ mE2:HoldsL W1 (w.heap.size+1+1) (FlV g)).cell rfl;have kg1:W1.cell? ⟨w.heap.size+1+1,1,none⟩=some (.string g.src):=(S1.out.k _ mE2:HoldsL W1 (w.heap.size+1+1) (FlV g)).cell rfl;have kg2:W1.cell? ⟨w.heap.size+1+1,2,none⟩=some (.string g.dst):=(S1.out.k _ mE2:HoldsL W1 (w.heap.size+1+1) (FlV g)).cell rfl;have kg3:W1.cell? ⟨w.heap.size+1+1,3,none⟩=some (iV g.sp):=(S1.out.k _ mE2:HoldsL W1 (w.heap.size+1+1) (FlV g)).cell rfl;have kg4:W1.cell? ⟨w.heap.size+1+1,4,none⟩=some (iV g.dp):=(S1.out.k _ mE2:HoldsL W1 (w.heap.size+1+1) (FlV g)).cell rfl;have kn7:W1.cell? ⟨Nb,7,none⟩=some (.string q.src):=(S1.out.k _ mE0:HoldsL W1 Nb (P4V q)).cell rfl;have km7:W1.frozen? ⟨Nb,7,none⟩=false:=(S1.out.k _ mE0:HoldsL W1 Nb (P4V q)).free (j:=7) (by simp);have kn8:W1.cell? ⟨Nb,8,none⟩=some (.string q.dst):=(S1.out.k _ mE0:HoldsL W1 Nb (P4V q)).cell rfl;have km8:W1.frozen? ⟨Nb,8,none⟩=false:=(S1.out.k _ mE0:HoldsL W1 Nb (P4V q)).free (j:=8) (by simp);have kn10:W1.cell? ⟨Nb,10,none⟩=some (.string q.data):=(S1.out.k _ mE0:HoldsL W1 Nb (P4V q)).cell rfl
  have km10:W1.frozen? ⟨Nb,10,none⟩=false:=(S1.out.k _ mE0:HoldsL W1 Nb (P4V q)).free (j:=10) (by simp);have hfd:∀ W,(Instr.field 55 (.agg #[.string d,iV c]) 0).run Tryz.prog W=.ok (.string d) W:=fun W=>by kernel_rfl
  go_region_held (fun wy=>wy.cell? ⟨w.heap.size,10,none⟩=some (.string q.data)∧wy.cell? ⟨w.heap.size+1,0,none⟩=some (iV f.proto)∧wy.cell? ⟨w.heap.size+1,1,none⟩=some (.string f.src)∧wy.cell? ⟨w.heap.size+1,2,none⟩=some (.string f.dst)∧wy.cell? ⟨w.heap.size+1,3,none⟩=some (iV f.sp)∧wy.cell? ⟨w.heap.size+1,4,none⟩=some (iV f.dp)∧wy.cell? ⟨w.heap.size+1+1,0,none⟩=some (iV g.proto)∧wy.cell? ⟨w.heap.size+1+1,1,none⟩=some (.string g.src)∧wy.cell? ⟨w.heap.size+1+1,2,none⟩=some (.string g.dst)∧wy.cell? ⟨w.heap.size+1+1,3,none⟩=some (iV g.sp)∧wy.cell? ⟨w.heap.size+1+1,4,none⟩=some (iV g.dp)) (go_keep) (first | (go_at_call 113; refine (HS.out _).mono ?_; rintro e w5 ⟨rfl,qx⟩; have S5:Hid _:=S1.out.kept (bR.drew.trans qx); clear qx; have lq:w5.cell? ⟨w.heap.size,10,none⟩=some (.string q.data):=(S5.out.k _ mE4:HoldsL w5 (w.heap.size) (P4V q)).cell rfl; have lf0:w5.cell? ⟨w.heap.size+1,0,none⟩=some (iV f.proto):=(S5.out.k _ mE3:HoldsL w5 (w.heap.size+1) (FlV f)).cell rfl; have lf1:w5.cell? ⟨w.heap.size+1,1,none⟩=some (.string f.src):=(S5.out.k _ mE3:HoldsL w5 (w.heap.size+1) (FlV f)).cell rfl; have lf2:w5.cell? ⟨w.heap.size+1,2,none⟩=some (.string f.dst):=(S5.out.k _ mE3:HoldsL w5 (w.heap.size+1) (FlV f)).cell rfl; have lf3:w5.cell? ⟨w.heap.size+1,3,none⟩=some (iV f.sp):=(S5.out.k _ mE3:HoldsL w5 (w.heap.size+1) (FlV f)).cell rfl; have lf4:w5.cell? ⟨w.heap.size+1,4,none⟩=some (iV f.dp):=(S5.out.k _ mE3:HoldsL w5 (w.heap.size+1) (FlV f)).cell rfl; have lg0:w5.cell? ⟨w.heap.size+1+1,0,none⟩=some (iV g.proto):=(S5.out.k _ mE2:HoldsL w5 (w.heap.size+1+1) (FlV g)).cell rfl; have lg1:w5.cell? ⟨w.heap.size+1+1,1,none⟩=some (.string g.src):=(S5.out.k _ mE2:HoldsL w5 (w.heap.size+1+1) (FlV g)).cell rfl; have lg2:w5.cell? ⟨w.heap.size+1+1,2,none⟩=some (.string g.dst):=(S5.out.k _ mE2:HoldsL w5 (w.heap.size+1+1) (FlV g)).cell rfl; have lg3:w5.cell? ⟨w.heap.size+1+1,3,none⟩=some (iV g.sp):=(S5.out.k _ mE2:HoldsL w5 (w.heap.size+1+1) (FlV g)).cell rfl; have lg4:w5.cell? ⟨w.heap.size+1+1,4,none⟩=some (iV g.dp):=(S5.out.k _ mE2:HoldsL w5 (w.heap.size+1+1) (FlV g)).cell rfl; have ln7:w5.cell? ⟨Nb,7,none⟩=some (.string q.src):=(S5.out.k _ mE0:HoldsL w5 Nb (P4V q)).cell rfl; have lm7:w5.frozen? ⟨Nb,7,none⟩=false:=(S5.out.k _ mE0:HoldsL w5 Nb (P4V q)).free (j:=7) (by simp); have ln8:w5.cell? ⟨Nb,8,none⟩=some (.string q.dst):=(S5.out.k _ mE0:HoldsL w5 Nb (P4V q)).cell rfl; have lm8:w5.frozen? ⟨Nb,8,none⟩=false:=(S5.out.k _ mE0:HoldsL w5 Nb (P4V q)).free (j:=8) (by simp); have ln10:w5.cell? ⟨Nb,10,none⟩=some (.string q.data):=(S5.out.k _ mE0:HoldsL w5 Nb (P4V q)).cell rfl; have lm10:w5.frozen? ⟨Nb,10,none⟩=false:=(S5.out.k _ mE0:HoldsL w5 Nb (P4V q)).free (j:=10) (by simp); clear kq kf0 kf1 kf2 kf3 kf4 kg0 kg1 kg2 kg3 kg4 kn7 km7 kn8 km8 kn10 km10))
  have SX:Hid (Bxs w [(Nb,(P4R q.tos q.id q.whole q.more q.off q.ttl q.proto g.src g.dst q.opts d)),(w.heap.size+1+1+1,(P4R 0 0 false false 0 0 0 ⟨#[]⟩ ⟨#[]⟩ ⟨#[]⟩ ⟨#[]⟩)),(w.heap.size+1+1,(FlV g)),(w.heap.size+1,(FlV f)),(w.heap.size,(P4V q))] ((sW (sW w5 Nb 7 (.string g.src)) Nb 8 (.string g.dst)).setCell ⟨Nb,10,none⟩ (.string d))):=⟨fun e he=>by
   simp only [List.mem_cons,List.not_mem_nil,or_false] at he;rcases he with rfl | rfl | rfl | rfl | rfl
   ·exact ((((S5.out.k _ mE0).set 7 (.string g.src)).set 8 (.string g.dst)).set 10 (.string d))
   ·exact ((((S5.out.k _ mE1).setOther (by show w.heap.size+1+1+1≠Nb; omega) _).setOther (by show w.heap.size+1+1+1≠Nb; omega) _).setOther (by show w.heap.size+1+1+1≠Nb; omega) _)
   ·exact ((((S5.out.k _ mE2).setOther (by show w.heap.size+1+1≠Nb; omega) _).setOther (by show w.heap.size+1+1≠Nb; omega) _).setOther (by show w.heap.size+1+1≠Nb; omega) _)
   ·exact ((((S5.out.k _ mE3).setOther (by show w.heap.size+1≠Nb; omega) _).setOther (by show w.heap.size+1≠Nb; omega) _).setOther (by show w.heap.size+1≠Nb; omega) _)
   ·exact ((((S5.out.k _ mE4).setOther (by show w.heap.size≠Nb; omega) _).setOther (by show w.heap.size≠Nb; omega) _).setOther (by show w.heap.size≠Nb; omega) _),(((S5.out.b.setCell (p:=⟨Nb,7,none⟩) (show w.heap.size≤Nb by omega) _).setCell (p:=⟨Nb,8,none⟩) (show w.heap.size≤Nb by omega) _).setCell (p:=⟨Nb,10,none⟩) (show w.heap.size≤Nb by omega) _),fun e he=>by
   simp only [List.mem_cons,List.not_mem_nil,or_false] at he;rcases he with rfl | rfl | rfl | rfl | rfl<;>simp⟩
  all_goals go_wp2_with fail
  all_goals go_meet
  all_goals exact SX.out
 case rest =>
 have S2:Hid (Bxs w [(Nb,(P4R q.tos q.id q.whole q.more q.off q.ttl q.proto g.src g.dst q.opts d)),(w.heap.size+1+1+1,(P4R 0 0 false false 0 0 0 ⟨#[]⟩ ⟨#[]⟩ ⟨#[]⟩ ⟨#[]⟩)),(w.heap.size+1+1,(FlV g)),(w.heap.size+1,(FlV f)),(w.heap.size,(P4V q))] wc):=hcut;clear hcut S1 HS;generalize wc=W2 at *;have HHq:=S2.out.at mE0;obtain ⟨k0,k1,k2,k3,k4,k5,k6,k7,k8,k9,k10⟩:=HHq.c11;clear HHq;have HHq:=S2.out.at mE1;obtain ⟨z0,z1,z2,z3,z4,z5,z6,z7,z8,z9,z10⟩:=HHq.c11;obtain ⟨zf0,zf1,zf2,zf3,zf4,zf5,zf6,zf7,zf8,zf9,zf10⟩:=HHq.f11;clear HHq;have HBE:Hid (Below w.heap.size w ((sW (sW (sW (sW (sW (sW (sW (sW (sW (sW W2 (w.heap.size+1+1+1) 0 (iV q.tos)) (w.heap.size+1+1+1) 1 (iV q.id)) (w.heap.size+1+1+1) 2 (.bool q.whole)) (w.heap.size+1+1+1) 3 (.bool q.more)) (w.heap.size+1+1+1) 4 (iV q.off)) (w.heap.size+1+1+1) 5 (iV q.ttl)) (w.heap.size+1+1+1) 6 (iV q.proto)) (w.heap.size+1+1+1) 7 (.string g.src)) (w.heap.size+1+1+1) 8 (.string g.dst)) (w.heap.size+1+1+1) 9 (.string q.opts)).setCell ⟨w.heap.size+1+1+1,10,none⟩ (.string d))):=(((((((((((S2.out.b.setCell (p:=⟨w.heap.size+1+1+1,0,none⟩) (show w.heap.size≤w.heap.size+1+1+1 by omega) _).setCell (p:=⟨w.heap.size+1+1+1,1,none⟩) (show w.heap.size≤w.heap.size+1+1+1 by omega) _).setCell (p:=⟨w.heap.size+1+1+1,2,none⟩) (show w.heap.size≤w.heap.size+1+1+1 by omega) _).setCell (p:=⟨w.heap.size+1+1+1,3,none⟩) (show w.heap.size≤w.heap.size+1+1+1 by omega) _).setCell (p:=⟨w.heap.size+1+1+1,4,none⟩) (show w.heap.size≤w.heap.size+1+1+1 by omega) _).setCell (p:=⟨w.heap.size+1+1+1,5,none⟩) (show w.heap.size≤w.heap.size+1+1+1 by omega) _).setCell (p:=⟨w.heap.size+1+1+1,6,none⟩) (show w.heap.size≤w.heap.size+1+1+1 by omega) _).setCell (p:=⟨w.heap.size+1+1+1,7,none⟩) (show w.heap.size≤w.heap.size+1+1+1 by omega) _).setCell (p:=⟨w.heap.size+1+1+1,8,none⟩) (show w.heap.size≤w.heap.size+1+1+1 by omega) _).setCell (p:=⟨w.heap.size+1+1+1,9,none⟩) (show w.heap.size≤w.heap.size+1+1+1 by omega) _).setCell (p:=⟨w.heap.size+1+1+1,10,none⟩) (show w.heap.size≤w.heap.size+1+1+1 by omega) _);clear S2;go_wp2_with fail
 exact bodyPost_ret (v:=.agg (P4R q.tos q.id q.whole q.more q.off q.ttl q.proto g.src g.dst q.opts d).toArray) (by simp [results,Tryz.results61,go_sem,z0,z1,z2,z3,z4,z5,z6,z7,z8,z9,z10]) rfl ⟨rfl,HBE.out⟩
theorem indexS_any (xs:List ByteArray) (s:ByteArray) (a:Option Addr) (cap:Nat) (w:World) (hlen:xs.length≤1048576) (hr:SlIs strL1 1 w a xs) :
  Calls Tryz.prog 128 #[.slice a xs.length cap,.string s] w fun e w'=>(∃ r:Int,e=.returned (iV r)∧decide (0≤r)=inL xs s)∧Below w.heap.size w w':=by
 have HR:Hid (SlIs strL1 1 w a xs):=hr;have HV:Hid (inL xs s=xs.any fun t=>decide (t.toList=s.toList)):=rfl;generalize inL xs s=ans at *;clear hr;go_enter Tryz.func128,Tryz.ntmps128
 go_wp2_with fail
 go_loopw [8] (fun iv wr=>∃ i:Nat,i≤xs.length∧iv=iV i∧(xs.take i).any (fun t=>decide (t.toList=s.toList))=false∧Below w.heap.size w wr) (fun iv _=>xs.length-(intOf iv).toNat)
 case atStart=>exact ⟨0,Nat.zero_le _,rfl,rfl,Below.refl _ _⟩
 case round =>
  obtain ⟨i,hi,rfl,hn,hbel⟩:=hrel;have HN:Hid ((xs.take i).any (fun t=>decide (t.toList=s.toList))=false):=hn;have HL:Hid (Below w.heap.size w wr):=hbel;clear hn hbel;by_cases hlt:i < xs.length
  ·obtain ⟨b,off,rfl,hb,hat⟩:=HR.out.at hlt;have hA:=(hat.below hb HL.out) i hlt;have HST:Hid _:=any_take (fun t:ByteArray=>decide (t.toList=s.toList)) xs i hlt;have HAT:Hid _:=any_at (fun t:ByteArray=>decide (t.toList=s.toList)) xs i hlt;obtain ⟨t,ht⟩ : ∃ t,xs[i]=t:=⟨_,rfl⟩;rw [ht] at hA HST HAT;have c0:wr.cell? ⟨b,off+i,none⟩=some (.string t):=by have:=hA 0 _ rfl; simpa using this
   have c0':wr.cell? ⟨b,off+i*1,none⟩=some (.string t):=by simpa using c0
   clear hA hat ht;by_cases he:t.toList=s.toList
   ·have HX:Hid (ans=true):=by unfold Hid; rw [HV.out]; exact HAT.out (decide_eq_true he)
    have hbq:(s.toList==t.toList)=true:=by simp [he]
    clear he;go_wp2_with fail
    go_ret;exact ⟨⟨i,rfl,by rw [HX.out]; simp⟩,HL.out⟩
   ·have HN2:Hid ((xs.take (i+1)).any (fun t=>decide (t.toList=s.toList))=false):=by unfold Hid; rw [HST.out,HN.out,decide_eq_false he]; rfl
    have hbq:(s.toList==t.toList)=false:=by simp; exact fun h=>he h.symm
    clear he;go_wp2_with fail
    go_roundw
    case rel=>exact ⟨i+1,by omega,by go_num,HN2.out,HL.out⟩
    case measure=>simp [intOf]; omega
  ·have hie:i=xs.length:=by omega
   have HX:Hid (ans=false):=by unfold Hid; have:=HN.out; rw [hie,List.take_length] at this; rw [HV.out]; exact this
   go_wp2_with fail
   go_ret;exact ⟨⟨-1,rfl,by rw [HX.out]; rfl⟩,HL.out⟩
theorem containsS_any (xs:List ByteArray) (s:ByteArray) (a:Option Addr) (cap:Nat) (w:World) (hlen:xs.length≤1048576) (hr:SlIs strL1 1 w a xs) :
  Cb 96 #[.slice a xs.length cap,.string s] w (.bool (inL xs s)):=by
 have HC:Hid _:=indexS_any xs s a cap w hlen hr;clear hr;go_enter Tryz.func96,Tryz.ntmps96
 go_wp2_with fail
 refine Calls.mono HC.out ?_;rintro e w1 ⟨⟨r,rfl,hr⟩,b1⟩;have HR:Hid (decide (0≤r)=inL xs s):=hr;clear hr HC;go_wp2_with fail
 go_ret;exact ⟨ret_bool HR.out,b1⟩
def wayI (pa:Option Addr) (n pc:Nat):Value:=.iface 82 (.agg #[.slice pa n pc])
theorem leadsI_any (xs:List ByteArray) (s:ByteArray) (pa:Option Addr) (pc:Nat) (w:World) (hlen:xs.length≤1048576) (hr:SlIs strL1 1 w pa xs) :
  Cb 57 #[wayI pa xs.length pc,.string s] w (.bool (inL xs s)):=by
 have t1:∀ W,(Instr.typeAssert (.iface 82 (.agg #[.slice pa xs.length pc])) 99 82 true).run Tryz.prog W=.ok (.tuple #[.agg #[.slice pa xs.length pc],.bool true]) W:=fun W=>by kernel_rfl
 have HC:Hid (∀ W,Below w.heap.size w W→Cb 96 #[.slice pa xs.length pc,.string s] W (.bool (inL xs s))):=fun W hW=>containsS_any xs s pa pc W hlen (hr.below hW)
 have HB:Hid (Below w.heap.size w (w.alloc (.cells #[.slice pa xs.length pc] 82))):=bR.alloc lR _;clear hr;unfold wayI;go_enter Tryz.func57,Tryz.ntmps57
 go_wp2_with fail
 refine (HC.out _ HB.out).mono ?_;rintro e w1 ⟨rfl,b1⟩;have HB1:Hid _:=HB.out.trans (b1.mono HB.out.size);clear b1 HC;go_wp2_with fail
 go_ret;exact ⟨rfl,HB1.out⟩
theorem nat_parts {p:Pl} {x:Bb} {q:P4} {now:Int} (h:natFt p x q now=0):bibOk p x=true∧v4Ok q=true∧isTime now=true:=by
 unfold natFt at h;split at h
 ·omega
 ·rename_i h2;simp only [Bool.not_eq_false,Bool.and_eq_true] at h2;exact ⟨h2.1.1,h2.1.2,h2.2⟩
theorem v4_sizes {q:P4} (h:v4Ok q=true):q.src.size=4∧q.dst.size=4∧q.opts.size≤40∧q.data.size≤1400:=by
 have hA:v4A q=true:=by unfold v4Ok at h; simp only [Bool.and_eq_true] at h; exact h.1.1
 have hB:v4B q=true:=by unfold v4Ok at h; simp only [Bool.and_eq_true] at h; exact h.1.2
 have h1:=v4A_parts hA; have h2:=v4B_parts hB;exact ⟨h1.2.2.2.2.2.1,h1.2.2.2.2.2.2,h2.1,h2.2.2.1⟩
theorem flow_four {q:P4} (h:v4Ok q=true):flowCode q.src q.dst q.proto q.data=ofCode q.src.size q.proto q.data∧(ofCode q.src.size q.proto q.data=0→flowOfV q.src q.dst q.proto q.data=ofFl q.src q.dst q.proto q.data):=by
 obtain ⟨h1,h2,h3,h4⟩:=v4_sizes h;have e:flowCode q.src q.dst q.proto q.data=ofCode q.src.size q.proto q.data:=by
  unfold flowCode; rw [if_neg (by omega),if_neg (by rw [pair_four h1 h2]; simp)]
 exact ⟨e,fun hc=>by unfold flowOfV; rw [e,if_pos hc]⟩
theorem tcp_long {n:Nat} {t:ByteArray} (h:ofCode n 6 t=0):20≤t.size:=by
 unfold ofCode at h;split at h
 ·omega
 ·split at h
  ·omega
  ·rename_i _ h2;unfold shortP at h2;simp at h2; omega
theorem touch_go {p:Pl} {x:Bb} {t:Tc} {now:Int} (h:bibOk p x=true) (hn:isTime now=true) (ht:touchOk t=true):bibTouchV p x t now=goV p x t now:=by
 unfold bibTouchV; rw [h,hn,ht]; rfl
theorem pass_in {p:Pl} {x:Bb} {q:P4} {now:Int} (h:natFt p x q now=0) (hc:ofCode q.src.size q.proto q.data=0) (F:Fl) (hF:F=ofFl q.src q.dst q.proto q.data) (Y:Bo) (hY:Y=goV p x (comeT F q.data) now) :
  bibTouchV p x ⟨F.proto,false,F.dst,F.dp,F.src,peerV F.proto F.sp,flagV q.proto q.data⟩ now=Y∧F.src.size=4∧F.dst.size=4∧(Y.code=0→Y.bind.inn.size≤16∧(Y.bind.inn.size=4→∃ G:Fl,(⟨F.proto,F.src,Y.bind.inn,if echoP F.proto=true then Y.bind.inPort else F.sp,Y.bind.inPort⟩ : Fl)=G∧G=toF F q.src Y.bind.inn Y.bind.inPort∧setData F G q.data=setD F G q.data∧G.src=q.src∧G.dst=Y.bind.inn)):=by
 obtain ⟨h1,h2,h3⟩:=nat_parts h;obtain ⟨s1,s2,s3,s4⟩:=v4_sizes h2;obtain ⟨z1,z2,z3,z4,z5,z6⟩:=@ofFl_zero q.src q.dst q.proto q.data hc;have hp:=proto_of hc;rw [s1] at hp;have hp4:=proto_four hp;have ht:=comeT_ok s1 s2 hc;rw [← hF] at z1 z2 z3 z4 z5 z6 ht;have eT:(⟨F.proto,false,F.dst,F.dp,F.src,peerV F.proto F.sp,flagV q.proto q.data⟩ : Tc)=comeT F q.data:=by
  unfold comeT; rw [z1]
 refine ⟨by rw [eT,touch_go h1 h3 ht,hY],by rw [z2]; exact s1,by rw [z3]; exact s2,fun y0=>?_⟩;rw [hY] at y0;obtain ⟨e1,e2,e3,e4,e5⟩:=bind_ends h1 h3 ht y0;rw [← hY] at e1 e2 e3 e4 e5;refine ⟨by omega,fun e6=>?_⟩;have hG:(⟨F.proto,F.src,Y.bind.inn,if echoP F.proto=true then Y.bind.inPort else F.sp,Y.bind.inPort⟩ : Fl)=toF F q.src Y.bind.inn Y.bind.inPort:=by
  unfold toF kindF;split
  ·rename_i he;have he2:=he;rw [z1] at he;have:q.proto=1:=by
    rcases hp4 with h6 | h6 | h6
    ·rw [h6] at he; simp [echoP] at he
    ·rw [h6] at he; simp [echoP] at he
    ·exact h6
   dsimp only;rw [if_neg (by omega),z1,z2,this]
  ·rw [z2]
 refine ⟨_,hG,rfl,?_,?_,?_⟩
 ·have hfo:=flowOk_of hc (pair_four s1 s2);rw [← hF] at hfo;obtain ⟨k1,k2,k3,k4⟩:=kind_right (f:=F) (g:=⟨F.proto,q.src,Y.bind.inn,if echoP F.proto=true then Y.bind.inPort else F.sp,Y.bind.inPort⟩) hfo (by rw [z2]; exact s1) s1 e6 rfl (by dsimp only; split<;>omega) e4;have:=(setD_four (g:=toF F q.src Y.bind.inn Y.bind.inPort) hc s1 s2 (by omega) k1 (by rw [← z1]; exact k2) (by show (kindF _ _).src.size=4; rw [k3]; exact s1)).1;rw [← hF] at this;exact this
 ·rw [← hG]; exact z2
 ·rw [← hG]
theorem sp9Port_any (f:Fl) (n:Int) (w:World) :
  Cb 116 #[fwC f,iV n] w (iV (peerV f.proto n)):=by
 have HE:Hid (∀ W,Cw 44 #[iV f.proto] W (.bool (echoP f.proto))):=fun W=>spEcho_any _ W
 have HV:Hid (peerV f.proto n=if echoP f.proto=true then 0 else n):=rfl;generalize peerV f.proto n=ans at *;generalize echoP f.proto=b at *;obtain ⟨proto,src,dst,sp,dp⟩:=f;unfold fwC;dsimp only at *;have HS0:=bx1 w (FlR proto src dst sp dp) 43 (by simp)
 skip;have HB:Hid _:=HS0.out.b;clear HS0;go_enter Tryz.func116,Tryz.ntmps116
 go_wp2_with fail
 refine (HE.out _).mono ?_;rintro e w2 ⟨rfl,rfl⟩
 cases b with
 | false =>
  go_wp2_with fail
  go_ret;exact ⟨ret_int (by rw [HV.out]; rfl),HB.out⟩
 | true =>
  go_wp2_with fail
  go_ret;exact ⟨ret_int (by rw [HV.out]; rfl),HB.out⟩
theorem sp9Flags_any (f:Fl) (t:ByteArray) (w:World) (ht:t.size≤1048576) (h20:f.proto=6→20≤t.size) :
  Cb 117 #[fwC f,.string t] w (iV (flagV f.proto t)):=by
 obtain ⟨proto,src,dst,sp,dp⟩:=f;unfold fwC;dsimp only at *;have HS0:=bx1 w (FlR proto src dst sp dp) 43 (by simp)
 skip;have HB:Hid _:=HS0.out.b;clear HS0;by_cases h:proto=6
 case pos =>
  have h20':=h20 h;subst h;have HV:Hid (flagV 6 t=bt t 13):=rfl;have hb:=get_bt t;have b1:=bt_isByte t 13;generalize flagV 6 t=ans at *;have hi:¬ (t.size:Int)≤13:=by omega
  have hj:(13:Int) < t.size:=by omega
  go_enter Tryz.func117,Tryz.ntmps117
  go_wp2_with fail
  go_ret;exact ⟨ret_int HV.out.symm,HB.out⟩
 have HV:Hid (flagV proto t=0):=if_neg h;generalize flagV proto t=ans at *;have d0:(proto != 6)=true:=by simp [h]
 go_enter Tryz.func117,Tryz.ntmps117
 go_wp2_with fail
 go_ret;exact ⟨ret_int (by rw [HV.out]),HB.out⟩
theorem sp9Kind_any (f g:Fl) (w:World) (hg:g.src.size≤1048576) :
  Cb 118 #[fwC f,fwC g] w (fwC (kindF f g)):=by
 have HE:Hid (∀ W,Cw 44 #[iV f.proto] W (.bool (echoP f.proto))):=fun W=>spEcho_any _ W
 have HV:Hid (kindF f g=if echoP f.proto=true then ⟨if g.src.size=16 then 58 else 1,g.src,g.dst,g.sp,g.sp⟩ else g):=rfl;generalize kindF f g=ans at *;generalize echoP f.proto=b at *;obtain ⟨proto,src,dst,sp,dp⟩:=f;obtain ⟨proto',src',dst',sp',dp'⟩:=g;unfold fwC;dsimp only at *;have HS0:=bx3 w (FlR proto src dst sp dp) 43 (FlR proto' src' dst' sp' dp') 43 (FlR 0 ⟨#[]⟩ ⟨#[]⟩ 0 0) 43 (by simp) (by simp) (by simp)
 skip;have hRw:w.heap.size≤w.heap.size+1+1:=by omega
 have hGw:w.heap.size≤w.heap.size+1:=by omega
 go_enter Tryz.func118,Tryz.ntmps118
 go_upto_region 1 with fail
 generalize World.alloc _ _=W0 at *;have HHk:=HS0.out.at mE0;obtain ⟨k0,k1,k2,k3,k4⟩:=HHk.c5;clear HHk;go_wp2_with fail
 refine (HE.out _).mono ?_;rintro e W0 ⟨rfl,rfl⟩
 cases b with
 | false =>
  have HX:Hid (ans=⟨proto',src',dst',sp',dp'⟩):=HV.out;clear HV;have HHl:=HS0.out.at mE1;obtain ⟨l0,l1,l2,l3,l4⟩:=HHl.c5;clear HHl;have HHz:=HS0.out.at mE2;obtain ⟨z0,z1,z2,z3,z4⟩:=HHz.c5;obtain ⟨zf0,zf1,zf2,zf3,zf4⟩:=HHz.f5;obtain ⟨HRR,RB⟩:=st5 HHz HS0.out.b hRw (iV proto') (.string src') (.string dst') (iV sp') (iV dp');clear HHz;go_wp2_with fail
  exact bodyPost_ret (results_mid Tryz.results118 _ _ _ _ _ rfl HRR.out Tryz.underlying43 rfl (show (Tryz.prog.info? 43).map (·.size)=some 5 by kernel_rfl)) rfl (And.intro (by rw [HX.out]) RB.out)
 | true =>
  by_cases h16:src'.size=16
  case pos =>
   have HX:Hid (ans=⟨58,src',dst',sp',sp'⟩):=by unfold Hid; rw [HV.out,if_pos rfl]; simp [h16]
   have d16:((src'.size:Int)==16)=true:=by rw [h16]; rfl
   clear HV h16;have HHg:=HS0.out.at mE1;obtain ⟨l0,l1,l2,l3,l4⟩:=HHg.c5;obtain ⟨lf0,lf1,lf2,lf3,lf4⟩:=HHg.f5;have S2:Hid (Bxs w [(w.heap.size+1,(FlR 58 src' dst' sp' sp')),(w.heap.size+1+1,(FlR 0 ⟨#[]⟩ ⟨#[]⟩ 0 0))] ((sW (sW W0 (w.heap.size+1) 4 (iV sp')) (w.heap.size+1) 0 (iV 1)).setCell ⟨w.heap.size+1,0,none⟩ (iV 58))):=⟨fun e he=>by
    simp only [List.mem_cons,List.not_mem_nil,or_false] at he;rcases he with rfl | rfl
    ·exact ((HHg.set 4 (iV sp')).set 0 (iV 1)).set 0 (iV 58)
    ·exact (HoldsL.setOther (HoldsL.setOther (HoldsL.setOther (HS0.out.k _ mE2) (by show w.heap.size+1+1≠w.heap.size+1; omega) _) (by show w.heap.size+1+1≠w.heap.size+1; omega) _) (by show w.heap.size+1+1≠w.heap.size+1; omega) _),(((HS0.out.b.setCell (p:=⟨w.heap.size+1,4,none⟩) hGw _).setCell (p:=⟨w.heap.size+1,0,none⟩) hGw _).setCell (p:=⟨w.heap.size+1,0,none⟩) hGw _),fun e he=>by
    simp only [List.mem_cons,List.not_mem_nil,or_false] at he;rcases he with rfl | rfl<;>simp⟩
   clear HHg;go_upto_region 7 with fail
   generalize ((sW (sW W0 (w.heap.size+1) 4 (iV sp')) (w.heap.size+1) 0 (iV 1)).setCell ⟨w.heap.size+1,0,none⟩ (iV 58))=W2 at *;clear l0 lf0 l1 lf1 l2 lf2 l3 lf3 l4 lf4 HS0 k0 k1 k2 k3 k4;have HHl:=S2.out.at mE0;obtain ⟨l0,l1,l2,l3,l4⟩:=HHl.c5;clear HHl;have HHz:=S2.out.at mE1;obtain ⟨z0,z1,z2,z3,z4⟩:=HHz.c5;obtain ⟨zf0,zf1,zf2,zf3,zf4⟩:=HHz.f5;obtain ⟨HRR,RB⟩:=st5 HHz S2.out.b hRw (iV 58) (.string src') (.string dst') (iV sp') (iV sp');clear HHz;go_wp2_with fail
   exact bodyPost_ret (results_mid Tryz.results118 _ _ _ _ _ rfl HRR.out Tryz.underlying43 rfl (show (Tryz.prog.info? 43).map (·.size)=some 5 by kernel_rfl)) rfl (And.intro (by rw [HX.out]) RB.out)
  case neg =>
   have HX:Hid (ans=⟨1,src',dst',sp',sp'⟩):=by unfold Hid; rw [HV.out,if_pos rfl]; simp [h16]
   have d16:((src'.size:Int)==16)=false:=by simp; omega
   clear HV h16;have HHg:=HS0.out.at mE1;obtain ⟨l0,l1,l2,l3,l4⟩:=HHg.c5;obtain ⟨lf0,lf1,lf2,lf3,lf4⟩:=HHg.f5;have S2:Hid (Bxs w [(w.heap.size+1,(FlR 1 src' dst' sp' sp')),(w.heap.size+1+1,(FlR 0 ⟨#[]⟩ ⟨#[]⟩ 0 0))] ((sW W0 (w.heap.size+1) 4 (iV sp')).setCell ⟨w.heap.size+1,0,none⟩ (iV 1))):=⟨fun e he=>by
    simp only [List.mem_cons,List.not_mem_nil,or_false] at he;rcases he with rfl | rfl
    ·exact ((HHg.set 4 (iV sp')).set 0 (iV 1))
    ·exact (HoldsL.setOther (HoldsL.setOther (HS0.out.k _ mE2) (by show w.heap.size+1+1≠w.heap.size+1; omega) _) (by show w.heap.size+1+1≠w.heap.size+1; omega) _),((HS0.out.b.setCell (p:=⟨w.heap.size+1,4,none⟩) hGw _).setCell (p:=⟨w.heap.size+1,0,none⟩) hGw _),fun e he=>by
    simp only [List.mem_cons,List.not_mem_nil,or_false] at he;rcases he with rfl | rfl<;>simp⟩
   clear HHg;go_upto_region 7 with fail
   generalize ((sW W0 (w.heap.size+1) 4 (iV sp')).setCell ⟨w.heap.size+1,0,none⟩ (iV 1))=W2 at *;clear l0 lf0 l1 lf1 l2 lf2 l3 lf3 l4 lf4 HS0 k0 k1 k2 k3 k4;have HHl:=S2.out.at mE0;obtain ⟨l0,l1,l2,l3,l4⟩:=HHl.c5;clear HHl;have HHz:=S2.out.at mE1;obtain ⟨z0,z1,z2,z3,z4⟩:=HHz.c5;obtain ⟨zf0,zf1,zf2,zf3,zf4⟩:=HHz.f5;obtain ⟨HRR,RB⟩:=st5 HHz S2.out.b hRw (iV 1) (.string src') (.string dst') (iV sp') (iV sp');clear HHz;go_wp2_with fail
   exact bodyPost_ret (results_mid Tryz.results118 _ _ _ _ _ rfl HRR.out Tryz.underlying43 rfl (show (Tryz.prog.info? 43).map (·.size)=some 5 by kernel_rfl)) rfl (And.intro (by rw [HX.out]) RB.out)
theorem sp9To_any (f:Fl) (s d:ByteArray) (n:Int) (w:World) (hs:s.size≤1048576) :
  Cb 78 #[fwC f,.string s,.string d,iV n] w (fwC (toF f s d n)):=by
 have HE:Hid (∀ W,Cw 44 #[iV f.proto] W (.bool (echoP f.proto))):=fun W=>spEcho_any _ W
 have HK:Hid (∀ W,Cb 118 #[fwC f,fwC ⟨f.proto,s,d,if echoP f.proto=true then n else f.sp,n⟩] W (fwC (toF f s d n))):=fun W=>sp9Kind_any f ⟨f.proto,s,d,_,n⟩ W hs
 generalize toF f s d n=ans at *;generalize echoP f.proto=b at *;obtain ⟨proto,src,dst,sp,dp⟩:=f;unfold fwC at *;dsimp only at *;have HS0:=bx2 w (FlR proto src dst sp dp) 43 (FlR 0 ⟨#[]⟩ ⟨#[]⟩ 0 0) 43 (by simp) (by simp)
 skip;have hRw:w.heap.size≤w.heap.size+1:=by omega
 go_enter Tryz.func78,Tryz.ntmps78
 go_upto_region 1 with fail
 generalize World.alloc _ _=W0 at *;have HHk:=HS0.out.at mE0;obtain ⟨k0,k1,k2,k3,k4⟩:=HHk.c5;clear HHk;have S1:Hid (Bxs w ((W0.heap.size,(FlR proto s d sp n))::[(w.heap.size,(FlR proto src dst sp dp)),(w.heap.size+1,(FlR 0 ⟨#[]⟩ ⟨#[]⟩ 0 0))]) (W0.alloc (.cells (FlR proto s d sp n).toArray 43))):=HS0.out.push (FlR proto s d sp n) (by simp) _;have hrg:w.heap.size+1 < W0.heap.size:=(HS0.out.k _ mE1).lt (by simp);go_upto_region 2 with fail
 clear HS0 k0 k1 k2 k3 k4;generalize (W0.alloc (.cells (FlR proto s d sp n).toArray 43))=W1 at *;generalize W0.heap.size=G at *;have HHk:=S1.out.at mE1;obtain ⟨k0,k1,k2,k3,k4⟩:=HHk.c5;clear HHk;go_wp2_with fail
 refine (HE.out _).mono ?_;rintro e W1 ⟨rfl,rfl⟩
 cases b with
 | false =>
  clear k0 k1 k2 k3 k4;have HHk:=S1.out.at mE1;obtain ⟨k0,k1,k2,k3,k4⟩:=HHk.c5;clear HHk;have HHl:=S1.out.at mE0;obtain ⟨l0,l1,l2,l3,l4⟩:=HHl.c5;clear HHl;go_wp2_with fail
  refine (HK.out _).mono ?_;rintro e W2 ⟨rfl,q2⟩;have S2:Hid _:=S1.out.kept q2;clear q2 k0 k1 k2 k3 k4 l0 l1 l2 l3 l4;have HHz:=S2.out.at mE2;obtain ⟨z0,z1,z2,z3,z4⟩:=HHz.c5;obtain ⟨zf0,zf1,zf2,zf3,zf4⟩:=HHz.f5;obtain ⟨HRR,RB⟩:=st5 HHz S2.out.b hRw (iV ans.proto) (.string ans.src) (.string ans.dst) (iV ans.sp) (iV ans.dp);clear HHz;go_wp2_with fail
  exact bodyPost_ret (results_mid Tryz.results78 _ _ _ _ _ rfl HRR.out Tryz.underlying43 rfl (show (Tryz.prog.info? 43).map (·.size)=some 5 by kernel_rfl)) rfl (And.intro rfl RB.out)
 | true =>
  have HHg:=S1.out.at mE0;have l3:=HHg.cell (j:=3) rfl;have lf3:=HHg.free (j:=3) (by simp);have S1':Hid (Bxs w [(G,(FlR proto s d n n)),(w.heap.size,(FlR proto src dst sp dp)),(w.heap.size+1,(FlR 0 ⟨#[]⟩ ⟨#[]⟩ 0 0))] (W1.setCell ⟨G,3,none⟩ (iV n))):=⟨fun e he=>by
   simp only [List.mem_cons,List.not_mem_nil,or_false] at he;rcases he with rfl | rfl | rfl
   ·exact HHg.set 3 _
   ·exact HoldsL.setOther (S1.out.k _ mE1) (by show w.heap.size≠G; omega) _
   ·exact HoldsL.setOther (S1.out.k _ mE2) (by show w.heap.size+1≠G; omega) _,S1.out.b.setCell (p:=⟨G,3,none⟩) (by show w.heap.size≤G; omega) _,fun e he=>by
   simp only [List.mem_cons,List.not_mem_nil,or_false] at he;rcases he with rfl | rfl | rfl<;>simp⟩
  clear HHg S1;go_upto_region 4 with fail
  generalize (W1.setCell ⟨G,3,none⟩ (iV n))=W3 at *;clear l3 lf3 k0 k1 k2 k3 k4;have HHk:=S1'.out.at mE1;obtain ⟨k0,k1,k2,k3,k4⟩:=HHk.c5;clear HHk;have HHl:=S1'.out.at mE0;obtain ⟨l0,l1,l2,l3,l4⟩:=HHl.c5;clear HHl;go_wp2_with fail
  refine (HK.out _).mono ?_;rintro e W2 ⟨rfl,q2⟩;have S2:Hid (Bxs w [(G,(FlR proto s d n n)),(w.heap.size,(FlR proto src dst sp dp)),(w.heap.size+1,(FlR 0 ⟨#[]⟩ ⟨#[]⟩ 0 0))] W2):=S1'.out.kept q2;clear q2 k0 k1 k2 k3 k4 l0 l1 l2 l3 l4;have HHz:=S2.out.at mE2;obtain ⟨z0,z1,z2,z3,z4⟩:=HHz.c5;obtain ⟨zf0,zf1,zf2,zf3,zf4⟩:=HHz.f5;obtain ⟨HRR,RB⟩:=st5 HHz S2.out.b hRw (iV ans.proto) (.string ans.src) (.string ans.dst) (iV ans.sp) (iV ans.dp);clear HHz;go_wp2_with fail
  exact bodyPost_ret (results_mid Tryz.results78 _ _ _ _ _ rfl HRR.out Tryz.underlying43 rfl (show (Tryz.prog.info? 43).map (·.size)=some 5 by kernel_rfl)) rfl (And.intro rfl RB.out)
end Go.Proofs.YtdkepkaflielhaaGreatDoor
