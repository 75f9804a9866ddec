import Derived.Test.YtdkepkaflielhaaGreatDoorAb
import Derived.Test.YtdkepkaflielhaaGreatDoorUni
import Derived.Test.YtdkepkaflielhaaGreatDoorStN
import Derived.Test.YtdkepkaflielhaaGreatDoorSNat3
set_option linter.unusedVariables false
set_option linter.unusedSimpArgs false
set_option maxRecDepth 100000
set_option maxHeartbeats 8000000
namespace Go.Proofs.YtdkepkaflielhaaGreatDoor
open Go.RowKit Go.PlainAid
theorem sp9NatCome_any (pa:Option Addr) (pc:Nat) (p:Pl) (ba bo:Option Addr) (ca cb:Nat) (x:Bb) (q:P4) (now:Int) (w:World) (hbk:bibOk p x=true) (hq:v4Ok q=true) (hnow:isTime now=true) (hl1:x.binds.length≤1048576) (hl2:x.sess.length≤1048576) (hp:SlIs strL1 1 w pa p.addrs) (hx:BbIs w ba bo x) :
  Calls Tryz.prog 46 #[plC pa pc p,bbC ba bo ca cb x,p4C q,iV now] w fun e w'=>NoRet w.heap.size (natComeIn p x q now) e w'∧Below w.heap.size w w':=by
 obtain ⟨hA,hB⟩ : v4A q=true∧v4B q=true:=by unfold v4Ok at hq; simp only [Bool.and_eq_true] at hq; exact hq.1
 obtain ⟨-,-,hpr,-,-,hs,hd⟩:=v4A_parts hA;obtain ⟨-,-,hdt,-,-⟩:=v4B_parts hB;have hpo:poolOk p=true:=(bibR_iff.1 hbk).pool;have HOF:Hid (∀ W,Cb 32 #[.string q.src,.string q.dst,iV q.proto,.string q.data] W (.tuple #[fwC (ofFl q.src q.dst q.proto q.data),iV (ofCode q.src.size q.proto q.data)])):=fun W=>spOf_any _ _ _ _ W (by omega) (by omega)
 have HIL:Hid (∀ c W,Cb 29 #[iV c] W (noC none none 0 0 (noE c))):=fun c W=>sp9Ill_any c W
 have HGO:Hid (ofCode q.src.size q.proto q.data=0→∀ W,Below w.heap.size w W→Calls Tryz.prog 77 #[plC pa pc p,bbC ba bo ca cb x,fwC (ofFl q.src q.dst q.proto q.data),.string q.data,iV now] W fun e w'=>BoRet W.heap.size (goV p x (comeT (ofFl q.src q.dst q.proto q.data) q.data) now) e w'∧Below W.heap.size W w'):=fun h W hW=>by
  obtain ⟨z1,z2,z3,z4,z5,z6⟩:=ofFl_zero (d:=q.dst) h;exact sp9Come_any pa pc p ba bo ca cb x _ q.data now W hpo hnow (by rw [z3]; omega) z5.1 z5.2 (by omega) (by rw [z1]; exact (ofCode_size h).2) hl1 hl2 (hp.below hW) (hx.below hW)
 have HBE:Hid (ofCode q.src.size q.proto q.data=0→(goV p x (comeT (ofFl q.src q.dst q.proto q.data) q.data) now).code=0→_):=fun h h2=>bind_ends hbk hnow (comeT_ok hs hd h) h2
 have HFM:Hid (ofCode q.src.size q.proto q.data=0→(goV p x (comeT (ofFl q.src q.dst q.proto q.data) q.data) now).code=0→∀ W,Cb 78 #[fwC (ofFl q.src q.dst q.proto q.data),.string q.src,.string (goV p x (comeT (ofFl q.src q.dst q.proto q.data) q.data) now).bind.inn,iV (goV p x (comeT (ofFl q.src q.dst q.proto q.data) q.data) now).bind.inPort] W (fwC (toF (ofFl q.src q.dst q.proto q.data) q.src (goV p x (comeT (ofFl q.src q.dst q.proto q.data) q.data) now).bind.inn (goV p x (comeT (ofFl q.src q.dst q.proto q.data) q.data) now).bind.inPort))):=fun h h2 W=>sp9To_any _ _ _ _ W (by omega)
 have HST:Hid (ofCode q.src.size q.proto q.data=0→(goV p x (comeT (ofFl q.src q.dst q.proto q.data) q.data) now).code=0→(goV p x (comeT (ofFl q.src q.dst q.proto q.data) q.data) now).bind.inn.size=4→∀ W,Cb 45 #[fwC (ofFl q.src q.dst q.proto q.data),fwC (toF (ofFl q.src q.dst q.proto q.data) q.src (goV p x (comeT (ofFl q.src q.dst q.proto q.data) q.data) now).bind.inn (goV p x (comeT (ofFl q.src q.dst q.proto q.data) q.data) now).bind.inPort),.string q.data] W (dtCO (setD (ofFl q.src q.dst q.proto q.data) (toF (ofFl q.src q.dst q.proto q.data) q.src (goV p x (comeT (ofFl q.src q.dst q.proto q.data) q.data) now).bind.inn (goV p x (comeT (ofFl q.src q.dst q.proto q.data) q.data) now).bind.inPort) q.data) 0)):=fun h h2 h44 W=>by
  obtain ⟨z1,z2,z3,z4,z5,z6⟩:=ofFl_zero (d:=q.dst) h;obtain ⟨b1,b2,b3,b4,b5⟩:=HBE.out h h2;obtain ⟨k1,k2,k3,k4⟩:=kind_right (f:=ofFl q.src q.dst q.proto q.data) (g:=⟨(ofFl q.src q.dst q.proto q.data).proto,q.src,(goV p x (comeT (ofFl q.src q.dst q.proto q.data) q.data) now).bind.inn,if echoP (ofFl q.src q.dst q.proto q.data).proto=true then (goV p x (comeT (ofFl q.src q.dst q.proto q.data) q.data) now).bind.inPort else (ofFl q.src q.dst q.proto q.data).sp,(goV p x (comeT (ofFl q.src q.dst q.proto q.data) q.data) now).bind.inPort⟩) (flowOk_of h (pair_four hs hd)) (by rw [z2]; exact hs) hs h44 rfl (by split<;>assumption) b4;obtain ⟨m1,m2,m3⟩:=flowOk_parts k1;have o:=ofCode_size h;refine (spSet_any _ (toF (ofFl q.src q.dst q.proto q.data) q.src (goV p x (comeT (ofFl q.src q.dst q.proto q.data) q.data) now).bind.inn (goV p x (comeT (ofFl q.src q.dst q.proto q.data) q.data) now).bind.inPort) q.data W (by omega) o.1 (by rw [z1]; exact o.2) ⟨by rw [z2]; omega,by rw [z3]; omega⟩ m1 (by rw [z1]; exact hpr) m2 m3).mono ?_;rintro e w' ⟨rfl,hb⟩;refine ⟨?_,hb⟩;unfold setD;have k5:(toF (ofFl q.src q.dst q.proto q.data) q.src (goV p x (comeT (ofFl q.src q.dst q.proto q.data) q.data) now).bind.inn (goV p x (comeT (ofFl q.src q.dst q.proto q.data) q.data) now).bind.inPort).src.size=4:=by show (kindF _ _).src.size=4; rw [k3]; exact hs
  have k6:¬ (toF (ofFl q.src q.dst q.proto q.data) q.src (goV p x (comeT (ofFl q.src q.dst q.proto q.data) q.data) now).bind.inn (goV p x (comeT (ofFl q.src q.dst q.proto q.data) q.data) now).bind.inPort).src.size=16:=by omega
  simp only [if_neg k6];by_cases hbu:bareUdp (ofFl q.src q.dst q.proto q.data) q.data=true
  ·simp only [if_pos hbu]
  ·simp only [if_neg hbu]
 have HV:Hid (natComeIn p x q now=if inL p.addrs q.dst=false then noE 6 else if ofCode q.src.size q.proto q.data≠0 then noE (ofCode q.src.size q.proto q.data) else if (goV p x (comeT (ofFl q.src q.dst q.proto q.data) q.data) now).code≠0 then noE (goV p x (comeT (ofFl q.src q.dst q.proto q.data) q.data) now).code else if (goV p x (comeT (ofFl q.src q.dst q.proto q.data) q.data) now).bind.inn.size≠4 then noE 11 else ⟨(goV p x (comeT (ofFl q.src q.dst q.proto q.data) q.data) now).bib,{ q with dst:=(goV p x (comeT (ofFl q.src q.dst q.proto q.data) q.data) now).bind.inn,data:=setD (ofFl q.src q.dst q.proto q.data) (toF (ofFl q.src q.dst q.proto q.data) q.src (goV p x (comeT (ofFl q.src q.dst q.proto q.data) q.data) now).bind.inn (goV p x (comeT (ofFl q.src q.dst q.proto q.data) q.data) now).bind.inPort) q.data },p6Zero,0⟩):=rfl;have HIN:Hid (∀ W,Below w.heap.size w W→Cb 68 #[.slice pa p.addrs.length pc,.string q.dst] W (.bool (inL p.addrs q.dst))):=fun W hW=>spIn_any p.addrs q.dst pa pc W (by unfold poolOk at hpo; simp only [Bool.and_eq_true,decide_eq_true_iff] at hpo; have:=hpo.1.1.1.1.1.1.1.2; omega) (hp.below hW)
 have HIZ:Hid (ofCode q.src.size q.proto q.data=0→(goV p x (comeT (ofFl q.src q.dst q.proto q.data) q.data) now).code=0→((goV p x (comeT (ofFl q.src q.dst q.proto q.data) q.data) now).bind.inn.size=4∨(goV p x (comeT (ofFl q.src q.dst q.proto q.data) q.data) now).bind.inn.size=16)):=fun h h2=>(HBE.out h h2).2.2.1
 clear HBE;generalize natComeIn p x q now=ans at *;generalize setD (ofFl q.src q.dst q.proto q.data) (toF (ofFl q.src q.dst q.proto q.data) q.src (goV p x (comeT (ofFl q.src q.dst q.proto q.data) q.data) now).bind.inn (goV p x (comeT (ofFl q.src q.dst q.proto q.data) q.data) now).bind.inPort) q.data=sd at *;generalize toF (ofFl q.src q.dst q.proto q.data) q.src (goV p x (comeT (ofFl q.src q.dst q.proto q.data) q.data) now).bind.inn (goV p x (comeT (ofFl q.src q.dst q.proto q.data) q.data) now).bind.inPort=g at *;generalize goV p x (comeT (ofFl q.src q.dst q.proto q.data) q.data) now=nv at *;generalize ofFl q.src q.dst q.proto q.data=fl at *;generalize ofCode q.src.size q.proto q.data=cd at *;generalize inL p.addrs q.dst=il at *;obtain ⟨tos,id,whole,more,off,ttl,proto,src,dst,opts,data⟩:=q;clear hp hx hpo hnow hbk hq hA hB;unfold plC bbC p4C at *;unfold fwC dtCO at *;dsimp only at *;have e0:HoldsL ((aW (aW (aW w (PlV pa pc p) 27) (BbV ba ca bo cb x) 31) (P4R tos id whole more off ttl proto src dst opts data) 33).alloc (.cells Z25V.toArray 39)) (w.heap.size) (PlV pa pc p):=by
  have h:=HoldsL.new w (PlV pa pc p) 27;try simp only [World.size_alloc] at h
  exact (((h.alloc _).alloc _).alloc _)
 have e1:HoldsL ((aW (aW (aW w (PlV pa pc p) 27) (BbV ba ca bo cb x) 31) (P4R tos id whole more off ttl proto src dst opts data) 33).alloc (.cells Z25V.toArray 39)) (w.heap.size+1) (BbV ba ca bo cb x):=by
  have h:=HoldsL.new (w.alloc (.cells (PlV pa pc p).toArray 27)) (BbV ba ca bo cb x) 31;try simp only [World.size_alloc] at h
  exact ((h.alloc _).alloc _)
 have e2:HoldsL ((aW (aW (aW w (PlV pa pc p) 27) (BbV ba ca bo cb x) 31) (P4R tos id whole more off ttl proto src dst opts data) 33).alloc (.cells Z25V.toArray 39)) (w.heap.size+1+1) (P4R tos id whole more off ttl proto src dst opts data):=by
  have h:=HoldsL.new ((aW w (PlV pa pc p) 27).alloc (.cells (BbV ba ca bo cb x).toArray 31)) (P4R tos id whole more off ttl proto src dst opts data) 33;try simp only [World.size_alloc] at h
  exact (h.alloc _)
 have e3:HoldsL ((aW (aW (aW w (PlV pa pc p) 27) (BbV ba ca bo cb x) 31) (P4R tos id whole more off ttl proto src dst opts data) 33).alloc (.cells Z25V.toArray 39)) (w.heap.size+1+1+1) Z25V:=by
  have h:=HoldsL.new ((aW (aW w (PlV pa pc p) 27) (BbV ba ca bo cb x) 31).alloc (.cells (P4R tos id whole more off ttl proto src dst opts data).toArray 33)) Z25V 39;try simp only [World.size_alloc] at h
  exact h
 have HS0:Hid (Bxs w [(w.heap.size,(PlV pa pc p)),(w.heap.size+1,(BbV ba ca bo cb x)),(w.heap.size+1+1,(P4R tos id whole more off ttl proto src dst opts data)),(w.heap.size+1+1+1,Z25V)] ((aW (aW (aW w (PlV pa pc p) 27) (BbV ba ca bo cb x) 31) (P4R tos id whole more off ttl proto src dst opts data) 33).alloc (.cells Z25V.toArray 39))):=by
  refine ⟨fun e he=>?_,((((bR.alloc (by (try simp only [World.size_alloc]); omega) _).alloc (by (try simp only [World.size_alloc]); omega) _).alloc (by (try simp only [World.size_alloc]); omega) _).alloc (by (try simp only [World.size_alloc]); omega) _),fun e he=>?_⟩
  ·simp only [List.mem_cons,List.not_mem_nil,or_false] at he;rcases he with rfl | rfl | rfl | rfl
   ·exact e0
   ·exact e1
   ·exact e2
   ·exact e3
  ·simp only [List.mem_cons,List.not_mem_nil,or_false] at he;rcases he with rfl | rfl | rfl | rfl<;>simp
 clear e0 e1 e2 e3;have hRw:w.heap.size≤w.heap.size+1+1+1:=by omega
 go_enter Tryz.func46,Tryz.ntmps46
 go_upto_region 1 with fail
 generalize ((aW (aW (aW w (PlV pa pc p) 27) (BbV ba ca bo cb x) 31) (P4R tos id whole more off ttl proto src dst opts data) 33).alloc (.cells Z25V.toArray 39))=W0 at *;have HHk:=HS0.out.at mE0;obtain ⟨k0,k1,k2,k3,k4,k5,k6,k7,k8,k9⟩:=HHk.c10;clear HHk;have HHl:=HS0.out.at mE2;obtain ⟨l0,l1,l2,l3,l4,l5,l6,l7,l8,l9,l10⟩:=HHl.c11;clear HHl;go_wp2_with fail
 refine (HIN.out _ HS0.out.b).mono ?_;rintro e W9 ⟨rfl,r9⟩;have S9:Hid _:=HS0.out.kept r9;clear r9 HS0 HIN k0 k1 k2 k3 k4 k5 k6 k7 k8 k9 l0 l1 l2 l3 l4 l5 l6 l7 l8 l9 l10
 cases il with
 | false =>
  have HX:Hid (ans=noE 6):=by unfold Hid; rw [HV.out,if_pos rfl]
  go_wp2_with fail
  refine (HIL.out 6 _).mono ?_;rintro e W8 ⟨rfl,r8⟩;have S8:Hid _:=S9.out.kept r8;clear r8;obtain ⟨HTH,HRR,RB⟩:=mid3 (show HoldsL W8 (w.heap.size+1+1+1) (noL none none 0 0 (noE 0)) from S8.out.k _ mE3) S8.out.b hRw none none 0 0 (noE 6);unfold noC;go_wp2_with (refine wpList_store_mid (by rfl) 39 (.tmp 8) (.tmp 19) (by rfl) _ _ _ (by rfl) (by rfl) HTH.out no_info (noL_one _ _ _ _ _) ?_)
  exact bodyPost_ret (results_mid Tryz.results46 _ _ _ _ _ rfl HRR.out Tryz.underlying39 rfl no_info) rfl (And.intro (by rw [HX.out]; exact noRet_ill _) RB.out)
 | true =>
 rw [if_neg (by simp)] at HV;have HHk:=S9.out.at mE2;obtain ⟨k0,k1,k2,k3,k4,k5,k6,k7,k8,k9,k10⟩:=HHk.c11;clear HHk;go_wp2_with fail
 refine (HOF.out _).mono ?_;rintro e W1 ⟨rfl,r1⟩;have S2:Hid (Bxs w ((W1.heap.size,(FlV fl))::[(w.heap.size,(PlV pa pc p)),(w.heap.size+1,(BbV ba ca bo cb x)),(w.heap.size+1+1,(P4R tos id whole more off ttl proto src dst opts data)),(w.heap.size+1+1+1,Z25V)]) (W1.alloc (.cells (FlV fl).toArray 43))):=(S9.out.kept r1).push (FlV fl) (by simp) _;clear r1 S9 HOF k0 k1 k2 k3 k4 k5 k6 k7 k8 k9 k10;go_upto_region 4 with fail
 generalize (W1.alloc (.cells (FlV fl).toArray 43))=W2 at *;generalize W1.heap.size=Fb at *;by_cases hc:cd=0
 case neg =>
  have d0:(cd != 0)=true:=by simp [hc]
  have HX:Hid (ans=noE cd):=by unfold Hid; rw [HV.out,if_pos hc]
  go_wp2_with fail
  refine (HIL.out cd _).mono ?_;rintro e W3 ⟨rfl,r3⟩;have S3:Hid _:=S2.out.kept r3;clear r3;obtain ⟨HTH,HRR,RB⟩:=mid3 (show HoldsL W3 (w.heap.size+1+1+1) (noL none none 0 0 (noE 0)) from S3.out.k _ mE4) S3.out.b hRw none none 0 0 (noE cd);unfold noC;go_wp2_with (refine wpList_store_mid (by rfl) 39 (.tmp 8) (.tmp 35) (by rfl) _ _ _ (by rfl) (by rfl) HTH.out no_info (noL_one _ _ _ _ _) ?_)
  exact bodyPost_ret (results_mid Tryz.results46 _ _ _ _ _ rfl HRR.out Tryz.underlying39 rfl no_info) rfl (And.intro (by rw [HX.out]; exact noRet_ill _) RB.out)
 have d0:(cd != 0)=false:=by simp [hc]
 rw [if_neg (by simp [hc])] at HV;replace HGO:Hid _:=HGO.out hc;replace HFM:Hid _:=HFM.out hc;replace HST:Hid _:=HST.out hc;replace HIZ:Hid _:=HIZ.out hc;clear hc;go_upto_region 6 with fail
 clear d0;have HHk:=S2.out.at mE1;obtain ⟨k0,k1,k2,k3,k4,k5,k6,k7,k8,k9⟩:=HHk.c10;clear HHk;have HHl:=S2.out.at mE2;obtain ⟨l0,l1⟩:=HHl.c2;clear HHl;have HHm:=S2.out.at mE0;obtain ⟨m0,m1,m2,m3,m4⟩:=HHm.c5;clear HHm;have HHn:=S2.out.at mE3;obtain ⟨n0,n1,n2,n3,n4,n5,n6,n7,n8,n9,n10⟩:=HHn.c11;clear HHn;have hR2:w.heap.size+1+1+1 < W2.heap.size:=(S2.out.k _ mE4).lt (by simp);have hw2:w.heap.size≤W2.heap.size:=S2.out.b.size;go_wp2_with fail
 refine (HGO.out W2 S2.out.b).mono ?_;rintro e W3 ⟨⟨a9,b9,c9,d9,rfl,hown⟩,r3⟩;unfold boC;have S4:Hid (Bxs w ((W3.heap.size,(BoV a9 c9 b9 d9 nv))::[(Fb,(FlV fl)),(w.heap.size,(PlV pa pc p)),(w.heap.size+1,(BbV ba ca bo cb x)),(w.heap.size+1+1,(P4R tos id whole more off ttl proto src dst opts data)),(w.heap.size+1+1+1,Z25V)]) (W3.alloc (.cells (BoV a9 c9 b9 d9 nv).toArray 104))):=(S2.out.kept r3).push (BoV a9 c9 b9 d9 nv) (by simp) _;have O4:Hid (BbOwn W2.heap.size (W3.alloc (.cells (BoV a9 c9 b9 d9 nv).toArray 104)) a9 b9 nv.bib):=hown.kept (bR.alloc (Nat.le_refl _) _);have hx4:W2.heap.size≤W3.heap.size:=r3.size;clear r3 hown S2 HGO k0 k1 k2 k3 k4 k5 k6 k7 k8 k9 l0 l1 m0 m1 m2 m3 m4 n0 n1 n2 n3 n4 n5 n6 n7 n8 n9 n10;go_upto_region 7 with fail
 generalize (W3.alloc (.cells (BoV a9 c9 b9 d9 nv).toArray 104))=W4 at *;generalize W3.heap.size=Xb at *;have HHk:=S4.out.at mE0;obtain ⟨k0,k1,k2,k3,k4,k5,k6,k7⟩:=HHk.c8;clear HHk;by_cases hn:nv.code=0
 case neg =>
  have d0:(nv.code != 0)=true:=by simp [hn]
  have HX:Hid (ans=noE nv.code):=by unfold Hid; rw [HV.out,if_pos hn]
  go_wp2_with fail
  refine (HIL.out nv.code _).mono ?_;rintro e W5 ⟨rfl,r5⟩;have S5:Hid _:=S4.out.kept r5;clear r5;obtain ⟨HTH,HRR,RB⟩:=mid3 (show HoldsL W5 (w.heap.size+1+1+1) (noL none none 0 0 (noE 0)) from S5.out.k _ mE5) S5.out.b hRw none none 0 0 (noE nv.code);unfold noC;go_wp2_with (refine wpList_store_mid (by rfl) 39 (.tmp 8) (.tmp 48) (by rfl) _ _ _ (by rfl) (by rfl) HTH.out no_info (noL_one _ _ _ _ _) ?_)
  exact bodyPost_ret (results_mid Tryz.results46 _ _ _ _ _ rfl HRR.out Tryz.underlying39 rfl no_info) rfl (And.intro (by rw [HX.out]; exact noRet_ill _) RB.out)
 have d0:(nv.code != 0)=false:=by simp [hn]
 rw [if_neg (by simp [hn])] at HV;replace HFM:Hid _:=HFM.out hn;replace HST:Hid _:=HST.out hn;have hiz:=HIZ.out hn;clear hn HIZ;go_upto_region 9 with fail
 clear d0;by_cases h4:nv.bind.inn.size=4
 case neg =>
  have d4:((nv.bind.inn.size:Int) != 4)=true:=by simp; omega
  have HX:Hid (ans=noE 11):=by unfold Hid; rw [HV.out,if_pos h4]
  go_wp2_with fail
  refine (HIL.out 11 _).mono ?_;rintro e W7 ⟨rfl,r7⟩;have S7:Hid _:=S4.out.kept r7;clear r7;obtain ⟨HTH,HRR,RB⟩:=mid3 (show HoldsL W7 (w.heap.size+1+1+1) (noL none none 0 0 (noE 0)) from S7.out.k _ mE5) S7.out.b hRw none none 0 0 (noE 11);unfold noC;go_wp2_with (refine wpList_store_mid (by rfl) 39 (.tmp 8) (.tmp 54) (by rfl) _ _ _ (by rfl) (by rfl) HTH.out no_info (noL_one _ _ _ _ _) ?_)
  exact bodyPost_ret (results_mid Tryz.results46 _ _ _ _ _ rfl HRR.out Tryz.underlying39 rfl no_info) rfl (And.intro (by rw [HX.out]; exact noRet_ill _) RB.out)
 have d4:((nv.bind.inn.size:Int) != 4)=false:=by simp; omega
 rw [if_neg (by simp [h4])] at HV;replace HST:Hid _:=HST.out h4;clear h4 hiz HIL;go_upto_region 11 with fail
 clear d4 k0 k1 k2 k3 k4 k5 k6 k7;go_cut [12] (fun v wx=>∃ g8,v=.pointer (some ⟨g8,0,none⟩)∧HoldsL wx g8 [.string sd,iV 0]∧Bxs w [(Xb,(BoV a9 c9 b9 d9 nv)),(Fb,(FlV fl)),(w.heap.size,(PlV pa pc p)),(w.heap.size+1,(BbV ba ca bo cb x)),(w.heap.size+1+1,(P4R tos id whole more off ttl proto src dst opts data)),(w.heap.size+1+1+1,Z25V)] wx∧BbOwn W2.heap.size wx a9 b9 nv.bib)
 case first =>
  rename_i J K2 hJ hK2;have HCP:Hid (∀ wy,Below W4.drew.heap.size W4.drew wy→_):=fun wy hy=>S4.out.kept (bR.drew.trans hy)
  have HOP:Hid (∀ wy,Below W4.drew.heap.size W4.drew wy→BbOwn W2.heap.size wy a9 b9 nv.bib):=fun wy hy=>O4.out.kept (bR.drew.trans hy)
  have HLT:Hid (∀ e∈([(Xb,(BoV a9 c9 b9 d9 nv)),(Fb,(FlV fl)),(w.heap.size,(PlV pa pc p)),(w.heap.size+1,(BbV ba ca bo cb x)),(w.heap.size+1+1,(P4R tos id whole more off ttl proto src dst opts data)),(w.heap.size+1+1+1,Z25V)]:List (Nat × List Value)),e.1 < W4.drew.heap.size):=fun e he=>(S4.out.lts e he).1
  have hww:w.heap.size≤W4.drew.heap.size:=S4.out.b.size;clear S4 O4 HV;refine wp_region_growV [55,56,57,58,59,60,61,62,63,64,65,66,67,68,12] (by kernel_rfl) (by kernel_rfl) ?_;iterate 13 (apply GChV.u rfl;(·intro K' a wy ho hd hb hK;simp [rAt,IsV,slot,Region.binds] at ho hd;have hst:=HCP.out wy hb;have kC:=(hst.at mE1).c5;have kC:=(hst.at mE0).c8;have kC:=(hst.at mE4).c11;clear hst;go_simp;first|((try go_bits);exact hK _ _ rfl bQ)|(refine (HFM.out wy).mono ?_;rintro e wz ⟨rfl,hz⟩;exact hK _ _ rfl hz));dsimp only [nA,cA])
  (apply GChV.u rfl;(·intro K' a wy ho hd hb hK;simp [rAt,IsV,slot,Region.binds] at ho hd;go_simp;refine (HST.out wy).mono ?_;rintro e wz ⟨rfl,hz⟩;exact hK _ _ rfl hz);dsimp only [nA,cA])
  refine GChV.rel (n:=14) (IsZy W4.drew.heap.size [.string ⟨#[]⟩,iV 0]) (stable_isZy _ _ (by simp)) [_,_,_,_,_,_,_,_,_,_,_,_,_,_,IsZy W4.drew.heap.size [.string ⟨#[]⟩,iV 0]] rfl rfl ?_ ?_
  ·intro K' a wy ho hd hb hK;rw [wN rfl];clear hd ho;go_simp;exact hK _ _ ⟨wy.heap.size,rfl,hb.size,HoldsL.new wy [.string ⟨#[]⟩,iV 0] 55⟩ (bR.alloc (Nat.le_refl _) _)
  intro X wz hR hz;obtain ⟨x0,x1,x2,x3,x4,x5,x6,x7,x8,x9,x10,x11,x12,x13,x14,-⟩:=hR;obtain ⟨g8,e8,b8,y8⟩:=x14;simp only [IsV] at x0 x1 x2 x3 x4 x5 x6 x7 x8 x9 x10 x11 x12 x13;simp only [putsFrom,x0,x1,x2,x3,x4,x5,x6,x7,x8,x9,x10,x11,x12,x13,e8];clear x0 x1 x2 x3 x4 x5 x6 x7 x8 x9 x10 x11 x12 x13;have HF1:Hid (HoldsL (stor g8 wz 0 [.string sd,iV 0]) g8 [.string sd,iV 0]):=y8.stor [.string sd,iV 0] rfl;have HF2:Hid (Bxs w [(Xb,(BoV a9 c9 b9 d9 nv)),(Fb,(FlV fl)),(w.heap.size,(PlV pa pc p)),(w.heap.size+1,(BbV ba ca bo cb x)),(w.heap.size+1+1,(P4R tos id whole more off ttl proto src dst opts data)),(w.heap.size+1+1+1,Z25V)] (stor g8 wz 0 [.string sd,iV 0])):=(HCP.out wz hz).stor (by omega) (fun e he=>by have:=HLT.out e he; omega) _;have HF3:Hid (BbOwn W2.heap.size (stor g8 wz 0 [.string sd,iV 0]) a9 b9 nv.bib):=HOP.out _ (Below.stor b8 _ hz);obtain ⟨y0,y1⟩:=y8.c2;obtain ⟨yf0,yf1⟩:=y8.f2;simp only [stor,Nat.reduceAdd] at HF1 HF2 HF3;clear hz HCP HOP HLT y8;intro K10 hK10;go_simp;refine hK10 _ _ ?_;show Exit.then _ _ _ _ _;refine hK2 _ _ (hJ _ _ ?_);(repeat apply Exists.intro)
  exact ⟨⟨g8,rfl,HF1.out,HF2.out,HF3.out⟩,rfl⟩
 case rest =>
 obtain ⟨g8,rfl,hD,hS,hO⟩:=hcut;have D5:Hid _:=hD;have S5:Hid (Bxs w [(Xb,(BoV a9 c9 b9 d9 nv)),(Fb,(FlV fl)),(w.heap.size,(PlV pa pc p)),(w.heap.size+1,(BbV ba ca bo cb x)),(w.heap.size+1+1,(P4R tos id whole more off ttl proto src dst opts data)),(w.heap.size+1+1+1,Z25V)] wc):=hS;have O5:Hid _:=hO;have hg8:g8 < wc.heap.size:=hD.lt (by simp);clear hD hS hO S4 O4 HFM HST;generalize wc=W5 at *;have HHk:=S5.out.at mE0;obtain ⟨k0,k1,k2,k3,k4,k5,k6,k7⟩:=HHk.c8;clear HHk;have HHn:=S5.out.at mE4;obtain ⟨n0,n1,n2,n3,n4,n5,n6,n7,n8,n9,n10⟩:=HHn.c11;obtain ⟨-,-,-,-,-,-,-,-,nf8,-,nf10⟩:=HHn.f11;have dd0:=D5.out.cell (j:=0) rfl;have hxq:Xb≠w.heap.size+1+1:=by omega
 have S6:Hid (Bxs w [(w.heap.size+1+1,(P4R tos id whole more off ttl proto src nv.bind.inn opts sd)),(Xb,(BoV a9 c9 b9 d9 nv)),(w.heap.size+1+1+1,Z25V)] ((sW W5 (w.heap.size+1+1) 8 (.string nv.bind.inn)).setCell ⟨w.heap.size+1+1,10,none⟩ (.string sd))):=⟨fun e he=>by
  simp only [List.mem_cons,List.not_mem_nil,or_false] at he;rcases he with rfl | rfl | rfl
  ·exact (HHn.set 8 (.string nv.bind.inn)).set 10 (.string sd)
  ·exact HoldsL.setOther (HoldsL.setOther (S5.out.k _ mE0) hxq _) hxq _
  ·exact HoldsL.setOther (HoldsL.setOther (S5.out.k _ mE5) (by show w.heap.size+1+1+1≠w.heap.size+1+1; omega) _) (by show w.heap.size+1+1+1≠w.heap.size+1+1; omega) _,(S5.out.b.setCell (p:=⟨w.heap.size+1+1,8,none⟩) (by show w.heap.size≤w.heap.size+1+1; omega) _).setCell (p:=⟨w.heap.size+1+1,10,none⟩) (by show w.heap.size≤w.heap.size+1+1; omega) _,fun e he=>by
  simp only [List.mem_cons,List.not_mem_nil,or_false] at he;rcases he with rfl | rfl | rfl<;>simp⟩
 have O6:Hid (BbOwn W2.heap.size ((sW W5 (w.heap.size+1+1) 8 (.string nv.bind.inn)).setCell ⟨w.heap.size+1+1,10,none⟩ (.string sd)) a9 b9 nv.bib):=⟨O5.out.bd.grown (grown_set (grown_set (World.grownBy.refl _ _) _) _) (by omega),O5.out.ss.grown (grown_set (grown_set (World.grownBy.refl _ _) _) _) (by omega),O5.out.ne⟩;clear HHn;go_upto_region 14 with fail
 generalize ((sW W5 (w.heap.size+1+1) 8 (.string nv.bind.inn)).setCell ⟨w.heap.size+1+1,10,none⟩ (.string sd))=W6 at *;clear S5 O5 D5 dd0 nf8 nf10 hg8 k0 k1 k2 k3 k4 k5 k6 k7 n0 n1 n2 n3 n4 n5 n6 n7 n8 n9 n10;have HHn:=S6.out.at mE0;obtain ⟨n0,n1,n2,n3,n4,n5,n6,n7,n8,n9,n10⟩:=HHn.c11;clear HHn;have HHk:=S6.out.at mE1;obtain ⟨k0,k1,k2,k3,k4,k5,k6,k7⟩:=HHk.c8;clear HHk;obtain ⟨HTH,HRR,RB⟩:=mid3 (show HoldsL W6 (w.heap.size+1+1+1) (noL none none 0 0 (noE 0)) from S6.out.k _ mE2) S6.out.b hRw a9 b9 c9 d9 ⟨nv.bib,⟨tos,id,whole,more,off,ttl,proto,src,nv.bind.inn,opts,sd⟩,p6Zero,0⟩;have HOW:Hid (BbOwn w.heap.size (W6.setCells (w.heap.size+1+1+1) 0 (noL a9 b9 c9 d9 ⟨nv.bib,⟨tos,id,whole,more,off,ttl,proto,src,nv.bind.inn,opts,sd⟩,p6Zero,0⟩).toArray.toList) a9 b9 nv.bib):=(BbOwn.mid O6.out hR2 _).lowN hw2;clear O6 S6;go_wp2_with (refine wpList_store_mid (by rfl) 39 (.tmp 8) (.tmp 79) (by rfl) _ _ _ (by rfl) (by rfl) HTH.out no_info (noL_one _ _ _ _ _) ?_)
 exact bodyPost_ret (results_mid Tryz.results46 _ _ _ _ _ rfl HRR.out Tryz.underlying39 rfl no_info) rfl (And.intro (by rw [HV.out]; exact ⟨a9,b9,c9,d9,rfl,HOW.out⟩) RB.out)
end Go.Proofs.YtdkepkaflielhaaGreatDoor
