import Derived.Test.YtdkepkaflielhaaGreatDoorSz
import Derived.Test.YtdkepkaflielhaaGreatDoorAb
import Derived.Test.YtdkepkaflielhaaGreatDoorUni
import Derived.Test.YtdkepkaflielhaaGreatDoorStN
import Derived.Test.YtdkepkaflielhaaGreatDoorSNat4
set_option linter.unusedVariables false
set_option linter.unusedSimpArgs false
set_option maxRecDepth 100000
set_option maxHeartbeats 8000000
namespace Go.Proofs.YtdkepkaflielhaaGreatDoor
open Go.RowKit Go.PlainAid
theorem natFt_zero {p:Pl} {x:Bb} {q:P4} {now:Int} (h:natFt p x q now=0):bibOk p x=true∧v4Ok q=true∧isTime now=true:=by
 unfold natFt at h;by_cases h1:(bibOk p x&&v4Ok q&&isTime now)=false
 ·rw [if_pos h1] at h; simp at h
 ·simpa using h1
theorem specNatCome_any (pa:Option Addr) (pc:Nat) (p:Pl) (ba bo:Option Addr) (ca cb:Nat) (x:Bb) (q:P4) (now:Int) (w:World) (hlp:p.addrs.length≤1048576) (hpc:p.addrs.length≤pc) (hsz:∀ s∈p.addrs,s.size≤1048576) (hl1:x.binds.length≤1048576) (hl2:x.sess.length≤1048576) (q1:q.src.size≤1048576) (q2:q.dst.size≤1048576) (q3:q.opts.size≤1048576) (q4:q.data.size≤1048576) (hp:SlIs strL1 1 w pa p.addrs) (hx:BbIs w ba bo x) :
  Calls Tryz.prog 19 #[plC pa pc p,bbC ba bo ca cb x,p4C q,iV now] w fun e w'=>NoRet w.heap.size (natComeV p x q now) e w'∧Below w.heap.size w w':=by
 have HOK:Hid (∀ W,Below w.z w W→Cb 28 #[plC pa pc p,bbC ba bo ca cb x,p4C q,iV now] W (iV (natFt p x q now))):=fun W hW=>sp9Ok_any pa pc p ba bo ca cb x q now W hlp hpc hsz hl1 hl2 q1 q2 q3 q4 (hp.below hW) (hx.below hW)
 have HIL:Hid (∀ c W,Cb 29 #[iV c] W (noC none none 0 0 (noE c))):=fun c W=>sp9Ill_any c W
 have HIN:Hid (natFt p x q now=0→∀ W,Below w.z w W→Calls Tryz.prog 46 #[plC pa pc p,bbC ba bo ca cb x,p4C q,iV now] W fun e w'=>NoRet W.heap.size (natComeIn p x q now) e w'∧Below W.heap.size W w'):=fun h W hW=>by
  obtain ⟨h1,h2,h3⟩:=natFt_zero h;exact sp9NatCome_any pa pc p ba bo ca cb x q now W h1 h2 h3 hl1 hl2 (hp.below hW) (hx.below hW)
 have HV:Hid (natComeV p x q now=if natFt p x q now≠0 then noE (natFt p x q now) else natComeIn p x q now):=rfl;generalize natComeV p x q now=ans at *;generalize natComeIn p x q now=nv at *;generalize natFt p x q now=ft at *;obtain ⟨tos,id,whole,more,off,ttl,proto,src,dst,opts,data⟩:=q;clear hp hx hsz;unfold plC bbC p4C at *;dsimp only at *;have e0:HoldsL ((aW (aW (aW w (PlV pa pc p) 27) (BbV ba ca bo cb x) 31) (P4R tos id whole more off ttl proto src dst opts data) 33).alloc (.cells Z25V.toArray 39)) (w.z) (PlV pa pc p):=by
  have h:=HoldsL.new w (PlV pa pc p) 27;try simp only [World.size_alloc] at h
  exact (((h.alloc _).alloc _).alloc _)
 have e1:HoldsL ((aW (aW (aW w (PlV pa pc p) 27) (BbV ba ca bo cb x) 31) (P4R tos id whole more off ttl proto src dst opts data) 33).alloc (.cells Z25V.toArray 39)) (w.z+1) (BbV ba ca bo cb x):=by
  have h:=HoldsL.new (w.alloc (.cells (PlV pa pc p).toArray 27)) (BbV ba ca bo cb x) 31;try simp only [World.size_alloc] at h
  exact ((h.alloc _).alloc _)
 have e2:HoldsL ((aW (aW (aW w (PlV pa pc p) 27) (BbV ba ca bo cb x) 31) (P4R tos id whole more off ttl proto src dst opts data) 33).alloc (.cells Z25V.toArray 39)) (w.z+1+1) (P4R tos id whole more off ttl proto src dst opts data):=by
  have h:=HoldsL.new ((aW w (PlV pa pc p) 27).alloc (.cells (BbV ba ca bo cb x).toArray 31)) (P4R tos id whole more off ttl proto src dst opts data) 33;try simp only [World.size_alloc] at h
  exact (h.alloc _)
 have e3:HoldsL ((aW (aW (aW w (PlV pa pc p) 27) (BbV ba ca bo cb x) 31) (P4R tos id whole more off ttl proto src dst opts data) 33).alloc (.cells Z25V.toArray 39)) (w.z+1+1+1) Z25V:=by
  have h:=HoldsL.new ((aW (aW w (PlV pa pc p) 27) (BbV ba ca bo cb x) 31).alloc (.cells (P4R tos id whole more off ttl proto src dst opts data).toArray 33)) Z25V 39;try simp only [World.size_alloc] at h
  exact h
 have HS0:Hid (Bxs w [(w.z,(PlV pa pc p)),(w.z+1,(BbV ba ca bo cb x)),(w.z+1+1,(P4R tos id whole more off ttl proto src dst opts data)),(w.z+1+1+1,Z25V)] ((aW (aW (aW w (PlV pa pc p) 27) (BbV ba ca bo cb x) 31) (P4R tos id whole more off ttl proto src dst opts data) 33).alloc (.cells Z25V.toArray 39))):=by
  refine ⟨fun e he=>?_,((((bR.alloc (by (try simp only [World.size_alloc]); omega) _).alloc (by (try simp only [World.size_alloc]); omega) _).alloc (by (try simp only [World.size_alloc]); omega) _).alloc (by (try simp only [World.size_alloc]); omega) _),fun e he=>?_⟩
  ·simp only [List.mem_cons,List.not_mem_nil,or_false] at he;rcases he with rfl | rfl | rfl | rfl
   ·exact e0
   ·exact e1
   ·exact e2
   ·exact e3
  ·simp only [List.mem_cons,List.not_mem_nil,or_false] at he;rcases he with rfl | rfl | rfl | rfl<;>simp
 clear e0 e1 e2 e3;have hRw:w.z≤w.z+1+1+1:=by omega
 go_enter Tryz.func19,Tryz.ntmps19
 go_upto_region 1 with fail
 generalize World.alloc _ _=W0 at *;have HHk:=HS0.out.at mE0;obtain ⟨k0,k1,k2,k3,k4,k5,k6,k7,k8,k9⟩:=HHk.c10;clear HHk;have HHl:=HS0.out.at mE1;obtain ⟨l0,l1⟩:=HHl.c2;clear HHl;have HHm:=HS0.out.at mE2;obtain ⟨m0,m1,m2,m3,m4,m5,m6,m7,m8,m9,m10⟩:=HHm.c11;clear HHm;go_wp2_with fail
 refine (HOK.out _ HS0.out.b).mono ?_;rintro e W1 ⟨rfl,r1⟩;have S1:Hid _:=HS0.out.kept r1;clear r1 HS0 HOK k0 k1 k2 k3 k4 k5 k6 k7 k8 k9 l0 l1 m0 m1 m2 m3 m4 m5 m6 m7 m8 m9 m10;by_cases hc:ft=0
 case neg =>
  have d0:(ft != 0)=true:=by simp [hc]
  have HX:Hid (ans=noE ft):=by unfold Hid; rw [HV.out,if_pos hc]
  go_wp2_with fail
  refine (HIL.out ft _).mono ?_;rintro e W3 ⟨rfl,r3⟩;have S3:Hid _:=S1.out.kept r3;clear r3;obtain ⟨HTH,HRR,RB⟩:=mid3 (show HoldsL W3 (w.z+1+1+1) (noL none none 0 0 (noE 0)) from S3.out.k _ mE3) S3.out.b hRw none none 0 0 (noE ft);unfold noC;go_wp2_with (refine wpList_store_mid (by rfl) 39 (.tmp 8) (.tmp 18) (by rfl) _ _ _ (by rfl) (by rfl) HTH.out no_info (noL_one _ _ _ _ _) ?_)
  exact bodyPost_ret (results_mid Tryz.results19 _ _ _ _ _ rfl HRR.out Tryz.underlying39 rfl no_info) rfl (And.intro (by rw [HX.out]; exact noRet_ill _) RB.out)
 have d0:(ft != 0)=false:=by simp [hc]
 rw [if_neg (by simp [hc])] at HV;replace HIN:Hid _:=HIN.out hc;clear hc HIL;go_upto_region 4 with fail
 clear d0;have HHk:=S1.out.at mE0;obtain ⟨k0,k1,k2,k3,k4,k5,k6,k7,k8,k9⟩:=HHk.c10;clear HHk;have HHl:=S1.out.at mE1;obtain ⟨l0,l1⟩:=HHl.c2;clear HHl;have HHm:=S1.out.at mE2;obtain ⟨m0,m1,m2,m3,m4,m5,m6,m7,m8,m9,m10⟩:=HHm.c11;clear HHm;have hR2:w.z+1+1+1 < W1.heap.size:=(S1.out.k _ mE3).lt (by simp);have hw2:w.z≤W1.heap.size:=S1.out.b.size;go_wp2_with fail
 refine (HIN.out _ S1.out.b).mono ?_;rintro e W3 ⟨⟨a9,b9,c9,d9,rfl,hown⟩,r3⟩;have S3:Hid _:=S1.out.kept r3;clear r3 S1 HIN k0 k1 k2 k3 k4 k5 k6 k7 k8 k9 l0 l1 m0 m1 m2 m3 m4 m5 m6 m7 m8 m9 m10;obtain ⟨HTH,HRR,RB⟩:=mid3 (show HoldsL W3 (w.z+1+1+1) (noL none none 0 0 (noE 0)) from S3.out.k _ mE3) S3.out.b hRw a9 b9 c9 d9 nv;have HOW:Hid (BbOwn w.z (W3.setCells (w.z+1+1+1) 0 (noL a9 b9 c9 d9 nv).toArray.toList) a9 b9 nv.bib):=(BbOwn.mid hown hR2 _).lowN hw2;clear hown S3;unfold noC;go_wp2_with (refine wpList_store_mid (by rfl) 39 (.tmp 8) (.tmp 23) (by rfl) _ _ _ (by rfl) (by rfl) HTH.out no_info (noL_one _ _ _ _ _) ?_)
 exact bodyPost_ret (results_mid Tryz.results19 _ _ _ _ _ rfl HRR.out Tryz.underlying39 rfl no_info) rfl (And.intro (by rw [HV.out]; exact ⟨a9,b9,c9,d9,rfl,HOW.out⟩) RB.out)
end Go.Proofs.YtdkepkaflielhaaGreatDoor
