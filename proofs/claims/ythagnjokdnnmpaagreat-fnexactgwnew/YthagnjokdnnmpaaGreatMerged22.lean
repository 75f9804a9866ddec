import Derived.Test.YthagnjokdnnmpaaGreatMerged15
import Derived.Test.YthagnjokdnnmpaaGreatMerged21
import Derived.Test.YthagnjokdnnmpaaGreatSCopyGw
import Derived.Test.YthagnjokdnnmpaaGreatMerged18
import Derived.Test.YthagnjokdnnmpaaGreatMerged7
import Derived.Deep.RegionWith
import Derived.Test.YthagnjokdnnmpaaGreatMerged19
import Derived.Deep.RegionHeld
import Derived.Lib.QuietBelow
import Derived.Deep.RegionHeldLaw
set_option linter.unusedVariables false
set_option linter.unusedSimpArgs false
set_option maxRecDepth 100000
set_option maxHeartbeats 8000000
namespace Go.Proofs.YthagnjokdnnmpaaGreat
open Go.RowKit Go.PlainAid
theorem gwOf_long {rs:List Rt} {p:Pl} {sa:ByteArray} {sb mtu:Int} (h:400 < rs.length):gwOk (gwOf rs p sa sb mtu)=false:=by
 have hr:routesOk rs=false:=by
  unfold routesOk;rw [decide_eq_false (by omega)]; rfl
 unfold gwOk;rw [show (gwOf rs p sa sb mtu).routes=rs from rfl,hr];simp
theorem gwZero_b (base:Nat) (w:World):GwB base w gaZ gwZero:=⟨.inl rfl,.inl rfl,.inl rfl,.inl rfl,.inl rfl,Nat.le_refl _,Nat.le_refl _⟩
theorem specGwNew_any (ra:Option Addr) (rc:Nat) (rs:List Rt) (pa:Option Addr) (pc:Nat) (p:Pl) (sa:ByteArray) (sb mtu:Int) (w:World) (h1:rs.length≤1048576) (h2:rs.length≤rc) (h3:RtsIn rs) (h4:p.addrs.length≤1048576) (h5:p.addrs.length≤pc) (h6:∀ s∈p.addrs,s.size≤1048576) (h7:sa.size≤1048576) (hr:RtsIs w ra rs) (hp:SlIs strL1 1 w pa p.addrs) :
  Calls Tryz.prog 8 #[.slice ra rs.length rc,plC pa pc p,.agg #[.string sa,.int .i64 sb],.int .i64 mtu] w fun e w'=>(∃ A',e=.returned (gwC A' (gwNewV rs p sa sb mtu))∧GwB w.heap.size w' A' (gwNewV rs p sa sb mtu))∧Below w.heap.size w w':=by
 have HIS:Hid (∀ W,Below w.heap.size w W→GwIs W ⟨ra,rc,pa,pc,none,0,none,0,none,0⟩ (gwOf rs p sa sb mtu)):=fun W hW=>gwOf_is (hr.below hW) (hp.below hW)
 have HSM:Hid (GwSm ⟨ra,rc,pa,pc,none,0,none,0,none,0⟩ (gwOf rs p sa sb mtu)):=gwOf_sm h1 h2 h3 h4 h5 h6 h7;have HGR:Hid (∀ W,Below w.heap.size w W→Calls Tryz.prog 36 #[.agg (gwL ⟨ra,rc,pa,pc,none,0,none,0,none,0⟩ (gwOf rs p sa sb mtu)).toArray] W fun e w'=>e=.returned (.bool (gwOk (gwOf rs p sa sb mtu)))∧Below W.heap.size W w'):=fun W hW=>specGwRight_any ⟨ra,rc,pa,pc,none,0,none,0,none,0⟩ (gwOf rs p sa sb mtu) W HSM.out (HIS.out W hW)
 have HCG:Hid (∀ W,Below w.heap.size w W→Calls Tryz.prog 37 #[.agg (gwL ⟨ra,rc,pa,pc,none,0,none,0,none,0⟩ (gwOf rs p sa sb mtu)).toArray] W fun e w'=>(∃ A',e=.returned (gwC A' (gwOf rs p sa sb mtu))∧GwB W.heap.size w' A' (gwOf rs p sa sb mtu))∧Below W.heap.size W w'):=fun W hW=>specCopyGw_any ⟨ra,rc,pa,pc,none,0,none,0,none,0⟩ (gwOf rs p sa sb mtu) W HSM.out (HIS.out W hW)
 have HLG:Hid (400 < rs.length→gwOk (gwOf rs p sa sb mtu)=false):=fun h=>gwOf_long h
 have HV:Hid (gwNewV rs p sa sb mtu=if gwOk (gwOf rs p sa sb mtu)=true then (gwOf rs p sa sb mtu) else gwZero):=rfl;generalize gwNewV rs p sa sb mtu=ans at *;generalize gwOk (gwOf rs p sa sb mtu)=ok at *;clear HIS HSM h2 h3 h4 h5 h6 h7 hr hp;unfold plC;have e0:HoldsL (((w.alloc (.cells #[.slice pa p.addrs.length pc,.int .i64 p.low,.int .i64 p.high,.int .i64 p.most,.int .i64 p.filter,.int .i64 p.lv.udp,.int .i64 p.lv.echo,.int .i64 p.lv.opening,.int .i64 p.lv.opn,.int .i64 p.lv.closing] 28)).alloc (.cells #[.string sa,.int .i64 sb] 30)).alloc (.cells #[.slice none 0 0,.slice none 0 0,.int .i64 0,.int .i64 0,.int .i64 0,.int .i64 0,.int .i64 0,.int .i64 0,.int .i64 0,.int .i64 0,.int .i64 0,.string ⟨#[]⟩,.int .i64 0,.string ⟨#[]⟩,.string ⟨#[]⟩,.int .i64 0,.slice none 0 0,.slice none 0 0,.slice none 0 0,.int .i64 0,.int .i64 0,.int .i64 0,.int .i64 0,.int .i64 0] 41)) (w.heap.size) [.slice pa p.addrs.length pc,.int .i64 p.low,.int .i64 p.high,.int .i64 p.most,.int .i64 p.filter,.int .i64 p.lv.udp,.int .i64 p.lv.echo,.int .i64 p.lv.opening,.int .i64 p.lv.opn,.int .i64 p.lv.closing]:=by
  have h:=HoldsL.new w [.slice pa p.addrs.length pc,.int .i64 p.low,.int .i64 p.high,.int .i64 p.most,.int .i64 p.filter,.int .i64 p.lv.udp,.int .i64 p.lv.echo,.int .i64 p.lv.opening,.int .i64 p.lv.opn,.int .i64 p.lv.closing] 28;try simp only [World.size_alloc] at h
  exact ((h.alloc _).alloc _)
 have e1:HoldsL (((w.alloc (.cells #[.slice pa p.addrs.length pc,.int .i64 p.low,.int .i64 p.high,.int .i64 p.most,.int .i64 p.filter,.int .i64 p.lv.udp,.int .i64 p.lv.echo,.int .i64 p.lv.opening,.int .i64 p.lv.opn,.int .i64 p.lv.closing] 28)).alloc (.cells #[.string sa,.int .i64 sb] 30)).alloc (.cells #[.slice none 0 0,.slice none 0 0,.int .i64 0,.int .i64 0,.int .i64 0,.int .i64 0,.int .i64 0,.int .i64 0,.int .i64 0,.int .i64 0,.int .i64 0,.string ⟨#[]⟩,.int .i64 0,.string ⟨#[]⟩,.string ⟨#[]⟩,.int .i64 0,.slice none 0 0,.slice none 0 0,.slice none 0 0,.int .i64 0,.int .i64 0,.int .i64 0,.int .i64 0,.int .i64 0] 41)) (w.heap.size+1) [.string sa,.int .i64 sb]:=by
  have h:=HoldsL.new (w.alloc (.cells #[.slice pa p.addrs.length pc,.int .i64 p.low,.int .i64 p.high,.int .i64 p.most,.int .i64 p.filter,.int .i64 p.lv.udp,.int .i64 p.lv.echo,.int .i64 p.lv.opening,.int .i64 p.lv.opn,.int .i64 p.lv.closing] 28)) [.string sa,.int .i64 sb] 30;try simp only [World.size_alloc] at h
  exact (h.alloc _)
 have e2:HoldsL (((w.alloc (.cells #[.slice pa p.addrs.length pc,.int .i64 p.low,.int .i64 p.high,.int .i64 p.most,.int .i64 p.filter,.int .i64 p.lv.udp,.int .i64 p.lv.echo,.int .i64 p.lv.opening,.int .i64 p.lv.opn,.int .i64 p.lv.closing] 28)).alloc (.cells #[.string sa,.int .i64 sb] 30)).alloc (.cells #[.slice none 0 0,.slice none 0 0,.int .i64 0,.int .i64 0,.int .i64 0,.int .i64 0,.int .i64 0,.int .i64 0,.int .i64 0,.int .i64 0,.int .i64 0,.string ⟨#[]⟩,.int .i64 0,.string ⟨#[]⟩,.string ⟨#[]⟩,.int .i64 0,.slice none 0 0,.slice none 0 0,.slice none 0 0,.int .i64 0,.int .i64 0,.int .i64 0,.int .i64 0,.int .i64 0] 41)) (w.heap.size+1+1) [.slice none 0 0,.slice none 0 0,.int .i64 0,.int .i64 0,.int .i64 0,.int .i64 0,.int .i64 0,.int .i64 0,.int .i64 0,.int .i64 0,.int .i64 0,.string ⟨#[]⟩,.int .i64 0,.string ⟨#[]⟩,.string ⟨#[]⟩,.int .i64 0,.slice none 0 0,.slice none 0 0,.slice none 0 0,.int .i64 0,.int .i64 0,.int .i64 0,.int .i64 0,.int .i64 0]:=by
  have h:=HoldsL.new ((w.alloc (.cells #[.slice pa p.addrs.length pc,.int .i64 p.low,.int .i64 p.high,.int .i64 p.most,.int .i64 p.filter,.int .i64 p.lv.udp,.int .i64 p.lv.echo,.int .i64 p.lv.opening,.int .i64 p.lv.opn,.int .i64 p.lv.closing] 28)).alloc (.cells #[.string sa,.int .i64 sb] 30)) [.slice none 0 0,.slice none 0 0,.int .i64 0,.int .i64 0,.int .i64 0,.int .i64 0,.int .i64 0,.int .i64 0,.int .i64 0,.int .i64 0,.int .i64 0,.string ⟨#[]⟩,.int .i64 0,.string ⟨#[]⟩,.string ⟨#[]⟩,.int .i64 0,.slice none 0 0,.slice none 0 0,.slice none 0 0,.int .i64 0,.int .i64 0,.int .i64 0,.int .i64 0,.int .i64 0] 41;try simp only [World.size_alloc] at h
  exact h
 have HS0:Hid (Bxs w [(w.heap.size,[.slice pa p.addrs.length pc,.int .i64 p.low,.int .i64 p.high,.int .i64 p.most,.int .i64 p.filter,.int .i64 p.lv.udp,.int .i64 p.lv.echo,.int .i64 p.lv.opening,.int .i64 p.lv.opn,.int .i64 p.lv.closing]),(w.heap.size+1,[.string sa,.int .i64 sb]),(w.heap.size+1+1,[.slice none 0 0,.slice none 0 0,.int .i64 0,.int .i64 0,.int .i64 0,.int .i64 0,.int .i64 0,.int .i64 0,.int .i64 0,.int .i64 0,.int .i64 0,.string ⟨#[]⟩,.int .i64 0,.string ⟨#[]⟩,.string ⟨#[]⟩,.int .i64 0,.slice none 0 0,.slice none 0 0,.slice none 0 0,.int .i64 0,.int .i64 0,.int .i64 0,.int .i64 0,.int .i64 0])] (((w.alloc (.cells #[.slice pa p.addrs.length pc,.int .i64 p.low,.int .i64 p.high,.int .i64 p.most,.int .i64 p.filter,.int .i64 p.lv.udp,.int .i64 p.lv.echo,.int .i64 p.lv.opening,.int .i64 p.lv.opn,.int .i64 p.lv.closing] 28)).alloc (.cells #[.string sa,.int .i64 sb] 30)).alloc (.cells #[.slice none 0 0,.slice none 0 0,.int .i64 0,.int .i64 0,.int .i64 0,.int .i64 0,.int .i64 0,.int .i64 0,.int .i64 0,.int .i64 0,.int .i64 0,.string ⟨#[]⟩,.int .i64 0,.string ⟨#[]⟩,.string ⟨#[]⟩,.int .i64 0,.slice none 0 0,.slice none 0 0,.slice none 0 0,.int .i64 0,.int .i64 0,.int .i64 0,.int .i64 0,.int .i64 0] 41))):=by
  refine ⟨fun e he=>?_,((((Below.refl _ _).alloc (by (try simp only [World.size_alloc]); omega) _).alloc (by (try simp only [World.size_alloc]); omega) _).alloc (by (try simp only [World.size_alloc]); omega) _),fun e he=>?_⟩
  ·simp only [List.mem_cons,List.not_mem_nil,or_false] at he;rcases he with rfl | rfl | rfl
   ·exact e0
   ·exact e1
   ·exact e2
  ·simp only [List.mem_cons,List.not_mem_nil,or_false] at he;rcases he with rfl | rfl | rfl<;>simp
 clear e0 e1 e2;have hRw:w.heap.size≤w.heap.size+1+1:=by omega
 go_enter Tryz.func8,Tryz.ntmps8
 go_upto_region 1 with fail
 generalize (((w.alloc (.cells #[.slice pa p.addrs.length pc,.int .i64 p.low,.int .i64 p.high,.int .i64 p.most,.int .i64 p.filter,.int .i64 p.lv.udp,.int .i64 p.lv.echo,.int .i64 p.lv.opening,.int .i64 p.lv.opn,.int .i64 p.lv.closing] 28)).alloc (.cells #[.string sa,.int .i64 sb] 30)).alloc (.cells #[.slice none 0 0,.slice none 0 0,.int .i64 0,.int .i64 0,.int .i64 0,.int .i64 0,.int .i64 0,.int .i64 0,.int .i64 0,.int .i64 0,.int .i64 0,.string ⟨#[]⟩,.int .i64 0,.string ⟨#[]⟩,.string ⟨#[]⟩,.int .i64 0,.slice none 0 0,.slice none 0 0,.slice none 0 0,.int .i64 0,.int .i64 0,.int .i64 0,.int .i64 0,.int .i64 0] 41))=W0 at *;have HHk:=HS0.out.at (.head _);have k0:=HHk.cell (j:=0) rfl;have k1:=HHk.cell (j:=1) rfl;have k2:=HHk.cell (j:=2) rfl;have k3:=HHk.cell (j:=3) rfl;have k4:=HHk.cell (j:=4) rfl;have k5:=HHk.cell (j:=5) rfl;have k6:=HHk.cell (j:=6) rfl;have k7:=HHk.cell (j:=7) rfl;have k8:=HHk.cell (j:=8) rfl;have k9:=HHk.cell (j:=9) rfl;clear HHk;have HHl:=HS0.out.at (.tail _ (.head _));have l0:=HHl.cell (j:=0) rfl;have l1:=HHl.cell (j:=1) rfl;clear HHl;have hz:HoldsL (W0.alloc (.cells #[.slice none 0 0,.slice none 0 0,.int .i64 0,.int .i64 0,.int .i64 0,.int .i64 0,.int .i64 0,.int .i64 0,.int .i64 0,.int .i64 0,.int .i64 0,.string ⟨#[]⟩,.int .i64 0,.string ⟨#[]⟩,.string ⟨#[]⟩,.int .i64 0,.slice none 0 0,.slice none 0 0,.slice none 0 0,.int .i64 0,.int .i64 0,.int .i64 0,.int .i64 0,.int .i64 0] 41)) W0.heap.size gwZ:=HoldsL.new W0 [.slice none 0 0,.slice none 0 0,.int .i64 0,.int .i64 0,.int .i64 0,.int .i64 0,.int .i64 0,.int .i64 0,.int .i64 0,.int .i64 0,.int .i64 0,.string ⟨#[]⟩,.int .i64 0,.string ⟨#[]⟩,.string ⟨#[]⟩,.int .i64 0,.slice none 0 0,.slice none 0 0,.slice none 0 0,.int .i64 0,.int .i64 0,.int .i64 0,.int .i64 0,.int .i64 0] 41;have HTZ:Hid ((W0.alloc (.cells #[.slice none 0 0,.slice none 0 0,.int .i64 0,.int .i64 0,.int .i64 0,.int .i64 0,.int .i64 0,.int .i64 0,.int .i64 0,.int .i64 0,.int .i64 0,.string ⟨#[]⟩,.int .i64 0,.string ⟨#[]⟩,.string ⟨#[]⟩,.int .i64 0,.slice none 0 0,.slice none 0 0,.slice none 0 0,.int .i64 0,.int .i64 0,.int .i64 0,.int .i64 0,.int .i64 0] 41)).there W0.heap.size 0 (gwL ⟨ra,rc,pa,pc,none,0,none,0,none,0⟩ (gwOf rs p sa sb mtu)).toArray.size):=gwL_there hz rfl _ _;have HN:Hid (HoldsL ((W0.alloc (.cells #[.slice none 0 0,.slice none 0 0,.int .i64 0,.int .i64 0,.int .i64 0,.int .i64 0,.int .i64 0,.int .i64 0,.int .i64 0,.int .i64 0,.int .i64 0,.string ⟨#[]⟩,.int .i64 0,.string ⟨#[]⟩,.string ⟨#[]⟩,.int .i64 0,.slice none 0 0,.slice none 0 0,.slice none 0 0,.int .i64 0,.int .i64 0,.int .i64 0,.int .i64 0,.int .i64 0] 41)).setCells W0.heap.size 0 (gwL ⟨ra,rc,pa,pc,none,0,none,0,none,0⟩ (gwOf rs p sa sb mtu)).toArray.toList) W0.heap.size (gwL ⟨ra,rc,pa,pc,none,0,none,0,none,0⟩ (gwOf rs p sa sb mtu))):=hz.midG rfl;have bn:Below W0.heap.size W0 ((W0.alloc (.cells #[.slice none 0 0,.slice none 0 0,.int .i64 0,.int .i64 0,.int .i64 0,.int .i64 0,.int .i64 0,.int .i64 0,.int .i64 0,.int .i64 0,.int .i64 0,.string ⟨#[]⟩,.int .i64 0,.string ⟨#[]⟩,.string ⟨#[]⟩,.int .i64 0,.slice none 0 0,.slice none 0 0,.slice none 0 0,.int .i64 0,.int .i64 0,.int .i64 0,.int .i64 0,.int .i64 0] 41)).setCells W0.heap.size 0 (gwL ⟨ra,rc,pa,pc,none,0,none,0,none,0⟩ (gwOf rs p sa sb mtu)).toArray.toList):=Below.midG ((Below.refl _ _).alloc (Nat.le_refl _) _) (Nat.le_refl _) _;have S1:Hid _:=HS0.out.kept bn;clear bn hz HS0;go_upto_region 2 with (refine wpList_store_mid (by rfl) 41 (.tmp 9) (.tmp 15) (by rfl) W0.heap.size 0 (gwL ⟨ra,rc,pa,pc,none,0,none,0,none,0⟩ (gwOf rs p sa sb mtu)).toArray (by rfl) (by rfl) HTZ.out gw_info (gwL_one _ _) ?_)
 generalize ((W0.alloc (.cells #[.slice none 0 0,.slice none 0 0,.int .i64 0,.int .i64 0,.int .i64 0,.int .i64 0,.int .i64 0,.int .i64 0,.int .i64 0,.int .i64 0,.int .i64 0,.string ⟨#[]⟩,.int .i64 0,.string ⟨#[]⟩,.string ⟨#[]⟩,.int .i64 0,.slice none 0 0,.slice none 0 0,.slice none 0 0,.int .i64 0,.int .i64 0,.int .i64 0,.int .i64 0,.int .i64 0] 41)).setCells W0.heap.size 0 (gwL ⟨ra,rc,pa,pc,none,0,none,0,none,0⟩ (gwOf rs p sa sb mtu)).toArray.toList)=W1 at *;clear HTZ k0 k1 k2 k3 k4 k5 k6 k7 k8 k9 l0 l1;generalize W0.heap.size=N at *;by_cases hlen:400 < rs.length
 case pos =>
  have hgt:(400:Int) < (rs.length:Int):=by omega
  obtain rfl:ok=false:=HLG.out hlen;clear hlen;have hrb:HoldsL W1 (w.heap.size+1+1) gwZ:=S1.out.k _ (.tail _ (.tail _ (.head _)));have HTH:Hid (W1.there (w.heap.size+1+1) 0 (gwL gaZ gwZero).toArray.size):=gwL_there hrb rfl _ _;have HRR:Hid (HoldsL (W1.setCells (w.heap.size+1+1) 0 (gwL gaZ gwZero).toArray.toList) (w.heap.size+1+1) (gwL gaZ gwZero)):=hrb.midG rfl;have RB:Hid (Below w.heap.size w (W1.setCells (w.heap.size+1+1) 0 (gwL gaZ gwZero).toArray.toList)):=Below.midG S1.out.b hRw _;have HX:Hid (ans=gwZero):=by unfold Hid; rw [HV.out]; simp
  clear hrb;go_wp2_with (refine wpList_store_mid (by rfl) 41 (.tmp 8) (.tmp 24) (by rfl) (w.heap.size+1+1) 0 (gwL gaZ gwZero).toArray (by rfl) (by rfl) HTH.out gw_info (gwL_one _ _) ?_)
  exact bodyPost_ret (results_mid Tryz.results8 _ _ (w.heap.size+1+1) (gwL gaZ gwZero) _ rfl HRR.out Tryz.underlying41 rfl gw_info) rfl (And.intro (by rw [HX.out]; exact ⟨gaZ,rfl,gwZero_b _ _⟩) RB.out)
 have hgt:¬ (400:Int) < (rs.length:Int):=by omega
 clear hlen HLG;have d0:decide ((400:Int) < (rs.length:Int))=false:=decide_eq_false hgt;go_wp2_with (refine wpList_load_g (by first | rfl | (simp [Region.wanted,yielded]; done) | (simp [Region.wanted,yielded,d0]; done)) 41 (.tmp 9) (by rfl) N 0 (by rfl) (gwL ⟨ra,rc,pa,pc,none,0,none,0,none,0⟩ (gwOf rs p sa sb mtu)) _ HN.out.at0 Tryz.underlying41 rfl gw_info ?_)
 refine (HGR.out W1 S1.out.b).mono ?_;rintro e W2 ⟨rfl,qq⟩;have S2:Hid _:=S1.out.kept qq;have HN2:Hid _:=HN.out.kept (by rw [gwL_len]; omega) qq;clear qq S1 HN HGR
 cases ok with
 | false =>
  have hrb:HoldsL W2 (w.heap.size+1+1) gwZ:=S2.out.k _ (.tail _ (.tail _ (.head _)));have HTH:Hid (W2.there (w.heap.size+1+1) 0 (gwL gaZ gwZero).toArray.size):=gwL_there hrb rfl _ _;have HRR:Hid (HoldsL (W2.setCells (w.heap.size+1+1) 0 (gwL gaZ gwZero).toArray.toList) (w.heap.size+1+1) (gwL gaZ gwZero)):=hrb.midG rfl;have RB:Hid (Below w.heap.size w (W2.setCells (w.heap.size+1+1) 0 (gwL gaZ gwZero).toArray.toList)):=Below.midG S2.out.b hRw _;have HX:Hid (ans=gwZero):=by unfold Hid; rw [HV.out]; simp
  clear hrb;go_wp2_with (refine wpList_store_mid (by rfl) 41 (.tmp 8) (.tmp 24) (by rfl) (w.heap.size+1+1) 0 (gwL gaZ gwZero).toArray (by rfl) (by rfl) HTH.out gw_info (gwL_one _ _) ?_)
  exact bodyPost_ret (results_mid Tryz.results8 _ _ (w.heap.size+1+1) (gwL gaZ gwZero) _ rfl HRR.out Tryz.underlying41 rfl gw_info) rfl (And.intro (by rw [HX.out]; exact ⟨gaZ,rfl,gwZero_b _ _⟩) RB.out)
 | true =>
  have HX:Hid (ans=(gwOf rs p sa sb mtu)):=by unfold Hid; rw [HV.out]; simp
  go_wp2_with (refine wpList_load_mid (by rfl) 41 (.tmp 9) (by rfl) N 0 (by rfl) (gwL ⟨ra,rc,pa,pc,none,0,none,0,none,0⟩ (gwOf rs p sa sb mtu)) _ HN2.out.at0 Tryz.underlying41 rfl gw_info ?_)
  refine (HCG.out W2 S2.out.b).mono ?_;rintro e W3 ⟨⟨A3,rfl,ho⟩,qq⟩;have S3:Hid _:=S2.out.kept qq;have HHO:Hid _:=ho;have hsz:w.heap.size+1+1 < W2.heap.size:=(S2.out.k _ (.tail _ (.tail _ (.head _)))).lt (by simp);have hs3:w.heap.size≤W2.heap.size:=S2.out.b.size;clear ho qq S2 HN2;have hrb:HoldsL W3 (w.heap.size+1+1) gwZ:=S3.out.k _ (.tail _ (.tail _ (.head _)));have HTH:Hid (W3.there (w.heap.size+1+1) 0 (gwL A3 (gwOf rs p sa sb mtu)).toArray.size):=gwL_there hrb rfl _ _;have HRR:Hid (HoldsL (W3.setCells (w.heap.size+1+1) 0 (gwL A3 (gwOf rs p sa sb mtu)).toArray.toList) (w.heap.size+1+1) (gwL A3 (gwOf rs p sa sb mtu))):=hrb.midG rfl;have RB:Hid (Below w.heap.size w (W3.setCells (w.heap.size+1+1) 0 (gwL A3 (gwOf rs p sa sb mtu)).toArray.toList)):=Below.midG S3.out.b hRw _;have hom:OutOf (w.heap.size+1+1) (w.heap.size+1+1+1) W3 (W3.setCells (w.heap.size+1+1) 0 (gwL A3 (gwOf rs p sa sb mtu)).toArray.toList):=outOf_mid _;have HOO:Hid (GwB w.heap.size (W3.setCells (w.heap.size+1+1) 0 (gwL A3 (gwOf rs p sa sb mtu)).toArray.toList) A3 (gwOf rs p sa sb mtu)):=(HHO.out.outOf hom (by omega)).down hs3;clear hom HHO;clear hrb;unfold gwC;go_wp2_with (refine wpList_store_mid (by rfl) 41 (.tmp 8) (.tmp 26) (by rfl) (w.heap.size+1+1) 0 (gwL A3 (gwOf rs p sa sb mtu)).toArray (by rfl) (by rfl) HTH.out gw_info (gwL_one _ _) ?_)
  exact bodyPost_ret (results_mid Tryz.results8 _ _ (w.heap.size+1+1) (gwL A3 (gwOf rs p sa sb mtu)) _ rfl HRR.out Tryz.underlying41 rfl gw_info) rfl (And.intro (by rw [HX.out]; exact ⟨A3,rfl,HOO.out⟩) RB.out)
theorem toList_beq (a b:ByteArray):(a.toList==b.toList)=decide (a=b):=by
 rw [Bool.eq_iff_iff,beq_iff_eq,decide_eq_true_iff];refine ⟨fun h=>?_,fun h=>by rw [h]⟩;rw [ByteArray.toList_eq,ByteArray.toList_eq] at h;exact ByteArray.ext (Array.toList_inj.1 h)
theorem decide_iff {p:Prop} [Decidable p] {b:Bool} (h:p↔b=true):decide p=b:=by rw [Bool.eq_iff_iff,decide_eq_true_iff]; exact h
theorem box_kept {w w3:World} {B:Nat} {v0 v1:Value} (hS:w.cell? ⟨B,0,none⟩=some v0∧w.cell? ⟨B,1,none⟩=some v1) (h:Below w.heap.size w w3):w3.cell? ⟨B,0,none⟩=some v0∧w3.cell? ⟨B,1,none⟩=some v1 :=
 ⟨((bcell h).1 B 0 (World.block_lt_of_cell? w _ hS.1)).trans hS.1,((bcell h).1 B 1 (World.block_lt_of_cell? w _ hS.1)).trans hS.2⟩
theorem implPrefixRight_any (s:ByteArray) (b:Int) (w:World) (hs:s.size≤1048576) :
  Calls Tryz.prog 88 #[.agg #[.string s,.int .i64 b]] w fun e w'=>e=.returned (.bool (prefixOk s b))∧Below w.heap.size w w':=by
 have hc0:(w.alloc (.cells #[.string s,.int .i64 b] 30)).cell? ⟨w.heap.size,0,none⟩=some (.string s):=by simp
 have hc1:(w.alloc (.cells #[.string s,.int .i64 b] 30)).cell? ⟨w.heap.size,1,none⟩=some (.int .i64 b):=by simp
 have HB:Hid (Below w.heap.size w (w.alloc (.cells #[.string s,.int .i64 b] 30))):=(Below.refl _ _).alloc (Nat.le_refl _) _;by_cases ha:addrOk s=true
 ·have hcall:Hid (∀ W,Calls Tryz.prog 117 #[.string s] W fun e w'=>e=.returned (.bool true)∧w'=W):=fun W=>by rw [← ha]; exact implAddrRight_any s W
  have HA:Hid (addrOk s=true):=ha;clear ha;by_cases h0:0≤b
  ·by_cases h1:b≤8*(s.size:Int)
   ·have HV:Hid (prefixOk s b=zerosN (bt s) b.toNat (8*s.size-b.toNat)):=by unfold Hid prefixOk; simp [HA.out,h0,h1]
    obtain ⟨b,rfl⟩:=Int.eq_ofNat_of_zero_le h0;have hs16:s.size≤16:=by have:=addrOk_size HA.out; omega
    go_enter Tryz.func88,Tryz.ntmps88
    go_wp2_with fail
    go_region_held (fun w'=>w'.cell? ⟨w.heap.size,0,none⟩=some (.string s)∧w'.cell? ⟨w.heap.size,1,none⟩=some (.int .i64 b)) (go_keep) (first | (go_at_call 117; refine (hcall.out _).mono ?_; rintro e w1 ⟨rfl,rfl⟩) | (go_at_call 118; refine (implBits_any s _ hs).mono ?_; rintro e w2 ⟨rfl,rfl⟩) | (go_at_call 119; refine (implFirst_any s b _ hs16 (by omega)).mono ?_; rintro e w3 ⟨rfl,q3⟩; have hk:w3.cell? ⟨w.heap.size,0,none⟩=some (.string s)∧w3.cell? ⟨w.heap.size,1,none⟩=some (.int .i64 b):=box_kept (by assumption) q3))
    have hq:((firstV s b).toList==s.toList)=prefixOk s b:=by
     rw [HV.out,show (b:Int).toNat=b from rfl,toList_beq];exact decide_iff (first_right (by omega))
    go_wp2_with fail
    go_ret;exact ⟨ret_bool hq,HB.out.trans ((below_undrew q3).mono (by simp))⟩
   ·have HV:Hid (prefixOk s b=false):=by unfold Hid prefixOk; simp [h1]
    have d1:decide (b≤8*(s.size:Int))=false:=by simpa using h1
    go_enter Tryz.func88,Tryz.ntmps88
    go_wp2_with fail
    generalize hW:w.alloc (.cells #[.string s,.int .i64 b] 30)=W at *;clear hW h1;first | go_quiet ((first | (go_at_call 117; exact Calls.quiet_of_same (hcall.out _)) | (go_at_call 118; exact Calls.quiet_of_same (implBits_any _ _ hs))))
    go_wp2_with fail
    go_ret;exact ⟨ret_bool HV.out.symm,HB.out.trans ⟨rfl,rfl,rfl,Nat.le_refl _,fun _ _=>rfl⟩⟩
  ·have HV:Hid (prefixOk s b=false):=by unfold Hid prefixOk; simp [h0]
   have d0:decide (0≤b)=false:=by simpa using h0
   clear h0;go_enter Tryz.func88,Tryz.ntmps88
   go_wp2_with fail
   generalize hW:w.alloc (.cells #[.string s,.int .i64 b] 30)=W at *;clear hW;first | go_quiet ((go_at_call 117; exact Calls.quiet_of_same (hcall.out _)))
   go_wp2_with fail
   go_ret;exact ⟨ret_bool HV.out.symm,HB.out.trans ⟨rfl,rfl,rfl,Nat.le_refl _,fun _ _=>rfl⟩⟩
 ·have ha':addrOk s=false:=by simpa using ha
  have HV:Hid (prefixOk s b=false):=by unfold Hid prefixOk; simp [ha']
  have hcall:Hid (∀ W,Calls Tryz.prog 117 #[.string s] W fun e w'=>e=.returned (.bool false)∧w'=W):=fun W=>by rw [← ha']; exact implAddrRight_any s W
  clear ha ha';go_enter Tryz.func88,Tryz.ntmps88
  go_wp2_with fail
  generalize hW:w.alloc (.cells #[.string s,.int .i64 b] 30)=W at *;clear hW;first | go_quiet ((go_at_call 117; exact Calls.quiet_of_same (hcall.out _)))
  go_wp2_with fail
  go_ret;exact ⟨ret_bool HV.out.symm,HB.out.trans ⟨rfl,rfl,rfl,Nat.le_refl _,fun _ _=>rfl⟩⟩
structure BoxR (w:World) (B:Nat) (q:Rt):Prop where
 c0:w.cell? ⟨B,0,none⟩=some (.string q.addr)
 c1:w.cell? ⟨B,1,none⟩=some (.int .i64 q.bits)
 c2:w.cell? ⟨B,2,none⟩=some (.int .i64 q.hop)
theorem BoxR.kept {w W:World} {B:Nat} {q:Rt} (h:BoxR w B q) (hB:Below w.heap.size w W):BoxR W B q:=by
 have hb:=World.block_lt_of_cell? w _ h.c0;exact ⟨((bcell hB).1 B 0 hb).trans h.c0,((bcell hB).1 B 1 hb).trans h.c1,((bcell hB).1 B 2 hb).trans h.c2⟩
theorem BoxR.new (w:World) (q:Rt):BoxR (w.alloc (.cells #[.string q.addr,.int .i64 q.bits,.int .i64 q.hop] 94)) w.heap.size q:=⟨by simp,by simp,by simp⟩
theorem implRoutesRight_any (rs:List Rt) (b off cap:Nat) (w:World) (hcap:rs.length≤cap) (hb:b < w.heap.size) (hin:RtsIn rs) (hr:RtsAt w b off rs) :
  Calls Tryz.prog 38 #[.slice (some ⟨b,off,none⟩) rs.length cap] w fun e w'=>e=.returned (.bool (routesOk rs))∧Below w.heap.size w w':=by
 have HR:Hid (RtsAt w b off rs):=hr;have HI:Hid (RtsIn rs):=hin;clear hr hin;by_cases h100:rs.length≤100
 ·have HV:Hid (routesOk rs=rightN rs rs.length):=by unfold Hid routesOk; rw [decide_eq_true h100]; rfl
  have h100':¬ (100:Int) < (rs.length:Int):=by omega
  go_enter Tryz.func38,Tryz.ntmps38
  go_wp2_with fail
  go_loopw [12] (fun i wr=>∃ k:Nat,k≤rs.length∧i=.int .i64 k∧rightN rs k=true∧Below w.heap.size w wr) (fun i _=>rs.length-(intOf i).toNat)
  case atStart=>exact ⟨0,Nat.zero_le _,rfl,rfl,Below.refl _ _⟩
  case round =>
   obtain ⟨k,hk,rfl,hrk,hbel⟩:=hrel;have HK:Hid (rightN rs k=true):=hrk;have HL:Hid (Below w.heap.size w wr):=hbel;clear hrk hbel;by_cases hlt:k < rs.length
   ·have HA:=HR.out.below hb HL.out;have c0:=HA.c0 k hlt;have c1:=HA.c1 k hlt;have c2:=HA.c2 k hlt;have hI:=HI.out rs[k] (List.getElem_mem hlt);obtain ⟨q,hq⟩ : ∃ q,q=rs[k]:=⟨_,rfl⟩;rw [← hq] at c0 c1 c2 hI;have HQ:Hid (q=rs[k]):=hq;obtain ⟨hI1,hI2,hI3⟩:=hI;have HP:Hid (∀ W,Calls Tryz.prog 88 #[.agg #[.string q.addr,.int .i64 q.bits]] W fun e w'=>e=.returned (.bool (prefixOk q.addr q.bits))∧Below W.heap.size W w'):=fun W=>implPrefixRight_any q.addr q.bits W hI1
    have HST:Hid (rightN rs (k+1)=(routeOk q&&!dupV rs q k)):=by unfold Hid; rw [rightN_step hlt,HK.out,← HQ.out]; rfl
    have HRO:Hid (routeOk q=(prefixOk q.addr q.bits&&decide (1≤q.hop)&&decide (q.hop≤1000))):=rfl;have HFIN:Hid (rightN rs (k+1)=false→routesOk rs=false):=fun h=>by rw [HV.out]; exact rightN_mono h _ (by omega)
    have HBX:Hid (BoxR (wr.alloc (.cells #[.string q.addr,.int .i64 q.bits,.int .i64 q.hop] 94)) wr.heap.size q):=BoxR.new wr q;have HLA:Hid (Below w.heap.size w (wr.alloc (.cells #[.string q.addr,.int .i64 q.bits,.int .i64 q.hop] 94))):=HL.out.alloc HL.out.size _;clear hq HA;go_wp2_with fail
    refine (HP.out _).mono ?_;rintro e w2 ⟨rfl,q2⟩;have HL2:Hid (Below w.heap.size w w2):=HLA.out.trans (q2.mono HLA.out.size);have HA2:Hid (RtsAt w2 b off rs):=HR.out.below hb HL2.out;have HB2:Hid (BoxR w2 wr.heap.size q):=HBX.out.kept q2;have x2:=HB2.out.c2;clear q2 c0 c1 c2 HP HBX HLA;generalize wr.heap.size=B at *;clear HL
    cases hok:prefixOk q.addr q.bits with
    | false =>
     have HX:Hid (routesOk rs=false):=HFIN.out (by rw [HST.out,HRO.out,hok]; rfl);clear hok;go_wp2_with fail
     go_ret;exact ⟨ret_bool HX.out.symm,HL2.out⟩
    | true =>
     by_cases p1:q.hop < 1
     ·have HX:Hid (routesOk rs=false):=HFIN.out (by rw [HST.out,HRO.out,hok,decide_eq_false (show ¬ 1≤q.hop by omega)]; rfl);clear hok;go_wp2_with fail
      go_ret;exact ⟨ret_bool HX.out.symm,HL2.out⟩
     ·by_cases p2:1000 < q.hop
      ·have HX:Hid (routesOk rs=false):=HFIN.out (by rw [HST.out,HRO.out,hok,decide_eq_false (show ¬ q.hop≤1000 by omega),Bool.and_false]; rfl);clear hok;go_wp2_with fail
       go_ret;exact ⟨ret_bool HX.out.symm,HL2.out⟩
      ·have HST2:Hid (rightN rs (k+1)=!dupV rs q k):=by unfold Hid; rw [HST.out,HRO.out,hok,decide_eq_true (show 1≤q.hop by omega),decide_eq_true (show q.hop≤1000 by omega)]; rfl
       have hcd:decide ((k:Int) < (rs.length:Int))=true:=by simp; omega
       have hkc:(k:Int)≤(cap:Int):=by omega
       clear hok HST HRO;go_wp2_with fail
       go_loopw [35] (fun j wi=>∃ m:Nat,m≤k∧j=.int .i64 m∧dupV rs q m=false∧Below w2.heap.size w2 wi) (fun j _=>k-(intOf j).toNat)
       case atStart=>exact ⟨0,Nat.zero_le _,rfl,rfl,Below.refl _ _⟩
       case round =>
        obtain ⟨m,hm,rfl,hdm,hbel⟩:=hrel;have HD:Hid (dupV rs q m=false):=hdm;have HL3:Hid (Below w2.heap.size w2 wr):=hbel;have HW3:Hid (Below w.heap.size w wr):=HL2.out.trans (hbel.mono HL2.out.size);clear hdm hbel;by_cases hmk:m < k
        ·have hml:m < rs.length:=by omega
         have HA3:=HR.out.below hb HW3.out;have HB3:=HB2.out.kept HL3.out;have d0:=HB3.c0;have d1:=HB3.c1;have f0:=HA3.c0 m hml;have f1:=HA3.c1 m hml;have f2:=HA3.c2 m hml;have hBlt:B < wr.heap.size:=World.block_lt_of_cell? wr _ HB3.c0;obtain ⟨p,hp⟩ : ∃ p,p=rs[m]:=⟨_,rfl⟩;rw [← hp] at f0 f1 f2;have heq:=eqp_any p.addr q.addr p.bits q.bits;have HDS:Hid (dupV rs q (m+1)=samePfx p q):=by unfold Hid; rw [dupV_step hml,HD.out,hp]; rfl
         have HSM:Hid (samePfx p q=(decide (p.addr.toList=q.addr.toList)&&decide (p.bits=q.bits))):=rfl;have HE3:Hid (Below w2.heap.size w2 (wr.alloc (.cells #[.string p.addr,.int .i64 p.bits,.int .i64 p.hop] 94))):=HL3.out.alloc HL3.out.size _;have HF3:Hid (Below w.heap.size w (wr.alloc (.cells #[.string p.addr,.int .i64 p.bits,.int .i64 p.hop] 94))):=HW3.out.alloc HW3.out.size _
         cases hs:(decide (p.addr.toList=q.addr.toList)&&decide (p.bits=q.bits)) with
         | true =>
          rw [hs] at heq;have HX:Hid (routesOk rs=false):=HFIN.out (by rw [HST2.out,dupV_mono (by rw [HDS.out,HSM.out]; exact hs) k (by omega)]; rfl);clear hs hp HA3 HB3;go_wp2_with fail
          go_ret;exact ⟨ret_bool HX.out.symm,HF3.out⟩
         | false =>
          rw [hs] at heq;have HX:Hid (dupV rs q (m+1)=false):=by unfold Hid; rw [HDS.out,HSM.out]; exact hs
          clear hs hp HA3 HB3;go_wp2_with fail
          go_roundw
          case rel=>exact ⟨m+1,by omega,by go_num,HX.out,HE3.out⟩
          case measure=>simp [intOf]; omega
        ·have hmk':m=k:=by omega
         subst hmk';have HX:Hid (rightN rs (m+1)=true):=by unfold Hid; rw [HST2.out,HD.out]; rfl
         go_wp2_with fail
         go_roundw
         case rel=>exact ⟨m+1,by omega,by go_num,HX.out,HW3.out⟩
         case measure=>simp [intOf]; omega
   ·have hkl:k=rs.length:=by omega
    subst hkl;go_wp2_with fail
    go_ret;exact ⟨ret_bool (by rw [HV.out,HK.out]),HL.out⟩
 ·have HV:Hid (routesOk rs=false):=by unfold Hid routesOk; rw [decide_eq_false h100]; rfl
  have h100':(100:Int) < (rs.length:Int):=by omega
  go_enter Tryz.func38,Tryz.ntmps38
  go_wp2_with fail
  go_ret;exact ⟨ret_bool HV.out.symm,Below.refl _ _⟩
theorem implNat_any (s:ByteArray) (b:Int) (w:World) (hs:s.size≤1048576) :
  Calls Tryz.prog 39 #[.agg #[.string s,.int .i64 b]] w fun e w'=>e=.returned (.bool (natOk s b))∧Below w.heap.size w w':=by
 have hB:Hid (Below w.heap.size w (w.alloc (.cells #[.string s,.int .i64 b] 30))):=(Below.refl _ _).alloc (Nat.le_refl _) _;by_cases h16:s.size=16
 ·have e16:((s.size:Int) != 16)=false:=by simp; omega
  by_cases hp:prefixOk s b=true
  ·have hcall:Hid (∀ W,Calls Tryz.prog 88 #[.agg #[.string s,.int .i64 b]] W fun e w'=>e=.returned (.bool true)∧Below W.heap.size W w'):=fun W=>by rw [← hp]; exact implPrefixRight_any s b W hs
   have HV:Hid (natOk s b=natBits b):=by unfold Hid natOk; simp [hp,h16]
   clear h16 hp;by_cases hb:b=32∨b=40∨b=48∨b=56∨b=64∨b=96
   ·have HN:Hid (natBits b=true):=by unfold Hid natBits; rcases hb with h | h | h | h | h | h<;>subst h<;>rfl
    rcases hb with h | h | h | h | h | h<;>subst h
    all_goals
     go_enter Tryz.func39,Tryz.ntmps39
     go_wp2_with fail
     refine (hcall.out _).mono ?_;rintro e w1 ⟨rfl,hb1⟩;obtain ⟨hc,hf⟩:=bcell hb1;have HB1:Hid _:=hB.out.trans (hb1.mono (by simp));clear hf hb1;go_wp2
     go_ret;exact ⟨ret_bool (by rw [HV.out,HN.out]),HB1.out⟩
   ·have HN:Hid (natBits b=false):=by
     unfold Hid natBits;have h1:(b==96)=false:=by simp; omega
     rw [h1,Bool.false_or,Bool.eq_false_iff];intro hh;simp at hh;omega
    have e1:(b==32)=false:=by simp; omega
    have e2:(b==40)=false:=by simp; omega
    have e3:(b==48)=false:=by simp; omega
    have e4:(b==56)=false:=by simp; omega
    have e5:(b==64)=false:=by simp; omega
    have e6:(b==96)=false:=by simp; omega
    clear hb;go_enter Tryz.func39,Tryz.ntmps39
    go_wp2_with fail
    refine (hcall.out _).mono ?_;rintro e w1 ⟨rfl,hb1⟩;obtain ⟨hc,hf⟩:=bcell hb1;have HB1:Hid _:=hB.out.trans (hb1.mono (by simp));clear hf hb1;go_wp2
    go_ret;exact ⟨ret_bool (by rw [HV.out,HN.out]),HB1.out⟩
  ·have hp':prefixOk s b=false:=by simpa using hp
   have hcall:Hid (∀ W,Calls Tryz.prog 88 #[.agg #[.string s,.int .i64 b]] W fun e w'=>e=.returned (.bool false)∧Below W.heap.size W w'):=fun W=>by rw [← hp']; exact implPrefixRight_any s b W hs
   have HV:Hid (natOk s b=false):=by unfold Hid natOk; simp [hp']
   clear h16 hp hp';go_enter Tryz.func39,Tryz.ntmps39
   go_wp2_with fail
   refine (hcall.out _).mono ?_;rintro e w1 ⟨rfl,hb1⟩;have HB1:Hid _:=hB.out.trans (hb1.mono (by simp));clear hb1;go_wp2
   go_ret;exact ⟨ret_bool HV.out.symm,HB1.out⟩
 ·have e16:((s.size:Int) != 16)=true:=by simp; omega
  have HV:Hid (natOk s b=false):=by unfold Hid natOk; simp [h16]
  clear h16;go_enter Tryz.func39,Tryz.ntmps39
  go_wp2
  go_ret;exact ⟨ret_bool HV.out.symm,hB.out⟩
structure HoldsP (w:World) (B at1 k:Nat):Prop where
 get:∀ i,i < 4→w.cell? ⟨B,i,none⟩=some (.int .i64 (if i < k then (posE at1 i:Nat) else 0))∧w.frozen? ⟨B,i,none⟩=false
theorem HoldsP.set {w:World} {B at1 k:Nat} (h:HoldsP w B at1 k) (hk:k < 4):HoldsP (w.setCell ⟨B,k,none⟩ (.int .i64 (posE at1 k:Nat))) B at1 (k+1):=by
 refine ⟨fun i hi=>⟨?_,by rw [World.frozen?_setCell]; exact (h.get i hi).2⟩⟩;by_cases e:i=k
 ·subst e; rw [if_pos (by omega)]; exact World.cell?_setCell_same _ _ _ (h.get i hi).1
 ·rw [World.cell?_setCell_other _ _ _ _ (fun e2=>e (by injection e2 with _ h2; exact h2.symm)),(h.get i hi).1];by_cases h2:i < k
  ·rw [if_pos h2,if_pos (by omega)]
  ·rw [if_neg h2,if_neg (by omega)]
theorem Holds.below {w w3:World} {B n:Nat} {f:Nat→Int} (h:Holds w B n f) (hB:B < w.heap.size) (hb:Below w.heap.size w w3):Holds w3 B n f :=
 ⟨fun i hi=>⟨((bcell hb).1 B i hB).trans (h.get i hi).1,((bcell hb).2 B i hB).trans (h.get i hi).2⟩⟩
end Go.Proofs.YthagnjokdnnmpaaGreat
