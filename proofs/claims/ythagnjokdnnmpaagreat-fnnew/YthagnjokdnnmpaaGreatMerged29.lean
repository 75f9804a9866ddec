import Derived.Test.YthagnjokdnnmpaaGreatMerged22
import Derived.Test.YthagnjokdnnmpaaGreatIGwR
import Derived.Test.YthagnjokdnnmpaaGreatICopyGw
import Derived.Test.YthagnjokdnnmpaaGreatMerged9
import Derived.Test.YthagnjokdnnmpaaGreatMerged26
import Derived.Test.YthagnjokdnnmpaaGreatMerged15
set_option linter.unusedVariables false
set_option linter.unusedSimpArgs false
set_option maxRecDepth 100000
set_option maxHeartbeats 8000000
namespace Go.Proofs.YthagnjokdnnmpaaGreat
open Go.RowKit Go.PlainAid
theorem implGwNew_any (ra:Option Addr) (rc:Nat) (rs:List Rt) (pa:Option Addr) (pc:Nat) (p:Pl) (sa:ByteArray) (sb mtu:Int) (w:World) (h1:rs.length≤1048576) (h2:rs.length≤rc) (h3:RtsIn rs) (h4:p.addrs.length≤1048576) (h5:p.addrs.length≤pc) (h6:∀ s∈p.addrs,s.size≤1048576) (h7:sa.size≤1048576) (hr:RtsIs w ra rs) (hp:SlIs strL1 1 w pa p.addrs) :
  Calls Tryz.prog 7 #[.slice ra rs.length rc,plC pa pc p,.agg #[.string sa,.int .i64 sb],.int .i64 mtu] w fun e w'=>GwRet w.heap.size (gwNewV rs p sa sb mtu) e w'∧Below w.heap.size w w':=by
 have HIS:Hid (∀ W,Below w.heap.size w W→GwIs W ⟨ra,rc,pa,pc,none,0,none,0,none,0⟩ (gwOf rs p sa sb mtu)):=fun W hW=>gwOf_is (hr.below hW) (hp.below hW)
 have HSM:Hid (GwSm ⟨ra,rc,pa,pc,none,0,none,0,none,0⟩ (gwOf rs p sa sb mtu)):=gwOf_sm h1 h2 h3 h4 h5 h6 h7;have HGR:Hid (∀ W,Below w.heap.size w W→Calls Tryz.prog 9 #[.agg (gwL ⟨ra,rc,pa,pc,none,0,none,0,none,0⟩ (gwOf rs p sa sb mtu)).toArray] W fun e w'=>e=.returned (.bool (gwOk (gwOf rs p sa sb mtu)))∧Below W.heap.size W w'):=fun W hW=>implGwRight_any ⟨ra,rc,pa,pc,none,0,none,0,none,0⟩ (gwOf rs p sa sb mtu) W HSM.out (HIS.out W hW)
 have HCG:Hid (∀ W,Below w.heap.size w W→Calls Tryz.prog 35 #[.agg (gwL ⟨ra,rc,pa,pc,none,0,none,0,none,0⟩ (gwOf rs p sa sb mtu)).toArray] W fun e w'=>GwRet W.heap.size (gwOf rs p sa sb mtu) e w'∧Below W.heap.size W w'):=fun W hW=>copyGw_any ⟨ra,rc,pa,pc,none,0,none,0,none,0⟩ (gwOf rs p sa sb mtu) W HSM.out (HIS.out W hW)
 have HV:Hid (gwNewV rs p sa sb mtu=if gwOk (gwOf rs p sa sb mtu)=true then (gwOf rs p sa sb mtu) else gwZero):=rfl;generalize gwNewV rs p sa sb mtu=ans at *;generalize gwOk (gwOf rs p sa sb mtu)=ok at *;clear HIS HSM h1 h2 h3 h4 h5 h6 h7 hr hp;unfold plC;have e0:HoldsL (((w.alloc (.cells #[.slice pa p.addrs.length pc,.int .i64 p.low,.int .i64 p.high,.int .i64 p.most,.int .i64 p.filter,.int .i64 p.lv.udp,.int .i64 p.lv.echo,.int .i64 p.lv.opening,.int .i64 p.lv.opn,.int .i64 p.lv.closing] 28)).alloc (.cells #[.string sa,.int .i64 sb] 30)).alloc (.cells #[.slice none 0 0,.slice none 0 0,.int .i64 0,.int .i64 0,.int .i64 0,.int .i64 0,.int .i64 0,.int .i64 0,.int .i64 0,.int .i64 0,.int .i64 0,.string ⟨#[]⟩,.int .i64 0,.string ⟨#[]⟩,.string ⟨#[]⟩,.int .i64 0,.slice none 0 0,.slice none 0 0,.slice none 0 0,.int .i64 0,.int .i64 0,.int .i64 0,.int .i64 0,.int .i64 0] 41)) (w.heap.size) [.slice pa p.addrs.length pc,.int .i64 p.low,.int .i64 p.high,.int .i64 p.most,.int .i64 p.filter,.int .i64 p.lv.udp,.int .i64 p.lv.echo,.int .i64 p.lv.opening,.int .i64 p.lv.opn,.int .i64 p.lv.closing]:=by
  have h:=HoldsL.new w [.slice pa p.addrs.length pc,.int .i64 p.low,.int .i64 p.high,.int .i64 p.most,.int .i64 p.filter,.int .i64 p.lv.udp,.int .i64 p.lv.echo,.int .i64 p.lv.opening,.int .i64 p.lv.opn,.int .i64 p.lv.closing] 28;try simp only [World.size_alloc] at h
  exact ((h.alloc _).alloc _)
 have e1:HoldsL (((w.alloc (.cells #[.slice pa p.addrs.length pc,.int .i64 p.low,.int .i64 p.high,.int .i64 p.most,.int .i64 p.filter,.int .i64 p.lv.udp,.int .i64 p.lv.echo,.int .i64 p.lv.opening,.int .i64 p.lv.opn,.int .i64 p.lv.closing] 28)).alloc (.cells #[.string sa,.int .i64 sb] 30)).alloc (.cells #[.slice none 0 0,.slice none 0 0,.int .i64 0,.int .i64 0,.int .i64 0,.int .i64 0,.int .i64 0,.int .i64 0,.int .i64 0,.int .i64 0,.int .i64 0,.string ⟨#[]⟩,.int .i64 0,.string ⟨#[]⟩,.string ⟨#[]⟩,.int .i64 0,.slice none 0 0,.slice none 0 0,.slice none 0 0,.int .i64 0,.int .i64 0,.int .i64 0,.int .i64 0,.int .i64 0] 41)) (w.heap.size+1) [.string sa,.int .i64 sb]:=by
  have h:=HoldsL.new (w.alloc (.cells #[.slice pa p.addrs.length pc,.int .i64 p.low,.int .i64 p.high,.int .i64 p.most,.int .i64 p.filter,.int .i64 p.lv.udp,.int .i64 p.lv.echo,.int .i64 p.lv.opening,.int .i64 p.lv.opn,.int .i64 p.lv.closing] 28)) [.string sa,.int .i64 sb] 30;try simp only [World.size_alloc] at h
  exact (h.alloc _)
 have e2:HoldsL (((w.alloc (.cells #[.slice pa p.addrs.length pc,.int .i64 p.low,.int .i64 p.high,.int .i64 p.most,.int .i64 p.filter,.int .i64 p.lv.udp,.int .i64 p.lv.echo,.int .i64 p.lv.opening,.int .i64 p.lv.opn,.int .i64 p.lv.closing] 28)).alloc (.cells #[.string sa,.int .i64 sb] 30)).alloc (.cells #[.slice none 0 0,.slice none 0 0,.int .i64 0,.int .i64 0,.int .i64 0,.int .i64 0,.int .i64 0,.int .i64 0,.int .i64 0,.int .i64 0,.int .i64 0,.string ⟨#[]⟩,.int .i64 0,.string ⟨#[]⟩,.string ⟨#[]⟩,.int .i64 0,.slice none 0 0,.slice none 0 0,.slice none 0 0,.int .i64 0,.int .i64 0,.int .i64 0,.int .i64 0,.int .i64 0] 41)) (w.heap.size+1+1) [.slice none 0 0,.slice none 0 0,.int .i64 0,.int .i64 0,.int .i64 0,.int .i64 0,.int .i64 0,.int .i64 0,.int .i64 0,.int .i64 0,.int .i64 0,.string ⟨#[]⟩,.int .i64 0,.string ⟨#[]⟩,.string ⟨#[]⟩,.int .i64 0,.slice none 0 0,.slice none 0 0,.slice none 0 0,.int .i64 0,.int .i64 0,.int .i64 0,.int .i64 0,.int .i64 0]:=by
  have h:=HoldsL.new ((w.alloc (.cells #[.slice pa p.addrs.length pc,.int .i64 p.low,.int .i64 p.high,.int .i64 p.most,.int .i64 p.filter,.int .i64 p.lv.udp,.int .i64 p.lv.echo,.int .i64 p.lv.opening,.int .i64 p.lv.opn,.int .i64 p.lv.closing] 28)).alloc (.cells #[.string sa,.int .i64 sb] 30)) [.slice none 0 0,.slice none 0 0,.int .i64 0,.int .i64 0,.int .i64 0,.int .i64 0,.int .i64 0,.int .i64 0,.int .i64 0,.int .i64 0,.int .i64 0,.string ⟨#[]⟩,.int .i64 0,.string ⟨#[]⟩,.string ⟨#[]⟩,.int .i64 0,.slice none 0 0,.slice none 0 0,.slice none 0 0,.int .i64 0,.int .i64 0,.int .i64 0,.int .i64 0,.int .i64 0] 41;try simp only [World.size_alloc] at h
  exact h
 have HS0:Hid (Bxs w [(w.heap.size,[.slice pa p.addrs.length pc,.int .i64 p.low,.int .i64 p.high,.int .i64 p.most,.int .i64 p.filter,.int .i64 p.lv.udp,.int .i64 p.lv.echo,.int .i64 p.lv.opening,.int .i64 p.lv.opn,.int .i64 p.lv.closing]),(w.heap.size+1,[.string sa,.int .i64 sb]),(w.heap.size+1+1,[.slice none 0 0,.slice none 0 0,.int .i64 0,.int .i64 0,.int .i64 0,.int .i64 0,.int .i64 0,.int .i64 0,.int .i64 0,.int .i64 0,.int .i64 0,.string ⟨#[]⟩,.int .i64 0,.string ⟨#[]⟩,.string ⟨#[]⟩,.int .i64 0,.slice none 0 0,.slice none 0 0,.slice none 0 0,.int .i64 0,.int .i64 0,.int .i64 0,.int .i64 0,.int .i64 0])] (((w.alloc (.cells #[.slice pa p.addrs.length pc,.int .i64 p.low,.int .i64 p.high,.int .i64 p.most,.int .i64 p.filter,.int .i64 p.lv.udp,.int .i64 p.lv.echo,.int .i64 p.lv.opening,.int .i64 p.lv.opn,.int .i64 p.lv.closing] 28)).alloc (.cells #[.string sa,.int .i64 sb] 30)).alloc (.cells #[.slice none 0 0,.slice none 0 0,.int .i64 0,.int .i64 0,.int .i64 0,.int .i64 0,.int .i64 0,.int .i64 0,.int .i64 0,.int .i64 0,.int .i64 0,.string ⟨#[]⟩,.int .i64 0,.string ⟨#[]⟩,.string ⟨#[]⟩,.int .i64 0,.slice none 0 0,.slice none 0 0,.slice none 0 0,.int .i64 0,.int .i64 0,.int .i64 0,.int .i64 0,.int .i64 0] 41))):=by
  refine ⟨fun e he=>?_,((((Below.refl _ _).alloc (by (try simp only [World.size_alloc]); omega) _).alloc (by (try simp only [World.size_alloc]); omega) _).alloc (by (try simp only [World.size_alloc]); omega) _),fun e he=>?_⟩
  ·simp only [List.mem_cons,List.not_mem_nil,or_false] at he;rcases he with rfl | rfl | rfl
   ·exact e0
   ·exact e1
   ·exact e2
  ·simp only [List.mem_cons,List.not_mem_nil,or_false] at he;rcases he with rfl | rfl | rfl<;>simp
 clear e0 e1 e2;have hRw:w.heap.size≤w.heap.size+1+1:=by omega
 go_enter Tryz.func7,Tryz.ntmps7
 go_upto_region 1 with fail
 generalize (((w.alloc (.cells #[.slice pa p.addrs.length pc,.int .i64 p.low,.int .i64 p.high,.int .i64 p.most,.int .i64 p.filter,.int .i64 p.lv.udp,.int .i64 p.lv.echo,.int .i64 p.lv.opening,.int .i64 p.lv.opn,.int .i64 p.lv.closing] 28)).alloc (.cells #[.string sa,.int .i64 sb] 30)).alloc (.cells #[.slice none 0 0,.slice none 0 0,.int .i64 0,.int .i64 0,.int .i64 0,.int .i64 0,.int .i64 0,.int .i64 0,.int .i64 0,.int .i64 0,.int .i64 0,.string ⟨#[]⟩,.int .i64 0,.string ⟨#[]⟩,.string ⟨#[]⟩,.int .i64 0,.slice none 0 0,.slice none 0 0,.slice none 0 0,.int .i64 0,.int .i64 0,.int .i64 0,.int .i64 0,.int .i64 0] 41))=W0 at *;have HHk:=HS0.out.at (.head _);have k0:=HHk.cell (j:=0) rfl;have k1:=HHk.cell (j:=1) rfl;have k2:=HHk.cell (j:=2) rfl;have k3:=HHk.cell (j:=3) rfl;have k4:=HHk.cell (j:=4) rfl;have k5:=HHk.cell (j:=5) rfl;have k6:=HHk.cell (j:=6) rfl;have k7:=HHk.cell (j:=7) rfl;have k8:=HHk.cell (j:=8) rfl;have k9:=HHk.cell (j:=9) rfl;clear HHk;have HHl:=HS0.out.at (.tail _ (.head _));have l0:=HHl.cell (j:=0) rfl;have l1:=HHl.cell (j:=1) rfl;clear HHl;have hz:HoldsL (W0.alloc (.cells #[.slice none 0 0,.slice none 0 0,.int .i64 0,.int .i64 0,.int .i64 0,.int .i64 0,.int .i64 0,.int .i64 0,.int .i64 0,.int .i64 0,.int .i64 0,.string ⟨#[]⟩,.int .i64 0,.string ⟨#[]⟩,.string ⟨#[]⟩,.int .i64 0,.slice none 0 0,.slice none 0 0,.slice none 0 0,.int .i64 0,.int .i64 0,.int .i64 0,.int .i64 0,.int .i64 0] 41)) W0.heap.size gwZ:=HoldsL.new W0 [.slice none 0 0,.slice none 0 0,.int .i64 0,.int .i64 0,.int .i64 0,.int .i64 0,.int .i64 0,.int .i64 0,.int .i64 0,.int .i64 0,.int .i64 0,.string ⟨#[]⟩,.int .i64 0,.string ⟨#[]⟩,.string ⟨#[]⟩,.int .i64 0,.slice none 0 0,.slice none 0 0,.slice none 0 0,.int .i64 0,.int .i64 0,.int .i64 0,.int .i64 0,.int .i64 0] 41;have HTZ:Hid ((W0.alloc (.cells #[.slice none 0 0,.slice none 0 0,.int .i64 0,.int .i64 0,.int .i64 0,.int .i64 0,.int .i64 0,.int .i64 0,.int .i64 0,.int .i64 0,.int .i64 0,.string ⟨#[]⟩,.int .i64 0,.string ⟨#[]⟩,.string ⟨#[]⟩,.int .i64 0,.slice none 0 0,.slice none 0 0,.slice none 0 0,.int .i64 0,.int .i64 0,.int .i64 0,.int .i64 0,.int .i64 0] 41)).there W0.heap.size 0 (gwL ⟨ra,rc,pa,pc,none,0,none,0,none,0⟩ (gwOf rs p sa sb mtu)).toArray.size):=gwL_there hz rfl _ _;have HN:Hid (HoldsL ((W0.alloc (.cells #[.slice none 0 0,.slice none 0 0,.int .i64 0,.int .i64 0,.int .i64 0,.int .i64 0,.int .i64 0,.int .i64 0,.int .i64 0,.int .i64 0,.int .i64 0,.string ⟨#[]⟩,.int .i64 0,.string ⟨#[]⟩,.string ⟨#[]⟩,.int .i64 0,.slice none 0 0,.slice none 0 0,.slice none 0 0,.int .i64 0,.int .i64 0,.int .i64 0,.int .i64 0,.int .i64 0] 41)).setCells W0.heap.size 0 (gwL ⟨ra,rc,pa,pc,none,0,none,0,none,0⟩ (gwOf rs p sa sb mtu)).toArray.toList) W0.heap.size (gwL ⟨ra,rc,pa,pc,none,0,none,0,none,0⟩ (gwOf rs p sa sb mtu))):=hz.midG rfl;have bn:Below W0.heap.size W0 ((W0.alloc (.cells #[.slice none 0 0,.slice none 0 0,.int .i64 0,.int .i64 0,.int .i64 0,.int .i64 0,.int .i64 0,.int .i64 0,.int .i64 0,.int .i64 0,.int .i64 0,.string ⟨#[]⟩,.int .i64 0,.string ⟨#[]⟩,.string ⟨#[]⟩,.int .i64 0,.slice none 0 0,.slice none 0 0,.slice none 0 0,.int .i64 0,.int .i64 0,.int .i64 0,.int .i64 0,.int .i64 0] 41)).setCells W0.heap.size 0 (gwL ⟨ra,rc,pa,pc,none,0,none,0,none,0⟩ (gwOf rs p sa sb mtu)).toArray.toList):=Below.midG ((Below.refl _ _).alloc (Nat.le_refl _) _) (Nat.le_refl _) _;have S1:Hid _:=HS0.out.kept bn;have hNs:w.heap.size+1+1 < W0.heap.size:=(HS0.out.k _ (.tail _ (.tail _ (.head _)))).lt (by simp);clear bn hz HS0;go_upto_region 2 with (refine wpList_store_mid (by rfl) 41 (.tmp 9) (.tmp 15) (by rfl) W0.heap.size 0 (gwL ⟨ra,rc,pa,pc,none,0,none,0,none,0⟩ (gwOf rs p sa sb mtu)).toArray (by rfl) (by rfl) HTZ.out gw_info (gwL_one _ _) ?_)
 generalize ((W0.alloc (.cells #[.slice none 0 0,.slice none 0 0,.int .i64 0,.int .i64 0,.int .i64 0,.int .i64 0,.int .i64 0,.int .i64 0,.int .i64 0,.int .i64 0,.int .i64 0,.string ⟨#[]⟩,.int .i64 0,.string ⟨#[]⟩,.string ⟨#[]⟩,.int .i64 0,.slice none 0 0,.slice none 0 0,.slice none 0 0,.int .i64 0,.int .i64 0,.int .i64 0,.int .i64 0,.int .i64 0] 41)).setCells W0.heap.size 0 (gwL ⟨ra,rc,pa,pc,none,0,none,0,none,0⟩ (gwOf rs p sa sb mtu)).toArray.toList)=W1 at *;clear HTZ k0 k1 k2 k3 k4 k5 k6 k7 k8 k9 l0 l1;generalize W0.heap.size=N at *;go_wp2_with (refine wpList_load_mid (by rfl) 41 (.tmp 9) (by rfl) N 0 (by rfl) (gwL ⟨ra,rc,pa,pc,none,0,none,0,none,0⟩ (gwOf rs p sa sb mtu)) _ HN.out.at0 Tryz.underlying41 rfl gw_info ?_)
 refine (HGR.out W1 S1.out.b).mono ?_;rintro e W2 ⟨rfl,qq⟩;have S2:Hid _:=S1.out.kept qq;have HN2:Hid _:=HN.out.kept (by rw [gwL_len]; omega) qq;clear qq S1 HN HGR
 cases ok with
 | false =>
  have hrb:HoldsL W2 (w.heap.size+1+1) gwZ:=S2.out.k _ (.tail _ (.tail _ (.head _)));have HTH:Hid (W2.there (w.heap.size+1+1) 0 (gwL gaZ gwZero).toArray.size):=gwL_there hrb rfl _ _;have HRR:Hid (HoldsL (W2.setCells (w.heap.size+1+1) 0 (gwL gaZ gwZero).toArray.toList) (w.heap.size+1+1) (gwL gaZ gwZero)):=hrb.midG rfl;have RB:Hid (Below w.heap.size w (W2.setCells (w.heap.size+1+1) 0 (gwL gaZ gwZero).toArray.toList)):=Below.midG S2.out.b hRw _;have HX:Hid (ans=gwZero):=by unfold Hid; rw [HV.out]; simp
  clear hrb;go_wp2_with (refine wpList_store_mid (by rfl) 41 (.tmp 8) (.tmp 19) (by rfl) (w.heap.size+1+1) 0 (gwL gaZ gwZero).toArray (by rfl) (by rfl) HTH.out gw_info (gwL_one _ _) ?_)
  exact bodyPost_ret (results_mid Tryz.results7 _ _ (w.heap.size+1+1) (gwL gaZ gwZero) _ rfl HRR.out Tryz.underlying41 rfl gw_info) rfl (And.intro (by rw [HX.out]; exact ⟨gaZ,rfl,gwZero_own _ _⟩) RB.out)
 | true =>
  have HX:Hid (ans=(gwOf rs p sa sb mtu)):=by unfold Hid; rw [HV.out]; simp
  go_wp2_with (refine wpList_load_mid (by rfl) 41 (.tmp 9) (by rfl) N 0 (by rfl) (gwL ⟨ra,rc,pa,pc,none,0,none,0,none,0⟩ (gwOf rs p sa sb mtu)) _ HN2.out.at0 Tryz.underlying41 rfl gw_info ?_)
  refine (HCG.out W2 S2.out.b).mono ?_;rintro e W3 ⟨⟨A3,rfl,ho⟩,qq⟩;have S3:Hid _:=S2.out.kept qq;have hsz:w.heap.size+1+1 < W2.heap.size:=(S2.out.k _ (.tail _ (.tail _ (.head _)))).lt (by simp);have hs3:w.heap.size≤W2.heap.size:=S2.out.b.size;clear qq S2 HN2;have hrb:HoldsL W3 (w.heap.size+1+1) gwZ:=S3.out.k _ (.tail _ (.tail _ (.head _)));have HTH:Hid (W3.there (w.heap.size+1+1) 0 (gwL A3 (gwOf rs p sa sb mtu)).toArray.size):=gwL_there hrb rfl _ _;have HRR:Hid (HoldsL (W3.setCells (w.heap.size+1+1) 0 (gwL A3 (gwOf rs p sa sb mtu)).toArray.toList) (w.heap.size+1+1) (gwL A3 (gwOf rs p sa sb mtu))):=hrb.midG rfl;have RB:Hid (Below w.heap.size w (W3.setCells (w.heap.size+1+1) 0 (gwL A3 (gwOf rs p sa sb mtu)).toArray.toList)):=Below.midG S3.out.b hRw _;have HOO:Hid (GwO w.heap.size (W3.setCells (w.heap.size+1+1) 0 (gwL A3 (gwOf rs p sa sb mtu)).toArray.toList) A3 (gwOf rs p sa sb mtu)):=by
   obtain ⟨a,b,c,d,f,g,h⟩:=ho;exact ⟨a,b,c,d,f,g,(h.outOf (outOf_mid _) (by omega)).down hs3⟩
  clear hrb ho;unfold gwC;go_wp2_with (refine wpList_store_mid (by rfl) 41 (.tmp 8) (.tmp 21) (by rfl) (w.heap.size+1+1) 0 (gwL A3 (gwOf rs p sa sb mtu)).toArray (by rfl) (by rfl) HTH.out gw_info (gwL_one _ _) ?_)
  exact bodyPost_ret (results_mid Tryz.results7 _ _ (w.heap.size+1+1) (gwL A3 (gwOf rs p sa sb mtu)) _ rfl HRR.out Tryz.underlying41 rfl gw_info) rfl (And.intro (by rw [HX.out]; exact ⟨A3,rfl,HOO.out⟩) RB.out)
theorem specBkTime_any (n:Int) (w:World) :
  Calls Tryz.prog 86 #[.int .i64 n] w fun e w'=>e=.returned (.bool (bkTime n))∧w'=w:=by
 by_cases h1:0≤n
 ·by_cases h2:n≤1000000000
  ·have HV:Hid (bkTime n=true):=by unfold Hid bkTime isIn; simp [h1,h2]
   go_enter Tryz.func86,Tryz.ntmps86
   go_wp2_with fail
   go_ret;exact ⟨ret_bool (by rw [HV.out]),rfl⟩
  ·have HV:Hid (bkTime n=false):=by unfold Hid bkTime isIn; simp [h2]
   go_enter Tryz.func86,Tryz.ntmps86
   go_wp2_with fail
   go_ret;exact ⟨ret_bool (by rw [HV.out]),rfl⟩
 ·have HV:Hid (bkTime n=false):=by unfold Hid bkTime isIn; simp [h1]
  have h1':n < 0:=by omega
  go_enter Tryz.func86,Tryz.ntmps86
  go_wp2_with fail
  go_ret;exact ⟨ret_bool (by rw [HV.out]),rfl⟩
theorem specBucketRight_any (b:Bk) (w:World) :
  Calls Tryz.prog 85 #[buC b] w fun e w'=>e=.returned (.bool (bucketOk b))∧Below w.heap.size w w':=by
 have HC0:Hid (∀ W,Calls Tryz.prog 66 #[.int .i64 b.most,.int .i64 1,.int .i64 100] W fun e w'=>e=.returned (.bool (isIn b.most 1 100))∧w'=W):=fun W=>specIs_any _ _ _ W
 have HC1:Hid (∀ W,Calls Tryz.prog 66 #[.int .i64 b.left,.int .i64 0,.int .i64 b.most] W fun e w'=>e=.returned (.bool (isIn b.left 0 b.most))∧w'=W):=fun W=>specIs_any _ _ _ W
 have HC2:Hid (∀ W,Calls Tryz.prog 66 #[.int .i64 b.each,.int .i64 1,.int .i64 1000] W fun e w'=>e=.returned (.bool (isIn b.each 1 1000))∧w'=W):=fun W=>specIs_any _ _ _ W
 have HC3:Hid (∀ W,Calls Tryz.prog 86 #[.int .i64 b.since] W fun e w'=>e=.returned (.bool (bkTime b.since))∧w'=W):=fun W=>specBkTime_any _ W
 have HV:Hid (bucketOk b=(isIn b.most 1 100&&isIn b.left 0 b.most&&isIn b.each 1 1000&&bkTime b.since)):=rfl;generalize bucketOk b=ans at *;generalize isIn b.most 1 100=b0 at *;generalize isIn b.left 0 b.most=b1 at *;generalize isIn b.each 1 1000=b2 at *;generalize bkTime b.since=b3 at *;have HZ:Hid (Below w.heap.size w (w.alloc (.cells #[.int .i64 b.left,.int .i64 b.most,.int .i64 b.each,.int .i64 b.since] 39))):=(Below.refl _ _).alloc (Nat.le_refl _) _;unfold buC;go_enter Tryz.func85,Tryz.ntmps85
 go_wp2_with fail
 cases b0 with
 | false =>
  refine (HC0.out _).mono ?_;rintro e w0 ⟨rfl,rfl⟩;go_wp2_with fail
  go_ret;exact ⟨ret_bool (by rw [HV.out]; rfl),HZ.out⟩
 | true =>
  refine (HC0.out _).mono ?_;rintro e w0 ⟨rfl,rfl⟩;go_wp2_with fail
  cases b1 with
  | false =>
   refine (HC1.out _).mono ?_;rintro e w1 ⟨rfl,rfl⟩;go_wp2_with fail
   go_ret;exact ⟨ret_bool (by rw [HV.out]; rfl),HZ.out⟩
  | true =>
   refine (HC1.out _).mono ?_;rintro e w1 ⟨rfl,rfl⟩;go_wp2_with fail
   cases b2 with
   | false =>
    refine (HC2.out _).mono ?_;rintro e w2 ⟨rfl,rfl⟩;go_wp2_with fail
    go_ret;exact ⟨ret_bool (by rw [HV.out]; rfl),HZ.out⟩
   | true =>
    refine (HC2.out _).mono ?_;rintro e w2 ⟨rfl,rfl⟩;go_wp2_with fail
    cases b3 with
    | false =>
     refine (HC3.out _).mono ?_;rintro e w3 ⟨rfl,rfl⟩;go_wp2_with fail
     go_ret;exact ⟨ret_bool (by rw [HV.out]; rfl),HZ.out⟩
    | true =>
     refine (HC3.out _).mono ?_;rintro e w3 ⟨rfl,rfl⟩;go_wp2_with fail
     go_ret;exact ⟨ret_bool (by rw [HV.out]; rfl),HZ.out⟩
end Go.Proofs.YthagnjokdnnmpaaGreat
