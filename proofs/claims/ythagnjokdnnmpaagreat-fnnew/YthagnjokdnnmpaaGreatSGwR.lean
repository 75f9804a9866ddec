import Derived.Test.YthagnjokdnnmpaaGreatMerged22
import Derived.Test.YthagnjokdnnmpaaGreatMerged5
import Derived.Test.YthagnjokdnnmpaaGreatMerged3
import Derived.Test.YthagnjokdnnmpaaGreatSBibR
import Derived.Test.YthagnjokdnnmpaaGreatMerged23
import Derived.Test.YthagnjokdnnmpaaGreatMerged29
set_option linter.unusedVariables false
set_option linter.unusedSimpArgs false
set_option maxRecDepth 100000
set_option maxHeartbeats 8000000
namespace Go.Proofs.YthagnjokdnnmpaaGreat
open Go.RowKit Go.PlainAid
theorem specRoutesRight_nil (a:Option Addr) (cap:Nat) (w:World) :
  Calls Tryz.prog 81 #[.slice a 0 cap] w fun e w'=>e=.returned (.bool true)∧Below w.heap.size w w':=by
 go_enter Tryz.func81,Tryz.ntmps81
 go_wp2_with fail
 go_loopw [3] (fun i wr=>i=.int .i64 0∧wr=w) (fun _ _=>0)
 case atStart=>exact ⟨rfl,rfl⟩
 case round =>
  obtain ⟨rfl,rfl⟩:=hrel;go_wp2_with fail
  go_ret;exact ⟨rfl,Below.refl _ _⟩
theorem specRoutesRight_is (rs:List Rt) (a:Option Addr) (cap:Nat) (w:World) (hcap:rs.length≤cap) (hin:RtsIn rs) (hr:RtsIs w a rs) :
  Calls Tryz.prog 81 #[.slice a rs.length cap] w fun e w'=>e=.returned (.bool (routesOk rs))∧Below w.heap.size w w':=by
 rcases hr with rfl | ⟨b,off,rfl,hb,hr⟩
 ·exact specRoutesRight_nil a cap w
 ·exact specRoutesRight_any rs b off cap w hb hin hr
theorem specGwRight_any (A:Ga) (g:Gw) (w:World) (hs:GwSm A g) (hg:GwIs w A g) :
  Calls Tryz.prog 36 #[gwC A g] w fun e w'=>e=.returned (.bool (gwOk g))∧Below w.heap.size w w':=by
 have C0:Hid (∀ W,GwIs W A g→Calls Tryz.prog 81 #[.slice A.ra g.routes.length A.rc] W fun e w'=>e=.returned (.bool (routesOk g.routes))∧Below W.heap.size W w'):=fun W h=>specRoutesRight_is _ _ _ W hs.rc hs.rt h.rt
 have C1:Hid (∀ W,Calls Tryz.prog 82 #[.agg #[.string g.sixA,.int .i64 g.sixB]] W fun e w'=>e=.returned (.bool (natOk g.sixA g.sixB))∧Below W.heap.size W w'):=fun W=>specNat_any _ _ W hs.sx
 have C2:Hid (∀ W,Calls Tryz.prog 66 #[.int .i64 g.mtu,.int .i64 1280,.int .i64 1500] W fun e w'=>e=.returned (.bool (isIn g.mtu 1280 1500))∧w'=W):=fun W=>specIs_any _ _ _ W
 have C3:Hid (∀ W,GwIs W A g→Calls Tryz.prog 83 #[plC A.pa A.pc g.pool,bbC A.ba A.bo A.ca A.cb g.bib] W fun e w'=>e=.returned (.bool (bibOk g.pool g.bib))∧Below W.heap.size W w'):=fun W h=>specBib_any g.pool g.bib A.pa A.pc A.ba A.bo A.ca A.cb W hs.pl hs.pc hs.ps hs.b1 hs.b2 h.pl h.bb
 have C4:Hid (∀ W,GwIs W A g→Calls Tryz.prog 84 #[.slice A.qa g.pcs.length A.qc] W fun e w'=>e=.returned (.bool (piecesOk g.pcs))∧Below W.heap.size W w'):=fun W h=>specPiecesRight_any _ _ _ W hs.pi h.pc
 have C5:Hid (∀ W,Calls Tryz.prog 85 #[buC g.bk] W fun e w'=>e=.returned (.bool (bucketOk g.bk))∧Below W.heap.size W w'):=fun W=>specBucketRight_any _ W
 have C6:Hid (∀ W,Calls Tryz.prog 86 #[.int .i64 g.now] W fun e w'=>e=.returned (.bool (isTime g.now))∧w'=W):=fun W=>specBkTime_any _ W
 have HV:Hid (gwOk g=(routesOk g.routes&&natOk g.sixA g.sixB&&decide (g.four1.size=4)&&decide (g.six1.size=16)&&isIn g.mtu 1280 1500&&bibOk g.pool g.bib&&piecesOk g.pcs&&bucketOk g.bk&&isTime g.now&&decide (g.bk.since≤g.now))):=rfl;have HMT:Hid (isIn g.mtu 1280 1500=(decide (1280≤g.mtu)&&decide (g.mtu≤1500))):=rfl;have HG0:Hid (GwIs (w.alloc (.cells #[.slice A.ra g.routes.length A.rc,.slice A.pa g.pool.addrs.length A.pc,.int .i64 g.pool.low,.int .i64 g.pool.high,.int .i64 g.pool.most,.int .i64 g.pool.filter,.int .i64 g.pool.lv.udp,.int .i64 g.pool.lv.echo,.int .i64 g.pool.lv.opening,.int .i64 g.pool.lv.opn,.int .i64 g.pool.lv.closing,.string g.sixA,.int .i64 g.sixB,.string g.four1,.string g.six1,.int .i64 g.mtu,.slice A.ba g.bib.binds.length A.ca,.slice A.bo g.bib.sess.length A.cb,.slice A.qa g.pcs.length A.qc,.int .i64 g.bk.left,.int .i64 g.bk.most,.int .i64 g.bk.each,.int .i64 g.bk.since,.int .i64 g.now] 41)) A g):=hg.below ((Below.refl _ _).alloc (Nat.le_refl _) _);have S0:Hid (Bxs w [(w.heap.size,[.slice A.ra g.routes.length A.rc,.slice A.pa g.pool.addrs.length A.pc,.int .i64 g.pool.low,.int .i64 g.pool.high,.int .i64 g.pool.most,.int .i64 g.pool.filter,.int .i64 g.pool.lv.udp,.int .i64 g.pool.lv.echo,.int .i64 g.pool.lv.opening,.int .i64 g.pool.lv.opn,.int .i64 g.pool.lv.closing,.string g.sixA,.int .i64 g.sixB,.string g.four1,.string g.six1,.int .i64 g.mtu,.slice A.ba g.bib.binds.length A.ca,.slice A.bo g.bib.sess.length A.cb,.slice A.qa g.pcs.length A.qc,.int .i64 g.bk.left,.int .i64 g.bk.most,.int .i64 g.bk.each,.int .i64 g.bk.since,.int .i64 g.now])] (w.alloc (.cells #[.slice A.ra g.routes.length A.rc,.slice A.pa g.pool.addrs.length A.pc,.int .i64 g.pool.low,.int .i64 g.pool.high,.int .i64 g.pool.most,.int .i64 g.pool.filter,.int .i64 g.pool.lv.udp,.int .i64 g.pool.lv.echo,.int .i64 g.pool.lv.opening,.int .i64 g.pool.lv.opn,.int .i64 g.pool.lv.closing,.string g.sixA,.int .i64 g.sixB,.string g.four1,.string g.six1,.int .i64 g.mtu,.slice A.ba g.bib.binds.length A.ca,.slice A.bo g.bib.sess.length A.cb,.slice A.qa g.pcs.length A.qc,.int .i64 g.bk.left,.int .i64 g.bk.most,.int .i64 g.bk.each,.int .i64 g.bk.since,.int .i64 g.now] 41))):=(⟨fun e he=>(by cases he),Below.refl _ _,fun e he=>(by cases he)⟩ : Bxs w [] w).push [.slice A.ra g.routes.length A.rc,.slice A.pa g.pool.addrs.length A.pc,.int .i64 g.pool.low,.int .i64 g.pool.high,.int .i64 g.pool.most,.int .i64 g.pool.filter,.int .i64 g.pool.lv.udp,.int .i64 g.pool.lv.echo,.int .i64 g.pool.lv.opening,.int .i64 g.pool.lv.opn,.int .i64 g.pool.lv.closing,.string g.sixA,.int .i64 g.sixB,.string g.four1,.string g.six1,.int .i64 g.mtu,.slice A.ba g.bib.binds.length A.ca,.slice A.bo g.bib.sess.length A.cb,.slice A.qa g.pcs.length A.qc,.int .i64 g.bk.left,.int .i64 g.bk.most,.int .i64 g.bk.each,.int .i64 g.bk.since,.int .i64 g.now] (by simp) 41;have f1:g.four1.size≤1048576:=hs.f1;have s1:g.six1.size≤1048576:=hs.s1;clear hs hg;have hun:undef=Value.tuple #[]:=rfl;generalize gwOk g=b0 at *;generalize routesOk g.routes=b1 at *;generalize natOk g.sixA g.sixB=b2 at *;generalize isIn g.mtu 1280 1500=b3 at *;generalize bibOk g.pool g.bib=b4 at *;generalize piecesOk g.pcs=b5 at *;generalize bucketOk g.bk=b6 at *;generalize isTime g.now=b7 at *;unfold gwC gwL plC bbC buC at *;go_enter Tryz.func36,Tryz.ntmps36
 go_upto_region 1 with fail
 generalize w.alloc (.cells #[.slice A.ra g.routes.length A.rc,.slice A.pa g.pool.addrs.length A.pc,.int .i64 g.pool.low,.int .i64 g.pool.high,.int .i64 g.pool.most,.int .i64 g.pool.filter,.int .i64 g.pool.lv.udp,.int .i64 g.pool.lv.echo,.int .i64 g.pool.lv.opening,.int .i64 g.pool.lv.opn,.int .i64 g.pool.lv.closing,.string g.sixA,.int .i64 g.sixB,.string g.four1,.string g.six1,.int .i64 g.mtu,.slice A.ba g.bib.binds.length A.ca,.slice A.bo g.bib.sess.length A.cb,.slice A.qa g.pcs.length A.qc,.int .i64 g.bk.left,.int .i64 g.bk.most,.int .i64 g.bk.each,.int .i64 g.bk.since,.int .i64 g.now] 41)=W0 at *;have HHq:=S0.out.at (.head _);obtain ⟨k0,k1,k2,k3,k4,k5,k6,k7,k8,k9,k10,k11,k12,k13,k14,k15,k16,k17,k18,k19,k20,k21,k22,k23⟩ : W0.cell? ⟨w.heap.size,0,none⟩=some (.slice A.ra g.routes.length A.rc)∧W0.cell? ⟨w.heap.size,1,none⟩=some (.slice A.pa g.pool.addrs.length A.pc)∧W0.cell? ⟨w.heap.size,2,none⟩=some (.int .i64 g.pool.low)∧W0.cell? ⟨w.heap.size,3,none⟩=some (.int .i64 g.pool.high)∧W0.cell? ⟨w.heap.size,4,none⟩=some (.int .i64 g.pool.most)∧W0.cell? ⟨w.heap.size,5,none⟩=some (.int .i64 g.pool.filter)∧W0.cell? ⟨w.heap.size,6,none⟩=some (.int .i64 g.pool.lv.udp)∧W0.cell? ⟨w.heap.size,7,none⟩=some (.int .i64 g.pool.lv.echo)∧W0.cell? ⟨w.heap.size,8,none⟩=some (.int .i64 g.pool.lv.opening)∧W0.cell? ⟨w.heap.size,9,none⟩=some (.int .i64 g.pool.lv.opn)∧W0.cell? ⟨w.heap.size,10,none⟩=some (.int .i64 g.pool.lv.closing)∧W0.cell? ⟨w.heap.size,11,none⟩=some (.string g.sixA)∧W0.cell? ⟨w.heap.size,12,none⟩=some (.int .i64 g.sixB)∧W0.cell? ⟨w.heap.size,13,none⟩=some (.string g.four1)∧W0.cell? ⟨w.heap.size,14,none⟩=some (.string g.six1)∧W0.cell? ⟨w.heap.size,15,none⟩=some (.int .i64 g.mtu)∧W0.cell? ⟨w.heap.size,16,none⟩=some (.slice A.ba g.bib.binds.length A.ca)∧W0.cell? ⟨w.heap.size,17,none⟩=some (.slice A.bo g.bib.sess.length A.cb)∧W0.cell? ⟨w.heap.size,18,none⟩=some (.slice A.qa g.pcs.length A.qc)∧W0.cell? ⟨w.heap.size,19,none⟩=some (.int .i64 g.bk.left)∧W0.cell? ⟨w.heap.size,20,none⟩=some (.int .i64 g.bk.most)∧W0.cell? ⟨w.heap.size,21,none⟩=some (.int .i64 g.bk.each)∧W0.cell? ⟨w.heap.size,22,none⟩=some (.int .i64 g.bk.since)∧W0.cell? ⟨w.heap.size,23,none⟩=some (.int .i64 g.now):=⟨HHq.cell rfl,HHq.cell rfl,HHq.cell rfl,HHq.cell rfl,HHq.cell rfl,HHq.cell rfl,HHq.cell rfl,HHq.cell rfl,HHq.cell rfl,HHq.cell rfl,HHq.cell rfl,HHq.cell rfl,HHq.cell rfl,HHq.cell rfl,HHq.cell rfl,HHq.cell rfl,HHq.cell rfl,HHq.cell rfl,HHq.cell rfl,HHq.cell rfl,HHq.cell rfl,HHq.cell rfl,HHq.cell rfl,HHq.cell rfl⟩;clear HHq;go_wp2_with fail
 refine (C0.out W0 HG0.out).mono ?_;rintro e w1 ⟨rfl,qq⟩;have S1:Hid _:=S0.out.kept qq;have HG1:Hid (GwIs w1 A g):=HG0.out.below qq;clear qq S0 HG0 k0 k1 k2 k3 k4 k5 k6 k7 k8 k9 k10 k11 k12 k13 k14 k15 k16 k17 k18 k19 k20 k21 k22 k23;have HHq:=S1.out.at (.head _);obtain ⟨k0,k1,k2,k3,k4,k5,k6,k7,k8,k9,k10,k11,k12,k13,k14,k15,k16,k17,k18,k19,k20,k21,k22,k23⟩ : w1.cell? ⟨w.heap.size,0,none⟩=some (.slice A.ra g.routes.length A.rc)∧w1.cell? ⟨w.heap.size,1,none⟩=some (.slice A.pa g.pool.addrs.length A.pc)∧w1.cell? ⟨w.heap.size,2,none⟩=some (.int .i64 g.pool.low)∧w1.cell? ⟨w.heap.size,3,none⟩=some (.int .i64 g.pool.high)∧w1.cell? ⟨w.heap.size,4,none⟩=some (.int .i64 g.pool.most)∧w1.cell? ⟨w.heap.size,5,none⟩=some (.int .i64 g.pool.filter)∧w1.cell? ⟨w.heap.size,6,none⟩=some (.int .i64 g.pool.lv.udp)∧w1.cell? ⟨w.heap.size,7,none⟩=some (.int .i64 g.pool.lv.echo)∧w1.cell? ⟨w.heap.size,8,none⟩=some (.int .i64 g.pool.lv.opening)∧w1.cell? ⟨w.heap.size,9,none⟩=some (.int .i64 g.pool.lv.opn)∧w1.cell? ⟨w.heap.size,10,none⟩=some (.int .i64 g.pool.lv.closing)∧w1.cell? ⟨w.heap.size,11,none⟩=some (.string g.sixA)∧w1.cell? ⟨w.heap.size,12,none⟩=some (.int .i64 g.sixB)∧w1.cell? ⟨w.heap.size,13,none⟩=some (.string g.four1)∧w1.cell? ⟨w.heap.size,14,none⟩=some (.string g.six1)∧w1.cell? ⟨w.heap.size,15,none⟩=some (.int .i64 g.mtu)∧w1.cell? ⟨w.heap.size,16,none⟩=some (.slice A.ba g.bib.binds.length A.ca)∧w1.cell? ⟨w.heap.size,17,none⟩=some (.slice A.bo g.bib.sess.length A.cb)∧w1.cell? ⟨w.heap.size,18,none⟩=some (.slice A.qa g.pcs.length A.qc)∧w1.cell? ⟨w.heap.size,19,none⟩=some (.int .i64 g.bk.left)∧w1.cell? ⟨w.heap.size,20,none⟩=some (.int .i64 g.bk.most)∧w1.cell? ⟨w.heap.size,21,none⟩=some (.int .i64 g.bk.each)∧w1.cell? ⟨w.heap.size,22,none⟩=some (.int .i64 g.bk.since)∧w1.cell? ⟨w.heap.size,23,none⟩=some (.int .i64 g.now):=⟨HHq.cell rfl,HHq.cell rfl,HHq.cell rfl,HHq.cell rfl,HHq.cell rfl,HHq.cell rfl,HHq.cell rfl,HHq.cell rfl,HHq.cell rfl,HHq.cell rfl,HHq.cell rfl,HHq.cell rfl,HHq.cell rfl,HHq.cell rfl,HHq.cell rfl,HHq.cell rfl,HHq.cell rfl,HHq.cell rfl,HHq.cell rfl,HHq.cell rfl,HHq.cell rfl,HHq.cell rfl,HHq.cell rfl,HHq.cell rfl⟩;clear HHq
 cases b1 with
 | false =>
  obtain rfl:b0=false:=by rw [HV.out]; simp
  go_wp2_with fail
  go_ret;exact ⟨rfl,S1.out.b⟩
 | true =>
 go_wp2_with fail
 refine (C1.out w1).mono ?_;rintro e w2 ⟨rfl,qq⟩;have S2:Hid _:=S1.out.kept qq;have HG2:Hid (GwIs w2 A g):=HG1.out.below qq;clear qq S1 HG1 k0 k1 k2 k3 k4 k5 k6 k7 k8 k9 k10 k11 k12 k13 k14 k15 k16 k17 k18 k19 k20 k21 k22 k23;have HHq:=S2.out.at (.head _);obtain ⟨k0,k1,k2,k3,k4,k5,k6,k7,k8,k9,k10,k11,k12,k13,k14,k15,k16,k17,k18,k19,k20,k21,k22,k23⟩ : w2.cell? ⟨w.heap.size,0,none⟩=some (.slice A.ra g.routes.length A.rc)∧w2.cell? ⟨w.heap.size,1,none⟩=some (.slice A.pa g.pool.addrs.length A.pc)∧w2.cell? ⟨w.heap.size,2,none⟩=some (.int .i64 g.pool.low)∧w2.cell? ⟨w.heap.size,3,none⟩=some (.int .i64 g.pool.high)∧w2.cell? ⟨w.heap.size,4,none⟩=some (.int .i64 g.pool.most)∧w2.cell? ⟨w.heap.size,5,none⟩=some (.int .i64 g.pool.filter)∧w2.cell? ⟨w.heap.size,6,none⟩=some (.int .i64 g.pool.lv.udp)∧w2.cell? ⟨w.heap.size,7,none⟩=some (.int .i64 g.pool.lv.echo)∧w2.cell? ⟨w.heap.size,8,none⟩=some (.int .i64 g.pool.lv.opening)∧w2.cell? ⟨w.heap.size,9,none⟩=some (.int .i64 g.pool.lv.opn)∧w2.cell? ⟨w.heap.size,10,none⟩=some (.int .i64 g.pool.lv.closing)∧w2.cell? ⟨w.heap.size,11,none⟩=some (.string g.sixA)∧w2.cell? ⟨w.heap.size,12,none⟩=some (.int .i64 g.sixB)∧w2.cell? ⟨w.heap.size,13,none⟩=some (.string g.four1)∧w2.cell? ⟨w.heap.size,14,none⟩=some (.string g.six1)∧w2.cell? ⟨w.heap.size,15,none⟩=some (.int .i64 g.mtu)∧w2.cell? ⟨w.heap.size,16,none⟩=some (.slice A.ba g.bib.binds.length A.ca)∧w2.cell? ⟨w.heap.size,17,none⟩=some (.slice A.bo g.bib.sess.length A.cb)∧w2.cell? ⟨w.heap.size,18,none⟩=some (.slice A.qa g.pcs.length A.qc)∧w2.cell? ⟨w.heap.size,19,none⟩=some (.int .i64 g.bk.left)∧w2.cell? ⟨w.heap.size,20,none⟩=some (.int .i64 g.bk.most)∧w2.cell? ⟨w.heap.size,21,none⟩=some (.int .i64 g.bk.each)∧w2.cell? ⟨w.heap.size,22,none⟩=some (.int .i64 g.bk.since)∧w2.cell? ⟨w.heap.size,23,none⟩=some (.int .i64 g.now):=⟨HHq.cell rfl,HHq.cell rfl,HHq.cell rfl,HHq.cell rfl,HHq.cell rfl,HHq.cell rfl,HHq.cell rfl,HHq.cell rfl,HHq.cell rfl,HHq.cell rfl,HHq.cell rfl,HHq.cell rfl,HHq.cell rfl,HHq.cell rfl,HHq.cell rfl,HHq.cell rfl,HHq.cell rfl,HHq.cell rfl,HHq.cell rfl,HHq.cell rfl,HHq.cell rfl,HHq.cell rfl,HHq.cell rfl,HHq.cell rfl⟩;clear HHq
 cases b2 with
 | false =>
  obtain rfl:b0=false:=by rw [HV.out]; simp
  go_wp2_with fail
  go_ret;exact ⟨rfl,S2.out.b⟩
 | true =>
 by_cases hfour1:g.four1.size=4
 case neg =>
  have ifour1:((g.four1.size:Int)==4)=false:=by rw [beq_eq_false_iff_ne]; omega
  obtain rfl:b0=false:=by rw [HV.out]; simp [hfour1]
  go_wp2_with fail
  go_ret;exact ⟨rfl,S2.out.b⟩
 have ifour1:((g.four1.size:Int)==4)=true:=by rw [beq_iff_eq]; omega
 by_cases hsix1:g.six1.size=16
 case neg =>
  have isix1:((g.six1.size:Int)==16)=false:=by rw [beq_eq_false_iff_ne]; omega
  obtain rfl:b0=false:=by rw [HV.out]; simp [hsix1]
  go_wp2_with fail
  go_ret;exact ⟨rfl,S2.out.b⟩
 have isix1:((g.six1.size:Int)==16)=true:=by rw [beq_iff_eq]; omega
 go_wp2_with fail
 refine (C2.out w2).mono ?_;rintro e w3 ⟨rfl,hw3⟩;subst hw3
 cases b3 with
 | false =>
  obtain rfl:b0=false:=by rw [HV.out]; simp
  go_wp2_with fail
  go_ret;exact ⟨rfl,S2.out.b⟩
 | true =>
 go_wp2_with fail
 refine (C3.out w3 HG2.out).mono ?_;rintro e w4 ⟨rfl,qq⟩;have S4:Hid _:=S2.out.kept qq;have HG4:Hid (GwIs w4 A g):=HG2.out.below qq;clear qq S2 HG2 k0 k1 k2 k3 k4 k5 k6 k7 k8 k9 k10 k11 k12 k13 k14 k15 k16 k17 k18 k19 k20 k21 k22 k23;have HHq:=S4.out.at (.head _);obtain ⟨k0,k1,k2,k3,k4,k5,k6,k7,k8,k9,k10,k11,k12,k13,k14,k15,k16,k17,k18,k19,k20,k21,k22,k23⟩ : w4.cell? ⟨w.heap.size,0,none⟩=some (.slice A.ra g.routes.length A.rc)∧w4.cell? ⟨w.heap.size,1,none⟩=some (.slice A.pa g.pool.addrs.length A.pc)∧w4.cell? ⟨w.heap.size,2,none⟩=some (.int .i64 g.pool.low)∧w4.cell? ⟨w.heap.size,3,none⟩=some (.int .i64 g.pool.high)∧w4.cell? ⟨w.heap.size,4,none⟩=some (.int .i64 g.pool.most)∧w4.cell? ⟨w.heap.size,5,none⟩=some (.int .i64 g.pool.filter)∧w4.cell? ⟨w.heap.size,6,none⟩=some (.int .i64 g.pool.lv.udp)∧w4.cell? ⟨w.heap.size,7,none⟩=some (.int .i64 g.pool.lv.echo)∧w4.cell? ⟨w.heap.size,8,none⟩=some (.int .i64 g.pool.lv.opening)∧w4.cell? ⟨w.heap.size,9,none⟩=some (.int .i64 g.pool.lv.opn)∧w4.cell? ⟨w.heap.size,10,none⟩=some (.int .i64 g.pool.lv.closing)∧w4.cell? ⟨w.heap.size,11,none⟩=some (.string g.sixA)∧w4.cell? ⟨w.heap.size,12,none⟩=some (.int .i64 g.sixB)∧w4.cell? ⟨w.heap.size,13,none⟩=some (.string g.four1)∧w4.cell? ⟨w.heap.size,14,none⟩=some (.string g.six1)∧w4.cell? ⟨w.heap.size,15,none⟩=some (.int .i64 g.mtu)∧w4.cell? ⟨w.heap.size,16,none⟩=some (.slice A.ba g.bib.binds.length A.ca)∧w4.cell? ⟨w.heap.size,17,none⟩=some (.slice A.bo g.bib.sess.length A.cb)∧w4.cell? ⟨w.heap.size,18,none⟩=some (.slice A.qa g.pcs.length A.qc)∧w4.cell? ⟨w.heap.size,19,none⟩=some (.int .i64 g.bk.left)∧w4.cell? ⟨w.heap.size,20,none⟩=some (.int .i64 g.bk.most)∧w4.cell? ⟨w.heap.size,21,none⟩=some (.int .i64 g.bk.each)∧w4.cell? ⟨w.heap.size,22,none⟩=some (.int .i64 g.bk.since)∧w4.cell? ⟨w.heap.size,23,none⟩=some (.int .i64 g.now):=⟨HHq.cell rfl,HHq.cell rfl,HHq.cell rfl,HHq.cell rfl,HHq.cell rfl,HHq.cell rfl,HHq.cell rfl,HHq.cell rfl,HHq.cell rfl,HHq.cell rfl,HHq.cell rfl,HHq.cell rfl,HHq.cell rfl,HHq.cell rfl,HHq.cell rfl,HHq.cell rfl,HHq.cell rfl,HHq.cell rfl,HHq.cell rfl,HHq.cell rfl,HHq.cell rfl,HHq.cell rfl,HHq.cell rfl,HHq.cell rfl⟩;clear HHq
 cases b4 with
 | false =>
  obtain rfl:b0=false:=by rw [HV.out]; simp
  go_wp2_with fail
  go_ret;exact ⟨rfl,S4.out.b⟩
 | true =>
 go_wp2_with fail
 refine (C4.out w4 HG4.out).mono ?_;rintro e w5 ⟨rfl,qq⟩;have S5:Hid _:=S4.out.kept qq;have HG5:Hid (GwIs w5 A g):=HG4.out.below qq;clear qq S4 HG4 k0 k1 k2 k3 k4 k5 k6 k7 k8 k9 k10 k11 k12 k13 k14 k15 k16 k17 k18 k19 k20 k21 k22 k23;have HHq:=S5.out.at (.head _);obtain ⟨k0,k1,k2,k3,k4,k5,k6,k7,k8,k9,k10,k11,k12,k13,k14,k15,k16,k17,k18,k19,k20,k21,k22,k23⟩ : w5.cell? ⟨w.heap.size,0,none⟩=some (.slice A.ra g.routes.length A.rc)∧w5.cell? ⟨w.heap.size,1,none⟩=some (.slice A.pa g.pool.addrs.length A.pc)∧w5.cell? ⟨w.heap.size,2,none⟩=some (.int .i64 g.pool.low)∧w5.cell? ⟨w.heap.size,3,none⟩=some (.int .i64 g.pool.high)∧w5.cell? ⟨w.heap.size,4,none⟩=some (.int .i64 g.pool.most)∧w5.cell? ⟨w.heap.size,5,none⟩=some (.int .i64 g.pool.filter)∧w5.cell? ⟨w.heap.size,6,none⟩=some (.int .i64 g.pool.lv.udp)∧w5.cell? ⟨w.heap.size,7,none⟩=some (.int .i64 g.pool.lv.echo)∧w5.cell? ⟨w.heap.size,8,none⟩=some (.int .i64 g.pool.lv.opening)∧w5.cell? ⟨w.heap.size,9,none⟩=some (.int .i64 g.pool.lv.opn)∧w5.cell? ⟨w.heap.size,10,none⟩=some (.int .i64 g.pool.lv.closing)∧w5.cell? ⟨w.heap.size,11,none⟩=some (.string g.sixA)∧w5.cell? ⟨w.heap.size,12,none⟩=some (.int .i64 g.sixB)∧w5.cell? ⟨w.heap.size,13,none⟩=some (.string g.four1)∧w5.cell? ⟨w.heap.size,14,none⟩=some (.string g.six1)∧w5.cell? ⟨w.heap.size,15,none⟩=some (.int .i64 g.mtu)∧w5.cell? ⟨w.heap.size,16,none⟩=some (.slice A.ba g.bib.binds.length A.ca)∧w5.cell? ⟨w.heap.size,17,none⟩=some (.slice A.bo g.bib.sess.length A.cb)∧w5.cell? ⟨w.heap.size,18,none⟩=some (.slice A.qa g.pcs.length A.qc)∧w5.cell? ⟨w.heap.size,19,none⟩=some (.int .i64 g.bk.left)∧w5.cell? ⟨w.heap.size,20,none⟩=some (.int .i64 g.bk.most)∧w5.cell? ⟨w.heap.size,21,none⟩=some (.int .i64 g.bk.each)∧w5.cell? ⟨w.heap.size,22,none⟩=some (.int .i64 g.bk.since)∧w5.cell? ⟨w.heap.size,23,none⟩=some (.int .i64 g.now):=⟨HHq.cell rfl,HHq.cell rfl,HHq.cell rfl,HHq.cell rfl,HHq.cell rfl,HHq.cell rfl,HHq.cell rfl,HHq.cell rfl,HHq.cell rfl,HHq.cell rfl,HHq.cell rfl,HHq.cell rfl,HHq.cell rfl,HHq.cell rfl,HHq.cell rfl,HHq.cell rfl,HHq.cell rfl,HHq.cell rfl,HHq.cell rfl,HHq.cell rfl,HHq.cell rfl,HHq.cell rfl,HHq.cell rfl,HHq.cell rfl⟩;clear HHq
 cases b5 with
 | false =>
  obtain rfl:b0=false:=by rw [HV.out]; simp
  go_wp2_with fail
  go_ret;exact ⟨rfl,S5.out.b⟩
 | true =>
 go_wp2_with fail
 refine (C5.out w5).mono ?_;rintro e w6 ⟨rfl,qq⟩;have S6:Hid _:=S5.out.kept qq;have HG6:Hid (GwIs w6 A g):=HG5.out.below qq;clear qq S5 HG5 k0 k1 k2 k3 k4 k5 k6 k7 k8 k9 k10 k11 k12 k13 k14 k15 k16 k17 k18 k19 k20 k21 k22 k23;have HHq:=S6.out.at (.head _);obtain ⟨k0,k1,k2,k3,k4,k5,k6,k7,k8,k9,k10,k11,k12,k13,k14,k15,k16,k17,k18,k19,k20,k21,k22,k23⟩ : w6.cell? ⟨w.heap.size,0,none⟩=some (.slice A.ra g.routes.length A.rc)∧w6.cell? ⟨w.heap.size,1,none⟩=some (.slice A.pa g.pool.addrs.length A.pc)∧w6.cell? ⟨w.heap.size,2,none⟩=some (.int .i64 g.pool.low)∧w6.cell? ⟨w.heap.size,3,none⟩=some (.int .i64 g.pool.high)∧w6.cell? ⟨w.heap.size,4,none⟩=some (.int .i64 g.pool.most)∧w6.cell? ⟨w.heap.size,5,none⟩=some (.int .i64 g.pool.filter)∧w6.cell? ⟨w.heap.size,6,none⟩=some (.int .i64 g.pool.lv.udp)∧w6.cell? ⟨w.heap.size,7,none⟩=some (.int .i64 g.pool.lv.echo)∧w6.cell? ⟨w.heap.size,8,none⟩=some (.int .i64 g.pool.lv.opening)∧w6.cell? ⟨w.heap.size,9,none⟩=some (.int .i64 g.pool.lv.opn)∧w6.cell? ⟨w.heap.size,10,none⟩=some (.int .i64 g.pool.lv.closing)∧w6.cell? ⟨w.heap.size,11,none⟩=some (.string g.sixA)∧w6.cell? ⟨w.heap.size,12,none⟩=some (.int .i64 g.sixB)∧w6.cell? ⟨w.heap.size,13,none⟩=some (.string g.four1)∧w6.cell? ⟨w.heap.size,14,none⟩=some (.string g.six1)∧w6.cell? ⟨w.heap.size,15,none⟩=some (.int .i64 g.mtu)∧w6.cell? ⟨w.heap.size,16,none⟩=some (.slice A.ba g.bib.binds.length A.ca)∧w6.cell? ⟨w.heap.size,17,none⟩=some (.slice A.bo g.bib.sess.length A.cb)∧w6.cell? ⟨w.heap.size,18,none⟩=some (.slice A.qa g.pcs.length A.qc)∧w6.cell? ⟨w.heap.size,19,none⟩=some (.int .i64 g.bk.left)∧w6.cell? ⟨w.heap.size,20,none⟩=some (.int .i64 g.bk.most)∧w6.cell? ⟨w.heap.size,21,none⟩=some (.int .i64 g.bk.each)∧w6.cell? ⟨w.heap.size,22,none⟩=some (.int .i64 g.bk.since)∧w6.cell? ⟨w.heap.size,23,none⟩=some (.int .i64 g.now):=⟨HHq.cell rfl,HHq.cell rfl,HHq.cell rfl,HHq.cell rfl,HHq.cell rfl,HHq.cell rfl,HHq.cell rfl,HHq.cell rfl,HHq.cell rfl,HHq.cell rfl,HHq.cell rfl,HHq.cell rfl,HHq.cell rfl,HHq.cell rfl,HHq.cell rfl,HHq.cell rfl,HHq.cell rfl,HHq.cell rfl,HHq.cell rfl,HHq.cell rfl,HHq.cell rfl,HHq.cell rfl,HHq.cell rfl,HHq.cell rfl⟩;clear HHq
 cases b6 with
 | false =>
  obtain rfl:b0=false:=by rw [HV.out]; simp
  go_wp2_with fail
  go_ret;exact ⟨rfl,S6.out.b⟩
 | true =>
 go_wp2_with fail
 refine (C6.out w6).mono ?_;rintro e w7 ⟨rfl,hw7⟩;subst hw7
 cases b7 with
 | false =>
  obtain rfl:b0=false:=by rw [HV.out]; simp
  go_wp2_with fail
  go_ret;exact ⟨rfl,S6.out.b⟩
 | true =>
 have HV2:Hid (b0=decide (g.bk.since≤g.now)):=by unfold Hid; rw [HV.out]; simp [hfour1,hsix1]
 clear HV HMT;go_wp2_with fail
 go_ret;exact ⟨ret_bool HV2.out.symm,S6.out.b⟩
end Go.Proofs.YthagnjokdnnmpaaGreat
