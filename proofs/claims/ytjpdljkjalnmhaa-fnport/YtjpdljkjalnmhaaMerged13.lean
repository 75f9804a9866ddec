import Derived.Test.YtjpdljkjalnmhaaMapG
import Derived.Maps.OwnOps
import Derived.Test.YtjpdljkjalnmhaaMerged12
import Derived.DeepKeys5
import Derived.Deep.DeepCutAuto
import Derived.Test.YtjpdljkjalnmhaaMerged10
set_option linter.unusedVariables false
set_option linter.unusedSimpArgs false
set_option maxRecDepth 100000
set_option maxHeartbeats 8000000
namespace Go.Proofs.Ytjpdljkjalnmhaa
open Go.RowKit
theorem wp_look_val {P:Program} {o:Oper} {a:Act} {w:World} {v1 v2 v':Value} {K:Act→World→Prop} {Q:Exit→Act→World→Prop} (t:TypeId) (x ix:Operand) (ok:Bool) (hop:o.op=Op.lookup t x ix ok)
  (hs:a.eval x=v1) (hx:a.eval ix=v2) (hrun:(Instr.lookup t v1 v2 ok).run P w=.ok v' w) (hK:K (a.put o.dst v') w):Oper.wp P o a w K Q:=by
 unfold Oper.wp;simp [execOp,hop,hs,hx,hrun,Result.andThen];exact hK
theorem wpList_look_val {P:Program} {ops:Array Oper} {rest:List Oper} {o:Oper} {a:Act} {w:World} {v1 v2 v':Value} {Q:Exit→Act→World→Prop} (hg:o.guard=none) (t:TypeId) (x ix:Operand) (ok:Bool) (hop:o.op=Op.lookup t x ix ok)
  (hs:a.eval x=v1) (hx:a.eval ix=v2) (hrun:(Instr.lookup t v1 v2 ok).run P w=.ok v' w) (hK:wpList P ops Q rest (a.put o.dst v') w):wpList P ops Q (o::rest) a w :=
 wpList_plain hg fun K hK'=>wp_look_val t x ix ok hop hs hx hrun (hK' _ _ hK)
theorem wp_upd_val {P:Program} {o:Oper} {a:Act} {w w':World} {v1 v2 v3:Value} {K:Act→World→Prop} {Q:Exit→Act→World→Prop} (t:TypeId) (m x y:Operand) (hop:o.op=Op.mapUpdate t m x y)
  (hm:a.eval m=v1) (hx:a.eval x=v2) (hy:a.eval y=v3) (hrun:(Instr.mapUpdate t v1 v2 v3).run P w=.ok () w') (hK:K (a.put o.dst undef) w'):Oper.wp P o a w K Q:=by
 unfold Oper.wp;simp [execOp,hop,hm,hx,hy,hrun,Result.andThen];exact hK
open Go.PlainAid
open Go.Maps (Keyed)
def bkC (pa:Option Addr) (pc:Nat) (p:Pl) (a b:Option Addr) (ca cb:Nat) (x:Bb) (m1 m2:Nat):Value:=.agg #[.slice pa p.addrs.length pc,.int .i64 p.low,.int .i64 p.high,.int .i64 p.most,.int .i64 p.filter,.int .i64 p.lv.udp,.int .i64 p.lv.echo,.int .i64 p.lv.opening,.int .i64 p.lv.opn,.int .i64 p.lv.closing,.slice a x.binds.length ca,.slice b x.sess.length cb,.map (some m1),.map (some m2)]
def EnIn (e:En):Prop:=e.addr.size≤1048576∧In64t e.proto∧In64t e.port
def BdGood (q:Bd):Prop:=q.inn.size≤1048576∧q.out.size≤1048576∧In64t q.proto∧In64t q.inPort∧In64t q.outPort
def SsGood (s:Ss):Prop:=s.inn.size≤1048576∧s.peer.size≤1048576∧In64t s.proto∧In64t s.inPort
theorem hostE_in {q:Bd} (h:BdGood q):EnIn (hostE q):=⟨h.1,h.2.2.1,h.2.2.2.1⟩
theorem lentE_in {q:Bd} (h:BdGood q):EnIn (lentE q):=⟨h.2.1,h.2.2.1,h.2.2.2.2⟩
theorem sessE_in {s:Ss} (h:SsGood s):EnIn (sessE s):=⟨h.1,h.2.2.1,h.2.2.2⟩
theorem sameEn_iff (q p:En):sameEn q p=true↔q=p:=by
 rw [sameEn_eq];simp only [Bool.and_eq_true,decide_eq_true_iff];constructor
 ·rintro ⟨⟨h1,h2⟩,h3⟩;have h4:q.addr=p.addr:=by
   rw [ByteArray.toList_eq,ByteArray.toList_eq] at h2;apply ByteArray.ext;exact Array.toList_inj.1 h2
  cases q; cases p; simp_all
 ·rintro rfl; simp
theorem enC_inj {q p:En} (h:enC q=enC p):q=p:=by
 unfold enC at h;simp at h
 cases q; cases p; simp_all
theorem find_some_any {α:Type} (f:α→Bool) (xs:List α):(xs.find? f).isSome=xs.any f:=by
 rw [Bool.eq_iff_iff,List.find?_isSome,List.any_eq_true]
theorem keyed_en:Keyed Try.prog 59:=Keyed.of_law (deep_law_gate (by kernel_rfl) (of_decide_eq_true (by kernel_rfl)) (of_decide_eq_true (by kernel_rfl)) (by kernel_rfl) (by kernel_rfl))
theorem wf64b {n:Int} (h:In64t n):(Lit.int .i64 n).wf=true:=by
 simp [Lit.wf]; exact ⟨h.1,h.2⟩
theorem keyOf_en (e:En) (h:EnIn e):∃ l,keyOf Try.prog 59 (enC e)=some l:=by
 obtain ⟨h1,h3,h4⟩:=h;have h1:e.addr.size≤maxLen:=by unfold maxLen; omega
 have k1:Try.prog.keyType 59=true:=by kernel_rfl
 have k2:Try.prog.cellsOf 59=3:=by kernel_rfl
 have k3:Try.prog.cellsOf 9=1:=by kernel_rfl
 have k4:Try.prog.cellsOf 2=1:=by kernel_rfl
 have k5:∃ m,Try.prog.types.size+1=m+2:=⟨Try.prog.types.size-1,by have:1≤Try.prog.types.size:=of_decide_eq_true (by kernel_rfl); omega⟩;obtain ⟨m,k5⟩:=k5;have w3:=wf64b h3;have w4:=wf64b h4;unfold keyOf;rw [Try.underlying59];simp only [k1,Value.formed,enC,Try.underlying59,k2,Value.cells,k5];simp [Program.keyLits,Try.underlying59,Try.underlying9,Try.underlying2,k2,k3,k4,h1,w3,w4]
theorem zero_bd (w:World):(zeroValue 35).run Try.prog w=.ok (bdC bdZ) w:=by kernel_rfl
structure BookOf (w:World) (m1 m2:Nat) (xs ys:List Bd) (M1 M2:Value→Option Value):Prop where
 h1:MapAt Try.prog 59 w m1 M1
 h2:MapAt Try.prog 59 w m2 M2
 v1:∀ e:En,M1 (enC e)=(xs.find? fun q=>sameEn (hostE q) e).map bdC
 v2:∀ e:En,M2 (enC e)=(ys.find? fun q=>sameEn (lentE q) e).map bdC
 ne:m1≠m2
def BookAt (w:World) (m1 m2:Nat) (xs ys:List Bd):Prop:=∃ M1 M2,BookOf w m1 m2 xs ys M1 M2
section
variable {w W:World} {m1 m2:Nat} {xs ys:List Bd}
theorem BookAt.kept (h:BookAt w m1 m2 xs ys) (hb:Below w.heap.size w W):BookAt W m1 m2 xs ys:=by
 obtain ⟨M1,M2,h⟩:=h;exact ⟨M1,M2,h.h1.below hb,h.h2.below hb,h.v1,h.v2,h.ne⟩
theorem BookAt.lt (h:BookAt w m1 m2 xs ys):m1 < w.heap.size∧m2 < w.heap.size∧m1≠m2:=by
 obtain ⟨M1,M2,h⟩:=h;exact ⟨h.h1.lt,h.h2.lt,h.ne⟩
theorem BookAt.made {w:World}:BookAt ((w.alloc (.map #[] 0)).alloc (.map #[] 0)) w.heap.size (w.heap.size+1) [] []:=by
 have h2:=MapAt.made (P:=Try.prog) (k:=59) (w.alloc (.map #[] 0));rw [World.size_alloc] at h2;refine ⟨fun _=>none,fun _=>none,(MapAt.made w).below ((Below.refl _ _).alloc (Nat.le_refl _) _),h2,fun e=>rfl,fun e=>rfl,by omega⟩
theorem map_get (o:Option Bd):(o.map bdC).getD (bdC bdZ)=bdC (o.getD bdZ):=by cases o<;>rfl
theorem BookAt.look1 (h:BookAt w m1 m2 xs ys) {e:En} (he:EnIn e):(Instr.lookup 50 (.map (some m1)) (enC e) true).run Try.prog w=.ok (.tuple #[bdC ((xs.find? fun q=>sameEn (hostE q) e).getD bdZ),.bool (xs.find? fun q=>sameEn (hostE q) e).isSome]) w:=by
 obtain ⟨M1,M2,h⟩:=h;obtain ⟨l,hl⟩:=keyOf_en e he;have h1:=(h.h1.look (t:=50) keyed_en Try.underlying50 hl (zero_bd w)).2;rw [h.v1,map_get,Option.isSome_map] at h1;exact h1
theorem BookAt.look2 (h:BookAt w m1 m2 xs ys) {e:En} (he:EnIn e):(Instr.lookup 50 (.map (some m2)) (enC e) true).run Try.prog w=.ok (.tuple #[bdC ((ys.find? fun q=>sameEn (lentE q) e).getD bdZ),.bool (ys.find? fun q=>sameEn (lentE q) e).isSome]) w:=by
 obtain ⟨M1,M2,h⟩:=h;obtain ⟨l,hl⟩:=keyOf_en e he;have h1:=(h.h2.look (t:=50) keyed_en Try.underlying50 hl (zero_bd w)).2;rw [h.v2,map_get,Option.isSome_map] at h1;exact h1
theorem find_snoc (E:Bd→En) (xs:List Bd) (q:Bd) (hn:xs.any (fun c=>sameEn (E c) (E q))=false) (M M':Value→Option Value) (hM:∀ e:En,M (enC e)=(xs.find? fun c=>sameEn (E c) e).map bdC) (h1:M' (enC (E q))=some (bdC q)) (h2:∀ y,y≠enC (E q)→M' y=M y) (e:En):M' (enC e)=((xs++[q]).find? fun c=>sameEn (E c) e).map bdC:=by
 rw [List.find?_append];by_cases he:e=E q
 ·subst he;have h0:xs.find? (fun c=>sameEn (E c) (E q))=none:=List.find?_eq_none.2 (fun c hc=>List.any_eq_false.1 hn c hc);have hs:sameEn (E q) (E q)=true:=(sameEn_iff _ _).2 rfl;rw [h0,h1]; simp [hs]
 ·have hs:sameEn (E q) e=false:=by
   cases h:sameEn (E q) e with
   | false=>rfl
   | true=>exact absurd ((sameEn_iff _ _).1 h).symm he
  rw [h2 _ (fun h=>he (enC_inj h)),hM];simp [hs]
theorem BookAt.put1 (h:BookAt w m1 m2 xs ys) {q:Bd} (hq:EnIn (hostE q)) (hn:xs.any (fun c=>sameEn (hostE c) (hostE q))=false) :
  ∃ W,(Instr.mapUpdate 50 (.map (some m1)) (enC (hostE q)) (bdC q)).run Try.prog w=.ok () W∧BookAt W m1 m2 (xs++[q]) ys∧w.grownBy W (some m1):=by
 obtain ⟨M1,M2,h⟩:=h;obtain ⟨l,hl⟩:=keyOf_en _ hq;obtain ⟨W,M',hup,hM',hx,hoth,hg,hs⟩:=h.h1.put (v:=bdC q) keyed_en Try.underlying50 hl;exact ⟨W,hup,⟨M',M2,hM',h.h2.grown hg (by simp; exact fun e=>h.ne e.symm),find_snoc hostE xs q hn M1 M' h.v1 hx hoth,h.v2,h.ne⟩,hg⟩
theorem BookAt.put2 (h:BookAt w m1 m2 xs ys) {q:Bd} (hq:EnIn (lentE q)) (hn:ys.any (fun c=>sameEn (lentE c) (lentE q))=false) :
  ∃ W,(Instr.mapUpdate 50 (.map (some m2)) (enC (lentE q)) (bdC q)).run Try.prog w=.ok () W∧BookAt W m1 m2 xs (ys++[q])∧w.grownBy W (some m2):=by
 obtain ⟨M1,M2,h⟩:=h;obtain ⟨l,hl⟩:=keyOf_en _ hq;obtain ⟨W,M',hup,hM',hx,hoth,hg,hs⟩:=h.h2.put (v:=bdC q) keyed_en Try.underlying50 hl;exact ⟨W,hup,⟨M1,M',h.h1.grown hg (by simp; exact h.ne),hM',h.v1,find_snoc lentE ys q hn M2 M' h.v2 hx hoth,h.ne⟩,hg⟩
end
def IsZd (base:Nat):Value→World→Prop:=fun v w=>∃ g,v=.pointer (some ⟨g,0,none⟩)∧base≤g∧HoldsL w g (bdL bdZ)
theorem stable_isZd (base:Nat):Stable (IsZd base):=fun v w w' ⟨g,h1,h2,h3⟩ hb=>⟨g,h1,h2,h3.kept (by simp [bdL]) hb⟩
end Go.Proofs.Ytjpdljkjalnmhaa
namespace Go.Proofs.Ytjpdljkjalnmhaa
open Go.RowKit Go.PlainAid
theorem implPool_any (p:Pl) (a:Option Addr) (cap:Nat) (w:World) (hl:p.addrs.length≤1048576) (hcap:p.addrs.length≤cap) (hsz:∀ s∈p.addrs,s.size≤1048576) (hr:SlIs strL1 1 w a p.addrs) :
  Calls Try.prog 40 #[plC a cap p] w fun e w'=>e=.returned (.bool (poolOk p))∧Below w.heap.size w w':=by
 have hun:undef=Value.tuple #[]:=rfl;have GA:Hid (Below w.heap.size w (w.alloc (.cells #[.slice a p.addrs.length cap,.int .i64 p.low,.int .i64 p.high,.int .i64 p.most,.int .i64 p.filter,.int .i64 p.lv.udp,.int .i64 p.lv.echo,.int .i64 p.lv.opening,.int .i64 p.lv.opn,.int .i64 p.lv.closing] 27))):=(Below.refl _ _).alloc (Nat.le_refl _) _;have H0:Hid (HoldsL (w.alloc (.cells #[.slice a p.addrs.length cap,.int .i64 p.low,.int .i64 p.high,.int .i64 p.most,.int .i64 p.filter,.int .i64 p.lv.udp,.int .i64 p.lv.echo,.int .i64 p.lv.opening,.int .i64 p.lv.opn,.int .i64 p.lv.closing] 27)) w.heap.size [.slice a p.addrs.length cap,.int .i64 p.low,.int .i64 p.high,.int .i64 p.most,.int .i64 p.filter,.int .i64 p.lv.udp,.int .i64 p.lv.echo,.int .i64 p.lv.opening,.int .i64 p.lv.opn,.int .i64 p.lv.closing]):=HoldsL.new w [.slice a p.addrs.length cap,.int .i64 p.low,.int .i64 p.high,.int .i64 p.most,.int .i64 p.filter,.int .i64 p.lv.udp,.int .i64 p.lv.echo,.int .i64 p.lv.opening,.int .i64 p.lv.opn,.int .i64 p.lv.closing] 27;have HA:Hid (∀ W,Below w.heap.size w W→Calls Try.prog 67 #[.slice a p.addrs.length cap] W fun e w'=>e=.returned (.bool (poolA p.addrs))∧Below W.heap.size W w'):=fun W hW=>implPoolA_any p.addrs a cap W hl hcap hsz (hr.below hW)
 have HL:Hid (∀ W,Calls Try.prog 68 #[lvC p.lv] W fun e w'=>e=.returned (.bool (livesOk p.lv))∧Below W.heap.size W w'):=fun W=>implLives_any p.lv W
 have HV:Hid (poolOk p=(poolA p.addrs&&decide (1≤p.low)&&decide (p.low≤p.high)&&decide (p.high≤65535)&&decide (1≤p.most)&&decide (p.most≤60)&&decide (0≤p.filter)&&decide (p.filter≤2)&&livesOk p.lv)):=by
  unfold Hid poolOk poolA isIn;generalize livesOk p.lv=x1;generalize upN addrOne p.addrs p.addrs.length=x2;rw [Bool.eq_iff_iff]; simp only [Bool.and_eq_true];constructor
  ·intro h; simp_all
  ·intro h; simp_all
 generalize poolOk p=ans at *;generalize poolA p.addrs=bA at *;generalize livesOk p.lv=bL at *;clear hr hsz;unfold plC;unfold lvC at HL;go_enter Try.func40,Try.ntmps40
 go_wp2_with fail
 refine (HA.out _ GA.out).mono ?_;rintro e w1 ⟨rfl,q1⟩;have G1:Hid (Below w.heap.size w w1):=GA.out.trans (q1.mono GA.out.size);have K1:=H0.out.kept (by simp) q1;obtain ⟨k0,k1,k2,k3,k4,k5,k6,k7,k8,k9⟩:=K1.c10;clear q1 K1 H0 GA HA
 cases bA with
 | false =>
  have HX:Hid (ans=false):=by unfold Hid; rw [HV.out]; simp
  go_wp2_with fail
  go_ret;exact ⟨ret_bool HX.out.symm,G1.out⟩
 | true =>
  by_cases t0:1≤p.low
  case neg =>
   have HX:Hid (ans=false):=by unfold Hid; rw [HV.out,decide_eq_false t0]; simp
   have d0:decide (1≤p.low)=false:=decide_eq_false t0;go_wp2_with fail
   go_ret;exact ⟨ret_bool HX.out.symm,G1.out⟩
  have d0:decide (1≤p.low)=true:=decide_eq_true t0;by_cases t1:p.low≤p.high
  case neg =>
   have HX:Hid (ans=false):=by unfold Hid; rw [HV.out,decide_eq_false t1]; simp
   have d1:decide (p.low≤p.high)=false:=decide_eq_false t1;go_wp2_with fail
   go_ret;exact ⟨ret_bool HX.out.symm,G1.out⟩
  have d1:decide (p.low≤p.high)=true:=decide_eq_true t1;by_cases t2:p.high≤65535
  case neg =>
   have HX:Hid (ans=false):=by unfold Hid; rw [HV.out,decide_eq_false t2]; simp
   have d2:decide (p.high≤65535)=false:=decide_eq_false t2;go_wp2_with fail
   go_ret;exact ⟨ret_bool HX.out.symm,G1.out⟩
  have d2:decide (p.high≤65535)=true:=decide_eq_true t2;by_cases t3:1≤p.most
  case neg =>
   have HX:Hid (ans=false):=by unfold Hid; rw [HV.out,decide_eq_false t3]; simp
   have d3:decide (1≤p.most)=false:=decide_eq_false t3;go_wp2_with fail
   go_ret;exact ⟨ret_bool HX.out.symm,G1.out⟩
  have d3:decide (1≤p.most)=true:=decide_eq_true t3;by_cases t4:p.most≤60
  case neg =>
   have HX:Hid (ans=false):=by unfold Hid; rw [HV.out,decide_eq_false t4]; simp
   have d4:decide (p.most≤60)=false:=decide_eq_false t4;go_wp2_with fail
   go_ret;exact ⟨ret_bool HX.out.symm,G1.out⟩
  have d4:decide (p.most≤60)=true:=decide_eq_true t4;by_cases t5:0≤p.filter
  case neg =>
   have HX:Hid (ans=false):=by unfold Hid; rw [HV.out,decide_eq_false t5]; simp
   have d5:decide (0≤p.filter)=false:=decide_eq_false t5;go_wp2_with fail
   go_ret;exact ⟨ret_bool HX.out.symm,G1.out⟩
  have d5:decide (0≤p.filter)=true:=decide_eq_true t5;by_cases t6:p.filter≤2
  case neg =>
   have HX:Hid (ans=false):=by unfold Hid; rw [HV.out,decide_eq_false t6]; simp
   have d6:decide (p.filter≤2)=false:=decide_eq_false t6;go_wp2_with fail
   go_ret;exact ⟨ret_bool HX.out.symm,G1.out⟩
  have d6:decide (p.filter≤2)=true:=decide_eq_true t6;have HX:Hid (ans=bL):=by unfold Hid; rw [HV.out,decide_eq_true t0,decide_eq_true t1,decide_eq_true t2,decide_eq_true t3,decide_eq_true t4,decide_eq_true t5,decide_eq_true t6]; rfl
  go_wp2_with fail
  refine (HL.out _).mono ?_;rintro e w2 ⟨rfl,q2⟩;have G2:Hid (Below w.heap.size w w2):=G1.out.trans (q2.mono G1.out.size);clear q2;go_wp2_with fail
  go_ret;exact ⟨ret_bool HX.out.symm,G2.out⟩
end Go.Proofs.Ytjpdljkjalnmhaa
