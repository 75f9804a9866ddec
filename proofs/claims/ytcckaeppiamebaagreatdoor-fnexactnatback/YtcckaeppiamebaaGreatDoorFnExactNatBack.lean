/- At every pool, bib, packet and time the program's NatBack answers as the specification's, its answer owns its memory, and nothing that was there is written: the law FnExactNatBack returns true. The program's table of states starts as the program's text lays it (the card ties it). No other condition. -/
import Derived.Test.YtcckaeppiamebaaGreatDoorAb
import Derived.Test.YtcckaeppiamebaaGreatDoorRows
import Derived.Test.YtcckaeppiamebaaGreatDoorCards
import Derived.Test.YtcckaeppiamebaaGreatDoorTie
import Derived.Test.YtcckaeppiamebaaGreatDoorMerged1
import Derived.Test.YtcckaeppiamebaaGreatDoorNatBackW
import Derived.Test.YtcckaeppiamebaaGreatDoorLaidP
import Derived.OpenVars
import Derived.WalkKit
import Derived.ProofKit
import Derived.OpenShut
import Derived.ShutString
import Derived.ChangeOld
import Derived.Below
import Derived.Lib.SmallJoins
import Derived.Lib.LaidTab
import Derived.Lay
import Derived.SevenTiedAt
set_option linter.unusedVariables false
set_option linter.unusedSimpArgs false
set_option maxRecDepth 100000
set_option maxHeartbeats 8000000
namespace Go.Proofs.YtcckaeppiamebaaGreatDoor.fnExactNatBack
open Go.ChangeShapes Go.WideShapes Go.ChangeAt Go.RowKit Go.Joins
open Go.ChangeMaps (open_string shut_string)
theorem own:ownKnob Tryz.prog.godebug=none:=by kernel_rfl
theorem laidOut:laidOutB Tryz.prog=true:=by kernel_rfl
theorem of_laid {W:World} (h:laidMet Tryz.prog Rows.fnExactNatBackRow.laid W):TabB W:=by
 have hp:=fun i z hz=>var_pairs (P:=Tryz.prog) (zs:=[(0,0),(0,3),(3,0),(4,5),(0,6),(6,0),(0,0),(3,3)]) (g:=0) (by kernel_rfl) (by kernel_rfl) Tryz.underlying189 Tryz.underlying188 rfl rfl rfl rfl Tryz.underlying2 (by kernel_rfl) (by kernel_rfl) h i z hz
 intro i hi;match i,hi with
 | 0,_=>exact (hp 0 _ rfl).1
 | 1,_=>exact (hp 0 _ rfl).2
 | 2,_=>exact (hp 1 _ rfl).1
 | 3,_=>exact (hp 1 _ rfl).2
 | 4,_=>exact (hp 2 _ rfl).1
 | 5,_=>exact (hp 2 _ rfl).2
 | 6,_=>exact (hp 3 _ rfl).1
 | 7,_=>exact (hp 3 _ rfl).2
 | 8,_=>exact (hp 4 _ rfl).1
 | 9,_=>exact (hp 4 _ rfl).2
 | 10,_=>exact (hp 5 _ rfl).1
 | 11,_=>exact (hp 5 _ rfl).2
 | 12,_=>exact (hp 6 _ rfl).1
 | 13,_=>exact (hp 6 _ rfl).2
 | 14,_=>exact (hp 7 _ rfl).1
 | 15,_=>exact (hp 7 _ rfl).2
 | n+16,h=>exact absurd h (by omega)
theorem walk (a0:Option Addr) (cap0:Nat) (p0:Pl) (a1 b1:Option Addr) (ca1 cb1:Nat) (y1:Bb) (p2:P4) (a3:Int) (w:World) (w0:PlWf p0) (x0:SlIs strL1 1 w a0 p0.addrs) (w1:BbWf y1) (x1:BbIs w a1 b1 y1) (w2:P4Wf p2) (w3:(Lit.int .i64 a3).wf=true) (hE:TabB w) :
  Cb 5 #[plC a0 cap0 p0,bbC a1 b1 ca1 cb1 y1,p4C p2,iV a3] w (.bool true):=by
 exact natBackWalk a0 cap0 p0 a1 b1 ca1 cb1 y1 p2 a3 w w0 x0 w1 x1 w2 w3 hE
theorem lifted (os:Os) (started:os.Started) (H:Type) (enc:TypeId × Value→H) :
  ReturnsInHanded {} Tryz.checked os 5 .any (fun w args=>(Rows.fnExactNatBackSpec.pre enc Tryz.prog Tryz.f5 [] false w args∧laidMetH Tryz.prog Rows.fnExactNatBackRow.laid w)∧sizedMet enc Tryz.prog Tryz.f5 (OpenSpec.ofChange Rows.fnExactNatBackSpec) false w args)
   (Rows.fnExactNatBackSpec.post enc Tryz.prog Tryz.f5 false true false false):=by
 refine returns_and_shaped (C:=Tryz.checked) (X:=fun w _=>laidMetH Tryz.prog Rows.fnExactNatBackRow.laid w) (fun _ _ _ hh h=>h.of_heap hh) own started (by kernel_rfl) Tryz.func5
  (ChangeSpec.witness_shaped (enc:=enc) (C:=Tryz.checked) (os:=os) (X:=fun w _=>laidMetH Tryz.prog Rows.fnExactNatBackRow.laid w) false (World.laidAll Tryz.prog os Rows.fnExactNatBackRow.laid) #[.agg #[.slice none 0 0,iV 0,iV 0,iV 0,iV 0,iV 0,iV 0,iV 0,iV 0,iV 0],.agg #[.slice none 0 0,.slice none 0 0],.agg (P4R 0 0 false false 0 0 0 ByteArray.empty ByteArray.empty ByteArray.empty ByteArray.empty).toArray,iV 0] 8 (World.laidAll_os _ _ _)
   (World.shaped_of_ZipB (by kernel_rfl) (by kernel_rfl)) (by kernel_rfl) (by kernel_rfl) (by kernel_rfl)
   (by rw [MakeChecks.laidMetH_plain _ _ _ (by kernel_rfl)]; exact laidMet_laidAll _ (by kernel_rfl) (by kernel_rfl))) ?_
 intro W base args ds gs before hval0 hW hL0 hsh;have hval:∀ (j:Nat) t v,Tryz.f5.params[j]?=some t→args[j]?=some v→Value.okWide Tryz.prog W .any base t v:=hval0;have hW':=hW;obtain ⟨p,q,hA0,hV,rfl,hfz,hnd⟩:=hW;have hA:DataW.TrodAll enc Tryz.prog W 0 (fun _=>true) true Tryz.f5.params.toList args.toList ds p:=hA0;rw [Tryz.params5] at hA hval;obtain ⟨v0,vs0,d0,ds0,p0,q0,hargs,rfl,rfl,h0,r0⟩:=trodAll_cons hA;obtain ⟨v1,vs1,d1,ds1,p1,q1,rfl,rfl,rfl,h1,r1⟩:=trodAll_cons r0;obtain ⟨v2,vs2,d2,ds2,p2,q2,rfl,rfl,rfl,h2,r2⟩:=trodAll_cons r1;obtain ⟨v3,vs3,d3,ds3,p3,q3,rfl,rfl,rfl,h3,r3⟩:=trodAll_cons r2;obtain ⟨rfl,rfl,rfl⟩:=trodAll_nil r3;obtain rfl:args=#[v0,v1,v2,v3]:=by cases args; simp_all
 obtain ⟨d9,rfl⟩ : ∃ d,gs=[d]:=by
  obtain ⟨_,_,_,_,d,_,e,_⟩:=trodVars_one hV;exact ⟨d,e⟩
 have k0:=h0;have lt0:∀ x∈p0,x.block < W.heap.size:=by obtain ⟨m,hm⟩:=k0; exact DataW.trod_lt m _ _ _ hm
 obtain ⟨a0,cap0,pl0,rfl,w0,x0⟩:=open_Pool (hval 0 26 v0 rfl rfl) h0;have k1:=h1;have lt1:∀ x∈p1,x.block < W.heap.size:=by obtain ⟨m,hm⟩:=k1; exact DataW.trod_lt m _ _ _ hm
 obtain ⟨a1,b1,ca1,cb1,y1,rfl,w1,x1⟩:=open_Bib (hval 1 30 v1 rfl rfl) h1;have k2:=h2;have lt2:∀ x∈p2,x.block < W.heap.size:=by obtain ⟨m,hm⟩:=k2; exact DataW.trod_lt m _ _ _ hm
 obtain ⟨a2,rfl,w2⟩:=open_V4 (hval 2 32 v2 rfl rfl) h2;obtain ⟨a3,rfl,rfl,rfl,w3⟩:=open_int Tryz.underlying2 (hval 3 2 v3 rfl rfl) h3;clear hA0 hval0;have hL:laidMet Tryz.prog Rows.fnExactNatBackRow.laid W:=by rw [MakeChecks.laidMetH_plain _ _ _ (by kernel_rfl)] at hL0; exact hL0
 have hE:TabB W:=of_laid hL;refine (walk a0 cap0 pl0 a1 b1 ca1 cb1 y1 a2 a3 W w0 x0 w1 x1 w2 w3 hE).mono fun e W' ⟨he,hg⟩=>?_
 subst he;exact ⟨_,rfl,_,_,_,[],_,_,hW',(trodAll_cons_mk (shut_bool Tryz.underlying4 _) trodAll_mk0),(trodAll_cons_mk (Below.trod laidOut (by kernel_rfl) (of_decide_eq_true (by kernel_rfl)) k0 hg lt0) (trodAll_cons_mk (Below.trod laidOut (by kernel_rfl) (of_decide_eq_true (by kernel_rfl)) k1 hg lt1) (trodAll_cons_mk (Below.trod laidOut (by kernel_rfl) (of_decide_eq_true (by kernel_rfl)) k2 hg lt2) (trodAll_cons_mk (shut_int Tryz.underlying2 w3) trodAll_mk0)))),Below.trodVars laidOut hg (by kernel_rfl) hV,hg.frame _,fun h=>by cases h⟩
theorem over:Rows.fnExactNatBackRow.holds Tryz.pinned (OpenSpec.ofChange Rows.fnExactNatBackSpec) :=
 OpenClaim.holds_of_wide 5 Tryz.f5 rfl rfl rfl rfl rfl rfl rfl ⟨rfl,rfl,rfl,rfl,rfl⟩ rfl rfl rfl rfl rfl (by kernel_rfl) Tryz.func5 (by kernel_rfl)
  (of_decide_eq_true (by kernel_rfl)) (by unfold Func.isWrapper; first | (rw [if_pos (by decide +kernel)]; kernel_rfl) | (rw [if_neg (by decide +kernel)]; exact ⟨rfl,rfl⟩))
  (fun os started H enc _=>lifted os started H enc)
end Go.Proofs.YtcckaeppiamebaaGreatDoor.fnExactNatBack
namespace Go.Proofs.YtcckaeppiamebaaGreatDoor
open Go
theorem fnExactNatBack_holds:Rows.FnExactNatBackCardSaid :=
 Claim7.holds_tied_plain_at .later [] [.wider] true (true, "e23d972265ce71b6fb90ff22783794b56e9c917d37351dde351a3e65dcf1fa2b") true
  fnExactNatBack.over (fun _ h=>by cases h) (by kernel_rfl) (fun _ h=>by cases h) fnExactNatBack_row_tie rfl ⟨rfl,rfl⟩ (by kernel_rfl) rfl
  (fun f fn hf hfn=>by
   obtain rfl:f=5:=Option.some.inj ((show Tryz.prog.funcNamed Rows.fnExactNatBackRow.func=some 5 by kernel_rfl).symm.trans hf) |>.symm
   obtain rfl:fn=Tryz.f5:=(Option.some.inj (Tryz.func5.symm.trans hfn)).symm;exact ⟨by kernel_rfl,fun j t ht=>by
    rw [Tryz.params5] at ht;have hm:t∈[26,30,32,2]:=by simpa using Array.mem_of_getElem? ht
    have hall:([26,30,32,2].all fun u=>!Tryz.prog.wantsStandIn u)=true:=by kernel_rfl
    exact (show Tryz.prog.wantsStandIn t=false by simpa using List.all_eq_true.1 hall t hm)⟩)
  (by kernel_rfl)
#print axioms fnExactNatBack_holds
end Go.Proofs.YtcckaeppiamebaaGreatDoor
