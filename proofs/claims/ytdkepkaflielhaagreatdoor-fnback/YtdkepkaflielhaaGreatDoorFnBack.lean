/- Of every list of bytes from which is drawn the law FnBack returns true: a packet from inside to an end of the pool comes to the host that has it, from an end of the pool; nothing that was there is written. The program's table of states starts as the program's text lays it (the card ties it). No other condition. -/
import Derived.Test.YtdkepkaflielhaaGreatDoorCards
import Derived.Test.YtdkepkaflielhaaGreatDoorTie
import Derived.Test.YtdkepkaflielhaaGreatDoorWrap
import Derived.Test.YtdkepkaflielhaaGreatDoorBackW
import Derived.OpenVars
import Derived.ProofKit
import Derived.ShutString
import Derived.ChangeOld
import Derived.Lib.SmallJoins
import Derived.Lay
set_option linter.unusedVariables false
set_option linter.unusedSimpArgs false
set_option maxRecDepth 100000
set_option maxHeartbeats 8000000
namespace Go.Proofs.YtdkepkaflielhaaGreatDoor.fnBack
open Go.ChangeShapes Go.WideShapes Go.ChangeAt Go.RowKit Go.Joins
open Go.ChangeMaps (open_string shut_string)
theorem own:ownKnob Tryz.prog.godebug=none:=by kernel_rfl
theorem JA:laidOutB Tryz.prog=true:=by kernel_rfl
theorem PC{W:World}(h:laidMet Tryz.prog Rows.fnBackRow.laid W):rJ W:=by
 have hp:=fun i z hz=>LB (P:=Tryz.prog) (zs:=[(0,0),(0,3),(3,0),(4,5),(0,6),(6,0),(0,0),(3,3)]) (g:=0) (by kernel_rfl) (by kernel_rfl) Tryz.underlying172 Tryz.underlying171 rfl rfl rfl rfl Tryz.underlying2 (by kernel_rfl) (by kernel_rfl) h i z hz
 intro i hi;match i,hi with
 | 0,_=>exact(hp 0 _ rfl).1
 | 1,_=>exact(hp 0 _ rfl).2
 | 2,_=>exact(hp 1 _ rfl).1
 | 3,_=>exact(hp 1 _ rfl).2
 | 4,_=>exact(hp 2 _ rfl).1
 | 5,_=>exact(hp 2 _ rfl).2
 | 6,_=>exact(hp 3 _ rfl).1
 | 7,_=>exact(hp 3 _ rfl).2
 | 8,_=>exact(hp 4 _ rfl).1
 | 9,_=>exact(hp 4 _ rfl).2
 | 10,_=>exact(hp 5 _ rfl).1
 | 11,_=>exact(hp 5 _ rfl).2
 | 12,_=>exact(hp 6 _ rfl).1
 | 13,_=>exact(hp 6 _ rfl).2
 | 14,_=>exact(hp 7 _ rfl).1
 | 15,_=>exact(hp 7 _ rfl).2
 | n+16,h=>exact absurd h (by omega)
def tX(k:IntKind)(w:World)(a:OA)(len cap:Nat)(zs:List Int):Prop :=
 (a=none∧len=0∧cap=0∧zs=[]) ∨
 ∃x,a=some x∧len≤cap∧cap≤maxLen∧zs.length=cap∧(∀i,i < zs.length→w.cell? (x.add i)=some (.int k (zs.getD i 0)))∧∀n∈zs,(Lit.int k n).wf=true
theorem TD(a0:OA)(len0 cap0:Nat)(z0:List Int)(w:World)(w0:tX .u8 w a0 len0 cap0 z0)(hE:rJ w) :
  Cb 5 #[.slice a0 len0 cap0] w (.bool true):=by
 by_cases h0:len0≤1048576
 ·exact LY a0 len0 cap0 w hE h0 (zZ w0)
 ·clear w0 hE;go_enter Tryz.func5,Tryz.ntmps5
  go_wp2_with fail
  go_ret;exact⟨rfl,Below.refl _ _⟩
theorem QU(os:Os)(started:os.Started)(H:Type)(enc:TypeId × Value→H) :
  ReturnsInHanded {} Tryz.checked os 5 .any (fun w args=>(Rows.fnBackSpec.pre enc Tryz.prog Tryz.f5 [] false w args∧laidMetH Tryz.prog Rows.fnBackRow.laid w)∧sizedMet enc Tryz.prog Tryz.f5 (OpenSpec.ofChange Rows.fnBackSpec) false w args)
   (Rows.fnBackSpec.post enc Tryz.prog Tryz.f5 false true false false):=by
 refine rS (C:=Tryz.checked) (X:=fun w _=>laidMetH Tryz.prog Rows.fnBackRow.laid w) (fun _ _ _ hh h=>h.of_heap hh) own started (by kernel_rfl) Tryz.func5
  (ChangeSpec.witness_shaped (enc:=enc) (C:=Tryz.checked) (os:=os) (X:=fun w _=>laidMetH Tryz.prog Rows.fnBackRow.laid w) false (World.laidAll Tryz.prog os Rows.fnBackRow.laid) #[.slice none 0 0] 8 (World.laidAll_os _ _ _)
   (World.shaped_of_ZipB (by kernel_rfl) (by kernel_rfl)) (by kernel_rfl) (by kernel_rfl) (by kernel_rfl)
   (by rw[MakeChecks.laidMetH_plain _ _ _ (by kernel_rfl)];exact laidMet_laidAll _ (by kernel_rfl) (by kernel_rfl))) ?_
 intro W base args ds gs before hval0 hW hL0 hsh;have hval:∀(j:Nat) t v,Tryz.f5.params[j]?=some t→args[j]?=some v→Value.okWide Tryz.prog W .any base t v:=hval0;have hW':=hW;obtain⟨p,q,hA0,hV,rfl,hfz,hnd⟩:=hW;have hA:DataW.TrodAll enc Tryz.prog W 0 (fun _=>true) true Tryz.f5.params.toList args.toList ds p:=hA0;rw[Tryz.params5]at hA hval;obtain⟨v0,vs0,d0,ds0,p0,q0,hargs,rfl,rfl,h0,r0⟩:=trodAll_cons hA;obtain⟨rfl,rfl,rfl⟩:=trodAll_nil r0;obtain rfl:args=#[v0]:=by cases args;simp_all
 obtain⟨d9,rfl⟩: ∃d,gs=[d]:=by
  obtain⟨_,_,_,_,d,_,e,_⟩:=trodVars_one hV;exact⟨d,e⟩
 obtain⟨a0,len0,cap0,rfl⟩:=okWide_slice Tryz.underlying22 (hval 0 22 v0 rfl rfl);have k0:=h0;have lt0:∀x∈p0,x.block < W.heap.size:=by obtain⟨m,hm⟩:=k0;exact DataW.trod_lt m _ _ _ hm
 obtain⟨z0,w0⟩: ∃zs,tX .u8 W a0 len0 cap0 zs:=by
  obtain⟨fuel,hf⟩:=h0;rcases open_ints Tryz.underlying22 Tryz.underlying5 (by kernel_rfl) hf with ⟨hcs,_⟩|⟨x,l,c,zs,hcs,_,hl,hm,hz,_,hcell,hwz⟩
  ·simp[Value.cells]at hcs;obtain⟨rfl,rfl,rfl⟩:=hcs;exact⟨[],.inl ⟨rfl,rfl,rfl,rfl⟩⟩
  ·simp[Value.cells]at hcs;obtain⟨rfl,rfl,rfl⟩:=hcs;exact⟨zs,.inr ⟨_,rfl,hl,hm,by simpa using hz,hcell,hwz⟩⟩
 clear hA0 hval0;have hL:laidMet Tryz.prog Rows.fnBackRow.laid W:=by rw[MakeChecks.laidMetH_plain _ _ _ (by kernel_rfl)]at hL0;exact hL0
 have hE:rJ W:=PC hL;refine(TD a0 len0 cap0 z0 W w0 hE).mono fun e W' ⟨he,hg⟩=>?_
 subst he;exact⟨_,rfl,_,_,_,[],_,_,hW',(trodAll_cons_mk (shut_bool Tryz.underlying4 _) trodAll_mk0),(trodAll_cons_mk (Below.trod JA (by kernel_rfl) (of_decide_eq_true (by kernel_rfl)) k0 hg lt0) trodAll_mk0),Below.trodVars JA hg (by kernel_rfl) hV,hg.frame _,fun h=>by cases h⟩
theorem over:Rows.fnBackRow.holds Tryz.pinned (OpenSpec.ofChange Rows.fnBackSpec) :=
 OpenClaim.holds_of_wide 5 Tryz.f5 rfl rfl rfl rfl rfl rfl rfl ⟨rfl,rfl,rfl,rfl,rfl⟩ rfl rfl rfl rfl rfl (by kernel_rfl) Tryz.func5 (by kernel_rfl)
  (of_decide_eq_true (by kernel_rfl)) (by unfold Func.isWrapper;first | (rw[if_pos (by decide +kernel)];kernel_rfl) | (rw[if_neg (by decide +kernel)];exact⟨rfl,rfl⟩))
  (fun os started H enc _=>QU os started H enc)
end Go.Proofs.YtdkepkaflielhaaGreatDoor.fnBack
namespace Go.Proofs.YtdkepkaflielhaaGreatDoor
open Go
theorem fnBack_holds:Rows.FnBackCardSaid :=
 Claim7.holds_tied_plain_at .later [] [.wider] true (true, "4ba0d35d57976872f66edd96653c7376c249ce14df1076f59219f745aebf041b") true
  fnBack.over (fun _ h=>by cases h) (by kernel_rfl) (fun _ h=>by cases h) fnBack_row_tie rfl ⟨rfl,rfl⟩ (by kernel_rfl) rfl
  (fun f fn hf hfn=>by
   obtain rfl:f=5:=Option.some.inj ((show Tryz.prog.funcNamed Rows.fnBackRow.func=some 5 by kernel_rfl).symm.trans hf) |>.symm
   obtain rfl:fn=Tryz.f5:=(Option.some.inj (Tryz.func5.symm.trans hfn)).symm;exact⟨by kernel_rfl,fun j t ht=>by
    rw[Tryz.params5]at ht;have hm:t∈[22]:=by simpa using Array.mem_of_getElem? ht
    have hall:([22].all fun u=>!Tryz.prog.wantsStandIn u)=true:=by kernel_rfl
    exact(show Tryz.prog.wantsStandIn t=false by simpa using List.all_eq_true.1 hall t hm)⟩)
  (by kernel_rfl)
#print axioms fnBack_holds
end Go.Proofs.YtdkepkaflielhaaGreatDoor
