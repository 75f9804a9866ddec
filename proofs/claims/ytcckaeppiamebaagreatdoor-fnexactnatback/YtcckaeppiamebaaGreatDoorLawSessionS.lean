import Derived.Test.YtcckaeppiamebaaGreatDoorAb
import Derived.Test.YtcckaeppiamebaaGreatDoorMerged5
import Derived.Test.YtcckaeppiamebaaGreatDoorMerged1
import Derived.Test.YtcckaeppiamebaaGreatDoorMerged6
import Derived.Test.YtcckaeppiamebaaGreatDoorMerged2
import Derived.Test.YtcckaeppiamebaaGreatDoorMerged3
import Derived.Deep.RegionWith
import Derived.Deep.DeepCutAuto
set_option linter.unusedVariables false
set_option linter.unusedSimpArgs false
set_option maxRecDepth 100000
set_option maxHeartbeats 8000000
namespace Go.Proofs.YtcckaeppiamebaaGreatDoor
open Go.RowKit Go.PlainAid Go.ChangeShapes Go.WideShapes
def sessionN (p:Ss):List Nat:=[p.inn.size,p.peer.size]
def SssWf (xs:List Ss):Prop:=xs.length≤maxLen∧∀ q∈xs,SsWf q
section
variable {H:Type} {enc:TypeId × Value→H} {w:World} {base:Nat} {spare:Nat→Bool} {held:Bool}
theorem elem_Session {m:Nat} {cs:List Value} {y:DataW H × List MemPlace} (h:DataW.trod enc Tryz.prog w base spare held m 86 cs=some y):∃ q:Ss,cs=ssL q∧SsWf q:=by
 obtain ⟨xs,m',_,_,hl,_,_⟩:=DataW.trod_struct Tryz.underlying86 h;rw [show Tryz.prog.cellsOf 86=7 by kernel_rfl] at hl;match cs,hl with
 | [c0,c1,c2,c3,c4,c5,c6],_ =>
  obtain ⟨m0,y0,h0⟩:=flat_field Tryz.underlying86 h 0 _ rfl rfl (show Tryz.prog.cellsOf 2=1 by kernel_rfl) c0 rfl;obtain ⟨x0,e0,_,g0⟩:=DataW.trod_int Tryz.underlying2 h0;obtain ⟨m1,y1,h1⟩:=flat_field Tryz.underlying86 h 1 _ rfl rfl (show Tryz.prog.cellsOf 9=1 by kernel_rfl) c1 rfl;obtain ⟨x1,e1,_,g1⟩:=DataW.trod_string Tryz.underlying9 h1;obtain ⟨m2,y2,h2⟩:=flat_field Tryz.underlying86 h 2 _ rfl rfl (show Tryz.prog.cellsOf 2=1 by kernel_rfl) c2 rfl;obtain ⟨x2,e2,_,g2⟩:=DataW.trod_int Tryz.underlying2 h2;obtain ⟨m3,y3,h3⟩:=flat_field Tryz.underlying86 h 3 _ rfl rfl (show Tryz.prog.cellsOf 9=1 by kernel_rfl) c3 rfl;obtain ⟨x3,e3,_,g3⟩:=DataW.trod_string Tryz.underlying9 h3;obtain ⟨m4,y4,h4⟩:=flat_field Tryz.underlying86 h 4 _ rfl rfl (show Tryz.prog.cellsOf 2=1 by kernel_rfl) c4 rfl;obtain ⟨x4,e4,_,g4⟩:=DataW.trod_int Tryz.underlying2 h4;obtain ⟨m5,y5,h5⟩:=flat_field Tryz.underlying86 h 5 _ rfl rfl (show Tryz.prog.cellsOf 2=1 by kernel_rfl) c5 rfl;obtain ⟨x5,e5,_,g5⟩:=DataW.trod_int Tryz.underlying2 h5;obtain ⟨m6,y6,h6⟩:=flat_field Tryz.underlying86 h 6 _ rfl rfl (show Tryz.prog.cellsOf 2=1 by kernel_rfl) c6 rfl;obtain ⟨x6,e6,_,g6⟩:=DataW.trod_int Tryz.underlying2 h6;simp only [List.cons.injEq,and_true] at e0 e1 e2 e3 e4 e5 e6;subst e0 e1 e2 e3 e4 e5 e6;exact ⟨⟨x0,x1,x2,x3,x4,x5,x6⟩,rfl,wf64s g0,g1,wf64s g2,g3,wf64s g4,wf64s g5,wf64s g6⟩
theorem open_SessionS {fuel:Nat} {a:Option Addr} {len cap:Nat} {x:DataW H × List MemPlace} (h:DataW.trod enc Tryz.prog w base spare held fuel 28 [.slice a len cap]=some x):∃ xs:List Ss,xs.length=len∧SssWf xs∧SlIs ssL 7 w a xs :=
 open_flat ssL_length (by omega) Tryz.underlying28 (by kernel_rfl) SsWf (fun m cs y h=>elem_Session h) h
end
theorem szSession_at (p:Ss) (left:Int) (w:World) (hw:SsWf p) (h0:0≤left) (h1:left≤1048576) :
  Cb 49 #[ssC p,iV left] w (iV (szN (sessionN p) left)):=by
 have HV0:Hid (szN (sessionN p) left=szN [p.inn.size,p.peer.size] left):=rfl;obtain ⟨q_proto,q_inn,q_inPort,q_peer,q_peerPort,q_state,q_untl⟩:=hw;generalize szN (sessionN p) left=ans at *;obtain ⟨proto,inn,inPort,peer,peerPort,state,untl⟩:=p;unfold ssC;dsimp only at *;unfold maxLen at *;clear q_proto q_inPort q_peerPort q_state q_untl;have HZ:Hid (Below w.heap.size w (w.alloc (.cells (SsR proto inn inPort peer peerPort state untl).toArray 86))):=(Below.refl _ _).alloc (Nat.le_refl _) _;by_cases l0:left < (inn.size:Int)
 ·have HV:Hid (ans=-1):=by unfold Hid; rw [HV0.out,szN_yes l0]
  clear HV0;go_enter Tryz.func49,Tryz.ntmps49
  go_wp2_with fail
  go_ret;exact ⟨ret_int HV.out.symm,HZ.out⟩
 ·skip
  by_cases l1:left-inn.size < (peer.size:Int)
  ·have HV:Hid (ans=-1):=by unfold Hid; rw [HV0.out,szN_no l0,szN_yes l1]
   clear HV0;go_enter Tryz.func49,Tryz.ntmps49
   go_wp2_with fail
   go_ret;exact ⟨ret_int HV.out.symm,HZ.out⟩
  ·have HV:Hid (ans=left-inn.size-peer.size):=by unfold Hid; rw [HV0.out,szN_no l0,szN_no l1]; rfl
   clear HV0;go_enter Tryz.func49,Tryz.ntmps49
   go_wp2_with fail
   go_ret;exact ⟨ret_int HV.out.symm,HZ.out⟩
theorem szSessionS_at (xs:List Ss) (a:Option Addr) (cap:Nat) (left:Int) (w:World) (hwf:SssWf xs) (hr:SlIs ssL 7 w a xs) (h0:0≤left) (h1:left≤1048576) :
  Cb 27 #[.slice a xs.length cap,iV left] w (iV (szSl sessionN xs left)):=by
 have hlm:=hwf.1;unfold maxLen at hlm;by_cases hlong:left < (xs.length:Int)
 ·have HV:Hid (szSl sessionN xs left=-1):=if_pos hlong;clear hr hwf;generalize szSl sessionN xs left=ans at *;go_enter Tryz.func27,Tryz.ntmps27
  go_wp2_with fail
  go_ret;exact ⟨ret_int HV.out.symm,Below.refl _ _⟩
 ·have HV:Hid (szSl sessionN xs left=szL (xs.map sessionN) (left-xs.length)):=if_neg hlong;have HR:Hid (SlIs ssL 7 w a xs):=hr;have HW:Hid (SssWf xs):=hwf;clear hr hwf;generalize szSl sessionN xs left=ans at *;go_enter Tryz.func27,Tryz.ntmps27
  go_wp2_with fail
  go_loopw [1,5] (fun l i wr=>∃ (k:Nat) (lf:Int),k≤xs.length∧i=iV k∧l=iV lf∧0≤lf∧lf≤1048576∧szL (xs.map sessionN) (left-xs.length)=szL ((xs.drop k).map sessionN) lf∧Below w.heap.size w wr) (fun _ i _=>xs.length-(intOf i).toNat)
  case atStart=>exact ⟨0,left-xs.length,Nat.zero_le _,rfl,rfl,by omega,by omega,rfl,Below.refl _ _⟩
  case round =>
   obtain ⟨k,lf,hk,rfl,rfl,hl0,hl1,hz,hbel⟩:=hrel;have HK:Hid _:=hz;have HL:Hid (Below w.heap.size w wr):=hbel;clear hz hbel;by_cases hlt:k < xs.length
   ·obtain ⟨b,off,rfl,hb,hat⟩:=HR.out.at hlt;have HA:=(hat.below hb HL.out) k hlt;have hst:=szL_drop (f:=sessionN) hlt lf;have hq2:=HW.out.2 xs[k] (List.getElem_mem hlt);obtain ⟨q,hq⟩ : ∃ q,q=xs[k]:=⟨_,rfl⟩;rw [← hq] at HA hst hq2;have c0:wr.cell? ⟨b,off+k*7,none⟩=some (iV q.proto):=HA 0 _ rfl;have c1:wr.cell? ⟨b,off+k*7+1,none⟩=some (.string q.inn):=HA 1 _ rfl;have c2:wr.cell? ⟨b,off+k*7+2,none⟩=some (iV q.inPort):=HA 2 _ rfl;have c3:wr.cell? ⟨b,off+k*7+3,none⟩=some (.string q.peer):=HA 3 _ rfl;have c4:wr.cell? ⟨b,off+k*7+4,none⟩=some (iV q.peerPort):=HA 4 _ rfl;have c5:wr.cell? ⟨b,off+k*7+5,none⟩=some (iV q.state):=HA 5 _ rfl;have c6:wr.cell? ⟨b,off+k*7+6,none⟩=some (iV q.untl):=HA 6 _ rfl;have HST:Hid _:=hst;have hrg:=szN_range (sessionN q) lf hl0;have HC:Hid (∀ W,Cb 49 #[ssC q,iV lf] W (iV (szN (sessionN q) lf))):=fun W=>szSession_at q lf W hq2 hl0 hl1
    clear hq HA hat hst hq2;generalize szN (sessionN q) lf=nx at *;unfold ssC at HC;by_cases hs:nx < 0
    ·have HX:Hid (ans=-1):=by unfold Hid; rw [HV.out,HK.out,HST.out,if_pos hs]
     go_wp2_with fail
     refine (HC.out _).mono ?_;rintro e w1 ⟨rfl,q1⟩;go_wp2_with fail
     go_ret;exact ⟨ret_int HX.out.symm,HL.out.trans (q1.mono HL.out.size)⟩
    ·have HX:Hid (szL ((xs.drop k).map sessionN) lf=szL ((xs.drop (k+1)).map sessionN) nx):=HST.out.trans (if_neg hs);have hs0:0≤nx:=by omega
     have hs1:nx≤1048576:=by omega
     clear HST hrg;go_wp2_with fail
     refine (HC.out _).mono ?_;rintro e w1 ⟨rfl,q1⟩;have HL1:Hid _:=HL.out.trans (q1.mono HL.out.size);clear q1;go_wp2_with fail
     go_roundw
     case rel=>exact ⟨k+1,nx,by omega,by go_num,rfl,hs0,hs1,by rw [HK.out,HX.out],HL1.out⟩
     case measure=>simp [intOf]; omega
   ·have HX:Hid (ans=lf):=by unfold Hid; rw [HV.out,HK.out,szL_end (by omega)]
    go_wp2_with fail
    go_ret;exact ⟨ret_int HX.out.symm,HL.out⟩
theorem Tryz.infoSs:(Tryz.prog.info? 103).map (fun i=>(i.zero,i.size,i.bytes))=some (some (.agg (SsR 0 ⟨#[]⟩ 0 ⟨#[]⟩ 0 0 0).toArray),7,72):=by kernel_rfl
theorem toSessionS_any (xs:List Ss) (a:Option Addr) (cap:Nat) (w:World) (hlen:xs.length≤1048576) (hr:SlIs ssL 7 w a xs) :
  Calls Tryz.prog 34 #[.slice a xs.length cap] w fun e w'=>e=.returned (.slice (some ⟨w.heap.size,0,none⟩) xs.length xs.length)∧Below w.heap.size w w'∧SlLaid ssL 7 w' w.heap.size xs xs.length xs.length:=by
 have HR:Hid (SlIs ssL 7 w a xs):=hr;clear hr;obtain ⟨i0,hi,hz0,hz1,hz2⟩:=info_parts Tryz.infoSs;go_enter Tryz.func34,Tryz.ntmps34
 go_wp2_with (at_make; refine wpList_make_full _ rfl _ _ 37 rfl w.heap.size 103 i0 (.agg (SsR 0 ⟨#[]⟩ 0 ⟨#[]⟩ 0 0 0).toArray) 7 Tryz.underlying37 hi hz0 hz1 .i64 .i64 _ _ xs.length rfl rfl (by omega) (by omega) (by rw [hz2]; omega) (by unfold maxLen; omega) (Nat.le_refl _) ?_; intro w1 hown hgrow)
 have hlaid:SlLaid ssL 7 w1 w.heap.size xs xs.length 0:=SlLaid.start hown;have hbel:Below w.heap.size w w1:=⟨hgrow.os,hgrow.tape,hgrow.output,hgrow.size,fun k hk=>hgrow.block k hk (by simp)⟩;have HY:Hid (SlLaid ssL 7 w1 w.heap.size xs xs.length 0):=hlaid;have HB:Hid (Below w.heap.size w w1):=hbel;clear hown hgrow hlaid hbel hi hz0 hz1 hz2;go_wp2_with fail
 go_loopw [4] (fun i wr=>∃ k:Nat,k≤xs.length∧i=iV k∧SlLaid ssL 7 wr w.heap.size xs xs.length k∧Below w.heap.size w wr) (fun i _=>xs.length-(intOf i).toNat)
 case atStart=>exact ⟨0,Nat.zero_le _,rfl,HY.out,HB.out⟩
 case round =>
  obtain ⟨k,hk,rfl,hy,hbel⟩:=hrel;have HK:Hid (SlLaid ssL 7 wr w.heap.size xs xs.length k):=hy;have HL:Hid (Below w.heap.size w wr):=hbel;clear hy hbel;by_cases hlt:k < xs.length
  ·obtain ⟨b,off,rfl,hb,hat⟩:=HR.out.at hlt;have HA:=(hat.below hb HL.out) k hlt;obtain ⟨q,hq⟩ : ∃ q,q=xs[k]:=⟨_,rfl⟩;rw [← hq] at HA;have c0:wr.cell? ⟨b,off+k*7,none⟩=some (iV q.proto):=HA 0 _ rfl;have c1:wr.cell? ⟨b,off+k*7+1,none⟩=some (.string q.inn):=HA 1 _ rfl;have c2:wr.cell? ⟨b,off+k*7+2,none⟩=some (iV q.inPort):=HA 2 _ rfl;have c3:wr.cell? ⟨b,off+k*7+3,none⟩=some (.string q.peer):=HA 3 _ rfl;have c4:wr.cell? ⟨b,off+k*7+4,none⟩=some (iV q.peerPort):=HA 4 _ rfl;have c5:wr.cell? ⟨b,off+k*7+5,none⟩=some (iV q.state):=HA 5 _ rfl;have c6:wr.cell? ⟨b,off+k*7+6,none⟩=some (iV q.untl):=HA 6 _ rfl;have HQ:Hid (q=xs[k]):=hq;have HC:Hid (∀ W,Cb 58 #[ssC q] W (ssC q)):=fun W=>toSession_any q W
   unfold ssC at HC;clear hq HA hat;go_wp2_with fail
   refine (HC.out _).mono ?_;rintro e w2 ⟨rfl,q2⟩;have HL2:Hid _:=HL.out.trans (q2.mono HL.out.size);have HK2:Hid (SlLaid ssL 7 w2 w.heap.size xs xs.length k):=HK.out.kept q2;clear q2 c0 c1 c2 c3 c4 c5 c6;obtain ⟨v0,t0⟩:=Option.isSome_iff_exists.1 (HK2.out.there (k*7) (by omega));have f0:=HK2.out.free (k*7) (by omega);obtain ⟨v1,t1⟩:=Option.isSome_iff_exists.1 (HK2.out.there (k*7+1) (by omega));have f1:=HK2.out.free (k*7+1) (by omega);obtain ⟨v2,t2⟩:=Option.isSome_iff_exists.1 (HK2.out.there (k*7+2) (by omega));have f2:=HK2.out.free (k*7+2) (by omega);obtain ⟨v3,t3⟩:=Option.isSome_iff_exists.1 (HK2.out.there (k*7+3) (by omega));have f3:=HK2.out.free (k*7+3) (by omega);obtain ⟨v4,t4⟩:=Option.isSome_iff_exists.1 (HK2.out.there (k*7+4) (by omega));have f4:=HK2.out.free (k*7+4) (by omega);obtain ⟨v5,t5⟩:=Option.isSome_iff_exists.1 (HK2.out.there (k*7+5) (by omega));have f5:=HK2.out.free (k*7+5) (by omega);obtain ⟨v6,t6⟩:=Option.isSome_iff_exists.1 (HK2.out.there (k*7+6) (by omega));have f6:=HK2.out.free (k*7+6) (by omega);go_wp2_with fail
   go_roundw
   case rel =>
    have hset:=HK2.out.set ssL_length hlt hlt;rw [← HQ.out] at hset;exact ⟨k+1,by omega,by go_num,hset,(((((((HL2.out.setCell (Nat.le_refl _) _).setCell (Nat.le_refl _) _).setCell (Nat.le_refl _) _).setCell (Nat.le_refl _) _).setCell (Nat.le_refl _) _).setCell (Nat.le_refl _) _).setCell (Nat.le_refl _) _)⟩
   case measure=>simp [intOf]; omega
  ·have hkl:k=xs.length:=by omega
   have HE:Hid (SlLaid ssL 7 wr w.heap.size xs xs.length xs.length):=by have h:=HK.out; rw [hkl] at h; exact h
   clear HK;go_wp2_with fail
   go_ret;exact ⟨rfl,HL.out,HE.out⟩
theorem eqSessionS_same (xs:List Ss) (a1 a2:Option Addr) (cap1 cap2:Nat) (w:World) (hlen:xs.length≤1048576) (h1:SlIs ssL 7 w a1 xs) (h2:SlIs ssL 7 w a2 xs) :
  Cb 41 #[.slice a1 xs.length cap1,.slice a2 xs.length cap2] w (.bool true):=by
 have H1:Hid (SlIs ssL 7 w a1 xs):=h1;have H2:Hid (SlIs ssL 7 w a2 xs):=h2;clear h1 h2;go_enter Tryz.func41,Tryz.ntmps41
 go_wp2_with fail
 go_loopw [5] (fun i wr=>∃ k:Nat,k≤xs.length∧i=iV k∧Below w.heap.size w wr) (fun i _=>xs.length-(intOf i).toNat)
 case atStart=>exact ⟨0,Nat.zero_le _,rfl,Below.refl _ _⟩
 case round =>
  obtain ⟨k,hk,rfl,hbel⟩:=hrel;have HL:Hid (Below w.heap.size w wr):=hbel;clear hbel;by_cases hlt:k < xs.length
  ·obtain ⟨b1,o1,rfl,hb1,hA⟩:=H1.out.at hlt;obtain ⟨b2,o2,rfl,hb2,hB⟩:=H2.out.at hlt;have hA:=(hA.below hb1 HL.out) k hlt;have hB:=(hB.below hb2 HL.out) k hlt;obtain ⟨q,hq⟩ : ∃ q,q=xs[k]:=⟨_,rfl⟩;rw [← hq] at hA hB;have c0:wr.cell? ⟨b1,o1+k*7,none⟩=some (iV q.proto):=hA 0 _ rfl;have c1:wr.cell? ⟨b1,o1+k*7+1,none⟩=some (.string q.inn):=hA 1 _ rfl;have c2:wr.cell? ⟨b1,o1+k*7+2,none⟩=some (iV q.inPort):=hA 2 _ rfl;have c3:wr.cell? ⟨b1,o1+k*7+3,none⟩=some (.string q.peer):=hA 3 _ rfl;have c4:wr.cell? ⟨b1,o1+k*7+4,none⟩=some (iV q.peerPort):=hA 4 _ rfl;have c5:wr.cell? ⟨b1,o1+k*7+5,none⟩=some (iV q.state):=hA 5 _ rfl;have c6:wr.cell? ⟨b1,o1+k*7+6,none⟩=some (iV q.untl):=hA 6 _ rfl;have d0:wr.cell? ⟨b2,o2+k*7,none⟩=some (iV q.proto):=hB 0 _ rfl;have d1:wr.cell? ⟨b2,o2+k*7+1,none⟩=some (.string q.inn):=hB 1 _ rfl;have d2:wr.cell? ⟨b2,o2+k*7+2,none⟩=some (iV q.inPort):=hB 2 _ rfl;have d3:wr.cell? ⟨b2,o2+k*7+3,none⟩=some (.string q.peer):=hB 3 _ rfl;have d4:wr.cell? ⟨b2,o2+k*7+4,none⟩=some (iV q.peerPort):=hB 4 _ rfl;have d5:wr.cell? ⟨b2,o2+k*7+5,none⟩=some (iV q.state):=hB 5 _ rfl;have d6:wr.cell? ⟨b2,o2+k*7+6,none⟩=some (iV q.untl):=hB 6 _ rfl;have HC:Hid (∀ W,Cb 65 #[ssC q,ssC q] W (.bool true)):=fun W=>eqSession_same q W
   unfold ssC at HC;clear hq hA hB;go_wp2_with fail
   go_region_with (go_at_call 65; refine (HC.out _).mono ?_; rintro e w2 ⟨rfl,q2⟩)
   all_goals
    have HL2:Hid _:=HL.out.trans ((below_undrew q2).mono HL.out.size);clear q2;go_wp2_with fail
    go_roundw
    case rel=>exact ⟨k+1,by omega,by go_num,HL2.out⟩
    case measure=>simp [intOf]; omega
  ·go_wp2_with fail
   go_ret;exact ⟨rfl,HL.out⟩
def sessionM (k:Nat):List Value:=(SsR ((k:Nat):Int) (markV (k+1)) ((k+2:Nat):Int) (markV (k+3)) ((k+4:Nat):Int) ((k+5:Nat):Int) ((k+6:Nat):Int))
theorem sessionM_length (k:Nat):(sessionM k).length=7:=rfl
theorem markSessionS_any (B L cap k:Nat) (w:World) (hk:0 < k) (hL:k+7*L≤1073741824) (hs:SlLaid sessionM 7 w B (marksOf 7 k L) L 0) :
  Calls Tryz.prog 44 #[.slice (some ⟨B,0,none⟩) L cap,iV k] w fun e w'=>e=.returned (iV ((k+7*L:Nat):Int))∧SlLaid sessionM 7 w' B (marksOf 7 k L) L L∧w.grownBy w' (some B):=by
 have HS:Hid _:=hs;clear hs;go_enter Tryz.func44,Tryz.ntmps44
 go_wp2_with fail
 go_loopw [1,5] (fun kv i wr=>∃ m:Nat,m≤L∧i=iV m∧kv=iV ((k+7*m:Nat):Int)∧SlLaid sessionM 7 wr B (marksOf 7 k L) L m∧w.grownBy wr (some B)) (fun _ i _=>L-(intOf i).toNat)
 case atStart=>exact ⟨0,Nat.zero_le _,rfl,rfl,HS.out,World.grownBy.refl _ _⟩
 case round =>
  obtain ⟨m,hm,rfl,rfl,hy,hg⟩:=hrel;have HK:Hid (MkSt sessionM 7 w B k L m [] wr):=MkSt.new hy hg;clear hy hg HS;by_cases hlt:m < L
  ·obtain ⟨kk,hkk⟩ : ∃ kk,kk=k+7*m:=⟨_,rfl⟩;have HKK:Hid (kk=k+7*m):=hkk;rw [← hkk];have hk1:0 < kk:=by omega
   have hk2:kk+7≤1073741824:=by omega
   clear hkk;obtain ⟨v0,t0⟩:=HK.out.there (j:=0) hlt (by omega);have f0:=HK.out.free (j:=0) hlt (by omega);rw [Nat.add_zero] at t0 f0;go_wp2_with fail
   refine (markText_at _ (kk+1) _ (by omega) (by omega) (by omega)).mono ?_;rintro e wA1 ⟨rfl,qA1⟩;have HA1:Hid (MkSt sessionM 7 w B k L m [iV ((kk:Nat):Int)] wA1):=((HK.out.put sessionM_length (by simp) hlt (iV ((kk:Nat):Int)))).call qA1;clear qA1 HK;obtain ⟨v1,t1⟩:=HA1.out.there (j:=1) hlt (by omega);have f1:=HA1.out.free (j:=1) hlt (by omega);obtain ⟨v2,t2⟩:=HA1.out.there (j:=2) hlt (by omega);have f2:=HA1.out.free (j:=2) hlt (by omega);go_wp2_with fail
   refine (markText_at _ (kk+3) _ (by omega) (by omega) (by omega)).mono ?_;rintro e wA3 ⟨rfl,qA3⟩;have HA3:Hid (MkSt sessionM 7 w B k L m (EnV ((kk:Nat):Int) (markV (kk+1)) ((kk+2:Nat):Int)) wA3):=(((HA1.out.put sessionM_length (by simp) hlt (.string (markV (kk+1)))).put sessionM_length (by simp) hlt (iV ((kk+2:Nat):Int)))).call qA3;clear qA3 HA1;clear t1 f1 t2 f2;obtain ⟨v3,t3⟩:=HA3.out.there (j:=3) hlt (by omega);have f3:=HA3.out.free (j:=3) hlt (by omega);obtain ⟨v4,t4⟩:=HA3.out.there (j:=4) hlt (by omega);have f4:=HA3.out.free (j:=4) hlt (by omega);obtain ⟨v5,t5⟩:=HA3.out.there (j:=5) hlt (by omega);have f5:=HA3.out.free (j:=5) hlt (by omega);obtain ⟨v6,t6⟩:=HA3.out.there (j:=6) hlt (by omega);have f6:=HA3.out.free (j:=6) hlt (by omega);go_wp2_with fail
   go_roundw
   case rel =>
    have hF:MkSt sessionM 7 w B k L m (sessionM kk) _:=((((HA3.out.put sessionM_length (by simp) hlt (.string (markV (kk+3)))).put sessionM_length (by simp) hlt (iV ((kk+4:Nat):Int))).put sessionM_length (by simp) hlt (iV ((kk+5:Nat):Int))).put sessionM_length (by simp) hlt (iV ((kk+6:Nat):Int)));exact ⟨m+1,by omega,by go_num,by have:=HKK.out; congr 1; omega,hF.next sessionM_length (by rw [HKK.out]) hlt,hF.grown⟩
   case measure=>simp [intOf]; omega
  ·have hml:m=L:=by omega
   have HE:Hid (SlLaid sessionM 7 wr B (marksOf 7 k L) L L∧w.grownBy wr (some B)):=⟨by have h:=HK.out.laid; rw [hml] at h; exact h,HK.out.grown⟩;clear HK;go_wp2_with fail
   go_ret;exact ⟨ret_int (by rw [hml]),HE.out.1,HE.out.2⟩
theorem heldSessionS_any (B L cap k:Nat) (w:World) (hk:0 < k) (hL:k+7*L≤1073741824) (hs:SlLaid sessionM 7 w B (marksOf 7 k L) L L) :
  Cb 68 #[.slice (some ⟨B,0,none⟩) L cap,iV k] w (iV ((k+7*L:Nat):Int)):=by
 have hblk:=hs.blk;have HS:Hid _:=hs;clear hs;go_enter Tryz.func68,Tryz.ntmps68
 go_wp2_with fail
 go_loopw [1,5] (fun kv i wr=>∃ m:Nat,m≤L∧i=iV m∧kv=iV ((k+7*m:Nat):Int)∧Below w.heap.size w wr) (fun _ i _=>L-(intOf i).toNat)
 case atStart=>exact ⟨0,Nat.zero_le _,rfl,rfl,Below.refl _ _⟩
 case round =>
  obtain ⟨m,hm,rfl,rfl,hbel⟩:=hrel;have HL:Hid (Below w.heap.size w wr):=hbel;clear hbel;by_cases hlt:m < L
  ·have hR:=(HS.out.kept HL.out).at0 m (by rw [marksOf_length]; exact hlt) hlt;rw [marksOf_get] at hR;have hbr:B < wr.heap.size:=Nat.lt_of_lt_of_le hblk HL.out.size;obtain ⟨kk,hkk⟩ : ∃ kk,kk=k+7*m:=⟨_,rfl⟩;have HKK:Hid (kk=k+7*m):=hkk;rw [← hkk] at hR ⊢;have hk1:0 < kk:=by omega
   have hk2:kk+7≤1073741824:=by omega
   clear hkk;have c0:wr.cell? ⟨B,m*7,none⟩=some (iV ((kk:Int))):=hR 0 _ rfl;have c1:wr.cell? ⟨B,m*7+1,none⟩=some (.string (markV (kk+1))):=hR 1 _ rfl;have c2:wr.cell? ⟨B,m*7+2,none⟩=some (iV ((kk:Int)+1+1)):=hR 2 _ rfl;have c3:wr.cell? ⟨B,m*7+3,none⟩=some (.string (markV (kk+3))):=hR 3 _ rfl;have c4:wr.cell? ⟨B,m*7+4,none⟩=some (iV ((kk:Int)+1+1+1+1)):=hR 4 _ rfl;have c5:wr.cell? ⟨B,m*7+5,none⟩=some (iV ((kk:Int)+1+1+1+1+1)):=hR 5 _ rfl;have c6:wr.cell? ⟨B,m*7+6,none⟩=some (iV ((kk:Int)+1+1+1+1+1+1)):=hR 6 _ rfl;clear hR;go_upto_region 7 with fail
   go_cut [28] (fun v wx=>v=.bool false∧Below wr.heap.size wr wx)
   case first =>
    rename_i J K2 hJ hK2;refine wp_region_growL (Rs:=[IsV (.slice (some ⟨B,0,none⟩) L cap),IsV (iV (m:Int)),IsV (.pointer (some ⟨B,m*7,none⟩)),IsV (.pointer (some ⟨B,m*7+1,none⟩)),IsV (.string (markV (kk+1))),IsV (iV ((kk:Int)+1)),IsV (.string (markV (kk+1))),IsV (.bool false)]) [21,22,23,24,25,26,27,28] (by kernel_rfl) (by kernel_rfl) rfl ?st ?steps ?done
    case st=>simp [stable_isV,stable_isRow]
    case steps =>
     refine ⟨?s0,?s1,?s2,?s3,?s4,?s5,?s6,?s7,trivial⟩
     case s0 =>
      intro K' a wy ho hd hb hK;have h3:=ho 0 (by decide);simp [slot] at h3;clear hd;go_simp;try go_bits
      exact hK _ _ rfl (Below.refl _ _)
     case s1 =>
      intro K' a wy ho hd hb hK;have h3:=ho 5 (by decide);simp [slot] at h3;clear hd;go_simp;try go_bits
      exact hK _ _ rfl (Below.refl _ _)
     case s2 =>
      intro K' a wy ho hd hb hK;simp [Region.binds,rAt,IsV,slot] at hd;go_simp;try go_bits
      exact hK _ _ rfl (Below.refl _ _)
     case s3 =>
      intro K' a wy ho hd hb hK;simp [Region.binds,rAt,IsV,slot] at hd;go_simp;try go_bits
      exact hK _ _ rfl (Below.refl _ _)
     case s4 =>
      intro K' a wy ho hd hb hK;simp [Region.binds,rAt,IsV,slot] at hd;have hcx:=((bcell (Below.trans (Below.refl _ _).drew hb)).1 B _ hbr).trans c1;go_simp;try go_bits
      exact hK _ _ rfl (Below.refl _ _)
     case s5 =>
      intro K' a wy ho hd hb hK;have h3:=ho 1 (by decide);simp [slot] at h3;clear hd;go_simp;try go_bits
      exact hK _ _ rfl (Below.refl _ _)
     case s6 =>
      intro K' a wy ho hd hb hK;simp [Region.binds,rAt,IsV,slot] at hd;go_simp;refine (markText_at _ (kk+1) wy (by omega) (by omega) (by omega)).mono ?_;rintro e wz ⟨rfl,hz⟩;exact hK _ _ rfl hz
     case s7 =>
      intro K' a wy ho hd hb hK;simp [Region.binds,rAt,IsV,slot] at hd;go_simp;try go_bits
      exact hK _ _ rfl (Below.refl _ _)
    case done =>
     intro X wz hR hz;simp only [List.nil_append,List.cons_append,RAll,IsV] at hR;simp only [putsFrom,hR];clear hR;go_simp;refine hK2 _ _ (hJ _ _ ?_);(repeat apply Exists.intro)
     refine ⟨⟨rfl,(Below.refl _ wr).drew.trans hz⟩,rfl⟩
   case rest =>
   obtain ⟨rfl,hb1⟩:=hcut;generalize wc=wx1 at *;have HL1:Hid _:=HL.out.trans (hb1.mono HL.out.size);replace c2:=((bcell hb1).1 B _ hbr).trans c2;replace c3:=((bcell hb1).1 B _ hbr).trans c3;replace c4:=((bcell hb1).1 B _ hbr).trans c4;replace c5:=((bcell hb1).1 B _ hbr).trans c5;replace c6:=((bcell hb1).1 B _ hbr).trans c6;replace hbr:=Nat.lt_of_lt_of_le hbr hb1.size;clear hb1  c1;go_upto_region 13 with fail
   go_cut [47] (fun v wx=>v=.bool false∧Below wx1.heap.size wx1 wx)
   case first =>
    rename_i J K2 hJ hK2;refine wp_region_growL (Rs:=[IsV (.slice (some ⟨B,0,none⟩) L cap),IsV (iV (m:Int)),IsV (.pointer (some ⟨B,m*7,none⟩)),IsV (.pointer (some ⟨B,m*7+3,none⟩)),IsV (.string (markV (kk+3))),IsV (iV ((kk:Int)+1+1+1)),IsV (.string (markV (kk+3))),IsV (.bool false)]) [40,41,42,43,44,45,46,47] (by kernel_rfl) (by kernel_rfl) rfl ?st ?steps ?done
    case st=>simp [stable_isV,stable_isRow]
    case steps =>
     refine ⟨?s0,?s1,?s2,?s3,?s4,?s5,?s6,?s7,trivial⟩
     case s0 =>
      intro K' a wy ho hd hb hK;have h3:=ho 0 (by decide);simp [slot] at h3;clear hd;go_simp;try go_bits
      exact hK _ _ rfl (Below.refl _ _)
     case s1 =>
      intro K' a wy ho hd hb hK;have h3:=ho 5 (by decide);simp [slot] at h3;clear hd;go_simp;try go_bits
      exact hK _ _ rfl (Below.refl _ _)
     case s2 =>
      intro K' a wy ho hd hb hK;simp [Region.binds,rAt,IsV,slot] at hd;go_simp;try go_bits
      exact hK _ _ rfl (Below.refl _ _)
     case s3 =>
      intro K' a wy ho hd hb hK;simp [Region.binds,rAt,IsV,slot] at hd;go_simp;try go_bits
      exact hK _ _ rfl (Below.refl _ _)
     case s4 =>
      intro K' a wy ho hd hb hK;simp [Region.binds,rAt,IsV,slot] at hd;have hcx:=((bcell (Below.trans (Below.refl _ _).drew hb)).1 B _ hbr).trans c3;go_simp;try go_bits
      exact hK _ _ rfl (Below.refl _ _)
     case s5 =>
      intro K' a wy ho hd hb hK;have h3:=ho 1 (by decide);simp [slot] at h3;clear hd;go_simp;try go_bits
      exact hK _ _ rfl (Below.refl _ _)
     case s6 =>
      intro K' a wy ho hd hb hK;simp [Region.binds,rAt,IsV,slot] at hd;go_simp;refine (markText_at _ (kk+3) wy (by omega) (by omega) (by omega)).mono ?_;rintro e wz ⟨rfl,hz⟩;exact hK _ _ rfl hz
     case s7 =>
      intro K' a wy ho hd hb hK;simp [Region.binds,rAt,IsV,slot] at hd;go_simp;try go_bits
      exact hK _ _ rfl (Below.refl _ _)
    case done =>
     intro X wz hR hz;simp only [List.nil_append,List.cons_append,RAll,IsV] at hR;simp only [putsFrom,hR];clear hR;go_simp;refine hK2 _ _ (hJ _ _ ?_);(repeat apply Exists.intro)
     refine ⟨⟨rfl,(Below.refl _ wx1).drew.trans hz⟩,rfl⟩
   case rest =>
   obtain ⟨rfl,hb3⟩:=hcut;generalize wc=wx3 at *;have HL3:Hid _:=HL1.out.trans (hb3.mono HL1.out.size);replace c4:=((bcell hb3).1 B _ hbr).trans c4;replace c5:=((bcell hb3).1 B _ hbr).trans c5;replace c6:=((bcell hb3).1 B _ hbr).trans c6;replace hbr:=Nat.lt_of_lt_of_le hbr hb3.size;clear hb3 HL1 c3;go_wp2_with fail
   go_roundw
   case rel=>exact ⟨m+1,by omega,by go_num,by have:=HKK.out; congr 1; omega,HL3.out⟩
   case measure=>simp [intOf]; omega
  ·have hml:m=L:=by omega
   go_wp2_with fail
   go_ret;exact ⟨ret_int (by rw [hml]),HL.out⟩
theorem markSessionS_nil (a:Option Addr) (cap k:Nat) (w:World) (hL:k≤1073741824) :
  Cw 44 #[.slice a 0 cap,iV k] w (iV (k:Int)):=by
 go_enter Tryz.func44,Tryz.ntmps44
 go_wp2_with fail
 go_loopw [1,5] (fun kv i wr=>kv=iV k∧i=iV 0∧wr=w) (fun _ _ _=>0)
 case atStart=>exact ⟨rfl,rfl,rfl⟩
 case round =>
  obtain ⟨rfl,rfl,rfl⟩:=hrel;go_wp2_with fail
  go_ret;exact ⟨rfl,rfl⟩
theorem heldSessionS_nil (a:Option Addr) (cap k:Nat) (w:World) (hL:k≤1073741824) :
  Cw 68 #[.slice a 0 cap,iV k] w (iV (k:Int)):=by
 go_enter Tryz.func68,Tryz.ntmps68
 go_wp2_with fail
 go_loopw [1,5] (fun kv i wr=>kv=iV k∧i=iV 0∧wr=w) (fun _ _ _=>0)
 case atStart=>exact ⟨rfl,rfl,rfl⟩
 case round =>
  obtain ⟨rfl,rfl,rfl⟩:=hrel;go_wp2_with fail
  go_ret;exact ⟨rfl,rfl⟩
theorem heldSessionS_own (base L:Nat) (a:Option Addr) (cap k:Nat) (w:World) (hk:0 < k) (hL:k+7*L≤1073741824) (hs:MkOwn 7 sessionM base w a k L) :
  Cb 68 #[.slice a L cap,iV k] w (iV ((k+7*L:Nat):Int)):=by
 rcases hs with rfl | ⟨g,rfl,hb,hl⟩
 ·refine (heldSessionS_nil a cap k w (by omega)).mono ?_;rintro e w' ⟨rfl,rfl⟩;exact ⟨rfl,Below.refl _ _⟩
 ·exact heldSessionS_any g L cap k w hk hL hl
end Go.Proofs.YtcckaeppiamebaaGreatDoor
