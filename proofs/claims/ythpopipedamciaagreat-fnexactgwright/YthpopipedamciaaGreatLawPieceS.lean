import Derived.Test.YthpopipedamciaaGreatMerged1
import Derived.Test.YthpopipedamciaaGreatMerged2
import Derived.Test.YthpopipedamciaaGreatMerged5
import Derived.Test.YthpopipedamciaaGreatGrow
import Derived.Deep.RegionWith
import Derived.Deep.DeepCutAuto
set_option linter.unusedVariables false
set_option linter.unusedSimpArgs false
set_option maxRecDepth 100000
set_option maxHeartbeats 8000000
namespace Go.Proofs.YthpopipedamciaaGreat
open Go.RowKit Go.PlainAid Go.ChangeShapes Go.WideShapes
def pieceN (p:Pc):List Nat:=[p.src.size,p.dst.size,p.data.size]
def PcsWf (xs:List Pc):Prop:=xs.length≤maxLen∧∀ q∈xs,PcWf q
section
variable {H:Type} {enc:TypeId × Value→H} {w:World} {base:Nat} {spare:Nat→Bool} {held:Bool}
theorem elem_Piece {m:Nat} {cs:List Value} {y:DataW H × List MemPlace} (h:DataW.trod enc Tryz.prog w base spare held m 144 cs=some y):∃ q:Pc,cs=pcL q∧PcWf q:=by
 obtain ⟨xs,m',_,_,hl,_,_⟩:=DataW.trod_struct Tryz.underlying144 h;rw [show Tryz.prog.cellsOf 144=8 by kernel_rfl] at hl;match cs,hl with
 | [c0,c1,c2,c3,c4,c5,c6,c7],_ =>
  obtain ⟨m0,y0,h0⟩:=flat_field Tryz.underlying144 h 0 _ rfl rfl (show Tryz.prog.cellsOf 9=1 by kernel_rfl) c0 rfl;obtain ⟨x0,e0,_,g0⟩:=DataW.trod_string Tryz.underlying9 h0;obtain ⟨m1,y1,h1⟩:=flat_field Tryz.underlying144 h 1 _ rfl rfl (show Tryz.prog.cellsOf 9=1 by kernel_rfl) c1 rfl;obtain ⟨x1,e1,_,g1⟩:=DataW.trod_string Tryz.underlying9 h1;obtain ⟨m2,y2,h2⟩:=flat_field Tryz.underlying144 h 2 _ rfl rfl (show Tryz.prog.cellsOf 2=1 by kernel_rfl) c2 rfl;obtain ⟨x2,e2,_,g2⟩:=DataW.trod_int Tryz.underlying2 h2;obtain ⟨m3,y3,h3⟩:=flat_field Tryz.underlying144 h 3 _ rfl rfl (show Tryz.prog.cellsOf 2=1 by kernel_rfl) c3 rfl;obtain ⟨x3,e3,_,g3⟩:=DataW.trod_int Tryz.underlying2 h3;obtain ⟨m4,y4,h4⟩:=flat_field Tryz.underlying144 h 4 _ rfl rfl (show Tryz.prog.cellsOf 2=1 by kernel_rfl) c4 rfl;obtain ⟨x4,e4,_,g4⟩:=DataW.trod_int Tryz.underlying2 h4;obtain ⟨m5,y5,h5⟩:=flat_field Tryz.underlying144 h 5 _ rfl rfl (show Tryz.prog.cellsOf 4=1 by kernel_rfl) c5 rfl;obtain ⟨x5,e5,_⟩:=DataW.trod_bool Tryz.underlying4 h5;obtain ⟨m6,y6,h6⟩:=flat_field Tryz.underlying144 h 6 _ rfl rfl (show Tryz.prog.cellsOf 9=1 by kernel_rfl) c6 rfl;obtain ⟨x6,e6,_,g6⟩:=DataW.trod_string Tryz.underlying9 h6;obtain ⟨m7,y7,h7⟩:=flat_field Tryz.underlying144 h 7 _ rfl rfl (show Tryz.prog.cellsOf 2=1 by kernel_rfl) c7 rfl;obtain ⟨x7,e7,_,g7⟩:=DataW.trod_int Tryz.underlying2 h7;simp only [List.cons.injEq,and_true] at e0 e1 e2 e3 e4 e5 e6 e7;subst e0 e1 e2 e3 e4 e5 e6 e7;exact ⟨⟨x0,x1,x2,x3,x4,x5,x6,x7⟩,rfl,g0,g1,wf64s g2,wf64s g3,wf64s g4,g6,wf64s g7⟩
theorem open_PieceS {fuel:Nat} {a:Option Addr} {len cap:Nat} {x:DataW H × List MemPlace} (h:DataW.trod enc Tryz.prog w base spare held fuel 54 [.slice a len cap]=some x):∃ xs:List Pc,xs.length=len∧PcsWf xs∧SlIs pcL 8 w a xs :=
 open_flat pcL_length (by omega) Tryz.underlying54 (by kernel_rfl) PcWf (fun m cs y h=>elem_Piece h) h
end
theorem szPiece_at (p:Pc) (left:Int) (w:World) (hw:PcWf p) (h0:0≤left) (h1:left≤1048576) :
  Calls Tryz.prog 94 #[pcC p,.int .i64 left] w fun e w'=>e=.returned (.int .i64 (szN (pieceN p) left))∧Below w.heap.size w w':=by
 have HV0:Hid (szN (pieceN p) left=szN [p.src.size,p.dst.size,p.data.size] left):=rfl;obtain ⟨q_src,q_dst,q_proto,q_id,q_off,q_data,q_since⟩:=hw;generalize szN (pieceN p) left=ans at *;obtain ⟨src,dst,proto,id,off,more,data,since⟩:=p;unfold pcC;dsimp only at *;unfold maxLen at *;clear q_proto q_id q_off q_since;have HZ:Hid (Below w.heap.size w (w.alloc (.cells #[.string src,.string dst,.int .i64 proto,.int .i64 id,.int .i64 off,.bool more,.string data,.int .i64 since] 144))):=(Below.refl _ _).alloc (Nat.le_refl _) _;by_cases l0:left < (src.size:Int)
 ·have HV:Hid (ans=-1):=by unfold Hid; rw [HV0.out,szN_yes l0]
  clear HV0;go_enter Tryz.func94,Tryz.ntmps94
  go_wp2_with fail
  go_ret;exact ⟨ret_int HV.out.symm,HZ.out⟩
 ·skip
  by_cases l1:left-src.size < (dst.size:Int)
  ·have HV:Hid (ans=-1):=by unfold Hid; rw [HV0.out,szN_no l0,szN_yes l1]
   clear HV0;go_enter Tryz.func94,Tryz.ntmps94
   go_wp2_with fail
   go_ret;exact ⟨ret_int HV.out.symm,HZ.out⟩
  ·skip
   by_cases l2:left-src.size-dst.size < (data.size:Int)
   ·have HV:Hid (ans=-1):=by unfold Hid; rw [HV0.out,szN_no l0,szN_no l1,szN_yes l2]
    clear HV0;go_enter Tryz.func94,Tryz.ntmps94
    go_wp2_with fail
    go_ret;exact ⟨ret_int HV.out.symm,HZ.out⟩
   ·have HV:Hid (ans=left-src.size-dst.size-data.size):=by unfold Hid; rw [HV0.out,szN_no l0,szN_no l1,szN_no l2]; rfl
    clear HV0;go_enter Tryz.func94,Tryz.ntmps94
    go_wp2_with fail
    go_ret;exact ⟨ret_int HV.out.symm,HZ.out⟩
theorem szPieceS_at (xs:List Pc) (a:Option Addr) (cap:Nat) (left:Int) (w:World) (hwf:PcsWf xs) (hr:SlIs pcL 8 w a xs) (h0:0≤left) (h1:left≤1048576) :
  Calls Tryz.prog 46 #[.slice a xs.length cap,.int .i64 left] w fun e w'=>e=.returned (.int .i64 (szSl pieceN xs left))∧Below w.heap.size w w':=by
 have hlm:=hwf.1;unfold maxLen at hlm;by_cases hlong:left < (xs.length:Int)
 ·have HV:Hid (szSl pieceN xs left=-1):=if_pos hlong;clear hr hwf;generalize szSl pieceN xs left=ans at *;go_enter Tryz.func46,Tryz.ntmps46
  go_wp2_with fail
  go_ret;exact ⟨ret_int HV.out.symm,Below.refl _ _⟩
 ·have HV:Hid (szSl pieceN xs left=szL (xs.map pieceN) (left-xs.length)):=if_neg hlong;have HR:Hid (SlIs pcL 8 w a xs):=hr;have HW:Hid (PcsWf xs):=hwf;clear hr hwf;generalize szSl pieceN xs left=ans at *;go_enter Tryz.func46,Tryz.ntmps46
  go_wp2_with fail
  go_loopw [1,5] (fun l i wr=>∃ (k:Nat) (lf:Int),k≤xs.length∧i=.int .i64 k∧l=.int .i64 lf∧0≤lf∧lf≤1048576∧szL (xs.map pieceN) (left-xs.length)=szL ((xs.drop k).map pieceN) lf∧Below w.heap.size w wr) (fun _ i _=>xs.length-(intOf i).toNat)
  case atStart=>exact ⟨0,left-xs.length,Nat.zero_le _,rfl,rfl,by omega,by omega,rfl,Below.refl _ _⟩
  case round =>
   obtain ⟨k,lf,hk,rfl,rfl,hl0,hl1,hz,hbel⟩:=hrel;have HK:Hid _:=hz;have HL:Hid (Below w.heap.size w wr):=hbel;clear hz hbel;by_cases hlt:k < xs.length
   ·obtain ⟨b,off,rfl,hb,hat⟩:=HR.out.at hlt;have HA:=(hat.below hb HL.out) k hlt;have hst:=szL_drop (f:=pieceN) hlt lf;have hq2:=HW.out.2 xs[k] (List.getElem_mem hlt);obtain ⟨q,hq⟩ : ∃ q,q=xs[k]:=⟨_,rfl⟩;rw [← hq] at HA hst hq2;have c0:wr.cell? ⟨b,off+k*8,none⟩=some (.string q.src):=HA 0 _ rfl;have c1:wr.cell? ⟨b,off+k*8+1,none⟩=some (.string q.dst):=HA 1 _ rfl;have c2:wr.cell? ⟨b,off+k*8+2,none⟩=some (.int .i64 q.proto):=HA 2 _ rfl;have c3:wr.cell? ⟨b,off+k*8+3,none⟩=some (.int .i64 q.id):=HA 3 _ rfl;have c4:wr.cell? ⟨b,off+k*8+4,none⟩=some (.int .i64 q.off):=HA 4 _ rfl;have c5:wr.cell? ⟨b,off+k*8+5,none⟩=some (.bool q.more):=HA 5 _ rfl;have c6:wr.cell? ⟨b,off+k*8+6,none⟩=some (.string q.data):=HA 6 _ rfl;have c7:wr.cell? ⟨b,off+k*8+7,none⟩=some (.int .i64 q.since):=HA 7 _ rfl;have HST:Hid _:=hst;have hrg:=szN_range (pieceN q) lf hl0;have HC:Hid (∀ W,Calls Tryz.prog 94 #[pcC q,.int .i64 lf] W fun e w'=>e=.returned (.int .i64 (szN (pieceN q) lf))∧Below W.heap.size W w'):=fun W=>szPiece_at q lf W hq2 hl0 hl1
    clear hq HA hat hst hq2;generalize szN (pieceN q) lf=nx at *;unfold pcC at HC;by_cases hs:nx < 0
    ·have HX:Hid (ans=-1):=by unfold Hid; rw [HV.out,HK.out,HST.out,if_pos hs]
     go_wp2_with fail
     refine (HC.out _).mono ?_;rintro e w1 ⟨rfl,q1⟩;go_wp2_with fail
     go_ret;exact ⟨ret_int HX.out.symm,HL.out.trans (q1.mono HL.out.size)⟩
    ·have HX:Hid (szL ((xs.drop k).map pieceN) lf=szL ((xs.drop (k+1)).map pieceN) nx):=HST.out.trans (if_neg hs);have hs0:0≤nx:=by omega
     have hs1:nx≤1048576:=by omega
     clear HST hrg;go_wp2_with fail
     refine (HC.out _).mono ?_;rintro e w1 ⟨rfl,q1⟩;have HL1:Hid (Below w.heap.size w w1):=HL.out.trans (q1.mono HL.out.size);clear q1;go_wp2_with fail
     go_roundw
     case rel=>exact ⟨k+1,nx,by omega,by go_num,rfl,hs0,hs1,by rw [HK.out,HX.out],HL1.out⟩
     case measure=>simp [intOf]; omega
   ·have HX:Hid (ans=lf):=by unfold Hid; rw [HV.out,HK.out,szL_end (by omega)]
    go_wp2_with fail
    go_ret;exact ⟨ret_int HX.out.symm,HL.out⟩
theorem Tryz.infoPc:(Tryz.prog.info? 129).map (fun i=>(i.zero,i.size,i.bytes))=some (some (.agg #[.string ⟨#[]⟩,.string ⟨#[]⟩,.int .i64 0,.int .i64 0,.int .i64 0,.bool false,.string ⟨#[]⟩,.int .i64 0]),8,88):=by kernel_rfl
theorem toPieceS_any (xs:List Pc) (a:Option Addr) (cap:Nat) (w:World) (hlen:xs.length≤1048576) (hr:SlIs pcL 8 w a xs) :
  Calls Tryz.prog 55 #[.slice a xs.length cap] w fun e w'=>e=.returned (.slice (some ⟨w.heap.size,0,none⟩) xs.length xs.length)∧Below w.heap.size w w'∧SlLaid pcL 8 w' w.heap.size xs xs.length xs.length:=by
 have HR:Hid (SlIs pcL 8 w a xs):=hr;clear hr;obtain ⟨i0,hi,hz0,hz1,hz2⟩:=info_parts Tryz.infoPc;go_enter Tryz.func55,Tryz.ntmps55
 go_wp2_with (at_make; refine wpList_make_full _ rfl _ _ 37 rfl w.heap.size 129 i0 (.agg #[.string ⟨#[]⟩,.string ⟨#[]⟩,.int .i64 0,.int .i64 0,.int .i64 0,.bool false,.string ⟨#[]⟩,.int .i64 0]) 8 Tryz.underlying37 hi hz0 hz1 .i64 .i64 _ _ xs.length rfl rfl (by omega) (by omega) (by rw [hz2]; omega) (by unfold maxLen; omega) (Nat.le_refl _) ?_; intro w1 hown hgrow)
 have hlaid:SlLaid pcL 8 w1 w.heap.size xs xs.length 0:=SlLaid.start hown;have hbel:Below w.heap.size w w1:=⟨hgrow.os,hgrow.tape,hgrow.output,hgrow.size,fun k hk=>hgrow.block k hk (by simp)⟩;have HY:Hid (SlLaid pcL 8 w1 w.heap.size xs xs.length 0):=hlaid;have HB:Hid (Below w.heap.size w w1):=hbel;clear hown hgrow hlaid hbel hi hz0 hz1 hz2;go_wp2_with fail
 go_loopw [4] (fun i wr=>∃ k:Nat,k≤xs.length∧i=.int .i64 k∧SlLaid pcL 8 wr w.heap.size xs xs.length k∧Below w.heap.size w wr) (fun i _=>xs.length-(intOf i).toNat)
 case atStart=>exact ⟨0,Nat.zero_le _,rfl,HY.out,HB.out⟩
 case round =>
  obtain ⟨k,hk,rfl,hy,hbel⟩:=hrel;have HK:Hid (SlLaid pcL 8 wr w.heap.size xs xs.length k):=hy;have HL:Hid (Below w.heap.size w wr):=hbel;clear hy hbel;by_cases hlt:k < xs.length
  ·obtain ⟨b,off,rfl,hb,hat⟩:=HR.out.at hlt;have HA:=(hat.below hb HL.out) k hlt;obtain ⟨q,hq⟩ : ∃ q,q=xs[k]:=⟨_,rfl⟩;rw [← hq] at HA;have c0:wr.cell? ⟨b,off+k*8,none⟩=some (.string q.src):=HA 0 _ rfl;have c1:wr.cell? ⟨b,off+k*8+1,none⟩=some (.string q.dst):=HA 1 _ rfl;have c2:wr.cell? ⟨b,off+k*8+2,none⟩=some (.int .i64 q.proto):=HA 2 _ rfl;have c3:wr.cell? ⟨b,off+k*8+3,none⟩=some (.int .i64 q.id):=HA 3 _ rfl;have c4:wr.cell? ⟨b,off+k*8+4,none⟩=some (.int .i64 q.off):=HA 4 _ rfl;have c5:wr.cell? ⟨b,off+k*8+5,none⟩=some (.bool q.more):=HA 5 _ rfl;have c6:wr.cell? ⟨b,off+k*8+6,none⟩=some (.string q.data):=HA 6 _ rfl;have c7:wr.cell? ⟨b,off+k*8+7,none⟩=some (.int .i64 q.since):=HA 7 _ rfl;have HQ:Hid (q=xs[k]):=hq;have HC:Hid (∀ W,Calls Tryz.prog 103 #[pcC q] W fun e w'=>e=.returned (pcC q)∧Below W.heap.size W w'):=fun W=>toPiece_any q W
   unfold pcC at HC;clear hq HA hat;go_wp2_with fail
   refine (HC.out _).mono ?_;rintro e w2 ⟨rfl,q2⟩;have HL2:Hid (Below w.heap.size w w2):=HL.out.trans (q2.mono HL.out.size);have HK2:Hid (SlLaid pcL 8 w2 w.heap.size xs xs.length k):=HK.out.kept q2;clear q2 c0 c1 c2 c3 c4 c5 c6 c7;obtain ⟨v0,t0⟩:=Option.isSome_iff_exists.1 (HK2.out.there (k*8) (by omega));have f0:=HK2.out.free (k*8) (by omega);obtain ⟨v1,t1⟩:=Option.isSome_iff_exists.1 (HK2.out.there (k*8+1) (by omega));have f1:=HK2.out.free (k*8+1) (by omega);obtain ⟨v2,t2⟩:=Option.isSome_iff_exists.1 (HK2.out.there (k*8+2) (by omega));have f2:=HK2.out.free (k*8+2) (by omega);obtain ⟨v3,t3⟩:=Option.isSome_iff_exists.1 (HK2.out.there (k*8+3) (by omega));have f3:=HK2.out.free (k*8+3) (by omega);obtain ⟨v4,t4⟩:=Option.isSome_iff_exists.1 (HK2.out.there (k*8+4) (by omega));have f4:=HK2.out.free (k*8+4) (by omega);obtain ⟨v5,t5⟩:=Option.isSome_iff_exists.1 (HK2.out.there (k*8+5) (by omega));have f5:=HK2.out.free (k*8+5) (by omega);obtain ⟨v6,t6⟩:=Option.isSome_iff_exists.1 (HK2.out.there (k*8+6) (by omega));have f6:=HK2.out.free (k*8+6) (by omega);obtain ⟨v7,t7⟩:=Option.isSome_iff_exists.1 (HK2.out.there (k*8+7) (by omega));have f7:=HK2.out.free (k*8+7) (by omega);go_wp2_with fail
   go_roundw
   case rel =>
    have hset:=HK2.out.set pcL_length hlt hlt;rw [← HQ.out] at hset;exact ⟨k+1,by omega,by go_num,hset,((((((((HL2.out.setCell (Nat.le_refl _) _).setCell (Nat.le_refl _) _).setCell (Nat.le_refl _) _).setCell (Nat.le_refl _) _).setCell (Nat.le_refl _) _).setCell (Nat.le_refl _) _).setCell (Nat.le_refl _) _).setCell (Nat.le_refl _) _)⟩
   case measure=>simp [intOf]; omega
  ·have hkl:k=xs.length:=by omega
   have HE:Hid (SlLaid pcL 8 wr w.heap.size xs xs.length xs.length):=by have h:=HK.out; rw [hkl] at h; exact h
   clear HK;go_wp2_with fail
   go_ret;exact ⟨rfl,HL.out,HE.out⟩
theorem eqPieceS_same (xs:List Pc) (a1 a2:Option Addr) (cap1 cap2:Nat) (w:World) (hlen:xs.length≤1048576) (h1:SlIs pcL 8 w a1 xs) (h2:SlIs pcL 8 w a2 xs) :
  Calls Tryz.prog 59 #[.slice a1 xs.length cap1,.slice a2 xs.length cap2] w fun e w'=>e=.returned (.bool true)∧Below w.heap.size w w':=by
 have H1:Hid (SlIs pcL 8 w a1 xs):=h1;have H2:Hid (SlIs pcL 8 w a2 xs):=h2;clear h1 h2;go_enter Tryz.func59,Tryz.ntmps59
 go_wp2_with fail
 go_loopw [5] (fun i wr=>∃ k:Nat,k≤xs.length∧i=.int .i64 k∧Below w.heap.size w wr) (fun i _=>xs.length-(intOf i).toNat)
 case atStart=>exact ⟨0,Nat.zero_le _,rfl,Below.refl _ _⟩
 case round =>
  obtain ⟨k,hk,rfl,hbel⟩:=hrel;have HL:Hid (Below w.heap.size w wr):=hbel;clear hbel;by_cases hlt:k < xs.length
  ·obtain ⟨b1,o1,rfl,hb1,hA⟩:=H1.out.at hlt;obtain ⟨b2,o2,rfl,hb2,hB⟩:=H2.out.at hlt;have hA:=(hA.below hb1 HL.out) k hlt;have hB:=(hB.below hb2 HL.out) k hlt;obtain ⟨q,hq⟩ : ∃ q,q=xs[k]:=⟨_,rfl⟩;rw [← hq] at hA hB;have c0:wr.cell? ⟨b1,o1+k*8,none⟩=some (.string q.src):=hA 0 _ rfl;have c1:wr.cell? ⟨b1,o1+k*8+1,none⟩=some (.string q.dst):=hA 1 _ rfl;have c2:wr.cell? ⟨b1,o1+k*8+2,none⟩=some (.int .i64 q.proto):=hA 2 _ rfl;have c3:wr.cell? ⟨b1,o1+k*8+3,none⟩=some (.int .i64 q.id):=hA 3 _ rfl;have c4:wr.cell? ⟨b1,o1+k*8+4,none⟩=some (.int .i64 q.off):=hA 4 _ rfl;have c5:wr.cell? ⟨b1,o1+k*8+5,none⟩=some (.bool q.more):=hA 5 _ rfl;have c6:wr.cell? ⟨b1,o1+k*8+6,none⟩=some (.string q.data):=hA 6 _ rfl;have c7:wr.cell? ⟨b1,o1+k*8+7,none⟩=some (.int .i64 q.since):=hA 7 _ rfl;have d0:wr.cell? ⟨b2,o2+k*8,none⟩=some (.string q.src):=hB 0 _ rfl;have d1:wr.cell? ⟨b2,o2+k*8+1,none⟩=some (.string q.dst):=hB 1 _ rfl;have d2:wr.cell? ⟨b2,o2+k*8+2,none⟩=some (.int .i64 q.proto):=hB 2 _ rfl;have d3:wr.cell? ⟨b2,o2+k*8+3,none⟩=some (.int .i64 q.id):=hB 3 _ rfl;have d4:wr.cell? ⟨b2,o2+k*8+4,none⟩=some (.int .i64 q.off):=hB 4 _ rfl;have d5:wr.cell? ⟨b2,o2+k*8+5,none⟩=some (.bool q.more):=hB 5 _ rfl;have d6:wr.cell? ⟨b2,o2+k*8+6,none⟩=some (.string q.data):=hB 6 _ rfl;have d7:wr.cell? ⟨b2,o2+k*8+7,none⟩=some (.int .i64 q.since):=hB 7 _ rfl;have HC:Hid (∀ W,Calls Tryz.prog 106 #[pcC q,pcC q] W fun e w'=>e=.returned (.bool true)∧Below W.heap.size W w'):=fun W=>eqPiece_same q W
   unfold pcC at HC;clear hq hA hB;go_wp2_with fail
   go_region_with (go_at_call 106; refine (HC.out _).mono ?_; rintro e w2 ⟨rfl,q2⟩)
   all_goals
    have HL2:Hid (Below w.heap.size w w2):=HL.out.trans ((below_undrew q2).mono HL.out.size);clear q2;go_wp2_with fail
    go_roundw
    case rel=>exact ⟨k+1,by omega,by go_num,HL2.out⟩
    case measure=>simp [intOf]; omega
  ·go_wp2_with fail
   go_ret;exact ⟨rfl,HL.out⟩
end Go.Proofs.YthpopipedamciaaGreat
