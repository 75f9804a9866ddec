import Derived.Test.YtellgkeakiikkaaFlat
import Derived.Test.YtellgkeakiikkaaPkt
set_option linter.unusedVariables false
set_option linter.unusedSimpArgs false
set_option maxRecDepth 100000
set_option maxHeartbeats 8000000
namespace Go.Proofs.Ytellgkeakiikkaa
open Go.RowKit Go.PlainAid Go.ChangeShapes Go.WideShapes
def P6Wf (p:P6):Prop:=In64t p.cls∧In64t p.flow∧In64t p.next∧In64t p.hops∧p.src.size≤maxLen∧p.dst.size≤maxLen∧In64t p.off∧In64t p.id∧p.data.size≤maxLen
def P6Sm (p:P6):Prop:=p.src.size≤1048576∧p.dst.size≤1048576∧p.data.size≤1048576
def szV6V (p:P6):Int:=szN [p.src.size,p.dst.size,p.data.size] 1048576
theorem szV6_in {p:P6} (h:0≤szV6V p):P6Sm p:=by
 have hb:=szN_bound _ _ h;exact ⟨by have:=hb p.src.size (by simp); omega,by have:=hb p.dst.size (by simp); omega,by have:=hb p.data.size (by simp); omega⟩
structure BoxV6 (w:World) (B:Nat) (p:P6):Prop where
 c0:w.cell? ⟨B,0,none⟩=some (.int .i64 p.cls)
 c1:w.cell? ⟨B,1,none⟩=some (.int .i64 p.flow)
 c2:w.cell? ⟨B,2,none⟩=some (.int .i64 p.next)
 c3:w.cell? ⟨B,3,none⟩=some (.int .i64 p.hops)
 c4:w.cell? ⟨B,4,none⟩=some (.string p.src)
 c5:w.cell? ⟨B,5,none⟩=some (.string p.dst)
 c6:w.cell? ⟨B,6,none⟩=some (.bool p.piece)
 c7:w.cell? ⟨B,7,none⟩=some (.bool p.more)
 c8:w.cell? ⟨B,8,none⟩=some (.int .i64 p.off)
 c9:w.cell? ⟨B,9,none⟩=some (.int .i64 p.id)
 c10:w.cell? ⟨B,10,none⟩=some (.string p.data)
theorem BoxV6.kept {w W:World} {B:Nat} {p:P6} (h:BoxV6 w B p) (hB:Below w.heap.size w W):BoxV6 W B p:=by
 have hb:=World.block_lt_of_cell? w _ h.c0;exact ⟨((bcell hB).1 B 0 hb).trans h.c0,((bcell hB).1 B 1 hb).trans h.c1,((bcell hB).1 B 2 hb).trans h.c2,((bcell hB).1 B 3 hb).trans h.c3,((bcell hB).1 B 4 hb).trans h.c4,((bcell hB).1 B 5 hb).trans h.c5,((bcell hB).1 B 6 hb).trans h.c6,((bcell hB).1 B 7 hb).trans h.c7,((bcell hB).1 B 8 hb).trans h.c8,((bcell hB).1 B 9 hb).trans h.c9,((bcell hB).1 B 10 hb).trans h.c10⟩
theorem BoxV6.new (w:World) (p:P6) {t:TypeId}:BoxV6 (w.alloc (.cells #[.int .i64 p.cls,.int .i64 p.flow,.int .i64 p.next,.int .i64 p.hops,.string p.src,.string p.dst,.bool p.piece,.bool p.more,.int .i64 p.off,.int .i64 p.id,.string p.data] t)) w.heap.size p:=⟨cell_new rfl,cell_new rfl,cell_new rfl,cell_new rfl,cell_new rfl,cell_new rfl,cell_new rfl,cell_new rfl,cell_new rfl,cell_new rfl,cell_new rfl⟩
section
variable {H:Type} {enc:TypeId × Value→H} {w:World} {base:Nat} {spare:Nat→Bool} {held:Bool}
theorem open_V6 {r:Reach} {b0:Nat} {v:Value} {d:DataW H} {p:List MemPlace} (hv:Value.okWide Try.prog w r b0 61 v) (h:DataW.Trod enc Try.prog w base spare held 61 v d p) :
  ∃ q:P6,v=p6C q∧P6Wf q:=by
 obtain ⟨cs,rfl,hsz⟩:=okWide_struct Try.underlying61 hv;obtain ⟨c0,c1,c2,c3,c4,c5,c6,c7,c8,c9,c10,rfl⟩:=arr11 (hsz.trans (show Try.prog.cellsOf 61=11 by kernel_rfl));obtain ⟨fuel,hf⟩:=h;obtain ⟨m0,y0,h0⟩:=flat_field Try.underlying61 hf 0 _ rfl rfl (show Try.prog.cellsOf 2=1 by kernel_rfl) c0 rfl;obtain ⟨x0,e0,_,g0⟩:=DataW.trod_int Try.underlying2 h0;obtain ⟨m1,y1,h1⟩:=flat_field Try.underlying61 hf 1 _ rfl rfl (show Try.prog.cellsOf 2=1 by kernel_rfl) c1 rfl;obtain ⟨x1,e1,_,g1⟩:=DataW.trod_int Try.underlying2 h1;obtain ⟨m2,y2,h2⟩:=flat_field Try.underlying61 hf 2 _ rfl rfl (show Try.prog.cellsOf 2=1 by kernel_rfl) c2 rfl;obtain ⟨x2,e2,_,g2⟩:=DataW.trod_int Try.underlying2 h2;obtain ⟨m3,y3,h3⟩:=flat_field Try.underlying61 hf 3 _ rfl rfl (show Try.prog.cellsOf 2=1 by kernel_rfl) c3 rfl;obtain ⟨x3,e3,_,g3⟩:=DataW.trod_int Try.underlying2 h3;obtain ⟨m4,y4,h4⟩:=flat_field Try.underlying61 hf 4 _ rfl rfl (show Try.prog.cellsOf 9=1 by kernel_rfl) c4 rfl;obtain ⟨x4,e4,_,g4⟩:=DataW.trod_string Try.underlying9 h4;obtain ⟨m5,y5,h5⟩:=flat_field Try.underlying61 hf 5 _ rfl rfl (show Try.prog.cellsOf 9=1 by kernel_rfl) c5 rfl;obtain ⟨x5,e5,_,g5⟩:=DataW.trod_string Try.underlying9 h5;obtain ⟨m6,y6,h6⟩:=flat_field Try.underlying61 hf 6 _ rfl rfl (show Try.prog.cellsOf 4=1 by kernel_rfl) c6 rfl;obtain ⟨x6,e6,_⟩:=DataW.trod_bool Try.underlying4 h6;obtain ⟨m7,y7,h7⟩:=flat_field Try.underlying61 hf 7 _ rfl rfl (show Try.prog.cellsOf 4=1 by kernel_rfl) c7 rfl;obtain ⟨x7,e7,_⟩:=DataW.trod_bool Try.underlying4 h7;obtain ⟨m8,y8,h8⟩:=flat_field Try.underlying61 hf 8 _ rfl rfl (show Try.prog.cellsOf 2=1 by kernel_rfl) c8 rfl;obtain ⟨x8,e8,_,g8⟩:=DataW.trod_int Try.underlying2 h8;obtain ⟨m9,y9,h9⟩:=flat_field Try.underlying61 hf 9 _ rfl rfl (show Try.prog.cellsOf 2=1 by kernel_rfl) c9 rfl;obtain ⟨x9,e9,_,g9⟩:=DataW.trod_int Try.underlying2 h9;obtain ⟨m10,y10,h10⟩:=flat_field Try.underlying61 hf 10 _ rfl rfl (show Try.prog.cellsOf 9=1 by kernel_rfl) c10 rfl;obtain ⟨x10,e10,_,g10⟩:=DataW.trod_string Try.underlying9 h10;simp only [List.cons.injEq,and_true] at e0 e1 e2 e3 e4 e5 e6 e7 e8 e9 e10;subst e0 e1 e2 e3 e4 e5 e6 e7 e8 e9 e10;exact ⟨⟨x0,x1,x2,x3,x4,x5,x6,x7,x8,x9,x10⟩,rfl,wf64s g0,wf64s g1,wf64s g2,wf64s g3,g4,g5,wf64s g8,wf64s g9,g10⟩
end
theorem szV6_any (p:P6) (w:World) (hw:P6Wf p) :
  Calls Try.prog 30 #[p6C p,.int .i64 1048576] w fun e w'=>e=.returned (.int .i64 (szV6V p))∧Below w.heap.size w w':=by
 have HV0:Hid (szV6V p=szN [p.src.size,p.dst.size,p.data.size] 1048576):=rfl;obtain ⟨q_cls,q_flow,q_next,q_hops,q_src,q_dst,q_off,q_id,q_data⟩:=hw;generalize szV6V p=ans at *;obtain ⟨cls,flow,next,hops,src,dst,piece,more,off,id,data⟩:=p;unfold p6C;dsimp only at *;unfold maxLen at *;clear q_cls q_flow q_next q_hops q_off q_id;have HZ:Hid (Below w.heap.size w (w.alloc (.cells #[.int .i64 cls,.int .i64 flow,.int .i64 next,.int .i64 hops,.string src,.string dst,.bool piece,.bool more,.int .i64 off,.int .i64 id,.string data] 61))):=(Below.refl _ _).alloc (Nat.le_refl _) _;by_cases l0:(1048576:Int) < (src.size:Int)
 ·have HV:Hid (ans=-1):=by unfold Hid; rw [HV0.out,szN_yes l0]
  clear HV0;go_enter Try.func30,Try.ntmps30
  go_wp2_with fail
  go_ret;exact ⟨ret_int HV.out.symm,HZ.out⟩
 ·skip
  by_cases l1:(1048576:Int)-src.size < (dst.size:Int)
  ·have HV:Hid (ans=-1):=by unfold Hid; rw [HV0.out,szN_no l0,szN_yes l1]
   clear HV0;go_enter Try.func30,Try.ntmps30
   go_wp2_with fail
   go_ret;exact ⟨ret_int HV.out.symm,HZ.out⟩
  ·skip
   by_cases l2:(1048576:Int)-src.size-dst.size < (data.size:Int)
   ·have HV:Hid (ans=-1):=by unfold Hid; rw [HV0.out,szN_no l0,szN_no l1,szN_yes l2]
    clear HV0;go_enter Try.func30,Try.ntmps30
    go_wp2_with fail
    go_ret;exact ⟨ret_int HV.out.symm,HZ.out⟩
   ·have HV:Hid (ans=(1048576:Int)-src.size-dst.size-data.size):=by unfold Hid; rw [HV0.out,szN_no l0,szN_no l1,szN_no l2]; rfl
    clear HV0;go_enter Try.func30,Try.ntmps30
    go_wp2_with fail
    go_ret;exact ⟨ret_int HV.out.symm,HZ.out⟩
theorem toV6_any (p:P6) (w:World) :
  Calls Try.prog 31 #[p6C p] w fun e w'=>e=.returned (p6C p)∧Below w.heap.size w w':=by
 obtain ⟨cls,flow,next,hops,src,dst,piece,more,off,id,data⟩:=p;unfold p6C;dsimp only;go_enter Try.func31,Try.ntmps31
 go_wp2_with fail
 refine bodyPost_ret (v:=.agg #[.int .i64 cls,.int .i64 flow,.int .i64 next,.int .i64 hops,.string src,.string dst,.bool piece,.bool more,.int .i64 off,.int .i64 id,.string data]) (by simp [results,Try.results31,go_sem]) rfl ⟨rfl,?_⟩;exact (((Below.refl _ _).alloc (Nat.le_refl _) _).alloc (by simp) _).alloc (by simp; omega) _
theorem eqV6_same (p:P6) (w:World) :
  Calls Try.prog 70 #[p6C p,p6C p] w fun e w'=>e=.returned (.bool true)∧Below w.heap.size w w':=by
 obtain ⟨cls,flow,next,hops,src,dst,piece,more,off,id,data⟩:=p;unfold p6C;dsimp only;have HZ:Hid (Below w.heap.size w ((w.alloc (.cells #[.int .i64 cls,.int .i64 flow,.int .i64 next,.int .i64 hops,.string src,.string dst,.bool piece,.bool more,.int .i64 off,.int .i64 id,.string data] 43)).alloc (.cells #[.int .i64 cls,.int .i64 flow,.int .i64 next,.int .i64 hops,.string src,.string dst,.bool piece,.bool more,.int .i64 off,.int .i64 id,.string data] 43))):=((Below.refl _ _).alloc (Nat.le_refl _) _).alloc (by simp) _;go_enter Try.func70,Try.ntmps70
 go_wp2_with fail
 go_ret;exact ⟨rfl,HZ.out⟩
theorem eqV6Out_same (p:P6) (code:Int) (w:World) :
  Calls Try.prog 32 #[p6CO p code,p6CO p code] w fun e w'=>e=.returned (.bool true)∧Below w.heap.size w w':=by
 have HC:Hid (∀ W,Calls Try.prog 70 #[p6C p,p6C p] W fun e w'=>e=.returned (.bool true)∧Below W.heap.size W w'):=fun W=>eqV6_same p W
 obtain ⟨cls,flow,next,hops,src,dst,piece,more,off,id,data⟩:=p;unfold p6C at HC;unfold p6CO;dsimp only at *;have HZ:Hid (Below w.heap.size w ((w.alloc (.cells #[.int .i64 cls,.int .i64 flow,.int .i64 next,.int .i64 hops,.string src,.string dst,.bool piece,.bool more,.int .i64 off,.int .i64 id,.string data,.int .i64 code] 47)).alloc (.cells #[.int .i64 cls,.int .i64 flow,.int .i64 next,.int .i64 hops,.string src,.string dst,.bool piece,.bool more,.int .i64 off,.int .i64 id,.string data,.int .i64 code] 47))):=((Below.refl _ _).alloc (Nat.le_refl _) _).alloc (by simp) _;go_enter Try.func32,Try.ntmps32
 go_wp2_with fail
 refine (HC.out _).mono ?_;rintro e w1 ⟨rfl,q1⟩;have HQ:Hid (Below w.heap.size w w1):=HZ.out.trans (q1.mono HZ.out.size);obtain ⟨hc,hf⟩:=bcell q1;clear q1;go_wp2_with fail
 go_ret;exact ⟨rfl,HQ.out⟩
end Go.Proofs.Ytellgkeakiikkaa
