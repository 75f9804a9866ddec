import Derived.Test.YtcckaeppiamebaaGreatDoorAb
import Derived.Test.YtcckaeppiamebaaGreatDoorMerged1
import Derived.Test.YtcckaeppiamebaaGreatDoorMerged2
import Derived.Deep.DeepCutAuto
import Derived.BigQuiet
set_option linter.unusedVariables false
set_option linter.unusedSimpArgs false
set_option maxRecDepth 100000
set_option maxHeartbeats 8000000
namespace Go.Proofs.YtcckaeppiamebaaGreatDoor
open Go.RowKit Go.PlainAid Go.ChangeShapes Go.WideShapes
structure BoxTouch (w:World) (B:Nat) (p:Tc):Prop where
 c0:w.cell? ⟨B,0,none⟩=some (iV p.proto)
 c1:w.cell? ⟨B,1,none⟩=some (.bool p.inside)
 c2:w.cell? ⟨B,2,none⟩=some (.string p.addr)
 c3:w.cell? ⟨B,3,none⟩=some (iV p.port)
 c4:w.cell? ⟨B,4,none⟩=some (.string p.peer)
 c5:w.cell? ⟨B,5,none⟩=some (iV p.peerPort)
 c6:w.cell? ⟨B,6,none⟩=some (iV p.flags)
theorem BoxTouch.kept {w W:World} {B:Nat} {p:Tc} (h:BoxTouch w B p) (hB:Below w.heap.size w W):BoxTouch W B p:=by
 have hb:=World.block_lt_of_cell? w _ h.c0;exact ⟨((bcell hB).1 B 0 hb).trans h.c0,((bcell hB).1 B 1 hb).trans h.c1,((bcell hB).1 B 2 hb).trans h.c2,((bcell hB).1 B 3 hb).trans h.c3,((bcell hB).1 B 4 hb).trans h.c4,((bcell hB).1 B 5 hb).trans h.c5,((bcell hB).1 B 6 hb).trans h.c6⟩
theorem BoxTouch.new (w:World) (p:Tc) {t:TypeId}:BoxTouch (w.alloc (.cells (TcV p).toArray t)) w.heap.size p:=⟨cell_new rfl,cell_new rfl,cell_new rfl,cell_new rfl,cell_new rfl,cell_new rfl,cell_new rfl⟩
def P4Wf (p:P4):Prop:=In64t p.tos∧In64t p.id∧In64t p.off∧In64t p.ttl∧In64t p.proto∧p.src.size≤maxLen∧p.dst.size≤maxLen∧p.opts.size≤maxLen∧p.data.size≤maxLen
structure BoxV4 (w:World) (B:Nat) (p:P4):Prop where
 c0:w.cell? ⟨B,0,none⟩=some (iV p.tos)
 c1:w.cell? ⟨B,1,none⟩=some (iV p.id)
 c2:w.cell? ⟨B,2,none⟩=some (.bool p.whole)
 c3:w.cell? ⟨B,3,none⟩=some (.bool p.more)
 c4:w.cell? ⟨B,4,none⟩=some (iV p.off)
 c5:w.cell? ⟨B,5,none⟩=some (iV p.ttl)
 c6:w.cell? ⟨B,6,none⟩=some (iV p.proto)
 c7:w.cell? ⟨B,7,none⟩=some (.string p.src)
 c8:w.cell? ⟨B,8,none⟩=some (.string p.dst)
 c9:w.cell? ⟨B,9,none⟩=some (.string p.opts)
 c10:w.cell? ⟨B,10,none⟩=some (.string p.data)
theorem BoxV4.kept {w W:World} {B:Nat} {p:P4} (h:BoxV4 w B p) (hB:Below w.heap.size w W):BoxV4 W B p:=by
 have hb:=World.block_lt_of_cell? w _ h.c0;exact ⟨((bcell hB).1 B 0 hb).trans h.c0,((bcell hB).1 B 1 hb).trans h.c1,((bcell hB).1 B 2 hb).trans h.c2,((bcell hB).1 B 3 hb).trans h.c3,((bcell hB).1 B 4 hb).trans h.c4,((bcell hB).1 B 5 hb).trans h.c5,((bcell hB).1 B 6 hb).trans h.c6,((bcell hB).1 B 7 hb).trans h.c7,((bcell hB).1 B 8 hb).trans h.c8,((bcell hB).1 B 9 hb).trans h.c9,((bcell hB).1 B 10 hb).trans h.c10⟩
theorem BoxV4.new (w:World) (p:P4) {t:TypeId}:BoxV4 (w.alloc (.cells (P4V p).toArray t)) w.heap.size p:=⟨cell_new rfl,cell_new rfl,cell_new rfl,cell_new rfl,cell_new rfl,cell_new rfl,cell_new rfl,cell_new rfl,cell_new rfl,cell_new rfl,cell_new rfl⟩
section
variable {H:Type} {enc:TypeId × Value→H} {w:World} {base:Nat} {spare:Nat→Bool} {held:Bool}
theorem open_V4 {r:Reach} {b0:Nat} {v:Value} {d:DataW H} {p:List MemPlace} (hv:Value.okWide Tryz.prog w r b0 32 v) (h:DataW.Trod enc Tryz.prog w base spare held 32 v d p) :
  ∃ q:P4,v=p4C q∧P4Wf q:=by
 obtain ⟨cs,rfl,hsz⟩:=okWide_struct Tryz.underlying32 hv;obtain ⟨c0,c1,c2,c3,c4,c5,c6,c7,c8,c9,c10,rfl⟩:=arr11 (hsz.trans (show Tryz.prog.cellsOf 32=11 by kernel_rfl));obtain ⟨fuel,hf⟩:=h;obtain ⟨m0,y0,h0⟩:=flat_field Tryz.underlying32 hf 0 _ rfl rfl (show Tryz.prog.cellsOf 2=1 by kernel_rfl) c0 rfl;obtain ⟨x0,e0,_,g0⟩:=DataW.trod_int Tryz.underlying2 h0;obtain ⟨m1,y1,h1⟩:=flat_field Tryz.underlying32 hf 1 _ rfl rfl (show Tryz.prog.cellsOf 2=1 by kernel_rfl) c1 rfl;obtain ⟨x1,e1,_,g1⟩:=DataW.trod_int Tryz.underlying2 h1;obtain ⟨m2,y2,h2⟩:=flat_field Tryz.underlying32 hf 2 _ rfl rfl (show Tryz.prog.cellsOf 4=1 by kernel_rfl) c2 rfl;obtain ⟨x2,e2,_⟩:=DataW.trod_bool Tryz.underlying4 h2;obtain ⟨m3,y3,h3⟩:=flat_field Tryz.underlying32 hf 3 _ rfl rfl (show Tryz.prog.cellsOf 4=1 by kernel_rfl) c3 rfl;obtain ⟨x3,e3,_⟩:=DataW.trod_bool Tryz.underlying4 h3;obtain ⟨m4,y4,h4⟩:=flat_field Tryz.underlying32 hf 4 _ rfl rfl (show Tryz.prog.cellsOf 2=1 by kernel_rfl) c4 rfl;obtain ⟨x4,e4,_,g4⟩:=DataW.trod_int Tryz.underlying2 h4;obtain ⟨m5,y5,h5⟩:=flat_field Tryz.underlying32 hf 5 _ rfl rfl (show Tryz.prog.cellsOf 2=1 by kernel_rfl) c5 rfl;obtain ⟨x5,e5,_,g5⟩:=DataW.trod_int Tryz.underlying2 h5;obtain ⟨m6,y6,h6⟩:=flat_field Tryz.underlying32 hf 6 _ rfl rfl (show Tryz.prog.cellsOf 2=1 by kernel_rfl) c6 rfl;obtain ⟨x6,e6,_,g6⟩:=DataW.trod_int Tryz.underlying2 h6;obtain ⟨m7,y7,h7⟩:=flat_field Tryz.underlying32 hf 7 _ rfl rfl (show Tryz.prog.cellsOf 9=1 by kernel_rfl) c7 rfl;obtain ⟨x7,e7,_,g7⟩:=DataW.trod_string Tryz.underlying9 h7;obtain ⟨m8,y8,h8⟩:=flat_field Tryz.underlying32 hf 8 _ rfl rfl (show Tryz.prog.cellsOf 9=1 by kernel_rfl) c8 rfl;obtain ⟨x8,e8,_,g8⟩:=DataW.trod_string Tryz.underlying9 h8;obtain ⟨m9,y9,h9⟩:=flat_field Tryz.underlying32 hf 9 _ rfl rfl (show Tryz.prog.cellsOf 9=1 by kernel_rfl) c9 rfl;obtain ⟨x9,e9,_,g9⟩:=DataW.trod_string Tryz.underlying9 h9;obtain ⟨m10,y10,h10⟩:=flat_field Tryz.underlying32 hf 10 _ rfl rfl (show Tryz.prog.cellsOf 9=1 by kernel_rfl) c10 rfl;obtain ⟨x10,e10,_,g10⟩:=DataW.trod_string Tryz.underlying9 h10;simp only [List.cons.injEq,and_true] at e0 e1 e2 e3 e4 e5 e6 e7 e8 e9 e10;subst e0 e1 e2 e3 e4 e5 e6 e7 e8 e9 e10;exact ⟨⟨x0,x1,x2,x3,x4,x5,x6,x7,x8,x9,x10⟩,rfl,wf64s g0,wf64s g1,wf64s g4,wf64s g5,wf64s g6,g7,g8,g9,g10⟩
end
theorem toV4_any (p:P4) (w:World) :
  Cb 12 #[p4C p] w (p4C p):=by
 obtain ⟨tos,id,whole,more,off,ttl,proto,src,dst,opts,data⟩:=p;unfold p4C;dsimp only;go_enter Tryz.func12,Tryz.ntmps12
 go_wp2_with fail
 refine bodyPost_ret (v:=.agg (P4R tos id whole more off ttl proto src dst opts data).toArray) (by simp [results,Tryz.results12,go_sem]) rfl ⟨rfl,?_⟩;exact (((Below.refl _ _).alloc (Nat.le_refl _) _).alloc (by simp) _).alloc (by simp; omega) _
theorem eqV4_same (p:P4) (w:World) :
  Cb 36 #[p4C p,p4C p] w (.bool true):=by
 obtain ⟨tos,id,whole,more,off,ttl,proto,src,dst,opts,data⟩:=p;unfold p4C;dsimp only;have HZ:Hid (Below w.heap.size w ((aW w (P4R tos id whole more off ttl proto src dst opts data) 40).alloc (.cells (P4R tos id whole more off ttl proto src dst opts data).toArray 40))):=((Below.refl _ _).alloc (Nat.le_refl _) _).alloc (by simp) _;go_enter Tryz.func36,Tryz.ntmps36
 go_wp2_with fail
 go_ret;exact ⟨rfl,HZ.out⟩
end Go.Proofs.YtcckaeppiamebaaGreatDoor
namespace Go.Proofs.YtcckaeppiamebaaGreatDoor
open Go.RowKit Go.PlainAid
def v4AN (p:P4):List Nat:=[p.src.size,p.dst.size,p.opts.size,p.data.size]
theorem v4N_in {p:P4} {left:Int} (h1:left≤1048576) (h:0≤szN (v4AN p) left):p.src.size≤1048576∧p.dst.size≤1048576∧p.opts.size≤1048576∧p.data.size≤1048576:=by
 have hb:=szN_bound _ _ h;exact ⟨by have:=hb p.src.size (by simp [v4AN]); omega,by have:=hb p.dst.size (by simp [v4AN]); omega,by have:=hb p.opts.size (by simp [v4AN]); omega,by have:=hb p.data.size (by simp [v4AN]); omega⟩
theorem szV4A_at (p:P4) (left:Int) (w:World) (hw:P4Wf p) (h0:0≤left) (h1:left≤1048576) :
  Cb 8 #[p4C p,iV left] w (iV (szN (v4AN p) left)):=by
 have HV0:Hid (szN (v4AN p) left=szN [p.src.size,p.dst.size,p.opts.size,p.data.size] left):=rfl;obtain ⟨q_tos,q_id,q_off,q_ttl,q_proto,q_src,q_dst,q_opts,q_data⟩:=hw;generalize szN (v4AN p) left=ans at *;obtain ⟨tos,id,whole,more,off,ttl,proto,src,dst,opts,data⟩:=p;unfold p4C;dsimp only at *;unfold maxLen at *;clear q_tos q_id q_off q_ttl q_proto;have HZ:Hid (Below w.heap.size w (w.alloc (.cells (P4R tos id whole more off ttl proto src dst opts data).toArray 32))):=(Below.refl _ _).alloc (Nat.le_refl _) _;by_cases l0:left < (src.size:Int)
 ·have HV:Hid (ans=-1):=by unfold Hid; rw [HV0.out,szN_yes l0]
  clear HV0;go_enter Tryz.func8,Tryz.ntmps8
  go_wp2_with fail
  go_ret;exact ⟨ret_int HV.out.symm,HZ.out⟩
 ·skip
  by_cases l1:left-src.size < (dst.size:Int)
  ·have HV:Hid (ans=-1):=by unfold Hid; rw [HV0.out,szN_no l0,szN_yes l1]
   clear HV0;go_enter Tryz.func8,Tryz.ntmps8
   go_wp2_with fail
   go_ret;exact ⟨ret_int HV.out.symm,HZ.out⟩
  ·skip
   by_cases l2:left-src.size-dst.size < (opts.size:Int)
   ·have HV:Hid (ans=-1):=by unfold Hid; rw [HV0.out,szN_no l0,szN_no l1,szN_yes l2]
    clear HV0;go_enter Tryz.func8,Tryz.ntmps8
    go_wp2_with fail
    go_ret;exact ⟨ret_int HV.out.symm,HZ.out⟩
   ·skip
    by_cases l3:left-src.size-dst.size-opts.size < (data.size:Int)
    ·have HV:Hid (ans=-1):=by unfold Hid; rw [HV0.out,szN_no l0,szN_no l1,szN_no l2,szN_yes l3]
     clear HV0;go_enter Tryz.func8,Tryz.ntmps8
     go_wp2_with fail
     go_ret;exact ⟨ret_int HV.out.symm,HZ.out⟩
    ·have HV:Hid (ans=left-src.size-dst.size-opts.size-data.size):=by unfold Hid; rw [HV0.out,szN_no l0,szN_no l1,szN_no l2,szN_no l3]; rfl
     clear HV0;go_enter Tryz.func8,Tryz.ntmps8
     go_wp2_with fail
     go_ret;exact ⟨ret_int HV.out.symm,HZ.out⟩
theorem any_take {α:Type} (f:α→Bool) (xs:List α) (i:Nat) (h:i < xs.length):(xs.take (i+1)).any f=((xs.take i).any f||f xs[i]):=by
 rw [List.take_succ_eq_append_getElem h,List.any_append]; simp
theorem any_at {α:Type} (f:α→Bool) (xs:List α) (i:Nat) (h:i < xs.length) (hf:f xs[i]=true):xs.any f=true:=List.any_eq_true.2 ⟨_,List.getElem_mem h,hf⟩
theorem findI_at {α:Type} (f:α→Bool) (xs:List α) (i:Nat) (h:i < xs.length) (hn:(xs.take i).any f=false) (hf:f xs[i]=true):findI f xs=i:=by
 have:xs.findIdx? f=some i:=by
  rw [List.findIdx?_eq_some_iff_getElem];refine ⟨h,hf,fun j hj=>?_⟩;have hjl:j < xs.length:=Nat.lt_trans hj h;have:=List.any_eq_false.1 hn (xs[j]) (by rw [List.mem_take_iff_getElem]; exact ⟨j,by omega,rfl⟩);simpa using this
 unfold findI; rw [this]
theorem findI_no {α:Type} (f:α→Bool) (xs:List α) (hn:xs.any f=false):findI f xs=-1:=by
 have:xs.findIdx? f=none:=by
  rw [List.findIdx?_eq_none_iff];intro x hx;have:=List.any_eq_false.1 hn x hx;simpa using this
 unfold findI; rw [this]
theorem spBProto_any (proto:Int) (w:World) :
  Cw 120 #[iV proto] w (.bool (protoB proto)):=by
 have hun:undef=Value.tuple #[]:=rfl;by_cases h0:proto=6
 ·subst h0;go_enter Tryz.func120,Tryz.ntmps120
  go_wp2_with fail
  go_ret;exact ⟨rfl,rfl⟩
 ·by_cases h1:proto=17
  ·subst h1;go_enter Tryz.func120,Tryz.ntmps120
   go_wp2_with fail
   go_ret;exact ⟨rfl,rfl⟩
  ·by_cases h2:proto=1
   ·subst h2;go_enter Tryz.func120,Tryz.ntmps120
    go_wp2_with fail
    go_ret;exact ⟨rfl,rfl⟩
   ·have HV:Hid (protoB proto=false):=by unfold Hid protoB; simp [h0,h1,h2]
    go_enter Tryz.func120,Tryz.ntmps120
    go_wp2_with fail
    go_ret;exact ⟨ret_bool (by rw [HV.out]; simp [h0,h1,h2]),rfl⟩
theorem spIn_any (xs:List ByteArray) (s:ByteArray) (a:Option Addr) (cap:Nat) (w:World) (hlen:xs.length≤1048576) (hr:SlIs strL1 1 w a xs) :
  Cb 69 #[.slice a xs.length cap,.string s] w (.bool (inL xs s)):=by
 have HR:Hid (SlIs strL1 1 w a xs):=hr;have HV:Hid (inL xs s=xs.any fun t=>decide (t.toList=s.toList)):=rfl;generalize inL xs s=ans at *;clear hr;go_enter Tryz.func69,Tryz.ntmps69
 go_wp2_with fail
 go_loopw [5] (fun iv wr=>∃ i:Nat,i≤xs.length∧iv=iV i∧(xs.take i).any (fun t=>decide (t.toList=s.toList))=false∧Below w.heap.size w wr) (fun iv _=>xs.length-(intOf iv).toNat)
 case atStart=>exact ⟨0,Nat.zero_le _,rfl,rfl,Below.refl _ _⟩
 case round =>
  obtain ⟨i,hi,rfl,hn,hbel⟩:=hrel;have HN:Hid ((xs.take i).any (fun t=>decide (t.toList=s.toList))=false):=hn;have HL:Hid (Below w.heap.size w wr):=hbel;clear hn hbel;by_cases hlt:i < xs.length
  ·obtain ⟨b,off,rfl,hb,hat⟩:=HR.out.at hlt;have hA:=(hat.below hb HL.out) i hlt;have HST:Hid _:=any_take (fun t:ByteArray=>decide (t.toList=s.toList)) xs i hlt;have HAT:Hid _:=any_at (fun t:ByteArray=>decide (t.toList=s.toList)) xs i hlt;obtain ⟨t,ht⟩ : ∃ t,xs[i]=t:=⟨_,rfl⟩;rw [ht] at hA HST HAT;have c0:wr.cell? ⟨b,off+i,none⟩=some (.string t):=by have:=hA 0 _ rfl; simpa using this
   have c0':wr.cell? ⟨b,off+i*1,none⟩=some (.string t):=by simpa using c0
   clear hA hat ht;by_cases he:t.toList=s.toList
   ·have HX:Hid (ans=true):=by unfold Hid; rw [HV.out]; exact HAT.out (decide_eq_true he)
    have hbq:(t.toList==s.toList)=true:=by simp [he]
    clear he;go_wp2_with fail
    go_ret;exact ⟨ret_bool HX.out.symm,HL.out⟩
   ·have HN2:Hid ((xs.take (i+1)).any (fun t=>decide (t.toList=s.toList))=false):=by unfold Hid; rw [HST.out,HN.out,decide_eq_false he]; rfl
    have hbq:(t.toList==s.toList)=false:=by simp [he]
    clear he;go_wp2_with fail
    go_roundw
    case rel=>exact ⟨i+1,by omega,by go_num,HN2.out,HL.out⟩
    case measure=>simp [intOf]; omega
  ·have hie:i=xs.length:=by omega
   have HX:Hid (ans=false):=by unfold Hid; have:=HN.out; rw [hie,List.take_length] at this; rw [HV.out]; exact this
   go_wp2_with fail
   go_ret;exact ⟨ret_bool HX.out.symm,HL.out⟩
theorem spBind_any (xs:List Bd) (proto:Int) (s:ByteArray) (port:Int) (a:Option Addr) (cap:Nat) (sv:Value) (w:World) (hlen:xs.length≤1048576) (hr:SlIs bdL 5 w a xs) :
  Cb 122 #[.agg #[.slice a xs.length cap,sv],iV proto,.string s,iV port] w (iV (findI (ofIn proto s port) xs)):=by
 have HB0:Hid (HoldsL (w.alloc (.cells [.slice a xs.length cap,sv].toArray 39)) w.heap.size [.slice a xs.length cap,sv]):=HoldsL.new w _ _;have HZ:Hid (Below w.heap.size w (w.alloc (.cells [.slice a xs.length cap,sv].toArray 39))):=(Below.refl _ _).alloc (Nat.le_refl _) _;have HR:Hid (SlIs bdL 5 (w.alloc (.cells [.slice a xs.length cap,sv].toArray 39)) a xs):=hr.below HZ.out;rw [show [.slice a xs.length cap,sv].toArray=#[.slice a xs.length cap,sv] from rfl] at HB0 HZ HR;obtain ⟨f,hf⟩ : ∃ f,f=ofIn proto s port:=⟨_,rfl⟩;rw [← hf];have HF:Hid (∀ q,f q=(decide (q.proto=proto)&&decide (q.inn.toList=s.toList)&&decide (q.inPort=port))):=fun q=>by rw [hf]; rfl
 clear hr hf;go_enter Tryz.func122,Tryz.ntmps122
 go_wp2_with fail
 generalize w.alloc (.cells #[.slice a xs.length cap,sv] 39)=W0 at *;have hX0:w.heap.size < W0.heap.size:=HB0.out.lt (by simp);generalize hX:w.heap.size=X at *;go_loopw [9] (fun iv wr=>∃ i:Nat,i≤xs.length∧iv=iV i∧(xs.take i).any f=false∧Below W0.heap.size W0 wr) (fun iv _=>xs.length-(intOf iv).toNat)
 case atStart=>exact ⟨0,Nat.zero_le _,rfl,rfl,Below.refl _ _⟩
 case round =>
  obtain ⟨i,hi,rfl,hn,hbel⟩:=hrel;have HN:Hid ((xs.take i).any f=false):=hn;have HL:Hid (Below W0.heap.size W0 wr):=hbel;have HW:Hid _:=HZ.out.trans (hbel.mono (by omega));have x0:wr.cell? ⟨X,0,none⟩=some (.slice a xs.length cap):=(HB0.out.kept (by simp) hbel).cell rfl;clear hn hbel;by_cases hlt:i < xs.length
  ·obtain ⟨b,off,rfl,hb,hat⟩:=HR.out.at hlt;have hA:=(hat.below hb HL.out) i hlt;have HST:Hid _:=any_take f xs i hlt;have HAT:Hid _:=findI_at f xs i hlt HN.out;obtain ⟨q,hq⟩ : ∃ q,xs[i]=q:=⟨_,rfl⟩;rw [hq] at hA HST HAT;have hfq:=HF.out q;have c0:wr.cell? ⟨b,off+i*5,none⟩=some (iV q.proto):=hA 0 _ rfl;have c1:wr.cell? ⟨b,off+i*5+1,none⟩=some (.string q.inn):=hA 1 _ rfl;have c2:wr.cell? ⟨b,off+i*5+2,none⟩=some (iV q.inPort):=hA 2 _ rfl;have c3:wr.cell? ⟨b,off+i*5+3,none⟩=some (.string q.out):=hA 3 _ rfl;have c4:wr.cell? ⟨b,off+i*5+4,none⟩=some (iV q.outPort):=hA 4 _ rfl;have HFQ:Hid _:=hfq;have L8:Hid (Below W0.heap.size W0 (wr.alloc (.cells (BdV q).toArray 94))):=HL.out.alloc HL.out.size _;have W8:Hid (Below X w (wr.alloc (.cells (BdV q).toArray 94))):=HW.out.alloc (by have:=HL.out.size; omega) _;have K8:Hid (BoxBind (wr.alloc (.cells (BdV q).toArray 94)) wr.heap.size q):=BoxBind.new wr q;clear hA hat hq hfq;go_upto_region 5 with fail
   clear c0 c1 c2 c3 c4 x0 HL HW;generalize wr.alloc (.cells (BdV q).toArray 94)=V8 at *;generalize wr.heap.size=Y at *;obtain ⟨k0,k1,k2,k3,k4⟩:=K8.out;go_cut [38] (fun v wx=>v=.bool (f q)∧wx=V8)
   case first =>
    by_cases d0:q.proto=proto
    ·by_cases d1:q.inn.toList=s.toList
     ·by_cases d2:q.inPort=port
      ·have HG:Hid (f q=true):=by unfold Hid; rw [HFQ.out,decide_eq_true d0,decide_eq_true d1,decide_eq_true d2]; rfl
       go_wp2_with fail
       go_meet;rw [HG.out];first | exact ⟨rfl,rfl⟩ | simp [d2]
      ·have HG:Hid (f q=false):=by unfold Hid; rw [HFQ.out,decide_eq_true d0,decide_eq_true d1,decide_eq_false d2]; rfl
       go_wp2_with fail
       go_meet;rw [HG.out];first | exact ⟨rfl,rfl⟩ | simp [d2]
     ·have HG:Hid (f q=false):=by unfold Hid; rw [HFQ.out,decide_eq_false d1]; simp
      go_wp2_with fail
      go_meet;rw [HG.out];first | exact ⟨rfl,rfl⟩ | simp [d1]
    ·have HG:Hid (f q=false):=by unfold Hid; rw [HFQ.out,decide_eq_false d0]; simp
     go_wp2_with fail
     go_meet;rw [HG.out];first | exact ⟨rfl,rfl⟩ | simp [d0]
   case rest =>
   obtain ⟨rfl,rfl⟩:=hcut;clear k0 k1 k2 k3 k4
   cases hfq:f q with
   | true =>
    have HX:Hid (findI f xs=(i:Int)):=HAT.out hfq;go_wp2_with fail
    go_ret;exact ⟨ret_int HX.out.symm,by rw [hX]; exact W8.out⟩
   | false =>
    have HN2:Hid ((xs.take (i+1)).any f=false):=by unfold Hid; rw [HST.out,HN.out,hfq]; rfl
    go_wp2_with fail
    go_roundw
    case rel=>exact ⟨i+1,by omega,by go_num,HN2.out,L8.out⟩
    case measure=>simp [intOf]; omega
  ·have hie:i=xs.length:=by omega
   have HX:Hid (findI f xs=-1):=by unfold Hid; have:=HN.out; rw [hie,List.take_length] at this; exact findI_no f xs this
   go_wp2_with fail
   go_ret;exact ⟨ret_int HX.out.symm,by rw [hX]; exact HW.out⟩
theorem spAt_any (xs:List Bd) (proto:Int) (s:ByteArray) (port:Int) (a:Option Addr) (cap:Nat) (sv:Value) (w:World) (hlen:xs.length≤1048576) (hr:SlIs bdL 5 w a xs) :
  Cb 123 #[.agg #[.slice a xs.length cap,sv],iV proto,.string s,iV port] w (iV (findI (ofOut proto s port) xs)):=by
 have HB0:Hid (HoldsL (w.alloc (.cells [.slice a xs.length cap,sv].toArray 39)) w.heap.size [.slice a xs.length cap,sv]):=HoldsL.new w _ _;have HZ:Hid (Below w.heap.size w (w.alloc (.cells [.slice a xs.length cap,sv].toArray 39))):=(Below.refl _ _).alloc (Nat.le_refl _) _;have HR:Hid (SlIs bdL 5 (w.alloc (.cells [.slice a xs.length cap,sv].toArray 39)) a xs):=hr.below HZ.out;rw [show [.slice a xs.length cap,sv].toArray=#[.slice a xs.length cap,sv] from rfl] at HB0 HZ HR;obtain ⟨f,hf⟩ : ∃ f,f=ofOut proto s port:=⟨_,rfl⟩;rw [← hf];have HF:Hid (∀ q,f q=(decide (q.proto=proto)&&decide (q.out.toList=s.toList)&&decide (q.outPort=port))):=fun q=>by rw [hf]; rfl
 clear hr hf;go_enter Tryz.func123,Tryz.ntmps123
 go_wp2_with fail
 generalize w.alloc (.cells #[.slice a xs.length cap,sv] 39)=W0 at *;have hX0:w.heap.size < W0.heap.size:=HB0.out.lt (by simp);generalize hX:w.heap.size=X at *;go_loopw [9] (fun iv wr=>∃ i:Nat,i≤xs.length∧iv=iV i∧(xs.take i).any f=false∧Below W0.heap.size W0 wr) (fun iv _=>xs.length-(intOf iv).toNat)
 case atStart=>exact ⟨0,Nat.zero_le _,rfl,rfl,Below.refl _ _⟩
 case round =>
  obtain ⟨i,hi,rfl,hn,hbel⟩:=hrel;have HN:Hid ((xs.take i).any f=false):=hn;have HL:Hid (Below W0.heap.size W0 wr):=hbel;have HW:Hid _:=HZ.out.trans (hbel.mono (by omega));have x0:wr.cell? ⟨X,0,none⟩=some (.slice a xs.length cap):=(HB0.out.kept (by simp) hbel).cell rfl;clear hn hbel;by_cases hlt:i < xs.length
  ·obtain ⟨b,off,rfl,hb,hat⟩:=HR.out.at hlt;have hA:=(hat.below hb HL.out) i hlt;have HST:Hid _:=any_take f xs i hlt;have HAT:Hid _:=findI_at f xs i hlt HN.out;obtain ⟨q,hq⟩ : ∃ q,xs[i]=q:=⟨_,rfl⟩;rw [hq] at hA HST HAT;have hfq:=HF.out q;have c0:wr.cell? ⟨b,off+i*5,none⟩=some (iV q.proto):=hA 0 _ rfl;have c1:wr.cell? ⟨b,off+i*5+1,none⟩=some (.string q.inn):=hA 1 _ rfl;have c2:wr.cell? ⟨b,off+i*5+2,none⟩=some (iV q.inPort):=hA 2 _ rfl;have c3:wr.cell? ⟨b,off+i*5+3,none⟩=some (.string q.out):=hA 3 _ rfl;have c4:wr.cell? ⟨b,off+i*5+4,none⟩=some (iV q.outPort):=hA 4 _ rfl;have HFQ:Hid _:=hfq;have L8:Hid (Below W0.heap.size W0 (wr.alloc (.cells (BdV q).toArray 94))):=HL.out.alloc HL.out.size _;have W8:Hid (Below X w (wr.alloc (.cells (BdV q).toArray 94))):=HW.out.alloc (by have:=HL.out.size; omega) _;have K8:Hid (BoxBind (wr.alloc (.cells (BdV q).toArray 94)) wr.heap.size q):=BoxBind.new wr q;clear hA hat hq hfq;go_upto_region 5 with fail
   clear c0 c1 c2 c3 c4 x0 HL HW;generalize wr.alloc (.cells (BdV q).toArray 94)=V8 at *;generalize wr.heap.size=Y at *;obtain ⟨k0,k1,k2,k3,k4⟩:=K8.out;go_cut [38] (fun v wx=>v=.bool (f q)∧wx=V8)
   case first =>
    by_cases d0:q.proto=proto
    ·by_cases d1:q.out.toList=s.toList
     ·by_cases d2:q.outPort=port
      ·have HG:Hid (f q=true):=by unfold Hid; rw [HFQ.out,decide_eq_true d0,decide_eq_true d1,decide_eq_true d2]; rfl
       go_wp2_with fail
       go_meet;rw [HG.out];first | exact ⟨rfl,rfl⟩ | simp [d2]
      ·have HG:Hid (f q=false):=by unfold Hid; rw [HFQ.out,decide_eq_true d0,decide_eq_true d1,decide_eq_false d2]; rfl
       go_wp2_with fail
       go_meet;rw [HG.out];first | exact ⟨rfl,rfl⟩ | simp [d2]
     ·have HG:Hid (f q=false):=by unfold Hid; rw [HFQ.out,decide_eq_false d1]; simp
      go_wp2_with fail
      go_meet;rw [HG.out];first | exact ⟨rfl,rfl⟩ | simp [d1]
    ·have HG:Hid (f q=false):=by unfold Hid; rw [HFQ.out,decide_eq_false d0]; simp
     go_wp2_with fail
     go_meet;rw [HG.out];first | exact ⟨rfl,rfl⟩ | simp [d0]
   case rest =>
   obtain ⟨rfl,rfl⟩:=hcut;clear k0 k1 k2 k3 k4
   cases hfq:f q with
   | true =>
    have HX:Hid (findI f xs=(i:Int)):=HAT.out hfq;go_wp2_with fail
    go_ret;exact ⟨ret_int HX.out.symm,by rw [hX]; exact W8.out⟩
   | false =>
    have HN2:Hid ((xs.take (i+1)).any f=false):=by unfold Hid; rw [HST.out,HN.out,hfq]; rfl
    go_wp2_with fail
    go_roundw
    case rel=>exact ⟨i+1,by omega,by go_num,HN2.out,L8.out⟩
    case measure=>simp [intOf]; omega
  ·have hie:i=xs.length:=by omega
   have HX:Hid (findI f xs=-1):=by unfold Hid; have:=HN.out; rw [hie,List.take_length] at this; exact findI_no f xs this
   go_wp2_with fail
   go_ret;exact ⟨ret_int HX.out.symm,by rw [hX]; exact HW.out⟩
def bdZ:Bd:=⟨0,⟨#[]⟩,0,⟨#[]⟩,0⟩
theorem findBd_at (f:Bd→Bool) (xs:List Bd) (h:¬ findI f xs < 0):∃ i:Nat,∃ hi:i < xs.length,findI f xs=i∧xs.find? f=some xs[i]:=by
 unfold findI at *
 cases hf:xs.findIdx? f with
 | none=>rw [hf] at h; exact absurd (by decide) h
 | some i =>
  obtain ⟨hi,hfi,hn⟩:=List.findIdx?_eq_some_iff_getElem.1 hf;exact ⟨i,hi,rfl,List.find?_eq_some_iff_getElem.2 ⟨hfi,i,hi,rfl,fun j hj=>by simpa using hn j hj⟩⟩
theorem find_no (f:Bd→Bool) (xs:List Bd) (h:findI f xs < 0):xs.find? f=none:=by
 unfold findI at h
 cases hf:xs.findIdx? f with
 | none=>exact List.find?_eq_none.2 (fun x hx=>by have:=List.findIdx?_eq_none_iff.1 hf x hx; simp [this])
 | some i=>rw [hf] at h; simp only at h; omega
theorem spHas_any (p:Bd) (q:Ss) (w:World) :
  Cb 78 #[bdC p,ssC q] w (.bool (hasS p q)):=by
 have HV:Hid (hasS p q=(decide (p.proto=q.proto)&&decide (p.inn.toList=q.inn.toList)&&decide (p.inPort=q.inPort))):=rfl;generalize hasS p q=ans at *;obtain ⟨proto,inn,inPort,out,outPort⟩:=p;obtain ⟨proto',inn',inPort',peer',peerPort',state',untl'⟩:=q;unfold bdC ssC;dsimp only at *;have HZ:Hid (∀ o1 o2,Below w.heap.size w ((w.alloc o1).alloc o2)):=fun o1 o2=>((Below.refl _ _).alloc (Nat.le_refl _) _).alloc (by simp) _
 go_enter Tryz.func78,Tryz.ntmps78
 go_wp2_with fail
 all_goals go_ret
 all_goals exact ⟨ret_bool (by rw [HV.out]; simp_all; try rfl),HZ.out _ _⟩
end Go.Proofs.YtcckaeppiamebaaGreatDoor
namespace Go.Proofs.YtcckaeppiamebaaGreatDoor
open Go.RowKit
def ofHost (inn:ByteArray) (c:Bd):Bool:=decide (c.inn.toList=inn.toList)
def outD (p:Pl) (inn:ByteArray):ByteArray:=(p.addrs[(sumV inn).toNat % p.addrs.length]?).getD ⟨#[]⟩
def outIn (xs:List Bd) (d inn:ByteArray):ByteArray:=match xs.find? (ofHost inn) with | some c=>c.out | none=>d
def freeP (xs:List Bd) (proto:Int) (out:ByteArray) (n:Int):Bool:=decide (findI (ofOut proto out n) xs < 0)
def leastN (f:Int→Bool):Int→Nat→Option Int
 | _,0=>none
 | lo,c+1=>if f lo=true then some lo else leastN f (lo+1) c
def lendN (p:Pl) (xs:List Bd) (proto:Int) (out:ByteArray) (port:Int):Option Int :=
 if (isIn port p.low p.high&&freeP xs proto out port)=true then some port
 else match leastN (fun n=>decide (n % 2=port % 2)&&freeP xs proto out n) p.low (p.high-p.low+1).toNat with
  | some n=>some n
  | none=>leastN (freeP xs proto out) p.low (p.high-p.low+1).toNat
def lendV (p:Pl) (xs:List Bd) (proto:Int) (inn:ByteArray) (port:Int):Bd × Int :=
 match xs.find? (ofIn proto inn port) with
 | some c=>(c,0)
 | none=>match lendN p xs proto (outIn xs (outD p inn) inn) port with
  | some n=>(⟨proto,inn,port,outIn xs (outD p inn) inn,n⟩,0)
  | none=>(bdZ,9)
theorem leastN_step {f:Int→Bool} {n hi:Int} (h:n≤hi):leastN f n (hi-n+1).toNat=if f n=true then some n else leastN f (n+1) (hi-(n+1)+1).toNat:=by
 obtain ⟨c,hc⟩ : ∃ c:Nat,(hi-n+1).toNat=c+1:=⟨(hi-n).toNat,by omega⟩;rw [hc];show (if f n=true then some n else leastN f (n+1) c)=_;rw [show (hi-(n+1)+1).toNat=c by omega]
theorem leastN_end {f:Int→Bool} {n hi:Int} (h:hi < n):leastN f n (hi-n+1).toNat=none:=by
 rw [show (hi-n+1).toNat=0 by omega]; rfl
theorem outIn_step {xs:List Bd} {d inn:ByteArray} {i:Nat} (h:i < xs.length):outIn (xs.drop i) d inn=if ofHost inn xs[i]=true then xs[i].out else outIn (xs.drop (i+1)) d inn:=by
 unfold outIn;rw [List.drop_eq_getElem_cons h,List.find?_cons]
 cases hb:ofHost inn xs[i]<;>simp
end Go.Proofs.YtcckaeppiamebaaGreatDoor
/- SV4: what the specification's l01Is, l01Byte and V4Right answer. -/
namespace Go.Proofs.YtcckaeppiamebaaGreatDoor
open Go.RowKit Go.PlainAid
set_option linter.unusedVariables false
set_option linter.unusedSimpArgs false

theorem specIs_any (n lo hi : Int) (w : World) :
  Cw 81 #[iV n, iV lo, iV hi] w (.bool (isIn n lo hi)) := by
 by_cases h1 : lo ≤ n
 ·by_cases h2 : n ≤ hi
  ·have HV : Hid (isIn n lo hi = true) := by unfold Hid isIn; simp [h1, h2]
   go_enter Tryz.func81, Tryz.ntmps81
   go_wp2_with fail
   go_ret
   exact ⟨ret_bool (by rw [HV.out]), rfl⟩
  ·have HV : Hid (isIn n lo hi = false) := by unfold Hid isIn; simp [h2]
   go_enter Tryz.func81, Tryz.ntmps81
   go_wp2_with fail
   go_ret
   exact ⟨ret_bool (by rw [HV.out]), rfl⟩
 ·have HV : Hid (isIn n lo hi = false) := by unfold Hid isIn; simp [h1]
  have h1' : n < lo := by omega
  go_enter Tryz.func81, Tryz.ntmps81
  go_wp2_with fail
  go_ret
  exact ⟨ret_bool (by rw [HV.out]), rfl⟩

theorem specByte_any (n : Int) (w : World) :
  Cw 79 #[iV n] w (.bool (isIn n 0 255)) := by
 have HC : Hid (∀ W, Cw 81 #[iV n, iV 0, iV 255] W (.bool (isIn n 0 255))) := fun W => specIs_any n 0 255 W
 generalize isIn n 0 255 = b at *
 go_enter Tryz.func79, Tryz.ntmps79
 go_wp2_with fail
 refine (HC.out _).mono ?_
 rintro e w2 ⟨rfl, rfl⟩
 go_wp2_with fail
 go_ret
 exact ⟨rfl, rfl⟩

set_option maxRecDepth 100000 in
set_option maxHeartbeats 2000000 in
theorem specV4Right_any (p : P4) (w : World) (h1 : p.src.size ≤ 1048576) (h2 : p.dst.size ≤ 1048576) (h3 : p.opts.size ≤ 1048576) (h4 : p.data.size ≤ 1048576) :
  Cb 51 #[p4C p] w (.bool (v4Ok p)) := by
 have HB1 : Hid (∀ W, Cw 79 #[iV p.tos] W (.bool (isIn p.tos 0 255))) := fun W => specByte_any p.tos W
 have HB2 : Hid (∀ W, Cw 79 #[iV p.ttl] W (.bool (isIn p.ttl 0 255))) := fun W => specByte_any p.ttl W
 have HB3 : Hid (∀ W, Cw 79 #[iV p.proto] W (.bool (isIn p.proto 0 255))) := fun W => specByte_any p.proto W
 have HB4 : Hid (∀ W, Cw 80 #[iV p.id] W (.bool (isIn p.id 0 65535))) := fun W => specWordIs_any p.id W
 have HB5 : Hid (∀ W, Cw 81 #[iV p.off, iV 0, iV 8191] W (.bool (isIn p.off 0 8191))) := fun W => specIs_any p.off 0 8191 W
 have HO : Hid (isIn p.off 0 8191 = true → 0 ≤ p.off ∧ p.off ≤ 8191) := fun h => isIn_parts h
 have HA : Hid (v4A p = (isIn p.tos 0 255 && isIn p.ttl 0 255 && isIn p.proto 0 255 && isIn p.id 0 65535 && isIn p.off 0 8191 && decide (p.src.size = 4) && decide (p.dst.size = 4))) := rfl
 have HF : Hid (v4A p = false → v4Ok p = false) := fun h => by unfold v4Ok; rw [h]; rfl
 have HF2 : Hid (v4A p = true → v4B p = false → v4Ok p = false) := fun h h' => by unfold v4Ok; rw [h, h']; rfl
 have HF3 : Hid (v4A p = true → v4B p = true → v4Ok p = v4C p) := fun h h' => by unfold v4Ok; rw [h, h']; rfl
 have HBB : Hid (v4B p = (decide (p.opts.size ≤ 40) && decide (p.opts.size % 4 = 0) && decide (p.data.size ≤ 1400) && !(p.more && !decide (p.data.size % 8 = 0)) && decide (8 * p.off + p.data.size ≤ 65515))) := rfl
 have HCC : Hid (v4C p = (!p.whole || (!p.more && decide (p.off = 0)))) := rfl
 generalize v4A p = vA at *
 generalize v4B p = vB at *
 generalize v4C p = vC at *
 generalize v4Ok p = ok at *
 obtain ⟨tos, id, whole, more, off, ttl, proto, src, dst, opts, data⟩ := p
 unfold p4C
 dsimp only at *
 have HZ : Hid (Below w.heap.size w (w.alloc (.cells #[iV tos, iV id, .bool whole, .bool more, iV off, iV ttl, iV proto, .string src, .string dst, .string opts, .string data] 40))) := (Below.refl _ _).alloc (Nat.le_refl _) _
 cases b1 : isIn tos 0 255 with
 | false =>
  have HV : Hid (ok = false) := HF.out (by rw [HA.out, b1]; simp)
  rw [b1] at HB1
  clear b1 HA HF HF2 HF3 HBB HCC HO
  go_enter Tryz.func51, Tryz.ntmps51
  go_wp2_with fail
  refine (HB1.out _).mono ?_
  rintro e w2 ⟨rfl, rfl⟩
  go_wp2_with fail
  go_ret
  exact ⟨ret_bool HV.out.symm, HZ.out⟩
 | true =>
  rw [b1] at HB1
  cases b2 : isIn ttl 0 255 with
  | false =>
   have HV : Hid (ok = false) := HF.out (by rw [HA.out, b2]; simp)
   rw [b2] at HB2
   clear b2 HA HF HF2 HF3 HBB HCC HO
   go_enter Tryz.func51, Tryz.ntmps51
   go_wp2_with fail
   refine (HB1.out _).mono ?_
   rintro e w2 ⟨rfl, rfl⟩
   go_wp2_with fail
   refine (HB2.out _).mono ?_
   rintro e w2 ⟨rfl, rfl⟩
   go_wp2_with fail
   go_ret
   exact ⟨ret_bool HV.out.symm, HZ.out⟩
  | true =>
   rw [b2] at HB2
   cases b3 : isIn proto 0 255 with
   | false =>
    have HV : Hid (ok = false) := HF.out (by rw [HA.out, b3]; simp)
    rw [b3] at HB3
    clear b3 HA HF HF2 HF3 HBB HCC HO
    go_enter Tryz.func51, Tryz.ntmps51
    go_wp2_with fail
    refine (HB1.out _).mono ?_
    rintro e w2 ⟨rfl, rfl⟩
    go_wp2_with fail
    refine (HB2.out _).mono ?_
    rintro e w2 ⟨rfl, rfl⟩
    go_wp2_with fail
    refine (HB3.out _).mono ?_
    rintro e w2 ⟨rfl, rfl⟩
    go_wp2_with fail
    go_ret
    exact ⟨ret_bool HV.out.symm, HZ.out⟩
   | true =>
    rw [b3] at HB3
    cases b4 : isIn id 0 65535 with
    | false =>
     have HV : Hid (ok = false) := HF.out (by rw [HA.out, b4]; simp)
     rw [b4] at HB4
     clear b4 HA HF HF2 HF3 HBB HCC HO
     go_enter Tryz.func51, Tryz.ntmps51
     go_wp2_with fail
     refine (HB1.out _).mono ?_
     rintro e w2 ⟨rfl, rfl⟩
     go_wp2_with fail
     refine (HB2.out _).mono ?_
     rintro e w2 ⟨rfl, rfl⟩
     go_wp2_with fail
     refine (HB3.out _).mono ?_
     rintro e w2 ⟨rfl, rfl⟩
     go_wp2_with fail
     refine (HB4.out _).mono ?_
     rintro e w2 ⟨rfl, rfl⟩
     go_wp2_with fail
     go_ret
     exact ⟨ret_bool HV.out.symm, HZ.out⟩
    | true =>
     rw [b4] at HB4
     cases b5 : isIn off 0 8191 with
     | false =>
      have HV : Hid (ok = false) := HF.out (by rw [HA.out, b5]; simp)
      rw [b5] at HB5
      clear b5 HA HF HF2 HF3 HBB HCC HO
      go_enter Tryz.func51, Tryz.ntmps51
      go_wp2_with fail
      refine (HB1.out _).mono ?_
      rintro e w2 ⟨rfl, rfl⟩
      go_wp2_with fail
      refine (HB2.out _).mono ?_
      rintro e w2 ⟨rfl, rfl⟩
      go_wp2_with fail
      refine (HB3.out _).mono ?_
      rintro e w2 ⟨rfl, rfl⟩
      go_wp2_with fail
      refine (HB4.out _).mono ?_
      rintro e w2 ⟨rfl, rfl⟩
      go_wp2_with fail
      refine (HB5.out _).mono ?_
      rintro e w2 ⟨rfl, rfl⟩
      go_wp2_with fail
      go_ret
      exact ⟨ret_bool HV.out.symm, HZ.out⟩
     | true =>
      rw [b5] at HB5
      obtain ⟨o0, o1⟩ := HO.out b5
      by_cases s1 : src.size = 4
      ·have ds1 : ((src.size : Int) != 4) = false := by simp; omega
       by_cases s2 : dst.size = 4
       ·have ds2 : ((dst.size : Int) != 4) = false := by simp; omega
        have hA : vA = true := by rw [HA.out, b1, b2, b3, b4, b5, decide_eq_true s1, decide_eq_true s2]; rfl
        have HG2 : Hid (vB = false → ok = false) := HF2.out hA
        have HG3 : Hid (vB = true → ok = vC) := HF3.out hA
        clear hA HA HF HF2 HF3 HO b1 b2 b3 b4 b5 s1 s2
        by_cases e0 : opts.size ≤ 40
        ·have dT0 : decide ((40 : Int) < (opts.size : Int)) = false := by simp; omega
         by_cases e1 : opts.size % 4 = 0
         ·have dT1 : (((opts.size : Int) % 4) != 0) = false := by simp; omega
          by_cases e2 : data.size ≤ 1400
          ·have dT2 : decide ((1400 : Int) < (data.size : Int)) = false := by simp; omega
           have em : (more && !decide (data.size % 8 = 0)) = false ∨ (more = true ∧ data.size % 8 ≠ 0) := by cases more <;> simp <;> omega
           rcases em with em | ⟨rfl, em⟩
           ·have dm : more = true → (((data.size : Int) % 8) != 0) = false := fun h => by rw [h] at em; simp at em; simp; omega
            by_cases e9 : 8 * off + data.size ≤ 65515
            ·have d9 : decide ((65515 : Int) < 8 * off + (data.size : Int)) = false := by simp; omega
             have HV : Hid (ok = (!whole || (!more && decide (off = 0)))) := by unfold Hid; rw [← HCC.out]; exact HG3.out (by rw [HBB.out, em, decide_eq_true e0, decide_eq_true e1, decide_eq_true e2, decide_eq_true e9]; rfl)
             clear HG2 HG3 HBB HCC em
             cases more with
             | false =>
              clear dm
              cases whole with
              | false =>
               go_enter Tryz.func51, Tryz.ntmps51
               go_wp2_with fail
               refine (HB1.out _).mono ?_
               rintro e w2 ⟨rfl, rfl⟩
               go_wp2_with fail
               refine (HB2.out _).mono ?_
               rintro e w2 ⟨rfl, rfl⟩
               go_wp2_with fail
               refine (HB3.out _).mono ?_
               rintro e w2 ⟨rfl, rfl⟩
               go_wp2_with fail
               refine (HB4.out _).mono ?_
               rintro e w2 ⟨rfl, rfl⟩
               go_wp2_with fail
               refine (HB5.out _).mono ?_
               rintro e w2 ⟨rfl, rfl⟩
               go_wp2_with fail
               go_ret
               exact ⟨ret_bool (by rw [HV.out]; rfl), HZ.out⟩
              | true =>
               go_enter Tryz.func51, Tryz.ntmps51
               go_wp2_with fail
               refine (HB1.out _).mono ?_
               rintro e w2 ⟨rfl, rfl⟩
               go_wp2_with fail
               refine (HB2.out _).mono ?_
               rintro e w2 ⟨rfl, rfl⟩
               go_wp2_with fail
               refine (HB3.out _).mono ?_
               rintro e w2 ⟨rfl, rfl⟩
               go_wp2_with fail
               refine (HB4.out _).mono ?_
               rintro e w2 ⟨rfl, rfl⟩
               go_wp2_with fail
               refine (HB5.out _).mono ?_
               rintro e w2 ⟨rfl, rfl⟩
               go_wp2_with fail
               go_ret
               exact ⟨ret_bool (by rw [HV.out]; rfl), HZ.out⟩
             | true =>
              have dm := dm rfl
              cases whole with
              | false =>
               go_enter Tryz.func51, Tryz.ntmps51
               go_wp2_with fail
               refine (HB1.out _).mono ?_
               rintro e w2 ⟨rfl, rfl⟩
               go_wp2_with fail
               refine (HB2.out _).mono ?_
               rintro e w2 ⟨rfl, rfl⟩
               go_wp2_with fail
               refine (HB3.out _).mono ?_
               rintro e w2 ⟨rfl, rfl⟩
               go_wp2_with fail
               refine (HB4.out _).mono ?_
               rintro e w2 ⟨rfl, rfl⟩
               go_wp2_with fail
               refine (HB5.out _).mono ?_
               rintro e w2 ⟨rfl, rfl⟩
               go_wp2_with fail
               go_ret
               exact ⟨ret_bool (by rw [HV.out]; rfl), HZ.out⟩
              | true =>
               go_enter Tryz.func51, Tryz.ntmps51
               go_wp2_with fail
               refine (HB1.out _).mono ?_
               rintro e w2 ⟨rfl, rfl⟩
               go_wp2_with fail
               refine (HB2.out _).mono ?_
               rintro e w2 ⟨rfl, rfl⟩
               go_wp2_with fail
               refine (HB3.out _).mono ?_
               rintro e w2 ⟨rfl, rfl⟩
               go_wp2_with fail
               refine (HB4.out _).mono ?_
               rintro e w2 ⟨rfl, rfl⟩
               go_wp2_with fail
               refine (HB5.out _).mono ?_
               rintro e w2 ⟨rfl, rfl⟩
               go_wp2_with fail
               go_ret
               exact ⟨ret_bool (by rw [HV.out]; rfl), HZ.out⟩
            ·have HV : Hid (ok = false) := HG2.out (by rw [HBB.out, decide_eq_false e9]; simp)
             have d9 : decide ((65515 : Int) < 8 * off + (data.size : Int)) = true := by simp; omega
             clear HG2 HG3 HBB HCC
             cases more with
             | false =>
              clear dm
              go_enter Tryz.func51, Tryz.ntmps51
              go_wp2_with fail
              refine (HB1.out _).mono ?_
              rintro e w2 ⟨rfl, rfl⟩
              go_wp2_with fail
              refine (HB2.out _).mono ?_
              rintro e w2 ⟨rfl, rfl⟩
              go_wp2_with fail
              refine (HB3.out _).mono ?_
              rintro e w2 ⟨rfl, rfl⟩
              go_wp2_with fail
              refine (HB4.out _).mono ?_
              rintro e w2 ⟨rfl, rfl⟩
              go_wp2_with fail
              refine (HB5.out _).mono ?_
              rintro e w2 ⟨rfl, rfl⟩
              go_wp2_with fail
              go_ret
              exact ⟨ret_bool HV.out.symm, HZ.out⟩
             | true =>
              have dm := dm rfl
              go_enter Tryz.func51, Tryz.ntmps51
              go_wp2_with fail
              refine (HB1.out _).mono ?_
              rintro e w2 ⟨rfl, rfl⟩
              go_wp2_with fail
              refine (HB2.out _).mono ?_
              rintro e w2 ⟨rfl, rfl⟩
              go_wp2_with fail
              refine (HB3.out _).mono ?_
              rintro e w2 ⟨rfl, rfl⟩
              go_wp2_with fail
              refine (HB4.out _).mono ?_
              rintro e w2 ⟨rfl, rfl⟩
              go_wp2_with fail
              refine (HB5.out _).mono ?_
              rintro e w2 ⟨rfl, rfl⟩
              go_wp2_with fail
              go_ret
              exact ⟨ret_bool HV.out.symm, HZ.out⟩
           ·have HV : Hid (ok = false) := HG2.out (by rw [HBB.out, decide_eq_false em]; simp)
            have dm : (((data.size : Int) % 8) != 0) = true := by simp; omega
            clear HG2 HG3 HBB HCC
            go_enter Tryz.func51, Tryz.ntmps51
            go_wp2_with fail
            refine (HB1.out _).mono ?_
            rintro e w2 ⟨rfl, rfl⟩
            go_wp2_with fail
            refine (HB2.out _).mono ?_
            rintro e w2 ⟨rfl, rfl⟩
            go_wp2_with fail
            refine (HB3.out _).mono ?_
            rintro e w2 ⟨rfl, rfl⟩
            go_wp2_with fail
            refine (HB4.out _).mono ?_
            rintro e w2 ⟨rfl, rfl⟩
            go_wp2_with fail
            refine (HB5.out _).mono ?_
            rintro e w2 ⟨rfl, rfl⟩
            go_wp2_with fail
            go_ret
            exact ⟨ret_bool HV.out.symm, HZ.out⟩
          ·have HV : Hid (ok = false) := HG2.out (by rw [HBB.out, decide_eq_false e2]; simp)
           have dF2 : decide ((1400 : Int) < (data.size : Int)) = true := by simp; omega
           clear HG2 HG3 HBB HCC
           go_enter Tryz.func51, Tryz.ntmps51
           go_wp2_with fail
           refine (HB1.out _).mono ?_
           rintro e w2 ⟨rfl, rfl⟩
           go_wp2_with fail
           refine (HB2.out _).mono ?_
           rintro e w2 ⟨rfl, rfl⟩
           go_wp2_with fail
           refine (HB3.out _).mono ?_
           rintro e w2 ⟨rfl, rfl⟩
           go_wp2_with fail
           refine (HB4.out _).mono ?_
           rintro e w2 ⟨rfl, rfl⟩
           go_wp2_with fail
           refine (HB5.out _).mono ?_
           rintro e w2 ⟨rfl, rfl⟩
           go_wp2_with fail
           go_ret
           exact ⟨ret_bool HV.out.symm, HZ.out⟩
         ·have HV : Hid (ok = false) := HG2.out (by rw [HBB.out, decide_eq_false e1]; simp)
          have dF1 : (((opts.size : Int) % 4) != 0) = true := by simp; omega
          clear HG2 HG3 HBB HCC
          go_enter Tryz.func51, Tryz.ntmps51
          go_wp2_with fail
          refine (HB1.out _).mono ?_
          rintro e w2 ⟨rfl, rfl⟩
          go_wp2_with fail
          refine (HB2.out _).mono ?_
          rintro e w2 ⟨rfl, rfl⟩
          go_wp2_with fail
          refine (HB3.out _).mono ?_
          rintro e w2 ⟨rfl, rfl⟩
          go_wp2_with fail
          refine (HB4.out _).mono ?_
          rintro e w2 ⟨rfl, rfl⟩
          go_wp2_with fail
          refine (HB5.out _).mono ?_
          rintro e w2 ⟨rfl, rfl⟩
          go_wp2_with fail
          go_ret
          exact ⟨ret_bool HV.out.symm, HZ.out⟩
        ·have HV : Hid (ok = false) := HG2.out (by rw [HBB.out, decide_eq_false e0]; simp)
         have dF0 : decide ((40 : Int) < (opts.size : Int)) = true := by simp; omega
         clear HG2 HG3 HBB HCC
         go_enter Tryz.func51, Tryz.ntmps51
         go_wp2_with fail
         refine (HB1.out _).mono ?_
         rintro e w2 ⟨rfl, rfl⟩
         go_wp2_with fail
         refine (HB2.out _).mono ?_
         rintro e w2 ⟨rfl, rfl⟩
         go_wp2_with fail
         refine (HB3.out _).mono ?_
         rintro e w2 ⟨rfl, rfl⟩
         go_wp2_with fail
         refine (HB4.out _).mono ?_
         rintro e w2 ⟨rfl, rfl⟩
         go_wp2_with fail
         refine (HB5.out _).mono ?_
         rintro e w2 ⟨rfl, rfl⟩
         go_wp2_with fail
         go_ret
         exact ⟨ret_bool HV.out.symm, HZ.out⟩
       ·have HV : Hid (ok = false) := HF.out (by rw [HA.out, decide_eq_false s2]; simp)
        have hd : ((dst.size : Int) != 4) = true := by simp; omega
        clear s2 HA HF HF2 HF3 HBB HCC HO
        go_enter Tryz.func51, Tryz.ntmps51
        go_wp2_with fail
        refine (HB1.out _).mono ?_
        rintro e w2 ⟨rfl, rfl⟩
        go_wp2_with fail
        refine (HB2.out _).mono ?_
        rintro e w2 ⟨rfl, rfl⟩
        go_wp2_with fail
        refine (HB3.out _).mono ?_
        rintro e w2 ⟨rfl, rfl⟩
        go_wp2_with fail
        refine (HB4.out _).mono ?_
        rintro e w2 ⟨rfl, rfl⟩
        go_wp2_with fail
        refine (HB5.out _).mono ?_
        rintro e w2 ⟨rfl, rfl⟩
        go_wp2_with fail
        go_ret
        exact ⟨ret_bool HV.out.symm, HZ.out⟩
      ·have HV : Hid (ok = false) := HF.out (by rw [HA.out, decide_eq_false s1]; simp)
       have hd : ((src.size : Int) != 4) = true := by simp; omega
       clear s1 HA HF HF2 HF3 HBB HCC HO
       go_enter Tryz.func51, Tryz.ntmps51
       go_wp2_with fail
       refine (HB1.out _).mono ?_
       rintro e w2 ⟨rfl, rfl⟩
       go_wp2_with fail
       refine (HB2.out _).mono ?_
       rintro e w2 ⟨rfl, rfl⟩
       go_wp2_with fail
       refine (HB3.out _).mono ?_
       rintro e w2 ⟨rfl, rfl⟩
       go_wp2_with fail
       refine (HB4.out _).mono ?_
       rintro e w2 ⟨rfl, rfl⟩
       go_wp2_with fail
       refine (HB5.out _).mono ?_
       rintro e w2 ⟨rfl, rfl⟩
       go_wp2_with fail
       go_ret
       exact ⟨ret_bool HV.out.symm, HZ.out⟩

end Go.Proofs.YtcckaeppiamebaaGreatDoor
namespace Go.Proofs.YtcckaeppiamebaaGreatDoor
open Go.RowKit Go.PlainAid
theorem flags_all:((List.range 256).all fun n=>decide ((bits .and .i64 (n:Int) 22=2)↔(flagB (n:Int) 2=true∧flagB (n:Int) 4=false∧flagB (n:Int) 16=false)))=true:=by kernel_rfl
theorem flags_22 {flags:Int} (h:isIn flags 0 255=true):(flagB flags 2=true∧flagB flags 4=false∧flagB flags 16=false)=(bits .and .i64 flags 22=2):=by
 unfold isIn at h;simp only [Bool.and_eq_true,decide_eq_true_eq] at h;obtain ⟨n,rfl⟩:=Int.eq_ofNat_of_zero_le h.1;have:=List.all_eq_true.1 flags_all n (List.mem_range.2 (by omega));exact propext (decide_eq_true_eq.mp this).symm
theorem next_in (proto state:Int) (inside:Bool) (flags:Int) (hs:stillP proto=false) (hp:proto=6) (hb:isIn state 1 7=true) (hc:isIn flags 0 255=true):trackNextV proto state inside flags=(
  if flagB flags 4=true then 7
  else if state=1 then (if inside=false∧flagB flags 2=true then 3 else 1)
  else if state=2 then (if inside=true∧flagB flags 2=true then 3 else 2)
  else if state=3 then (if flagB flags 1=true then (if inside=true then 4 else 5) else 3)
  else if state=4 then (if inside=false∧flagB flags 1=true then 6 else 4)
  else if state=5 then (if inside=true∧flagB flags 1=true then 6 else 5)
  else if state=7 then 3 else state):=by
 unfold trackNextV; rw [if_neg (by rw [hs]; decide),if_pos ⟨hp,hb,hc⟩]
theorem specLives_any (l:Lv) (w:World) :
  Cb 119 #[lvC l] w (.bool (livesOk l)):=by
 have HC0:Hid (∀ W,Cw 81 #[iV l.udp,iV 1,iV 10000] W (.bool (isIn l.udp 1 10000))):=fun W=>specIs_any _ _ _ W
 have HC1:Hid (∀ W,Cw 81 #[iV l.echo,iV 1,iV 10000] W (.bool (isIn l.echo 1 10000))):=fun W=>specIs_any _ _ _ W
 have HC2:Hid (∀ W,Cw 81 #[iV l.opening,iV 1,iV 10000] W (.bool (isIn l.opening 1 10000))):=fun W=>specIs_any _ _ _ W
 have HC3:Hid (∀ W,Cw 81 #[iV l.opn,iV 1,iV 10000] W (.bool (isIn l.opn 1 10000))):=fun W=>specIs_any _ _ _ W
 have HC4:Hid (∀ W,Cw 81 #[iV l.closing,iV 1,iV 10000] W (.bool (isIn l.closing 1 10000))):=fun W=>specIs_any _ _ _ W
 have HV:Hid (livesOk l=(isIn l.udp 1 10000&&isIn l.echo 1 10000&&isIn l.opening 1 10000&&isIn l.opn 1 10000&&isIn l.closing 1 10000)):=rfl;generalize livesOk l=ans at *;generalize isIn l.udp 1 10000=b0 at *;generalize isIn l.echo 1 10000=b1 at *;generalize isIn l.opening 1 10000=b2 at *;generalize isIn l.opn 1 10000=b3 at *;generalize isIn l.closing 1 10000=b4 at *;have HZ:Hid (Below w.heap.size w (w.alloc (.cells #[iV l.udp,iV l.echo,iV l.opening,iV l.opn,iV l.closing] 46))):=(Below.refl _ _).alloc (Nat.le_refl _) _;unfold lvC;go_enter Tryz.func119,Tryz.ntmps119
 go_wp2_with fail
 cases b0 with
 | false =>
  refine (HC0.out _).mono ?_;rintro e w0 ⟨rfl,rfl⟩;go_wp2_with fail
  go_ret;exact ⟨ret_bool (by rw [HV.out]; rfl),HZ.out⟩
 | true =>
  refine (HC0.out _).mono ?_;rintro e w0 ⟨rfl,rfl⟩;go_wp2_with fail
  cases b1 with
  | false =>
   refine (HC1.out _).mono ?_;rintro e w1 ⟨rfl,rfl⟩;go_wp2_with fail
   go_ret;exact ⟨ret_bool (by rw [HV.out]; rfl),HZ.out⟩
  | true =>
   refine (HC1.out _).mono ?_;rintro e w1 ⟨rfl,rfl⟩;go_wp2_with fail
   cases b2 with
   | false =>
    refine (HC2.out _).mono ?_;rintro e w2 ⟨rfl,rfl⟩;go_wp2_with fail
    go_ret;exact ⟨ret_bool (by rw [HV.out]; rfl),HZ.out⟩
   | true =>
    refine (HC2.out _).mono ?_;rintro e w2 ⟨rfl,rfl⟩;go_wp2_with fail
    cases b3 with
    | false =>
     refine (HC3.out _).mono ?_;rintro e w3 ⟨rfl,rfl⟩;go_wp2_with fail
     go_ret;exact ⟨ret_bool (by rw [HV.out]; rfl),HZ.out⟩
    | true =>
     refine (HC3.out _).mono ?_;rintro e w3 ⟨rfl,rfl⟩;go_wp2_with fail
     cases b4 with
     | false =>
      refine (HC4.out _).mono ?_;rintro e w4 ⟨rfl,rfl⟩;go_wp2_with fail
      go_ret;exact ⟨ret_bool (by rw [HV.out]; rfl),HZ.out⟩
     | true =>
      refine (HC4.out _).mono ?_;rintro e w4 ⟨rfl,rfl⟩;go_wp2_with fail
      go_ret;exact ⟨ret_bool (by rw [HV.out]; rfl),HZ.out⟩
theorem specStill_any (proto:Int) (w:World) :
  Cw 164 #[iV proto] w (.bool (stillP proto)):=by
 by_cases h1:proto=17
 ·have HV:Hid (stillP proto=true):=by unfold Hid stillP; simp [h1]
  go_enter Tryz.func164,Tryz.ntmps164
  go_wp2_with fail
  go_ret;exact ⟨ret_bool HV.out.symm,rfl⟩
 ·by_cases h2:proto=1
  ·have HV:Hid (stillP proto=true):=by unfold Hid stillP; simp [h2]
   go_enter Tryz.func164,Tryz.ntmps164
   go_wp2_with fail
   go_ret;exact ⟨ret_bool HV.out.symm,rfl⟩
  ·have HV:Hid (stillP proto=false):=by unfold Hid stillP; simp [h1,h2]
   go_enter Tryz.func164,Tryz.ntmps164
   go_wp2_with fail
   go_ret;exact ⟨ret_bool (by rw [HV.out]; simp [h1,h2]),rfl⟩
theorem specNext_any (proto state:Int) (inside:Bool) (flags:Int) (w:World) :
  Cw 128 #[iV proto,iV state,.bool inside,iV flags] w (iV (trackNextV proto state inside flags)):=by
 have HA:Hid (∀ W,Cw 164 #[iV proto] W (.bool (stillP proto))):=fun W=>specStill_any _ W
 have HB:Hid (∀ W,Cw 81 #[iV state,iV 1,iV 7] W (.bool (isIn state 1 7))):=fun W=>specIs_any _ _ _ W
 have HC:Hid (∀ W,Cw 79 #[iV flags] W (.bool (isIn flags 0 255))):=fun W=>specByte_any _ W
 have HV:Hid (trackNextV proto state inside flags=trackNextV proto state inside flags):=rfl
 cases hs:stillP proto with
 | true =>
  have HX:Hid (trackNextV proto state inside flags=3):=by unfold Hid trackNextV; rw [if_pos hs]
  rw [hs] at HA;clear hs;go_enter Tryz.func128,Tryz.ntmps128
  go_wp2_with fail
  refine (HA.out _).mono ?_;rintro e w1 ⟨rfl,rfl⟩;go_wp2_with fail
  go_ret;exact ⟨ret_int HX.out.symm,rfl⟩
 | false =>
  rw [hs] at HA;have HS:Hid (stillP proto=false):=hs;clear hs;by_cases hp:proto=6
  ·subst hp
   cases hb:isIn state 1 7 with
   | false =>
    have HX:Hid (trackNextV 6 state inside flags=0):=by unfold Hid trackNextV; rw [if_neg (by rw [HS.out]; decide),if_neg (by rw [hb]; simp)]
    rw [hb] at HB;clear hb;go_enter Tryz.func128,Tryz.ntmps128
    go_wp2_with fail
    refine (HA.out _).mono ?_;rintro e w1 ⟨rfl,rfl⟩;go_wp2_with fail
    refine (HB.out _).mono ?_;rintro e w1 ⟨rfl,rfl⟩;go_wp2_with fail
    go_ret;exact ⟨ret_int HX.out.symm,rfl⟩
   | true =>
    cases hc:isIn flags 0 255 with
    | false =>
     have HX:Hid (trackNextV 6 state inside flags=0):=by unfold Hid trackNextV; rw [if_neg (by rw [HS.out]; decide),if_neg (by rw [hc]; simp)]
     rw [hb] at HB;rw [hc] at HC;clear hb hc;go_enter Tryz.func128,Tryz.ntmps128
     go_wp2_with fail
     refine (HA.out _).mono ?_;rintro e w1 ⟨rfl,rfl⟩;go_wp2_with fail
     refine (HB.out _).mono ?_;rintro e w1 ⟨rfl,rfl⟩;go_wp2_with fail
     refine (HC.out _).mono ?_;rintro e w1 ⟨rfl,rfl⟩;go_wp2_with fail
     go_ret;exact ⟨ret_int HX.out.symm,rfl⟩
    | true =>
     have HX:Hid _:=next_in 6 state inside flags HS.out rfl hb hc;rw [hb] at HB;rw [hc] at HC;have hr:state=1∨state=2∨state=3∨state=4∨state=5∨state=6∨state=7:=by
      unfold isIn at hb; simp only [Bool.and_eq_true,decide_eq_true_eq] at hb; omega
     clear hb hc;go_enter Tryz.func128,Tryz.ntmps128
     go_wp2_with fail
     refine (HA.out _).mono ?_;rintro e w1 ⟨rfl,rfl⟩;go_wp2_with fail
     refine (HB.out _).mono ?_;rintro e w1 ⟨rfl,rfl⟩;go_wp2_with fail
     refine (HC.out _).mono ?_;rintro e w1 ⟨rfl,rfl⟩;clear HA HB HC;go_upto_region 5 with fail
     by_cases h4:bits .and .i64 flags 4=0
     ·have n4:flagB flags 4=false:=by unfold flagB; simp [h4]
      rw [n4,if_neg (by decide)] at HX;clear n4;have e1:flagB flags 1=decide (¬ bits .and .i64 flags 1=0):=rfl;have e2:flagB flags 2=decide (¬ bits .and .i64 flags 2=0):=rfl;rw [e1,e2] at HX;clear e1 e2;rcases hr with rfl | rfl | rfl | rfl | rfl | rfl | rfl<;>by_cases h1:bits .and .i64 flags 1=0<;>by_cases h2:bits .and .i64 flags 2=0<;>cases inside
      all_goals
       simp [h1,h2] at HX;go_wp2_with fail
       go_ret;exact ⟨ret_int HX.out.symm,rfl⟩
     ·have HY:Hid (trackNextV 6 state inside flags=7):=by unfold Hid; rw [HX.out,if_pos (by unfold flagB; exact decide_eq_true h4)]
      go_wp2_with fail
      go_ret;exact ⟨ret_int HY.out.symm,rfl⟩
  ·have HX:Hid (trackNextV proto state inside flags=0):=by unfold Hid trackNextV; rw [if_neg (by rw [HS.out]; decide),if_neg (fun h=>hp h.1)]
   go_enter Tryz.func128,Tryz.ntmps128
   go_wp2_with fail
   refine (HA.out _).mono ?_;rintro e w1 ⟨rfl,rfl⟩;go_wp2_with fail
   go_ret;exact ⟨ret_int HX.out.symm,rfl⟩
theorem specNew_any (proto:Int) (inside:Bool) (flags:Int) (w:World) :
  Cw 162 #[iV proto,.bool inside,iV flags] w (iV (trackNewV proto inside flags)):=by
 have HA:Hid (∀ W,Cw 164 #[iV proto] W (.bool (stillP proto))):=fun W=>specStill_any _ W
 have HC:Hid (∀ W,Cw 79 #[iV flags] W (.bool (isIn flags 0 255))):=fun W=>specByte_any _ W
 cases hc:isIn flags 0 255 with
 | false =>
  have HX:Hid (trackNewV proto inside flags=0):=by unfold Hid trackNewV; rw [if_pos hc]
  rw [hc] at HC;clear hc;go_enter Tryz.func162,Tryz.ntmps162
  go_wp2_with fail
  refine (HC.out _).mono ?_;rintro e w1 ⟨rfl,rfl⟩;go_wp2_with fail
  go_ret;exact ⟨ret_int HX.out.symm,rfl⟩
 | true =>
  have h22:=flags_22 hc;have HN:Hid (¬ isIn flags 0 255=false):=by unfold Hid; rw [hc]; decide
  rw [hc] at HC;clear hc
  cases hs:stillP proto with
  | true =>
   have HX:Hid (trackNewV proto inside flags=3):=by unfold Hid trackNewV; rw [if_neg HN.out,if_pos hs]
   rw [hs] at HA;clear hs h22;go_enter Tryz.func162,Tryz.ntmps162
   go_wp2_with fail
   refine (HC.out _).mono ?_;rintro e w1 ⟨rfl,rfl⟩;go_wp2_with fail
   refine (HA.out _).mono ?_;rintro e w1 ⟨rfl,rfl⟩;go_wp2_with fail
   go_ret;exact ⟨ret_int HX.out.symm,rfl⟩
  | false =>
   have HX:Hid (trackNewV proto inside flags=if proto=6∧bits .and .i64 flags 22=2 then (if inside=true then 1 else 2) else 0):=by
    unfold Hid trackNewV; rw [if_neg HN.out,if_neg (by rw [hs]; decide)]; simp only [h22]
   rw [hs] at HA;clear hs h22;by_cases hp:proto=6
   ·subst hp;by_cases hf:bits .and .i64 flags 22=2
    ·rw [if_pos ⟨rfl,hf⟩] at HX
     cases inside;all_goals
      go_enter Tryz.func162,Tryz.ntmps162
      go_wp2_with fail
      refine (HC.out _).mono ?_;rintro e w1 ⟨rfl,rfl⟩;go_wp2_with fail
      refine (HA.out _).mono ?_;rintro e w1 ⟨rfl,rfl⟩;go_wp2_with fail
      go_ret;exact ⟨ret_int HX.out.symm,rfl⟩
    ·rw [if_neg (fun h=>hf h.2)] at HX;go_enter Tryz.func162,Tryz.ntmps162
     go_wp2_with fail
     refine (HC.out _).mono ?_;rintro e w1 ⟨rfl,rfl⟩;go_wp2_with fail
     refine (HA.out _).mono ?_;rintro e w1 ⟨rfl,rfl⟩;go_wp2_with fail
     go_ret;exact ⟨ret_int HX.out.symm,rfl⟩
   ·rw [if_neg (fun h=>hp h.1)] at HX;go_enter Tryz.func162,Tryz.ntmps162
    go_wp2_with fail
    refine (HC.out _).mono ?_;rintro e w1 ⟨rfl,rfl⟩;go_wp2_with fail
    refine (HA.out _).mono ?_;rintro e w1 ⟨rfl,rfl⟩;go_wp2_with fail
    go_ret;exact ⟨ret_int HX.out.symm,rfl⟩
theorem specLife_any (l:Lv) (proto state:Int) (w:World) :
  Cb 129 #[lvC l,iV proto,iV state] w (iV (trackLifeV l proto state)):=by
 have HL:Hid (∀ W,Cb 119 #[lvC l] W (.bool (livesOk l))):=fun W=>specLives_any l W
 have HK:Hid (BoxLives (w.alloc (.cells #[iV l.udp,iV l.echo,iV l.opening,iV l.opn,iV l.closing] 46)) w.heap.size l):=BoxLives.new w l;have HZ:Hid (Below w.heap.size w (w.alloc (.cells #[iV l.udp,iV l.echo,iV l.opening,iV l.opn,iV l.closing] 46))):=(Below.refl _ _).alloc (Nat.le_refl _) _;unfold lvC at HL ⊢
 cases hl:livesOk l with
 | false =>
  have HX:Hid (trackLifeV l proto state=0):=by unfold Hid trackLifeV; rw [if_pos hl]
  rw [hl] at HL;clear hl;go_enter Tryz.func129,Tryz.ntmps129
  go_wp2_with fail
  refine (HL.out _).mono ?_;rintro e w1 ⟨rfl,q1⟩;have G1:Hid _:=HZ.out.trans (q1.mono HZ.out.size);clear q1;go_wp2_with fail
  go_ret;exact ⟨ret_int HX.out.symm,G1.out⟩
 | true =>
  have HX:Hid (trackLifeV l proto state=if proto=17 then l.udp else if proto=1 then l.echo else if proto=6 then (if state=1∨state=2 then l.opening else if state=3∨state=4∨state=5 then l.opn else if state=6∨state=7 then l.closing else 0) else 0):=by unfold Hid trackLifeV; rw [if_neg (by rw [hl]; decide)]
  rw [hl] at HL;clear hl;go_enter Tryz.func129,Tryz.ntmps129
  go_wp2_with fail
  refine (HL.out _).mono ?_;rintro e w1 ⟨rfl,q1⟩;have G1:Hid _:=HZ.out.trans (q1.mono HZ.out.size);obtain ⟨k0,k1,k2,k3,k4⟩:=HK.out.kept q1;clear q1 HZ HK HL;by_cases p0:proto=17
  ·subst p0;rw [if_pos rfl] at HX;go_wp2_with fail
   go_ret;exact ⟨ret_int HX.out.symm,G1.out⟩
  ·by_cases p1:proto=1
   ·subst p1;rw [if_neg (by decide),if_pos rfl] at HX;go_wp2_with fail
    go_ret;exact ⟨ret_int HX.out.symm,G1.out⟩
   ·rw [if_neg p0,if_neg p1] at HX;by_cases p6:proto=6
    ·subst p6;rw [if_pos rfl] at HX;clear p0 p1;by_cases s1:state=1
     ·subst s1; simp at HX; go_wp2_with fail; go_ret; exact ⟨ret_int HX.out.symm,G1.out⟩
     by_cases s2:state=2
     ·subst s2; simp at HX; go_wp2_with fail; go_ret; exact ⟨ret_int HX.out.symm,G1.out⟩
     by_cases s3:state=3
     ·subst s3; simp at HX; go_wp2_with fail; go_ret; exact ⟨ret_int HX.out.symm,G1.out⟩
     by_cases s4:state=4
     ·subst s4; simp at HX; go_wp2_with fail; go_ret; exact ⟨ret_int HX.out.symm,G1.out⟩
     by_cases s5:state=5
     ·subst s5; simp at HX; go_wp2_with fail; go_ret; exact ⟨ret_int HX.out.symm,G1.out⟩
     by_cases s6:state=6
     ·subst s6; simp at HX; go_wp2_with fail; go_ret; exact ⟨ret_int HX.out.symm,G1.out⟩
     by_cases s7:state=7
     ·subst s7; simp at HX; go_wp2_with fail; go_ret; exact ⟨ret_int HX.out.symm,G1.out⟩
     simp [s1,s2,s3,s4,s5,s6,s7] at HX;go_wp2_with fail
     go_ret;exact ⟨ret_int HX.out.symm,G1.out⟩
    ·rw [if_neg p6] at HX;go_wp2_with fail
     go_ret;exact ⟨ret_int HX.out.symm,G1.out⟩
end Go.Proofs.YtcckaeppiamebaaGreatDoor
