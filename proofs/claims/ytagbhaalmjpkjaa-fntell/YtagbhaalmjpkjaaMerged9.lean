import Derived.Test.YtagbhaalmjpkjaaMerged4
import Derived.Test.YtagbhaalmjpkjaaMerged8
import Derived.RegionTactic
import Derived.Deep.RegionWith
import Derived.Deep.DeepCutAuto
import Derived.Test.YtagbhaalmjpkjaaSPseudo
import Derived.Test.YtagbhaalmjpkjaaMerged1
set_option linter.unusedVariables false
set_option linter.unusedSimpArgs false
set_option maxRecDepth 100000
set_option maxHeartbeats 8000000
namespace Go.Proofs.Ytagbhaalmjpkjaa
open Go.RowKit Go.PlainAid Go.ChangeShapes Go.WideShapes
structure BoxFlow (w:World) (B:Nat) (p:Fl):Prop where
 c0:w.cell? ⟨B,0,none⟩=some (.int .i64 p.proto)
 c1:w.cell? ⟨B,1,none⟩=some (.string p.src)
 c2:w.cell? ⟨B,2,none⟩=some (.string p.dst)
 c3:w.cell? ⟨B,3,none⟩=some (.int .i64 p.sp)
 c4:w.cell? ⟨B,4,none⟩=some (.int .i64 p.dp)
theorem BoxFlow.kept {w W:World} {B:Nat} {p:Fl} (h:BoxFlow w B p) (hB:Below w.heap.size w W):BoxFlow W B p:=by
 have hb:=World.block_lt_of_cell? w _ h.c0;exact ⟨((bcell hB).1 B 0 hb).trans h.c0,((bcell hB).1 B 1 hb).trans h.c1,((bcell hB).1 B 2 hb).trans h.c2,((bcell hB).1 B 3 hb).trans h.c3,((bcell hB).1 B 4 hb).trans h.c4⟩
theorem BoxFlow.new (w:World) (p:Fl) {t:TypeId}:BoxFlow (w.alloc (.cells #[.int .i64 p.proto,.string p.src,.string p.dst,.int .i64 p.sp,.int .i64 p.dp] t)) w.heap.size p:=⟨cell_new rfl,cell_new rfl,cell_new rfl,cell_new rfl,cell_new rfl⟩
end Go.Proofs.Ytagbhaalmjpkjaa
namespace Go.Proofs.Ytagbhaalmjpkjaa
open Go.RowKit Go.PlainAid
structure BoxG (w:World) (X:Nat) (f:Fl):Prop where
 c0:w.cell? ⟨X,0,none⟩=some (.int .i64 f.proto)
 f0:w.frozen? ⟨X,0,none⟩=false
 c1:w.cell? ⟨X,1,none⟩=some (.string f.src)
 f1:w.frozen? ⟨X,1,none⟩=false
 c2:w.cell? ⟨X,2,none⟩=some (.string f.dst)
 f2:w.frozen? ⟨X,2,none⟩=false
 c3:w.cell? ⟨X,3,none⟩=some (.int .i64 f.sp)
 f3:w.frozen? ⟨X,3,none⟩=false
 c4:w.cell? ⟨X,4,none⟩=some (.int .i64 f.dp)
 f4:w.frozen? ⟨X,4,none⟩=false
section
variable {w w':World} {X:Nat} {f:Fl}
theorem BoxG.new (w:World) (f:Fl) {t:TypeId}:BoxG (w.alloc (.cells #[.int .i64 f.proto,.string f.src,.string f.dst,.int .i64 f.sp,.int .i64 f.dp] t)) w.heap.size f:=⟨cell_new rfl,by simp,cell_new rfl,by simp,cell_new rfl,by simp,cell_new rfl,by simp,cell_new rfl,by simp⟩
theorem BoxG.kept (h:BoxG w X f) (q:Below w.heap.size w w'):BoxG w' X f:=by
 have hb:=World.block_lt_of_cell? w _ h.c0;obtain ⟨hc,hf⟩:=bcell q;exact ⟨(hc X 0 hb).trans h.c0,(hf X 0 hb).trans h.f0,(hc X 1 hb).trans h.c1,(hf X 1 hb).trans h.f1,(hc X 2 hb).trans h.c2,(hf X 2 hb).trans h.f2,(hc X 3 hb).trans h.c3,(hf X 3 hb).trans h.f3,(hc X 4 hb).trans h.c4,(hf X 4 hb).trans h.f4⟩
theorem BoxG.other (h:BoxG w X f) {C o:Nat} (v:Value) (hC:C≠X):BoxG (w.setCell ⟨C,o,none⟩ v) X f:=by
 have hc:∀ j,(w.setCell ⟨C,o,none⟩ v).cell? ⟨X,j,none⟩=w.cell? ⟨X,j,none⟩:=fun j=>World.cell?_setCell_other w _ _ v (fun e=>hC (congrArg Addr.block e))
 have hf:∀ j,(w.setCell ⟨C,o,none⟩ v).frozen? ⟨X,j,none⟩=w.frozen? ⟨X,j,none⟩:=fun j=>by simp
 exact ⟨(hc 0).trans h.c0,(hf 0).trans h.f0,(hc 1).trans h.c1,(hf 1).trans h.f1,(hc 2).trans h.c2,(hf 2).trans h.f2,(hc 3).trans h.c3,(hf 3).trans h.f3,(hc 4).trans h.c4,(hf 4).trans h.f4⟩
theorem BoxG.set3 (h:BoxG w X f) (q:Int):BoxG (w.setCell ⟨X,3,none⟩ (.int .i64 q)) X ⟨f.proto,f.src,f.dst,q,f.dp⟩:=by
 obtain ⟨c0,f0,c1,f1,c2,f2,c3,f3,c4,f4⟩:=h;constructor<;>simp [go_sem,c0,f0,c1,f1,c2,f2,c3,f3,c4,f4]
theorem BoxG.set4 (h:BoxG w X f) (q:Int):BoxG (w.setCell ⟨X,4,none⟩ (.int .i64 q)) X ⟨f.proto,f.src,f.dst,f.sp,q⟩:=by
 obtain ⟨c0,f0,c1,f1,c2,f2,c3,f3,c4,f4⟩:=h;constructor<;>simp [go_sem,c0,f0,c1,f1,c2,f2,c3,f3,c4,f4]
end
structure BoxO (X:Nat) (w:World) (f:Fl) (code:Int):Prop where
 c0:w.cell? ⟨X,0,none⟩=some (.int .i64 f.proto)
 f0:w.frozen? ⟨X,0,none⟩=false
 c1:w.cell? ⟨X,1,none⟩=some (.string f.src)
 f1:w.frozen? ⟨X,1,none⟩=false
 c2:w.cell? ⟨X,2,none⟩=some (.string f.dst)
 f2:w.frozen? ⟨X,2,none⟩=false
 c3:w.cell? ⟨X,3,none⟩=some (.int .i64 f.sp)
 f3:w.frozen? ⟨X,3,none⟩=false
 c4:w.cell? ⟨X,4,none⟩=some (.int .i64 f.dp)
 f4:w.frozen? ⟨X,4,none⟩=false
 c5:w.cell? ⟨X,5,none⟩=some (.int .i64 code)
 f5:w.frozen? ⟨X,5,none⟩=false
theorem BoxO.new (w:World) (f:Fl) (code:Int) {t:TypeId}:BoxO w.heap.size (w.alloc (.cells #[.int .i64 f.proto,.string f.src,.string f.dst,.int .i64 f.sp,.int .i64 f.dp,.int .i64 code] t)) f code:=⟨cell_new rfl,by simp,cell_new rfl,by simp,cell_new rfl,by simp,cell_new rfl,by simp,cell_new rfl,by simp,cell_new rfl,by simp⟩
theorem BoxO.kept {w w':World} {X:Nat} {f:Fl} {code:Int} (h:BoxO X w f code) (q:Below w.heap.size w w'):BoxO X w' f code:=by
 have hb:=World.block_lt_of_cell? w _ h.c0;obtain ⟨hc,hf⟩:=bcell q;exact ⟨(hc X 0 hb).trans h.c0,(hf X 0 hb).trans h.f0,(hc X 1 hb).trans h.c1,(hf X 1 hb).trans h.f1,(hc X 2 hb).trans h.c2,(hf X 2 hb).trans h.f2,(hc X 3 hb).trans h.c3,(hf X 3 hb).trans h.f3,(hc X 4 hb).trans h.c4,(hf X 4 hb).trans h.f4,(hc X 5 hb).trans h.c5,(hf X 5 hb).trans h.f5⟩
theorem spPut_any (s:ByteArray) (k:Nat) (t:ByteArray) (w:World) (h:k+t.size≤s.size) (hs:s.size≤100000) :
  Calls Try.prog 46 #[.string s,.int .i64 k,.string t] w fun e w'=>e=.returned (.string (putV s k t))∧Below w.heap.size w w':=by
 have HV:Hid (putV s k t=s.extract 0 k++t++s.extract (k+t.size) s.size):=rfl;generalize putV s k t=ans at *;have L1:∀ W,(Instr.slice 9 (.string s) none (some (.int .i64 k)) none).run Try.prog W=.ok (.string (s.extract 0 k)) W:=fun W=>by
  rw [run_slice_string_h (P:=Try.prog) (t:=9) (s:=s) (w:=W) (ht:=Try.underlying9) .i64 (k:Int) (by omega) (by omega),show ((k:Int)).toNat=k by omega]
 have L2:∀ W,(Instr.slice 9 (.string s) (some (.int .i64 ((k:Int)+t.size))) none none).run Try.prog W=.ok (.string (s.extract (k+t.size) s.size)) W:=fun W=>by
  rw [run_slice_string_l (P:=Try.prog) (t:=9) (s:=s) (w:=W) (ht:=Try.underlying9) .i64 ((k:Int)+t.size) (by omega) (by omega),show ((k:Int)+t.size).toNat=k+t.size by omega]
 have z1:(s.extract 0 k).size=k:=by rw [ByteArray.size_extract]; omega
 have z2:(s.extract (k+t.size) s.size).size=s.size-(k+t.size):=by rw [ByteArray.size_extract]; omega
 generalize s.extract 0 k=u1 at *;generalize s.extract (k+t.size) s.size=u2 at *;have n1:¬ 9223372036854775807 < u1.size+t.size:=by omega
 have n2:¬ 9223372036854775807 < u1.size+t.size+u2.size:=by omega
 have hw:IntKind.i64.wrap ((k:Int)+t.size)=(k:Int)+t.size:=by rw [IntKind.wrap_i64]; omega
 have HZ1:Hid (u1.size=k):=z1;have HZ2:Hid (u2.size=s.size-(k+t.size)):=z2;clear z1 z2;go_enter Try.func46,Try.ntmps46
 go_wp2_with fail
 go_region
 all_goals go_wp2_with fail
 all_goals go_ret
 all_goals exact ⟨by rw [HV.out]; rfl,(Below.refl _ _).drew⟩
theorem ex_all (t:ByteArray) (n:Nat) (h:t.size≤n):t.extract 0 n=t:=by
 apply ByteArray.ext;rw [ByteArray.data_extract];have hd:t.data.size=t.size:=rfl;apply Array.ext
 ·rw [Array.size_extract]; omega
 ·intro i h1 h2; simp
theorem first_any (t:ByteArray) (n:Nat) (w:World) (hs:t.size≤1048576) (hn:n≤1048576) :
  Calls Try.prog 43 #[.string t,.int .i64 n] w fun e w'=>e=.returned (.string (t.extract 0 n))∧w'=w:=by
 by_cases h:t.size < n
 ·have h':((t.size:Int) < n):=by omega
  have HV:Hid (t.extract 0 n=t):=by
   unfold Hid;exact ex_all t n (by omega)
  generalize t.extract 0 n=ans at *;go_enter Try.func43,Try.ntmps43
  go_wp2_with fail
  go_ret;exact ⟨ret_string HV.out.symm,rfl⟩
 ·have h':¬ ((t.size:Int) < n):=by omega
  have hn0:n≤t.size:=by omega
  have hb:((n:Int)≤t.size):=by omega
  go_enter Try.func43,Try.ntmps43
  go_wp2_with fail
  go_ret;exact ⟨rfl,rfl⟩
theorem mask_k (k:Nat) (hk:k < 63) (x:Int) (h0:0≤x) (h1:x < 9223372036854775808):bits .and .i64 x (2 ^ k-1)=x % 2 ^ k :=
 bits_mask .i64 63 (by decide) wraps_i64 k (Nat.le_of_lt hk) x h0 (by omega)
theorem mask16 (x:Int) (h0:0≤x) (h1:x≤4294967295):bits .and .i64 x 65535=x % 65536:=by
 have h:=mask_k 16 (by decide) x h0 (by omega);rw [show ((2:Int) ^ 16-1)=65535 by decide,show ((2:Int) ^ 16)=65536 by decide] at h;exact h
theorem firstN_bits (p:P6) (h1:0≤p.cls∧p.cls≤255) (h2:0≤p.flow∧p.flow≤1048575) :
  bits .or .i64 (bits .or .i64 1610612736 (p.cls*1048576)) p.flow=firstN p:=by
 have e1:bits .or .i64 1610612736 (p.cls*1048576)=1610612736+p.cls*1048576 :=
  bits_join .i64 63 (by decide) wraps_i64 28 1610612736 (p.cls*1048576) (by omega) (by omega) (by omega) (by omega) (by omega) (by omega)
 rw [e1];have e2:bits .or .i64 (1610612736+p.cls*1048576) p.flow=1610612736+p.cls*1048576+p.flow :=
  bits_join .i64 63 (by decide) wraps_i64 20 (1610612736+p.cls*1048576) p.flow (by omega) (by omega) (by omega) (by omega) (by omega) (by omega)
 rw [e2]; unfold firstN; omega
theorem v6Ok_parts {p:P6} (h:v6Ok p=true):(0≤p.cls∧p.cls≤255)∧(0≤p.next∧p.next≤255)∧(0≤p.hops∧p.hops≤255)∧(0≤p.flow∧p.flow≤1048575)∧p.src.size=16∧p.dst.size=16∧p.data.size≤1400 ∧
  (p.piece=true→(0≤p.off∧p.off≤8191)∧(0≤p.id∧p.id≤4294967295)∧8*p.off+p.data.size≤65535):=by
 unfold v6Ok at h;rw [Bool.and_eq_true] at h;obtain ⟨ha,hb⟩:=h;unfold v6A at ha;simp only [Bool.and_eq_true,decide_eq_true_iff] at ha;obtain ⟨⟨⟨⟨⟨⟨⟨h1,h2⟩,h3⟩,h4⟩,h5⟩,h6⟩,h7⟩,_⟩:=ha;refine ⟨isIn_parts h1,isIn_parts h2,isIn_parts h3,isIn_parts h4,h5,h6,h7,fun hp=>?_⟩;unfold v6B at hb;rw [if_pos hp] at hb;simp only [Bool.and_eq_true,decide_eq_true_iff] at hb;obtain ⟨⟨⟨g1,g2⟩,_⟩,g4⟩:=hb;exact ⟨isIn_parts g1,isIn_parts g2,g4⟩
end Go.Proofs.Ytagbhaalmjpkjaa
