import Derived.Test.YtagbhaalmjpkjaaDrawData
import Derived.Test.YtagbhaalmjpkjaaIBox
set_option linter.unusedVariables false
set_option linter.unusedSimpArgs false
set_option maxRecDepth 100000
set_option maxHeartbeats 8000000
namespace Go.Proofs.Ytagbhaalmjpkjaa
open Go.RowKit Go.PlainAid
theorem drawBytesI (m:Nat) (mi:Int) (hmi:mi=m) (B:Nat) (a:Option Addr) (len cap:Nat) (size:Int) (w:World) (hm:m≤100000) (hl:len≤1048576) (hs:Src w B a len cap size) :
  Calls Try.prog 59 #[.pointer (some ⟨B,0,none⟩),.int .i64 mi] w fun e w'=>∃ s:ByteArray,e=.returned (.string s)∧s.size=m∧Src w' B a len cap size∧w.grownBy w' (some B):=by
 subst hmi; exact drawBytes_any m B a len cap size w hm hl hs
theorem BoxW4.drawn {w w':World} {X B:Nat} {p:P4} (h:BoxW4 w X p) (he:EB B w w') (hX:X≠B):BoxW4 w' X p:=by
 have hb:=World.block_lt_of_cell? w _ h.c0;have hk:w'.heap[X]?=w.heap[X]?:=World.grownBy.block he X hb (by simp; exact hX);have hc:∀ j,w'.cell? ⟨X,j,none⟩=w.cell? ⟨X,j,none⟩:=fun j=>World.cell?_of_block hk
 have hf:∀ j,w'.frozen? ⟨X,j,none⟩=w.frozen? ⟨X,j,none⟩:=fun j=>World.frozen?_of_block hk
 exact ⟨(hc 0).trans h.c0,(hf 0).trans h.f0,(hc 1).trans h.c1,(hf 1).trans h.f1,(hc 2).trans h.c2,(hf 2).trans h.f2,(hc 3).trans h.c3,(hf 3).trans h.f3,(hc 4).trans h.c4,(hf 4).trans h.f4,(hc 5).trans h.c5,(hf 5).trans h.f5,(hc 6).trans h.c6,(hf 6).trans h.f6,(hc 7).trans h.c7,(hf 7).trans h.f7,(hc 8).trans h.c8,(hf 8).trans h.f8,(hc 9).trans h.c9,(hf 9).trans h.f9,(hc 10).trans h.c10,(hf 10).trans h.f10⟩
theorem BoxW4.made (w:World) (p:P4) {t:TypeId}:BoxW4 (w.alloc (.cells #[.int .i64 p.tos,.int .i64 p.id,.bool p.whole,.bool p.more,.int .i64 p.off,.int .i64 p.ttl,.int .i64 p.proto,.string p.src,.string p.dst,.string p.opts,.string p.data] t)) w.heap.size p:=⟨cell_new rfl,by simp,cell_new rfl,by simp,cell_new rfl,by simp,cell_new rfl,by simp,cell_new rfl,by simp,cell_new rfl,by simp,cell_new rfl,by simp,cell_new rfl,by simp,cell_new rfl,by simp,cell_new rfl,by simp,cell_new rfl,by simp⟩
def Bd4 (p:P4):Prop:=In64t p.tos∧In64t p.id∧In64t p.off∧In64t p.ttl∧In64t p.proto∧p.src.size≤1500∧p.dst.size≤1500∧p.opts.size≤1500∧p.data.size≤1500
structure DS4 (w:World) (B:Nat) (a:Option Addr) (len cap:Nat) (size:Int) (O Pb:Nat) (wx:World) (p:P4):Prop where
 dr:Dr w B a len cap size wx
 out:BoxW4 wx O p4Zero
 box:BoxW4 wx Pb p
 hO:w.heap.size≤O
 hP:w.heap.size≤Pb
 OP:O≠Pb
 bd:Bd4 p
section
variable {w wx wy:World} {B len cap:Nat} {a:Option Addr} {size:Int} {O Pb:Nat} {p:P4}
theorem DS4.draw (h:DS4 w B a len cap size O Pb wx p) (hs:Src wy B a len cap size) (hg:wx.grownBy wy (some B)):DS4 w B a len cap size O Pb wy p:=by
 have:=h.dr.hB; have:=h.hO; have:=h.hP;exact ⟨h.dr.draw hs hg,h.out.drawn hg (by omega),h.box.drawn hg (by omega),h.hO,h.hP,h.OP,h.bd⟩
theorem DS4.below (h:DS4 w B a len cap size O Pb wx p) (hb:Below wx.heap.size wx wy):DS4 w B a len cap size O Pb wy p:=⟨h.dr.below hb,h.out.kept hb,h.box.kept hb,h.hO,h.hP,h.OP,h.bd⟩
theorem DS4.set0 (h:DS4 w B a len cap size O Pb wx p) (x:Int) (hb:Bd4 { p with tos:=x }):DS4 w B a len cap size O Pb (wx.setCell ⟨Pb,0,none⟩ (.int .i64 x)) { p with tos:=x } :=
 ⟨h.dr.set _ _ _ h.hP,h.out.other _ h.OP.symm,h.box.set0 x,h.hO,h.hP,h.OP,hb⟩
theorem DS4.set1 (h:DS4 w B a len cap size O Pb wx p) (x:Int) (hb:Bd4 { p with id:=x }):DS4 w B a len cap size O Pb (wx.setCell ⟨Pb,1,none⟩ (.int .i64 x)) { p with id:=x } :=
 ⟨h.dr.set _ _ _ h.hP,h.out.other _ h.OP.symm,h.box.set1 x,h.hO,h.hP,h.OP,hb⟩
theorem DS4.set2 (h:DS4 w B a len cap size O Pb wx p) (x:Bool) (hb:Bd4 { p with whole:=x }):DS4 w B a len cap size O Pb (wx.setCell ⟨Pb,2,none⟩ (.bool x)) { p with whole:=x } :=
 ⟨h.dr.set _ _ _ h.hP,h.out.other _ h.OP.symm,h.box.set2 x,h.hO,h.hP,h.OP,hb⟩
theorem DS4.set3 (h:DS4 w B a len cap size O Pb wx p) (x:Bool) (hb:Bd4 { p with more:=x }):DS4 w B a len cap size O Pb (wx.setCell ⟨Pb,3,none⟩ (.bool x)) { p with more:=x } :=
 ⟨h.dr.set _ _ _ h.hP,h.out.other _ h.OP.symm,h.box.set3 x,h.hO,h.hP,h.OP,hb⟩
theorem DS4.set4 (h:DS4 w B a len cap size O Pb wx p) (x:Int) (hb:Bd4 { p with off:=x }):DS4 w B a len cap size O Pb (wx.setCell ⟨Pb,4,none⟩ (.int .i64 x)) { p with off:=x } :=
 ⟨h.dr.set _ _ _ h.hP,h.out.other _ h.OP.symm,h.box.set4 x,h.hO,h.hP,h.OP,hb⟩
theorem DS4.set5 (h:DS4 w B a len cap size O Pb wx p) (x:Int) (hb:Bd4 { p with ttl:=x }):DS4 w B a len cap size O Pb (wx.setCell ⟨Pb,5,none⟩ (.int .i64 x)) { p with ttl:=x } :=
 ⟨h.dr.set _ _ _ h.hP,h.out.other _ h.OP.symm,h.box.set5 x,h.hO,h.hP,h.OP,hb⟩
theorem DS4.set6 (h:DS4 w B a len cap size O Pb wx p) (x:Int) (hb:Bd4 { p with proto:=x }):DS4 w B a len cap size O Pb (wx.setCell ⟨Pb,6,none⟩ (.int .i64 x)) { p with proto:=x } :=
 ⟨h.dr.set _ _ _ h.hP,h.out.other _ h.OP.symm,h.box.set6 x,h.hO,h.hP,h.OP,hb⟩
theorem DS4.set7 (h:DS4 w B a len cap size O Pb wx p) (x:ByteArray) (hb:Bd4 { p with src:=x }):DS4 w B a len cap size O Pb (wx.setCell ⟨Pb,7,none⟩ (.string x)) { p with src:=x } :=
 ⟨h.dr.set _ _ _ h.hP,h.out.other _ h.OP.symm,h.box.set7 x,h.hO,h.hP,h.OP,hb⟩
theorem DS4.set8 (h:DS4 w B a len cap size O Pb wx p) (x:ByteArray) (hb:Bd4 { p with dst:=x }):DS4 w B a len cap size O Pb (wx.setCell ⟨Pb,8,none⟩ (.string x)) { p with dst:=x } :=
 ⟨h.dr.set _ _ _ h.hP,h.out.other _ h.OP.symm,h.box.set8 x,h.hO,h.hP,h.OP,hb⟩
theorem DS4.set9 (h:DS4 w B a len cap size O Pb wx p) (x:ByteArray) (hb:Bd4 { p with opts:=x }):DS4 w B a len cap size O Pb (wx.setCell ⟨Pb,9,none⟩ (.string x)) { p with opts:=x } :=
 ⟨h.dr.set _ _ _ h.hP,h.out.other _ h.OP.symm,h.box.set9 x,h.hO,h.hP,h.OP,hb⟩
theorem DS4.set10 (h:DS4 w B a len cap size O Pb wx p) (x:ByteArray) (hb:Bd4 { p with data:=x }):DS4 w B a len cap size O Pb (wx.setCell ⟨Pb,10,none⟩ (.string x)) { p with data:=x } :=
 ⟨h.dr.set _ _ _ h.hP,h.out.other _ h.OP.symm,h.box.set10 x,h.hO,h.hP,h.OP,hb⟩
end
theorem BoxW6.drawn {w w':World} {X B:Nat} {p:P6} (h:BoxW6 w X p) (he:EB B w w') (hX:X≠B):BoxW6 w' X p:=by
 have hb:=World.block_lt_of_cell? w _ h.c0;have hk:w'.heap[X]?=w.heap[X]?:=World.grownBy.block he X hb (by simp; exact hX);have hc:∀ j,w'.cell? ⟨X,j,none⟩=w.cell? ⟨X,j,none⟩:=fun j=>World.cell?_of_block hk
 have hf:∀ j,w'.frozen? ⟨X,j,none⟩=w.frozen? ⟨X,j,none⟩:=fun j=>World.frozen?_of_block hk
 exact ⟨(hc 0).trans h.c0,(hf 0).trans h.f0,(hc 1).trans h.c1,(hf 1).trans h.f1,(hc 2).trans h.c2,(hf 2).trans h.f2,(hc 3).trans h.c3,(hf 3).trans h.f3,(hc 4).trans h.c4,(hf 4).trans h.f4,(hc 5).trans h.c5,(hf 5).trans h.f5,(hc 6).trans h.c6,(hf 6).trans h.f6,(hc 7).trans h.c7,(hf 7).trans h.f7,(hc 8).trans h.c8,(hf 8).trans h.f8,(hc 9).trans h.c9,(hf 9).trans h.f9,(hc 10).trans h.c10,(hf 10).trans h.f10⟩
theorem BoxW6.made (w:World) (p:P6) {t:TypeId}:BoxW6 (w.alloc (.cells #[.int .i64 p.cls,.int .i64 p.flow,.int .i64 p.next,.int .i64 p.hops,.string p.src,.string p.dst,.bool p.piece,.bool p.more,.int .i64 p.off,.int .i64 p.id,.string p.data] t)) w.heap.size p:=⟨cell_new rfl,by simp,cell_new rfl,by simp,cell_new rfl,by simp,cell_new rfl,by simp,cell_new rfl,by simp,cell_new rfl,by simp,cell_new rfl,by simp,cell_new rfl,by simp,cell_new rfl,by simp,cell_new rfl,by simp,cell_new rfl,by simp⟩
def Bd6 (p:P6):Prop:=In64t p.cls∧In64t p.flow∧In64t p.next∧In64t p.hops∧In64t p.off∧In64t p.id∧p.src.size≤1500∧p.dst.size≤1500∧p.data.size≤1500
structure DS6 (w:World) (B:Nat) (a:Option Addr) (len cap:Nat) (size:Int) (O Pb:Nat) (wx:World) (p:P6):Prop where
 dr:Dr w B a len cap size wx
 out:BoxW6 wx O p6Zero
 box:BoxW6 wx Pb p
 hO:w.heap.size≤O
 hP:w.heap.size≤Pb
 OP:O≠Pb
 bd:Bd6 p
section
variable {w wx wy:World} {B len cap:Nat} {a:Option Addr} {size:Int} {O Pb:Nat} {p:P6}
theorem DS6.draw (h:DS6 w B a len cap size O Pb wx p) (hs:Src wy B a len cap size) (hg:wx.grownBy wy (some B)):DS6 w B a len cap size O Pb wy p:=by
 have:=h.dr.hB; have:=h.hO; have:=h.hP;exact ⟨h.dr.draw hs hg,h.out.drawn hg (by omega),h.box.drawn hg (by omega),h.hO,h.hP,h.OP,h.bd⟩
theorem DS6.below (h:DS6 w B a len cap size O Pb wx p) (hb:Below wx.heap.size wx wy):DS6 w B a len cap size O Pb wy p:=⟨h.dr.below hb,h.out.kept hb,h.box.kept hb,h.hO,h.hP,h.OP,h.bd⟩
theorem DS6.set0 (h:DS6 w B a len cap size O Pb wx p) (x:Int) (hb:Bd6 { p with cls:=x }):DS6 w B a len cap size O Pb (wx.setCell ⟨Pb,0,none⟩ (.int .i64 x)) { p with cls:=x } :=
 ⟨h.dr.set _ _ _ h.hP,h.out.other _ h.OP.symm,h.box.set0 x,h.hO,h.hP,h.OP,hb⟩
theorem DS6.set1 (h:DS6 w B a len cap size O Pb wx p) (x:Int) (hb:Bd6 { p with flow:=x }):DS6 w B a len cap size O Pb (wx.setCell ⟨Pb,1,none⟩ (.int .i64 x)) { p with flow:=x } :=
 ⟨h.dr.set _ _ _ h.hP,h.out.other _ h.OP.symm,h.box.set1 x,h.hO,h.hP,h.OP,hb⟩
theorem DS6.set2 (h:DS6 w B a len cap size O Pb wx p) (x:Int) (hb:Bd6 { p with next:=x }):DS6 w B a len cap size O Pb (wx.setCell ⟨Pb,2,none⟩ (.int .i64 x)) { p with next:=x } :=
 ⟨h.dr.set _ _ _ h.hP,h.out.other _ h.OP.symm,h.box.set2 x,h.hO,h.hP,h.OP,hb⟩
theorem DS6.set3 (h:DS6 w B a len cap size O Pb wx p) (x:Int) (hb:Bd6 { p with hops:=x }):DS6 w B a len cap size O Pb (wx.setCell ⟨Pb,3,none⟩ (.int .i64 x)) { p with hops:=x } :=
 ⟨h.dr.set _ _ _ h.hP,h.out.other _ h.OP.symm,h.box.set3 x,h.hO,h.hP,h.OP,hb⟩
theorem DS6.set4 (h:DS6 w B a len cap size O Pb wx p) (x:ByteArray) (hb:Bd6 { p with src:=x }):DS6 w B a len cap size O Pb (wx.setCell ⟨Pb,4,none⟩ (.string x)) { p with src:=x } :=
 ⟨h.dr.set _ _ _ h.hP,h.out.other _ h.OP.symm,h.box.set4 x,h.hO,h.hP,h.OP,hb⟩
theorem DS6.set5 (h:DS6 w B a len cap size O Pb wx p) (x:ByteArray) (hb:Bd6 { p with dst:=x }):DS6 w B a len cap size O Pb (wx.setCell ⟨Pb,5,none⟩ (.string x)) { p with dst:=x } :=
 ⟨h.dr.set _ _ _ h.hP,h.out.other _ h.OP.symm,h.box.set5 x,h.hO,h.hP,h.OP,hb⟩
theorem DS6.set6 (h:DS6 w B a len cap size O Pb wx p) (x:Bool) (hb:Bd6 { p with piece:=x }):DS6 w B a len cap size O Pb (wx.setCell ⟨Pb,6,none⟩ (.bool x)) { p with piece:=x } :=
 ⟨h.dr.set _ _ _ h.hP,h.out.other _ h.OP.symm,h.box.set6 x,h.hO,h.hP,h.OP,hb⟩
theorem DS6.set7 (h:DS6 w B a len cap size O Pb wx p) (x:Bool) (hb:Bd6 { p with more:=x }):DS6 w B a len cap size O Pb (wx.setCell ⟨Pb,7,none⟩ (.bool x)) { p with more:=x } :=
 ⟨h.dr.set _ _ _ h.hP,h.out.other _ h.OP.symm,h.box.set7 x,h.hO,h.hP,h.OP,hb⟩
theorem DS6.set8 (h:DS6 w B a len cap size O Pb wx p) (x:Int) (hb:Bd6 { p with off:=x }):DS6 w B a len cap size O Pb (wx.setCell ⟨Pb,8,none⟩ (.int .i64 x)) { p with off:=x } :=
 ⟨h.dr.set _ _ _ h.hP,h.out.other _ h.OP.symm,h.box.set8 x,h.hO,h.hP,h.OP,hb⟩
theorem DS6.set9 (h:DS6 w B a len cap size O Pb wx p) (x:Int) (hb:Bd6 { p with id:=x }):DS6 w B a len cap size O Pb (wx.setCell ⟨Pb,9,none⟩ (.int .i64 x)) { p with id:=x } :=
 ⟨h.dr.set _ _ _ h.hP,h.out.other _ h.OP.symm,h.box.set9 x,h.hO,h.hP,h.OP,hb⟩
theorem DS6.set10 (h:DS6 w B a len cap size O Pb wx p) (x:ByteArray) (hb:Bd6 { p with data:=x }):DS6 w B a len cap size O Pb (wx.setCell ⟨Pb,10,none⟩ (.string x)) { p with data:=x } :=
 ⟨h.dr.set _ _ _ h.hP,h.out.other _ h.OP.symm,h.box.set10 x,h.hO,h.hP,h.OP,hb⟩
end
theorem grown_belowD {w wx:World} (hg:w.grownBy wx none):Below w.heap.size w wx:=⟨hg.os,hg.tape,hg.output,hg.size,fun k hk=>hg.block k hk (by simp)⟩
theorem mkz (n:Nat) (w:World) (hn:n≤3000):∃ (u:ByteArray) (W:World),(Instr.makeSlice 22 (.int .i64 n) (.int .i64 n)).run Try.prog w=.ok (.slice (some ⟨w.heap.size,0,none⟩) n n) W∧(convert 22 9 (.slice (some ⟨w.heap.size,0,none⟩) n n)).run Try.prog W=.ok (.string u) W∧u.size=n∧Below w.heap.size w W∧∀ i,bt u i=0:=by
 obtain ⟨i0,hi,hz0,hz1,hz2⟩:=info_parts Try.infoB;obtain ⟨W,h1,h2,h3⟩:=run_make_full (P:=Try.prog) w w.heap.size 22 5 i0 (.int .u8 0) 1 Try.underlying22 hi hz0 hz1 .i64 .i64 n (by rw [hz2]; omega) (by unfold maxLen; omega) (Nat.le_refl _);have hx:∀ j,j < n→W.cell? ⟨w.heap.size,j,none⟩=some (.int .u8 0):=fun j hj=>by
  rw [h2.cellAt j (by omega)];simp [madeCells,Value.cells,hj,Nat.mod_one]
 have hcv:=run_convert_bytes_back (P:=Try.prog) W 22 9 5 ⟨w.heap.size,0,none⟩ n (List.replicate n 0) Try.underlying22 Try.underlying5 Try.underlying9 (fun j hj=>by
  have hj':j < n:=by simpa using hj
  have ha:Addr.add ⟨w.heap.size,0,none⟩ j=⟨w.heap.size,j,none⟩:=by simp only [Addr.add,Nat.zero_add]; split<;>simp_all
  rw [ha,hx j hj']; simp)
 rw [List.length_replicate] at hcv;refine ⟨_,W,h1,hcv,by simp [ByteArray.size],grown_belowD h3,fun i=>?_⟩;unfold bt;split
 ·simp [ByteArray.getElem_eq_getElem_data]
 ·rfl
end Go.Proofs.Ytagbhaalmjpkjaa
