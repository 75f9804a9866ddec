import Derived.Test.YtagbhaalmjpkjaaMerged3
import Derived.Test.YtagbhaalmjpkjaaMerged4
import Derived.Test.YtagbhaalmjpkjaaMerged7
import Derived.WalkLawsBesides
import Derived.RegionTactic
import Derived.Deep.QuietTactic
import Derived.Deep.RegionWith
import Derived.Deep.DeepCutAuto
set_option linter.unusedVariables false
set_option linter.unusedSimpArgs false
set_option maxRecDepth 100000
set_option maxHeartbeats 8000000
namespace Go.Proofs.Ytagbhaalmjpkjaa
open Go.RowKit Go.PlainAid
structure CurAt (w:World) (B b cap:Nat) (t:ByteArray) (k:Nat):Prop where
 c0:w.cell? ⟨B,0,none⟩=some (.slice (some ⟨b,0,none⟩) t.size cap)
 f0:w.frozen? ⟨B,0,none⟩=false
 c1:w.cell? ⟨B,1,none⟩=some (.int .i64 k)
 f1:w.frozen? ⟨B,1,none⟩=false
 bs:∀ i,i < t.size→w.cell? ⟨b,i,none⟩=some (.int .u8 (bt t i))
 ne:b≠B
 lt:b < w.heap.size
 cp:t.size≤cap
theorem CurAt.kept {w W:World} {B b cap:Nat} {t:ByteArray} {k:Nat} (h:CurAt w B b cap t k) (hB:Below w.heap.size w W):CurAt W B b cap t k:=by
 have hb:=World.block_lt_of_cell? w _ h.c0;exact ⟨((bcell hB).1 B 0 hb).trans h.c0,((bcell hB).2 B 0 hb).trans h.f0,((bcell hB).1 B 1 hb).trans h.c1,((bcell hB).2 B 1 hb).trans h.f1,fun i hi=>((bcell hB).1 b i h.lt).trans (h.bs i hi),h.ne,Nat.lt_of_lt_of_le h.lt hB.size,h.cp⟩
theorem CurAt.step {w:World} {B b cap:Nat} {t:ByteArray} {k:Nat} (h:CurAt w B b cap t k) (k':Nat):CurAt (w.setCell ⟨B,1,none⟩ (.int .i64 k')) B b cap t k':=by
 refine ⟨?_,by simpa using h.f0,World.cell?_setCell_same _ _ _ h.c1,by simpa using h.f1,fun i hi=>?_,h.ne,by simpa using h.lt,h.cp⟩
 ·rw [World.cell?_setCell_other _ _ _ _ (fun e=>by injection e with _ h2; omega)]; exact h.c0
 ·rw [World.cell?_setCell_other _ _ _ _ (fun e=>by injection e with h1 _; exact h.ne h1.symm)]; exact h.bs i hi
theorem CurAt.other {w:World} {B b cap:Nat} {t:ByteArray} {k:Nat} (h:CurAt w B b cap t k) {C o:Nat} (v:Value) (h1:C≠B) (h2:C≠b):CurAt (w.setCell ⟨C,o,none⟩ v) B b cap t k:=by
 have hc:∀ X j,C≠X→(w.setCell ⟨C,o,none⟩ v).cell? ⟨X,j,none⟩=w.cell? ⟨X,j,none⟩:=fun X j hX=>World.cell?_setCell_other w _ _ v (fun e=>hX (congrArg Addr.block e))
 exact ⟨(hc B 0 h1).trans h.c0,by simpa using h.f0,(hc B 1 h1).trans h.c1,by simpa using h.f1,fun i hi=>(hc b i h2).trans (h.bs i hi),h.ne,by simpa using h.lt,h.cp⟩
theorem bt_list {s:ByteArray} {j:Nat} (h:j < s.data.toList.length):(s.data.toList[j].toNat:Int)=bt s j:=by
 have h':j < s.size:=by rw [Array.length_toList] at h; exact h
 unfold bt;rw [dif_pos h',ByteArray.getElem_eq_getElem_data];simp
theorem take_conv {w:World} {b k n cap:Nat} {t:ByteArray} (bs:∀ i,i < t.size→w.cell? ⟨b,i,none⟩=some (.int .u8 (bt t i))) (h:k+n≤t.size) :
  (convert 22 9 (.slice (some ⟨b,k,none⟩) n cap)).run Try.prog w=.ok (.string (t.extract k (k+n))) w:=by
 have hl:(t.extract k (k+n)).data.toList.length=n:=by
  have:(t.extract k (k+n)).size=n:=by rw [ByteArray.size_extract]; omega
  rw [Array.length_toList]; exact this
 have:=run_convert_bytes_back (P:=Try.prog) w 22 9 5 ⟨b,k,none⟩ cap ((t.extract k (k+n)).data.toList) Try.underlying22 Try.underlying5 Try.underlying9 (by
  intro j hj;have hj':j < n:=by omega
  have ha:Addr.add ⟨b,k,none⟩ j=⟨b,k+j,none⟩:=by simp only [Addr.add]; split<;>simp_all
  rw [ha,bs (k+j) (by omega),bt_list hj,bt_extract t k (k+n) j h,if_pos (by omega)])
 rw [hl] at this;exact this
end Go.Proofs.Ytagbhaalmjpkjaa
