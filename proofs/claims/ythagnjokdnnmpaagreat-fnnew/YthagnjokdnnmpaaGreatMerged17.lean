import Derived.Test.YthagnjokdnnmpaaGreatMerged14
import Derived.Test.YthagnjokdnnmpaaGreatMerged1
import Derived.BigQuiet
import Derived.Deep.DeepCutAuto
import Derived.Test.YthagnjokdnnmpaaGreatMerged9
set_option linter.unusedVariables false
set_option linter.unusedSimpArgs false
set_option maxRecDepth 100000
set_option maxHeartbeats 8000000
namespace Go.Proofs.YthagnjokdnnmpaaGreat
open Go.RowKit Go.PlainAid
theorem spPair_any (s d:ByteArray) (w:World) (hs:s.size≤maxLen) (hd:d.size≤maxLen) :
  Calls Tryz.prog 164 #[.string s,.string d] w fun e w'=>e=.returned (.bool (pairOk s d))∧w'=w:=by
 have HA:Hid (∀ W,Calls Tryz.prog 137 #[.string s] W fun e w'=>e=.returned (.bool (addrOk s))∧w'=W):=fun W=>specAddrRight_any s W
 unfold maxLen at hs hd;unfold pairOk;generalize addrOk s=b at *;by_cases h:s.size=d.size
 ·have dh:((s.size:Int)==(d.size:Int))=true:=by simp; omega
  rw [decide_eq_true h];clear h
  cases b;all_goals go_enter Tryz.func164,Tryz.ntmps164
  all_goals go_wp2_with fail
  all_goals refine (HA.out _).mono ?_
  all_goals rintro e w2 ⟨rfl,rfl⟩
  all_goals go_wp2_with fail
  all_goals go_ret
  all_goals exact ⟨rfl,rfl⟩
 ·have dh:((s.size:Int)==(d.size:Int))=false:=by simp; omega
  rw [decide_eq_false h]
  cases b;all_goals go_enter Tryz.func164,Tryz.ntmps164
  all_goals go_wp2_with fail
  all_goals refine (HA.out _).mono ?_
  all_goals rintro e w2 ⟨rfl,rfl⟩
  all_goals go_wp2_with fail
  all_goals go_ret
  all_goals exact ⟨rfl,rfl⟩
open Go.ChangeShapes Go.WideShapes
def PcSm (p:Pc):Prop:=p.src.size≤1048576∧p.dst.size≤1048576∧p.data.size≤1048576
structure BoxPiece (w:World) (B:Nat) (p:Pc):Prop where
 c0:w.cell? ⟨B,0,none⟩=some (.string p.src)
 c1:w.cell? ⟨B,1,none⟩=some (.string p.dst)
 c2:w.cell? ⟨B,2,none⟩=some (.int .i64 p.proto)
 c3:w.cell? ⟨B,3,none⟩=some (.int .i64 p.id)
 c4:w.cell? ⟨B,4,none⟩=some (.int .i64 p.off)
 c5:w.cell? ⟨B,5,none⟩=some (.bool p.more)
 c6:w.cell? ⟨B,6,none⟩=some (.string p.data)
 c7:w.cell? ⟨B,7,none⟩=some (.int .i64 p.since)
theorem BoxPiece.kept {w W:World} {B:Nat} {p:Pc} (h:BoxPiece w B p) (hB:Below w.heap.size w W):BoxPiece W B p:=by
 have hb:=World.block_lt_of_cell? w _ h.c0;exact ⟨((bcell hB).1 B 0 hb).trans h.c0,((bcell hB).1 B 1 hb).trans h.c1,((bcell hB).1 B 2 hb).trans h.c2,((bcell hB).1 B 3 hb).trans h.c3,((bcell hB).1 B 4 hb).trans h.c4,((bcell hB).1 B 5 hb).trans h.c5,((bcell hB).1 B 6 hb).trans h.c6,((bcell hB).1 B 7 hb).trans h.c7⟩
theorem BoxPiece.new (w:World) (p:Pc) {t:TypeId}:BoxPiece (w.alloc (.cells #[.string p.src,.string p.dst,.int .i64 p.proto,.int .i64 p.id,.int .i64 p.off,.bool p.more,.string p.data,.int .i64 p.since] t)) w.heap.size p:=⟨cell_new rfl,cell_new rfl,cell_new rfl,cell_new rfl,cell_new rfl,cell_new rfl,cell_new rfl,cell_new rfl⟩
section
variable {H:Type} {enc:TypeId × Value→H} {w:World} {base:Nat} {spare:Nat→Bool} {held:Bool}
end
end Go.Proofs.YthagnjokdnnmpaaGreat
namespace Go.Proofs.YthagnjokdnnmpaaGreat
open Go.RowKit Go.PlainAid
theorem spTime_any (n:Int) (w:World) :
  Calls Tryz.prog 86 #[.int .i64 n] w fun e w'=>e=.returned (.bool (isTime n))∧w'=w:=by
 by_cases h1:0≤n
 ·by_cases h2:n≤1000000000
  ·have HV:Hid (isTime n=true):=by unfold Hid isTime isIn; simp [h1,h2]
   go_enter Tryz.func86,Tryz.ntmps86
   go_wp2_with fail
   go_ret;exact ⟨ret_bool (by rw [HV.out]),rfl⟩
  ·have HV:Hid (isTime n=false):=by unfold Hid isTime isIn; simp [h2]
   go_enter Tryz.func86,Tryz.ntmps86
   go_wp2_with fail
   go_ret;exact ⟨ret_bool (by rw [HV.out]),rfl⟩
 ·have HV:Hid (isTime n=false):=by unfold Hid isTime isIn; simp [h1]
  have h1':n < 0:=by omega
  go_enter Tryz.func86,Tryz.ntmps86
  go_wp2_with fail
  go_ret;exact ⟨ret_bool (by rw [HV.out]),rfl⟩
theorem specPieceRight_any (p:Pc) (w:World) (h1:p.src.size≤1048576) (h2:p.dst.size≤1048576) (h3:p.data.size≤1048576) :
  Calls Tryz.prog 144 #[pcC p] w fun e w'=>e=.returned (.bool (pieceOk p))∧Below w.heap.size w w':=by
 have HB1:Hid (∀ W,Calls Tryz.prog 164 #[.string p.src,.string p.dst] W fun e w'=>e=.returned (.bool (pairOk p.src p.dst))∧w'=W):=fun W=>spPair_any _ _ W (by unfold maxLen; omega) (by unfold maxLen; omega)
 have HB2:Hid (∀ W,Calls Tryz.prog 165 #[.int .i64 p.proto] W fun e w'=>e=.returned (.bool (isIn p.proto 0 255))∧w'=W):=fun W=>specByte_any _ W
 have HB3:Hid (∀ W,Calls Tryz.prog 66 #[.int .i64 p.id,.int .i64 0,.int .i64 4294967295] W fun e w'=>e=.returned (.bool (isIn p.id 0 4294967295))∧w'=W):=fun W=>specIs_any _ _ _ W
 have HB4:Hid (∀ W,Calls Tryz.prog 66 #[.int .i64 p.off,.int .i64 0,.int .i64 8191] W fun e w'=>e=.returned (.bool (isIn p.off 0 8191))∧w'=W):=fun W=>specIs_any _ _ _ W
 have HB5:Hid (∀ W,Calls Tryz.prog 86 #[.int .i64 p.since] W fun e w'=>e=.returned (.bool (isTime p.since))∧w'=W):=fun W=>spTime_any _ W
 have HV:Hid (pieceOk p=(pairOk p.src p.dst&&isIn p.proto 0 255&&isIn p.id 0 4294967295&&isIn p.off 0 8191&&decide (1≤p.data.size)&&decide (p.data.size≤1400)&&(!p.more||decide (p.data.size % 8=0))&&decide (8*p.off+p.data.size≤65535)&&isTime p.since)):=rfl;have hoff:isIn p.off 0 8191=true→0≤p.off∧p.off≤8191:=fun h=>isIn_parts h
 generalize pieceOk p=ok at *;generalize pairOk p.src p.dst=a1 at *;generalize isIn p.proto 0 255=a2 at *;generalize isIn p.id 0 4294967295=a3 at *;generalize isIn p.off 0 8191=a4 at *;generalize isTime p.since=a5 at *;obtain ⟨src,dst,proto,id,off,more,data,since⟩:=p;unfold pcC;dsimp only at *;have HZ:Hid (Below w.heap.size w (w.alloc (.cells #[.string src,.string dst,.int .i64 proto,.int .i64 id,.int .i64 off,.bool more,.string data,.int .i64 since] 128))):=(Below.refl _ _).alloc (Nat.le_refl _) _;have hun:undef=Value.tuple #[]:=rfl;go_enter Tryz.func144,Tryz.ntmps144
 go_wp2_with fail
 refine (HB1.out _).mono ?_;rintro e w2 ⟨rfl,rfl⟩
 cases a1 with
 | false =>
  go_wp2_with fail
  go_ret;exact ⟨ret_bool (by rw [HV.out]; simp),HZ.out⟩
 | true =>
 go_wp2_with fail
 refine (HB2.out _).mono ?_;rintro e w2 ⟨rfl,rfl⟩
 cases a2 with
 | false =>
  go_wp2_with fail
  go_ret;exact ⟨ret_bool (by rw [HV.out]; simp),HZ.out⟩
 | true =>
 go_wp2_with fail
 refine (HB3.out _).mono ?_;rintro e w2 ⟨rfl,rfl⟩
 cases a3 with
 | false =>
  go_wp2_with fail
  go_ret;exact ⟨ret_bool (by rw [HV.out]; simp),HZ.out⟩
 | true =>
 go_wp2_with fail
 refine (HB4.out _).mono ?_;rintro e w2 ⟨rfl,rfl⟩
 cases a4 with
 | false =>
  go_wp2_with fail
  go_ret;exact ⟨ret_bool (by rw [HV.out]; simp),HZ.out⟩
 | true =>
 have ho:=hoff rfl;clear hoff;by_cases e1:1≤data.size
 ·rw [decide_eq_true e1] at HV;by_cases e2:data.size≤1400
  ·rw [decide_eq_true e2] at HV;by_cases e4:8*off+data.size≤65535
   ·rw [decide_eq_true e4] at HV
    cases more with
    | false =>
     go_wp2_with fail
     refine (HB5.out _).mono ?_;rintro e w2 ⟨rfl,rfl⟩;go_wp2_with fail
     go_ret;exact ⟨ret_bool (by rw [HV.out]; simp),HZ.out⟩
    | true =>
     by_cases e3:data.size % 8=0
     ·have d3:((data.size:Int) % 8==0)=true:=by simp; omega
      rw [decide_eq_true e3] at HV;clear e3;go_wp2_with fail
      refine (HB5.out _).mono ?_;rintro e w2 ⟨rfl,rfl⟩;go_wp2_with fail
      go_ret;exact ⟨ret_bool (by rw [HV.out]; simp),HZ.out⟩
     ·have d3:((data.size:Int) % 8==0)=false:=by simp; omega
      rw [decide_eq_false e3] at HV;go_wp2_with fail
      go_ret;exact ⟨ret_bool (by rw [HV.out]; simp),HZ.out⟩
   ·rw [decide_eq_false e4] at HV;have e4':decide (8*off+(data.size:Int)≤65535)=false:=by simp; omega
    by_cases e3:data.size % 8=0
    ·have d3:((data.size:Int) % 8==0)=true:=by simp; omega
     clear e3
     cases more;all_goals go_wp2_with fail
     all_goals go_ret
     all_goals exact ⟨ret_bool (by rw [HV.out]; simp),HZ.out⟩
    ·have d3:((data.size:Int) % 8==0)=false:=by simp; omega
     cases more;all_goals go_wp2_with fail
     all_goals go_ret
     all_goals exact ⟨ret_bool (by rw [HV.out]; simp),HZ.out⟩
  ·rw [decide_eq_false e2] at HV;go_wp2_with fail
   go_ret;exact ⟨ret_bool (by rw [HV.out]; simp),HZ.out⟩
 ·rw [decide_eq_false e1] at HV;go_wp2_with fail
  go_ret;exact ⟨ret_bool (by rw [HV.out]; simp),HZ.out⟩
theorem spEnd_any (p:Pc) (w:World) (h1:0≤p.off∧p.off≤8191) (h3:p.data.size≤1048576) :
  Calls Tryz.prog 166 #[pcC p] w fun e w'=>e=.returned (.int .i64 (endPc p))∧Below w.heap.size w w':=by
 have HV:Hid (endPc p=8*p.off+p.data.size):=rfl;generalize endPc p=ans at *;obtain ⟨src,dst,proto,id,off,more,data,since⟩:=p;unfold pcC;dsimp only at *;have HZ:Hid (Below w.heap.size w (w.alloc (.cells #[.string src,.string dst,.int .i64 proto,.int .i64 id,.int .i64 off,.bool more,.string data,.int .i64 since] 128))):=(Below.refl _ _).alloc (Nat.le_refl _) _;go_enter Tryz.func166,Tryz.ntmps166
 go_wp2_with fail
 go_ret;exact ⟨ret_int HV.out.symm,HZ.out⟩
theorem two_pieces (w:World) {o1 o2:Obj}:Below w.heap.size w ((w.alloc o1).alloc o2):=((Below.refl _ _).alloc (Nat.le_refl _) _).alloc (by simp) _
theorem ba_dec (a b:ByteArray):decide (a.toList=b.toList)=decide (a=b):=by
 rw [Bool.eq_iff_iff,decide_eq_true_iff,decide_eq_true_iff];exact ⟨fun h=>by rw [ByteArray.toList_eq,ByteArray.toList_eq] at h; exact ByteArray.ext (Array.toList_inj.1 h),fun h=>by rw [h]⟩
theorem spOne_any (p q:Pc) (w:World) :
  Calls Tryz.prog 145 #[pcC p,pcC q] w fun e w'=>e=.returned (.bool (onePk p q))∧Below w.heap.size w w':=by
 have HV:Hid (onePk p q=(decide (p.src.toList=q.src.toList)&&decide (p.dst.toList=q.dst.toList)&&decide (p.proto=q.proto)&&decide (p.id=q.id))):=by unfold Hid onePk; rw [ba_dec,ba_dec]
 generalize onePk p q=ans at *;obtain ⟨src,dst,proto,id,off,more,data,since⟩:=p;obtain ⟨src',dst',proto',id',off',more',data',since'⟩:=q;unfold pcC;dsimp only at *;have HZ:Hid (∀ o1 o2,Below w.heap.size w ((w.alloc o1).alloc o2)):=fun o1 o2=>two_pieces w
 go_enter Tryz.func145,Tryz.ntmps145
 go_wp2_with fail
 all_goals go_ret
 all_goals exact ⟨ret_bool (by rw [HV.out]; simp_all; try rfl),HZ.out _ _⟩
end Go.Proofs.YthagnjokdnnmpaaGreat
