import Derived.Test.YthpopipedamciaaGreatMerged1
import Derived.Test.YthpopipedamciaaGreatMerged3
import Derived.Deep.DeepCutAuto
import Derived.Test.YthpopipedamciaaGreatMerged9
set_option linter.unusedVariables false
set_option linter.unusedSimpArgs false
set_option maxRecDepth 100000
set_option maxHeartbeats 8000000
namespace Go.Proofs.YthpopipedamciaaGreat
open Go.RowKit Go.PlainAid Go.ChangeShapes Go.WideShapes
structure BoxV4 (w:World) (B:Nat) (p:P4):Prop where
 c0:w.cell? ⟨B,0,none⟩=some (.int .i64 p.tos)
 c1:w.cell? ⟨B,1,none⟩=some (.int .i64 p.id)
 c2:w.cell? ⟨B,2,none⟩=some (.bool p.whole)
 c3:w.cell? ⟨B,3,none⟩=some (.bool p.more)
 c4:w.cell? ⟨B,4,none⟩=some (.int .i64 p.off)
 c5:w.cell? ⟨B,5,none⟩=some (.int .i64 p.ttl)
 c6:w.cell? ⟨B,6,none⟩=some (.int .i64 p.proto)
 c7:w.cell? ⟨B,7,none⟩=some (.string p.src)
 c8:w.cell? ⟨B,8,none⟩=some (.string p.dst)
 c9:w.cell? ⟨B,9,none⟩=some (.string p.opts)
 c10:w.cell? ⟨B,10,none⟩=some (.string p.data)
theorem BoxV4.kept {w W:World} {B:Nat} {p:P4} (h:BoxV4 w B p) (hB:Below w.heap.size w W):BoxV4 W B p:=by
 have hb:=World.block_lt_of_cell? w _ h.c0;exact ⟨((bcell hB).1 B 0 hb).trans h.c0,((bcell hB).1 B 1 hb).trans h.c1,((bcell hB).1 B 2 hb).trans h.c2,((bcell hB).1 B 3 hb).trans h.c3,((bcell hB).1 B 4 hb).trans h.c4,((bcell hB).1 B 5 hb).trans h.c5,((bcell hB).1 B 6 hb).trans h.c6,((bcell hB).1 B 7 hb).trans h.c7,((bcell hB).1 B 8 hb).trans h.c8,((bcell hB).1 B 9 hb).trans h.c9,((bcell hB).1 B 10 hb).trans h.c10⟩
theorem BoxV4.new (w:World) (p:P4) {t:TypeId}:BoxV4 (w.alloc (.cells #[.int .i64 p.tos,.int .i64 p.id,.bool p.whole,.bool p.more,.int .i64 p.off,.int .i64 p.ttl,.int .i64 p.proto,.string p.src,.string p.dst,.string p.opts,.string p.data] t)) w.heap.size p:=⟨cell_new rfl,cell_new rfl,cell_new rfl,cell_new rfl,cell_new rfl,cell_new rfl,cell_new rfl,cell_new rfl,cell_new rfl,cell_new rfl,cell_new rfl⟩
end Go.Proofs.YthpopipedamciaaGreat
namespace Go.Proofs.YthpopipedamciaaGreat
open Go.RowKit Go.PlainAid
theorem implByte_any (n:Int) (w:World) :
  Calls Tryz.prog 160 #[.int .i64 n] w fun e w'=>e=.returned (.bool (isIn n 0 255))∧w'=w:=by
 by_cases h1:0≤n
 ·by_cases h2:n≤255
  ·have HV:Hid (isIn n 0 255=true):=by unfold Hid isIn; simp [h1,h2]
   go_enter Tryz.func160,Tryz.ntmps160
   go_wp2_with fail
   go_ret;exact ⟨ret_bool (by rw [HV.out]),rfl⟩
  ·have HV:Hid (isIn n 0 255=false):=by unfold Hid isIn; simp [h2]
   go_enter Tryz.func160,Tryz.ntmps160
   go_wp2_with fail
   go_ret;exact ⟨ret_bool (by rw [HV.out]),rfl⟩
 ·have HV:Hid (isIn n 0 255=false):=by unfold Hid isIn; simp [h1]
  have h1':n < 0:=by omega
  go_enter Tryz.func160,Tryz.ntmps160
  go_wp2_with fail
  go_ret;exact ⟨ret_bool (by rw [HV.out]),rfl⟩
def pcV (off:Int) (more:Bool) (data:ByteArray) (top:Int):Bool:=isIn off 0 8191&&decide (data.size≤1400)&&(!more||decide (data.size % 8=0))&&decide (8*off+data.size≤top)
theorem implPiece_any (off:Int) (more:Bool) (data:ByteArray) (top:Int) (w:World) (h4:data.size≤1048576) :
  Calls Tryz.prog 161 #[.int .i64 off,.bool more,.string data,.int .i64 top] w fun e w'=>e=.returned (.bool (pcV off more data top))∧w'=w:=by
 have HV:Hid (pcV off more data top=(decide (0≤off)&&decide (off≤8191)&&decide (data.size≤1400)&&(!more||decide (data.size % 8=0))&&decide (8*off+data.size≤top))):=by unfold Hid pcV isIn; rfl
 generalize pcV off more data top=ok at *;by_cases e0:0≤off
 ·by_cases e1:off≤8191
  ·by_cases e2:data.size≤1400
   ·have d2:decide ((data.size:Int)≤1400)=true:=by simp; omega
    have em:(!more||decide (data.size % 8=0))=true∨(more=true∧¬ data.size % 8=0):=by cases more<;>simp<;>omega
    rcases em with em | ⟨rfl,em⟩
    ·by_cases e9:8*off+data.size≤top
     ·replace HV:Hid (ok=true):=by unfold Hid; rw [HV.out,em]; simp [e0,e1,e2,e9]
      cases more with
      | false =>
       clear em;go_enter Tryz.func161,Tryz.ntmps161
       go_wp2_with fail
       go_ret;exact ⟨ret_bool HV.out.symm,rfl⟩
      | true =>
       have dm:(((data.size:Int) % 8)==0)=true:=by simp at em; simp; omega
       clear em;go_enter Tryz.func161,Tryz.ntmps161
       go_wp2_with fail
       go_ret;exact ⟨ret_bool HV.out.symm,rfl⟩
     ·replace HV:Hid (ok=false):=by unfold Hid; rw [HV.out]; simp [e9]
      cases more with
      | false =>
       clear em;go_enter Tryz.func161,Tryz.ntmps161
       go_wp2_with fail
       go_ret;exact ⟨ret_bool HV.out.symm,rfl⟩
      | true =>
       have dm:(((data.size:Int) % 8)==0)=true:=by simp at em; simp; omega
       clear em;go_enter Tryz.func161,Tryz.ntmps161
       go_wp2_with fail
       go_ret;exact ⟨ret_bool HV.out.symm,rfl⟩
    ·replace HV:Hid (ok=false):=by unfold Hid; rw [HV.out]; simp [em]
     have dm:(((data.size:Int) % 8)==0)=false:=by simp; omega
     go_enter Tryz.func161,Tryz.ntmps161
     go_wp2_with fail
     go_ret;exact ⟨ret_bool HV.out.symm,rfl⟩
   ·replace HV:Hid (ok=false):=by unfold Hid; rw [HV.out]; simp [e2]
    have d2:decide ((data.size:Int)≤1400)=false:=by simp; omega
    go_enter Tryz.func161,Tryz.ntmps161
    go_wp2_with fail
    go_ret;exact ⟨ret_bool HV.out.symm,rfl⟩
  ·replace HV:Hid (ok=false):=by unfold Hid; rw [HV.out]; simp [e1]
   go_enter Tryz.func161,Tryz.ntmps161
   go_wp2_with fail
   go_ret;exact ⟨ret_bool HV.out.symm,rfl⟩
 ·replace HV:Hid (ok=false):=by unfold Hid; rw [HV.out]; simp [e0]
  go_enter Tryz.func161,Tryz.ntmps161
  go_wp2_with fail
  go_ret;exact ⟨ret_bool HV.out.symm,rfl⟩
theorem isLife_any (n:Int) (w:World) :
  Calls Tryz.prog 168 #[.int .i64 n] w fun e w'=>e=.returned (.bool (isIn n 1 10000))∧w'=w:=by
 by_cases h1:1≤n
 ·by_cases h2:n≤10000
  ·have HV:Hid (isIn n 1 10000=true):=by unfold Hid isIn; simp [h1,h2]
   go_enter Tryz.func168,Tryz.ntmps168
   go_wp2_with fail
   go_ret;exact ⟨ret_bool (by rw [HV.out]),rfl⟩
  ·have HV:Hid (isIn n 1 10000=false):=by unfold Hid isIn; simp [h2]
   go_enter Tryz.func168,Tryz.ntmps168
   go_wp2_with fail
   go_ret;exact ⟨ret_bool (by rw [HV.out]),rfl⟩
 ·have HV:Hid (isIn n 1 10000=false):=by unfold Hid isIn; simp [h1]
  have h1':n < 1:=by omega
  go_enter Tryz.func168,Tryz.ntmps168
  go_wp2_with fail
  go_ret;exact ⟨ret_bool (by rw [HV.out]),rfl⟩
theorem isState_any (n:Int) (w:World) :
  Calls Tryz.prog 155 #[.int .i64 n] w fun e w'=>e=.returned (.bool (isIn n 1 7))∧w'=w:=by
 by_cases h1:1≤n
 ·by_cases h2:n≤7
  ·have HV:Hid (isIn n 1 7=true):=by unfold Hid isIn; simp [h1,h2]
   go_enter Tryz.func155,Tryz.ntmps155
   go_wp2_with fail
   go_ret;exact ⟨ret_bool (by rw [HV.out]),rfl⟩
  ·have HV:Hid (isIn n 1 7=false):=by unfold Hid isIn; simp [h2]
   go_enter Tryz.func155,Tryz.ntmps155
   go_wp2_with fail
   go_ret;exact ⟨ret_bool (by rw [HV.out]),rfl⟩
 ·have HV:Hid (isIn n 1 7=false):=by unfold Hid isIn; simp [h1]
  have h1':n < 1:=by omega
  go_enter Tryz.func155,Tryz.ntmps155
  go_wp2_with fail
  go_ret;exact ⟨ret_bool (by rw [HV.out]),rfl⟩
theorem implStill_any (proto:Int) (w:World) :
  Calls Tryz.prog 156 #[.int .i64 proto] w fun e w'=>e=.returned (.bool (stillP proto))∧w'=w:=by
 by_cases h1:proto=17
 ·have HV:Hid (stillP proto=true):=by unfold Hid stillP; simp [h1]
  go_enter Tryz.func156,Tryz.ntmps156
  go_wp2_with fail
  go_ret;exact ⟨ret_bool HV.out.symm,rfl⟩
 ·by_cases h2:proto=1
  ·have HV:Hid (stillP proto=true):=by unfold Hid stillP; simp [h2]
   go_enter Tryz.func156,Tryz.ntmps156
   go_wp2_with fail
   go_ret;exact ⟨ret_bool HV.out.symm,rfl⟩
  ·have HV:Hid (stillP proto=false):=by unfold Hid stillP; simp [h1,h2]
   go_enter Tryz.func156,Tryz.ntmps156
   go_wp2_with fail
   go_ret;exact ⟨ret_bool (by rw [HV.out]; simp [h1,h2]),rfl⟩
theorem implLives_any (l:Lv) (w:World) :
  Calls Tryz.prog 149 #[lvC l] w fun e w'=>e=.returned (.bool (livesOk l))∧Below w.heap.size w w':=by
 have HC0:Hid (∀ W,Calls Tryz.prog 168 #[.int .i64 l.udp] W fun e w'=>e=.returned (.bool (isIn l.udp 1 10000))∧w'=W):=fun W=>isLife_any _ W
 have HC1:Hid (∀ W,Calls Tryz.prog 168 #[.int .i64 l.echo] W fun e w'=>e=.returned (.bool (isIn l.echo 1 10000))∧w'=W):=fun W=>isLife_any _ W
 have HC2:Hid (∀ W,Calls Tryz.prog 168 #[.int .i64 l.opening] W fun e w'=>e=.returned (.bool (isIn l.opening 1 10000))∧w'=W):=fun W=>isLife_any _ W
 have HC3:Hid (∀ W,Calls Tryz.prog 168 #[.int .i64 l.opn] W fun e w'=>e=.returned (.bool (isIn l.opn 1 10000))∧w'=W):=fun W=>isLife_any _ W
 have HC4:Hid (∀ W,Calls Tryz.prog 168 #[.int .i64 l.closing] W fun e w'=>e=.returned (.bool (isIn l.closing 1 10000))∧w'=W):=fun W=>isLife_any _ W
 have HV:Hid (livesOk l=(isIn l.udp 1 10000&&isIn l.echo 1 10000&&isIn l.opening 1 10000&&isIn l.opn 1 10000&&isIn l.closing 1 10000)):=rfl;generalize livesOk l=ans at *;generalize isIn l.udp 1 10000=b0 at *;generalize isIn l.echo 1 10000=b1 at *;generalize isIn l.opening 1 10000=b2 at *;generalize isIn l.opn 1 10000=b3 at *;generalize isIn l.closing 1 10000=b4 at *;have HZ:Hid (Below w.heap.size w (w.alloc (.cells #[.int .i64 l.udp,.int .i64 l.echo,.int .i64 l.opening,.int .i64 l.opn,.int .i64 l.closing] 26))):=(Below.refl _ _).alloc (Nat.le_refl _) _;unfold lvC;go_enter Tryz.func149,Tryz.ntmps149
 go_wp2_with fail
 cases b0 with
 | false =>
  refine (HC0.out _).mono ?_;rintro e w0 ⟨rfl,rfl⟩;go_wp2_with fail
  go_ret;exact ⟨ret_bool (by rw [HV.out]; rfl),HZ.out⟩
 | true =>
  refine (HC0.out _).mono ?_;rintro e w0 ⟨rfl,rfl⟩;go_wp2_with fail
  cases b1 with
  | false =>
   refine (HC1.out _).mono ?_;rintro e w1 ⟨rfl,rfl⟩;go_wp2_with fail
   go_ret;exact ⟨ret_bool (by rw [HV.out]; rfl),HZ.out⟩
  | true =>
   refine (HC1.out _).mono ?_;rintro e w1 ⟨rfl,rfl⟩;go_wp2_with fail
   cases b2 with
   | false =>
    refine (HC2.out _).mono ?_;rintro e w2 ⟨rfl,rfl⟩;go_wp2_with fail
    go_ret;exact ⟨ret_bool (by rw [HV.out]; rfl),HZ.out⟩
   | true =>
    refine (HC2.out _).mono ?_;rintro e w2 ⟨rfl,rfl⟩;go_wp2_with fail
    cases b3 with
    | false =>
     refine (HC3.out _).mono ?_;rintro e w3 ⟨rfl,rfl⟩;go_wp2_with fail
     go_ret;exact ⟨ret_bool (by rw [HV.out]; rfl),HZ.out⟩
    | true =>
     refine (HC3.out _).mono ?_;rintro e w3 ⟨rfl,rfl⟩;go_wp2_with fail
     cases b4 with
     | false =>
      refine (HC4.out _).mono ?_;rintro e w4 ⟨rfl,rfl⟩;go_wp2_with fail
      go_ret;exact ⟨ret_bool (by rw [HV.out]; rfl),HZ.out⟩
     | true =>
      refine (HC4.out _).mono ?_;rintro e w4 ⟨rfl,rfl⟩;go_wp2_with fail
      go_ret;exact ⟨ret_bool (by rw [HV.out]; rfl),HZ.out⟩
end Go.Proofs.YthpopipedamciaaGreat
