import Derived.Test.YtcckaeppiamebaaGreatDoorAb
import Derived.Test.YtcckaeppiamebaaGreatDoorMerged12
import Derived.Test.YtcckaeppiamebaaGreatDoorMerged1
import Derived.BigQuiet
import Derived.Deep.DeepCutAuto
import Derived.Test.YtcckaeppiamebaaGreatDoorMerged9
import Derived.Test.YtcckaeppiamebaaGreatDoorMerged18
import Derived.Test.YtcckaeppiamebaaGreatDoorTouchR
import Derived.Test.YtcckaeppiamebaaGreatDoorMerged14
import Derived.Test.YtcckaeppiamebaaGreatDoorMerged8
import Derived.Test.YtcckaeppiamebaaGreatDoorMerged2
import Derived.RegionTactic
import Derived.Deep.QuietTactic
import Derived.Laws.IdiomStrings
import Derived.Test.YtcckaeppiamebaaGreatDoorMerged3
import Derived.Deep.RegionWith
set_option linter.unusedVariables false
set_option linter.unusedSimpArgs false
set_option maxRecDepth 100000
set_option maxHeartbeats 8000000
namespace Go.Proofs.YtcckaeppiamebaaGreatDoor
open Go.RowKit Go.PlainAid
theorem spEcho_any (p:Int) (w:World) :
  Cw 83 #[iV p] w (.bool (echoP p)):=by
 by_cases h1:p=1
 ·have d1:(p==1)=true:=by simp [h1]
  have HV:Hid (echoP p=true):=by unfold Hid echoP; simp [h1]
  clear h1;go_enter Tryz.func83,Tryz.ntmps83
  go_wp2_with fail
  go_ret;exact ⟨ret_bool HV.out.symm,rfl⟩
 ·have d1:(p==1)=false:=by simp [h1]
  have HV:Hid (echoP p=(p==58)):=by
   unfold Hid echoP;rw [decide_eq_false h1,Bool.false_or];rfl
  go_enter Tryz.func83,Tryz.ntmps83
  go_wp2_with fail
  go_ret;exact ⟨ret_bool HV.out.symm,rfl⟩
theorem spProto_any (p:Int) (n:Nat) (w:World) (hn:n≤maxLen) :
  Cw 82 #[iV p,iV n] w (.bool (protoOk p n)):=by
 unfold maxLen at hn;have run:∀ (a b c d x y:Bool),(p==6)=a→(p==17)=b→(p==1)=c→(p==58)=d→((n:Int)==4)=x→((n:Int)==16)=y →
   Cw 82 #[iV p,iV n] w (.bool (a||b||(c&&x)||(d&&y))):=by
  intro a b c d x y h1 h2 h3 h4 h5 h6
  cases a
  ·cases b
   ·cases c
    ·cases d
     ·go_enter Tryz.func82,Tryz.ntmps82
      go_wp2_with fail
      go_ret;exact ⟨rfl,rfl⟩
     ·go_enter Tryz.func82,Tryz.ntmps82
      go_wp2_with fail
      go_ret;exact ⟨rfl,rfl⟩
    ·cases x
     ·cases d
      ·go_enter Tryz.func82,Tryz.ntmps82
       go_wp2_with fail
       go_ret;exact ⟨rfl,rfl⟩
      ·simp at h3 h4; omega
     ·go_enter Tryz.func82,Tryz.ntmps82
      go_wp2_with fail
      go_ret;exact ⟨rfl,rfl⟩
   ·go_enter Tryz.func82,Tryz.ntmps82
    go_wp2_with fail
    go_ret;exact ⟨rfl,rfl⟩
  ·go_enter Tryz.func82,Tryz.ntmps82
   go_wp2_with fail
   go_ret;exact ⟨rfl,rfl⟩
 have e:protoOk p n=((p==6)||(p==17)||((p==1)&&((n:Int)==4))||((p==58)&&((n:Int)==16))):=by
  unfold protoOk;have h4:((n:Int)==4)=decide (n=4):=by rw [Bool.eq_iff_iff]; simp; omega
  have h16:((n:Int)==16)=decide (n=16):=by rw [Bool.eq_iff_iff]; simp; omega
  rw [h4,h16];rfl
 rw [e];exact run _ _ _ _ _ _ rfl rfl rfl rfl rfl rfl
open Go.ChangeShapes Go.WideShapes
structure BoxPiece (w:World) (B:Nat) (p:Pc):Prop where
 c0:w.cell? ⟨B,0,none⟩=some (.string p.src)
 c1:w.cell? ⟨B,1,none⟩=some (.string p.dst)
 c2:w.cell? ⟨B,2,none⟩=some (iV p.proto)
 c3:w.cell? ⟨B,3,none⟩=some (iV p.id)
 c4:w.cell? ⟨B,4,none⟩=some (iV p.off)
 c5:w.cell? ⟨B,5,none⟩=some (.bool p.more)
 c6:w.cell? ⟨B,6,none⟩=some (.string p.data)
 c7:w.cell? ⟨B,7,none⟩=some (iV p.since)
theorem BoxPiece.kept {w W:World} {B:Nat} {p:Pc} (h:BoxPiece w B p) (hB:Below w.heap.size w W):BoxPiece W B p:=by
 have hb:=World.block_lt_of_cell? w _ h.c0;exact ⟨((bcell hB).1 B 0 hb).trans h.c0,((bcell hB).1 B 1 hb).trans h.c1,((bcell hB).1 B 2 hb).trans h.c2,((bcell hB).1 B 3 hb).trans h.c3,((bcell hB).1 B 4 hb).trans h.c4,((bcell hB).1 B 5 hb).trans h.c5,((bcell hB).1 B 6 hb).trans h.c6,((bcell hB).1 B 7 hb).trans h.c7⟩
theorem BoxPiece.new (w:World) (p:Pc) {t:TypeId}:BoxPiece (w.alloc (.cells #[.string p.src,.string p.dst,iV p.proto,iV p.id,iV p.off,.bool p.more,.string p.data,iV p.since] t)) w.heap.size p:=⟨cell_new rfl,cell_new rfl,cell_new rfl,cell_new rfl,cell_new rfl,cell_new rfl,cell_new rfl,cell_new rfl⟩
end Go.Proofs.YtcckaeppiamebaaGreatDoor
namespace Go.Proofs.YtcckaeppiamebaaGreatDoor
open Go.RowKit Go.PlainAid
theorem spTime_any (n:Int) (w:World) :
  Cw 52 #[iV n] w (.bool (isTime n)):=by
 by_cases h1:0≤n
 ·by_cases h2:n≤1000000000
  ·have HV:Hid (isTime n=true):=by unfold Hid isTime isIn; simp [h1,h2]
   go_enter Tryz.func52,Tryz.ntmps52
   go_wp2_with fail
   go_ret;exact ⟨ret_bool (by rw [HV.out]),rfl⟩
  ·have HV:Hid (isTime n=false):=by unfold Hid isTime isIn; simp [h2]
   go_enter Tryz.func52,Tryz.ntmps52
   go_wp2_with fail
   go_ret;exact ⟨ret_bool (by rw [HV.out]),rfl⟩
 ·have HV:Hid (isTime n=false):=by unfold Hid isTime isIn; simp [h1]
  have h1':n < 0:=by omega
  go_enter Tryz.func52,Tryz.ntmps52
  go_wp2_with fail
  go_ret;exact ⟨ret_bool (by rw [HV.out]),rfl⟩
end Go.Proofs.YtcckaeppiamebaaGreatDoor
namespace Go.Proofs.YtcckaeppiamebaaGreatDoor
open Go.RowKit
def bindP (p:Pl) (b:Bd):Bool:=protoB b.proto&&addrOk b.inn&&isW b.inPort&&inL p.addrs b.out&&isIn b.outPort p.low p.high
theorem bind_iff {p:Pl} {xs:List Bd}:(∀ i (h:i < xs.length),bindOne p (xs.take i) xs[i]=true)↔(∀ c∈xs,bindP p c=true)∧xs.Pairwise (fun c b=>clashB c b=false):=by
 have e:∀ ys b,bindOne p ys b=(bindP p b&&!ys.any fun c=>clashB c b):=fun ys b=>rfl
 rw [List.pairwise_iff_getElem];constructor
 ·intro h;refine ⟨fun c hc=>?_,fun i j hi hj hij=>?_⟩
  ·obtain ⟨i,hi,rfl⟩:=List.getElem_of_mem hc;have:=h i hi;rw [e] at this;simp only [Bool.and_eq_true] at this;exact this.1
  ·have:=h j hj;rw [e] at this;simp only [Bool.and_eq_true,Bool.not_eq_true'] at this;have:=List.any_eq_false.1 this.2 xs[i] (take_mem hi hij);simpa using this
 ·rintro ⟨h1,h2⟩ i hi;rw [e];simp only [Bool.and_eq_true,Bool.not_eq_true'];refine ⟨h1 _ (List.getElem_mem hi),?_⟩;rw [List.any_eq_false];intro c hc;obtain ⟨k,hk,hki,rfl⟩:=mem_take hc;rw [h2 k i hk hi hki]; decide
open Go.PlainAid
def bytesOf (n:Nat) (f:Nat→Int):ByteArray:=⟨((List.range n).map fun i=>UInt8.ofNat (f i).toNat).toArray⟩
theorem bytesOf_size (n:Nat) (f:Nat→Int):(bytesOf n f).size=n:=by simp [bytesOf,ByteArray.size]
theorem bytesOf_bt {n:Nat} {f:Nat→Int} {i:Nat} (hi:i < n) (h0:0≤f i) (h1:f i≤255):bt (bytesOf n f) i=f i:=by
 have hs:=bytesOf_size n f;unfold bt;rw [dif_pos (by omega),ByteArray.getElem_eq_getElem_data];simp only [bytesOf,List.getElem_toArray,List.getElem_map,List.getElem_range,UInt8.toNat_ofNat'];omega
theorem ba_ext {a b:ByteArray} (hs:a.size=b.size) (h:∀ i,i < a.size→bt a i=bt b i):a=b:=by
 apply ByteArray.ext;apply Array.ext
 ·exact hs
 ·intro i h1 h2;have hi:=h i h1;unfold bt at hi;rw [dif_pos (show i < a.size from h1),dif_pos (show i < b.size from h2),ByteArray.getElem_eq_getElem_data,ByteArray.getElem_eq_getElem_data] at hi;exact UInt8.toNat_inj.1 (by exact_mod_cast hi)
structure Holds (w:World) (B n:Nat) (f:Nat→Int):Prop where
 get:∀ i,i < n→w.cell? ⟨B,i,none⟩=some (.int .u8 (f i))∧w.frozen? ⟨B,i,none⟩=false
theorem Holds.set {w:World} {B n:Nat} {f:Nat→Int} (h:Holds w B n f) (j:Nat) (hj:j < n) (x:Int):Holds (w.setCell ⟨B,j,none⟩ (.int .u8 x)) B n (fun i=>if i=j then x else f i):=by
 refine ⟨fun i hi=>⟨?_,by rw [World.frozen?_setCell]; exact (h.get i hi).2⟩⟩;by_cases e:i=j
 ·subst e; show _=some (Value.int .u8 (if i=i then x else f i)); rw [if_pos rfl]; exact World.cell?_setCell_same _ _ _ (h.get i hi).1
 ·show _=some (Value.int .u8 (if i=j then x else f i)); rw [if_neg e,World.cell?_setCell_other _ _ _ _ (fun e2=>e (by injection e2 with _ h2; exact h2.symm))]; exact (h.get i hi).1
theorem Holds.conv {w:World} {B n cap:Nat} {f:Nat→Int} (h:Holds w B n f) (hf:isByte f) :
  (convert 137 9 (.slice (some ⟨B,0,none⟩) n cap)).run Tryz.prog w=.ok (.string (bytesOf n f)) w:=by
 have hl:((List.range n).map fun i=>UInt8.ofNat (f i).toNat).length=n:=by simp
 have:=run_convert_bytes_back (P:=Tryz.prog) w 137 9 5 ⟨B,0,none⟩ cap ((List.range n).map fun i=>UInt8.ofNat (f i).toNat) Tryz.underlying137 Tryz.underlying5 Tryz.underlying9 (by
  intro j hj;have hj':j < n:=by simpa using hj
  have ha:Addr.add ⟨B,0,none⟩ j=⟨B,j,none⟩:=by simp only [Addr.add,Nat.zero_add]; split<;>simp_all
  rw [ha,(h.get j hj').1];have:=hf j;simp only [List.getElem_map,List.getElem_range,UInt8.toNat_ofNat'];congr 2; omega)
 rw [hl] at this;exact this
theorem bytes_new (w:World) (s:ByteArray):∃ cap W2,(convert 9 137 (.string s)).run Tryz.prog w=.ok (.slice (some ⟨w.heap.size,0,none⟩) s.size cap) W2∧Holds W2 w.heap.size s.size (bt s)∧Below w.heap.size w W2∧s.size≤cap:=by
 refine ⟨grownCap w s.size 0 5,_,run_bytes_of_string (P:=Tryz.prog) w 9 137 5 s Tryz.underlying9 Tryz.underlying137 Tryz.underlying5,?_,?_,?_⟩
 ·refine ⟨fun i hi=>?_⟩;have hz:(bytesRow s (grownCap w s.size 0 5)).size=s.size+(grownCap w s.size 0 5-s.size):=by unfold bytesRow; rw [Array.size_append,Array.size_map,Array.size_replicate]; rfl
  constructor
  ·refine (World.cell?_alloc_mark w.drew _ _ _ i).trans ?_;rw [bytesRow_at s _ i hi,← get_bt s i hi]; rfl
  ·refine (World.frozen?_alloc_mark w.drew _ _ _ _ i).trans ?_;simp; omega
 ·exact (Below.refl _ w).drew.alloc (Nat.le_refl _) _
 ·exact grownCap_ge _ _ _ _
def pairL (x y:Int):List UInt8:=[UInt8.ofNat x.toNat,UInt8.ofNat y.toNat]
theorem pair_cells {w:World} {b:Nat} {x y:Int} (hx:0≤x∧x≤255) (hy:0≤y∧y≤255)
  (hc0:w.cell? ⟨b,0,none⟩=some (.int .u8 x)) (hc1:w.cell? ⟨b,1,none⟩=some (.int .u8 y)) :
  ∀ j (hj:j < (pairL x y).length),w.cell? (Addr.add ⟨b,0,none⟩ j)=some (.int .u8 ((pairL x y)[j].toNat:Int)):=by
 intro j hj;match j,hj with
 | 0,_=>simp only [Addr.add,Nat.add_zero,pairL,List.getElem_cons_zero]; rw [u8_ofNat _ hx.1 hx.2]; exact hc0
 | 1,_=>simp only [Addr.add,Nat.zero_add,pairL,List.getElem_cons_succ,List.getElem_cons_zero]; rw [u8_ofNat _ hy.1 hy.2]; exact hc1
theorem pair_conv {w:World} {b cap:Nat} {x y:Int} (hx:0≤x∧x≤255) (hy:0≤y∧y≤255)
  (hc0:w.cell? ⟨b,0,none⟩=some (.int .u8 x)) (hc1:w.cell? ⟨b,1,none⟩=some (.int .u8 y)) :
  (convert 137 9 (.slice (some ⟨b,0,none⟩) 2 cap)).run Tryz.prog w=.ok (.string (pairV x y)) w :=
 run_convert_bytes_back (P:=Tryz.prog) w 137 9 5 ⟨b,0,none⟩ cap (pairL x y) Tryz.underlying137 Tryz.underlying5 Tryz.underlying9 (pair_cells hx hy hc0 hc1)
def IsQuadW (x y:Int):Value→World→Prop:=fun v w=>∃ b,v=.slice (some ⟨b,0,none⟩) 4 4∧w.cell? ⟨b,0,none⟩=some (.int .u8 x)∧w.cell? ⟨b,1,none⟩=some (.int .u8 0)∧w.cell? ⟨b,2,none⟩=some (.int .u8 0)∧w.cell? ⟨b,3,none⟩=some (.int .u8 y)
theorem stable_isQuadW (x y:Int):Stable (IsQuadW x y):=fun v w w' ⟨b,h1,h2,h3,h4,h5⟩ hb=>by
 have hlt:=World.block_lt_of_cell? w _ h2;exact ⟨b,h1,((bcell hb).1 b 0 hlt).trans h2,((bcell hb).1 b 1 hlt).trans h3,((bcell hb).1 b 2 hlt).trans h4,((bcell hb).1 b 3 hlt).trans h5⟩
theorem quadW_conv {w:World} {b cap:Nat} {x y:Int} (hx:0≤x∧x≤255) (hy:0≤y∧y≤255) (h0:w.cell? ⟨b,0,none⟩=some (.int .u8 x)) (h1:w.cell? ⟨b,1,none⟩=some (.int .u8 0)) (h2:w.cell? ⟨b,2,none⟩=some (.int .u8 0)) (h3:w.cell? ⟨b,3,none⟩=some (.int .u8 y)) :
  (convert 137 9 (.slice (some ⟨b,0,none⟩) 4 cap)).run Tryz.prog w=.ok (.string (quadW x y)) w :=
 run_convert_bytes_back (P:=Tryz.prog) w 137 9 5 ⟨b,0,none⟩ cap [UInt8.ofNat x.toNat,0,0,UInt8.ofNat y.toNat] Tryz.underlying137 Tryz.underlying5 Tryz.underlying9 (by
  intro j hj;match j,hj with
  | 0,_=>simp only [Addr.add,Nat.add_zero,List.getElem_cons_zero]; rw [u8_ofNat _ hx.1 hx.2]; exact h0
  | 1,_=>simp only [Addr.add,Nat.zero_add,List.getElem_cons_succ,List.getElem_cons_zero]; exact h1
  | 2,_=>simp only [Addr.add,Nat.zero_add,List.getElem_cons_succ,List.getElem_cons_zero]; exact h2
  | 3,_=>simp only [Addr.add,Nat.zero_add,List.getElem_cons_succ,List.getElem_cons_zero]; rw [u8_ofNat _ hy.1 hy.2]; exact h3)
theorem spPseudo_any (s d:ByteArray) (p:Int) (n:Nat) (w:World) (hs:s.size≤16) (hd:d.size≤16) (hp:0≤p∧p≤255) (hn:n≤65535) :
  Cb 130 #[.string s,.string d,iV p,iV n] w (.string (pseudoV s d p n)):=by
 have hun:undef=Value.tuple #[]:=rfl;have n1:¬ 9223372036854775807 < s.size+d.size:=by omega
 have z1:=pairV_size 0 p;have z2:=twoV_size (n:Int);by_cases h1:p=1∧s.size=4
 ·obtain ⟨rfl,h4⟩:=h1;have d4:((s.size:Int)==4)=true:=by simp; omega
  have HV:Hid (pseudoV s d 1 n=⟨#[]⟩):=by unfold Hid pseudoV; rw [if_pos ⟨rfl,h4⟩]
  generalize pseudoV s d 1 n=ans at *;clear h4;go_enter Tryz.func130,Tryz.ntmps130
  go_wp2_with fail
  go_ret;exact ⟨by rw [HV.out]; rfl,Below.refl _ _⟩
 by_cases h4:s.size=4
 ·have d4:((s.size:Int)==4)=true:=by simp; omega
  have d1:(p==1)=false:=by simp; exact fun e=>h1 ⟨e,h4⟩
  have HZ:Hid (pseudoV s d p n=s++d++pairV 0 p++twoV (n:Int)):=by unfold Hid pseudoV; rw [if_neg h1,if_pos h4]
  generalize pseudoV s d p n=ans at *;clear h1 h4;have n2:¬ 9223372036854775807 < s.size+d.size+(pairV 0 p).size:=by omega
  have n3:¬ 9223372036854775807 < s.size+d.size+(pairV 0 p).size+(twoV (n:Int)).size:=by omega
  have n2b:¬ 9223372036854775807 < s.size+d.size+2:=by omega
  have n3b:¬ 9223372036854775807 < s.size+d.size+2+2:=by omega
  go_enter Tryz.func130,Tryz.ntmps130
  go_upto_region 4 with fail
  go_cut [8] (fun v wx=>v=.string ans∧Below w.heap.size w wx)
  case first =>
   rename_i J K2 hJ hK2;clear hun;refine wp_region_growL (Rs:=[IsV (.string s),IsV (.string d),IsV (.string (s++d)),IsV (iV p),IsV (.int .u8 p),IsRow (0) (p),IsV (.string (pairV 0 p)),IsV (.string (s++d++pairV 0 p)),IsV (iV (n:Int)),IsV (.string (twoV (n:Int))),IsV (.string (s++d++pairV 0 p++twoV (n:Int))),IsV (.string (s++d++pairV 0 p++twoV (n:Int)))]) [19,20,21,22,23,24,25,26,27,28,29,8] (by kernel_rfl) (by kernel_rfl) rfl ?st ?steps ?done
   case st=>simp [stable_isV,stable_isRow]
   case steps =>
    refine ⟨?s0,?s1,?s2,?s3,?s4,?s5,?s6,?s7,?s8,?s9,?s10,?s11,trivial⟩
    case s0 =>
     intro K' a wy ho hd hb hK;have h3:=ho 0 (by decide);simp [slot] at h3;clear hd;go_simp;try go_bits
     exact hK _ _ rfl (Below.refl _ _)
    case s1 =>
     intro K' a wy ho hd hb hK;have h3:=ho 1 (by decide);simp [slot] at h3;clear hd;go_simp;try go_bits
     exact hK _ _ rfl (Below.refl _ _)
    case s2 =>
     intro K' a wy ho hd hb hK;simp [Region.binds,rAt,IsV,slot] at hd;go_simp;try go_bits
     exact hK _ _ rfl (Below.refl _ _)
    case s3 =>
     intro K' a wy ho hd hb hK;have h3:=ho 2 (by decide);simp [slot] at h3;clear hd;go_simp;try go_bits
     exact hK _ _ rfl (Below.refl _ _)
    case s4 =>
     intro K' a wy ho hd hb hK;simp [Region.binds,rAt,IsV,slot] at hd;go_simp;try go_bits
     exact hK _ _ rfl (Below.refl _ _)
    case s5 =>
     intro K' a wy ho hd hb hK;simp [Region.binds,rAt,IsV,slot] at hd;go_simp;exact hK _ _ ⟨wy.heap.size,rfl,by simp,by simp⟩ ((Below.refl _ _).alloc (Nat.le_refl _) _)
    case s6 =>
     intro K' a wy ho hd hb hK;simp only [List.forall_mem_singleton,Array.mem_def,List.mem_singleton,forall_eq] at hd;obtain ⟨b,hd1,hd2,hd3⟩ : IsRow (0) (p) (slot a 24) wy:=hd rfl;have hcv:=pair_conv (cap:=2) (by omega) (by omega) hd2 hd3;simp [slot] at hd1;go_simp;try go_bits
     exact hK _ _ rfl (Below.refl _ _)
    case s7 =>
     intro K' a wy ho hd hb hK;simp [Region.binds,rAt,IsV,slot] at hd;go_simp;try go_bits
     exact hK _ _ rfl (Below.refl _ _)
    case s8 =>
     intro K' a wy ho hd hb hK;have h3:=ho 3 (by decide);simp [slot] at h3;clear hd;go_simp;try go_bits
     exact hK _ _ rfl (Below.refl _ _)
    case s9 =>
     intro K' a wy ho hd hb hK;simp [Region.binds,rAt,IsV,slot] at hd;go_simp;refine (specTwo_any (n:Int) wy (by omega) (by omega)).mono ?_;rintro e wz ⟨rfl,hz⟩;exact hK _ _ rfl hz
    case s10 =>
     intro K' a wy ho hd hb hK;simp [Region.binds,rAt,IsV,slot] at hd;go_simp;try go_bits
     exact hK _ _ rfl (Below.refl _ _)
    case s11 =>
     intro K' a wy ho hd hb hK;simp [Region.binds,rAt,IsV,slot] at hd;go_simp;try go_bits
     exact hK _ _ rfl (Below.refl _ _)
   case done =>
    intro X wz hR hz;obtain ⟨x0,x1,x2,x3,x4,⟨b5,x5,-,-⟩,x6,x7,x8,x9,x10,x11,-⟩:=hR;simp only [IsV] at x0 x1 x2 x3 x4 x6 x7 x8 x9 x10 x11;simp only [putsFrom,x0,x1,x2,x3,x4,x5,x6,x7,x8,x9,x10,x11];clear x0 x1 x2 x3 x4 x5 x6 x7 x8 x9 x10 x11;go_simp;refine hK2 _ _ (hJ _ _ ?_);(repeat apply Exists.intro)
    refine ⟨⟨by rw [HZ.out],(Below.refl _ w).drew.trans hz⟩,rfl⟩
  case rest =>
  obtain ⟨rfl,hb⟩:=hcut;go_wp2_with fail
  go_ret;exact ⟨rfl,hb⟩
 ·have d4:((s.size:Int)==4)=false:=by simp; omega
  have HZ:Hid (pseudoV s d p n=s++d++twoV ((n:Int) / 65536)++twoV ((n:Int) % 65536)++quadW 0 p):=by unfold Hid pseudoV; rw [if_neg h1,if_neg h4]
  generalize pseudoV s d p n=ans at *;clear h1;have a1:=and_65535 (n:Int);have n2:¬ 9223372036854775807 < s.size+d.size+(twoV ((n:Int) / 65536)).size:=by rw [twoV_size]; omega
  have n3:¬ 9223372036854775807 < s.size+d.size+(twoV ((n:Int) / 65536)).size+(twoV ((n:Int) % 65536)).size:=by rw [twoV_size,twoV_size]; omega
  have n4:¬ 9223372036854775807 < s.size+d.size+(twoV ((n:Int) / 65536)).size+(twoV ((n:Int) % 65536)).size+(quadW 0 p).size:=by rw [twoV_size,twoV_size,quadW_size]; omega
  by_cases dp:p=1
  ·have d1:(p==1)=true:=by simp [dp]
   clear dp;go_enter Tryz.func130,Tryz.ntmps130
   go_upto_region 5 with fail
   go_cut [8] (fun v wx=>v=.string ans∧Below w.heap.size w wx)
   case first =>
    rename_i J K2 hJ hK2;clear hun;refine wp_region_growL (Rs:=[IsV (.string s),IsV (.string d),IsV (.string (s++d)),IsV (iV (n:Int)),IsV (iV ((n:Int) / 65536)),IsV (.string (twoV ((n:Int) / 65536))),IsV (.string (s++d++twoV ((n:Int) / 65536))),IsV (iV (n:Int)),IsV (iV ((n:Int) % 65536)),IsV (.string (twoV ((n:Int) % 65536))),IsV (.string (s++d++twoV ((n:Int) / 65536)++twoV ((n:Int) % 65536))),IsV (iV p),IsV (.int .u8 p),IsQuadW (0) (p),IsV (.string (quadW 0 p)),IsV (.string (s++d++twoV ((n:Int) / 65536)++twoV ((n:Int) % 65536)++quadW 0 p)),IsV (.string (s++d++twoV ((n:Int) / 65536)++twoV ((n:Int) % 65536)++quadW 0 p))]) [30,31,32,33,34,35,36,37,38,39,40,41,42,43,44,45,8] (by kernel_rfl) (by kernel_rfl) rfl ?st ?steps ?done
    case st=>simp [stable_isV,stable_isQuadW]
    case steps =>
     refine ⟨?s0,?s1,?s2,?s3,?s4,?s5,?s6,?s7,?s8,?s9,?s10,?s11,?s12,?s13,?s14,?s15,?s16,trivial⟩
     case s0 =>
      intro K' a wy ho hd hb hK;have h3:=ho 0 (by decide);simp [slot] at h3;clear hd;go_simp;try go_bits
      exact hK _ _ rfl (Below.refl _ _)
     case s1 =>
      intro K' a wy ho hd hb hK;have h3:=ho 1 (by decide);simp [slot] at h3;clear hd;go_simp;try go_bits
      exact hK _ _ rfl (Below.refl _ _)
     case s2 =>
      intro K' a wy ho hd hb hK;simp [Region.binds,rAt,IsV,slot] at hd;go_simp;try go_bits
      exact hK _ _ rfl (Below.refl _ _)
     case s3 =>
      intro K' a wy ho hd hb hK;have h3:=ho 3 (by decide);simp [slot] at h3;clear hd;go_simp;try go_bits
      exact hK _ _ rfl (Below.refl _ _)
     case s4 =>
      intro K' a wy ho hd hb hK;simp [Region.binds,rAt,IsV,slot] at hd;go_simp;try go_bits
      exact hK _ _ rfl (Below.refl _ _)
     case s5 =>
      intro K' a wy ho hd hb hK;simp [Region.binds,rAt,IsV,slot] at hd;go_simp;refine (specTwo_any ((n:Int) / 65536) wy (by omega) (by omega)).mono ?_;rintro e wz ⟨rfl,hz⟩;exact hK _ _ rfl hz
     case s6 =>
      intro K' a wy ho hd hb hK;simp [Region.binds,rAt,IsV,slot] at hd;go_simp;try go_bits
      exact hK _ _ rfl (Below.refl _ _)
     case s7 =>
      intro K' a wy ho hd hb hK;have h3:=ho 3 (by decide);simp [slot] at h3;clear hd;go_simp;try go_bits
      exact hK _ _ rfl (Below.refl _ _)
     case s8 =>
      intro K' a wy ho hd hb hK;simp [Region.binds,rAt,IsV,slot] at hd;go_simp;try go_bits
      exact hK _ _ rfl (Below.refl _ _)
     case s9 =>
      intro K' a wy ho hd hb hK;simp [Region.binds,rAt,IsV,slot] at hd;go_simp;refine (specTwo_any ((n:Int) % 65536) wy (by omega) (by omega)).mono ?_;rintro e wz ⟨rfl,hz⟩;exact hK _ _ rfl hz
     case s10 =>
      intro K' a wy ho hd hb hK;simp [Region.binds,rAt,IsV,slot] at hd;go_simp;try go_bits
      exact hK _ _ rfl (Below.refl _ _)
     case s11 =>
      intro K' a wy ho hd hb hK;have h3:=ho 2 (by decide);simp [slot] at h3;clear hd;go_simp;try go_bits
      exact hK _ _ rfl (Below.refl _ _)
     case s12 =>
      intro K' a wy ho hd hb hK;simp [Region.binds,rAt,IsV,slot] at hd;go_simp;try go_bits
      exact hK _ _ rfl (Below.refl _ _)
     case s13 =>
      intro K' a wy ho hd hb hK;simp [Region.binds,rAt,IsV,slot] at hd;go_simp;exact hK _ _ ⟨wy.heap.size,rfl,by simp,by simp,by simp,by simp⟩ ((Below.refl _ _).alloc (Nat.le_refl _) _)
     case s14 =>
      intro K' a wy ho hd hb hK;simp only [List.forall_mem_singleton,Array.mem_def,List.mem_singleton,forall_eq] at hd;obtain ⟨b,hd1,hd2,hd3,hd4,hd5⟩ : IsQuadW (0) (p) (slot a 43) wy:=hd rfl;have hcv:=quadW_conv (cap:=4) (by omega) (by omega) hd2 hd3 hd4 hd5;simp [slot] at hd1;go_simp;try go_bits
      exact hK _ _ rfl (Below.refl _ _)
     case s15 =>
      intro K' a wy ho hd hb hK;simp [Region.binds,rAt,IsV,slot] at hd;go_simp;try go_bits
      exact hK _ _ rfl (Below.refl _ _)
     case s16 =>
      intro K' a wy ho hd hb hK;simp [Region.binds,rAt,IsV,slot] at hd;go_simp;try go_bits
      exact hK _ _ rfl (Below.refl _ _)
    case done =>
     intro X wz hR hz;obtain ⟨x0,x1,x2,x3,x4,x5,x6,x7,x8,x9,x10,x11,x12,⟨b13,x13,-,-,-,-⟩,x14,x15,x16,-⟩:=hR;simp only [IsV] at x0 x1 x2 x3 x4 x5 x6 x7 x8 x9 x10 x11 x12 x14 x15 x16;simp only [putsFrom,x0,x1,x2,x3,x4,x5,x6,x7,x8,x9,x10,x11,x12,x13,x14,x15,x16];clear x0 x1 x2 x3 x4 x5 x6 x7 x8 x9 x10 x11 x12 x13 x14 x15 x16;go_simp;refine hK2 _ _ (hJ _ _ ?_);(repeat apply Exists.intro)
     refine ⟨⟨by rw [HZ.out],(Below.refl _ w).drew.trans hz⟩,rfl⟩
   case rest =>
   obtain ⟨rfl,hb⟩:=hcut;go_wp2_with fail
   go_ret;exact ⟨rfl,hb⟩
  ·have d1:(p==1)=false:=by simp [dp]
   go_enter Tryz.func130,Tryz.ntmps130
   go_upto_region 5 with fail
   go_cut [8] (fun v wx=>v=.string ans∧Below w.heap.size w wx)
   case first =>
    rename_i J K2 hJ hK2;clear hun;refine wp_region_growL (Rs:=[IsV (.string s),IsV (.string d),IsV (.string (s++d)),IsV (iV (n:Int)),IsV (iV ((n:Int) / 65536)),IsV (.string (twoV ((n:Int) / 65536))),IsV (.string (s++d++twoV ((n:Int) / 65536))),IsV (iV (n:Int)),IsV (iV ((n:Int) % 65536)),IsV (.string (twoV ((n:Int) % 65536))),IsV (.string (s++d++twoV ((n:Int) / 65536)++twoV ((n:Int) % 65536))),IsV (iV p),IsV (.int .u8 p),IsQuadW (0) (p),IsV (.string (quadW 0 p)),IsV (.string (s++d++twoV ((n:Int) / 65536)++twoV ((n:Int) % 65536)++quadW 0 p)),IsV (.string (s++d++twoV ((n:Int) / 65536)++twoV ((n:Int) % 65536)++quadW 0 p))]) [30,31,32,33,34,35,36,37,38,39,40,41,42,43,44,45,8] (by kernel_rfl) (by kernel_rfl) rfl ?st ?steps ?done
    case st=>simp [stable_isV,stable_isQuadW]
    case steps =>
     refine ⟨?s0,?s1,?s2,?s3,?s4,?s5,?s6,?s7,?s8,?s9,?s10,?s11,?s12,?s13,?s14,?s15,?s16,trivial⟩
     case s0 =>
      intro K' a wy ho hd hb hK;have h3:=ho 0 (by decide);simp [slot] at h3;clear hd;go_simp;try go_bits
      exact hK _ _ rfl (Below.refl _ _)
     case s1 =>
      intro K' a wy ho hd hb hK;have h3:=ho 1 (by decide);simp [slot] at h3;clear hd;go_simp;try go_bits
      exact hK _ _ rfl (Below.refl _ _)
     case s2 =>
      intro K' a wy ho hd hb hK;simp [Region.binds,rAt,IsV,slot] at hd;go_simp;try go_bits
      exact hK _ _ rfl (Below.refl _ _)
     case s3 =>
      intro K' a wy ho hd hb hK;have h3:=ho 3 (by decide);simp [slot] at h3;clear hd;go_simp;try go_bits
      exact hK _ _ rfl (Below.refl _ _)
     case s4 =>
      intro K' a wy ho hd hb hK;simp [Region.binds,rAt,IsV,slot] at hd;go_simp;try go_bits
      exact hK _ _ rfl (Below.refl _ _)
     case s5 =>
      intro K' a wy ho hd hb hK;simp [Region.binds,rAt,IsV,slot] at hd;go_simp;refine (specTwo_any ((n:Int) / 65536) wy (by omega) (by omega)).mono ?_;rintro e wz ⟨rfl,hz⟩;exact hK _ _ rfl hz
     case s6 =>
      intro K' a wy ho hd hb hK;simp [Region.binds,rAt,IsV,slot] at hd;go_simp;try go_bits
      exact hK _ _ rfl (Below.refl _ _)
     case s7 =>
      intro K' a wy ho hd hb hK;have h3:=ho 3 (by decide);simp [slot] at h3;clear hd;go_simp;try go_bits
      exact hK _ _ rfl (Below.refl _ _)
     case s8 =>
      intro K' a wy ho hd hb hK;simp [Region.binds,rAt,IsV,slot] at hd;go_simp;try go_bits
      exact hK _ _ rfl (Below.refl _ _)
     case s9 =>
      intro K' a wy ho hd hb hK;simp [Region.binds,rAt,IsV,slot] at hd;go_simp;refine (specTwo_any ((n:Int) % 65536) wy (by omega) (by omega)).mono ?_;rintro e wz ⟨rfl,hz⟩;exact hK _ _ rfl hz
     case s10 =>
      intro K' a wy ho hd hb hK;simp [Region.binds,rAt,IsV,slot] at hd;go_simp;try go_bits
      exact hK _ _ rfl (Below.refl _ _)
     case s11 =>
      intro K' a wy ho hd hb hK;have h3:=ho 2 (by decide);simp [slot] at h3;clear hd;go_simp;try go_bits
      exact hK _ _ rfl (Below.refl _ _)
     case s12 =>
      intro K' a wy ho hd hb hK;simp [Region.binds,rAt,IsV,slot] at hd;go_simp;try go_bits
      exact hK _ _ rfl (Below.refl _ _)
     case s13 =>
      intro K' a wy ho hd hb hK;simp [Region.binds,rAt,IsV,slot] at hd;go_simp;exact hK _ _ ⟨wy.heap.size,rfl,by simp,by simp,by simp,by simp⟩ ((Below.refl _ _).alloc (Nat.le_refl _) _)
     case s14 =>
      intro K' a wy ho hd hb hK;simp only [List.forall_mem_singleton,Array.mem_def,List.mem_singleton,forall_eq] at hd;obtain ⟨b,hd1,hd2,hd3,hd4,hd5⟩ : IsQuadW (0) (p) (slot a 43) wy:=hd rfl;have hcv:=quadW_conv (cap:=4) (by omega) (by omega) hd2 hd3 hd4 hd5;simp [slot] at hd1;go_simp;try go_bits
      exact hK _ _ rfl (Below.refl _ _)
     case s15 =>
      intro K' a wy ho hd hb hK;simp [Region.binds,rAt,IsV,slot] at hd;go_simp;try go_bits
      exact hK _ _ rfl (Below.refl _ _)
     case s16 =>
      intro K' a wy ho hd hb hK;simp [Region.binds,rAt,IsV,slot] at hd;go_simp;try go_bits
      exact hK _ _ rfl (Below.refl _ _)
    case done =>
     intro X wz hR hz;obtain ⟨x0,x1,x2,x3,x4,x5,x6,x7,x8,x9,x10,x11,x12,⟨b13,x13,-,-,-,-⟩,x14,x15,x16,-⟩:=hR;simp only [IsV] at x0 x1 x2 x3 x4 x5 x6 x7 x8 x9 x10 x11 x12 x14 x15 x16;simp only [putsFrom,x0,x1,x2,x3,x4,x5,x6,x7,x8,x9,x10,x11,x12,x13,x14,x15,x16];clear x0 x1 x2 x3 x4 x5 x6 x7 x8 x9 x10 x11 x12 x13 x14 x15 x16;go_simp;refine hK2 _ _ (hJ _ _ ?_);(repeat apply Exists.intro)
     refine ⟨⟨by rw [HZ.out],(Below.refl _ w).drew.trans hz⟩,rfl⟩
   case rest =>
   obtain ⟨rfl,hb⟩:=hcut;go_wp2_with fail
   go_ret;exact ⟨rfl,hb⟩
end Go.Proofs.YtcckaeppiamebaaGreatDoor
