import Derived.Test.YtcckaeppiamebaaGreatDoorAb
import Derived.Test.YtcckaeppiamebaaGreatDoorMerged5
import Derived.Test.YtcckaeppiamebaaGreatDoorMerged1
import Derived.Test.YtcckaeppiamebaaGreatDoorMerged7
import Derived.WalkLawsBesides
import Derived.RegionTactic
import Derived.Deep.QuietTactic
import Derived.Deep.RegionWith
import Derived.Deep.DeepCutAuto
import Derived.Test.YtcckaeppiamebaaGreatDoorMerged3
import Derived.Lib.AppendStr
import Derived.Laws.IdiomCopy
import Derived.Deep.OwnRows
import Derived.Lib.LazyBuf
import Derived.Lib.BufferWrite
import Derived.Test.YtcckaeppiamebaaGreatDoorMerged8
import Derived.Test.YtcckaeppiamebaaGreatDoorMerged9
import Derived.Deep.RegionHeld
set_option linter.unusedVariables false
set_option linter.unusedSimpArgs false
set_option maxRecDepth 100000
set_option maxHeartbeats 8000000
namespace Go.Proofs.YtcckaeppiamebaaGreatDoor
open Go.RowKit Go.PlainAid
def wordsB (ws:List Int):ByteArray:=⟨((layL ws).map (fun x=>UInt8.ofNat x.toNat)).toArray⟩
theorem wordsB_size (ws:List Int):(wordsB ws).size=2*ws.length:=by
 unfold wordsB ByteArray.size;simp [layL_length]
theorem words_conv {w:World} {b cap n:Nat} {ws:List Int} (hn:n=2*ws.length) (hw:∀ m∈ws,0≤m∧m≤65535) (hc:∀ i,i < n→w.cell? ⟨b,i,none⟩=some (.int .u8 (fL ws i))) :
  (convert 137 9 (.slice (some ⟨b,0,none⟩) n cap)).run Tryz.prog w=.ok (.string (wordsB ws)) w:=by
 have hl:=layL_length ws;have e:n=((layL ws).map (fun x=>UInt8.ofNat x.toNat)).length:=by simp [hl,hn]
 rw [e];refine run_convert_bytes_back (P:=Tryz.prog) w 137 9 5 ⟨b,0,none⟩ cap ((layL ws).map (fun x=>UInt8.ofNat x.toNat)) Tryz.underlying137 Tryz.underlying5 Tryz.underlying9 ?_;intro j hj;have hj2:j < (layL ws).length:=by simpa using hj
 have hb:=fL_byte ws hw j;have e2:fL ws j=(layL ws)[j]:=by simp [fL,List.getD,hj2]
 rw [e2] at hb;have e3:Addr.add ⟨b,0,none⟩ j=⟨b,j,none⟩:=by simp [Addr.add]; omega
 rw [e3,List.getElem_map,u8_ofNat _ hb.1 hb.2,← e2];exact hc j (by omega)
theorem wordsB_four (p n:Int) (hp:0≤p∧p≤255):pairV 0 p++twoV n=wordsB [p,n]:=by
 have e1:p / 256=0:=by omega
 have e2:p % 256=p:=by omega
 simp only [wordsB,layL,e1,e2];rfl
theorem wordsB_six (p n:Int) (hp:0≤p∧p≤255) (hn:0≤n∧n≤65535):twoV (n / 65536)++twoV (n % 65536)++quadW 0 p=wordsB [n / 65536,n,0,p]:=by
 have e1:p / 256=0:=by omega
 have e2:p % 256=p:=by omega
 have e3:n % 65536=n:=by omega
 simp only [wordsB,layL,e1,e2,e3];rfl
theorem ipPseudo_any (s d:ByteArray) (p:Int) (n:Nat) (w:World) (hs:s.size=4∨s.size=16) (hd:d.size≤16) (hp:0≤p∧p≤255) (hn:n≤65535) :
  Cb 179 #[.string s,.string d,iV p,iV n] w (.string (pseudoV s d p n)):=by
 have n1:¬ 9223372036854775807 < s.size+d.size:=by omega
 rcases hs with hs | hs
 ·have d4:((s.size:Int)==16)=false:=by simp; omega
  by_cases h1:p=1
  ·have d1:(p==1)=true:=by simp [h1]
   have HV:Hid (pseudoV s d p n=⟨#[]⟩):=by unfold Hid pseudoV; rw [if_pos ⟨h1,hs⟩]
   generalize pseudoV s d p n=ans at *;clear h1;go_enter Tryz.func179,Tryz.ntmps179
   go_wp2_with fail
   go_ret;exact ⟨ret_string HV.out.symm,Below.refl _ _⟩
  ·have d1:(p==1)=false:=by simp [h1]
   have HV:Hid (pseudoV s d p n=s++d++wordsB [p,(n:Int)]):=by
    unfold Hid pseudoV;rw [if_neg (fun h=>h1 h.1),if_pos hs,← wordsB_four p n hp,ByteArray.append_assoc (a:=s++d)]
   generalize pseudoV s d p n=ans at *;have hws:∀ m∈[p,(n:Int)],0≤m∧m≤65535:=by intro m hm; simp at hm; rcases hm with rfl | rfl<;>omega
   have HL:Hid (Calls Tryz.prog 160 #[.slice (some ⟨w.heap.size,0,none⟩) 2 2] (w.alloc (.cells #[iV p,iV n] 2)) fun e w' =>
    e=.returned (.slice (some ⟨w.heap.size+1,0,none⟩) 4 4)∧(∀ i,i < 4→w'.cell? ⟨w.heap.size+1,i,none⟩=some (.int .u8 (fL [p,(n:Int)] i)))∧Below w.heap.size w w'):=layAt [p,(n:Int)] w (by simp) hws
   have HW:Hid (∀ m∈[p,(n:Int)],0≤m∧m≤65535):=hws;have z:=wordsB_size [p,(n:Int)];simp at z;have n2:¬ 9223372036854775807 < s.size+d.size+(wordsB [p,(n:Int)]).size:=by omega
   clear hws h1;go_enter Tryz.func179,Tryz.ntmps179
   go_wp2_with fail
   refine HL.out.mono ?_;rintro e w1 ⟨rfl,hc,hB⟩;have hcv:=words_conv (cap:=4) (by simp) HW.out hc;have HB:Hid (Below w.heap.size w w1):=hB;clear hc hB HL;generalize wordsB [p,(n:Int)]=u at *;go_wp2_with fail
   go_ret;exact ⟨ret_string HV.out.symm,HB.out⟩
 ·have d4:((s.size:Int)==16)=true:=by simp; omega
  have HV:Hid (pseudoV s d p n=s++d++wordsB [(n:Int) / 65536,(n:Int),0,p]):=by
   unfold Hid pseudoV;rw [if_neg (by omega),if_neg (by omega),← wordsB_six p n hp (by omega),ByteArray.append_assoc (a:=s++d),ByteArray.append_assoc (a:=s++d)]
  generalize pseudoV s d p n=ans at *;have hws:∀ m∈[(n:Int) / 65536,(n:Int),0,p],0≤m∧m≤65535:=by intro m hm; simp at hm; rcases hm with rfl | rfl | rfl | rfl<;>omega
  have HL:Hid (Calls Tryz.prog 160 #[.slice (some ⟨w.heap.size,0,none⟩) 4 4] (w.alloc (.cells #[iV ((n:Int) / 65536),iV n,iV 0,iV p] 2)) fun e w' =>
   e=.returned (.slice (some ⟨w.heap.size+1,0,none⟩) 8 8)∧(∀ i,i < 8→w'.cell? ⟨w.heap.size+1,i,none⟩=some (.int .u8 (fL [(n:Int) / 65536,(n:Int),0,p] i)))∧Below w.heap.size w w'):=layAt [(n:Int) / 65536,(n:Int),0,p] w (by simp) hws
  have HW:Hid (∀ m∈[(n:Int) / 65536,(n:Int),0,p],0≤m∧m≤65535):=hws;have z:=wordsB_size [(n:Int) / 65536,(n:Int),0,p];simp at z;have n2:¬ 9223372036854775807 < s.size+d.size+(wordsB [(n:Int) / 65536,(n:Int),0,p]).size:=by omega
  clear hws;go_enter Tryz.func179,Tryz.ntmps179
  go_wp2_with fail
  refine HL.out.mono ?_;rintro e w1 ⟨rfl,hc,hB⟩;have hcv:=words_conv (cap:=8) (by simp) HW.out hc;have HB:Hid (Below w.heap.size w w1):=hB;clear hc hB HL;generalize wordsB [(n:Int) / 65536,(n:Int),0,p]=u at *;go_wp2_with fail
  go_ret;exact ⟨ret_string HV.out.symm,HB.out⟩
theorem ipLacks_any (p:Int) (t:ByteArray) (w:World) (h8:8≤t.size) (ht:t.size≤1048576) :
  Cw 157 #[iV p,.string t] w (.bool (decide (p=17)&&decide (wordN (bt t) 6=0))):=by
 have HW:Hid (∀ W,Cw 134 #[.string t,iV (6:Nat)] W (iV (wordN (bt t) 6))):=fun W=>wordFromS_any t 6 W (by omega) (by unfold maxLen; omega)
 have dq:(wordN (bt t) 6==0)=decide (wordN (bt t) 6=0):=rfl;generalize decide (wordN (bt t) 6=0)=q at *;generalize wordN (bt t) 6=x at *;by_cases h:p=17
 ·have d1:(p==17)=true:=by simp [h]
  rw [decide_eq_true h];clear h;go_enter Tryz.func157,Tryz.ntmps157
  go_wp2_with fail
  refine (HW.out _).mono ?_;rintro e w2 ⟨rfl,rfl⟩;go_wp2_with fail
  go_ret;exact ⟨rfl,rfl⟩
 ·have d1:(p==17)=false:=by simp [h]
  rw [decide_eq_false h];clear h;go_enter Tryz.func157,Tryz.ntmps157
  go_wp2_with fail
  go_ret;exact ⟨rfl,rfl⟩
structure CurAt (w:World) (B b cap:Nat) (t:ByteArray) (k:Nat):Prop where
 c0:w.cell? ⟨B,0,none⟩=some (.slice (some ⟨b,0,none⟩) t.size cap)
 f0:w.frozen? ⟨B,0,none⟩=false
 c1:w.cell? ⟨B,1,none⟩=some (iV k)
 f1:w.frozen? ⟨B,1,none⟩=false
 bs:∀ i,i < t.size→w.cell? ⟨b,i,none⟩=some (.int .u8 (bt t i))
 ne:b≠B
 lt:b < w.heap.size
 cp:t.size≤cap
theorem CurAt.kept {w W:World} {B b cap:Nat} {t:ByteArray} {k:Nat} (h:CurAt w B b cap t k) (hB:Below w.heap.size w W):CurAt W B b cap t k:=by
 have hb:=World.block_lt_of_cell? w _ h.c0;exact ⟨((bcell hB).1 B 0 hb).trans h.c0,((bcell hB).2 B 0 hb).trans h.f0,((bcell hB).1 B 1 hb).trans h.c1,((bcell hB).2 B 1 hb).trans h.f1,fun i hi=>((bcell hB).1 b i h.lt).trans (h.bs i hi),h.ne,Nat.lt_of_lt_of_le h.lt hB.size,h.cp⟩
theorem CurAt.step {w:World} {B b cap:Nat} {t:ByteArray} {k:Nat} (h:CurAt w B b cap t k) (k':Nat):CurAt (w.setCell ⟨B,1,none⟩ (iV k')) B b cap t k':=by
 refine ⟨?_,by simpa using h.f0,World.cell?_setCell_same _ _ _ h.c1,by simpa using h.f1,fun i hi=>?_,h.ne,by simpa using h.lt,h.cp⟩
 ·rw [World.cell?_setCell_other _ _ _ _ (fun e=>by injection e with _ h2; omega)]; exact h.c0
 ·rw [World.cell?_setCell_other _ _ _ _ (fun e=>by injection e with h1 _; exact h.ne h1.symm)]; exact h.bs i hi
theorem CurAt.other {w:World} {B b cap:Nat} {t:ByteArray} {k:Nat} (h:CurAt w B b cap t k) {C o:Nat} (v:Value) (h1:C≠B) (h2:C≠b):CurAt (w.setCell ⟨C,o,none⟩ v) B b cap t k:=by
 have hc:∀ X j,C≠X→(w.setCell ⟨C,o,none⟩ v).cell? ⟨X,j,none⟩=w.cell? ⟨X,j,none⟩:=fun X j hX=>World.cell?_setCell_other w _ _ v (fun e=>hX (congrArg Addr.block e))
 exact ⟨(hc B 0 h1).trans h.c0,by simpa using h.f0,(hc B 1 h1).trans h.c1,by simpa using h.f1,fun i hi=>(hc b i h2).trans (h.bs i hi),h.ne,by simpa using h.lt,h.cp⟩
theorem bt_list {s:ByteArray} {j:Nat} (h:j < s.data.toList.length):(s.data.toList[j].toNat:Int)=bt s j:=by
 have h':j < s.size:=by rw [Array.length_toList] at h; exact h
 unfold bt;rw [dif_pos h',ByteArray.getElem_eq_getElem_data];simp
open Go.Lib
theorem strCells_append (a b:ByteArray):strCells (a++b)=strCells a++strCells b:=by
 unfold strCells; rw [ByteArray.data_append]; simp
theorem strCells_two (n:Int) (h0:0≤n) (h1:n≤65535):strCells (twoV n)=[.int .u8 (n / 256),.int .u8 (n % 256)]:=by
 have e1:=u8_ofNat (n / 256) (by omega) (by omega);have e2:=u8_ofNat (n % 256) (by omega) (by omega);simp only [strCells,twoV,twoL,List.map_cons,List.map_nil,e1,e2]
theorem strCells_at (s:ByteArray) (i:Nat) (h:i < s.size):(strCells s)[i]?=some (.int .u8 (bt s i)):=by
 have h':i < s.data.toList.length:=by rw [Array.length_toList]; exact h
 unfold strCells;rw [List.getElem?_map,List.getElem?_eq_getElem h',Option.map_some,bt_list h']
def IsWords (ws:List Int):Value→World→Prop:=fun v w=>∃ b,v=.slice (some ⟨b,0,none⟩) ws.length ws.length∧b < w.heap.size∧∀ k,k < ws.length→w.cell? ⟨b,k,none⟩=some (iV (ws.getD k 0))
theorem stable_isWords (ws:List Int):Stable (IsWords ws):=fun v w w' ⟨b,h1,h2,h3⟩ hb=>⟨b,h1,Nat.lt_of_lt_of_le h2 hb.size,fun k hk=>((bcell hb).1 b k h2).trans (h3 k hk)⟩
theorem owns_kept {w W:World} {base e n:Nat} {v:Value} {xs:List Value} (h:w.ownsRow base e 1 v n xs) (hB:Below w.heap.size w W):W.ownsRow base e 1 v n xs:=by
 obtain ⟨h1,h2⟩:=h;refine ⟨h1,?_⟩;rcases h2 with h2 | ⟨g,cap,cur,q1,q2,q3,q4⟩
 ·exact .inl h2
 ·exact .inr ⟨g,cap,cur,q1,q2,by rw [hB.block g (Array.getElem?_eq_some_iff.1 q3).1]; exact q3,q4⟩
theorem owns_base {w:World} {base base' e n:Nat} {v:Value} {xs:List Value} (h:w.ownsRow base e 1 v n xs) (hB:base'≤base):w.ownsRow base' e 1 v n xs:=by
 obtain ⟨h1,h2⟩:=h;refine ⟨h1,?_⟩;rcases h2 with h2 | ⟨g,cap,cur,q1,q2,q3,q4⟩
 ·exact .inl h2
 ·exact .inr ⟨g,cap,cur,q1,Nat.le_trans hB q2,q3,q4⟩
def IsOwn (base e n:Nat) (xs:List Value):Value→World→Prop:=fun v w=>∃ g,v=.slice (some ⟨g,0,none⟩) n n∧w.ownsRow base e 1 v n xs
theorem stable_isOwn (base e n:Nat) (xs:List Value):Stable (IsOwn base e n xs):=fun v w w' ⟨g,h1,h2⟩ hb=>⟨g,h1,owns_kept h2 hb⟩
def zs (n:Nat):ByteArray:=⟨Array.replicate n 0⟩
theorem lay_at {w:World} {g o:Nat} {A Z B s:ByteArray} (h:HoldsL w g (strCells (A++Z++B))) (hA:A.size=o) (hZ:Z.size=s.size):HoldsL (w.setCells g o (strCells s)) g (strCells (A++s++B)):=by
 have hl:(strCells (A++Z++B)).length=o+s.size+B.size:=by rw [strCells_length]; simp only [ByteArray.size_append]; omega
 have:=h.setRange o (strCells s) (by rw [hl,strCells_length]; omega);rw [strCells_length] at this;rw [strCells_append,strCells_append] at this ⊢;rw [List.append_assoc (strCells A),List.take_left' (by rw [strCells_length]; exact hA),← List.append_assoc,List.drop_left' (by rw [List.length_append,strCells_length,strCells_length]; omega)] at this;exact this
theorem below_setCells {w W:World} {B g:Nat} (h:Below B w W) (hg:B≤g):∀ (cs:List Value) (o:Nat),Below B w (W.setCells g o cs)
 | [],o=>h
 | c::cs,o=>by rw [World.setCells]; exact below_setCells (h.setCell (p:=⟨g,o,none⟩) hg c) hg cs (o+1)
theorem Bxs.cells {w wx:World} {ks:List (Nat × List Value)} (h:Bxs w ks wx) {g:Nat} (hne:∀ e∈ks,e.1≠g) (hg:w.heap.size≤g) {o:Nat} {cs:List Value}:Bxs w ks (wx.setCells g o cs) :=
 ⟨fun e he=>(h.k e he).setCellsOther (hne e he) cs,below_setCells h.b hg cs o,h.z⟩
theorem hold_bt {w:World} {g:Nat} {t:ByteArray} (h:HoldsL w g (strCells t)) (i:Nat) (hi:i < t.size):w.cell? ⟨g,i,none⟩=some (.int .u8 (bt t i)):=h.cell (strCells_at t i hi)
end Go.Proofs.YtcckaeppiamebaaGreatDoor
namespace Go.Proofs.YtcckaeppiamebaaGreatDoor
open Go.RowKit Go.PlainAid
theorem ipPlace_any (p:Int) (w:World) :
  Cw 159 #[iV p] w (iV (checkP p:Nat)):=by
 by_cases h1:p=6
 ·subst h1;go_enter Tryz.func159,Tryz.ntmps159
  go_wp2_with fail
  go_ret;exact ⟨rfl,rfl⟩
 ·have d1:(p==6)=false:=by simp [h1]
  by_cases h2:p=17
  ·subst h2;go_enter Tryz.func159,Tryz.ntmps159
   go_wp2_with fail
   go_ret;exact ⟨rfl,rfl⟩
  ·have d2:(p==17)=false:=by simp [h2]
   have HV:Hid (checkP p=2):=by unfold Hid checkP; rw [if_neg h1,if_neg h2]
   generalize checkP p=ans at *;go_enter Tryz.func159,Tryz.ntmps159
   go_wp2_with fail
   go_ret;exact ⟨ret_int (by rw [HV.out]; rfl),rfl⟩
theorem ipLike_any (a b:Int) (w:World) :
  Cw 156 #[iV a,iV b] w (.bool (decide (a=b)||(echoP a&&echoP b))):=by
 have HA:Hid (∀ W,Cw 101 #[iV a] W (.bool (echoP a))):=fun W=>implEcho_any a W
 have HB:Hid (∀ W,Cw 101 #[iV b] W (.bool (echoP b))):=fun W=>implEcho_any b W
 have hun:undef=Value.tuple #[]:=rfl;by_cases h:a=b
 ·have d1:(a==b)=true:=by simp [h]
  have HV:Hid ((decide (a=b)||(echoP a&&echoP b))=true):=by unfold Hid; simp [h]
  generalize (decide (a=b)||(echoP a&&echoP b))=ans at *;clear h HA HB;go_enter Tryz.func156,Tryz.ntmps156
  go_wp2_with fail
  go_ret;exact ⟨ret_bool (by rw [HV.out]),rfl⟩
 ·have d1:(a==b)=false:=by simp [h]
  have HV:Hid ((decide (a=b)||(echoP a&&echoP b))=(echoP a&&echoP b)):=by unfold Hid; simp [h]
  generalize (decide (a=b)||(echoP a&&echoP b))=ans at *;generalize echoP a=ea at *;generalize echoP b=eb at *;clear h
  cases ea with
  | false =>
   go_enter Tryz.func156,Tryz.ntmps156
   go_wp2_with fail
   refine (HA.out _).mono ?_;rintro e w2 ⟨rfl,rfl⟩;go_wp2_with fail
   go_ret;exact ⟨ret_bool (by rw [HV.out]; rfl),rfl⟩
  | true =>
   go_enter Tryz.func156,Tryz.ntmps156
   go_wp2_with fail
   refine (HA.out _).mono ?_;rintro e w2 ⟨rfl,rfl⟩;go_wp2_with fail
   refine (HB.out _).mono ?_;rintro e w3 ⟨rfl,rfl⟩;go_wp2_with fail
   go_ret;exact ⟨ret_bool (by rw [HV.out]; rfl),rfl⟩
theorem ipSetPart_any (p:Int) (t:ByteArray) (w:World) (h8:8≤t.size) (ht:t.size≤1048576) :
  Cb 178 #[iV p,.string t] w (.string (setPartV p t)):=by
 have HE:Hid (∀ W,Cw 101 #[iV p] W (.bool (echoP p))):=fun W=>implEcho_any p W
 have L1:∀ W,(Instr.slice 9 (.string t) none (some (iV 4)) none).run Tryz.prog W=.ok (.string (t.extract 0 4)) W:=fun W=>run_slice_string_h (P:=Tryz.prog) (t:=9) (s:=t) (w:=W) (ht:=Tryz.underlying9) .i64 (4:Int) (by omega) (by omega)
 have L2:∀ W,(Instr.slice 9 (.string t) none (some (iV 2)) none).run Tryz.prog W=.ok (.string (t.extract 0 2)) W:=fun W=>run_slice_string_h (P:=Tryz.prog) (t:=9) (s:=t) (w:=W) (ht:=Tryz.underlying9) .i64 (2:Int) (by omega) (by omega)
 have L3:∀ W,(Instr.slice 9 (.string t) (some (iV 4)) (some (iV 6)) none).run Tryz.prog W=.ok (.string (t.extract 4 6)) W:=fun W=>str_slice5 t 4 6 W (by omega) (by omega)
 have z1:(t.extract 0 4).size=4:=by rw [ByteArray.size_extract]; omega
 have z2:(t.extract 0 2).size=2:=by rw [ByteArray.size_extract]; omega
 have z3:(t.extract 4 6).size=2:=by rw [ByteArray.size_extract]; omega
 have HV:Hid (setPartV p t=if echoP p=true then t.extract 0 2++t.extract 4 6 else t.extract 0 4):=rfl;generalize t.extract 0 4=u1 at *;generalize t.extract 0 2=u2 at *;generalize t.extract 4 6=u3 at *;generalize setPartV p t=ans at *;have n1:¬ 9223372036854775807 < u2.size+u3.size:=by omega
 generalize echoP p=b at *
 cases b with
 | false =>
  replace HV:Hid (ans=u1):=HV.out;go_enter Tryz.func178,Tryz.ntmps178
  go_wp2_with fail
  refine (HE.out _).mono ?_;rintro e w2 ⟨rfl,rfl⟩;go_wp2_with fail
  go_ret;exact ⟨by rw [HV.out]; rfl,Below.refl _ _⟩
 | true =>
  replace HV:Hid (ans=u2++u3):=HV.out;go_enter Tryz.func178,Tryz.ntmps178
  go_wp2_with fail
  refine (HE.out _).mono ?_;rintro e w2 ⟨rfl,rfl⟩;go_wp2_with fail
  go_region
  all_goals go_wp2_with fail
  all_goals go_ret
  all_goals exact ⟨by rw [HV.out]; rfl,bR.drew⟩
theorem Bxs.setHead {w0 W:World} {ks:List (Nat × List Value)} {C:Nat} {v:Value} (h:Bxs w0 ((C,[v])::ks) W) (hC:w0.heap.size≤C) (hks:∀ e∈ks,e.1≠C) (u:Value):Bxs w0 ((C,[u])::ks) (W.setCell ⟨C,0,none⟩ u) :=
 ⟨fun e he=>by
  rcases List.mem_cons.1 he with rfl | he
  ·exact (h.k _ mE0).set 0 u
  ·exact HoldsL.setOther (h.k e (.tail _ he)) (hks e he) u,h.b.setCell (p:=⟨C,0,none⟩) hC u,fun e he=>by
  rcases List.mem_cons.1 he with rfl | he
  ·exact Nat.zero_lt_one
  ·exact h.z e (.tail _ he)⟩
theorem Bxs.tl {w0 W:World} {k:Nat × List Value} {ks:List (Nat × List Value)} (h:Bxs w0 (k::ks) W):Bxs w0 ks W:=⟨fun e he=>h.k e (.tail _ he),h.b,fun e he=>h.z e (.tail _ he)⟩
theorem ipMTurn_any (ta tb:ByteArray) (c:Int) (C:Nat) (ks:List (Nat × List Value)) (w0 w:World) (ha:ta.size≤1048576) (hb':tb.size≤1048576) (hc:0≤c∧c≤65535) (hC:w0.heap.size≤C) (hks:∀ e∈ks,e.1≠C) (h:Bxs w0 ((C,[iV c])::ks) w) :
  Calls Tryz.prog 177 #[.pointer (some ⟨C,0,none⟩),.agg #[.string ta,.string tb]] w fun e w'=>e=.returned (.tuple #[])∧Bxs w0 ((C,[iV (turn1 c (sumV ta) (sumV tb))])::ks) w':=by
 have HA:Hid (∀ W,Cb 172 #[.string ta] W (iV (sumV ta))):=fun W=>(sumOfS_any ta W (by omega)).mono fun e w' h=>⟨h.1,by rw [h.2]; exact Below.refl _ _⟩
 have HB:Hid (∀ W,Cb 172 #[.string tb] W (iV (sumV tb))):=fun W=>(sumOfS_any tb W (by omega)).mono fun e w' h=>⟨h.1,by rw [h.2]; exact Below.refl _ _⟩
 have HT:Hid (∀ W,Cb 185 #[iV c,iV (sumV ta),iV (sumV tb)] W (iV (turn1 c (sumV ta) (sumV tb)))):=fun W=>(implSumTurn_any c (sumV ta) (sumV tb) W).mono fun e w' h=>⟨by rw [h.1,turnV_of hc (sumV_range ta) (sumV_range tb)],h.2⟩
 have hlt:C < w.heap.size:=(h.k _ mE0).lt (by simp);have HS0:Hid (Bxs w0 ((w.heap.size,[.string ta,.string tb])::(C,[iV c])::ks) (w.alloc (.cells #[.string ta,.string tb] 214))):=h.push [.string ta,.string tb] (by simp) _;have HKS:Hid (∀ e∈ks,e.1≠C):=hks;generalize sumV ta=sa at *;generalize sumV tb=sb at *;generalize turn1 c sa sb=tc at *;clear h hks;go_enter Tryz.func177,Tryz.ntmps177
 go_upto_region 1 with fail
 generalize (w.alloc (.cells #[.string ta,.string tb] 214))=W1 at *;generalize w.heap.size=P at *;have HCP:Hid (∀ wy,Below W1.drew.heap.size W1.drew wy→_):=fun wy hy=>HS0.out.kept (bR.drew.trans hy)
 clear HS0;refine wp_region_growV [4,5,6,7,8,9,10,11,12,13,14,15,16,17] (by kernel_rfl) (by kernel_rfl) ?_;apply GChV.v0
 ·rfl
 ·intro K' a wy ho hd hb hK kz;have o0:=ho 0 (by decide);simp [slot] at o0;clear hd ho;go_simp;try go_bits
  exact kz _ rfl
 apply GChV.v1
 ·rfl
 ·intro K' a wy ho hd hb hK kz;have o0:=ho 0 (by decide);simp [slot] at o0;clear hd ho;go_simp;try go_bits
  exact kz _ rfl
 apply GChV.v2
 ·rfl
 ·intro K' a wy ho hd hb hK kz;have q1:=hd ⟨1,.data⟩ (by simp) rfl;simp [rAt,IsV,slot] at q1;clear hd ho;go_simp;try go_bits
  exact kz _ rfl
 apply GChV.v3
 ·rfl
 ·intro K' a wy ho hd hb hK kz;have q2:=hd ⟨2,.data⟩ (by simp) rfl;simp [rAt,IsV,slot] at q2;clear hd ho;go_simp;try go_bits
  exact kz _ rfl
 apply GChV.v4
 ·rfl
 ·intro K' a wy ho hd hb hK kz;have q3:=hd ⟨3,.data⟩ (by simp) rfl;simp [rAt,IsV,slot] at q3;clear hd ho;have hst:=HCP.out wy hb;have HHp:=hst.at mE0;have HHc:=hst.at mE1;obtain ⟨p0,p1⟩:=HHp.c2;have c0:=HHc.cell (j:=0) rfl;clear hst HHp HHc;go_simp;try go_bits
  exact kz _ rfl
 apply GChV.v5
 ·rfl
 ·intro K' a wy ho hd hb hK kz;have o3:=ho 3 (by decide);simp [slot] at o3;clear hd ho;go_simp;try go_bits
  exact kz _ rfl
 apply GChV.v6
 ·rfl
 ·intro K' a wy ho hd hb hK kz;have q5:=hd ⟨5,.data⟩ (by simp) rfl;simp [rAt,IsV,slot] at q5;clear hd ho;have hst:=HCP.out wy hb;have HHp:=hst.at mE0;have HHc:=hst.at mE1;obtain ⟨p0,p1⟩:=HHp.c2;have c0:=HHc.cell (j:=0) rfl;clear hst HHp HHc;go_simp;try go_bits
  exact kz _ rfl
 apply GChV.v7
 ·rfl
 ·intro K' a wy ho hd hb hK kz;have q6:=hd ⟨6,.data⟩ (by simp) rfl;simp [rAt,IsV,slot] at q6;clear hd ho;go_simp;refine (HA.out wy).mono ?_;rintro e wz ⟨rfl,hz⟩;exact hK _ _ rfl hz
 apply GChV.v8
 ·rfl
 ·intro K' a wy ho hd hb hK kz;have o3:=ho 3 (by decide);simp [slot] at o3;clear hd ho;go_simp;try go_bits
  exact kz _ rfl
 apply GChV.v9
 ·rfl
 ·intro K' a wy ho hd hb hK kz;have q8:=hd ⟨8,.data⟩ (by simp) rfl;simp [rAt,IsV,slot] at q8;clear hd ho;have hst:=HCP.out wy hb;have HHp:=hst.at mE0;have HHc:=hst.at mE1;obtain ⟨p0,p1⟩:=HHp.c2;have c0:=HHc.cell (j:=0) rfl;clear hst HHp HHc;go_simp;try go_bits
  exact kz _ rfl
 apply GChV.v10
 ·rfl
 ·intro K' a wy ho hd hb hK kz;have q9:=hd ⟨9,.data⟩ (by simp) rfl;simp [rAt,IsV,slot] at q9;clear hd ho;go_simp;refine (HB.out wy).mono ?_;rintro e wz ⟨rfl,hz⟩;exact hK _ _ rfl hz
 apply GChV.v11
 ·rfl
 ·intro K' a wy ho hd hb hK kz;have q4:=hd ⟨4,.data⟩ (by simp) rfl;have q7:=hd ⟨7,.data⟩ (by simp) rfl;have q10:=hd ⟨10,.data⟩ (by simp) rfl;simp [rAt,IsV,slot] at q4 q7 q10;clear hd ho;go_simp;refine (HT.out wy).mono ?_;rintro e wz ⟨rfl,hz⟩;exact hK _ _ rfl hz
 apply GChV.v12
 ·rfl
 ·intro K' a wy ho hd hb hK kz;have q0:=hd ⟨0,.data⟩ (by simp) rfl;simp [rAt,IsV,slot] at q0;clear hd ho;go_simp;try go_bits
  exact kz _ rfl
 apply GChV.v13
 ·rfl
 ·intro K' a wy ho hd hb hK kz;have q12:=hd ⟨12,.data⟩ (by simp) rfl;simp [rAt,IsV,slot] at q12;clear hd ho;go_simp;try go_bits
  exact kz _ rfl
 intro X wz hR hz;obtain ⟨x0,x1,x2,x3,x4,x5,x6,x7,x8,x9,x10,x11,x12,x13,-⟩:=hR;simp only [IsV] at x0 x1 x2 x3 x4 x5 x6 x7 x8 x9 x10 x11 x12 x13;simp only [putsFrom,x0,x1,x2,x3,x4,x5,x6,x7,x8,x9,x10,x11,x12,x13];clear x0 x1 x2 x3 x4 x5 x6 x7 x8 x9 x10 x11 x12 x13;have hst:=HCP.out wz hz;have HF:Hid (Bxs w0 ((C,[iV tc])::ks) (wz.setCell ⟨C,0,none⟩ (iV tc))):=hst.tl.setHead hC HKS.out _;have HHc:=hst.at mE1;have c0:=HHc.cell (j:=0) rfl;have f0:=HHc.free (j:=0) (by simp);clear hst HHc HCP HKS;intro K10 hK10;go_simp;refine hK10 _ _ ?_;simp only [wpSeq];go_end0
 exact ⟨rfl,HF.out⟩
theorem ipEach_any (a b a' b':ByteArray) (c:Int) (C R:Nat) (ks:List (Nat × List Value)) (w0 w:World) (ha:a.size≤1048576) (hb:b.size≤1048576) (ha':a'.size≤1048576) (hb':b'.size≤1048576) (hc:0≤c∧c≤65535) (hC:w0.heap.size≤C) (hR:R≠C) (hks:∀ e∈ks,e.1≠C) (h:Bxs w0 ((C,[iV c])::(R,[.string a,.string b,.string a',.string b'])::ks) w) :
  Calls Tryz.prog 176 #[.func (.func 177) #[.pointer (some ⟨C,0,none⟩)] #[],.slice (some ⟨R,0,none⟩) 2 2] w fun e w'=>e=.returned (.tuple #[])∧Bxs w0 ((C,[iV (turn1 (turn1 c (sumV a) (sumV b)) (sumV a') (sumV b'))])::(R,[.string a,.string b,.string a',.string b'])::ks) w':=by
 have r1:=turn1_range hc (sumV_range a) (sumV_range b);have HKR:Hid (∀ e∈(R,[Value.string a,.string b,.string a',.string b'])::ks,e.1≠C):=fun e he=>by
  rcases List.mem_cons.1 he with rfl | he
  ·exact hR
  ·exact hks e he
 have H1:Hid (∀ W ls,(∀ e∈ls,e.1≠C)→Bxs w0 ((C,[iV c])::ls) W→Calls Tryz.prog 177 #[.pointer (some ⟨C,0,none⟩),.agg #[.string a,.string b]] W fun e w'=>e=.returned (.tuple #[])∧Bxs w0 ((C,[iV (turn1 c (sumV a) (sumV b))])::ls) w'):=fun W ls hl hW=>ipMTurn_any a b c C ls w0 W ha hb hc hC hl hW
 have H2:Hid (∀ W ls,(∀ e∈ls,e.1≠C)→Bxs w0 ((C,[iV (turn1 c (sumV a) (sumV b))])::ls) W→Calls Tryz.prog 177 #[.pointer (some ⟨C,0,none⟩),.agg #[.string a',.string b']] W fun e w'=>e=.returned (.tuple #[])∧Bxs w0 ((C,[iV (turn1 (turn1 c (sumV a) (sumV b)) (sumV a') (sumV b'))])::ls) w'):=fun W ls hl hW=>ipMTurn_any a' b' _ C ls w0 W ha' hb' r1 hC hl hW
 have HS0:Hid _:=h;generalize turn1 (turn1 c (sumV a) (sumV b)) (sumV a') (sumV b')=c2 at *;generalize turn1 c (sumV a) (sumV b)=c1 at *;clear h hks r1 ha hb ha' hb' hc;go_enter Tryz.func176,Tryz.ntmps176
 go_wp2_with fail
 go_loopw [8] (fun i wr=>∃ k:Nat,k≤2∧i=iV k∧Bxs w0 ((C,[iV (if k=0 then c else if k=1 then c1 else c2)])::(R,[.string a,.string b,.string a',.string b'])::ks) wr) (fun i _=>2-(intOf i).toNat)
 case atStart=>exact ⟨0,by omega,rfl,HS0.out⟩
 case round =>
  obtain ⟨k,hk,rfl,hst⟩:=hrel;clear HS0;match k,hk with
  | 0,_ =>
   have S1:Hid (Bxs w0 ((C,[iV c])::(R,[.string a,.string b,.string a',.string b'])::ks) wr):=hst;have HHr:=S1.out.at mE1;obtain ⟨q0,q1⟩:=HHr.c2;clear HHr hst;have B1:Hid (Below wr.heap.size wr (wr.alloc (.cells #[.string a,.string b] 214))):=bR.alloc (Nat.le_refl _) _;go_wp2_with fail
   refine (H1.out _ _ HKR.out (S1.out.kept B1.out)).mono ?_;rintro e w2 ⟨rfl,hb2⟩;have S2:Hid _:=hb2;clear hb2 S1 B1;go_wp2_with fail
   go_roundw
   case rel=>exact ⟨1,by omega,by go_num,S2.out⟩
   case measure=>simp [intOf]
  | 1,_ =>
   have S1:Hid (Bxs w0 ((C,[iV c1])::(R,[.string a,.string b,.string a',.string b'])::ks) wr):=hst;have HHr:=S1.out.at mE1;obtain ⟨-,-,q2,q3⟩:=HHr.c4;clear HHr hst;have B1:Hid (Below wr.heap.size wr (wr.alloc (.cells #[.string a',.string b'] 214))):=bR.alloc (Nat.le_refl _) _;go_wp2_with fail
   refine (H2.out _ _ HKR.out (S1.out.kept B1.out)).mono ?_;rintro e w2 ⟨rfl,hb2⟩;have S2:Hid _:=hb2;clear hb2 S1 B1;go_wp2_with fail
   go_roundw
   case rel=>exact ⟨2,by omega,by go_num,S2.out⟩
   case measure=>simp [intOf]
  | 2,_ =>
   have S1:Hid (Bxs w0 ((C,[iV c2])::(R,[.string a,.string b,.string a',.string b'])::ks) wr):=hst;clear hst;go_wp2_with fail
   go_end0
   exact ⟨rfl,S1.out⟩
def IsPr (base:Nat) (vs:List Value):Value→World→Prop:=fun v w=>∃ b,v=.slice (some ⟨b,0,none⟩) 2 2∧base≤b∧HoldsL w b vs
theorem stable_isPr (base:Nat) (vs:List Value) (h:0 < vs.length):Stable (IsPr base vs):=fun v w w' ⟨b,h1,h2,h3⟩ hb=>⟨b,h1,h2,h3.kept h hb⟩
theorem checkP_lt {p:Int} {n:Nat} (h8:8≤n) (hp:p=6→20≤n):checkP p < n:=by
 unfold checkP;split
 ·rename_i h; have:=hp h; omega
 ·split<;>omega
theorem ipCheck_any (f g:Fl) (t u:ByteArray) (w:World) (h8:8≤t.size) (ht:t.size≤65535) (hp:f.proto=6→20≤t.size) (u8:8≤u.size) (hu:u.size≤65535) (fs:f.src.size=4∨f.src.size=16) (fd:f.dst.size≤16) (fp:0≤f.proto∧f.proto≤255) (gs:g.src.size=4∨g.src.size=16) (gd:g.dst.size≤16) (gp:0≤g.proto∧g.proto≤255) :
  Cb 161 #[fwC f,fwC g,.string t,.string u] w (iV (checkI f g t u)):=by
 have HPl:Hid (∀ W,Cw 159 #[iV f.proto] W (iV (checkP f.proto:Nat))):=fun W=>ipPlace_any _ W
 have HWd:Hid (∀ W,Cw 134 #[.string t,iV (checkP f.proto:Nat)] W (iV (wordN (bt t) (checkP f.proto)))):=fun W=>wordFromS_any t _ W (checkP_lt h8 hp) (by unfold maxLen; omega)
 have HP1:Hid (∀ W,Cb 178 #[iV f.proto,.string t] W (.string (setPartV f.proto t))):=fun W=>ipSetPart_any _ t W h8 (by omega)
 have HP2:Hid (∀ W,Cb 178 #[iV g.proto,.string u] W (.string (setPartV g.proto u))):=fun W=>ipSetPart_any _ u W u8 (by omega)
 have HH1:Hid (∀ W,Cb 179 #[.string f.src,.string f.dst,iV f.proto,iV t.size] W (.string (pseudoV f.src f.dst f.proto t.size))):=fun W=>ipPseudo_any _ _ _ _ W fs fd fp ht
 have HH2:Hid (∀ W,Cb 179 #[.string g.src,.string g.dst,iV g.proto,iV u.size] W (.string (pseudoV g.src g.dst g.proto u.size))):=fun W=>ipPseudo_any _ _ _ _ W gs gd gp hu
 have s1:=setPartV_size f.proto h8;have s2:=setPartV_size g.proto u8;have s3:=pseudoV_size f.src f.dst f.proto t.size (by omega) fd;have s4:=pseudoV_size g.src g.dst g.proto u.size (by omega) gd;have rc:=wordN_range (bt_isByte t) (checkP f.proto);have HV:Hid (checkI f g t u=if turn1 (turn1 (wordN (bt t) (checkP f.proto)) (sumV (setPartV f.proto t)) (sumV (setPartV g.proto u))) (sumV (pseudoV f.src f.dst f.proto t.size)) (sumV (pseudoV g.src g.dst g.proto u.size))=0 then 65535 else turn1 (turn1 (wordN (bt t) (checkP f.proto)) (sumV (setPartV f.proto t)) (sumV (setPartV g.proto u))) (sumV (pseudoV f.src f.dst f.proto t.size)) (sumV (pseudoV g.src g.dst g.proto u.size))):=rfl;have HEa:Hid (∀ C R ks W,w.heap.size≤C→R≠C→(∀ e∈ks,e.1≠C)→Bxs w ((C,[iV (wordN (bt t) (checkP f.proto))])::(R,[.string (setPartV f.proto t),.string (setPartV g.proto u),.string (pseudoV f.src f.dst f.proto t.size),.string (pseudoV g.src g.dst g.proto u.size)])::ks) W→Calls Tryz.prog 176 #[.func (.func 177) #[.pointer (some ⟨C,0,none⟩)] #[],.slice (some ⟨R,0,none⟩) 2 2] W fun e w'=>e=.returned (.tuple #[])∧Bxs w ((C,[iV (turn1 (turn1 (wordN (bt t) (checkP f.proto)) (sumV (setPartV f.proto t)) (sumV (setPartV g.proto u))) (sumV (pseudoV f.src f.dst f.proto t.size)) (sumV (pseudoV g.src g.dst g.proto u.size)))])::(R,[.string (setPartV f.proto t),.string (setPartV g.proto u),.string (pseudoV f.src f.dst f.proto t.size),.string (pseudoV g.src g.dst g.proto u.size)])::ks) w'):=fun C R ks W h1 h2 h3 h4=>ipEach_any _ _ _ _ _ C R ks w W (by omega) (by omega) (by omega) (by omega) rc h1 h2 h3 h4
 generalize turn1 (turn1 (wordN (bt t) (checkP f.proto)) (sumV (setPartV f.proto t)) (sumV (setPartV g.proto u))) (sumV (pseudoV f.src f.dst f.proto t.size)) (sumV (pseudoV g.src g.dst g.proto u.size))=c2 at *;generalize checkI f g t u=ans at *;obtain ⟨c,hc⟩ : ∃ c,c=wordN (bt t) (checkP f.proto):=⟨_,rfl⟩;rw [← hc] at HWd HEa;generalize setPartV f.proto t=p1 at *;generalize setPartV g.proto u=p2 at *;generalize pseudoV f.src f.dst f.proto t.size=p3 at *;generalize pseudoV g.src g.dst g.proto u.size=p4 at *;generalize (checkP f.proto)=pl at *;clear hc rc fs fd fp gs gd gp s1 s2 s3 s4 hp;obtain ⟨proto,src,dst,sp,dp⟩:=f;obtain ⟨proto',src',dst',sp',dp'⟩:=g;unfold fwC;dsimp only at *;have HS0:=bx2 w (FlR proto src dst sp dp) 91 (FlR proto' src' dst' sp' dp') 91 (by simp) (by simp)
 skip;go_enter Tryz.func161,Tryz.ntmps161
 go_upto_region 1 with fail
 generalize ((aW w (FlR proto src dst sp dp) 91).alloc (.cells (FlR proto' src' dst' sp' dp').toArray 91))=W0 at *;have HHk:=HS0.out.at mE0;obtain ⟨k0,k1,k2,k3,k4⟩:=HHk.c5;clear HHk;have hw0:w.heap.size≤W0.heap.size:=HS0.out.b.size;have hf0:w.heap.size < W0.heap.size:=(HS0.out.k _ mE0).lt (by simp);have hg0:w.heap.size+1 < W0.heap.size:=(HS0.out.k _ mE1).lt (by simp);have HS1:Hid (Bxs w ((W0.heap.size,[iV c])::[(w.heap.size,(FlR proto src dst sp dp)),(w.heap.size+1,(FlR proto' src' dst' sp' dp'))]) (W0.alloc (.cells #[iV c] 209))):=HS0.out.push [iV c] (by simp) _;go_upto_region 2 with (first | (go_at_call 159; refine (HPl.out _).mono ?_; rintro e W0 ⟨rfl,rfl⟩) | (go_at_call 134; refine (HWd.out _).mono ?_; rintro e W0 ⟨rfl,rfl⟩))
 clear HS0 HPl HWd k0 k1 k2 k3 k4;generalize (W0.alloc (.cells #[iV c] 209))=W1 at *;generalize W0.heap.size=C at *;have hcl:C < W1.heap.size:=(HS1.out.k _ mE0).lt (by simp);go_cut [46] (fun v wx=>Bxs w [(C,[iV c2])] wx)
 case first =>
  rename_i J K2 hJ hK2;have HCP:Hid (∀ wy,Below W1.drew.heap.size W1.drew wy→_):=fun wy hy=>HS1.out.kept (bR.drew.trans hy)
  clear HS1 HV;refine wp_region_growV [16,17,18,19,20,21,22,23,24,25,26,27,28,29,30,31,32,33,34,35,36,37,38,39,40,41,42,43,44,45] (by kernel_rfl) (by kernel_rfl) ?_;apply GChV.v0
  ·rfl
  ·intro K' a wy ho hd hb hK kz;have o9:=ho 9 (by decide);simp [slot] at o9;clear hd ho;go_simp;try go_bits
   exact kz _ rfl
  apply GChV.v1
  ·rfl
  ·intro K' a wy ho hd hb hK kz;have o4:=ho 4 (by decide);simp [slot] at o4;clear hd ho;go_simp;try go_bits
   exact kz _ rfl
  apply GChV.v2
  ·rfl
  ·intro K' a wy ho hd hb hK kz;have q1:=hd ⟨1,.data⟩ (by simp) rfl;simp [rAt,IsV,slot] at q1;clear hd ho;have hst:=HCP.out wy hb;have HHk:=hst.at mE1;obtain ⟨k0,k1,k2⟩:=HHk.c3;clear HHk;have HHl:=hst.at mE2;obtain ⟨l0,l1,l2⟩:=HHl.c3;clear HHl;clear hst;go_simp;try go_bits
   exact kz _ rfl
  apply GChV.v3
  ·rfl
  ·intro K' a wy ho hd hb hK kz;have o2:=ho 2 (by decide);simp [slot] at o2;clear hd ho;go_simp;try go_bits
   exact kz _ rfl
  apply GChV.v4
  ·rfl
  ·intro K' a wy ho hd hb hK kz;have q2:=hd ⟨2,.data⟩ (by simp) rfl;have q3:=hd ⟨3,.data⟩ (by simp) rfl;simp [rAt,IsV,slot] at q2 q3;clear hd ho;go_simp;refine (HP1.out wy).mono ?_;rintro e wz ⟨rfl,hz⟩;exact hK _ _ rfl hz
  apply GChV.v5
  ·rfl
  ·intro K' a wy ho hd hb hK kz;have o5:=ho 5 (by decide);simp [slot] at o5;clear hd ho;go_simp;try go_bits
   exact kz _ rfl
  apply GChV.v6
  ·rfl
  ·intro K' a wy ho hd hb hK kz;have q5:=hd ⟨5,.data⟩ (by simp) rfl;simp [rAt,IsV,slot] at q5;clear hd ho;have hst:=HCP.out wy hb;have HHk:=hst.at mE1;obtain ⟨k0,k1,k2⟩:=HHk.c3;clear HHk;have HHl:=hst.at mE2;obtain ⟨l0,l1,l2⟩:=HHl.c3;clear HHl;clear hst;go_simp;try go_bits
   exact kz _ rfl
  apply GChV.v7
  ·rfl
  ·intro K' a wy ho hd hb hK kz;have o3:=ho 3 (by decide);simp [slot] at o3;clear hd ho;go_simp;try go_bits
   exact kz _ rfl
  apply GChV.v8
  ·rfl
  ·intro K' a wy ho hd hb hK kz;have q6:=hd ⟨6,.data⟩ (by simp) rfl;have q7:=hd ⟨7,.data⟩ (by simp) rfl;simp [rAt,IsV,slot] at q6 q7;clear hd ho;go_simp;refine (HP2.out wy).mono ?_;rintro e wz ⟨rfl,hz⟩;exact hK _ _ rfl hz
  apply GChV.v9
  ·rfl
  ·intro K' a wy ho hd hb hK kz;have q4:=hd ⟨4,.data⟩ (by simp) rfl;have q8:=hd ⟨8,.data⟩ (by simp) rfl;simp [rAt,IsV,slot] at q4 q8;clear hd ho;go_simp;try go_bits
   exact kz _ rfl
  apply GChV.v10
  ·rfl
  ·intro K' a wy ho hd hb hK kz;have o4:=ho 4 (by decide);simp [slot] at o4;clear hd ho;go_simp;try go_bits
   exact kz _ rfl
  apply GChV.v11
  ·rfl
  ·intro K' a wy ho hd hb hK kz;have q10:=hd ⟨10,.data⟩ (by simp) rfl;simp [rAt,IsV,slot] at q10;clear hd ho;have hst:=HCP.out wy hb;have HHk:=hst.at mE1;obtain ⟨k0,k1,k2⟩:=HHk.c3;clear HHk;have HHl:=hst.at mE2;obtain ⟨l0,l1,l2⟩:=HHl.c3;clear HHl;clear hst;go_simp;try go_bits
   exact kz _ rfl
  apply GChV.v12
  ·rfl
  ·intro K' a wy ho hd hb hK kz;have o4:=ho 4 (by decide);simp [slot] at o4;clear hd ho;go_simp;try go_bits
   exact kz _ rfl
  apply GChV.v13
  ·rfl
  ·intro K' a wy ho hd hb hK kz;have q12:=hd ⟨12,.data⟩ (by simp) rfl;simp [rAt,IsV,slot] at q12;clear hd ho;have hst:=HCP.out wy hb;have HHk:=hst.at mE1;obtain ⟨k0,k1,k2⟩:=HHk.c3;clear HHk;have HHl:=hst.at mE2;obtain ⟨l0,l1,l2⟩:=HHl.c3;clear HHl;clear hst;go_simp;try go_bits
   exact kz _ rfl
  apply GChV.v14
  ·rfl
  ·intro K' a wy ho hd hb hK kz;have o4:=ho 4 (by decide);simp [slot] at o4;clear hd ho;go_simp;try go_bits
   exact kz _ rfl
  apply GChV.v15
  ·rfl
  ·intro K' a wy ho hd hb hK kz;have q14:=hd ⟨14,.data⟩ (by simp) rfl;simp [rAt,IsV,slot] at q14;clear hd ho;have hst:=HCP.out wy hb;have HHk:=hst.at mE1;obtain ⟨k0,k1,k2⟩:=HHk.c3;clear HHk;have HHl:=hst.at mE2;obtain ⟨l0,l1,l2⟩:=HHl.c3;clear HHl;clear hst;go_simp;try go_bits
   exact kz _ rfl
  apply GChV.v16
  ·rfl
  ·intro K' a wy ho hd hb hK kz;have o2:=ho 2 (by decide);simp [slot] at o2;clear hd ho;go_simp;try go_bits
   exact kz _ rfl
  apply GChV.v17
  ·rfl
  ·intro K' a wy ho hd hb hK kz;have q16:=hd ⟨16,.data⟩ (by simp) rfl;simp [rAt,IsV,slot] at q16;clear hd ho;go_simp;try go_bits
   exact kz _ rfl
  apply GChV.v18
  ·rfl
  ·intro K' a wy ho hd hb hK kz;have q11:=hd ⟨11,.data⟩ (by simp) rfl;have q13:=hd ⟨13,.data⟩ (by simp) rfl;have q15:=hd ⟨15,.data⟩ (by simp) rfl;have q17:=hd ⟨17,.data⟩ (by simp) rfl;simp [rAt,IsV,slot] at q11 q13 q15 q17;clear hd ho;go_simp;refine (HH1.out wy).mono ?_;rintro e wz ⟨rfl,hz⟩;exact hK _ _ rfl hz
  apply GChV.v19
  ·rfl
  ·intro K' a wy ho hd hb hK kz;have o5:=ho 5 (by decide);simp [slot] at o5;clear hd ho;go_simp;try go_bits
   exact kz _ rfl
  apply GChV.v20
  ·rfl
  ·intro K' a wy ho hd hb hK kz;have q19:=hd ⟨19,.data⟩ (by simp) rfl;simp [rAt,IsV,slot] at q19;clear hd ho;have hst:=HCP.out wy hb;have HHk:=hst.at mE1;obtain ⟨k0,k1,k2⟩:=HHk.c3;clear HHk;have HHl:=hst.at mE2;obtain ⟨l0,l1,l2⟩:=HHl.c3;clear HHl;clear hst;go_simp;try go_bits
   exact kz _ rfl
  apply GChV.v21
  ·rfl
  ·intro K' a wy ho hd hb hK kz;have o5:=ho 5 (by decide);simp [slot] at o5;clear hd ho;go_simp;try go_bits
   exact kz _ rfl
  apply GChV.v22
  ·rfl
  ·intro K' a wy ho hd hb hK kz;have q21:=hd ⟨21,.data⟩ (by simp) rfl;simp [rAt,IsV,slot] at q21;clear hd ho;have hst:=HCP.out wy hb;have HHk:=hst.at mE1;obtain ⟨k0,k1,k2⟩:=HHk.c3;clear HHk;have HHl:=hst.at mE2;obtain ⟨l0,l1,l2⟩:=HHl.c3;clear HHl;clear hst;go_simp;try go_bits
   exact kz _ rfl
  apply GChV.v23
  ·rfl
  ·intro K' a wy ho hd hb hK kz;have o5:=ho 5 (by decide);simp [slot] at o5;clear hd ho;go_simp;try go_bits
   exact kz _ rfl
  apply GChV.v24
  ·rfl
  ·intro K' a wy ho hd hb hK kz;have q23:=hd ⟨23,.data⟩ (by simp) rfl;simp [rAt,IsV,slot] at q23;clear hd ho;have hst:=HCP.out wy hb;have HHk:=hst.at mE1;obtain ⟨k0,k1,k2⟩:=HHk.c3;clear HHk;have HHl:=hst.at mE2;obtain ⟨l0,l1,l2⟩:=HHl.c3;clear HHl;clear hst;go_simp;try go_bits
   exact kz _ rfl
  apply GChV.v25
  ·rfl
  ·intro K' a wy ho hd hb hK kz;have o3:=ho 3 (by decide);simp [slot] at o3;clear hd ho;go_simp;try go_bits
   exact kz _ rfl
  apply GChV.v26
  ·rfl
  ·intro K' a wy ho hd hb hK kz;have q25:=hd ⟨25,.data⟩ (by simp) rfl;simp [rAt,IsV,slot] at q25;clear hd ho;go_simp;try go_bits
   exact kz _ rfl
  apply GChV.v27
  ·rfl
  ·intro K' a wy ho hd hb hK kz;have q20:=hd ⟨20,.data⟩ (by simp) rfl;have q22:=hd ⟨22,.data⟩ (by simp) rfl;have q24:=hd ⟨24,.data⟩ (by simp) rfl;have q26:=hd ⟨26,.data⟩ (by simp) rfl;simp [rAt,IsV,slot] at q20 q22 q24 q26;clear hd ho;go_simp;refine (HH2.out wy).mono ?_;rintro e wz ⟨rfl,hz⟩;exact hK _ _ rfl hz
  apply GChV.v28
  ·rfl
  ·intro K' a wy ho hd hb hK kz;have q18:=hd ⟨18,.data⟩ (by simp) rfl;have q27:=hd ⟨27,.data⟩ (by simp) rfl;simp [rAt,IsV,slot] at q18 q27;clear hd ho;go_simp;try go_bits
   exact kz _ rfl
  refine GChV.rel (n:=29) (IsPr W1.drew.heap.size [.string p1,.string p2,.string p3,.string p4]) (stable_isPr _ _ (by simp)) [_,_,_,_,_,_,_,_,_,_,_,_,_,_,_,_,_,_,_,_,_,_,_,_,_,_,_,_,_,IsPr W1.drew.heap.size [.string p1,.string p2,.string p3,.string p4]] rfl rfl ?_ ?_
  ·intro K' a wy ho hd hb hK;rw [wN rfl];have q9:=hd ⟨9,.data⟩ (by simp) rfl;have q28:=hd ⟨28,.data⟩ (by simp) rfl;simp [rAt,IsV,slot] at q9 q28;clear hd ho;go_simp;exact hK _ _ ⟨wy.heap.size,rfl,hb.size,HoldsL.new wy [.string p1,.string p2,.string p3,.string p4] 214⟩ (bR.alloc (Nat.le_refl _) _)
  intro X wz hR hz;obtain ⟨x0,x1,x2,x3,x4,x5,x6,x7,x8,x9,x10,x11,x12,x13,x14,x15,x16,x17,x18,x19,x20,x21,x22,x23,x24,x25,x26,x27,x28,x29,-⟩:=hR;obtain ⟨R,e29,b29,h29⟩:=x29;simp only [IsV] at x0 x1 x2 x3 x4 x5 x6 x7 x8 x9 x10 x11 x12 x13 x14 x15 x16 x17 x18 x19 x20 x21 x22 x23 x24 x25 x26 x27 x28;simp only [putsFrom,x0,x1,x2,x3,x4,x5,x6,x7,x8,x9,x10,x11,x12,x13,x14,x15,x16,x17,x18,x19,x20,x21,x22,x23,x24,x25,x26,x27,x28,e29];clear x0 x1 x2 x3 x4 x5 x6 x7 x8 x9 x10 x11 x12 x13 x14 x15 x16 x17 x18 x19 x20 x21 x22 x23 x24 x25 x26 x27 x28;have hst:=HCP.out wz hz;have hRC:R≠C:=by
   have:C < W1.drew.heap.size:=hcl;omega
  have HB5:Hid (Bxs w ((C,[iV c])::(R,[.string p1,.string p2,.string p3,.string p4])::[(w.heap.size,(FlR proto src dst sp dp)),(w.heap.size+1,(FlR proto' src' dst' sp' dp'))]) wz):=(hst.tl.cons h29 (by simp)).cons (hst.k _ mE0) (by simp);have HKS:Hid (∀ e∈([(w.heap.size,(FlR proto src dst sp dp)),(w.heap.size+1,(FlR proto' src' dst' sp' dp'))]:List (Nat × List Value)),e.1≠C):=fun e he=>by
   simp only [List.mem_cons,List.not_mem_nil,or_false] at he;rcases he with rfl | rfl<;>(show _≠C; omega)
  clear hst h29 HCP HP1 HP2 HH1 HH2;intro K10 hK10;go_simp;refine (HEa.out C R _ wz hw0 hRC HKS.out HB5.out).mono ?_;rintro e w5 ⟨rfl,hb5⟩;have HF:Hid (Bxs w [(C,[iV c2])] w5):=⟨fun e he=>by
   rw [List.mem_singleton] at he;rw [he]; exact hb5.k _ mE0,hb5.b,fun e he=>by
   rw [List.mem_singleton] at he;rw [he]; simp⟩
  clear hb5 HB5 HKS HEa;refine hK10 _ _ ?_;show Exit.then _ _ _ _ _;refine hK2 _ _ (hJ _ _ ?_);(repeat apply Exists.intro)
  exact ⟨HF.out,rfl⟩
 case rest =>
 have S6:Hid (Bxs w [(C,[iV c2])] wc):=hcut;clear hcut HS1 HP1 HP2 HH1 HH2 HEa;generalize wc=W6 at *;have HH6:=S6.out.at mE0;have z0:=HH6.cell (j:=0) rfl;clear HH6;have HFB:Hid (Below w.heap.size w W6):=S6.out.b;clear S6;by_cases h0:c2=0
 case pos =>
  have d0:(c2==0)=true:=by simp [h0]
  have HX:Hid (ans=65535):=by unfold Hid; rw [HV.out,if_pos h0]
  clear h0 HV;go_wp2_with fail
  go_ret;exact ⟨ret_int (by rw [HX.out]),HFB.out⟩
 have d0:(c2==0)=false:=by simp [h0]
 have HX:Hid (ans=c2):=by unfold Hid; rw [HV.out,if_neg h0]
 clear h0 HV;go_wp2_with fail
 go_ret;exact ⟨ret_int (by rw [HX.out]),HFB.out⟩
open Go.Lib
theorem hold_of_bytes {W:World} {b:Nat} {t:ByteArray} (h:Holds W b t.size (bt t)):HoldsL W b (strCells t):=by
 refine ⟨fun j v hv=>?_,fun j hj=>?_⟩
 ·rw [Nat.zero_add];have hj:j < t.size:=by
   have:=(List.getElem?_eq_some_iff.1 hv).1;rwa [strCells_length] at this
  rw [strCells_at t j hj] at hv;injection hv with hv
  rw [← hv]; exact (h.get j hj).1
 ·rw [strCells_length] at hj;rw [Nat.zero_add];exact ⟨by rw [(h.get j hj).1]; rfl,(h.get j hj).2⟩
theorem hold_str {W:World} {b cap:Nat} {t:ByteArray} (h:HoldsL W b (strCells t)):(convert 137 9 (.slice (some ⟨b,0,none⟩) t.size cap)).run Tryz.prog W=.ok (.string t) W:=by
 have hh:Holds W b t.size (bt t):=⟨fun i hi=>⟨hold_bt h i hi,h.free (by rw [strCells_length]; exact hi)⟩⟩;have:=hh.conv (cap:=cap) (bt_isByte t)
 rw [bytesOf_self] at this;exact this
theorem put_split (t:ByteArray) (k n:Nat) (h:k+n≤t.size):t.extract 0 k++t.extract k (k+n)++t.extract (k+n) t.size=t:=by
 refine ba_ext ?_ (fun i hi=>?_)
 ·simp only [ByteArray.size_append,ByteArray.size_extract]; omega
 ·have s1:(t.extract 0 k).size=k:=by rw [ByteArray.size_extract]; omega
  have s2:(t.extract k (k+n)).size=n:=by rw [ByteArray.size_extract]; omega
  simp only [ByteArray.size_append,ByteArray.size_extract] at hi;rw [bt_append,bt_append,ByteArray.size_append,s1,s2];by_cases h1:i < k
  ·rw [if_pos (by omega),if_pos h1,bt_extract _ _ _ _ (by omega),if_pos (by omega),Nat.zero_add]
  ·by_cases h2:i < k+n
   ·rw [if_pos h2,if_neg h1,bt_extract _ _ _ _ (by omega),if_pos (by omega),show k+(i-k)=i by omega]
   ·rw [if_neg h2,bt_extract _ _ _ _ (Nat.le_refl _),if_pos (by omega),show k+n+(i-(k+n))=i by omega]
theorem lay_put {W:World} {b k:Nat} {t u:ByteArray} (h:HoldsL W b (strCells t)) (hk:k+u.size≤t.size):HoldsL (W.setCells b k (strCells u)) b (strCells (putV t k u)):=by
 rw [← put_split t k u.size hk] at h;exact lay_at h (by rw [ByteArray.size_extract]; omega) (by rw [ByteArray.size_extract]; omega)
theorem run_lay_more {P:Program} {w:World} {g o dCap base e g6:Nat} {t s:ByteArray} (dT sT ty elem:TypeId) (hu:P.underlying dT=some (.slice elem)) (hz:(P.info? elem).map (·.size)=some 1) (h:HoldsL w g (strCells t)) (ho:o+s.size≤t.size) {dLen sLen:Nat} (hd:s.size≤dLen) (hs:sLen=s.size) (hown:w.ownsRow base e 1 (.slice (some ⟨g6,0,none⟩) sLen sLen) sLen (strCells s)) :
  (Builtin.copy_ #[dT,sT] ty #[.slice (some ⟨g,o,none⟩) dLen dCap,.slice (some ⟨g6,0,none⟩) sLen sLen]).run P w=.ok (goInt s.size) (w.setCells g o (strCells s)):=by
 have hl:(strCells t).length=t.size:=strCells_length t;have:=run_copy_cells (P:=P) w dT sT ty elem g o dLen dCap ⟨g6,0,none⟩ sLen sLen (strCells s) hu hz (by rw [strCells_length,hs]; exact (Nat.min_eq_left hd).symm) (fun j v hj=>hown.cells (g:=g6) rfl j v hj) (fun j hj=>by rw [strCells_length] at hj; have:=(h.th (o+j) (by omega)).1; rwa [Nat.zero_add] at this) (fun j hj=>by rw [strCells_length] at hj; have:=(h.th (o+j) (by omega)).2; rwa [Nat.zero_add] at this) (strCells_oneCell _);rw [strCells_length] at this;exact this
theorem cells_one {x:Int} (h:0≤x∧x≤255):strCells (oneV x)=[.int .u8 x]:=by
 unfold strCells oneV;simp;omega
theorem lay_first {W:World} {b:Nat} {t:ByteArray} {x:Int} (h:HoldsL W b (strCells t)) (hx:0≤x∧x≤255) (ht:1≤t.size):HoldsL (W.setCell ⟨b,0,none⟩ (.int .u8 x)) b (strCells (putV t 0 (oneV x))):=by
 have e:strCells (putV t 0 (oneV x))=(strCells t).set 0 (.int .u8 x):=by
  have hs:=put_split t 0 1 (by omega);have h0:(strCells (t.extract 0 0))=[]:=by
   apply List.eq_nil_of_length_eq_zero;rw [strCells_length,ByteArray.size_extract]; omega
  have h1:(strCells (t.extract 0 (0+1))).length=1:=by rw [strCells_length,ByteArray.size_extract]; omega
  obtain ⟨y,hy⟩:=List.length_eq_one_iff.1 h1;have ht2:strCells t=y::strCells (t.extract (0+1) t.size):=by
   conv=>lhs; rw [← hs]
   rw [strCells_append,strCells_append,h0,hy]; rfl
  unfold putV;rw [strCells_append,strCells_append,h0,cells_one hx,ht2];rfl
 rw [e];exact h.set 0 _
theorem ask_byte (p:Int):0≤askP p∧askP p≤255:=by unfold askP; split<;>omega
theorem ans_byte (p:Int):0≤ansP p∧ansP p≤255:=by unfold ansP; split<;>omega
def LayRet (base:Nat) (n:Nat) (u:ByteArray) (e:Ending) (w':World):Prop:=∃ b cap,e=.returned (.slice (some ⟨b,0,none⟩) n cap)∧n≤cap∧base≤b∧HoldsL w' b (strCells u)
theorem ipLay_any (p:Int) (g:Fl) (t:ByteArray) (w:World) (h8:8≤t.size) (ht:t.size≤20000) (gw:(0≤g.sp∧g.sp≤65535)∧(0≤g.dp∧g.dp≤65535)) (hp:echoP g.proto=true→echoP p=true) :
  Calls Tryz.prog 158 #[iV p,fwC g,.string t] w fun e w'=>LayRet w.heap.size t.size (layV p g t) e w'∧Below w.heap.size w w':=by
 have HE:Hid (∀ W,Cw 101 #[iV g.proto] W (.bool (echoP g.proto))):=fun W=>implEcho_any _ W
 have HV:Hid (layV p g t=if echoP g.proto=true then putV (putV t 4 (twoV g.sp)) 0 (oneV (if bt t 0=askP p then askP g.proto else ansP g.proto)) else putV t 0 (twoV g.sp++twoV g.dp)):=rfl;have HE1:Hid (echoP p=true→∀ W,Cw 133 #[iV p] W (.tuple #[.int .u8 (askP p),.int .u8 (ansP p)])):=fun h W=>ipEchoBytes_any p W h
 have HE2:Hid (echoP g.proto=true→∀ W,Cw 133 #[iV g.proto] W (.tuple #[.int .u8 (askP g.proto),.int .u8 (ansP g.proto)])):=fun h W=>ipEchoBytes_any _ W h
 have ra:=ask_byte g.proto;have rn:=ans_byte g.proto;have z2:=twoV_size g.sp;have z4:(twoV g.sp++twoV g.dp).size=4:=by rw [ByteArray.size_append]; rfl
 have HL2:Hid ((layL [g.sp,g.dp]).map (Value.int .u8)=strCells (twoV g.sp++twoV g.dp)):=by unfold Hid; rw [strCells_append,strCells_two _ gw.1.1 gw.1.2,strCells_two _ gw.2.1 gw.2.2]; rfl
 have HL1:Hid ((layL [g.sp]).map (Value.int .u8)=strCells (twoV g.sp)):=by unfold Hid; rw [strCells_two _ gw.1.1 gw.1.2]; rfl
 have hinfo:(Tryz.prog.info? 5).map (·.size)=some 1:=by
  obtain ⟨i0,hi,hz0,hz1,hz2⟩:=info_parts Tryz.info5;rw [hi]; simp [hz1]
 generalize layV p g t=ans at *;obtain ⟨proto,src,dst,sp,dp⟩:=g;unfold fwC;dsimp only at *;have HS0:=bx1 w (FlR proto src dst sp dp) 91 (by simp)
 skip;obtain ⟨cp,W1,hcv,hh,hb1,hcap⟩:=bytes_new (w.alloc (.cells (FlR proto src dst sp dp).toArray 91)) t;rw [show (w.alloc (.cells (FlR proto src dst sp dp).toArray 91)).heap.size=w.heap.size+1 by simp] at hcv hh;have HT1:Hid (HoldsL W1 (w.heap.size+1) (strCells t)):=hold_of_bytes hh;have HS1:Hid _:=HS0.out.kept hb1;clear hh hb1 HS0;go_enter Tryz.func158,Tryz.ntmps158
 go_upto_region 2 with fail
 clear hcv;have HHk:=HS1.out.at mE0;obtain ⟨k0,k1,k2,k3,k4⟩:=HHk.c5;clear HHk;have hlw:w.heap.size+1 < W1.heap.size:=HT1.out.lt (by rw [strCells_length]; omega);go_wp2_with fail
 refine (HE.out _).mono ?_;rintro e W1 ⟨rfl,rfl⟩
 cases hec:echoP proto with
 | false =>
  have HX:Hid (ans=putV t 0 (twoV sp++twoV dp)):=by unfold Hid; rw [HV.out,hec]; rfl
  clear HV HE1 HE2 HL1;have HL:Hid (Calls Tryz.prog 160 #[.slice (some ⟨W1.heap.size,0,none⟩) 2 2] (W1.alloc (.cells #[iV sp,iV dp] 2)) fun e w'=>e=.returned (.slice (some ⟨W1.heap.size+1,0,none⟩) 4 4)∧w'.ownsRow (W1.heap.size+1) 5 1 (.slice (some ⟨W1.heap.size+1,0,none⟩) 4 4) 4 (strCells (twoV sp++twoV dp))∧Below W1.heap.size W1 w'):=by
   refine (layWords_any [sp,dp] W1.heap.size 2 2 (W1.alloc (.cells #[iV sp,iV dp] 2)) (by omega) (by simp) rfl (getD_word _ (by simp only [List.forall_mem_cons,List.not_mem_nil,false_imp_iff,implies_true,and_true]; omega)) (by intro k hk; match k,hk with
   | 0,_=>simp
   | 1,_=>simp)).mono ?_
   rintro e w' ⟨rfl,hown,hB⟩;rw [show (W1.alloc (.cells #[iV sp,iV dp] 2)).heap.size=W1.heap.size+1 by simp] at hown hB ⊢;rw [HL2.out] at hown;exact ⟨rfl,hown,(bR.alloc (Nat.le_refl _) _).trans (hB.mono (by omega))⟩
  clear HL2;go_wp2_with fail
  refine HL.out.mono ?_;rintro e w3 ⟨rfl,hown,q3⟩;have hT3:HoldsL w3 (w.heap.size+1) (strCells t):=HT1.out.kept (by rw [strCells_length]; omega) q3;have hrun:=run_lay_more (P:=Tryz.prog) (dCap:=cp) 137 137 3 5 Tryz.underlying137 hinfo hT3 (o:=0) (by omega) (dLen:=t.size) (by omega) z4.symm hown;rw [z4] at hrun;have HF:Hid (HoldsL (w3.setCells (w.heap.size+1) 0 (strCells (twoV sp++twoV dp))) (w.heap.size+1) (strCells ans)):=by unfold Hid; rw [HX.out]; exact lay_put hT3 (by omega)
  have HB:Hid (Below w.heap.size w (w3.setCells (w.heap.size+1) 0 (strCells (twoV sp++twoV dp)))):=below_setCells ((HS1.out.kept q3).b) (by omega) _ _;clear hT3 hown q3 HT1 HS1 HL HX k0 k1 k2 k3 k4;go_wp2_with fail
  go_ret;exact ⟨⟨_,_,rfl,hcap,by omega,HF.out⟩,HB.out⟩
 | true =>
  have hep:=hp hec;have HX:Hid (ans=putV (putV t 4 (twoV sp)) 0 (oneV (if bt t 0=askP p then askP proto else ansP proto))):=by unfold Hid; rw [HV.out,hec]; rfl
  replace HE1:Hid _:=HE1.out hep;replace HE2:Hid _:=HE2.out hec;clear HV HL2 hep hec hp HE;go_upto_region 5 with fail
  clear k0 k1 k2 k3 k4;have n4:¬ (t.size:Int) < 4:=by omega
  have c4:¬ (cp:Int) < 4:=by omega
  have n5:(4:Int)≤t.size:=by omega
  have c44:¬ cp=4:=by omega
  go_cut [33] (fun v wx=>HoldsL wx (w.heap.size+1) (strCells (putV t 4 (twoV sp)))∧Bxs w [(w.heap.size,(FlR proto src dst sp dp))] wx)
  case first =>
   rename_i J K2 hJ hK2;have HCP:Hid (∀ wy,Below W1.drew.heap.size W1.drew wy→_):=fun wy hy=>HS1.out.kept (bR.drew.trans hy)
   have HGP:Hid (∀ wy,Below W1.drew.heap.size W1.drew wy→HoldsL wy (w.heap.size+1) (strCells t)):=fun wy hy=>HT1.out.kept (by rw [strCells_length]; omega) (bR.drew.trans hy)
   have hlw2:w.heap.size≤W1.drew.heap.size:=by show w.heap.size≤W1.heap.size; omega
   clear HT1 HS1 HX HE1 HE2;refine wp_region_growV [27,28,29,30,31,32] (by kernel_rfl) (by kernel_rfl) ?_;apply GChV.v0
   ·rfl
   ·intro K' a wy ho hd hb hK kz;have o7:=ho 7 (by decide);simp [slot] at o7;clear hd ho;go_simp;try go_bits
    exact kz _ rfl
   apply GChV.v1
   ·rfl
   ·intro K' a wy ho hd hb hK kz;have q0:=hd ⟨0,.data⟩ (by simp) rfl;simp [rAt,IsV,slot] at q0;clear hd ho;go_simp;try go_bits
    exact kz _ rfl
   apply GChV.v2
   ·rfl
   ·intro K' a wy ho hd hb hK kz;have o4:=ho 4 (by decide);simp [slot] at o4;clear hd ho;go_simp;try go_bits
    exact kz _ rfl
   apply GChV.v3
   ·rfl
   ·intro K' a wy ho hd hb hK kz;have q2:=hd ⟨2,.data⟩ (by simp) rfl;simp [rAt,IsV,slot] at q2;clear hd ho;have hst:=HCP.out wy hb;have HHk:=hst.at mE0;have k3:=HHk.cell (j:=3) rfl;clear HHk;clear hst;go_simp;try go_bits
    exact kz _ rfl
   refine GChV.rel (n:=4) (IsWords [sp]) (stable_isWords _) [_,_,_,_,IsWords [sp]] rfl rfl ?_ ?_
   ·intro K' a wy ho hd hb hK;rw [wN rfl];have q3:=hd ⟨3,.data⟩ (by simp) rfl;simp [rAt,IsV,slot] at q3;clear hd ho;go_simp;exact hK _ _ ⟨wy.heap.size,rfl,by simp,fun k hk=>by
     simp only [List.length_cons,List.length_nil] at hk;match k,hk with
     | 0,_=>simp⟩ (bR.alloc (Nat.le_refl _) _)
   refine GChV.rel (n:=5) (IsOwn w.heap.size 5 2 (strCells (twoV sp))) (stable_isOwn _ _ _ _) [_,_,_,_,_,IsOwn w.heap.size 5 2 (strCells (twoV sp))] rfl rfl ?_ ?_
   ·intro K' a wy ho hd hb hK;rw [wN rfl];have hr:IsWords [sp] (slot a 31) wy:=hd ⟨4,.data⟩ (by simp) rfl;obtain ⟨b4,e1,e2,e3⟩:=hr;simp [slot] at e1;clear hd ho;go_simp;refine (layWords_any [sp] b4 1 1 wy (by decide) e2 rfl (getD_word _ (by simp only [List.forall_mem_cons,List.not_mem_nil,false_imp_iff,implies_true,and_true]; omega)) e3).mono ?_;rintro e wz ⟨rfl,hown,hz⟩;exact hK _ _ ⟨_,rfl,owns_base (by rw [← HL1.out]; exact hown) (Nat.le_trans hlw2 hb.size)⟩ hz
   intro X wz hR hz;obtain ⟨x0,x1,x2,x3,x4,x5,-⟩:=hR;obtain ⟨b4,e4,-,-⟩:=x4;obtain ⟨g5,e5,own5⟩:=x5;simp only [IsV] at x0 x1 x2 x3;simp only [putsFrom,x0,x1,x2,x3,e4,e5];clear x0 x1 x2 x3;rw [e5] at own5;have hgz:=HGP.out wz hz;have hrun:=run_lay_more (P:=Tryz.prog) (dCap:=cp-4) 137 137 3 5 Tryz.underlying137 hinfo hgz (o:=4) (by omega) (dLen:=t.size-4) (by omega) z2.symm own5;rw [z2] at hrun;have HN2:Hid (HoldsL (wz.setCells (w.heap.size+1) 4 (strCells (twoV sp))) (w.heap.size+1) (strCells (putV t 4 (twoV sp)))):=lay_put hgz (by omega);have HB2:Hid (Bxs w [(w.heap.size,(FlR proto src dst sp dp))] (wz.setCells (w.heap.size+1) 4 (strCells (twoV sp)))):=(HCP.out wz hz).cells (fun e he=>by
    rw [List.mem_singleton] at he;rw [he]; show w.heap.size≠w.heap.size+1; omega) (by omega)
   clear hgz own5 hz HCP HGP;intro K10 hK10;go_simp;refine hK10 _ _ ?_;show Exit.then _ _ _ _ _;refine hK2 _ _ (hJ _ _ ?_);(repeat apply Exists.intro)
   exact ⟨⟨HN2.out,HB2.out⟩,rfl⟩
  case rest =>
  obtain ⟨hG,hS⟩:=hcut;have G2:Hid _:=hG;have S2:Hid (Bxs w [(w.heap.size,(FlR proto src dst sp dp))] wc):=hS;clear hG hS HT1 HS1 HL1;generalize wc=W2 at *;have hz2:=putV_size (t:=t) (u:=twoV sp) (k:=4) (by omega);have c0:=hold_bt G2.out 0 (by omega);have f0:W2.frozen? ⟨w.heap.size+1,0,none⟩=false:=G2.out.free (by rw [strCells_length]; omega);have e0:bt (putV t 4 (twoV sp)) 0=bt t 0:=by rw [bt_put (by omega),if_pos (by omega)]
  rw [e0] at c0;clear e0;have HHk:=S2.out.at mE0;obtain ⟨k0,k1,k2,k3,k4⟩:=HHk.c5;clear HHk;go_wp2_with fail
  refine (HE1.out _).mono ?_;rintro e W2 ⟨rfl,rfl⟩;go_wp2_with fail
  refine (HE2.out _).mono ?_;rintro e W2 ⟨rfl,rfl⟩;by_cases ha:bt t 0=askP p
  case pos =>
   have d0:(bt t 0==askP p)=true:=by simp [ha]
   have HF:Hid (HoldsL (W2.setCell ⟨w.heap.size+1,0,none⟩ (.int .u8 (askP proto))) (w.heap.size+1) (strCells ans)):=by unfold Hid; rw [HX.out,if_pos ha]; exact lay_first G2.out ra (by omega)
   have HB:Hid (Below w.heap.size w (W2.setCell ⟨w.heap.size+1,0,none⟩ (.int .u8 (askP proto)))):=S2.out.b.setCell (p:=⟨w.heap.size+1,0,none⟩) (by show w.heap.size≤w.heap.size+1; omega) _;clear ha HX G2 S2 HE1 HE2;generalize bt t 0=b0 at *;generalize askP p=ap at *;generalize askP proto=ag at *;generalize ansP proto=ng at *;generalize ansP p=np at *;go_wp2_with fail
   go_ret;exact ⟨⟨_,_,rfl,hcap,by omega,HF.out⟩,HB.out⟩
  case neg =>
   have d0:(bt t 0==askP p)=false:=by simp [ha]
   have HF:Hid (HoldsL (W2.setCell ⟨w.heap.size+1,0,none⟩ (.int .u8 (ansP proto))) (w.heap.size+1) (strCells ans)):=by unfold Hid; rw [HX.out,if_neg ha]; exact lay_first G2.out rn (by omega)
   have HB:Hid (Below w.heap.size w (W2.setCell ⟨w.heap.size+1,0,none⟩ (.int .u8 (ansP proto)))):=S2.out.b.setCell (p:=⟨w.heap.size+1,0,none⟩) (by show w.heap.size≤w.heap.size+1; omega) _;clear ha HX G2 S2 HE1 HE2;generalize bt t 0=b0 at *;generalize askP p=ap at *;generalize askP proto=ag at *;generalize ansP proto=ng at *;generalize ansP p=np at *;go_wp2_with fail
   go_ret;exact ⟨⟨_,_,rfl,hcap,by omega,HF.out⟩,HB.out⟩
theorem eqFO_run (q p:Fl) (a b:Int) (W:World):(Op.equalIn 10000 109 (.agg #[iV q.proto,.string q.src,.string q.dst,iV q.sp,iV q.dp,iV a]) (.agg #[iV p.proto,.string p.src,.string p.dst,iV p.sp,iV p.dp,iV b])).run Tryz.prog W=.ok (sameFlow q p&&(a==b)) W:=by
 have h1:Tryz.prog.underlying 109=some (.struct (Tryz.prog.fieldsOf 109)):=by kernel_rfl
 have h2:Tryz.prog.stoodInHeld 109=false:=by kernel_rfl
 rw [run_equalIn_agg _ _ _ _ _ h1 h2];have h3:(Tryz.prog.fieldsOf 109).toList.length=2:=by kernel_rfl
 have h4 : ((Tryz.prog.fieldsOf 109).toList.map fun f => (f.type, f.offset, f.name == "_")) = [(91, 0, false), (2, 5, false)] := by kernel_rfl
 have hq:=eqFlow_run 9997 q p;generalize (Tryz.prog.fieldsOf 109).toList=fs at *;match fs,h3 with
 | [f,g],_ =>
  simp at h4;obtain ⟨⟨a1,a2,a3⟩,b1,b2,b3⟩:=h4;have p0:∀ W,(part 91 #[iV q.proto,.string q.src,.string q.dst,iV q.sp,iV q.dp,iV a] 0).run Tryz.prog W=.ok (.agg (FlV q).toArray) W:=fun W=>by kernel_rfl
  have p1:∀ W,(part 91 #[iV p.proto,.string p.src,.string p.dst,iV p.sp,iV p.dp,iV b] 0).run Tryz.prog W=.ok (.agg (FlV p).toArray) W:=fun W=>by kernel_rfl
  have p2:∀ W,(part 2 #[iV q.proto,.string q.src,.string q.dst,iV q.sp,iV q.dp,iV a] 5).run Tryz.prog W=.ok (iV a) W:=fun W=>by kernel_rfl
  have p3:∀ W,(part 2 #[iV p.proto,.string p.src,.string p.dst,iV p.sp,iV p.dp,iV b] 5).run Tryz.prog W=.ok (iV b) W:=fun W=>by kernel_rfl
  generalize sameFlow q p=sf at *;by_cases hab:a=b
  ·subst hab
   cases sf<;>simp [Op.eqFields,a1,a2,a3,b1,b2,b3,p0,p1,p2,p3,hq,run_equalIn_int _ _ _ _ _ _ _ Tryz.underlying2]
  ·have hab2:(a==b)=false:=by simp [hab]
   cases sf<;>simp [Op.eqFields,a1,a2,a3,b1,b2,b3,p0,p1,p2,p3,hq,hab,hab2,run_equalIn_int _ _ _ _ _ _ _ Tryz.underlying2]
theorem neFO_bin (q p:Fl) (a b:Int) (W:World):(binOp .neq 109 (.agg #[iV q.proto,.string q.src,.string q.dst,iV q.sp,iV q.dp,iV a]) (.agg #[iV p.proto,.string p.src,.string p.dst,iV p.sp,iV p.dp,iV b])).run Tryz.prog W=.ok (.bool (!(sameFlow q p&&(a==b)))) W:=by
 rw [run_neq_struct,eqFO_run]; rfl
theorem implCarrySet_any (f g:Fl) (t:ByteArray) (w:World) (f1:f.src.size≤1048576) (f2:f.dst.size≤1048576) (g1:g.src.size≤1048576) (g2:g.dst.size≤1048576) (ht:t.size≤1048576) (hk:¬ (f.src.size=16∧g.src.size=16)) :
  Cb 115 #[fwC f,fwC g,.string t] w (dtCO (setData f g t) (setCode f g t)):=by
 have HLG:Hid (∀ W,Cw 97 #[.string t] W (.bool (decide (20000 < t.size)))):=fun W=>implLong_any t W
 have HFO:Hid (∀ W,Cb 60 #[.string f.src,.string f.dst,iV f.proto,.string t] W (fwCO (flowOfV f.src f.dst f.proto t) (flowCode f.src f.dst f.proto t))):=fun W=>implFlowOf_any _ _ _ _ W f1 f2 ht
 have HFR:Hid (∀ W,Cb 155 #[fwC g] W (.bool (flowOk g))):=fun W=>implFlowRight_any g W g1 g2
 have HLK:Hid (∀ W,Cb 156 #[iV f.proto,iV g.proto] W (.bool (decide (f.proto=g.proto)||(echoP f.proto&&echoP g.proto)))):=fun W=>(ipLike_any _ _ W).mono fun e w' h=>⟨h.1,by rw [h.2]; exact Below.refl _ _⟩
 have HSI:Hid (t.size≤20000→setIn f g t=((sameFlow (flowOfV f.src f.dst f.proto t) f&&(flowCode f.src f.dst f.proto t==0))&&(flowOk g&&(decide (f.proto=g.proto)||(echoP f.proto&&echoP g.proto))))):=fun h=>by rw [setIn_prog h,Bool.and_comm (sameFlow _ _)]; rfl
 have HNE:Hid (∀ W,(binOp .neq 109 (fwCO (flowOfV f.src f.dst f.proto t) (flowCode f.src f.dst f.proto t)) (fwCO f 0)).run Tryz.prog W=.ok (.bool (!(sameFlow (flowOfV f.src f.dst f.proto t) f&&(flowCode f.src f.dst f.proto t==0)))) W):=fun W=>neFO_bin _ _ _ _ W
 have HC2:Hid (20000 < t.size→dtCO (setData f g t) (setCode f g t)=dtCO ⟨#[]⟩ 2):=fun h=>by
  have hc:setCode f g t=2:=by unfold setCode; rw [if_pos h]
  unfold setData; rw [hc,if_neg (by decide)]
 have HC1:Hid (t.size≤20000→setIn f g t=false→dtCO (setData f g t) (setCode f g t)=dtCO ⟨#[]⟩ 1):=fun h h2=>by
  have hc:setCode f g t=1:=by unfold setCode; rw [if_neg (by omega),if_pos h2]
  unfold setData; rw [hc,if_neg (by decide)]
 have hq:setIn f g t=true→(f.src.size=4∨f.src.size=16)∧f.dst.size≤16∧(0≤f.proto∧f.proto≤255)∧(g.src.size=4∨g.src.size=16)∧g.dst.size≤16∧(0≤g.proto∧g.proto≤255)∧8≤t.size∧(f.proto=6→20≤t.size)∧((0≤g.sp∧g.sp≤65535)∧(0≤g.dp∧g.dp≤65535))∧(echoP g.proto=true→echoP f.proto=true):=fun h=>by
  obtain ⟨h1,h2,h3,h4⟩:=setIn_parts h;obtain ⟨a1,a2,a3⟩:=flowOk_parts h1;obtain ⟨b1,b2,b3⟩:=flowOk_parts h2;have p1:pairOk f.src f.dst=true:=by unfold flowOk at h1; simp only [Bool.and_eq_true] at h1; exact h1.1.1.1.1
  have p2:pairOk g.src g.dst=true:=by unfold flowOk at h2; simp only [Bool.and_eq_true] at h2; exact h2.1.1.1.1
  have o:=ofCode_size h4;refine ⟨(pairOk_parts p1).1,a1.2,a2,(pairOk_parts p2).1,b1.2,b2,o.1,o.2,b3,fun hg=>?_⟩;rcases h3 with h3 | h3
  ·rw [h3]; exact hg
  ·exact h3.1
 have HC5:Hid (t.size≤20000→setIn f g t=true→lacksV f t=true→g.src.size=16→dtCO (setData f g t) (setCode f g t)=dtCO ⟨#[]⟩ 5):=fun h h2 h3 h4=>by
  have hb:bareUdp f t=true:=by
   rw [bare_lacks,h3];rcases (hq h2).1 with h5 | h5
   ·simp [h5]
   ·exact absurd ⟨h5,h4⟩ hk
  have hc:setCode f g t=5:=by unfold setCode; rw [if_neg (by omega),if_neg (by rw [h2]; simp),if_pos ⟨hb,h4⟩]
  unfold setData; rw [hc,if_neg (by decide)]
 have HC0:Hid (t.size≤20000→setIn f g t=true→¬ (lacksV f t=true∧g.src.size=16)→dtCO (setData f g t) (setCode f g t)=if (!lacksV f t||decide (f.src.size=16))=true then dtCO (putV (setOut f g t) (checkP f.proto) (twoV (newCheck f g t))) 0 else dtCO (setOut f g t) 0):=fun h h2 h3=>by
  have hc:setCode f g t=0:=by
   unfold setCode; rw [if_neg (by omega),if_neg (by rw [h2]; simp),if_neg];rintro ⟨h5,h6⟩;rw [bare_lacks,Bool.and_eq_true] at h5;exact h3 ⟨h5.1,h6⟩
  unfold setData; rw [hc,if_pos rfl,bare_lacks];have hs:=(hq h2).1;by_cases hl:lacksV f t=true
  ·rcases hs with hs | hs
   ·simp [hl,hs]
   ·simp [hl,hs]
  ·simp [hl]
 have HLA:Hid (setIn f g t=true→∀ W,Cw 157 #[iV f.proto,.string t] W (.bool (lacksV f t))):=fun h W=>ipLacks_any _ t W (hq h).2.2.2.2.2.2.1 ht
 have HLY:Hid (t.size≤20000→setIn f g t=true→∀ W,Calls Tryz.prog 158 #[iV f.proto,fwC g,.string t] W fun e w'=>LayRet W.heap.size t.size (setOut f g t) e w'∧Below W.heap.size W w'):=fun h h2 W=>by
  obtain ⟨q1,q2,q3,q4,q5,q6,q7,q8,q9,q10⟩:=hq h2;rw [← lay_set h2];exact ipLay_any f.proto g t W q7 h q9 q10
 have HCK:Hid (t.size≤20000→setIn f g t=true→∀ W,Cb 161 #[fwC f,fwC g,.string t,.string (setOut f g t)] W (iV (newCheck f g t))):=fun h h2 W=>by
  obtain ⟨q1,q2,q3,q4,q5,q6,q7,q8,q9,q10⟩:=hq h2;have hs:=setOut_size (f:=f) (g:=g) q7;rw [← checkI_eq f g t q7 (by omega)];exact ipCheck_any f g t (setOut f g t) W q7 (by omega) q8 (by omega) (by omega) q1 q2 q3 q4 q5 q6
 have HPL:Hid (∀ W,Cb 159 #[iV f.proto] W (iV (checkP f.proto:Nat))):=fun W=>(ipPlace_any _ W).mono fun e w' h=>⟨h.1,by rw [h.2]; exact Below.refl _ _⟩
 have HSZ:Hid (setIn f g t=true→(setOut f g t).size=t.size∧8≤t.size∧checkP f.proto+2≤t.size):=fun h=>by
  obtain ⟨q1,q2,q3,q4,q5,q6,q7,q8,q9,q10⟩:=hq h;refine ⟨setOut_size q7,q7,?_⟩;unfold checkP;split
  ·rename_i h6; have:=q8 h6; omega
  ·split<;>omega
 have rnc:=newCheck_range f g t;have z2:=twoV_size (newCheck f g t);have HL1:Hid ((layL [newCheck f g t]).map (Value.int .u8)=strCells (twoV (newCheck f g t))):=by unfold Hid; rw [strCells_two _ rnc.1 rnc.2]; rfl
 have hinfo:(Tryz.prog.info? 5).map (·.size)=some 1:=by
  obtain ⟨i0,hi,hz0,hz1,hz2⟩:=info_parts Tryz.info5;rw [hi]; simp [hz1]
 generalize dtCO (setData f g t) (setCode f g t)=ans at *;generalize (sameFlow (flowOfV f.src f.dst f.proto t) f&&(flowCode f.src f.dst f.proto t==0))=sf at *;generalize (decide (f.proto=g.proto)||(echoP f.proto&&echoP g.proto))=lk at *;generalize flowOk g=fg at *;generalize setIn f g t=si at *;generalize lacksV f t=lc at *;generalize checkP f.proto=pl at *;generalize newCheck f g t=nc at *;generalize setOut f g t=uu at *;generalize flowOfV f.src f.dst f.proto t=ff at *;generalize flowCode f.src f.dst f.proto t=fc at *;clear hq;obtain ⟨proto,src,dst,sp,dp⟩:=f;obtain ⟨proto',src',dst',sp',dp'⟩:=g;unfold fwCO at HFO HNE;unfold fwC at *;dsimp only at *;have HS0:=bx3 w (FlR proto src dst sp dp) 91 (FlR proto' src' dst' sp' dp') 91 [.string ⟨#[]⟩,iV 0] 99 (by simp) (by simp) (by simp)
 skip;have hRw:w.heap.size≤w.heap.size+1+1:=by omega
 go_enter Tryz.func115,Tryz.ntmps115
 go_upto_region 1 with fail
 generalize ((aW (aW w (FlR proto src dst sp dp) 91) (FlR proto' src' dst' sp' dp') 91).alloc (.cells #[.string ⟨#[]⟩,iV 0] 99))=W0 at *;go_wp2_with fail
 refine (HLG.out _).mono ?_;rintro e W0 ⟨rfl,rfl⟩;by_cases hlen:20000 < t.size
 case pos =>
  have dl:decide (20000 < t.size)=true:=decide_eq_true hlen;rw [dl];have HX:Hid (ans=dtCO ⟨#[]⟩ 2):=HC2.out hlen;have HHz:=HS0.out.at mE2;obtain ⟨z0,z1⟩:=HHz.c2;obtain ⟨zf0,zf1⟩:=HHz.f2;have HRR:Hid (HoldsL ((sW W0 (w.heap.size+1+1) 0 (.string ⟨#[]⟩)).setCell ⟨w.heap.size+1+1,1,none⟩ (iV 2)) (w.heap.size+1+1) [.string ⟨#[]⟩,iV 2]):=((HHz.set 0 (.string ⟨#[]⟩)).set 1 (iV 2));have RB:Hid _:=((HS0.out.b.setCell (p:=⟨w.heap.size+1+1,0,none⟩) hRw (.string ⟨#[]⟩)).setCell (p:=⟨w.heap.size+1+1,1,none⟩) hRw (iV 2));clear HHz;clear HC2 HC1 HC5 HC0;go_wp2_with fail
  exact bodyPost_ret (results_mid Tryz.results115 _ _ (w.heap.size+1+1) [.string ⟨#[]⟩,iV 2] _ rfl HRR.out Tryz.underlying99 rfl (show (Tryz.prog.info? 99).map (·.size)=some 2 by kernel_rfl)) rfl (And.intro (by rw [HX.out]; rfl) RB.out)
 have dl:decide (20000 < t.size)=false:=decide_eq_false hlen;rw [dl];have hle:t.size≤20000:=by omega
 replace HSI:Hid _:=HSI.out hle;replace HC1:Hid _:=HC1.out hle;replace HC5:Hid _:=HC5.out hle;replace HC0:Hid _:=HC0.out hle;replace HLY:Hid _:=HLY.out hle;replace HCK:Hid _:=HCK.out hle;clear HC2 HLG dl hlen;go_upto_region 3 with fail
 go_cut [35] (fun v wx=>v=.bool (!si)∧Bxs w [(w.heap.size,(FlR proto src dst sp dp)),(w.heap.size+1,(FlR proto' src' dst' sp' dp')),(w.heap.size+1+1,[.string ⟨#[]⟩,iV 0])] wx)
 case first =>
  rename_i J K2 hJ hK2;have HCP:Hid (∀ wy,Below W0.drew.heap.size W0.drew wy→_):=fun wy hy=>HS0.out.kept (bR.drew.trans hy)
  clear HC1 HC5 HC0 HLA HLY HCK HPL HSZ HL1
  cases sf with
  | false =>
   refine wp_region_growH [12,13,14,15,16,17,18,19,20,21,22,23,24,25,26,27,28,29,30,31,32,33,34,35] (by kernel_rfl) (by kernel_rfl) ?_;apply GCh.v0
   ·rfl
   ·intro K' a wy ho hd hb hK kz;have o3:=ho 3 (by decide);simp [slot] at o3;clear hd ho;go_simp;try go_bits
    exact kz _ rfl
   apply GCh.v1
   ·rfl
   ·intro K' a wy ho hd hb hK kz;have q0:=hd ⟨0,.data⟩ (by simp) rfl;simp [rAt,IsV,slot] at q0;clear hd ho;have hst:=HCP.out wy hb;have HHk:=hst.at mE0;obtain ⟨k0,k1,k2,k3,k4⟩:=HHk.c5;clear HHk;have HHl:=hst.at mE1;obtain ⟨l0,l1,l2,l3,l4⟩:=HHl.c5;clear HHl;clear hst;go_simp;try go_bits
    exact kz _ rfl
   apply GCh.v2
   ·rfl
   ·intro K' a wy ho hd hb hK kz;have o3:=ho 3 (by decide);simp [slot] at o3;clear hd ho;go_simp;try go_bits
    exact kz _ rfl
   apply GCh.v3
   ·rfl
   ·intro K' a wy ho hd hb hK kz;have q2:=hd ⟨2,.data⟩ (by simp) rfl;simp [rAt,IsV,slot] at q2;clear hd ho;have hst:=HCP.out wy hb;have HHk:=hst.at mE0;obtain ⟨k0,k1,k2,k3,k4⟩:=HHk.c5;clear HHk;have HHl:=hst.at mE1;obtain ⟨l0,l1,l2,l3,l4⟩:=HHl.c5;clear HHl;clear hst;go_simp;try go_bits
    exact kz _ rfl
   apply GCh.v4
   ·rfl
   ·intro K' a wy ho hd hb hK kz;have o3:=ho 3 (by decide);simp [slot] at o3;clear hd ho;go_simp;try go_bits
    exact kz _ rfl
   apply GCh.v5
   ·rfl
   ·intro K' a wy ho hd hb hK kz;have q4:=hd ⟨4,.data⟩ (by simp) rfl;simp [rAt,IsV,slot] at q4;clear hd ho;have hst:=HCP.out wy hb;have HHk:=hst.at mE0;obtain ⟨k0,k1,k2,k3,k4⟩:=HHk.c5;clear HHk;have HHl:=hst.at mE1;obtain ⟨l0,l1,l2,l3,l4⟩:=HHl.c5;clear HHl;clear hst;go_simp;try go_bits
    exact kz _ rfl
   apply GCh.v6
   ·rfl
   ·intro K' a wy ho hd hb hK kz;have o2:=ho 2 (by decide);simp [slot] at o2;clear hd ho;go_simp;try go_bits
    exact kz _ rfl
   apply GCh.v7
   ·rfl
   ·intro K' a wy ho hd hb hK kz;have q1:=hd ⟨1,.data⟩ (by simp) rfl;have q3:=hd ⟨3,.data⟩ (by simp) rfl;have q5:=hd ⟨5,.data⟩ (by simp) rfl;have q6:=hd ⟨6,.data⟩ (by simp) rfl;simp [rAt,IsV,slot] at q1 q3 q5 q6;clear hd ho;go_simp;refine (HFO.out wy).mono ?_;rintro e wz ⟨rfl,hz⟩;exact hK _ _ rfl hz
   apply GCh.v8
   ·rfl
   ·intro K' a wy ho hd hb hK kz;have o3:=ho 3 (by decide);simp [slot] at o3;clear hd ho;have hst:=HCP.out wy hb;have HHk:=hst.at mE0;obtain ⟨k0,k1,k2,k3,k4⟩:=HHk.c5;clear HHk;have HHl:=hst.at mE1;obtain ⟨l0,l1,l2,l3,l4⟩:=HHl.c5;clear HHl;clear hst;go_simp;try go_bits
    exact kz _ rfl
   apply GCh.v9
   ·rfl
   ·intro K' a wy ho hd hb hK kz;have q8:=hd ⟨8,.data⟩ (by simp) rfl;simp [rAt,IsV,slot] at q8;clear hd ho;go_simp;try go_bits
    exact kz _ rfl
   apply GCh.v10
   ·rfl
   ·intro K' a wy ho hd hb hK kz;have q7:=hd ⟨7,.data⟩ (by simp) rfl;have q9:=hd ⟨9,.data⟩ (by simp) rfl;simp [rAt,IsV,slot] at q7 q9;clear hd ho;refine wp_bin_val .neq 109 109 (.tmp 19) (.tmp 21) rfl (by simp [Act.eval,slot,q7]) (by simp [Act.eval,slot,q9]) (run_eqGuard_agg _ _ _ _ _ _ _ (by kernel_rfl)) (HNE.out wy) ?_;exact kz _ rfl
   apply GCh.v11
   ·rfl
   ·intro K' a wy ho hd hb hK kz;have q10:=hd ⟨10,.data⟩ (by simp) rfl;simp [rAt,IsV,slot] at q10;clear hd ho;go_simp;try go_bits
    exact kz _ rfl
   refine GCh.val (n:=12) (fun v=>[_,_,_,_,_,_,_,_,_,_,_,_,IsV v]) (fun _=>rfl) rfl ?_;apply Exists.intro;refine And.intro ?_ ?_
   ·intro K' a wy ho hd hb hK;refine wantsN 11 23 true false rfl rfl rfl (hd ⟨11,.guard⟩ (by simp) rfl) rfl ?_;exact hK undef _ rfl bR
   refine GCh.val (n:=13) (fun v=>[_,_,_,_,_,_,_,_,_,_,_,_,_,IsV v]) (fun _=>rfl) rfl ?_;apply Exists.intro;refine And.intro ?_ ?_
   ·intro K' a wy ho hd hb hK;refine wantsN 11 23 true false rfl rfl rfl (hd ⟨11,.guard⟩ (by simp) rfl) rfl ?_;exact hK undef _ rfl bR
   refine GCh.val (n:=14) (fun v=>[_,_,_,_,_,_,_,_,_,_,_,_,_,_,IsV v]) (fun _=>rfl) rfl ?_;apply Exists.intro;refine And.intro ?_ ?_
   ·intro K' a wy ho hd hb hK;refine wantsN 11 23 true false rfl rfl rfl (hd ⟨11,.guard⟩ (by simp) rfl) rfl ?_;exact hK undef _ rfl bR
   apply GCh.v15
   ·rfl
   ·intro K' a wy ho hd hb hK kz;have q11:=hd ⟨11,.data⟩ (by simp) rfl;have q14:=hd ⟨14,.data⟩ (by simp) rfl;simp [rAt,IsV,slot] at q11 q14;clear hd ho;go_simp;try go_bits
    exact kz _ rfl
   apply GCh.v16
   ·rfl
   ·intro K' a wy ho hd hb hK kz;have q15:=hd ⟨15,.data⟩ (by simp) rfl;simp [rAt,IsV,slot] at q15;clear hd ho;go_simp;try go_bits
    exact kz _ rfl
   refine GCh.val (n:=17) (fun v=>[_,_,_,_,_,_,_,_,_,_,_,_,_,_,_,_,_,IsV v]) (fun _=>rfl) rfl ?_;apply Exists.intro;refine And.intro ?_ ?_
   ·intro K' a wy ho hd hb hK;refine wantsN 16 28 true false rfl rfl rfl (hd ⟨16,.guard⟩ (by simp) rfl) rfl ?_;exact hK undef _ rfl bR
   refine GCh.val (n:=18) (fun v=>[_,_,_,_,_,_,_,_,_,_,_,_,_,_,_,_,_,_,IsV v]) (fun _=>rfl) rfl ?_;apply Exists.intro;refine And.intro ?_ ?_
   ·intro K' a wy ho hd hb hK;refine wantsN 16 28 true false rfl rfl rfl (hd ⟨16,.guard⟩ (by simp) rfl) rfl ?_;exact hK undef _ rfl bR
   refine GCh.val (n:=19) (fun v=>[_,_,_,_,_,_,_,_,_,_,_,_,_,_,_,_,_,_,_,IsV v]) (fun _=>rfl) rfl ?_;apply Exists.intro;refine And.intro ?_ ?_
   ·intro K' a wy ho hd hb hK;refine wantsN 16 28 true false rfl rfl rfl (hd ⟨16,.guard⟩ (by simp) rfl) rfl ?_;exact hK undef _ rfl bR
   refine GCh.val (n:=20) (fun v=>[_,_,_,_,_,_,_,_,_,_,_,_,_,_,_,_,_,_,_,_,IsV v]) (fun _=>rfl) rfl ?_;apply Exists.intro;refine And.intro ?_ ?_
   ·intro K' a wy ho hd hb hK;refine wantsN 16 28 true false rfl rfl rfl (hd ⟨16,.guard⟩ (by simp) rfl) rfl ?_;exact hK undef _ rfl bR
   refine GCh.val (n:=21) (fun v=>[_,_,_,_,_,_,_,_,_,_,_,_,_,_,_,_,_,_,_,_,_,IsV v]) (fun _=>rfl) rfl ?_;apply Exists.intro;refine And.intro ?_ ?_
   ·intro K' a wy ho hd hb hK;refine wantsN 16 28 true false rfl rfl rfl (hd ⟨16,.guard⟩ (by simp) rfl) rfl ?_;exact hK undef _ rfl bR
   refine GCh.val (n:=22) (fun v=>[_,_,_,_,_,_,_,_,_,_,_,_,_,_,_,_,_,_,_,_,_,_,IsV v]) (fun _=>rfl) rfl ?_;apply Exists.intro;refine And.intro ?_ ?_
   ·intro K' a wy ho hd hb hK;refine wantsN 16 28 true false rfl rfl rfl (hd ⟨16,.guard⟩ (by simp) rfl) rfl ?_;exact hK undef _ rfl bR
   apply GCh.v23
   ·rfl
   ·intro K' a wy ho hd hb hK kz;have q16:=hd ⟨16,.data⟩ (by simp) rfl;have q22:=hd ⟨22,.data⟩ (by simp) rfl;simp [rAt,IsV,slot] at q16 q22;clear hd ho;go_simp;try go_bits
    exact kz _ rfl
   intro X wz hR hz;obtain ⟨x0,x1,x2,x3,x4,x5,x6,x7,x8,x9,x10,x11,x12,x13,x14,x15,x16,x17,x18,x19,x20,x21,x22,x23,-⟩:=hR;simp only [IsV] at x0 x1 x2 x3 x4 x5 x6 x7 x8 x9 x10 x11 x12 x13 x14 x15 x16 x17 x18 x19 x20 x21 x22 x23;simp only [putsFrom,x0,x1,x2,x3,x4,x5,x6,x7,x8,x9,x10,x11,x12,x13,x14,x15,x16,x17,x18,x19,x20,x21,x22,x23];clear x0 x1 x2 x3 x4 x5 x6 x7 x8 x9 x10 x11 x12 x13 x14 x15 x16 x17 x18 x19 x20 x21 x22 x23;have HF:Hid (Bxs w [(w.heap.size,(FlR proto src dst sp dp)),(w.heap.size+1,(FlR proto' src' dst' sp' dp')),(w.heap.size+1+1,[.string ⟨#[]⟩,iV 0])] wz):=HCP.out wz hz;clear HCP;go_simp;refine hK2 _ _ (hJ _ _ ?_);(repeat apply Exists.intro)
   exact ⟨⟨by rw [HSI.out]; rfl,HF.out⟩,rfl⟩
  | true =>
   cases fg with
   | false =>
    refine wp_region_growH [12,13,14,15,16,17,18,19,20,21,22,23,24,25,26,27,28,29,30,31,32,33,34,35] (by kernel_rfl) (by kernel_rfl) ?_;apply GCh.v0
    ·rfl
    ·intro K' a wy ho hd hb hK kz;have o3:=ho 3 (by decide);simp [slot] at o3;clear hd ho;go_simp;try go_bits
     exact kz _ rfl
    apply GCh.v1
    ·rfl
    ·intro K' a wy ho hd hb hK kz;have q0:=hd ⟨0,.data⟩ (by simp) rfl;simp [rAt,IsV,slot] at q0;clear hd ho;have hst:=HCP.out wy hb;have HHk:=hst.at mE0;obtain ⟨k0,k1,k2,k3,k4⟩:=HHk.c5;clear HHk;have HHl:=hst.at mE1;obtain ⟨l0,l1,l2,l3,l4⟩:=HHl.c5;clear HHl;clear hst;go_simp;try go_bits
     exact kz _ rfl
    apply GCh.v2
    ·rfl
    ·intro K' a wy ho hd hb hK kz;have o3:=ho 3 (by decide);simp [slot] at o3;clear hd ho;go_simp;try go_bits
     exact kz _ rfl
    apply GCh.v3
    ·rfl
    ·intro K' a wy ho hd hb hK kz;have q2:=hd ⟨2,.data⟩ (by simp) rfl;simp [rAt,IsV,slot] at q2;clear hd ho;have hst:=HCP.out wy hb;have HHk:=hst.at mE0;obtain ⟨k0,k1,k2,k3,k4⟩:=HHk.c5;clear HHk;have HHl:=hst.at mE1;obtain ⟨l0,l1,l2,l3,l4⟩:=HHl.c5;clear HHl;clear hst;go_simp;try go_bits
     exact kz _ rfl
    apply GCh.v4
    ·rfl
    ·intro K' a wy ho hd hb hK kz;have o3:=ho 3 (by decide);simp [slot] at o3;clear hd ho;go_simp;try go_bits
     exact kz _ rfl
    apply GCh.v5
    ·rfl
    ·intro K' a wy ho hd hb hK kz;have q4:=hd ⟨4,.data⟩ (by simp) rfl;simp [rAt,IsV,slot] at q4;clear hd ho;have hst:=HCP.out wy hb;have HHk:=hst.at mE0;obtain ⟨k0,k1,k2,k3,k4⟩:=HHk.c5;clear HHk;have HHl:=hst.at mE1;obtain ⟨l0,l1,l2,l3,l4⟩:=HHl.c5;clear HHl;clear hst;go_simp;try go_bits
     exact kz _ rfl
    apply GCh.v6
    ·rfl
    ·intro K' a wy ho hd hb hK kz;have o2:=ho 2 (by decide);simp [slot] at o2;clear hd ho;go_simp;try go_bits
     exact kz _ rfl
    apply GCh.v7
    ·rfl
    ·intro K' a wy ho hd hb hK kz;have q1:=hd ⟨1,.data⟩ (by simp) rfl;have q3:=hd ⟨3,.data⟩ (by simp) rfl;have q5:=hd ⟨5,.data⟩ (by simp) rfl;have q6:=hd ⟨6,.data⟩ (by simp) rfl;simp [rAt,IsV,slot] at q1 q3 q5 q6;clear hd ho;go_simp;refine (HFO.out wy).mono ?_;rintro e wz ⟨rfl,hz⟩;exact hK _ _ rfl hz
    apply GCh.v8
    ·rfl
    ·intro K' a wy ho hd hb hK kz;have o3:=ho 3 (by decide);simp [slot] at o3;clear hd ho;have hst:=HCP.out wy hb;have HHk:=hst.at mE0;obtain ⟨k0,k1,k2,k3,k4⟩:=HHk.c5;clear HHk;have HHl:=hst.at mE1;obtain ⟨l0,l1,l2,l3,l4⟩:=HHl.c5;clear HHl;clear hst;go_simp;try go_bits
     exact kz _ rfl
    apply GCh.v9
    ·rfl
    ·intro K' a wy ho hd hb hK kz;have q8:=hd ⟨8,.data⟩ (by simp) rfl;simp [rAt,IsV,slot] at q8;clear hd ho;go_simp;try go_bits
     exact kz _ rfl
    apply GCh.v10
    ·rfl
    ·intro K' a wy ho hd hb hK kz;have q7:=hd ⟨7,.data⟩ (by simp) rfl;have q9:=hd ⟨9,.data⟩ (by simp) rfl;simp [rAt,IsV,slot] at q7 q9;clear hd ho;refine wp_bin_val .neq 109 109 (.tmp 19) (.tmp 21) rfl (by simp [Act.eval,slot,q7]) (by simp [Act.eval,slot,q9]) (run_eqGuard_agg _ _ _ _ _ _ _ (by kernel_rfl)) (HNE.out wy) ?_;exact kz _ rfl
    apply GCh.v11
    ·rfl
    ·intro K' a wy ho hd hb hK kz;have q10:=hd ⟨10,.data⟩ (by simp) rfl;simp [rAt,IsV,slot] at q10;clear hd ho;go_simp;try go_bits
     exact kz _ rfl
    refine GCh.val (n:=12) (fun v=>[_,_,_,_,_,_,_,_,_,_,_,_,IsV v]) (fun _=>rfl) rfl ?_;apply Exists.intro;refine And.intro ?_ ?_
    ·intro K' a wy ho hd hb hK;refine wants 11 23 false false rfl rfl rfl (hd ⟨11,.guard⟩ (by simp) rfl) rfl ?_;have o4:=ho 4 (by decide);simp [slot] at o4;clear hd ho;have hst:=HCP.out wy hb;have HHk:=hst.at mE0;obtain ⟨k0,k1,k2,k3,k4⟩:=HHk.c5;clear HHk;have HHl:=hst.at mE1;obtain ⟨l0,l1,l2,l3,l4⟩:=HHl.c5;clear HHl;clear hst;go_simp;try go_bits
     exact hK _ _ rfl bR
    refine GCh.val (n:=13) (fun v=>[_,_,_,_,_,_,_,_,_,_,_,_,_,IsV v]) (fun _=>rfl) rfl ?_;apply Exists.intro;refine And.intro ?_ ?_
    ·intro K' a wy ho hd hb hK;refine wants 11 23 false false rfl rfl rfl (hd ⟨11,.guard⟩ (by simp) rfl) rfl ?_;have q12:=hd ⟨12,.data⟩ (by simp) rfl;simp [rAt,IsV,slot] at q12;clear hd ho;go_simp;refine (HFR.out wy).mono ?_;rintro e wz ⟨rfl,hz⟩;exact hK _ _ rfl hz
    refine GCh.val (n:=14) (fun v=>[_,_,_,_,_,_,_,_,_,_,_,_,_,_,IsV v]) (fun _=>rfl) rfl ?_;apply Exists.intro;refine And.intro ?_ ?_
    ·intro K' a wy ho hd hb hK;refine wants 11 23 false false rfl rfl rfl (hd ⟨11,.guard⟩ (by simp) rfl) rfl ?_;have q13:=hd ⟨13,.data⟩ (by simp) rfl;simp [rAt,IsV,slot] at q13;clear hd ho;go_simp;try go_bits
     exact hK _ _ rfl bR
    apply GCh.v15
    ·rfl
    ·intro K' a wy ho hd hb hK kz;have q11:=hd ⟨11,.data⟩ (by simp) rfl;have q14:=hd ⟨14,.data⟩ (by simp) rfl;simp [rAt,IsV,slot] at q11 q14;clear hd ho;go_simp;try go_bits
     exact kz _ rfl
    apply GCh.v16
    ·rfl
    ·intro K' a wy ho hd hb hK kz;have q15:=hd ⟨15,.data⟩ (by simp) rfl;simp [rAt,IsV,slot] at q15;clear hd ho;go_simp;try go_bits
     exact kz _ rfl
    refine GCh.val (n:=17) (fun v=>[_,_,_,_,_,_,_,_,_,_,_,_,_,_,_,_,_,IsV v]) (fun _=>rfl) rfl ?_;apply Exists.intro;refine And.intro ?_ ?_
    ·intro K' a wy ho hd hb hK;refine wantsN 16 28 true false rfl rfl rfl (hd ⟨16,.guard⟩ (by simp) rfl) rfl ?_;exact hK undef _ rfl bR
    refine GCh.val (n:=18) (fun v=>[_,_,_,_,_,_,_,_,_,_,_,_,_,_,_,_,_,_,IsV v]) (fun _=>rfl) rfl ?_;apply Exists.intro;refine And.intro ?_ ?_
    ·intro K' a wy ho hd hb hK;refine wantsN 16 28 true false rfl rfl rfl (hd ⟨16,.guard⟩ (by simp) rfl) rfl ?_;exact hK undef _ rfl bR
    refine GCh.val (n:=19) (fun v=>[_,_,_,_,_,_,_,_,_,_,_,_,_,_,_,_,_,_,_,IsV v]) (fun _=>rfl) rfl ?_;apply Exists.intro;refine And.intro ?_ ?_
    ·intro K' a wy ho hd hb hK;refine wantsN 16 28 true false rfl rfl rfl (hd ⟨16,.guard⟩ (by simp) rfl) rfl ?_;exact hK undef _ rfl bR
    refine GCh.val (n:=20) (fun v=>[_,_,_,_,_,_,_,_,_,_,_,_,_,_,_,_,_,_,_,_,IsV v]) (fun _=>rfl) rfl ?_;apply Exists.intro;refine And.intro ?_ ?_
    ·intro K' a wy ho hd hb hK;refine wantsN 16 28 true false rfl rfl rfl (hd ⟨16,.guard⟩ (by simp) rfl) rfl ?_;exact hK undef _ rfl bR
    refine GCh.val (n:=21) (fun v=>[_,_,_,_,_,_,_,_,_,_,_,_,_,_,_,_,_,_,_,_,_,IsV v]) (fun _=>rfl) rfl ?_;apply Exists.intro;refine And.intro ?_ ?_
    ·intro K' a wy ho hd hb hK;refine wantsN 16 28 true false rfl rfl rfl (hd ⟨16,.guard⟩ (by simp) rfl) rfl ?_;exact hK undef _ rfl bR
    refine GCh.val (n:=22) (fun v=>[_,_,_,_,_,_,_,_,_,_,_,_,_,_,_,_,_,_,_,_,_,_,IsV v]) (fun _=>rfl) rfl ?_;apply Exists.intro;refine And.intro ?_ ?_
    ·intro K' a wy ho hd hb hK;refine wantsN 16 28 true false rfl rfl rfl (hd ⟨16,.guard⟩ (by simp) rfl) rfl ?_;exact hK undef _ rfl bR
    apply GCh.v23
    ·rfl
    ·intro K' a wy ho hd hb hK kz;have q16:=hd ⟨16,.data⟩ (by simp) rfl;have q22:=hd ⟨22,.data⟩ (by simp) rfl;simp [rAt,IsV,slot] at q16 q22;clear hd ho;go_simp;try go_bits
     exact kz _ rfl
    intro X wz hR hz;obtain ⟨x0,x1,x2,x3,x4,x5,x6,x7,x8,x9,x10,x11,x12,x13,x14,x15,x16,x17,x18,x19,x20,x21,x22,x23,-⟩:=hR;simp only [IsV] at x0 x1 x2 x3 x4 x5 x6 x7 x8 x9 x10 x11 x12 x13 x14 x15 x16 x17 x18 x19 x20 x21 x22 x23;simp only [putsFrom,x0,x1,x2,x3,x4,x5,x6,x7,x8,x9,x10,x11,x12,x13,x14,x15,x16,x17,x18,x19,x20,x21,x22,x23];clear x0 x1 x2 x3 x4 x5 x6 x7 x8 x9 x10 x11 x12 x13 x14 x15 x16 x17 x18 x19 x20 x21 x22 x23;have HF:Hid (Bxs w [(w.heap.size,(FlR proto src dst sp dp)),(w.heap.size+1,(FlR proto' src' dst' sp' dp')),(w.heap.size+1+1,[.string ⟨#[]⟩,iV 0])] wz):=HCP.out wz hz;clear HCP;go_simp;refine hK2 _ _ (hJ _ _ ?_);(repeat apply Exists.intro)
    exact ⟨⟨by rw [HSI.out]; rfl,HF.out⟩,rfl⟩
   | true =>
    refine wp_region_growH [12,13,14,15,16,17,18,19,20,21,22,23,24,25,26,27,28,29,30,31,32,33,34,35] (by kernel_rfl) (by kernel_rfl) ?_;apply GCh.v0
    ·rfl
    ·intro K' a wy ho hd hb hK kz;have o3:=ho 3 (by decide);simp [slot] at o3;clear hd ho;go_simp;try go_bits
     exact kz _ rfl
    apply GCh.v1
    ·rfl
    ·intro K' a wy ho hd hb hK kz;have q0:=hd ⟨0,.data⟩ (by simp) rfl;simp [rAt,IsV,slot] at q0;clear hd ho;have hst:=HCP.out wy hb;have HHk:=hst.at mE0;obtain ⟨k0,k1,k2,k3,k4⟩:=HHk.c5;clear HHk;have HHl:=hst.at mE1;obtain ⟨l0,l1,l2,l3,l4⟩:=HHl.c5;clear HHl;clear hst;go_simp;try go_bits
     exact kz _ rfl
    apply GCh.v2
    ·rfl
    ·intro K' a wy ho hd hb hK kz;have o3:=ho 3 (by decide);simp [slot] at o3;clear hd ho;go_simp;try go_bits
     exact kz _ rfl
    apply GCh.v3
    ·rfl
    ·intro K' a wy ho hd hb hK kz;have q2:=hd ⟨2,.data⟩ (by simp) rfl;simp [rAt,IsV,slot] at q2;clear hd ho;have hst:=HCP.out wy hb;have HHk:=hst.at mE0;obtain ⟨k0,k1,k2,k3,k4⟩:=HHk.c5;clear HHk;have HHl:=hst.at mE1;obtain ⟨l0,l1,l2,l3,l4⟩:=HHl.c5;clear HHl;clear hst;go_simp;try go_bits
     exact kz _ rfl
    apply GCh.v4
    ·rfl
    ·intro K' a wy ho hd hb hK kz;have o3:=ho 3 (by decide);simp [slot] at o3;clear hd ho;go_simp;try go_bits
     exact kz _ rfl
    apply GCh.v5
    ·rfl
    ·intro K' a wy ho hd hb hK kz;have q4:=hd ⟨4,.data⟩ (by simp) rfl;simp [rAt,IsV,slot] at q4;clear hd ho;have hst:=HCP.out wy hb;have HHk:=hst.at mE0;obtain ⟨k0,k1,k2,k3,k4⟩:=HHk.c5;clear HHk;have HHl:=hst.at mE1;obtain ⟨l0,l1,l2,l3,l4⟩:=HHl.c5;clear HHl;clear hst;go_simp;try go_bits
     exact kz _ rfl
    apply GCh.v6
    ·rfl
    ·intro K' a wy ho hd hb hK kz;have o2:=ho 2 (by decide);simp [slot] at o2;clear hd ho;go_simp;try go_bits
     exact kz _ rfl
    apply GCh.v7
    ·rfl
    ·intro K' a wy ho hd hb hK kz;have q1:=hd ⟨1,.data⟩ (by simp) rfl;have q3:=hd ⟨3,.data⟩ (by simp) rfl;have q5:=hd ⟨5,.data⟩ (by simp) rfl;have q6:=hd ⟨6,.data⟩ (by simp) rfl;simp [rAt,IsV,slot] at q1 q3 q5 q6;clear hd ho;go_simp;refine (HFO.out wy).mono ?_;rintro e wz ⟨rfl,hz⟩;exact hK _ _ rfl hz
    apply GCh.v8
    ·rfl
    ·intro K' a wy ho hd hb hK kz;have o3:=ho 3 (by decide);simp [slot] at o3;clear hd ho;have hst:=HCP.out wy hb;have HHk:=hst.at mE0;obtain ⟨k0,k1,k2,k3,k4⟩:=HHk.c5;clear HHk;have HHl:=hst.at mE1;obtain ⟨l0,l1,l2,l3,l4⟩:=HHl.c5;clear HHl;clear hst;go_simp;try go_bits
     exact kz _ rfl
    apply GCh.v9
    ·rfl
    ·intro K' a wy ho hd hb hK kz;have q8:=hd ⟨8,.data⟩ (by simp) rfl;simp [rAt,IsV,slot] at q8;clear hd ho;go_simp;try go_bits
     exact kz _ rfl
    apply GCh.v10
    ·rfl
    ·intro K' a wy ho hd hb hK kz;have q7:=hd ⟨7,.data⟩ (by simp) rfl;have q9:=hd ⟨9,.data⟩ (by simp) rfl;simp [rAt,IsV,slot] at q7 q9;clear hd ho;refine wp_bin_val .neq 109 109 (.tmp 19) (.tmp 21) rfl (by simp [Act.eval,slot,q7]) (by simp [Act.eval,slot,q9]) (run_eqGuard_agg _ _ _ _ _ _ _ (by kernel_rfl)) (HNE.out wy) ?_;exact kz _ rfl
    apply GCh.v11
    ·rfl
    ·intro K' a wy ho hd hb hK kz;have q10:=hd ⟨10,.data⟩ (by simp) rfl;simp [rAt,IsV,slot] at q10;clear hd ho;go_simp;try go_bits
     exact kz _ rfl
    refine GCh.val (n:=12) (fun v=>[_,_,_,_,_,_,_,_,_,_,_,_,IsV v]) (fun _=>rfl) rfl ?_;apply Exists.intro;refine And.intro ?_ ?_
    ·intro K' a wy ho hd hb hK;refine wants 11 23 false false rfl rfl rfl (hd ⟨11,.guard⟩ (by simp) rfl) rfl ?_;have o4:=ho 4 (by decide);simp [slot] at o4;clear hd ho;have hst:=HCP.out wy hb;have HHk:=hst.at mE0;obtain ⟨k0,k1,k2,k3,k4⟩:=HHk.c5;clear HHk;have HHl:=hst.at mE1;obtain ⟨l0,l1,l2,l3,l4⟩:=HHl.c5;clear HHl;clear hst;go_simp;try go_bits
     exact hK _ _ rfl bR
    refine GCh.val (n:=13) (fun v=>[_,_,_,_,_,_,_,_,_,_,_,_,_,IsV v]) (fun _=>rfl) rfl ?_;apply Exists.intro;refine And.intro ?_ ?_
    ·intro K' a wy ho hd hb hK;refine wants 11 23 false false rfl rfl rfl (hd ⟨11,.guard⟩ (by simp) rfl) rfl ?_;have q12:=hd ⟨12,.data⟩ (by simp) rfl;simp [rAt,IsV,slot] at q12;clear hd ho;go_simp;refine (HFR.out wy).mono ?_;rintro e wz ⟨rfl,hz⟩;exact hK _ _ rfl hz
    refine GCh.val (n:=14) (fun v=>[_,_,_,_,_,_,_,_,_,_,_,_,_,_,IsV v]) (fun _=>rfl) rfl ?_;apply Exists.intro;refine And.intro ?_ ?_
    ·intro K' a wy ho hd hb hK;refine wants 11 23 false false rfl rfl rfl (hd ⟨11,.guard⟩ (by simp) rfl) rfl ?_;have q13:=hd ⟨13,.data⟩ (by simp) rfl;simp [rAt,IsV,slot] at q13;clear hd ho;go_simp;try go_bits
     exact hK _ _ rfl bR
    apply GCh.v15
    ·rfl
    ·intro K' a wy ho hd hb hK kz;have q11:=hd ⟨11,.data⟩ (by simp) rfl;have q14:=hd ⟨14,.data⟩ (by simp) rfl;simp [rAt,IsV,slot] at q11 q14;clear hd ho;go_simp;try go_bits
     exact kz _ rfl
    apply GCh.v16
    ·rfl
    ·intro K' a wy ho hd hb hK kz;have q15:=hd ⟨15,.data⟩ (by simp) rfl;simp [rAt,IsV,slot] at q15;clear hd ho;go_simp;try go_bits
     exact kz _ rfl
    refine GCh.val (n:=17) (fun v=>[_,_,_,_,_,_,_,_,_,_,_,_,_,_,_,_,_,IsV v]) (fun _=>rfl) rfl ?_;apply Exists.intro;refine And.intro ?_ ?_
    ·intro K' a wy ho hd hb hK;refine wants 16 28 false false rfl rfl rfl (hd ⟨16,.guard⟩ (by simp) rfl) rfl ?_;have o3:=ho 3 (by decide);simp [slot] at o3;clear hd ho;go_simp;try go_bits
     exact hK _ _ rfl bR
    refine GCh.val (n:=18) (fun v=>[_,_,_,_,_,_,_,_,_,_,_,_,_,_,_,_,_,_,IsV v]) (fun _=>rfl) rfl ?_;apply Exists.intro;refine And.intro ?_ ?_
    ·intro K' a wy ho hd hb hK;refine wants 16 28 false false rfl rfl rfl (hd ⟨16,.guard⟩ (by simp) rfl) rfl ?_;have q17:=hd ⟨17,.data⟩ (by simp) rfl;simp [rAt,IsV,slot] at q17;clear hd ho;have hst:=HCP.out wy hb;have HHk:=hst.at mE0;obtain ⟨k0,k1,k2,k3,k4⟩:=HHk.c5;clear HHk;have HHl:=hst.at mE1;obtain ⟨l0,l1,l2,l3,l4⟩:=HHl.c5;clear HHl;clear hst;go_simp;try go_bits
     exact hK _ _ rfl bR
    refine GCh.val (n:=19) (fun v=>[_,_,_,_,_,_,_,_,_,_,_,_,_,_,_,_,_,_,_,IsV v]) (fun _=>rfl) rfl ?_;apply Exists.intro;refine And.intro ?_ ?_
    ·intro K' a wy ho hd hb hK;refine wants 16 28 false false rfl rfl rfl (hd ⟨16,.guard⟩ (by simp) rfl) rfl ?_;have o4:=ho 4 (by decide);simp [slot] at o4;clear hd ho;go_simp;try go_bits
     exact hK _ _ rfl bR
    refine GCh.val (n:=20) (fun v=>[_,_,_,_,_,_,_,_,_,_,_,_,_,_,_,_,_,_,_,_,IsV v]) (fun _=>rfl) rfl ?_;apply Exists.intro;refine And.intro ?_ ?_
    ·intro K' a wy ho hd hb hK;refine wants 16 28 false false rfl rfl rfl (hd ⟨16,.guard⟩ (by simp) rfl) rfl ?_;have q19:=hd ⟨19,.data⟩ (by simp) rfl;simp [rAt,IsV,slot] at q19;clear hd ho;have hst:=HCP.out wy hb;have HHk:=hst.at mE0;obtain ⟨k0,k1,k2,k3,k4⟩:=HHk.c5;clear HHk;have HHl:=hst.at mE1;obtain ⟨l0,l1,l2,l3,l4⟩:=HHl.c5;clear HHl;clear hst;go_simp;try go_bits
     exact hK _ _ rfl bR
    refine GCh.val (n:=21) (fun v=>[_,_,_,_,_,_,_,_,_,_,_,_,_,_,_,_,_,_,_,_,_,IsV v]) (fun _=>rfl) rfl ?_;apply Exists.intro;refine And.intro ?_ ?_
    ·intro K' a wy ho hd hb hK;refine wants 16 28 false false rfl rfl rfl (hd ⟨16,.guard⟩ (by simp) rfl) rfl ?_;have q18:=hd ⟨18,.data⟩ (by simp) rfl;have q20:=hd ⟨20,.data⟩ (by simp) rfl;simp [rAt,IsV,slot] at q18 q20;clear hd ho;go_simp;refine (HLK.out wy).mono ?_;rintro e wz ⟨rfl,hz⟩;exact hK _ _ rfl hz
    refine GCh.val (n:=22) (fun v=>[_,_,_,_,_,_,_,_,_,_,_,_,_,_,_,_,_,_,_,_,_,_,IsV v]) (fun _=>rfl) rfl ?_;apply Exists.intro;refine And.intro ?_ ?_
    ·intro K' a wy ho hd hb hK;refine wants 16 28 false false rfl rfl rfl (hd ⟨16,.guard⟩ (by simp) rfl) rfl ?_;have q21:=hd ⟨21,.data⟩ (by simp) rfl;simp [rAt,IsV,slot] at q21;clear hd ho;go_simp;try go_bits
     exact hK _ _ rfl bR
    apply GCh.v23
    ·rfl
    ·intro K' a wy ho hd hb hK kz;have q16:=hd ⟨16,.data⟩ (by simp) rfl;have q22:=hd ⟨22,.data⟩ (by simp) rfl;simp [rAt,IsV,slot] at q16 q22;clear hd ho;go_simp;try go_bits
     exact kz _ rfl
    intro X wz hR hz;obtain ⟨x0,x1,x2,x3,x4,x5,x6,x7,x8,x9,x10,x11,x12,x13,x14,x15,x16,x17,x18,x19,x20,x21,x22,x23,-⟩:=hR;simp only [IsV] at x0 x1 x2 x3 x4 x5 x6 x7 x8 x9 x10 x11 x12 x13 x14 x15 x16 x17 x18 x19 x20 x21 x22 x23;simp only [putsFrom,x0,x1,x2,x3,x4,x5,x6,x7,x8,x9,x10,x11,x12,x13,x14,x15,x16,x17,x18,x19,x20,x21,x22,x23];clear x0 x1 x2 x3 x4 x5 x6 x7 x8 x9 x10 x11 x12 x13 x14 x15 x16 x17 x18 x19 x20 x21 x22 x23;have HF:Hid (Bxs w [(w.heap.size,(FlR proto src dst sp dp)),(w.heap.size+1,(FlR proto' src' dst' sp' dp')),(w.heap.size+1+1,[.string ⟨#[]⟩,iV 0])] wz):=HCP.out wz hz;clear HCP;go_simp;refine hK2 _ _ (hJ _ _ ?_);(repeat apply Exists.intro)
    exact ⟨⟨by rw [HSI.out]; rfl,HF.out⟩,rfl⟩
 case rest =>
 obtain ⟨rfl,hS⟩:=hcut;have S1:Hid (Bxs w [(w.heap.size,(FlR proto src dst sp dp)),(w.heap.size+1,(FlR proto' src' dst' sp' dp')),(w.heap.size+1+1,[.string ⟨#[]⟩,iV 0])] wc):=hS;clear hS HS0 HSI HNE HFO HFR HLK;generalize wc=W1 at *
 cases si with
 | false =>
  have HX:Hid (ans=dtCO ⟨#[]⟩ 1):=HC1.out rfl;have HHz:=S1.out.at mE2;obtain ⟨z0,z1⟩:=HHz.c2;obtain ⟨zf0,zf1⟩:=HHz.f2;have HRR:Hid (HoldsL ((sW W1 (w.heap.size+1+1) 0 (.string ⟨#[]⟩)).setCell ⟨w.heap.size+1+1,1,none⟩ (iV 1)) (w.heap.size+1+1) [.string ⟨#[]⟩,iV 1]):=((HHz.set 0 (.string ⟨#[]⟩)).set 1 (iV 1));have RB:Hid _:=((S1.out.b.setCell (p:=⟨w.heap.size+1+1,0,none⟩) hRw (.string ⟨#[]⟩)).setCell (p:=⟨w.heap.size+1+1,1,none⟩) hRw (iV 1));clear HHz;clear HC1 HC5 HC0;go_wp2_with fail
  exact bodyPost_ret (results_mid Tryz.results115 _ _ (w.heap.size+1+1) [.string ⟨#[]⟩,iV 1] _ rfl HRR.out Tryz.underlying99 rfl (show (Tryz.prog.info? 99).map (·.size)=some 2 by kernel_rfl)) rfl (And.intro (by rw [HX.out]; rfl) RB.out)
 | true =>
 replace HC5:Hid _:=HC5.out rfl;replace HC0:Hid _:=HC0.out rfl;replace HLA:Hid _:=HLA.out rfl;replace HLY:Hid _:=HLY.out rfl;replace HCK:Hid _:=HCK.out rfl;obtain ⟨hs1,hs2,hs3⟩:=HSZ.out rfl;clear HC1 HSZ;have HHk:=S1.out.at mE0;obtain ⟨k0,k1,k2,k3,k4⟩:=HHk.c5;clear HHk;have HHl:=S1.out.at mE1;obtain ⟨l0,l1,l2,l3,l4⟩:=HHl.c5;clear HHl;go_wp2_with fail
 refine (HLA.out _).mono ?_;rintro e W1 ⟨rfl,rfl⟩;by_cases h5:lc=true∧src'.size=16
 case pos =>
  obtain ⟨rfl,h16⟩:=h5;have d16:((src'.size:Int)==16)=true:=by rw [h16]; rfl
  have hun:undef=Value.tuple #[]:=rfl;have HX:Hid (ans=dtCO ⟨#[]⟩ 5):=HC5.out rfl h16;have HHz:=S1.out.at mE2;obtain ⟨z0,z1⟩:=HHz.c2;obtain ⟨zf0,zf1⟩:=HHz.f2;have HRR:Hid (HoldsL ((sW W1 (w.heap.size+1+1) 0 (.string ⟨#[]⟩)).setCell ⟨w.heap.size+1+1,1,none⟩ (iV 5)) (w.heap.size+1+1) [.string ⟨#[]⟩,iV 5]):=((HHz.set 0 (.string ⟨#[]⟩)).set 1 (iV 5));have RB:Hid _:=((S1.out.b.setCell (p:=⟨w.heap.size+1+1,0,none⟩) hRw (.string ⟨#[]⟩)).setCell (p:=⟨w.heap.size+1+1,1,none⟩) hRw (iV 5));clear HHz;clear HC5 HC0;go_wp2_with fail
  exact bodyPost_ret (results_mid Tryz.results115 _ _ (w.heap.size+1+1) [.string ⟨#[]⟩,iV 5] _ rfl HRR.out Tryz.underlying99 rfl (show (Tryz.prog.info? 99).map (·.size)=some 2 by kernel_rfl)) rfl (And.intro (by rw [HX.out]; rfl) RB.out)
 replace HC0:Hid _:=HC0.out h5;clear HC5;go_upto_region 6 with fail
 go_cut [47] (fun v wx=>v=.bool false∧wx=W1)
 case first =>
  have hun:undef=Value.tuple #[]:=rfl
  cases lc with
  | false =>
   go_wp2_with fail
   go_meet;exact ⟨rfl,rfl⟩
  | true =>
   have d16:((src'.size:Int)==16)=false:=by
    have:¬ src'.size=16:=fun h=>h5 ⟨rfl,h⟩
    simp; omega
   go_wp2_with fail
   go_meet;exact ⟨rfl,rfl⟩
 case rest =>
 obtain ⟨rfl,rfl⟩:=hcut;generalize wc=W1 at *;go_upto_region 8 with fail
 go_wp2_with fail
 refine (HLY.out _).mono ?_;rintro e W2 ⟨⟨b,cap,rfl,hcap,hbW,hT2⟩,q2⟩;have S2:Hid _:=S1.out.kept q2;have T2:Hid (HoldsL W2 b (strCells uu)):=hT2;have hfb:w.heap.size+1+1 < W1.heap.size:=(S1.out.k _ mE2).lt (by simp);clear hT2 q2 S1 k0 k1 k2 k3 k4 l0 l1 l2 l3 l4 HLY HLA;have hbg:w.heap.size+1+1 < b:=by omega
 have hbw:w.heap.size≤b:=by omega
 have hrb:w.heap.size+1+1≠b:=by omega
 clear hbW hfb;have HHk:=S2.out.at mE0;obtain ⟨k0,k1,k2,k3,k4⟩:=HHk.c5;clear HHk;have HHl:=S2.out.at mE1;obtain ⟨l0,l1,l2,l3,l4⟩:=HHl.c5;clear HHl;obtain ⟨cb,hcb⟩ : ∃ cb,cb=(!lc||decide (src.size=16)):=⟨_,rfl⟩;rw [← hcb] at HC0;have HCB:Hid _:=hcb;clear hcb;go_upto_region 9 with fail
 go_cut [61] (fun v wx=>v=.bool cb∧wx=W2)
 case first =>
  have hun:undef=Value.tuple #[]:=rfl
  cases lc with
  | false =>
   go_wp2_with fail
   go_meet;exact ⟨by rw [HCB.out]; rfl,rfl⟩
  | true =>
   by_cases h16:src.size=16
   case pos =>
    have d16:((src.size:Int)==16)=true:=by rw [h16]; rfl
    go_wp2_with fail
    go_meet;exact ⟨by rw [HCB.out,decide_eq_true h16]; rfl,rfl⟩
   have d16:((src.size:Int)==16)=false:=by simp; omega
   go_wp2_with fail
   go_meet;exact ⟨by rw [HCB.out,decide_eq_false h16]; rfl,rfl⟩
 case rest =>
 obtain ⟨rfl,rfl⟩:=hcut;generalize wc=W2 at *;clear HCB k0 k1 k2 k3 k4 l0 l1 l2 l3 l4
 cases cb with
 | false =>
  have hcv:(convert 137 9 (.slice (some ⟨b,0,none⟩) t.size cap)).run Tryz.prog W2=.ok (.string uu) W2:=by rw [← hs1]; exact hold_str T2.out
  have HX:Hid (ans=dtCO uu 0):=HC0.out;have HHz:=S2.out.at mE2;obtain ⟨z0,z1⟩:=HHz.c2;obtain ⟨zf0,zf1⟩:=HHz.f2;have HRR:Hid (HoldsL ((sW W2 (w.heap.size+1+1) 0 (.string uu)).setCell ⟨w.heap.size+1+1,1,none⟩ (iV 0)) (w.heap.size+1+1) [.string uu,iV 0]):=((HHz.set 0 (.string uu)).set 1 (iV 0));have RB:Hid _:=((S2.out.b.setCell (p:=⟨w.heap.size+1+1,0,none⟩) hRw (.string uu)).setCell (p:=⟨w.heap.size+1+1,1,none⟩) hRw (iV 0));clear HHz;clear HC0 T2;go_wp2_with fail
  exact bodyPost_ret (results_mid Tryz.results115 _ _ _ _ _ rfl HRR.out Tryz.underlying99 rfl (show (Tryz.prog.info? 99).map (·.size)=some 2 by kernel_rfl)) rfl (And.intro (by rw [HX.out]; rfl) RB.out)
 | true =>
 go_upto_region 10 with fail
 have hpc:¬ cap=pl:=by omega
 have hpi:¬ (t.size:Int) < (pl:Int):=by omega
 have hpj:¬ (cap:Int) < (pl:Int):=by omega
 have hpk:(pl:Int)≤t.size:=by omega
 go_cut [75] (fun v wx=>HoldsL wx b (strCells (putV uu pl (twoV nc)))∧Bxs w [(w.heap.size,(FlR proto src dst sp dp)),(w.heap.size+1,(FlR proto' src' dst' sp' dp')),(w.heap.size+1+1,[.string ⟨#[]⟩,iV 0])] wx)
 case first =>
  rename_i J K2 hJ hK2;have HCP:Hid (∀ wy,Below W2.drew.heap.size W2.drew wy→_):=fun wy hy=>S2.out.kept (bR.drew.trans hy)
  have HGP:Hid (∀ wy,Below W2.drew.heap.size W2.drew wy→HoldsL wy b (strCells uu)):=fun wy hy=>T2.out.kept (by rw [strCells_length]; omega) (bR.drew.trans hy)
  have hlw2:w.heap.size≤W2.drew.heap.size:=S2.out.b.size;clear T2 S2 HC0;refine wp_region_growV [62,63,64,65,66,67,68,69,70,71,72,73,74] (by kernel_rfl) (by kernel_rfl) ?_;apply GChV.v0
  ·rfl
  ·intro K' a wy ho hd hb hK kz;have o8:=ho 8 (by decide);simp [slot] at o8;clear hd ho;go_simp;try go_bits
   exact kz _ rfl
  apply GChV.v1
  ·rfl
  ·intro K' a wy ho hd hb hK kz;have o3:=ho 3 (by decide);simp [slot] at o3;clear hd ho;go_simp;try go_bits
   exact kz _ rfl
  apply GChV.v2
  ·rfl
  ·intro K' a wy ho hd hb hK kz;have q1:=hd ⟨1,.data⟩ (by simp) rfl;simp [rAt,IsV,slot] at q1;clear hd ho;have hst:=HCP.out wy hb;have HHk:=hst.at mE0;obtain ⟨k0,k1,k2,k3,k4⟩:=HHk.c5;clear HHk;have HHl:=hst.at mE1;obtain ⟨l0,l1,l2,l3,l4⟩:=HHl.c5;clear HHl;clear hst;go_simp;try go_bits
   exact kz _ rfl
  apply GChV.v3
  ·rfl
  ·intro K' a wy ho hd hb hK kz;have q2:=hd ⟨2,.data⟩ (by simp) rfl;simp [rAt,IsV,slot] at q2;clear hd ho;go_simp;refine (HPL.out wy).mono ?_;rintro e wz ⟨rfl,hz⟩;exact hK _ _ rfl hz
  apply GChV.v4
  ·rfl
  ·intro K' a wy ho hd hb hK kz;have q0:=hd ⟨0,.data⟩ (by simp) rfl;have q3:=hd ⟨3,.data⟩ (by simp) rfl;simp [rAt,IsV,slot] at q0 q3;clear hd ho;go_simp;try go_bits
   exact kz _ rfl
  apply GChV.v5
  ·rfl
  ·intro K' a wy ho hd hb hK kz;have o3:=ho 3 (by decide);simp [slot] at o3;clear hd ho;have hst:=HCP.out wy hb;have HHk:=hst.at mE0;obtain ⟨k0,k1,k2,k3,k4⟩:=HHk.c5;clear HHk;have HHl:=hst.at mE1;obtain ⟨l0,l1,l2,l3,l4⟩:=HHl.c5;clear HHl;clear hst;go_simp;try go_bits
   exact kz _ rfl
  apply GChV.v6
  ·rfl
  ·intro K' a wy ho hd hb hK kz;have o4:=ho 4 (by decide);simp [slot] at o4;clear hd ho;have hst:=HCP.out wy hb;have HHk:=hst.at mE0;obtain ⟨k0,k1,k2,k3,k4⟩:=HHk.c5;clear HHk;have HHl:=hst.at mE1;obtain ⟨l0,l1,l2,l3,l4⟩:=HHl.c5;clear HHl;clear hst;go_simp;try go_bits
   exact kz _ rfl
  apply GChV.v7
  ·rfl
  ·intro K' a wy ho hd hb hK kz;have o2:=ho 2 (by decide);simp [slot] at o2;clear hd ho;go_simp;try go_bits
   exact kz _ rfl
  apply GChV.v8
  ·rfl
  ·intro K' a wy ho hd hb hK kz;have o8:=ho 8 (by decide);simp [slot] at o8;clear hd ho;go_simp;try go_bits
   exact kz _ rfl
  apply GChV.v9
  ·rfl
  ·intro K' a wy ho hd hb hK kz;have q8:=hd ⟨8,.data⟩ (by simp) rfl;simp [rAt,IsV,slot] at q8;clear hd ho;have hcv:(convert 137 9 (.slice (some ⟨b,0,none⟩) t.size cap)).run Tryz.prog wy=.ok (.string uu) wy:=by rw [← hs1]; exact hold_str (HGP.out wy hb)
   go_simp;try go_bits
   exact kz _ rfl
  apply GChV.v10
  ·rfl
  ·intro K' a wy ho hd hb hK kz;have q5:=hd ⟨5,.data⟩ (by simp) rfl;have q6:=hd ⟨6,.data⟩ (by simp) rfl;have q7:=hd ⟨7,.data⟩ (by simp) rfl;have q9:=hd ⟨9,.data⟩ (by simp) rfl;simp [rAt,IsV,slot] at q5 q6 q7 q9;clear hd ho;go_simp;refine (HCK.out wy).mono ?_;rintro e wz ⟨rfl,hz⟩;exact hK _ _ rfl hz
  refine GChV.rel (n:=11) (IsWords [nc]) (stable_isWords _) [_,_,_,_,_,_,_,_,_,_,_,IsWords [nc]] rfl rfl ?_ ?_
  ·intro K' a wy ho hd hb hK;rw [wN rfl];have q10:=hd ⟨10,.data⟩ (by simp) rfl;simp [rAt,IsV,slot] at q10;clear hd ho;go_simp;exact hK _ _ ⟨wy.heap.size,rfl,by simp,fun k hk=>by
    simp only [List.length_cons,List.length_nil] at hk;match k,hk with
    | 0,_=>simp⟩ (bR.alloc (Nat.le_refl _) _)
  refine GChV.rel (n:=12) (IsOwn w.heap.size 5 2 (strCells (twoV nc))) (stable_isOwn _ _ _ _) [_,_,_,_,_,_,_,_,_,_,_,_,IsOwn w.heap.size 5 2 (strCells (twoV nc))] rfl rfl ?_ ?_
  ·intro K' a wy ho hd hb hK;rw [wN rfl];have hr:IsWords [nc] (slot a 73) wy:=hd ⟨11,.data⟩ (by simp) rfl;obtain ⟨b4,e1,e2,e3⟩:=hr;simp [slot] at e1;clear hd ho;go_simp;refine (layWords_any [nc] b4 1 1 wy (by decide) e2 rfl (getD_word _ (by simp only [List.forall_mem_cons,List.not_mem_nil,false_imp_iff,implies_true,and_true]; omega)) e3).mono ?_;rintro e wz ⟨rfl,hown,hz⟩;exact hK _ _ ⟨_,rfl,owns_base (by rw [← HL1.out]; exact hown) (Nat.le_trans hlw2 hb.size)⟩ hz
  intro X wz hR hz;obtain ⟨x0,x1,x2,x3,x4,x5,x6,x7,x8,x9,x10,x11,x12,-⟩:=hR;obtain ⟨b4,e4,-,-⟩:=x11;obtain ⟨g5,e5,own5⟩:=x12;simp only [IsV] at x0 x1 x2 x3 x4 x5 x6 x7 x8 x9 x10;simp only [putsFrom,x0,x1,x2,x3,x4,x5,x6,x7,x8,x9,x10,e4,e5];clear x0 x1 x2 x3 x4 x5 x6 x7 x8 x9 x10;rw [e5] at own5;have hgz:=HGP.out wz hz;have hrun:=run_lay_more (P:=Tryz.prog) (dCap:=cap-pl) 137 137 3 5 Tryz.underlying137 hinfo hgz (o:=pl) (by omega) (dLen:=t.size-pl) (by omega) z2.symm own5;rw [z2] at hrun;have HN2:Hid (HoldsL (wz.setCells b pl (strCells (twoV nc))) b (strCells (putV uu pl (twoV nc)))):=lay_put hgz (by omega);have HB2:Hid (Bxs w [(w.heap.size,(FlR proto src dst sp dp)),(w.heap.size+1,(FlR proto' src' dst' sp' dp')),(w.heap.size+1+1,[.string ⟨#[]⟩,iV 0])] (wz.setCells b pl (strCells (twoV nc)))):=(HCP.out wz hz).cells (fun e he=>by
   simp only [List.mem_cons,List.not_mem_nil,or_false] at he;rcases he with rfl | rfl | rfl<;>(show _≠b; omega)) hbw
  clear hgz own5 hz HCP HGP;intro K10 hK10;go_simp;refine hK10 _ _ ?_;show Exit.then _ _ _ _ _;refine hK2 _ _ (hJ _ _ ?_);(repeat apply Exists.intro)
  exact ⟨⟨HN2.out,HB2.out⟩,rfl⟩
 case rest =>
 obtain ⟨hG,hS⟩:=hcut;have T3:Hid _:=hG;have S3:Hid (Bxs w [(w.heap.size,(FlR proto src dst sp dp)),(w.heap.size+1,(FlR proto' src' dst' sp' dp')),(w.heap.size+1+1,[.string ⟨#[]⟩,iV 0])] wc):=hS;clear hG hS S2 T2 HCK HPL HL1;generalize wc=W3 at *;have hsz3:(putV uu pl (twoV nc)).size=t.size:=by rw [putV_size (by omega)]; exact hs1
 generalize putV uu pl (twoV nc)=vv at *;have hcv:(convert 137 9 (.slice (some ⟨b,0,none⟩) t.size cap)).run Tryz.prog W3=.ok (.string vv) W3:=by rw [← hsz3]; exact hold_str T3.out
 have HX:Hid (ans=dtCO vv 0):=HC0.out;have HHz:=S3.out.at mE2;obtain ⟨z0,z1⟩:=HHz.c2;obtain ⟨zf0,zf1⟩:=HHz.f2;have HRR:Hid (HoldsL ((sW W3 (w.heap.size+1+1) 0 (.string vv)).setCell ⟨w.heap.size+1+1,1,none⟩ (iV 0)) (w.heap.size+1+1) [.string vv,iV 0]):=((HHz.set 0 (.string vv)).set 1 (iV 0));have RB:Hid _:=((S3.out.b.setCell (p:=⟨w.heap.size+1+1,0,none⟩) hRw (.string vv)).setCell (p:=⟨w.heap.size+1+1,1,none⟩) hRw (iV 0));clear HHz;clear HC0 T3;go_wp2_with fail
 exact bodyPost_ret (results_mid Tryz.results115 _ _ _ _ _ rfl HRR.out Tryz.underlying99 rfl (show (Tryz.prog.info? 99).map (·.size)=some 2 by kernel_rfl)) rfl (And.intro (by rw [HX.out]; rfl) RB.out)
end Go.Proofs.YtcckaeppiamebaaGreatDoor
namespace Go.Proofs.YtcckaeppiamebaaGreatDoor
open Go.RowKit Go.PlainAid
theorem copyFour_any (p:P4) (w:World) (h1:p.src.size≤1048576) (h2:p.dst.size≤1048576) (h3:p.opts.size≤1048576) (h4:p.data.size≤1048576) :
  Cb 114 #[p4C p] w (p4C p):=by
 have H1:Hid (∀ W,Cb 154 #[.string p.src] W (.string p.src)):=fun W=>cloneS_any _ W h1
 have H2:Hid (∀ W,Cb 154 #[.string p.dst] W (.string p.dst)):=fun W=>cloneS_any _ W h2
 have H3:Hid (∀ W,Cb 154 #[.string p.opts] W (.string p.opts)):=fun W=>cloneS_any _ W h3
 have H4:Hid (∀ W,Cb 154 #[.string p.data] W (.string p.data)):=fun W=>cloneS_any _ W h4
 have S0:Hid (Bxs w [(w.heap.size+1,(P4R 0 0 false false 0 0 0 ⟨#[]⟩ ⟨#[]⟩ ⟨#[]⟩ ⟨#[]⟩)),(w.heap.size,(P4V p))] ((aW w (P4V p) 40).alloc (.cells (P4R 0 0 false false 0 0 0 ⟨#[]⟩ ⟨#[]⟩ ⟨#[]⟩ ⟨#[]⟩).toArray 40))):=by
  have h:=((⟨fun e he=>(by cases he),Below.refl _ _,fun e he=>(by cases he)⟩ : Bxs w [] w).push (P4V p) (by simp) 40).push (P4R 0 0 false false 0 0 0 ⟨#[]⟩ ⟨#[]⟩ ⟨#[]⟩ ⟨#[]⟩) (by simp) 40;rw [World.size_alloc] at h;exact h
 clear h1 h2 h3 h4;unfold p4C;go_enter Tryz.func114,Tryz.ntmps114
 go_upto_region 1 with fail
 generalize ((aW w (P4V p) 40).alloc (.cells (P4R 0 0 false false 0 0 0 ⟨#[]⟩ ⟨#[]⟩ ⟨#[]⟩ ⟨#[]⟩).toArray 40))=W0 at *;go_cut [3] (fun v wx=>Bxs w [(w.heap.size+1,(P4R 0 0 false false 0 0 0 ⟨#[]⟩ ⟨#[]⟩ ⟨#[]⟩ ⟨#[]⟩)),(w.heap.size,(P4V p))] wx)
 case first =>
  rename_i J K2 hJ hK2;have HCP:Hid (∀ wy,Below W0.drew.heap.size W0.drew wy→_):=fun wy hy=>S0.out.kept (bR.drew.trans hy)
  refine wp_region_growV [3,4,5,6,7,8,9] (by kernel_rfl) (by kernel_rfl) ?_;refine GChV.val (n:=0) (fun v=>[IsV v]) (fun _=>rfl) rfl ?_;apply Exists.intro;refine And.intro ?_ ?_
  ·intro K' a wy ho hd hb hK;rw [wN rfl];have o1:=ho 1 (by decide);simp [slot] at o1;clear hd ho;go_simp;try go_bits
   exact hK _ _ rfl bR
  refine GChV.val (n:=1) (fun v=>[_,IsV v]) (fun _=>rfl) rfl ?_;apply Exists.intro;refine And.intro ?_ ?_
  ·intro K' a wy ho hd hb hK;rw [wN rfl];have q0:=hd ⟨0,.data⟩ (by simp) rfl;simp [rAt,IsV,slot] at q0;clear hd ho;have HHq:HoldsL wy w.heap.size (P4V p):=(HCP.out wy hb).k _ mE1;obtain ⟨k0,k1,k2,k3,k4,k5,k6,k7,k8,k9,k10⟩:=HHq.c11;clear HHq;go_simp;try go_bits
   exact hK _ _ rfl bR
  refine GChV.val (n:=2) (fun v=>[_,_,IsV v]) (fun _=>rfl) rfl ?_;apply Exists.intro;refine And.intro ?_ ?_
  ·intro K' a wy ho hd hb hK;rw [wN rfl];have q1:=hd ⟨1,.data⟩ (by simp) rfl;simp [rAt,IsV,slot] at q1;clear hd ho;go_simp;refine (H1.out wy).mono ?_;rintro e wz ⟨rfl,hz⟩;exact hK _ _ rfl hz
  refine GChV.val (n:=3) (fun v=>[_,_,_,IsV v]) (fun _=>rfl) rfl ?_;apply Exists.intro;refine And.intro ?_ ?_
  ·intro K' a wy ho hd hb hK;rw [wN rfl];have o1:=ho 1 (by decide);simp [slot] at o1;clear hd ho;go_simp;try go_bits
   exact hK _ _ rfl bR
  refine GChV.val (n:=4) (fun v=>[_,_,_,_,IsV v]) (fun _=>rfl) rfl ?_;apply Exists.intro;refine And.intro ?_ ?_
  ·intro K' a wy ho hd hb hK;rw [wN rfl];have q3:=hd ⟨3,.data⟩ (by simp) rfl;simp [rAt,IsV,slot] at q3;clear hd ho;have HHq:HoldsL wy w.heap.size (P4V p):=(HCP.out wy hb).k _ mE1;obtain ⟨k0,k1,k2,k3,k4,k5,k6,k7,k8,k9,k10⟩:=HHq.c11;clear HHq;go_simp;try go_bits
   exact hK _ _ rfl bR
  refine GChV.val (n:=5) (fun v=>[_,_,_,_,_,IsV v]) (fun _=>rfl) rfl ?_;apply Exists.intro;refine And.intro ?_ ?_
  ·intro K' a wy ho hd hb hK;rw [wN rfl];have q4:=hd ⟨4,.data⟩ (by simp) rfl;simp [rAt,IsV,slot] at q4;clear hd ho;go_simp;refine (H2.out wy).mono ?_;rintro e wz ⟨rfl,hz⟩;exact hK _ _ rfl hz
  refine GChV.val (n:=6) (fun v=>[_,_,_,_,_,_,IsV v]) (fun _=>rfl) rfl ?_;apply Exists.intro;refine And.intro ?_ ?_
  ·intro K' a wy ho hd hb hK;rw [wN rfl];have o1:=ho 1 (by decide);simp [slot] at o1;clear hd ho;go_simp;try go_bits
   exact hK _ _ rfl bR
  intro X wz hR hz;obtain ⟨x0,x1,x2,x3,x4,x5,x6,-⟩:=hR;simp only [IsV] at x0 x1 x2 x3 x4 x5 x6;simp only [putsFrom,x0,x1,x2,x3,x4,x5,x6];clear x0 x1 x2 x3 x4 x5 x6;have hS:=HCP.out wz hz;have HHq:=hS.at mE1;have fi:=HHq.free (j:=7) (by simp);have fj:=HHq.free (j:=8) (by simp);have ki:=HHq.cell (j:=7) rfl;have kj:=HHq.cell (j:=8) rfl;have HS:Hid (Bxs w [(w.heap.size+1,(P4R 0 0 false false 0 0 0 ⟨#[]⟩ ⟨#[]⟩ ⟨#[]⟩ ⟨#[]⟩)),(w.heap.size,(P4V p))] wz):=hS;clear hS HHq;intro K10 hK10;go_simp;refine hK10 _ _ ?_;intro K11 hK11;go_simp;refine hK11 _ _ ?_;intro K12 hK12;go_simp;refine hK12 _ _ ?_;show Exit.then _ _ _ _ _;refine hK2 _ _ (hJ _ _ ?_);(repeat apply Exists.intro)
  refine ⟨⟨fun e he=>?_,(HS.out.b.setCell (p:=⟨w.heap.size,7,none⟩) (Nat.le_refl _) _).setCell (p:=⟨w.heap.size,8,none⟩) (Nat.le_refl _) _,HS.out.z⟩,rfl⟩;simp only [List.mem_cons,List.not_mem_nil,or_false] at he;rcases he with rfl | rfl
  ·exact ((HS.out.k _ mE0).setOther (by show w.heap.size+1≠w.heap.size; omega) _).setOther (by show w.heap.size+1≠w.heap.size; omega) _
  ·exact ((HS.out.k _ mE1).set 7 (.string p.src)).set 8 (.string p.dst)
 case rest =>
 have S1:Hid (Bxs w [(w.heap.size+1,(P4R 0 0 false false 0 0 0 ⟨#[]⟩ ⟨#[]⟩ ⟨#[]⟩ ⟨#[]⟩)),(w.heap.size,(P4V p))] wc):=hcut;clear hcut S0;generalize wc=W1 at *;go_upto_region 2 with fail
 go_cut [11] (fun v wx=>Bxs w [(w.heap.size+1,(P4R 0 0 false false 0 0 0 ⟨#[]⟩ ⟨#[]⟩ ⟨#[]⟩ ⟨#[]⟩)),(w.heap.size,(P4V p))] wx)
 case first =>
  rename_i J K2 hJ hK2;have HCP:Hid (∀ wy,Below W1.drew.heap.size W1.drew wy→_):=fun wy hy=>S1.out.kept (bR.drew.trans hy)
  refine wp_region_growV [11,12,13,14,15,16,17] (by kernel_rfl) (by kernel_rfl) ?_;refine GChV.val (n:=0) (fun v=>[IsV v]) (fun _=>rfl) rfl ?_;apply Exists.intro;refine And.intro ?_ ?_
  ·intro K' a wy ho hd hb hK;rw [wN rfl];have o1:=ho 1 (by decide);simp [slot] at o1;clear hd ho;go_simp;try go_bits
   exact hK _ _ rfl bR
  refine GChV.val (n:=1) (fun v=>[_,IsV v]) (fun _=>rfl) rfl ?_;apply Exists.intro;refine And.intro ?_ ?_
  ·intro K' a wy ho hd hb hK;rw [wN rfl];have q0:=hd ⟨0,.data⟩ (by simp) rfl;simp [rAt,IsV,slot] at q0;clear hd ho;have HHq:HoldsL wy w.heap.size (P4V p):=(HCP.out wy hb).k _ mE1;obtain ⟨k0,k1,k2,k3,k4,k5,k6,k7,k8,k9,k10⟩:=HHq.c11;clear HHq;go_simp;try go_bits
   exact hK _ _ rfl bR
  refine GChV.val (n:=2) (fun v=>[_,_,IsV v]) (fun _=>rfl) rfl ?_;apply Exists.intro;refine And.intro ?_ ?_
  ·intro K' a wy ho hd hb hK;rw [wN rfl];have q1:=hd ⟨1,.data⟩ (by simp) rfl;simp [rAt,IsV,slot] at q1;clear hd ho;go_simp;refine (H3.out wy).mono ?_;rintro e wz ⟨rfl,hz⟩;exact hK _ _ rfl hz
  refine GChV.val (n:=3) (fun v=>[_,_,_,IsV v]) (fun _=>rfl) rfl ?_;apply Exists.intro;refine And.intro ?_ ?_
  ·intro K' a wy ho hd hb hK;rw [wN rfl];have o1:=ho 1 (by decide);simp [slot] at o1;clear hd ho;go_simp;try go_bits
   exact hK _ _ rfl bR
  refine GChV.val (n:=4) (fun v=>[_,_,_,_,IsV v]) (fun _=>rfl) rfl ?_;apply Exists.intro;refine And.intro ?_ ?_
  ·intro K' a wy ho hd hb hK;rw [wN rfl];have q3:=hd ⟨3,.data⟩ (by simp) rfl;simp [rAt,IsV,slot] at q3;clear hd ho;have HHq:HoldsL wy w.heap.size (P4V p):=(HCP.out wy hb).k _ mE1;obtain ⟨k0,k1,k2,k3,k4,k5,k6,k7,k8,k9,k10⟩:=HHq.c11;clear HHq;go_simp;try go_bits
   exact hK _ _ rfl bR
  refine GChV.val (n:=5) (fun v=>[_,_,_,_,_,IsV v]) (fun _=>rfl) rfl ?_;apply Exists.intro;refine And.intro ?_ ?_
  ·intro K' a wy ho hd hb hK;rw [wN rfl];have q4:=hd ⟨4,.data⟩ (by simp) rfl;simp [rAt,IsV,slot] at q4;clear hd ho;go_simp;refine (H4.out wy).mono ?_;rintro e wz ⟨rfl,hz⟩;exact hK _ _ rfl hz
  refine GChV.val (n:=6) (fun v=>[_,_,_,_,_,_,IsV v]) (fun _=>rfl) rfl ?_;apply Exists.intro;refine And.intro ?_ ?_
  ·intro K' a wy ho hd hb hK;rw [wN rfl];have o1:=ho 1 (by decide);simp [slot] at o1;clear hd ho;go_simp;try go_bits
   exact hK _ _ rfl bR
  intro X wz hR hz;obtain ⟨x0,x1,x2,x3,x4,x5,x6,-⟩:=hR;simp only [IsV] at x0 x1 x2 x3 x4 x5 x6;simp only [putsFrom,x0,x1,x2,x3,x4,x5,x6];clear x0 x1 x2 x3 x4 x5 x6;have hS:=HCP.out wz hz;have HHq:=hS.at mE1;have fi:=HHq.free (j:=9) (by simp);have fj:=HHq.free (j:=10) (by simp);have ki:=HHq.cell (j:=9) rfl;have kj:=HHq.cell (j:=10) rfl;have HS:Hid (Bxs w [(w.heap.size+1,(P4R 0 0 false false 0 0 0 ⟨#[]⟩ ⟨#[]⟩ ⟨#[]⟩ ⟨#[]⟩)),(w.heap.size,(P4V p))] wz):=hS;clear hS HHq;intro K10 hK10;go_simp;refine hK10 _ _ ?_;intro K11 hK11;go_simp;refine hK11 _ _ ?_;intro K12 hK12;go_simp;refine hK12 _ _ ?_;show Exit.then _ _ _ _ _;refine hK2 _ _ (hJ _ _ ?_);(repeat apply Exists.intro)
  refine ⟨⟨fun e he=>?_,(HS.out.b.setCell (p:=⟨w.heap.size,9,none⟩) (Nat.le_refl _) _).setCell (p:=⟨w.heap.size,10,none⟩) (Nat.le_refl _) _,HS.out.z⟩,rfl⟩;simp only [List.mem_cons,List.not_mem_nil,or_false] at he;rcases he with rfl | rfl
  ·exact ((HS.out.k _ mE0).setOther (by show w.heap.size+1≠w.heap.size; omega) _).setOther (by show w.heap.size+1≠w.heap.size; omega) _
  ·exact ((HS.out.k _ mE1).set 9 (.string p.opts)).set 10 (.string p.data)
 case rest =>
 have S2:Hid (Bxs w [(w.heap.size+1,(P4R 0 0 false false 0 0 0 ⟨#[]⟩ ⟨#[]⟩ ⟨#[]⟩ ⟨#[]⟩)),(w.heap.size,(P4V p))] wc):=hcut;clear hcut S1;generalize wc=W2 at *;have HHq:=S2.out.at mE1;obtain ⟨k0,k1,k2,k3,k4,k5,k6,k7,k8,k9,k10⟩:=HHq.c11;clear HHq;have HHq:=S2.out.at mE0;obtain ⟨z0,z1,z2,z3,z4,z5,z6,z7,z8,z9,z10⟩:=HHq.c11;obtain ⟨zf0,zf1,zf2,zf3,zf4,zf5,zf6,zf7,zf8,zf9,zf10⟩:=HHq.f11;clear HHq;have HBE:Hid (Below w.heap.size w ((sW (sW (sW (sW (sW (sW (sW (sW (sW (sW W2 (w.heap.size+1) 0 (iV p.tos)) (w.heap.size+1) 1 (iV p.id)) (w.heap.size+1) 2 (.bool p.whole)) (w.heap.size+1) 3 (.bool p.more)) (w.heap.size+1) 4 (iV p.off)) (w.heap.size+1) 5 (iV p.ttl)) (w.heap.size+1) 6 (iV p.proto)) (w.heap.size+1) 7 (.string p.src)) (w.heap.size+1) 8 (.string p.dst)) (w.heap.size+1) 9 (.string p.opts)).setCell ⟨w.heap.size+1,10,none⟩ (.string p.data))):=(((((((((((S2.out.b.setCell (p:=⟨w.heap.size+1,0,none⟩) (Nat.le_succ _) _).setCell (p:=⟨w.heap.size+1,1,none⟩) (Nat.le_succ _) _).setCell (p:=⟨w.heap.size+1,2,none⟩) (Nat.le_succ _) _).setCell (p:=⟨w.heap.size+1,3,none⟩) (Nat.le_succ _) _).setCell (p:=⟨w.heap.size+1,4,none⟩) (Nat.le_succ _) _).setCell (p:=⟨w.heap.size+1,5,none⟩) (Nat.le_succ _) _).setCell (p:=⟨w.heap.size+1,6,none⟩) (Nat.le_succ _) _).setCell (p:=⟨w.heap.size+1,7,none⟩) (Nat.le_succ _) _).setCell (p:=⟨w.heap.size+1,8,none⟩) (Nat.le_succ _) _).setCell (p:=⟨w.heap.size+1,9,none⟩) (Nat.le_succ _) _).setCell (p:=⟨w.heap.size+1,10,none⟩) (Nat.le_succ _) _);clear S2;go_wp2_with fail
 exact bodyPost_ret (v:=.agg (P4V p).toArray) (by simp [results,Tryz.results114,go_sem,z0,z1,z2,z3,z4,z5,z6,z7,z8,z9,z10]) rfl ⟨rfl,HBE.out⟩
theorem asFlow_any (q:P4) (f g:Fl) (d:ByteArray) (c:Int) (w:World) (h1:q.src.size≤1048576) (h2:q.dst.size≤1048576) (h3:q.opts.size≤1048576) (h4:q.data.size≤1048576)
  (HS:Hid (∀ W,Cb 115 #[fwC f,fwC g,.string q.data] W (dtCO d c))) :
  Cb 63 #[p4C q,fwC f,fwC g] w (p4C { q with src:=g.src,dst:=g.dst,data:=d }):=by
 have HC:Hid (∀ W,Cb 114 #[p4C q] W (p4C q)):=fun W=>copyFour_any q W h1 h2 h3 h4
 have S0:Hid (Bxs w [(w.heap.size+1+1+1,(P4R 0 0 false false 0 0 0 ⟨#[]⟩ ⟨#[]⟩ ⟨#[]⟩ ⟨#[]⟩)),(w.heap.size+1+1,(FlV g)),(w.heap.size+1,(FlV f)),(w.heap.size,(P4V q))] ((aW (aW (aW w (P4V q) 40) (FlV f) 91) (FlV g) 91).alloc (.cells (P4R 0 0 false false 0 0 0 ⟨#[]⟩ ⟨#[]⟩ ⟨#[]⟩ ⟨#[]⟩).toArray 40))):=by
  have h:=((((⟨fun e he=>(by cases he),Below.refl _ _,fun e he=>(by cases he)⟩ : Bxs w [] w).push (P4V q) (by simp) 40).push (FlV f) (by simp) 91).push (FlV g) (by simp) 91).push (P4R 0 0 false false 0 0 0 ⟨#[]⟩ ⟨#[]⟩ ⟨#[]⟩ ⟨#[]⟩) (by simp) 40;simp only [World.size_alloc] at h;exact h
 clear h1 h2 h3 h4;unfold p4C fwC dtCO at *;go_enter Tryz.func63,Tryz.ntmps63
 go_upto_region 1 with fail
 generalize ((aW (aW (aW w (P4V q) 40) (FlV f) 91) (FlV g) 91).alloc (.cells (P4R 0 0 false false 0 0 0 ⟨#[]⟩ ⟨#[]⟩ ⟨#[]⟩ ⟨#[]⟩).toArray 40))=W0 at *;have HHq:=S0.out.at mE3;obtain ⟨k0,k1,k2,k3,k4,k5,k6,k7,k8,k9,k10⟩:=HHq.c11;clear HHq;go_wp2_with fail
 refine (HC.out W0).mono ?_;rintro e w1 ⟨rfl,qx⟩;have S1:Hid (Bxs w [(w1.heap.size,(P4V q)),(w.heap.size+1+1+1,(P4R 0 0 false false 0 0 0 ⟨#[]⟩ ⟨#[]⟩ ⟨#[]⟩ ⟨#[]⟩)),(w.heap.size+1+1,(FlV g)),(w.heap.size+1,(FlV f)),(w.heap.size,(P4V q))] (w1.alloc (.cells (P4V q).toArray 40))):=(S0.out.kept qx).push (P4V q) (by simp) 40;have hn:w.heap.size+1+1+1 < w1.heap.size:=((S0.out.kept qx).k _ mE0).lt (by simp);clear S0 qx HC k0 k1 k2 k3 k4 k5 k6 k7 k8 k9 k10;go_upto_region 2 with fail
 generalize (w1.alloc (.cells (P4V q).toArray 40))=W1 at *;generalize w1.heap.size=Nb at *;go_cut [10] (fun v wx=>Bxs w [(Nb,(P4R q.tos q.id q.whole q.more q.off q.ttl q.proto g.src g.dst q.opts d)),(w.heap.size+1+1+1,(P4R 0 0 false false 0 0 0 ⟨#[]⟩ ⟨#[]⟩ ⟨#[]⟩ ⟨#[]⟩)),(w.heap.size+1+1,(FlV g)),(w.heap.size+1,(FlV f)),(w.heap.size,(P4V q))] wx)
 case first =>
  have e0:w.heap.size≠Nb:=by omega
  have e1:w.heap.size+1≠Nb:=by omega
  have e2:w.heap.size+1+1≠Nb:=by omega
  have e3:Nb≠w.heap.size:=by omega
  have e4:Nb≠w.heap.size+1:=by omega
  have e5:Nb≠w.heap.size+1+1:=by omega
  have kq:W1.cell? ⟨w.heap.size,10,none⟩=some (.string q.data):=(S1.out.k _ mE4:HoldsL W1 (w.heap.size) (P4V q)).cell rfl;have kf0:W1.cell? ⟨w.heap.size+1,0,none⟩=some (iV f.proto):=(S1.out.k _ mE3:HoldsL W1 (w.heap.size+1) (FlV f)).cell rfl;have kf1:W1.cell? ⟨w.heap.size+1,1,none⟩=some (.string f.src):=(S1.out.k _ mE3:HoldsL W1 (w.heap.size+1) (FlV f)).cell rfl;have kf2:W1.cell? ⟨w.heap.size+1,2,none⟩=some (.string f.dst):=(S1.out.k _ mE3:HoldsL W1 (w.heap.size+1) (FlV f)).cell rfl;have kf3:W1.cell? ⟨w.heap.size+1,3,none⟩=some (iV f.sp):=(S1.out.k _ mE3:HoldsL W1 (w.heap.size+1) (FlV f)).cell rfl;have kf4:W1.cell? ⟨w.heap.size+1,4,none⟩=some (iV f.dp):=(S1.out.k _ mE3:HoldsL W1 (w.heap.size+1) (FlV f)).cell rfl;have kg0:W1.cell? ⟨w.heap.size+1+1,0,none⟩=some (iV g.proto):=(S1.out.k _ mE2:HoldsL W1 (w.heap.size+1+1) (FlV g)).cell rfl;have kg1:W1.cell? ⟨w.heap.size+1+1,1,none⟩=some (.string g.src):=(S1.out.k _ mE2:HoldsL W1 (w.heap.size+1+1) (FlV g)).cell rfl;have kg2:W1.cell? ⟨w.heap.size+1+1,2,none⟩=some (.string g.dst):=(S1.out.k _ mE2:HoldsL W1 (w.heap.size+1+1) (FlV g)).cell rfl;have kg3:W1.cell? ⟨w.heap.size+1+1,3,none⟩=some (iV g.sp):=(S1.out.k _ mE2:HoldsL W1 (w.heap.size+1+1) (FlV g)).cell rfl;have kg4:W1.cell? ⟨w.heap.size+1+1,4,none⟩=some (iV g.dp):=(S1.out.k _ mE2:HoldsL W1 (w.heap.size+1+1) (FlV g)).cell rfl;have kn7:W1.cell? ⟨Nb,7,none⟩=some (.string q.src):=(S1.out.k _ mE0:HoldsL W1 Nb (P4V q)).cell rfl;have km7:W1.frozen? ⟨Nb,7,none⟩=false:=(S1.out.k _ mE0:HoldsL W1 Nb (P4V q)).free (j:=7) (by simp);have kn8:W1.cell? ⟨Nb,8,none⟩=some (.string q.dst):=(S1.out.k _ mE0:HoldsL W1 Nb (P4V q)).cell rfl;have km8:W1.frozen? ⟨Nb,8,none⟩=false:=(S1.out.k _ mE0:HoldsL W1 Nb (P4V q)).free (j:=8) (by simp);have kn10:W1.cell? ⟨Nb,10,none⟩=some (.string q.data):=(S1.out.k _ mE0:HoldsL W1 Nb (P4V q)).cell rfl
  have km10:W1.frozen? ⟨Nb,10,none⟩=false:=(S1.out.k _ mE0:HoldsL W1 Nb (P4V q)).free (j:=10) (by simp);have hfd:∀ W,(Instr.field 99 (.agg #[.string d,iV c]) 0).run Tryz.prog W=.ok (.string d) W:=fun W=>by kernel_rfl
  go_region_held (fun wy=>wy.cell? ⟨w.heap.size,10,none⟩=some (.string q.data)∧wy.cell? ⟨w.heap.size+1,0,none⟩=some (iV f.proto)∧wy.cell? ⟨w.heap.size+1,1,none⟩=some (.string f.src)∧wy.cell? ⟨w.heap.size+1,2,none⟩=some (.string f.dst)∧wy.cell? ⟨w.heap.size+1,3,none⟩=some (iV f.sp)∧wy.cell? ⟨w.heap.size+1,4,none⟩=some (iV f.dp)∧wy.cell? ⟨w.heap.size+1+1,0,none⟩=some (iV g.proto)∧wy.cell? ⟨w.heap.size+1+1,1,none⟩=some (.string g.src)∧wy.cell? ⟨w.heap.size+1+1,2,none⟩=some (.string g.dst)∧wy.cell? ⟨w.heap.size+1+1,3,none⟩=some (iV g.sp)∧wy.cell? ⟨w.heap.size+1+1,4,none⟩=some (iV g.dp)) (go_keep) (first | (go_at_call 115; refine (HS.out _).mono ?_; rintro e w5 ⟨rfl,qx⟩; have S5:Hid _:=S1.out.kept (bR.drew.trans qx); clear qx; have lq:w5.cell? ⟨w.heap.size,10,none⟩=some (.string q.data):=(S5.out.k _ mE4:HoldsL w5 (w.heap.size) (P4V q)).cell rfl; have lf0:w5.cell? ⟨w.heap.size+1,0,none⟩=some (iV f.proto):=(S5.out.k _ mE3:HoldsL w5 (w.heap.size+1) (FlV f)).cell rfl; have lf1:w5.cell? ⟨w.heap.size+1,1,none⟩=some (.string f.src):=(S5.out.k _ mE3:HoldsL w5 (w.heap.size+1) (FlV f)).cell rfl; have lf2:w5.cell? ⟨w.heap.size+1,2,none⟩=some (.string f.dst):=(S5.out.k _ mE3:HoldsL w5 (w.heap.size+1) (FlV f)).cell rfl; have lf3:w5.cell? ⟨w.heap.size+1,3,none⟩=some (iV f.sp):=(S5.out.k _ mE3:HoldsL w5 (w.heap.size+1) (FlV f)).cell rfl; have lf4:w5.cell? ⟨w.heap.size+1,4,none⟩=some (iV f.dp):=(S5.out.k _ mE3:HoldsL w5 (w.heap.size+1) (FlV f)).cell rfl; have lg0:w5.cell? ⟨w.heap.size+1+1,0,none⟩=some (iV g.proto):=(S5.out.k _ mE2:HoldsL w5 (w.heap.size+1+1) (FlV g)).cell rfl; have lg1:w5.cell? ⟨w.heap.size+1+1,1,none⟩=some (.string g.src):=(S5.out.k _ mE2:HoldsL w5 (w.heap.size+1+1) (FlV g)).cell rfl; have lg2:w5.cell? ⟨w.heap.size+1+1,2,none⟩=some (.string g.dst):=(S5.out.k _ mE2:HoldsL w5 (w.heap.size+1+1) (FlV g)).cell rfl; have lg3:w5.cell? ⟨w.heap.size+1+1,3,none⟩=some (iV g.sp):=(S5.out.k _ mE2:HoldsL w5 (w.heap.size+1+1) (FlV g)).cell rfl; have lg4:w5.cell? ⟨w.heap.size+1+1,4,none⟩=some (iV g.dp):=(S5.out.k _ mE2:HoldsL w5 (w.heap.size+1+1) (FlV g)).cell rfl; have ln7:w5.cell? ⟨Nb,7,none⟩=some (.string q.src):=(S5.out.k _ mE0:HoldsL w5 Nb (P4V q)).cell rfl; have lm7:w5.frozen? ⟨Nb,7,none⟩=false:=(S5.out.k _ mE0:HoldsL w5 Nb (P4V q)).free (j:=7) (by simp); have ln8:w5.cell? ⟨Nb,8,none⟩=some (.string q.dst):=(S5.out.k _ mE0:HoldsL w5 Nb (P4V q)).cell rfl; have lm8:w5.frozen? ⟨Nb,8,none⟩=false:=(S5.out.k _ mE0:HoldsL w5 Nb (P4V q)).free (j:=8) (by simp); have ln10:w5.cell? ⟨Nb,10,none⟩=some (.string q.data):=(S5.out.k _ mE0:HoldsL w5 Nb (P4V q)).cell rfl; have lm10:w5.frozen? ⟨Nb,10,none⟩=false:=(S5.out.k _ mE0:HoldsL w5 Nb (P4V q)).free (j:=10) (by simp); clear kq kf0 kf1 kf2 kf3 kf4 kg0 kg1 kg2 kg3 kg4 kn7 km7 kn8 km8 kn10 km10))
  have SX:Hid (Bxs w [(Nb,(P4R q.tos q.id q.whole q.more q.off q.ttl q.proto g.src g.dst q.opts d)),(w.heap.size+1+1+1,(P4R 0 0 false false 0 0 0 ⟨#[]⟩ ⟨#[]⟩ ⟨#[]⟩ ⟨#[]⟩)),(w.heap.size+1+1,(FlV g)),(w.heap.size+1,(FlV f)),(w.heap.size,(P4V q))] ((sW (sW w5 Nb 7 (.string g.src)) Nb 8 (.string g.dst)).setCell ⟨Nb,10,none⟩ (.string d))):=⟨fun e he=>by
   simp only [List.mem_cons,List.not_mem_nil,or_false] at he;rcases he with rfl | rfl | rfl | rfl | rfl
   ·exact ((((S5.out.k _ mE0).set 7 (.string g.src)).set 8 (.string g.dst)).set 10 (.string d))
   ·exact ((((S5.out.k _ mE1).setOther (by show w.heap.size+1+1+1≠Nb; omega) _).setOther (by show w.heap.size+1+1+1≠Nb; omega) _).setOther (by show w.heap.size+1+1+1≠Nb; omega) _)
   ·exact ((((S5.out.k _ mE2).setOther (by show w.heap.size+1+1≠Nb; omega) _).setOther (by show w.heap.size+1+1≠Nb; omega) _).setOther (by show w.heap.size+1+1≠Nb; omega) _)
   ·exact ((((S5.out.k _ mE3).setOther (by show w.heap.size+1≠Nb; omega) _).setOther (by show w.heap.size+1≠Nb; omega) _).setOther (by show w.heap.size+1≠Nb; omega) _)
   ·exact ((((S5.out.k _ mE4).setOther (by show w.heap.size≠Nb; omega) _).setOther (by show w.heap.size≠Nb; omega) _).setOther (by show w.heap.size≠Nb; omega) _),(((S5.out.b.setCell (p:=⟨Nb,7,none⟩) (show w.heap.size≤Nb by omega) _).setCell (p:=⟨Nb,8,none⟩) (show w.heap.size≤Nb by omega) _).setCell (p:=⟨Nb,10,none⟩) (show w.heap.size≤Nb by omega) _),fun e he=>by
   simp only [List.mem_cons,List.not_mem_nil,or_false] at he;rcases he with rfl | rfl | rfl | rfl | rfl<;>simp⟩
  all_goals go_wp2_with fail
  all_goals go_meet
  all_goals exact SX.out
 case rest =>
 have S2:Hid (Bxs w [(Nb,(P4R q.tos q.id q.whole q.more q.off q.ttl q.proto g.src g.dst q.opts d)),(w.heap.size+1+1+1,(P4R 0 0 false false 0 0 0 ⟨#[]⟩ ⟨#[]⟩ ⟨#[]⟩ ⟨#[]⟩)),(w.heap.size+1+1,(FlV g)),(w.heap.size+1,(FlV f)),(w.heap.size,(P4V q))] wc):=hcut;clear hcut S1 HS;generalize wc=W2 at *;have HHq:=S2.out.at mE0;obtain ⟨k0,k1,k2,k3,k4,k5,k6,k7,k8,k9,k10⟩:=HHq.c11;clear HHq;have HHq:=S2.out.at mE1;obtain ⟨z0,z1,z2,z3,z4,z5,z6,z7,z8,z9,z10⟩:=HHq.c11;obtain ⟨zf0,zf1,zf2,zf3,zf4,zf5,zf6,zf7,zf8,zf9,zf10⟩:=HHq.f11;clear HHq;have HBE:Hid (Below w.heap.size w ((sW (sW (sW (sW (sW (sW (sW (sW (sW (sW W2 (w.heap.size+1+1+1) 0 (iV q.tos)) (w.heap.size+1+1+1) 1 (iV q.id)) (w.heap.size+1+1+1) 2 (.bool q.whole)) (w.heap.size+1+1+1) 3 (.bool q.more)) (w.heap.size+1+1+1) 4 (iV q.off)) (w.heap.size+1+1+1) 5 (iV q.ttl)) (w.heap.size+1+1+1) 6 (iV q.proto)) (w.heap.size+1+1+1) 7 (.string g.src)) (w.heap.size+1+1+1) 8 (.string g.dst)) (w.heap.size+1+1+1) 9 (.string q.opts)).setCell ⟨w.heap.size+1+1+1,10,none⟩ (.string d))):=(((((((((((S2.out.b.setCell (p:=⟨w.heap.size+1+1+1,0,none⟩) (show w.heap.size≤w.heap.size+1+1+1 by omega) _).setCell (p:=⟨w.heap.size+1+1+1,1,none⟩) (show w.heap.size≤w.heap.size+1+1+1 by omega) _).setCell (p:=⟨w.heap.size+1+1+1,2,none⟩) (show w.heap.size≤w.heap.size+1+1+1 by omega) _).setCell (p:=⟨w.heap.size+1+1+1,3,none⟩) (show w.heap.size≤w.heap.size+1+1+1 by omega) _).setCell (p:=⟨w.heap.size+1+1+1,4,none⟩) (show w.heap.size≤w.heap.size+1+1+1 by omega) _).setCell (p:=⟨w.heap.size+1+1+1,5,none⟩) (show w.heap.size≤w.heap.size+1+1+1 by omega) _).setCell (p:=⟨w.heap.size+1+1+1,6,none⟩) (show w.heap.size≤w.heap.size+1+1+1 by omega) _).setCell (p:=⟨w.heap.size+1+1+1,7,none⟩) (show w.heap.size≤w.heap.size+1+1+1 by omega) _).setCell (p:=⟨w.heap.size+1+1+1,8,none⟩) (show w.heap.size≤w.heap.size+1+1+1 by omega) _).setCell (p:=⟨w.heap.size+1+1+1,9,none⟩) (show w.heap.size≤w.heap.size+1+1+1 by omega) _).setCell (p:=⟨w.heap.size+1+1+1,10,none⟩) (show w.heap.size≤w.heap.size+1+1+1 by omega) _);clear S2;go_wp2_with fail
 exact bodyPost_ret (v:=.agg (P4R q.tos q.id q.whole q.more q.off q.ttl q.proto g.src g.dst q.opts d).toArray) (by simp [results,Tryz.results63,go_sem,z0,z1,z2,z3,z4,z5,z6,z7,z8,z9,z10]) rfl ⟨rfl,HBE.out⟩
end Go.Proofs.YtcckaeppiamebaaGreatDoor
