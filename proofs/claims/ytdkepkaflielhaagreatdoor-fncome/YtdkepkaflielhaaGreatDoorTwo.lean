import Derived.Test.YtdkepkaflielhaaGreatDoorAb
import Derived.Test.YtdkepkaflielhaaGreatDoorSums
import Derived.Laws.IdiomStrings
set_option linter.unusedVariables false
set_option linter.unusedSimpArgs false
set_option maxRecDepth 100000
set_option maxHeartbeats 8000000
namespace Go.Proofs.YtdkepkaflielhaaGreatDoor
open Go.RowKit Go.PlainAid
def twoL (n:Int):List UInt8:=[UInt8.ofNat (n / 256).toNat,UInt8.ofNat (n % 256).toNat]
def twoV (n:Int):ByteArray:=⟨(twoL n).toArray⟩
theorem u8_ofNat (x:Int) (h0:0≤x) (h1:x≤255):((UInt8.ofNat x.toNat).toNat:Int)=x:=by
 rw [UInt8.toNat_ofNat']; omega
theorem two_cells {w:World} {b:Nat} {n:Int} (h0:0≤n) (h1:n≤65535)
  (hc0:w.cell? ⟨b,0,none⟩=some (.int .u8 (n / 256))) (hc1:w.cell? ⟨b,1,none⟩=some (.int .u8 (n % 256))) :
  ∀ j (hj:j < (twoL n).length),w.cell? (Addr.add ⟨b,0,none⟩ j)=some (.int .u8 ((twoL n)[j].toNat:Int)):=by
 intro j hj;match j,hj with
 | 0,_=>simp only [Addr.add,Nat.add_zero,twoL,List.getElem_cons_zero]; rw [u8_ofNat _ (by omega) (by omega)]; exact hc0
 | 1,_=>simp only [Addr.add,Nat.zero_add,twoL,List.getElem_cons_succ,List.getElem_cons_zero]; rw [u8_ofNat _ (by omega) (by omega)]; exact hc1
theorem two_conv {w:World} {b cap:Nat} {n:Int} (h0:0≤n) (h1:n≤65535)
  (hc0:w.cell? ⟨b,0,none⟩=some (.int .u8 (n / 256))) (hc1:w.cell? ⟨b,1,none⟩=some (.int .u8 (n % 256))) :
  (convert 22 9 (.slice (some ⟨b,0,none⟩) 2 cap)).run Tryz.prog w=.ok (.string (twoV n)) w :=
 run_convert_bytes_back (P:=Tryz.prog) w 22 9 5 ⟨b,0,none⟩ cap (twoL n) Tryz.underlying22 Tryz.underlying5 Tryz.underlying9 (two_cells h0 h1 hc0 hc1)
theorem specTwo_any (n:Int) (w:World) (h0:0≤n) (h1:n≤65535) :
  Cb 73 #[iV n] w (.string (twoV n)):=by
 have hcv:=two_conv (w:=w.alloc (.cells #[.int .u8 (n / 256),.int .u8 (n % 256)] 5)) (b:=w.heap.size) (cap:=2) h0 h1 (by simp) (by simp);go_enter Tryz.func73,Tryz.ntmps73
 go_wp2
 go_ret;exact ⟨rfl,bR.alloc (Nat.le_refl _) _⟩
def isW (n:Int):Bool:=decide (0≤n)&&decide (n≤65535)
theorem isW_yes {n:Int} (h0:0≤n) (h1:n≤65535):isW n=true:=by simp [isW,h0,h1]
theorem isW_no {n:Int} (h:¬ (0≤n∧n≤65535)):isW n=false:=by
 rw [Bool.eq_false_iff]; intro hh; simp [isW] at hh; exact h hh
theorem specWordIs_any (n:Int) (w:World) :
  Cw 39 #[iV n] w (.bool (isW n)):=by
 by_cases h0:0≤n
 ·by_cases h1:n≤65535
  ·have HV:Hid (isW n=true):=isW_yes h0 h1;go_enter Tryz.func39,Tryz.ntmps39
   go_wp2
   go_ret;exact ⟨ret_bool HV.out.symm,rfl⟩
  ·have HV:Hid (isW n=false):=isW_no (fun h=>h1 h.2);go_enter Tryz.func39,Tryz.ntmps39
   go_wp2
   go_ret;exact ⟨ret_bool HV.out.symm,rfl⟩
 ·have HV:Hid (isW n=false):=isW_no (fun h=>h0 h.1);go_enter Tryz.func39,Tryz.ntmps39
  go_wp2
  go_ret;exact ⟨ret_bool HV.out.symm,rfl⟩
theorem implWordIs_any (n:Int) (w:World) :
  Cw 122 #[iV n] w (.bool (isW n)):=by
 by_cases h0:0≤n
 ·by_cases h1:n≤65535
  ·have HV:Hid (isW n=true):=isW_yes h0 h1;go_enter Tryz.func122,Tryz.ntmps122
   go_wp2
   go_ret;exact ⟨ret_bool HV.out.symm,rfl⟩
  ·have HV:Hid (isW n=false):=isW_no (fun h=>h1 h.2);go_enter Tryz.func122,Tryz.ntmps122
   go_wp2
   go_ret;exact ⟨ret_bool HV.out.symm,rfl⟩
 ·have HV:Hid (isW n=false):=isW_no (fun h=>h0 h.1);go_enter Tryz.func122,Tryz.ntmps122
  go_wp2
  go_ret;exact ⟨ret_bool HV.out.symm,rfl⟩
def layL:List Int→List Int
 | []=>[]
 | n::r=>n / 256::n % 256::layL r
theorem layL_length (ws:List Int):(layL ws).length=2*ws.length:=by
 induction ws with
 | nil=>rfl
 | cons n r ih=>simp [layL,ih]; omega
theorem layL_append (a:List Int) (n:Int):layL (a++[n])=layL a++[n / 256,n % 256]:=by
 induction a with
 | nil=>rfl
 | cons m r ih=>simp [layL,ih]
theorem lay_step {ws:List Int} {k:Nat} {n:Int} {w2:World} {B e:Nat} {v:Value} (hn:n=ws.getD k 0) (hk:k < ws.length)
  (h:w2.ownsRow B e 1 v (2*k+2) ((layL (ws.take k)).map (Value.int .u8)++[Value.int .u8 (n / 256),Value.int .u8 (n % 256)])) :
  w2.ownsRow B e 1 v (2*(k+1)) ((layL (ws.take (k+1))).map (Value.int .u8)):=by
 have e1:ws.take (k+1)=ws.take k++[n]:=by
  rw [List.take_succ_eq_append_getElem hk,hn]; simp [List.getD,hk]
 rw [e1,layL_append,List.map_append];exact h
theorem Tryz.info5:(Tryz.prog.info? 5).map (fun i=>(i.zero,i.size,i.bytes))=some (some (.int .u8 0),1,1):=by kernel_rfl
theorem layWords_any (ws:List Int) (b m cap:Nat) (w:World) (hm:m≤1000) (hb:b < w.heap.size) (hl:ws.length=m)
  (hw:∀ k,0≤ws.getD k 0∧ws.getD k 0≤65535) (hc:∀ k,k < m→w.cell? ⟨b,k,none⟩=some (iV (ws.getD k 0))) :
  Calls Tryz.prog 154 #[.slice (some ⟨b,0,none⟩) m cap] w fun e w'=>e=.returned (.slice (some ⟨w.heap.size,0,none⟩) (2*m) (2*m)) ∧
   w'.ownsRow w.heap.size 5 1 (.slice (some ⟨w.heap.size,0,none⟩) (2*m) (2*m)) (2*m) ((layL ws).map (Value.int .u8))∧Below w.heap.size w w':=by
 obtain ⟨i0,hi,hz0,hz1,hz2⟩:=info_parts Tryz.info5;go_enter Tryz.func154,Tryz.ntmps154
 go_wp2_with (at_make; refine wpList_make_own _ rfl _ _ 22 rfl w.heap.size 5 i0 (.int .u8 0) 1 Tryz.underlying22 hi hz0 hz1 .i64 .i64 _ (2*m) rfl rfl (by omega) (by rw [hz2]; omega) (by unfold maxLen; omega) (Nat.le_refl _) ?_; intro w1 hown hgrow)
 have hbel:Below w.heap.size w w1:=bR.grown hgrow (Nat.le_refl _) (by simp);clear hgrow;go_loopw [3,12] (fun v i wr=>∃ k:Nat,k≤m∧i=iV k∧v=.slice (some ⟨w.heap.size,0,none⟩) (2*k) (2*m) ∧
   wr.ownsRow w.heap.size 5 1 (.slice (some ⟨w.heap.size,0,none⟩) (2*k) (2*m)) (2*k) ((layL (ws.take k)).map (Value.int .u8))∧Below w.heap.size w wr) (fun _ i _=>m-(intOf i).toNat)
 case atStart=>exact ⟨0,Nat.zero_le _,rfl,rfl,by simpa [layL] using hown,hbel⟩
 case round =>
  clear hown hbel;obtain ⟨k,hk,rfl,rfl,hown,hbel⟩:=hrel;by_cases hlt:k < m
  ·have hcx:wr.cell? ⟨b,k,none⟩=some (iV (ws.getD k 0)):=(hbel.cell (p:=⟨b,k,none⟩) hb).trans (hc k hlt);obtain ⟨n,hn⟩ : ∃ n,n=ws.getD k 0:=⟨_,rfl⟩;have hwn:=hw k;rw [← hn] at hcx hwn;have HN:Hid (n=ws.getD k 0):=hn;clear hn hw hc;have hsz:=hbel.size;go_wp2_with (at_builtin; refine wpList_append_fits _ rfl (.tmp 16) (.tmp 22) 22 rfl w.heap.size 5 i0 1 Tryz.underlying22 hi hz1 w.heap.size (2*k) (2*m) _ rfl (hown.alloc _) ⟨wr.heap.size,0,none⟩ 2 2 [.int .u8 (n / 256),.int .u8 (n % 256)] rfl rfl ?c1 ?c2 (by omega) ?_)
   case c1 =>
    intro j u hj;match j,hj with
    | 0,hj=>simp at hj; subst hj; simp [Addr.add]
    | 1,hj=>simp at hj; subst hj; simp [Addr.add]
   case c2=>intro u hu; simp at hu; rcases hu with rfl | rfl<;>rfl
   ·intro w2 hown2 hgrow2;have hbel2:Below w.heap.size w w2:=(hbel.alloc hsz _).grown hgrow2 (by simp; omega) (by simp);have R:=lay_step HN.out (by omega) hown2;clear hown2 hgrow2 hown hbel hcx;go_wp2
    go_roundw
    case rel=>exact ⟨k+1,by omega,by go_num,rfl,R,hbel2⟩
    case measure=>simp [intOf]; omega
  ·have hkm:k=m:=by omega
   subst hkm;have R:wr.ownsRow w.heap.size 5 1 (.slice (some ⟨w.heap.size,0,none⟩) (2*k) (2*k)) (2*k) ((layL ws).map (Value.int .u8)):=by
    rw [List.take_of_length_le (by omega)] at hown; exact hown
   clear hown;go_wp2
   go_ret;exact ⟨rfl,R,hbel⟩
end Go.Proofs.YtdkepkaflielhaaGreatDoor
