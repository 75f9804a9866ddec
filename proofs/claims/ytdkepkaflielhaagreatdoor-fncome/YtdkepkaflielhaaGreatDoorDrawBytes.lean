import Derived.Test.YtdkepkaflielhaaGreatDoorAb
import Derived.Test.YtdkepkaflielhaaGreatDoorDraw
import Derived.Laws.IdiomStrings
set_option linter.unusedVariables false
set_option linter.unusedSimpArgs false
set_option maxRecDepth 100000
set_option maxHeartbeats 8000000
namespace Go.Proofs.YtdkepkaflielhaaGreatDoor
open Go.RowKit
theorem Tryz.infoB:(Tryz.prog.info? 5).map (fun i=>(i.zero,i.size,i.bytes))=some (some (.int .u8 0),1,1):=by kernel_rfl
def toB (xs:List Int):List UInt8:=xs.map fun x=>UInt8.ofNat x.toNat
theorem toB_conv {w:World} {base:Nat} {xs:List Int} {g cap n:Nat} (hx:∀ x∈xs,0≤x∧x≤255) (hn:xs.length=n)
  (h:w.ownsRow base 5 1 (.slice (some ⟨g,0,none⟩) n cap) n (xs.map (Value.int .u8))) :
  (convert 22 9 (.slice (some ⟨g,0,none⟩) n cap)).run Tryz.prog w=.ok (.string ⟨(toB xs).toArray⟩) w:=by
 have hl:(toB xs).length=n:=by simp [toB,hn]
 have:=run_convert_bytes_back (P:=Tryz.prog) w 22 9 5 ⟨g,0,none⟩ cap (toB xs) Tryz.underlying22 Tryz.underlying5 Tryz.underlying9 (by
  intro j hj;have hj':j < xs.length:=by simpa [toB] using hj
  have h1:=h.cellAt j (by omega);have h2:=hx xs[j] (List.getElem_mem hj');have ha:Addr.add ⟨g,0,none⟩ j=⟨g,j,none⟩:=by simp only [Addr.add,Nat.zero_add]; split<;>simp_all
  rw [ha,h1];simp only [List.getElem?_map,List.getElem?_eq_getElem hj',Option.map_some,toB,List.getElem_map,UInt8.toNat_ofNat'];congr 2; omega)
 rw [hl] at this;exact this
theorem bytes_step {w w1 w2:World} {B len cap k e:Nat} {a:Option Addr} {size r:Int} {v v':Value} {xs:List Int} {o:Obj} (hk:xs.length=k) (hx:∀ x∈xs,0≤x∧x≤255) (hr:0≤r∧r≤255)
  (hown1:w1.ownsRow w.heap.size e 1 v k (xs.map (Value.int .u8))) (hB:B < w.heap.size) (_hsz:w.heap.size≤w1.heap.size) (hg:w.grownBy w1 (some B)) (hs:Src w1 B a len cap size)
  (hown2:w2.ownsRow w.heap.size e 1 v' (k+1) (xs.map (Value.int .u8)++[Value.int .u8 r])) (hgrow:(w1.alloc o).grownBy w2 v.ownBlock) (hnil:¬ v'=.slice none 0 0) :
  (xs++[r]).length=k+1∧(∀ x∈xs++[r],0≤x∧x≤255)∧w2.ownsRow w.heap.size e 1 v' (k+1) ((xs++[r]).map (Value.int .u8))∧v'≠.slice none 0 0∧Src w2 B a len cap size∧w.grownBy w2 (some B):=by
 have hlo:∀ q,v.ownBlock=some q→w.heap.size≤q:=fun q hq=>(hown1.lt q hq).1
 refine ⟨by simp [hk],?_,by simpa using hown2,hnil,?_,?_⟩
 ·intro x hx';rcases List.mem_append.1 hx' with h | h
  ·exact hx x h
  ·simp at h; subst h; exact hr
 ·exact (hs.kept (World.grownBy_alloc w1 o none) (by simp)).kept hgrow (fun q hq=>by have:=hlo q hq; omega)
 ·have h1:w1.grownBy (w1.alloc o) (some B):=World.grownBy_alloc _ _ _;refine ⟨hgrow.os.trans hg.os,hgrow.tape.trans hg.tape,hgrow.output.trans hg.output,Nat.le_trans hg.size (Nat.le_trans h1.size hgrow.size),fun q hq hne=>?_⟩;have hq1:q < w1.heap.size:=Nat.lt_of_lt_of_le hq hg.size;rw [hgrow.block q (Nat.lt_of_lt_of_le hq1 h1.size) (fun e=>by have:=hlo q e.symm; omega),h1.block q hq1 hne,hg.block q hq hne]
theorem drawBytes_any (m:Nat) (B:Nat) (a:Option Addr) (len cap:Nat) (size:Int) (w:World) (hm:m≤100000) (hl:len≤1048576) (hs:Src w B a len cap size) :
  Calls Tryz.prog 120 #[.pointer (some ⟨B,0,none⟩),iV m] w fun e w'=>∃ s:ByteArray,e=.returned (.string s)∧s.size=m∧Src w' B a len cap size∧w.grownBy w' (some B):=by
 obtain ⟨i0,hi,hz0,hz1,hz2⟩:=info_parts Tryz.infoB;have hB:B < w.heap.size:=by obtain ⟨_,_,_,h⟩:=hs; exact World.block_lt_of_cell? w _ h.cb
 have HS:Hid (Src w B a len cap size):=hs;clear hs;go_enter Tryz.func120,Tryz.ntmps120
 go_wp2
 go_loopw [5,6] (fun v i wr=>∃ k:Nat,k≤m∧i=iV k∧∃ xs:List Int,xs.length=k∧(∀ x∈xs,0≤x∧x≤255)∧wr.ownsRow w.heap.size 5 1 v k (xs.map (Value.int .u8))∧v≠.slice none 0 0∧Src wr B a len cap size∧w.grownBy wr (some B)) (fun _ i _=>m-(intOf i).toNat)
 case atStart =>
  refine ⟨0,Nat.zero_le _,rfl,[],rfl,by simp,?_,by simp,HS.out.kept (World.grownBy_alloc _ _ none) (by simp),World.grownBy_alloc _ _ _⟩;exact World.ownsRow_made w #[] 0 (Nat.le_refl _) (by unfold maxLen; omega) rfl
 case round =>
  obtain ⟨k,hk,rfl,xs,hxl,hxs,hown,hnn,hsr,hgr⟩:=hrel;have HG:Hid (w.grownBy wr (some B)):=hgr;have HR:Hid (Src wr B a len cap size):=hsr;have HX:Hid (∀ x∈xs,0≤x∧x≤255):=hxs;have HN:Hid (u5≠.slice none 0 0):=hnn;have HK:Hid (xs.length=k):=hxl;clear hgr hsr hxs hnn hxl;by_cases hlt:k < m
  ·go_wp2_with fail
   refine (drawN_more 256 B a len cap size _ (by omega) (by omega) hl HR.out).mono ?_;rintro e w1 ⟨r,rfl,r0,r1,hs1,hg1⟩;have hown1:=hown.kept hg1 (own_ne hown hB);have hsz:w.heap.size≤w1.heap.size:=Nat.le_trans HG.out.size hg1.size;have HG1:Hid (w.grownBy w1 (some B)):=grown_trans HG.out hg1;have HR1:Hid (Src w1 B a len cap size):=hs1;clear hs1 hg1 hown;go_wp2_with (at_builtin; refine wpList_append_own _ rfl (.tmp 13) (.tmp 17) 22 rfl w.heap.size 5 i0 (.int .u8 0) 1 1 Tryz.underlying22 hi hz0 hz1 hz2 rfl (by decide) _ _ _ rfl (hown1.alloc _) ⟨w1.heap.size,0,none⟩ 1 1 [.int .u8 r] rfl rfl ?c1 ?c2 ?c3 ?c4 ?c5 ?_)
   case c1 =>
    intro j u hj;match j,hj with
    | 0,hj=>simp at hj; subst hj; simp [Addr.add]
   case c2=>intro u hu; simp at hu; subst hu; rfl
   case c3=>unfold maxLen; omega
   case c4=>omega
   case c5=>simp; omega
   ·intro v' w2 hown2 hgrow hnil;have R:=bytes_step (r:=r) HK.out HX.out (by omega) hown1 hB hsz HG1.out HR1.out hown2 hgrow hnil;clear hown2 hgrow hnil hown1;go_wp2
    go_roundw
    case rel=>exact ⟨k+1,by omega,by go_num,xs++[r],R.1,R.2.1,R.2.2.1,R.2.2.2.1,R.2.2.2.2.1,R.2.2.2.2.2⟩
    case measure=>simp [intOf]; omega
  ·obtain ⟨g,cp,hv,hown'⟩:=own_shape hown HN.out;have hkm:k=m:=by omega
   subst hkm;subst hv;have hcv:=toB_conv HX.out HK.out hown';clear hown hown';go_wp2
   go_ret;exact ⟨⟨(toB xs).toArray⟩,rfl,by have:=HK.out; simp [toB,ByteArray.size,this],HR.out,HG.out⟩
end Go.Proofs.YtdkepkaflielhaaGreatDoor
