import Derived.Test.YthpopipedamciaaGreatMerged1
import Derived.Test.YthpopipedamciaaGreatMerged2
import Derived.Test.YthpopipedamciaaGreatMerged3
import Derived.Test.YthpopipedamciaaGreatGrow
import Derived.Deep.RegionWith
import Derived.Deep.DeepCutAuto
set_option linter.unusedVariables false
set_option linter.unusedSimpArgs false
set_option maxRecDepth 100000
set_option maxHeartbeats 8000000
namespace Go.Proofs.YthpopipedamciaaGreat
open Go.RowKit Go.PlainAid Go.ChangeShapes Go.WideShapes
theorem SlLaid.setOther {α:Type} {en:α→List Value} {n:Nat} {w:World} {B X o:Nat} {xs:List α} {L k:Nat} (h:SlLaid en n w B xs L k) (hne:B≠X) (v:Value):SlLaid en n (w.setCell ⟨X,o,none⟩ v) B xs L k:=by
 have ho:∀ i,(w.setCell ⟨X,o,none⟩ v).cell? ⟨B,i,none⟩=w.cell? ⟨B,i,none⟩:=fun i=>World.cell?_setCell_other _ _ _ _ (fun e=>hne (by injection e with h1 h2; exact h1.symm))
 exact ⟨Nat.lt_of_lt_of_le h.blk ((Below.refl 0 w).setCell (Nat.zero_le _) _).size,fun i hi hk j u hu=>(ho _).trans (h.at0 i hi hk j u hu),fun i hi=>by rw [ho]; exact h.there i hi,fun i hi=>by rw [World.frozen?_setCell]; exact h.free i hi⟩
theorem strL1_length (s:ByteArray):(strL1 s).length=1:=rfl
def strN (s:ByteArray):List Nat:=[s.size]
def StrWf (s:ByteArray):Prop:=s.size≤maxLen
def StrsWf (xs:List ByteArray):Prop:=xs.length≤maxLen∧∀ q∈xs,StrWf q
section
variable {H:Type} {enc:TypeId × Value→H} {w:World} {base:Nat} {spare:Nat→Bool} {held:Bool}
theorem elem_Str {m:Nat} {cs:List Value} {y:DataW H × List MemPlace} (h:DataW.trod enc Tryz.prog w base spare held m 9 cs=some y):∃ q:ByteArray,cs=strL1 q∧StrWf q:=by
 obtain ⟨x,e,_,g⟩:=DataW.trod_string Tryz.underlying9 h;exact ⟨x,e,g⟩
theorem open_StringS {fuel:Nat} {a:Option Addr} {len cap:Nat} {x:DataW H × List MemPlace} (h:DataW.trod enc Tryz.prog w base spare held fuel 24 [.slice a len cap]=some x):∃ xs:List ByteArray,xs.length=len∧StrsWf xs∧SlIs strL1 1 w a xs :=
 open_flat strL1_length (by omega) Tryz.underlying24 (by kernel_rfl) StrWf (fun m cs y h=>elem_Str h) h
end
theorem szStringS_at (xs:List ByteArray) (a:Option Addr) (cap:Nat) (left:Int) (w:World) (hwf:StrsWf xs) (hr:SlIs strL1 1 w a xs) (h0:0≤left) (h1:left≤1048576) :
  Calls Tryz.prog 62 #[.slice a xs.length cap,.int .i64 left] w fun e w'=>e=.returned (.int .i64 (szSl strN xs left))∧Below w.heap.size w w':=by
 have hlm:=hwf.1;unfold maxLen at hlm;by_cases hlong:left < (xs.length:Int)
 ·have HV:Hid (szSl strN xs left=-1):=if_pos hlong;clear hr hwf;generalize szSl strN xs left=ans at *;go_enter Tryz.func62,Tryz.ntmps62
  go_wp2_with fail
  go_ret;exact ⟨ret_int HV.out.symm,Below.refl _ _⟩
 ·have HV:Hid (szSl strN xs left=szL (xs.map strN) (left-xs.length)):=if_neg hlong;have HR:Hid (SlIs strL1 1 w a xs):=hr;have HW:Hid (StrsWf xs):=hwf;clear hr hwf;generalize szSl strN xs left=ans at *;go_enter Tryz.func62,Tryz.ntmps62
  go_wp2_with fail
  go_loopw [1,5] (fun l i wr=>∃ (k:Nat) (lf:Int),k≤xs.length∧i=.int .i64 k∧l=.int .i64 lf∧0≤lf∧lf≤1048576∧szL (xs.map strN) (left-xs.length)=szL ((xs.drop k).map strN) lf∧Below w.heap.size w wr) (fun _ i _=>xs.length-(intOf i).toNat)
  case atStart=>exact ⟨0,left-xs.length,Nat.zero_le _,rfl,rfl,by omega,by omega,rfl,Below.refl _ _⟩
  case round =>
   obtain ⟨k,lf,hk,rfl,rfl,hl0,hl1,hz,hbel⟩:=hrel;have HK:Hid _:=hz;have HL:Hid (Below w.heap.size w wr):=hbel;clear hz hbel;by_cases hlt:k < xs.length
   ·obtain ⟨b,off,rfl,hb,hat⟩:=HR.out.at hlt;have HA:=(hat.below hb HL.out) k hlt;have hst:=szL_drop (f:=strN) hlt lf;have hq2:=HW.out.2 xs[k] (List.getElem_mem hlt);obtain ⟨q,hq⟩ : ∃ q,q=xs[k]:=⟨_,rfl⟩;rw [← hq] at HA hst hq2;unfold StrWf maxLen at hq2;have c0:wr.cell? ⟨b,off+k*1,none⟩=some (.string q):=HA 0 _ rfl;rw [Nat.mul_one] at c0;have HST:Hid _:=hst;clear hq HA hat hst;by_cases hs:lf < (q.size:Int)
    ·have HX:Hid (ans=-1):=by unfold Hid; rw [HV.out,HK.out,HST.out,show szN (strN q) lf=-1 from szN_yes hs]; rfl
     have hs':lf-(q.size:Int) < 0:=by omega
     go_wp2_with fail
     go_ret;exact ⟨ret_int HX.out.symm,HL.out⟩
    ·have hn:szN (strN q) lf=lf-q.size:=szN_no hs;have HX:Hid (szL ((xs.drop k).map strN) lf=szL ((xs.drop (k+1)).map strN) (lf-q.size)):=by unfold Hid; rw [HST.out,hn,if_neg (by omega)]
     have hs0:0≤lf-(q.size:Int):=by omega
     have hs1:lf-(q.size:Int)≤1048576:=by omega
     clear HST hn;go_wp2_with fail
     go_roundw
     case rel=>exact ⟨k+1,lf-q.size,by omega,by go_num,rfl,hs0,hs1,by rw [HK.out,HX.out],HL.out⟩
     case measure=>simp [intOf]; omega
   ·have HX:Hid (ans=lf):=by unfold Hid; rw [HV.out,HK.out,szL_end (by omega)]
    go_wp2_with fail
    go_ret;exact ⟨ret_int HX.out.symm,HL.out⟩
theorem Tryz.infoStr:(Tryz.prog.info? 9).map (fun i=>(i.zero,i.size,i.bytes))=some (some (.string ⟨#[]⟩),1,16):=by kernel_rfl
theorem toStringS_any (xs:List ByteArray) (a:Option Addr) (cap:Nat) (w:World) (hlen:xs.length≤1048576) (hr:SlIs strL1 1 w a xs) :
  Calls Tryz.prog 64 #[.slice a xs.length cap] w fun e w'=>e=.returned (.slice (some ⟨w.heap.size,0,none⟩) xs.length xs.length)∧Below w.heap.size w w'∧SlLaid strL1 1 w' w.heap.size xs xs.length xs.length:=by
 have HR:Hid (SlIs strL1 1 w a xs):=hr;clear hr;obtain ⟨i0,hi,hz0,hz1,hz2⟩:=info_parts Tryz.infoStr;go_enter Tryz.func64,Tryz.ntmps64
 go_wp2_with (at_make; refine wpList_make_full _ rfl _ _ 24 rfl w.heap.size 9 i0 (.string ⟨#[]⟩) 1 Tryz.underlying24 hi hz0 hz1 .i64 .i64 _ _ xs.length rfl rfl (by omega) (by omega) (by rw [hz2]; omega) (by unfold maxLen; omega) (Nat.le_refl _) ?_; intro w1 hown hgrow)
 have hlaid:SlLaid strL1 1 w1 w.heap.size xs xs.length 0:=SlLaid.start hown;have hbel:Below w.heap.size w w1:=⟨hgrow.os,hgrow.tape,hgrow.output,hgrow.size,fun k hk=>hgrow.block k hk (by simp)⟩;have HY:Hid (SlLaid strL1 1 w1 w.heap.size xs xs.length 0):=hlaid;have HB:Hid (Below w.heap.size w w1):=hbel;clear hown hgrow hlaid hbel hi hz0 hz1 hz2;go_wp2_with fail
 go_loopw [4] (fun i wr=>∃ k:Nat,k≤xs.length∧i=.int .i64 k∧SlLaid strL1 1 wr w.heap.size xs xs.length k∧Below w.heap.size w wr) (fun i _=>xs.length-(intOf i).toNat)
 case atStart=>exact ⟨0,Nat.zero_le _,rfl,HY.out,HB.out⟩
 case round =>
  obtain ⟨k,hk,rfl,hy,hbel⟩:=hrel;have HK:Hid (SlLaid strL1 1 wr w.heap.size xs xs.length k):=hy;have HL:Hid (Below w.heap.size w wr):=hbel;clear hy hbel;by_cases hlt:k < xs.length
  ·obtain ⟨b,off,rfl,hb,hat⟩:=HR.out.at hlt;have HA:=(hat.below hb HL.out) k hlt;obtain ⟨q,hq⟩ : ∃ q,q=xs[k]:=⟨_,rfl⟩;rw [← hq] at HA;have c0:wr.cell? ⟨b,off+k*1,none⟩=some (.string q):=HA 0 _ rfl;rw [Nat.mul_one] at c0;have HQ:Hid (q=xs[k]):=hq;clear hq HA hat;obtain ⟨v0,t0⟩:=Option.isSome_iff_exists.1 (HK.out.there (k*1) (by omega));have f0:=HK.out.free (k*1) (by omega);rw [Nat.mul_one] at t0 f0;have hset:=HK.out.set strL1_length hlt hlt;rw [← HQ.out] at hset;have HSET:Hid (SlLaid strL1 1 (wr.setCell ⟨w.heap.size,k,none⟩ (.string q)) w.heap.size xs xs.length (k+1)):=by
    have:=hset;simp only [Nat.mul_one] at this;exact this
   clear hset;go_wp2_with fail
   go_roundw
   case rel=>exact ⟨k+1,by omega,by go_num,HSET.out,HL.out.setCell (Nat.le_refl _) _⟩
   case measure=>simp [intOf]; omega
  ·have hkl:k=xs.length:=by omega
   have HE:Hid (SlLaid strL1 1 wr w.heap.size xs xs.length xs.length):=by have h:=HK.out; rw [hkl] at h; exact h
   clear HK;go_wp2_with fail
   go_ret;exact ⟨rfl,HL.out,HE.out⟩
theorem eqStringS_same (xs:List ByteArray) (a1 a2:Option Addr) (cap1 cap2:Nat) (w:World) (hlen:xs.length≤1048576) (h1:SlIs strL1 1 w a1 xs) (h2:SlIs strL1 1 w a2 xs) :
  Calls Tryz.prog 67 #[.slice a1 xs.length cap1,.slice a2 xs.length cap2] w fun e w'=>e=.returned (.bool true)∧Below w.heap.size w w':=by
 have H1:Hid (SlIs strL1 1 w a1 xs):=h1;have H2:Hid (SlIs strL1 1 w a2 xs):=h2;clear h1 h2;go_enter Tryz.func67,Tryz.ntmps67
 go_wp2_with fail
 go_loopw [5] (fun i wr=>∃ k:Nat,k≤xs.length∧i=.int .i64 k∧Below w.heap.size w wr) (fun i _=>xs.length-(intOf i).toNat)
 case atStart=>exact ⟨0,Nat.zero_le _,rfl,Below.refl _ _⟩
 case round =>
  obtain ⟨k,hk,rfl,hbel⟩:=hrel;have HL:Hid (Below w.heap.size w wr):=hbel;clear hbel;by_cases hlt:k < xs.length
  ·obtain ⟨b1,o1,rfl,hb1,hA⟩:=H1.out.at hlt;obtain ⟨b2,o2,rfl,hb2,hB⟩:=H2.out.at hlt;have hA:=(hA.below hb1 HL.out) k hlt;have hB:=(hB.below hb2 HL.out) k hlt;obtain ⟨q,hq⟩ : ∃ q,q=xs[k]:=⟨_,rfl⟩;rw [← hq] at hA hB;have c0:wr.cell? ⟨b1,o1+k*1,none⟩=some (.string q):=hA 0 _ rfl;have d0:wr.cell? ⟨b2,o2+k*1,none⟩=some (.string q):=hB 0 _ rfl;rw [Nat.mul_one] at c0 d0;clear hq hA hB;have hqq:(q.toList==q.toList)=true:=by simp
   go_wp2_with fail
   go_quiet (fail)
   go_wp2_with fail
   go_roundw
   case rel=>exact ⟨k+1,by omega,by go_num,⟨HL.out.os,HL.out.tape,HL.out.output,HL.out.size,HL.out.block⟩⟩
   case measure=>simp [intOf]; omega
  ·go_wp2_with fail
   go_ret;exact ⟨rfl,HL.out⟩
def BdWf (p:Bd):Prop:=In64t p.proto∧p.inn.size≤maxLen∧In64t p.inPort∧p.out.size≤maxLen∧In64t p.outPort
structure BoxBind (w:World) (B:Nat) (p:Bd):Prop where
 c0:w.cell? ⟨B,0,none⟩=some (.int .i64 p.proto)
 c1:w.cell? ⟨B,1,none⟩=some (.string p.inn)
 c2:w.cell? ⟨B,2,none⟩=some (.int .i64 p.inPort)
 c3:w.cell? ⟨B,3,none⟩=some (.string p.out)
 c4:w.cell? ⟨B,4,none⟩=some (.int .i64 p.outPort)
theorem BoxBind.kept {w W:World} {B:Nat} {p:Bd} (h:BoxBind w B p) (hB:Below w.heap.size w W):BoxBind W B p:=by
 have hb:=World.block_lt_of_cell? w _ h.c0;exact ⟨((bcell hB).1 B 0 hb).trans h.c0,((bcell hB).1 B 1 hb).trans h.c1,((bcell hB).1 B 2 hb).trans h.c2,((bcell hB).1 B 3 hb).trans h.c3,((bcell hB).1 B 4 hb).trans h.c4⟩
theorem BoxBind.new (w:World) (p:Bd) {t:TypeId}:BoxBind (w.alloc (.cells #[.int .i64 p.proto,.string p.inn,.int .i64 p.inPort,.string p.out,.int .i64 p.outPort] t)) w.heap.size p:=⟨cell_new rfl,cell_new rfl,cell_new rfl,cell_new rfl,cell_new rfl⟩
section
variable {H:Type} {enc:TypeId × Value→H} {w:World} {base:Nat} {spare:Nat→Bool} {held:Bool}
end
theorem toBind_any (p:Bd) (w:World) :
  Calls Tryz.prog 142 #[bdC p] w fun e w'=>e=.returned (bdC p)∧Below w.heap.size w w':=by
 obtain ⟨proto,inn,inPort,out,outPort⟩:=p;unfold bdC;dsimp only;go_enter Tryz.func142,Tryz.ntmps142
 go_wp2_with fail
 refine bodyPost_ret (v:=.agg #[.int .i64 proto,.string inn,.int .i64 inPort,.string out,.int .i64 outPort]) (by simp [results,Tryz.results142,go_sem]) rfl ⟨rfl,?_⟩;exact (((Below.refl _ _).alloc (Nat.le_refl _) _).alloc (by simp) _).alloc (by simp; omega) _
theorem eqBind_same (p:Bd) (w:World) :
  Calls Tryz.prog 144 #[bdC p,bdC p] w fun e w'=>e=.returned (.bool true)∧Below w.heap.size w w':=by
 obtain ⟨proto,inn,inPort,out,outPort⟩:=p;unfold bdC;dsimp only;have HZ:Hid (Below w.heap.size w ((w.alloc (.cells #[.int .i64 proto,.string inn,.int .i64 inPort,.string out,.int .i64 outPort] 150)).alloc (.cells #[.int .i64 proto,.string inn,.int .i64 inPort,.string out,.int .i64 outPort] 150))):=((Below.refl _ _).alloc (Nat.le_refl _) _).alloc (by simp) _;go_enter Tryz.func144,Tryz.ntmps144
 go_wp2_with fail
 go_ret;exact ⟨rfl,HZ.out⟩
end Go.Proofs.YthpopipedamciaaGreat
