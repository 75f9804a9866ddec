import Derived.Test.YtdkepkaflielhaaGreatDoorSz
import Derived.Test.YtdkepkaflielhaaGreatDoorAb
import Derived.Test.YtdkepkaflielhaaGreatDoorUni
import Derived.Test.YtdkepkaflielhaaGreatDoorICSet1
import Derived.Test.YtdkepkaflielhaaGreatDoorBoxes
import Derived.Test.YtdkepkaflielhaaGreatDoorGrowV
import Derived.Deep.DeepCutAuto
set_option linter.unusedVariables false
set_option linter.unusedSimpArgs false
set_option maxRecDepth 100000
set_option maxHeartbeats 8000000
namespace Go.Proofs.YtdkepkaflielhaaGreatDoor
open Go.RowKit Go.PlainAid
theorem Bxs.setHead {w0 W:World} {ks:List (Nat × List Value)} {C:Nat} {v:Value} (h:Bxs w0 ((C,[v])::ks) W) (hC:w0.heap.size≤C) (hks:∀ e∈ks,e.1≠C) (u:Value):Bxs w0 ((C,[u])::ks) (W.setCell ⟨C,0,none⟩ u) :=
 ⟨fun e he=>by
  rcases List.mem_cons.1 he with rfl | he
  ·exact (h.k _ mE0).set 0 u
  ·exact HoldsL.setOther (h.k e (.tail _ he)) (hks e he) u,h.b.setCell (p:=⟨C,0,none⟩) hC u,fun e he=>by
  rcases List.mem_cons.1 he with rfl | he
  ·exact Nat.zero_lt_one
  ·exact h.z e (.tail _ he)⟩
theorem Bxs.tl {w0 W:World} {k:Nat × List Value} {ks:List (Nat × List Value)} (h:Bxs w0 (k::ks) W):Bxs w0 ks W:=⟨fun e he=>h.k e (.tail _ he),h.b,fun e he=>h.z e (.tail _ he)⟩
theorem ipMTurn_any (ta tb:ByteArray) (c:Int) (C:Nat) (ks:List (Nat × List Value)) (w0 w:World) (ha:ta.size≤1048576) (hb':tb.size≤1048576) (hc:0≤c∧c≤65535) (hC:w0.heap.size≤C) (hks:∀ e∈ks,e.1≠C) (h:Bxs w0 ((C,[iV c])::ks) w) :
  Calls Tryz.prog 174 #[.pointer (some ⟨C,0,none⟩),.agg #[.string ta,.string tb]] w fun e w'=>e=.returned (.tuple #[])∧Bxs w0 ((C,[iV (turn1 c (sumV ta) (sumV tb))])::ks) w':=by
 have HA:Hid (∀ W,Cb 170 #[.string ta] W (iV (sumV ta))):=fun W=>(sumOfS_any ta W (by omega)).mono fun e w' h=>⟨h.1,by rw [h.2]; exact Below.refl _ _⟩
 have HB:Hid (∀ W,Cb 170 #[.string tb] W (iV (sumV tb))):=fun W=>(sumOfS_any tb W (by omega)).mono fun e w' h=>⟨h.1,by rw [h.2]; exact Below.refl _ _⟩
 have HT:Hid (∀ W,Cb 184 #[iV c,iV (sumV ta),iV (sumV tb)] W (iV (turn1 c (sumV ta) (sumV tb)))):=fun W=>(implSumTurn_any c (sumV ta) (sumV tb) W).mono fun e w' h=>⟨by rw [h.1,turnV_of hc (sumV_range ta) (sumV_range tb)],h.2⟩
 have hlt:C < w.z:=(h.k _ mE0).lt (by simp);have HS0:Hid (Bxs w0 ((w.z,[.string ta,.string tb])::(C,[iV c])::ks) (w.alloc (.cells #[.string ta,.string tb] 195))):=h.push [.string ta,.string tb] (by simp) _;have HKS:Hid (∀ e∈ks,e.1≠C):=hks;generalize sumV ta=sa at *;generalize sumV tb=sb at *;generalize turn1 c sa sb=tc at *;clear h hks;go_enter Tryz.func174,Tryz.ntmps174
 go_upto_region 1 with fail
 generalize (w.alloc (.cells #[.string ta,.string tb] 195))=W1 at *;generalize w.z=P at *;have HCP:Hid (∀ wy,Below W1.drew.heap.size W1.drew wy→_):=fun wy hy=>HS0.out.kept (bR.drew.trans hy)
 clear HS0;refine wp_region_growV [4,5,6,7,8,9,10,11,12,13,14,15,16,17] (by kernel_rfl) (by kernel_rfl) ?_;iterate 10 (apply GChV.u rfl;(·intro K' a wy ho hd hb hK;simp [rAt,IsV,slot,Region.binds] at ho hd;have hst:=HCP.out wy hb;have HHp:=hst.at mE0;have HHc:=hst.at mE1;have kC:=HHp.c2;have c0:=HHc.cell (j:=0) rfl;clear hst HHp HHc;go_simp;first|((try go_bits);exact hK _ _ rfl bQ)|(refine (HA.out wy).mono ?_;rintro e wz ⟨rfl,hz⟩;exact hK _ _ rfl hz));dsimp only [nA,cA])
 (apply GChV.u rfl;(·intro K' a wy ho hd hb hK;simp [rAt,IsV,slot,Region.binds] at ho hd;go_simp;refine (HB.out wy).mono ?_;rintro e wz ⟨rfl,hz⟩;exact hK _ _ rfl hz);dsimp only [nA,cA])
 iterate 3 (apply GChV.u rfl;(·intro K' a wy ho hd hb hK;simp [rAt,IsV,slot,Region.binds] at ho hd;go_simp;first|((try go_bits);exact hK _ _ rfl bQ)|(refine (HT.out wy).mono ?_;rintro e wz ⟨rfl,hz⟩;exact hK _ _ rfl hz));dsimp only [nA,cA])
 intro X wz hR hz;simp only [List.nil_append,List.cons_append,RAll,IsV] at hR;simp only [putsFrom,hR];clear hR;have hst:=HCP.out wz hz;have HF:Hid (Bxs w0 ((C,[iV tc])::ks) (wz.setCell ⟨C,0,none⟩ (iV tc))):=hst.tl.setHead hC HKS.out _;have HHc:=hst.at mE1;have c0:=HHc.cell (j:=0) rfl;have f0:=HHc.free (j:=0) (by simp);clear hst HHc HCP HKS;intro K10 hK10;go_simp;refine hK10 _ _ ?_;simp only [wpSeq];go_end0
 exact ⟨rfl,HF.out⟩
theorem ipEach_any (a b a' b':ByteArray) (c:Int) (C R:Nat) (ks:List (Nat × List Value)) (w0 w:World) (ha:a.size≤1048576) (hb:b.size≤1048576) (ha':a'.size≤1048576) (hb':b'.size≤1048576) (hc:0≤c∧c≤65535) (hC:w0.heap.size≤C) (hR:R≠C) (hks:∀ e∈ks,e.1≠C) (h:Bxs w0 ((C,[iV c])::(R,[.string a,.string b,.string a',.string b'])::ks) w) :
  Calls Tryz.prog 173 #[.func (.func 174) #[.pointer (some ⟨C,0,none⟩)] #[],.slice (some ⟨R,0,none⟩) 2 2] w fun e w'=>e=.returned (.tuple #[])∧Bxs w0 ((C,[iV (turn1 (turn1 c (sumV a) (sumV b)) (sumV a') (sumV b'))])::(R,[.string a,.string b,.string a',.string b'])::ks) w':=by
 have r1:=turn1_range hc (sumV_range a) (sumV_range b);have HKR:Hid (∀ e∈(R,[Value.string a,.string b,.string a',.string b'])::ks,e.1≠C):=fun e he=>by
  rcases List.mem_cons.1 he with rfl | he
  ·exact hR
  ·exact hks e he
 have H1:Hid (∀ W ls,(∀ e∈ls,e.1≠C)→Bxs w0 ((C,[iV c])::ls) W→Calls Tryz.prog 174 #[.pointer (some ⟨C,0,none⟩),.agg #[.string a,.string b]] W fun e w'=>e=.returned (.tuple #[])∧Bxs w0 ((C,[iV (turn1 c (sumV a) (sumV b))])::ls) w'):=fun W ls hl hW=>ipMTurn_any a b c C ls w0 W ha hb hc hC hl hW
 have H2:Hid (∀ W ls,(∀ e∈ls,e.1≠C)→Bxs w0 ((C,[iV (turn1 c (sumV a) (sumV b))])::ls) W→Calls Tryz.prog 174 #[.pointer (some ⟨C,0,none⟩),.agg #[.string a',.string b']] W fun e w'=>e=.returned (.tuple #[])∧Bxs w0 ((C,[iV (turn1 (turn1 c (sumV a) (sumV b)) (sumV a') (sumV b'))])::ls) w'):=fun W ls hl hW=>ipMTurn_any a' b' _ C ls w0 W ha' hb' r1 hC hl hW
 have HS0:Hid _:=h;generalize turn1 (turn1 c (sumV a) (sumV b)) (sumV a') (sumV b')=c2 at *;generalize turn1 c (sumV a) (sumV b)=c1 at *;clear h hks r1 ha hb ha' hb' hc;go_enter Tryz.func173,Tryz.ntmps173
 go_wp2_with fail
 go_loopw [8] (fun i wr=>∃ k:Nat,k≤2∧i=iV k∧Bxs w0 ((C,[iV (if k=0 then c else if k=1 then c1 else c2)])::(R,[.string a,.string b,.string a',.string b'])::ks) wr) (fun i _=>2-(intOf i).toNat)
 case atStart=>exact ⟨0,by omega,rfl,HS0.out⟩
 case round =>
  obtain ⟨k,hk,rfl,hst⟩:=hrel;clear HS0;match k,hk with
  | 0,_ =>
   have S1:Hid (Bxs w0 ((C,[iV c])::(R,[.string a,.string b,.string a',.string b'])::ks) wr):=hst;have HHr:=S1.out.at mE1;obtain ⟨q0,q1⟩:=HHr.c2;clear HHr hst;have B1:Hid (Below wr.heap.size wr (wr.alloc (.cells #[.string a,.string b] 195))):=bR.alloc lR _;go_wp2_with fail
   refine (H1.out _ _ HKR.out (S1.out.kept B1.out)).mono ?_;rintro e w2 ⟨rfl,hb2⟩;have S2:Hid _:=hb2;clear hb2 S1 B1;go_wp2_with fail
   go_roundw
   case rel=>exact ⟨1,by omega,by go_num,S2.out⟩
   case measure=>simp [intOf]
  | 1,_ =>
   have S1:Hid (Bxs w0 ((C,[iV c1])::(R,[.string a,.string b,.string a',.string b'])::ks) wr):=hst;have HHr:=S1.out.at mE1;obtain ⟨-,-,q2,q3⟩:=HHr.c4;clear HHr hst;have B1:Hid (Below wr.heap.size wr (wr.alloc (.cells #[.string a',.string b'] 195))):=bR.alloc lR _;go_wp2_with fail
   refine (H2.out _ _ HKR.out (S1.out.kept B1.out)).mono ?_;rintro e w2 ⟨rfl,hb2⟩;have S2:Hid _:=hb2;clear hb2 S1 B1;go_wp2_with fail
   go_roundw
   case rel=>exact ⟨2,by omega,by go_num,S2.out⟩
   case measure=>simp [intOf]
  | 2,_ =>
   have S1:Hid (Bxs w0 ((C,[iV c2])::(R,[.string a,.string b,.string a',.string b'])::ks) wr):=hst;clear hst;go_wp2_with fail
   go_end0
   exact ⟨rfl,S1.out⟩
end Go.Proofs.YtdkepkaflielhaaGreatDoor
