import Derived.Test.YthpopipedamciaaGreatIGrpAt
import Derived.Test.YthpopipedamciaaGreatMerged23
import Derived.Test.YthpopipedamciaaGreatMerged22
import Derived.Deep.DeepCutAuto
set_option linter.unusedVariables false
set_option linter.unusedSimpArgs false
set_option maxRecDepth 100000
set_option maxHeartbeats 8000000
namespace Go.Proofs.YthpopipedamciaaGreat
open Go.RowKit Go.PlainAid
def AddPost (base b:Nat) (w:World) (xs:List Pc) (p:Pc):Ending→World→Prop:=fun e w'=>e=.returned (.bool (!(grpPc xs p).any (fun q=>clashPc p q)))∧GrpAt base w' b (if (grpPc xs p).any (fun q=>clashPc p q)=true then xs else xs++[p])∧Frm b base 129 w w'
def keyL (p:Pc):List Value:=[.string p.src,.string p.dst,.int .i64 p.proto,.int .i64 p.id]
def IsOneA (lo:Nat) (q:Pc):Value→World→Prop:=fun v w=>∃ g,v=.slice (some ⟨g,0,none⟩) 1 1∧lo≤g∧∀ j u,(pcL q)[j]?=some u→w.cell? ((⟨g,0,none⟩ : Addr).add j)=some u
theorem isOneA_grown {lo:Nat} {q:Pc} {v:Value} {w w':World} {row:Option Nat} (h:IsOneA lo q v w) (hg:w.grownBy w' row) (hr:∀ g,row=some g→g < lo):IsOneA lo q v w':=by
 obtain ⟨g,h1,h2,h3⟩:=h;refine ⟨g,h1,h2,fun j u hu=>?_⟩;have hc:=h3 j u hu;have hlt:=World.block_lt_of_cell? w _ hc;have e:((⟨g,0,none⟩ : Addr).add j)=⟨g,j,none⟩:=by simp [Addr.add]; omega
 rw [e] at hc hlt ⊢;have hb:=hg.block g hlt (fun e=>by have:=hr g e.symm; omega);exact (World.cell?_of_block (a:=⟨g,j,none⟩) hb).trans hc
theorem field_pps (a:Option Addr) (n cap:Nat) (W:World):Sem.run Tryz.prog (Instr.field 203 (.agg #[.slice a n cap]) 0) W=.ok (.slice a n cap) W:=by kernel_rfl
def EY (row:Option Nat):Nat→World→World→Prop
 | 5=>fun wa wb=>wa.grownBy wb row
 | _=>fun wa wb=>Below wa.heap.size wa wb
def IY (w4:World) (B5 B0:Nat) (p:Pc):Bool→World→Prop
 | false=>fun w=>Below w4.heap.size w4 w
 | true=>fun w=>HoldsL w B5 (keyL p)∧HoldsL w B0 (pcL p)∧w4.heap.size≤w.heap.size
theorem IY.keep {w4:World} {B5 B0:Nat} {p:Pc} {bb:Bool} {w w':World} (h:IY w4 B5 B0 p bb w) (hb:Below w.heap.size w w'):IY w4 B5 B0 p bb w':=by
 cases bb with
 | false=>exact Below.trans h (hb.mono h.size)
 | true=>exact ⟨h.1.kept (by simp [keyL]) hb,h.2.1.kept (by simp [pcL]) hb,Nat.le_trans h.2.2 hb.size⟩
theorem IY.holds {w4:World} {B5 B0:Nat} {p:Pc} {bb:Bool} {w:World} (h:IY w4 B5 B0 p bb w) (h5:HoldsL w4 B5 (keyL p)) (h0:HoldsL w4 B0 (pcL p)):HoldsL w B5 (keyL p)∧HoldsL w B0 (pcL p)∧w4.heap.size≤w.heap.size:=by
 cases bb with
 | false=>exact ⟨h5.kept (by simp [keyL]) h,h0.kept (by simp [pcL]) h,h.size⟩
 | true=>exact h
theorem EY_not {row:Option Nat} {i:Nat} {w w':World} (hi:i≠5) (h:EY row i w w'):Below w.heap.size w w':=by
 unfold EY at h;split at h
 ·exact absurd rfl hi
 ·exact h
theorem EY_mk {row:Option Nat} {i:Nat} {w w':World} (hi:i≠5) (h:Below w.heap.size w w'):EY row i w w':=by
 unfold EY;split
 ·exact absurd rfl hi
 ·exact h
theorem EY_grown {row:Option Nat} {i:Nat} {w w':World} (h:EY row i w w'):w.grownBy w' row:=by
 by_cases hi:i=5
 ·subst hi; exact h
 ·exact grown_of_below (EY_not hi h)
theorem implAdd_any (xs:List Pc) (p:Pc) (b base:Nat) (w:World) (hg:GrpAt base w b xs) (hbase:base≤w.heap.size) (hl:xs.length≤1048576) (hp:pieceOk p=true) (hs:PcSm p) (hx:∀ q∈xs,pieceOk q=true) :
  Calls Tryz.prog 129 #[.map (some b),pcC p] w (AddPost base b w xs p):=by
 obtain ⟨M,V,hg⟩:=hg;have HG:Hid (GrpOf base w b xs M V):=hg;have HKI:Hid (KeyIn p):=keyIn_ok hs hp;have HK:Hid (∀ W,Calls Tryz.prog 162 #[pcC p] W fun e w'=>e=.returned (keyC p)∧Below W.heap.size W w'):=fun W=>implKey_any p W
 have HW:Hid (∀ W,Calls Tryz.prog 164 #[pcC p] W fun e w'=>∃ B,e=.returned (.func (.func 173) #[] #[.pointer (some ⟨B,0,none⟩)])∧HoldsL w' B (pcL p)∧Below W.heap.size W w'):=fun W=>implWith_any p W
 have hRow:Row pcL 8 base 129 (thereV xs V p) (grpPc xs p) w w:=⟨hg.own p,Below.refl _ _⟩;obtain ⟨a,cap,hv,hcap,hso⟩:=hRow.shape pcL_length;have hgl:=grp_len xs p;have HC:Hid (∀ W,Below w.heap.size w W→∀ B,HoldsL W B (pcL p)→Calls Tryz.prog 163 #[.slice a (grpPc xs p).length cap,.func (.func 173) #[] #[.pointer (some ⟨B,0,none⟩)]] W fun e w'=>e=.returned (.bool ((grpPc xs p).any (fun q=>clashPc p q)))∧Below W.heap.size W w'):=fun W hW B hB=>contains_any p (grpPc xs p) a cap B W (by omega) (hso.is.below hW) (okOff_ok hp) (fun q hq=>okOff_ok (hx q (grp_mem hq).1)) hB
 have HV:Hid (thereV xs V p=.slice a (grpPc xs p).length cap):=hv;have HTR:Hid (∀ g,(thereV xs V p).ownBlock=some g→base≤g∧g < w.heap.size):=there_row hg p;have HPN:Hid (HoldsL (w.alloc (.cells (pcL p).toArray 129)) w.heap.size (pcL p)):=HoldsL.new w (pcL p) _;have HZ:Hid (Below w.heap.size w (w.alloc (.cells (pcL p).toArray 129))):=(Below.refl _ _).alloc (Nat.le_refl _) _;rw [show (pcL p).toArray=#[.string p.src,.string p.dst,.int .i64 p.proto,.int .i64 p.id,.int .i64 p.off,.bool p.more,.string p.data,.int .i64 p.since] from rfl] at HPN HZ;clear hg hRow hv hso hp hs hx;unfold pcC at HK HW ⊢;generalize hys:grpPc xs p=ys at HC HV hgl hcap;have HYS:Hid (grpPc xs p=ys):=hys;clear hys;have hun:undef=Value.tuple #[]:=rfl;go_enter Tryz.func129,Tryz.ntmps129
 go_wp2_with fail
 refine (HK.out _).mono ?_;rintro e w1 ⟨rfl,b1⟩;have P1:=HPN.out.kept (by simp [pcL]) b1;have B1:Below w.heap.size w w1:=HZ.out.trans (b1.mono (by simp));have hw1:w.heap.size < w1.heap.size:=P1.lt (by simp [pcL]);unfold keyC;go_upto_region 2 with fail
 have K2:HoldsL (w1.alloc (.cells (keyL p).toArray 200)) w1.heap.size (keyL p):=HoldsL.new w1 (keyL p) _;have P2:=P1.alloc (.cells (keyL p).toArray 200);have B2:Below w.heap.size w (w1.alloc (.cells (keyL p).toArray 200)):=B1.alloc B1.size _;rw [show (keyL p).toArray=#[.string p.src,.string p.dst,.int .i64 p.proto,.int .i64 p.id] from rfl] at K2 P2 B2;generalize w1.alloc (.cells #[.string p.src,.string p.dst,.int .i64 p.proto,.int .i64 p.id] 200)=W2 at *;generalize w1.heap.size=B5 at *;have KH2:Hid (HoldsL W2 B5 (keyL p)):=K2;have PH2:Hid (HoldsL W2 w.heap.size (pcL p)):=P2;have BH2:Hid (Below w.heap.size w W2):=B2;have LK:=((HG.out.kept B2).look HKI.out).1;rw [HV.out] at LK;unfold keyC at LK;obtain ⟨k0,k1,k2,k3,k4,k5,k6,k7⟩:=cells8 P2;have n0:=K2.cell (j:=0) rfl;have n1:=K2.cell (j:=1) rfl;have n2:=K2.cell (j:=2) rfl;have n3:=K2.cell (j:=3) rfl;clear P1 B1 b1 K2 P2 B2 HPN HZ HK;have hfl:=field_pps a ys.length cap W2;go_wp2_with (at_lookup; refine wpList_lookup_run rfl _ _ _ _ rfl rfl rfl LK ?_)
 refine (HW.out _).mono ?_;rintro e w3 ⟨B,rfl,hB,b3⟩;have BH3:Hid (Below w.heap.size w w3):=BH2.out.trans (b3.mono BH2.out.size);have KH3:Hid _:=KH2.out.kept (by simp [keyL]) b3;have PH3:Hid _:=PH2.out.kept (by simp [pcL]) b3;have HBX:Hid (HoldsL w3 B (pcL p)):=hB;clear b3 hB k0 k1 k2 k3 k4 k5 k6 k7 n0 n1 n2 n3 LK KH2 PH2 BH2 HW;go_wp2_with fail
 refine (HC.out _ BH3.out _ HBX.out).mono ?_;rintro e w4 ⟨rfl,b4⟩;have BH4:Hid (Below w.heap.size w w4):=BH3.out.trans (b4.mono BH3.out.size);have KH4:Hid _:=KH3.out.kept (by simp [keyL]) b4;have PH4:Hid _:=PH3.out.kept (by simp [pcL]) b4;clear b4 BH3 KH3 PH3 HBX HC;generalize hcl:ys.any (fun q=>clashPc p q)=cl;have HCL:Hid ((grpPc xs p).any (fun q=>clashPc p q)=cl):=by unfold Hid; rw [HYS.out]; exact hcl
 clear hcl
 cases cl with
 | true =>
  go_wp2_with fail
  go_ret;refine ⟨ret_bool (by rw [HCL.out]; rfl),?_,Frm.of_below BH4.out⟩;rw [if_pos HCL.out];exact ⟨M,V,HG.out.kept BH4.out⟩
 | false =>
  go_upto_region 5 with fail
  go_cut [17] (fun v wx=>GrpAt base wx b (xs++[p])∧Frm b base 129 w wx)
  case first =>
   rename_i J K2 hJ hK2;clear HCL hun;have hsz4:=BH4.out.size;have HC5:Hid (∀ bb wy,IY w4.drew B5 w.heap.size p bb wy→HoldsL wy B5 (keyL p)∧HoldsL wy w.heap.size (pcL p)∧w4.drew.heap.size≤wy.heap.size):=fun bb wy h=>h.holds KH4.out.drew PH4.out.drew
   have HRW:Hid (∀ g,(thereV xs V p).ownBlock=some g→g < w4.drew.heap.size):=fun g hg=>Nat.lt_of_lt_of_le (HTR.out g hg).2 BH4.out.size
   have HB5:Hid (∀ g,(thereV xs V p).ownBlock=some g→g≠B5∧g≠w.heap.size):=fun g hg=>by have:=(HTR.out g hg).2; omega
   refine wp_region_growYU (Rs:=[IsV (.map (some b)),IsV (.agg #[.string p.src,.string p.dst,.int .i64 p.proto,.int .i64 p.id]),IsV (.slice a ys.length cap),IsV (.agg #[.string p.src,.string p.dst,.int .i64 p.proto,.int .i64 p.id,.int .i64 p.off,.bool p.more,.string p.data,.int .i64 p.since]),IsOneA w4.drew.heap.size p,(fun v wx=>GrpMid base w b xs M V p v wx),(fun v wx=>∃ v5,v=.agg #[v5]∧GrpMid base w b xs M V p v5 wx)]) (EY (thereV xs V p).ownBlock) (IY w4.drew B5 w.heap.size p) 5 [17,18,19,20,21,22,23] _ (by decide) (by kernel_rfl) rfl (by kernel_rfl) rfl (Below.refl _ _) ?_ ?_ ?_
   ·intro i j hij hdep v wx wy hR hE;match j,hR,hdep,hij with
    | 0,hR,_,_=>exact hR
    | 1,hR,_,_=>exact hR
    | 2,hR,_,_=>exact hR
    | 3,hR,_,_=>exact hR
    | 4,hR,_,_=>exact isOneA_grown hR (EY_grown hE) HRW.out
    | 5,hR,_,hij=>exact GrpMid.kept hR (EY_not hij hE)
    | 6,hR,hdep,hij =>
     have hi5:i≠5:=fun e=>hdep _ rfl ⟨5,.data⟩ (by simp) rfl e.symm
     obtain ⟨v5,h1,h2⟩:=hR;exact ⟨v5,h1,h2.kept (EY_not hi5 hE)⟩
    | n+7,hR,_,_=>simp [rAt]
   ·refine ⟨?_,?_,?_,?_,?_,?_,?_,trivial⟩
    ·intro K' act wy ho hd bb hbc hI hK;have o0:=ho 0 (by decide);simp [slot] at o0;clear hd ho;go_simp;exact hK _ _ rfl (EY_mk (by decide) (Below.refl _ _)) (by rw [show (bb||(0:Nat)==5)=bb by cases bb<;>rfl]; exact hI)
    ·intro K' act wy ho hd bb hbc hI hK;have o0:=ho 5 (by decide);simp [slot] at o0;clear hd ho;have hh:=(HC5.out bb wy hI).1;have n0:=hh.cell (j:=0) rfl;have n1:=hh.cell (j:=1) rfl;have n2:=hh.cell (j:=2) rfl;have n3:=hh.cell (j:=3) rfl;go_simp;exact hK _ _ rfl (EY_mk (by decide) (Below.refl _ _)) (by rw [show (bb||(1:Nat)==5)=bb by cases bb<;>rfl]; exact hI)
    ·intro K' act wy ho hd bb hbc hI hK;have o0:=ho 6 (by decide);simp [slot] at o0;clear hd ho;go_simp;exact hK _ _ rfl (EY_mk (by decide) (Below.refl _ _)) (by rw [show (bb||(2:Nat)==5)=bb by cases bb<;>rfl]; exact hI)
    ·intro K' act wy ho hd bb hbc hI hK;have o0:=ho 3 (by decide);simp [slot] at o0;clear hd ho;obtain ⟨k0,k1,k2,k3,k4,k5,k6,k7⟩:=cells8 (HC5.out bb wy hI).2.1;go_simp;exact hK _ _ rfl (EY_mk (by decide) (Below.refl _ _)) (by rw [show (bb||(3:Nat)==5)=bb by cases bb<;>rfl]; exact hI)
    ·intro K' act wy ho hd bb hbc hI hK;have q3:=hd ⟨3,.data⟩ (by simp) rfl;simp [rAt,IsV,slot] at q3;clear hd ho;have hlo:w4.drew.heap.size≤wy.heap.size:=(HC5.out bb wy hI).2.2;go_simp;exact hK _ _ ⟨wy.heap.size,rfl,hlo,news8 wy p _⟩ (EY_mk (by decide) ((Below.refl _ _).alloc (Nat.le_refl _) _)) (by rw [show (bb||(4:Nat)==5)=bb by cases bb<;>rfl]; exact hI.keep ((Below.refl _ _).alloc (Nat.le_refl _) _))
    ·intro K' act wy ho hd bb hbc hI hK;obtain rfl:=hbc rfl;have q2:=hd ⟨2,.data⟩ (by simp) rfl;simp [rAt,IsV,slot] at q2;obtain ⟨g4,e4,l4,r4⟩ : IsOneA w4.drew.heap.size p (slot act 21) wy:=hd ⟨4,.data⟩ (by simp) rfl;simp [slot] at e4;clear hd ho;have hby:Below w.heap.size w wy:=BH4.out.drew.trans (Below.mono hI BH4.out.size);obtain ⟨v5,w5,hrun,hmid,hgr⟩:=(HG.out.kept hby).app (p:=p) (ty:=37) (Frm.of_below hby) hl (Nat.le_trans hbase hby.size) g4 r4 (fun g hg=>(HTR.out g hg).2);rw [HV.out] at hrun;have hne:∀ B',B'=B5∨B'=w.heap.size→some B'≠(thereV xs V p).ownBlock:=fun B' hB' e=>by
      have:=HB5.out B' e.symm;rcases hB' with rfl | rfl
      ·exact this.1 rfl
      ·exact this.2 rfl
     have hh:=HC5.out false wy hI;refine wp_append_run (.tmp 19) (.tmp 21) _ rfl ?_ ?_ hrun (hK _ _ hmid hgr ⟨hh.1.grown (by simp [keyL]) hgr (hne _ (.inl rfl)),hh.2.1.grown (by simp [pcL]) hgr (hne _ (.inr rfl)),Nat.le_trans hh.2.2 hgr.size⟩)
     ·simpa [Act.eval] using q2
     ·simpa [Act.eval] using e4
    ·intro K' act wy ho hd bb hbc hI hK;have hm:GrpMid base w b xs M V p (slot act 22) wy:=hd ⟨5,.data⟩ (by simp) rfl;obtain ⟨a5,c5,e5,_⟩ : ∃ a5 c5,slot act 22=.slice a5 ((grpPc xs p).length+1) c5∧True:=by
      rcases hm.new.2 with ⟨_,h2⟩ | ⟨g,cp,cur,h1,_⟩
      ·omega
      ·exact ⟨_,_,h1,trivial⟩
     rw [e5] at hm;simp [slot] at e5;clear hd ho;go_simp;exact hK _ _ ⟨_,rfl,hm⟩ (EY_mk (by decide) (Below.refl _ _)) (by rw [show (bb||(6:Nat)==5)=bb by cases bb<;>rfl]; exact hI)
   ·intro X act K' wx ha hsl hR hI hQ;obtain ⟨x0,x1,x2,x3,x4,x5,⟨v5,x6,hm⟩,-⟩:=hR;simp only [IsV] at x0 x1;obtain ⟨w6,hrun,hga,hfr⟩:=hm.put HKI.out;unfold keyC at hrun;refine wp_update_run _ (.tmp 17) (.tmp 18) (.tmp 23) rfl ?_ ?_ ?_ hrun (hQ _ _ ?_)
    ·rw [eval_slot,← x0]; exact hsl 0 (by decide)
    ·rw [eval_slot,← x1]; exact hsl 1 (by decide)
    ·rw [eval_slot,← x6]; exact hsl 6 (by decide)
    subst ha;simp only [putsFrom,x0,x1,x6];go_simp;refine hK2 _ _ (hJ _ _ ?_);(repeat apply Exists.intro)
    exact ⟨⟨hga,hfr⟩,rfl⟩
  case rest =>
   obtain ⟨hga,hfr⟩:=hcut;have HGA:Hid _:=hga;have HFR:Hid _:=hfr;clear hga hfr;go_wp2_with fail
   go_ret;refine ⟨ret_bool (by rw [HCL.out]; rfl),?_,HFR.out⟩;rw [if_neg (by rw [HCL.out]; simp)];exact HGA.out
end Go.Proofs.YthpopipedamciaaGreat
