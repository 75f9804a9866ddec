import Derived.Test.YthagnjokdnnmpaaGreatMerged25
import Derived.Test.YthagnjokdnnmpaaGreatMerged11
import Derived.Deep.DeepCutAuto
import Derived.Test.YthagnjokdnnmpaaGreatMerged9
import Derived.Test.YthagnjokdnnmpaaGreatMerged18
import Derived.Test.YthagnjokdnnmpaaGreatMerged15
set_option linter.unusedVariables false
set_option linter.unusedSimpArgs false
set_option maxRecDepth 100000
set_option maxHeartbeats 8000000
namespace Go.Proofs.YthagnjokdnnmpaaGreat
open Go.RowKit Go.PlainAid
def AddPost (base b:Nat) (w:World) (xs:List Pc) (p:Pc):Ending→World→Prop:=fun e w'=>e=.returned (.bool (!(grpPc xs p).any (fun q=>clashPc p q)))∧GrpAt base w' b (if (grpPc xs p).any (fun q=>clashPc p q)=true then xs else xs++[p])∧Frm b base 128 w w'
def keyL (p:Pc):List Value:=[.string p.src,.string p.dst,.int .i64 p.proto,.int .i64 p.id]
def IsOneA (lo:Nat) (q:Pc):Value→World→Prop:=fun v w=>∃ g,v=.slice (some ⟨g,0,none⟩) 1 1∧lo≤g∧∀ j u,(pcL q)[j]?=some u→w.cell? ((⟨g,0,none⟩ : Addr).add j)=some u
theorem isOneA_grown {lo:Nat} {q:Pc} {v:Value} {w w':World} {row:Option Nat} (h:IsOneA lo q v w) (hg:w.grownBy w' row) (hr:∀ g,row=some g→g < lo):IsOneA lo q v w':=by
 obtain ⟨g,h1,h2,h3⟩:=h;refine ⟨g,h1,h2,fun j u hu=>?_⟩;have hc:=h3 j u hu;have hlt:=World.block_lt_of_cell? w _ hc;have e:((⟨g,0,none⟩ : Addr).add j)=⟨g,j,none⟩:=by simp [Addr.add]; omega
 rw [e] at hc hlt ⊢;have hb:=hg.block g hlt (fun e=>by have:=hr g e.symm; omega);exact (World.cell?_of_block (a:=⟨g,j,none⟩) hb).trans hc
theorem field_pps (a:Option Addr) (n cap:Nat) (W:World):Sem.run Tryz.prog (Instr.field 202 (.agg #[.slice a n cap]) 0) W=.ok (.slice a n cap) W:=by kernel_rfl
def EY (row:Option Nat):Nat→World→World→Prop
 | 5=>fun wa wb=>wa.grownBy wb row
 | _=>fun wa wb=>Below wa.heap.size wa wb
def IY (w4:World) (B5 B0:Nat) (p:Pc):Bool→World→Prop
 | false=>fun w=>Below w4.heap.size w4 w
 | true=>fun w=>HoldsL w B5 (keyL p)∧HoldsL w B0 (pcL p)∧w4.heap.size≤w.heap.size
theorem IY.keep {w4:World} {B5 B0:Nat} {p:Pc} {bb:Bool} {w w':World} (h:IY w4 B5 B0 p bb w) (hb:Below w.heap.size w w'):IY w4 B5 B0 p bb w':=by
 cases bb with
 | false=>exact Below.trans h (hb.mono h.size)
 | true=>exact ⟨h.1.kept (by simp [keyL]) hb,h.2.1.kept (by simp [pcL]) hb,Nat.le_trans h.2.2 hb.size⟩
theorem IY.holds {w4:World} {B5 B0:Nat} {p:Pc} {bb:Bool} {w:World} (h:IY w4 B5 B0 p bb w) (h5:HoldsL w4 B5 (keyL p)) (h0:HoldsL w4 B0 (pcL p)):HoldsL w B5 (keyL p)∧HoldsL w B0 (pcL p)∧w4.heap.size≤w.heap.size:=by
 cases bb with
 | false=>exact ⟨h5.kept (by simp [keyL]) h,h0.kept (by simp [pcL]) h,h.size⟩
 | true=>exact h
theorem EY_not {row:Option Nat} {i:Nat} {w w':World} (hi:i≠5) (h:EY row i w w'):Below w.heap.size w w':=by
 unfold EY at h;split at h
 ·exact absurd rfl hi
 ·exact h
theorem EY_mk {row:Option Nat} {i:Nat} {w w':World} (hi:i≠5) (h:Below w.heap.size w w'):EY row i w w':=by
 unfold EY;split
 ·exact absurd rfl hi
 ·exact h
theorem EY_grown {row:Option Nat} {i:Nat} {w w':World} (h:EY row i w w'):w.grownBy w' row:=by
 by_cases hi:i=5
 ·subst hi; exact h
 ·exact grown_of_below (EY_not hi h)
theorem implAdd_any (xs:List Pc) (p:Pc) (b base:Nat) (w:World) (hg:GrpAt base w b xs) (hbase:base≤w.heap.size) (hl:xs.length≤1048576) (hp:pieceOk p=true) (hs:PcSm p) (hx:∀ q∈xs,pieceOk q=true) :
  Calls Tryz.prog 128 #[.map (some b),pcC p] w (AddPost base b w xs p):=by
 obtain ⟨M,V,hg⟩:=hg;have HG:Hid (GrpOf base w b xs M V):=hg;have HKI:Hid (KeyIn p):=keyIn_ok hs hp;have HK:Hid (∀ W,Calls Tryz.prog 161 #[pcC p] W fun e w'=>e=.returned (keyC p)∧Below W.heap.size W w'):=fun W=>implKey_any p W
 have HW:Hid (∀ W,Calls Tryz.prog 163 #[pcC p] W fun e w'=>∃ B,e=.returned (.func (.func 172) #[] #[.pointer (some ⟨B,0,none⟩)])∧HoldsL w' B (pcL p)∧Below W.heap.size W w'):=fun W=>implWith_any p W
 have hRow:Row pcL 8 base 128 (thereV xs V p) (grpPc xs p) w w:=⟨hg.own p,Below.refl _ _⟩;obtain ⟨a,cap,hv,hcap,hso⟩:=hRow.shape pcL_length;have hgl:=grp_len xs p;have HC:Hid (∀ W,Below w.heap.size w W→∀ B,HoldsL W B (pcL p)→Calls Tryz.prog 162 #[.slice a (grpPc xs p).length cap,.func (.func 172) #[] #[.pointer (some ⟨B,0,none⟩)]] W fun e w'=>e=.returned (.bool ((grpPc xs p).any (fun q=>clashPc p q)))∧Below W.heap.size W w'):=fun W hW B hB=>contains_any p (grpPc xs p) a cap B W (by omega) (hso.is.below hW) (okOff_ok hp) (fun q hq=>okOff_ok (hx q (grp_mem hq).1)) hB
 have HV:Hid (thereV xs V p=.slice a (grpPc xs p).length cap):=hv;have HTR:Hid (∀ g,(thereV xs V p).ownBlock=some g→base≤g∧g < w.heap.size):=there_row hg p;have HPN:Hid (HoldsL (w.alloc (.cells (pcL p).toArray 128)) w.heap.size (pcL p)):=HoldsL.new w (pcL p) _;have HZ:Hid (Below w.heap.size w (w.alloc (.cells (pcL p).toArray 128))):=(Below.refl _ _).alloc (Nat.le_refl _) _;rw [show (pcL p).toArray=#[.string p.src,.string p.dst,.int .i64 p.proto,.int .i64 p.id,.int .i64 p.off,.bool p.more,.string p.data,.int .i64 p.since] from rfl] at HPN HZ;clear hg hRow hv hso hp hs hx;unfold pcC at HK HW ⊢;generalize hys:grpPc xs p=ys at HC HV hgl hcap;have HYS:Hid (grpPc xs p=ys):=hys;clear hys;have hun:undef=Value.tuple #[]:=rfl;go_enter Tryz.func128,Tryz.ntmps128
 go_wp2_with fail
 refine (HK.out _).mono ?_;rintro e w1 ⟨rfl,b1⟩;have P1:=HPN.out.kept (by simp [pcL]) b1;have B1:Below w.heap.size w w1:=HZ.out.trans (b1.mono (by simp));have hw1:w.heap.size < w1.heap.size:=P1.lt (by simp [pcL]);unfold keyC;go_upto_region 2 with fail
 have K2:HoldsL (w1.alloc (.cells (keyL p).toArray 199)) w1.heap.size (keyL p):=HoldsL.new w1 (keyL p) _;have P2:=P1.alloc (.cells (keyL p).toArray 199);have B2:Below w.heap.size w (w1.alloc (.cells (keyL p).toArray 199)):=B1.alloc B1.size _;rw [show (keyL p).toArray=#[.string p.src,.string p.dst,.int .i64 p.proto,.int .i64 p.id] from rfl] at K2 P2 B2;generalize w1.alloc (.cells #[.string p.src,.string p.dst,.int .i64 p.proto,.int .i64 p.id] 199)=W2 at *;generalize w1.heap.size=B5 at *;have KH2:Hid (HoldsL W2 B5 (keyL p)):=K2;have PH2:Hid (HoldsL W2 w.heap.size (pcL p)):=P2;have BH2:Hid (Below w.heap.size w W2):=B2;have LK:=((HG.out.kept B2).look HKI.out).1;rw [HV.out] at LK;unfold keyC at LK;obtain ⟨k0,k1,k2,k3,k4,k5,k6,k7⟩:=cells8 P2;have n0:=K2.cell (j:=0) rfl;have n1:=K2.cell (j:=1) rfl;have n2:=K2.cell (j:=2) rfl;have n3:=K2.cell (j:=3) rfl;clear P1 B1 b1 K2 P2 B2 HPN HZ HK;have hfl:=field_pps a ys.length cap W2;go_wp2_with (at_lookup; refine wpList_lookup_run rfl _ _ _ _ rfl rfl rfl LK ?_)
 refine (HW.out _).mono ?_;rintro e w3 ⟨B,rfl,hB,b3⟩;have BH3:Hid (Below w.heap.size w w3):=BH2.out.trans (b3.mono BH2.out.size);have KH3:Hid _:=KH2.out.kept (by simp [keyL]) b3;have PH3:Hid _:=PH2.out.kept (by simp [pcL]) b3;have HBX:Hid (HoldsL w3 B (pcL p)):=hB;clear b3 hB k0 k1 k2 k3 k4 k5 k6 k7 n0 n1 n2 n3 LK KH2 PH2 BH2 HW;go_wp2_with fail
 refine (HC.out _ BH3.out _ HBX.out).mono ?_;rintro e w4 ⟨rfl,b4⟩;have BH4:Hid (Below w.heap.size w w4):=BH3.out.trans (b4.mono BH3.out.size);have KH4:Hid _:=KH3.out.kept (by simp [keyL]) b4;have PH4:Hid _:=PH3.out.kept (by simp [pcL]) b4;clear b4 BH3 KH3 PH3 HBX HC;generalize hcl:ys.any (fun q=>clashPc p q)=cl;have HCL:Hid ((grpPc xs p).any (fun q=>clashPc p q)=cl):=by unfold Hid; rw [HYS.out]; exact hcl
 clear hcl
 cases cl with
 | true =>
  go_wp2_with fail
  go_ret;refine ⟨ret_bool (by rw [HCL.out]; rfl),?_,Frm.of_below BH4.out⟩;rw [if_pos HCL.out];exact ⟨M,V,HG.out.kept BH4.out⟩
 | false =>
  go_upto_region 5 with fail
  go_cut [17] (fun v wx=>GrpAt base wx b (xs++[p])∧Frm b base 128 w wx)
  case first =>
   rename_i J K2 hJ hK2;clear HCL hun;have hsz4:=BH4.out.size;have HC5:Hid (∀ bb wy,IY w4.drew B5 w.heap.size p bb wy→HoldsL wy B5 (keyL p)∧HoldsL wy w.heap.size (pcL p)∧w4.drew.heap.size≤wy.heap.size):=fun bb wy h=>h.holds KH4.out.drew PH4.out.drew
   have HRW:Hid (∀ g,(thereV xs V p).ownBlock=some g→g < w4.drew.heap.size):=fun g hg=>Nat.lt_of_lt_of_le (HTR.out g hg).2 BH4.out.size
   have HB5:Hid (∀ g,(thereV xs V p).ownBlock=some g→g≠B5∧g≠w.heap.size):=fun g hg=>by have:=(HTR.out g hg).2; omega
   refine wp_region_growYU (Rs:=[IsV (.map (some b)),IsV (.agg #[.string p.src,.string p.dst,.int .i64 p.proto,.int .i64 p.id]),IsV (.slice a ys.length cap),IsV (.agg #[.string p.src,.string p.dst,.int .i64 p.proto,.int .i64 p.id,.int .i64 p.off,.bool p.more,.string p.data,.int .i64 p.since]),IsOneA w4.drew.heap.size p,(fun v wx=>GrpMid base w b xs M V p v wx),(fun v wx=>∃ v5,v=.agg #[v5]∧GrpMid base w b xs M V p v5 wx)]) (EY (thereV xs V p).ownBlock) (IY w4.drew B5 w.heap.size p) 5 [17,18,19,20,21,22,23] _ (by decide) (by kernel_rfl) rfl (by kernel_rfl) rfl (Below.refl _ _) ?_ ?_ ?_
   ·intro i j hij hdep v wx wy hR hE;match j,hR,hdep,hij with
    | 0,hR,_,_=>exact hR
    | 1,hR,_,_=>exact hR
    | 2,hR,_,_=>exact hR
    | 3,hR,_,_=>exact hR
    | 4,hR,_,_=>exact isOneA_grown hR (EY_grown hE) HRW.out
    | 5,hR,_,hij=>exact GrpMid.kept hR (EY_not hij hE)
    | 6,hR,hdep,hij =>
     have hi5:i≠5:=fun e=>hdep _ rfl ⟨5,.data⟩ (by simp) rfl e.symm
     obtain ⟨v5,h1,h2⟩:=hR;exact ⟨v5,h1,h2.kept (EY_not hi5 hE)⟩
    | n+7,hR,_,_=>simp [rAt]
   ·refine ⟨?_,?_,?_,?_,?_,?_,?_,trivial⟩
    ·intro K' act wy ho hd bb hbc hI hK;have o0:=ho 0 (by decide);simp [slot] at o0;clear hd ho;go_simp;exact hK _ _ rfl (EY_mk (by decide) (Below.refl _ _)) (by rw [show (bb||(0:Nat)==5)=bb by cases bb<;>rfl]; exact hI)
    ·intro K' act wy ho hd bb hbc hI hK;have o0:=ho 5 (by decide);simp [slot] at o0;clear hd ho;have hh:=(HC5.out bb wy hI).1;have n0:=hh.cell (j:=0) rfl;have n1:=hh.cell (j:=1) rfl;have n2:=hh.cell (j:=2) rfl;have n3:=hh.cell (j:=3) rfl;go_simp;exact hK _ _ rfl (EY_mk (by decide) (Below.refl _ _)) (by rw [show (bb||(1:Nat)==5)=bb by cases bb<;>rfl]; exact hI)
    ·intro K' act wy ho hd bb hbc hI hK;have o0:=ho 6 (by decide);simp [slot] at o0;clear hd ho;go_simp;exact hK _ _ rfl (EY_mk (by decide) (Below.refl _ _)) (by rw [show (bb||(2:Nat)==5)=bb by cases bb<;>rfl]; exact hI)
    ·intro K' act wy ho hd bb hbc hI hK;have o0:=ho 3 (by decide);simp [slot] at o0;clear hd ho;obtain ⟨k0,k1,k2,k3,k4,k5,k6,k7⟩:=cells8 (HC5.out bb wy hI).2.1;go_simp;exact hK _ _ rfl (EY_mk (by decide) (Below.refl _ _)) (by rw [show (bb||(3:Nat)==5)=bb by cases bb<;>rfl]; exact hI)
    ·intro K' act wy ho hd bb hbc hI hK;have q3:=hd ⟨3,.data⟩ (by simp) rfl;simp [rAt,IsV,slot] at q3;clear hd ho;have hlo:w4.drew.heap.size≤wy.heap.size:=(HC5.out bb wy hI).2.2;go_simp;exact hK _ _ ⟨wy.heap.size,rfl,hlo,news8 wy p _⟩ (EY_mk (by decide) ((Below.refl _ _).alloc (Nat.le_refl _) _)) (by rw [show (bb||(4:Nat)==5)=bb by cases bb<;>rfl]; exact hI.keep ((Below.refl _ _).alloc (Nat.le_refl _) _))
    ·intro K' act wy ho hd bb hbc hI hK;obtain rfl:=hbc rfl;have q2:=hd ⟨2,.data⟩ (by simp) rfl;simp [rAt,IsV,slot] at q2;obtain ⟨g4,e4,l4,r4⟩ : IsOneA w4.drew.heap.size p (slot act 21) wy:=hd ⟨4,.data⟩ (by simp) rfl;simp [slot] at e4;clear hd ho;have hby:Below w.heap.size w wy:=BH4.out.drew.trans (Below.mono hI BH4.out.size);obtain ⟨v5,w5,hrun,hmid,hgr⟩:=(HG.out.kept hby).app (p:=p) (ty:=37) (Frm.of_below hby) hl (Nat.le_trans hbase hby.size) g4 r4 (fun g hg=>(HTR.out g hg).2);rw [HV.out] at hrun;have hne:∀ B',B'=B5∨B'=w.heap.size→some B'≠(thereV xs V p).ownBlock:=fun B' hB' e=>by
      have:=HB5.out B' e.symm;rcases hB' with rfl | rfl
      ·exact this.1 rfl
      ·exact this.2 rfl
     have hh:=HC5.out false wy hI;refine wp_append_run (.tmp 19) (.tmp 21) _ rfl ?_ ?_ hrun (hK _ _ hmid hgr ⟨hh.1.grown (by simp [keyL]) hgr (hne _ (.inl rfl)),hh.2.1.grown (by simp [pcL]) hgr (hne _ (.inr rfl)),Nat.le_trans hh.2.2 hgr.size⟩)
     ·simpa [Act.eval] using q2
     ·simpa [Act.eval] using e4
    ·intro K' act wy ho hd bb hbc hI hK;have hm:GrpMid base w b xs M V p (slot act 22) wy:=hd ⟨5,.data⟩ (by simp) rfl;obtain ⟨a5,c5,e5,_⟩ : ∃ a5 c5,slot act 22=.slice a5 ((grpPc xs p).length+1) c5∧True:=by
      rcases hm.new.2 with ⟨_,h2⟩ | ⟨g,cp,cur,h1,_⟩
      ·omega
      ·exact ⟨_,_,h1,trivial⟩
     rw [e5] at hm;simp [slot] at e5;clear hd ho;go_simp;exact hK _ _ ⟨_,rfl,hm⟩ (EY_mk (by decide) (Below.refl _ _)) (by rw [show (bb||(6:Nat)==5)=bb by cases bb<;>rfl]; exact hI)
   ·intro X act K' wx ha hsl hR hI hQ;obtain ⟨x0,x1,x2,x3,x4,x5,⟨v5,x6,hm⟩,-⟩:=hR;simp only [IsV] at x0 x1;obtain ⟨w6,hrun,hga,hfr⟩:=hm.put HKI.out;unfold keyC at hrun;refine wp_update_run _ (.tmp 17) (.tmp 18) (.tmp 23) rfl ?_ ?_ ?_ hrun (hQ _ _ ?_)
    ·rw [eval_slot,← x0]; exact hsl 0 (by decide)
    ·rw [eval_slot,← x1]; exact hsl 1 (by decide)
    ·rw [eval_slot,← x6]; exact hsl 6 (by decide)
    subst ha;simp only [putsFrom,x0,x1,x6];go_simp;refine hK2 _ _ (hJ _ _ ?_);(repeat apply Exists.intro)
    exact ⟨⟨hga,hfr⟩,rfl⟩
  case rest =>
   obtain ⟨hga,hfr⟩:=hcut;have HGA:Hid _:=hga;have HFR:Hid _:=hfr;clear hga hfr;go_wp2_with fail
   go_ret;refine ⟨ret_bool (by rw [HCL.out]; rfl),?_,HFR.out⟩;rw [if_neg (by rw [HCL.out]; simp)];exact HGA.out
def GatherPost (w:World) (xs:List Pc):Ending→World→Prop:=fun e w' =>
 Below w.heap.size w w'∧((piecesOk xs=false∧e=.returned (.tuple #[.map none,.bool false]))∨(piecesOk xs=true∧e=.returned (.tuple #[.map (some w.heap.size),.bool true])∧GrpAt (w.heap.size+1) w' w.heap.size xs∧w.heap.size+1≤w'.heap.size))
theorem implGather_any (xs:List Pc) (a:Option Addr) (cap:Nat) (w:World) (hin:PcsIn xs) (hr:SlIs pcL 8 w a xs) :
  Calls Tryz.prog 90 #[.slice a xs.length cap] w (GatherPost w xs):=by
 have hlen:=hin.1;have HIN:Hid (PcsIn xs):=hin;have HR:Hid (SlIs pcL 8 w a xs):=hr;have hun:undef=Value.tuple #[]:=rfl;clear hin hr;by_cases h40:xs.length≤40
 ·have h40':¬ 40 < xs.length:=by omega
  have HPO:Hid (piecesOk xs=allPc xs):=by unfold Hid piecesOk; rw [decide_eq_true h40]; rfl
  have hmm:=run_makeMap (P:=Tryz.prog) 137 w;go_enter Tryz.func90,Tryz.ntmps90
  go_wp2_with fail
  clear hmm;have HB0:Hid (Below w.heap.size w (w.alloc (.map #[] 0))):=(Below.refl _ _).alloc (Nat.le_refl _) _;have HG0:Hid (GrpAt (w.heap.size+1) (w.alloc (.map #[] 0)) w.heap.size []):=GrpAt.made w (by omega);have hz0:w.heap.size+1≤(w.alloc (.map #[] 0)).heap.size:=by simp
  generalize w.alloc (.map #[] 0)=W0 at *;go_loopw [13] (fun iv wr=>∃ i:Nat,i≤xs.length∧iv=.int .i64 i∧allN xs i=true∧GrpAt (w.heap.size+1) wr w.heap.size (xs.take i)∧Below w.heap.size w wr∧w.heap.size+1≤wr.heap.size) (fun iv _=>xs.length-(intOf iv).toNat)
  case atStart=>exact ⟨0,Nat.zero_le _,rfl,rfl,by simpa using HG0.out,HB0.out,hz0⟩
  case round =>
   obtain ⟨i,hil,rfl,hn,hg,hb,hsz⟩:=hrel;have HN:Hid (allN xs i=true):=hn;have HG:Hid (GrpAt (w.heap.size+1) wr w.heap.size (xs.take i)):=hg;have HW:Hid (Below w.heap.size w wr):=hb;clear hn hg hb HG0 HB0 hz0;by_cases hlt:i < xs.length
   ·obtain ⟨b,off,rfl,hb,hat⟩:=HR.out.at hlt;have hA:=(hat.below hb HW.out) i hlt;have HQS:Hid (PcSm xs[i]):=HIN.out.2 _ (List.getElem_mem hlt);have HTK:Hid (xs.take (i+1)=xs.take i++[xs[i]]):=List.take_succ_eq_append_getElem hlt;have HPR:Hid (∀ W,Calls Tryz.prog 127 #[pcC xs[i]] W fun e w'=>e=.returned (.bool (pieceOk xs[i]))∧Below W.heap.size W w'):=fun W=>implPieceRight_any xs[i] W HQS.out.1 HQS.out.2.1 HQS.out.2.2
    have HOK:Hid (∀ q∈xs.take i,pieceOk q=true):=allN_take_ok i (by omega) HN.out;have HNO:Hid (pieceOk xs[i]=false→piecesOk xs=false):=fun h=>by
     rw [HPO.out];refine allN_down (i+1) (by omega) ?_;rw [allN_succ hlt,h]; simp
    have HST:Hid (pieceOk xs[i]=true→allN xs (i+1)=!(grpPc (xs.take i) xs[i]).any (fun q=>clashPc xs[i] q)):=fun h=>by
     rw [allN_grp hlt HOK.out h,HN.out,Bool.true_and]
    have HN2:Hid (allN xs (i+1)=false→piecesOk xs=false):=fun h=>by rw [HPO.out]; exact allN_down (i+1) (by omega) h
    have HAD:Hid (pieceOk xs[i]=true→∀ W,GrpAt (w.heap.size+1) W w.heap.size (xs.take i)→w.heap.size+1≤W.heap.size→Calls Tryz.prog 128 #[.map (some w.heap.size),pcC xs[i]] W (AddPost (w.heap.size+1) w.heap.size W (xs.take i) xs[i])):=fun h W hG hz=>implAdd_any (xs.take i) xs[i] w.heap.size (w.heap.size+1) W hG hz (by simp; omega) h HQS.out HOK.out
    generalize xs[i]=q at *;have c0:wr.cell? ⟨b,off+i*8,none⟩=some (.string q.src):=hA 0 _ rfl;have c1:wr.cell? ⟨b,off+i*8+1,none⟩=some (.string q.dst):=hA 1 _ rfl;have c2:wr.cell? ⟨b,off+i*8+2,none⟩=some (.int .i64 q.proto):=hA 2 _ rfl;have c3:wr.cell? ⟨b,off+i*8+3,none⟩=some (.int .i64 q.id):=hA 3 _ rfl;have c4:wr.cell? ⟨b,off+i*8+4,none⟩=some (.int .i64 q.off):=hA 4 _ rfl;have c5:wr.cell? ⟨b,off+i*8+5,none⟩=some (.bool q.more):=hA 5 _ rfl;have c6:wr.cell? ⟨b,off+i*8+6,none⟩=some (.string q.data):=hA 6 _ rfl;have c7:wr.cell? ⟨b,off+i*8+7,none⟩=some (.int .i64 q.since):=hA 7 _ rfl;clear hA hat HQS HIN;have HPN:Hid (HoldsL (wr.alloc (.cells (pcL q).toArray 128)) wr.heap.size (pcL q)):=HoldsL.new wr (pcL q) _;have HZ:Hid (Below wr.heap.size wr (wr.alloc (.cells (pcL q).toArray 128))):=(Below.refl _ _).alloc (Nat.le_refl _) _;rw [show (pcL q).toArray=#[.string q.src,.string q.dst,.int .i64 q.proto,.int .i64 q.id,.int .i64 q.off,.bool q.more,.string q.data,.int .i64 q.since] from rfl] at HPN HZ;unfold pcC at HPR HAD;generalize pieceOk q=ok at *;go_wp2_with fail
    refine (HPR.out _).mono ?_;rintro e w1 ⟨rfl,b1⟩;have P1:=HPN.out.kept (by simp [pcL]) b1;have B1:Hid (Below wr.heap.size wr w1):=HZ.out.trans (b1.mono (by simp));have hs1:w.heap.size+1≤w1.heap.size:=Nat.le_trans hsz B1.out.size;have B2:Hid (Below w.heap.size w w1):=HW.out.trans (B1.out.mono HW.out.size);clear b1 c0 c1 c2 c3 c4 c5 c6 c7 HPR HPN HZ
    cases ok with
    | false =>
     have HX:Hid (piecesOk xs=false):=HNO.out rfl;clear P1 HNO HAD HST;go_wp2_with fail
     go_ret2
     exact ⟨B2.out,.inl ⟨HX.out,rfl⟩⟩
    | true =>
     have G1:Hid (GrpAt (w.heap.size+1) w1 w.heap.size (xs.take i)):=HG.out.kept B1.out;have HA2:Hid _:=HAD.out rfl w1 G1.out hs1;have HS2:Hid _:=HST.out rfl;clear HAD HST HNO;obtain ⟨k0,k1,k2,k3,k4,k5,k6,k7⟩:=cells8 P1;clear P1;go_wp2_with fail
     refine Calls.mono HA2.out ?_;rintro e w2 ⟨rfl,hga,hfr⟩;have B3:Hid (Below w.heap.size w w2):=B2.out.trans (hfr.below (by omega) (Nat.le_refl _) (by omega));have hs2:w.heap.size+1≤w2.heap.size:=Nat.le_trans hs1 hfr.size;have HGA:Hid _:=hga;clear hga hfr k0 k1 k2 k3 k4 k5 k6 k7 G1 HA2;generalize (grpPc (xs.take i) q).any (fun x=>clashPc q x)=cl at *
     cases cl with
     | true =>
      have HX:Hid (piecesOk xs=false):=HN2.out (by rw [HS2.out]; rfl);clear HS2 HN2;go_wp2_with fail
      go_ret2
      exact ⟨B3.out,.inl ⟨HX.out,rfl⟩⟩
     | false =>
      have HS3:Hid (allN xs (i+1)=true):=by unfold Hid; rw [HS2.out]; rfl
      have HG3:Hid (GrpAt (w.heap.size+1) w2 w.heap.size (xs.take (i+1))):=by unfold Hid; rw [HTK.out]; exact HGA.out
      clear HS2 HN2 HGA;go_wp2_with fail
      go_roundw
      case rel =>
       (repeat apply Exists.intro)
       refine ⟨?_,rfl⟩;exact ⟨i+1,by omega,by go_num,HS3.out,HG3.out,B3.out,hs2⟩
      case measure=>simp [intOf]; omega
   ·have hie:i=xs.length:=by omega
    have HX:Hid (piecesOk xs=true):=by
     have:=HN.out;rw [hie] at this;unfold Hid; rw [HPO.out]; exact this
    have HGX:Hid (GrpAt (w.heap.size+1) wr w.heap.size xs):=by
     have:=HG.out;rw [hie,List.take_of_length_le (Nat.le_refl _)] at this;exact this
    go_wp2_with fail
    go_ret2
    exact ⟨HW.out,.inr ⟨HX.out,rfl,HGX.out,hsz⟩⟩
 ·have HX:Hid (piecesOk xs=false):=by unfold Hid piecesOk; rw [decide_eq_false h40]; rfl
  go_enter Tryz.func90,Tryz.ntmps90
  go_wp2_with fail
  go_ret2
  exact ⟨Below.refl _ _,.inl ⟨HX.out,rfl⟩⟩
theorem implPiecesRight_any (xs:List Pc) (a:Option Addr) (cap:Nat) (w:World) (hin:PcsIn xs) (hr:SlIs pcL 8 w a xs) :
  Calls Tryz.prog 41 #[.slice a xs.length cap] w fun e w'=>e=.returned (.bool (piecesOk xs))∧Below w.heap.size w w':=by
 have HA:Hid _:=implGather_any xs a cap w hin hr;clear hin hr;generalize hok:piecesOk xs=ok;have HOK:Hid (piecesOk xs=ok):=hok;clear hok;go_enter Tryz.func41,Tryz.ntmps41
 go_wp2_with fail
 refine Calls.mono HA.out ?_;rintro e w1 ⟨hb,⟨h1,rfl⟩ | ⟨h1,rfl,hg,hz⟩⟩
 ·have HB:Hid _:=hb;have HE:Hid (ok=false):=by unfold Hid; rw [← HOK.out]; exact h1
  clear hb h1;go_wp2_with fail
  go_ret;exact ⟨ret_bool HE.out.symm,HB.out⟩
 ·have HB:Hid _:=hb;have HE:Hid (ok=true):=by unfold Hid; rw [← HOK.out]; exact h1
  clear hb h1 hg hz;go_wp2_with fail
  go_ret;exact ⟨ret_bool HE.out.symm,HB.out⟩
open Go.ChangeShapes Go.WideShapes
structure BoxBucket (w:World) (B:Nat) (p:Bk):Prop where
 c0:w.cell? ⟨B,0,none⟩=some (.int .i64 p.left)
 c1:w.cell? ⟨B,1,none⟩=some (.int .i64 p.most)
 c2:w.cell? ⟨B,2,none⟩=some (.int .i64 p.each)
 c3:w.cell? ⟨B,3,none⟩=some (.int .i64 p.since)
theorem BoxBucket.kept {w W:World} {B:Nat} {p:Bk} (h:BoxBucket w B p) (hB:Below w.heap.size w W):BoxBucket W B p:=by
 have hb:=World.block_lt_of_cell? w _ h.c0;exact ⟨((bcell hB).1 B 0 hb).trans h.c0,((bcell hB).1 B 1 hb).trans h.c1,((bcell hB).1 B 2 hb).trans h.c2,((bcell hB).1 B 3 hb).trans h.c3⟩
theorem BoxBucket.new (w:World) (p:Bk) {t:TypeId}:BoxBucket (w.alloc (.cells #[.int .i64 p.left,.int .i64 p.most,.int .i64 p.each,.int .i64 p.since] t)) w.heap.size p:=⟨cell_new rfl,cell_new rfl,cell_new rfl,cell_new rfl⟩
section
variable {H:Type} {enc:TypeId × Value→H} {w:World} {base:Nat} {spare:Nat→Bool} {held:Bool}
end
end Go.Proofs.YthagnjokdnnmpaaGreat
namespace Go.Proofs.YthagnjokdnnmpaaGreat
open Go.RowKit Go.PlainAid
theorem implBkTime_any (n:Int) (w:World) :
  Calls Tryz.prog 43 #[.int .i64 n] w fun e w'=>e=.returned (.bool (bkTime n))∧w'=w:=by
 by_cases h1:0≤n
 ·by_cases h2:n≤1000000000
  ·have HV:Hid (bkTime n=true):=by unfold Hid bkTime isIn; simp [h1,h2]
   go_enter Tryz.func43,Tryz.ntmps43
   go_wp2_with fail
   go_ret;exact ⟨ret_bool (by rw [HV.out]),rfl⟩
  ·have HV:Hid (bkTime n=false):=by unfold Hid bkTime isIn; simp [h2]
   go_enter Tryz.func43,Tryz.ntmps43
   go_wp2_with fail
   go_ret;exact ⟨ret_bool (by rw [HV.out]),rfl⟩
 ·have HV:Hid (bkTime n=false):=by unfold Hid bkTime isIn; simp [h1]
  have h1':n < 0:=by omega
  go_enter Tryz.func43,Tryz.ntmps43
  go_wp2_with fail
  go_ret;exact ⟨ret_bool (by rw [HV.out]),rfl⟩
theorem implBucketRight_any (b:Bk) (w:World) :
  Calls Tryz.prog 42 #[buC b] w fun e w'=>e=.returned (.bool (bucketOk b))∧Below w.heap.size w w':=by
 have HC:Hid (∀ W,Calls Tryz.prog 43 #[.int .i64 b.since] W fun e w'=>e=.returned (.bool (bkTime b.since))∧w'=W):=fun W=>implBkTime_any _ W
 have HV:Hid (bucketOk b=(decide (1≤b.most)&&decide (b.most≤100)&&(decide (0≤b.left)&&decide (b.left≤b.most))&&(decide (1≤b.each)&&decide (b.each≤1000))&&bkTime b.since)):=rfl;generalize bucketOk b=ans at *;generalize bkTime b.since=bs at *;have HZ:Hid (Below w.heap.size w (w.alloc (.cells #[.int .i64 b.left,.int .i64 b.most,.int .i64 b.each,.int .i64 b.since] 39))):=(Below.refl _ _).alloc (Nat.le_refl _) _;unfold buC;obtain ⟨left,most,each,since⟩:=b;dsimp only at *;by_cases h0:1≤most
 case neg =>
  replace HV:Hid (ans=false):=by unfold Hid; rw [HV.out]; simp [h0]
  have d0:¬ 1≤most:=h0;go_enter Tryz.func42,Tryz.ntmps42
  go_wp2_with fail
  go_ret;exact ⟨ret_bool HV.out.symm,HZ.out⟩
 by_cases h1:most≤100
 case neg =>
  replace HV:Hid (ans=false):=by unfold Hid; rw [HV.out]; simp [h0,h1]
  have d1:¬ most≤100:=h1;go_enter Tryz.func42,Tryz.ntmps42
  go_wp2_with fail
  go_ret;exact ⟨ret_bool HV.out.symm,HZ.out⟩
 by_cases h2:0≤left
 case neg =>
  replace HV:Hid (ans=false):=by unfold Hid; rw [HV.out]; simp [h0,h1,h2]
  have d2:¬ 0≤left:=h2;go_enter Tryz.func42,Tryz.ntmps42
  go_wp2_with fail
  go_ret;exact ⟨ret_bool HV.out.symm,HZ.out⟩
 by_cases h3:left≤most
 case neg =>
  replace HV:Hid (ans=false):=by unfold Hid; rw [HV.out]; simp [h0,h1,h2,h3]
  have d3:¬ left≤most:=h3;go_enter Tryz.func42,Tryz.ntmps42
  go_wp2_with fail
  go_ret;exact ⟨ret_bool HV.out.symm,HZ.out⟩
 by_cases h4:1≤each
 case neg =>
  replace HV:Hid (ans=false):=by unfold Hid; rw [HV.out]; simp [h0,h1,h2,h3,h4]
  have d4:¬ 1≤each:=h4;go_enter Tryz.func42,Tryz.ntmps42
  go_wp2_with fail
  go_ret;exact ⟨ret_bool HV.out.symm,HZ.out⟩
 by_cases h5:each≤1000
 case neg =>
  replace HV:Hid (ans=false):=by unfold Hid; rw [HV.out]; simp [h0,h1,h2,h3,h4,h5]
  have d5:¬ each≤1000:=h5;go_enter Tryz.func42,Tryz.ntmps42
  go_wp2_with fail
  go_ret;exact ⟨ret_bool HV.out.symm,HZ.out⟩
 replace HV:Hid (ans=bs):=by unfold Hid; rw [HV.out]; simp [h0,h1,h2,h3,h4,h5]
 go_enter Tryz.func42,Tryz.ntmps42
 go_wp2_with fail
 refine (HC.out _).mono ?_;rintro e w1 ⟨rfl,rfl⟩;go_wp2_with fail
 go_ret;exact ⟨ret_bool HV.out.symm,HZ.out⟩
end Go.Proofs.YthagnjokdnnmpaaGreat
