import Derived.Test.YthagnjokdnnmpaaGreatMerged12
import Derived.Test.YthagnjokdnnmpaaGreatMerged5
import Derived.Test.YthagnjokdnnmpaaGreatMerged9
import Derived.Test.YthagnjokdnnmpaaGreatMerged11
import Derived.Test.YthagnjokdnnmpaaGreatMerged6
set_option linter.unusedVariables false
set_option linter.unusedSimpArgs false
set_option maxRecDepth 100000
set_option maxHeartbeats 8000000
namespace Go.Proofs.YthagnjokdnnmpaaGreat
open Go.RowKit Go.PlainAid
theorem cloneS_any (s:ByteArray) (w:World) (h:s.size≤1048576) :
  Calls Tryz.prog 78 #[.string s] w fun e w'=>e=.returned (.string s)∧Below w.heap.size w w':=by
 have HC:Hid (∀ W,Calls Tryz.prog 111 #[.string s] W fun e w'=>e=.returned (.string s)∧Below W.heap.size W w'):=fun W=>Tryz.stringslite_Clone s W (by omega)
 go_enter Tryz.func78,Tryz.ntmps78
 go_wp2_with fail
 refine (HC.out _).mono ?_;rintro e w1 ⟨rfl,b1⟩;go_wp2_with fail
 go_ret;exact ⟨rfl,b1⟩
theorem copyBind_any (p:Bd) (w:World) (h1:p.inn.size≤1048576) (h2:p.out.size≤1048576) :
  Calls Tryz.prog 108 #[bdC p] w fun e w'=>e=.returned (bdC p)∧Below w.heap.size w w':=by
 have H1:Hid (∀ W,Calls Tryz.prog 78 #[.string p.inn] W fun e w'=>e=.returned (.string p.inn)∧Below W.heap.size W w'):=fun W=>cloneS_any _ W h1
 have H2:Hid (∀ W,Calls Tryz.prog 78 #[.string p.out] W fun e w'=>e=.returned (.string p.out)∧Below W.heap.size W w'):=fun W=>cloneS_any _ W h2
 have hun:undef=Value.tuple #[]:=rfl;clear h1 h2;have HP:Hid (HoldsL ((w.alloc (.cells #[.int .i64 p.proto,.string p.inn,.int .i64 p.inPort,.string p.out,.int .i64 p.outPort] 153)).alloc (.cells #[.int .i64 0,.string ⟨#[]⟩,.int .i64 0,.string ⟨#[]⟩,.int .i64 0] 153)) w.heap.size (bdL p)):=(HoldsL.new w (bdL p) _).alloc _;have HO:Hid (HoldsL ((w.alloc (.cells #[.int .i64 p.proto,.string p.inn,.int .i64 p.inPort,.string p.out,.int .i64 p.outPort] 153)).alloc (.cells #[.int .i64 0,.string ⟨#[]⟩,.int .i64 0,.string ⟨#[]⟩,.int .i64 0] 153)) (w.heap.size+1) [.int .i64 0,.string ⟨#[]⟩,.int .i64 0,.string ⟨#[]⟩,.int .i64 0]):=by
  have h:=HoldsL.new (w.alloc (.cells #[.int .i64 p.proto,.string p.inn,.int .i64 p.inPort,.string p.out,.int .i64 p.outPort] 153)) [.int .i64 0,.string ⟨#[]⟩,.int .i64 0,.string ⟨#[]⟩,.int .i64 0] 153;rwa [World.size_alloc] at h
 have HZ:Hid (Below w.heap.size w ((w.alloc (.cells #[.int .i64 p.proto,.string p.inn,.int .i64 p.inPort,.string p.out,.int .i64 p.outPort] 153)).alloc (.cells #[.int .i64 0,.string ⟨#[]⟩,.int .i64 0,.string ⟨#[]⟩,.int .i64 0] 153))):=((Below.refl _ _).alloc (Nat.le_refl _) _).alloc (by simp) _;unfold bdC;go_enter Tryz.func108,Tryz.ntmps108
 go_upto_region 1 with fail
 generalize (w.alloc (.cells #[.int .i64 p.proto,.string p.inn,.int .i64 p.inPort,.string p.out,.int .i64 p.outPort] 153)).alloc (.cells #[.int .i64 0,.string ⟨#[]⟩,.int .i64 0,.string ⟨#[]⟩,.int .i64 0] 153)=W at *;go_cut [3] (fun v wx=>HoldsL wx w.heap.size (bdL p)∧HoldsL wx (w.heap.size+1) [.int .i64 0,.string ⟨#[]⟩,.int .i64 0,.string ⟨#[]⟩,.int .i64 0]∧Below w.heap.size w wx)
 case first =>
  rename_i J K2 hJ hK2;clear hun;have HCP:Hid (∀ wy,Below W.drew.heap.size W.drew wy→HoldsL wy w.heap.size (bdL p)∧HoldsL wy (w.heap.size+1) [.int .i64 0,.string ⟨#[]⟩,.int .i64 0,.string ⟨#[]⟩,.int .i64 0]):=fun wy hy=>⟨HP.out.drew.kept (by simp [bdL]) hy,HO.out.drew.kept (by simp) hy⟩
  refine wp_region_growV [3,4,5,6,7,8,9] (by kernel_rfl) (by kernel_rfl) ?_;apply GChV.v0
  ·rfl
  ·intro K' a wy ho hd hb hK kz;have o1:=ho 1 (by decide);simp [slot] at o1;clear hd ho;go_simp;try go_bits
   exact kz _ rfl
  apply GChV.v1
  ·rfl
  ·intro K' a wy ho hd hb hK kz;have q0:=hd ⟨0,.data⟩ (by simp) rfl;simp [rAt,IsV,slot] at q0;clear hd ho;have hld:=(HCP.out wy hb).1;obtain ⟨k0,k1,k2,k3,k4⟩:=hld.c5;go_simp;try go_bits
   exact kz _ rfl
  apply GChV.v2
  ·rfl
  ·intro K' a wy ho hd hb hK kz;have q1:=hd ⟨1,.data⟩ (by simp) rfl;simp [rAt,IsV,slot] at q1;clear hd ho;go_simp;refine (H1.out wy).mono ?_;rintro e wz ⟨rfl,hz⟩;exact hK _ _ rfl hz
  apply GChV.v3
  ·rfl
  ·intro K' a wy ho hd hb hK kz;have o1:=ho 1 (by decide);simp [slot] at o1;clear hd ho;go_simp;try go_bits
   exact kz _ rfl
  apply GChV.v4
  ·rfl
  ·intro K' a wy ho hd hb hK kz;have q3:=hd ⟨3,.data⟩ (by simp) rfl;simp [rAt,IsV,slot] at q3;clear hd ho;have hld:=(HCP.out wy hb).1;obtain ⟨k0,k1,k2,k3,k4⟩:=hld.c5;go_simp;try go_bits
   exact kz _ rfl
  apply GChV.v5
  ·rfl
  ·intro K' a wy ho hd hb hK kz;have q4:=hd ⟨4,.data⟩ (by simp) rfl;simp [rAt,IsV,slot] at q4;clear hd ho;go_simp;refine (H2.out wy).mono ?_;rintro e wz ⟨rfl,hz⟩;exact hK _ _ rfl hz
  apply GChV.v6
  ·rfl
  ·intro K' a wy ho hd hb hK kz;have o1:=ho 1 (by decide);simp [slot] at o1;clear hd ho;go_simp;try go_bits
   exact kz _ rfl
  intro X wz hR hz;obtain ⟨x0,x1,x2,x3,x4,x5,x6,-⟩:=hR;simp only [IsV] at x0 x1 x2 x3 x4 x5 x6;simp only [putsFrom,x0,x1,x2,x3,x4,x5,x6];clear x0 x1 x2 x3 x4 x5 x6;obtain ⟨hh,hz0⟩:=HCP.out wz hz;have HB:Hid (Below w.heap.size w wz):=HZ.out.drew.trans (hz.mono HZ.out.size);have f1:wz.frozen? ⟨w.heap.size,1,none⟩=false:=hh.free (j:=1) (by simp [bdL]);have f3:wz.frozen? ⟨w.heap.size,3,none⟩=false:=hh.free (j:=3) (by simp [bdL]);obtain ⟨k0,k1,k2,k3,k4⟩:=hh.c5;have HH:Hid (HoldsL wz w.heap.size (bdL p)):=hh;have HH0:Hid (HoldsL wz (w.heap.size+1) [.int .i64 0,.string ⟨#[]⟩,.int .i64 0,.string ⟨#[]⟩,.int .i64 0]):=hz0;clear hh hz0;intro K10 hK10;go_simp;refine hK10 _ _ ?_;intro K11 hK11;go_simp;refine hK11 _ _ ?_;intro K12 hK12;go_simp;refine hK12 _ _ ?_;show Exit.then _ _ _ _ _;refine hK2 _ _ (hJ _ _ ?_);(repeat apply Exists.intro)
  refine ⟨⟨(HH.out.set 1 _).set 3 _,(HH0.out.setOther (by omega) _).setOther (by omega) _,?_⟩,rfl⟩;exact (HB.out.setCell (p:=⟨w.heap.size,1,none⟩) (Nat.le_refl _) _).setCell (p:=⟨w.heap.size,3,none⟩) (Nat.le_refl _) _
 case rest =>
  obtain ⟨hh,h0,hb⟩:=hcut;have HB:Hid (Below w.heap.size w wc):=hb;obtain ⟨k0,k1,k2,k3,k4⟩:=hh.c5;obtain ⟨y0,y1,y2,y3,y4⟩:=h0.f5;obtain ⟨z0,z1,z2,z3,z4⟩:=h0.c5;clear hh h0 hb;go_wp2_with fail
  refine bodyPost_ret (v:=.agg #[.int .i64 p.proto,.string p.inn,.int .i64 p.inPort,.string p.out,.int .i64 p.outPort]) (by simp [results,Tryz.results108,go_sem,z0,z1,z2,z3,z4]) rfl ⟨rfl,?_⟩;have hsz:w.heap.size≤w.heap.size+1:=Nat.le_succ _;exact (((((HB.out.setCell (p:=⟨w.heap.size+1,0,none⟩) hsz _).setCell (p:=⟨w.heap.size+1,1,none⟩) hsz _).setCell (p:=⟨w.heap.size+1,2,none⟩) hsz _).setCell (p:=⟨w.heap.size+1,3,none⟩) hsz _).setCell (p:=⟨w.heap.size+1,4,none⟩) hsz _)
theorem copySession_any (p:Ss) (w:World) (h1:p.inn.size≤1048576) (h2:p.peer.size≤1048576) :
  Calls Tryz.prog 106 #[ssC p] w fun e w'=>e=.returned (ssC p)∧Below w.heap.size w w':=by
 have H1:Hid (∀ W,Calls Tryz.prog 78 #[.string p.inn] W fun e w'=>e=.returned (.string p.inn)∧Below W.heap.size W w'):=fun W=>cloneS_any _ W h1
 have H2:Hid (∀ W,Calls Tryz.prog 78 #[.string p.peer] W fun e w'=>e=.returned (.string p.peer)∧Below W.heap.size W w'):=fun W=>cloneS_any _ W h2
 have hun:undef=Value.tuple #[]:=rfl;clear h1 h2;have HP:Hid (HoldsL ((w.alloc (.cells #[.int .i64 p.proto,.string p.inn,.int .i64 p.inPort,.string p.peer,.int .i64 p.peerPort,.int .i64 p.state,.int .i64 p.untl] 150)).alloc (.cells #[.int .i64 0,.string ⟨#[]⟩,.int .i64 0,.string ⟨#[]⟩,.int .i64 0,.int .i64 0,.int .i64 0] 150)) w.heap.size (ssL p)):=(HoldsL.new w (ssL p) _).alloc _;have HO:Hid (HoldsL ((w.alloc (.cells #[.int .i64 p.proto,.string p.inn,.int .i64 p.inPort,.string p.peer,.int .i64 p.peerPort,.int .i64 p.state,.int .i64 p.untl] 150)).alloc (.cells #[.int .i64 0,.string ⟨#[]⟩,.int .i64 0,.string ⟨#[]⟩,.int .i64 0,.int .i64 0,.int .i64 0] 150)) (w.heap.size+1) [.int .i64 0,.string ⟨#[]⟩,.int .i64 0,.string ⟨#[]⟩,.int .i64 0,.int .i64 0,.int .i64 0]):=by
  have h:=HoldsL.new (w.alloc (.cells #[.int .i64 p.proto,.string p.inn,.int .i64 p.inPort,.string p.peer,.int .i64 p.peerPort,.int .i64 p.state,.int .i64 p.untl] 150)) [.int .i64 0,.string ⟨#[]⟩,.int .i64 0,.string ⟨#[]⟩,.int .i64 0,.int .i64 0,.int .i64 0] 150;rwa [World.size_alloc] at h
 have HZ:Hid (Below w.heap.size w ((w.alloc (.cells #[.int .i64 p.proto,.string p.inn,.int .i64 p.inPort,.string p.peer,.int .i64 p.peerPort,.int .i64 p.state,.int .i64 p.untl] 150)).alloc (.cells #[.int .i64 0,.string ⟨#[]⟩,.int .i64 0,.string ⟨#[]⟩,.int .i64 0,.int .i64 0,.int .i64 0] 150))):=((Below.refl _ _).alloc (Nat.le_refl _) _).alloc (by simp) _;unfold ssC;go_enter Tryz.func106,Tryz.ntmps106
 go_upto_region 1 with fail
 generalize (w.alloc (.cells #[.int .i64 p.proto,.string p.inn,.int .i64 p.inPort,.string p.peer,.int .i64 p.peerPort,.int .i64 p.state,.int .i64 p.untl] 150)).alloc (.cells #[.int .i64 0,.string ⟨#[]⟩,.int .i64 0,.string ⟨#[]⟩,.int .i64 0,.int .i64 0,.int .i64 0] 150)=W at *;go_cut [3] (fun v wx=>HoldsL wx w.heap.size (ssL p)∧HoldsL wx (w.heap.size+1) [.int .i64 0,.string ⟨#[]⟩,.int .i64 0,.string ⟨#[]⟩,.int .i64 0,.int .i64 0,.int .i64 0]∧Below w.heap.size w wx)
 case first =>
  rename_i J K2 hJ hK2;clear hun;have HCP:Hid (∀ wy,Below W.drew.heap.size W.drew wy→HoldsL wy w.heap.size (ssL p)∧HoldsL wy (w.heap.size+1) [.int .i64 0,.string ⟨#[]⟩,.int .i64 0,.string ⟨#[]⟩,.int .i64 0,.int .i64 0,.int .i64 0]):=fun wy hy=>⟨HP.out.drew.kept (by simp [ssL]) hy,HO.out.drew.kept (by simp) hy⟩
  refine wp_region_growV [3,4,5,6,7,8,9] (by kernel_rfl) (by kernel_rfl) ?_;apply GChV.v0
  ·rfl
  ·intro K' a wy ho hd hb hK kz;have o1:=ho 1 (by decide);simp [slot] at o1;clear hd ho;go_simp;try go_bits
   exact kz _ rfl
  apply GChV.v1
  ·rfl
  ·intro K' a wy ho hd hb hK kz;have q0:=hd ⟨0,.data⟩ (by simp) rfl;simp [rAt,IsV,slot] at q0;clear hd ho;have hld:=(HCP.out wy hb).1;obtain ⟨k0,k1,k2,k3,k4,k5,k6⟩:=hld.c7;go_simp;try go_bits
   exact kz _ rfl
  apply GChV.v2
  ·rfl
  ·intro K' a wy ho hd hb hK kz;have q1:=hd ⟨1,.data⟩ (by simp) rfl;simp [rAt,IsV,slot] at q1;clear hd ho;go_simp;refine (H1.out wy).mono ?_;rintro e wz ⟨rfl,hz⟩;exact hK _ _ rfl hz
  apply GChV.v3
  ·rfl
  ·intro K' a wy ho hd hb hK kz;have o1:=ho 1 (by decide);simp [slot] at o1;clear hd ho;go_simp;try go_bits
   exact kz _ rfl
  apply GChV.v4
  ·rfl
  ·intro K' a wy ho hd hb hK kz;have q3:=hd ⟨3,.data⟩ (by simp) rfl;simp [rAt,IsV,slot] at q3;clear hd ho;have hld:=(HCP.out wy hb).1;obtain ⟨k0,k1,k2,k3,k4,k5,k6⟩:=hld.c7;go_simp;try go_bits
   exact kz _ rfl
  apply GChV.v5
  ·rfl
  ·intro K' a wy ho hd hb hK kz;have q4:=hd ⟨4,.data⟩ (by simp) rfl;simp [rAt,IsV,slot] at q4;clear hd ho;go_simp;refine (H2.out wy).mono ?_;rintro e wz ⟨rfl,hz⟩;exact hK _ _ rfl hz
  apply GChV.v6
  ·rfl
  ·intro K' a wy ho hd hb hK kz;have o1:=ho 1 (by decide);simp [slot] at o1;clear hd ho;go_simp;try go_bits
   exact kz _ rfl
  intro X wz hR hz;obtain ⟨x0,x1,x2,x3,x4,x5,x6,-⟩:=hR;simp only [IsV] at x0 x1 x2 x3 x4 x5 x6;simp only [putsFrom,x0,x1,x2,x3,x4,x5,x6];clear x0 x1 x2 x3 x4 x5 x6;obtain ⟨hh,hz0⟩:=HCP.out wz hz;have HB:Hid (Below w.heap.size w wz):=HZ.out.drew.trans (hz.mono HZ.out.size);have f1:wz.frozen? ⟨w.heap.size,1,none⟩=false:=hh.free (j:=1) (by simp [ssL]);have f3:wz.frozen? ⟨w.heap.size,3,none⟩=false:=hh.free (j:=3) (by simp [ssL]);obtain ⟨k0,k1,k2,k3,k4,k5,k6⟩:=hh.c7;have HH:Hid (HoldsL wz w.heap.size (ssL p)):=hh;have HH0:Hid (HoldsL wz (w.heap.size+1) [.int .i64 0,.string ⟨#[]⟩,.int .i64 0,.string ⟨#[]⟩,.int .i64 0,.int .i64 0,.int .i64 0]):=hz0;clear hh hz0;intro K10 hK10;go_simp;refine hK10 _ _ ?_;intro K11 hK11;go_simp;refine hK11 _ _ ?_;intro K12 hK12;go_simp;refine hK12 _ _ ?_;show Exit.then _ _ _ _ _;refine hK2 _ _ (hJ _ _ ?_);(repeat apply Exists.intro)
  refine ⟨⟨(HH.out.set 1 _).set 3 _,(HH0.out.setOther (by omega) _).setOther (by omega) _,?_⟩,rfl⟩;exact (HB.out.setCell (p:=⟨w.heap.size,1,none⟩) (Nat.le_refl _) _).setCell (p:=⟨w.heap.size,3,none⟩) (Nat.le_refl _) _
 case rest =>
  obtain ⟨hh,h0,hb⟩:=hcut;have HB:Hid (Below w.heap.size w wc):=hb;obtain ⟨k0,k1,k2,k3,k4,k5,k6⟩:=hh.c7;obtain ⟨y0,y1,y2,y3,y4,y5,y6⟩:=h0.f7;obtain ⟨z0,z1,z2,z3,z4,z5,z6⟩:=h0.c7;clear hh h0 hb;go_wp2_with fail
  refine bodyPost_ret (v:=.agg #[.int .i64 p.proto,.string p.inn,.int .i64 p.inPort,.string p.peer,.int .i64 p.peerPort,.int .i64 p.state,.int .i64 p.untl]) (by simp [results,Tryz.results106,go_sem,z0,z1,z2,z3,z4,z5,z6]) rfl ⟨rfl,?_⟩;have hsz:w.heap.size≤w.heap.size+1:=Nat.le_succ _;exact (((((((HB.out.setCell (p:=⟨w.heap.size+1,0,none⟩) hsz _).setCell (p:=⟨w.heap.size+1,1,none⟩) hsz _).setCell (p:=⟨w.heap.size+1,2,none⟩) hsz _).setCell (p:=⟨w.heap.size+1,3,none⟩) hsz _).setCell (p:=⟨w.heap.size+1,4,none⟩) hsz _).setCell (p:=⟨w.heap.size+1,5,none⟩) hsz _).setCell (p:=⟨w.heap.size+1,6,none⟩) hsz _)
open Go.ChangeShapes Go.WideShapes
section
variable {α:Type} {en:α→List Value} {n:Nat} {w W:World}
theorem SlLaid.grownNe {B X:Nat} {xs:List α} {L k:Nat} (h:SlLaid en n w B xs L k) (hg:w.grownBy W (some X)) (hne:B≠X):SlLaid en n W B xs L k:=by
 have hb:W.heap[B]?=w.heap[B]?:=hg.block B h.blk (fun e=>hne (by injection e));have hc:∀ o,W.cell? ⟨B,o,none⟩=w.cell? ⟨B,o,none⟩:=fun o=>by unfold World.cell?; rw [show (⟨B,o,none⟩ : Addr).block=B from rfl,hb]
 have hf:∀ o,W.frozen? ⟨B,o,none⟩=w.frozen? ⟨B,o,none⟩:=fun o=>World.frozen?_of_block (a:=⟨B,o,none⟩) hb
 exact ⟨Nat.lt_of_lt_of_le h.blk hg.size,fun i hi hk j v hv=>(hc _).trans (h.at0 i hi hk j v hv),fun i hi=>by rw [hc]; exact h.there i hi,fun i hi=>by rw [hf]; exact h.free i hi⟩
end
structure BbMk (base:Nat) (w:World) (a b:Option Addr) (k nb ns:Nat):Prop where
 bd:MkOwn 5 bindM base w a k nb
 ss:MkOwn 7 sessionM base w b (k+5*nb) ns
theorem BbMk.kept {base:Nat} {w W:World} {a b:Option Addr} {k nb ns:Nat} (h:BbMk base w a b k nb ns) (hB:Below w.heap.size w W):BbMk base W a b k nb ns:=⟨h.bd.kept hB,h.ss.kept hB⟩
theorem heldBib_own (base nb ns:Nat) (a b:Option Addr) (ca cb k:Nat) (w:World) (hk:0 < k) (hL:k+5*nb+7*ns≤1073741824) (hs:BbMk base w a b k nb ns) :
  Calls Tryz.prog 62 #[.agg #[.slice a nb ca,.slice b ns cb],.int .i64 k] w fun e w'=>e=.returned (.int .i64 ((k+5*nb+7*ns:Nat):Int))∧Below w.heap.size w w':=by
 have GA:Hid (Below w.heap.size w (w.alloc (.cells #[.slice a nb ca,.slice b ns cb] 36))):=(Below.refl _ _).alloc (Nat.le_refl _) _;have HM:Hid (∀ W,Below w.heap.size w W→Calls Tryz.prog 97 #[.slice a nb ca,.int .i64 k] W fun e w'=>e=.returned (.int .i64 ((k+5*nb:Nat):Int))∧Below W.heap.size W w'):=fun W hW=>heldBindS_own base nb a ca k W hk (by omega) (hs.kept hW).bd
 have HN:Hid (∀ W,Below w.heap.size w W→Calls Tryz.prog 98 #[.slice b ns cb,.int .i64 ((k+5*nb:Nat):Int)] W fun e w'=>e=.returned (.int .i64 ((k+5*nb+7*ns:Nat):Int))∧Below W.heap.size W w'):=fun W hW=>heldSessionS_own base ns b cb (k+5*nb) W (by omega) hL (hs.kept hW).ss
 have H0:Hid _:=HoldsL.new w [.slice a nb ca,.slice b ns cb] 36;obtain ⟨k1,hk1⟩ : ∃ k1,k1=k+5*nb:=⟨_,rfl⟩;rw [← hk1] at HM HN hL ⊢;obtain ⟨k2,hk2⟩ : ∃ k2,k2=k1+7*ns:=⟨_,rfl⟩;rw [← hk2] at HN hL ⊢;have h1:0 < k1:=by omega
 have h2:0 < k2:=by omega
 have h3:k1≤1073741824:=by omega
 clear hk1 hk2 hs;go_enter Tryz.func62,Tryz.ntmps62
 go_wp2_with fail
 refine (HM.out _ GA.out).mono ?_;rintro e w1 ⟨rfl,q1⟩;have G1:Hid (Below w.heap.size w w1):=GA.out.trans (q1.mono GA.out.size);have c1:w1.cell? ⟨w.heap.size,1,none⟩=some (.slice b ns cb):=(H0.out.kept (by simp) q1).cell rfl;clear q1;go_wp2_with fail
 refine (HN.out _ G1.out).mono ?_;rintro e w2 ⟨rfl,q2⟩;have G2:Hid (Below w.heap.size w w2):=G1.out.trans (q2.mono G1.out.size);clear q2;go_wp2_with fail
 go_ret;exact ⟨rfl,G2.out⟩
structure Bo where
 bib:Bb
 bind:Bd
 code:Int
structure OutOf (lo hi:Nat) (w W:World):Prop where
 os:W.os=w.os
 tape:W.tape=w.tape
 output:W.output=w.output
 size:w.heap.size≤W.heap.size
 block:∀ k,k < w.heap.size→(k < lo∨hi≤k)→W.heap[k]?=w.heap[k]?
section
variable {lo hi lo2 hi2 B:Nat} {w w1 W:World}
theorem OutOf.of_below (h:Below w.heap.size w W):OutOf lo hi w W:=⟨h.os,h.tape,h.output,h.size,fun k hk _=>h.block k hk⟩
theorem OutOf.trans (h:OutOf lo hi w w1) (h2:OutOf lo hi w1 W):OutOf lo hi w W :=
 ⟨h2.os.trans h.os,h2.tape.trans h.tape,h2.output.trans h.output,Nat.le_trans h.size h2.size,fun k hk hb=>(h2.block k (Nat.lt_of_lt_of_le hk h.size) hb).trans (h.block k hk hb)⟩
theorem OutOf.below (h:OutOf lo hi w W) {m:Nat} (hm:m≤lo) (hl:m≤w.heap.size):Below m w W:=⟨h.os,h.tape,h.output,h.size,fun k hk=>h.block k (by omega) (.inl (by omega))⟩
theorem OutOf.of_grown (h:w.grownBy W (some B)) (h1:lo≤B) (h2:B < hi):OutOf lo hi w W :=
 ⟨h.os,h.tape,h.output,h.size,fun k hk hb=>h.block k hk (by simp; omega)⟩
theorem OutOf.wide (h:OutOf lo hi w W) (h1:lo2≤lo) (h2:hi≤hi2):OutOf lo2 hi2 w W:=⟨h.os,h.tape,h.output,h.size,fun k hk hb=>h.block k hk (by omega)⟩
theorem HoldsL.outOf {cs:List Value} (h:HoldsL w B cs) (hl:0 < cs.length) (ho:OutOf lo hi w W) (hb:B < lo∨hi≤B):HoldsL W B cs:=h.of_block (ho.block B (h.lt hl) hb)
end
section
variable {α:Type} {en:α→List Value} {n:Nat} {lo hi lo2 hi2:Nat} {w W:World} {a:Option Addr} {xs:List α}
theorem SlLaid.of_block {B L k:Nat} (h:SlLaid en n w B xs L k) (hb:W.heap[B]?=w.heap[B]?) (hs:w.heap.size≤W.heap.size):SlLaid en n W B xs L k:=by
 have hc:∀ o,W.cell? ⟨B,o,none⟩=w.cell? ⟨B,o,none⟩:=fun o=>by unfold World.cell?; rw [show (⟨B,o,none⟩ : Addr).block=B from rfl,hb]
 have hf:∀ o,W.frozen? ⟨B,o,none⟩=w.frozen? ⟨B,o,none⟩:=fun o=>World.frozen?_of_block (a:=⟨B,o,none⟩) hb
 exact ⟨Nat.lt_of_lt_of_le h.blk hs,fun i hi hk j v hv=>(hc _).trans (h.at0 i hi hk j v hv),fun i hi=>by rw [hc]; exact h.there i hi,fun i hi=>by rw [hf]; exact h.free i hi⟩
def SlIn (en:α→List Value) (n lo hi:Nat) (w:World) (a:Option Addr) (xs:List α):Prop:=xs=[]∨∃ g,a=some ⟨g,0,none⟩∧lo≤g∧g < hi∧SlLaid en n w g xs xs.length xs.length
theorem SlIn.of_own (h:SlOwn en n lo w a xs) {hi:Nat} (hh:w.heap.size≤hi):SlIn en n lo hi w a xs:=by
 rcases h with h | ⟨g,h1,h2,h3⟩
 ·exact .inl h
 ·exact .inr ⟨g,h1,h2,Nat.lt_of_lt_of_le h3.blk hh,h3⟩
theorem SlIn.own (h:SlIn en n lo hi w a xs):SlOwn en n lo w a xs:=by
 rcases h with h | ⟨g,h1,h2,h3,h4⟩
 ·exact .inl h
 ·exact .inr ⟨g,h1,h2,h4⟩
theorem SlIn.is (h:SlIn en n lo hi w a xs):SlIs en n w a xs:=h.own.is
theorem SlIn.kept (h:SlIn en n lo hi w a xs) (hb:Below w.heap.size w W):SlIn en n lo hi W a xs:=by
 rcases h with h | ⟨g,h1,h2,h3,h4⟩
 ·exact .inl h
 ·exact .inr ⟨g,h1,h2,h3,h4.kept hb⟩
theorem SlIn.outOf (h:SlIn en n lo hi w a xs) (ho:OutOf lo2 hi2 w W) (hb:hi≤lo2∨hi2≤lo):SlIn en n lo hi W a xs:=by
 rcases h with h | ⟨g,h1,h2,h3,h4⟩
 ·exact .inl h
 ·exact .inr ⟨g,h1,h2,h3,h4.of_block (ho.block g h4.blk (by omega)) ho.size⟩
end
structure BbIn (lo hi:Nat) (w:World) (a b:Option Addr) (x:Bb):Prop where
 bd:SlIn bdL 5 lo hi w a x.binds
 ss:SlIn ssL 7 lo hi w b x.sess
 ne:∀ g h,a=some ⟨g,0,none⟩→b=some ⟨h,0,none⟩→x.binds≠[]→x.sess≠[]→g≠h
section
variable {lo hi lo2 hi2:Nat} {w W:World} {a b:Option Addr} {x:Bb}
theorem BbIn.of_own (h:BbOwn lo w a b x) (hh:w.heap.size≤hi):BbIn lo hi w a b x:=⟨SlIn.of_own h.bd hh,SlIn.of_own h.ss hh,h.ne⟩
theorem BbIn.own (h:BbIn lo hi w a b x):BbOwn lo w a b x:=⟨h.bd.own,h.ss.own,h.ne⟩
theorem BbIn.is (h:BbIn lo hi w a b x):BbIs w a b x:=⟨h.bd.is,h.ss.is⟩
theorem BbIn.kept (h:BbIn lo hi w a b x) (hb:Below w.heap.size w W):BbIn lo hi W a b x:=⟨h.bd.kept hb,h.ss.kept hb,h.ne⟩
theorem BbIn.outOf (h:BbIn lo hi w a b x) (ho:OutOf lo2 hi2 w W) (hb:hi≤lo2∨hi2≤lo):BbIn lo hi W a b x:=⟨h.bd.outOf ho hb,h.ss.outOf ho hb,h.ne⟩
theorem BbOwn.low {base:Nat} (h:BbOwn base w a b x) {m:Nat} (hm:m≤base):BbOwn m w a b x:=⟨h.bd.down hm,h.ss.down hm,h.ne⟩
end
def IsPl (base:Nat) (p:Pl):Value→World→Prop:=fun v w=>∃ B,v=plC (some ⟨B,0,none⟩) p.addrs.length p∧base≤B∧SlLaid strL1 1 w B p.addrs p.addrs.length p.addrs.length
theorem stable_isPl (base:Nat) (p:Pl):Stable (IsPl base p):=fun v w w' ⟨B,h1,h2,h3⟩ hb=>⟨B,h1,h2,h3.kept hb⟩
theorem strs_in {xs:List ByteArray} {left:Int} (h0:0≤left) (h1:left≤1048576) (h:0≤szSl strN xs left):xs.length≤1048576∧∀ s∈xs,s.size≤1048576:=by
 obtain ⟨h2,h3⟩:=szSl_in h0 h;exact ⟨by omega,fun q hq=>by have:=h3 q hq q.size (by simp [strN]); omega⟩
end Go.Proofs.YthagnjokdnnmpaaGreat
namespace Go.Proofs.YthagnjokdnnmpaaGreat
open Go.RowKit Go.PlainAid
theorem findI_in {α:Type} (f:α→Bool) (xs:List α) : -1≤findI f xs∧findI f xs < xs.length:=by
 unfold findI
 cases h:xs.findIdx? f with
 | none=>simp; omega
 | some i =>
  obtain ⟨hi,_,_⟩:=List.findIdx?_eq_some_iff_getElem.1 h;simp; omega
theorem sessAt_any (p:Sk) (xs:List Ss) (a:Option Addr) (cap:Nat) (w:World) (hl:xs.length≤1048576) (hr:SlIs ssL 7 w a xs) :
  Calls Tryz.prog 126 #[.slice a xs.length cap,skC p] w fun e w'=>e=.returned (.int .i64 (findI (fun q=>sameSk (sessK q) p) xs))∧Below w.heap.size w w':=by
 have HZ:Hid (Below w.heap.size w (w.alloc (.cells #[.int .i64 p.host.proto,.string p.host.addr,.int .i64 p.host.port,.string p.peer,.int .i64 p.peerPort] 171))):=(Below.refl _ _).alloc (Nat.le_refl _) _;have HK:Hid (HoldsL (w.alloc (.cells #[.int .i64 p.host.proto,.string p.host.addr,.int .i64 p.host.port,.string p.peer,.int .i64 p.peerPort] 171)) w.heap.size (skL p)):=HoldsL.new w (skL p) 171;have HI:Hid (∀ W,Below w.heap.size w W→HoldsL W w.heap.size (skL p)→Calls Tryz.prog 156 #[.slice a xs.length cap,.func (.func 157) #[] #[.pointer (some ⟨w.heap.size,0,none⟩)]] W fun e w'=>e=.returned (.int .i64 (findI (fun q=>sameSk (sessK q) p) xs))∧Below W.heap.size W w'):=fun W hW h1=>idxSession_any (fun q=>sameSk (sessK q) p) 157 (fun args W=>by kernel_rfl) _ xs a cap W hl (hr.below hW) (fun W' hW' q hq=>sessAt1_any q p _ W' (h1.kept (by simp [skL]) hW'))
 obtain ⟨hf1,hf2⟩:=findI_in (fun q=>sameSk (sessK q) p) xs;generalize findI (fun q=>sameSk (sessK q) p) xs=fi at *;clear hr;unfold skC;go_enter Tryz.func126,Tryz.ntmps126
 go_upto_region 1 with fail
 generalize w.alloc (.cells #[.int .i64 p.host.proto,.string p.host.addr,.int .i64 p.host.port,.string p.peer,.int .i64 p.peerPort] 171)=W at *;go_wp2_with fail
 refine (HI.out _ HZ.out HK.out).mono ?_;rintro e w1 ⟨rfl,q1⟩;have B1:Hid (Below w.heap.size w w1):=HZ.out.trans (q1.mono HZ.out.size);clear q1;go_wp2_with fail
 go_ret;exact ⟨rfl,B1.out⟩
theorem hasFunc_any (f:Ss→Bool) (F:Nat) (hG:Enters F) (caps:Array Value) (xs:List Ss) (a:Option Addr) (cap:Nat) (w:World) (hl:xs.length≤1048576) (hr:SlIs ssL 7 w a xs) (hC:∀ W,Below w.heap.size w W→∀ q,q∈xs→Calls Tryz.prog F (#[ssC q]++caps) W fun e w'=>e=.returned (.bool (f q))∧Below W.heap.size W w') :
  Calls Tryz.prog 135 #[.slice a xs.length cap,.func (.func F) #[] caps] w fun e w'=>e=.returned (.bool (xs.any f))∧Below w.heap.size w w':=by
 have HI:Hid _:=idxSession_any f F hG caps xs a cap w hl hr hC;have HF:Hid (decide (0≤findI f xs)=xs.any f):=findI_any f xs;obtain ⟨hf1,hf2⟩:=findI_in f xs;generalize xs.any f=ans at *;generalize findI f xs=fi at *;clear hr hC hG;go_enter Tryz.func135,Tryz.ntmps135
 go_wp2_with fail
 refine Calls.mono HI.out ?_;rintro e w1 ⟨rfl,b1⟩;have B1:Hid _:=b1;clear b1;go_wp2_with fail
 go_ret;exact ⟨ret_bool HF.out,B1.out⟩
theorem hasSess_any (b:Bd) (xs:List Ss) (a:Option Addr) (cap:Nat) (w:World) (hl:xs.length≤1048576) (hr:SlIs ssL 7 w a xs) :
  Calls Tryz.prog 107 #[.slice a xs.length cap,bdC b] w fun e w'=>e=.returned (.bool (xs.any (hasS b)))∧Below w.heap.size w w':=by
 have HZ:Hid (Below w.heap.size w (w.alloc (.cells #[.int .i64 b.proto,.string b.inn,.int .i64 b.inPort,.string b.out,.int .i64 b.outPort] 153))):=(Below.refl _ _).alloc (Nat.le_refl _) _;have HH:Hid (∀ W,Calls Tryz.prog 122 #[.agg #[.int .i64 b.proto,.string b.inn,.int .i64 b.inPort,.string b.out,.int .i64 b.outPort]] W fun e w'=>e=.returned (.agg #[.int .i64 b.proto,.string b.inn,.int .i64 b.inPort])∧Below W.heap.size W w'):=fun W=>hostEnd_any b W
 have HC:Hid (∀ W B,Below w.heap.size w W→HoldsL W B (enL (hostE b))→Calls Tryz.prog 135 #[.slice a xs.length cap,.func (.func 136) #[] #[.pointer (some ⟨B,0,none⟩)]] W fun e w'=>e=.returned (.bool (xs.any (hasS b)))∧Below W.heap.size W w'):=fun W B hW hB=>by
  have h:=hasFunc_any (fun q=>sameEn (sessE q) (hostE b)) 136 (fun args W=>by kernel_rfl) #[.pointer (some ⟨B,0,none⟩)] xs a cap W hl (hr.below hW) (fun W' hW' q hq=>hasSess1_any q (hostE b) B W' (hB.kept (by simp [enL]) hW'));rw [show (fun q=>sameEn (sessE q) (hostE b))=hasS b from funext fun q=>sess_has b q] at h;exact h
 generalize xs.any (hasS b)=ans at *;clear hr;unfold bdC;go_enter Tryz.func107,Tryz.ntmps107
 go_wp2_with fail
 refine (HH.out _).mono ?_;rintro e w1 ⟨rfl,q1⟩;have B1:Below w.heap.size w w1:=HZ.out.trans (q1.mono HZ.out.size);go_upto_region 2 with fail
 have B2:Hid (Below w.heap.size w (w1.alloc (.cells #[.int .i64 b.proto,.string b.inn,.int .i64 b.inPort] 168))):=B1.alloc B1.size _;have K2:Hid (HoldsL (w1.alloc (.cells #[.int .i64 b.proto,.string b.inn,.int .i64 b.inPort] 168)) w1.heap.size (enL (hostE b))):=HoldsL.new w1 (enL (hostE b)) 168;generalize w1.alloc (.cells #[.int .i64 b.proto,.string b.inn,.int .i64 b.inPort] 168)=W2 at *;clear q1 B1 HZ HH;go_wp2_with fail
 refine (HC.out _ _ B2.out K2.out).mono ?_;rintro e w3 ⟨rfl,q3⟩;have B3:Hid (Below w.heap.size w w3):=B2.out.trans (q3.mono B2.out.size);clear q3;go_wp2_with fail
 go_ret;exact ⟨rfl,B3.out⟩
theorem outOf1_any (q:Bd) (s:ByteArray) (B:Nat) (w:World) (hB:HoldsL w B [.string s]) :
  Calls Tryz.prog 169 #[bdC q,.pointer (some ⟨B,0,none⟩)] w fun e w'=>e=.returned (.bool (ofHost s q))∧Below w.heap.size w w':=by
 have HZ:Hid (Below w.heap.size w (w.alloc (.cells #[.int .i64 q.proto,.string q.inn,.int .i64 q.inPort,.string q.out,.int .i64 q.outPort] 153))):=(Below.refl _ _).alloc (Nat.le_refl _) _;have K1:=hB.alloc (.cells #[.int .i64 q.proto,.string q.inn,.int .i64 q.inPort,.string q.out,.int .i64 q.outPort] 153);have K2:HoldsL (w.alloc (.cells #[.int .i64 q.proto,.string q.inn,.int .i64 q.inPort,.string q.out,.int .i64 q.outPort] 153)) w.heap.size (bdL q):=HoldsL.new w (bdL q) 153;have HV:Hid (ofHost s q=decide (q.inn.toList=s.toList)):=rfl;generalize ofHost s q=ans at *;unfold bdC;go_enter Tryz.func169,Tryz.ntmps169
 go_upto_region 1 with fail
 generalize w.alloc (.cells #[.int .i64 q.proto,.string q.inn,.int .i64 q.inPort,.string q.out,.int .i64 q.outPort] 153)=W at *;have c1:=K2.cell (j:=1) rfl;have k0:=K1.cell (j:=0) rfl;clear K1 K2 hB;go_wp2_with fail
 go_ret;exact ⟨ret_bool (by rw [HV.out]; first | rfl | (rw [Bool.eq_iff_iff]; simp)),HZ.out⟩
theorem outOf_any (s:ByteArray) (xs:List Bd) (a:Option Addr) (cap:Nat) (w:World) (hl:xs.length≤1048576) (hr:SlIs bdL 5 w a xs) :
  Calls Tryz.prog 149 #[.slice a xs.length cap,.string s] w fun e w'=>e=.returned (.tuple #[.string (outIn xs ⟨#[]⟩ s),.bool (xs.find? (ofHost s)).isSome])∧Below w.heap.size w w':=by
 have HZ:Hid (Below w.heap.size w (w.alloc (.cells #[.string s] 9))):=(Below.refl _ _).alloc (Nat.le_refl _) _;have HK:Hid (HoldsL (w.alloc (.cells #[.string s] 9)) w.heap.size [.string s]):=HoldsL.new w _ _;have HI:Hid (∀ W,Below w.heap.size w W→HoldsL W w.heap.size [.string s]→Calls Tryz.prog 168 #[.slice a xs.length cap,.func (.func 169) #[] #[.pointer (some ⟨w.heap.size,0,none⟩)]] W fun e w'=>e=.returned (.int .i64 (findI (ofHost s) xs))∧Below W.heap.size W w'):=fun W hW h1=>idxBind_any (ofHost s) 169 (fun args W=>by kernel_rfl) _ xs a cap W hl (hr.below hW) (fun W' hW' q hq=>outOf1_any q s _ W' (h1.kept (by simp) hW'))
 have HR:Hid (SlIs bdL 5 w a xs):=hr;have HV:Hid (outIn xs ⟨#[]⟩ s=match xs.find? (ofHost s) with | some c=>c.out | none=>⟨#[]⟩):=rfl;have HAT:Hid (0≤findI (ofHost s) xs→∃ i:Nat,∃ hi:i < xs.length,findI (ofHost s) xs=i∧xs.find? (ofHost s)=some xs[i]):=fun h=>findBd_at _ xs (by omega)
 have HNO:Hid (findI (ofHost s) xs < 0→xs.find? (ofHost s)=none):=find_no _ xs;obtain ⟨hf1,hf2⟩:=findI_in (ofHost s) xs;generalize outIn xs ⟨#[]⟩ s=ans at *;generalize xs.find? (ofHost s)=fd at *;generalize findI (ofHost s) xs=fi at *;clear hr;go_enter Tryz.func149,Tryz.ntmps149
 go_upto_region 1 with fail
 generalize w.alloc (.cells #[.string s] 9)=W at *;go_wp2_with fail
 refine (HI.out _ HZ.out HK.out).mono ?_;rintro e w1 ⟨rfl,q1⟩;have B1:Hid (Below w.heap.size w w1):=HZ.out.trans (q1.mono HZ.out.size);clear q1 HI HK HZ;by_cases hk:fi < 0
 ·have HX:=HNO.out hk;have HA:Hid (ans=⟨#[]⟩∧fd.isSome=false):=by unfold Hid; rw [HV.out,HX]; exact ⟨rfl,rfl⟩
  clear HX HNO HAT HV;go_wp2_with fail
  go_ret2
  exact ⟨by rw [HA.out.1,HA.out.2]; rfl,B1.out⟩
 ·obtain ⟨i,hi,hfi,hfd⟩:=HAT.out (by omega);subst hfi;obtain ⟨b,off,rfl,hb,hat⟩:=HR.out.at hi;have hA:=(hat.below hb B1.out) i hi;obtain ⟨q,hq⟩ : ∃ q,xs[i]=q:=⟨_,rfl⟩;rw [hq] at hA hfd;have HA:Hid (ans=q.out∧fd.isSome=true):=by unfold Hid; rw [HV.out,hfd]; exact ⟨rfl,rfl⟩
  have c3:w1.cell? ⟨b,off+i*5+3,none⟩=some (.string q.out):=hA 3 _ rfl;have hiI:(i:Int) < (xs.length:Int):=by omega
  clear hA hat hq hfd HAT HNO HV;go_wp2_with fail
  go_ret2
  exact ⟨by rw [HA.out.1,HA.out.2]; rfl,B1.out⟩
theorem sessRight_any (q:Ss) (w:World) (hs:q.peer.size≤1048576) :
  Calls Tryz.prog 125 #[ssC q] w fun e w'=>e=.returned (.bool (sessR q))∧Below w.heap.size w w':=by
 have HZ:Hid (Below w.heap.size w (w.alloc (.cells #[.int .i64 q.proto,.string q.inn,.int .i64 q.inPort,.string q.peer,.int .i64 q.peerPort,.int .i64 q.state,.int .i64 q.untl] 150))):=(Below.refl _ _).alloc (Nat.le_refl _) _;have K2:HoldsL (w.alloc (.cells #[.int .i64 q.proto,.string q.inn,.int .i64 q.inPort,.string q.peer,.int .i64 q.peerPort,.int .i64 q.state,.int .i64 q.untl] 150)) w.heap.size (ssL q):=HoldsL.new w (ssL q) 150;have HW:Hid (∀ W,Calls Tryz.prog 151 #[.int .i64 q.peerPort] W fun e w'=>e=.returned (.bool (isW q.peerPort))∧w'=W):=fun W=>implWordIs_any _ W
 have HT:Hid (∀ W,Calls Tryz.prog 154 #[.int .i64 q.state] W fun e w'=>e=.returned (.bool (isIn q.state 1 7))∧w'=W):=fun W=>isState_any _ W
 have HO:Hid (∀ W,Calls Tryz.prog 155 #[.int .i64 q.proto] W fun e w'=>e=.returned (.bool (stillP q.proto))∧w'=W):=fun W=>implStill_any _ W
 have HV:Hid (sessR q=(decide (q.peer.size=4)&&isW q.peerPort&&isIn q.state 1 7&&(decide (q.state=3)||!stillP q.proto)&&(decide (0≤q.untl)&&decide (q.untl≤2000000000)))):=rfl;generalize sessR q=ans at *;generalize isW q.peerPort=b1 at *;generalize isIn q.state 1 7=b2 at *;generalize stillP q.proto=b3 at *;have hun:undef=Value.tuple #[]:=rfl;unfold ssC;go_enter Tryz.func125,Tryz.ntmps125
 go_upto_region 1 with fail
 generalize w.alloc (.cells #[.int .i64 q.proto,.string q.inn,.int .i64 q.inPort,.string q.peer,.int .i64 q.peerPort,.int .i64 q.state,.int .i64 q.untl] 150)=W at *;obtain ⟨c0,c1,c2,c3,c4,c5,c6⟩:=K2.c7;clear K2;by_cases h4:q.peer.size=4
 case neg =>
  have HX:Hid (ans=false):=by unfold Hid; rw [HV.out,decide_eq_false h4]; rfl
  have h4i:¬ (q.peer.size:Int)=4:=by omega
  have d1:((q.peer.size:Int)==4)=false:=by simp [h4i]
  go_wp2_with fail
  go_ret;exact ⟨ret_bool HX.out.symm,HZ.out⟩
 have h4i:(q.peer.size:Int)=4:=by omega
 have d1:((q.peer.size:Int)==4)=true:=by simp [h4i]
 clear h4i;go_wp2_with fail
 refine (HW.out _).mono ?_;rintro e W ⟨rfl,rfl⟩
 cases b1 with
 | false =>
  have HX:Hid (ans=false):=by unfold Hid; rw [HV.out]; simp
  go_wp2_with fail
  go_ret;exact ⟨ret_bool HX.out.symm,HZ.out⟩
 | true =>
 go_wp2_with fail
 refine (HT.out _).mono ?_;rintro e W ⟨rfl,rfl⟩
 cases b2 with
 | false =>
  have HX:Hid (ans=false):=by unfold Hid; rw [HV.out]; simp
  go_wp2_with fail
  go_ret;exact ⟨ret_bool HX.out.symm,HZ.out⟩
 | true =>
 by_cases h3:q.state=3
 ·have e3:(q.state==3)=true:=by simp [h3]
  have HV2:Hid (ans=(decide (0≤q.untl)&&decide (q.untl≤2000000000))):=by unfold Hid; rw [HV.out,decide_eq_true h4,decide_eq_true h3]; rfl
  have HH3:Hid (q.state=3):=h3;clear h3 HV;by_cases t0:0≤q.untl
  case neg =>
   have HX:Hid (ans=false):=by unfold Hid; rw [HV2.out,decide_eq_false t0]; simp
   have d0:decide (0≤q.untl)=false:=decide_eq_false t0;go_wp2_with fail
   go_ret;exact ⟨ret_bool HX.out.symm,HZ.out⟩
  have d0:decide (0≤q.untl)=true:=decide_eq_true t0;by_cases t1:q.untl≤2000000000
  case neg =>
   have HX:Hid (ans=false):=by unfold Hid; rw [HV2.out,decide_eq_false t1]; simp
   have d9:decide (q.untl≤2000000000)=false:=decide_eq_false t1;go_wp2_with fail
   go_ret;exact ⟨ret_bool HX.out.symm,HZ.out⟩
  have d9:decide (q.untl≤2000000000)=true:=decide_eq_true t1;have HX:Hid (ans=true):=by unfold Hid; rw [HV2.out,decide_eq_true t0,decide_eq_true t1]; rfl
  go_wp2_with fail
  go_ret;exact ⟨ret_bool HX.out.symm,HZ.out⟩
 ·have e3:(q.state==3)=false:=by simp [h3]
  have HV2:Hid (ans=(!b3&&(decide (0≤q.untl)&&decide (q.untl≤2000000000)))):=by unfold Hid; rw [HV.out,decide_eq_true h4,decide_eq_false h3]; rfl
  clear HV;go_wp2_with fail
  refine (HO.out _).mono ?_;rintro e W ⟨rfl,rfl⟩
  cases b3 with
  | true =>
   have HX:Hid (ans=false):=by unfold Hid; rw [HV2.out]; rfl
   go_wp2_with fail
   go_ret;exact ⟨ret_bool HX.out.symm,HZ.out⟩
  | false =>
  by_cases t0:0≤q.untl
  case neg =>
   have HX:Hid (ans=false):=by unfold Hid; rw [HV2.out,decide_eq_false t0]; simp
   have d0:decide (0≤q.untl)=false:=decide_eq_false t0;go_wp2_with fail
   go_ret;exact ⟨ret_bool HX.out.symm,HZ.out⟩
  have d0:decide (0≤q.untl)=true:=decide_eq_true t0;by_cases t1:q.untl≤2000000000
  case neg =>
   have HX:Hid (ans=false):=by unfold Hid; rw [HV2.out,decide_eq_false t1]; simp
   have d9:decide (q.untl≤2000000000)=false:=decide_eq_false t1;go_wp2_with fail
   go_ret;exact ⟨ret_bool HX.out.symm,HZ.out⟩
  have d9:decide (q.untl≤2000000000)=true:=decide_eq_true t1;have HX:Hid (ans=true):=by unfold Hid; rw [HV2.out,decide_eq_true t0,decide_eq_true t1]; rfl
  go_wp2_with fail
  go_ret;exact ⟨ret_bool HX.out.symm,HZ.out⟩
end Go.Proofs.YthagnjokdnnmpaaGreat
