import Derived.Test.YthagnjokdnnmpaaGreatMerged12
import Derived.Test.YthagnjokdnnmpaaGreatMerged15
import Derived.Test.YthagnjokdnnmpaaGreatMerged20
import Derived.Test.YthagnjokdnnmpaaGreatMerged19
import Derived.Test.YthagnjokdnnmpaaGreatMerged26
import Derived.Test.YthagnjokdnnmpaaGreatGrowV
import Derived.Deep.DeepCutAuto
import Derived.Test.YthagnjokdnnmpaaGreatMerged14
import Derived.Test.YthagnjokdnnmpaaGreatMerged17
import Derived.Test.YthagnjokdnnmpaaGreatMerged23
import Derived.Test.YthagnjokdnnmpaaGreatMerged24
import Derived.Great.BuildSlice
set_option linter.unusedVariables false
set_option linter.unusedSimpArgs false
set_option maxRecDepth 100000
set_option maxHeartbeats 8000000
namespace Go.Proofs.YthagnjokdnnmpaaGreat
open Go.RowKit Go.PlainAid
structure RowF {α:Type} (en:α→List Value) (n:Nat) (E:TypeId) (w0:World) (O j:Nat) (L:List Value) (v:Value) (xs:List α) (wx:World):Prop where
 o:HoldsL wx O (L.set j v)
 row:wx.ownsRow w0.heap.size E n v xs.length (flatS en xs)
 b:OutOf O (O+1) w0 wx
 hO:O < w0.heap.size
 hj:j < L.length
section
variable {α:Type} {en:α→List Value} {n:Nat} {E:TypeId} {w0:World} {O j:Nat} {L:List Value} {v:Value} {xs:List α} {wx wy:World}
theorem OutOf.belowR {lo hi:Nat} {w W W2:World} (h:OutOf lo hi w W) (hb:Below W.heap.size W W2):OutOf lo hi w W2:=h.trans (OutOf.of_below hb)
theorem RowF.start (hO:HoldsL w0 O (L.set j (.slice none 0 0))) (hj:j < L.length):RowF en n E w0 O j L (.slice none 0 0) [] w0 :=
 ⟨hO,⟨by simp [flatS],.inl ⟨rfl,rfl⟩⟩,OutOf.of_below (Below.refl _ _),hO.lt (by simp; omega),hj⟩
theorem RowF.kept (h:RowF en n E w0 O j L v xs wx) (hb:Below wx.heap.size wx wy):RowF en n E w0 O j L v xs wy :=
 ⟨h.o.kept (by simp; have:=h.hj; omega) hb,own_stable h.row hb,h.b.belowR hb,h.hO,h.hj⟩
theorem RowF.cell (h:RowF en n E w0 O j L v xs wx):wx.cell? ⟨O,j,none⟩=some v:=h.o.cell (by rw [List.getElem?_set_self h.hj])
theorem RowF.free (h:RowF en n E w0 O j L v xs wx):wx.frozen? ⟨O,j,none⟩=false:=h.o.free (by simp; exact h.hj)
theorem RowF.app (h:RowF en n E w0 O j L v xs wx) {T:TypeId} {z:Value} {bytes:Nat} (hT:Tryz.prog.underlying T=some (.slice E)) (hI:(Tryz.prog.info? E).map (fun i=>(i.zero,i.size,i.bytes))=some (some z,n,bytes)) (hz:z.cells.size=n) (hn:0 < n) (hby:bytes≤1000)
  (q:α) (g:Nat) (hg:HoldsL wx g (en q)) (hq:(en q).length=n) (h1:∀ u∈en q,u.oneCell'=true) (hlen:xs.length≤1048576) :
  ∃ v6 w6,(Builtin.append_ #[T,T] T #[v,.slice (some ⟨g,0,none⟩) 1 1]).run Tryz.prog wx=.ok v6 w6∧(∃ gg l c,v6=.slice (some ⟨gg,0,none⟩) l c)∧HoldsL w6 O (L.set j v)∧RowF en n E w0 O j L v6 (xs++[q]) (w6.setCell ⟨O,j,none⟩ v6):=by
 obtain ⟨i0,hi,hz0,hz1,hz2⟩:=info_parts hI;have hO:=h.hO;have hsz0:=h.b.size;have hjl:=h.hj;obtain ⟨v6,w6,hrun,h62,h63,h64,h65⟩:=run_append_own_at (P:=Tryz.prog) wx w0.heap.size T T E i0 _ n _ hT hi hz0 hz1 hz2 hz hn v _ _ h.row ⟨g,0,none⟩ 1 1 (en q) (by rw [hq]; omega) (fun i u hu=>by rw [add_at]; exact hg.cell hu) h1 (by unfold maxLen; omega) (by have:(xs.length+1)*bytes≤1048577*1000:=Nat.mul_le_mul (by omega) hby; omega) hsz0;have hnv:v.ownBlock≠some O:=ownC_ne h.row hO;have n6:v6.ownBlock≠some O:=by
  rcases h65 with h7 | h7<;>rw [h7]
  ·exact hnv
  ·intro e; injection e with e; omega
 have hO6:=h.o.grown (by simp; omega) h63 (fun e=>hnv e.symm);have hb6:OutOf O (O+1) w0 w6:=by
  refine ⟨h63.os.trans h.b.os,h63.tape.trans h.b.tape,h63.output.trans h.b.output,Nat.le_trans hsz0 h63.size,fun k hk hd=>?_⟩;rw [h63.block k (by omega) (fun e=>by have:=(ownC_in h.row e.symm).1; omega)];exact h.b.block k hk hd
 have hset:((L.set j v).set j v6)=L.set j v6:=by rw [List.set_set]
 refine ⟨v6,w6,hrun,?_,hO6,⟨by rw [← hset]; exact hO6.set j v6,ownC_cell (by rw [flatS_snoc,List.length_append]; exact h62) n6,hb6.trans (OutOf.of_grown (grown_set (World.grownBy.refl _ _) v6) (Nat.le_refl _) (by omega)),hO,hjl⟩⟩;rcases h62.2 with ⟨_,h0⟩ | ⟨gg,c6,_,h6,_⟩
 ·simp at h0
 ·exact ⟨gg,_,c6,h6⟩
theorem RowF.fresh (h:RowF en n E w0 O j L v xs wx):v.ownBlock≠some wx.heap.size:=fun e=>by have:=(ownC_in h.row e).2; omega
theorem RowF.alien (h:RowF en n E w0 O j L v xs wx) {X k:Nat} (hX:w0.heap.size≤X) (hne:v.ownBlock≠some X) (u:Value):RowF en n E w0 O j L v xs (wx.setCell ⟨X,k,none⟩ u):=by
 have hO:=h.hO;refine ⟨h.o.setOther (by omega) u,ownC_cell h.row hne,?_,hO,h.hj⟩;have hg:wx.grownBy (wx.setCell ⟨X,k,none⟩ u) (some X):=grown_set (World.grownBy.refl _ _) u;refine ⟨hg.os.trans h.b.os,hg.tape.trans h.b.tape,hg.output.trans h.b.output,Nat.le_trans h.b.size hg.size,fun i hi hd=>?_⟩;rw [hg.block i (Nat.lt_of_lt_of_le hi h.b.size) (by simp; omega)];exact h.b.block i hi hd
theorem RowF.shape (hn:∀ x,(en x).length=n) (h:RowF en n E w0 O j L v xs wx):∃ a cap,v=.slice a xs.length cap∧xs.length≤cap∧SlIn en n w0.heap.size wx.heap.size wx a xs:=by
 obtain ⟨a,cap,h1,h2,h3⟩:=Row.shape hn (w0:=wx) ⟨h.row,Below.refl _ _⟩;exact ⟨a,cap,h1,h2,SlIn.of_own h3 (Nat.le_refl _)⟩
end
theorem clone_any (s:ByteArray) (w:World) (h:s.size≤1048576) :
  Calls Tryz.prog 78 #[.string s] w fun e w'=>e=.returned (.string s)∧Below w.heap.size w w':=by
 have HC:Hid (∀ W,Calls Tryz.prog 111 #[.string s] W fun e w'=>e=.returned (.string s)∧Below W.heap.size W w'):=fun W=>Tryz.stringslite_Clone s W (by omega)
 go_enter Tryz.func78,Tryz.ntmps78
 go_wp2_with fail
 refine (HC.out _).mono ?_;rintro e w1 ⟨rfl,b1⟩;go_wp2_with fail
 go_ret;exact ⟨rfl,b1⟩
theorem set8 {w W:World} {v0 v1 v2 v3 v4 v5 v6 v7:Value} (h:Below w.heap.size w W):Below w.heap.size w ((((((((W.setCell ⟨w.heap.size+1,0,none⟩ v0).setCell ⟨w.heap.size+1,1,none⟩ v1).setCell ⟨w.heap.size+1,2,none⟩ v2).setCell ⟨w.heap.size+1,3,none⟩ v3).setCell ⟨w.heap.size+1,4,none⟩ v4).setCell ⟨w.heap.size+1,5,none⟩ v5).setCell ⟨w.heap.size+1,6,none⟩ v6).setCell ⟨w.heap.size+1,7,none⟩ v7):=by
 have hs:w.heap.size≤w.heap.size+1:=by omega
 exact (((((((h.setCell (p:=⟨w.heap.size+1,0,none⟩) hs _).setCell (p:=⟨w.heap.size+1,1,none⟩) hs _).setCell (p:=⟨w.heap.size+1,2,none⟩) hs _).setCell (p:=⟨w.heap.size+1,3,none⟩) hs _).setCell (p:=⟨w.heap.size+1,4,none⟩) hs _).setCell (p:=⟨w.heap.size+1,5,none⟩) hs _).setCell (p:=⟨w.heap.size+1,6,none⟩) hs _).setCell (p:=⟨w.heap.size+1,7,none⟩) hs _
def pcZ:List Value:=[.string ⟨#[]⟩,.string ⟨#[]⟩,.int .i64 0,.int .i64 0,.int .i64 0,.bool false,.string ⟨#[]⟩,.int .i64 0]
theorem implCopy_any (p:Pc) (w:World) (hs:PcSm p) :
  Calls Tryz.prog 79 #[pcC p] w fun e w'=>e=.returned (pcC p)∧Below w.heap.size w w':=by
 obtain ⟨s1,s2,s3⟩:=hs;have H1:Hid (∀ W,Calls Tryz.prog 78 #[.string p.src] W fun e w'=>e=.returned (.string p.src)∧Below W.heap.size W w'):=fun W=>clone_any _ W s1
 have H2:Hid (∀ W,Calls Tryz.prog 78 #[.string p.dst] W fun e w'=>e=.returned (.string p.dst)∧Below W.heap.size W w'):=fun W=>clone_any _ W s2
 have H3:Hid (∀ W,Calls Tryz.prog 78 #[.string p.data] W fun e w'=>e=.returned (.string p.data)∧Below W.heap.size W w'):=fun W=>clone_any _ W s3
 have hun:undef=Value.tuple #[]:=rfl;clear s1 s2 s3;have HP:Hid (HoldsL ((w.alloc (.cells (pcL p).toArray 128)).alloc (.cells pcZ.toArray 128)) w.heap.size (pcL p)):=(HoldsL.new w (pcL p) _).alloc _;have HO:Hid (HoldsL ((w.alloc (.cells (pcL p).toArray 128)).alloc (.cells pcZ.toArray 128)) (w.heap.size+1) pcZ):=by
  have h:=HoldsL.new (w.alloc (.cells (pcL p).toArray 128)) pcZ 128;rwa [World.size_alloc] at h
 have HZ:Hid (Below w.heap.size w ((w.alloc (.cells (pcL p).toArray 128)).alloc (.cells pcZ.toArray 128))):=two_pieces w;rw [show (pcL p).toArray=#[.string p.src,.string p.dst,.int .i64 p.proto,.int .i64 p.id,.int .i64 p.off,.bool p.more,.string p.data,.int .i64 p.since] from rfl,show pcZ.toArray=#[.string ⟨#[]⟩,.string ⟨#[]⟩,.int .i64 0,.int .i64 0,.int .i64 0,.bool false,.string ⟨#[]⟩,.int .i64 0] from rfl] at HP HO HZ;unfold pcC;go_enter Tryz.func79,Tryz.ntmps79
 go_upto_region 1 with fail
 generalize (w.alloc (.cells #[.string p.src,.string p.dst,.int .i64 p.proto,.int .i64 p.id,.int .i64 p.off,.bool p.more,.string p.data,.int .i64 p.since] 128)).alloc (.cells #[.string ⟨#[]⟩,.string ⟨#[]⟩,.int .i64 0,.int .i64 0,.int .i64 0,.bool false,.string ⟨#[]⟩,.int .i64 0] 128)=W at *;go_cut [3] (fun v wx=>HoldsL wx w.heap.size (pcL p)∧HoldsL wx (w.heap.size+1) pcZ∧Below w.heap.size w wx)
 case first =>
  rename_i J K2 hJ hK2;clear hun;have HCP:Hid (∀ wy,Below W.drew.heap.size W.drew wy→HoldsL wy w.heap.size (pcL p)∧HoldsL wy (w.heap.size+1) pcZ):=fun wy hy=>⟨HP.out.drew.kept (by simp [pcL]) hy,HO.out.drew.kept (by simp [pcZ]) hy⟩
  refine wp_region_growV [3,4,5,6,7,8,9,10,11,12] (by kernel_rfl) (by kernel_rfl) ?_;refine GChV.val (n:=0) (fun v=>[IsV v]) (fun _=>rfl) rfl ?_;apply Exists.intro;refine And.intro ?_ ?_
  ·intro K' a wy ho hd hb hK;rw [if_pos (wanted_none rfl)];have o1:=ho 1 (by decide);simp [slot] at o1;clear hd ho;go_simp;try go_bits
   exact hK _ _ rfl (Below.refl _ _)
  refine GChV.val (n:=1) (fun v=>[_,IsV v]) (fun _=>rfl) rfl ?_;apply Exists.intro;refine And.intro ?_ ?_
  ·intro K' a wy ho hd hb hK;rw [if_pos (wanted_none rfl)];have q0:=hd ⟨0,.data⟩ (by simp) rfl;simp [rAt,IsV,slot] at q0;clear hd ho;obtain ⟨k0,k1,k2,k3,k4,k5,k6,k7⟩:=cells8 (HCP.out wy hb).1;go_simp;try go_bits
   exact hK _ _ rfl (Below.refl _ _)
  refine GChV.val (n:=2) (fun v=>[_,_,IsV v]) (fun _=>rfl) rfl ?_;apply Exists.intro;refine And.intro ?_ ?_
  ·intro K' a wy ho hd hb hK;rw [if_pos (wanted_none rfl)];have q1:=hd ⟨1,.data⟩ (by simp) rfl;simp [rAt,IsV,slot] at q1;clear hd ho;go_simp;refine (H1.out wy).mono ?_;rintro e wz ⟨rfl,hz⟩;exact hK _ _ rfl hz
  refine GChV.val (n:=3) (fun v=>[_,_,_,IsV v]) (fun _=>rfl) rfl ?_;apply Exists.intro;refine And.intro ?_ ?_
  ·intro K' a wy ho hd hb hK;rw [if_pos (wanted_none rfl)];have o1:=ho 1 (by decide);simp [slot] at o1;clear hd ho;go_simp;try go_bits
   exact hK _ _ rfl (Below.refl _ _)
  refine GChV.val (n:=4) (fun v=>[_,_,_,_,IsV v]) (fun _=>rfl) rfl ?_;apply Exists.intro;refine And.intro ?_ ?_
  ·intro K' a wy ho hd hb hK;rw [if_pos (wanted_none rfl)];have q3:=hd ⟨3,.data⟩ (by simp) rfl;simp [rAt,IsV,slot] at q3;clear hd ho;obtain ⟨k0,k1,k2,k3,k4,k5,k6,k7⟩:=cells8 (HCP.out wy hb).1;go_simp;try go_bits
   exact hK _ _ rfl (Below.refl _ _)
  refine GChV.val (n:=5) (fun v=>[_,_,_,_,_,IsV v]) (fun _=>rfl) rfl ?_;apply Exists.intro;refine And.intro ?_ ?_
  ·intro K' a wy ho hd hb hK;rw [if_pos (wanted_none rfl)];have q4:=hd ⟨4,.data⟩ (by simp) rfl;simp [rAt,IsV,slot] at q4;clear hd ho;go_simp;refine (H2.out wy).mono ?_;rintro e wz ⟨rfl,hz⟩;exact hK _ _ rfl hz
  refine GChV.val (n:=6) (fun v=>[_,_,_,_,_,_,IsV v]) (fun _=>rfl) rfl ?_;apply Exists.intro;refine And.intro ?_ ?_
  ·intro K' a wy ho hd hb hK;rw [if_pos (wanted_none rfl)];have o1:=ho 1 (by decide);simp [slot] at o1;clear hd ho;go_simp;try go_bits
   exact hK _ _ rfl (Below.refl _ _)
  refine GChV.val (n:=7) (fun v=>[_,_,_,_,_,_,_,IsV v]) (fun _=>rfl) rfl ?_;apply Exists.intro;refine And.intro ?_ ?_
  ·intro K' a wy ho hd hb hK;rw [if_pos (wanted_none rfl)];have q6:=hd ⟨6,.data⟩ (by simp) rfl;simp [rAt,IsV,slot] at q6;clear hd ho;obtain ⟨k0,k1,k2,k3,k4,k5,k6,k7⟩:=cells8 (HCP.out wy hb).1;go_simp;try go_bits
   exact hK _ _ rfl (Below.refl _ _)
  refine GChV.val (n:=8) (fun v=>[_,_,_,_,_,_,_,_,IsV v]) (fun _=>rfl) rfl ?_;apply Exists.intro;refine And.intro ?_ ?_
  ·intro K' a wy ho hd hb hK;rw [if_pos (wanted_none rfl)];have q7:=hd ⟨7,.data⟩ (by simp) rfl;simp [rAt,IsV,slot] at q7;clear hd ho;go_simp;refine (H3.out wy).mono ?_;rintro e wz ⟨rfl,hz⟩;exact hK _ _ rfl hz
  refine GChV.val (n:=9) (fun v=>[_,_,_,_,_,_,_,_,_,IsV v]) (fun _=>rfl) rfl ?_;apply Exists.intro;refine And.intro ?_ ?_
  ·intro K' a wy ho hd hb hK;rw [if_pos (wanted_none rfl)];have o1:=ho 1 (by decide);simp [slot] at o1;clear hd ho;go_simp;try go_bits
   exact hK _ _ rfl (Below.refl _ _)
  intro X wz hR hz;obtain ⟨x0,x1,x2,x3,x4,x5,x6,x7,x8,x9,-⟩:=hR;simp only [IsV] at x0 x1 x2 x3 x4 x5 x6 x7 x8 x9;simp only [putsFrom,x0,x1,x2,x3,x4,x5,x6,x7,x8,x9];clear x0 x1 x2 x3 x4 x5 x6 x7 x8 x9;obtain ⟨hh,hz0⟩:=HCP.out wz hz;have HB:Hid (Below w.heap.size w wz):=HZ.out.drew.trans (hz.mono HZ.out.size);have f0:wz.frozen? ⟨w.heap.size,0,none⟩=false:=hh.free (j:=0) (by simp [pcL]);have f1:wz.frozen? ⟨w.heap.size,1,none⟩=false:=hh.free (j:=1) (by simp [pcL]);have f6:wz.frozen? ⟨w.heap.size,6,none⟩=false:=hh.free (j:=6) (by simp [pcL]);obtain ⟨k0,k1,k2,k3,k4,k5,k6,k7⟩:=cells8 hh;have HH:Hid (HoldsL wz w.heap.size (pcL p)):=hh;have HH0:Hid (HoldsL wz (w.heap.size+1) pcZ):=hz0;clear hh hz0;intro K10 hK10;go_simp;refine hK10 _ _ ?_;intro K11 hK11;go_simp;refine hK11 _ _ ?_;intro K12 hK12;go_simp;refine hK12 _ _ ?_;intro K13 hK13;go_simp;refine hK13 _ _ ?_;intro K14 hK14;go_simp;refine hK14 _ _ ?_;show Exit.then _ _ _ _ _;refine hK2 _ _ (hJ _ _ ?_);(repeat apply Exists.intro)
  refine ⟨⟨((HH.out.set 0 _).set 1 _).set 6 _,((HH0.out.setOther (by omega) _).setOther (by omega) _).setOther (by omega) _,?_⟩,rfl⟩;exact ((HB.out.setCell (p:=⟨w.heap.size,0,none⟩) (Nat.le_refl _) _).setCell (p:=⟨w.heap.size,1,none⟩) (Nat.le_refl _) _).setCell (p:=⟨w.heap.size,6,none⟩) (Nat.le_refl _) _
 case rest =>
  obtain ⟨hh,h0,hb⟩:=hcut;obtain ⟨k0,k1,k2,k3,k4,k5,k6,k7⟩:=cells8 hh;have HB:Hid (Below w.heap.size w wc):=hb;have y0:wc.frozen? ⟨w.heap.size+1,0,none⟩=false:=h0.free (j:=0) (by simp [pcZ]);have y1:wc.frozen? ⟨w.heap.size+1,1,none⟩=false:=h0.free (j:=1) (by simp [pcZ]);have y2:wc.frozen? ⟨w.heap.size+1,2,none⟩=false:=h0.free (j:=2) (by simp [pcZ]);have y3:wc.frozen? ⟨w.heap.size+1,3,none⟩=false:=h0.free (j:=3) (by simp [pcZ]);have y4:wc.frozen? ⟨w.heap.size+1,4,none⟩=false:=h0.free (j:=4) (by simp [pcZ]);have y5:wc.frozen? ⟨w.heap.size+1,5,none⟩=false:=h0.free (j:=5) (by simp [pcZ]);have y6:wc.frozen? ⟨w.heap.size+1,6,none⟩=false:=h0.free (j:=6) (by simp [pcZ]);have y7:wc.frozen? ⟨w.heap.size+1,7,none⟩=false:=h0.free (j:=7) (by simp [pcZ]);have z0:=h0.cell (j:=0) rfl;have z1:=h0.cell (j:=1) rfl;have z2:=h0.cell (j:=2) rfl;have z3:=h0.cell (j:=3) rfl;have z4:=h0.cell (j:=4) rfl;have z5:=h0.cell (j:=5) rfl;have z6:=h0.cell (j:=6) rfl;have z7:=h0.cell (j:=7) rfl;clear hh h0 hb;go_wp2_with fail
  refine bodyPost_ret (v:=.agg #[.string p.src,.string p.dst,.int .i64 p.proto,.int .i64 p.id,.int .i64 p.off,.bool p.more,.string p.data,.int .i64 p.since]) (by simp [results,Tryz.results79,go_sem,z0,z1,z2,z3,z4,z5,z6,z7]) rfl ⟨rfl,?_⟩;exact set8 HB.out
end Go.Proofs.YthagnjokdnnmpaaGreat
