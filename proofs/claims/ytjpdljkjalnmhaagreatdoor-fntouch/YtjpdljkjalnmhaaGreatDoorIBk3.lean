import Derived.Test.YtjpdljkjalnmhaaGreatDoorIBk2
set_option linter.unusedVariables false
set_option linter.unusedSimpArgs false
set_option maxRecDepth 100000
set_option maxHeartbeats 8000000
namespace Go.Proofs.YtjpdljkjalnmhaaGreatDoor
open Go.RowKit Go.PlainAid
theorem cloneS_any (s:ByteArray) (w:World) (h:s.size≤1048576) :
  Calls Tryz.prog 65 #[.string s] w fun e w'=>e=.returned (.string s)∧Below w.heap.size w w':=by
 have HC:Hid (∀ W,Calls Tryz.prog 98 #[.string s] W fun e w'=>e=.returned (.string s)∧Below W.heap.size W w'):=fun W=>Tryz.stringslite_Clone s W (by omega)
 go_enter Tryz.func65,Tryz.ntmps65
 go_wp2_with fail
 refine (HC.out _).mono ?_;rintro e w1 ⟨rfl,b1⟩;go_wp2_with fail
 go_ret;exact ⟨rfl,b1⟩
theorem copyBind_any (p:Bd) (w:World) (h1:p.inn.size≤1048576) (h2:p.out.size≤1048576) :
  Calls Tryz.prog 26 #[bdC p] w fun e w'=>e=.returned (bdC p)∧Below w.heap.size w w':=by
 have H1:Hid (∀ W,Calls Tryz.prog 65 #[.string p.inn] W fun e w'=>e=.returned (.string p.inn)∧Below W.heap.size W w'):=fun W=>cloneS_any _ W h1
 have H2:Hid (∀ W,Calls Tryz.prog 65 #[.string p.out] W fun e w'=>e=.returned (.string p.out)∧Below W.heap.size W w'):=fun W=>cloneS_any _ W h2
 have hun:undef=Value.tuple #[]:=rfl;clear h1 h2;have HP:Hid (HoldsL ((w.alloc (.cells #[.int .i64 p.proto,.string p.inn,.int .i64 p.inPort,.string p.out,.int .i64 p.outPort] 37)).alloc (.cells #[.int .i64 0,.string ⟨#[]⟩,.int .i64 0,.string ⟨#[]⟩,.int .i64 0] 37)) w.heap.size (bdL p)):=(HoldsL.new w (bdL p) _).alloc _;have HO:Hid (HoldsL ((w.alloc (.cells #[.int .i64 p.proto,.string p.inn,.int .i64 p.inPort,.string p.out,.int .i64 p.outPort] 37)).alloc (.cells #[.int .i64 0,.string ⟨#[]⟩,.int .i64 0,.string ⟨#[]⟩,.int .i64 0] 37)) (w.heap.size+1) [.int .i64 0,.string ⟨#[]⟩,.int .i64 0,.string ⟨#[]⟩,.int .i64 0]):=by
  have h:=HoldsL.new (w.alloc (.cells #[.int .i64 p.proto,.string p.inn,.int .i64 p.inPort,.string p.out,.int .i64 p.outPort] 37)) [.int .i64 0,.string ⟨#[]⟩,.int .i64 0,.string ⟨#[]⟩,.int .i64 0] 37;rwa [World.size_alloc] at h
 have HZ:Hid (Below w.heap.size w ((w.alloc (.cells #[.int .i64 p.proto,.string p.inn,.int .i64 p.inPort,.string p.out,.int .i64 p.outPort] 37)).alloc (.cells #[.int .i64 0,.string ⟨#[]⟩,.int .i64 0,.string ⟨#[]⟩,.int .i64 0] 37))):=((Below.refl _ _).alloc (Nat.le_refl _) _).alloc (by simp) _;unfold bdC;go_enter Tryz.func26,Tryz.ntmps26
 go_upto_region 1 with fail
 generalize (w.alloc (.cells #[.int .i64 p.proto,.string p.inn,.int .i64 p.inPort,.string p.out,.int .i64 p.outPort] 37)).alloc (.cells #[.int .i64 0,.string ⟨#[]⟩,.int .i64 0,.string ⟨#[]⟩,.int .i64 0] 37)=W at *;go_cut [3] (fun v wx=>HoldsL wx w.heap.size (bdL p)∧HoldsL wx (w.heap.size+1) [.int .i64 0,.string ⟨#[]⟩,.int .i64 0,.string ⟨#[]⟩,.int .i64 0]∧Below w.heap.size w wx)
 case first =>
  rename_i J K2 hJ hK2;clear hun;have HCP:Hid (∀ wy,Below W.drew.heap.size W.drew wy→HoldsL wy w.heap.size (bdL p)∧HoldsL wy (w.heap.size+1) [.int .i64 0,.string ⟨#[]⟩,.int .i64 0,.string ⟨#[]⟩,.int .i64 0]):=fun wy hy=>⟨HP.out.drew.kept (by simp [bdL]) hy,HO.out.drew.kept (by simp) hy⟩
  refine wp_region_growV [3,4,5,6,7,8,9] (by kernel_rfl) (by kernel_rfl) ?_;apply GChV.v0
  ·rfl
  ·intro K' a wy ho hd hb hK kz;have o1:=ho 1 (by decide);simp [slot] at o1;clear hd ho;go_simp;try go_bits
   exact kz _ rfl
  apply GChV.v1
  ·rfl
  ·intro K' a wy ho hd hb hK kz;have q0:=hd ⟨0,.data⟩ (by simp) rfl;simp [rAt,IsV,slot] at q0;clear hd ho;have hld:=(HCP.out wy hb).1;obtain ⟨k0,k1,k2,k3,k4⟩:=hld.c5;go_simp;try go_bits
   exact kz _ rfl
  apply GChV.v2
  ·rfl
  ·intro K' a wy ho hd hb hK kz;have q1:=hd ⟨1,.data⟩ (by simp) rfl;simp [rAt,IsV,slot] at q1;clear hd ho;go_simp;refine (H1.out wy).mono ?_;rintro e wz ⟨rfl,hz⟩;exact hK _ _ rfl hz
  apply GChV.v3
  ·rfl
  ·intro K' a wy ho hd hb hK kz;have o1:=ho 1 (by decide);simp [slot] at o1;clear hd ho;go_simp;try go_bits
   exact kz _ rfl
  apply GChV.v4
  ·rfl
  ·intro K' a wy ho hd hb hK kz;have q3:=hd ⟨3,.data⟩ (by simp) rfl;simp [rAt,IsV,slot] at q3;clear hd ho;have hld:=(HCP.out wy hb).1;obtain ⟨k0,k1,k2,k3,k4⟩:=hld.c5;go_simp;try go_bits
   exact kz _ rfl
  apply GChV.v5
  ·rfl
  ·intro K' a wy ho hd hb hK kz;have q4:=hd ⟨4,.data⟩ (by simp) rfl;simp [rAt,IsV,slot] at q4;clear hd ho;go_simp;refine (H2.out wy).mono ?_;rintro e wz ⟨rfl,hz⟩;exact hK _ _ rfl hz
  apply GChV.v6
  ·rfl
  ·intro K' a wy ho hd hb hK kz;have o1:=ho 1 (by decide);simp [slot] at o1;clear hd ho;go_simp;try go_bits
   exact kz _ rfl
  intro X wz hR hz;obtain ⟨x0,x1,x2,x3,x4,x5,x6,-⟩:=hR;simp only [IsV] at x0 x1 x2 x3 x4 x5 x6;simp only [putsFrom,x0,x1,x2,x3,x4,x5,x6];clear x0 x1 x2 x3 x4 x5 x6;obtain ⟨hh,hz0⟩:=HCP.out wz hz;have HB:Hid (Below w.heap.size w wz):=HZ.out.drew.trans (hz.mono HZ.out.size);have f1:wz.frozen? ⟨w.heap.size,1,none⟩=false:=hh.free (j:=1) (by simp [bdL]);have f3:wz.frozen? ⟨w.heap.size,3,none⟩=false:=hh.free (j:=3) (by simp [bdL]);obtain ⟨k0,k1,k2,k3,k4⟩:=hh.c5;have HH:Hid (HoldsL wz w.heap.size (bdL p)):=hh;have HH0:Hid (HoldsL wz (w.heap.size+1) [.int .i64 0,.string ⟨#[]⟩,.int .i64 0,.string ⟨#[]⟩,.int .i64 0]):=hz0;clear hh hz0;intro K10 hK10;go_simp;refine hK10 _ _ ?_;intro K11 hK11;go_simp;refine hK11 _ _ ?_;intro K12 hK12;go_simp;refine hK12 _ _ ?_;show Exit.then _ _ _ _ _;refine hK2 _ _ (hJ _ _ ?_);(repeat apply Exists.intro)
  refine ⟨⟨(HH.out.set 1 _).set 3 _,(HH0.out.setOther (by omega) _).setOther (by omega) _,?_⟩,rfl⟩;exact (HB.out.setCell (p:=⟨w.heap.size,1,none⟩) (Nat.le_refl _) _).setCell (p:=⟨w.heap.size,3,none⟩) (Nat.le_refl _) _
 case rest =>
  obtain ⟨hh,h0,hb⟩:=hcut;have HB:Hid (Below w.heap.size w wc):=hb;obtain ⟨k0,k1,k2,k3,k4⟩:=hh.c5;obtain ⟨y0,y1,y2,y3,y4⟩:=h0.f5;obtain ⟨z0,z1,z2,z3,z4⟩:=h0.c5;clear hh h0 hb;go_wp2_with fail
  refine bodyPost_ret (v:=.agg #[.int .i64 p.proto,.string p.inn,.int .i64 p.inPort,.string p.out,.int .i64 p.outPort]) (by simp [results,Tryz.results26,go_sem,z0,z1,z2,z3,z4]) rfl ⟨rfl,?_⟩;have hsz:w.heap.size≤w.heap.size+1:=Nat.le_succ _;exact (((((HB.out.setCell (p:=⟨w.heap.size+1,0,none⟩) hsz _).setCell (p:=⟨w.heap.size+1,1,none⟩) hsz _).setCell (p:=⟨w.heap.size+1,2,none⟩) hsz _).setCell (p:=⟨w.heap.size+1,3,none⟩) hsz _).setCell (p:=⟨w.heap.size+1,4,none⟩) hsz _)
theorem copySession_any (p:Ss) (w:World) (h1:p.inn.size≤1048576) (h2:p.peer.size≤1048576) :
  Calls Tryz.prog 58 #[ssC p] w fun e w'=>e=.returned (ssC p)∧Below w.heap.size w w':=by
 have H1:Hid (∀ W,Calls Tryz.prog 65 #[.string p.inn] W fun e w'=>e=.returned (.string p.inn)∧Below W.heap.size W w'):=fun W=>cloneS_any _ W h1
 have H2:Hid (∀ W,Calls Tryz.prog 65 #[.string p.peer] W fun e w'=>e=.returned (.string p.peer)∧Below W.heap.size W w'):=fun W=>cloneS_any _ W h2
 have hun:undef=Value.tuple #[]:=rfl;clear h1 h2;have HP:Hid (HoldsL ((w.alloc (.cells #[.int .i64 p.proto,.string p.inn,.int .i64 p.inPort,.string p.peer,.int .i64 p.peerPort,.int .i64 p.state,.int .i64 p.untl] 70)).alloc (.cells #[.int .i64 0,.string ⟨#[]⟩,.int .i64 0,.string ⟨#[]⟩,.int .i64 0,.int .i64 0,.int .i64 0] 70)) w.heap.size (ssL p)):=(HoldsL.new w (ssL p) _).alloc _;have HO:Hid (HoldsL ((w.alloc (.cells #[.int .i64 p.proto,.string p.inn,.int .i64 p.inPort,.string p.peer,.int .i64 p.peerPort,.int .i64 p.state,.int .i64 p.untl] 70)).alloc (.cells #[.int .i64 0,.string ⟨#[]⟩,.int .i64 0,.string ⟨#[]⟩,.int .i64 0,.int .i64 0,.int .i64 0] 70)) (w.heap.size+1) [.int .i64 0,.string ⟨#[]⟩,.int .i64 0,.string ⟨#[]⟩,.int .i64 0,.int .i64 0,.int .i64 0]):=by
  have h:=HoldsL.new (w.alloc (.cells #[.int .i64 p.proto,.string p.inn,.int .i64 p.inPort,.string p.peer,.int .i64 p.peerPort,.int .i64 p.state,.int .i64 p.untl] 70)) [.int .i64 0,.string ⟨#[]⟩,.int .i64 0,.string ⟨#[]⟩,.int .i64 0,.int .i64 0,.int .i64 0] 70;rwa [World.size_alloc] at h
 have HZ:Hid (Below w.heap.size w ((w.alloc (.cells #[.int .i64 p.proto,.string p.inn,.int .i64 p.inPort,.string p.peer,.int .i64 p.peerPort,.int .i64 p.state,.int .i64 p.untl] 70)).alloc (.cells #[.int .i64 0,.string ⟨#[]⟩,.int .i64 0,.string ⟨#[]⟩,.int .i64 0,.int .i64 0,.int .i64 0] 70))):=((Below.refl _ _).alloc (Nat.le_refl _) _).alloc (by simp) _;unfold ssC;go_enter Tryz.func58,Tryz.ntmps58
 go_upto_region 1 with fail
 generalize (w.alloc (.cells #[.int .i64 p.proto,.string p.inn,.int .i64 p.inPort,.string p.peer,.int .i64 p.peerPort,.int .i64 p.state,.int .i64 p.untl] 70)).alloc (.cells #[.int .i64 0,.string ⟨#[]⟩,.int .i64 0,.string ⟨#[]⟩,.int .i64 0,.int .i64 0,.int .i64 0] 70)=W at *;go_cut [3] (fun v wx=>HoldsL wx w.heap.size (ssL p)∧HoldsL wx (w.heap.size+1) [.int .i64 0,.string ⟨#[]⟩,.int .i64 0,.string ⟨#[]⟩,.int .i64 0,.int .i64 0,.int .i64 0]∧Below w.heap.size w wx)
 case first =>
  rename_i J K2 hJ hK2;clear hun;have HCP:Hid (∀ wy,Below W.drew.heap.size W.drew wy→HoldsL wy w.heap.size (ssL p)∧HoldsL wy (w.heap.size+1) [.int .i64 0,.string ⟨#[]⟩,.int .i64 0,.string ⟨#[]⟩,.int .i64 0,.int .i64 0,.int .i64 0]):=fun wy hy=>⟨HP.out.drew.kept (by simp [ssL]) hy,HO.out.drew.kept (by simp) hy⟩
  refine wp_region_growV [3,4,5,6,7,8,9] (by kernel_rfl) (by kernel_rfl) ?_;apply GChV.v0
  ·rfl
  ·intro K' a wy ho hd hb hK kz;have o1:=ho 1 (by decide);simp [slot] at o1;clear hd ho;go_simp;try go_bits
   exact kz _ rfl
  apply GChV.v1
  ·rfl
  ·intro K' a wy ho hd hb hK kz;have q0:=hd ⟨0,.data⟩ (by simp) rfl;simp [rAt,IsV,slot] at q0;clear hd ho;have hld:=(HCP.out wy hb).1;obtain ⟨k0,k1,k2,k3,k4,k5,k6⟩:=hld.c7;go_simp;try go_bits
   exact kz _ rfl
  apply GChV.v2
  ·rfl
  ·intro K' a wy ho hd hb hK kz;have q1:=hd ⟨1,.data⟩ (by simp) rfl;simp [rAt,IsV,slot] at q1;clear hd ho;go_simp;refine (H1.out wy).mono ?_;rintro e wz ⟨rfl,hz⟩;exact hK _ _ rfl hz
  apply GChV.v3
  ·rfl
  ·intro K' a wy ho hd hb hK kz;have o1:=ho 1 (by decide);simp [slot] at o1;clear hd ho;go_simp;try go_bits
   exact kz _ rfl
  apply GChV.v4
  ·rfl
  ·intro K' a wy ho hd hb hK kz;have q3:=hd ⟨3,.data⟩ (by simp) rfl;simp [rAt,IsV,slot] at q3;clear hd ho;have hld:=(HCP.out wy hb).1;obtain ⟨k0,k1,k2,k3,k4,k5,k6⟩:=hld.c7;go_simp;try go_bits
   exact kz _ rfl
  apply GChV.v5
  ·rfl
  ·intro K' a wy ho hd hb hK kz;have q4:=hd ⟨4,.data⟩ (by simp) rfl;simp [rAt,IsV,slot] at q4;clear hd ho;go_simp;refine (H2.out wy).mono ?_;rintro e wz ⟨rfl,hz⟩;exact hK _ _ rfl hz
  apply GChV.v6
  ·rfl
  ·intro K' a wy ho hd hb hK kz;have o1:=ho 1 (by decide);simp [slot] at o1;clear hd ho;go_simp;try go_bits
   exact kz _ rfl
  intro X wz hR hz;obtain ⟨x0,x1,x2,x3,x4,x5,x6,-⟩:=hR;simp only [IsV] at x0 x1 x2 x3 x4 x5 x6;simp only [putsFrom,x0,x1,x2,x3,x4,x5,x6];clear x0 x1 x2 x3 x4 x5 x6;obtain ⟨hh,hz0⟩:=HCP.out wz hz;have HB:Hid (Below w.heap.size w wz):=HZ.out.drew.trans (hz.mono HZ.out.size);have f1:wz.frozen? ⟨w.heap.size,1,none⟩=false:=hh.free (j:=1) (by simp [ssL]);have f3:wz.frozen? ⟨w.heap.size,3,none⟩=false:=hh.free (j:=3) (by simp [ssL]);obtain ⟨k0,k1,k2,k3,k4,k5,k6⟩:=hh.c7;have HH:Hid (HoldsL wz w.heap.size (ssL p)):=hh;have HH0:Hid (HoldsL wz (w.heap.size+1) [.int .i64 0,.string ⟨#[]⟩,.int .i64 0,.string ⟨#[]⟩,.int .i64 0,.int .i64 0,.int .i64 0]):=hz0;clear hh hz0;intro K10 hK10;go_simp;refine hK10 _ _ ?_;intro K11 hK11;go_simp;refine hK11 _ _ ?_;intro K12 hK12;go_simp;refine hK12 _ _ ?_;show Exit.then _ _ _ _ _;refine hK2 _ _ (hJ _ _ ?_);(repeat apply Exists.intro)
  refine ⟨⟨(HH.out.set 1 _).set 3 _,(HH0.out.setOther (by omega) _).setOther (by omega) _,?_⟩,rfl⟩;exact (HB.out.setCell (p:=⟨w.heap.size,1,none⟩) (Nat.le_refl _) _).setCell (p:=⟨w.heap.size,3,none⟩) (Nat.le_refl _) _
 case rest =>
  obtain ⟨hh,h0,hb⟩:=hcut;have HB:Hid (Below w.heap.size w wc):=hb;obtain ⟨k0,k1,k2,k3,k4,k5,k6⟩:=hh.c7;obtain ⟨y0,y1,y2,y3,y4,y5,y6⟩:=h0.f7;obtain ⟨z0,z1,z2,z3,z4,z5,z6⟩:=h0.c7;clear hh h0 hb;go_wp2_with fail
  refine bodyPost_ret (v:=.agg #[.int .i64 p.proto,.string p.inn,.int .i64 p.inPort,.string p.peer,.int .i64 p.peerPort,.int .i64 p.state,.int .i64 p.untl]) (by simp [results,Tryz.results58,go_sem,z0,z1,z2,z3,z4,z5,z6]) rfl ⟨rfl,?_⟩;have hsz:w.heap.size≤w.heap.size+1:=Nat.le_succ _;exact (((((((HB.out.setCell (p:=⟨w.heap.size+1,0,none⟩) hsz _).setCell (p:=⟨w.heap.size+1,1,none⟩) hsz _).setCell (p:=⟨w.heap.size+1,2,none⟩) hsz _).setCell (p:=⟨w.heap.size+1,3,none⟩) hsz _).setCell (p:=⟨w.heap.size+1,4,none⟩) hsz _).setCell (p:=⟨w.heap.size+1,5,none⟩) hsz _).setCell (p:=⟨w.heap.size+1,6,none⟩) hsz _)
def BdsIn (xs:List Bd):Prop:=xs.length≤1048576∧∀ q∈xs,q.inn.size≤1048576∧q.out.size≤1048576
theorem find_of (f:Bd→Bool) (xs:List Bd) {i:Nat} (hi:i < xs.length) (h:findI f xs=i):xs.find? f=some xs[i]:=by
 obtain ⟨j,hj,h1,h2⟩:=findBd_at f xs (by omega);have:j=i:=by omega
 subst this; exact h2
theorem firstBind_any (E:Bd→En) (F:Nat) (hG:Enters F) (p:En) (xs:List Bd) (a:Option Addr) (cap:Nat) (w:World) (hF:∀ q W,Calls Tryz.prog F #[bdC q] W fun e w'=>e=.returned (enC (E q))∧Below W.heap.size W w') (hin:BdsIn xs) (hr:SlIs bdL 5 w a xs) :
  Calls Tryz.prog 34 #[.slice a xs.length cap,.func (.func F) #[] #[],enC p] w fun e w'=>e=.returned (bdC (bindV (fun q=>sameEn (E q) p) xs p.addr))∧Below w.heap.size w w':=by
 have hlen:=hin.1;have W3Z:Hid (Below w.heap.size w (((w.alloc (.cells #[.func (.func F) #[] #[]] 78)).alloc (.cells #[.int .i64 p.proto,.string p.addr,.int .i64 p.port] 60)).alloc (.cells #[.int .i64 0,.string ⟨#[]⟩,.int .i64 0,.string ⟨#[]⟩,.int .i64 0] 37))):=(((Below.refl _ _).alloc (Nat.le_refl _) _).alloc (by simp) _).alloc (by simp; omega) _;have HK1:Hid (HoldsL (((w.alloc (.cells #[.func (.func F) #[] #[]] 78)).alloc (.cells #[.int .i64 p.proto,.string p.addr,.int .i64 p.port] 60)).alloc (.cells #[.int .i64 0,.string ⟨#[]⟩,.int .i64 0,.string ⟨#[]⟩,.int .i64 0] 37)) w.heap.size [.func (.func F) #[] #[]]):=((HoldsL.new w _ _).alloc _).alloc _;have HK2:Hid (HoldsL (((w.alloc (.cells #[.func (.func F) #[] #[]] 78)).alloc (.cells #[.int .i64 p.proto,.string p.addr,.int .i64 p.port] 60)).alloc (.cells #[.int .i64 0,.string ⟨#[]⟩,.int .i64 0,.string ⟨#[]⟩,.int .i64 0] 37)) (w.heap.size+1) (enL p)):=by
  have h:=(HoldsL.new (w.alloc (.cells #[.func (.func F) #[] #[]] 78)) (enL p) 60).alloc (.cells #[.int .i64 0,.string ⟨#[]⟩,.int .i64 0,.string ⟨#[]⟩,.int .i64 0] 37);rw [World.size_alloc] at h; exact h
 have HK3:Hid (HoldsL (((w.alloc (.cells #[.func (.func F) #[] #[]] 78)).alloc (.cells #[.int .i64 p.proto,.string p.addr,.int .i64 p.port] 60)).alloc (.cells #[.int .i64 0,.string ⟨#[]⟩,.int .i64 0,.string ⟨#[]⟩,.int .i64 0] 37)) (w.heap.size+1+1) [.int .i64 0,.string ⟨#[]⟩,.int .i64 0,.string ⟨#[]⟩,.int .i64 0]):=by
  have h:=HoldsL.new ((w.alloc (.cells #[.func (.func F) #[] #[]] 78)).alloc (.cells #[.int .i64 p.proto,.string p.addr,.int .i64 p.port] 60)) [.int .i64 0,.string ⟨#[]⟩,.int .i64 0,.string ⟨#[]⟩,.int .i64 0] 37;rw [World.size_alloc,World.size_alloc] at h; exact h
 have HR:Hid (SlIs bdL 5 w a xs):=hr;have HIN:Hid (BdsIn xs):=hin;have HV:Hid (bindV (fun q=>sameEn (E q) p) xs p.addr=if 20000 < p.addr.size then bdZ else (xs.find? (fun q=>sameEn (E q) p)).getD bdZ):=rfl;have HI:Hid (∀ W,Below w.heap.size w W→HoldsL W w.heap.size [.func (.func F) #[] #[]]→HoldsL W (w.heap.size+1) (enL p)→Calls Tryz.prog 81 #[.slice a xs.length cap,.func (.func 82) #[] #[.pointer (some ⟨w.heap.size,0,none⟩),.pointer (some ⟨w.heap.size+1,0,none⟩)]] W fun e w'=>e=.returned (.int .i64 (findI (fun q=>sameEn (E q) p) xs))∧Below W.heap.size W w'):=fun W hW h1 h2=>idxBind_any (fun q=>sameEn (E q) p) 82 (fun args W=>by kernel_rfl) _ xs a cap W hlen (hr.below hW) (fun W' hW' q hq=>first1_any E F hG q p _ _ W' hF (h1.kept (by simp) hW') (h2.kept (by simp [enL]) hW'))
 have HFO:Hid (∀ i,(hi:i < xs.length)→findI (fun q=>sameEn (E q) p) xs=i→xs.find? (fun q=>sameEn (E q) p)=some xs[i]):=fun i hi h=>find_of _ xs hi h
 have HAT:Hid (¬ findI (fun q=>sameEn (E q) p) xs < 0→∃ i:Nat,∃ hi:i < xs.length,findI (fun q=>sameEn (E q) p) xs=i∧xs.find? (fun q=>sameEn (E q) p)=some xs[i]):=findBd_at _ xs;have HNO:Hid (findI (fun q=>sameEn (E q) p) xs < 0→xs.find? (fun q=>sameEn (E q) p)=none):=find_no _ xs;have HTL:Hid (∀ W,Calls Tryz.prog 83 #[.string p.addr] W fun e w'=>e=.returned (.bool (decide (20000 < p.addr.size)))∧w'=W):=fun W=>implLong_any p.addr W
 generalize bindV (fun q=>sameEn (E q) p) xs p.addr=ans at *;generalize xs.find? (fun q=>sameEn (E q) p)=fd at *;generalize findI (fun q=>sameEn (E q) p) xs=fi at *;clear hr hin hF hG;unfold enC;have hun:undef=Value.tuple #[]:=rfl;go_enter Tryz.func34,Tryz.ntmps34
 go_upto_region 1 with fail
 generalize ((w.alloc (.cells #[.func (.func F) #[] #[]] 78)).alloc (.cells #[.int .i64 p.proto,.string p.addr,.int .i64 p.port] 60)).alloc (.cells #[.int .i64 0,.string ⟨#[]⟩,.int .i64 0,.string ⟨#[]⟩,.int .i64 0] 37)=W3 at *;go_wp2_with fail
 refine (HI.out _ W3Z.out HK1.out HK2.out).mono ?_;rintro e w1 ⟨rfl,q1⟩;have B1:Hid (Below w.heap.size w w1):=W3Z.out.trans (q1.mono W3Z.out.size);have K2:=HK2.out.kept (by simp [enL]) q1;have K3:Hid _:=HK3.out.kept (by simp) q1;have k21:=K2.cell (j:=1) rfl;clear q1 K2 HK1 HK2 HK3 W3Z HI;go_wp2_with fail
 refine (HTL.out _).mono ?_;rintro e w1 ⟨rfl,rfl⟩;have hRw:w.heap.size≤w.heap.size+1+1:=by omega
 obtain ⟨y0,y1,y2,y3,y4⟩:=K3.out.f5;obtain ⟨z0,z1,z2,z3,z4⟩:=K3.out.c5;by_cases hs:20000 < p.addr.size
 ·have HX:Hid (ans=bdZ):=by unfold Hid; rw [HV.out,if_pos hs]
  have hd:decide (20000 < p.addr.size)=true:=decide_eq_true hs;rw [hd];go_wp2_with fail
  refine bodyPost_ret (v:=.agg #[.int .i64 0,.string ⟨#[]⟩,.int .i64 0,.string ⟨#[]⟩,.int .i64 0]) (by simp [results,Tryz.results34,go_sem,z0,z1,z2,z3,z4]) rfl (And.intro (congrArg (fun x=>Ending.returned (bdC x)) HX.out.symm) ?_);exact (((((B1.out.setCell (p:=⟨w.heap.size+1+1,0,none⟩) hRw _).setCell (p:=⟨w.heap.size+1+1,1,none⟩) hRw _).setCell (p:=⟨w.heap.size+1+1,2,none⟩) hRw _).setCell (p:=⟨w.heap.size+1+1,3,none⟩) hRw _).setCell (p:=⟨w.heap.size+1+1,4,none⟩) hRw _)
 ·have hd:decide (20000 < p.addr.size)=false:=decide_eq_false hs;rw [hd];by_cases hk:fi < 0
  ·have HX:Hid (ans=bdZ):=by unfold Hid; rw [HV.out,if_neg hs,HNO.out hk]; rfl
   go_wp2_with fail
   refine bodyPost_ret (v:=.agg #[.int .i64 0,.string ⟨#[]⟩,.int .i64 0,.string ⟨#[]⟩,.int .i64 0]) (by simp [results,Tryz.results34,go_sem,z0,z1,z2,z3,z4]) rfl (And.intro (congrArg (fun x=>Ending.returned (bdC x)) HX.out.symm) ?_);exact (((((B1.out.setCell (p:=⟨w.heap.size+1+1,0,none⟩) hRw _).setCell (p:=⟨w.heap.size+1+1,1,none⟩) hRw _).setCell (p:=⟨w.heap.size+1+1,2,none⟩) hRw _).setCell (p:=⟨w.heap.size+1+1,3,none⟩) hRw _).setCell (p:=⟨w.heap.size+1+1,4,none⟩) hRw _)
  ·obtain ⟨i,hi,hfi,hfd⟩:=HAT.out (by omega);subst hfi;obtain ⟨b,off,rfl,hb,hat⟩:=HR.out.at hi;have hA:=(hat.below hb B1.out) i hi;have hsz:=HIN.out.2 xs[i] (List.getElem_mem hi);obtain ⟨q,hq⟩ : ∃ q,xs[i]=q:=⟨_,rfl⟩;rw [hq] at hA hfd hsz;have HX:Hid (ans=q):=by unfold Hid; rw [HV.out,if_neg hs,hfd]; rfl
   have c0:w1.cell? ⟨b,off+i*5,none⟩=some (.int .i64 q.proto):=hA 0 _ rfl;have c1:w1.cell? ⟨b,off+i*5+1,none⟩=some (.string q.inn):=hA 1 _ rfl;have c2:w1.cell? ⟨b,off+i*5+2,none⟩=some (.int .i64 q.inPort):=hA 2 _ rfl;have c3:w1.cell? ⟨b,off+i*5+3,none⟩=some (.string q.out):=hA 3 _ rfl;have c4:w1.cell? ⟨b,off+i*5+4,none⟩=some (.int .i64 q.outPort):=hA 4 _ rfl;have HCY:Hid (∀ W,Calls Tryz.prog 26 #[.agg #[.int .i64 q.proto,.string q.inn,.int .i64 q.inPort,.string q.out,.int .i64 q.outPort]] W fun e w'=>e=.returned (.agg #[.int .i64 q.proto,.string q.inn,.int .i64 q.inPort,.string q.out,.int .i64 q.outPort])∧Below W.heap.size W w'):=fun W=>copyBind_any q W hsz.1 hsz.2
   clear hA hat hq hfd hsz HAT HNO HFO HV z0 z1 z2 z3 z4 y0 y1 y2 y3 y4;have hiI:(i:Int) < (xs.length:Int):=by omega
   go_wp2_with fail
   refine (HCY.out _).mono ?_;rintro e w3 ⟨rfl,q3⟩;have B3:Hid (Below w.heap.size w w3):=B1.out.trans (q3.mono B1.out.size);have K4:Hid _:=K3.out.kept (by simp) q3;obtain ⟨y0,y1,y2,y3,y4⟩:=K4.out.f5;obtain ⟨z0,z1,z2,z3,z4⟩:=K4.out.c5;clear q3 c0 c1 c2 c3 c4;go_wp2_with fail
   refine bodyPost_ret (v:=.agg #[.int .i64 q.proto,.string q.inn,.int .i64 q.inPort,.string q.out,.int .i64 q.outPort]) (by simp [results,Tryz.results34,go_sem,z0,z1,z2,z3,z4]) rfl (And.intro (congrArg (fun x=>Ending.returned (bdC x)) HX.out.symm) ?_);exact (((((B3.out.setCell (p:=⟨w.heap.size+1+1,0,none⟩) hRw _).setCell (p:=⟨w.heap.size+1+1,1,none⟩) hRw _).setCell (p:=⟨w.heap.size+1+1,2,none⟩) hRw _).setCell (p:=⟨w.heap.size+1+1,3,none⟩) hRw _).setCell (p:=⟨w.heap.size+1+1,4,none⟩) hRw _)
theorem implBindOf_any (xs:List Bd) (proto:Int) (s:ByteArray) (port:Int) (a:Option Addr) (cap:Nat) (sv:Value) (hsv:sv.oneCell'=true) (w:World) (hin:BdsIn xs) (hr:SlIs bdL 5 w a xs) :
  Calls Tryz.prog 9 #[.agg #[.slice a xs.length cap,sv],.int .i64 proto,.string s,.int .i64 port] w fun e w'=>e=.returned (bdC (bindV (ofIn proto s port) xs s))∧Below w.heap.size w w':=by
 have hR:∀ W,Below w.heap.size w W→Calls Tryz.prog 34 #[.slice a xs.length cap,.func (.func 35) #[] #[],.agg #[.int .i64 proto,.string s,.int .i64 port]] W fun e w'=>e=.returned (bdC (bindV (ofIn proto s port) xs s))∧Below W.heap.size W w':=fun W hW=>by
  have h:=firstBind_any hostE 35 (fun args W=>by kernel_rfl) ⟨proto,s,port⟩ xs a cap W (fun q W=>hostEnd_any q W) hin (hr.below hW);rw [show (fun q=>sameEn (hostE q) ⟨proto,s,port⟩)=ofIn proto s port from funext fun q=>host_in proto s port q] at h;exact h
 have HR:Hid _:=hR;have HB:Hid (Below w.heap.size w ((w.alloc (.cells #[.slice a xs.length cap,sv] 31)).alloc (.cells #[.int .i64 0,.string ⟨#[]⟩,.int .i64 0,.string ⟨#[]⟩,.int .i64 0] 37))):=((Below.refl _ _).alloc (Nat.le_refl _) _).alloc (by simp) _;have HK:Hid (HoldsL ((w.alloc (.cells #[.slice a xs.length cap,sv] 31)).alloc (.cells #[.int .i64 0,.string ⟨#[]⟩,.int .i64 0,.string ⟨#[]⟩,.int .i64 0] 37)) w.heap.size [.slice a xs.length cap,sv]):=(HoldsL.new w _ _).alloc _;have HK3:Hid (HoldsL ((w.alloc (.cells #[.slice a xs.length cap,sv] 31)).alloc (.cells #[.int .i64 0,.string ⟨#[]⟩,.int .i64 0,.string ⟨#[]⟩,.int .i64 0] 37)) (w.heap.size+1) [.int .i64 0,.string ⟨#[]⟩,.int .i64 0,.string ⟨#[]⟩,.int .i64 0]):=by
  have h:=HoldsL.new (w.alloc (.cells #[.slice a xs.length cap,sv] 31)) [.int .i64 0,.string ⟨#[]⟩,.int .i64 0,.string ⟨#[]⟩,.int .i64 0] 37;rw [World.size_alloc] at h; exact h
 generalize bindV (ofIn proto s port) xs s=ans at *;unfold bdC at HR;clear hin hr hR;go_enter Tryz.func9,Tryz.ntmps9
 go_upto_region 1 with fail
 generalize (w.alloc (.cells #[.slice a xs.length cap,sv] 31)).alloc (.cells #[.int .i64 0,.string ⟨#[]⟩,.int .i64 0,.string ⟨#[]⟩,.int .i64 0] 37)=W at *;have k0:=HK.out.cell (j:=0) rfl;go_wp2_with fail
 refine (HR.out _ HB.out).mono ?_;rintro e w1 ⟨rfl,q1⟩;have B1:Hid (Below w.heap.size w w1):=HB.out.trans (q1.mono HB.out.size);have K3:Hid _:=HK3.out.kept (by simp) q1;have hRw:w.heap.size≤w.heap.size+1:=by omega
 obtain ⟨y0,y1,y2,y3,y4⟩:=K3.out.f5;obtain ⟨z0,z1,z2,z3,z4⟩:=K3.out.c5;clear q1 k0 HK HK3 HB HR;go_wp2_with fail
 refine bodyPost_ret (v:=.agg #[.int .i64 ans.proto,.string ans.inn,.int .i64 ans.inPort,.string ans.out,.int .i64 ans.outPort]) (by simp [results,Tryz.results9,go_sem,z0,z1,z2,z3,z4]) rfl ⟨rfl,?_⟩;exact (((((B1.out.setCell (p:=⟨w.heap.size+1,0,none⟩) hRw _).setCell (p:=⟨w.heap.size+1,1,none⟩) hRw _).setCell (p:=⟨w.heap.size+1,2,none⟩) hRw _).setCell (p:=⟨w.heap.size+1,3,none⟩) hRw _).setCell (p:=⟨w.heap.size+1,4,none⟩) hRw _)
theorem implBindAt_any (xs:List Bd) (proto:Int) (s:ByteArray) (port:Int) (a:Option Addr) (cap:Nat) (sv:Value) (hsv:sv.oneCell'=true) (w:World) (hin:BdsIn xs) (hr:SlIs bdL 5 w a xs) :
  Calls Tryz.prog 10 #[.agg #[.slice a xs.length cap,sv],.int .i64 proto,.string s,.int .i64 port] w fun e w'=>e=.returned (bdC (bindV (ofOut proto s port) xs s))∧Below w.heap.size w w':=by
 have hR:∀ W,Below w.heap.size w W→Calls Tryz.prog 34 #[.slice a xs.length cap,.func (.func 36) #[] #[],.agg #[.int .i64 proto,.string s,.int .i64 port]] W fun e w'=>e=.returned (bdC (bindV (ofOut proto s port) xs s))∧Below W.heap.size W w':=fun W hW=>by
  have h:=firstBind_any lentE 36 (fun args W=>by kernel_rfl) ⟨proto,s,port⟩ xs a cap W (fun q W=>lentEnd_any q W) hin (hr.below hW);rw [show (fun q=>sameEn (lentE q) ⟨proto,s,port⟩)=ofOut proto s port from funext fun q=>lent_out proto s port q] at h;exact h
 have HR:Hid _:=hR;have HB:Hid (Below w.heap.size w ((w.alloc (.cells #[.slice a xs.length cap,sv] 31)).alloc (.cells #[.int .i64 0,.string ⟨#[]⟩,.int .i64 0,.string ⟨#[]⟩,.int .i64 0] 37))):=((Below.refl _ _).alloc (Nat.le_refl _) _).alloc (by simp) _;have HK:Hid (HoldsL ((w.alloc (.cells #[.slice a xs.length cap,sv] 31)).alloc (.cells #[.int .i64 0,.string ⟨#[]⟩,.int .i64 0,.string ⟨#[]⟩,.int .i64 0] 37)) w.heap.size [.slice a xs.length cap,sv]):=(HoldsL.new w _ _).alloc _;have HK3:Hid (HoldsL ((w.alloc (.cells #[.slice a xs.length cap,sv] 31)).alloc (.cells #[.int .i64 0,.string ⟨#[]⟩,.int .i64 0,.string ⟨#[]⟩,.int .i64 0] 37)) (w.heap.size+1) [.int .i64 0,.string ⟨#[]⟩,.int .i64 0,.string ⟨#[]⟩,.int .i64 0]):=by
  have h:=HoldsL.new (w.alloc (.cells #[.slice a xs.length cap,sv] 31)) [.int .i64 0,.string ⟨#[]⟩,.int .i64 0,.string ⟨#[]⟩,.int .i64 0] 37;rw [World.size_alloc] at h; exact h
 generalize bindV (ofOut proto s port) xs s=ans at *;unfold bdC at HR;clear hin hr hR;go_enter Tryz.func10,Tryz.ntmps10
 go_upto_region 1 with fail
 generalize (w.alloc (.cells #[.slice a xs.length cap,sv] 31)).alloc (.cells #[.int .i64 0,.string ⟨#[]⟩,.int .i64 0,.string ⟨#[]⟩,.int .i64 0] 37)=W at *;have k0:=HK.out.cell (j:=0) rfl;go_wp2_with fail
 refine (HR.out _ HB.out).mono ?_;rintro e w1 ⟨rfl,q1⟩;have B1:Hid (Below w.heap.size w w1):=HB.out.trans (q1.mono HB.out.size);have K3:Hid _:=HK3.out.kept (by simp) q1;have hRw:w.heap.size≤w.heap.size+1:=by omega
 obtain ⟨y0,y1,y2,y3,y4⟩:=K3.out.f5;obtain ⟨z0,z1,z2,z3,z4⟩:=K3.out.c5;clear q1 k0 HK HK3 HB HR;go_wp2_with fail
 refine bodyPost_ret (v:=.agg #[.int .i64 ans.proto,.string ans.inn,.int .i64 ans.inPort,.string ans.out,.int .i64 ans.outPort]) (by simp [results,Tryz.results10,go_sem,z0,z1,z2,z3,z4]) rfl ⟨rfl,?_⟩;exact (((((B1.out.setCell (p:=⟨w.heap.size+1,0,none⟩) hRw _).setCell (p:=⟨w.heap.size+1,1,none⟩) hRw _).setCell (p:=⟨w.heap.size+1,2,none⟩) hRw _).setCell (p:=⟨w.heap.size+1,3,none⟩) hRw _).setCell (p:=⟨w.heap.size+1,4,none⟩) hRw _)
end Go.Proofs.YtjpdljkjalnmhaaGreatDoor
