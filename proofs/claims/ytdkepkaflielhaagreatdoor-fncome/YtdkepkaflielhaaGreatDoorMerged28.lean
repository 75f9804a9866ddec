import Derived.Test.YtdkepkaflielhaaGreatDoorMerged27
set_option linter.unusedVariables false
set_option linter.unusedSimpArgs false
set_option maxRecDepth 100000
set_option maxHeartbeats 8000000
namespace Go.Proofs.YtdkepkaflielhaaGreatDoor
open Go.RowKit Go.PlainAid
theorem Bxs.setHead {w0 W:World} {ks:List (Nat × List Value)} {C:Nat} {v:Value} (h:Bxs w0 ((C,[v])::ks) W) (hC:w0.heap.size≤C) (hks:∀ e∈ks,e.1≠C) (u:Value):Bxs w0 ((C,[u])::ks) (W.setCell ⟨C,0,none⟩ u) :=
 ⟨fun e he=>by
  rcases List.mem_cons.1 he with rfl | he
  ·exact (h.k _ mE0).set 0 u
  ·exact HoldsL.setOther (h.k e (.tail _ he)) (hks e he) u,h.b.setCell (p:=⟨C,0,none⟩) hC u,fun e he=>by
  rcases List.mem_cons.1 he with rfl | he
  ·exact Nat.zero_lt_one
  ·exact h.z e (.tail _ he)⟩
theorem Bxs.tl {w0 W:World} {k:Nat × List Value} {ks:List (Nat × List Value)} (h:Bxs w0 (k::ks) W):Bxs w0 ks W:=⟨fun e he=>h.k e (.tail _ he),h.b,fun e he=>h.z e (.tail _ he)⟩
theorem ipMTurn_any (ta tb:ByteArray) (c:Int) (C:Nat) (ks:List (Nat × List Value)) (w0 w:World) (ha:ta.size≤1048576) (hb':tb.size≤1048576) (hc:0≤c∧c≤65535) (hC:w0.heap.size≤C) (hks:∀ e∈ks,e.1≠C) (h:Bxs w0 ((C,[iV c])::ks) w) :
  Calls Tryz.prog 174 #[.pointer (some ⟨C,0,none⟩),.agg #[.string ta,.string tb]] w fun e w'=>e=.returned (.tuple #[])∧Bxs w0 ((C,[iV (turn1 c (sumV ta) (sumV tb))])::ks) w':=by
 have HA:Hid (∀ W,Cb 170 #[.string ta] W (iV (sumV ta))):=fun W=>(sumOfS_any ta W (by omega)).mono fun e w' h=>⟨h.1,by rw [h.2]; exact Below.refl _ _⟩
 have HB:Hid (∀ W,Cb 170 #[.string tb] W (iV (sumV tb))):=fun W=>(sumOfS_any tb W (by omega)).mono fun e w' h=>⟨h.1,by rw [h.2]; exact Below.refl _ _⟩
 have HT:Hid (∀ W,Cb 184 #[iV c,iV (sumV ta),iV (sumV tb)] W (iV (turn1 c (sumV ta) (sumV tb)))):=fun W=>(implSumTurn_any c (sumV ta) (sumV tb) W).mono fun e w' h=>⟨by rw [h.1,turnV_of hc (sumV_range ta) (sumV_range tb)],h.2⟩
 have hlt:C < w.heap.size:=(h.k _ mE0).lt (by simp);have HS0:Hid (Bxs w0 ((w.heap.size,[.string ta,.string tb])::(C,[iV c])::ks) (w.alloc (.cells #[.string ta,.string tb] 195))):=h.push [.string ta,.string tb] (by simp) _;have HKS:Hid (∀ e∈ks,e.1≠C):=hks;generalize sumV ta=sa at *;generalize sumV tb=sb at *;generalize turn1 c sa sb=tc at *;clear h hks;go_enter Tryz.func174,Tryz.ntmps174
 go_upto_region 1 with fail
 generalize (w.alloc (.cells #[.string ta,.string tb] 195))=W1 at *;generalize w.heap.size=P at *;have HCP:Hid (∀ wy,Below W1.drew.heap.size W1.drew wy→_):=fun wy hy=>HS0.out.kept (bR.drew.trans hy)
 clear HS0;refine wp_region_growV [4,5,6,7,8,9,10,11,12,13,14,15,16,17] (by kernel_rfl) (by kernel_rfl) ?_;iterate 10 (apply GChV.u rfl;(·intro K' a wy ho hd hb hK;simp [rAt,IsV,slot,Region.binds] at ho hd;have hst:=HCP.out wy hb;have HHp:=hst.at mE0;have HHc:=hst.at mE1;have kC:=HHp.c2;have c0:=HHc.cell (j:=0) rfl;clear hst HHp HHc;go_simp;first|((try go_bits);exact hK _ _ rfl bQ)|(refine (HA.out wy).mono ?_;rintro e wz ⟨rfl,hz⟩;exact hK _ _ rfl hz));dsimp only [nA,cA])
 (apply GChV.u rfl;(·intro K' a wy ho hd hb hK;simp [rAt,IsV,slot,Region.binds] at ho hd;go_simp;refine (HB.out wy).mono ?_;rintro e wz ⟨rfl,hz⟩;exact hK _ _ rfl hz);dsimp only [nA,cA])
 iterate 3 (apply GChV.u rfl;(·intro K' a wy ho hd hb hK;simp [rAt,IsV,slot,Region.binds] at ho hd;go_simp;first|((try go_bits);exact hK _ _ rfl bQ)|(refine (HT.out wy).mono ?_;rintro e wz ⟨rfl,hz⟩;exact hK _ _ rfl hz));dsimp only [nA,cA])
 intro X wz hR hz;simp only [List.nil_append,List.cons_append,RAll,IsV] at hR;simp only [putsFrom,hR];clear hR;have hst:=HCP.out wz hz;have HF:Hid (Bxs w0 ((C,[iV tc])::ks) (wz.setCell ⟨C,0,none⟩ (iV tc))):=hst.tl.setHead hC HKS.out _;have HHc:=hst.at mE1;have c0:=HHc.cell (j:=0) rfl;have f0:=HHc.free (j:=0) (by simp);clear hst HHc HCP HKS;intro K10 hK10;go_simp;refine hK10 _ _ ?_;simp only [wpSeq];go_end0
 exact ⟨rfl,HF.out⟩
theorem ipEach_any (a b a' b':ByteArray) (c:Int) (C R:Nat) (ks:List (Nat × List Value)) (w0 w:World) (ha:a.size≤1048576) (hb:b.size≤1048576) (ha':a'.size≤1048576) (hb':b'.size≤1048576) (hc:0≤c∧c≤65535) (hC:w0.heap.size≤C) (hR:R≠C) (hks:∀ e∈ks,e.1≠C) (h:Bxs w0 ((C,[iV c])::(R,[.string a,.string b,.string a',.string b'])::ks) w) :
  Calls Tryz.prog 173 #[.func (.func 174) #[.pointer (some ⟨C,0,none⟩)] #[],.slice (some ⟨R,0,none⟩) 2 2] w fun e w'=>e=.returned (.tuple #[])∧Bxs w0 ((C,[iV (turn1 (turn1 c (sumV a) (sumV b)) (sumV a') (sumV b'))])::(R,[.string a,.string b,.string a',.string b'])::ks) w':=by
 have r1:=turn1_range hc (sumV_range a) (sumV_range b);have HKR:Hid (∀ e∈(R,[Value.string a,.string b,.string a',.string b'])::ks,e.1≠C):=fun e he=>by
  rcases List.mem_cons.1 he with rfl | he
  ·exact hR
  ·exact hks e he
 have H1:Hid (∀ W ls,(∀ e∈ls,e.1≠C)→Bxs w0 ((C,[iV c])::ls) W→Calls Tryz.prog 174 #[.pointer (some ⟨C,0,none⟩),.agg #[.string a,.string b]] W fun e w'=>e=.returned (.tuple #[])∧Bxs w0 ((C,[iV (turn1 c (sumV a) (sumV b))])::ls) w'):=fun W ls hl hW=>ipMTurn_any a b c C ls w0 W ha hb hc hC hl hW
 have H2:Hid (∀ W ls,(∀ e∈ls,e.1≠C)→Bxs w0 ((C,[iV (turn1 c (sumV a) (sumV b))])::ls) W→Calls Tryz.prog 174 #[.pointer (some ⟨C,0,none⟩),.agg #[.string a',.string b']] W fun e w'=>e=.returned (.tuple #[])∧Bxs w0 ((C,[iV (turn1 (turn1 c (sumV a) (sumV b)) (sumV a') (sumV b'))])::ls) w'):=fun W ls hl hW=>ipMTurn_any a' b' _ C ls w0 W ha' hb' r1 hC hl hW
 have HS0:Hid _:=h;generalize turn1 (turn1 c (sumV a) (sumV b)) (sumV a') (sumV b')=c2 at *;generalize turn1 c (sumV a) (sumV b)=c1 at *;clear h hks r1 ha hb ha' hb' hc;go_enter Tryz.func173,Tryz.ntmps173
 go_wp2_with fail
 go_loopw [8] (fun i wr=>∃ k:Nat,k≤2∧i=iV k∧Bxs w0 ((C,[iV (if k=0 then c else if k=1 then c1 else c2)])::(R,[.string a,.string b,.string a',.string b'])::ks) wr) (fun i _=>2-(intOf i).toNat)
 case atStart=>exact ⟨0,by omega,rfl,HS0.out⟩
 case round =>
  obtain ⟨k,hk,rfl,hst⟩:=hrel;clear HS0;match k,hk with
  | 0,_ =>
   have S1:Hid (Bxs w0 ((C,[iV c])::(R,[.string a,.string b,.string a',.string b'])::ks) wr):=hst;have HHr:=S1.out.at mE1;obtain ⟨q0,q1⟩:=HHr.c2;clear HHr hst;have B1:Hid (Below wr.heap.size wr (wr.alloc (.cells #[.string a,.string b] 195))):=bR.alloc lR _;go_wp2_with fail
   refine (H1.out _ _ HKR.out (S1.out.kept B1.out)).mono ?_;rintro e w2 ⟨rfl,hb2⟩;have S2:Hid _:=hb2;clear hb2 S1 B1;go_wp2_with fail
   go_roundw
   case rel=>exact ⟨1,by omega,by go_num,S2.out⟩
   case measure=>simp [intOf]
  | 1,_ =>
   have S1:Hid (Bxs w0 ((C,[iV c1])::(R,[.string a,.string b,.string a',.string b'])::ks) wr):=hst;have HHr:=S1.out.at mE1;obtain ⟨-,-,q2,q3⟩:=HHr.c4;clear HHr hst;have B1:Hid (Below wr.heap.size wr (wr.alloc (.cells #[.string a',.string b'] 195))):=bR.alloc lR _;go_wp2_with fail
   refine (H2.out _ _ HKR.out (S1.out.kept B1.out)).mono ?_;rintro e w2 ⟨rfl,hb2⟩;have S2:Hid _:=hb2;clear hb2 S1 B1;go_wp2_with fail
   go_roundw
   case rel=>exact ⟨2,by omega,by go_num,S2.out⟩
   case measure=>simp [intOf]
  | 2,_ =>
   have S1:Hid (Bxs w0 ((C,[iV c2])::(R,[.string a,.string b,.string a',.string b'])::ks) wr):=hst;clear hst;go_wp2_with fail
   go_end0
   exact ⟨rfl,S1.out⟩
def IsPr (base:Nat) (vs:List Value):Value→World→Prop:=fun v w=>∃ b,v=.slice (some ⟨b,0,none⟩) 2 2∧base≤b∧HoldsL w b vs
theorem stable_isPr (base:Nat) (vs:List Value) (h:0 < vs.length):Stable (IsPr base vs):=fun v w w' ⟨b,h1,h2,h3⟩ hb=>⟨b,h1,h2,h3.kept h hb⟩
theorem checkP_lt {p:Int} {n:Nat} (h8:8≤n) (hp:p=6→20≤n):checkP p < n:=by
 unfold checkP;split
 ·rename_i h; have:=hp h; omega
 ·split<;>omega
theorem ipCheck_any (f g:Fl) (t u:ByteArray) (w:World) (h8:8≤t.size) (ht:t.size≤65535) (hp:f.proto=6→20≤t.size) (u8:8≤u.size) (hu:u.size≤65535) (fs:f.src.size=4∨f.src.size=16) (fd:f.dst.size≤16) (fp:0≤f.proto∧f.proto≤255) (gs:g.src.size=4∨g.src.size=16) (gd:g.dst.size≤16) (gp:0≤g.proto∧g.proto≤255) :
  Cb 155 #[fwC f,fwC g,.string t,.string u] w (iV (checkI f g t u)):=by
 have HPl:Hid (∀ W,Cw 153 #[iV f.proto] W (iV (checkP f.proto:Nat))):=fun W=>ipPlace_any _ W
 have HWd:Hid (∀ W,Cw 131 #[.string t,iV (checkP f.proto:Nat)] W (iV (wordN (bt t) (checkP f.proto)))):=fun W=>wordFromS_any t _ W (checkP_lt h8 hp) (by unfold maxLen; omega)
 have HP1:Hid (∀ W,Cb 175 #[iV f.proto,.string t] W (.string (setPartV f.proto t))):=fun W=>ipSetPart_any _ t W h8 (by omega)
 have HP2:Hid (∀ W,Cb 175 #[iV g.proto,.string u] W (.string (setPartV g.proto u))):=fun W=>ipSetPart_any _ u W u8 (by omega)
 have HH1:Hid (∀ W,Cb 176 #[.string f.src,.string f.dst,iV f.proto,iV t.size] W (.string (pseudoV f.src f.dst f.proto t.size))):=fun W=>ipPseudo_any _ _ _ _ W fs fd fp ht
 have HH2:Hid (∀ W,Cb 176 #[.string g.src,.string g.dst,iV g.proto,iV u.size] W (.string (pseudoV g.src g.dst g.proto u.size))):=fun W=>ipPseudo_any _ _ _ _ W gs gd gp hu
 have s1:=setPartV_size f.proto h8;have s2:=setPartV_size g.proto u8;have s3:=pseudoV_size f.src f.dst f.proto t.size (by omega) fd;have s4:=pseudoV_size g.src g.dst g.proto u.size (by omega) gd;have rc:=wordN_range (bt_isByte t) (checkP f.proto);have HV:Hid (checkI f g t u=if turn1 (turn1 (wordN (bt t) (checkP f.proto)) (sumV (setPartV f.proto t)) (sumV (setPartV g.proto u))) (sumV (pseudoV f.src f.dst f.proto t.size)) (sumV (pseudoV g.src g.dst g.proto u.size))=0 then 65535 else turn1 (turn1 (wordN (bt t) (checkP f.proto)) (sumV (setPartV f.proto t)) (sumV (setPartV g.proto u))) (sumV (pseudoV f.src f.dst f.proto t.size)) (sumV (pseudoV g.src g.dst g.proto u.size))):=rfl;have HEa:Hid (∀ C R ks W,w.heap.size≤C→R≠C→(∀ e∈ks,e.1≠C)→Bxs w ((C,[iV (wordN (bt t) (checkP f.proto))])::(R,[.string (setPartV f.proto t),.string (setPartV g.proto u),.string (pseudoV f.src f.dst f.proto t.size),.string (pseudoV g.src g.dst g.proto u.size)])::ks) W→Calls Tryz.prog 173 #[.func (.func 174) #[.pointer (some ⟨C,0,none⟩)] #[],.slice (some ⟨R,0,none⟩) 2 2] W fun e w'=>e=.returned (.tuple #[])∧Bxs w ((C,[iV (turn1 (turn1 (wordN (bt t) (checkP f.proto)) (sumV (setPartV f.proto t)) (sumV (setPartV g.proto u))) (sumV (pseudoV f.src f.dst f.proto t.size)) (sumV (pseudoV g.src g.dst g.proto u.size)))])::(R,[.string (setPartV f.proto t),.string (setPartV g.proto u),.string (pseudoV f.src f.dst f.proto t.size),.string (pseudoV g.src g.dst g.proto u.size)])::ks) w'):=fun C R ks W h1 h2 h3 h4=>ipEach_any _ _ _ _ _ C R ks w W (by omega) (by omega) (by omega) (by omega) rc h1 h2 h3 h4
 generalize turn1 (turn1 (wordN (bt t) (checkP f.proto)) (sumV (setPartV f.proto t)) (sumV (setPartV g.proto u))) (sumV (pseudoV f.src f.dst f.proto t.size)) (sumV (pseudoV g.src g.dst g.proto u.size))=c2 at *;generalize checkI f g t u=ans at *;obtain ⟨c,hc⟩ : ∃ c,c=wordN (bt t) (checkP f.proto):=⟨_,rfl⟩;rw [← hc] at HWd HEa;generalize setPartV f.proto t=p1 at *;generalize setPartV g.proto u=p2 at *;generalize pseudoV f.src f.dst f.proto t.size=p3 at *;generalize pseudoV g.src g.dst g.proto u.size=p4 at *;generalize (checkP f.proto)=pl at *;clear hc rc fs fd fp gs gd gp s1 s2 s3 s4 hp;obtain ⟨proto,src,dst,sp,dp⟩:=f;obtain ⟨proto',src',dst',sp',dp'⟩:=g;unfold fwC;dsimp only at *;have HS0:=bx2 w (FlR proto src dst sp dp) 43 (FlR proto' src' dst' sp' dp') 43 (by simp) (by simp)
 skip;go_enter Tryz.func155,Tryz.ntmps155
 go_upto_region 1 with fail
 generalize World.alloc _ _=W0 at *;have HHk:=HS0.out.at mE0;obtain ⟨k0,k1,k2,k3,k4⟩:=HHk.c5;clear HHk;have hw0:w.heap.size≤W0.heap.size:=HS0.out.b.size;have hf0:w.heap.size < W0.heap.size:=(HS0.out.k _ mE0).lt (by simp);have hg0:w.heap.size+1 < W0.heap.size:=(HS0.out.k _ mE1).lt (by simp);have HS1:Hid (Bxs w ((W0.heap.size,[iV c])::[(w.heap.size,(FlR proto src dst sp dp)),(w.heap.size+1,(FlR proto' src' dst' sp' dp'))]) (W0.alloc (.cells #[iV c] 190))):=HS0.out.push [iV c] (by simp) _;go_upto_region 2 with (first | (go_at_call 153; refine (HPl.out _).mono ?_; rintro e W0 ⟨rfl,rfl⟩) | (go_at_call 131; refine (HWd.out _).mono ?_; rintro e W0 ⟨rfl,rfl⟩))
 clear HS0 HPl HWd k0 k1 k2 k3 k4;generalize (W0.alloc (.cells #[iV c] 190))=W1 at *;generalize W0.heap.size=C at *;have hcl:C < W1.heap.size:=(HS1.out.k _ mE0).lt (by simp);go_cut [46] (fun v wx=>Bxs w [(C,[iV c2])] wx)
 case first =>
  rename_i J K2 hJ hK2;have HCP:Hid (∀ wy,Below W1.drew.heap.size W1.drew wy→_):=fun wy hy=>HS1.out.kept (bR.drew.trans hy)
  clear HS1 HV;refine wp_region_growV [16,17,18,19,20,21,22,23,24,25,26,27,28,29,30,31,32,33,34,35,36,37,38,39,40,41,42,43,44,45] (by kernel_rfl) (by kernel_rfl) ?_;iterate 8 (apply GChV.u rfl;(·intro K' a wy ho hd hb hK;simp [rAt,IsV,slot,Region.binds] at ho hd;have hst:=HCP.out wy hb;have kC:=(hst.at mE1).c3;have kC:=(hst.at mE2).c3;clear hst;go_simp;first|((try go_bits);exact hK _ _ rfl bQ)|(refine (HP1.out wy).mono ?_;rintro e wz ⟨rfl,hz⟩;exact hK _ _ rfl hz));dsimp only [nA,cA])
  iterate 10 (apply GChV.u rfl;(·intro K' a wy ho hd hb hK;simp [rAt,IsV,slot,Region.binds] at ho hd;have hst:=HCP.out wy hb;have kC:=(hst.at mE1).c3;have kC:=(hst.at mE2).c3;clear hst;go_simp;first|((try go_bits);exact hK _ _ rfl bQ)|(refine (HP2.out wy).mono ?_;rintro e wz ⟨rfl,hz⟩;exact hK _ _ rfl hz));dsimp only [nA,cA])
  iterate 9 (apply GChV.u rfl;(·intro K' a wy ho hd hb hK;simp [rAt,IsV,slot,Region.binds] at ho hd;have hst:=HCP.out wy hb;have kC:=(hst.at mE1).c3;have kC:=(hst.at mE2).c3;clear hst;go_simp;first|((try go_bits);exact hK _ _ rfl bQ)|(refine (HH1.out wy).mono ?_;rintro e wz ⟨rfl,hz⟩;exact hK _ _ rfl hz));dsimp only [nA,cA])
  iterate 2 (apply GChV.u rfl;(·intro K' a wy ho hd hb hK;simp [rAt,IsV,slot,Region.binds] at ho hd;go_simp;first|((try go_bits);exact hK _ _ rfl bQ)|(refine (HH2.out wy).mono ?_;rintro e wz ⟨rfl,hz⟩;exact hK _ _ rfl hz));dsimp only [nA,cA])
  refine GChV.rel (n:=29) (IsPr W1.drew.heap.size [.string p1,.string p2,.string p3,.string p4]) (stable_isPr _ _ (by simp)) [_,_,_,_,_,_,_,_,_,_,_,_,_,_,_,_,_,_,_,_,_,_,_,_,_,_,_,_,_,IsPr W1.drew.heap.size [.string p1,.string p2,.string p3,.string p4]] rfl rfl ?_ ?_
  ·intro K' a wy ho hd hb hK;rw [wN rfl];have q9:=hd ⟨9,.data⟩ (by simp) rfl;have q28:=hd ⟨28,.data⟩ (by simp) rfl;simp [rAt,IsV,slot] at q9 q28;clear hd ho;go_simp;exact hK _ _ ⟨wy.heap.size,rfl,hb.size,HoldsL.new wy [.string p1,.string p2,.string p3,.string p4] 195⟩ (bR.alloc lR _)
  intro X wz hR hz;obtain ⟨x0,x1,x2,x3,x4,x5,x6,x7,x8,x9,x10,x11,x12,x13,x14,x15,x16,x17,x18,x19,x20,x21,x22,x23,x24,x25,x26,x27,x28,x29,-⟩:=hR;obtain ⟨R,e29,b29,h29⟩:=x29;simp only [IsV] at x0 x1 x2 x3 x4 x5 x6 x7 x8 x9 x10 x11 x12 x13 x14 x15 x16 x17 x18 x19 x20 x21 x22 x23 x24 x25 x26 x27 x28;simp only [putsFrom,x0,x1,x2,x3,x4,x5,x6,x7,x8,x9,x10,x11,x12,x13,x14,x15,x16,x17,x18,x19,x20,x21,x22,x23,x24,x25,x26,x27,x28,e29];clear x0 x1 x2 x3 x4 x5 x6 x7 x8 x9 x10 x11 x12 x13 x14 x15 x16 x17 x18 x19 x20 x21 x22 x23 x24 x25 x26 x27 x28;have hst:=HCP.out wz hz;have hRC:R≠C:=by
   have:C < W1.drew.heap.size:=hcl;omega
  have HB5:Hid (Bxs w ((C,[iV c])::(R,[.string p1,.string p2,.string p3,.string p4])::[(w.heap.size,(FlR proto src dst sp dp)),(w.heap.size+1,(FlR proto' src' dst' sp' dp'))]) wz):=(hst.tl.cons h29 (by simp)).cons (hst.k _ mE0) (by simp);have HKS:Hid (∀ e∈([(w.heap.size,(FlR proto src dst sp dp)),(w.heap.size+1,(FlR proto' src' dst' sp' dp'))]:List (Nat × List Value)),e.1≠C):=fun e he=>by
   simp only [List.mem_cons,List.not_mem_nil,or_false] at he;rcases he with rfl | rfl<;>(show _≠C; omega)
  clear hst h29 HCP HP1 HP2 HH1 HH2;intro K10 hK10;go_simp;refine (HEa.out C R _ wz hw0 hRC HKS.out HB5.out).mono ?_;rintro e w5 ⟨rfl,hb5⟩;have HF:Hid (Bxs w [(C,[iV c2])] w5):=⟨fun e he=>by
   rw [List.mem_singleton] at he;rw [he]; exact hb5.k _ mE0,hb5.b,fun e he=>by
   rw [List.mem_singleton] at he;rw [he]; simp⟩
  clear hb5 HB5 HKS HEa;refine hK10 _ _ ?_;show Exit.then _ _ _ _ _;refine hK2 _ _ (hJ _ _ ?_);(repeat apply Exists.intro)
  exact ⟨HF.out,rfl⟩
 case rest =>
 have S6:Hid (Bxs w [(C,[iV c2])] wc):=hcut;clear hcut HS1 HP1 HP2 HH1 HH2 HEa;generalize wc=W6 at *;have HH6:=S6.out.at mE0;have z0:=HH6.cell (j:=0) rfl;clear HH6;have HFB:Hid (Below w.heap.size w W6):=S6.out.b;clear S6;by_cases h0:c2=0
 case pos =>
  have d0:(c2==0)=true:=by simp [h0]
  have HX:Hid (ans=65535):=by unfold Hid; rw [HV.out,if_pos h0]
  clear h0 HV;go_wp2_with fail
  go_ret;exact ⟨ret_int (by rw [HX.out]),HFB.out⟩
 have d0:(c2==0)=false:=by simp [h0]
 have HX:Hid (ans=c2):=by unfold Hid; rw [HV.out,if_neg h0]
 clear h0 HV;go_wp2_with fail
 go_ret;exact ⟨ret_int (by rw [HX.out]),HFB.out⟩
open Go.Lib
theorem hold_of_bytes {W:World} {b:Nat} {t:ByteArray} (h:Holds W b t.size (bt t)):HoldsL W b (strCells t):=by
 refine ⟨fun j v hv=>?_,fun j hj=>?_⟩
 ·rw [Nat.zero_add];have hj:j < t.size:=by
   have:=(List.getElem?_eq_some_iff.1 hv).1;rwa [strCells_length] at this
  rw [strCells_at t j hj] at hv;injection hv with hv
  rw [← hv]; exact (h.get j hj).1
 ·rw [strCells_length] at hj;rw [Nat.zero_add];exact ⟨by rw [(h.get j hj).1]; rfl,(h.get j hj).2⟩
theorem hold_str {W:World} {b cap:Nat} {t:ByteArray} (h:HoldsL W b (strCells t)):(convert 22 9 (.slice (some ⟨b,0,none⟩) t.size cap)).run Tryz.prog W=.ok (.string t) W:=by
 have hh:Holds W b t.size (bt t):=⟨fun i hi=>⟨hold_bt h i hi,h.free (by rw [strCells_length]; exact hi)⟩⟩;have:=hh.conv (cap:=cap) (bt_isByte t)
 rw [bytesOf_self] at this;exact this
theorem put_split (t:ByteArray) (k n:Nat) (h:k+n≤t.size):t.extract 0 k++t.extract k (k+n)++t.extract (k+n) t.size=t:=by
 refine ba_ext ?_ (fun i hi=>?_)
 ·simp only [ByteArray.size_append,ByteArray.size_extract]; omega
 ·have s1:(t.extract 0 k).size=k:=by rw [ByteArray.size_extract]; omega
  have s2:(t.extract k (k+n)).size=n:=by rw [ByteArray.size_extract]; omega
  simp only [ByteArray.size_append,ByteArray.size_extract] at hi;rw [bt_append,bt_append,ByteArray.size_append,s1,s2];by_cases h1:i < k
  ·rw [if_pos (by omega),if_pos h1,bt_extract _ _ _ _ (by omega),if_pos (by omega),Nat.zero_add]
  ·by_cases h2:i < k+n
   ·rw [if_pos h2,if_neg h1,bt_extract _ _ _ _ (by omega),if_pos (by omega),show k+(i-k)=i by omega]
   ·rw [if_neg h2,bt_extract _ _ _ _ lR,if_pos (by omega),show k+n+(i-(k+n))=i by omega]
theorem lay_put {W:World} {b k:Nat} {t u:ByteArray} (h:HoldsL W b (strCells t)) (hk:k+u.size≤t.size):HoldsL (W.setCells b k (strCells u)) b (strCells (putV t k u)):=by
 rw [← put_split t k u.size hk] at h;exact lay_at h (by rw [ByteArray.size_extract]; omega) (by rw [ByteArray.size_extract]; omega)
theorem run_lay_more {P:Program} {w:World} {g o dCap base e g6:Nat} {t s:ByteArray} (dT sT ty elem:TypeId) (hu:P.underlying dT=some (.slice elem)) (hz:(P.info? elem).map (·.size)=some 1) (h:HoldsL w g (strCells t)) (ho:o+s.size≤t.size) {dLen sLen:Nat} (hd:s.size≤dLen) (hs:sLen=s.size) (hown:w.ownsRow base e 1 (.slice (some ⟨g6,0,none⟩) sLen sLen) sLen (strCells s)) :
  (Builtin.copy_ #[dT,sT] ty #[.slice (some ⟨g,o,none⟩) dLen dCap,.slice (some ⟨g6,0,none⟩) sLen sLen]).run P w=.ok (goInt s.size) (w.setCells g o (strCells s)):=by
 have hl:(strCells t).length=t.size:=strCells_length t;have:=run_copy_cells (P:=P) w dT sT ty elem g o dLen dCap ⟨g6,0,none⟩ sLen sLen (strCells s) hu hz (by rw [strCells_length,hs]; exact (Nat.min_eq_left hd).symm) (fun j v hj=>hown.cells (g:=g6) rfl j v hj) (fun j hj=>by rw [strCells_length] at hj; have:=(h.th (o+j) (by omega)).1; rwa [Nat.zero_add] at this) (fun j hj=>by rw [strCells_length] at hj; have:=(h.th (o+j) (by omega)).2; rwa [Nat.zero_add] at this) (strCells_oneCell _);rw [strCells_length] at this;exact this
theorem cells_one {x:Int} (h:0≤x∧x≤255):strCells (oneV x)=[.int .u8 x]:=by
 unfold strCells oneV;simp;omega
theorem lay_first {W:World} {b:Nat} {t:ByteArray} {x:Int} (h:HoldsL W b (strCells t)) (hx:0≤x∧x≤255) (ht:1≤t.size):HoldsL (W.setCell ⟨b,0,none⟩ (.int .u8 x)) b (strCells (putV t 0 (oneV x))):=by
 have e:strCells (putV t 0 (oneV x))=(strCells t).set 0 (.int .u8 x):=by
  have hs:=put_split t 0 1 (by omega);have h0:(strCells (t.extract 0 0))=[]:=by
   apply List.eq_nil_of_length_eq_zero;rw [strCells_length,ByteArray.size_extract]; omega
  have h1:(strCells (t.extract 0 (0+1))).length=1:=by rw [strCells_length,ByteArray.size_extract]; omega
  obtain ⟨y,hy⟩:=List.length_eq_one_iff.1 h1;have ht2:strCells t=y::strCells (t.extract (0+1) t.size):=by
   conv=>lhs; rw [← hs]
   rw [strCells_append,strCells_append,h0,hy]; rfl
  unfold putV;rw [strCells_append,strCells_append,h0,cells_one hx,ht2];rfl
 rw [e];exact h.set 0 _
theorem ask_byte (p:Int):0≤askP p∧askP p≤255:=by unfold askP; split<;>omega
theorem ans_byte (p:Int):0≤ansP p∧ansP p≤255:=by unfold ansP; split<;>omega
def LayRet (base:Nat) (n:Nat) (u:ByteArray) (e:Ending) (w':World):Prop:=∃ b cap,e=.returned (.slice (some ⟨b,0,none⟩) n cap)∧n≤cap∧base≤b∧HoldsL w' b (strCells u)
theorem ipLay_any (p:Int) (g:Fl) (t:ByteArray) (w:World) (h8:8≤t.size) (ht:t.size≤20000) (gw:(0≤g.sp∧g.sp≤65535)∧(0≤g.dp∧g.dp≤65535)) (hp:echoP g.proto=true→echoP p=true) :
  Calls Tryz.prog 152 #[iV p,fwC g,.string t] w fun e w'=>LayRet w.heap.size t.size (layV p g t) e w'∧Below w.heap.size w w':=by
 have HE:Hid (∀ W,Cw 100 #[iV g.proto] W (.bool (echoP g.proto))):=fun W=>implEcho_any _ W
 have HV:Hid (layV p g t=if echoP g.proto=true then putV (putV t 4 (twoV g.sp)) 0 (oneV (if bt t 0=askP p then askP g.proto else ansP g.proto)) else putV t 0 (twoV g.sp++twoV g.dp)):=rfl;have HE1:Hid (echoP p=true→∀ W,Cw 130 #[iV p] W (.tuple #[.int .u8 (askP p),.int .u8 (ansP p)])):=fun h W=>ipEchoBytes_any p W h
 have HE2:Hid (echoP g.proto=true→∀ W,Cw 130 #[iV g.proto] W (.tuple #[.int .u8 (askP g.proto),.int .u8 (ansP g.proto)])):=fun h W=>ipEchoBytes_any _ W h
 have ra:=ask_byte g.proto;have rn:=ans_byte g.proto;have z2:=twoV_size g.sp;have z4:(twoV g.sp++twoV g.dp).size=4:=by rw [ByteArray.size_append]; rfl
 have HL2:Hid ((layL [g.sp,g.dp]).map (Value.int .u8)=strCells (twoV g.sp++twoV g.dp)):=by unfold Hid; rw [strCells_append,strCells_two _ gw.1.1 gw.1.2,strCells_two _ gw.2.1 gw.2.2]; rfl
 have HL1:Hid ((layL [g.sp]).map (Value.int .u8)=strCells (twoV g.sp)):=by unfold Hid; rw [strCells_two _ gw.1.1 gw.1.2]; rfl
 have hinfo:(Tryz.prog.info? 5).map (·.size)=some 1:=by
  obtain ⟨i0,hi,hz0,hz1,hz2⟩:=info_parts Tryz.info5;rw [hi]; simp [hz1]
 generalize layV p g t=ans at *;obtain ⟨proto,src,dst,sp,dp⟩:=g;unfold fwC;dsimp only at *;have HS0:=bx1 w (FlR proto src dst sp dp) 43 (by simp)
 skip;obtain ⟨cp,W1,hcv,hh,hb1,hcap⟩:=bytes_new (w.alloc (.cells (FlR proto src dst sp dp).toArray 43)) t;rw [show (w.alloc (.cells (FlR proto src dst sp dp).toArray 43)).heap.size=w.heap.size+1 by simp] at hcv hh;have HT1:Hid (HoldsL W1 (w.heap.size+1) (strCells t)):=hold_of_bytes hh;have HS1:Hid _:=HS0.out.kept hb1;clear hh hb1 HS0;go_enter Tryz.func152,Tryz.ntmps152
 go_upto_region 2 with fail
 clear hcv;have HHk:=HS1.out.at mE0;obtain ⟨k0,k1,k2,k3,k4⟩:=HHk.c5;clear HHk;have hlw:w.heap.size+1 < W1.heap.size:=HT1.out.lt (by rw [strCells_length]; omega);go_wp2_with fail
 refine (HE.out _).mono ?_;rintro e W1 ⟨rfl,rfl⟩
 cases hec:echoP proto with
 | false =>
  have HX:Hid (ans=putV t 0 (twoV sp++twoV dp)):=by unfold Hid; rw [HV.out,hec]; rfl
  clear HV HE1 HE2 HL1;have HL:Hid (Calls Tryz.prog 154 #[.slice (some ⟨W1.heap.size,0,none⟩) 2 2] (W1.alloc (.cells #[iV sp,iV dp] 2)) fun e w'=>e=.returned (.slice (some ⟨W1.heap.size+1,0,none⟩) 4 4)∧w'.ownsRow (W1.heap.size+1) 5 1 (.slice (some ⟨W1.heap.size+1,0,none⟩) 4 4) 4 (strCells (twoV sp++twoV dp))∧Below W1.heap.size W1 w'):=by
   refine (layWords_any [sp,dp] W1.heap.size 2 2 (W1.alloc (.cells #[iV sp,iV dp] 2)) (by omega) (by simp) rfl (getD_word _ (by simp only [List.forall_mem_cons,List.not_mem_nil,false_imp_iff,implies_true,and_true]; omega)) (by intro k hk; match k,hk with
   | 0,_=>simp
   | 1,_=>simp)).mono ?_
   rintro e w' ⟨rfl,hown,hB⟩;rw [show (W1.alloc (.cells #[iV sp,iV dp] 2)).heap.size=W1.heap.size+1 by simp] at hown hB ⊢;rw [HL2.out] at hown;exact ⟨rfl,hown,(bR.alloc lR _).trans (hB.mono (by omega))⟩
  clear HL2;go_wp2_with fail
  refine HL.out.mono ?_;rintro e w3 ⟨rfl,hown,q3⟩;have hT3:HoldsL w3 (w.heap.size+1) (strCells t):=HT1.out.kept (by rw [strCells_length]; omega) q3;have hrun:=run_lay_more (P:=Tryz.prog) (dCap:=cp) 22 22 3 5 Tryz.underlying22 hinfo hT3 (o:=0) (by omega) (dLen:=t.size) (by omega) z4.symm hown;rw [z4] at hrun;have HF:Hid (HoldsL (w3.setCells (w.heap.size+1) 0 (strCells (twoV sp++twoV dp))) (w.heap.size+1) (strCells ans)):=by unfold Hid; rw [HX.out]; exact lay_put hT3 (by omega)
  have HB:Hid (Below w.heap.size w (w3.setCells (w.heap.size+1) 0 (strCells (twoV sp++twoV dp)))):=below_setCells ((HS1.out.kept q3).b) (by omega) _ _;clear hT3 hown q3 HT1 HS1 HL HX k0 k1 k2 k3 k4;go_wp2_with fail
  go_ret;exact ⟨⟨_,_,rfl,hcap,by omega,HF.out⟩,HB.out⟩
 | true =>
  have hep:=hp hec;have HX:Hid (ans=putV (putV t 4 (twoV sp)) 0 (oneV (if bt t 0=askP p then askP proto else ansP proto))):=by unfold Hid; rw [HV.out,hec]; rfl
  replace HE1:Hid _:=HE1.out hep;replace HE2:Hid _:=HE2.out hec;clear HV HL2 hep hec hp HE;go_upto_region 5 with fail
  clear k0 k1 k2 k3 k4;have n4:¬ (t.size:Int) < 4:=by omega
  have c4:¬ (cp:Int) < 4:=by omega
  have n5:(4:Int)≤t.size:=by omega
  have c44:¬ cp=4:=by omega
  go_cut [33] (fun v wx=>HoldsL wx (w.heap.size+1) (strCells (putV t 4 (twoV sp)))∧Bxs w [(w.heap.size,(FlR proto src dst sp dp))] wx)
  case first =>
   rename_i J K2 hJ hK2;have HCP:Hid (∀ wy,Below W1.drew.heap.size W1.drew wy→_):=fun wy hy=>HS1.out.kept (bR.drew.trans hy)
   have HGP:Hid (∀ wy,Below W1.drew.heap.size W1.drew wy→HoldsL wy (w.heap.size+1) (strCells t)):=fun wy hy=>HT1.out.kept (by rw [strCells_length]; omega) (bR.drew.trans hy)
   have hlw2:w.heap.size≤W1.drew.heap.size:=by show w.heap.size≤W1.heap.size; omega
   clear HT1 HS1 HX HE1 HE2;refine wp_region_growV [27,28,29,30,31,32] (by kernel_rfl) (by kernel_rfl) ?_;iterate 4 (apply GChV.u rfl;(·intro K' a wy ho hd hb hK;simp [rAt,IsV,slot,Region.binds] at ho hd;have hst:=HCP.out wy hb;have HHk:=hst.at mE0;have k3:=HHk.cell (j:=3) rfl;clear HHk;clear hst;go_simp;(try go_bits);exact hK _ _ rfl bQ);dsimp only [nA,cA])
   refine GChV.rel (n:=4) (IsWords [sp]) (stable_isWords _) [_,_,_,_,IsWords [sp]] rfl rfl ?_ ?_
   ·intro K' a wy ho hd hb hK;rw [wN rfl];have q3:=hd ⟨3,.data⟩ (by simp) rfl;simp [rAt,IsV,slot] at q3;clear hd ho;go_simp;exact hK _ _ ⟨wy.heap.size,rfl,by simp,fun k hk=>by
     simp only [List.length_cons,List.length_nil] at hk;match k,hk with
     | 0,_=>simp⟩ (bR.alloc lR _)
   refine GChV.rel (n:=5) (IsOwn w.heap.size 5 2 (strCells (twoV sp))) (stable_isOwn _ _ _ _) [_,_,_,_,_,IsOwn w.heap.size 5 2 (strCells (twoV sp))] rfl rfl ?_ ?_
   ·intro K' a wy ho hd hb hK;rw [wN rfl];have hr:IsWords [sp] (slot a 31) wy:=hd ⟨4,.data⟩ (by simp) rfl;obtain ⟨b4,e1,e2,e3⟩:=hr;simp [slot] at e1;clear hd ho;go_simp;refine (layWords_any [sp] b4 1 1 wy (by decide) e2 rfl (getD_word _ (by simp only [List.forall_mem_cons,List.not_mem_nil,false_imp_iff,implies_true,and_true]; omega)) e3).mono ?_;rintro e wz ⟨rfl,hown,hz⟩;exact hK _ _ ⟨_,rfl,owns_base (by rw [← HL1.out]; exact hown) (Nat.le_trans hlw2 hb.size)⟩ hz
   intro X wz hR hz;obtain ⟨x0,x1,x2,x3,x4,x5,-⟩:=hR;obtain ⟨b4,e4,-,-⟩:=x4;obtain ⟨g5,e5,own5⟩:=x5;simp only [IsV] at x0 x1 x2 x3;simp only [putsFrom,x0,x1,x2,x3,e4,e5];clear x0 x1 x2 x3;rw [e5] at own5;have hgz:=HGP.out wz hz;have hrun:=run_lay_more (P:=Tryz.prog) (dCap:=cp-4) 22 22 3 5 Tryz.underlying22 hinfo hgz (o:=4) (by omega) (dLen:=t.size-4) (by omega) z2.symm own5;rw [z2] at hrun;have HN2:Hid (HoldsL (wz.setCells (w.heap.size+1) 4 (strCells (twoV sp))) (w.heap.size+1) (strCells (putV t 4 (twoV sp)))):=lay_put hgz (by omega);have HB2:Hid (Bxs w [(w.heap.size,(FlR proto src dst sp dp))] (wz.setCells (w.heap.size+1) 4 (strCells (twoV sp)))):=(HCP.out wz hz).cells (fun e he=>by
    rw [List.mem_singleton] at he;rw [he]; show w.heap.size≠w.heap.size+1; omega) (by omega)
   clear hgz own5 hz HCP HGP;intro K10 hK10;go_simp;refine hK10 _ _ ?_;show Exit.then _ _ _ _ _;refine hK2 _ _ (hJ _ _ ?_);(repeat apply Exists.intro)
   exact ⟨⟨HN2.out,HB2.out⟩,rfl⟩
  case rest =>
  obtain ⟨hG,hS⟩:=hcut;have G2:Hid _:=hG;have S2:Hid (Bxs w [(w.heap.size,(FlR proto src dst sp dp))] wc):=hS;clear hG hS HT1 HS1 HL1;generalize wc=W2 at *;have hz2:=putV_size (t:=t) (u:=twoV sp) (k:=4) (by omega);have c0:=hold_bt G2.out 0 (by omega);have f0:W2.frozen? ⟨w.heap.size+1,0,none⟩=false:=G2.out.free (by rw [strCells_length]; omega);have e0:bt (putV t 4 (twoV sp)) 0=bt t 0:=by rw [bt_put (by omega),if_pos (by omega)]
  rw [e0] at c0;clear e0;have HHk:=S2.out.at mE0;obtain ⟨k0,k1,k2,k3,k4⟩:=HHk.c5;clear HHk;go_wp2_with fail
  refine (HE1.out _).mono ?_;rintro e W2 ⟨rfl,rfl⟩;go_wp2_with fail
  refine (HE2.out _).mono ?_;rintro e W2 ⟨rfl,rfl⟩;by_cases ha:bt t 0=askP p
  case pos =>
   have d0:(bt t 0==askP p)=true:=by simp [ha]
   have HF:Hid (HoldsL (W2.setCell ⟨w.heap.size+1,0,none⟩ (.int .u8 (askP proto))) (w.heap.size+1) (strCells ans)):=by unfold Hid; rw [HX.out,if_pos ha]; exact lay_first G2.out ra (by omega)
   have HB:Hid (Below w.heap.size w (W2.setCell ⟨w.heap.size+1,0,none⟩ (.int .u8 (askP proto)))):=S2.out.b.setCell (p:=⟨w.heap.size+1,0,none⟩) (by show w.heap.size≤w.heap.size+1; omega) _;clear ha HX G2 S2 HE1 HE2;generalize bt t 0=b0 at *;generalize askP p=ap at *;generalize askP proto=ag at *;generalize ansP proto=ng at *;generalize ansP p=np at *;go_wp2_with fail
   go_ret;exact ⟨⟨_,_,rfl,hcap,by omega,HF.out⟩,HB.out⟩
  case neg =>
   have d0:(bt t 0==askP p)=false:=by simp [ha]
   have HF:Hid (HoldsL (W2.setCell ⟨w.heap.size+1,0,none⟩ (.int .u8 (ansP proto))) (w.heap.size+1) (strCells ans)):=by unfold Hid; rw [HX.out,if_neg ha]; exact lay_first G2.out rn (by omega)
   have HB:Hid (Below w.heap.size w (W2.setCell ⟨w.heap.size+1,0,none⟩ (.int .u8 (ansP proto)))):=S2.out.b.setCell (p:=⟨w.heap.size+1,0,none⟩) (by show w.heap.size≤w.heap.size+1; omega) _;clear ha HX G2 S2 HE1 HE2;generalize bt t 0=b0 at *;generalize askP p=ap at *;generalize askP proto=ag at *;generalize ansP proto=ng at *;generalize ansP p=np at *;go_wp2_with fail
   go_ret;exact ⟨⟨_,_,rfl,hcap,by omega,HF.out⟩,HB.out⟩
theorem eqFO_run (q p:Fl) (a b:Int) (W:World):(Op.equalIn 10000 45 (.agg #[iV q.proto,.string q.src,.string q.dst,iV q.sp,iV q.dp,iV a]) (.agg #[iV p.proto,.string p.src,.string p.dst,iV p.sp,iV p.dp,iV b])).run Tryz.prog W=.ok (sameFlow q p&&(a==b)) W:=by
 have h1:Tryz.prog.underlying 45=some (.struct (Tryz.prog.fieldsOf 45)):=by kernel_rfl
 have h2:Tryz.prog.stoodInHeld 45=false:=by kernel_rfl
 rw [run_equalIn_agg _ _ _ _ _ h1 h2];have h3:(Tryz.prog.fieldsOf 45).toList.length=2:=by kernel_rfl
 have h4 : ((Tryz.prog.fieldsOf 45).toList.map fun f => (f.type, f.offset, f.name == "_")) = [(43, 0, false), (2, 5, false)] := by kernel_rfl
 have hq:=eqFlow_run 9997 q p;generalize (Tryz.prog.fieldsOf 45).toList=fs at *;match fs,h3 with
 | [f,g],_ =>
  simp at h4;obtain ⟨⟨a1,a2,a3⟩,b1,b2,b3⟩:=h4;have p0:∀ W,(part 43 #[iV q.proto,.string q.src,.string q.dst,iV q.sp,iV q.dp,iV a] 0).run Tryz.prog W=.ok (.agg (FlV q).toArray) W:=fun W=>by kernel_rfl
  have p1:∀ W,(part 43 #[iV p.proto,.string p.src,.string p.dst,iV p.sp,iV p.dp,iV b] 0).run Tryz.prog W=.ok (.agg (FlV p).toArray) W:=fun W=>by kernel_rfl
  have p2:∀ W,(part 2 #[iV q.proto,.string q.src,.string q.dst,iV q.sp,iV q.dp,iV a] 5).run Tryz.prog W=.ok (iV a) W:=fun W=>by kernel_rfl
  have p3:∀ W,(part 2 #[iV p.proto,.string p.src,.string p.dst,iV p.sp,iV p.dp,iV b] 5).run Tryz.prog W=.ok (iV b) W:=fun W=>by kernel_rfl
  generalize sameFlow q p=sf at *;by_cases hab:a=b
  ·subst hab
   cases sf<;>simp [Op.eqFields,a1,a2,a3,b1,b2,b3,p0,p1,p2,p3,hq,run_equalIn_int _ _ _ _ _ _ _ Tryz.underlying2]
  ·have hab2:(a==b)=false:=by simp [hab]
   cases sf<;>simp [Op.eqFields,a1,a2,a3,b1,b2,b3,p0,p1,p2,p3,hq,hab,hab2,run_equalIn_int _ _ _ _ _ _ _ Tryz.underlying2]
theorem neFO_bin (q p:Fl) (a b:Int) (W:World):(binOp .neq 45 (.agg #[iV q.proto,.string q.src,.string q.dst,iV q.sp,iV q.dp,iV a]) (.agg #[iV p.proto,.string p.src,.string p.dst,iV p.sp,iV p.dp,iV b])).run Tryz.prog W=.ok (.bool (!(sameFlow q p&&(a==b)))) W:=by
 rw [run_neq_struct,eqFO_run]; rfl
theorem implCarrySet_any (f g:Fl) (t:ByteArray) (w:World) (f1:f.src.size≤1048576) (f2:f.dst.size≤1048576) (g1:g.src.size≤1048576) (g2:g.dst.size≤1048576) (ht:t.size≤1048576) (hk:¬ (f.src.size=16∧g.src.size=16)) :
  Cb 113 #[fwC f,fwC g,.string t] w (dtCO (setData f g t) (setCode f g t)):=by
 have HLG:Hid (∀ W,Cw 81 #[.string t] W (.bool (decide (20000 < t.size)))):=fun W=>implLong_any t W
 have HFO:Hid (∀ W,Cb 58 #[.string f.src,.string f.dst,iV f.proto,.string t] W (fwCO (flowOfV f.src f.dst f.proto t) (flowCode f.src f.dst f.proto t))):=fun W=>implFlowOf_any _ _ _ _ W f1 f2 ht
 have HFR:Hid (∀ W,Cb 149 #[fwC g] W (.bool (flowOk g))):=fun W=>implFlowRight_any g W g1 g2
 have HLK:Hid (∀ W,Cb 150 #[iV f.proto,iV g.proto] W (.bool (decide (f.proto=g.proto)||(echoP f.proto&&echoP g.proto)))):=fun W=>(ipLike_any _ _ W).mono fun e w' h=>⟨h.1,by rw [h.2]; exact Below.refl _ _⟩
 have HSI:Hid (t.size≤20000→setIn f g t=((sameFlow (flowOfV f.src f.dst f.proto t) f&&(flowCode f.src f.dst f.proto t==0))&&(flowOk g&&(decide (f.proto=g.proto)||(echoP f.proto&&echoP g.proto))))):=fun h=>by rw [setIn_prog h,Bool.and_comm (sameFlow _ _)]; rfl
 have HNE:Hid (∀ W,(binOp .neq 45 (fwCO (flowOfV f.src f.dst f.proto t) (flowCode f.src f.dst f.proto t)) (fwCO f 0)).run Tryz.prog W=.ok (.bool (!(sameFlow (flowOfV f.src f.dst f.proto t) f&&(flowCode f.src f.dst f.proto t==0)))) W):=fun W=>neFO_bin _ _ _ _ W
 have HC2:Hid (20000 < t.size→dtCO (setData f g t) (setCode f g t)=dtCO ⟨#[]⟩ 2):=fun h=>by
  have hc:setCode f g t=2:=by unfold setCode; rw [if_pos h]
  unfold setData; rw [hc,if_neg (by decide)]
 have HC1:Hid (t.size≤20000→setIn f g t=false→dtCO (setData f g t) (setCode f g t)=dtCO ⟨#[]⟩ 1):=fun h h2=>by
  have hc:setCode f g t=1:=by unfold setCode; rw [if_neg (by omega),if_pos h2]
  unfold setData; rw [hc,if_neg (by decide)]
 have hq:setIn f g t=true→(f.src.size=4∨f.src.size=16)∧f.dst.size≤16∧(0≤f.proto∧f.proto≤255)∧(g.src.size=4∨g.src.size=16)∧g.dst.size≤16∧(0≤g.proto∧g.proto≤255)∧8≤t.size∧(f.proto=6→20≤t.size)∧((0≤g.sp∧g.sp≤65535)∧(0≤g.dp∧g.dp≤65535))∧(echoP g.proto=true→echoP f.proto=true):=fun h=>by
  obtain ⟨h1,h2,h3,h4⟩:=setIn_parts h;obtain ⟨a1,a2,a3⟩:=flowOk_parts h1;obtain ⟨b1,b2,b3⟩:=flowOk_parts h2;have p1:pairOk f.src f.dst=true:=by unfold flowOk at h1; simp only [Bool.and_eq_true] at h1; exact h1.1.1.1.1
  have p2:pairOk g.src g.dst=true:=by unfold flowOk at h2; simp only [Bool.and_eq_true] at h2; exact h2.1.1.1.1
  have o:=ofCode_size h4;refine ⟨(pairOk_parts p1).1,a1.2,a2,(pairOk_parts p2).1,b1.2,b2,o.1,o.2,b3,fun hg=>?_⟩;rcases h3 with h3 | h3
  ·rw [h3]; exact hg
  ·exact h3.1
 have HC5:Hid (t.size≤20000→setIn f g t=true→lacksV f t=true→g.src.size=16→dtCO (setData f g t) (setCode f g t)=dtCO ⟨#[]⟩ 5):=fun h h2 h3 h4=>by
  have hb:bareUdp f t=true:=by
   rw [bare_lacks,h3];rcases (hq h2).1 with h5 | h5
   ·simp [h5]
   ·exact absurd ⟨h5,h4⟩ hk
  have hc:setCode f g t=5:=by unfold setCode; rw [if_neg (by omega),if_neg (by rw [h2]; simp),if_pos ⟨hb,h4⟩]
  unfold setData; rw [hc,if_neg (by decide)]
 have HC0:Hid (t.size≤20000→setIn f g t=true→¬ (lacksV f t=true∧g.src.size=16)→dtCO (setData f g t) (setCode f g t)=if (!lacksV f t||decide (f.src.size=16))=true then dtCO (putV (setOut f g t) (checkP f.proto) (twoV (newCheck f g t))) 0 else dtCO (setOut f g t) 0):=fun h h2 h3=>by
  have hc:setCode f g t=0:=by
   unfold setCode; rw [if_neg (by omega),if_neg (by rw [h2]; simp),if_neg];rintro ⟨h5,h6⟩;rw [bare_lacks,Bool.and_eq_true] at h5;exact h3 ⟨h5.1,h6⟩
  unfold setData; rw [hc,if_pos rfl,bare_lacks];have hs:=(hq h2).1;by_cases hl:lacksV f t=true
  ·rcases hs with hs | hs
   ·simp [hl,hs]
   ·simp [hl,hs]
  ·simp [hl]
 have HLA:Hid (setIn f g t=true→∀ W,Cw 151 #[iV f.proto,.string t] W (.bool (lacksV f t))):=fun h W=>ipLacks_any _ t W (hq h).2.2.2.2.2.2.1 ht
 have HLY:Hid (t.size≤20000→setIn f g t=true→∀ W,Calls Tryz.prog 152 #[iV f.proto,fwC g,.string t] W fun e w'=>LayRet W.heap.size t.size (setOut f g t) e w'∧Below W.heap.size W w'):=fun h h2 W=>by
  obtain ⟨q1,q2,q3,q4,q5,q6,q7,q8,q9,q10⟩:=hq h2;rw [← lay_set h2];exact ipLay_any f.proto g t W q7 h q9 q10
 have HCK:Hid (t.size≤20000→setIn f g t=true→∀ W,Cb 155 #[fwC f,fwC g,.string t,.string (setOut f g t)] W (iV (newCheck f g t))):=fun h h2 W=>by
  obtain ⟨q1,q2,q3,q4,q5,q6,q7,q8,q9,q10⟩:=hq h2;have hs:=setOut_size (f:=f) (g:=g) q7;rw [← checkI_eq f g t q7 (by omega)];exact ipCheck_any f g t (setOut f g t) W q7 (by omega) q8 (by omega) (by omega) q1 q2 q3 q4 q5 q6
 have HPL:Hid (∀ W,Cb 153 #[iV f.proto] W (iV (checkP f.proto:Nat))):=fun W=>(ipPlace_any _ W).mono fun e w' h=>⟨h.1,by rw [h.2]; exact Below.refl _ _⟩
 have HSZ:Hid (setIn f g t=true→(setOut f g t).size=t.size∧8≤t.size∧checkP f.proto+2≤t.size):=fun h=>by
  obtain ⟨q1,q2,q3,q4,q5,q6,q7,q8,q9,q10⟩:=hq h;refine ⟨setOut_size q7,q7,?_⟩;unfold checkP;split
  ·rename_i h6; have:=q8 h6; omega
  ·split<;>omega
 have rnc:=newCheck_range f g t;have z2:=twoV_size (newCheck f g t);have HL1:Hid ((layL [newCheck f g t]).map (Value.int .u8)=strCells (twoV (newCheck f g t))):=by unfold Hid; rw [strCells_two _ rnc.1 rnc.2]; rfl
 have hinfo:(Tryz.prog.info? 5).map (·.size)=some 1:=by
  obtain ⟨i0,hi,hz0,hz1,hz2⟩:=info_parts Tryz.info5;rw [hi]; simp [hz1]
 generalize dtCO (setData f g t) (setCode f g t)=ans at *;generalize (sameFlow (flowOfV f.src f.dst f.proto t) f&&(flowCode f.src f.dst f.proto t==0))=sf at *;generalize (decide (f.proto=g.proto)||(echoP f.proto&&echoP g.proto))=lk at *;generalize flowOk g=fg at *;generalize setIn f g t=si at *;generalize lacksV f t=lc at *;generalize checkP f.proto=pl at *;generalize newCheck f g t=nc at *;generalize setOut f g t=uu at *;generalize flowOfV f.src f.dst f.proto t=ff at *;generalize flowCode f.src f.dst f.proto t=fc at *;clear hq;obtain ⟨proto,src,dst,sp,dp⟩:=f;obtain ⟨proto',src',dst',sp',dp'⟩:=g;unfold fwCO at HFO HNE;unfold fwC at *;dsimp only at *;have HS0:=bx3 w (FlR proto src dst sp dp) 43 (FlR proto' src' dst' sp' dp') 43 [eS,iV 0] 55 (by simp) (by simp) (by simp)
 skip;have hRw:w.heap.size≤w.heap.size+1+1:=by omega
 go_enter Tryz.func113,Tryz.ntmps113
 go_upto_region 1 with fail
 generalize World.alloc _ _=W0 at *;go_wp2_with fail
 refine (HLG.out _).mono ?_;rintro e W0 ⟨rfl,rfl⟩;by_cases hlen:20000 < t.size
 case pos =>
  have dl:decide (20000 < t.size)=true:=decide_eq_true hlen;rw [dl];have HX:Hid (ans=dtCO ⟨#[]⟩ 2):=HC2.out hlen;have HHz:=HS0.out.at mE2;obtain ⟨z0,z1⟩:=HHz.c2;obtain ⟨zf0,zf1⟩:=HHz.f2;obtain ⟨HRR,RB⟩:=st2 HHz HS0.out.b hRw eS (iV 2);clear HHz;clear HC2 HC1 HC5 HC0;go_wp2_with fail
  exact bodyPost_ret (results_mid Tryz.results113 _ _ (w.heap.size+1+1) [eS,iV 2] _ rfl HRR.out Tryz.underlying55 rfl (show (Tryz.prog.info? 55).map (·.size)=some 2 by kernel_rfl)) rfl (And.intro (by rw [HX.out]; rfl) RB.out)
 have dl:decide (20000 < t.size)=false:=decide_eq_false hlen;rw [dl];have hle:t.size≤20000:=by omega
 replace HSI:Hid _:=HSI.out hle;replace HC1:Hid _:=HC1.out hle;replace HC5:Hid _:=HC5.out hle;replace HC0:Hid _:=HC0.out hle;replace HLY:Hid _:=HLY.out hle;replace HCK:Hid _:=HCK.out hle;clear HC2 HLG dl hlen;go_upto_region 3 with fail
 go_cut [35] (fun v wx=>v=.bool (!si)∧Bxs w [(w.heap.size,(FlR proto src dst sp dp)),(w.heap.size+1,(FlR proto' src' dst' sp' dp')),(w.heap.size+1+1,[eS,iV 0])] wx)
 case first =>
  rename_i J K2 hJ hK2;have HCP:Hid (∀ wy,Below W0.drew.heap.size W0.drew wy→_):=fun wy hy=>HS0.out.kept (bR.drew.trans hy)
  clear HC1 HC5 HC0 HLA HLY HCK HPL HSZ HL1
  cases sf with
  | false =>
   refine wp_region_growH [12,13,14,15,16,17,18,19,20,21,22,23,24,25,26,27,28,29,30,31,32,33,34,35] (by kernel_rfl) (by kernel_rfl) ?_;iterate 10 (apply GCh.u rfl;(·intro K' a wy ho hd hb hK;simp [rAt,IsV,slot,Region.binds] at ho hd;have hst:=HCP.out wy hb;have kC:=(hst.at mE0).c5;have kC:=(hst.at mE1).c5;clear hst;go_simp;first|((try go_bits);exact hK _ _ rfl bQ)|(refine (HFO.out wy).mono ?_;rintro e wz ⟨rfl,hz⟩;exact hK _ _ rfl hz));dsimp only [nA,cA])
   apply GCh.v10
   ·rfl
   ·intro K' a wy ho hd hb hK kz;have q7:=hd ⟨7,.data⟩ (by simp) rfl;have q9:=hd ⟨9,.data⟩ (by simp) rfl;simp [rAt,IsV,slot] at q7 q9;clear hd ho;refine wp_bin_val .neq 45 45 (.tmp 19) (.tmp 21) rfl (by simp [Act.eval,slot,q7]) (by simp [Act.eval,slot,q9]) (run_eqGuard_agg _ _ _ _ _ _ _ (by kernel_rfl)) (HNE.out wy) ?_;exact kz _ rfl
   iterate 13 ((first|(refine GCh.n rfl rfl rfl rfl rfl (by simp) ?_)|(apply GCh.u rfl;(·intro K' a wy ho hd hb hK;simp [rAt,IsV,slot,Region.binds] at ho hd;go_simp;(try go_bits);exact hK _ _ rfl bQ)));dsimp only [nA,cA])
   intro X wz hR hz;simp only [List.nil_append,List.cons_append,RAll,IsV] at hR;simp only [putsFrom,hR];clear hR;have HF:Hid (Bxs w [(w.heap.size,(FlR proto src dst sp dp)),(w.heap.size+1,(FlR proto' src' dst' sp' dp')),(w.heap.size+1+1,[eS,iV 0])] wz):=HCP.out wz hz;clear HCP;go_simp;refine hK2 _ _ (hJ _ _ ?_);(repeat apply Exists.intro)
   exact ⟨⟨by rw [HSI.out]; rfl,HF.out⟩,rfl⟩
  | true =>
   cases fg with
   | false =>
    refine wp_region_growH [12,13,14,15,16,17,18,19,20,21,22,23,24,25,26,27,28,29,30,31,32,33,34,35] (by kernel_rfl) (by kernel_rfl) ?_;iterate 10 (apply GCh.u rfl;(·intro K' a wy ho hd hb hK;simp [rAt,IsV,slot,Region.binds] at ho hd;have hst:=HCP.out wy hb;have kC:=(hst.at mE0).c5;have kC:=(hst.at mE1).c5;clear hst;go_simp;first|((try go_bits);exact hK _ _ rfl bQ)|(refine (HFO.out wy).mono ?_;rintro e wz ⟨rfl,hz⟩;exact hK _ _ rfl hz));dsimp only [nA,cA])
    apply GCh.v10
    ·rfl
    ·intro K' a wy ho hd hb hK kz;have q7:=hd ⟨7,.data⟩ (by simp) rfl;have q9:=hd ⟨9,.data⟩ (by simp) rfl;simp [rAt,IsV,slot] at q7 q9;clear hd ho;refine wp_bin_val .neq 45 45 (.tmp 19) (.tmp 21) rfl (by simp [Act.eval,slot,q7]) (by simp [Act.eval,slot,q9]) (run_eqGuard_agg _ _ _ _ _ _ _ (by kernel_rfl)) (HNE.out wy) ?_;exact kz _ rfl
    iterate 13 ((first|(refine GCh.n rfl rfl rfl rfl rfl (by simp) ?_)|((first|apply GCh.u rfl|apply GCh.g rfl rfl rfl rfl rfl (by simp));(·intro K' a wy ho hd hb hK;simp [rAt,IsV,slot,Region.binds] at ho hd;have hst:=HCP.out wy hb;have kC:=(hst.at mE0).c5;have kC:=(hst.at mE1).c5;clear hst;go_simp;first|((try go_bits);exact hK _ _ rfl bQ)|(refine (HFR.out wy).mono ?_;rintro e wz ⟨rfl,hz⟩;exact hK _ _ rfl hz))));dsimp only [nA,cA])
    intro X wz hR hz;simp only [List.nil_append,List.cons_append,RAll,IsV] at hR;simp only [putsFrom,hR];clear hR;have HF:Hid (Bxs w [(w.heap.size,(FlR proto src dst sp dp)),(w.heap.size+1,(FlR proto' src' dst' sp' dp')),(w.heap.size+1+1,[eS,iV 0])] wz):=HCP.out wz hz;clear HCP;go_simp;refine hK2 _ _ (hJ _ _ ?_);(repeat apply Exists.intro)
    exact ⟨⟨by rw [HSI.out]; rfl,HF.out⟩,rfl⟩
   | true =>
    refine wp_region_growH [12,13,14,15,16,17,18,19,20,21,22,23,24,25,26,27,28,29,30,31,32,33,34,35] (by kernel_rfl) (by kernel_rfl) ?_;iterate 10 (apply GCh.u rfl;(·intro K' a wy ho hd hb hK;simp [rAt,IsV,slot,Region.binds] at ho hd;have hst:=HCP.out wy hb;have kC:=(hst.at mE0).c5;have kC:=(hst.at mE1).c5;clear hst;go_simp;first|((try go_bits);exact hK _ _ rfl bQ)|(refine (HFO.out wy).mono ?_;rintro e wz ⟨rfl,hz⟩;exact hK _ _ rfl hz));dsimp only [nA,cA])
    apply GCh.v10
    ·rfl
    ·intro K' a wy ho hd hb hK kz;have q7:=hd ⟨7,.data⟩ (by simp) rfl;have q9:=hd ⟨9,.data⟩ (by simp) rfl;simp [rAt,IsV,slot] at q7 q9;clear hd ho;refine wp_bin_val .neq 45 45 (.tmp 19) (.tmp 21) rfl (by simp [Act.eval,slot,q7]) (by simp [Act.eval,slot,q9]) (run_eqGuard_agg _ _ _ _ _ _ _ (by kernel_rfl)) (HNE.out wy) ?_;exact kz _ rfl
    iterate 10 ((first|apply GCh.u rfl|apply GCh.g rfl rfl rfl rfl rfl (by simp));(·intro K' a wy ho hd hb hK;simp [rAt,IsV,slot,Region.binds] at ho hd;have hst:=HCP.out wy hb;have kC:=(hst.at mE0).c5;have kC:=(hst.at mE1).c5;clear hst;go_simp;first|((try go_bits);exact hK _ _ rfl bQ)|(refine (HFR.out wy).mono ?_;rintro e wz ⟨rfl,hz⟩;exact hK _ _ rfl hz));dsimp only [nA,cA])
    iterate 3 ((first|apply GCh.u rfl|apply GCh.g rfl rfl rfl rfl rfl (by simp));(·intro K' a wy ho hd hb hK;simp [rAt,IsV,slot,Region.binds] at ho hd;go_simp;first|((try go_bits);exact hK _ _ rfl bQ)|(refine (HLK.out wy).mono ?_;rintro e wz ⟨rfl,hz⟩;exact hK _ _ rfl hz));dsimp only [nA,cA])
    intro X wz hR hz;simp only [List.nil_append,List.cons_append,RAll,IsV] at hR;simp only [putsFrom,hR];clear hR;have HF:Hid (Bxs w [(w.heap.size,(FlR proto src dst sp dp)),(w.heap.size+1,(FlR proto' src' dst' sp' dp')),(w.heap.size+1+1,[eS,iV 0])] wz):=HCP.out wz hz;clear HCP;go_simp;refine hK2 _ _ (hJ _ _ ?_);(repeat apply Exists.intro)
    exact ⟨⟨by rw [HSI.out]; rfl,HF.out⟩,rfl⟩
 case rest =>
 obtain ⟨rfl,hS⟩:=hcut;have S1:Hid (Bxs w [(w.heap.size,(FlR proto src dst sp dp)),(w.heap.size+1,(FlR proto' src' dst' sp' dp')),(w.heap.size+1+1,[eS,iV 0])] wc):=hS;clear hS HS0 HSI HNE HFO HFR HLK;generalize wc=W1 at *
 cases si with
 | false =>
  have HX:Hid (ans=dtCO ⟨#[]⟩ 1):=HC1.out rfl;have HHz:=S1.out.at mE2;obtain ⟨z0,z1⟩:=HHz.c2;obtain ⟨zf0,zf1⟩:=HHz.f2;obtain ⟨HRR,RB⟩:=st2 HHz S1.out.b hRw eS (iV 1);clear HHz;clear HC1 HC5 HC0;go_wp2_with fail
  exact bodyPost_ret (results_mid Tryz.results113 _ _ (w.heap.size+1+1) [eS,iV 1] _ rfl HRR.out Tryz.underlying55 rfl (show (Tryz.prog.info? 55).map (·.size)=some 2 by kernel_rfl)) rfl (And.intro (by rw [HX.out]; rfl) RB.out)
 | true =>
 replace HC5:Hid _:=HC5.out rfl;replace HC0:Hid _:=HC0.out rfl;replace HLA:Hid _:=HLA.out rfl;replace HLY:Hid _:=HLY.out rfl;replace HCK:Hid _:=HCK.out rfl;obtain ⟨hs1,hs2,hs3⟩:=HSZ.out rfl;clear HC1 HSZ;have HHk:=S1.out.at mE0;obtain ⟨k0,k1,k2,k3,k4⟩:=HHk.c5;clear HHk;have HHl:=S1.out.at mE1;obtain ⟨l0,l1,l2,l3,l4⟩:=HHl.c5;clear HHl;go_wp2_with fail
 refine (HLA.out _).mono ?_;rintro e W1 ⟨rfl,rfl⟩;by_cases h5:lc=true∧src'.size=16
 case pos =>
  obtain ⟨rfl,h16⟩:=h5;have d16:((src'.size:Int)==16)=true:=by rw [h16]; rfl
  have hun:undef=Value.tuple #[]:=rfl;have HX:Hid (ans=dtCO ⟨#[]⟩ 5):=HC5.out rfl h16;have HHz:=S1.out.at mE2;obtain ⟨z0,z1⟩:=HHz.c2;obtain ⟨zf0,zf1⟩:=HHz.f2;obtain ⟨HRR,RB⟩:=st2 HHz S1.out.b hRw eS (iV 5);clear HHz;clear HC5 HC0;go_wp2_with fail
  exact bodyPost_ret (results_mid Tryz.results113 _ _ (w.heap.size+1+1) [eS,iV 5] _ rfl HRR.out Tryz.underlying55 rfl (show (Tryz.prog.info? 55).map (·.size)=some 2 by kernel_rfl)) rfl (And.intro (by rw [HX.out]; rfl) RB.out)
 replace HC0:Hid _:=HC0.out h5;clear HC5;go_upto_region 6 with fail
 go_cut [47] (fun v wx=>v=.bool false∧wx=W1)
 case first =>
  have hun:undef=Value.tuple #[]:=rfl
  cases lc with
  | false =>
   go_wp2_with fail
   go_meet;exact ⟨rfl,rfl⟩
  | true =>
   have d16:((src'.size:Int)==16)=false:=by
    have:¬ src'.size=16:=fun h=>h5 ⟨rfl,h⟩
    simp; omega
   go_wp2_with fail
   go_meet;exact ⟨rfl,rfl⟩
 case rest =>
 obtain ⟨rfl,rfl⟩:=hcut;generalize wc=W1 at *;go_upto_region 8 with fail
 go_wp2_with fail
 refine (HLY.out _).mono ?_;rintro e W2 ⟨⟨b,cap,rfl,hcap,hbW,hT2⟩,q2⟩;have S2:Hid _:=S1.out.kept q2;have T2:Hid (HoldsL W2 b (strCells uu)):=hT2;have hfb:w.heap.size+1+1 < W1.heap.size:=(S1.out.k _ mE2).lt (by simp);clear hT2 q2 S1 k0 k1 k2 k3 k4 l0 l1 l2 l3 l4 HLY HLA;have hbg:w.heap.size+1+1 < b:=by omega
 have hbw:w.heap.size≤b:=by omega
 have hrb:w.heap.size+1+1≠b:=by omega
 clear hbW hfb;have HHk:=S2.out.at mE0;obtain ⟨k0,k1,k2,k3,k4⟩:=HHk.c5;clear HHk;have HHl:=S2.out.at mE1;obtain ⟨l0,l1,l2,l3,l4⟩:=HHl.c5;clear HHl;obtain ⟨cb,hcb⟩ : ∃ cb,cb=(!lc||decide (src.size=16)):=⟨_,rfl⟩;rw [← hcb] at HC0;have HCB:Hid _:=hcb;clear hcb;go_upto_region 9 with fail
 go_cut [61] (fun v wx=>v=.bool cb∧wx=W2)
 case first =>
  have hun:undef=Value.tuple #[]:=rfl
  cases lc with
  | false =>
   go_wp2_with fail
   go_meet;exact ⟨by rw [HCB.out]; rfl,rfl⟩
  | true =>
   by_cases h16:src.size=16
   case pos =>
    have d16:((src.size:Int)==16)=true:=by rw [h16]; rfl
    go_wp2_with fail
    go_meet;exact ⟨by rw [HCB.out,decide_eq_true h16]; rfl,rfl⟩
   have d16:((src.size:Int)==16)=false:=by simp; omega
   go_wp2_with fail
   go_meet;exact ⟨by rw [HCB.out,decide_eq_false h16]; rfl,rfl⟩
 case rest =>
 obtain ⟨rfl,rfl⟩:=hcut;generalize wc=W2 at *;clear HCB k0 k1 k2 k3 k4 l0 l1 l2 l3 l4
 cases cb with
 | false =>
  have hcv:(convert 22 9 (.slice (some ⟨b,0,none⟩) t.size cap)).run Tryz.prog W2=.ok (.string uu) W2:=by rw [← hs1]; exact hold_str T2.out
  have HX:Hid (ans=dtCO uu 0):=HC0.out;have HHz:=S2.out.at mE2;obtain ⟨z0,z1⟩:=HHz.c2;obtain ⟨zf0,zf1⟩:=HHz.f2;obtain ⟨HRR,RB⟩:=st2 HHz S2.out.b hRw (.string uu) (iV 0);clear HHz;clear HC0 T2;go_wp2_with fail
  exact bodyPost_ret (results_mid Tryz.results113 _ _ _ _ _ rfl HRR.out Tryz.underlying55 rfl (show (Tryz.prog.info? 55).map (·.size)=some 2 by kernel_rfl)) rfl (And.intro (by rw [HX.out]; rfl) RB.out)
 | true =>
 go_upto_region 10 with fail
 have hpc:¬ cap=pl:=by omega
 have hpi:¬ (t.size:Int) < (pl:Int):=by omega
 have hpj:¬ (cap:Int) < (pl:Int):=by omega
 have hpk:(pl:Int)≤t.size:=by omega
 go_cut [75] (fun v wx=>HoldsL wx b (strCells (putV uu pl (twoV nc)))∧Bxs w [(w.heap.size,(FlR proto src dst sp dp)),(w.heap.size+1,(FlR proto' src' dst' sp' dp')),(w.heap.size+1+1,[eS,iV 0])] wx)
 case first =>
  rename_i J K2 hJ hK2;have HCP:Hid (∀ wy,Below W2.drew.heap.size W2.drew wy→_):=fun wy hy=>S2.out.kept (bR.drew.trans hy)
  have HGP:Hid (∀ wy,Below W2.drew.heap.size W2.drew wy→HoldsL wy b (strCells uu)):=fun wy hy=>T2.out.kept (by rw [strCells_length]; omega) (bR.drew.trans hy)
  have hlw2:w.heap.size≤W2.drew.heap.size:=S2.out.b.size;clear T2 S2 HC0;refine wp_region_growV [62,63,64,65,66,67,68,69,70,71,72,73,74] (by kernel_rfl) (by kernel_rfl) ?_;iterate 9 (apply GChV.u rfl;(·intro K' a wy ho hd hb hK;simp [rAt,IsV,slot,Region.binds] at ho hd;have hst:=HCP.out wy hb;have kC:=(hst.at mE0).c5;have kC:=(hst.at mE1).c5;clear hst;go_simp;first|((try go_bits);exact hK _ _ rfl bQ)|(refine (HPL.out wy).mono ?_;rintro e wz ⟨rfl,hz⟩;exact hK _ _ rfl hz));dsimp only [nA,cA])
  apply GChV.v9
  ·rfl
  ·intro K' a wy ho hd hb hK kz;have q8:=hd ⟨8,.data⟩ (by simp) rfl;simp [rAt,IsV,slot] at q8;clear hd ho;have hcv:(convert 22 9 (.slice (some ⟨b,0,none⟩) t.size cap)).run Tryz.prog wy=.ok (.string uu) wy:=by rw [← hs1]; exact hold_str (HGP.out wy hb)
   go_simp;try go_bits
   exact kz _ rfl
  (apply GChV.u rfl;(·intro K' a wy ho hd hb hK;simp [rAt,IsV,slot,Region.binds] at ho hd;go_simp;refine (HCK.out wy).mono ?_;rintro e wz ⟨rfl,hz⟩;exact hK _ _ rfl hz);dsimp only [nA,cA])
  refine GChV.rel (n:=11) (IsWords [nc]) (stable_isWords _) [_,_,_,_,_,_,_,_,_,_,_,IsWords [nc]] rfl rfl ?_ ?_
  ·intro K' a wy ho hd hb hK;rw [wN rfl];have q10:=hd ⟨10,.data⟩ (by simp) rfl;simp [rAt,IsV,slot] at q10;clear hd ho;go_simp;exact hK _ _ ⟨wy.heap.size,rfl,by simp,fun k hk=>by
    simp only [List.length_cons,List.length_nil] at hk;match k,hk with
    | 0,_=>simp⟩ (bR.alloc lR _)
  refine GChV.rel (n:=12) (IsOwn w.heap.size 5 2 (strCells (twoV nc))) (stable_isOwn _ _ _ _) [_,_,_,_,_,_,_,_,_,_,_,_,IsOwn w.heap.size 5 2 (strCells (twoV nc))] rfl rfl ?_ ?_
  ·intro K' a wy ho hd hb hK;rw [wN rfl];have hr:IsWords [nc] (slot a 73) wy:=hd ⟨11,.data⟩ (by simp) rfl;obtain ⟨b4,e1,e2,e3⟩:=hr;simp [slot] at e1;clear hd ho;go_simp;refine (layWords_any [nc] b4 1 1 wy (by decide) e2 rfl (getD_word _ (by simp only [List.forall_mem_cons,List.not_mem_nil,false_imp_iff,implies_true,and_true]; omega)) e3).mono ?_;rintro e wz ⟨rfl,hown,hz⟩;exact hK _ _ ⟨_,rfl,owns_base (by rw [← HL1.out]; exact hown) (Nat.le_trans hlw2 hb.size)⟩ hz
  intro X wz hR hz;obtain ⟨x0,x1,x2,x3,x4,x5,x6,x7,x8,x9,x10,x11,x12,-⟩:=hR;obtain ⟨b4,e4,-,-⟩:=x11;obtain ⟨g5,e5,own5⟩:=x12;simp only [IsV] at x0 x1 x2 x3 x4 x5 x6 x7 x8 x9 x10;simp only [putsFrom,x0,x1,x2,x3,x4,x5,x6,x7,x8,x9,x10,e4,e5];clear x0 x1 x2 x3 x4 x5 x6 x7 x8 x9 x10;rw [e5] at own5;have hgz:=HGP.out wz hz;have hrun:=run_lay_more (P:=Tryz.prog) (dCap:=cap-pl) 22 22 3 5 Tryz.underlying22 hinfo hgz (o:=pl) (by omega) (dLen:=t.size-pl) (by omega) z2.symm own5;rw [z2] at hrun;have HN2:Hid (HoldsL (wz.setCells b pl (strCells (twoV nc))) b (strCells (putV uu pl (twoV nc)))):=lay_put hgz (by omega);have HB2:Hid (Bxs w [(w.heap.size,(FlR proto src dst sp dp)),(w.heap.size+1,(FlR proto' src' dst' sp' dp')),(w.heap.size+1+1,[eS,iV 0])] (wz.setCells b pl (strCells (twoV nc)))):=(HCP.out wz hz).cells (fun e he=>by
   simp only [List.mem_cons,List.not_mem_nil,or_false] at he;rcases he with rfl | rfl | rfl<;>(show _≠b; omega)) hbw
  clear hgz own5 hz HCP HGP;intro K10 hK10;go_simp;refine hK10 _ _ ?_;show Exit.then _ _ _ _ _;refine hK2 _ _ (hJ _ _ ?_);(repeat apply Exists.intro)
  exact ⟨⟨HN2.out,HB2.out⟩,rfl⟩
 case rest =>
 obtain ⟨hG,hS⟩:=hcut;have T3:Hid _:=hG;have S3:Hid (Bxs w [(w.heap.size,(FlR proto src dst sp dp)),(w.heap.size+1,(FlR proto' src' dst' sp' dp')),(w.heap.size+1+1,[eS,iV 0])] wc):=hS;clear hG hS S2 T2 HCK HPL HL1;generalize wc=W3 at *;have hsz3:(putV uu pl (twoV nc)).size=t.size:=by rw [putV_size (by omega)]; exact hs1
 generalize putV uu pl (twoV nc)=vv at *;have hcv:(convert 22 9 (.slice (some ⟨b,0,none⟩) t.size cap)).run Tryz.prog W3=.ok (.string vv) W3:=by rw [← hsz3]; exact hold_str T3.out
 have HX:Hid (ans=dtCO vv 0):=HC0.out;have HHz:=S3.out.at mE2;obtain ⟨z0,z1⟩:=HHz.c2;obtain ⟨zf0,zf1⟩:=HHz.f2;obtain ⟨HRR,RB⟩:=st2 HHz S3.out.b hRw (.string vv) (iV 0);clear HHz;clear HC0 T3;go_wp2_with fail
 exact bodyPost_ret (results_mid Tryz.results113 _ _ _ _ _ rfl HRR.out Tryz.underlying55 rfl (show (Tryz.prog.info? 55).map (·.size)=some 2 by kernel_rfl)) rfl (And.intro (by rw [HX.out]; rfl) RB.out)
end Go.Proofs.YtdkepkaflielhaaGreatDoor
