import Derived.Test.YtdkepkaflielhaaGreatDoorSz
import Derived.Test.YtdkepkaflielhaaGreatDoorAb
import Derived.Test.YtdkepkaflielhaaGreatDoorUni
import Derived.Test.YtdkepkaflielhaaGreatDoorICSet2
set_option linter.unusedVariables false
set_option linter.unusedSimpArgs false
set_option maxRecDepth 100000
set_option maxHeartbeats 8000000
namespace Go.Proofs.YtdkepkaflielhaaGreatDoor
open Go.RowKit Go.PlainAid
def IsPr (base:Nat) (vs:List Value):Value→World→Prop:=fun v w=>∃ b,v=.slice (some ⟨b,0,none⟩) 2 2∧base≤b∧HoldsL w b vs
theorem stable_isPr (base:Nat) (vs:List Value) (h:0 < vs.length):Stable (IsPr base vs):=fun v w w' ⟨b,h1,h2,h3⟩ hb=>⟨b,h1,h2,h3.kept h hb⟩
theorem checkP_lt {p:Int} {n:Nat} (h8:8≤n) (hp:p=6→20≤n):checkP p < n:=by
 unfold checkP;split
 ·rename_i h; have:=hp h; omega
 ·split<;>omega
theorem ipCheck_any (f g:Fl) (t u:ByteArray) (w:World) (h8:8≤t.size) (ht:t.size≤65535) (hp:f.proto=6→20≤t.size) (u8:8≤u.size) (hu:u.size≤65535) (fs:f.src.size=4∨f.src.size=16) (fd:f.dst.size≤16) (fp:0≤f.proto∧f.proto≤255) (gs:g.src.size=4∨g.src.size=16) (gd:g.dst.size≤16) (gp:0≤g.proto∧g.proto≤255) :
  Cb 155 #[fwC f,fwC g,.string t,.string u] w (iV (checkI f g t u)):=by
 have HPl:Hid (∀ W,Cw 153 #[iV f.proto] W (iV (checkP f.proto:Nat))):=fun W=>ipPlace_any _ W
 have HWd:Hid (∀ W,Cw 131 #[.string t,iV (checkP f.proto:Nat)] W (iV (wordN (bt t) (checkP f.proto)))):=fun W=>wordFromS_any t _ W (checkP_lt h8 hp) (by unfold maxLen; omega)
 have HP1:Hid (∀ W,Cb 175 #[iV f.proto,.string t] W (.string (setPartV f.proto t))):=fun W=>ipSetPart_any _ t W h8 (by omega)
 have HP2:Hid (∀ W,Cb 175 #[iV g.proto,.string u] W (.string (setPartV g.proto u))):=fun W=>ipSetPart_any _ u W u8 (by omega)
 have HH1:Hid (∀ W,Cb 176 #[.string f.src,.string f.dst,iV f.proto,iV t.size] W (.string (pseudoV f.src f.dst f.proto t.size))):=fun W=>ipPseudo_any _ _ _ _ W fs fd fp ht
 have HH2:Hid (∀ W,Cb 176 #[.string g.src,.string g.dst,iV g.proto,iV u.size] W (.string (pseudoV g.src g.dst g.proto u.size))):=fun W=>ipPseudo_any _ _ _ _ W gs gd gp hu
 have s1:=setPartV_size f.proto h8;have s2:=setPartV_size g.proto u8;have s3:=pseudoV_size f.src f.dst f.proto t.size (by omega) fd;have s4:=pseudoV_size g.src g.dst g.proto u.size (by omega) gd;have rc:=wordN_range (bt_isByte t) (checkP f.proto);have HV:Hid (checkI f g t u=if turn1 (turn1 (wordN (bt t) (checkP f.proto)) (sumV (setPartV f.proto t)) (sumV (setPartV g.proto u))) (sumV (pseudoV f.src f.dst f.proto t.size)) (sumV (pseudoV g.src g.dst g.proto u.size))=0 then 65535 else turn1 (turn1 (wordN (bt t) (checkP f.proto)) (sumV (setPartV f.proto t)) (sumV (setPartV g.proto u))) (sumV (pseudoV f.src f.dst f.proto t.size)) (sumV (pseudoV g.src g.dst g.proto u.size))):=rfl;have HEa:Hid (∀ C R ks W,w.z≤C→R≠C→(∀ e∈ks,e.1≠C)→Bxs w ((C,[iV (wordN (bt t) (checkP f.proto))])::(R,[.string (setPartV f.proto t),.string (setPartV g.proto u),.string (pseudoV f.src f.dst f.proto t.size),.string (pseudoV g.src g.dst g.proto u.size)])::ks) W→Calls Tryz.prog 173 #[.func (.func 174) #[.pointer (some ⟨C,0,none⟩)] #[],.slice (some ⟨R,0,none⟩) 2 2] W fun e w'=>e=.returned (.tuple #[])∧Bxs w ((C,[iV (turn1 (turn1 (wordN (bt t) (checkP f.proto)) (sumV (setPartV f.proto t)) (sumV (setPartV g.proto u))) (sumV (pseudoV f.src f.dst f.proto t.size)) (sumV (pseudoV g.src g.dst g.proto u.size)))])::(R,[.string (setPartV f.proto t),.string (setPartV g.proto u),.string (pseudoV f.src f.dst f.proto t.size),.string (pseudoV g.src g.dst g.proto u.size)])::ks) w'):=fun C R ks W h1 h2 h3 h4=>ipEach_any _ _ _ _ _ C R ks w W (by omega) (by omega) (by omega) (by omega) rc h1 h2 h3 h4
 generalize turn1 (turn1 (wordN (bt t) (checkP f.proto)) (sumV (setPartV f.proto t)) (sumV (setPartV g.proto u))) (sumV (pseudoV f.src f.dst f.proto t.size)) (sumV (pseudoV g.src g.dst g.proto u.size))=c2 at *;generalize checkI f g t u=ans at *;obtain ⟨c,hc⟩ : ∃ c,c=wordN (bt t) (checkP f.proto):=⟨_,rfl⟩;rw [← hc] at HWd HEa;generalize setPartV f.proto t=p1 at *;generalize setPartV g.proto u=p2 at *;generalize pseudoV f.src f.dst f.proto t.size=p3 at *;generalize pseudoV g.src g.dst g.proto u.size=p4 at *;generalize (checkP f.proto)=pl at *;clear hc rc fs fd fp gs gd gp s1 s2 s3 s4 hp;obtain ⟨proto,src,dst,sp,dp⟩:=f;obtain ⟨proto',src',dst',sp',dp'⟩:=g;unfold fwC;dsimp only at *;have HS0:=bx2 w (FlR proto src dst sp dp) 43 (FlR proto' src' dst' sp' dp') 43 (by simp) (by simp)
 skip;go_enter Tryz.func155,Tryz.ntmps155
 go_upto_region 1 with fail
 generalize World.alloc _ _=W0 at *;have HHk:=HS0.out.at mE0;obtain ⟨k0,k1,k2,k3,k4⟩:=HHk.c5;clear HHk;have hw0:w.z≤W0.heap.size:=HS0.out.b.size;have hf0:w.z < W0.heap.size:=(HS0.out.k _ mE0).lt (by simp);have hg0:w.z+1 < W0.heap.size:=(HS0.out.k _ mE1).lt (by simp);have HS1:Hid (Bxs w ((W0.heap.size,[iV c])::[(w.z,(FlR proto src dst sp dp)),(w.z+1,(FlR proto' src' dst' sp' dp'))]) (W0.alloc (.cells #[iV c] 190))):=HS0.out.push [iV c] (by simp) _;go_upto_region 2 with (first | (go_at_call 153; refine (HPl.out _).mono ?_; rintro e W0 ⟨rfl,rfl⟩) | (go_at_call 131; refine (HWd.out _).mono ?_; rintro e W0 ⟨rfl,rfl⟩))
 clear HS0 HPl HWd k0 k1 k2 k3 k4;generalize (W0.alloc (.cells #[iV c] 190))=W1 at *;generalize W0.heap.size=C at *;have hcl:C < W1.heap.size:=(HS1.out.k _ mE0).lt (by simp);go_cut [46] (fun v wx=>Bxs w [(C,[iV c2])] wx)
 case first =>
  rename_i J K2 hJ hK2;have HCP:Hid (∀ wy,Below W1.drew.heap.size W1.drew wy→_):=fun wy hy=>HS1.out.kept (bR.drew.trans hy)
  clear HS1 HV;refine wp_region_growV [16,17,18,19,20,21,22,23,24,25,26,27,28,29,30,31,32,33,34,35,36,37,38,39,40,41,42,43,44,45] (by kernel_rfl) (by kernel_rfl) ?_;iterate 8 (apply GChV.u rfl;(·intro K' a wy ho hd hb hK;simp [rAt,IsV,slot,Region.binds] at ho hd;have hst:=HCP.out wy hb;have kC:=(hst.at mE1).c3;have kC:=(hst.at mE2).c3;clear hst;go_simp;first|((try go_bits);exact hK _ _ rfl bQ)|(refine (HP1.out wy).mono ?_;rintro e wz ⟨rfl,hz⟩;exact hK _ _ rfl hz));dsimp only [nA,cA])
  iterate 10 (apply GChV.u rfl;(·intro K' a wy ho hd hb hK;simp [rAt,IsV,slot,Region.binds] at ho hd;have hst:=HCP.out wy hb;have kC:=(hst.at mE1).c3;have kC:=(hst.at mE2).c3;clear hst;go_simp;first|((try go_bits);exact hK _ _ rfl bQ)|(refine (HP2.out wy).mono ?_;rintro e wz ⟨rfl,hz⟩;exact hK _ _ rfl hz));dsimp only [nA,cA])
  iterate 9 (apply GChV.u rfl;(·intro K' a wy ho hd hb hK;simp [rAt,IsV,slot,Region.binds] at ho hd;have hst:=HCP.out wy hb;have kC:=(hst.at mE1).c3;have kC:=(hst.at mE2).c3;clear hst;go_simp;first|((try go_bits);exact hK _ _ rfl bQ)|(refine (HH1.out wy).mono ?_;rintro e wz ⟨rfl,hz⟩;exact hK _ _ rfl hz));dsimp only [nA,cA])
  iterate 2 (apply GChV.u rfl;(·intro K' a wy ho hd hb hK;simp [rAt,IsV,slot,Region.binds] at ho hd;go_simp;first|((try go_bits);exact hK _ _ rfl bQ)|(refine (HH2.out wy).mono ?_;rintro e wz ⟨rfl,hz⟩;exact hK _ _ rfl hz));dsimp only [nA,cA])
  refine GChV.rel (n:=29) (IsPr W1.drew.heap.size [.string p1,.string p2,.string p3,.string p4]) (stable_isPr _ _ (by simp)) [_,_,_,_,_,_,_,_,_,_,_,_,_,_,_,_,_,_,_,_,_,_,_,_,_,_,_,_,_,IsPr W1.drew.heap.size [.string p1,.string p2,.string p3,.string p4]] rfl rfl ?_ ?_
  ·intro K' a wy ho hd hb hK;rw [wN rfl];have q9:=hd ⟨9,.data⟩ (by simp) rfl;have q28:=hd ⟨28,.data⟩ (by simp) rfl;simp [rAt,IsV,slot] at q9 q28;clear hd ho;go_simp;exact hK _ _ ⟨wy.heap.size,rfl,hb.size,HoldsL.new wy [.string p1,.string p2,.string p3,.string p4] 195⟩ (bR.alloc lR _)
  intro X wz hR hz;obtain ⟨x0,x1,x2,x3,x4,x5,x6,x7,x8,x9,x10,x11,x12,x13,x14,x15,x16,x17,x18,x19,x20,x21,x22,x23,x24,x25,x26,x27,x28,x29,-⟩:=hR;obtain ⟨R,e29,b29,h29⟩:=x29;simp only [IsV] at x0 x1 x2 x3 x4 x5 x6 x7 x8 x9 x10 x11 x12 x13 x14 x15 x16 x17 x18 x19 x20 x21 x22 x23 x24 x25 x26 x27 x28;simp only [putsFrom,x0,x1,x2,x3,x4,x5,x6,x7,x8,x9,x10,x11,x12,x13,x14,x15,x16,x17,x18,x19,x20,x21,x22,x23,x24,x25,x26,x27,x28,e29];clear x0 x1 x2 x3 x4 x5 x6 x7 x8 x9 x10 x11 x12 x13 x14 x15 x16 x17 x18 x19 x20 x21 x22 x23 x24 x25 x26 x27 x28;have hst:=HCP.out wz hz;have hRC:R≠C:=by
   have:C < W1.drew.heap.size:=hcl;omega
  have HB5:Hid (Bxs w ((C,[iV c])::(R,[.string p1,.string p2,.string p3,.string p4])::[(w.z,(FlR proto src dst sp dp)),(w.z+1,(FlR proto' src' dst' sp' dp'))]) wz):=(hst.tl.cons h29 (by simp)).cons (hst.k _ mE0) (by simp);have HKS:Hid (∀ e∈([(w.z,(FlR proto src dst sp dp)),(w.z+1,(FlR proto' src' dst' sp' dp'))]:List (Nat × List Value)),e.1≠C):=fun e he=>by
   simp only [List.mem_cons,List.not_mem_nil,or_false] at he;rcases he with rfl | rfl<;>(show _≠C; omega)
  clear hst h29 HCP HP1 HP2 HH1 HH2;intro K10 hK10;go_simp;refine (HEa.out C R _ wz hw0 hRC HKS.out HB5.out).mono ?_;rintro e w5 ⟨rfl,hb5⟩;have HF:Hid (Bxs w [(C,[iV c2])] w5):=⟨fun e he=>by
   rw [List.mem_singleton] at he;rw [he]; exact hb5.k _ mE0,hb5.b,fun e he=>by
   rw [List.mem_singleton] at he;rw [he]; simp⟩
  clear hb5 HB5 HKS HEa;refine hK10 _ _ ?_;show Exit.then _ _ _ _ _;refine hK2 _ _ (hJ _ _ ?_);(repeat apply Exists.intro)
  exact ⟨HF.out,rfl⟩
 case rest =>
 have S6:Hid (Bxs w [(C,[iV c2])] wc):=hcut;clear hcut HS1 HP1 HP2 HH1 HH2 HEa;generalize wc=W6 at *;have HH6:=S6.out.at mE0;have z0:=HH6.cell (j:=0) rfl;clear HH6;have HFB:Hid (Below w.z w W6):=S6.out.b;clear S6;by_cases h0:c2=0
 case pos =>
  have d0:(c2==0)=true:=by simp [h0]
  have HX:Hid (ans=65535):=by unfold Hid; rw [HV.out,if_pos h0]
  clear h0 HV;go_wp2_with fail
  go_ret;exact ⟨ret_int (by rw [HX.out]),HFB.out⟩
 have d0:(c2==0)=false:=by simp [h0]
 have HX:Hid (ans=c2):=by unfold Hid; rw [HV.out,if_neg h0]
 clear h0 HV;go_wp2_with fail
 go_ret;exact ⟨ret_int (by rw [HX.out]),HFB.out⟩
end Go.Proofs.YtdkepkaflielhaaGreatDoor
