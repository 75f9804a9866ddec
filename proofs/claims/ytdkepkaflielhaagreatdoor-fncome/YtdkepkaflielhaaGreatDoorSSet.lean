import Derived.Test.YtdkepkaflielhaaGreatDoorSz
import Derived.Test.YtdkepkaflielhaaGreatDoorAb
import Derived.Test.YtdkepkaflielhaaGreatDoorUni
import Derived.Test.YtdkepkaflielhaaGreatDoorSPut
import Derived.Test.YtdkepkaflielhaaGreatDoorGrow
import Derived.RegionTactic
import Derived.Deep.RegionWith
import Derived.Deep.DeepCutAuto
set_option linter.unusedVariables false
set_option linter.unusedSimpArgs false
set_option maxRecDepth 100000
set_option maxHeartbeats 8000000
namespace Go.Proofs.YtdkepkaflielhaaGreatDoor
open Go.RowKit Go.PlainAid
structure SetW (w:World) (f g:Fl) (W:World):Prop where
 bf:BoxG W w.heap.size f
 bg:BoxG W (w.heap.size+1) g
 c0:W.cell? ⟨w.heap.size+1+1,0,none⟩=some eS
 f0:W.frozen? ⟨w.heap.size+1+1,0,none⟩=false
 c1:W.cell? ⟨w.heap.size+1+1,1,none⟩=some (iV 0)
 f1:W.frozen? ⟨w.heap.size+1+1,1,none⟩=false
 gr:Below w.heap.size w W
theorem SetW.kept {w W W':World} {f g:Fl} (h:SetW w f g W) (q:Below W.heap.size W W'):SetW w f g W':=by
 have hb:=World.block_lt_of_cell? W _ h.c0;obtain ⟨hc,hf⟩:=bcell q;exact ⟨h.bf.kept q,h.bg.kept q,(hc _ 0 hb).trans h.c0,(hf _ 0 hb).trans h.f0,(hc _ 1 hb).trans h.c1,(hf _ 1 hb).trans h.f1,h.gr.trans (q.mono h.gr.size)⟩
theorem SetW.new (w:World) (f g:Fl):SetW w f g (((w.alloc (.cells (FlV f).toArray 43)).alloc (.cells (FlV g).toArray 43)).alloc (.cells #[eS,iV 0] 55)):=by
 have q1:∀ (W:World) o,Below W.heap.size W (W.alloc o):=fun W o=>bR.alloc lR _
 have h0:Below w.z w ((w.alloc (.cells (FlV f).toArray 43)).alloc (.cells (FlV g).toArray 43)):=(bR.alloc lR _).alloc (by simp) _;have z1:∀ (W:World) o,(W.alloc o).heap.size=W.heap.size+1:=fun W o=>by simp
 have h1:=((BoxG.new w f (t:=43)).kept (q1 _ (.cells (FlV g).toArray 43))).kept (q1 _ (.cells #[eS,iV 0] 55));have h2:=(BoxG.new (w.alloc (.cells (FlV f).toArray 43)) g (t:=43)).kept (q1 _ (.cells #[eS,iV 0] 55));rw [z1] at h2;have z3:((w.alloc (.cells (FlV f).toArray 43)).alloc (.cells (FlV g).toArray 43)).heap.size=w.z+1+1:=by rw [z1,z1]
 generalize (w.alloc (.cells (FlV f).toArray 43)).alloc (.cells (FlV g).toArray 43)=V at *;refine ⟨h1,h2,by rw [← z3]; exact cell_new rfl,by rw [← z3]; simp,by rw [← z3]; exact cell_new rfl,by rw [← z3]; simp,h0.trans ((q1 V _).mono h0.size)⟩
def IsOne (x:Int):Value→World→Prop:=fun v w=>∃ b,v=.slice (some ⟨b,0,none⟩) 1 1∧w.cell? ⟨b,0,none⟩=some (.int .u8 x)
theorem stable_isOne (x:Int):Stable (IsOne x):=fun v w w' ⟨b,h1,h2⟩ hb=>⟨b,h1,((bcell hb).1 b 0 (World.block_lt_of_cell? w _ h2)).trans h2⟩
theorem one5_conv {w:World} {b cap:Nat} {x:Int} (hx:0≤x∧x≤255) (h0:w.cell? ⟨b,0,none⟩=some (.int .u8 x)) :
  (convert 22 9 (.slice (some ⟨b,0,none⟩) 1 cap)).run Tryz.prog w=.ok (.string (oneV x)) w :=
 run_convert_bytes_back (P:=Tryz.prog) w 22 9 5 ⟨b,0,none⟩ cap [UInt8.ofNat x.toNat] Tryz.underlying22 Tryz.underlying5 Tryz.underlying9 (by
  intro j hj;match j,hj with
  | 0,_=>simp only [Addr.add,Nat.add_zero,List.getElem_cons_zero]; rw [u8_ofNat _ hx.1 hx.2]; exact h0)
theorem partV_size (f:Fl) (t:ByteArray) (hs:f.src.size≤16) (hd:f.dst.size≤16):(partV f t).size≤44:=by
 have h:=pseudoV_size f.src f.dst f.proto t.size hs hd;unfold partV;split
 ·simp only [ByteArray.size_append,ByteArray.size_extract]; omega
 ·simp only [ByteArray.size_append,ByteArray.size_extract]; omega
theorem spSet_any (f g:Fl) (t:ByteArray) (w:World) (ht:t.size≤20000) (h8:8≤t.size) (hp:f.proto=6→20≤t.size) (fs:f.src.size≤16∧f.dst.size≤16) (gs:g.src.size≤16∧g.dst.size≤16) (fp:0≤f.proto∧f.proto≤255) (gp:0≤g.proto∧g.proto≤255) (gw:(0≤g.sp∧g.sp≤65535)∧(0≤g.dp∧g.dp≤65535)) :
  Cb 45 #[fwC f,fwC g,.string t] w (if bareUdp f t=true then (if g.src.size=16 then dtCO ⟨#[]⟩ 5 else dtCO (setOut f g t) 0) else dtCO (putV (setOut f g t) (checkP f.proto) (twoV (newCheck f g t))) 0):=by
 have HT1:Hid (∀ W,Cb 73 #[iV g.sp] W (.string (twoV g.sp))):=fun W=>specTwo_any _ W gw.1.1 gw.1.2
 have HT2:Hid (∀ W,Cb 73 #[iV g.dp] W (.string (twoV g.dp))):=fun W=>specTwo_any _ W gw.2.1 gw.2.2
 have hz:(twoV g.sp++twoV g.dp).size=4:=by rw [ByteArray.size_append]; rfl
 have HP1:Hid (∀ W,Cb 72 #[.string t,iV 0,.string (twoV g.sp++twoV g.dp)] W (.string (putV t 0 (twoV g.sp++twoV g.dp)))):=fun W=>spPut_any t 0 _ W (by omega) (by omega)
 have HE:Hid (∀ W,Cw 44 #[iV f.proto] W (.bool (echoP f.proto))):=fun W=>spEcho_any _ W
 have KW:Hid (SetW w f g (((w.alloc (.cells (FlV f).toArray 43)).alloc (.cells (FlV g).toArray 43)).alloc (.cells #[eS,iV 0] 55))):=SetW.new w f g;have n1:¬ 9223372036854775807 < (twoV g.sp).size+(twoV g.dp).size:=by rw [twoV_size,twoV_size]; omega
 have z1:=twoV_size g.sp;have z2:=twoV_size g.dp;generalize hans:(if bareUdp f t=true then (if g.src.size=16 then dtCO ⟨#[]⟩ 5 else dtCO (setOut f g t) 0) else dtCO (putV (setOut f g t) (checkP f.proto) (twoV (newCheck f g t))) 0)=ans;have HA:Hid _:=hans;clear hans;obtain ⟨proto,src,dst,sp,dp⟩:=f;obtain ⟨proto',src',dst',sp',dp'⟩:=g;unfold fwC;dsimp only at *;go_enter Tryz.func45,Tryz.ntmps45
 go_upto_region 1 with fail
 go_cut [7] (fun v wx=>v=.string (putV t 0 (twoV sp'++twoV dp'))∧SetW w ⟨proto,src,dst,sp,dp⟩ ⟨proto',src',dst',sp',dp'⟩ wx)
 case first =>
  rename_i J K2 hJ hK2;refine wp_region_growL (Rs:=[IsV (.string t),IsV (.pointer (some ⟨w.z+1,3,none⟩)),IsV (iV sp'),IsV (.string (twoV sp')),IsV (.pointer (some ⟨w.z+1,4,none⟩)),IsV (iV dp'),IsV (.string (twoV dp')),IsV (.string (twoV sp'++twoV dp')),IsV (.string (putV t 0 (twoV sp'++twoV dp'))),IsV (.string (putV t 0 (twoV sp'++twoV dp')))]) [12,13,14,15,16,17,18,19,20,7] (by kernel_rfl) (by kernel_rfl) rfl ?st ?steps ?done
  case st=>simp [stable_isV,stable_isRow]
  case steps =>
   refine ⟨?s0,?s1,?s2,?s3,?s4,?s5,?s6,?s7,?s8,?s9,trivial⟩
   case s0 =>
    intro K' a wy ho hd hb hK;have h3:=ho 2 (by decide);simp [slot] at h3;clear hd;go_simp;try go_bits
    exact hK _ _ rfl bR
   case s1 =>
    intro K' a wy ho hd hb hK;have h3:=ho 4 (by decide);simp [slot] at h3;clear hd;go_simp;try go_bits
    exact hK _ _ rfl bR
   case s2 =>
    intro K' a wy ho hd hb hK;simp [Region.binds,rAt,IsV,slot] at hd;obtain ⟨k0,y0,k1,y1,k2,y2,k3,y3,k4,y4⟩:=(KW.out.kept (Below.trans bR.drew hb)).bg;go_simp;try go_bits
    exact hK _ _ rfl bR
   case s3 =>
    intro K' a wy ho hd hb hK;simp [Region.binds,rAt,IsV,slot] at hd;go_simp;refine (HT1.out wy).mono ?_;rintro e wz ⟨rfl,hz⟩;exact hK _ _ rfl hz
   case s4 =>
    intro K' a wy ho hd hb hK;have h3:=ho 4 (by decide);simp [slot] at h3;clear hd;go_simp;try go_bits
    exact hK _ _ rfl bR
   case s5 =>
    intro K' a wy ho hd hb hK;simp [Region.binds,rAt,IsV,slot] at hd;obtain ⟨k0,y0,k1,y1,k2,y2,k3,y3,k4,y4⟩:=(KW.out.kept (Below.trans bR.drew hb)).bg;go_simp;try go_bits
    exact hK _ _ rfl bR
   case s6 =>
    intro K' a wy ho hd hb hK;simp [Region.binds,rAt,IsV,slot] at hd;go_simp;refine (HT2.out wy).mono ?_;rintro e wz ⟨rfl,hz⟩;exact hK _ _ rfl hz
   case s7 =>
    intro K' a wy ho hd hb hK;simp [Region.binds,rAt,IsV,slot] at hd;go_simp;try go_bits
    exact hK _ _ rfl bR
   case s8 =>
    intro K' a wy ho hd hb hK;simp [Region.binds,rAt,IsV,slot] at hd;go_simp;refine (HP1.out wy).mono ?_;rintro e wz ⟨rfl,hz⟩;exact hK _ _ rfl hz
   case s9 =>
    intro K' a wy ho hd hb hK;simp [Region.binds,rAt,IsV,slot] at hd;go_simp;try go_bits
    exact hK _ _ rfl bR
  case done =>
   intro X wz hR hz;simp only [List.nil_append,List.cons_append,RAll,IsV] at hR;simp only [putsFrom,hR];clear hR;go_simp;refine hK2 _ _ (hJ _ _ ?_);(repeat apply Exists.intro)
   refine ⟨⟨rfl,KW.out.kept (bR.drew.trans hz)⟩,rfl⟩
 case rest =>
 obtain ⟨rfl,hKW⟩:=hcut;have KW1:Hid _:=hKW;clear hKW KW HT2 HP1 n1;have HO:Hid (setOut ⟨proto,src,dst,sp,dp⟩ ⟨proto',src',dst',sp',dp'⟩ t=if echoP proto=true then putV (putV t 0 (oneV (firstV8 ⟨proto,src,dst,sp,dp⟩ ⟨proto',src',dst',sp',dp'⟩ t))) 4 (twoV sp') else putV t 0 (twoV sp'++twoV dp')):=rfl;have HNC:Hid (newCheck ⟨proto,src,dst,sp,dp⟩ ⟨proto',src',dst',sp',dp'⟩ t=if 65535-add1 (add1 (65535-wordN (bt t) (checkP proto)) (65535-sumV (partV ⟨proto,src,dst,sp,dp⟩ t))) (sumV (partV ⟨proto',src',dst',sp',dp'⟩ (setOut ⟨proto,src,dst,sp,dp⟩ ⟨proto',src',dst',sp',dp'⟩ t)))=0 then 65535 else 65535-add1 (add1 (65535-wordN (bt t) (checkP proto)) (65535-sumV (partV ⟨proto,src,dst,sp,dp⟩ t))) (sumV (partV ⟨proto',src',dst',sp',dp'⟩ (setOut ⟨proto,src,dst,sp,dp⟩ ⟨proto',src',dst',sp',dp'⟩ t)))):=rfl;have hoz:(setOut ⟨proto,src,dst,sp,dp⟩ ⟨proto',src',dst',sp',dp'⟩ t).size=t.size:=by
  rw [HO.out];have q1:∀ x,(putV t 0 (oneV x)).size=t.size:=fun x=>putV_size (by rw [show (oneV x).size=1 from rfl]; omega)
  split
  ·rw [putV_size (by rw [q1,z1]; omega),q1]
  ·exact putV_size (by omega)
 have HF:Hid (firstV8 ⟨proto,src,dst,sp,dp⟩ ⟨proto',src',dst',sp',dp'⟩ t=if proto≠proto' then (if bt t 0=8 then 128 else if bt t 0=0 then 129 else if bt t 0=128 then 8 else 0) else bt t 0):=rfl;generalize setOut ⟨proto,src,dst,sp,dp⟩ ⟨proto',src',dst',sp',dp'⟩ t=out at *;generalize firstV8 ⟨proto,src,dst,sp,dp⟩ ⟨proto',src',dst',sp',dp'⟩ t=fi at *;obtain ⟨k0,y0,k1,y1,k2,y2,k3,y3,k4,y4⟩:=KW1.out.bf;dsimp only at k0 k1 k2 k3 k4;go_wp2_with fail
 refine (HE.out _).mono ?_;rintro e w2 ⟨rfl,rfl⟩;go_upto_if 23 with fail
 go_cut [7] (fun v wx=>v=.string out∧SetW w ⟨proto,src,dst,sp,dp⟩ ⟨proto',src',dst',sp',dp'⟩ wx)
 case first =>
  clear HA HNC HE
  cases a:echoP proto with
  | false =>
   replace HO:Hid (out=putV t 0 (twoV sp'++twoV dp')):=by unfold Hid; rw [HO.out,if_neg (by rw [a]; decide)]
   go_wp2_with fail
   go_meet;exact ⟨by rw [HO.out],KW1.out⟩
  | true =>
   replace HO:Hid (out=putV (putV t 0 (oneV fi)) 4 (twoV sp')):=by unfold Hid; rw [HO.out,if_pos a]
   obtain ⟨j0,x0,j1,x1,j2,x2,j3,x3,j4,x4⟩:=KW1.out.bg;dsimp only at j0 j1 j2 j3 j4;have hb:=get_bt t;have b0:=bt_isByte t 0;have hfi:0≤fi∧fi≤255:=by
    rw [HF.out];split
    ·split
     ·omega
     ·split
      ·omega
      ·split<;>omega
    ·exact b0
   go_upto_if 30 with fail
   go_cut [8] (fun v wx=>v=.int .u8 fi∧wx=w2)
   case first =>
    clear HO;by_cases e1:proto=proto'
    ·have d1:(proto != proto')=false:=by simp [e1]
     have hB:fi=bt t 0:=by rw [HF.out,if_neg (by simp [e1])]
     clear HF e1;subst hB;go_wp2_with fail
     go_meet;exact ⟨rfl,rfl⟩
    ·have d1:(proto != proto')=true:=by simp [e1]
     have hB:fi=(if bt t 0=8 then 128 else if bt t 0=0 then 129 else if bt t 0=128 then 8 else 0):=by rw [HF.out,if_pos e1]
     clear HF e1;by_cases c1:bt t 0=8
     ·have d2:(bt t 0==8)=true:=by simp [c1]
      rw [if_pos c1] at hB;clear c1;subst hB;go_wp2_with fail
      go_meet;exact ⟨rfl,rfl⟩
     ·have d2:(bt t 0==8)=false:=by simp [c1]
      rw [if_neg c1] at hB;by_cases c2:bt t 0=0
      ·have d3:(bt t 0==0)=true:=by simp [c2]
       rw [if_pos c2] at hB;clear c1 c2;subst hB;go_wp2_with fail
       go_meet;exact ⟨rfl,rfl⟩
      ·have d3:(bt t 0==0)=false:=by simp [c2]
       rw [if_neg c2] at hB;by_cases c3:bt t 0=128
       ·have d4:(bt t 0==128)=true:=by simp [c3]
        rw [if_pos c3] at hB;clear c1 c2 c3;subst hB;go_wp2_with fail
        go_meet;exact ⟨rfl,rfl⟩
       ·have d4:(bt t 0==128)=false:=by simp [c3]
        rw [if_neg c3] at hB;clear c1 c2 c3;subst hB;go_wp2_with fail
        go_meet;exact ⟨rfl,rfl⟩
   case rest =>
   obtain ⟨rfl,rfl⟩:=hcut;clear HF;have q1:(putV t 0 (oneV fi)).size=t.size:=putV_size (by rw [show (oneV fi).size=1 from rfl]; omega);have HP2:Hid (∀ W,Cb 72 #[.string t,iV 0,.string (oneV fi)] W (.string (putV t 0 (oneV fi)))):=fun W=>spPut_any t 0 _ W (by rw [show (oneV fi).size=1 from rfl]; omega) (by omega)
   have HP3:Hid (∀ W,Cb 72 #[.string (putV t 0 (oneV fi)),iV 4,.string (twoV sp')] W (.string (putV (putV t 0 (oneV fi)) 4 (twoV sp')))):=fun W=>spPut_any _ 4 _ W (by omega) (by omega)
   rw [← HO.out] at HP3;clear HO;generalize putV t 0 (oneV fi)=out0 at *;go_upto_region 13 with fail
   go_cut [7] (fun v wx=>v=.string out∧SetW w ⟨proto,src,dst,sp,dp⟩ ⟨proto',src',dst',sp',dp'⟩ wx)
   case first =>
    rename_i J K2 hJ hK2;clear k0 y0 k1 y1 k2 y2 k3 y3 k4 y4 j0 x0 j1 x1 j2 x2 j3 x3 j4 x4;refine wp_region_growL (Rs:=[IsV (.string t),IsV (.int .u8 fi),IsOne fi,IsV (.string (oneV fi)),IsV (.string out0),IsV (.pointer (some ⟨w.z+1,3,none⟩)),IsV (iV sp'),IsV (.string (twoV sp')),IsV (.string out),IsV (.string out)]) [39,40,41,42,43,44,45,46,47,7] (by kernel_rfl) (by kernel_rfl) rfl ?st ?steps ?done
    case st=>simp [stable_isV,stable_isOne]
    case steps =>
     refine ⟨?s0,?s1,?s2,?s3,?s4,?s5,?s6,?s7,?s8,?s9,trivial⟩
     case s0 =>
      intro K' a wy ho hd hb hK;have h3:=ho 2 (by decide);simp [slot] at h3;clear hd;go_simp;try go_bits
      exact hK _ _ rfl bR
     case s1 =>
      intro K' a wy ho hd hb hK;have h3:=ho 8 (by decide);simp [slot] at h3;clear hd;go_simp;try go_bits
      exact hK _ _ rfl bR
     case s2 =>
      intro K' a wy ho hd hb hK;simp [Region.binds,rAt,IsV,slot] at hd;go_simp;exact hK _ _ ⟨wy.heap.size,rfl,by simp⟩ (bR.alloc lR _)
     case s3 =>
      intro K' a wy ho hd hb hK;simp only [List.forall_mem_singleton,Array.mem_def,List.mem_singleton,forall_eq] at hd;obtain ⟨b,hd1,hd2⟩ : IsOne fi (slot a 41) wy:=hd rfl;have hcv:=one5_conv (cap:=1) hfi hd2;simp [slot] at hd1;go_simp;try go_bits
      exact hK _ _ rfl bR
     case s4 =>
      intro K' a wy ho hd hb hK;simp [Region.binds,rAt,IsV,slot] at hd;go_simp;refine (HP2.out wy).mono ?_;rintro e wz ⟨rfl,hz⟩;exact hK _ _ rfl hz
     case s5 =>
      intro K' a wy ho hd hb hK;have h3:=ho 4 (by decide);simp [slot] at h3;clear hd;go_simp;try go_bits
      exact hK _ _ rfl bR
     case s6 =>
      intro K' a wy ho hd hb hK;simp [Region.binds,rAt,IsV,slot] at hd;obtain ⟨k0,y0,k1,y1,k2,y2,k3,y3,k4,y4⟩:=(KW1.out.kept (Below.trans bR.drew hb)).bg;go_simp;try go_bits
      exact hK _ _ rfl bR
     case s7 =>
      intro K' a wy ho hd hb hK;simp [Region.binds,rAt,IsV,slot] at hd;go_simp;refine (HT1.out wy).mono ?_;rintro e wz ⟨rfl,hz⟩;exact hK _ _ rfl hz
     case s8 =>
      intro K' a wy ho hd hb hK;simp [Region.binds,rAt,IsV,slot] at hd;go_simp;refine (HP3.out wy).mono ?_;rintro e wz ⟨rfl,hz⟩;exact hK _ _ rfl hz
     case s9 =>
      intro K' a wy ho hd hb hK;simp [Region.binds,rAt,IsV,slot] at hd;go_simp;try go_bits
      exact hK _ _ rfl bR
    case done =>
     intro X wz hR hz;obtain ⟨x0,x1,⟨b2,x2,-⟩,x3,x4,x5,x6,x7,x8,x9,-⟩:=hR;simp only [IsV] at x0 x1 x3 x4 x5 x6 x7 x8 x9;simp only [putsFrom,x0,x1,x2,x3,x4,x5,x6,x7,x8,x9];clear x0 x1 x2 x3 x4 x5 x6 x7 x8 x9;go_simp;refine hK2 _ _ (hJ _ _ ?_);(repeat apply Exists.intro)
     refine ⟨⟨rfl,KW1.out.kept (bR.drew.trans hz)⟩,rfl⟩
   case rest =>
   obtain ⟨rfl,hKW⟩:=hcut;go_wp2_with fail
   go_meet;exact ⟨rfl,hKW⟩
 case rest =>
 obtain ⟨rfl,hKW⟩:=hcut;clear KW1 k0 y0 k1 y1 k2 y2 k3 y3 k4 y4 HO HF HE HT1;have KW1:Hid _:=hKW;clear hKW;obtain ⟨k0,y0,k1,y1,k2,y2,k3,y3,k4,y4⟩:=KW1.out.bf;dsimp only at k0 k1 k2 k3 k4
 ·have HK:Hid (∀ W,Cw 74 #[iV proto] W (iV (checkP proto:Nat))):=fun W=>spCheck_any _ W
  have hck:checkP proto+1 < t.size:=by
   unfold checkP;split
   ·have:=hp (by assumption); omega
   ·split<;>omega
  have HAt:Hid (∀ W,Cb 42 #[.string t,iV (checkP proto:Nat)] W (iV (wordN (bt t) (checkP proto)))):=fun W=>specAt_any t _ W hck (by unfold maxLen; omega)
  have hcw:=wordN_range (bt_isByte t) (checkP proto);have HPut:Hid (∀ (n:Int) W,Cb 72 #[.string out,iV (checkP proto:Nat),.string (twoV n)] W (.string (putV out (checkP proto) (twoV n)))):=fun n W=>spPut_any out _ _ W (by rw [twoV_size]; omega) (by omega)
  have HBd:Hid (bareUdp ⟨proto,src,dst,sp,dp⟩ t=(decide (proto=17)&&decide (wordN (bt t) (checkP proto)=0)&&decide (src.size=4))):=rfl;generalize checkP proto=ck at *;generalize wordN (bt t) ck=cw at *;generalize bareUdp ⟨proto,src,dst,sp,dp⟩ t=bare at *;go_wp2_with fail
  refine (HK.out _).mono ?_;rintro e w3 ⟨rfl,rfl⟩;go_wp2_with fail
  refine (HAt.out _).mono ?_;rintro e w4 ⟨rfl,q4⟩;have KW4:Hid _:=KW1.out.kept q4;clear q4 KW1 k0 y0 k1 y1 k2 y2 k3 y3 k4 y4 HK HAt;obtain ⟨k0,y0,k1,y1,k2,y2,k3,y3,k4,y4⟩:=KW4.out.bf;dsimp only at k0 k1 k2 k3 k4;go_upto_region 16 with fail
  go_cut [66] (fun c wx=>c=.bool bare∧wx=w4)
  case first =>
   clear HA HNC HPut;by_cases c1:proto=17
   ·have d1:(proto==17)=true:=by simp [c1]
    by_cases c2:cw=0
    ·have d2:(cw==0)=true:=by simp [c2]
     by_cases c3:src.size=4
     ·have d3:((src.size:Int)==4)=true:=by simp; omega
      have hB:bare=true:=by rw [HBd.out,decide_eq_true c1,decide_eq_true c2,decide_eq_true c3]; rfl
      clear HBd c1 c2 c3;subst hB;go_wp2_with fail
      go_meet;exact ⟨rfl,rfl⟩
     ·have d3:((src.size:Int)==4)=false:=by simp; omega
      have hB:bare=false:=by rw [HBd.out,decide_eq_false c3]; simp
      clear HBd c1 c2 c3;subst hB;go_wp2_with fail
      go_meet;exact ⟨rfl,rfl⟩
    ·have d2:(cw==0)=false:=by simp [c2]
     have hB:bare=false:=by rw [HBd.out,decide_eq_false c2]; simp
     clear HBd c1 c2;subst hB;go_wp2_with fail
     go_meet;exact ⟨rfl,rfl⟩
   ·have d1:(proto==17)=false:=by simp [c1]
    have hB:bare=false:=by rw [HBd.out,decide_eq_false c1]; simp
    clear HBd c1;subst hB;go_wp2_with fail
    go_meet;exact ⟨rfl,rfl⟩
  case rest =>
  obtain ⟨rfl,rfl⟩:=hcut;clear HBd
  cases bare with
  | true =>
   clear HNC HPut;obtain ⟨j0,x0,j1,x1,j2,x2,j3,x3,j4,x4⟩:=KW4.out.bg;dsimp only at j0 j1 j2 j3 j4;have o0:=KW4.out.c0;have o1:=KW4.out.c1;have v0:=KW4.out.f0;have v1:=KW4.out.f1;have G4:Hid _:=KW4.out.gr;by_cases c5:src'.size=16
   ·have d5:((src'.size:Int)==16)=true:=by simp; omega
    replace HA:Hid (dtCO ⟨#[]⟩ 5=ans):=by have h:=HA.out; rw [if_pos rfl,if_pos c5] at h; exact h
    go_wp2_with fail
    refine bodyPost_ret (v:=dtCO ⟨#[]⟩ 5) (by simp [results,Tryz.results45,go_sem,dtCO,o0,o1]) rfl ⟨by rw [HA.out],?_⟩;exact (G4.out.setCell (Nat.le_add_right _ 2) _).setCell (Nat.le_add_right _ 2) _
   ·have d5:((src'.size:Int)==16)=false:=by simp; omega
    replace HA:Hid (dtCO out 0=ans):=by have h:=HA.out; rw [if_pos rfl,if_neg c5] at h; exact h
    go_wp2_with fail
    refine bodyPost_ret (v:=dtCO out 0) (by simp [results,Tryz.results45,go_sem,dtCO,o0,o1]) rfl ⟨by rw [HA.out],?_⟩;exact (G4.out.setCell (Nat.le_add_right _ 2) _).setCell (Nat.le_add_right _ 2) _
  | false =>
   replace HA:Hid (dtCO (putV out ck (twoV (newCheck ⟨proto,src,dst,sp,dp⟩ ⟨proto',src',dst',sp',dp'⟩ t))) 0=ans):=HA.out;have HPf:Hid (∀ W,Cb 76 #[.agg (FlR proto src dst sp dp).toArray,.string t] W (.string (partV ⟨proto,src,dst,sp,dp⟩ t))):=fun W=>spPart_any ⟨proto,src,dst,sp,dp⟩ t W fs.1 fs.2 fp (by omega) h8
   have HPg:Hid (∀ W,Cb 76 #[.agg (FlR proto' src' dst' sp' dp').toArray,.string out] W (.string (partV ⟨proto',src',dst',sp',dp'⟩ out))):=fun W=>spPart_any ⟨proto',src',dst',sp',dp'⟩ out W gs.1 gs.2 gp (by omega) (by omega)
   have HSf:Hid (∀ W,Cb 70 #[.string (partV ⟨proto,src,dst,sp,dp⟩ t)] W (iV (sumV (partV ⟨proto,src,dst,sp,dp⟩ t)))):=fun W=>(specSum1_any _ W (by have:=partV_size ⟨proto,src,dst,sp,dp⟩ t fs.1 fs.2; omega)).mono (fun e w' h=>⟨h.1,h.2 ▸ Below.refl _ _⟩)
   have HSg:Hid (∀ W,Cb 70 #[.string (partV ⟨proto',src',dst',sp',dp'⟩ out)] W (iV (sumV (partV ⟨proto',src',dst',sp',dp'⟩ out)))):=fun W=>(specSum1_any _ W (by have:=partV_size ⟨proto',src',dst',sp',dp'⟩ out gs.1 gs.2; omega)).mono (fun e w' h=>⟨h.1,h.2 ▸ Below.refl _ _⟩)
   have r1:=sumV_range (partV ⟨proto,src,dst,sp,dp⟩ t);have r2:=sumV_range (partV ⟨proto',src',dst',sp',dp'⟩ out);generalize sumV (partV ⟨proto,src,dst,sp,dp⟩ t)=s1 at *;generalize sumV (partV ⟨proto',src',dst',sp',dp'⟩ out)=s2 at *;generalize partV ⟨proto,src,dst,sp,dp⟩ t=pf at *;generalize partV ⟨proto',src',dst',sp',dp'⟩ out=pg at *;generalize newCheck ⟨proto,src,dst,sp,dp⟩ ⟨proto',src',dst',sp',dp'⟩ t=nc at *;have ra:=add1_range (a:=65535-cw) (b:=65535-s1) (by omega) (by omega) (by omega) (by omega);have HAd1:Hid (∀ W,Cb 75 #[iV (65535-cw),iV (65535-s1)] W (iV (add1 (65535-cw) (65535-s1)))):=fun W=>(specAdd_any _ _ W (by omega) (by omega) (by omega) (by omega)).mono (fun e w' h=>⟨h.1,h.2 ▸ Below.refl _ _⟩)
   generalize add1 (65535-cw) (65535-s1)=a1 at *;have rb:=add1_range (a:=a1) (b:=s2) (by omega) (by omega) (by omega) (by omega);have HAd2:Hid (∀ W,Cb 75 #[iV a1,iV s2] W (iV (add1 a1 s2))):=fun W=>(specAdd_any _ _ W (by omega) (by omega) (by omega) (by omega)).mono (fun e w' h=>⟨h.1,h.2 ▸ Below.refl _ _⟩)
   generalize add1 a1 s2=a2 at *;clear k0 y0 k1 y1 k2 y2 k3 y3 k4 y4;go_upto_region 20 with fail
   go_cut [11] (fun v wx=>v=iV (65535-a2)∧SetW w ⟨proto,src,dst,sp,dp⟩ ⟨proto',src',dst',sp',dp'⟩ wx)
   case first =>
    rename_i J K2 hJ hK2;refine wp_region_growL (Rs:=[IsV (iV cw),IsV (iV (65535-cw)),IsV (.agg (FlR proto src dst sp dp).toArray),IsV (.string t),IsV (.string pf),IsV (iV s1),IsV (iV (65535-s1)),IsV (iV a1),IsV (.agg (FlR proto' src' dst' sp' dp').toArray),IsV (.string out),IsV (.string pg),IsV (iV s2),IsV (iV a2),IsV (iV (65535-a2)),IsV (iV (65535-a2))]) [74,75,76,77,78,79,80,81,82,83,84,85,86,87,11] (by kernel_rfl) (by kernel_rfl) rfl ?st ?steps ?done
    case st=>simp [stable_isV,stable_isRow]
    case steps =>
     refine ⟨?s0,?s1,?s2,?s3,?s4,?s5,?s6,?s7,?s8,?s9,?s10,?s11,?s12,?s13,?s14,trivial⟩
     case s0 =>
      intro K' a wy ho hd hb hK;have h3:=ho 10 (by decide);simp [slot] at h3;clear hd;go_simp;try go_bits
      exact hK _ _ rfl bR
     case s1 =>
      intro K' a wy ho hd hb hK;simp [Region.binds,rAt,IsV,slot] at hd;go_simp;try go_bits
      exact hK _ _ rfl bR
     case s2 =>
      intro K' a wy ho hd hb hK;have h3:=ho 3 (by decide);simp [slot] at h3;clear hd;obtain ⟨k0,y0,k1,y1,k2,y2,k3,y3,k4,y4⟩:=(KW4.out.kept (Below.trans bR.drew hb)).bf;go_simp;try go_bits
      exact hK _ _ rfl bR
     case s3 =>
      intro K' a wy ho hd hb hK;have h3:=ho 2 (by decide);simp [slot] at h3;clear hd;go_simp;try go_bits
      exact hK _ _ rfl bR
     case s4 =>
      intro K' a wy ho hd hb hK;simp [Region.binds,rAt,IsV,slot] at hd;go_simp;refine (HPf.out wy).mono ?_;rintro e wz ⟨rfl,hz⟩;exact hK _ _ rfl hz
     case s5 =>
      intro K' a wy ho hd hb hK;simp [Region.binds,rAt,IsV,slot] at hd;go_simp;refine (HSf.out wy).mono ?_;rintro e wz ⟨rfl,hz⟩;exact hK _ _ rfl hz
     case s6 =>
      intro K' a wy ho hd hb hK;simp [Region.binds,rAt,IsV,slot] at hd;go_simp;try go_bits
      exact hK _ _ rfl bR
     case s7 =>
      intro K' a wy ho hd hb hK;simp [Region.binds,rAt,IsV,slot] at hd;go_simp;refine (HAd1.out wy).mono ?_;rintro e wz ⟨rfl,hz⟩;exact hK _ _ rfl hz
     case s8 =>
      intro K' a wy ho hd hb hK;have h3:=ho 4 (by decide);simp [slot] at h3;clear hd;obtain ⟨k0,y0,k1,y1,k2,y2,k3,y3,k4,y4⟩:=(KW4.out.kept (Below.trans bR.drew hb)).bg;go_simp;try go_bits
      exact hK _ _ rfl bR
     case s9 =>
      intro K' a wy ho hd hb hK;have h3:=ho 7 (by decide);simp [slot] at h3;clear hd;go_simp;try go_bits
      exact hK _ _ rfl bR
     case s10 =>
      intro K' a wy ho hd hb hK;simp [Region.binds,rAt,IsV,slot] at hd;go_simp;refine (HPg.out wy).mono ?_;rintro e wz ⟨rfl,hz⟩;exact hK _ _ rfl hz
     case s11 =>
      intro K' a wy ho hd hb hK;simp [Region.binds,rAt,IsV,slot] at hd;go_simp;refine (HSg.out wy).mono ?_;rintro e wz ⟨rfl,hz⟩;exact hK _ _ rfl hz
     case s12 =>
      intro K' a wy ho hd hb hK;simp [Region.binds,rAt,IsV,slot] at hd;go_simp;refine (HAd2.out wy).mono ?_;rintro e wz ⟨rfl,hz⟩;exact hK _ _ rfl hz
     case s13 =>
      intro K' a wy ho hd hb hK;simp [Region.binds,rAt,IsV,slot] at hd;go_simp;try go_bits
      exact hK _ _ rfl bR
     case s14 =>
      intro K' a wy ho hd hb hK;simp [Region.binds,rAt,IsV,slot] at hd;go_simp;try go_bits
      exact hK _ _ rfl bR
    case done =>
     intro X wz hR hz;simp only [List.nil_append,List.cons_append,RAll,IsV] at hR;simp only [putsFrom,hR];clear hR;go_simp;refine hK2 _ _ (hJ _ _ ?_);(repeat apply Exists.intro)
     refine ⟨⟨rfl,KW4.out.kept (bR.drew.trans hz)⟩,rfl⟩
   case rest =>
   obtain ⟨rfl,hKW⟩:=hcut;have KW5:Hid _:=hKW;clear hKW KW4 HPf HPg HSf HSg HAd1 HAd2;have o0:=KW5.out.c0;have o1:=KW5.out.c1;have v0:=KW5.out.f0;have v1:=KW5.out.f1;have HTn:Hid (∀ W,Cb 73 #[iV nc] W (.string (twoV nc))):=fun W=>specTwo_any _ W (by rw [HNC.out]; split<;>omega) (by rw [HNC.out]; split<;>omega)
   have HPn:Hid _:=HPut.out nc;clear HPut;by_cases c6:65535-a2=0
   ·have d6:(65535-a2==0)=true:=by simp; omega
    have hnc:nc=65535:=by rw [HNC.out,if_pos c6]
    clear HNC;subst hnc;go_wp2_with fail
    refine (HTn.out _).mono ?_;rintro e w6 ⟨rfl,q6⟩;have KW6:Hid _:=KW5.out.kept q6;clear q6;go_wp2_with fail
    refine (HPn.out _).mono ?_;rintro e w7 ⟨rfl,q7⟩;have KW7:Hid _:=KW6.out.kept q7;clear q7 KW6 KW5 o0 o1 v0 v1;have o0:=KW7.out.c0;have o1:=KW7.out.c1;have v0:=KW7.out.f0;have v1:=KW7.out.f1;go_wp2_with fail
    refine bodyPost_ret (v:=dtCO (putV out ck (twoV 65535)) 0) (by simp [results,Tryz.results45,go_sem,dtCO,o0,o1]) rfl ⟨by rw [← HA.out],?_⟩;exact (KW7.out.gr.setCell (Nat.le_add_right _ 2) _).setCell (Nat.le_add_right _ 2) _
   ·have d6:(65535-a2==0)=false:=by simp; omega
    have hnc:nc=65535-a2:=by rw [HNC.out,if_neg c6]
    clear HNC;subst hnc;go_wp2_with fail
    refine (HTn.out _).mono ?_;rintro e w6 ⟨rfl,q6⟩;have KW6:Hid _:=KW5.out.kept q6;clear q6;go_wp2_with fail
    refine (HPn.out _).mono ?_;rintro e w7 ⟨rfl,q7⟩;have KW7:Hid _:=KW6.out.kept q7;clear q7 KW6 KW5 o0 o1 v0 v1;have o0:=KW7.out.c0;have o1:=KW7.out.c1;have v0:=KW7.out.f0;have v1:=KW7.out.f1;go_wp2_with fail
    refine bodyPost_ret (v:=dtCO (putV out ck (twoV (65535-a2))) 0) (by simp [results,Tryz.results45,go_sem,dtCO,o0,o1]) rfl ⟨by rw [← HA.out],?_⟩;exact (KW7.out.gr.setCell (Nat.le_add_right _ 2) _).setCell (Nat.le_add_right _ 2) _
end Go.Proofs.YtdkepkaflielhaaGreatDoor
