import Derived.Test.YtdkepkaflielhaaGreatDoorMerged25
set_option linter.unusedVariables false
set_option linter.unusedSimpArgs false
set_option maxRecDepth 100000
set_option maxHeartbeats 8000000
namespace Go.Proofs.YtdkepkaflielhaaGreatDoor
open Go.RowKit Go.PlainAid
structure SetW (w:World) (f g:Fl) (W:World):Prop where
 bf:BoxG W w.heap.size f
 bg:BoxG W (w.heap.size+1) g
 c0:W.cell? ⟨w.heap.size+1+1,0,none⟩=some eS
 f0:W.frozen? ⟨w.heap.size+1+1,0,none⟩=false
 c1:W.cell? ⟨w.heap.size+1+1,1,none⟩=some (iV 0)
 f1:W.frozen? ⟨w.heap.size+1+1,1,none⟩=false
 gr:Below w.heap.size w W
theorem SetW.kept {w W W':World} {f g:Fl} (h:SetW w f g W) (q:Below W.heap.size W W'):SetW w f g W':=by
 have hb:=World.block_lt_of_cell? W _ h.c0;obtain ⟨hc,hf⟩:=bcell q;exact ⟨h.bf.kept q,h.bg.kept q,(hc _ 0 hb).trans h.c0,(hf _ 0 hb).trans h.f0,(hc _ 1 hb).trans h.c1,(hf _ 1 hb).trans h.f1,h.gr.trans (q.mono h.gr.size)⟩
theorem SetW.new (w:World) (f g:Fl):SetW w f g (((w.alloc (.cells (FlV f).toArray 43)).alloc (.cells (FlV g).toArray 43)).alloc (.cells #[eS,iV 0] 55)):=by
 have q1:∀ (W:World) o,Below W.heap.size W (W.alloc o):=fun W o=>bR.alloc lR _
 have h0:Below w.heap.size w ((w.alloc (.cells (FlV f).toArray 43)).alloc (.cells (FlV g).toArray 43)):=(bR.alloc lR _).alloc (by simp) _;have z1:∀ (W:World) o,(W.alloc o).heap.size=W.heap.size+1:=fun W o=>by simp
 have h1:=((BoxG.new w f (t:=43)).kept (q1 _ (.cells (FlV g).toArray 43))).kept (q1 _ (.cells #[eS,iV 0] 55));have h2:=(BoxG.new (w.alloc (.cells (FlV f).toArray 43)) g (t:=43)).kept (q1 _ (.cells #[eS,iV 0] 55));rw [z1] at h2;have z3:((w.alloc (.cells (FlV f).toArray 43)).alloc (.cells (FlV g).toArray 43)).heap.size=w.heap.size+1+1:=by rw [z1,z1]
 generalize (w.alloc (.cells (FlV f).toArray 43)).alloc (.cells (FlV g).toArray 43)=V at *;refine ⟨h1,h2,by rw [← z3]; exact cell_new rfl,by rw [← z3]; simp,by rw [← z3]; exact cell_new rfl,by rw [← z3]; simp,h0.trans ((q1 V _).mono h0.size)⟩
def IsOne (x:Int):Value→World→Prop:=fun v w=>∃ b,v=.slice (some ⟨b,0,none⟩) 1 1∧w.cell? ⟨b,0,none⟩=some (.int .u8 x)
theorem stable_isOne (x:Int):Stable (IsOne x):=fun v w w' ⟨b,h1,h2⟩ hb=>⟨b,h1,((bcell hb).1 b 0 (World.block_lt_of_cell? w _ h2)).trans h2⟩
theorem one5_conv {w:World} {b cap:Nat} {x:Int} (hx:0≤x∧x≤255) (h0:w.cell? ⟨b,0,none⟩=some (.int .u8 x)) :
  (convert 22 9 (.slice (some ⟨b,0,none⟩) 1 cap)).run Tryz.prog w=.ok (.string (oneV x)) w :=
 run_convert_bytes_back (P:=Tryz.prog) w 22 9 5 ⟨b,0,none⟩ cap [UInt8.ofNat x.toNat] Tryz.underlying22 Tryz.underlying5 Tryz.underlying9 (by
  intro j hj;match j,hj with
  | 0,_=>simp only [Addr.add,Nat.add_zero,List.getElem_cons_zero]; rw [u8_ofNat _ hx.1 hx.2]; exact h0)
theorem partV_size (f:Fl) (t:ByteArray) (hs:f.src.size≤16) (hd:f.dst.size≤16):(partV f t).size≤44:=by
 have h:=pseudoV_size f.src f.dst f.proto t.size hs hd;unfold partV;split
 ·simp only [ByteArray.size_append,ByteArray.size_extract]; omega
 ·simp only [ByteArray.size_append,ByteArray.size_extract]; omega
theorem spSet_any (f g:Fl) (t:ByteArray) (w:World) (ht:t.size≤20000) (h8:8≤t.size) (hp:f.proto=6→20≤t.size) (fs:f.src.size≤16∧f.dst.size≤16) (gs:g.src.size≤16∧g.dst.size≤16) (fp:0≤f.proto∧f.proto≤255) (gp:0≤g.proto∧g.proto≤255) (gw:(0≤g.sp∧g.sp≤65535)∧(0≤g.dp∧g.dp≤65535)) :
  Cb 45 #[fwC f,fwC g,.string t] w (if bareUdp f t=true then (if g.src.size=16 then dtCO ⟨#[]⟩ 5 else dtCO (setOut f g t) 0) else dtCO (putV (setOut f g t) (checkP f.proto) (twoV (newCheck f g t))) 0):=by
 have HT1:Hid (∀ W,Cb 73 #[iV g.sp] W (.string (twoV g.sp))):=fun W=>specTwo_any _ W gw.1.1 gw.1.2
 have HT2:Hid (∀ W,Cb 73 #[iV g.dp] W (.string (twoV g.dp))):=fun W=>specTwo_any _ W gw.2.1 gw.2.2
 have hz:(twoV g.sp++twoV g.dp).size=4:=by rw [ByteArray.size_append]; rfl
 have HP1:Hid (∀ W,Cb 72 #[.string t,iV 0,.string (twoV g.sp++twoV g.dp)] W (.string (putV t 0 (twoV g.sp++twoV g.dp)))):=fun W=>spPut_any t 0 _ W (by omega) (by omega)
 have HE:Hid (∀ W,Cw 44 #[iV f.proto] W (.bool (echoP f.proto))):=fun W=>spEcho_any _ W
 have KW:Hid (SetW w f g (((w.alloc (.cells (FlV f).toArray 43)).alloc (.cells (FlV g).toArray 43)).alloc (.cells #[eS,iV 0] 55))):=SetW.new w f g;have n1:¬ 9223372036854775807 < (twoV g.sp).size+(twoV g.dp).size:=by rw [twoV_size,twoV_size]; omega
 have z1:=twoV_size g.sp;have z2:=twoV_size g.dp;generalize hans:(if bareUdp f t=true then (if g.src.size=16 then dtCO ⟨#[]⟩ 5 else dtCO (setOut f g t) 0) else dtCO (putV (setOut f g t) (checkP f.proto) (twoV (newCheck f g t))) 0)=ans;have HA:Hid _:=hans;clear hans;obtain ⟨proto,src,dst,sp,dp⟩:=f;obtain ⟨proto',src',dst',sp',dp'⟩:=g;unfold fwC;dsimp only at *;go_enter Tryz.func45,Tryz.ntmps45
 go_upto_region 1 with fail
 go_cut [7] (fun v wx=>v=.string (putV t 0 (twoV sp'++twoV dp'))∧SetW w ⟨proto,src,dst,sp,dp⟩ ⟨proto',src',dst',sp',dp'⟩ wx)
 case first =>
  rename_i J K2 hJ hK2;refine wp_region_growL (Rs:=[IsV (.string t),IsV (.pointer (some ⟨w.heap.size+1,3,none⟩)),IsV (iV sp'),IsV (.string (twoV sp')),IsV (.pointer (some ⟨w.heap.size+1,4,none⟩)),IsV (iV dp'),IsV (.string (twoV dp')),IsV (.string (twoV sp'++twoV dp')),IsV (.string (putV t 0 (twoV sp'++twoV dp'))),IsV (.string (putV t 0 (twoV sp'++twoV dp')))]) [12,13,14,15,16,17,18,19,20,7] (by kernel_rfl) (by kernel_rfl) rfl ?st ?steps ?done
  case st=>simp [stable_isV,stable_isRow]
  case steps =>
   refine ⟨?s0,?s1,?s2,?s3,?s4,?s5,?s6,?s7,?s8,?s9,trivial⟩
   case s0 =>
    intro K' a wy ho hd hb hK;have h3:=ho 2 (by decide);simp [slot] at h3;clear hd;go_simp;try go_bits
    exact hK _ _ rfl bR
   case s1 =>
    intro K' a wy ho hd hb hK;have h3:=ho 4 (by decide);simp [slot] at h3;clear hd;go_simp;try go_bits
    exact hK _ _ rfl bR
   case s2 =>
    intro K' a wy ho hd hb hK;simp [Region.binds,rAt,IsV,slot] at hd;obtain ⟨k0,y0,k1,y1,k2,y2,k3,y3,k4,y4⟩:=(KW.out.kept (Below.trans bR.drew hb)).bg;go_simp;try go_bits
    exact hK _ _ rfl bR
   case s3 =>
    intro K' a wy ho hd hb hK;simp [Region.binds,rAt,IsV,slot] at hd;go_simp;refine (HT1.out wy).mono ?_;rintro e wz ⟨rfl,hz⟩;exact hK _ _ rfl hz
   case s4 =>
    intro K' a wy ho hd hb hK;have h3:=ho 4 (by decide);simp [slot] at h3;clear hd;go_simp;try go_bits
    exact hK _ _ rfl bR
   case s5 =>
    intro K' a wy ho hd hb hK;simp [Region.binds,rAt,IsV,slot] at hd;obtain ⟨k0,y0,k1,y1,k2,y2,k3,y3,k4,y4⟩:=(KW.out.kept (Below.trans bR.drew hb)).bg;go_simp;try go_bits
    exact hK _ _ rfl bR
   case s6 =>
    intro K' a wy ho hd hb hK;simp [Region.binds,rAt,IsV,slot] at hd;go_simp;refine (HT2.out wy).mono ?_;rintro e wz ⟨rfl,hz⟩;exact hK _ _ rfl hz
   case s7 =>
    intro K' a wy ho hd hb hK;simp [Region.binds,rAt,IsV,slot] at hd;go_simp;try go_bits
    exact hK _ _ rfl bR
   case s8 =>
    intro K' a wy ho hd hb hK;simp [Region.binds,rAt,IsV,slot] at hd;go_simp;refine (HP1.out wy).mono ?_;rintro e wz ⟨rfl,hz⟩;exact hK _ _ rfl hz
   case s9 =>
    intro K' a wy ho hd hb hK;simp [Region.binds,rAt,IsV,slot] at hd;go_simp;try go_bits
    exact hK _ _ rfl bR
  case done =>
   intro X wz hR hz;simp only [List.nil_append,List.cons_append,RAll,IsV] at hR;simp only [putsFrom,hR];clear hR;go_simp;refine hK2 _ _ (hJ _ _ ?_);(repeat apply Exists.intro)
   refine ⟨⟨rfl,KW.out.kept (bR.drew.trans hz)⟩,rfl⟩
 case rest =>
 obtain ⟨rfl,hKW⟩:=hcut;have KW1:Hid _:=hKW;clear hKW KW HT2 HP1 n1;have HO:Hid (setOut ⟨proto,src,dst,sp,dp⟩ ⟨proto',src',dst',sp',dp'⟩ t=if echoP proto=true then putV (putV t 0 (oneV (firstV8 ⟨proto,src,dst,sp,dp⟩ ⟨proto',src',dst',sp',dp'⟩ t))) 4 (twoV sp') else putV t 0 (twoV sp'++twoV dp')):=rfl;have HNC:Hid (newCheck ⟨proto,src,dst,sp,dp⟩ ⟨proto',src',dst',sp',dp'⟩ t=if 65535-add1 (add1 (65535-wordN (bt t) (checkP proto)) (65535-sumV (partV ⟨proto,src,dst,sp,dp⟩ t))) (sumV (partV ⟨proto',src',dst',sp',dp'⟩ (setOut ⟨proto,src,dst,sp,dp⟩ ⟨proto',src',dst',sp',dp'⟩ t)))=0 then 65535 else 65535-add1 (add1 (65535-wordN (bt t) (checkP proto)) (65535-sumV (partV ⟨proto,src,dst,sp,dp⟩ t))) (sumV (partV ⟨proto',src',dst',sp',dp'⟩ (setOut ⟨proto,src,dst,sp,dp⟩ ⟨proto',src',dst',sp',dp'⟩ t)))):=rfl;have hoz:(setOut ⟨proto,src,dst,sp,dp⟩ ⟨proto',src',dst',sp',dp'⟩ t).size=t.size:=by
  rw [HO.out];have q1:∀ x,(putV t 0 (oneV x)).size=t.size:=fun x=>putV_size (by rw [show (oneV x).size=1 from rfl]; omega)
  split
  ·rw [putV_size (by rw [q1,z1]; omega),q1]
  ·exact putV_size (by omega)
 have HF:Hid (firstV8 ⟨proto,src,dst,sp,dp⟩ ⟨proto',src',dst',sp',dp'⟩ t=if proto≠proto' then (if bt t 0=8 then 128 else if bt t 0=0 then 129 else if bt t 0=128 then 8 else 0) else bt t 0):=rfl;generalize setOut ⟨proto,src,dst,sp,dp⟩ ⟨proto',src',dst',sp',dp'⟩ t=out at *;generalize firstV8 ⟨proto,src,dst,sp,dp⟩ ⟨proto',src',dst',sp',dp'⟩ t=fi at *;obtain ⟨k0,y0,k1,y1,k2,y2,k3,y3,k4,y4⟩:=KW1.out.bf;dsimp only at k0 k1 k2 k3 k4;go_wp2_with fail
 refine (HE.out _).mono ?_;rintro e w2 ⟨rfl,rfl⟩;go_upto_if 23 with fail
 go_cut [7] (fun v wx=>v=.string out∧SetW w ⟨proto,src,dst,sp,dp⟩ ⟨proto',src',dst',sp',dp'⟩ wx)
 case first =>
  clear HA HNC HE
  cases a:echoP proto with
  | false =>
   replace HO:Hid (out=putV t 0 (twoV sp'++twoV dp')):=by unfold Hid; rw [HO.out,if_neg (by rw [a]; decide)]
   go_wp2_with fail
   go_meet;exact ⟨by rw [HO.out],KW1.out⟩
  | true =>
   replace HO:Hid (out=putV (putV t 0 (oneV fi)) 4 (twoV sp')):=by unfold Hid; rw [HO.out,if_pos a]
   obtain ⟨j0,x0,j1,x1,j2,x2,j3,x3,j4,x4⟩:=KW1.out.bg;dsimp only at j0 j1 j2 j3 j4;have hb:=get_bt t;have b0:=bt_isByte t 0;have hfi:0≤fi∧fi≤255:=by
    rw [HF.out];split
    ·split
     ·omega
     ·split
      ·omega
      ·split<;>omega
    ·exact b0
   go_upto_if 30 with fail
   go_cut [8] (fun v wx=>v=.int .u8 fi∧wx=w2)
   case first =>
    clear HO;by_cases e1:proto=proto'
    ·have d1:(proto != proto')=false:=by simp [e1]
     have hB:fi=bt t 0:=by rw [HF.out,if_neg (by simp [e1])]
     clear HF e1;subst hB;go_wp2_with fail
     go_meet;exact ⟨rfl,rfl⟩
    ·have d1:(proto != proto')=true:=by simp [e1]
     have hB:fi=(if bt t 0=8 then 128 else if bt t 0=0 then 129 else if bt t 0=128 then 8 else 0):=by rw [HF.out,if_pos e1]
     clear HF e1;by_cases c1:bt t 0=8
     ·have d2:(bt t 0==8)=true:=by simp [c1]
      rw [if_pos c1] at hB;clear c1;subst hB;go_wp2_with fail
      go_meet;exact ⟨rfl,rfl⟩
     ·have d2:(bt t 0==8)=false:=by simp [c1]
      rw [if_neg c1] at hB;by_cases c2:bt t 0=0
      ·have d3:(bt t 0==0)=true:=by simp [c2]
       rw [if_pos c2] at hB;clear c1 c2;subst hB;go_wp2_with fail
       go_meet;exact ⟨rfl,rfl⟩
      ·have d3:(bt t 0==0)=false:=by simp [c2]
       rw [if_neg c2] at hB;by_cases c3:bt t 0=128
       ·have d4:(bt t 0==128)=true:=by simp [c3]
        rw [if_pos c3] at hB;clear c1 c2 c3;subst hB;go_wp2_with fail
        go_meet;exact ⟨rfl,rfl⟩
       ·have d4:(bt t 0==128)=false:=by simp [c3]
        rw [if_neg c3] at hB;clear c1 c2 c3;subst hB;go_wp2_with fail
        go_meet;exact ⟨rfl,rfl⟩
   case rest =>
   obtain ⟨rfl,rfl⟩:=hcut;clear HF;have q1:(putV t 0 (oneV fi)).size=t.size:=putV_size (by rw [show (oneV fi).size=1 from rfl]; omega);have HP2:Hid (∀ W,Cb 72 #[.string t,iV 0,.string (oneV fi)] W (.string (putV t 0 (oneV fi)))):=fun W=>spPut_any t 0 _ W (by rw [show (oneV fi).size=1 from rfl]; omega) (by omega)
   have HP3:Hid (∀ W,Cb 72 #[.string (putV t 0 (oneV fi)),iV 4,.string (twoV sp')] W (.string (putV (putV t 0 (oneV fi)) 4 (twoV sp')))):=fun W=>spPut_any _ 4 _ W (by omega) (by omega)
   rw [← HO.out] at HP3;clear HO;generalize putV t 0 (oneV fi)=out0 at *;go_upto_region 13 with fail
   go_cut [7] (fun v wx=>v=.string out∧SetW w ⟨proto,src,dst,sp,dp⟩ ⟨proto',src',dst',sp',dp'⟩ wx)
   case first =>
    rename_i J K2 hJ hK2;clear k0 y0 k1 y1 k2 y2 k3 y3 k4 y4 j0 x0 j1 x1 j2 x2 j3 x3 j4 x4;refine wp_region_growL (Rs:=[IsV (.string t),IsV (.int .u8 fi),IsOne fi,IsV (.string (oneV fi)),IsV (.string out0),IsV (.pointer (some ⟨w.heap.size+1,3,none⟩)),IsV (iV sp'),IsV (.string (twoV sp')),IsV (.string out),IsV (.string out)]) [39,40,41,42,43,44,45,46,47,7] (by kernel_rfl) (by kernel_rfl) rfl ?st ?steps ?done
    case st=>simp [stable_isV,stable_isOne]
    case steps =>
     refine ⟨?s0,?s1,?s2,?s3,?s4,?s5,?s6,?s7,?s8,?s9,trivial⟩
     case s0 =>
      intro K' a wy ho hd hb hK;have h3:=ho 2 (by decide);simp [slot] at h3;clear hd;go_simp;try go_bits
      exact hK _ _ rfl bR
     case s1 =>
      intro K' a wy ho hd hb hK;have h3:=ho 8 (by decide);simp [slot] at h3;clear hd;go_simp;try go_bits
      exact hK _ _ rfl bR
     case s2 =>
      intro K' a wy ho hd hb hK;simp [Region.binds,rAt,IsV,slot] at hd;go_simp;exact hK _ _ ⟨wy.heap.size,rfl,by simp⟩ (bR.alloc lR _)
     case s3 =>
      intro K' a wy ho hd hb hK;simp only [List.forall_mem_singleton,Array.mem_def,List.mem_singleton,forall_eq] at hd;obtain ⟨b,hd1,hd2⟩ : IsOne fi (slot a 41) wy:=hd rfl;have hcv:=one5_conv (cap:=1) hfi hd2;simp [slot] at hd1;go_simp;try go_bits
      exact hK _ _ rfl bR
     case s4 =>
      intro K' a wy ho hd hb hK;simp [Region.binds,rAt,IsV,slot] at hd;go_simp;refine (HP2.out wy).mono ?_;rintro e wz ⟨rfl,hz⟩;exact hK _ _ rfl hz
     case s5 =>
      intro K' a wy ho hd hb hK;have h3:=ho 4 (by decide);simp [slot] at h3;clear hd;go_simp;try go_bits
      exact hK _ _ rfl bR
     case s6 =>
      intro K' a wy ho hd hb hK;simp [Region.binds,rAt,IsV,slot] at hd;obtain ⟨k0,y0,k1,y1,k2,y2,k3,y3,k4,y4⟩:=(KW1.out.kept (Below.trans bR.drew hb)).bg;go_simp;try go_bits
      exact hK _ _ rfl bR
     case s7 =>
      intro K' a wy ho hd hb hK;simp [Region.binds,rAt,IsV,slot] at hd;go_simp;refine (HT1.out wy).mono ?_;rintro e wz ⟨rfl,hz⟩;exact hK _ _ rfl hz
     case s8 =>
      intro K' a wy ho hd hb hK;simp [Region.binds,rAt,IsV,slot] at hd;go_simp;refine (HP3.out wy).mono ?_;rintro e wz ⟨rfl,hz⟩;exact hK _ _ rfl hz
     case s9 =>
      intro K' a wy ho hd hb hK;simp [Region.binds,rAt,IsV,slot] at hd;go_simp;try go_bits
      exact hK _ _ rfl bR
    case done =>
     intro X wz hR hz;obtain ⟨x0,x1,⟨b2,x2,-⟩,x3,x4,x5,x6,x7,x8,x9,-⟩:=hR;simp only [IsV] at x0 x1 x3 x4 x5 x6 x7 x8 x9;simp only [putsFrom,x0,x1,x2,x3,x4,x5,x6,x7,x8,x9];clear x0 x1 x2 x3 x4 x5 x6 x7 x8 x9;go_simp;refine hK2 _ _ (hJ _ _ ?_);(repeat apply Exists.intro)
     refine ⟨⟨rfl,KW1.out.kept (bR.drew.trans hz)⟩,rfl⟩
   case rest =>
   obtain ⟨rfl,hKW⟩:=hcut;go_wp2_with fail
   go_meet;exact ⟨rfl,hKW⟩
 case rest =>
 obtain ⟨rfl,hKW⟩:=hcut;clear KW1 k0 y0 k1 y1 k2 y2 k3 y3 k4 y4 HO HF HE HT1;have KW1:Hid _:=hKW;clear hKW;obtain ⟨k0,y0,k1,y1,k2,y2,k3,y3,k4,y4⟩:=KW1.out.bf;dsimp only at k0 k1 k2 k3 k4
 ·have HK:Hid (∀ W,Cw 74 #[iV proto] W (iV (checkP proto:Nat))):=fun W=>spCheck_any _ W
  have hck:checkP proto+1 < t.size:=by
   unfold checkP;split
   ·have:=hp (by assumption); omega
   ·split<;>omega
  have HAt:Hid (∀ W,Cb 42 #[.string t,iV (checkP proto:Nat)] W (iV (wordN (bt t) (checkP proto)))):=fun W=>specAt_any t _ W hck (by unfold maxLen; omega)
  have hcw:=wordN_range (bt_isByte t) (checkP proto);have HPut:Hid (∀ (n:Int) W,Cb 72 #[.string out,iV (checkP proto:Nat),.string (twoV n)] W (.string (putV out (checkP proto) (twoV n)))):=fun n W=>spPut_any out _ _ W (by rw [twoV_size]; omega) (by omega)
  have HBd:Hid (bareUdp ⟨proto,src,dst,sp,dp⟩ t=(decide (proto=17)&&decide (wordN (bt t) (checkP proto)=0)&&decide (src.size=4))):=rfl;generalize checkP proto=ck at *;generalize wordN (bt t) ck=cw at *;generalize bareUdp ⟨proto,src,dst,sp,dp⟩ t=bare at *;go_wp2_with fail
  refine (HK.out _).mono ?_;rintro e w3 ⟨rfl,rfl⟩;go_wp2_with fail
  refine (HAt.out _).mono ?_;rintro e w4 ⟨rfl,q4⟩;have KW4:Hid _:=KW1.out.kept q4;clear q4 KW1 k0 y0 k1 y1 k2 y2 k3 y3 k4 y4 HK HAt;obtain ⟨k0,y0,k1,y1,k2,y2,k3,y3,k4,y4⟩:=KW4.out.bf;dsimp only at k0 k1 k2 k3 k4;go_upto_region 16 with fail
  go_cut [66] (fun c wx=>c=.bool bare∧wx=w4)
  case first =>
   clear HA HNC HPut;by_cases c1:proto=17
   ·have d1:(proto==17)=true:=by simp [c1]
    by_cases c2:cw=0
    ·have d2:(cw==0)=true:=by simp [c2]
     by_cases c3:src.size=4
     ·have d3:((src.size:Int)==4)=true:=by simp; omega
      have hB:bare=true:=by rw [HBd.out,decide_eq_true c1,decide_eq_true c2,decide_eq_true c3]; rfl
      clear HBd c1 c2 c3;subst hB;go_wp2_with fail
      go_meet;exact ⟨rfl,rfl⟩
     ·have d3:((src.size:Int)==4)=false:=by simp; omega
      have hB:bare=false:=by rw [HBd.out,decide_eq_false c3]; simp
      clear HBd c1 c2 c3;subst hB;go_wp2_with fail
      go_meet;exact ⟨rfl,rfl⟩
    ·have d2:(cw==0)=false:=by simp [c2]
     have hB:bare=false:=by rw [HBd.out,decide_eq_false c2]; simp
     clear HBd c1 c2;subst hB;go_wp2_with fail
     go_meet;exact ⟨rfl,rfl⟩
   ·have d1:(proto==17)=false:=by simp [c1]
    have hB:bare=false:=by rw [HBd.out,decide_eq_false c1]; simp
    clear HBd c1;subst hB;go_wp2_with fail
    go_meet;exact ⟨rfl,rfl⟩
  case rest =>
  obtain ⟨rfl,rfl⟩:=hcut;clear HBd
  cases bare with
  | true =>
   clear HNC HPut;obtain ⟨j0,x0,j1,x1,j2,x2,j3,x3,j4,x4⟩:=KW4.out.bg;dsimp only at j0 j1 j2 j3 j4;have o0:=KW4.out.c0;have o1:=KW4.out.c1;have v0:=KW4.out.f0;have v1:=KW4.out.f1;have G4:Hid _:=KW4.out.gr;by_cases c5:src'.size=16
   ·have d5:((src'.size:Int)==16)=true:=by simp; omega
    replace HA:Hid (dtCO ⟨#[]⟩ 5=ans):=by have h:=HA.out; rw [if_pos rfl,if_pos c5] at h; exact h
    go_wp2_with fail
    refine bodyPost_ret (v:=dtCO ⟨#[]⟩ 5) (by simp [results,Tryz.results45,go_sem,dtCO,o0,o1]) rfl ⟨by rw [HA.out],?_⟩;exact (G4.out.setCell (Nat.le_add_right _ 2) _).setCell (Nat.le_add_right _ 2) _
   ·have d5:((src'.size:Int)==16)=false:=by simp; omega
    replace HA:Hid (dtCO out 0=ans):=by have h:=HA.out; rw [if_pos rfl,if_neg c5] at h; exact h
    go_wp2_with fail
    refine bodyPost_ret (v:=dtCO out 0) (by simp [results,Tryz.results45,go_sem,dtCO,o0,o1]) rfl ⟨by rw [HA.out],?_⟩;exact (G4.out.setCell (Nat.le_add_right _ 2) _).setCell (Nat.le_add_right _ 2) _
  | false =>
   replace HA:Hid (dtCO (putV out ck (twoV (newCheck ⟨proto,src,dst,sp,dp⟩ ⟨proto',src',dst',sp',dp'⟩ t))) 0=ans):=HA.out;have HPf:Hid (∀ W,Cb 76 #[.agg (FlR proto src dst sp dp).toArray,.string t] W (.string (partV ⟨proto,src,dst,sp,dp⟩ t))):=fun W=>spPart_any ⟨proto,src,dst,sp,dp⟩ t W fs.1 fs.2 fp (by omega) h8
   have HPg:Hid (∀ W,Cb 76 #[.agg (FlR proto' src' dst' sp' dp').toArray,.string out] W (.string (partV ⟨proto',src',dst',sp',dp'⟩ out))):=fun W=>spPart_any ⟨proto',src',dst',sp',dp'⟩ out W gs.1 gs.2 gp (by omega) (by omega)
   have HSf:Hid (∀ W,Cb 70 #[.string (partV ⟨proto,src,dst,sp,dp⟩ t)] W (iV (sumV (partV ⟨proto,src,dst,sp,dp⟩ t)))):=fun W=>(specSum1_any _ W (by have:=partV_size ⟨proto,src,dst,sp,dp⟩ t fs.1 fs.2; omega)).mono (fun e w' h=>⟨h.1,h.2 ▸ Below.refl _ _⟩)
   have HSg:Hid (∀ W,Cb 70 #[.string (partV ⟨proto',src',dst',sp',dp'⟩ out)] W (iV (sumV (partV ⟨proto',src',dst',sp',dp'⟩ out)))):=fun W=>(specSum1_any _ W (by have:=partV_size ⟨proto',src',dst',sp',dp'⟩ out gs.1 gs.2; omega)).mono (fun e w' h=>⟨h.1,h.2 ▸ Below.refl _ _⟩)
   have r1:=sumV_range (partV ⟨proto,src,dst,sp,dp⟩ t);have r2:=sumV_range (partV ⟨proto',src',dst',sp',dp'⟩ out);generalize sumV (partV ⟨proto,src,dst,sp,dp⟩ t)=s1 at *;generalize sumV (partV ⟨proto',src',dst',sp',dp'⟩ out)=s2 at *;generalize partV ⟨proto,src,dst,sp,dp⟩ t=pf at *;generalize partV ⟨proto',src',dst',sp',dp'⟩ out=pg at *;generalize newCheck ⟨proto,src,dst,sp,dp⟩ ⟨proto',src',dst',sp',dp'⟩ t=nc at *;have ra:=add1_range (a:=65535-cw) (b:=65535-s1) (by omega) (by omega) (by omega) (by omega);have HAd1:Hid (∀ W,Cb 75 #[iV (65535-cw),iV (65535-s1)] W (iV (add1 (65535-cw) (65535-s1)))):=fun W=>(specAdd_any _ _ W (by omega) (by omega) (by omega) (by omega)).mono (fun e w' h=>⟨h.1,h.2 ▸ Below.refl _ _⟩)
   generalize add1 (65535-cw) (65535-s1)=a1 at *;have rb:=add1_range (a:=a1) (b:=s2) (by omega) (by omega) (by omega) (by omega);have HAd2:Hid (∀ W,Cb 75 #[iV a1,iV s2] W (iV (add1 a1 s2))):=fun W=>(specAdd_any _ _ W (by omega) (by omega) (by omega) (by omega)).mono (fun e w' h=>⟨h.1,h.2 ▸ Below.refl _ _⟩)
   generalize add1 a1 s2=a2 at *;clear k0 y0 k1 y1 k2 y2 k3 y3 k4 y4;go_upto_region 20 with fail
   go_cut [11] (fun v wx=>v=iV (65535-a2)∧SetW w ⟨proto,src,dst,sp,dp⟩ ⟨proto',src',dst',sp',dp'⟩ wx)
   case first =>
    rename_i J K2 hJ hK2;refine wp_region_growL (Rs:=[IsV (iV cw),IsV (iV (65535-cw)),IsV (.agg (FlR proto src dst sp dp).toArray),IsV (.string t),IsV (.string pf),IsV (iV s1),IsV (iV (65535-s1)),IsV (iV a1),IsV (.agg (FlR proto' src' dst' sp' dp').toArray),IsV (.string out),IsV (.string pg),IsV (iV s2),IsV (iV a2),IsV (iV (65535-a2)),IsV (iV (65535-a2))]) [74,75,76,77,78,79,80,81,82,83,84,85,86,87,11] (by kernel_rfl) (by kernel_rfl) rfl ?st ?steps ?done
    case st=>simp [stable_isV,stable_isRow]
    case steps =>
     refine ⟨?s0,?s1,?s2,?s3,?s4,?s5,?s6,?s7,?s8,?s9,?s10,?s11,?s12,?s13,?s14,trivial⟩
     case s0 =>
      intro K' a wy ho hd hb hK;have h3:=ho 10 (by decide);simp [slot] at h3;clear hd;go_simp;try go_bits
      exact hK _ _ rfl bR
     case s1 =>
      intro K' a wy ho hd hb hK;simp [Region.binds,rAt,IsV,slot] at hd;go_simp;try go_bits
      exact hK _ _ rfl bR
     case s2 =>
      intro K' a wy ho hd hb hK;have h3:=ho 3 (by decide);simp [slot] at h3;clear hd;obtain ⟨k0,y0,k1,y1,k2,y2,k3,y3,k4,y4⟩:=(KW4.out.kept (Below.trans bR.drew hb)).bf;go_simp;try go_bits
      exact hK _ _ rfl bR
     case s3 =>
      intro K' a wy ho hd hb hK;have h3:=ho 2 (by decide);simp [slot] at h3;clear hd;go_simp;try go_bits
      exact hK _ _ rfl bR
     case s4 =>
      intro K' a wy ho hd hb hK;simp [Region.binds,rAt,IsV,slot] at hd;go_simp;refine (HPf.out wy).mono ?_;rintro e wz ⟨rfl,hz⟩;exact hK _ _ rfl hz
     case s5 =>
      intro K' a wy ho hd hb hK;simp [Region.binds,rAt,IsV,slot] at hd;go_simp;refine (HSf.out wy).mono ?_;rintro e wz ⟨rfl,hz⟩;exact hK _ _ rfl hz
     case s6 =>
      intro K' a wy ho hd hb hK;simp [Region.binds,rAt,IsV,slot] at hd;go_simp;try go_bits
      exact hK _ _ rfl bR
     case s7 =>
      intro K' a wy ho hd hb hK;simp [Region.binds,rAt,IsV,slot] at hd;go_simp;refine (HAd1.out wy).mono ?_;rintro e wz ⟨rfl,hz⟩;exact hK _ _ rfl hz
     case s8 =>
      intro K' a wy ho hd hb hK;have h3:=ho 4 (by decide);simp [slot] at h3;clear hd;obtain ⟨k0,y0,k1,y1,k2,y2,k3,y3,k4,y4⟩:=(KW4.out.kept (Below.trans bR.drew hb)).bg;go_simp;try go_bits
      exact hK _ _ rfl bR
     case s9 =>
      intro K' a wy ho hd hb hK;have h3:=ho 7 (by decide);simp [slot] at h3;clear hd;go_simp;try go_bits
      exact hK _ _ rfl bR
     case s10 =>
      intro K' a wy ho hd hb hK;simp [Region.binds,rAt,IsV,slot] at hd;go_simp;refine (HPg.out wy).mono ?_;rintro e wz ⟨rfl,hz⟩;exact hK _ _ rfl hz
     case s11 =>
      intro K' a wy ho hd hb hK;simp [Region.binds,rAt,IsV,slot] at hd;go_simp;refine (HSg.out wy).mono ?_;rintro e wz ⟨rfl,hz⟩;exact hK _ _ rfl hz
     case s12 =>
      intro K' a wy ho hd hb hK;simp [Region.binds,rAt,IsV,slot] at hd;go_simp;refine (HAd2.out wy).mono ?_;rintro e wz ⟨rfl,hz⟩;exact hK _ _ rfl hz
     case s13 =>
      intro K' a wy ho hd hb hK;simp [Region.binds,rAt,IsV,slot] at hd;go_simp;try go_bits
      exact hK _ _ rfl bR
     case s14 =>
      intro K' a wy ho hd hb hK;simp [Region.binds,rAt,IsV,slot] at hd;go_simp;try go_bits
      exact hK _ _ rfl bR
    case done =>
     intro X wz hR hz;simp only [List.nil_append,List.cons_append,RAll,IsV] at hR;simp only [putsFrom,hR];clear hR;go_simp;refine hK2 _ _ (hJ _ _ ?_);(repeat apply Exists.intro)
     refine ⟨⟨rfl,KW4.out.kept (bR.drew.trans hz)⟩,rfl⟩
   case rest =>
   obtain ⟨rfl,hKW⟩:=hcut;have KW5:Hid _:=hKW;clear hKW KW4 HPf HPg HSf HSg HAd1 HAd2;have o0:=KW5.out.c0;have o1:=KW5.out.c1;have v0:=KW5.out.f0;have v1:=KW5.out.f1;have HTn:Hid (∀ W,Cb 73 #[iV nc] W (.string (twoV nc))):=fun W=>specTwo_any _ W (by rw [HNC.out]; split<;>omega) (by rw [HNC.out]; split<;>omega)
   have HPn:Hid _:=HPut.out nc;clear HPut;by_cases c6:65535-a2=0
   ·have d6:(65535-a2==0)=true:=by simp; omega
    have hnc:nc=65535:=by rw [HNC.out,if_pos c6]
    clear HNC;subst hnc;go_wp2_with fail
    refine (HTn.out _).mono ?_;rintro e w6 ⟨rfl,q6⟩;have KW6:Hid _:=KW5.out.kept q6;clear q6;go_wp2_with fail
    refine (HPn.out _).mono ?_;rintro e w7 ⟨rfl,q7⟩;have KW7:Hid _:=KW6.out.kept q7;clear q7 KW6 KW5 o0 o1 v0 v1;have o0:=KW7.out.c0;have o1:=KW7.out.c1;have v0:=KW7.out.f0;have v1:=KW7.out.f1;go_wp2_with fail
    refine bodyPost_ret (v:=dtCO (putV out ck (twoV 65535)) 0) (by simp [results,Tryz.results45,go_sem,dtCO,o0,o1]) rfl ⟨by rw [← HA.out],?_⟩;exact (KW7.out.gr.setCell (Nat.le_add_right _ 2) _).setCell (Nat.le_add_right _ 2) _
   ·have d6:(65535-a2==0)=false:=by simp; omega
    have hnc:nc=65535-a2:=by rw [HNC.out,if_neg c6]
    clear HNC;subst hnc;go_wp2_with fail
    refine (HTn.out _).mono ?_;rintro e w6 ⟨rfl,q6⟩;have KW6:Hid _:=KW5.out.kept q6;clear q6;go_wp2_with fail
    refine (HPn.out _).mono ?_;rintro e w7 ⟨rfl,q7⟩;have KW7:Hid _:=KW6.out.kept q7;clear q7 KW6 KW5 o0 o1 v0 v1;have o0:=KW7.out.c0;have o1:=KW7.out.c1;have v0:=KW7.out.f0;have v1:=KW7.out.f1;go_wp2_with fail
    refine bodyPost_ret (v:=dtCO (putV out ck (twoV (65535-a2))) 0) (by simp [results,Tryz.results45,go_sem,dtCO,o0,o1]) rfl ⟨by rw [← HA.out],?_⟩;exact (KW7.out.gr.setCell (Nat.le_add_right _ 2) _).setCell (Nat.le_add_right _ 2) _
def sameFlow (q p:Fl):Bool:=(q.proto==p.proto)&&((q.src.toList==p.src.toList)&&((q.dst.toList==p.dst.toList)&&((q.sp==p.sp)&&((q.dp==p.dp)))))
theorem eqFlow_run (D:Nat) (q p:Fl) (W:World):(Op.equalIn (D+2) 43 (.agg (FlV q).toArray) (.agg (FlV p).toArray)).run Tryz.prog W=.ok (sameFlow q p) W:=by
 have h1:Tryz.prog.underlying 43=some (.struct (Tryz.prog.fieldsOf 43)):=by kernel_rfl
 have h2:Tryz.prog.stoodInHeld 43=false:=by kernel_rfl
 rw [run_equalIn_agg _ _ _ _ _ h1 h2];have h3:(Tryz.prog.fieldsOf 43).toList.length=5:=by kernel_rfl
 have h4 : ((Tryz.prog.fieldsOf 43).toList.map fun f => (f.type, f.offset, f.name == "_")) = [(2, 0, false), (9, 1, false), (9, 2, false), (2, 3, false), (2, 4, false)] := by kernel_rfl
 generalize (Tryz.prog.fieldsOf 43).toList=fs at *;match fs,h3 with
 | [f0,f1,f2,f3,f4],_ =>
  simp only [List.map_cons,List.map_nil,List.cons.injEq,Prod.mk.injEq,and_true] at h4;obtain ⟨⟨a0,b0,c0⟩,⟨a1,b1,c1⟩,⟨a2,b2,c2⟩,⟨a3,b3,c3⟩,⟨a4,b4,c4⟩⟩:=h4
  have d0 : (f0.name ≠ "_") = True := by simpa using c0
  have q0:∀ W,(part 2 (FlV q).toArray 0).run Tryz.prog W=.ok (iV q.proto) W:=fun W=>by kernel_rfl
  have p0:∀ W,(part 2 (FlV p).toArray 0).run Tryz.prog W=.ok (iV p.proto) W:=fun W=>by kernel_rfl
  have d1 : (f1.name ≠ "_") = True := by simpa using c1
  have q1:∀ W,(part 9 (FlV q).toArray 1).run Tryz.prog W=.ok (.string q.src) W:=fun W=>by kernel_rfl
  have p1:∀ W,(part 9 (FlV p).toArray 1).run Tryz.prog W=.ok (.string p.src) W:=fun W=>by kernel_rfl
  have d2 : (f2.name ≠ "_") = True := by simpa using c2
  have q2:∀ W,(part 9 (FlV q).toArray 2).run Tryz.prog W=.ok (.string q.dst) W:=fun W=>by kernel_rfl
  have p2:∀ W,(part 9 (FlV p).toArray 2).run Tryz.prog W=.ok (.string p.dst) W:=fun W=>by kernel_rfl
  have d3 : (f3.name ≠ "_") = True := by simpa using c3
  have q3:∀ W,(part 2 (FlV q).toArray 3).run Tryz.prog W=.ok (iV q.sp) W:=fun W=>by kernel_rfl
  have p3:∀ W,(part 2 (FlV p).toArray 3).run Tryz.prog W=.ok (iV p.sp) W:=fun W=>by kernel_rfl
  have d4 : (f4.name ≠ "_") = True := by simpa using c4
  have q4:∀ W,(part 2 (FlV q).toArray 4).run Tryz.prog W=.ok (iV q.dp) W:=fun W=>by kernel_rfl
  have p4:∀ W,(part 2 (FlV p).toArray 4).run Tryz.prog W=.ok (iV p.dp) W:=fun W=>by kernel_rfl
  unfold sameFlow;simp only [Op.eqFields,a0,b0,d0,q0,p0,a1,b1,d1,q1,p1,a2,b2,d2,q2,p2,a3,b3,d3,q3,p3,a4,b4,d4,q4,p4,if_true,Sem.run_bind,Sem.run_ite,Sem.run_pure,Result.andThen_ok,run_equalIn_string _ _ _ _ _ Tryz.underlying9,run_equalIn_int _ _ _ _ _ _ _ Tryz.underlying2,run_equalIn_bool' _ _ _ _ _ Tryz.underlying4];generalize (q.proto==p.proto)=g0;generalize (q.src.toList==p.src.toList)=g1;generalize (q.dst.toList==p.dst.toList)=g2;generalize (q.sp==p.sp)=g3;generalize (q.dp==p.dp)=g4
  cases g0
  ·simp
  simp only [Bool.not_true,Bool.false_eq_true,if_false,Bool.true_and]
  cases g1
  ·simp
  simp only [Bool.not_true,Bool.false_eq_true,if_false,Bool.true_and]
  cases g2
  ·simp
  simp only [Bool.not_true,Bool.false_eq_true,if_false,Bool.true_and]
  cases g3
  ·simp
  simp only [Bool.not_true,Bool.false_eq_true,if_false,Bool.true_and]
  cases g4<;>simp
theorem ofFl_keeps (s d:ByteArray) (p:Int) (t:ByteArray):(ofFl s d p t).proto=p∧(ofFl s d p t).src=s∧(ofFl s d p t).dst=d:=by
 unfold ofFl;split
 ·split<;>exact ⟨rfl,rfl,rfl⟩
 ·exact ⟨rfl,rfl,rfl⟩
theorem sameFlow_of (f:Fl) (t:ByteArray):sameFlow (ofFl f.src f.dst f.proto t) f=(decide ((ofFl f.src f.dst f.proto t).sp=f.sp)&&decide ((ofFl f.src f.dst f.proto t).dp=f.dp)):=by
 obtain ⟨h1,h2,h3⟩:=ofFl_keeps f.src f.dst f.proto t;unfold sameFlow;rw [h1,h2,h3];simp;rfl
theorem ofCode_size {n:Nat} {p:Int} {t:ByteArray} (h:ofCode n p t=0):8≤t.size∧(p=6→20≤t.size):=by
 unfold ofCode at h;split at h
 ·omega
 split at h
 ·omega
 rename_i h1 h2;have h3:shortP p t=false:=by simpa using h2
 unfold shortP at h3;rw [Bool.or_eq_false_iff,decide_eq_false_iff_not] at h3;refine ⟨by omega,fun hp=>?_⟩;have h4:=h3.1;rw [decide_eq_true hp,Bool.true_and,Bool.or_eq_false_iff,Bool.or_eq_false_iff,decide_eq_false_iff_not] at h4;omega
theorem flowOk_parts {f:Fl} (h:flowOk f=true):(f.src.size≤16∧f.dst.size≤16)∧(0≤f.proto∧f.proto≤255)∧((0≤f.sp∧f.sp≤65535)∧(0≤f.dp∧f.dp≤65535)):=by
 unfold flowOk at h;simp only [Bool.and_eq_true] at h;obtain ⟨⟨⟨⟨h1,h2⟩,h3⟩,h4⟩,h5⟩:=h;obtain ⟨a,b⟩:=pairOk_parts h1;refine ⟨by omega,?_,by simpa [isW] using h3,by simpa [isW] using h4⟩;unfold protoOk at h2;simp only [Bool.or_eq_true,Bool.and_eq_true,decide_eq_true_iff] at h2;omega
theorem shortP_six (t:ByteArray):shortP 6 t=(decide (t.size < 20)||(decide (bt t 12 / 16 < 5)||decide ((t.size:Int) < 4*(bt t 12 / 16)))):=by
 unfold shortP;rw [Bool.eq_iff_iff];simp only [decide_true,Bool.true_and,Bool.or_eq_true,decide_eq_true_eq];constructor
 ·rintro (((h | h) | h) | h)
  ·exact .inl h
  ·exact .inr (.inl h)
  ·exact .inr (.inr h)
  ·exact .inl (by omega)
 ·rintro (h | h | h)
  ·exact .inl (.inl (.inl h))
  ·exact .inl (.inl (.inr h))
  ·exact .inl (.inr h)
theorem shortP_not (p:Int) (t:ByteArray) (h:p≠6):shortP p t=decide (t.size < 8):=by
 unfold shortP;rw [decide_eq_false h]; rfl
theorem ipHeader_any (p:Int) (t:ByteArray) (w:World) (ht:t.size≤1048576) :
  Cw 99 #[iV p,.string t] w (.bool (!shortP p t)):=by
 by_cases h6:p=6
 ·subst h6;rw [shortP_six];by_cases h1:t.size < 20
  ·rw [decide_eq_true h1];go_enter Tryz.func99,Tryz.ntmps99
   go_wp2_with fail
   go_ret;exact ⟨rfl,rfl⟩
  ·rw [decide_eq_false h1];have hb:=get_bt t;have b12:=bt_isByte t 12;by_cases h2:bt t 12 / 16 < 5
   ·rw [decide_eq_true h2];have d2:decide ((20:Int)≤4*(bt t 12 / 16))=false:=by simp; omega
    go_enter Tryz.func99,Tryz.ntmps99
    go_wp2_with fail
    go_ret;exact ⟨rfl,rfl⟩
   ·rw [decide_eq_false h2];have d2:decide ((20:Int)≤4*(bt t 12 / 16))=true:=by simp; omega
    have HQ:Hid ((!decide ((t.size:Int) < 4*(bt t 12 / 16)))=decide (4*(bt t 12 / 16)≤(t.size:Int))):=by
     unfold Hid; rw [Bool.eq_iff_iff]; simp
    go_enter Tryz.func99,Tryz.ntmps99
    go_wp2_with fail
    go_ret;exact ⟨ret_bool HQ.out.symm,rfl⟩
 ·rw [shortP_not p t h6];have d6:(p != 6)=true:=by simp [h6]
  have HQ:Hid ((!decide (t.size < 8))=decide ((8:Int)≤(t.size:Int))):=by
   unfold Hid; rw [Bool.eq_iff_iff]; simp; omega
  clear h6;go_enter Tryz.func99,Tryz.ntmps99
  go_wp2_with fail
  go_ret;exact ⟨ret_bool HQ.out.symm,rfl⟩
theorem ipEchoBytes_any (p:Int) (w:World) (hp:echoP p=true) :
  Cw 130 #[iV p] w (.tuple #[.int .u8 (askP p),.int .u8 (ansP p)]):=by
 have h:p=1∨p=58:=by unfold echoP at hp; simpa using hp
 clear hp;rcases h with rfl | rfl
 ·rw [show askP 1=8 from rfl,show ansP 1=0 from rfl];go_enter Tryz.func130,Tryz.ntmps130
  go_wp2_with fail
  go_ret2
  exact ⟨rfl,rfl⟩
 ·rw [show askP 58=128 from rfl,show ansP 58=129 from rfl];go_enter Tryz.func130,Tryz.ntmps130
  go_wp2_with fail
  go_ret2
  exact ⟨rfl,rfl⟩
def beginsV (p:Int) (t:ByteArray):Bool:=(decide (bt t 0=askP p)||decide (bt t 0=ansP p))&&decide (bt t 1=0)
theorem ipBegins_any (p:Int) (t:ByteArray) (w:World) (hp:echoP p=true) (h8:8≤t.size) (ht:t.size≤1048576) :
  Cw 101 #[iV p,.string t] w (.bool (beginsV p t)):=by
 have HE:Hid (∀ W,Cw 130 #[iV p] W (.tuple #[.int .u8 (askP p),.int .u8 (ansP p)])):=fun W=>ipEchoBytes_any p W hp
 have hb:=get_bt t;have b0:=bt_isByte t 0;have b1:=bt_isByte t 1;have q0:(bt t 0==askP p)=decide (bt t 0=askP p):=rfl;have q1:(bt t 0==ansP p)=decide (bt t 0=ansP p):=rfl;have q2:(bt t 1==0)=decide (bt t 1=0):=rfl;unfold beginsV;generalize decide (bt t 0=askP p)=c0 at *;generalize decide (bt t 0=ansP p)=c1 at *;generalize decide (bt t 1=0)=c2 at *;generalize askP p=a at *;generalize ansP p=b at *;have hun:undef=Value.tuple #[]:=rfl
 cases c0
 ·cases c1
  ·go_enter Tryz.func101,Tryz.ntmps101
   go_wp2_with fail
   refine (HE.out _).mono ?_;rintro e w2 ⟨rfl,rfl⟩;go_wp2_with fail
   go_ret;exact ⟨rfl,rfl⟩
  ·go_enter Tryz.func101,Tryz.ntmps101
   go_wp2_with fail
   refine (HE.out _).mono ?_;rintro e w2 ⟨rfl,rfl⟩;go_wp2_with fail
   go_ret;exact ⟨rfl,rfl⟩
 ·go_enter Tryz.func101,Tryz.ntmps101
  go_wp2_with fail
  refine (HE.out _).mono ?_;rintro e w2 ⟨rfl,rfl⟩;go_wp2_with fail
  go_ret;exact ⟨rfl,rfl⟩
theorem ipPorts_any (p:Int) (t:ByteArray) (w:World) (h8:8≤t.size) (ht:t.size≤1048576) :
  Cw 102 #[iV p,.string t] w (.tuple #[iV (if echoP p=true then wordN (bt t) 4 else wordN (bt t) 0),iV (if echoP p=true then wordN (bt t) 4 else wordN (bt t) 2)]):=by
 have HB:Hid (∀ W,Cw 100 #[iV p] W (.bool (echoP p))):=fun W=>implEcho_any _ W
 have HW:Hid (∀ k:Nat,k < 8→∀ W,Cw 131 #[.string t,iV k] W (iV (wordN (bt t) k))):=fun k hk W=>wordFromS_any t k W (by omega) (by unfold maxLen; omega)
 cases h:echoP p with
 | true =>
  rw [h] at HB;rw [if_pos rfl,if_pos rfl];go_enter Tryz.func102,Tryz.ntmps102
  go_wp2_with fail
  refine (HB.out _).mono ?_;rintro e w2 ⟨rfl,rfl⟩;go_wp2_with fail
  refine (HW.out 4 (by omega) _).mono ?_;rintro e w2 ⟨rfl,rfl⟩;go_wp2_with fail
  go_ret2
  exact ⟨rfl,rfl⟩
 | false =>
  rw [h] at HB;rw [if_neg (by decide),if_neg (by decide)];go_enter Tryz.func102,Tryz.ntmps102
  go_wp2_with fail
  refine (HB.out _).mono ?_;rintro e w2 ⟨rfl,rfl⟩;go_wp2_with fail
  refine (HW.out 0 (by omega) _).mono ?_;rintro e w2 ⟨rfl,rfl⟩;go_wp2_with fail
  refine (HW.out 2 (by omega) _).mono ?_;rintro e w2 ⟨rfl,rfl⟩;go_wp2_with fail
  go_ret2
  exact ⟨rfl,rfl⟩
theorem bytesOf_self (s:ByteArray):bytesOf s.size (bt s)=s:=by
 refine ba_ext (bytesOf_size _ _) fun i hi=>?_
 rw [bytesOf_size] at hi;exact bytesOf_bt hi (bt_nonneg s i) (bt_le s i)
theorem implFlowOf_any (s d:ByteArray) (p:Int) (t:ByteArray) (w:World) (hs:s.size≤1048576) (hd:d.size≤1048576) (ht:t.size≤1048576) :
  Cb 58 #[.string s,.string d,iV p,.string t] w (fwCO (flowOfV s d p t) (flowCode s d p t)):=by
 have HN:Hid (∀ c:Int,flowCode s d p t=c→c≠0→fwCO (flowOfV s d p t) (flowCode s d p t)=.agg #[iV 0,eS,eS,iV 0,iV 0,iV c]):=fun c h hc=>by unfold flowOfV; rw [h,if_neg hc]; rfl
 have HY:Hid (flowCode s d p t=0→ofCode s.size p t=0→fwCO (flowOfV s d p t) (flowCode s d p t)=.agg #[iV p,.string s,.string d,iV (if echoP p=true then wordN (bt t) 4 else wordN (bt t) 0),iV (if echoP p=true then wordN (bt t) 4 else wordN (bt t) 2),iV 0]):=fun h h2=>by
  unfold flowOfV; rw [h,if_pos rfl]; unfold ofFl; rw [if_pos h2]; split<;>rfl
 have HD:Hid (flowCode s d p t=if 20000 < t.size∨20000 < s.size∨20000 < d.size then 2 else if pairOk s d=false then 1 else ofCode s.size p t):=rfl;have HA1:Hid (∀ W,Cw 81 #[.string s] W (.bool (decide (20000 < s.size)))):=fun W=>implLong_any s W
 have HA2:Hid (∀ W,Cw 81 #[.string d] W (.bool (decide (20000 < d.size)))):=fun W=>implLong_any d W
 have HA3:Hid (∀ W,Cw 81 #[.string t] W (.bool (decide (20000 < t.size)))):=fun W=>implLong_any t W
 have HB:Hid (∀ W,Cw 97 #[.string s,.string d] W (.bool (pairOk s d))):=fun W=>implPair_any _ _ W (by unfold maxLen; omega) (by unfold maxLen; omega)
 have HC:Hid (∀ W,Cw 98 #[iV p,.string s] W (.bool (protoOk p s.size))):=fun W=>implCarried_any _ _ W (by unfold maxLen; omega)
 have HE:Hid (∀ W,Cw 99 #[iV p,.string t] W (.bool (!shortP p t))):=fun W=>ipHeader_any _ _ W ht
 have HF:Hid (∀ W,Cw 100 #[iV p] W (.bool (echoP p))):=fun W=>implEcho_any _ W
 generalize fwCO (flowOfV s d p t) (flowCode s d p t)=ans at *;generalize flowCode s d p t=code at *;by_cases ls:20000 < s.size
 ·have HV:Hid (ans=.agg #[iV 0,eS,eS,iV 0,iV 0,iV 2]):=HN.out 2 (by rw [HD.out,if_pos (Or.inr (Or.inl ls))]) (by decide);rw [decide_eq_true ls] at HA1;clear HN HY HD;go_enter Tryz.func58,Tryz.ntmps58
  go_wp2_with fail
  refine (HA1.out _).mono ?_;rintro e w2 ⟨rfl,rfl⟩;go_wp2_with fail
  refine bodyPost_ret (v:=.agg #[iV 0,eS,eS,iV 0,iV 0,iV 2]) (by simp [results,Tryz.results58,go_sem]) rfl ⟨by rw [HV.out],?_⟩;exact bR.alloc lR _
 rw [decide_eq_false ls] at HA1;by_cases ld:20000 < d.size
 ·have HV:Hid (ans=.agg #[iV 0,eS,eS,iV 0,iV 0,iV 2]):=HN.out 2 (by rw [HD.out,if_pos (Or.inr (Or.inr ld))]) (by decide);rw [decide_eq_true ld] at HA2;clear HN HY HD;go_enter Tryz.func58,Tryz.ntmps58
  go_wp2_with fail
  refine (HA1.out _).mono ?_;rintro e w2 ⟨rfl,rfl⟩;go_wp2_with fail
  refine (HA2.out _).mono ?_;rintro e w2 ⟨rfl,rfl⟩;go_wp2_with fail
  refine bodyPost_ret (v:=.agg #[iV 0,eS,eS,iV 0,iV 0,iV 2]) (by simp [results,Tryz.results58,go_sem]) rfl ⟨by rw [HV.out],?_⟩;exact bR.alloc lR _
 rw [decide_eq_false ld] at HA2;by_cases lt:20000 < t.size
 ·have HV:Hid (ans=.agg #[iV 0,eS,eS,iV 0,iV 0,iV 2]):=HN.out 2 (by rw [HD.out,if_pos (Or.inl lt)]) (by decide);rw [decide_eq_true lt] at HA3;clear HN HY HD;go_enter Tryz.func58,Tryz.ntmps58
  go_wp2_with fail
  refine (HA1.out _).mono ?_;rintro e w2 ⟨rfl,rfl⟩;go_wp2_with fail
  refine (HA2.out _).mono ?_;rintro e w2 ⟨rfl,rfl⟩;go_wp2_with fail
  refine (HA3.out _).mono ?_;rintro e w2 ⟨rfl,rfl⟩;go_wp2_with fail
  refine bodyPost_ret (v:=.agg #[iV 0,eS,eS,iV 0,iV 0,iV 2]) (by simp [results,Tryz.results58,go_sem]) rfl ⟨by rw [HV.out],?_⟩;exact bR.alloc lR _
 rw [decide_eq_false lt] at HA3;replace HD:Hid (code=if pairOk s d=false then 1 else ofCode s.size p t):=by unfold Hid; rw [HD.out,if_neg (by omega)]
 cases a1:pairOk s d with
 | false =>
  have HV:Hid (ans=.agg #[iV 0,eS,eS,iV 0,iV 0,iV 1]):=HN.out 1 (by rw [HD.out,if_pos a1]) (by decide);rw [a1] at HB;clear HN HY HD a1;go_enter Tryz.func58,Tryz.ntmps58
  go_wp2_with fail
  refine (HA1.out _).mono ?_;rintro e w2 ⟨rfl,rfl⟩;go_wp2_with fail
  refine (HA2.out _).mono ?_;rintro e w2 ⟨rfl,rfl⟩;go_wp2_with fail
  refine (HA3.out _).mono ?_;rintro e w2 ⟨rfl,rfl⟩;go_wp2_with fail
  refine (HB.out _).mono ?_;rintro e w2 ⟨rfl,rfl⟩;go_wp2_with fail
  refine bodyPost_ret (v:=.agg #[iV 0,eS,eS,iV 0,iV 0,iV 1]) (by simp [results,Tryz.results58,go_sem]) rfl ⟨by rw [HV.out],?_⟩;exact bR.alloc lR _
 | true =>
 replace HD:Hid (code=ofCode s.size p t):=by unfold Hid; rw [HD.out,if_neg (by rw [a1]; decide)]
 rw [a1] at HB;clear a1
 cases a2:protoOk p s.size with
 | false =>
  have HD2:Hid (ofCode s.size p t=11):=by unfold Hid ofCode; rw [if_pos a2]
  have HV:Hid (ans=.agg #[iV 0,eS,eS,iV 0,iV 0,iV 11]):=HN.out 11 (by rw [HD.out,HD2.out]) (by decide);rw [a2] at HC;clear HN HY HD HD2 a2;go_enter Tryz.func58,Tryz.ntmps58
  go_wp2_with fail
  refine (HA1.out _).mono ?_;rintro e w2 ⟨rfl,rfl⟩;go_wp2_with fail
  refine (HA2.out _).mono ?_;rintro e w2 ⟨rfl,rfl⟩;go_wp2_with fail
  refine (HA3.out _).mono ?_;rintro e w2 ⟨rfl,rfl⟩;go_wp2_with fail
  refine (HB.out _).mono ?_;rintro e w2 ⟨rfl,rfl⟩;go_wp2_with fail
  refine (HC.out _).mono ?_;rintro e w2 ⟨rfl,rfl⟩;go_wp2_with fail
  refine bodyPost_ret (v:=.agg #[iV 0,eS,eS,iV 0,iV 0,iV 11]) (by simp [results,Tryz.results58,go_sem]) rfl ⟨by rw [HV.out],?_⟩;exact bR.alloc lR _
 | true =>
 have HO:Hid (ofCode s.size p t=if shortP p t=true then 4 else if echoP p=true then (if (bt t 0≠askP p∧bt t 0≠ansP p)∨bt t 1≠0 then 11 else 0) else 0):=by unfold Hid ofCode; rw [if_neg (by rw [a2]; decide)]
 rw [a2] at HC;clear a2
 cases a3:shortP p t with
 | true =>
  have HD2:Hid (ofCode s.size p t=4):=by unfold Hid; rw [HO.out,if_pos a3]
  have HV:Hid (ans=.agg #[iV 0,eS,eS,iV 0,iV 0,iV 4]):=HN.out 4 (by rw [HD.out,HD2.out]) (by decide);rw [a3] at HE;clear HN HY HD HD2 HO a3;go_enter Tryz.func58,Tryz.ntmps58
  go_wp2_with fail
  refine (HA1.out _).mono ?_;rintro e w2 ⟨rfl,rfl⟩;go_wp2_with fail
  refine (HA2.out _).mono ?_;rintro e w2 ⟨rfl,rfl⟩;go_wp2_with fail
  refine (HA3.out _).mono ?_;rintro e w2 ⟨rfl,rfl⟩;go_wp2_with fail
  refine (HB.out _).mono ?_;rintro e w2 ⟨rfl,rfl⟩;go_wp2_with fail
  refine (HC.out _).mono ?_;rintro e w2 ⟨rfl,rfl⟩;go_wp2_with fail
  refine (HE.out _).mono ?_;rintro e w2 ⟨rfl,rfl⟩;go_wp2_with fail
  refine bodyPost_ret (v:=.agg #[iV 0,eS,eS,iV 0,iV 0,iV 4]) (by simp [results,Tryz.results58,go_sem]) rfl ⟨by rw [HV.out],?_⟩;exact bR.alloc lR _
 | false =>
 replace HO:Hid (ofCode s.size p t=if echoP p=true then (if (bt t 0≠askP p∧bt t 0≠ansP p)∨bt t 1≠0 then 11 else 0) else 0):=by unfold Hid; rw [HO.out,if_neg (by rw [a3]; decide)]
 have h8:8≤t.size:=by
  unfold shortP at a3; rw [Bool.or_eq_false_iff,decide_eq_false_iff_not] at a3; omega
 rw [a3] at HE;clear a3;have HP:Hid (∀ W,Cw 102 #[iV p,.string t] W (.tuple #[iV (if echoP p=true then wordN (bt t) 4 else wordN (bt t) 0),iV (if echoP p=true then wordN (bt t) 4 else wordN (bt t) 2)])):=fun W=>ipPorts_any p t W h8 ht
 have HG:Hid (echoP p=true→∀ W,Cw 101 #[iV p,.string t] W (.bool (beginsV p t))):=fun h W=>ipBegins_any p t W h h8 ht
 by_cases hbad:echoP p=true∧beginsV p t=false
 ·obtain ⟨a4,a5⟩:=hbad;have HD2:Hid (ofCode s.size p t=11):=by
   unfold Hid; rw [HO.out,if_pos a4,if_pos];unfold beginsV at a5;rw [Bool.and_eq_false_iff,Bool.or_eq_false_iff] at a5;simpa using a5
  have HG2:Hid _:=HG.out a4;rw [a5] at HG2;have HV:Hid (ans=.agg #[iV 0,eS,eS,iV 0,iV 0,iV 11]):=HN.out 11 (by rw [HD.out,HD2.out]) (by decide);rw [a4] at HF;clear HN HY HD HD2 HO HG HP a4 a5;go_enter Tryz.func58,Tryz.ntmps58
  go_wp2_with fail
  refine (HA1.out _).mono ?_;rintro e w2 ⟨rfl,rfl⟩;go_wp2_with fail
  refine (HA2.out _).mono ?_;rintro e w2 ⟨rfl,rfl⟩;go_wp2_with fail
  refine (HA3.out _).mono ?_;rintro e w2 ⟨rfl,rfl⟩;go_wp2_with fail
  refine (HB.out _).mono ?_;rintro e w2 ⟨rfl,rfl⟩;go_wp2_with fail
  refine (HC.out _).mono ?_;rintro e w2 ⟨rfl,rfl⟩;go_wp2_with fail
  refine (HE.out _).mono ?_;rintro e w2 ⟨rfl,rfl⟩;go_wp2_with fail
  refine (HF.out _).mono ?_;rintro e w2 ⟨rfl,rfl⟩;go_wp2_with fail
  refine (HG2.out _).mono ?_;rintro e w2 ⟨rfl,rfl⟩;go_wp2_with fail
  refine bodyPost_ret (v:=.agg #[iV 0,eS,eS,iV 0,iV 0,iV 11]) (by simp [results,Tryz.results58,go_sem]) rfl ⟨by rw [HV.out],?_⟩;exact bR.alloc lR _
 have HD2:Hid (ofCode s.size p t=0):=by
  unfold Hid; rw [HO.out];by_cases a4:echoP p=true
  ·rw [if_pos a4,if_neg];have a5:beginsV p t=true:=by
    cases h:beginsV p t
    ·exact absurd ⟨a4,h⟩ hbad
    ·rfl
   unfold beginsV at a5;rw [Bool.and_eq_true,Bool.or_eq_true] at a5;simp only [decide_eq_true_eq] at a5;omega
  ·rw [if_neg a4]
 have HV:Hid _:=HY.out (HD.out.trans HD2.out) HD2.out;have HG2:Hid (echoP p=true→beginsV p t=true):=fun h=>by
  cases h2:beginsV p t
  ·exact absurd ⟨h,h2⟩ hbad
  ·rfl
 clear HN HY HD HD2 HO hbad;have GR:Hid (Below w.heap.size w (w.alloc (.cells #[iV 0,eS,eS,iV 0,iV 0,iV 0] 45))):=bR.alloc lR _;have KR:Hid (BoxO w.heap.size (w.alloc (.cells #[iV 0,eS,eS,iV 0,iV 0,iV 0] 45)) ⟨0,⟨#[]⟩,⟨#[]⟩,0,0⟩ 0):=BoxO.new w ⟨0,⟨#[]⟩,⟨#[]⟩,0,0⟩ 0;obtain ⟨cp1,W1,hcv1,hh1,hb1,_⟩:=bytes_new (w.alloc (.cells #[iV 0,eS,eS,iV 0,iV 0,iV 0] 45)) s;have hcw1:=hh1.conv (cap:=cp1) (bt_isByte s)
 rw [bytesOf_self] at hcw1;rw [show (w.alloc (.cells #[iV 0,eS,eS,iV 0,iV 0,iV 0] 45)).heap.size=w.heap.size+1 by simp] at hcv1 hcw1;obtain ⟨cp2,W2,hcv2,hh2,hb2,_⟩:=bytes_new W1 d;have hcw2:=hh2.conv (cap:=cp2) (bt_isByte d)
 rw [bytesOf_self] at hcw2;have G2:Hid (Below w.heap.size w W2):=(GR.out.trans (hb1.mono GR.out.size)).trans (hb2.mono (Nat.le_trans GR.out.size hb1.size));have R2:Hid (BoxO w.heap.size W2 ⟨0,⟨#[]⟩,⟨#[]⟩,0,0⟩ 0):=(KR.out.kept hb1).kept hb2;clear hh1 hh2 hb1 hb2 GR KR;generalize (if echoP p=true then wordN (bt t) 4 else wordN (bt t) 0)=x at *;generalize (if echoP p=true then wordN (bt t) 4 else wordN (bt t) 2)=y at *;have hlt:=World.block_lt_of_cell? W2 _ R2.out.c0;have fin:∀ q:Bool,echoP p=q→Calls Tryz.prog 58 #[.string s,.string d,iV p,.string t] w fun e w'=>e=.returned ans∧Below w.heap.size w w':=by
  intro q hq;rw [hq] at HF
  cases q with
  | true =>
   have HG3:Hid _:=HG.out hq;rw [HG2.out hq] at HG3;clear HG HG2 hq;go_enter Tryz.func58,Tryz.ntmps58
   go_wp2_with fail
   refine (HA1.out _).mono ?_;rintro e w2 ⟨rfl,rfl⟩;go_wp2_with fail
   refine (HA2.out _).mono ?_;rintro e w2 ⟨rfl,rfl⟩;go_wp2_with fail
   refine (HA3.out _).mono ?_;rintro e w2 ⟨rfl,rfl⟩;go_wp2_with fail
   refine (HB.out _).mono ?_;rintro e w2 ⟨rfl,rfl⟩;go_wp2_with fail
   refine (HC.out _).mono ?_;rintro e w2 ⟨rfl,rfl⟩;go_wp2_with fail
   refine (HE.out _).mono ?_;rintro e w2 ⟨rfl,rfl⟩;go_wp2_with fail
   refine (HF.out _).mono ?_;rintro e w2 ⟨rfl,rfl⟩;go_wp2_with fail
   refine (HG3.out _).mono ?_;rintro e w2 ⟨rfl,rfl⟩;go_wp2_with fail
   refine (HP.out _).mono ?_;rintro e w2 ⟨rfl,rfl⟩;obtain ⟨k0,y0,k1,y1,k2,y2,k3,y3,k4,y4,k5,y5⟩:=R2.out;dsimp only at k0 k1 k2 k3 k4 k5;go_wp2_with fail
   have hne:w.heap.size≠W2.heap.size:=by omega
   refine bodyPost_ret (v:=.agg #[iV p,.string s,.string d,iV x,iV y,iV 0]) (by simp [results,Tryz.results58,go_sem,k0,k1,k2,k3,k4,k5,hlt,hne]) rfl ⟨by rw [HV.out],?_⟩;have hz:=G2.out.size;exact ((((((G2.out.setCell lR _).setCell lR _).setCell lR _).setCell lR _).setCell lR _).setCell lR _).alloc (by simp; omega) _
  | false =>
   clear HG HG2 hq;go_enter Tryz.func58,Tryz.ntmps58
   go_wp2_with fail
   refine (HA1.out _).mono ?_;rintro e w2 ⟨rfl,rfl⟩;go_wp2_with fail
   refine (HA2.out _).mono ?_;rintro e w2 ⟨rfl,rfl⟩;go_wp2_with fail
   refine (HA3.out _).mono ?_;rintro e w2 ⟨rfl,rfl⟩;go_wp2_with fail
   refine (HB.out _).mono ?_;rintro e w2 ⟨rfl,rfl⟩;go_wp2_with fail
   refine (HC.out _).mono ?_;rintro e w2 ⟨rfl,rfl⟩;go_wp2_with fail
   refine (HE.out _).mono ?_;rintro e w2 ⟨rfl,rfl⟩;go_wp2_with fail
   refine (HF.out _).mono ?_;rintro e w2 ⟨rfl,rfl⟩;go_wp2_with fail
   refine (HP.out _).mono ?_;rintro e w2 ⟨rfl,rfl⟩;obtain ⟨k0,y0,k1,y1,k2,y2,k3,y3,k4,y4,k5,y5⟩:=R2.out;dsimp only at k0 k1 k2 k3 k4 k5;go_wp2_with fail
   have hne:w.heap.size≠W2.heap.size:=by omega
   refine bodyPost_ret (v:=.agg #[iV p,.string s,.string d,iV x,iV y,iV 0]) (by simp [results,Tryz.results58,go_sem,k0,k1,k2,k3,k4,k5,hlt,hne]) rfl ⟨by rw [HV.out],?_⟩;have hz:=G2.out.size;exact ((((((G2.out.setCell lR _).setCell lR _).setCell lR _).setCell lR _).setCell lR _).setCell lR _).alloc (by simp; omega) _
 exact fin _ rfl
end Go.Proofs.YtdkepkaflielhaaGreatDoor
