import Derived.Test.YtdkepkaflielhaaGreatDoorSz
import Derived.Test.YtdkepkaflielhaaGreatDoorAb
import Derived.Test.YtdkepkaflielhaaGreatDoorUni
import Derived.Test.YtdkepkaflielhaaGreatDoorICSet3
import Derived.Test.YtdkepkaflielhaaGreatDoorIV4BM
set_option linter.unusedVariables false
set_option linter.unusedSimpArgs false
set_option maxRecDepth 100000
set_option maxHeartbeats 8000000
namespace Go.Proofs.YtdkepkaflielhaaGreatDoor
open Go.RowKit Go.PlainAid Go.Lib
theorem hold_of_bytes {W:World} {b:Nat} {t:ByteArray} (h:Holds W b t.size (bt t)):HoldsL W b (strCells t):=by
 refine ⟨fun j v hv=>?_,fun j hj=>?_⟩
 ·rw [Nat.zero_add];have hj:j < t.size:=by
   have:=(List.getElem?_eq_some_iff.1 hv).1;rwa [strCells_length] at this
  rw [strCells_at t j hj] at hv;injection hv with hv
  rw [← hv]; exact (h.get j hj).1
 ·rw [strCells_length] at hj;rw [Nat.zero_add];exact ⟨by rw [(h.get j hj).1]; rfl,(h.get j hj).2⟩
theorem hold_str {W:World} {b cap:Nat} {t:ByteArray} (h:HoldsL W b (strCells t)):(convert 22 9 (.slice (some ⟨b,0,none⟩) t.size cap)).run Tryz.prog W=.ok (.string t) W:=by
 have hh:Holds W b t.size (bt t):=⟨fun i hi=>⟨hold_bt h i hi,h.free (by rw [strCells_length]; exact hi)⟩⟩;have:=hh.conv (cap:=cap) (bt_isByte t)
 rw [bytesOf_self] at this;exact this
theorem put_split (t:ByteArray) (k n:Nat) (h:k+n≤t.size):t.extract 0 k++t.extract k (k+n)++t.extract (k+n) t.size=t:=by
 refine ba_ext ?_ (fun i hi=>?_)
 ·simp only [ByteArray.size_append,ByteArray.size_extract]; omega
 ·have s1:(t.extract 0 k).size=k:=by rw [ByteArray.size_extract]; omega
  have s2:(t.extract k (k+n)).size=n:=by rw [ByteArray.size_extract]; omega
  simp only [ByteArray.size_append,ByteArray.size_extract] at hi;rw [bt_append,bt_append,ByteArray.size_append,s1,s2];by_cases h1:i < k
  ·rw [if_pos (by omega),if_pos h1,bt_extract _ _ _ _ (by omega),if_pos (by omega),Nat.zero_add]
  ·by_cases h2:i < k+n
   ·rw [if_pos h2,if_neg h1,bt_extract _ _ _ _ (by omega),if_pos (by omega),show k+(i-k)=i by omega]
   ·rw [if_neg h2,bt_extract _ _ _ _ lR,if_pos (by omega),show k+n+(i-(k+n))=i by omega]
theorem lay_put {W:World} {b k:Nat} {t u:ByteArray} (h:HoldsL W b (strCells t)) (hk:k+u.size≤t.size):HoldsL (W.setCells b k (strCells u)) b (strCells (putV t k u)):=by
 rw [← put_split t k u.size hk] at h;exact lay_at h (by rw [ByteArray.size_extract]; omega) (by rw [ByteArray.size_extract]; omega)
theorem run_lay_more {P:Program} {w:World} {g o dCap base e g6:Nat} {t s:ByteArray} (dT sT ty elem:TypeId) (hu:P.underlying dT=some (.slice elem)) (hz:(P.info? elem).map (·.size)=some 1) (h:HoldsL w g (strCells t)) (ho:o+s.size≤t.size) {dLen sLen:Nat} (hd:s.size≤dLen) (hs:sLen=s.size) (hown:w.ownsRow base e 1 (.slice (some ⟨g6,0,none⟩) sLen sLen) sLen (strCells s)) :
  (Builtin.copy_ #[dT,sT] ty #[.slice (some ⟨g,o,none⟩) dLen dCap,.slice (some ⟨g6,0,none⟩) sLen sLen]).run P w=.ok (goInt s.size) (w.setCells g o (strCells s)):=by
 have hl:(strCells t).length=t.size:=strCells_length t;have:=run_copy_cells (P:=P) w dT sT ty elem g o dLen dCap ⟨g6,0,none⟩ sLen sLen (strCells s) hu hz (by rw [strCells_length,hs]; exact (Nat.min_eq_left hd).symm) (fun j v hj=>hown.cells (g:=g6) rfl j v hj) (fun j hj=>by rw [strCells_length] at hj; have:=(h.th (o+j) (by omega)).1; rwa [Nat.zero_add] at this) (fun j hj=>by rw [strCells_length] at hj; have:=(h.th (o+j) (by omega)).2; rwa [Nat.zero_add] at this) (strCells_oneCell _);rw [strCells_length] at this;exact this
theorem cells_one {x:Int} (h:0≤x∧x≤255):strCells (oneV x)=[.int .u8 x]:=by
 unfold strCells oneV;simp;omega
theorem lay_first {W:World} {b:Nat} {t:ByteArray} {x:Int} (h:HoldsL W b (strCells t)) (hx:0≤x∧x≤255) (ht:1≤t.size):HoldsL (W.setCell ⟨b,0,none⟩ (.int .u8 x)) b (strCells (putV t 0 (oneV x))):=by
 have e:strCells (putV t 0 (oneV x))=(strCells t).set 0 (.int .u8 x):=by
  have hs:=put_split t 0 1 (by omega);have h0:(strCells (t.extract 0 0))=[]:=by
   apply List.eq_nil_of_length_eq_zero;rw [strCells_length,ByteArray.size_extract]; omega
  have h1:(strCells (t.extract 0 (0+1))).length=1:=by rw [strCells_length,ByteArray.size_extract]; omega
  obtain ⟨y,hy⟩:=List.length_eq_one_iff.1 h1;have ht2:strCells t=y::strCells (t.extract (0+1) t.size):=by
   conv=>lhs; rw [← hs]
   rw [strCells_append,strCells_append,h0,hy]; rfl
  unfold putV;rw [strCells_append,strCells_append,h0,cells_one hx,ht2];rfl
 rw [e];exact h.set 0 _
theorem ask_byte (p:Int):0≤askP p∧askP p≤255:=by unfold askP; split<;>omega
theorem ans_byte (p:Int):0≤ansP p∧ansP p≤255:=by unfold ansP; split<;>omega
def LayRet (base:Nat) (n:Nat) (u:ByteArray) (e:Ending) (w':World):Prop:=∃ b cap,e=.returned (.slice (some ⟨b,0,none⟩) n cap)∧n≤cap∧base≤b∧HoldsL w' b (strCells u)
theorem ipLay_any (p:Int) (g:Fl) (t:ByteArray) (w:World) (h8:8≤t.size) (ht:t.size≤20000) (gw:(0≤g.sp∧g.sp≤65535)∧(0≤g.dp∧g.dp≤65535)) (hp:echoP g.proto=true→echoP p=true) :
  Calls Tryz.prog 152 #[iV p,fwC g,.string t] w fun e w'=>LayRet w.heap.size t.size (layV p g t) e w'∧Below w.heap.size w w':=by
 have HE:Hid (∀ W,Cw 100 #[iV g.proto] W (.bool (echoP g.proto))):=fun W=>implEcho_any _ W
 have HV:Hid (layV p g t=if echoP g.proto=true then putV (putV t 4 (twoV g.sp)) 0 (oneV (if bt t 0=askP p then askP g.proto else ansP g.proto)) else putV t 0 (twoV g.sp++twoV g.dp)):=rfl;have HE1:Hid (echoP p=true→∀ W,Cw 130 #[iV p] W (.tuple #[.int .u8 (askP p),.int .u8 (ansP p)])):=fun h W=>ipEchoBytes_any p W h
 have HE2:Hid (echoP g.proto=true→∀ W,Cw 130 #[iV g.proto] W (.tuple #[.int .u8 (askP g.proto),.int .u8 (ansP g.proto)])):=fun h W=>ipEchoBytes_any _ W h
 have ra:=ask_byte g.proto;have rn:=ans_byte g.proto;have z2:=twoV_size g.sp;have z4:(twoV g.sp++twoV g.dp).size=4:=by rw [ByteArray.size_append]; rfl
 have HL2:Hid ((layL [g.sp,g.dp]).map (Value.int .u8)=strCells (twoV g.sp++twoV g.dp)):=by unfold Hid; rw [strCells_append,strCells_two _ gw.1.1 gw.1.2,strCells_two _ gw.2.1 gw.2.2]; rfl
 have HL1:Hid ((layL [g.sp]).map (Value.int .u8)=strCells (twoV g.sp)):=by unfold Hid; rw [strCells_two _ gw.1.1 gw.1.2]; rfl
 have hinfo:(Tryz.prog.info? 5).map (·.size)=some 1:=by
  obtain ⟨i0,hi,hz0,hz1,hz2⟩:=info_parts Tryz.info5;rw [hi]; simp [hz1]
 generalize layV p g t=ans at *;obtain ⟨proto,src,dst,sp,dp⟩:=g;unfold fwC;dsimp only at *;have HS0:=bx1 w (FlR proto src dst sp dp) 43 (by simp)
 skip;obtain ⟨cp,W1,hcv,hh,hb1,hcap⟩:=bytes_new (w.alloc (.cells (FlR proto src dst sp dp).toArray 43)) t;rw [show (w.alloc (.cells (FlR proto src dst sp dp).toArray 43)).heap.size=w.z+1 by simp] at hcv hh;have HT1:Hid (HoldsL W1 (w.z+1) (strCells t)):=hold_of_bytes hh;have HS1:Hid _:=HS0.out.kept hb1;clear hh hb1 HS0;go_enter Tryz.func152,Tryz.ntmps152
 go_upto_region 2 with fail
 clear hcv;have HHk:=HS1.out.at mE0;obtain ⟨k0,k1,k2,k3,k4⟩:=HHk.c5;clear HHk;have hlw:w.z+1 < W1.heap.size:=HT1.out.lt (by rw [strCells_length]; omega);go_wp2_with fail
 refine (HE.out _).mono ?_;rintro e W1 ⟨rfl,rfl⟩
 cases hec:echoP proto with
 | false =>
  have HX:Hid (ans=putV t 0 (twoV sp++twoV dp)):=by unfold Hid; rw [HV.out,hec]; rfl
  clear HV HE1 HE2 HL1;have HL:Hid (Calls Tryz.prog 154 #[.slice (some ⟨W1.heap.size,0,none⟩) 2 2] (W1.alloc (.cells #[iV sp,iV dp] 2)) fun e w'=>e=.returned (.slice (some ⟨W1.heap.size+1,0,none⟩) 4 4)∧w'.ownsRow (W1.heap.size+1) 5 1 (.slice (some ⟨W1.heap.size+1,0,none⟩) 4 4) 4 (strCells (twoV sp++twoV dp))∧Below W1.heap.size W1 w'):=by
   refine (layWords_any [sp,dp] W1.heap.size 2 2 (W1.alloc (.cells #[iV sp,iV dp] 2)) (by omega) (by simp) rfl (getD_word _ (by simp only [List.forall_mem_cons,List.not_mem_nil,false_imp_iff,implies_true,and_true]; omega)) (by intro k hk; match k,hk with
   | 0,_=>simp
   | 1,_=>simp)).mono ?_
   rintro e w' ⟨rfl,hown,hB⟩;rw [show (W1.alloc (.cells #[iV sp,iV dp] 2)).heap.size=W1.heap.size+1 by simp] at hown hB ⊢;rw [HL2.out] at hown;exact ⟨rfl,hown,(bR.alloc lR _).trans (hB.mono (by omega))⟩
  clear HL2;go_wp2_with fail
  refine HL.out.mono ?_;rintro e w3 ⟨rfl,hown,q3⟩;have hT3:HoldsL w3 (w.z+1) (strCells t):=HT1.out.kept (by rw [strCells_length]; omega) q3;have hrun:=run_lay_more (P:=Tryz.prog) (dCap:=cp) 22 22 3 5 Tryz.underlying22 hinfo hT3 (o:=0) (by omega) (dLen:=t.size) (by omega) z4.symm hown;rw [z4] at hrun;have HF:Hid (HoldsL (w3.setCells (w.z+1) 0 (strCells (twoV sp++twoV dp))) (w.z+1) (strCells ans)):=by unfold Hid; rw [HX.out]; exact lay_put hT3 (by omega)
  have HB:Hid (Below w.z w (w3.setCells (w.z+1) 0 (strCells (twoV sp++twoV dp)))):=below_setCells ((HS1.out.kept q3).b) (by omega) _ _;clear hT3 hown q3 HT1 HS1 HL HX k0 k1 k2 k3 k4;go_wp2_with fail
  go_ret;exact ⟨⟨_,_,rfl,hcap,by omega,HF.out⟩,HB.out⟩
 | true =>
  have hep:=hp hec;have HX:Hid (ans=putV (putV t 4 (twoV sp)) 0 (oneV (if bt t 0=askP p then askP proto else ansP proto))):=by unfold Hid; rw [HV.out,hec]; rfl
  replace HE1:Hid _:=HE1.out hep;replace HE2:Hid _:=HE2.out hec;clear HV HL2 hep hec hp HE;go_upto_region 5 with fail
  clear k0 k1 k2 k3 k4;have n4:¬ (t.size:Int) < 4:=by omega
  have c4:¬ (cp:Int) < 4:=by omega
  have n5:(4:Int)≤t.size:=by omega
  have c44:¬ cp=4:=by omega
  go_cut [33] (fun v wx=>HoldsL wx (w.z+1) (strCells (putV t 4 (twoV sp)))∧Bxs w [(w.z,(FlR proto src dst sp dp))] wx)
  case first =>
   rename_i J K2 hJ hK2;have HCP:Hid (∀ wy,Below W1.drew.heap.size W1.drew wy→_):=fun wy hy=>HS1.out.kept (bR.drew.trans hy)
   have HGP:Hid (∀ wy,Below W1.drew.heap.size W1.drew wy→HoldsL wy (w.z+1) (strCells t)):=fun wy hy=>HT1.out.kept (by rw [strCells_length]; omega) (bR.drew.trans hy)
   have hlw2:w.z≤W1.drew.heap.size:=by show w.z≤W1.heap.size; omega
   clear HT1 HS1 HX HE1 HE2;refine wp_region_growV [27,28,29,30,31,32] (by kernel_rfl) (by kernel_rfl) ?_;iterate 4 (apply GChV.u rfl;(·intro K' a wy ho hd hb hK;simp [rAt,IsV,slot,Region.binds] at ho hd;have hst:=HCP.out wy hb;have HHk:=hst.at mE0;have k3:=HHk.cell (j:=3) rfl;clear HHk;clear hst;go_simp;(try go_bits);exact hK _ _ rfl bQ);dsimp only [nA,cA])
   refine GChV.rel (n:=4) (IsWords [sp]) (stable_isWords _) [_,_,_,_,IsWords [sp]] rfl rfl ?_ ?_
   ·intro K' a wy ho hd hb hK;rw [wN rfl];have q3:=hd ⟨3,.data⟩ (by simp) rfl;simp [rAt,IsV,slot] at q3;clear hd ho;go_simp;exact hK _ _ ⟨wy.heap.size,rfl,by simp,fun k hk=>by
     simp only [List.length_cons,List.length_nil] at hk;match k,hk with
     | 0,_=>simp⟩ (bR.alloc lR _)
   refine GChV.rel (n:=5) (IsOwn w.z 5 2 (strCells (twoV sp))) (stable_isOwn _ _ _ _) [_,_,_,_,_,IsOwn w.z 5 2 (strCells (twoV sp))] rfl rfl ?_ ?_
   ·intro K' a wy ho hd hb hK;rw [wN rfl];have hr:IsWords [sp] (slot a 31) wy:=hd ⟨4,.data⟩ (by simp) rfl;obtain ⟨b4,e1,e2,e3⟩:=hr;simp [slot] at e1;clear hd ho;go_simp;refine (layWords_any [sp] b4 1 1 wy (by decide) e2 rfl (getD_word _ (by simp only [List.forall_mem_cons,List.not_mem_nil,false_imp_iff,implies_true,and_true]; omega)) e3).mono ?_;rintro e wz ⟨rfl,hown,hz⟩;exact hK _ _ ⟨_,rfl,owns_base (by rw [← HL1.out]; exact hown) (Nat.le_trans hlw2 hb.size)⟩ hz
   intro X wz hR hz;obtain ⟨x0,x1,x2,x3,x4,x5,-⟩:=hR;obtain ⟨b4,e4,-,-⟩:=x4;obtain ⟨g5,e5,own5⟩:=x5;simp only [IsV] at x0 x1 x2 x3;simp only [putsFrom,x0,x1,x2,x3,e4,e5];clear x0 x1 x2 x3;rw [e5] at own5;have hgz:=HGP.out wz hz;have hrun:=run_lay_more (P:=Tryz.prog) (dCap:=cp-4) 22 22 3 5 Tryz.underlying22 hinfo hgz (o:=4) (by omega) (dLen:=t.size-4) (by omega) z2.symm own5;rw [z2] at hrun;have HN2:Hid (HoldsL (wz.setCells (w.z+1) 4 (strCells (twoV sp))) (w.z+1) (strCells (putV t 4 (twoV sp)))):=lay_put hgz (by omega);have HB2:Hid (Bxs w [(w.z,(FlR proto src dst sp dp))] (wz.setCells (w.z+1) 4 (strCells (twoV sp)))):=(HCP.out wz hz).cells (fun e he=>by
    rw [List.mem_singleton] at he;rw [he]; show w.z≠w.z+1; omega) (by omega)
   clear hgz own5 hz HCP HGP;intro K10 hK10;go_simp;refine hK10 _ _ ?_;show Exit.then _ _ _ _ _;refine hK2 _ _ (hJ _ _ ?_);(repeat apply Exists.intro)
   exact ⟨⟨HN2.out,HB2.out⟩,rfl⟩
  case rest =>
  obtain ⟨hG,hS⟩:=hcut;have G2:Hid _:=hG;have S2:Hid (Bxs w [(w.z,(FlR proto src dst sp dp))] wc):=hS;clear hG hS HT1 HS1 HL1;generalize wc=W2 at *;have hz2:=putV_size (t:=t) (u:=twoV sp) (k:=4) (by omega);have c0:=hold_bt G2.out 0 (by omega);have f0:W2.frozen? ⟨w.z+1,0,none⟩=false:=G2.out.free (by rw [strCells_length]; omega);have e0:bt (putV t 4 (twoV sp)) 0=bt t 0:=by rw [bt_put (by omega),if_pos (by omega)]
  rw [e0] at c0;clear e0;have HHk:=S2.out.at mE0;obtain ⟨k0,k1,k2,k3,k4⟩:=HHk.c5;clear HHk;go_wp2_with fail
  refine (HE1.out _).mono ?_;rintro e W2 ⟨rfl,rfl⟩;go_wp2_with fail
  refine (HE2.out _).mono ?_;rintro e W2 ⟨rfl,rfl⟩;by_cases ha:bt t 0=askP p
  case pos =>
   have d0:(bt t 0==askP p)=true:=by simp [ha]
   have HF:Hid (HoldsL (W2.setCell ⟨w.z+1,0,none⟩ (.int .u8 (askP proto))) (w.z+1) (strCells ans)):=by unfold Hid; rw [HX.out,if_pos ha]; exact lay_first G2.out ra (by omega)
   have HB:Hid (Below w.z w (W2.setCell ⟨w.z+1,0,none⟩ (.int .u8 (askP proto)))):=S2.out.b.setCell (p:=⟨w.z+1,0,none⟩) (by show w.z≤w.z+1; omega) _;clear ha HX G2 S2 HE1 HE2;generalize bt t 0=b0 at *;generalize askP p=ap at *;generalize askP proto=ag at *;generalize ansP proto=ng at *;generalize ansP p=np at *;go_wp2_with fail
   go_ret;exact ⟨⟨_,_,rfl,hcap,by omega,HF.out⟩,HB.out⟩
  case neg =>
   have d0:(bt t 0==askP p)=false:=by simp [ha]
   have HF:Hid (HoldsL (W2.setCell ⟨w.z+1,0,none⟩ (.int .u8 (ansP proto))) (w.z+1) (strCells ans)):=by unfold Hid; rw [HX.out,if_neg ha]; exact lay_first G2.out rn (by omega)
   have HB:Hid (Below w.z w (W2.setCell ⟨w.z+1,0,none⟩ (.int .u8 (ansP proto)))):=S2.out.b.setCell (p:=⟨w.z+1,0,none⟩) (by show w.z≤w.z+1; omega) _;clear ha HX G2 S2 HE1 HE2;generalize bt t 0=b0 at *;generalize askP p=ap at *;generalize askP proto=ag at *;generalize ansP proto=ng at *;generalize ansP p=np at *;go_wp2_with fail
   go_ret;exact ⟨⟨_,_,rfl,hcap,by omega,HF.out⟩,HB.out⟩
end Go.Proofs.YtdkepkaflielhaaGreatDoor
