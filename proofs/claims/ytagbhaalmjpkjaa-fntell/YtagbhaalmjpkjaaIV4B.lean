import Derived.Test.YtagbhaalmjpkjaaIV4BM
import Derived.Test.YtagbhaalmjpkjaaIV4
import Derived.Test.YtagbhaalmjpkjaaMerged3
import Derived.Test.YtagbhaalmjpkjaaGrowU
import Derived.Laws.CopyOwn
set_option linter.unusedVariables false
set_option linter.unusedSimpArgs false
set_option maxRecDepth 100000
set_option maxHeartbeats 8000000
namespace Go.Proofs.Ytagbhaalmjpkjaa
open Go.RowKit Go.PlainAid Go.Lib
theorem offWord_any (p:P4) (w:World) (h0:0≤p.off) (h1:p.off≤8191) :
  Calls Try.prog 67 #[p4C p] w fun e w'=>e=.returned (.int .i64 (offV p))∧Below w.heap.size w w':=by
 have HO:Hid (offV p=p.off+(if p.whole then 16384 else 0)+(if p.more then 8192 else 0)):=rfl;generalize offV p=ans at *;obtain ⟨tos,id,whole,more,off,ttl,proto,src,dst,opts,data⟩:=p;unfold p4C;dsimp only at *;have HZ:Hid (Below w.heap.size w (w.alloc (.cells #[.int .i64 tos,.int .i64 id,.bool whole,.bool more,.int .i64 off,.int .i64 ttl,.int .i64 proto,.string src,.string dst,.string opts,.string data] 34))):=(Below.refl _ _).alloc (Nat.le_refl _) _;have e1:=or_16384 off h0 h1;have e2:=or_8192 off h0 h1;have e3:=or_8192b off h0 h1
 cases whole;all_goals cases more
 all_goals go_enter Try.func67,Try.ntmps67
 all_goals go_wp2_with fail
 all_goals go_ret
 all_goals exact ⟨ret_int (by rw [HO.out]; simp<;>omega),HZ.out⟩
theorem v4_words (x0 x1 x2 x3 x4 x5 x6:Int) (h0:0≤x0∧x0≤255) (h1:0≤x1∧x1≤255) (h2:0≤x2∧x2≤65535) (h3:0≤x3∧x3≤65535) (h4:0≤x4∧x4≤65535) (h5:0≤x5∧x5≤255) (h6:0≤x6∧x6≤255) :
  (layL [x0*256+x1,x2,x3,x4,x5*256+x6,0]).map (Value.int .u8)=strCells (pairV x0 x1++twoV x2++twoV x3++twoV x4++pairV x5 x6++twoV 0):=by
 simp only [strCells_append];rw [strCells_pair x0 x1 h0 h1,strCells_two x2 h2.1 h2.2,strCells_two x3 h3.1 h3.2,strCells_two x4 h4.1 h4.2,strCells_pair x5 x6 h5 h6,strCells_two 0 (by decide) (by decide)];simp only [layL,List.map_cons,List.map_nil,List.cons_append,List.nil_append];rw [show (x0*256+x1) / 256=x0 by omega,show (x0*256+x1) % 256=x1 by omega,show (x5*256+x6) / 256=x5 by omega,show (x5*256+x6) % 256=x6 by omega]
theorem implV4Bytes_sm (p:P4) (w:World) (hs:P4Sm p) (hw:P4Wf p) :
  Calls Try.prog 40 #[p4C p] w fun e w'=>e=.returned (.string (v4BytesV p))∧Below w.heap.size w w':=by
 have HR:Hid (∀ W,Calls Try.prog 34 #[p4C p] W fun e w'=>e=.returned (.bool (v4Ok p))∧Below W.heap.size W w'):=fun W=>implV4Right_sm p W hs hw
 have HOW:Hid (0≤p.off→p.off≤8191→∀ W,Calls Try.prog 67 #[p4C p] W fun e w'=>e=.returned (.int .i64 (offV p))∧Below W.heap.size W w'):=fun h0 h1 W=>offWord_any p W h0 h1
 have HO:Hid (offV p=p.off+(if p.whole then 16384 else 0)+(if p.more then 8192 else 0)):=rfl;have HN:Hid (v4Ok p=false→v4BytesV p=⟨#[]⟩):=fun h=>by unfold v4BytesV; rw [h]; rfl
 have HY:Hid (v4Ok p=true→v4BytesV p=headA p++twoV (65535-sumV (headA p++headB p))++headB p++p.data):=fun h=>by unfold v4BytesV; rw [h]; rfl
 have HA:Hid (headA p=pairV (64+(20+(p.opts.size:Int)) / 4) p.tos++twoV (20+(p.opts.size:Int)+p.data.size)++twoV p.id++twoV (offV p)++pairV p.ttl p.proto):=rfl;have HB:Hid (headB p=p.src++p.dst++p.opts):=rfl;have HF:Hid (v4Ok p=true→v4A p=true∧v4B p=true):=fun h=>by unfold v4Ok at h; simp only [Bool.and_eq_true] at h; exact h.1
 have HFA:Hid (v4A p=true→_):=fun h=>v4A_parts h
 have HFB:Hid (v4B p=true→_):=fun h=>v4B_parts h
 obtain ⟨i0,hi,hz0,hz1,hz2⟩:=info_parts Try.info5;generalize v4Ok p=ok at *;generalize v4A p=vA at *;generalize v4B p=vB at *;generalize v4BytesV p=ans at *;generalize headA p=hdA at *;generalize headB p=hdB at *;generalize offV p=offv at *;clear hs hw;obtain ⟨tos,id,whole,more,off,ttl,proto,src,dst,opts,data⟩:=p;unfold p4C at *;dsimp only at *;have HZ:Hid (Below w.heap.size w (w.alloc (.cells #[.int .i64 tos,.int .i64 id,.bool whole,.bool more,.int .i64 off,.int .i64 ttl,.int .i64 proto,.string src,.string dst,.string opts,.string data] 34))):=(Below.refl _ _).alloc (Nat.le_refl _) _;have KZ:Hid (BoxV4 (w.alloc (.cells #[.int .i64 tos,.int .i64 id,.bool whole,.bool more,.int .i64 off,.int .i64 ttl,.int .i64 proto,.string src,.string dst,.string opts,.string data] 34)) w.heap.size ⟨tos,id,whole,more,off,ttl,proto,src,dst,opts,data⟩):=BoxV4.new w ⟨tos,id,whole,more,off,ttl,proto,src,dst,opts,data⟩;go_enter Try.func40,Try.ntmps40
 go_wp2_with fail
 refine (HR.out _).mono ?_;rintro e W1 ⟨rfl,q1⟩;have G1:Hid (Below w.heap.size w W1):=HZ.out.trans (q1.mono HZ.out.size);have K1:Hid (BoxV4 W1 w.heap.size ⟨tos,id,whole,more,off,ttl,proto,src,dst,opts,data⟩):=KZ.out.kept q1;clear q1 HZ KZ HR
 cases ok with
 | false =>
  have HV:Hid (ans=⟨#[]⟩):=HN.out rfl;clear HN HY HF;go_wp2_with fail
  go_ret;exact ⟨ret_string HV.out.symm,G1.out⟩
 | true =>
 have HV:Hid _:=HY.out rfl;obtain ⟨hA,hB⟩:=HF.out rfl;obtain ⟨a1,a2,a3,a4,a5,a6,a7⟩:=HFA.out hA;obtain ⟨b1,b2,b3,-,b5⟩:=HFB.out hB;try dsimp only at a1 a2 a3 a4 a5 a6 a7 b1 b2 b3 b5
 replace HOW:Hid _:=HOW.out a5.1 a5.2;clear HN HY HF HFA HFB hA hB;have o0:0≤offv∧offv≤65535:=by have:=HO.out; split at this<;>split at this<;>omega
 clear HO;have hsB:hdB.size=8+opts.size:=by rw [HB.out]; simp only [ByteArray.size_append]; omega
 have hsA:hdA.size=10:=by rw [HA.out]; simp only [ByteArray.size_append,pairV_size,twoV_size]
 obtain ⟨k0,k1,k2,k3,k4,k5,k6,k7,k8,k9,k10⟩:=K1.out;go_upto_region 4 with fail
 clear k0 k1 k2 k3 k4 k5 k6 k7 k8 k9 k10;obtain ⟨hq,hhq⟩ : ∃ h,h=20+(opts.size:Int):=⟨_,rfl⟩;have HH:Hid (hq=20+(opts.size:Int)):=hhq;have h20:20≤hq∧hq≤60:=by omega
 have h5:64+hq / 4≤255:=by omega
 rw [← hhq] at HA ⊢;clear hhq;have j1:=join_word (64+hq / 4) tos (by omega) (by omega) a1.1 a1.2;have j2:=join_word ttl proto a2.1 a2.2 a3.1 a3.2;have HK:Hid (∀ wy,Below W1.drew.heap.size W1.drew wy→BoxV4 wy w.heap.size ⟨tos,id,whole,more,off,ttl,proto,src,dst,opts,data⟩):=fun wy hy=>K1.out.kept ((Below.refl _ W1).drew.trans hy)
 have HX:Hid ((layL [(64+hq / 4)*256+tos,hq+data.size,id,offv,ttl*256+proto,0]).map (Value.int .u8)=strCells (hdA++twoV 0)):=by
  unfold Hid; rw [HA.out]; exact v4_words _ _ _ _ _ _ _ (by omega) a1 (by omega) a4 o0 a2 a3
 go_cut [4] (fun v wx=>∃ g,v=.slice (some ⟨g,0,none⟩) 12 12∧wx.ownsRow W1.heap.size 5 1 v 12 (strCells (hdA++twoV 0))∧Below W1.heap.size W1 wx)
 case first =>
  rename_i J K2 hJ hK2;clear HV HB HA hsA hsB;refine wp_region_growL (Rs:=[IsV (.int .i64 hq),IsV (.int .i64 (hq / 4)),IsV (.int .i64 (64+hq / 4)),IsV (.int .i64 ((64+hq / 4)*256)),IsV (.pointer (some ⟨w.heap.size,0,none⟩)),IsV (.int .i64 tos),IsV (.int .i64 ((64+hq / 4)*256+tos)),IsV (.int .i64 hq),IsV (.pointer (some ⟨w.heap.size,10,none⟩)),IsV (.string data),IsV (.int .i64 (data.size:Int)),IsV (.int .i64 (hq+(data.size:Int))),IsV (.pointer (some ⟨w.heap.size,1,none⟩)),IsV (.int .i64 id),IsV (.agg #[.int .i64 tos,.int .i64 id,.bool whole,.bool more,.int .i64 off,.int .i64 ttl,.int .i64 proto,.string src,.string dst,.string opts,.string data]),IsV (.int .i64 offv),IsV (.pointer (some ⟨w.heap.size,5,none⟩)),IsV (.int .i64 ttl),IsV (.int .i64 (ttl*256)),IsV (.pointer (some ⟨w.heap.size,6,none⟩)),IsV (.int .i64 proto),IsV (.int .i64 (ttl*256+proto)),IsWords [(64+hq / 4)*256+tos,hq+(data.size:Int),id,offv,ttl*256+proto,0],IsOwn W1.heap.size 5 12 (strCells (hdA++twoV 0)),IsOwn W1.heap.size 5 12 (strCells (hdA++twoV 0))]) [12,13,14,15,16,17,18,19,20,21,22,23,24,25,26,27,28,29,30,31,32,33,34,35,4] (by kernel_rfl) (by kernel_rfl) rfl ?st ?steps ?done
  case st=>simp [stable_isV,stable_isWords,stable_isOwn]
  case steps =>
   refine ⟨?s0,?s1,?s2,?s3,?s4,?s5,?s6,?s7,?s8,?s9,?s10,?s11,?s12,?s13,?s14,?s15,?s16,?s17,?s18,?s19,?s20,?s21,?s22,?s23,?s24,trivial⟩
   case s0 =>
    intro K' a wy ho hd hb hK;have h3:=ho 3 (by decide);simp [slot] at h3;clear hd;go_simp;try go_bits
    exact hK _ _ rfl (Below.refl _ _)
   case s1 =>
    intro K' a wy ho hd hb hK;simp [Region.binds,rAt,IsV,slot] at hd;go_simp;try go_bits
    exact hK _ _ rfl (Below.refl _ _)
   case s2 =>
    intro K' a wy ho hd hb hK;simp [Region.binds,rAt,IsV,slot] at hd;go_simp;try go_bits
    exact hK _ _ rfl (Below.refl _ _)
   case s3 =>
    intro K' a wy ho hd hb hK;simp [Region.binds,rAt,IsV,slot] at hd;go_simp;try go_bits
    exact hK _ _ rfl (Below.refl _ _)
   case s4 =>
    intro K' a wy ho hd hb hK;have h3:=ho 1 (by decide);simp [slot] at h3;clear hd;go_simp;try go_bits
    exact hK _ _ rfl (Below.refl _ _)
   case s5 =>
    intro K' a wy ho hd hb hK;simp [Region.binds,rAt,IsV,slot] at hd;obtain ⟨k0,k1,k2,k3,k4,k5,k6,k7,k8,k9,k10⟩:=HK.out wy hb;go_simp;try go_bits
    exact hK _ _ rfl (Below.refl _ _)
   case s6 =>
    intro K' a wy ho hd hb hK;simp [Region.binds,rAt,IsV,slot] at hd;go_simp;try go_bits
    exact hK _ _ rfl (Below.refl _ _)
   case s7 =>
    intro K' a wy ho hd hb hK;have h3:=ho 3 (by decide);simp [slot] at h3;clear hd;go_simp;try go_bits
    exact hK _ _ rfl (Below.refl _ _)
   case s8 =>
    intro K' a wy ho hd hb hK;have h3:=ho 1 (by decide);simp [slot] at h3;clear hd;go_simp;try go_bits
    exact hK _ _ rfl (Below.refl _ _)
   case s9 =>
    intro K' a wy ho hd hb hK;simp [Region.binds,rAt,IsV,slot] at hd;obtain ⟨k0,k1,k2,k3,k4,k5,k6,k7,k8,k9,k10⟩:=HK.out wy hb;go_simp;try go_bits
    exact hK _ _ rfl (Below.refl _ _)
   case s10 =>
    intro K' a wy ho hd hb hK;simp [Region.binds,rAt,IsV,slot] at hd;go_simp;try go_bits
    exact hK _ _ rfl (Below.refl _ _)
   case s11 =>
    intro K' a wy ho hd hb hK;simp [Region.binds,rAt,IsV,slot] at hd;go_simp;try go_bits
    exact hK _ _ rfl (Below.refl _ _)
   case s12 =>
    intro K' a wy ho hd hb hK;have h3:=ho 1 (by decide);simp [slot] at h3;clear hd;go_simp;try go_bits
    exact hK _ _ rfl (Below.refl _ _)
   case s13 =>
    intro K' a wy ho hd hb hK;simp [Region.binds,rAt,IsV,slot] at hd;obtain ⟨k0,k1,k2,k3,k4,k5,k6,k7,k8,k9,k10⟩:=HK.out wy hb;go_simp;try go_bits
    exact hK _ _ rfl (Below.refl _ _)
   case s14 =>
    intro K' a wy ho hd hb hK;have h3:=ho 1 (by decide);simp [slot] at h3;clear hd;obtain ⟨k0,k1,k2,k3,k4,k5,k6,k7,k8,k9,k10⟩:=HK.out wy hb;go_simp;try go_bits
    exact hK _ _ rfl (Below.refl _ _)
   case s15 =>
    intro K' a wy ho hd hb hK;simp [Region.binds,rAt,IsV,slot] at hd;go_simp;refine (HOW.out wy).mono ?_;rintro e wz ⟨rfl,hz⟩;exact hK _ _ rfl hz
   case s16 =>
    intro K' a wy ho hd hb hK;have h3:=ho 1 (by decide);simp [slot] at h3;clear hd;go_simp;try go_bits
    exact hK _ _ rfl (Below.refl _ _)
   case s17 =>
    intro K' a wy ho hd hb hK;simp [Region.binds,rAt,IsV,slot] at hd;obtain ⟨k0,k1,k2,k3,k4,k5,k6,k7,k8,k9,k10⟩:=HK.out wy hb;go_simp;try go_bits
    exact hK _ _ rfl (Below.refl _ _)
   case s18 =>
    intro K' a wy ho hd hb hK;simp [Region.binds,rAt,IsV,slot] at hd;go_simp;try go_bits
    exact hK _ _ rfl (Below.refl _ _)
   case s19 =>
    intro K' a wy ho hd hb hK;have h3:=ho 1 (by decide);simp [slot] at h3;clear hd;go_simp;try go_bits
    exact hK _ _ rfl (Below.refl _ _)
   case s20 =>
    intro K' a wy ho hd hb hK;simp [Region.binds,rAt,IsV,slot] at hd;obtain ⟨k0,k1,k2,k3,k4,k5,k6,k7,k8,k9,k10⟩:=HK.out wy hb;go_simp;try go_bits
    exact hK _ _ rfl (Below.refl _ _)
   case s21 =>
    intro K' a wy ho hd hb hK;simp [Region.binds,rAt,IsV,slot] at hd;go_simp;try go_bits
    exact hK _ _ rfl (Below.refl _ _)
   case s22 =>
    intro K' a wy ho hd hb hK;simp [Region.binds,rAt,IsV,slot] at hd;go_simp;exact hK _ _ ⟨wy.heap.size,rfl,by simp,fun k hk=>by
     simp only [List.length_cons,List.length_nil] at hk;match k,hk with
     | 0,_=>simp
     | 1,_=>simp
     | 2,_=>simp
     | 3,_=>simp
     | 4,_=>simp
     | 5,_=>simp
    ⟩ ((Below.refl _ _).alloc (Nat.le_refl _) _)
   case s23 =>
    intro K' a wy ho hd hb hK;have hr:IsWords [(64+hq / 4)*256+tos,hq+(data.size:Int),id,offv,ttl*256+proto,0] (slot a 34) wy:=hd ⟨22,.data⟩ (by simp) rfl;obtain ⟨b,e1,e2,e3⟩:=hr;clear hd;simp [slot] at e1;go_simp;refine (layWords_any [(64+hq / 4)*256+tos,hq+(data.size:Int),id,offv,ttl*256+proto,0] b 6 6 wy (by decide) e2 rfl (getD_word _ (by simp only [List.forall_mem_cons,List.not_mem_nil,false_imp_iff,implies_true,and_true]; omega)) e3).mono ?_;rintro e wz ⟨rfl,hown,hz⟩;exact hK _ _ ⟨_,rfl,owns_base (by rw [← HX.out]; exact hown) hb.size⟩ hz
   case s24 =>
    intro K' a wy ho hd hb hK;have hr:IsOwn W1.heap.size 5 12 (strCells (hdA++twoV 0)) (slot a 35) wy:=hd ⟨23,.data⟩ (by simp) rfl;obtain ⟨g,e1,e2⟩:=hr;clear hd;simp [slot] at e1;go_simp;exact hK _ _ ⟨g,rfl,by simpa [slot,e1] using e2⟩ (Below.refl _ _)
  case done =>
   intro X wz hR hz;obtain ⟨x0,x1,x2,x3,x4,x5,x6,x7,x8,x9,x10,x11,x12,x13,x14,x15,x16,x17,x18,x19,x20,x21,⟨b22,x22,-,-⟩,⟨g23,x23,-⟩,⟨g,x24,hown⟩,-⟩:=hR;simp only [IsV] at x0 x1 x2 x3 x4 x5 x6 x7 x8 x9 x10 x11 x12 x13 x14 x15 x16 x17 x18 x19 x20 x21;rw [x24] at hown;simp only [putsFrom,x0,x1,x2,x3,x4,x5,x6,x7,x8,x9,x10,x11,x12,x13,x14,x15,x16,x17,x18,x19,x20,x21,x22,x23,x24];clear x0 x1 x2 x3 x4 x5 x6 x7 x8 x9 x10 x11 x12 x13 x14 x15 x16 x17 x18 x19 x20 x21 x22 x23 x24;go_simp;refine hK2 _ _ (hJ _ _ ?_);(repeat apply Exists.intro)
   refine ⟨⟨g,rfl,hown,(Below.refl _ W1).drew.trans hz⟩,rfl⟩
 case rest =>
 obtain ⟨g,rfl,hown,hbel⟩:=hcut;have HW:Hid (Below W1.heap.size W1 wc):=hbel;have K2:Hid (BoxV4 wc w.heap.size ⟨tos,id,whole,more,off,ttl,proto,src,dst,opts,data⟩):=K1.out.kept hbel;clear HK j1 j2 HX hbel HOW h5;have n1:¬ 9223372036854775807 < src.size+dst.size:=by omega
 have n2:¬ 9223372036854775807 < src.size+dst.size+opts.size:=by omega
 obtain ⟨k0,k1,k2,k3,k4,k5,k6,k7,k8,k9,k10⟩:=K2.out;go_wp2_with (at_builtin; refine wpList_append_own_string _ rfl (.tmp 36) (.tmp 44) 22 9 rfl W1.heap.size 5 i0 Try.underlying22 Try.underlying9 hi hz0 hz1 hz2 _ 12 _ rfl hown (src++dst++opts) rfl (by rw [← HB.out]; unfold maxLen; omega) (by rw [← HB.out]; omega) HW.out.size ?_)
 intro v' w3 hown2 hgrow hiff;obtain ⟨g2,cap2,rfl,hown2⟩:=own_shape hown2 (fun h=>hiff h);have HW3:Hid (Below W1.heap.size W1 w3):=HW.out.grown hgrow HW.out.size (fun k hk=>by have:=hown.lt g rfl; simp [Value.ownBlock] at hk; omega);have K3':Hid (∀ {W:World},Below W1.heap.size W1 W→BoxV4 W w.heap.size ⟨tos,id,whole,more,off,ttl,proto,src,dst,opts,data⟩):=fun h=>K1.out.kept h
 have K3:Hid (BoxV4 w3 w.heap.size ⟨tos,id,whole,more,off,ttl,proto,src,dst,opts,data⟩):=K1.out.kept HW3.out;clear k0 k1 k2 k3 k4 k5 k6 k7 k8 k9 k10 hown hgrow hiff K2 K1;rw [← HB.out,← strCells_append] at hown2;obtain ⟨m,hm0⟩ : ∃ m,m=12+(8+opts.size):=⟨_,rfl⟩;rw [← hm0] at hown2 ⊢;have hm:m=12+hdB.size:=by rw [hm0,hsB]
 have hm20:20≤m∧m≤60:=by omega
 have hcap:m≤cap2:=by
  obtain ⟨cur,-,-,-,hh,-⟩:=row_copied (Y:=twoV 0) hown2 hsA rfl rfl hm;exact hh
 have HOWN:Hid _:=hown2;have HM:Hid (m=12+hdB.size):=hm;clear hown2 HB hm hm0;go_upto_region 6 with fail
 obtain ⟨S,hS⟩ : ∃ S,S=sumV (hdA++hdB):=⟨_,rfl⟩;have hSr:0≤S∧S≤65535:=by rw [hS]; exact sumV_range _
 have HSum:Hid (∀ wy,Below w3.drew.heap.size w3.drew wy→Calls Try.prog 68 #[.slice (some ⟨g2,0,none⟩) m cap2] wy fun e w'=>e=.returned (.int .i64 S)∧Below wy.heap.size wy w'):=fun wy hy=>by
  have hr:wy.ownsRow W1.heap.size 5 1 (.slice (some ⟨g2,0,none⟩) m cap2) m (strCells (hdA++twoV 0++hdB)):=owns_kept HOWN.out ((Below.refl _ w3).drew.trans hy);have hsz:(hdA++twoV 0++hdB).size=m:=by have:=HM.out; simp only [ByteArray.size_append,twoV_size]; omega
  refine (sumOfB_any (bt (hdA++twoV 0++hdB)) g2 m cap2 wy (bt_isByte _) (fun i hi=>bt_out (by omega)) (by omega) (fun i hi=>by rw [hr.cellAt i (by omega)]; exact strCells_at _ i (by omega))).mono ?_;rintro e w' ⟨rfl,rfl⟩;refine ⟨ret_int ?_,Below.refl _ _⟩;rw [hS,← sumV_zero hdA hdB 5 hsA];unfold sumV; rw [hsz]
 rw [← hS] at HV;clear hS;have hc10:¬ cap2=10:=by omega
 have hm10:(10:Int)≤m:=by omega
 go_cut [53] (fun v wx=>Below W1.heap.size W1 wx∧∀ i,i < m→wx.cell? ⟨g2,i,none⟩=some (.int .u8 (bt (hdA++twoV (65535-S)++hdB) i)))
 case first =>
  rename_i J K2 hJ hK2;clear HV;refine wp_region_growU (Rs:=[IsV (.slice (some ⟨g2,0,none⟩) m cap2),IsV (.slice (some ⟨g2,10,none⟩) (m-10) (cap2-10)),IsV (.slice (some ⟨g2,0,none⟩) m cap2),IsV (.int .i64 S),IsV (.int .i64 (65535-S)),IsWords [65535-S],IsOwn W1.heap.size 5 2 (strCells (twoV (65535-S)))]) [46,47,48,49,50,51,52] _ (by kernel_rfl) rfl (by kernel_rfl) rfl ?st ?steps ?lst
  case st=>simp [stable_isV,stable_isWords,stable_isOwn]
  case steps =>
   refine ⟨?s0,?s1,?s2,?s3,?s4,?s5,?s6,trivial⟩
   case s0 =>
    intro K' a wy ho hd hb hK;have h3:=ho 4 (by decide);simp [slot] at h3;clear hd;go_simp;try go_bits
    exact hK _ _ rfl (Below.refl _ _)
   case s1 =>
    intro K' a wy ho hd hb hK;simp [Region.binds,rAt,IsV,slot] at hd;go_simp;try go_bits
    exact hK _ _ rfl (Below.refl _ _)
   case s2 =>
    intro K' a wy ho hd hb hK;have h3:=ho 4 (by decide);simp [slot] at h3;clear hd;go_simp;try go_bits
    exact hK _ _ rfl (Below.refl _ _)
   case s3 =>
    intro K' a wy ho hd hb hK;simp [Region.binds,rAt,IsV,slot] at hd;go_simp;refine (HSum.out wy hb).mono ?_;rintro e wz ⟨rfl,hz⟩;exact hK _ _ rfl hz
   case s4 =>
    intro K' a wy ho hd hb hK;simp [Region.binds,rAt,IsV,slot] at hd;go_simp;try go_bits
    exact hK _ _ rfl (Below.refl _ _)
   case s5 =>
    intro K' a wy ho hd hb hK;simp [Region.binds,rAt,IsV,slot] at hd;go_simp;exact hK _ _ ⟨wy.heap.size,rfl,by simp,fun k hk=>by
     simp only [List.length_cons,List.length_nil] at hk;match k,hk with
     | 0,_=>simp
    ⟩ ((Below.refl _ _).alloc (Nat.le_refl _) _)
   case s6 =>
    intro K' a wy ho hd hb hK;have hr:IsWords [65535-S] (slot a 51) wy:=hd ⟨5,.data⟩ (by simp) rfl;obtain ⟨b,e1,e2,e3⟩:=hr;clear hd;simp [slot] at e1;go_simp;refine (layWords_any [65535-S] b 1 1 wy (by decide) e2 rfl (getD_word _ (by simp only [List.forall_mem_cons,List.not_mem_nil,false_imp_iff,implies_true,and_true]; omega)) e3).mono ?_;rintro e wz ⟨rfl,hown,hz⟩;exact hK _ _ ⟨_,rfl,owns_base (by rw [strCells_two _ (by omega) (by omega)]; exact hown) (Nat.le_trans HW3.out.size hb.size)⟩ hz
  case lst =>
   intro X a K' wz ha hsl hR hb3 hK;have HAct:Hid (a=_):=ha;clear ha;obtain ⟨z0,z1,z2,z3,z4,⟨b5',z5,-,-⟩,⟨g6,z6,hown6⟩,-⟩:=hR;simp only [IsV] at z0 z1 z2 z3 z4;rw [z6] at hown6;have e47:a.eval (.tmp 47)=.slice (some ⟨g2,10,none⟩) (m-10) (cap2-10):=(hsl 1 (by decide)).trans z1;have e52:a.eval (.tmp 52)=.slice (some ⟨g6,0,none⟩) 2 2:=(hsl 6 (by decide)).trans z6;have hq:=owns_kept HOWN.out ((Below.refl _ w3).drew.trans hb3);obtain ⟨cur,hg,hbg,hcs,-,hcells⟩:=row_copied (Y:=twoV (65535-S)) hq hsA rfl rfl HM.out;have hrun:=run_copy_row (P:=Try.prog) wz 22 22 3 5 g2 10 (m-10) (cap2-10) ⟨g6,0,none⟩ 2 2 cur 5 (strCells (twoV (65535-S))) Try.underlying22 (by rw [hi]; simp [hz1]) hg (by rw [strCells_length]; show 2=min 2 (m-10); omega) (fun j v hj=>by
    have:=hown6.cells (g:=g6) rfl j v hj;exact this) (by rw [strCells_length]; show 10+2≤cur.size; omega) (strCells_oneCell _)
   unfold Oper.wp;simp only [List.length_cons,List.length_nil,Nat.reduceAdd,List.getElem_toArray,List.getElem_cons_succ,List.getElem_cons_zero,execOp,resolve,invoke,builtin,Sem.run_bind,Sem.run_pure,Result.andThen_ok,List.map_toArray,List.map_cons,List.map_nil,e47,e52,hrun,Oper.upon];refine hK _ _ ?_;rw [HAct.out];simp only [putsFrom,z0,z1,z2,z3,z4,z5,z6];clear z0 z1 z2 z3 z4 z5 z6 e47 e52 hrun;have hBel:Below W1.heap.size W1 (wz.setRow g2 (cur.toList.take 10++strCells (twoV (65535-S))++cur.toList.drop (10+(strCells (twoV (65535-S))).length)).toArray):=below_setRow (HW3.out.trans (((Below.refl _ w3).drew.trans hb3).mono HW3.out.size)) hbg _;generalize wz.setRow g2 (cur.toList.take 10++strCells (twoV (65535-S))++cur.toList.drop (10+(strCells (twoV (65535-S))).length)).toArray=Wf at *;go_simp;refine hK2 _ _ (hJ _ _ ?_);(repeat apply Exists.intro)
   refine ⟨⟨hBel,hcells⟩,rfl⟩
 case rest =>
 obtain ⟨hBel,hcells⟩:=hcut;have hsz:(hdA++twoV (65535-S)++hdB).size=m:=by have:=HM.out; simp only [ByteArray.size_append,twoV_size]; omega
 have hcv:∀ cap,(convert 22 9 (.slice (some ⟨g2,0,none⟩) m cap)).run Try.prog wc=.ok (.string (hdA++twoV (65535-S)++hdB)) wc:=fun cap=>by
  have:=take_conv (w:=wc) (b:=g2) (k:=0) (n:=m) (cap:=cap) (t:=hdA++twoV (65535-S)++hdB) (fun i hi=>hcells i (by omega)) (by omega);rw [show (hdA++twoV (65535-S)++hdB).extract 0 (0+m)=hdA++twoV (65535-S)++hdB by rw [Nat.zero_add,← hsz]; exact ByteArray.extract_zero_size] at this;exact this
 have K4:=K3'.out hBel;have G4:Hid (Below w.heap.size w wc):=G1.out.trans (hBel.mono G1.out.size);have n3:¬ 9223372036854775807 < (hdA++twoV (65535-S)++hdB).size+data.size:=by omega
 clear hBel hcells;generalize hdA++twoV (65535-S)++hdB=full at *;obtain ⟨k0,k1,k2,k3,k4,k5,k6,k7,k8,k9,k10⟩:=K4;go_wp2_with fail
 go_ret;exact ⟨ret_string HV.out.symm,G4.out⟩
end Go.Proofs.Ytagbhaalmjpkjaa
