import Derived.Test.YtagbhaalmjpkjaaIV4BM
import Derived.Test.YtagbhaalmjpkjaaMerged14
import Derived.Test.YtagbhaalmjpkjaaMerged9
import Derived.Deep.RegionWith
import Derived.Deep.DeepCutAuto
set_option linter.unusedVariables false
set_option linter.unusedSimpArgs false
set_option maxRecDepth 100000
set_option maxHeartbeats 8000000
namespace Go.Proofs.Ytagbhaalmjpkjaa
open Go.RowKit Go.PlainAid Go.Lib
theorem owns_conv {w:World} {base g n cap:Nat} {t:ByteArray} (h:w.ownsRow base 5 1 (.slice (some ⟨g,0,none⟩) n cap) n (strCells t)) (hn:n=t.size) :
  (convert 22 9 (.slice (some ⟨g,0,none⟩) n cap)).run Try.prog w=.ok (.string t) w:=by
 subst hn;have:=take_conv (w:=w) (b:=g) (k:=0) (n:=t.size) (cap:=cap) (t:=t) (fun i hi=>by rw [h.cellAt i (by omega)]; exact strCells_at t i hi) (by omega);rw [show t.extract 0 (0+t.size)=t by rw [Nat.zero_add]; exact ByteArray.extract_zero_size] at this;exact this
theorem piece_words (x0 x1 x2:Int) (h0:0≤x0∧x0≤255) (h1:0≤x1∧x1≤65535) (h2:0≤x2∧x2≤4294967295) :
  (layL ([x0*256,x1,x2 / 65536,x2].map (· % 65536))).map (Value.int .u8)=strCells (pairV x0 0++twoV x1++twoV (x2 / 65536)++twoV (x2 % 65536)):=by
 simp only [strCells_append];rw [strCells_pair x0 0 h0 (by decide),strCells_two x1 h1.1 h1.2,strCells_two (x2 / 65536) (by omega) (by omega),strCells_two (x2 % 65536) (by omega) (by omega)];simp only [layL,List.map_cons,List.map_nil,List.cons_append,List.nil_append];rw [show x0*256 % 65536 / 256=x0 by omega,show x0*256 % 65536 % 256=0 by omega,show x1 % 65536=x1 by omega,show x2 / 65536 % 65536=x2 / 65536 by omega]
theorem six_words (x0 x1 x2 x3:Int) (h0:0≤x0∧x0≤4294967295) (h1:0≤x1∧x1≤65535) (h2:0≤x2∧x2≤255) (h3:0≤x3∧x3≤255) :
  (layL ([x0 / 65536,x0,x1,x2*256+x3].map (· % 65536))).map (Value.int .u8)=strCells (twoV (x0 / 65536)++twoV (x0 % 65536)++twoV x1++pairV x2 x3):=by
 simp only [strCells_append];rw [strCells_pair x2 x3 h2 h3,strCells_two x1 h1.1 h1.2,strCells_two (x0 / 65536) (by omega) (by omega),strCells_two (x0 % 65536) (by omega) (by omega)];simp only [layL,List.map_cons,List.map_nil,List.cons_append,List.nil_append];rw [show (x2*256+x3) % 65536 / 256=x2 by omega,show (x2*256+x3) % 65536 % 256=x3 by omega,show x1 % 65536=x1 by omega,show x0 / 65536 % 65536=x0 / 65536 by omega]
theorem or_one (n:Int) (h0:0≤n) (h1:n≤8191):bits .or .i64 (n*8) 1=n*8+1 :=
 bits_join .i64 63 (by decide) wraps_i64 3 (n*8) 1 (by omega) (by omega) (by omega) (by omega) (by omega) (by omega)
theorem layAtM (ws:List Int) (t:ByteArray) (w:World) (hm:ws.length≤1000) (h:∀ n∈ws,0≤n∧n≤4294967295) (ht:(layL (ws.map (· % 65536))).map (Value.int .u8)=strCells t) :
  Calls Try.prog 65 #[.slice (some ⟨w.heap.size,0,none⟩) ws.length ws.length] (w.alloc (.cells (ws.map (Value.int .i64)).toArray 2)) fun e w' =>
   ∃ g n,e=.returned (.slice (some ⟨g,0,none⟩) n n)∧(convert 22 9 (.slice (some ⟨g,0,none⟩) n n)).run Try.prog w'=.ok (.string t) w'∧Below w.heap.size w w':=by
 have hg:∀ k,0≤ws.getD k 0∧ws.getD k 0≤4294967295:=fun k=>by
  by_cases hk:k < ws.length
  ·simp only [List.getD,List.getElem?_eq_getElem hk,Option.getD_some]; exact h _ (List.getElem_mem hk)
  ·simp [List.getD,List.getElem?_eq_none (show ws.length≤k by omega)]
 refine (layWordsM_any ws w.heap.size ws.length ws.length (w.alloc (.cells (ws.map (Value.int .i64)).toArray 2)) hm (by simp) rfl hg (by intro k hk; simp [hk])).mono ?_;rintro e w' ⟨rfl,hown,hB⟩;rw [ht] at hown;have hsz:2*ws.length=t.size:=by
  have:=congrArg List.length ht;rw [List.length_map,layL_length,strCells_length,List.length_map] at this;exact this
 have hz:(w.alloc (.cells (ws.map (Value.int .i64)).toArray 2)).heap.size=w.heap.size+1:=by simp
 exact ⟨_,_,rfl,owns_conv hown hsz,((Below.refl _ _).alloc (Nat.le_refl _) _).trans (hB.mono (by omega))⟩
def pieceH (p:P6):ByteArray:=pairV p.next 0++twoV (8*p.off+if p.more then 1 else 0)++twoV (p.id / 65536)++twoV (p.id % 65536)
theorem layPiece_any (p:P6) (w:World) (h1:0≤p.next∧p.next≤255) (h2:0≤p.off∧p.off≤8191) (h3:0≤p.id∧p.id≤4294967295) :
  Calls Try.prog 72 #[p6C p] w fun e w'=>e=.returned (.string (pieceH p))∧Below w.heap.size w w':=by
 obtain ⟨x,hx⟩ : ∃ x,x=8*p.off+if p.more then 1 else 0:=⟨_,rfl⟩;have hxr:0≤x∧x≤65535:=by rw [hx]; split<;>omega
 have HL:Hid (∀ W:World,Calls Try.prog 65 #[.slice (some ⟨W.heap.size,0,none⟩) 4 4] (W.alloc (.cells #[.int .i64 (p.next*256),.int .i64 x,.int .i64 (p.id / 65536),.int .i64 p.id] 2)) fun e w' =>
   ∃ g n,e=.returned (.slice (some ⟨g,0,none⟩) n n)∧(convert 22 9 (.slice (some ⟨g,0,none⟩) n n)).run Try.prog w'=.ok (.string (pieceH p)) w'∧Below W.heap.size W w'):=fun W =>
  layAtM [p.next*256,x,p.id / 65536,p.id] (pieceH p) W (by simp) (by simp only [List.forall_mem_cons,List.not_mem_nil,false_imp_iff,implies_true,and_true]; omega) (by unfold pieceH; rw [← hx]; exact piece_words _ _ _ h1 hxr h3)
 generalize pieceH p=ans at *;obtain ⟨cls,flow,next,hops,src,dst,piece,more,off,id,data⟩:=p;unfold p6C;dsimp only at *;have HX:Hid (x=8*off+if more then 1 else 0):=hx;have e1:=or_one off h2.1 h2.2;have HZ:Hid (Below w.heap.size w (w.alloc (.cells #[.int .i64 cls,.int .i64 flow,.int .i64 next,.int .i64 hops,.string src,.string dst,.bool piece,.bool more,.int .i64 off,.int .i64 id,.string data] 43))):=(Below.refl _ _).alloc (Nat.le_refl _) _;have HSz:Hid ((w.alloc (.cells #[.int .i64 cls,.int .i64 flow,.int .i64 next,.int .i64 hops,.string src,.string dst,.bool piece,.bool more,.int .i64 off,.int .i64 id,.string data] 43)).heap.size=w.heap.size+1):=by unfold Hid; simp
 clear hx
 cases more;all_goals simp only [Bool.false_eq_true,if_false,if_true,Int.add_zero] at HX
 ·have ex:off*8=x:=by have:=HX.out; omega
  go_enter Try.func72,Try.ntmps72
  go_wp2_with fail
  rw [← HSz.out];refine (HL.out _).mono ?_;rintro e w2 ⟨g,n,rfl,hcv,hB⟩;have G:Hid (Below w.heap.size w w2):=HZ.out.trans (hB.mono HZ.out.size);clear hB;go_wp2_with fail
  go_ret;exact ⟨rfl,G.out⟩
 ·have ex:off*8+1=x:=by have:=HX.out; omega
  go_enter Try.func72,Try.ntmps72
  go_wp2_with fail
  rw [← HSz.out];refine (HL.out _).mono ?_;rintro e w2 ⟨g,n,rfl,hcv,hB⟩;have G:Hid (Below w.heap.size w w2):=HZ.out.trans (hB.mono HZ.out.size);clear hB;go_wp2_with fail
  go_ret;exact ⟨rfl,G.out⟩
theorem implV6Bytes_sm (p:P6) (w:World) (hs:P6Sm p) (hw:P6Wf p) :
  Calls Try.prog 54 #[p6C p] w fun e w'=>e=.returned (.string (v6BytesV p))∧Below w.heap.size w w':=by
 have HR:Hid (∀ W,Calls Try.prog 52 #[p6C p] W fun e w'=>e=.returned (.bool (v6Ok p))∧Below W.heap.size W w'):=fun W=>implV6Right_sm p W hs hw
 have HN:Hid (v6Ok p=false→v6BytesV p=⟨#[]⟩):=fun h=>by unfold v6BytesV; rw [h]; rfl
 have HY:Hid (v6Ok p=true→v6BytesV p=twoV (firstN p / 65536)++twoV (firstN p % 65536)++twoV (restV p).size++pairV (if p.piece then 44 else p.next) p.hops++p.src++p.dst++restV p):=fun h=>by unfold v6BytesV; rw [h]; rfl
 have HRs:Hid (restV p=if p.piece then pieceH p++p.data else p.data):=rfl;have HPh:(pieceH p).size=8:=by unfold pieceH; simp only [ByteArray.size_append,pairV_size,twoV_size]
 have HPc:Hid (0≤p.next∧p.next≤255→0≤p.off∧p.off≤8191→0≤p.id∧p.id≤4294967295→∀ W,Calls Try.prog 72 #[p6C p] W fun e w'=>e=.returned (.string (pieceH p))∧Below W.heap.size W w'):=fun h1 h2 h3 W=>layPiece_any p W h1 h2 h3
 have HParts:Hid (v6Ok p=true→_):=fun h=>v6Ok_parts h
 have HFB:Hid (0≤p.cls∧p.cls≤255→0≤p.flow∧p.flow≤1048575→_):=fun h1 h2=>firstN_bits p h1 h2
 have HSum:Hid (firstN p=6*268435456+p.cls*1048576+p.flow):=rfl;generalize v6Ok p=ok at *;generalize v6BytesV p=ans at *;generalize pieceH p=ph at *;generalize firstN p=first at *;generalize restV p=rest at *;clear hs hw;obtain ⟨cls,flow,next,hops,src,dst,piece,more,off,id,data⟩:=p;unfold p6C at *;dsimp only at *;have HZ:Hid (Below w.heap.size w (w.alloc (.cells #[.int .i64 cls,.int .i64 flow,.int .i64 next,.int .i64 hops,.string src,.string dst,.bool piece,.bool more,.int .i64 off,.int .i64 id,.string data] 43))):=(Below.refl _ _).alloc (Nat.le_refl _) _;have KZ:Hid (BoxV6 (w.alloc (.cells #[.int .i64 cls,.int .i64 flow,.int .i64 next,.int .i64 hops,.string src,.string dst,.bool piece,.bool more,.int .i64 off,.int .i64 id,.string data] 43)) w.heap.size ⟨cls,flow,next,hops,src,dst,piece,more,off,id,data⟩):=BoxV6.new w ⟨cls,flow,next,hops,src,dst,piece,more,off,id,data⟩;go_enter Try.func54,Try.ntmps54
 go_wp2_with fail
 refine (HR.out _).mono ?_;rintro e W1 ⟨rfl,q1⟩;have G1:Hid (Below w.heap.size w W1):=HZ.out.trans (q1.mono HZ.out.size);have K1:Hid (BoxV6 W1 w.heap.size ⟨cls,flow,next,hops,src,dst,piece,more,off,id,data⟩):=KZ.out.kept q1;clear q1 HZ KZ HR
 cases ok with
 | false =>
  have HV:Hid (ans=⟨#[]⟩):=HN.out rfl;clear HN HY HParts;go_wp2_with fail
  go_ret;exact ⟨ret_string HV.out.symm,G1.out⟩
 | true =>
 have HV:Hid _:=HY.out rfl;obtain ⟨a1,a2,a3,a4,a5,a6,a7,a8⟩:=HParts.out rfl;have hfb:=HFB.out a1 a4;have hfr:0≤first∧first≤4294967295:=by have:=HSum.out; omega
 clear HN HY HParts HFB HSum;obtain ⟨k0,k1,k2,k3,k4,k5,k6,k7,k8,k9,k10⟩:=K1.out;go_upto_region 3 with fail
 have hrs:rest.size≤1408:=by rw [HRs.out]; cases piece<;>simp only [Bool.false_eq_true,if_false,if_true,ByteArray.size_append]<;>omega
 have n1:¬ 9223372036854775807 < ph.size+data.size:=by omega
 have n1b:¬ 9223372036854775807 < 8+data.size:=by omega
 go_cut [3,4] (fun a b wx=>a=.int .i64 next∧b=.string data∧Below W1.heap.size W1 wx)
 case first =>
  go_region
  all_goals go_wp2_with fail
  all_goals go_meet
  all_goals exact ⟨rfl,rfl,(Below.refl _ _).drew⟩
 case rest =>
 obtain ⟨rfl,rfl,hb2⟩:=hcut;have K2:Hid (BoxV6 wc w.heap.size ⟨cls,flow,next,hops,src,dst,piece,more,off,id,data⟩):=K1.out.kept hb2;have HW:Hid (Below W1.heap.size W1 wc):=hb2;clear hb2 k0 k1 k2 k3 k4 k5 k6 k7 k8 k9 k10;obtain ⟨k0,k1,k2,k3,k4,k5,k6,k7,k8,k9,k10⟩:=K2.out;go_upto_if 15 with fail
 obtain ⟨nx,hnx⟩ : ∃ nx,nx=if piece then (44:Int) else next:=⟨_,rfl⟩;have hnr:0≤nx∧nx≤255:=by rw [hnx]; cases piece<;>simp only [Bool.false_eq_true,if_false,if_true]<;>omega
 have HNX:Hid (nx=if piece then (44:Int) else next):=hnx;rw [← hnx] at HV;clear hnx;obtain ⟨WC,hWC⟩ : ∃ W,W=wc:=⟨_,rfl⟩;subst hWC;go_cut [3,4] (fun a b wx=>a=.int .i64 nx∧b=.string rest∧Below W1.heap.size W1 wx)
 case first =>
  cases piece with
  | false =>
   have HNX2:Hid (nx=next):=HNX.out;have HRs2:Hid (rest=data):=HRs.out;clear HNX HRs HV hrs;go_wp2_with fail
   go_meet;exact ⟨by rw [HNX2.out],by rw [HRs2.out],HW.out⟩
  | true =>
   obtain ⟨p1,p2,p3⟩:=a8 rfl;have HNX2:Hid (nx=44):=HNX.out;have HRs2:Hid (rest=ph++data):=HRs.out;have HC:Hid _:=HPc.out a2 p1 p2;clear HNX HRs HV hrs HPc;have HK:Hid (∀ wy,Below WC.drew.heap.size WC.drew wy→BoxV6 wy w.heap.size ⟨cls,flow,next,hops,src,dst,true,more,off,id,data⟩):=fun wy hy=>K2.out.kept ((Below.refl _ WC).drew.trans hy)
   go_upto_region 5 with fail
   clear k0 k1 k2 k3 k4 k5 k6 k7 k8 k9 k10;rename_i J K3 hJ hK3;refine wp_region_growL (Rs:=[IsV (.agg #[.int .i64 cls,.int .i64 flow,.int .i64 next,.int .i64 hops,.string src,.string dst,.bool true,.bool more,.int .i64 off,.int .i64 id,.string data]),IsV (.string ph),IsV (.pointer (some ⟨w.heap.size,10,none⟩)),IsV (.string data),IsV (.string (ph++data)),IsV (.int .i64 44),IsV (.string (ph++data))]) [16,17,18,19,20,3,4] (by kernel_rfl) (by kernel_rfl) rfl ?st ?steps ?done
   case st=>simp [stable_isV,stable_isWords,stable_isOwn]
   case steps =>
    refine ⟨?s0,?s1,?s2,?s3,?s4,?s5,?s6,trivial⟩
    case s0 =>
     intro K' a wy ho hd hb hK;have h3:=ho 1 (by decide);simp [slot] at h3;clear hd;obtain ⟨k0,k1,k2,k3,k4,k5,k6,k7,k8,k9,k10⟩:=HK.out wy hb;go_simp;try go_bits
     exact hK _ _ rfl (Below.refl _ _)
    case s1 =>
     intro K' a wy ho hd hb hK;simp [Region.binds,rAt,IsV,slot] at hd;go_simp;refine (HC.out wy).mono ?_;rintro e wz ⟨rfl,hz⟩;exact hK _ _ rfl hz
    case s2 =>
     intro K' a wy ho hd hb hK;have h3:=ho 1 (by decide);simp [slot] at h3;clear hd;go_simp;try go_bits
     exact hK _ _ rfl (Below.refl _ _)
    case s3 =>
     intro K' a wy ho hd hb hK;simp [Region.binds,rAt,IsV,slot] at hd;obtain ⟨k0,k1,k2,k3,k4,k5,k6,k7,k8,k9,k10⟩:=HK.out wy hb;go_simp;try go_bits
     exact hK _ _ rfl (Below.refl _ _)
    case s4 =>
     intro K' a wy ho hd hb hK;simp [Region.binds,rAt,IsV,slot] at hd;go_simp;try go_bits
     exact hK _ _ rfl (Below.refl _ _)
    case s5 =>
     intro K' a wy ho hd hb hK;simp [Region.binds,rAt,IsV,slot] at hd;go_simp;try go_bits
     exact hK _ _ rfl (Below.refl _ _)
    case s6 =>
     intro K' a wy ho hd hb hK;simp [Region.binds,rAt,IsV,slot] at hd;go_simp;try go_bits
     exact hK _ _ rfl (Below.refl _ _)
   case done =>
    intro X wz hR hz;obtain ⟨x0,x1,x2,x3,x4,x5,x6,-⟩:=hR;simp only [IsV] at x0 x1 x2 x3 x4 x5 x6;simp only [putsFrom,x0,x1,x2,x3,x4,x5,x6];clear x0 x1 x2 x3 x4 x5 x6;go_simp;refine hJ _ _ (hK3 _ _ ?_);(repeat apply Exists.intro)
    refine ⟨⟨by rw [HNX2.out],by rw [HRs2.out],HW.out.trans (((Below.refl _ WC).drew.trans hz).mono HW.out.size)⟩,rfl⟩
 case rest =>
 obtain ⟨rfl,rfl,hb3⟩:=hcut;have K4:Hid (BoxV6 wc w.heap.size ⟨cls,flow,next,hops,src,dst,piece,more,off,id,data⟩):=K1.out.kept hb3;have G4:Hid (Below w.heap.size w wc):=G1.out.trans (hb3.mono G1.out.size);clear hb3 k0 k1 k2 k3 k4 k5 k6 k7 k8 k9 k10 K2 HW HPc HNX HRs n1 n1b;have jn:=join_word nx hops hnr.1 hnr.2 a3.1 a3.2;obtain ⟨h8,hh8⟩ : ∃ t,t=twoV (first / 65536)++twoV (first % 65536)++twoV (rest.size:Int)++pairV nx hops:=⟨_,rfl⟩;have hs8:h8.size=8:=by rw [hh8]; simp only [ByteArray.size_append,pairV_size,twoV_size]
 have HL:Hid (∀ W:World,Calls Try.prog 65 #[.slice (some ⟨W.heap.size,0,none⟩) 4 4] (W.alloc (.cells #[.int .i64 (first / 65536),.int .i64 first,.int .i64 (rest.size:Int),.int .i64 (nx*256+hops)] 2)) fun e w' =>
   ∃ g n,e=.returned (.slice (some ⟨g,0,none⟩) n n)∧(convert 22 9 (.slice (some ⟨g,0,none⟩) n n)).run Try.prog w'=.ok (.string h8) w'∧Below W.heap.size W w'):=fun W =>
  layAtM [first / 65536,first,(rest.size:Int),nx*256+hops] h8 W (by simp) (by simp only [List.forall_mem_cons,List.not_mem_nil,false_imp_iff,implies_true,and_true]; omega) (by rw [hh8]; exact six_words _ _ _ _ hfr (by omega) hnr a3)
 rw [← hh8] at HV;clear hh8;obtain ⟨k0,k1,k2,k3,k4,k5,k6,k7,k8,k9,k10⟩:=K4.out;go_wp2_with fail
 refine (HL.out _).mono ?_;rintro e W5 ⟨g,n,rfl,hcv,q⟩;have K5:=K4.out.kept q;have G5:Hid (Below w.heap.size w W5):=G4.out.trans (q.mono G4.out.size);clear q k0 k1 k2 k3 k4 k5 k6 k7 k8 k9 k10 HL K4 G4 jn hfb;obtain ⟨k0,k1,k2,k3,k4,k5,k6,k7,k8,k9,k10⟩:=K5;have n2:¬ 9223372036854775807 < h8.size+src.size:=by omega
 have n3:¬ 9223372036854775807 < h8.size+src.size+dst.size:=by omega
 have n4:¬ 9223372036854775807 < h8.size+src.size+dst.size+rest.size:=by omega
 have n5:¬ 9223372036854775807 < 8+16+16+rest.size:=by omega
 have n6:¬ 9223372036854775807 < 40+rest.size:=by omega
 go_wp2_with fail
 go_ret;exact ⟨ret_string HV.out.symm,G5.out⟩
end Go.Proofs.Ytagbhaalmjpkjaa
