import Derived.Test.YtagbhaalmjpkjaaDrawTl
import Derived.Test.YtagbhaalmjpkjaaSTell4
import Derived.Test.YtagbhaalmjpkjaaSTell6
import Derived.Test.YtagbhaalmjpkjaaITell4
import Derived.Test.YtagbhaalmjpkjaaITell6
import Derived.Test.YtagbhaalmjpkjaaPktSame
import Derived.Test.YtagbhaalmjpkjaaSPseudo
import Derived.Test.YtagbhaalmjpkjaaSV6B
import Derived.Test.YtagbhaalmjpkjaaTellR
import Derived.Test.YtagbhaalmjpkjaaMerged10
set_option linter.unusedVariables false
set_option linter.unusedSimpArgs false
set_option maxRecDepth 100000
set_option maxHeartbeats 8000000
namespace Go.Proofs.Ytagbhaalmjpkjaa
open Go.RowKit Go.PlainAid
theorem Bd4.smT {p:P4} (h:Bd4 p):P4Sm p∧P4Wf p:=by
 obtain ⟨h1,h2,h3,h4,h5,h6,h7,h8,h9⟩:=h; unfold P4Sm P4Wf maxLen; exact ⟨⟨by omega,by omega,by omega,by omega⟩,h1,h2,h3,h4,h5,by omega,by omega,by omega,by omega⟩
theorem Bd6.smT {p:P6} (h:Bd6 p):P6Sm p∧P6Wf p:=by
 obtain ⟨h1,h2,h3,h4,h5,h6,h7,h8,h9⟩:=h; unfold P6Sm P6Wf maxLen; exact ⟨⟨by omega,by omega,by omega⟩,h1,h2,h3,h4,by omega,by omega,h5,h6,by omega⟩
theorem bytes_atT {w W:World} {a:Option Addr} {len:Nat} (h:Bytes w a len w.heap.size) (hb:Below w.heap.size w W):Bytes W a len W.heap.size:=(h.kept (grown_of_below (r:=none) hb) (by simp)).mono hb.size
def Said4 (s:ByteArray) (p:P4) (k:Int) (x:P4) (d:ByteArray):Prop:=x=⟨0,0,true,false,0,64,1,s,p.src,⟨#[]⟩,d⟩ ∧
 (∀ W,Calls Try.prog 14 #[p4C ⟨0,0,true,false,0,64,1,s,p.src,⟨#[]⟩,d⟩] W fun e w'=>e=.returned (.bool true)∧Below W.heap.size W w') ∧
 (∀ W,Calls Try.prog 15 #[.string s,.string p.src,.int .i64 1,.string d] W fun e w'=>e=.returned (.bool true)∧Below W.heap.size W w') ∧
 (k≠0→k≠8→∃ y,∀ W,Calls Try.prog 12 #[.string s,p4C ⟨0,0,true,false,0,64,1,s,p.src,⟨#[]⟩,d⟩,.int .i64 3,.int .i64 1,.int .i64 0] W fun e w'=>e=.returned (p4CO y 11)∧Below W.heap.size W w')
theorem said4 {s:ByteArray} {p:P4} {k c n:Int} (h:tell4C s p k c n=0):∃ d,Said4 s p k (tell4V s p k c n) d:=by
 obtain ⟨a1,a2,a3,a4,a5,a6,a7,a8,a9⟩:=tell4_right h;have e:tell4V s p k c n=⟨0,0,true,false,0,64,1,s,p.src,⟨#[]⟩,told4 s p k c n⟩:=if_pos h;rw [e] at a1 a5 a6 a7;dsimp only at a5 a7;have h0:(⟨#[]⟩ : ByteArray).size=0:=rfl;have hs:P4Sm ⟨0,0,true,false,0,64,1,s,p.src,⟨#[]⟩,told4 s p k c n⟩∧P4Wf ⟨0,0,true,false,0,64,1,s,p.src,⟨#[]⟩,told4 s p k c n⟩:=by
  unfold P4Sm P4Wf In64t maxLen; dsimp only; omega
 refine ⟨told4 s p k c n,e,fun W=>?_,fun W=>?_,fun k0 k8=>⟨tell4V s ⟨0,0,true,false,0,64,1,s,p.src,⟨#[]⟩,told4 s p k c n⟩ 3 1 0,fun W=>?_⟩⟩
 ·have:=specV4Right_sm _ W hs.1 hs.2; rw [a1] at this; exact this
 ·have:=specCarryRight_any s p.src 1 (told4 s p k c n) W (by omega) (by omega) (by omega); rw [a5] at this; exact this
 ·have:=implTellFour_any s _ 3 1 0 W (by omega) hs.1 hs.2; rw [a6 k0 k8] at this; exact this
def Said6 (s:ByteArray) (p:P6) (k:Int) (x:P6) (d:ByteArray):Prop:=x=⟨0,0,58,64,s,p.src,false,false,0,0,d⟩ ∧
 (∀ W,Calls Try.prog 19 #[p6C ⟨0,0,58,64,s,p.src,false,false,0,0,d⟩] W fun e w'=>e=.returned (.bool true)∧Below W.heap.size W w') ∧
 (∀ W,Calls Try.prog 15 #[.string s,.string p.src,.int .i64 58,.string d] W fun e w'=>e=.returned (.bool true)∧Below W.heap.size W w') ∧
 (∃ t:ByteArray,t.size≤1280∧∀ W,Calls Try.prog 20 #[p6C ⟨0,0,58,64,s,p.src,false,false,0,0,d⟩] W fun e w'=>e=.returned (.string t)∧Below W.heap.size W w') ∧
 (k≤127→∃ y,∀ W,Calls Try.prog 17 #[.string s,p6C ⟨0,0,58,64,s,p.src,false,false,0,0,d⟩,.int .i64 1,.int .i64 0,.int .i64 0] W fun e w'=>e=.returned (p6CO y 11)∧Below W.heap.size W w')
theorem said6 {s:ByteArray} {p:P6} {k c n:Int} (h:tell6C s p k c n=0):∃ d,Said6 s p k (tell6V s p k c n) d:=by
 obtain ⟨a1,a2,a3,a4,a5,a6,a6b,a7,a8,a9⟩:=tell6_right h;have e:tell6V s p k c n=⟨0,0,58,64,s,p.src,false,false,0,0,told6 s p k c n⟩:=if_pos h;rw [e] at a1 a5 a6 a6b a7;dsimp only at a5 a7;have hs:P6Sm ⟨0,0,58,64,s,p.src,false,false,0,0,told6 s p k c n⟩∧P6Wf ⟨0,0,58,64,s,p.src,false,false,0,0,told6 s p k c n⟩:=by
  unfold P6Sm P6Wf In64t maxLen; dsimp only; omega
 refine ⟨told6 s p k c n,e,fun W=>?_,fun W=>?_,⟨v6Raw ⟨0,0,58,64,s,p.src,false,false,0,0,told6 s p k c n⟩,a6b,fun W=>?_⟩,fun k0=>⟨tell6V s ⟨0,0,58,64,s,p.src,false,false,0,0,told6 s p k c n⟩ 1 0 0,fun W=>?_⟩⟩
 ·have:=specV6Right_sm _ W hs.1 hs.2; rw [a1] at this; exact this
 ·have:=specCarryRight_any s p.src 58 (told6 s p k c n) W (by omega) (by omega) (by omega); rw [a5] at this; exact this
 ·have:=specV6Bytes_sm _ W hs.1 hs.2;have hb:v6BytesV ⟨0,0,58,64,s,p.src,false,false,0,0,told6 s p k c n⟩=v6Raw ⟨0,0,58,64,s,p.src,false,false,0,0,told6 s p k c n⟩:=if_pos a1;rw [hb] at this; exact this
 ·have:=implTellSix_any s _ 1 0 0 W (by omega) hs.1 hs.2; rw [a6 k0] at this; exact this
theorem tellWalk (a0:Option Addr) (len0 cap0:Nat) (a1:Option Addr) (len1 cap1:Nat) (w:World) (h0:len0≤1048576) (h1:len1≤1048576) (b0:Bytes w a0 len0 w.heap.size) (b1:Bytes w a1 len1 w.heap.size) :
  Calls Try.prog 4 #[.slice a0 len0 cap0,.slice a1 len1 cap1] w fun e w'=>e=.returned (.bool true)∧Below w.heap.size w w':=by
 have HD0:Hid _:=drawTellFour_any a0 len0 cap0 w h0 b0;have HD1:Hid (∀ W,Below w.heap.size w W→Calls Try.prog 16 #[.slice a1 len1 cap1] W fun e w'=>∃ (s:ByteArray) (p:P6) (k c n:Int),e=.returned (.tuple #[.string s,p6C p,.int .i64 k,.int .i64 c,.int .i64 n])∧s.size≤16∧Bd6 p∧Below W.heap.size W w'):=fun W hW=>drawTellSix_any a1 len1 cap1 W h1 (bytes_atT b1 hW)
 have l0:¬ (1048576:Int) < len0:=by omega
 have l1:¬ (1048576:Int) < len1:=by omega
 clear b0 b1;go_enter Try.func4,Try.ntmps4
 go_wp2_with fail
 refine Calls.mono HD0.out ?_;rintro e w1 ⟨s,p,k,c,n,rfl,hs16,hbd,qq⟩;clear HD0;have HI:Hid (∀ W,Calls Try.prog 12 #[.string s,p4C p,.int .i64 k,.int .i64 c,.int .i64 n] W fun e w'=>e=.returned (p4CO (tell4V s p k c n) (tell4C s p k c n))∧Below W.heap.size W w'):=fun W=>implTellFour_any s p k c n W (by omega) hbd.smT.1 hbd.smT.2
 have HSp:Hid (∀ W,Calls Try.prog 13 #[.string s,p4C p,.int .i64 k,.int .i64 c,.int .i64 n] W fun e w'=>e=.returned (p4CO (tell4V s p k c n) (tell4C s p k c n))∧Below W.heap.size W w'):=fun W=>specTellFour_any s p k c n W (by omega) hbd.smT.1 hbd.smT.2
 have HX:Hid (tell4C s p k c n=0→∃ d,Said4 s p k (tell4V s p k c n) d):=said4;clear hbd hs16;generalize tell4V s p k c n=x at *;generalize tell4C s p k c n=cd at *;unfold p4C p4CO at *;have S1:Hid (Bxs w [(w1.heap.size,[.int .i64 p.tos,.int .i64 p.id,.bool p.whole,.bool p.more,.int .i64 p.off,.int .i64 p.ttl,.int .i64 p.proto,.string p.src,.string p.dst,.string p.opts,.string p.data])] (w1.alloc (.cells #[.int .i64 p.tos,.int .i64 p.id,.bool p.whole,.bool p.more,.int .i64 p.off,.int .i64 p.ttl,.int .i64 p.proto,.string p.src,.string p.dst,.string p.opts,.string p.data] 34))):=(⟨fun e he=>(by cases he),qq,fun e he=>(by cases he)⟩ : Bxs w [] w1).push [.int .i64 p.tos,.int .i64 p.id,.bool p.whole,.bool p.more,.int .i64 p.off,.int .i64 p.ttl,.int .i64 p.proto,.string p.src,.string p.dst,.string p.opts,.string p.data] (by simp) 34;clear qq;go_upto_region 4 with fail
 generalize w1.alloc (.cells #[.int .i64 p.tos,.int .i64 p.id,.bool p.whole,.bool p.more,.int .i64 p.off,.int .i64 p.ttl,.int .i64 p.proto,.string p.src,.string p.dst,.string p.opts,.string p.data] 34)=W1 at *;generalize w1.heap.size=Pb at *;have HHq:=S1.out.at (.head _);obtain ⟨k0,k1,k2,k3,k4,k5,k6,k7,k8,k9,k10⟩:=HHq.c11;clear HHq;go_wp2_with fail
 refine (HI.out W1).mono ?_;rintro e w2 ⟨rfl,q2⟩;have S2:Hid (Bxs w [(w2.heap.size,[.int .i64 x.tos,.int .i64 x.id,.bool x.whole,.bool x.more,.int .i64 x.off,.int .i64 x.ttl,.int .i64 x.proto,.string x.src,.string x.dst,.string x.opts,.string x.data,.int .i64 cd]),(Pb,[.int .i64 p.tos,.int .i64 p.id,.bool p.whole,.bool p.more,.int .i64 p.off,.int .i64 p.ttl,.int .i64 p.proto,.string p.src,.string p.dst,.string p.opts,.string p.data])] (w2.alloc (.cells #[.int .i64 x.tos,.int .i64 x.id,.bool x.whole,.bool x.more,.int .i64 x.off,.int .i64 x.ttl,.int .i64 x.proto,.string x.src,.string x.dst,.string x.opts,.string x.data,.int .i64 cd] 38))):=(S1.out.kept q2).push [.int .i64 x.tos,.int .i64 x.id,.bool x.whole,.bool x.more,.int .i64 x.off,.int .i64 x.ttl,.int .i64 x.proto,.string x.src,.string x.dst,.string x.opts,.string x.data,.int .i64 cd] (by simp) 38;have hx1:Pb < w2.heap.size:=((S1.out.kept q2).k _ (.head _)).lt (by simp);clear S1 q2 HI k0 k1 k2 k3 k4 k5 k6 k7 k8 k9 k10;go_upto_region 5 with fail
 generalize w2.alloc (.cells #[.int .i64 x.tos,.int .i64 x.id,.bool x.whole,.bool x.more,.int .i64 x.off,.int .i64 x.ttl,.int .i64 x.proto,.string x.src,.string x.dst,.string x.opts,.string x.data,.int .i64 cd] 38)=W2 at *;generalize w2.heap.size=Xb at *;go_cut [48] (fun v wx=>v=.bool false∧Bxs w [(Xb,[.int .i64 x.tos,.int .i64 x.id,.bool x.whole,.bool x.more,.int .i64 x.off,.int .i64 x.ttl,.int .i64 x.proto,.string x.src,.string x.dst,.string x.opts,.string x.data,.int .i64 cd]),(Pb,[.int .i64 p.tos,.int .i64 p.id,.bool p.whole,.bool p.more,.int .i64 p.off,.int .i64 p.ttl,.int .i64 p.proto,.string p.src,.string p.dst,.string p.opts,.string p.data])] wx)
 case first =>
  rename_i J K2 hJ hK2;have HCP:Hid (∀ wy,Below W2.drew.heap.size W2.drew wy→_):=fun wy hy=>S2.out.kept ((Below.refl _ _).drew.trans hy)
  refine wp_region_growH [41,42,43,44,45,46,47,48] (by kernel_rfl) (by kernel_rfl) ?_;refine GCh.val (n:=0) (fun v=>[IsV v]) (fun _=>rfl) rfl ?_;apply Exists.intro;refine And.intro ?_ ?_
  ·intro K' a wy ho hd hb hK;rw [if_pos (wanted_none rfl)];have o10:=ho 10 (by decide);simp [slot] at o10;clear hd ho;have hst:=HCP.out wy hb;have HHq:=hst.at (.head _);obtain ⟨k0,k1,k2,k3,k4,k5,k6,k7,k8,k9,k10,k11⟩:=HHq.c12;clear HHq;have HHq:=hst.at (.tail _ (.head _));obtain ⟨j0,j1,j2,j3,j4,j5,j6,j7,j8,j9,j10⟩:=HHq.c11;clear HHq hst;go_simp;try go_bits
   exact hK _ _ rfl (Below.refl _ _)
  refine GCh.val (n:=1) (fun v=>[_,IsV v]) (fun _=>rfl) rfl ?_;apply Exists.intro;refine And.intro ?_ ?_
  ·intro K' a wy ho hd hb hK;rw [if_pos (wanted_none rfl)];have o5:=ho 5 (by decide);simp [slot] at o5;clear hd ho;go_simp;try go_bits
   exact hK _ _ rfl (Below.refl _ _)
  refine GCh.val (n:=2) (fun v=>[_,_,IsV v]) (fun _=>rfl) rfl ?_;apply Exists.intro;refine And.intro ?_ ?_
  ·intro K' a wy ho hd hb hK;rw [if_pos (wanted_none rfl)];have o6:=ho 6 (by decide);simp [slot] at o6;clear hd ho;have hst:=HCP.out wy hb;have HHq:=hst.at (.head _);obtain ⟨k0,k1,k2,k3,k4,k5,k6,k7,k8,k9,k10,k11⟩:=HHq.c12;clear HHq;have HHq:=hst.at (.tail _ (.head _));obtain ⟨j0,j1,j2,j3,j4,j5,j6,j7,j8,j9,j10⟩:=HHq.c11;clear HHq hst;go_simp;try go_bits
   exact hK _ _ rfl (Below.refl _ _)
  refine GCh.val (n:=3) (fun v=>[_,_,_,IsV v]) (fun _=>rfl) rfl ?_;apply Exists.intro;refine And.intro ?_ ?_
  ·intro K' a wy ho hd hb hK;rw [if_pos (wanted_none rfl)];have o7:=ho 7 (by decide);simp [slot] at o7;clear hd ho;go_simp;try go_bits
   exact hK _ _ rfl (Below.refl _ _)
  refine GCh.val (n:=4) (fun v=>[_,_,_,_,IsV v]) (fun _=>rfl) rfl ?_;apply Exists.intro;refine And.intro ?_ ?_
  ·intro K' a wy ho hd hb hK;rw [if_pos (wanted_none rfl)];have o8:=ho 8 (by decide);simp [slot] at o8;clear hd ho;go_simp;try go_bits
   exact hK _ _ rfl (Below.refl _ _)
  refine GCh.val (n:=5) (fun v=>[_,_,_,_,_,IsV v]) (fun _=>rfl) rfl ?_;apply Exists.intro;refine And.intro ?_ ?_
  ·intro K' a wy ho hd hb hK;rw [if_pos (wanted_none rfl)];have o9:=ho 9 (by decide);simp [slot] at o9;clear hd ho;go_simp;try go_bits
   exact hK _ _ rfl (Below.refl _ _)
  refine GCh.val (n:=6) (fun v=>[_,_,_,_,_,_,IsV v]) (fun _=>rfl) rfl ?_;apply Exists.intro;refine And.intro ?_ ?_
  ·intro K' a wy ho hd hb hK;rw [if_pos (wanted_none rfl)];have q1:=hd ⟨1,.data⟩ (by simp) rfl;simp [rAt,IsV,slot] at q1;have q2:=hd ⟨2,.data⟩ (by simp) rfl;simp [rAt,IsV,slot] at q2;have q3:=hd ⟨3,.data⟩ (by simp) rfl;simp [rAt,IsV,slot] at q3;have q4:=hd ⟨4,.data⟩ (by simp) rfl;simp [rAt,IsV,slot] at q4;have q5:=hd ⟨5,.data⟩ (by simp) rfl;simp [rAt,IsV,slot] at q5;clear hd ho;go_simp;refine (HSp.out wy).mono ?_;rintro e wz ⟨rfl,hz⟩;exact hK _ _ rfl hz
  refine GCh.val (n:=7) (fun v=>[_,_,_,_,_,_,_,IsV v]) (fun _=>rfl) rfl ?_;apply Exists.intro;refine And.intro ?_ ?_
  ·intro K' a wy ho hd hb hK;rw [if_pos (wanted_none rfl)];have q0:=hd ⟨0,.data⟩ (by simp) rfl;simp [rAt,IsV,slot] at q0;have q6:=hd ⟨6,.data⟩ (by simp) rfl;simp [rAt,IsV,slot] at q6;clear hd ho;have hne:=neV4O_bin x cd wy;go_simp;try go_bits
   exact hK _ _ rfl (Below.refl _ _)
  intro X wz hR hz;obtain ⟨x0,x1,x2,x3,x4,x5,x6,x7,-⟩:=hR;simp only [IsV] at x0 x1 x2 x3 x4 x5 x6 x7;simp only [putsFrom,x0,x1,x2,x3,x4,x5,x6,x7];clear x0 x1 x2 x3 x4 x5 x6 x7;have HF:Hid (Bxs w [(Xb,[.int .i64 x.tos,.int .i64 x.id,.bool x.whole,.bool x.more,.int .i64 x.off,.int .i64 x.ttl,.int .i64 x.proto,.string x.src,.string x.dst,.string x.opts,.string x.data,.int .i64 cd]),(Pb,[.int .i64 p.tos,.int .i64 p.id,.bool p.whole,.bool p.more,.int .i64 p.off,.int .i64 p.ttl,.int .i64 p.proto,.string p.src,.string p.dst,.string p.opts,.string p.data])] wz):=HCP.out wz hz;clear HCP;go_simp;refine hK2 _ _ (hJ _ _ ?_);(repeat apply Exists.intro)
  exact ⟨⟨rfl,HF.out⟩,rfl⟩
 case rest =>
 obtain ⟨rfl,hS⟩:=hcut;have S3:Hid (Bxs w [(Xb,[.int .i64 x.tos,.int .i64 x.id,.bool x.whole,.bool x.more,.int .i64 x.off,.int .i64 x.ttl,.int .i64 x.proto,.string x.src,.string x.dst,.string x.opts,.string x.data,.int .i64 cd]),(Pb,[.int .i64 p.tos,.int .i64 p.id,.bool p.whole,.bool p.more,.int .i64 p.off,.int .i64 p.ttl,.int .i64 p.proto,.string p.src,.string p.dst,.string p.opts,.string p.data])] wc):=hS;clear hS S2 HSp;generalize wc=W3 at *;have HHq:=S3.out.at (.head _);obtain ⟨k0,k1,k2,k3,k4,k5,k6,k7,k8,k9,k10,k11⟩:=HHq.c12;clear HHq;go_upto_if 51 with fail
 go_cut [] (fun wx=>Below w.heap.size w wx)
 case first =>
  by_cases hc:cd=0
  case neg =>
   have hc2:(cd==0)=false:=by simp [hc]
   go_wp2_with fail
   go_meet;exact S3.out.b
  subst hc;obtain ⟨d,rfl,CV,CC,CT⟩:=HX.out rfl;have HCV:Hid _:=CV;have HCC:Hid _:=CC;have HCT:Hid _:=CT;clear CV CC CT HX;unfold p4C p4CO at *;dsimp only at *;have S4:Hid (Bxs w [(W3.heap.size,[.int .i64 0,.int .i64 0,.bool true,.bool false,.int .i64 0,.int .i64 64,.int .i64 1,.string s,.string p.src,.string ⟨#[]⟩,.string d]),(Xb,[.int .i64 0,.int .i64 0,.bool true,.bool false,.int .i64 0,.int .i64 64,.int .i64 1,.string s,.string p.src,.string ⟨#[]⟩,.string d,.int .i64 0]),(Pb,[.int .i64 p.tos,.int .i64 p.id,.bool p.whole,.bool p.more,.int .i64 p.off,.int .i64 p.ttl,.int .i64 p.proto,.string p.src,.string p.dst,.string p.opts,.string p.data])] (W3.alloc (.cells #[.int .i64 0,.int .i64 0,.bool true,.bool false,.int .i64 0,.int .i64 64,.int .i64 1,.string s,.string p.src,.string ⟨#[]⟩,.string d] 34))):=S3.out.push [.int .i64 0,.int .i64 0,.bool true,.bool false,.int .i64 0,.int .i64 64,.int .i64 1,.string s,.string p.src,.string ⟨#[]⟩,.string d] (by simp) 34;have hy1:Pb < W3.heap.size:=(S3.out.k _ (.tail _ (.head _))).lt (by simp);have hy2:Xb < W3.heap.size:=(S3.out.k _ (.head _)).lt (by simp);clear S3;go_upto_region 9 with fail
  generalize W3.alloc (.cells #[.int .i64 0,.int .i64 0,.bool true,.bool false,.int .i64 0,.int .i64 64,.int .i64 1,.string s,.string p.src,.string ⟨#[]⟩,.string d] 34)=W4 at *;generalize W3.heap.size=Qb at *;clear k0 k1 k2 k3 k4 k5 k6 k7 k8 k9 k10 k11;have HHq:=S4.out.at (.head _);obtain ⟨q0,q1,q2,q3,q4,q5,q6,q7,q8,q9,q10⟩:=HHq.c11;clear HHq;have HHq:=S4.out.at (.tail _ (.tail _ (.head _)));obtain ⟨p0,p1,p2,p3,p4,p5,p6,p7,p8,p9,p10⟩:=HHq.c11;clear HHq;go_wp2_with fail
  refine (HCV.out W4).mono ?_;rintro e w5 ⟨rfl,qx⟩;have S5:Hid _:=S4.out.kept qx;clear S4 qx HCV q0 p0 q1 p1 q2 p2 q3 p3 q4 p4 q5 p5 q6 p6 q7 p7 q8 p8 q9 p9 q10 p10;have HHq:=S5.out.at (.head _);obtain ⟨q0,q1,q2,q3,q4,q5,q6,q7,q8,q9,q10⟩:=HHq.c11;clear HHq;have HHq:=S5.out.at (.tail _ (.tail _ (.head _)));obtain ⟨p0,p1,p2,p3,p4,p5,p6,p7,p8,p9,p10⟩:=HHq.c11;clear HHq;go_wp2_with fail
  refine (HCC.out w5).mono ?_;rintro e w6 ⟨rfl,qx⟩;have S6:Hid _:=S5.out.kept qx;clear S5 qx HCC q0 p0 q1 p1 q2 p2 q3 p3 q4 p4 q5 p5 q6 p6 q7 p7 q8 p8 q9 p9 q10 p10;have HHq:=S6.out.at (.head _);obtain ⟨q0,q1,q2,q3,q4,q5,q6,q7,q8,q9,q10⟩:=HHq.c11;clear HHq;by_cases k0:k=0
  case pos =>
   subst k0;go_wp2_with fail
   go_meet;exact S6.out.b
  by_cases k8:k=8
  case pos =>
   subst k8;go_wp2_with fail
   go_meet;exact S6.out.b
  obtain ⟨y,hy⟩:=HCT.out k0 k8;have HCY:Hid _:=hy;clear hy HCT;have k0b:(k != 0)=true:=by simp [k0]
  have k8b:(k != 8)=true:=by simp [k8]
  clear k0 k8;go_wp2_with fail
  refine (HCY.out w6).mono ?_;rintro e w7 ⟨rfl,qx⟩;have S7:Hid _:=S6.out.kept qx;clear S6 qx HCY;have hfd:∀ W,(Instr.field 38 (.agg #[.int .i64 y.tos,.int .i64 y.id,.bool y.whole,.bool y.more,.int .i64 y.off,.int .i64 y.ttl,.int .i64 y.proto,.string y.src,.string y.dst,.string y.opts,.string y.data,.int .i64 11]) 1).run Try.prog W=.ok (.int .i64 11) W:=fun W=>by kernel_rfl
  go_wp2_with fail
  go_meet;exact S7.out.b
 case rest =>
 have HBW:Hid (Below w.heap.size w wc):=hcut;clear hcut S3 HX k0 k1 k2 k3 k4 k5 k6 k7 k8 k9 k10 k11 hx1;generalize wc=W5 at *;clear l0;go_wp2_with fail
 refine (HD1.out W5 HBW.out).mono ?_;rintro e w1 ⟨s,p,k,c,n,rfl,hs16,hbd,qw⟩;have qq:Below w.heap.size w w1:=HBW.out.trans (qw.mono HBW.out.size);clear HD1 HBW qw;have HI:Hid (∀ W,Calls Try.prog 17 #[.string s,p6C p,.int .i64 k,.int .i64 c,.int .i64 n] W fun e w'=>e=.returned (p6CO (tell6V s p k c n) (tell6C s p k c n))∧Below W.heap.size W w'):=fun W=>implTellSix_any s p k c n W (by omega) hbd.smT.1 hbd.smT.2
 have HSp:Hid (∀ W,Calls Try.prog 18 #[.string s,p6C p,.int .i64 k,.int .i64 c,.int .i64 n] W fun e w'=>e=.returned (p6CO (tell6V s p k c n) (tell6C s p k c n))∧Below W.heap.size W w'):=fun W=>specTellSix_any s p k c n W (by omega) hbd.smT.1 hbd.smT.2
 have HX:Hid (tell6C s p k c n=0→∃ d,Said6 s p k (tell6V s p k c n) d):=said6;clear hbd hs16;generalize tell6V s p k c n=x at *;generalize tell6C s p k c n=cd at *;unfold p6C p6CO at *;have S1:Hid (Bxs w [(w1.heap.size,[.int .i64 p.cls,.int .i64 p.flow,.int .i64 p.next,.int .i64 p.hops,.string p.src,.string p.dst,.bool p.piece,.bool p.more,.int .i64 p.off,.int .i64 p.id,.string p.data])] (w1.alloc (.cells #[.int .i64 p.cls,.int .i64 p.flow,.int .i64 p.next,.int .i64 p.hops,.string p.src,.string p.dst,.bool p.piece,.bool p.more,.int .i64 p.off,.int .i64 p.id,.string p.data] 43))):=(⟨fun e he=>(by cases he),qq,fun e he=>(by cases he)⟩ : Bxs w [] w1).push [.int .i64 p.cls,.int .i64 p.flow,.int .i64 p.next,.int .i64 p.hops,.string p.src,.string p.dst,.bool p.piece,.bool p.more,.int .i64 p.off,.int .i64 p.id,.string p.data] (by simp) 43;clear qq;go_upto_region 14 with fail
 generalize w1.alloc (.cells #[.int .i64 p.cls,.int .i64 p.flow,.int .i64 p.next,.int .i64 p.hops,.string p.src,.string p.dst,.bool p.piece,.bool p.more,.int .i64 p.off,.int .i64 p.id,.string p.data] 43)=W1 at *;generalize w1.heap.size=Pb at *;have HHq:=S1.out.at (.head _);obtain ⟨k0,k1,k2,k3,k4,k5,k6,k7,k8,k9,k10⟩:=HHq.c11;clear HHq;go_wp2_with fail
 refine (HI.out W1).mono ?_;rintro e w2 ⟨rfl,q2⟩;have S2:Hid (Bxs w [(w2.heap.size,[.int .i64 x.cls,.int .i64 x.flow,.int .i64 x.next,.int .i64 x.hops,.string x.src,.string x.dst,.bool x.piece,.bool x.more,.int .i64 x.off,.int .i64 x.id,.string x.data,.int .i64 cd]),(Pb,[.int .i64 p.cls,.int .i64 p.flow,.int .i64 p.next,.int .i64 p.hops,.string p.src,.string p.dst,.bool p.piece,.bool p.more,.int .i64 p.off,.int .i64 p.id,.string p.data])] (w2.alloc (.cells #[.int .i64 x.cls,.int .i64 x.flow,.int .i64 x.next,.int .i64 x.hops,.string x.src,.string x.dst,.bool x.piece,.bool x.more,.int .i64 x.off,.int .i64 x.id,.string x.data,.int .i64 cd] 47))):=(S1.out.kept q2).push [.int .i64 x.cls,.int .i64 x.flow,.int .i64 x.next,.int .i64 x.hops,.string x.src,.string x.dst,.bool x.piece,.bool x.more,.int .i64 x.off,.int .i64 x.id,.string x.data,.int .i64 cd] (by simp) 47;have hx1:Pb < w2.heap.size:=((S1.out.kept q2).k _ (.head _)).lt (by simp);clear S1 q2 HI k0 k1 k2 k3 k4 k5 k6 k7 k8 k9 k10;go_upto_region 15 with fail
 generalize w2.alloc (.cells #[.int .i64 x.cls,.int .i64 x.flow,.int .i64 x.next,.int .i64 x.hops,.string x.src,.string x.dst,.bool x.piece,.bool x.more,.int .i64 x.off,.int .i64 x.id,.string x.data,.int .i64 cd] 47)=W2 at *;generalize w2.heap.size=Xb at *;go_cut [116] (fun v wx=>v=.bool false∧Bxs w [(Xb,[.int .i64 x.cls,.int .i64 x.flow,.int .i64 x.next,.int .i64 x.hops,.string x.src,.string x.dst,.bool x.piece,.bool x.more,.int .i64 x.off,.int .i64 x.id,.string x.data,.int .i64 cd]),(Pb,[.int .i64 p.cls,.int .i64 p.flow,.int .i64 p.next,.int .i64 p.hops,.string p.src,.string p.dst,.bool p.piece,.bool p.more,.int .i64 p.off,.int .i64 p.id,.string p.data])] wx)
 case first =>
  rename_i J K2 hJ hK2;have HCP:Hid (∀ wy,Below W2.drew.heap.size W2.drew wy→_):=fun wy hy=>S2.out.kept ((Below.refl _ _).drew.trans hy)
  refine wp_region_growH [109,110,111,112,113,114,115,116] (by kernel_rfl) (by kernel_rfl) ?_;refine GCh.val (n:=0) (fun v=>[IsV v]) (fun _=>rfl) rfl ?_;apply Exists.intro;refine And.intro ?_ ?_
  ·intro K' a wy ho hd hb hK;rw [if_pos (wanted_none rfl)];have o17:=ho 17 (by decide);simp [slot] at o17;clear hd ho;have hst:=HCP.out wy hb;have HHq:=hst.at (.head _);obtain ⟨k0,k1,k2,k3,k4,k5,k6,k7,k8,k9,k10,k11⟩:=HHq.c12;clear HHq;have HHq:=hst.at (.tail _ (.head _));obtain ⟨j0,j1,j2,j3,j4,j5,j6,j7,j8,j9,j10⟩:=HHq.c11;clear HHq hst;go_simp;try go_bits
   exact hK _ _ rfl (Below.refl _ _)
  refine GCh.val (n:=1) (fun v=>[_,IsV v]) (fun _=>rfl) rfl ?_;apply Exists.intro;refine And.intro ?_ ?_
  ·intro K' a wy ho hd hb hK;rw [if_pos (wanted_none rfl)];have o12:=ho 12 (by decide);simp [slot] at o12;clear hd ho;go_simp;try go_bits
   exact hK _ _ rfl (Below.refl _ _)
  refine GCh.val (n:=2) (fun v=>[_,_,IsV v]) (fun _=>rfl) rfl ?_;apply Exists.intro;refine And.intro ?_ ?_
  ·intro K' a wy ho hd hb hK;rw [if_pos (wanted_none rfl)];have o13:=ho 13 (by decide);simp [slot] at o13;clear hd ho;have hst:=HCP.out wy hb;have HHq:=hst.at (.head _);obtain ⟨k0,k1,k2,k3,k4,k5,k6,k7,k8,k9,k10,k11⟩:=HHq.c12;clear HHq;have HHq:=hst.at (.tail _ (.head _));obtain ⟨j0,j1,j2,j3,j4,j5,j6,j7,j8,j9,j10⟩:=HHq.c11;clear HHq hst;go_simp;try go_bits
   exact hK _ _ rfl (Below.refl _ _)
  refine GCh.val (n:=3) (fun v=>[_,_,_,IsV v]) (fun _=>rfl) rfl ?_;apply Exists.intro;refine And.intro ?_ ?_
  ·intro K' a wy ho hd hb hK;rw [if_pos (wanted_none rfl)];have o14:=ho 14 (by decide);simp [slot] at o14;clear hd ho;go_simp;try go_bits
   exact hK _ _ rfl (Below.refl _ _)
  refine GCh.val (n:=4) (fun v=>[_,_,_,_,IsV v]) (fun _=>rfl) rfl ?_;apply Exists.intro;refine And.intro ?_ ?_
  ·intro K' a wy ho hd hb hK;rw [if_pos (wanted_none rfl)];have o15:=ho 15 (by decide);simp [slot] at o15;clear hd ho;go_simp;try go_bits
   exact hK _ _ rfl (Below.refl _ _)
  refine GCh.val (n:=5) (fun v=>[_,_,_,_,_,IsV v]) (fun _=>rfl) rfl ?_;apply Exists.intro;refine And.intro ?_ ?_
  ·intro K' a wy ho hd hb hK;rw [if_pos (wanted_none rfl)];have o16:=ho 16 (by decide);simp [slot] at o16;clear hd ho;go_simp;try go_bits
   exact hK _ _ rfl (Below.refl _ _)
  refine GCh.val (n:=6) (fun v=>[_,_,_,_,_,_,IsV v]) (fun _=>rfl) rfl ?_;apply Exists.intro;refine And.intro ?_ ?_
  ·intro K' a wy ho hd hb hK;rw [if_pos (wanted_none rfl)];have q1:=hd ⟨1,.data⟩ (by simp) rfl;simp [rAt,IsV,slot] at q1;have q2:=hd ⟨2,.data⟩ (by simp) rfl;simp [rAt,IsV,slot] at q2;have q3:=hd ⟨3,.data⟩ (by simp) rfl;simp [rAt,IsV,slot] at q3;have q4:=hd ⟨4,.data⟩ (by simp) rfl;simp [rAt,IsV,slot] at q4;have q5:=hd ⟨5,.data⟩ (by simp) rfl;simp [rAt,IsV,slot] at q5;clear hd ho;go_simp;refine (HSp.out wy).mono ?_;rintro e wz ⟨rfl,hz⟩;exact hK _ _ rfl hz
  refine GCh.val (n:=7) (fun v=>[_,_,_,_,_,_,_,IsV v]) (fun _=>rfl) rfl ?_;apply Exists.intro;refine And.intro ?_ ?_
  ·intro K' a wy ho hd hb hK;rw [if_pos (wanted_none rfl)];have q0:=hd ⟨0,.data⟩ (by simp) rfl;simp [rAt,IsV,slot] at q0;have q6:=hd ⟨6,.data⟩ (by simp) rfl;simp [rAt,IsV,slot] at q6;clear hd ho;have hne:=neV6O_bin x cd wy;go_simp;try go_bits
   exact hK _ _ rfl (Below.refl _ _)
  intro X wz hR hz;obtain ⟨x0,x1,x2,x3,x4,x5,x6,x7,-⟩:=hR;simp only [IsV] at x0 x1 x2 x3 x4 x5 x6 x7;simp only [putsFrom,x0,x1,x2,x3,x4,x5,x6,x7];clear x0 x1 x2 x3 x4 x5 x6 x7;have HF:Hid (Bxs w [(Xb,[.int .i64 x.cls,.int .i64 x.flow,.int .i64 x.next,.int .i64 x.hops,.string x.src,.string x.dst,.bool x.piece,.bool x.more,.int .i64 x.off,.int .i64 x.id,.string x.data,.int .i64 cd]),(Pb,[.int .i64 p.cls,.int .i64 p.flow,.int .i64 p.next,.int .i64 p.hops,.string p.src,.string p.dst,.bool p.piece,.bool p.more,.int .i64 p.off,.int .i64 p.id,.string p.data])] wz):=HCP.out wz hz;clear HCP;go_simp;refine hK2 _ _ (hJ _ _ ?_);(repeat apply Exists.intro)
  exact ⟨⟨rfl,HF.out⟩,rfl⟩
 case rest =>
 obtain ⟨rfl,hS⟩:=hcut;have S3:Hid (Bxs w [(Xb,[.int .i64 x.cls,.int .i64 x.flow,.int .i64 x.next,.int .i64 x.hops,.string x.src,.string x.dst,.bool x.piece,.bool x.more,.int .i64 x.off,.int .i64 x.id,.string x.data,.int .i64 cd]),(Pb,[.int .i64 p.cls,.int .i64 p.flow,.int .i64 p.next,.int .i64 p.hops,.string p.src,.string p.dst,.bool p.piece,.bool p.more,.int .i64 p.off,.int .i64 p.id,.string p.data])] wc):=hS;clear hS S2 HSp;generalize wc=W3 at *;have HHq:=S3.out.at (.head _);obtain ⟨k0,k1,k2,k3,k4,k5,k6,k7,k8,k9,k10,k11⟩:=HHq.c12;clear HHq;have S4:Hid (Bxs w [(W3.heap.size,[.int .i64 x.cls,.int .i64 x.flow,.int .i64 x.next,.int .i64 x.hops,.string x.src,.string x.dst,.bool x.piece,.bool x.more,.int .i64 x.off,.int .i64 x.id,.string x.data]),(Xb,[.int .i64 x.cls,.int .i64 x.flow,.int .i64 x.next,.int .i64 x.hops,.string x.src,.string x.dst,.bool x.piece,.bool x.more,.int .i64 x.off,.int .i64 x.id,.string x.data,.int .i64 cd]),(Pb,[.int .i64 p.cls,.int .i64 p.flow,.int .i64 p.next,.int .i64 p.hops,.string p.src,.string p.dst,.bool p.piece,.bool p.more,.int .i64 p.off,.int .i64 p.id,.string p.data])] (W3.alloc (.cells #[.int .i64 x.cls,.int .i64 x.flow,.int .i64 x.next,.int .i64 x.hops,.string x.src,.string x.dst,.bool x.piece,.bool x.more,.int .i64 x.off,.int .i64 x.id,.string x.data] 43))):=S3.out.push [.int .i64 x.cls,.int .i64 x.flow,.int .i64 x.next,.int .i64 x.hops,.string x.src,.string x.dst,.bool x.piece,.bool x.more,.int .i64 x.off,.int .i64 x.id,.string x.data] (by simp) 43;have hy1:Pb < W3.heap.size:=(S3.out.k _ (.tail _ (.head _))).lt (by simp);have hy2:Xb < W3.heap.size:=(S3.out.k _ (.head _)).lt (by simp);clear S3;go_upto_region 18 with fail
 generalize W3.alloc (.cells #[.int .i64 x.cls,.int .i64 x.flow,.int .i64 x.next,.int .i64 x.hops,.string x.src,.string x.dst,.bool x.piece,.bool x.more,.int .i64 x.off,.int .i64 x.id,.string x.data] 43)=W4 at *;generalize W3.heap.size=Qb at *;clear k0 k1 k2 k3 k4 k5 k6 k7 k8 k9 k10 k11;by_cases hc:cd=0
 case neg =>
  have HHq:=S4.out.at (.tail _ (.head _));obtain ⟨k0,k1,k2,k3,k4,k5,k6,k7,k8,k9,k10,k11⟩:=HHq.c12;clear HHq;have hc2:(cd != 0)=true:=by simp [hc]
  clear hc;have hun:undef=Value.tuple #[]:=rfl;go_wp2_with fail
  go_ret;exact ⟨rfl,S4.out.b⟩
 subst hc;obtain ⟨d,rfl,CV,CC,⟨t,ht,CB⟩,CT⟩:=HX.out rfl;have HCV:Hid _:=CV;have HCC:Hid _:=CC;have HCB:Hid _:=CB;have HCT:Hid _:=CT;clear CV CC CB CT HX;unfold p6C p6CO at *;dsimp only at *;have HHq:=S4.out.at (.head _);obtain ⟨q0,q1,q2,q3,q4,q5,q6,q7,q8,q9,q10⟩:=HHq.c11;clear HHq;have HHq:=S4.out.at (.tail _ (.tail _ (.head _)));obtain ⟨p0,p1,p2,p3,p4,p5,p6,p7,p8,p9,p10⟩:=HHq.c11;clear HHq;have HHq:=S4.out.at (.tail _ (.head _));have k11:=HHq.cell (j:=11) rfl;clear HHq;go_wp2_with fail
 refine (HCV.out W4).mono ?_;rintro e w5 ⟨rfl,qx⟩;have S5:Hid _:=S4.out.kept qx;clear S4 qx q0 p0 q1 p1 q2 p2 q3 p3 q4 p4 q5 p5 q6 p6 q7 p7 q8 p8 q9 p9 q10 p10 k11;have HHq:=S5.out.at (.head _);obtain ⟨q0,q1,q2,q3,q4,q5,q6,q7,q8,q9,q10⟩:=HHq.c11;clear HHq;have HHq:=S5.out.at (.tail _ (.tail _ (.head _)));obtain ⟨p0,p1,p2,p3,p4,p5,p6,p7,p8,p9,p10⟩:=HHq.c11;clear HHq;go_wp2_with fail
 refine (HCC.out w5).mono ?_;rintro e w6 ⟨rfl,qx⟩;have S6:Hid _:=S5.out.kept qx;clear S5 qx q0 p0 q1 p1 q2 p2 q3 p3 q4 p4 q5 p5 q6 p6 q7 p7 q8 p8 q9 p9 q10 p10;have HHq:=S6.out.at (.head _);obtain ⟨q0,q1,q2,q3,q4,q5,q6,q7,q8,q9,q10⟩:=HHq.c11;clear HHq;have HHq:=S6.out.at (.tail _ (.tail _ (.head _)));obtain ⟨p0,p1,p2,p3,p4,p5,p6,p7,p8,p9,p10⟩:=HHq.c11;clear HHq;go_wp2_with fail
 refine (HCB.out w6).mono ?_;rintro e w7 ⟨rfl,qx⟩;have S7:Hid _:=S6.out.kept qx;clear S6 qx q0 p0 q1 p1 q2 p2 q3 p3 q4 p4 q5 p5 q6 p6 q7 p7 q8 p8 q9 p9 q10 p10;have HHq:=S7.out.at (.head _);obtain ⟨q0,q1,q2,q3,q4,q5,q6,q7,q8,q9,q10⟩:=HHq.c11;clear HHq;have HHq:=S7.out.at (.tail _ (.tail _ (.head _)));obtain ⟨p0,p1,p2,p3,p4,p5,p6,p7,p8,p9,p10⟩:=HHq.c11;clear HHq;have ht2:(t.size:Int)≤1280:=by omega
 by_cases hk:127 < k
 case pos =>
  have hun:undef=Value.tuple #[]:=rfl;go_wp2_with fail
  go_ret;exact ⟨rfl,S7.out.b⟩
 obtain ⟨y,hy⟩:=HCT.out (by omega);have HCY:Hid _:=hy;clear hy HCT;go_wp2_with fail
 refine (HCY.out w7).mono ?_;rintro e w8 ⟨rfl,qx⟩;have S8:Hid _:=S7.out.kept qx;clear S7 qx HCY;have hk2:¬ 127 < k:=by omega
 have hfd:∀ W,(Instr.field 47 (.agg #[.int .i64 y.cls,.int .i64 y.flow,.int .i64 y.next,.int .i64 y.hops,.string y.src,.string y.dst,.bool y.piece,.bool y.more,.int .i64 y.off,.int .i64 y.id,.string y.data,.int .i64 11]) 1).run Try.prog W=.ok (.int .i64 11) W:=fun W=>by kernel_rfl
 have hun:undef=Value.tuple #[]:=rfl;go_wp2_with fail
 go_ret;exact ⟨rfl,S8.out.b⟩
end Go.Proofs.Ytagbhaalmjpkjaa
