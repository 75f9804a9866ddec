import Derived.Test.YtcckaeppiamebaaGreatDoorAb
import Derived.Test.YtcckaeppiamebaaGreatDoorMerged12
import Derived.Test.YtcckaeppiamebaaGreatDoorMerged20
import Derived.Test.YtcckaeppiamebaaGreatDoorMerged22
import Derived.Test.YtcckaeppiamebaaGreatDoorMerged19
import Derived.Test.YtcckaeppiamebaaGreatDoorMerged7
import Derived.Test.YtcckaeppiamebaaGreatDoorTouchR
import Derived.Test.YtcckaeppiamebaaGreatDoorMerged16
import Derived.Test.YtcckaeppiamebaaGreatDoorMerged8
import Derived.Deep.MidRow
import Derived.WalkKit
set_option linter.unusedVariables false
set_option linter.unusedSimpArgs false
set_option maxRecDepth 100000
set_option maxHeartbeats 8000000
namespace Go.Proofs.YtcckaeppiamebaaGreatDoor
open Go.RowKit Go.PlainAid
theorem ofFl_zero {s d:ByteArray} {p:Int} {t:ByteArray} (h:ofCode s.size p t=0):(ofFl s d p t).proto=p∧(ofFl s d p t).src=s∧(ofFl s d p t).dst=d∧(0≤(ofFl s d p t).sp∧(ofFl s d p t).sp≤65535)∧(0≤(ofFl s d p t).dp∧(ofFl s d p t).dp≤65535)∧(echoP p=true→(ofFl s d p t).sp=(ofFl s d p t).dp):=by
 unfold ofFl;rw [if_pos h];have w0:=wordN_range (bt_isByte t) 0;have w2:=wordN_range (bt_isByte t) 2;have w4:=wordN_range (bt_isByte t) 4;by_cases he:echoP p=true
 ·rw [if_pos he]; exact ⟨rfl,rfl,rfl,w4,w4,fun _=>rfl⟩
 ·rw [if_neg he]; exact ⟨rfl,rfl,rfl,w0,w2,fun h=>absurd h he⟩
theorem proto_of {n:Nat} {p:Int} {t:ByteArray} (h:ofCode n p t=0):protoOk p n=true:=by
 unfold ofCode at h;by_cases h3:protoOk p n=false
 ·rw [if_pos h3] at h; simp at h
 ·simpa using h3
theorem proto_four {p:Int} (h:protoOk p 4=true):p=6∨p=17∨p=1:=by
 unfold protoOk at h;simp only [Bool.or_eq_true,Bool.and_eq_true,decide_eq_true_iff] at h;omega
theorem flowOk_of {s d:ByteArray} {p:Int} {t:ByteArray} (h:ofCode s.size p t=0) (hp:pairOk s d=true):flowOk (ofFl s d p t)=true:=by
 obtain ⟨h1,h2,h3,h4,h5,h6⟩:=ofFl_zero (d:=d) h;unfold flowOk;rw [h1,h2,h3,hp,proto_of h,isW_yes h4.1 h4.2,isW_yes h5.1 h5.2];by_cases he:echoP p=true
 ·simp [he,h6 he]
 ·simp [he]
theorem flag_byte (p:Int) (t:ByteArray):isIn (flagV p t) 0 255=true:=by
 unfold flagV isIn;have:=bt_isByte t 13;split<;>simp<;>omega
theorem peer_word {p n:Int} (h:0≤n∧n≤65535):isW (peerV p n)=true:=by
 unfold peerV; split
 ·decide
 ·exact isW_yes h.1 h.2
theorem addr_four {s:ByteArray} (h:s.size=4):addrOk s=true:=by unfold addrOk; simp [h]
theorem pair_four {s d:ByteArray} (hs:s.size=4) (hd:d.size=4):pairOk s d=true:=by unfold pairOk; rw [addr_four hs]; simp [hs,hd]
theorem protoB_four {p:Int} (h:p=6∨p=17∨p=1):protoB p=true∧protoN p=p:=by
 rcases h with rfl | rfl | rfl<;>decide
theorem goT_ok {s d:ByteArray} {p:Int} {t:ByteArray} (hs:s.size=4) (hd:d.size=4) (h:ofCode s.size p t=0):touchOk (goT (ofFl s d p t) d t)=true:=by
 obtain ⟨h1,h2,h3,h4,h5,h6⟩:=ofFl_zero (d:=d) h;have hp:=proto_four (hs ▸ proto_of h);unfold touchOk goT;dsimp only;rw [h1,h2,(protoB_four hp).2,(protoB_four hp).1,addr_four hs,isW_yes h4.1 h4.2,peer_word h5,flag_byte];simp [hd]
theorem comeT_ok {s d:ByteArray} {p:Int} {t:ByteArray} (hs:s.size=4) (hd:d.size=4) (h:ofCode s.size p t=0):touchOk (comeT (ofFl s d p t) t)=true:=by
 obtain ⟨h1,h2,h3,h4,h5,h6⟩:=ofFl_zero (d:=d) h;have hp:=proto_four (hs ▸ proto_of h);unfold touchOk comeT;dsimp only;rw [h1,h2,h3,(protoB_four hp).1,addr_four hd,isW_yes h5.1 h5.2,peer_word h4,flag_byte];simp [hs,hd]
theorem bind_ends {p:Pl} {x:Bb} {t:Tc} {now:Int} (h:bibOk p x=true) (hn:isTime now=true) (ht:touchOk t=true) (hc:(goV p x t now).code=0) :
  (goV p x t now).bind.out.size=4∧(0≤(goV p x t now).bind.outPort∧(goV p x t now).bind.outPort≤65535)∧((goV p x t now).bind.inn.size=4∨(goV p x t now).bind.inn.size=16)∧(0≤(goV p x t now).bind.inPort∧(goV p x t now).bind.inPort≤65535)∧(t.inside=true→(goV p x t now).bind.inn=t.addr):=by
 obtain ⟨g1,g2,g3,g4,g5⟩:=go_right (bibR_iff.1 h) hn ht hc;have hb:=(bind_iff.1 g1.bind).1 _ g3;unfold bindP at hb;simp only [Bool.and_eq_true] at hb;have hpl:=g1.pool;have hpo:1≤p.low∧p.high≤65535:=by
  unfold poolOk at hpl;simp only [Bool.and_eq_true,decide_eq_true_iff] at hpl;exact ⟨hpl.1.1.1.1.1.1.2,hpl.1.1.1.1.2⟩
 have ho:=isIn_parts hb.2;have hw:0≤(goV p x t now).bind.inPort∧(goV p x t now).bind.inPort≤65535:=by simpa [isW] using hb.1.1.2
 have hsz:(goV p x t now).bind.out.size=4:=by
  unfold poolOk at hpl;simp only [Bool.and_eq_true] at hpl;have hu:=upN_iff.1 hpl.2;have hs:=hb.1.2;unfold inL at hs;obtain ⟨u,hu1,hu2⟩:=List.any_eq_true.1 hs;obtain ⟨i,hi,rfl⟩:=List.getElem_of_mem hu1;have h1:=hu i hi;unfold addrOne at h1;simp only [Bool.and_eq_true,decide_eq_true_iff] at h1 hu2;have:p.addrs[i].size=(goV p x t now).bind.out.size:=by
   have:=congrArg List.length hu2;simpa [ByteArray.toList_eq] using this
  omega
 exact ⟨hsz,⟨by omega,by omega⟩,addrOk_size hb.1.1.1.2,hw,fun hi=>congrArg En.addr (g4 hi)⟩
theorem kind_right {f g:Fl} (hf:flowOk f=true) (hfs:f.src.size=4) (hgs:g.src.size=4) (hgd:g.dst.size=4) (hp:g.proto=f.proto) (h1:0≤g.sp∧g.sp≤65535) (h2:0≤g.dp∧g.dp≤65535):flowOk (kindF f g)=true∧(kindF f g).proto=f.proto∧(kindF f g).src=g.src∧(kindF f g).dst=g.dst:=by
 have hpo:protoOk f.proto 4=true:=by unfold flowOk at hf; simp only [Bool.and_eq_true] at hf; rw [hfs] at hf; exact hf.1.1.1.2
 unfold kindF;by_cases he:echoP f.proto=true
 ·rw [if_pos he];have e1:f.proto=1:=by
   have:=proto_four hpo;unfold echoP at he;simp only [Bool.or_eq_true,decide_eq_true_iff] at he;omega
  rw [if_neg (by omega)];refine ⟨?_,e1.symm,rfl,rfl⟩;unfold flowOk;dsimp only;rw [pair_four hgs hgd,isW_yes h1.1 h1.2,hgs,show protoOk 1 4=true by decide]; simp
 ·rw [if_neg he];refine ⟨?_,hp,rfl,rfl⟩;unfold flowOk;rw [pair_four hgs hgd,hp,hgs,hpo,isW_yes h1.1 h1.2,isW_yes h2.1 h2.2]; simp [he]
theorem setD_four {s d:ByteArray} {p:Int} {t:ByteArray} {g:Fl} (h:ofCode s.size p t=0) (hs:s.size=4) (hd:d.size=4) (ht:t.size≤20000) (hg:flowOk g=true) (hp:g.proto=p) (hgs:g.src.size=4):setData (ofFl s d p t) g t=setD (ofFl s d p t) g t∧setCode (ofFl s d p t) g t=0:=by
 obtain ⟨h1,h2,h3,h4,h5,h6⟩:=ofFl_zero (d:=d) h;have hin:setIn (ofFl s d p t) g t=true:=by
  unfold setIn;rw [flowOk_of h (pair_four hs hd),hg,h1,h2,h3,hp,h]; simp
 have hc:setCode (ofFl s d p t) g t=0:=by
  unfold setCode;rw [if_neg (by omega),if_neg (by rw [hin]; simp),if_neg];rintro ⟨_,h16⟩; omega
 refine ⟨?_,hc⟩;unfold setData setD;rw [hc,if_pos rfl];by_cases hb:bareUdp (ofFl s d p t) t=true
 ·rw [if_pos hb,if_pos hb,if_neg (by omega)]
 ·rw [if_neg hb,if_neg hb]
theorem nat_parts {p:Pl} {x:Bb} {q:P4} {now:Int} (h:natFt p x q now=0):bibOk p x=true∧v4Ok q=true∧isTime now=true:=by
 unfold natFt at h;split at h
 ·omega
 ·rename_i h2;simp only [Bool.not_eq_false,Bool.and_eq_true] at h2;exact ⟨h2.1.1,h2.1.2,h2.2⟩
theorem v4_sizes {q:P4} (h:v4Ok q=true):q.src.size=4∧q.dst.size=4∧q.opts.size≤40∧q.data.size≤1400:=by
 have hA:v4A q=true:=by unfold v4Ok at h; simp only [Bool.and_eq_true] at h; exact h.1.1
 have hB:v4B q=true:=by unfold v4Ok at h; simp only [Bool.and_eq_true] at h; exact h.1.2
 have h1:=v4A_parts hA; have h2:=v4B_parts hB;exact ⟨h1.2.2.2.2.2.1,h1.2.2.2.2.2.2,h2.1,h2.2.2.1⟩
theorem flow_four {q:P4} (h:v4Ok q=true):flowCode q.src q.dst q.proto q.data=ofCode q.src.size q.proto q.data∧(ofCode q.src.size q.proto q.data=0→flowOfV q.src q.dst q.proto q.data=ofFl q.src q.dst q.proto q.data):=by
 obtain ⟨h1,h2,h3,h4⟩:=v4_sizes h;have e:flowCode q.src q.dst q.proto q.data=ofCode q.src.size q.proto q.data:=by
  unfold flowCode; rw [if_neg (by omega),if_neg (by rw [pair_four h1 h2]; simp)]
 exact ⟨e,fun hc=>by unfold flowOfV; rw [e,if_pos hc]⟩
theorem tcp_long {n:Nat} {t:ByteArray} (h:ofCode n 6 t=0):20≤t.size:=by
 unfold ofCode at h;split at h
 ·omega
 ·split at h
  ·omega
  ·rename_i _ h2;unfold shortP at h2;simp at h2; omega
theorem touch_go {p:Pl} {x:Bb} {t:Tc} {now:Int} (h:bibOk p x=true) (hn:isTime now=true) (ht:touchOk t=true):bibTouchV p x t now=goV p x t now:=by
 unfold bibTouchV; rw [h,hn,ht]; rfl
theorem pass_out {p:Pl} {x:Bb} {q:P4} {now:Int} (h:natFt p x q now=0) (hc:ofCode q.src.size q.proto q.data=0) (F:Fl) (hF:F=ofFl q.src q.dst q.proto q.data) (Y:Bo) (hY:Y=goV p x (goT F q.dst q.data) now) :
  bibTouchV p x ⟨F.proto,true,F.src,F.sp,F.dst,peerV F.proto F.dp,flagV q.proto q.data⟩ now=Y∧F.src.size=4∧F.dst.size=4∧(Y.code=0→Y.bind.inn.size=4∧Y.bind.out.size=4∧∃ G:Fl,(⟨F.proto,Y.bind.out,F.dst,Y.bind.outPort,if echoP F.proto=true then Y.bind.outPort else F.dp⟩ : Fl)=G∧G=fromF F Y.bind.out Y.bind.outPort q.dst∧setData F G q.data=setD F G q.data∧G.src=Y.bind.out∧G.dst=q.dst):=by
 obtain ⟨h1,h2,h3⟩:=nat_parts h;obtain ⟨s1,s2,s3,s4⟩:=v4_sizes h2;obtain ⟨z1,z2,z3,z4,z5,z6⟩:=@ofFl_zero q.src q.dst q.proto q.data hc;have hp:=proto_of hc;rw [s1] at hp;have hp4:=proto_four hp;obtain ⟨b1,b2⟩:=protoB_four hp4;have ht:=goT_ok s1 s2 hc;rw [← hF] at z1 z2 z3 z4 z5 z6 ht;have eT:(⟨F.proto,true,F.src,F.sp,F.dst,peerV F.proto F.dp,flagV q.proto q.data⟩ : Tc)=goT F q.dst q.data:=by
  unfold goT; rw [z1,b2,z3]
 refine ⟨by rw [eT,touch_go h1 h3 ht,hY],by rw [z2]; exact s1,by rw [z3]; exact s2,fun y0=>?_⟩;rw [hY] at y0;obtain ⟨e1,e2,e3,e4,e5⟩:=bind_ends h1 h3 ht y0;rw [← hY] at e1 e2 e3 e4 e5;have e6:Y.bind.inn.size=4:=by rw [e5 rfl]; show F.src.size=4; rw [z2]; exact s1
 have hG:(⟨F.proto,Y.bind.out,F.dst,Y.bind.outPort,if echoP F.proto=true then Y.bind.outPort else F.dp⟩ : Fl)=fromF F Y.bind.out Y.bind.outPort q.dst:=by
  unfold fromF kindF;split
  ·rename_i he;rw [z1] at he;have:q.proto=1:=by
    rcases hp4 with h6 | h6 | h6
    ·rw [h6] at he; simp [echoP] at he
    ·rw [h6] at he; simp [echoP] at he
    ·exact h6
   dsimp only;rw [if_neg (by omega),z1,z3,this]
  ·rw [z3]
 refine ⟨e6,e1,_,hG,rfl,?_,?_,?_⟩
 ·have hfo:=flowOk_of hc (pair_four s1 s2);rw [← hF] at hfo;obtain ⟨k1,k2,k3,k4⟩:=kind_right (f:=F) (g:=⟨F.proto,Y.bind.out,q.dst,Y.bind.outPort,F.dp⟩) hfo (by rw [z2]; exact s1) e1 s2 rfl e2 z5;have:=(setD_four (g:=fromF F Y.bind.out Y.bind.outPort q.dst) hc s1 s2 (by omega) k1 (by rw [← z1]; exact k2) (by show (kindF _ _).src.size=4; rw [k3]; exact e1)).1;rw [← hF] at this;exact this
 ·rw [← hG]
 ·rw [← hG]; exact z3
theorem pass_in {p:Pl} {x:Bb} {q:P4} {now:Int} (h:natFt p x q now=0) (hc:ofCode q.src.size q.proto q.data=0) (F:Fl) (hF:F=ofFl q.src q.dst q.proto q.data) (Y:Bo) (hY:Y=goV p x (comeT F q.data) now) :
  bibTouchV p x ⟨F.proto,false,F.dst,F.dp,F.src,peerV F.proto F.sp,flagV q.proto q.data⟩ now=Y∧F.src.size=4∧F.dst.size=4∧(Y.code=0→Y.bind.inn.size≤16∧(Y.bind.inn.size=4→∃ G:Fl,(⟨F.proto,F.src,Y.bind.inn,if echoP F.proto=true then Y.bind.inPort else F.sp,Y.bind.inPort⟩ : Fl)=G∧G=toF F q.src Y.bind.inn Y.bind.inPort∧setData F G q.data=setD F G q.data∧G.src=q.src∧G.dst=Y.bind.inn)):=by
 obtain ⟨h1,h2,h3⟩:=nat_parts h;obtain ⟨s1,s2,s3,s4⟩:=v4_sizes h2;obtain ⟨z1,z2,z3,z4,z5,z6⟩:=@ofFl_zero q.src q.dst q.proto q.data hc;have hp:=proto_of hc;rw [s1] at hp;have hp4:=proto_four hp;have ht:=comeT_ok s1 s2 hc;rw [← hF] at z1 z2 z3 z4 z5 z6 ht;have eT:(⟨F.proto,false,F.dst,F.dp,F.src,peerV F.proto F.sp,flagV q.proto q.data⟩ : Tc)=comeT F q.data:=by
  unfold comeT; rw [z1]
 refine ⟨by rw [eT,touch_go h1 h3 ht,hY],by rw [z2]; exact s1,by rw [z3]; exact s2,fun y0=>?_⟩;rw [hY] at y0;obtain ⟨e1,e2,e3,e4,e5⟩:=bind_ends h1 h3 ht y0;rw [← hY] at e1 e2 e3 e4 e5;refine ⟨by omega,fun e6=>?_⟩;have hG:(⟨F.proto,F.src,Y.bind.inn,if echoP F.proto=true then Y.bind.inPort else F.sp,Y.bind.inPort⟩ : Fl)=toF F q.src Y.bind.inn Y.bind.inPort:=by
  unfold toF kindF;split
  ·rename_i he;have he2:=he;rw [z1] at he;have:q.proto=1:=by
    rcases hp4 with h6 | h6 | h6
    ·rw [h6] at he; simp [echoP] at he
    ·rw [h6] at he; simp [echoP] at he
    ·exact h6
   dsimp only;rw [if_neg (by omega),z1,z2,this]
  ·rw [z2]
 refine ⟨_,hG,rfl,?_,?_,?_⟩
 ·have hfo:=flowOk_of hc (pair_four s1 s2);rw [← hF] at hfo;obtain ⟨k1,k2,k3,k4⟩:=kind_right (f:=F) (g:=⟨F.proto,q.src,Y.bind.inn,if echoP F.proto=true then Y.bind.inPort else F.sp,Y.bind.inPort⟩) hfo (by rw [z2]; exact s1) s1 e6 rfl (by dsimp only; split<;>omega) e4;have:=(setD_four (g:=toF F q.src Y.bind.inn Y.bind.inPort) hc s1 s2 (by omega) k1 (by rw [← z1]; exact k2) (by show (kindF _ _).src.size=4; rw [k3]; exact s1)).1;rw [← hF] at this;exact this
 ·rw [← hG]; exact z2
 ·rw [← hG]
end Go.Proofs.YtcckaeppiamebaaGreatDoor
namespace Go.Proofs.YtcckaeppiamebaaGreatDoor
open Go.RowKit
def stor (b:Nat):World→Nat→List Value→World
 | W,_,[]=>W
 | W,j,v::l=>stor b (W.setCell ⟨b,j,none⟩ v) (j+1) l
theorem HoldsL.storAt {b:Nat}:∀ (vs:List Value) {W:World} {pre olds:List Value},HoldsL W b (pre++olds)→olds.length=vs.length→HoldsL (stor b W pre.length vs) b (pre++vs)
 | [],W,pre,[],h,_=>h
 | [],W,pre,_::_,h,hl=>by simp at hl
 | v::vs,W,pre,[],h,hl=>by simp at hl
 | v::vs,W,pre,o::os,h,hl=>by
  have h2:=h.set pre.length v;rw [List.set_append_right _ _ (Nat.le_refl _),Nat.sub_self,List.set_cons_zero] at h2;have h3:HoldsL (W.setCell ⟨b,pre.length,none⟩ v) b ((pre++[v])++os):=by rw [List.append_assoc]; exact h2
  have:=HoldsL.storAt vs h3 (by simpa using hl);rw [List.length_append,List.append_assoc] at this;exact this
theorem HoldsL.stor {b:Nat} {W:World} {olds:List Value} (h:HoldsL W b olds) (vs:List Value) (hl:olds.length=vs.length):HoldsL (stor b W 0 vs) b vs:=HoldsL.storAt vs (pre:=[]) h hl
theorem Below.stor {n b:Nat} {w:World} (hb:n≤b):∀ (vs:List Value) {W:World} {j:Nat},Below n w W→Below n w (Go.Proofs.YtcckaeppiamebaaGreatDoor.stor b W j vs)
 | [],W,j,h=>h
 | v::vs,W,j,h=>Below.stor hb vs (h.setCell (p:=⟨b,j,none⟩) hb v)
theorem HoldsL.storOther {b c:Nat} {cs:List Value} (hne:c≠b):∀ (vs:List Value) {W:World} {j:Nat},HoldsL W c cs→HoldsL (Go.Proofs.YtcckaeppiamebaaGreatDoor.stor b W j vs) c cs
 | [],W,j,h=>h
 | v::vs,W,j,h=>HoldsL.storOther hne vs (h.setOther hne v)
theorem Bxs.stor {w W:World} {ks:List (Nat × List Value)} {b j:Nat} (h:Bxs w ks W) (hb:w.heap.size≤b) (hks:∀ e∈ks,e.1≠b) (vs:List Value):Bxs w ks (Go.Proofs.YtcckaeppiamebaaGreatDoor.stor b W j vs):=⟨fun e he=>HoldsL.storOther (hks e he) vs (h.k e he),Below.stor hb vs h.b,h.z⟩
theorem grown_stor {b:Nat}:∀ (vs:List Value) {w W:World} {j:Nat},w.grownBy W (some b)→w.grownBy (Go.Proofs.YtcckaeppiamebaaGreatDoor.stor b W j vs) (some b)
 | [],w,W,j,h=>h
 | v::vs,w,W,j,h=>grown_stor vs (grown_set h v)
theorem BbOwn.stor {base b j:Nat} {W:World} {a a':Option Addr} {y:Bb} (h:BbOwn base W a a' y) (hb:b < base) (vs:List Value):BbOwn base (Go.Proofs.YtcckaeppiamebaaGreatDoor.stor b W j vs) a a' y :=
 ⟨h.bd.grown (grown_stor vs (World.grownBy.refl _ _)) hb,h.ss.grown (grown_stor vs (World.grownBy.refl _ _)) hb,h.ne⟩
theorem BbOwn.lowN {base base':Nat} {W:World} {a a':Option Addr} {y:Bb} (h:BbOwn base W a a' y) (hb:base'≤base):BbOwn base' W a a' y:=⟨h.bd.down hb,h.ss.down hb,h.ne⟩
theorem stor_cells (b:Nat):∀ (vs:List Value) (W:World) (j:Nat),stor b W j vs=W.setCells b j vs
 | [],W,j=>rfl
 | v::vs,W,j=>by
  show stor b (W.setCell ⟨b,j,none⟩ v) (j+1) vs=_;rw [stor_cells b vs]; rfl
theorem noL_len (a b:Option Addr) (ca cb:Nat) (o:No):(noL a b ca cb o).length=25:=rfl
theorem noL_one (a b:Option Addr) (ca cb:Nat) (o:No):(noL a b ca cb o).toArray.all (·.oneCell')=true:=all_oneCell_toArray (by unfold noL; simp [Value.oneCell'])
theorem HoldsL.mid {W:World} {b:Nat} {olds vs:List Value} (h:HoldsL W b olds) (hl:olds.length=vs.length):HoldsL (W.setCells b 0 vs.toArray.toList) b vs:=by
 rw [List.toList_toArray,← stor_cells]; exact h.stor vs hl
theorem Below.mid {n b:Nat} {w W:World} (h:Below n w W) (hb:n≤b) (vs:List Value):Below n w (W.setCells b 0 vs.toArray.toList):=by
 rw [List.toList_toArray,← stor_cells]; exact Below.stor hb vs h
theorem BbOwn.mid {base b:Nat} {W:World} {a a':Option Addr} {y:Bb} (h:BbOwn base W a a' y) (hb:b < base) (vs:List Value):BbOwn base (W.setCells b 0 vs.toArray.toList) a a' y:=by
 rw [List.toList_toArray,← stor_cells]; exact h.stor hb vs
theorem noL_there {W:World} {b:Nat} {a a':Option Addr} {ca cb:Nat} {o:No} (h:HoldsL W b (noL a a' ca cb o)) (x x':Option Addr) (cx cy:Nat) (y:No):W.there b 0 (noL x x' cx cy y).toArray.size:=by
 have:=h.th;rw [noL_len] at this;exact this
open Go.PlainAid
theorem sz_of_list {a b:ByteArray} (h:a.toList=b.toList):a.size=b.size:=by rw [baT_ext h]
theorem in64_of {n:Int} (h0:0≤n) (h1:n≤100000):In64t n:=by unfold In64t; omega
theorem in64_isIn {n a b:Int} (h:isIn n a b=true) (ha:0≤a) (hb:b≤100000):In64t n:=by
 have:=isIn_parts h; exact in64_of (by omega) (by omega)
theorem bib_small {p:Pl} {x:Bb} (h:BibR p x) (hsz:∀ s∈p.addrs,s.size≤1048576):x.binds.length≤1048576∧x.sess.length≤1048576∧(∀ q∈x.binds,BdGood q)∧(∀ s∈x.sess,SsGood s):=by
 have hp:=h.pool;unfold poolOk at hp;simp only [Bool.and_eq_true,decide_eq_true_iff] at hp;have hm:=isIn_parts hp.1.1.1.2;have hb:∀ q∈x.binds,BdGood q:=fun q hq=>by
  obtain ⟨i,hi,rfl⟩:=List.getElem_of_mem hq;have h1:=h.bind i hi;unfold bindOne at h1;simp only [Bool.and_eq_true] at h1;obtain ⟨⟨⟨⟨⟨a1,a2⟩,a3⟩,a4⟩,a5⟩,-⟩:=h1;have a2':x.binds[i].inn.size≤16:=by unfold addrOk at a2; simp at a2; omega
  unfold inL at a4;unfold isW at a3;obtain ⟨s,hs,e⟩:=List.any_eq_true.1 a4;have hz:=sz_of_list (of_decide_eq_true e);have:=hsz s hs;unfold protoB at a1;simp only [Bool.or_eq_true,decide_eq_true_iff] at a1;exact ⟨by omega,by omega,by unfold In64t; rcases a1 with (a | a) | a<;>omega,in64_isIn a3 (by omega) (by omega),in64_isIn a5 (by omega) (by omega)⟩
 refine ⟨by have:=h.len; omega,by have:=h.most; omega,hb,fun s hs=>?_⟩;obtain ⟨c,hc,ho⟩:=List.any_eq_true.1 (h.has s hs);have hcd:=hb c hc;have hv:=h.sess s hs;unfold sessV at hv;simp only [Bool.and_eq_true,decide_eq_true_iff] at hv;unfold ofIn at ho;simp only [Bool.and_eq_true,decide_eq_true_iff] at ho;have hi:=sz_of_list ho.1.2;exact ⟨by have:=hcd.1; omega,by have:=hv.1.1.1.1; omega,ho.1.1 ▸ hcd.2.2.1,ho.2 ▸ hcd.2.2.2.1⟩
theorem setD_size {s d:ByteArray} {p:Int} {t:ByteArray} {g:Fl} (h:ofCode s.size p t=0):(setD (ofFl s d p t) g t).size≤t.size:=by
 have hpr:(ofFl s d p t).proto=p:=(ofFl_zero (d:=d) h).1;have h8:8≤t.size∧(p=6→20≤t.size):=by
  unfold ofCode at h;split at h
  ·omega
  ·split at h
   ·omega
   ·rename_i _ h2;unfold shortP at h2;simp only [Bool.or_eq_true,Bool.and_eq_true,decide_eq_true_iff,not_or,not_and] at h2;exact ⟨by omega,fun e=>by have:=(h2.1 e); omega⟩
 unfold setD;split
 ·split
  ·exact Nat.zero_le _
  ·rw [setOut_size h8.1]; exact Nat.le_refl _
 ·rw [putV_size,setOut_size h8.1]
  ·exact Nat.le_refl _
  ·rw [setOut_size h8.1,twoV_size,hpr];unfold checkP;split
   ·rename_i e; have:=h8.2 e; omega
   ·split<;>omega
structure Back (p:Pl) (x:Bb) (q:P4) (now:Int) (ans:No) (ft:Int) (nv:No):Prop where
 a1:ft≠0→ans=noE ft
 a2:ft=0→q.proto=1→ans=noE 11
 a3:ft=0→q.proto≠1→nv.code≠0→ans=nv
 a4:ft=0→q.proto≠1→nv.code=0→ans=natComeV p nv.bib nv.four now
 go:ft=0→natGoV p x q now=nv
 sm:ft=0→nv.code=0→(nv.bib.binds.length≤1048576∧nv.bib.sess.length≤1048576∧(∀ q∈nv.bib.binds,BdGood q)∧(∀ s∈nv.bib.sess,SsGood s))∧nv.four.src.size≤1048576∧nv.four.dst.size≤1048576∧nv.four.opts.size≤1048576∧nv.four.data.size≤1048576
theorem back_is (p:Pl) (x:Bb) (q:P4) (now:Int) (hsz:∀ s∈p.addrs,s.size≤1048576):Back p x q now (natBackV p x q now) (natFt p x q now) (natGoIn p x q now):=by
 have hb:natFt p x q now=0→natBackV p x q now=if q.proto=1 then noE 11 else if (natGoIn p x q now).code≠0 then natGoIn p x q now else natComeV p (natGoIn p x q now).bib (natGoIn p x q now).four now:=fun h=>by
  unfold natBackV; rw [if_neg (by simp [h])]
 refine ⟨fun h=>by unfold natBackV; rw [if_pos h],fun h e=>by rw [hb h,if_pos e],fun h e c=>by rw [hb h,if_neg e,if_pos c],fun h e c=>by rw [hb h,if_neg e,if_neg (by simp [c])],fun h=>by unfold natGoV; rw [if_neg (by simp [h])],fun h c=>?_⟩;obtain ⟨h1,h2,h3⟩:=nat_parts h;obtain ⟨s1,s2,s3,s4⟩:=v4_sizes h2;unfold natGoIn at c ⊢;split at c
 ·rename_i hc; exact absurd c hc
 ·rename_i hc;have hc0:ofCode q.src.size q.proto q.data=0:=by simpa using hc
  split at c
  ·rename_i hn; exact absurd c hn
  ·rename_i hn;rw [if_neg hc,if_neg hn];have hn0:(goV p x (goT (ofFl q.src q.dst q.proto q.data) q.dst q.data) now).code=0:=by simpa using hn
   have ht:=goT_ok s1 s2 hc0;have hg:=go_right (bibR_iff.1 h1) h3 ht hn0;have he:=bind_ends h1 h3 ht hn0;refine ⟨bib_small hg.1 hsz,?_,?_,?_,?_⟩
   ·dsimp only; have:=he.1; omega
   ·dsimp only; omega
   ·dsimp only; omega
   ·dsimp only; have:=setD_size (s:=q.src) (d:=q.dst) (g:=fromF (ofFl q.src q.dst q.proto q.data) (goV p x (goT (ofFl q.src q.dst q.proto q.data) q.dst q.data) now).bind.out (goV p x (goT (ofFl q.src q.dst q.proto q.data) q.dst q.data) now).bind.outPort q.dst) hc0; omega
section
variable {w W:World} {base:Nat} {a b:Option Addr} {x:Bb}
theorem BbOwn.fresh (h:BbOwn base w a b x):∀ g o,(x.binds≠[]∧a=some ⟨g,o,none⟩)∨(x.sess≠[]∧b=some ⟨g,o,none⟩)→g≠w.heap.size:=by
 rintro g o (⟨h1,h2⟩ | ⟨h1,h2⟩)
 ·rcases h.bd with e | ⟨g',e,_,hl⟩
  ·exact absurd e h1
  ·rw [h2] at e; injection e with e; injection e with e _; have:=hl.blk; omega
 ·rcases h.ss with e | ⟨g',e,_,hl⟩
  ·exact absurd e h1
  ·rw [h2] at e; injection e with e; injection e with e _; have:=hl.blk; omega
theorem BbOwn.midNe {X:Nat} (h:BbOwn base w a b x) (hn:∀ g o,(x.binds≠[]∧a=some ⟨g,o,none⟩)∨(x.sess≠[]∧b=some ⟨g,o,none⟩)→g≠X) (vs:List Value):BbOwn base (w.setCells X 0 vs.toArray.toList) a b x:=by
 rw [List.toList_toArray,← stor_cells]; exact h.grownNe (grown_stor vs (World.grownBy.refl _ _)) hn
theorem Bxs.mid {ks:List (Nat × List Value)} {X:Nat} (h:Bxs w ks W) (hb:w.heap.size≤X) (hks:∀ e∈ks,e.1≠X) (vs:List Value):Bxs w ks (W.setCells X 0 vs.toArray.toList):=by
 rw [List.toList_toArray,← stor_cells]; exact h.stor hb hks vs
end
theorem noE_len (c:Int):(noE c).bib.binds.length≤1048576∧(noE c).bib.sess.length≤1048576:=⟨by simp [noE,bbZ],by simp [noE,bbZ]⟩
theorem goIn_len {p:Pl} {x:Bb} {q:P4} {now:Int} (hsz:∀ s∈p.addrs,s.size≤1048576) (h:natFt p x q now=0):(natGoIn p x q now).bib.binds.length≤1048576∧(natGoIn p x q now).bib.sess.length≤1048576:=by
 by_cases hc:(natGoIn p x q now).code=0
 ·have:=((back_is p x q now hsz).sm h hc).1; exact ⟨this.1,this.2.1⟩
 ·unfold natGoIn at hc ⊢;split
  ·exact noE_len _
  ·rename_i h1;split
   ·exact noE_len _
   ·rename_i h2; rw [if_neg h1,if_neg h2] at hc; exact absurd rfl hc
theorem no_len_NatCome (p:Pl) (x:Bb) (q:P4) (now:Int) (hsz:∀ s∈p.addrs,s.size≤1048576):(natComeV p x q now).bib.binds.length≤1048576∧(natComeV p x q now).bib.sess.length≤1048576:=by
 unfold natComeV;split
 ·exact noE_len _
 ·rename_i h;have h0:natFt p x q now=0:=by simpa using h
  obtain ⟨h1,h2,h3⟩:=nat_parts h0;obtain ⟨s1,s2,s3,s4⟩:=v4_sizes h2;unfold natComeIn;split
  ·exact noE_len _
  ·split
   ·exact noE_len _
   ·rename_i hc;split
    ·exact noE_len _
    ·rename_i hn;split
     ·exact noE_len _
     ·have hc0:ofCode q.src.size q.proto q.data=0:=by simpa using hc
      have hn0:(goV p x (comeT (ofFl q.src q.dst q.proto q.data) q.data) now).code=0:=by simpa using hn
      have hg:=go_right (bibR_iff.1 h1) h3 (comeT_ok s1 s2 hc0) hn0;have:=bib_small hg.1 hsz;exact ⟨this.1,this.2.1⟩
theorem no_len_NatBack (p:Pl) (x:Bb) (q:P4) (now:Int) (hsz:∀ s∈p.addrs,s.size≤1048576):(natBackV p x q now).bib.binds.length≤1048576∧(natBackV p x q now).bib.sess.length≤1048576:=by
 unfold natBackV;split
 ·exact noE_len _
 ·rename_i h;split
  ·exact noE_len _
  ·split
   ·exact goIn_len hsz (by simpa using h)
   ·exact no_len_NatCome p _ _ now hsz
end Go.Proofs.YtcckaeppiamebaaGreatDoor
namespace Go.Proofs.YtcckaeppiamebaaGreatDoor
open Go.RowKit
theorem wpList_load_g {P:Program} {ops:Array Oper} {rest:List Oper} {op:Oper} {a:Act} {w:World} {Q:Exit→Act→World→Prop} (hw:Region.wanted op (yielded ops a.tmps)=true) (ty:TypeId) (x:Operand) (ho:op.op=.load ty x)
  (b o:Nat) (hx:a.eval x=.pointer (some ⟨b,o,none⟩)) (cs:List Value) (d:TypeDesc) (hc:w.rangeAt b o cs)
  (hu:P.underlying ty=some d) (hd:d.isRow=true) (hi:(P.info? ty).map (·.size)=some cs.length)
  (h:wpList P ops Q rest (a.put op.dst (.agg cs.toArray)) w):wpList P ops Q (op::rest) a w :=
 wpList_step fun K hK=>by rw [if_pos hw]; exact wp_load_mid ty x ho b o hx cs d hc hu hd hi (hK _ _ h)
end Go.Proofs.YtcckaeppiamebaaGreatDoor
