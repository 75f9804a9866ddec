import Derived.Test.YtdkepkaflielhaaGreatDoorAb
import Derived.Test.YtdkepkaflielhaaGreatDoorNatR
set_option linter.unusedVariables false
set_option linter.unusedSimpArgs false
set_option maxRecDepth 100000
set_option maxHeartbeats 8000000
namespace Go.Proofs.YtdkepkaflielhaaGreatDoor
open Go.RowKit Go.PlainAid
theorem nat_parts {p:Pl} {x:Bb} {q:P4} {now:Int} (h:natFt p x q now=0):bibOk p x=true∧v4Ok q=true∧isTime now=true:=by
 unfold natFt at h;split at h
 ·omega
 ·rename_i h2;simp only [Bool.not_eq_false,Bool.and_eq_true] at h2;exact ⟨h2.1.1,h2.1.2,h2.2⟩
theorem v4_sizes {q:P4} (h:v4Ok q=true):q.src.size=4∧q.dst.size=4∧q.opts.size≤40∧q.data.size≤1400:=by
 have hA:v4A q=true:=by unfold v4Ok at h; simp only [Bool.and_eq_true] at h; exact h.1.1
 have hB:v4B q=true:=by unfold v4Ok at h; simp only [Bool.and_eq_true] at h; exact h.1.2
 have h1:=v4A_parts hA; have h2:=v4B_parts hB;exact ⟨h1.2.2.2.2.2.1,h1.2.2.2.2.2.2,h2.1,h2.2.2.1⟩
theorem flow_four {q:P4} (h:v4Ok q=true):flowCode q.src q.dst q.proto q.data=ofCode q.src.size q.proto q.data∧(ofCode q.src.size q.proto q.data=0→flowOfV q.src q.dst q.proto q.data=ofFl q.src q.dst q.proto q.data):=by
 obtain ⟨h1,h2,h3,h4⟩:=v4_sizes h;have e:flowCode q.src q.dst q.proto q.data=ofCode q.src.size q.proto q.data:=by
  unfold flowCode; rw [if_neg (by omega),if_neg (by rw [pair_four h1 h2]; simp)]
 exact ⟨e,fun hc=>by unfold flowOfV; rw [e,if_pos hc]⟩
theorem tcp_long {n:Nat} {t:ByteArray} (h:ofCode n 6 t=0):20≤t.size:=by
 unfold ofCode at h;split at h
 ·omega
 ·split at h
  ·omega
  ·rename_i _ h2;unfold shortP at h2;simp at h2; omega
theorem touch_go {p:Pl} {x:Bb} {t:Tc} {now:Int} (h:bibOk p x=true) (hn:isTime now=true) (ht:touchOk t=true):bibTouchV p x t now=goV p x t now:=by
 unfold bibTouchV; rw [h,hn,ht]; rfl
theorem pass_in {p:Pl} {x:Bb} {q:P4} {now:Int} (h:natFt p x q now=0) (hc:ofCode q.src.size q.proto q.data=0) (F:Fl) (hF:F=ofFl q.src q.dst q.proto q.data) (Y:Bo) (hY:Y=goV p x (comeT F q.data) now) :
  bibTouchV p x ⟨F.proto,false,F.dst,F.dp,F.src,peerV F.proto F.sp,flagV q.proto q.data⟩ now=Y∧F.src.size=4∧F.dst.size=4∧(Y.code=0→Y.bind.inn.size≤16∧(Y.bind.inn.size=4→∃ G:Fl,(⟨F.proto,F.src,Y.bind.inn,if echoP F.proto=true then Y.bind.inPort else F.sp,Y.bind.inPort⟩ : Fl)=G∧G=toF F q.src Y.bind.inn Y.bind.inPort∧setData F G q.data=setD F G q.data∧G.src=q.src∧G.dst=Y.bind.inn)):=by
 obtain ⟨h1,h2,h3⟩:=nat_parts h;obtain ⟨s1,s2,s3,s4⟩:=v4_sizes h2;obtain ⟨z1,z2,z3,z4,z5,z6⟩:=@ofFl_zero q.src q.dst q.proto q.data hc;have hp:=proto_of hc;rw [s1] at hp;have hp4:=proto_four hp;have ht:=comeT_ok s1 s2 hc;rw [← hF] at z1 z2 z3 z4 z5 z6 ht;have eT:(⟨F.proto,false,F.dst,F.dp,F.src,peerV F.proto F.sp,flagV q.proto q.data⟩ : Tc)=comeT F q.data:=by
  unfold comeT; rw [z1]
 refine ⟨by rw [eT,touch_go h1 h3 ht,hY],by rw [z2]; exact s1,by rw [z3]; exact s2,fun y0=>?_⟩;rw [hY] at y0;obtain ⟨e1,e2,e3,e4,e5⟩:=bind_ends h1 h3 ht y0;rw [← hY] at e1 e2 e3 e4 e5;refine ⟨by omega,fun e6=>?_⟩;have hG:(⟨F.proto,F.src,Y.bind.inn,if echoP F.proto=true then Y.bind.inPort else F.sp,Y.bind.inPort⟩ : Fl)=toF F q.src Y.bind.inn Y.bind.inPort:=by
  unfold toF kindF;split
  ·rename_i he;have he2:=he;rw [z1] at he;have:q.proto=1:=by
    rcases hp4 with h6 | h6 | h6
    ·rw [h6] at he; simp [echoP] at he
    ·rw [h6] at he; simp [echoP] at he
    ·exact h6
   dsimp only;rw [if_neg (by omega),z1,z2,this]
  ·rw [z2]
 refine ⟨_,hG,rfl,?_,?_,?_⟩
 ·have hfo:=flowOk_of hc (pair_four s1 s2);rw [← hF] at hfo;obtain ⟨k1,k2,k3,k4⟩:=kind_right (f:=F) (g:=⟨F.proto,q.src,Y.bind.inn,if echoP F.proto=true then Y.bind.inPort else F.sp,Y.bind.inPort⟩) hfo (by rw [z2]; exact s1) s1 e6 rfl (by dsimp only; split<;>omega) e4;have:=(setD_four (g:=toF F q.src Y.bind.inn Y.bind.inPort) hc s1 s2 (by omega) k1 (by rw [← z1]; exact k2) (by show (kindF _ _).src.size=4; rw [k3]; exact s1)).1;rw [← hF] at this;exact this
 ·rw [← hG]; exact z2
 ·rw [← hG]
end Go.Proofs.YtdkepkaflielhaaGreatDoor
