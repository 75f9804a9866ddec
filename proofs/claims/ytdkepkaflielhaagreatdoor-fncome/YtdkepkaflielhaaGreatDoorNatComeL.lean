import Derived.Test.YtdkepkaflielhaaGreatDoorAb
import Derived.Test.YtdkepkaflielhaaGreatDoorNatBk
import Derived.Test.YtdkepkaflielhaaGreatDoorTouchL
import Derived.Test.YtdkepkaflielhaaGreatDoorSBib2
set_option linter.unusedVariables false
set_option linter.unusedSimpArgs false
set_option maxRecDepth 100000
set_option maxHeartbeats 8000000
namespace Go.Proofs.YtdkepkaflielhaaGreatDoor
open Go.RowKit Go.PlainAid
theorem natCome_err {p:Pl} {x:Bb} {q:P4} {now:Int} (h:(natComeV p x q now).code≠0):natComeV p x q now=noE (natComeV p x q now).code:=by
 unfold natComeV natComeIn at h ⊢;by_cases h1:natFt p x q now≠0
 ·rw [if_pos h1]; rfl
 rw [if_neg h1] at h ⊢;by_cases h2:inL p.addrs q.dst=false
 ·rw [if_pos h2]; rfl
 rw [if_neg h2] at h ⊢;by_cases h3:ofCode q.src.size q.proto q.data≠0
 ·rw [if_pos h3]; rfl
 rw [if_neg h3] at h ⊢;by_cases h4:(goV p x (comeT (ofFl q.src q.dst q.proto q.data) q.data) now).code≠0
 ·rw [if_pos h4]; rfl
 rw [if_neg h4] at h ⊢;by_cases h5:(goV p x (comeT (ofFl q.src q.dst q.proto q.data) q.data) now).bind.inn.size≠4
 ·rw [if_pos h5]; rfl
 rw [if_neg h5] at h;exact absurd rfl h
theorem go_knows {p:Pl} {x:Bb} {t:Tc} {now:Int} {c:Bd} (hi:t.inside=false) (hc:(goV p x t now).code=0) (hf:x.binds.find? (ofOut t.proto t.addr t.port)=some c) (hfl:p.filter=0∨p.filter=1∨p.filter=2) :
  p.filter=0∨∃ s∈x.sess,hasS c s=true∧s.peer.toList=t.peer.toList∧(p.filter=1∨s.peerPort=t.peerPort):=by
 unfold goV at hc;rw [hi] at hc;simp only [Bool.false_eq_true,if_false] at hc;rw [hf] at hc;dsimp only at hc
 cases hs:x.sess.findIdx? (withP c t.peer t.peerPort) with
 | some i =>
  obtain ⟨hlt,hw,_⟩:=List.findIdx?_eq_some_iff_getElem.1 hs;unfold withP at hw;simp only [Bool.and_eq_true,decide_eq_true_iff] at hw;exact .inr ⟨x.sess[i],List.getElem_mem _,hw.1.1,hw.1.2,.inr hw.2⟩
 | none =>
  rw [hs] at hc;dsimp only at hc
  cases hg:goneB p x t c with
  | true=>rw [hg] at hc; simp [boE] at hc
  | false =>
   unfold goneB at hg;rw [hi] at hg;simp only [Bool.not_false,Bool.true_and,Bool.or_eq_false_iff,decide_eq_false_iff_not,Bool.and_eq_false_iff,Bool.not_eq_false'] at hg;rcases hfl with h0 | h1 | h2
   ·exact .inl h0
   ·rcases hg.2 with g | g
    ·exact absurd h1 g
    ·obtain ⟨s,hs1,hs2⟩:=List.any_eq_true.1 g;unfold withA at hs2;simp only [Bool.and_eq_true,decide_eq_true_iff] at hs2;exact .inr ⟨s,hs1,hs2.1,hs2.2,.inl h1⟩
   ·exact absurd h2 hg.1
theorem natCome_ok {p:Pl} {x:Bb} {q:P4} {now:Int} (h:(natComeV p x q now).code=0) (hq:q.data.size≤20000) :
  ∃ c D,flowOfV q.src q.dst q.proto q.data=ofFl q.src q.dst q.proto q.data∧(ofFl q.src q.dst q.proto q.data).proto=q.proto∧(ofFl q.src q.dst q.proto q.data).src=q.src∧(ofFl q.src q.dst q.proto q.data).dst=q.dst
   ∧ bindV (ofOut q.proto q.dst (ofFl q.src q.dst q.proto q.data).dp) x.binds q.dst=c∧c.proto≠0∧(natComeV p x q now).four={ q with dst:=c.inn,data:=D }∧(natComeV p x q now).bib.binds.length=x.binds.length∧bibOk p (natComeV p x q now).bib=true
   ∧ (p.filter=0∨∃ s∈x.sess,hasS c s=true∧s.peer.toList=q.src.toList∧(p.filter=1∨s.peerPort=if q.proto=1 then 0 else (ofFl q.src q.dst q.proto q.data).sp)):=by
 unfold natComeV natComeIn at h ⊢;by_cases h1:natFt p x q now≠0
 ·rw [if_pos h1] at h; exact absurd h h1
 rw [if_neg h1] at h ⊢;by_cases h2:inL p.addrs q.dst=false
 ·rw [if_pos h2] at h; exact absurd h (by decide)
 rw [if_neg h2] at h ⊢;by_cases h3:ofCode q.src.size q.proto q.data≠0
 ·rw [if_pos h3] at h; exact absurd h h3
 rw [if_neg h3] at h ⊢;by_cases h4:(goV p x (comeT (ofFl q.src q.dst q.proto q.data) q.data) now).code≠0
 ·rw [if_pos h4] at h; exact absurd h h4
 rw [if_neg h4] at h ⊢;by_cases h5:(goV p x (comeT (ofFl q.src q.dst q.proto q.data) q.data) now).bind.inn.size≠4
 ·rw [if_pos h5] at h; exact absurd h (by decide)
 rw [if_neg h5];have h1':natFt p x q now=0:=Decidable.not_not.1 h1;have h3':ofCode q.src.size q.proto q.data=0:=Decidable.not_not.1 h3;have h4':=Decidable.not_not.1 h4;obtain ⟨k1,k2,k3⟩:=nat_parts h1';obtain ⟨hs4,hd4,_,_⟩:=v4_sizes k2;have hR:=bibR_iff.1 k1;have hto:=comeT_ok hs4 hd4 h3';obtain ⟨g1,g2,g3,g4,g5⟩:=go_right hR k3 hto h4';obtain ⟨z1,z2,z3,_⟩:=ofFl_zero (d:=q.dst) h3';obtain ⟨g6,g7⟩:=g5 rfl;have hp4:q.proto=6∨q.proto=17∨q.proto=1:=proto_four (by have:=proto_of h3'; rw [hs4] at this; exact this);have hfc:flowCode q.src q.dst q.proto q.data=0:=by
  unfold flowCode;rw [if_neg (by omega),if_neg (by rw [pair_four hs4 hd4]; decide)];exact h3'
 have hkn:=go_knows (now:=now) (c:=(goV p x (comeT (ofFl q.src q.dst q.proto q.data) q.data) now).bind) rfl h4' g6 (pool_filter hR.pool);have hcp:(goV p x (comeT (ofFl q.src q.dst q.proto q.data) q.data) now).bind.proto=q.proto:=by
  have:=List.find?_some g6;unfold ofOut at this;simp only [Bool.and_eq_true,decide_eq_true_iff] at this;have h9:=this.1.1;rw [h9]; exact z1
 refine ⟨(goV p x (comeT (ofFl q.src q.dst q.proto q.data) q.data) now).bind,_,?_,z1,z2,z3,?_,by rw [hcp]; omega,rfl,by show (goV p x _ now).bib.binds.length=_; rw [g7],bibR_iff.2 g1,?_⟩
 ·unfold flowOfV; rw [if_pos hfc]
 ·unfold bindV;rw [if_neg (by omega)];have e:x.binds.find? (ofOut q.proto q.dst (ofFl q.src q.dst q.proto q.data).dp)=some (goV p x (comeT (ofFl q.src q.dst q.proto q.data) q.data) now).bind:=by
   have:x.binds.find? (ofOut (ofFl q.src q.dst q.proto q.data).proto (ofFl q.src q.dst q.proto q.data).dst (ofFl q.src q.dst q.proto q.data).dp)=some (goV p x (comeT (ofFl q.src q.dst q.proto q.data) q.data) now).bind:=g6;rw [z1,z3] at this;exact this
  rw [e]; rfl
 ·rcases hkn with h0 | ⟨s,s1,s2,s3,s4⟩
  ·exact .inl h0
  ·refine .inr ⟨s,s1,s2,by have:=s3; unfold comeT at this; dsimp only at this; rw [z2] at this; exact this,s4.imp id fun e=>?_⟩;unfold comeT at e;dsimp only at e;rw [e,z1];unfold peerV echoP;rcases hp4 with h | h | h<;>rw [h]<;>simp
end Go.Proofs.YtdkepkaflielhaaGreatDoor
