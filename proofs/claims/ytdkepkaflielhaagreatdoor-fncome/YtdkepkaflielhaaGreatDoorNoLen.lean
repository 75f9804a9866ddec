import Derived.Test.YtdkepkaflielhaaGreatDoorAb
import Derived.Test.YtdkepkaflielhaaGreatDoorNatBk
set_option linter.unusedVariables false
set_option linter.unusedSimpArgs false
set_option maxRecDepth 100000
set_option maxHeartbeats 8000000
namespace Go.Proofs.YtdkepkaflielhaaGreatDoor
open Go.RowKit Go.PlainAid
theorem noE_len (c:Int):(noE c).bib.binds.length≤1048576∧(noE c).bib.sess.length≤1048576:=⟨by simp [noE,bbZ],by simp [noE,bbZ]⟩
theorem no_len_NatCome (p:Pl) (x:Bb) (q:P4) (now:Int) (hsz:∀ s∈p.addrs,s.size≤1048576):(natComeV p x q now).bib.binds.length≤1048576∧(natComeV p x q now).bib.sess.length≤1048576:=by
 unfold natComeV;split
 ·exact noE_len _
 ·rename_i h;have h0:natFt p x q now=0:=by simpa using h
  obtain ⟨h1,h2,h3⟩:=nat_parts h0;obtain ⟨s1,s2,s3,s4⟩:=v4_sizes h2;unfold natComeIn;split
  ·exact noE_len _
  ·split
   ·exact noE_len _
   ·rename_i hc;split
    ·exact noE_len _
    ·rename_i hn;split
     ·exact noE_len _
     ·have hc0:ofCode q.src.size q.proto q.data=0:=by simpa using hc
      have hn0:(goV p x (comeT (ofFl q.src q.dst q.proto q.data) q.data) now).code=0:=by simpa using hn
      have hg:=go_right (bibR_iff.1 h1) h3 (comeT_ok s1 s2 hc0) hn0;have:=bib_small hg.1 hsz;exact ⟨this.1,this.2.1⟩
end Go.Proofs.YtdkepkaflielhaaGreatDoor
