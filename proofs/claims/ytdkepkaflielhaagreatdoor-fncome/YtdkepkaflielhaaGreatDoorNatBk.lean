import Derived.Test.YtdkepkaflielhaaGreatDoorAb
import Derived.Test.YtdkepkaflielhaaGreatDoorNatP
import Derived.Test.YtdkepkaflielhaaGreatDoorNoBox
import Derived.Test.YtdkepkaflielhaaGreatDoorTouchR
import Derived.Test.YtdkepkaflielhaaGreatDoorCSetM
import Derived.Test.YtdkepkaflielhaaGreatDoorBook
import Derived.Test.YtdkepkaflielhaaGreatDoorLawMk9
set_option linter.unusedVariables false
set_option linter.unusedSimpArgs false
set_option maxRecDepth 100000
set_option maxHeartbeats 8000000
namespace Go.Proofs.YtdkepkaflielhaaGreatDoor
open Go.RowKit Go.PlainAid
theorem sz_of_list {a b:ByteArray} (h:a.toList=b.toList):a.size=b.size:=by rw [baT_ext h]
theorem in64_of {n:Int} (h0:0≤n) (h1:n≤100000):In64t n:=by unfold In64t; omega
theorem in64_isIn {n a b:Int} (h:isIn n a b=true) (ha:0≤a) (hb:b≤100000):In64t n:=by
 have:=isIn_parts h; exact in64_of (by omega) (by omega)
theorem bib_small {p:Pl} {x:Bb} (h:BibR p x) (hsz:∀ s∈p.addrs,s.size≤1048576):x.binds.length≤1048576∧x.sess.length≤1048576∧(∀ q∈x.binds,BdGood q)∧(∀ s∈x.sess,SsGood s):=by
 have hp:=h.pool;unfold poolOk at hp;simp only [Bool.and_eq_true,decide_eq_true_iff] at hp;have hm:=isIn_parts hp.1.1.1.2;have hb:∀ q∈x.binds,BdGood q:=fun q hq=>by
  obtain ⟨i,hi,rfl⟩:=List.getElem_of_mem hq;have h1:=h.bind i hi;unfold bindOne at h1;simp only [Bool.and_eq_true] at h1;obtain ⟨⟨⟨⟨⟨a1,a2⟩,a3⟩,a4⟩,a5⟩,-⟩:=h1;have a2':x.binds[i].inn.size≤16:=by unfold addrOk at a2; simp at a2; omega
  unfold inL at a4;unfold isW at a3;obtain ⟨s,hs,e⟩:=List.any_eq_true.1 a4;have hz:=sz_of_list (of_decide_eq_true e);have:=hsz s hs;unfold protoB at a1;simp only [Bool.or_eq_true,decide_eq_true_iff] at a1;exact ⟨by omega,by omega,by unfold In64t; rcases a1 with (a | a) | a<;>omega,in64_isIn a3 (by omega) (by omega),in64_isIn a5 (by omega) (by omega)⟩
 refine ⟨by have:=h.len; omega,by have:=h.most; omega,hb,fun s hs=>?_⟩;obtain ⟨c,hc,ho⟩:=List.any_eq_true.1 (h.has s hs);have hcd:=hb c hc;have hv:=h.sess s hs;unfold sessV at hv;simp only [Bool.and_eq_true,decide_eq_true_iff] at hv;unfold ofIn at ho;simp only [Bool.and_eq_true,decide_eq_true_iff] at ho;have hi:=sz_of_list ho.1.2;exact ⟨by have:=hcd.1; omega,by have:=hv.1.1.1.1; omega,ho.1.1 ▸ hcd.2.2.1,ho.2 ▸ hcd.2.2.2.1⟩
structure Back (p:Pl) (x:Bb) (q:P4) (now:Int) (ans:No) (ft:Int) (nv:No):Prop where
 a1:ft≠0→ans=noE ft
 a2:ft=0→q.proto=1→ans=noE 11
 a3:ft=0→q.proto≠1→nv.code≠0→ans=nv
 a4:ft=0→q.proto≠1→nv.code=0→ans=natComeV p nv.bib nv.four now
 go:ft=0→natGoV p x q now=nv
 sm:ft=0→nv.code=0→(nv.bib.binds.length≤1048576∧nv.bib.sess.length≤1048576∧(∀ q∈nv.bib.binds,BdGood q)∧(∀ s∈nv.bib.sess,SsGood s))∧nv.four.src.size≤1048576∧nv.four.dst.size≤1048576∧nv.four.opts.size≤1048576∧nv.four.data.size≤1048576
section
variable {w W:World} {base:Nat} {a b:Option Addr} {x:Bb}
end
end Go.Proofs.YtdkepkaflielhaaGreatDoor
