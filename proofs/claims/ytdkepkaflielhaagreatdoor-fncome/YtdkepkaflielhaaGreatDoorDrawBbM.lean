import Derived.Test.YtdkepkaflielhaaGreatDoorAb
import Derived.Test.YtdkepkaflielhaaGreatDoorTouchR
import Derived.Test.YtdkepkaflielhaaGreatDoorTouchLen
import Derived.Test.YtdkepkaflielhaaGreatDoorDrawDb
set_option linter.unusedVariables false
set_option linter.unusedSimpArgs false
set_option maxRecDepth 100000
set_option maxHeartbeats 8000000
namespace Go.Proofs.YtdkepkaflielhaaGreatDoor
open Go.RowKit
theorem isW_R {n:Int} (h:isW n=true):inR n:=by have:=isIn_parts h; unfold inR; omega
theorem protoB_R {n:Int} (h:protoB n=true):inR n:=by
 unfold protoB at h;simp only [Bool.or_eq_true,decide_eq_true_iff] at h;unfold inR;rcases h with (h | h) | h<;>omega
theorem addrOk_sz {s:ByteArray} (h:addrOk s=true):s.size≤16:=by
 unfold addrOk at h;simp at h;omega
theorem toList_sz {a b:ByteArray} (h:a.toList=b.toList):a.size=b.size:=by rw [baT_ext h]
theorem bind_dr {p:Pl} {ys:List Bd} {c:Bd} (hp:poolOk p=true) (hd:PlDr p) (h:bindOne p ys c=true):BdDr c:=by
 unfold bindOne at h;simp only [Bool.and_eq_true] at h;obtain ⟨⟨⟨⟨⟨h1,h2⟩,h3⟩,h4⟩,h5⟩,-⟩:=h;have hz:=addrOk_sz h2;have ho:c.out.size≤4:=by
  unfold inL at h4;obtain ⟨s,hs,e⟩:=List.any_eq_true.1 h4;have:=toList_sz (of_decide_eq_true e);have:=hd.2.2 s hs;omega
 unfold poolOk at hp;simp only [Bool.and_eq_true,decide_eq_true_iff] at hp;have h5':=isIn_parts h5;exact ⟨by omega,by omega,protoB_R h1,isW_R h3,by unfold inR; omega⟩
theorem bibR_dr {p:Pl} {x:Bb} (h:BibR p x) (hd:PlDr p) (h1:x.binds.length≤100) (h2:x.sess.length≤100):BbDr x:=by
 have hb:∀ q∈x.binds,BdDr q:=fun q hq=>by
  obtain ⟨i,hi,rfl⟩:=List.getElem_of_mem hq;exact bind_dr h.pool hd (h.bind i hi)
 refine ⟨h1,h2,hb,fun s hs=>?_⟩;obtain ⟨c,hc,ho⟩:=List.any_eq_true.1 (h.has s hs);have hcd:=hb c hc;have hv:=h.sess s hs;unfold sessV at hv;simp only [Bool.and_eq_true,decide_eq_true_iff] at hv;unfold ofIn at ho;simp only [Bool.and_eq_true,decide_eq_true_iff] at ho;have hi:=toList_sz ho.1.2;exact ⟨by have:=hcd.1; omega,by have:=hv.1.1.1.1; omega,ho.1.1 ▸ hcd.2.2.1,ho.2 ▸ hcd.2.2.2.1,isW_R hv.1.1.1.2⟩
def DrX (p:Pl) (n:Nat) (x:Bb):Prop:=(x=bbZ∨BibR p x)∧x.binds.length≤n∧x.sess.length≤n
theorem DrX.dr {p:Pl} {n:Nat} {x:Bb} (h:DrX p n x) (hd:PlDr p) (hn:n≤100):BbDr x:=by
 rcases h.1 with rfl | h1
 ·exact ⟨by decide,by decide,fun q hq=>by simp [bbZ] at hq,fun q hq=>by simp [bbZ] at hq⟩
 ·exact bibR_dr h1 hd (by have:=h.2.1; omega) (by have:=h.2.2; omega)
theorem DrX.ne {p:Pl} {n:Nat} {x:Bb} (h:DrX p n x):x.binds≠[]→x.sess≠[]:=fun hb hs=>by
 rcases h.1 with rfl | h1
 ·exact hb rfl
 ·obtain ⟨c,l,e⟩:=List.exists_cons_of_ne_nil hb;have:=h1.all c (by rw [e]; simp);rw [hs] at this;simp at this
theorem DrX.touch {p:Pl} {n:Nat} {x:Bb} {t:Tc} {now:Int} (h:DrX p n x) (hc:(bibTouchV p x t now).code=0):DrX p (n+1) (bibTouchV p x t now).bib:=by
 unfold bibTouchV at hc ⊢;by_cases hk:(bibOk p x&&isTime now&&touchOk t)=true
 ·rw [if_pos hk] at hc ⊢;simp only [Bool.and_eq_true] at hk;have hg:=goV_len p x t now;have h1:=h.2.1;have h2:=h.2.2;exact ⟨.inr (go_right (bibR_iff.1 hk.1.1) hk.1.2 hk.2 hc).1,by omega,by omega⟩
 ·rw [if_neg hk] at hc; simp [boE] at hc
end Go.Proofs.YtdkepkaflielhaaGreatDoor
