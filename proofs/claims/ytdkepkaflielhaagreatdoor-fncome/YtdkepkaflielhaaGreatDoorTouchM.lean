import Derived.Test.YtdkepkaflielhaaGreatDoorAb
import Derived.Test.YtdkepkaflielhaaGreatDoorTouch9
import Derived.Test.YtdkepkaflielhaaGreatDoorIBindF
set_option linter.unusedVariables false
set_option linter.unusedSimpArgs false
set_option maxRecDepth 100000
set_option maxHeartbeats 8000000
namespace Go.Proofs.YtdkepkaflielhaaGreatDoor
open Go.RowKit
def metB (h:En) (peer:ByteArray) (s:Ss):Bool:=sameEn (sessE s) h&&decide (s.peer.toList=peer.toList)
def admitV (p:Pl) (x:Bb) (h:En) (peer:ByteArray):Bool:=if p.filter=0 then true else if p.filter=1 then x.sess.any (metB h peer) else false
def sessH (p:Pl) (t:Tc) (h:En) (st now:Int):Ss:=⟨h.proto,h.addr,h.port,t.peer,t.peerPort,st,now+trackLifeV p.lv t.proto st⟩
def growB (p:Pl) (xs:List Bd) (h:En):List Bd:=if (xs.find? (ofIn h.proto h.addr h.port)).isSome=true then xs else xs++[(bindForV p xs h).1]
def beginV (p:Pl) (x:Bb) (h:En) (t:Tc) (now:Int):Bo :=
 if trackNewV t.proto t.inside t.flags=0 then boE 6
 else if (!t.inside&&!admitV p x h t.peer)=true then boE 6
 else if (x.sess.length:Int)=p.most then boE 9
 else if (bindForV p x.binds h).2=false then boE 9
 else ⟨⟨growB p x.binds h,x.sess++[sessH p t h (trackNewV t.proto t.inside t.flags) now]⟩,(bindForV p x.binds h).1,0⟩
def hostV (x:Bb) (t:Tc):En × Bool:=if t.inside=true then (⟨t.proto,t.addr,t.port⟩,true) else (hostE ((x.binds.find? (ofOut t.proto t.addr t.port)).getD bdZ),(x.binds.find? (ofOut t.proto t.addr t.port)).isSome)
def keyT (h:En) (t:Tc):Sk:=⟨h,t.peer,t.peerPort⟩
def goI (p:Pl) (x:Bb) (t:Tc) (now:Int):Bo :=
 if (hostV x t).2=false then boE 6
 else match x.sess.findIdx? (fun s=>sameSk (sessK s) (keyT (hostV x t).1 t)) with
  | none=>beginV p x (hostV x t).1 t now
  | some i=>⟨⟨x.binds,setN x.sess i (nextS p t now)⟩,(x.binds.find? (ofIn (hostV x t).1.proto (hostV x t).1.addr (hostV x t).1.port)).getD bdZ,0⟩
theorem baT_ext {a b:ByteArray} (h:a.toList=b.toList):a=b:=by
 rw [ByteArray.toList_eq,ByteArray.toList_eq] at h;apply ByteArray.ext;exact Array.toList_inj.1 h
theorem sameEn_same (q p:En):sameEn q p=true↔q=p:=by
 rw [sameEn_eq];simp only [Bool.and_eq_true,decide_eq_true_iff];constructor
 ·rintro ⟨⟨h1,h2⟩,h3⟩;have h4:=baT_ext h2
  cases q; cases p; simp_all
 ·rintro rfl; simp
theorem ofIn_host {h:En} {c:Bd}:ofIn h.proto h.addr h.port c=true↔hostE c=h:=by
 rw [← host_in]; exact sameEn_same _ _
theorem withP_key {c:Bd} {h:En} (hc:hostE c=h) (t:Tc) (s:Ss):withP c t.peer t.peerPort s=sameSk (sessK s) (keyT h t):=by
 unfold withP sameSk keyT;rw [← sess_has,hc];show _=(sameEn (sessE s) h&&((s.peer.toList==t.peer.toList)&&(s.peerPort==t.peerPort)));rw [Bool.eq_iff_iff]; simp [and_assoc]
theorem withA_met {c:Bd} {h:En} (hc:hostE c=h) (peer:ByteArray) (s:Ss):withA c peer s=metB h peer s:=by
 unfold withA metB; rw [← sess_has,hc]
theorem book_sess {p:Pl} {x:Bb} (hok:bookOk p x=true) {s:Ss} (hs:s∈x.sess):x.binds.any (ofIn s.proto s.inn s.inPort)=true:=by
 unfold bookOk at hok;simp only [Bool.and_eq_true] at hok;obtain ⟨i,hi,rfl⟩:=List.getElem_of_mem hs;have:=upN_iff.1 hok.2 i hi;unfold sessB at this;simp only [Bool.and_eq_true] at this;exact this.1.1
theorem book_one {p:Pl} {x:Bb} (hok:bookOk p x=true) {c d:Bd} (hc:c∈x.binds) (hd:d∈x.binds) (he:hostE c=hostE d):c=d:=by
 unfold bookOk at hok;simp only [Bool.and_eq_true] at hok;have hF:=upN_iff.1 hok.1.2;obtain ⟨i,hi,rfl⟩:=List.getElem_of_mem hc;obtain ⟨j,hj,rfl⟩:=List.getElem_of_mem hd;have key:∀ i j (hi:i < x.binds.length) (hj:j < x.binds.length),i < j→hostE x.binds[i]=hostE x.binds[j]→False:=by
  intro i j hi hj hij he;have h1:=hF j hj;unfold fitB at h1;simp only [Bool.and_eq_true,Bool.not_eq_true'] at h1;have h6:=h1.1.1.1.2;refine List.any_eq_false.1 h6 x.binds[i] (take_mem hi hij) ?_;exact (ofIn_host (h:=hostE x.binds[j])).2 he
 rcases Nat.lt_trichotomy i j with h | h | h
 ·exact (key i j hi hj h he).elim
 ·subst h; rfl
 ·exact (key j i hj hi h he.symm).elim
theorem book_find {p:Pl} {x:Bb} (hok:bookOk p x=true) {c:Bd} (hc:c∈x.binds) {h:En} (he:hostE c=h):x.binds.find? (ofIn h.proto h.addr h.port)=some c:=by
 cases hf:x.binds.find? (ofIn h.proto h.addr h.port) with
 | none =>
  have:=List.find?_eq_none.1 hf c hc;exact absurd (ofIn_host.2 he) this
 | some d =>
  have h1:=List.mem_of_find?_eq_some hf;have h2:=ofIn_host.1 (List.find?_some hf);rw [book_one hok h1 hc (h2.trans he.symm)]
theorem bindFor_host (p:Pl) (xs:List Bd) (h:En):hostE (bindForV p xs h).1=h:=by
 unfold bindForV;split
 ·rename_i hs
  cases hf:xs.find? (ofIn h.proto h.addr h.port) with
  | none=>rw [hf] at hs; simp at hs
  | some c=>exact ofIn_host.1 (List.find?_some hf)
 ·rfl
theorem findI_neg {α:Type} {f:α→Bool} {xs:List α}:findI f xs < 0↔(xs.find? f).isSome=false:=by
 rw [find_some_any,← findI_any]; simp
theorem grow_new (p:Pl) (xs:List Bd) (h:En):newB xs (bindForV p xs h).1=growB p xs h:=by
 have e:=bindFor_host p xs h;generalize hc:(bindForV p xs h).1=c at *;have e2:ofIn c.proto c.inn c.inPort=ofIn h.proto h.addr h.port:=by rw [← e]; rfl
 unfold newB growB;rw [e2,hc]
 cases hs:(xs.find? (ofIn h.proto h.addr h.port)).isSome with
 | true=>rw [if_neg (fun hh=>by rw [findI_neg,hs] at hh; exact absurd hh (by decide)),if_pos rfl]
 | false=>rw [if_pos (findI_neg.2 hs),if_neg (by decide)]
theorem sess_h (p:Pl) (t:Tc) (h:En) (c:Bd) (st now:Int) (he:hostE c=h) (hp:h.proto=t.proto):sessN p t c st now=sessH p t h st now:=by
 subst he;unfold sessN sessH;rw [hp]; rfl
theorem begin_in {p:Pl} {x:Bb} {t:Tc} (c:Bd) (now:Int) (hm:(x.sess.length:Int)≤p.most) (hin:t.inside=true):newV p x t c now=beginV p x ⟨t.proto,t.addr,t.port⟩ t now:=by
 unfold newV beginV;by_cases h0:trackNewV t.proto t.inside t.flags=0
 ·rw [if_pos h0,if_pos h0]
 have ha:¬ (!t.inside&&!admitV p x ⟨t.proto,t.addr,t.port⟩ t.peer)=true:=by rw [hin]; simp
 rw [if_neg h0,if_neg h0,if_neg ha];by_cases h1:(x.sess.length:Int)=p.most
 ·have h2:p.most≤(x.sess.length:Int):=by omega
  rw [if_pos h1,if_pos h2]
 have h2:¬ p.most≤(x.sess.length:Int):=by omega
 rw [if_neg h1,if_neg h2];clear h2;have hl:=bindFor_lend p x.binds ⟨t.proto,t.addr,t.port⟩;dsimp only at hl;rw [hin,if_pos rfl,hl]
 cases h2:(bindForV p x.binds ⟨t.proto,t.addr,t.port⟩).2 with
 | false=>simp [boE]
 | true =>
  simp only [if_true,ne_eq,not_true_eq_false,if_false,Bool.true_eq_false];rw [grow_new,sess_h p t ⟨t.proto,t.addr,t.port⟩ _ _ now (bindFor_host _ _ _) rfl]
theorem begin_out {p:Pl} {x:Bb} {t:Tc} {c:Bd} {now:Int} (hok:bookOk p x=true) (hfl:p.filter=0∨p.filter=1∨p.filter=2) (hm:(x.sess.length:Int)≤p.most) (hin:t.inside=false) (hc:c∈x.binds) (hp:c.proto=t.proto):(if goneB p x t c=true then boE 6 else newV p x t c now)=beginV p x (hostE c) t now:=by
 have hf:=book_find hok hc (h:=hostE c) rfl;have hb:bindForV p x.binds (hostE c)=(c,true):=by unfold bindForV; rw [hf]; rfl
 have hg:goneB p x t c=(!t.inside&&!admitV p x (hostE c) t.peer):=by
  unfold goneB admitV;rw [show withA c t.peer=metB (hostE c) t.peer from funext fun s=>withA_met rfl _ s];rcases hfl with h | h | h<;>rw [h]<;>simp
 rw [hg];unfold newV beginV
 cases hd:(!t.inside&&!admitV p x (hostE c) t.peer) with
 | true=>simp
 | false =>
  simp only [Bool.false_eq_true,if_false];by_cases h0:trackNewV t.proto t.inside t.flags=0
  ·rw [if_pos h0,if_pos h0]
  rw [if_neg h0,if_neg h0];by_cases h1:(x.sess.length:Int)=p.most
  ·have h2:p.most≤(x.sess.length:Int):=by omega
   rw [if_pos h1,if_pos h2]
  have h2:¬ p.most≤(x.sess.length:Int):=by omega
  rw [if_neg h1,if_neg h2,hb,hin];simp only [Bool.false_eq_true,if_false,ne_eq,not_true_eq_false,Bool.true_eq_false];rw [show newB x.binds c=growB p x.binds (hostE c) from by rw [← grow_new,hb],sess_h p t (hostE c) c _ now rfl hp]
theorem pool_filter {p:Pl} (h:poolOk p=true):p.filter=0∨p.filter=1∨p.filter=2:=by
 unfold poolOk at h; simp only [Bool.and_eq_true] at h;have:=isIn_parts h.1.1.2;omega
theorem go_same {p:Pl} {x:Bb} {t:Tc} {now:Int} (hok:bookOk p x=true):goI p x t now=goV p x t now:=by
 have hk:=hok;unfold bookOk at hk;simp only [Bool.and_eq_true,decide_eq_true_iff] at hk;have hpo:=hk.1.1.1.1;have hm:=hk.1.1.1.2;clear hk;unfold goI goV hostV
 cases hin:t.inside with
 | true =>
  simp only [if_true,Bool.true_eq_false,if_false]
  cases hf:x.binds.find? (ofIn t.proto t.addr t.port) with
  | none =>
   have hn:x.sess.findIdx? (fun s=>sameSk (sessK s) (keyT ⟨t.proto,t.addr,t.port⟩ t))=none:=by
    rw [List.findIdx?_eq_none_iff];intro s hs
    cases hh:sameSk (sessK s) (keyT ⟨t.proto,t.addr,t.port⟩ t) with
    | false=>rfl
    | true =>
     unfold sameSk at hh;simp only [Bool.and_eq_true] at hh;have h1:sessE s=⟨t.proto,t.addr,t.port⟩:=(sameEn_same _ _).1 hh.1;obtain ⟨d,hd,hq⟩:=List.any_eq_true.1 (book_sess hok hs);have h2:hostE d=sessE s:=(ofIn_host (h:=sessE s)).1 hq;exact absurd ((ofIn_host (h:=⟨t.proto,t.addr,t.port⟩)).2 (h2.trans h1)) (List.find?_eq_none.1 hf d hd)
   rw [hn];exact (begin_in bdZ now hm hin).symm
  | some c =>
   have hc:=List.mem_of_find?_eq_some hf;have he:hostE c=⟨t.proto,t.addr,t.port⟩:=(ofIn_host (h:=⟨t.proto,t.addr,t.port⟩)).1 (List.find?_some hf);dsimp only;rw [show withP c t.peer t.peerPort=fun s=>sameSk (sessK s) (keyT ⟨t.proto,t.addr,t.port⟩ t) from funext fun s=>withP_key he t s]
   cases x.sess.findIdx? (fun s=>sameSk (sessK s) (keyT ⟨t.proto,t.addr,t.port⟩ t)) with
   | none =>
    dsimp only;rw [if_neg (by unfold goneB; rw [hin]; simp)];exact (begin_in c now hm hin).symm
   | some i=>rfl
 | false =>
  simp only [Bool.false_eq_true,if_false]
  cases hf:x.binds.find? (ofOut t.proto t.addr t.port) with
  | none=>rfl
  | some c =>
   have hc:=List.mem_of_find?_eq_some hf;have hp:c.proto=t.proto:=by
    have:=List.find?_some hf;unfold ofOut at this;simp only [Bool.and_eq_true,decide_eq_true_iff] at this;exact this.1.1
   simp only [Option.isSome_some,Bool.true_eq_false,if_false,Option.getD_some];rw [show withP c t.peer t.peerPort=fun s=>sameSk (sessK s) (keyT (hostE c) t) from funext fun s=>withP_key rfl t s]
   cases x.sess.findIdx? (fun s=>sameSk (sessK s) (keyT (hostE c) t)) with
   | none=>exact (begin_out hok (pool_filter hpo) hm hin hc hp).symm
   | some i =>
    dsimp only;rw [book_find hok hc rfl]; rfl
theorem touch_same (p:Pl) (x:Bb) (t:Tc) (now:Int):(if (bookOk p x&&isTime now&&touchOk t)=true then goI p x t now else boE 1)=bibTouchV p x t now:=by
 unfold bibTouchV;rw [book_bib];by_cases h:(bibOk p x&&isTime now&&touchOk t)=true
 ·rw [if_pos h,if_pos h];refine go_same ?_;rw [book_bib];simp only [Bool.and_eq_true] at h;exact h.1.1
 ·rw [if_neg h,if_neg h]
end Go.Proofs.YtdkepkaflielhaaGreatDoor
