import Derived.Test.YtdkepkaflielhaaGreatDoorAb
import Derived.Test.YtdkepkaflielhaaGreatDoorMerged8
import Derived.Test.YtdkepkaflielhaaGreatDoorMerged12
import Derived.Test.YtdkepkaflielhaaGreatDoorMerged1
import Derived.Maps.AppendAt
import Derived.OwnWalk
import Derived.Test.YtdkepkaflielhaaGreatDoorMerged7
set_option linter.unusedVariables false
set_option linter.unusedSimpArgs false
set_option maxRecDepth 100000
set_option maxHeartbeats 8000000
namespace Go.Proofs.YtdkepkaflielhaaGreatDoor
open Go.RowKit
def metB (h:En) (peer:ByteArray) (s:Ss):Bool:=sameEn (sessE s) h&&decide (s.peer.toList=peer.toList)
def admitV (p:Pl) (x:Bb) (h:En) (peer:ByteArray):Bool:=if p.filter=0 then true else if p.filter=1 then x.sess.any (metB h peer) else false
def sessH (p:Pl) (t:Tc) (h:En) (st now:Int):Ss:=⟨h.proto,h.addr,h.port,t.peer,t.peerPort,st,now+trackLifeV p.lv t.proto st⟩
def growB (p:Pl) (xs:List Bd) (h:En):List Bd:=if (xs.find? (ofIn h.proto h.addr h.port)).isSome=true then xs else xs++[(bindForV p xs h).1]
def beginV (p:Pl) (x:Bb) (h:En) (t:Tc) (now:Int):Bo :=
 if trackNewV t.proto t.inside t.flags=0 then boE 6
 else if (!t.inside&&!admitV p x h t.peer)=true then boE 6
 else if (x.sess.length:Int)=p.most then boE 9
 else if (bindForV p x.binds h).2=false then boE 9
 else ⟨⟨growB p x.binds h,x.sess++[sessH p t h (trackNewV t.proto t.inside t.flags) now]⟩,(bindForV p x.binds h).1,0⟩
def hostV (x:Bb) (t:Tc):En × Bool:=if t.inside=true then (⟨t.proto,t.addr,t.port⟩,true) else (hostE ((x.binds.find? (ofOut t.proto t.addr t.port)).getD bdZ),(x.binds.find? (ofOut t.proto t.addr t.port)).isSome)
def keyT (h:En) (t:Tc):Sk:=⟨h,t.peer,t.peerPort⟩
def goI (p:Pl) (x:Bb) (t:Tc) (now:Int):Bo :=
 if (hostV x t).2=false then boE 6
 else match x.sess.findIdx? (fun s=>sameSk (sessK s) (keyT (hostV x t).1 t)) with
  | none=>beginV p x (hostV x t).1 t now
  | some i=>⟨⟨x.binds,setN x.sess i (nextS p t now)⟩,(x.binds.find? (ofIn (hostV x t).1.proto (hostV x t).1.addr (hostV x t).1.port)).getD bdZ,0⟩
theorem baT_ext {a b:ByteArray} (h:a.toList=b.toList):a=b:=by
 rw [ByteArray.toList_eq,ByteArray.toList_eq] at h;apply ByteArray.ext;exact Array.toList_inj.1 h
theorem sameEn_same (q p:En):sameEn q p=true↔q=p:=by
 rw [sameEn_eq];simp only [Bool.and_eq_true,decide_eq_true_iff];constructor
 ·rintro ⟨⟨h1,h2⟩,h3⟩;have h4:=baT_ext h2
  cases q; cases p; simp_all
 ·rintro rfl; simp
theorem ofIn_host {h:En} {c:Bd}:ofIn h.proto h.addr h.port c=true↔hostE c=h:=by
 rw [← host_in]; exact sameEn_same _ _
theorem withP_key {c:Bd} {h:En} (hc:hostE c=h) (t:Tc) (s:Ss):withP c t.peer t.peerPort s=sameSk (sessK s) (keyT h t):=by
 unfold withP sameSk keyT;rw [← sess_has,hc];show _=(sameEn (sessE s) h&&((s.peer.toList==t.peer.toList)&&(s.peerPort==t.peerPort)));rw [Bool.eq_iff_iff]; simp [and_assoc]
theorem withA_met {c:Bd} {h:En} (hc:hostE c=h) (peer:ByteArray) (s:Ss):withA c peer s=metB h peer s:=by
 unfold withA metB; rw [← sess_has,hc]
theorem book_sess {p:Pl} {x:Bb} (hok:bookOk p x=true) {s:Ss} (hs:s∈x.sess):x.binds.any (ofIn s.proto s.inn s.inPort)=true:=by
 unfold bookOk at hok;simp only [Bool.and_eq_true] at hok;obtain ⟨i,hi,rfl⟩:=List.getElem_of_mem hs;have:=upN_iff.1 hok.2 i hi;unfold sessB at this;simp only [Bool.and_eq_true] at this;exact this.1.1
theorem book_one {p:Pl} {x:Bb} (hok:bookOk p x=true) {c d:Bd} (hc:c∈x.binds) (hd:d∈x.binds) (he:hostE c=hostE d):c=d:=by
 unfold bookOk at hok;simp only [Bool.and_eq_true] at hok;have hF:=upN_iff.1 hok.1.2;obtain ⟨i,hi,rfl⟩:=List.getElem_of_mem hc;obtain ⟨j,hj,rfl⟩:=List.getElem_of_mem hd;have key:∀ i j (hi:i < x.binds.length) (hj:j < x.binds.length),i < j→hostE x.binds[i]=hostE x.binds[j]→False:=by
  intro i j hi hj hij he;have h1:=hF j hj;unfold fitB at h1;simp only [Bool.and_eq_true,Bool.not_eq_true'] at h1;have h6:=h1.1.1.1.2;refine List.any_eq_false.1 h6 x.binds[i] (take_mem hi hij) ?_;exact (ofIn_host (h:=hostE x.binds[j])).2 he
 rcases Nat.lt_trichotomy i j with h | h | h
 ·exact (key i j hi hj h he).elim
 ·subst h; rfl
 ·exact (key j i hj hi h he.symm).elim
theorem book_find {p:Pl} {x:Bb} (hok:bookOk p x=true) {c:Bd} (hc:c∈x.binds) {h:En} (he:hostE c=h):x.binds.find? (ofIn h.proto h.addr h.port)=some c:=by
 cases hf:x.binds.find? (ofIn h.proto h.addr h.port) with
 | none =>
  have:=List.find?_eq_none.1 hf c hc;exact absurd (ofIn_host.2 he) this
 | some d =>
  have h1:=List.mem_of_find?_eq_some hf;have h2:=ofIn_host.1 (List.find?_some hf);rw [book_one hok h1 hc (h2.trans he.symm)]
theorem bindFor_host (p:Pl) (xs:List Bd) (h:En):hostE (bindForV p xs h).1=h:=by
 unfold bindForV;split
 ·rename_i hs
  cases hf:xs.find? (ofIn h.proto h.addr h.port) with
  | none=>rw [hf] at hs; simp at hs
  | some c=>exact ofIn_host.1 (List.find?_some hf)
 ·rfl
theorem findI_neg {α:Type} {f:α→Bool} {xs:List α}:findI f xs < 0↔(xs.find? f).isSome=false:=by
 rw [find_some_any,← findI_any]; simp
theorem grow_new (p:Pl) (xs:List Bd) (h:En):newB xs (bindForV p xs h).1=growB p xs h:=by
 have e:=bindFor_host p xs h;generalize hc:(bindForV p xs h).1=c at *;have e2:ofIn c.proto c.inn c.inPort=ofIn h.proto h.addr h.port:=by rw [← e]; rfl
 unfold newB growB;rw [e2,hc]
 cases hs:(xs.find? (ofIn h.proto h.addr h.port)).isSome with
 | true=>rw [if_neg (fun hh=>by rw [findI_neg,hs] at hh; exact absurd hh (by decide)),if_pos rfl]
 | false=>rw [if_pos (findI_neg.2 hs),if_neg (by decide)]
theorem sess_h (p:Pl) (t:Tc) (h:En) (c:Bd) (st now:Int) (he:hostE c=h) (hp:h.proto=t.proto):sessN p t c st now=sessH p t h st now:=by
 subst he;unfold sessN sessH;rw [hp]; rfl
theorem begin_in {p:Pl} {x:Bb} {t:Tc} (c:Bd) (now:Int) (hm:(x.sess.length:Int)≤p.most) (hin:t.inside=true):newV p x t c now=beginV p x ⟨t.proto,t.addr,t.port⟩ t now:=by
 unfold newV beginV;by_cases h0:trackNewV t.proto t.inside t.flags=0
 ·rw [if_pos h0,if_pos h0]
 have ha:¬ (!t.inside&&!admitV p x ⟨t.proto,t.addr,t.port⟩ t.peer)=true:=by rw [hin]; simp
 rw [if_neg h0,if_neg h0,if_neg ha];by_cases h1:(x.sess.length:Int)=p.most
 ·have h2:p.most≤(x.sess.length:Int):=by omega
  rw [if_pos h1,if_pos h2]
 have h2:¬ p.most≤(x.sess.length:Int):=by omega
 rw [if_neg h1,if_neg h2];clear h2;have hl:=bindFor_lend p x.binds ⟨t.proto,t.addr,t.port⟩;dsimp only at hl;rw [hin,if_pos rfl,hl]
 cases h2:(bindForV p x.binds ⟨t.proto,t.addr,t.port⟩).2 with
 | false=>simp [boE]
 | true =>
  simp only [if_true,ne_eq,not_true_eq_false,if_false,Bool.true_eq_false];rw [grow_new,sess_h p t ⟨t.proto,t.addr,t.port⟩ _ _ now (bindFor_host _ _ _) rfl]
theorem begin_out {p:Pl} {x:Bb} {t:Tc} {c:Bd} {now:Int} (hok:bookOk p x=true) (hfl:p.filter=0∨p.filter=1∨p.filter=2) (hm:(x.sess.length:Int)≤p.most) (hin:t.inside=false) (hc:c∈x.binds) (hp:c.proto=t.proto):(if goneB p x t c=true then boE 6 else newV p x t c now)=beginV p x (hostE c) t now:=by
 have hf:=book_find hok hc (h:=hostE c) rfl;have hb:bindForV p x.binds (hostE c)=(c,true):=by unfold bindForV; rw [hf]; rfl
 have hg:goneB p x t c=(!t.inside&&!admitV p x (hostE c) t.peer):=by
  unfold goneB admitV;rw [show withA c t.peer=metB (hostE c) t.peer from funext fun s=>withA_met rfl _ s];rcases hfl with h | h | h<;>rw [h]<;>simp
 rw [hg];unfold newV beginV
 cases hd:(!t.inside&&!admitV p x (hostE c) t.peer) with
 | true=>simp
 | false =>
  simp only [Bool.false_eq_true,if_false];by_cases h0:trackNewV t.proto t.inside t.flags=0
  ·rw [if_pos h0,if_pos h0]
  rw [if_neg h0,if_neg h0];by_cases h1:(x.sess.length:Int)=p.most
  ·have h2:p.most≤(x.sess.length:Int):=by omega
   rw [if_pos h1,if_pos h2]
  have h2:¬ p.most≤(x.sess.length:Int):=by omega
  rw [if_neg h1,if_neg h2,hb,hin];simp only [Bool.false_eq_true,if_false,ne_eq,not_true_eq_false,Bool.true_eq_false];rw [show newB x.binds c=growB p x.binds (hostE c) from by rw [← grow_new,hb],sess_h p t (hostE c) c _ now rfl hp]
theorem pool_filter {p:Pl} (h:poolOk p=true):p.filter=0∨p.filter=1∨p.filter=2:=by
 unfold poolOk at h; simp only [Bool.and_eq_true] at h;have:=isIn_parts h.1.1.2;omega
theorem go_same {p:Pl} {x:Bb} {t:Tc} {now:Int} (hok:bookOk p x=true):goI p x t now=goV p x t now:=by
 have hk:=hok;unfold bookOk at hk;simp only [Bool.and_eq_true,decide_eq_true_iff] at hk;have hpo:=hk.1.1.1.1;have hm:=hk.1.1.1.2;clear hk;unfold goI goV hostV
 cases hin:t.inside with
 | true =>
  simp only [if_true,Bool.true_eq_false,if_false]
  cases hf:x.binds.find? (ofIn t.proto t.addr t.port) with
  | none =>
   have hn:x.sess.findIdx? (fun s=>sameSk (sessK s) (keyT ⟨t.proto,t.addr,t.port⟩ t))=none:=by
    rw [List.findIdx?_eq_none_iff];intro s hs
    cases hh:sameSk (sessK s) (keyT ⟨t.proto,t.addr,t.port⟩ t) with
    | false=>rfl
    | true =>
     unfold sameSk at hh;simp only [Bool.and_eq_true] at hh;have h1:sessE s=⟨t.proto,t.addr,t.port⟩:=(sameEn_same _ _).1 hh.1;obtain ⟨d,hd,hq⟩:=List.any_eq_true.1 (book_sess hok hs);have h2:hostE d=sessE s:=(ofIn_host (h:=sessE s)).1 hq;exact absurd ((ofIn_host (h:=⟨t.proto,t.addr,t.port⟩)).2 (h2.trans h1)) (List.find?_eq_none.1 hf d hd)
   rw [hn];exact (begin_in bdZ now hm hin).symm
  | some c =>
   have hc:=List.mem_of_find?_eq_some hf;have he:hostE c=⟨t.proto,t.addr,t.port⟩:=(ofIn_host (h:=⟨t.proto,t.addr,t.port⟩)).1 (List.find?_some hf);dsimp only;rw [show withP c t.peer t.peerPort=fun s=>sameSk (sessK s) (keyT ⟨t.proto,t.addr,t.port⟩ t) from funext fun s=>withP_key he t s]
   cases x.sess.findIdx? (fun s=>sameSk (sessK s) (keyT ⟨t.proto,t.addr,t.port⟩ t)) with
   | none =>
    dsimp only;rw [if_neg (by unfold goneB; rw [hin]; simp)];exact (begin_in c now hm hin).symm
   | some i=>rfl
 | false =>
  simp only [Bool.false_eq_true,if_false]
  cases hf:x.binds.find? (ofOut t.proto t.addr t.port) with
  | none=>rfl
  | some c =>
   have hc:=List.mem_of_find?_eq_some hf;have hp:c.proto=t.proto:=by
    have:=List.find?_some hf;unfold ofOut at this;simp only [Bool.and_eq_true,decide_eq_true_iff] at this;exact this.1.1
   simp only [Option.isSome_some,Bool.true_eq_false,if_false,Option.getD_some];rw [show withP c t.peer t.peerPort=fun s=>sameSk (sessK s) (keyT (hostE c) t) from funext fun s=>withP_key rfl t s]
   cases x.sess.findIdx? (fun s=>sameSk (sessK s) (keyT (hostE c) t)) with
   | none=>exact (begin_out hok (pool_filter hpo) hm hin hc hp).symm
   | some i =>
    dsimp only;rw [book_find hok hc rfl]; rfl
theorem touch_same (p:Pl) (x:Bb) (t:Tc) (now:Int):(if (bookOk p x&&isTime now&&touchOk t)=true then goI p x t now else boE 1)=bibTouchV p x t now:=by
 unfold bibTouchV;rw [book_bib];by_cases h:(bibOk p x&&isTime now&&touchOk t)=true
 ·rw [if_pos h,if_pos h];refine go_same ?_;rw [book_bib];simp only [Bool.and_eq_true] at h;exact h.1.1
 ·rw [if_neg h,if_neg h]
theorem wp_append_run {P:Program} {o:Oper} {a:Act} {w w':World} {v1 v2 v':Value} {K:Act→World→Prop} {Q:Exit→Act→World→Prop} (s x:Operand) (t:TypeId) (hop:o.op=Op.call { callee:=Callee.builtin Builtin.append,args:=#[s,x],argTypes:=#[t,t] })
  (hs:a.eval s=v1) (hx:a.eval x=v2) (hrun:(Builtin.append_ #[t,t] o.type #[v1,v2]).run P w=.ok v' w') (hK:K (a.put o.dst v') w'):Oper.wp P o a w K Q:=by
 unfold Oper.wp;simp [execOp,hop,resolve,invoke,builtin,hs,hx,hrun,Result.andThen];exact hK
theorem wpList_append_run {P:Program} {ops:Array Oper} {rest:List Oper} {o:Oper} {a:Act} {w w':World} {v1 v2 v':Value} {Q:Exit→Act→World→Prop} (hg:o.guard=none) (s x:Operand) (t:TypeId) (hop:o.op=Op.call { callee:=Callee.builtin Builtin.append,args:=#[s,x],argTypes:=#[t,t] })
  (hs:a.eval s=v1) (hx:a.eval x=v2) (hrun:(Builtin.append_ #[t,t] o.type #[v1,v2]).run P w=.ok v' w') (hK:wpList P ops Q rest (a.put o.dst v') w'):wpList P ops Q (o::rest) a w :=
 wpList_plain hg fun K hK'=>wp_append_run s x t hop hs hx hrun (hK' _ _ hK)
theorem own_stable {base n z:Nat} {e:TypeId} {v:Value} {xs:List Value} {w w':World} (h:w.ownsRow base e z v n xs) (hb:Below w.heap.size w w'):w'.ownsRow base e z v n xs:=h.kept (grown_of_below (r:=none) hb) (by cases v.ownBlock<;>simp)
open Go.PlainAid
theorem ownC_cell {w:World} {base n s X j:Nat} {e:TypeId} {v u:Value} {xs:List Value} (h:w.ownsRow base e s v n xs) (hne:v.ownBlock≠some X):(w.setCell ⟨X,j,none⟩ u).ownsRow base e s v n xs:=by
 obtain ⟨h1,h2⟩:=h;refine ⟨h1,?_⟩;rcases h2 with h2 | ⟨g,cap,cur,rfl,hg,hh,h3⟩
 ·exact .inl h2
 ·exact .inr ⟨g,cap,cur,rfl,hg,(Below.heap_setCell w _ u g (fun e=>hne (by simpa [Value.ownBlock] using e))).trans hh,h3⟩
theorem ownC_in {w:World} {base n s g:Nat} {e:TypeId} {v:Value} {xs:List Value} (h:w.ownsRow base e s v n xs) (hg:v.ownBlock=some g):base≤g∧g < w.heap.size:=by
 rcases h.2 with ⟨rfl,_⟩ | ⟨g',cap,cur,rfl,hb,hh,_⟩
 ·simp [Value.ownBlock] at hg
 ·simp [Value.ownBlock] at hg; subst hg; exact ⟨hb,(Array.getElem?_eq_some_iff.1 hh).1⟩
theorem ownC_ne {w:World} {base n s:Nat} {e:TypeId} {v:Value} {xs:List Value} (h:w.ownsRow base e s v n xs) {X:Nat} (hX:X < base):v.ownBlock≠some X:=fun e=>by have:=(ownC_in h e).1; omega
theorem bdL_one (q:Bd):∀ u∈bdL q,u.oneCell'=true:=fun u hu=>by simp [bdL] at hu; rcases hu with rfl | rfl | rfl | rfl | rfl<;>rfl
theorem ssL_one (q:Ss):∀ u∈ssL q,u.oneCell'=true:=fun u hu=>by simp [ssL] at hu; rcases hu with rfl | rfl | rfl | rfl | rfl | rfl | rfl<;>rfl
theorem add_at (g i:Nat):(⟨g,0,none⟩ : Addr).add i=⟨g,i,none⟩:=by cases i<;>simp [Addr.add]
structure TickSt (w:World) (cs:List Value) (bv sv:Value) (ys:List Bd) (zs:List Ss) (wx:World):Prop where
 x:HoldsL wx w.heap.size cs
 r:HoldsL wx (w.heap.size+1) [.slice none 0 0,.slice none 0 0]
 o:HoldsL wx (w.heap.size+1+1) [bv,sv]
 bo:wx.ownsRow (w.heap.size+1+1+1) 48 5 bv ys.length (flatS bdL ys)
 so:wx.ownsRow (w.heap.size+1+1+1) 59 7 sv zs.length (flatS ssL zs)
 b:Below w.heap.size w wx
 ne:∀ g,bv.ownBlock=some g→sv.ownBlock=some g→False
section
variable {w:World} {cs:List Value} {bv sv:Value} {ys:List Bd} {zs:List Ss} {wx wy:World}
theorem TickSt.kept (h:TickSt w cs bv sv ys zs wx) (hc:0 < cs.length) (hB:Below wx.heap.size wx wy):TickSt w cs bv sv ys zs wy :=
 ⟨h.x.kept hc hB,h.r.kept (by simp) hB,h.o.kept (by simp) hB,own_stable h.bo hB,own_stable h.so hB,h.b.trans (hB.mono h.b.size),h.ne⟩
theorem TickSt.drew (h:TickSt w cs bv sv ys zs wx):TickSt w cs bv sv ys zs wx.drew:=⟨h.x.drew,h.r.drew,h.o.drew,h.bo,h.so,h.b.drew,h.ne⟩
theorem below_grow {row:Option Nat} (hb:Below w.heap.size w wx) (hg:wx.grownBy wy row) (hr:∀ g,row=some g→w.heap.size≤g):Below w.heap.size w wy :=
 ⟨hg.os.trans hb.os,hg.tape.trans hb.tape,hg.output.trans hb.output,Nat.le_trans hb.size hg.size,fun k hk=>by
  rw [hg.block k (Nat.lt_of_lt_of_le hk hb.size) (fun e=>by have:=hr k e.symm; omega)]; exact hb.block k hk⟩
theorem TickSt.appS (h:TickSt w cs bv sv ys zs wx) (hc:0 < cs.length) (q:Ss) (g:Nat) (hg:HoldsL wx g (ssL q)) (hlen:zs.length≤1048576) :
  ∃ v6 w6,(Builtin.append_ #[29,29] 29 #[sv,.slice (some ⟨g,0,none⟩) 1 1]).run Tryz.prog wx=.ok v6 w6∧(∃ gg l c,v6=.slice (some ⟨gg,0,none⟩) l c)∧HoldsL w6 (w.heap.size+1+1) [bv,sv]∧TickSt w cs bv v6 ys (zs++[q]) (w6.setCell ⟨w.heap.size+1+1,1,none⟩ v6):=by
 obtain ⟨i0,hi,hz0,hz1,hz2⟩:=info_parts Tryz.infoSs;have hos:=h.o.lt (by simp);obtain ⟨v6,w6,hrun,h62,h63,h64,h65⟩:=run_append_own_at (P:=Tryz.prog) wx (w.heap.size+1+1+1) 29 29 59 i0 _ 7 _ Tryz.underlying29 hi hz0 hz1 hz2 rfl (by decide) sv _ _ h.so ⟨g,0,none⟩ 1 1 (ssL q) rfl (fun i u hu=>by rw [add_at]; exact hg.cell hu) (ssL_one q) (by unfold maxLen; omega) (by omega) (by omega);have hnr:∀ X,X < w.heap.size+1+1+1→some X≠sv.ownBlock:=fun X hX e=>ownC_ne h.so hX e.symm
 have n6:v6.ownBlock≠some (w.heap.size+1+1):=by
  rcases h65 with h7 | h7<;>rw [h7]
  ·exact ownC_ne h.so (by omega)
  ·intro e; injection e with e; omega
 have hO:=h.o.grown (by simp) h63 (hnr _ (by omega));have hne:∀ g,bv.ownBlock=some g→v6.ownBlock=some g→False:=by
  intro g e1 e2;rcases h65 with h7 | h7
  ·exact h.ne g e1 (h7 ▸ e2)
  ·rw [h7] at e2;injection e2 with e3
   have:=(ownC_in h.bo e1).2;omega
 have hold:=World.ownsRow.kept h.bo h63 (by
  by_cases e:bv.ownBlock=none
  ·exact .inl e
  ·refine .inr (fun e2=>?_);obtain ⟨k,hk⟩:=Option.ne_none_iff_exists'.1 e;exact h.ne k hk (e2 ▸ hk))
 refine ⟨v6,w6,hrun,?_,hO,(h.x.grown hc h63 (hnr _ (by omega))).setOther (by omega) v6,(h.r.grown (by simp) h63 (hnr _ (by omega))).setOther (by omega) v6,hO.set 1 v6,ownC_cell hold (ownC_ne h.bo (by omega)),ownC_cell (by rw [flatS_snoc,List.length_append]; exact h62) n6,(below_grow h.b h63 (fun k e=>by have:=(ownC_in h.so e).1; omega)).setCell (p:=⟨w.heap.size+1+1,1,none⟩) (by show w.heap.size≤w.heap.size+1+1; omega) v6,hne⟩;rcases h62.2 with ⟨_,h0⟩ | ⟨gg,c6,_,h6,_⟩
 ·simp at h0
 ·exact ⟨gg,_,c6,h6⟩
theorem TickSt.appB (h:TickSt w cs bv sv ys zs wx) (hc:0 < cs.length) (q:Bd) (g:Nat) (hg:HoldsL wx g (bdL q)) (hlen:ys.length≤1048576) :
  ∃ v6 w6,(Builtin.append_ #[28,28] 28 #[bv,.slice (some ⟨g,0,none⟩) 1 1]).run Tryz.prog wx=.ok v6 w6∧(∃ gg l c,v6=.slice (some ⟨gg,0,none⟩) l c)∧HoldsL w6 (w.heap.size+1+1) [bv,sv]∧TickSt w cs v6 sv (ys++[q]) zs (w6.setCell ⟨w.heap.size+1+1,0,none⟩ v6):=by
 obtain ⟨i0,hi,hz0,hz1,hz2⟩:=info_parts Tryz.infoBd;have hos:=h.o.lt (by simp);obtain ⟨v6,w6,hrun,h62,h63,h64,h65⟩:=run_append_own_at (P:=Tryz.prog) wx (w.heap.size+1+1+1) 28 28 48 i0 _ 5 _ Tryz.underlying28 hi hz0 hz1 hz2 rfl (by decide) bv _ _ h.bo ⟨g,0,none⟩ 1 1 (bdL q) rfl (fun i u hu=>by rw [add_at]; exact hg.cell hu) (bdL_one q) (by unfold maxLen; omega) (by omega) (by omega);have hnr:∀ X,X < w.heap.size+1+1+1→some X≠bv.ownBlock:=fun X hX e=>ownC_ne h.bo hX e.symm
 have n6:v6.ownBlock≠some (w.heap.size+1+1):=by
  rcases h65 with h7 | h7<;>rw [h7]
  ·exact ownC_ne h.bo (by omega)
  ·intro e; injection e with e; omega
 have hO:=h.o.grown (by simp) h63 (hnr _ (by omega));have hne:∀ g,v6.ownBlock=some g→sv.ownBlock=some g→False:=by
  intro g e1 e2;rcases h65 with h7 | h7
  ·exact h.ne g (h7 ▸ e1) e2
  ·rw [h7] at e1;injection e1 with e3
   have:=(ownC_in h.so e2).2;omega
 have hold:=World.ownsRow.kept h.so h63 (by
  by_cases e:sv.ownBlock=none
  ·exact .inl e
  ·refine .inr (fun e2=>?_);obtain ⟨k,hk⟩:=Option.ne_none_iff_exists'.1 e;exact h.ne k (e2 ▸ hk) hk)
 refine ⟨v6,w6,hrun,?_,hO,(h.x.grown hc h63 (hnr _ (by omega))).setOther (by omega) v6,(h.r.grown (by simp) h63 (hnr _ (by omega))).setOther (by omega) v6,hO.set 0 v6,ownC_cell (by rw [flatS_snoc,List.length_append]; exact h62) n6,ownC_cell hold (ownC_ne h.so (by omega)),(below_grow h.b h63 (fun k e=>by have:=(ownC_in h.bo e).1; omega)).setCell (p:=⟨w.heap.size+1+1,0,none⟩) (by show w.heap.size≤w.heap.size+1+1; omega) v6,hne⟩;rcases h62.2 with ⟨_,h0⟩ | ⟨gg,c6,_,h6,_⟩
 ·simp at h0
 ·exact ⟨gg,_,c6,h6⟩
end
def IsOneC (cs:List Value):Value→World→Prop:=fun v w=>∃ g,v=.slice (some ⟨g,0,none⟩) 1 1∧HoldsL w g cs
theorem stable_isOneC (cs:List Value) (hl:0 < cs.length):Stable (IsOneC cs):=fun v w w' ⟨g,h1,h2⟩ hb=>⟨g,h1,h2.kept hl hb⟩
structure RowsSt (w:World) (base O:Nat) (ks:List (Nat × List Value)) (bv sv:Value) (ys:List Bd) (zs:List Ss) (wx:World):Prop where
 o:HoldsL wx O [bv,sv]
 bo:wx.ownsRow base 48 5 bv ys.length (flatS bdL ys)
 so:wx.ownsRow base 59 7 sv zs.length (flatS ssL zs)
 ne:∀ g,bv.ownBlock=some g→sv.ownBlock=some g→False
 b:Below w.heap.size w wx
 k:∀ e∈ks,HoldsL wx e.1 e.2
 lo:w.heap.size≤O
 hi:O < base
 hb:base≤wx.heap.size
 kb:∀ e∈ks,e.1 < base∧e.1≠O∧0 < e.2.length
section
variable {w:World} {base O:Nat} {ks:List (Nat × List Value)} {bv sv:Value} {ys:List Bd} {zs:List Ss} {wx wy:World}
theorem RowsSt.at {a:Nat} {l:List Value} (h:RowsSt w base O ks bv sv ys zs wx) (hm:(a,l)∈ks):HoldsL wx a l:=h.k _ hm
theorem RowsSt.kept (h:RowsSt w base O ks bv sv ys zs wx) (hB:Below wx.heap.size wx wy):RowsSt w base O ks bv sv ys zs wy :=
 ⟨h.o.kept (by simp) hB,own_stable h.bo hB,own_stable h.so hB,h.ne,h.b.trans (hB.mono h.b.size),fun e he=>(h.k e he).kept (h.kb e he).2.2 hB,h.lo,h.hi,Nat.le_trans h.hb hB.size,h.kb⟩
theorem RowsSt.start {w:World} {O:Nat} {wx:World} (ks:List (Nat × List Value)) (ho:HoldsL wx O [.slice none 0 0,.slice none 0 0]) (hb:Below w.heap.size w wx) (hk:∀ e∈ks,HoldsL wx e.1 e.2) (hl:w.heap.size≤O) (hkb:∀ e∈ks,e.1 < wx.heap.size∧e.1≠O∧0 < e.2.length):RowsSt w wx.heap.size O ks (.slice none 0 0) (.slice none 0 0) [] [] wx :=
 ⟨ho,⟨by simp [flatS],.inl ⟨rfl,rfl⟩⟩,⟨by simp [flatS],.inl ⟨rfl,rfl⟩⟩,fun g e=>by simp [Value.ownBlock] at e,hb,hk,hl,ho.lt (by simp),Nat.le_refl _,hkb⟩
theorem RowsSt.appS (h:RowsSt w base O ks bv sv ys zs wx) (q:Ss) (g:Nat) (hg:HoldsL wx g (ssL q)) (hlen:zs.length≤1048576) :
  ∃ v6 w6,(Builtin.append_ #[29,29] 29 #[sv,.slice (some ⟨g,0,none⟩) 1 1]).run Tryz.prog wx=.ok v6 w6∧(∃ gg l c,v6=.slice (some ⟨gg,0,none⟩) l c)∧HoldsL w6 O [bv,sv]∧RowsSt w base O ks bv v6 ys (zs++[q]) (w6.setCell ⟨O,1,none⟩ v6):=by
 obtain ⟨i0,hi,hz0,hz1,hz2⟩:=info_parts Tryz.infoSs;have hOb:=h.hi;have hlo:=h.lo;have hbb:=h.hb;obtain ⟨v6,w6,hrun,h62,h63,h64,h65⟩:=run_append_own_at (P:=Tryz.prog) wx base 29 29 59 i0 _ 7 _ Tryz.underlying29 hi hz0 hz1 hz2 rfl (by decide) sv _ _ h.so ⟨g,0,none⟩ 1 1 (ssL q) rfl (fun i u hu=>by rw [add_at]; exact hg.cell hu) (ssL_one q) (by unfold maxLen; omega) (by omega) h.hb;have hnr:∀ X,X < base→some X≠sv.ownBlock:=fun X hX e=>ownC_ne h.so hX e.symm
 have n6:v6.ownBlock≠some O:=by
  rcases h65 with h7 | h7<;>rw [h7]
  ·exact ownC_ne h.so (by omega)
  ·intro e; injection e with e; omega
 have hO:=h.o.grown (by simp) h63 (hnr _ (by omega));have hne:∀ g,bv.ownBlock=some g→v6.ownBlock=some g→False:=by
  intro g e1 e2;rcases h65 with h7 | h7
  ·exact h.ne g e1 (h7 ▸ e2)
  ·rw [h7] at e2;injection e2 with e3
   have:=(ownC_in h.bo e1).2;omega
 have hold:=World.ownsRow.kept h.bo h63 (by
  by_cases e:bv.ownBlock=none
  ·exact .inl e
  ·refine .inr (fun e2=>?_);obtain ⟨k,hk⟩:=Option.ne_none_iff_exists'.1 e;exact h.ne k hk (e2 ▸ hk))
 have hsz:base≤(w6.setCell ⟨O,1,none⟩ v6).heap.size:=by simp; exact Nat.le_trans h.hb h63.size
 refine ⟨v6,w6,hrun,?_,hO,hO.set 1 v6,ownC_cell hold (ownC_ne h.bo (by omega)),ownC_cell (by rw [flatS_snoc,List.length_append]; exact h62) n6,hne,(below_grow h.b h63 (fun k e=>by have:=(ownC_in h.so e).1; omega)).setCell (p:=⟨O,1,none⟩) hlo v6,fun e he=>((h.k e he).grown (h.kb e he).2.2 h63 (hnr _ (h.kb e he).1)).setOther (h.kb e he).2.1 v6,h.lo,h.hi,hsz,h.kb⟩;rcases h62.2 with ⟨_,h0⟩ | ⟨gg,c6,_,h6,_⟩
 ·simp at h0
 ·exact ⟨gg,_,c6,h6⟩
theorem RowsSt.appB (h:RowsSt w base O ks bv sv ys zs wx) (q:Bd) (g:Nat) (hg:HoldsL wx g (bdL q)) (hlen:ys.length≤1048576) :
  ∃ v6 w6,(Builtin.append_ #[28,28] 28 #[bv,.slice (some ⟨g,0,none⟩) 1 1]).run Tryz.prog wx=.ok v6 w6∧(∃ gg l c,v6=.slice (some ⟨gg,0,none⟩) l c)∧HoldsL w6 O [bv,sv]∧RowsSt w base O ks v6 sv (ys++[q]) zs (w6.setCell ⟨O,0,none⟩ v6):=by
 obtain ⟨i0,hi,hz0,hz1,hz2⟩:=info_parts Tryz.infoBd;have hOb:=h.hi;have hlo:=h.lo;have hbb:=h.hb;obtain ⟨v6,w6,hrun,h62,h63,h64,h65⟩:=run_append_own_at (P:=Tryz.prog) wx base 28 28 48 i0 _ 5 _ Tryz.underlying28 hi hz0 hz1 hz2 rfl (by decide) bv _ _ h.bo ⟨g,0,none⟩ 1 1 (bdL q) rfl (fun i u hu=>by rw [add_at]; exact hg.cell hu) (bdL_one q) (by unfold maxLen; omega) (by omega) h.hb;have hnr:∀ X,X < base→some X≠bv.ownBlock:=fun X hX e=>ownC_ne h.bo hX e.symm
 have n6:v6.ownBlock≠some O:=by
  rcases h65 with h7 | h7<;>rw [h7]
  ·exact ownC_ne h.bo (by omega)
  ·intro e; injection e with e; omega
 have hO:=h.o.grown (by simp) h63 (hnr _ (by omega));have hne:∀ g,v6.ownBlock=some g→sv.ownBlock=some g→False:=by
  intro g e1 e2;rcases h65 with h7 | h7
  ·exact h.ne g (h7 ▸ e1) e2
  ·rw [h7] at e1;injection e1 with e3
   have:=(ownC_in h.so e2).2;omega
 have hold:=World.ownsRow.kept h.so h63 (by
  by_cases e:sv.ownBlock=none
  ·exact .inl e
  ·refine .inr (fun e2=>?_);obtain ⟨k,hk⟩:=Option.ne_none_iff_exists'.1 e;exact h.ne k (e2 ▸ hk) hk)
 have hsz:base≤(w6.setCell ⟨O,0,none⟩ v6).heap.size:=by simp; exact Nat.le_trans h.hb h63.size
 refine ⟨v6,w6,hrun,?_,hO,hO.set 0 v6,ownC_cell (by rw [flatS_snoc,List.length_append]; exact h62) n6,ownC_cell hold (ownC_ne h.so (by omega)),hne,(below_grow h.b h63 (fun k e=>by have:=(ownC_in h.bo e).1; omega)).setCell (p:=⟨O,0,none⟩) hlo v6,fun e he=>((h.k e he).grown (h.kb e he).2.2 h63 (hnr _ (h.kb e he).1)).setOther (h.kb e he).2.1 v6,h.lo,h.hi,hsz,h.kb⟩;rcases h62.2 with ⟨_,h0⟩ | ⟨gg,c6,_,h6,_⟩
 ·simp at h0
 ·exact ⟨gg,_,c6,h6⟩
theorem RowsSt.shapes (h:RowsSt w base O ks bv sv ys zs wx):(∃ a cap,bv=.slice a ys.length cap∧ys.length≤cap∧SlOwn bdL 5 base wx a ys)∧∃ a cap,sv=.slice a zs.length cap∧zs.length≤cap∧SlOwn ssL 7 base wx a zs :=
 ⟨Row.shape bdL_length (w0:=wx) ⟨h.bo,Below.refl _ _⟩,Row.shape ssL_length (w0:=wx) ⟨h.so,Below.refl _ _⟩⟩
end
end Go.Proofs.YtdkepkaflielhaaGreatDoor
