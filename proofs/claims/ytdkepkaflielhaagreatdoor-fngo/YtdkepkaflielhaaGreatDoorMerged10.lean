import Derived.Test.YtdkepkaflielhaaGreatDoorMerged9
set_option linter.unusedVariables false
set_option linter.unusedSimpArgs false
set_option maxRecDepth 100000
set_option maxHeartbeats 8000000
/- GrowW: as GrowV, for regions whose last two operations wait for one another, the first of them for all the others but one, which may be late: the last one waits for it. -/
namespace Go.Proofs.YtdkepkaflielhaaGreatDoor
open Go.RowKit Go.ChangeShapes
set_option linter.unusedVariables false
set_option linter.unusedSimpArgs false

section
variable {P:Program} {ops:Array Oper} {Q:Exit → Act → World → Prop} {ds:List Tmp} {R:Nat → Value → World → Prop} {a0:Act} {w0:World} {f:Nat} {fo s0 s1:Oper}

structure zC(ops:Array Oper)(ds:List Tmp)(n f:Nat):Prop where
 le:ops.size = ds.length + 2
 fl:f < ds.length
 dst:∀i o,i < ds.length → ops[i]? = some o → o.dst = some (ds.getD i 0)
 nodup:ds.Nodup
 fits:∀d ∈ ds,d < n
 topo:∀i o,ops[i]? = some o → ∀e ∈ o.after,Region.binds .any e = true → e.on < i
 nof:∀i o,i ≤ ds.length → ops[i]? = some o → ∀e ∈ o.after,Region.binds .any e = true → e.on ≠ f
 sguard:∀i o,(ds.length ≤ i ∨ i = f) → ops[i]? = some o → o.guard = none
 all0:∀o,ops[ds.length]? = some o → ∀j,j < ds.length → j ≠ f → ∃e ∈ o.after,Region.binds .any e = true ∧ e.on = j
 all1:∀o,ops[ds.length + 1]? = some o → (∃e ∈ o.after,Region.binds .any e = true ∧ e.on = f) ∧ ∃e ∈ o.after,Region.binds .any e = true ∧ e.on = ds.length

def FX(ops:Array Oper)(ds:List Tmp)(n f:Nat):Bool :=
 decide (ops.size = ds.length + 2) && decide (f < ds.length) && (List.range ops.size).all (fun i=>match ops[i]? with
  | some o=>o.after.all (fun e=> !Region.binds .any e || decide (e.on < i)) && (if i < ds.length then (match o.dst with | some d=>d == ds.getD i 0 | none=>false) else true) && (if ds.length ≤ i ∨ i = f then o.guard.isNone else true) && (if i ≤ ds.length then o.after.all (fun e=> !Region.binds .any e || decide (e.on ≠ f)) else true)
  | none=>true) && decide ds.Nodup && ds.all (fun d=>decide (d < n)) &&
 (match ops[ds.length]? with | some o=>(List.range ds.length).all (fun j=>decide (j = f) || o.after.any (fun e=>Region.binds .any e && e.on == j)) | none=>true) &&
 (match ops[ds.length + 1]? with | some o=>o.after.any (fun e=>Region.binds .any e && e.on == f) && o.after.any (fun e=>Region.binds .any e && e.on == ds.length) | none=>true)
theorem zC.of{n:Nat}(h:FX ops ds n f = true):zC ops ds n f := by
 unfold FX at h
 simp only[TP,TU,List.all_eq_true,List.mem_range]at h
 obtain⟨⟨⟨⟨⟨⟨h1,h2⟩,h3⟩,h4⟩,h5⟩,h6⟩,h7⟩:= h
 have hb:∀i o,ops[i]? = some o → i < ops.size := fun i o ho=>(UI.1 ho).1
 have h3':∀i o,ops[i]? = some o → (o.after.all (fun e=> !Region.binds .any e || decide (e.on < i)) = true ∧ (if i < ds.length then (match o.dst with | some d=>d == ds.getD i 0 | none=>false) else true) = true ∧ (if ds.length ≤ i ∨ i = f then o.guard.isNone else true) = true ∧ (if i ≤ ds.length then o.after.all (fun e=> !Region.binds .any e || decide (e.on ≠ f)) else true) = true) := fun i o ho=>by
  have := h3 i (hb i o ho)
  rw[ho]at this
  simp only[TP]at this
  exact⟨this.1.1.1,this.1.1.2,this.1.2,this.2⟩
 refine⟨h1,h2,fun i o hi ho=> ?_,h4,h5,fun i o ho e he hbd=> ?_,fun i o hi ho e he hbd=> ?_,fun i o hi ho=> ?_,fun o ho j hj hjf=> ?_,fun o ho=> ?_⟩
 ·have t1 := (h3' i o ho).2.1
  rw[if_pos hi]at t1
  cases hd:o.dst with
  | none=>rw[hd]at t1;simp at t1
  | some d=>rw[hd]at t1;simp at t1;rw[t1];simp
 ·have := Array.all_eq_true_iff_forall_mem.1 (h3' i o ho).1 e he
  simp[hbd]at this
  exact this
 ·have t1 := (h3' i o ho).2.2.2
  rw[if_pos hi]at t1
  have := Array.all_eq_true_iff_forall_mem.1 t1 e he
  simp[hbd]at this
  exact this
 ·have t1 := (h3' i o ho).2.2.1
  rw[if_pos hi]at t1
  simpa using t1
 ·rw[ho]at h6
  simp only[List.all_eq_true,List.mem_range]at h6
  have := h6 j hj
  simp only[UK,TU]at this
  rcases this with this|this
  ·exact absurd this hjf
  ·obtain⟨e,he,hbd⟩:= Array.any_eq_true'.1 this
   simp only[TP,beq_iff_eq]at hbd
   exact⟨e,he,hbd.1,hbd.2⟩
 ·rw[ho]at h7
  simp only[TP]at h7
  obtain⟨e,he,hbd⟩:= Array.any_eq_true'.1 h7.1
  obtain⟨e2,he2,hbd2⟩:= Array.any_eq_true'.1 h7.2
  simp only[TP,beq_iff_eq]at hbd hbd2
  exact⟨⟨e,he,hbd.1,hbd.2⟩,⟨e2,he2,hbd2.1,hbd2.2⟩⟩

/-- All but those of us are listed,the first of which alone is ready:they go one behind the other. -/
theorem oT:∀(us:List Nat) (fuel:Nat) (listed:Array Bool) (a:Act) (w:World) (os:List Oper),listed.size = ops.size → us.length = os.length → us.length ≤ fuel → us.Nodup →
  (∀(k u:Nat) (o:Oper),us[k]? = some u → os[k]? = some o → ops[u]? = some o ∧ o.guard = none) →
  (∀j,j < ops.size → (listed.getD j false = false ↔ j ∈ us)) →
  (∀(k u:Nat) (o:Oper),us[k]? = some u → ops[u]? = some o → ∀e ∈ o.after,Region.binds .any e = true → e.on < ops.size ∧ e.on ∉ us.drop k) →
  (∀(k u:Nat) (o:Oper),us[k + 1]? = some u → ops[u]? = some o → ∃e ∈ o.after,Region.binds .any e = true ∧ ∃k',us[k]? = some k' ∧ e.on = k') →
  fO P Q os a w → wpAny P .any ops Q fuel listed a w
 | [],fuel,listed,a,w,os,hsz,hl,hf,hnd,ho,hu,hd,hw,hq=>by
  have:os = [] := List.length_eq_zero_iff.1 (by simpa using hl.symm)
  subst this
  refine wpAny_done ?_ hq fuel
  rw[List.eq_nil_iff_forall_not_mem]
  intro i hi
  rw[mem_ready]at hi
  obtain⟨h0,o,ho,_⟩:= hi
  have hio := (UI.1 ho).1
  have hs:i < listed.size := by omega
  have := (hu i hio).1 (by simpa[hs] using h0)
  simp at this
 | u :: us,0,listed,a,w,os,hsz,hl,hf,_,_,_,_,_,_=>by simp at hf
 | u :: us,fuel + 1,listed,a,w,os,hsz,hl,hf,hnd,ho,hu,hd,hw,hq=>by
  obtain⟨o,os',rfl⟩: ∃o os',os = o :: os' := by
   cases os with
   | nil=>simp at hl
   | cons o os' =>exact⟨o,os',rfl⟩
  obtain⟨hou,hog⟩:= ho 0 u o rfl rfl
  have huo:u < ops.size := (UI.1 hou).1
  have ft:∀j,j < ops.size → listed.getD j true = listed.getD j false := fun j hj=>by simp[show j < listed.size by omega]
  refine⟨fun hr=> ?_,fun i hi=> ?_⟩
  ·exfalso
   have hmem:u ∈ Region.ready .any ops listed := by
    rw[mem_ready]
    refine⟨by rw[ft u huo];exact(hu u huo).2 (by simp),o,hou,fun e he hb=> ?_⟩
    obtain⟨h1,h2⟩:= hd 0 u o rfl hou e he hb
    have:¬listed.getD e.on false = false := fun h=>h2 (by simpa using (hu _ h1).1 h)
    simpa using this
   rw[hr]at hmem
   simp at hmem
  ·rw[mem_ready]at hi
   obtain⟨h0,oi,hoi,hdeps⟩:= hi
   have hio := (UI.1 hoi).1
   have hin:i ∈ u :: us := (hu i hio).1 (by rw[←ft i hio];exact h0)
   have hiu:i = u := by
    obtain⟨k,hk⟩:= List.getElem?_of_mem hin
    cases k with
    | zero=>simp at hk;exact hk.symm
    | succ k=>
     exfalso
     obtain⟨e,he,hb,k',hk',hon⟩:= hw k i oi hk hoi
     have h1 := hdeps e he hb
     have h2:e.on ∈ u :: us := by rw[hon];exact List.mem_of_getElem? hk'
     have h3 := (hu e.on (hd (k + 1) i oi hk hoi e he hb).1).2 h2
     rw[h3]at h1;simp at h1
   subst hiu
   obtain rfl:o = oi := by rw[hou]at hoi;exact Option.some.inj hoi
   refine wpOp_step hou (fun K' hK=> ?_)
   rw[if_pos (by unfold Region.wanted;rw[hog])]
   refine hq K' (fun a' w' h' =>hK _ _ ?_)
   refine oT us fuel _ a' w' os' (by simp[hsz]) (by simpa using hl) (by simpa using hf) (List.nodup_cons.1 hnd).2 (fun k u' o' h1 h2=>ho (k + 1) u' o' (by simpa using h1) (by simpa using h2)) (fun j hj=> ?_) (fun k u' o' h1 h2 e he hb=>by have := hd (k + 1) u' o' (by simpa using h1) h2 e he hb;simpa using this) (fun k u' o' h1 h2=>by
    obtain⟨e,he,hb,k',hk',hon⟩:= hw (k + 1) u' o' (by simpa using h1) h2
    exact⟨e,he,hb,k',by simpa using hk',hon⟩) h'
   by_cases e:i = j
   ·subst e
    have hs:i < listed.size := by omega
    simp[hs]
    exact(List.nodup_cons.1 hnd).1
   ·rw[getD_set_ne false e,hu j hj]
    simp[Ne.symm e]

theorem EV(hF:zC ops ds a0.tmps.size f)(hof:ops[f]? = some fo)(h0:ops[ds.length]? = some s0)(h1:ops[ds.length + 1]? = some s1)(hst:∀i v w w',R i v w → Below w.heap.size w w' → R i v w')
  (hstep:∀i o,i < ds.length → ops[i]? = some o → fK P ops Q ds R a0 w0 i o)
  (hdone:∀a w,a.tmps.size = a0.tmps.size → a.defers = a0.defers → (∀t,t ∉ ds → aD a t = aD a0 t) → (∀i,i < ds.length → R i (aD a (ds.getD i 0)) w) → Below w0.heap.size w0 w → fO P Q [s0,s1] a w)
  (hlate:∀a w,a.tmps.size = a0.tmps.size → a.defers = a0.defers → (∀t,t ∉ ds → aD a t = aD a0 t) → (∀i,i < ds.length → i ≠ f → R i (aD a (ds.getD i 0)) w) → aD a (ds.getD f 0) = aD a0 (ds.getD f 0) → Below w0.heap.size w0 w → fO P Q [s0,fo,s1] a w) :
  ∀(fuel:Nat) (listed:Array Bool) (a:Act) (w:World),vF listed ops.size ≤ fuel → JG ops ds R a0 w0 listed a w → (∀j,j < ops.size → ds.length ≤ j → listed.getD j false = false) → (listed.getD f false = false → aD a (ds.getD f 0) = aD a0 (ds.getD f 0)) → wpAny P .any ops Q fuel listed a w := by
 have ft:∀(listed:Array Bool) (j:Nat),j < listed.size → (listed.getD j true = listed.getD j false) := fun listed j hj=>by simp[hj]
 have hle := hF.le
 have hfl := hF.fl
 have cnt:∀(listed:Array Bool) (us:List Nat),listed.size = ops.size → us.Nodup → (∀u ∈ us,u < ops.size ∧ listed.getD u false = false) → us.length ≤ vF listed ops.size := by
  intro listed us hsz hnd hu
  have key:∀n (us:List Nat),n ≤ ops.size → us.Nodup → (∀u ∈ us,u < n ∧ listed.getD u false = false) → us.length ≤ vF listed n := by
   intro n
   induction n with
   | zero=>intro us _ _ h;cases us with | nil=>simp | cons u us=>have := (h u (by simp)).1;omega
   | succ n ihn=>
    intro us hn hnd h
    unfold vF
    by_cases hm:n ∈ us
    ·have e1 := ihn (us.erase n) (by omega) (hnd.erase n) (fun u hu=>by
      have h2 := List.mem_of_mem_erase hu
      have h3:u ≠ n := fun e=>by subst e;exact(List.Nodup.not_mem_erase hnd) hu
      have := h u h2
      exact⟨by omega,this.2⟩)
     rw[List.length_erase_of_mem hm]at e1
     rw[if_neg (by rw[ft listed n (by omega),(h n hm).2];simp)]
     omega
    ·have e1 := ihn us (by omega) hnd (fun u hu=>by
      have := h u hu
      have h3:u ≠ n := fun e=>by subst e;exact hm hu
      exact⟨by omega,this.2⟩)
     split <;> omega
  exact key _ us lR hnd hu
 intro fuel
 induction fuel with
 | zero=>
  intro listed a w hu hI hs hlt
  exfalso
  have := cnt listed [ds.length] hI.size (by simp) (fun u hu=>by simp at hu;subst hu;exact⟨by omega,hs _ (by omega) lR⟩)
  simp at this;omega
 | succ fuel ih=>
  intro listed a w hu hI hs hlt
  have late:(∀j,j < ds.length → j ≠ f → listed.getD j false = true) → wpAny P .any ops Q (fuel + 1) listed a w ∨ listed.getD f false = false := fun hall=>by
   cases hff:listed.getD f false with
   | false=>exact .inr rfl
   | true=>
    refine .inl ?_
    refine oT [ds.length,ds.length + 1] (fuel + 1) listed a w [s0,s1] hI.size rfl ?_ (by simp) ?_ ?_ ?_ ?_ (hdone a w hI.tsize hI.defers hI.outer (fun j hj=>hI.inner j (if e:j = f then (by rw[e];exact hff) else hall j hj e)) hI.below)
    ·exact UA (cnt listed [ds.length,ds.length + 1] hI.size (by simp) (fun u hu=>by simp at hu;rcases hu with rfl|rfl <;> exact⟨by omega,hs _ (by omega) (by omega)⟩)) hu
    ·intro k u o hk ho
     match k,hk,ho with
     | 0,hk,ho=>simp at hk ho;subst hk ho;exact⟨h0,hF.sguard _ _ (.inl lR) h0⟩
     | 1,hk,ho=>simp at hk ho;subst hk ho;exact⟨h1,hF.sguard _ _ (.inl (by omega)) h1⟩
     | k + 2,hk,ho=>simp at hk
    ·intro j hj
     constructor
     ·intro h
      by_cases e:j < ds.length
      ·exfalso
       by_cases e2:j = f
       ·subst e2;rw[hff]at h;simp at h
       ·rw[hall j e e2]at h;simp at h
      ·simp;omega
     ·intro h;simp at h;exact hs j hj (by omega)
    ·intro k u o hk ho e he hb
     match k,hk with
     | 0,hk=>simp at hk;subst hk;have := hF.topo _ o ho e he hb;exact⟨by omega,by simp;omega⟩
     | 1,hk=>simp at hk;subst hk;have := hF.topo _ o ho e he hb;exact⟨by omega,by simp;omega⟩
     | k + 2,hk=>simp at hk
    ·intro k u o hk ho
     match k,hk with
     | 0,hk=>simp at hk;subst hk;obtain⟨_,e,he,hb,hon⟩:= hF.all1 o ho;exact⟨e,he,hb,ds.length,rfl,hon⟩
     | k + 1,hk=>simp at hk
  by_cases hall:∀j,j < ds.length → listed.getD j false = true
  ·rcases late (fun j hj _=>hall j hj) with h | h
   ·exact h
   ·rw[hall f hfl]at h;simp at h
  ·refine⟨fun hr=> ?_,fun i hi=> ?_⟩
   ·exfalso
    refine hall (fun i=> ?_)
    induction i using Nat.strongRecOn with
    | ind i ih2=>
     intro hil
     have hio:i < ops.size := by omega
     by_cases hh:listed.getD i true = true
     ·rw[ft listed i (by rw[hI.size];exact hio)]at hh;exact hh
     ·exfalso
      have hmem:i ∈ Region.ready .any ops listed := by
       rw[mem_ready]
       refine⟨by simpa using hh,ops[i],by simp[hio],fun e he hb=> ?_⟩
       have hlt := hF.topo i ops[i] (by simp[hio]) e he hb
       exact ih2 _ hlt (by omega)
      rw[hr]at hmem
      simp at hmem
   ·rw[mem_ready]at hi
    obtain⟨hi0,o,ho,hdeps⟩:= hi
    have hio:i < ops.size := (UI.1 ho).1
    by_cases hil:i < ds.length
    ·have hd := hF.dst i o hil ho
     have hmem:ds.getD i 0 ∈ ds := by rw[mZ hil];exact TY hil
     refine wpOp_step ho (fun K' hK=> ?_)
     refine hstep i o hil ho K' a w hI.outer (fun e he hb=>hI.inner _ (hdeps e he hb)) hI.below (fun v w' hR hB=>hK _ _ ?_)
     refine ih _ _ _ (by have := oS hi0 ops.size hio;omega) ⟨by simp[hI.size],?_,?_,fun t ht=> ?_,fun j hj=> ?_,hI.below.trans (hB.mono hI.below.size)⟩ (fun j hj hn=>by rw[getD_set_ne false (by omega)];exact hs j hj hn) ?_
     ·rw[hd];simp[Act.put,hI.tsize]
     ·rw[hd];simp[Act.put,hI.defers]
     ·rw[hd,eI (show ds.getD i 0 ≠ t from fun e=>ht (e ▸ hmem))];exact hI.outer t ht
     ·rw[hd]
      by_cases e:i = j
      ·subst e
       rw[jF (by rw[hI.tsize];exact hF.fits _ hmem)]
       exact hR
      ·rw[getD_set_ne false e]at hj
       have hjo:j < ops.size := by
        rw[←hI.size]
        rcases Nat.lt_or_ge j listed.size with h'|h'
        ·exact h'
        ·simp[Array.getElem?_eq_none h']at hj
       have hjl:j < ds.length := by
        by_cases e2:j < ds.length
        ·exact e2
        ·rw[hs j hjo (by omega)]at hj;simp at hj
       rw[eI (mR hF.nodup hil hjl e)]
       exact hst _ _ _ _ (hI.inner j hj) hB
     ·intro hff
      by_cases e:i = f
      ·subst e
       have hsz:i < listed.size := by rw[hI.size];exact hio
       simp[hsz]at hff
      ·rw[getD_set_ne false e]at hff
       rw[hd,eI (mR hF.nodup hil hfl e)]
       exact hlt hff
    ·have hin:i = ds.length := by
      by_cases e2:i = ds.length
      ·exact e2
      ·exfalso
       have e3:i = ds.length + 1 := by omega
       subst e3
       obtain⟨_,e,he,hb,hon⟩:= hF.all1 o ho
       have h2 := hdeps e he hb
       rw[hon,hs _ (by omega) lR]at h2
       simp at h2
     subst hin
     obtain rfl:s0 = o := by rw[ho]at h0;exact(Option.some.inj h0).symm
     have hoth:∀j,j < ds.length → j ≠ f → listed.getD j false = true := fun j hj hjf=>by
      obtain⟨e,he,hb,hon⟩:= hF.all0 s0 ho j hj hjf
      rw[←hon];exact hdeps e he hb
     have hff:listed.getD f false = false := by
      cases hff:listed.getD f false with
      | false=>rfl
      | true=>exact absurd (fun j hj=>if e:j = f then (by rw[e];exact hff) else hoth j hj e) hall
     have hq := hlate a w hI.tsize hI.defers hI.outer (fun j hj hjf=>hI.inner j (hoth j hj hjf)) (hlt hff) hI.below
     refine wpOp_step ho (fun K' hK=> ?_)
     rw[if_pos (by unfold Region.wanted;rw[hF.sguard _ _ (.inl lR) ho])]
     refine hq K' (fun a' w' h' =>hK _ _ ?_)
     have hls:∀j,j ≠ ds.length → (listed.setIfInBounds ds.length true).getD j false = listed.getD j false := fun j hj=>getD_set_ne false (Ne.symm hj)
     have hle2:ds.length < listed.size := by rw[hI.size];omega
     have hsd:(listed.setIfInBounds ds.length true).getD ds.length false = true := by simp[hle2]
     refine oT [f,ds.length + 1] fuel _ a' w' [fo,s1] (by simp[hI.size]) rfl ?_ (by simp;omega) ?_ ?_ ?_ ?_ h'
     ·have h3 := cnt listed [ds.length,f,ds.length + 1] hI.size (by simp;omega) (fun u hu=>by simp at hu;rcases hu with rfl | rfl | rfl <;> first | exact⟨by omega,hff⟩ | exact⟨by omega,hs _ (by omega) (by omega)⟩)
      simp at h3 ⊢;omega
     ·intro k u o hk ho'
      match k,hk,ho' with
      | 0,hk,ho' =>simp at hk ho';subst hk ho';exact⟨hof,hF.sguard _ _ (.inr rfl) hof⟩
      | 1,hk,ho' =>simp at hk ho';subst hk ho';exact⟨h1,hF.sguard _ _ (.inl (by omega)) h1⟩
      | k + 2,hk,ho' =>simp at hk
     ·intro j hj
      constructor
      ·intro h
       by_cases e0:j = ds.length
       ·subst e0;rw[hsd]at h;simp at h
       ·rw[hls j e0]at h
        by_cases e:j < ds.length
        ·by_cases e2:j = f
         ·simp[e2]
         ·exfalso;rw[hoth j e e2]at h;simp at h
        ·simp;omega
      ·intro h
       simp at h
       rcases h with h|h
       ·subst h;rw[hls _ (by omega)];exact hff
       ·rw[hls j (by omega)];exact hs j hj (by omega)
     ·intro k u o hk ho' e he hb
      match k,hk with
      | 0,hk=>simp at hk;subst hk;have := hF.topo _ o ho' e he hb;exact⟨by omega,by simp;omega⟩
      | 1,hk=>simp at hk;subst hk;have := hF.topo _ o ho' e he hb;exact⟨by omega,by simp;omega⟩
      | k + 2,hk=>simp at hk
     ·intro k u o hk ho'
      match k,hk with
      | 0,hk=>simp at hk;subst hk;obtain⟨⟨e,he,hb,hon⟩,_⟩:= hF.all1 o ho';exact⟨e,he,hb,f,rfl,hon⟩
      | k + 1,hk=>simp at hk

/-- The operations,one by one,each with what it yields;then the last two,the late one ahead of them or between them. -/
def kA(P:Program)(ops:Array Oper)(Q:Exit → Act → World → Prop)(ds:List Tmp)(a0:Act)(w0:World)(f:Nat)(fo s0 s1:Oper):List (Value → World → Prop) → List Oper → Prop
 | Rs,[] =>(∀(X:Nat → Value) w,eW X w 0 Rs → Below w0.heap.size w0 w → fO P Q [s0,s1] (aE X a0 0 ds) w) ∧ (∀(X:Nat → Value) w,eW X w 0 (Rs.set f (aF (aD a0 (ds.getD f 0)))) → Below w0.heap.size w0 w → fO P Q [s0,fo,s1] (aE X a0 0 ds) w)
 | Rs,o :: l=> ∃r,eZ r ∧ fK P ops Q ds (aS (Rs ++ [r])) a0 w0 Rs.length o ∧ kA P ops Q ds a0 w0 f fo s0 s1 (Rs ++ [r]) l

theorem kA.all:∀(l:List Oper) (Rs:List (Value → World → Prop)),(∀i o,l[i]? = some o → ∀e ∈ o.after,Region.binds .any e = true → e.on < Rs.length + i) → (∀r ∈ Rs,eZ r) → kA P ops Q ds a0 w0 f fo s0 s1 Rs l →
  ∃Ss,(Rs ++ Ss).length = Rs.length + l.length ∧ (∀r ∈ Rs ++ Ss,eZ r) ∧ (∀i o,l[i]? = some o → fK P ops Q ds (aS (Rs ++ Ss)) a0 w0 (Rs.length + i) o) ∧ kA P ops Q ds a0 w0 f fo s0 s1 (Rs ++ Ss) []
 | [],Rs,_,hst,h=>⟨[],by simp,by simpa using hst,fun i o ho=>by simp at ho,by rw[List.append_nil];exact h⟩
 | o :: l,Rs,ht,hst,⟨r,hr,hs,hc⟩ =>by
  obtain⟨Ss,h1,h2,h3,h4⟩:= kA.all l (Rs ++ [r]) (fun i o' ho e he hb=>by
   have := ht (i + 1) o' (by simpa using ho) e he hb
   simp;omega) (fun x hx=>by
   rcases List.mem_append.1 hx with hx|hx
   ·exact hst x hx
   ·simp at hx;subst hx;exact hr) hc
  refine⟨r :: Ss,by simp at h1 ⊢;omega,by simpa using h2,fun i o' ho=> ?_,by simpa using h4⟩
  have e:Rs ++ r :: Ss = Rs ++ [r] ++ Ss := by simp
  rw[e]
  cases i with
  | zero=>
   simp at ho
   subst ho
   refine fK.congr (ht 0 o rfl) (fun j hj=> ?_) hs
   exact(pV (by simp;omega)).symm
  | succ i=>
   have := h3 i o' (by simpa using ho)
   rwa [show (Rs ++ [r]).length + i = Rs.length + (i + 1) by simp;omega]at this

theorem oY{id:Nat}(ds:List Tmp)(f:Nat)(fo s0 s1:Oper)(hm:P.follows .mixedOrders = true)(hF:FX ops ds a0.tmps.size f = true)(hof:ops[f]? = some fo)(hs0:ops[ds.length]? = some s0)(hs1:ops[ds.length + 1]? = some s1)(h:kA P ops Q ds a0 w0.drew f fo s0 s1 [] (ops.toList.take ds.length)) :
  (Code.region id ops true).wp P Q a0 w0 := by
 have hG := zC.of hF
 have hle := hG.le
 obtain⟨Ss,h1,h2,h3,h4,h5⟩:= kA.all (ops.toList.take ds.length) [] (fun i o ho e he hb=>by
  have hi:i < ds.length := by
   by_cases e2:i < ds.length
   ·exact e2
   ·rw[List.getElem?_eq_none (by simp;omega)]at ho;simp at ho
  rw[List.getElem?_take,if_pos hi]at ho
  have := hG.topo i o (by simpa using ho) e he hb
  simpa using this) (fun r hr=>by simp at hr) h
 simp only[UB,List.length_nil,TX]at h1 h2 h3 h4 h5
 have jJ:Ss.length = ds.length := by rw[h1];simp;omega
 have hput:∀(a:Act),a.tmps.size = a0.tmps.size → a.defers = a0.defers → (∀t,t ∉ ds → aD a t = aD a0 t) → aE (fun i=>aD a (ds.getD i 0)) a0 0 ds = a := fun a g1 g2 g3=>oL ds a0 0 g1.symm g2.symm (fun i _=>by rw[TX]) (fun t ht=>(g3 t ht).symm) (fun d hd=>by rw[g1];exact hG.fits d hd)
 refine wp_region_any hm (EV (w0 := w0.drew) (R := aS Ss) hG hof hs0 hs1 (fun i v w w' h hb=> ?_) (fun i o hi ho=> ?_) (fun a w g1 g2 g3 g4 g5=> ?_) (fun a w g1 g2 g3 g4 g6 g5=> ?_) ops.size _ a0 w0.drew (rU _ _) ⟨by simp,rfl,rfl,fun _ _=>rfl,fun i hi=> ?_,Below.refl _ _⟩ (fun j hj _=>by simp[hj]) (fun _=>rfl))
 ·unfold aS at *
  by_cases hi:i < Ss.length
  ·have e:Ss.getD i (fun _ _=>True) = Ss[i] := by simp[hi]
   rw[e]at h ⊢
   exact h2 _ (TY hi) v w w' h hb
  ·have e:Ss.getD i (fun _ _=>True) = fun _ _=>True := by simp[Nat.le_of_not_lt hi]
   rw[e];trivial
 ·exact h3 i o (by rw[List.getElem?_take,if_pos hi];simpa using ho)
 ·rw[←hput a g1 g2 g3]
  exact h4 (fun i=>aD a (ds.getD i 0)) w (eW.mk Ss 0 (fun i hi=>by rw[TX];exact g4 i (by omega))) g5
 ·rw[←hput a g1 g2 g3]
  refine h5 (fun i=>aD a (ds.getD i 0)) w (eW.mk (Ss.set f (aF (aD a0 (ds.getD f 0)))) 0 (fun i hi=> ?_)) g5
  rw[TX]
  have hi':i < Ss.length := by simpa using hi
  unfold aS
  by_cases e:i = f
  ·subst e
   have e2:(Ss.set i (aF (aD a0 (ds.getD i 0)))).getD i (fun _ _=>True) = aF (aD a0 (ds.getD i 0)) := by simp[hi']
   rw[e2]
   exact g6
  ·have e2:(Ss.set f (aF (aD a0 (ds.getD f 0)))).getD i (fun _ _=>True) = Ss.getD i (fun _ _=>True) := by simp[List.getElem?_set_ne (Ne.symm e)]
   rw[e2]
   exact g4 i (by omega) e
 ·exfalso
  by_cases h:i < ops.size
  ·simp[h]at hi
  ·simp[h]at hi

theorem kA.val{Rs:List (Value → World → Prop)}{n:Nat}{o:Oper}{l:List Oper}(Rs':Value → List (Value → World → Prop))(hR:∀v,Rs' v = Rs ++ [aF v])(hn:Rs.length = n)(h:∃v,fK P ops Q ds (aS (Rs' v)) a0 w0 n o ∧ kA P ops Q ds a0 w0 f fo s0 s1 (Rs' v) l):kA P ops Q ds a0 w0 f fo s0 s1 Rs (o :: l) := by
 obtain⟨v,h1,h2⟩:= h
 rw[hR]at h1 h2
 subst hn
 exact⟨aF v,cC v,h1,h2⟩
theorem kA.rel{Rs:List (Value → World → Prop)}{n:Nat}{o:Oper}{l:List Oper}(r:Value → World → Prop)(hr:eZ r)(Rs':List (Value → World → Prop))(hR:Rs' = Rs ++ [r])(hn:Rs.length = n)(h1:fK P ops Q ds (aS Rs') a0 w0 n o)(h2:kA P ops Q ds a0 w0 f fo s0 s1 Rs' l):kA P ops Q ds a0 w0 f fo s0 s1 Rs (o :: l) := by
 subst hR hn
 exact⟨r,hr,h1,h2⟩
end
end Go.Proofs.YtdkepkaflielhaaGreatDoor
namespace Go.Proofs.YtdkepkaflielhaaGreatDoor
open Go.RowKit Go.PlainAid
theorem yJ(pa:OA)(pc:Nat)(p:Pl)(ba bo:OA)(ca cb:Nat)(x:Bb)(m1 m2:Nat)(port:Int)(w:World) :
  Cb 165 #[CF pa pc p ba bo ca cb x m1 m2,iV port] w (.bool (aM port p.low p.high)):=by
 have HZ:Hid (Below w.heap.size w (w.alloc (.cells (iF pa pc p ba ca bo cb x m1 m2).toArray 139))):=bR.alloc lR _;have HK:aA (w.alloc (.cells (iF pa pc p ba ca bo cb x m1 m2).toArray 139)) w.heap.size (iF pa pc p ba ca bo cb x m1 m2):=aA.new w (iF pa pc p ba ca bo cb x m1 m2) 139;have HV:Hid (aM port p.low p.high=(decide (p.low≤port)&&decide (port≤p.high))):=rfl;generalize aM port p.low p.high=ans at *;have hun:undef=Value.tuple #[]:=rfl;unfold CF;go_enter Tryz.func165,Tryz.ntmps165
 go_upto_region 1 with fail
 generalize (w.alloc (.cells (iF pa pc p ba ca bo cb x m1 m2).toArray 139))=W at *;obtain⟨-,k1,k2⟩:=HK.c3;clear HK;by_cases h1:p.low≤port
 case neg=>
  have HX:Hid (ans=false):=by unfold Hid;rw[HV.out,TR h1];rfl
  have d1:decide (p.low≤port)=false:=TR h1;go_wp2_with fail
  go_ret;exact⟨aB HX.out.symm,HZ.out⟩
 have d1:decide (p.low≤port)=true:=TT h1;have HX:Hid (ans=decide (port≤p.high)):=by unfold Hid;rw[HV.out,TT h1];rfl
 go_wp2_with fail
 go_ret;exact⟨aB HX.out.symm,HZ.out⟩
theorem LZ(pa:OA)(pc:Nat)(p:Pl)(ba bo:OA)(ca cb:Nat)(x:Bb)(m1 m2:Nat)(ys:List Bd)(q:Bd)(w:World)(hpl:p.VA.length≤1048576)(hbl1:x.VC.length≤1048576)(hbl2:x.UZ.length≤1048576)(hq:fJ q)(hbk:dF w m1 m2 ys ys)(hp:bP bX 1 w pa p.VA)(hx:dI w ba bo x) :
  Cb 133 #[CF pa pc p ba bo ca cb x m1 m2,jI q] w (.bool (lU p x ys q)):=by
 have HZ:Hid (Below w.heap.size w ((aW w (iF pa pc p ba ca bo cb x m1 m2) 139).alloc (.cells (dH q).toArray 48))):=(bR.alloc lR _).alloc (by simp) _;have HK:Hid (aA ((aW w (iF pa pc p ba ca bo cb x m1 m2) 139).alloc (.cells (dH q).toArray 48)) w.heap.size (iF pa pc p ba ca bo cb x m1 m2)):=(aA.new w (iF pa pc p ba ca bo cb x m1 m2) 139).alloc _;have HQ:Hid (aA ((aW w (iF pa pc p ba ca bo cb x m1 m2) 139).alloc (.cells (dH q).toArray 48)) (w.heap.size+1) (eG q)):=by
  have h:=aA.new (w.alloc (.cells (iF pa pc p ba ca bo cb x m1 m2).toArray 139)) (eG q) 48;rw[TQ]at h;exact h
 have HBK:Hid (dF w m1 m2 ys ys):=hbk;have HG:Hid (fJ q):=hq;have HV:Hid (lU p x ys q=(eP q.UU&&cI q.inn&&jS q.UW&&nL p.VA q.out&&aM q.UX p.low p.high&&!(ys.any (cD q.UU q.inn q.UW))&&!(ys.any (dE q.UU q.out q.UX))&&decide ((dQ x.VC ⟨#[]⟩ q.inn).toList=q.out.toList)&&x.UZ.any (gY q))):=rfl;have HH:Hid (∀W,Cb 53 #[.agg (dH q).toArray] W (.agg (iE q.UU q.inn q.UW).toArray)):=fun W=>nC q W
 have HL:Hid (∀W,Cb 48 #[.agg (dH q).toArray] W (.agg (iE q.UU q.out q.UX).toArray)):=fun W=>uG q W
 obtain⟨c1,hc1⟩: ∃c,c=(ys.find? fun c=>bU (bN c) (bN q)).getD lT:=⟨_,rfl⟩;obtain⟨c2,hc2⟩: ∃c,c=(ys.find? fun c=>bU (iY c) (iY q)).getD lT:=⟨_,rfl⟩;have HK1:Hid (∀W,Below w.heap.size w W→(Instr.lookup 137 (.map (some m1)) (.agg (iE q.UU q.inn q.UW).toArray) true).run Tryz.prog W=.ok (.tuple #[.agg (dH c1).toArray,.bool (ys.any (cD q.UU q.inn q.UW))]) W):=fun W hW=>by
  have h:=(hbk.kept hW).look1 (vS hq);rw[iU,←hc1,show (fun c=>bU (bN c) (bN q))=cD q.UU q.inn q.UW from funext fun c=>oI _ _ _ c]at h;exact h
 have HK2:Hid (∀W,Below w.heap.size w W→(Instr.lookup 137 (.map (some m2)) (.agg (iE q.UU q.out q.UX).toArray) true).run Tryz.prog W=.ok (.tuple #[.agg (dH c2).toArray,.bool (ys.any (dE q.UU q.out q.UX))]) W):=fun W hW=>by
  have h:=(hbk.kept hW).look2 (DG hq);rw[iU,←hc2,show (fun c=>bU (iY c) (iY q))=dE q.UU q.out q.UX from funext fun c=>sK _ _ _ c]at h;exact h
 have HO:Hid (∀W,Below w.heap.size w W→Cb 164 #[.slice ba x.VC.length ca,.string q.inn] W (.tuple #[.string (dQ x.VC ⟨#[]⟩ q.inn),.bool (x.VC.find? (cQ q.inn)).isSome])):=fun W hW=>yN q.inn x.VC ba ca W hbl1 (hx.bd.below hW)
 have HB:Hid (∀W,Cw 136 #[iV q.UU] W (.bool (eP q.UU))):=fun W=>uE _ W
 have HA:Hid (∀W,Cw 129 #[.string q.inn] W (.bool (cI q.inn))):=fun W=>kO q.inn W
 have HW:Hid (∀W,Cw 122 #[iV q.UW] W (.bool (jS q.UW))):=fun W=>dO _ W
 have HC:Hid (∀W,Below w.heap.size w W→Cb 96 #[.slice pa p.VA.length pc,.string q.out] W (.bool (nL p.VA q.out))):=fun W hW=>wS p.VA q.out pa pc W hpl (hp.below hW)
 have HN:Hid (∀W,Cb 165 #[.agg (iF pa pc p ba ca bo cb x m1 m2).toArray,iV q.UX] W (.bool (aM q.UX p.low p.high))):=fun W=>yJ pa pc p ba bo ca cb x m1 m2 q.UX W
 have HS:Hid (∀W,Below w.heap.size w W→Cb 166 #[.slice bo x.UZ.length cb,.agg (dH q).toArray] W (.bool (x.UZ.any (gY q)))):=fun W hW=>CV q x.UZ bo cb W hbl2 (hx.ss.below hW)
 generalize lU p x ys q=ans at *;generalize ys.any (cD q.UU q.inn q.UW)=bh at *;generalize ys.any (dE q.UU q.out q.UX)=bl at *;generalize dQ x.VC ⟨#[]⟩ q.inn=ot at *;generalize (x.VC.find? (cQ q.inn)).isSome=fs at *;generalize eP q.UU=t1 at *;generalize cI q.inn=t2 at *;generalize jS q.UW=t3 at *;generalize nL p.VA q.out=t4 at *;generalize aM q.UX p.low p.high=t5 at *;generalize x.UZ.any (gY q)=t9 at *;clear hc1 hc2 hbk hp hx hq;unfold CF jI;go_enter Tryz.func133,Tryz.ntmps133
 go_upto_region 1 with fail
 generalize World.alloc _ _=W at *;go_upto_region 1 with fail
 go_cut [6] (fun v wx=>v=.bool bh∧Below W.heap.size W wx)
 case first=>
  rename_i J K2 hJ hK2;have HCP:Hid (∀wy,Below W.drew.heap.size W.drew wy→aA wy w.heap.size (iF pa pc p ba ca bo cb x m1 m2)∧aA wy (w.heap.size+1) (eG q)∧Below w.heap.size w wy):=fun wy hy=>⟨HK.out.drew.kept (by simp) hy,HQ.out.drew.kept (by simp[eG]) hy,HZ.out.drew.trans (hy.mono HZ.out.size)⟩
  refine oY [12,13,14,15,16,11,17,18,5] 7 _ _ _ (by kernel_rfl) (by kernel_rfl) rfl rfl rfl ?_;refine kA.val (n:=0) (fun v=>[aF v]) (fun _=>rfl) rfl ?_;apply Exists.intro;refine And.intro ?_ ?_
  ·intro K' a wy ho hd hb hK;rw[wN rfl];have o2:=ho 2 (by decide);simp[aD]at o2;clear hd ho;go_simp;try go_bits
   exact hK _ _ rfl bR
  refine kA.val (n:=1) (fun v=>[_,aF v]) (fun _=>rfl) rfl ?_;apply Exists.intro;refine And.intro ?_ ?_
  ·intro K' a wy ho hd hb hK;rw[wN rfl];have q0:=hd ⟨0,.data⟩ (by simp) rfl;simp[aS,aF,aD]at q0;clear hd ho;obtain⟨hk,hq,hbw⟩:=HCP.out wy hb;obtain⟨k0,k1,k2,k3,k4,k5,k6,k7,k8,k9,k10,k11,k12,k13⟩:=hk.c14;obtain⟨c0,c1,c2,c3,c4⟩:=hq.c5;go_simp;try go_bits
   exact hK _ _ rfl bR
  refine kA.val (n:=2) (fun v=>[_,_,aF v]) (fun _=>rfl) rfl ?_;apply Exists.intro;refine And.intro ?_ ?_
  ·intro K' a wy ho hd hb hK;rw[wN rfl];have o3:=ho 3 (by decide);simp[aD]at o3;clear hd ho;obtain⟨hk,hq,hbw⟩:=HCP.out wy hb;obtain⟨k0,k1,k2,k3,k4,k5,k6,k7,k8,k9,k10,k11,k12,k13⟩:=hk.c14;obtain⟨c0,c1,c2,c3,c4⟩:=hq.c5;go_simp;try go_bits
   exact hK _ _ rfl bR
  refine kA.val (n:=3) (fun v=>[_,_,_,aF v]) (fun _=>rfl) rfl ?_;apply Exists.intro;refine And.intro ?_ ?_
  ·intro K' a wy ho hd hb hK;rw[wN rfl];have q2:=hd ⟨2,.data⟩ (by simp) rfl;simp[aS,aF,aD]at q2;clear hd ho;go_simp;refine(HH.out wy).mono ?_;rintro e wz ⟨rfl,hz⟩;exact hK _ _ rfl hz
  refine kA.val (n:=4) (fun v=>[_,_,_,_,aF v]) (fun _=>rfl) rfl ?_;apply Exists.intro;refine And.intro ?_ ?_
  ·intro K' a wy ho hd hb hK;rw[wN rfl];have q1:=hd ⟨1,.data⟩ (by simp) rfl;have q3:=hd ⟨3,.data⟩ (by simp) rfl;simp[aS,aF,aD]at q1 q3;clear hd ho;refine nH _ (.tmp 13) (.tmp 15) true rfl (by simp[Act.eval,aD,q1]) (by simp[Act.eval,aD,q3]) (HK1.out wy (HCP.out wy hb).2.2) (hK _ _ rfl bR)
  refine kA.val (n:=5) (fun v=>[_,_,_,_,_,aF v]) (fun _=>rfl) rfl ?_;apply Exists.intro;refine And.intro ?_ ?_
  ·intro K' a wy ho hd hb hK;rw[wN rfl];have q4:=hd ⟨4,.data⟩ (by simp) rfl;simp[aS,aF,aD]at q4;clear hd ho;go_simp;try go_bits
   exact hK _ _ rfl bR
  refine kA.val (n:=6) (fun v=>[_,_,_,_,_,_,aF v]) (fun _=>rfl) rfl ?_;apply Exists.intro;refine And.intro ?_ ?_
  ·intro K' a wy ho hd hb hK;rw[wN rfl];have q5:=hd ⟨5,.data⟩ (by simp) rfl;simp[aS,aF,aD]at q5;clear hd ho;go_simp;try go_bits
   exact hK _ _ rfl bR
  refine kA.val (n:=7) (fun v=>[_,_,_,_,_,_,_,aF v]) (fun _=>rfl) rfl ?_;apply Exists.intro;refine And.intro ?_ ?_
  ·intro K' a wy ho hd hb hK;rw[wN rfl];have q5:=hd ⟨5,.data⟩ (by simp) rfl;simp[aS,aF,aD]at q5;clear hd ho;go_simp;try go_bits
   exact hK _ _ rfl bR
  refine kA.rel (n:=8) (LG W.drew.heap.size) (uO _) [_,_,_,_,_,_,_,_,LG W.drew.heap.size] rfl rfl ?_ ?_
  ·intro K' a wy ho hd hb hK;rw[wN rfl];clear hd ho;go_simp;exact hK _ _ ⟨wy.heap.size,rfl,hb.size,aA.new wy (eG lT) 48⟩ (bR.alloc lR _)
  refine⟨?_,?_⟩
  ·intro X wz hR hz;obtain⟨x0,x1,x2,x3,x4,x5,x6,x7,x8,-⟩:=hR;obtain⟨g8,e8,b8,z8⟩:=x8;simp only[aF]at x0 x1 x2 x3 x4 x5 x6 x7;simp only[aE,x0,x1,x2,x3,x4,x5,x6,x7,e8];clear x0 x1 x2 x3 x4 x5 x6 x7;have z0:=z8.cell (j:=0) rfl;have zf0:=z8.free (j:=0) (by simp[eG]);have z1:=z8.cell (j:=1) rfl;have zf1:=z8.free (j:=1) (by simp[eG]);have z2:=z8.cell (j:=2) rfl;have zf2:=z8.free (j:=2) (by simp[eG]);have z3:=z8.cell (j:=3) rfl;have zf3:=z8.free (j:=3) (by simp[eG]);have z4:=z8.cell (j:=4) rfl;have zf4:=z8.free (j:=4) (by simp[eG]);have hz0:Below W.heap.size W wz:=bR.drew.trans hz;have b8':W.heap.size≤g8:=b8;have HB6:Hid (∀v0 v1 v2 v3 v4,Below W.heap.size W ((sW (sW (sW (sW wz g8 0 v0) g8 1 v1) g8 2 v2) g8 3 v3).setCell ⟨g8,4,none⟩ v4)):=fun v0 v1 v2 v3 v4=>((((hz0.setCell (p:=⟨g8,0,none⟩) b8' v0).setCell (p:=⟨g8,1,none⟩) b8' v1).setCell (p:=⟨g8,2,none⟩) b8' v2).setCell (p:=⟨g8,3,none⟩) b8' v3).setCell (p:=⟨g8,4,none⟩) b8' v4
   clear z8 b8 b8' hz hz0;intro K10 hK10;go_simp;refine hK10 _ _ ?_;intro K11 hK11;go_simp;refine hK11 _ _ ?_;show Exit.then _ _ _ _ _;refine hK2 _ _ (hJ _ _ ?_);(repeat apply Exists.intro)
   exact⟨⟨rfl,HB6.out _ _ _ _ _⟩,rfl⟩
  ·intro X wz hR hz;obtain⟨x0,x1,x2,x3,x4,x5,x6,x7,x8,-⟩:=hR;obtain⟨g8,e8,b8,z8⟩:=x8;simp only[aF]at x0 x1 x2 x3 x4 x5 x6 x7;simp[aD]at x7;simp only[aE,x0,x1,x2,x3,x4,x5,x6,x7,e8];clear x0 x1 x2 x3 x4 x5 x6 x7;have z0:=z8.cell (j:=0) rfl;have zf0:=z8.free (j:=0) (by simp[eG]);have z1:=z8.cell (j:=1) rfl;have zf1:=z8.free (j:=1) (by simp[eG]);have z2:=z8.cell (j:=2) rfl;have zf2:=z8.free (j:=2) (by simp[eG]);have z3:=z8.cell (j:=3) rfl;have zf3:=z8.free (j:=3) (by simp[eG]);have z4:=z8.cell (j:=4) rfl;have zf4:=z8.free (j:=4) (by simp[eG]);have hz0:Below W.heap.size W wz:=bR.drew.trans hz;have b8':W.heap.size≤g8:=b8;have HB6:Hid (∀v0 v1 v2 v3 v4,Below W.heap.size W ((sW (sW (sW (sW wz g8 0 v0) g8 1 v1) g8 2 v2) g8 3 v3).setCell ⟨g8,4,none⟩ v4)):=fun v0 v1 v2 v3 v4=>((((hz0.setCell (p:=⟨g8,0,none⟩) b8' v0).setCell (p:=⟨g8,1,none⟩) b8' v1).setCell (p:=⟨g8,2,none⟩) b8' v2).setCell (p:=⟨g8,3,none⟩) b8' v3).setCell (p:=⟨g8,4,none⟩) b8' v4
   clear z8 b8 b8' hz hz0;intro K10 hK10;go_simp;refine hK10 _ _ ?_;intro K11 hK11;go_simp;refine hK11 _ _ ?_;intro K12 hK12;go_simp;refine hK12 _ _ ?_;show Exit.then _ _ _ _ _;refine hK2 _ _ (hJ _ _ ?_);(repeat apply Exists.intro)
   exact⟨⟨rfl,HB6.out _ _ _ _ _⟩,rfl⟩
 case rest=>
 obtain⟨rfl,hbc⟩:=hcut;generalize wc=W1 at *;have HKn:Hid _:=HK.out.kept (by simp) hbc;have HQn:Hid _:=HQ.out.kept (by simp[eG]) hbc;have HZn:Hid _:=HZ.out.trans (hbc.mono HZ.out.size);clear HK HQ HZ hbc;have HK:Hid _:=HKn;have HQ:Hid _:=HQn;have HZ:Hid _:=HZn;clear HKn HQn HZn;go_upto_region 2 with fail
 go_cut [8] (fun v wx=>v=.bool bl∧Below W1.heap.size W1 wx)
 case first=>
  rename_i J K2 hJ hK2;have HCP:Hid (∀wy,Below W1.drew.heap.size W1.drew wy→aA wy w.heap.size (iF pa pc p ba ca bo cb x m1 m2)∧aA wy (w.heap.size+1) (eG q)∧Below w.heap.size w wy):=fun wy hy=>⟨HK.out.drew.kept (by simp) hy,HQ.out.drew.kept (by simp[eG]) hy,HZ.out.drew.trans (hy.mono HZ.out.size)⟩
  refine oY [20,21,22,23,24,19,25,26,7] 7 _ _ _ (by kernel_rfl) (by kernel_rfl) rfl rfl rfl ?_;refine kA.val (n:=0) (fun v=>[aF v]) (fun _=>rfl) rfl ?_;apply Exists.intro;refine And.intro ?_ ?_
  ·intro K' a wy ho hd hb hK;rw[wN rfl];have o2:=ho 2 (by decide);simp[aD]at o2;clear hd ho;go_simp;try go_bits
   exact hK _ _ rfl bR
  refine kA.val (n:=1) (fun v=>[_,aF v]) (fun _=>rfl) rfl ?_;apply Exists.intro;refine And.intro ?_ ?_
  ·intro K' a wy ho hd hb hK;rw[wN rfl];have q0:=hd ⟨0,.data⟩ (by simp) rfl;simp[aS,aF,aD]at q0;clear hd ho;obtain⟨hk,hq,hbw⟩:=HCP.out wy hb;obtain⟨k0,k1,k2,k3,k4,k5,k6,k7,k8,k9,k10,k11,k12,k13⟩:=hk.c14;obtain⟨c0,c1,c2,c3,c4⟩:=hq.c5;go_simp;try go_bits
   exact hK _ _ rfl bR
  refine kA.val (n:=2) (fun v=>[_,_,aF v]) (fun _=>rfl) rfl ?_;apply Exists.intro;refine And.intro ?_ ?_
  ·intro K' a wy ho hd hb hK;rw[wN rfl];have o3:=ho 3 (by decide);simp[aD]at o3;clear hd ho;obtain⟨hk,hq,hbw⟩:=HCP.out wy hb;obtain⟨k0,k1,k2,k3,k4,k5,k6,k7,k8,k9,k10,k11,k12,k13⟩:=hk.c14;obtain⟨c0,c1,c2,c3,c4⟩:=hq.c5;go_simp;try go_bits
   exact hK _ _ rfl bR
  refine kA.val (n:=3) (fun v=>[_,_,_,aF v]) (fun _=>rfl) rfl ?_;apply Exists.intro;refine And.intro ?_ ?_
  ·intro K' a wy ho hd hb hK;rw[wN rfl];have q2:=hd ⟨2,.data⟩ (by simp) rfl;simp[aS,aF,aD]at q2;clear hd ho;go_simp;refine(HL.out wy).mono ?_;rintro e wz ⟨rfl,hz⟩;exact hK _ _ rfl hz
  refine kA.val (n:=4) (fun v=>[_,_,_,_,aF v]) (fun _=>rfl) rfl ?_;apply Exists.intro;refine And.intro ?_ ?_
  ·intro K' a wy ho hd hb hK;rw[wN rfl];have q1:=hd ⟨1,.data⟩ (by simp) rfl;have q3:=hd ⟨3,.data⟩ (by simp) rfl;simp[aS,aF,aD]at q1 q3;clear hd ho;refine nH _ (.tmp 21) (.tmp 23) true rfl (by simp[Act.eval,aD,q1]) (by simp[Act.eval,aD,q3]) (HK2.out wy (HCP.out wy hb).2.2) (hK _ _ rfl bR)
  refine kA.val (n:=5) (fun v=>[_,_,_,_,_,aF v]) (fun _=>rfl) rfl ?_;apply Exists.intro;refine And.intro ?_ ?_
  ·intro K' a wy ho hd hb hK;rw[wN rfl];have q4:=hd ⟨4,.data⟩ (by simp) rfl;simp[aS,aF,aD]at q4;clear hd ho;go_simp;try go_bits
   exact hK _ _ rfl bR
  refine kA.val (n:=6) (fun v=>[_,_,_,_,_,_,aF v]) (fun _=>rfl) rfl ?_;apply Exists.intro;refine And.intro ?_ ?_
  ·intro K' a wy ho hd hb hK;rw[wN rfl];have q5:=hd ⟨5,.data⟩ (by simp) rfl;simp[aS,aF,aD]at q5;clear hd ho;go_simp;try go_bits
   exact hK _ _ rfl bR
  refine kA.val (n:=7) (fun v=>[_,_,_,_,_,_,_,aF v]) (fun _=>rfl) rfl ?_;apply Exists.intro;refine And.intro ?_ ?_
  ·intro K' a wy ho hd hb hK;rw[wN rfl];have q5:=hd ⟨5,.data⟩ (by simp) rfl;simp[aS,aF,aD]at q5;clear hd ho;go_simp;try go_bits
   exact hK _ _ rfl bR
  refine kA.rel (n:=8) (LG W1.drew.heap.size) (uO _) [_,_,_,_,_,_,_,_,LG W1.drew.heap.size] rfl rfl ?_ ?_
  ·intro K' a wy ho hd hb hK;rw[wN rfl];clear hd ho;go_simp;exact hK _ _ ⟨wy.heap.size,rfl,hb.size,aA.new wy (eG lT) 48⟩ (bR.alloc lR _)
  refine⟨?_,?_⟩
  ·intro X wz hR hz;obtain⟨x0,x1,x2,x3,x4,x5,x6,x7,x8,-⟩:=hR;obtain⟨g8,e8,b8,z8⟩:=x8;simp only[aF]at x0 x1 x2 x3 x4 x5 x6 x7;simp only[aE,x0,x1,x2,x3,x4,x5,x6,x7,e8];clear x0 x1 x2 x3 x4 x5 x6 x7;have z0:=z8.cell (j:=0) rfl;have zf0:=z8.free (j:=0) (by simp[eG]);have z1:=z8.cell (j:=1) rfl;have zf1:=z8.free (j:=1) (by simp[eG]);have z2:=z8.cell (j:=2) rfl;have zf2:=z8.free (j:=2) (by simp[eG]);have z3:=z8.cell (j:=3) rfl;have zf3:=z8.free (j:=3) (by simp[eG]);have z4:=z8.cell (j:=4) rfl;have zf4:=z8.free (j:=4) (by simp[eG]);have hz0:Below W1.heap.size W1 wz:=bR.drew.trans hz;have b8':W1.heap.size≤g8:=b8;have HB6:Hid (∀v0 v1 v2 v3 v4,Below W1.heap.size W1 ((sW (sW (sW (sW wz g8 0 v0) g8 1 v1) g8 2 v2) g8 3 v3).setCell ⟨g8,4,none⟩ v4)):=fun v0 v1 v2 v3 v4=>((((hz0.setCell (p:=⟨g8,0,none⟩) b8' v0).setCell (p:=⟨g8,1,none⟩) b8' v1).setCell (p:=⟨g8,2,none⟩) b8' v2).setCell (p:=⟨g8,3,none⟩) b8' v3).setCell (p:=⟨g8,4,none⟩) b8' v4
   clear z8 b8 b8' hz hz0;intro K10 hK10;go_simp;refine hK10 _ _ ?_;intro K11 hK11;go_simp;refine hK11 _ _ ?_;show Exit.then _ _ _ _ _;refine hK2 _ _ (hJ _ _ ?_);(repeat apply Exists.intro)
   exact⟨⟨rfl,HB6.out _ _ _ _ _⟩,rfl⟩
  ·intro X wz hR hz;obtain⟨x0,x1,x2,x3,x4,x5,x6,x7,x8,-⟩:=hR;obtain⟨g8,e8,b8,z8⟩:=x8;simp only[aF]at x0 x1 x2 x3 x4 x5 x6 x7;simp[aD]at x7;simp only[aE,x0,x1,x2,x3,x4,x5,x6,x7,e8];clear x0 x1 x2 x3 x4 x5 x6 x7;have z0:=z8.cell (j:=0) rfl;have zf0:=z8.free (j:=0) (by simp[eG]);have z1:=z8.cell (j:=1) rfl;have zf1:=z8.free (j:=1) (by simp[eG]);have z2:=z8.cell (j:=2) rfl;have zf2:=z8.free (j:=2) (by simp[eG]);have z3:=z8.cell (j:=3) rfl;have zf3:=z8.free (j:=3) (by simp[eG]);have z4:=z8.cell (j:=4) rfl;have zf4:=z8.free (j:=4) (by simp[eG]);have hz0:Below W1.heap.size W1 wz:=bR.drew.trans hz;have b8':W1.heap.size≤g8:=b8;have HB6:Hid (∀v0 v1 v2 v3 v4,Below W1.heap.size W1 ((sW (sW (sW (sW wz g8 0 v0) g8 1 v1) g8 2 v2) g8 3 v3).setCell ⟨g8,4,none⟩ v4)):=fun v0 v1 v2 v3 v4=>((((hz0.setCell (p:=⟨g8,0,none⟩) b8' v0).setCell (p:=⟨g8,1,none⟩) b8' v1).setCell (p:=⟨g8,2,none⟩) b8' v2).setCell (p:=⟨g8,3,none⟩) b8' v3).setCell (p:=⟨g8,4,none⟩) b8' v4
   clear z8 b8 b8' hz hz0;intro K10 hK10;go_simp;refine hK10 _ _ ?_;intro K11 hK11;go_simp;refine hK11 _ _ ?_;intro K12 hK12;go_simp;refine hK12 _ _ ?_;show Exit.then _ _ _ _ _;refine hK2 _ _ (hJ _ _ ?_);(repeat apply Exists.intro)
   exact⟨⟨rfl,HB6.out _ _ _ _ _⟩,rfl⟩
 case rest=>
 obtain⟨rfl,hbc⟩:=hcut;generalize wc=W2 at *;have HKn:Hid _:=HK.out.kept (by simp) hbc;have HQn:Hid _:=HQ.out.kept (by simp[eG]) hbc;have HZn:Hid _:=HZ.out.trans (hbc.mono HZ.out.size);clear HK HQ HZ hbc;have HK:Hid _:=HKn;have HQ:Hid _:=HQn;have HZ:Hid _:=HZn;clear HKn HQn HZn;have hun:undef=Value.tuple #[]:=rfl;obtain⟨k0,k1,k2,k3,k4,k5,k6,k7,k8,k9,k10,k11,k12,k13⟩:=HK.out.c14;obtain⟨c0,c1,c2,c3,c4⟩:=HQ.out.c5;go_wp2_with fail
 refine(HO.out _ HZ.out).mono ?_;rintro e W3 ⟨rfl,qq⟩;have HKn:Hid _:=HK.out.kept (by simp) qq;have HQn:Hid _:=HQ.out.kept (by simp[eG]) qq;have HZn:Hid _:=HZ.out.trans (qq.mono HZ.out.size);clear k0 k1 k2 k3 k4 k5 k6 k7 k8 k9 k10 k11 k12 k13 c0 c1 c2 c3 c4;clear HK HQ HZ qq;have HK:Hid _:=HKn;have HQ:Hid _:=HQn;have HZ:Hid _:=HZn;clear HKn HQn HZn;obtain⟨k0,k1,k2,k3,k4,k5,k6,k7,k8,k9,k10,k11,k12,k13⟩:=HK.out.c14;obtain⟨c0,c1,c2,c3,c4⟩:=HQ.out.c5;go_wp2_with fail
 refine(HB.out _).mono ?_;rintro e W3 ⟨rfl,rfl⟩;clear k0 k1 k2 k3 k4 k5 k6 k7 k8 k9 k10 k11 k12 k13 c0 c1 c2 c3 c4
 cases t1 with
 | false=>
  have HX:Hid (ans=false):=by unfold Hid;rw[HV.out];simp
  go_wp2_with fail
  go_ret;exact⟨aB HX.out.symm,HZ.out⟩
 | true=>
 obtain⟨k0,k1,k2,k3,k4,k5,k6,k7,k8,k9,k10,k11,k12,k13⟩:=HK.out.c14;obtain⟨c0,c1,c2,c3,c4⟩:=HQ.out.c5;go_wp2_with fail
 refine(HA.out _).mono ?_;rintro e W3 ⟨rfl,rfl⟩;clear k0 k1 k2 k3 k4 k5 k6 k7 k8 k9 k10 k11 k12 k13 c0 c1 c2 c3 c4
 cases t2 with
 | false=>
  have HX:Hid (ans=false):=by unfold Hid;rw[HV.out];simp
  go_wp2_with fail
  go_ret;exact⟨aB HX.out.symm,HZ.out⟩
 | true=>
 obtain⟨k0,k1,k2,k3,k4,k5,k6,k7,k8,k9,k10,k11,k12,k13⟩:=HK.out.c14;obtain⟨c0,c1,c2,c3,c4⟩:=HQ.out.c5;go_wp2_with fail
 refine(HW.out _).mono ?_;rintro e W3 ⟨rfl,rfl⟩;clear k0 k1 k2 k3 k4 k5 k6 k7 k8 k9 k10 k11 k12 k13 c0 c1 c2 c3 c4
 cases t3 with
 | false=>
  have HX:Hid (ans=false):=by unfold Hid;rw[HV.out];simp
  go_wp2_with fail
  go_ret;exact⟨aB HX.out.symm,HZ.out⟩
 | true=>
 obtain⟨k0,k1,k2,k3,k4,k5,k6,k7,k8,k9,k10,k11,k12,k13⟩:=HK.out.c14;obtain⟨c0,c1,c2,c3,c4⟩:=HQ.out.c5;go_wp2_with fail
 refine(HC.out _ HZ.out).mono ?_;rintro e W4 ⟨rfl,qq⟩;have HKn:Hid _:=HK.out.kept (by simp) qq;have HQn:Hid _:=HQ.out.kept (by simp[eG]) qq;have HZn:Hid _:=HZ.out.trans (qq.mono HZ.out.size);clear k0 k1 k2 k3 k4 k5 k6 k7 k8 k9 k10 k11 k12 k13 c0 c1 c2 c3 c4;clear HK HQ HZ qq;have HK:Hid _:=HKn;have HQ:Hid _:=HQn;have HZ:Hid _:=HZn;clear HKn HQn HZn
 cases t4 with
 | false=>
  have HX:Hid (ans=false):=by unfold Hid;rw[HV.out];simp
  go_wp2_with fail
  go_ret;exact⟨aB HX.out.symm,HZ.out⟩
 | true=>
 obtain⟨k0,k1,k2,k3,k4,k5,k6,k7,k8,k9,k10,k11,k12,k13⟩:=HK.out.c14;obtain⟨c0,c1,c2,c3,c4⟩:=HQ.out.c5;go_wp2_with fail
 refine(HN.out _).mono ?_;rintro e W5 ⟨rfl,qq⟩;have HKn:Hid _:=HK.out.kept (by simp) qq;have HQn:Hid _:=HQ.out.kept (by simp[eG]) qq;have HZn:Hid _:=HZ.out.trans (qq.mono HZ.out.size);clear k0 k1 k2 k3 k4 k5 k6 k7 k8 k9 k10 k11 k12 k13 c0 c1 c2 c3 c4;clear HK HQ HZ qq;have HK:Hid _:=HKn;have HQ:Hid _:=HQn;have HZ:Hid _:=HZn;clear HKn HQn HZn
 cases t5 with
 | false=>
  have HX:Hid (ans=false):=by unfold Hid;rw[HV.out];simp
  go_wp2_with fail
  go_ret;exact⟨aB HX.out.symm,HZ.out⟩
 | true=>
 cases bh with
 | true=>
  have HX:Hid (ans=false):=by unfold Hid;rw[HV.out];simp
  go_wp2_with fail
  go_ret;exact⟨aB HX.out.symm,HZ.out⟩
 | false=>
 cases bl with
 | true=>
  have HX:Hid (ans=false):=by unfold Hid;rw[HV.out];simp
  go_wp2_with fail
  go_ret;exact⟨aB HX.out.symm,HZ.out⟩
 | false=>
 obtain⟨k0,k1,k2,k3,k4,k5,k6,k7,k8,k9,k10,k11,k12,k13⟩:=HK.out.c14;obtain⟨c0,c1,c2,c3,c4⟩:=HQ.out.c5;by_cases ho:ot.toList=q.out.toList
 case neg=>
  have ho1:(ot.toList==q.out.toList)=false:=by simp[ho]
  have HX:Hid (ans=false):=by unfold Hid;rw[HV.out,TR ho];simp
  clear ho;go_wp2_with fail
  go_ret;exact⟨aB HX.out.symm,HZ.out⟩
 have ho1:(ot.toList==q.out.toList)=true:=by simp[ho]
 have HX:Hid (ans=t9):=by unfold Hid;rw[HV.out,TT ho];rfl
 clear ho;go_wp2_with fail
 refine(HS.out _ HZ.out).mono ?_;rintro e W6 ⟨rfl,qq⟩;have HKn:Hid _:=HK.out.kept (by simp) qq;have HQn:Hid _:=HQ.out.kept (by simp[eG]) qq;have HZn:Hid _:=HZ.out.trans (qq.mono HZ.out.size);clear k0 k1 k2 k3 k4 k5 k6 k7 k8 k9 k10 k11 k12 k13 c0 c1 c2 c3 c4;clear HK HQ HZ qq;have HK:Hid _:=HKn;have HQ:Hid _:=HQn;have HZ:Hid _:=HZn;clear HKn HQn HZn;go_wp2_with fail
 go_ret;exact⟨aB HX.out.symm,HZ.out⟩
end Go.Proofs.YtdkepkaflielhaaGreatDoor
